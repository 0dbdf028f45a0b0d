import PyProof.Rows.All
import Wide.All
import OpenK.AllK
import Wide.FinOn
import Lean
import PyProof.EqAt
import PyProof.EqKinds
import PyProof.TupleCall
import PyProof.NeKinds
import PyProof.SliceMore
import PyProof.AutoListH
import PyProof.WalksEnum
import PyProof.EnumMake
import PyProof.ZipIter
import PyProof.ConsumeS
import PyProof.WalkInts
import PyProof.ListRange
import PyProof.Rows.SortRev
import PyProof.Rows.SortWalk
import PyProof.Rows.CallKwBuiltin
import PyProof.Rows.RuleN_abs
import PyProof.Rows.FactsN_abs
import Open.Boot
import Open.Tree
import Open.FastT9
import PyProof.Rows.SetFrom
import PyProof.CollectWalk
import PyProof.ForAny
import PyProof.EnumIter
import KE.KRevIter
import KE.KSortTup
import KE.KLam
import KE.KNestM
import KE.KIntText
import PyProof.StrReplace2
import PyProof.StrBlockH
import PyProof.StrWalks
import PyProof.DictStraight
import PyProof.Rows.TupMore
import PyProof.TupleIter
import KE.KSortAsk
import KE.KUnpack
import PyProof.StrBlock
import PySem.Challenge.RW_groupcost_k90_answers_written
noncomputable section
set_option compiler.extract_closed false
set_option Elab.async false
set_option linter.all false
set_option maxRecDepth 100000
def aRv := @Option.some.inj
def aRw := @List.getD_eq_getElem?_getD
def aRx := @List.getElem?_eq_getElem
def aRy := @List.mem_cons_of_mem
def aRz := @List.mem_cons_self
def aS0 := @List.getElem?_eq_some_iff
def aS1 := @List.all_eq_true
def aS2 := @List.mem_range
def aS3 := @Nat.lt_of_lt_of_le
def aS4 := @List.size_toArray
def aS5 := @List.getElem?_set_ne
def aS6 := @PySem.Heap.get?_push_of_some
def aS7 := @List.mem_cons
def aSb := @Bool.and_eq_true
def aSc := @Bool.and_eq_true_iff
def aSd := @Bool.eq_iff_iff
def aSe := @Bool.false_eq_true
def aSf := @Bool.false_ne_true
def aSg := @Bool.not_true
def aSh := @PySem.Heap.get?_push_size
def aSi := @PySem.Heap.lt_size
def aSj := @PySem.Heap.size_push
def aSn := @List.all_cons
def aSo := @List.append_assoc
def aSp := @List.append_nil
def aSs := @List.drop_eq_getElem_cons
def aSt := @List.drop_eq_nil_of_le
def aSw := @List.filterMap_cons
def aSy := @List.getElem?_append_left
def aT0 := @List.getElem?_map
def aT1 := @List.getElem?_set_self
def aT3 := @List.length_append
def aT4 := @List.length_cons
def aT5 := @List.length_map
def aT6 := @List.length_nil
def aT7 := @List.length_replicate
def aT9 := @List.length_singleton
def aTa := @List.lookup_cons
def aTc := @List.map_cons
def aTd := @List.map_map
def aTe := @List.map_nil
def aTf := @List.mem_append
def aTg := @List.mem_append_left
def aTh := @List.mem_append_right
def aTi := @List.mem_filterMap
def aTj := @List.mem_map
def aTk := @List.mem_nil_iff
def aTl := @List.mem_singleton
def aTm := @List.nil_append
def aTn := @List.not_mem_nil
def aTp := @List.replicate_succ
def aTr := @Nat.le_of_lt
def aTs := @Nat.le_refl
def aTt := @Nat.le_trans
def aTu := @Nat.lt_irrefl
def aTw := @Nat.lt_succ_self
def aTx := @Nat.lt_trans
def aTy := @Nat.mul_le_mul
def aTz := @Nat.ne_of_gt
def aU0 := @Nat.ne_of_lt
def aU1 := @Nat.not_lt
def aU3 := @Nat.zero_add
def aU4 := @Nat.zero_le
def aU5 := @Option.bind_none
def aU6 := @PySem.W.kia_one
def aU7 := @PySem.W.mg_none_of
def aU8 := @PySem.W.mg_of
local macro_rules | `(tactic| trivial)=>`(tactic| first | exact Or.inl rfl | exact Or.inr rfl | exact Or.inr (Or.inl rfl) | exact Or.inr (Or.inr rfl))
set_option hygiene false
local macro_rules
 |`(tactic|rw[0])=>`(tactic|rintro σ H Q ⟨Ex,ρ,M,t,S,hf,q⟩)
 |`(tactic|rw[1])=>`(tactic|intro X hP hw hK hc i pins s σ H E I hf st hg)
 |`(tactic|rw[2])=>`(tactic|intro pins s σ H Q I h)
 |`(tactic|rw[3])=>`(tactic|refine⟨Ex,ρ,M,x,S,hx,fun vx H1 s1 rx=>⟨Ex,ρ,M,y,S.grow s1,hy,fun vy H2 s2 ry=>?_⟩⟩)
 |`(tactic|rw[4])=>`(tactic|cases (aRv hf))
 |`(tactic|rw[5])=>`(tactic|obtain⟨ts,hts,hf⟩:=bind_some hf)
 |`(tactic|rw[6])=>`(tactic|refine⟨Ex,ρ,M,ts,S,hts,fun vs H1 s1 r1=>?_⟩)
 |`(tactic|rw[7])=>`(tactic|intro pins s σ H x y v u Q I rx ry h)
 |`(tactic|rw[8])=>`(tactic|obtain⟨f0,f1,f2,f3,f4,f5⟩:=hf it (by simp))
 |`(tactic|rw[9])=>`(tactic|obtain⟨x,hx,hf⟩:=bind_some hf)
 |`(tactic|rw[10])=>`(tactic|obtain⟨cl,hcl⟩:∃ cl,dH X.env.cells scope.names []=some cl:=qH fun n hn=>I.ok.has n (S.frees _ hn rfl))
 |`(tactic|rw[11])=>`(tactic|refine aU9 (tZ (i1.extBut s1.extBut d04.1) (p1.extBut s1.extBut o1.a4) hx fun g2 q1 s2=>aUa ?_))
local macro_rules
 |`(tactic|rw[12])=>`(tactic|refine aU9 ?_)
 |`(tactic|rw[13])=>`(tactic|obtain⟨y,hy,hf⟩:=bind_some hf)
 |`(tactic|rw[14])=>`(tactic|rintro D σ H ⟨Ex,ρ,M,o,S,hr,q⟩)
 |`(tactic|rw[15])=>`(tactic|have hu:=hr.units)
 |`(tactic|rw[16])=>`(tactic|intro pins s σ H xs us Q I r h)
 |`(tactic|rw[17])=>`(tactic|obtain⟨t,rfl⟩:=rx)
 |`(tactic|rw[18])=>`(tactic|obtain⟨u,hu,hf⟩:=bind_some hf)
 |`(tactic|rw[19])=>`(tactic|show wpAny _ _ (Builtin.SmallTypes.ownedTupleIsFree (.ref (n+4)) >>= _) _ _ _)
 |`(tactic|rw[20])=>`(tactic|rintro D σ H ⟨Exl,ρ,M,o,S,hv,hr,q⟩)
 |`(tactic|rw[21])=>`(tactic|exact gD gU (ra _ (by simp[RC0])))
 |`(tactic|rw[22])=>`(tactic|simp only[List.forIn_cons,List.forIn_nil,List.zipIdx_cons,List.zipIdx_nil])
 |`(tactic|rw[23])=>`(tactic|exact⟨o,e,fun v z=>by rw[d] at z;cases z⟩)
local macro_rules
 |`(tactic|rw[24])=>`(tactic|intro pins s σ H D I h)
 |`(tactic|rw[25])=>`(tactic|obtain⟨y,rfl,ry⟩:=eM r1)
 |`(tactic|rw[26])=>`(tactic|show wpAny _ _ (Builtin.SmallTypes.nextOf (.ref n) >>= _) _ _ _)
 |`(tactic|rw[27])=>`(tactic|cases (aRv hr))
 |`(tactic|rw[28])=>`(tactic|subst hP hw hK)
 |`(tactic|rw[29])=>`(tactic|exact I1.fpOk (aTs _) (I1.hok.fresh (aTs _)))
 |`(tactic|rw[30])=>`(tactic|simp only[aSb,aUh,and_assoc] at hfl)
 |`(tactic|rw[31])=>`(tactic|obtain⟨u,rfl,ru⟩:=rv.one)
 |`(tactic|rw[32])=>`(tactic|by_cases hk:(k == NameKind.cell)=true)
 |`(tactic|rw[33])=>`(tactic|obtain⟨o',e1⟩:=I.base.there b o e hx)
 |`(tactic|rw[34])=>`(tactic|obtain⟨t',rfl⟩:=ry)
 |`(tactic|rw[35])=>`(tactic|obtain⟨o1,h1,hr⟩:=bind_some hr)
local macro_rules
 |`(tactic|rw[36])=>`(tactic|obtain⟨g,hg,ap⟩:=S.mu)
 |`(tactic|rw[37])=>`(tactic|unfold Builtin.SmallTypes.ownedTupleIsFree)
 |`(tactic|rw[38])=>`(tactic|(have old:∀ b o,s2.heap.get? b=some o->(pushCells (Hq.push { cls:=.type "dict",data:=.dict #[] }) scope.names).get? b=some o:=fun b o e=>aV3 _ _ b o (aS6 _ (hH2 ▸ aS6 _ e));have hacc:(pushCells (Hq.push { cls:=.type "dict",data:=.dict #[] }) scope.names).get? s2.heap.objs.size=some { cls:=.type "list",data:=.seq ([]:List Value).toArray 0 }:=aV3 _ _ _ _ (aS6 _ (hH2 ▸ aSh _ rfl))))
 |`(tactic|rw[39])=>`(tactic|(have t2:Tw g2 (n+3) a b:=s2.extBut _ _ d03.2 (s1.extBut _ _ d34.1 to);refine aU9 (aUo t2 rfl (aU9 (rZ t2 fun g3 t3 s3=>?_)))))
 |`(tactic|rw[40])=>`(tactic|(refine aU9 (wpAny_letGo (aUa (aU9 (aU9 (aUz ?_)))));show wpAny _ _ (Builtin.SmallTypes.nextOf (.ref (n+1)) >>= _) _ _ _))
 |`(tactic|rw[41])=>`(tactic|(show wpAny _ _ (field (.ref (n+4)) 3 >>= _) _ _ _;refine aU9 (aUl hz rfl (x:=.ref (n+2)) rfl (aU9 (aUo ti rfl ?_)))))
 |`(tactic|rw[42])=>`(tactic|(refine aU9 (wpAny_rule (aU9 (aUl hz rfl (x:=.ref (n+3)) rfl ?_)));refine aU9 (aUn hz (by simp) fun g1 z1 s1=>?_)))
 |`(tactic|rw[43])=>`(tactic|(have I2:Inv X pins σ (upd H s.heap.objs.size (.tup [x,y])) { s with heap:=g',toks:=s.toks }:=BX (fs:=[n,n+1,n+2,n+3,n+4]) I (aTs _) (fun b o hb q=>up (rB hb).a4 (kp b o (rB hb) q)) hf new;have o3:Of2 n (n+2):=⟨(bL (by lia)).2,(bL (by lia)).2,(bL (by lia)).1,(bL (by lia)).1⟩))
 |`(tactic|rw[44])=>`(tactic|(show wpAny _ _ (field (.ref (n+4)) 2 >>= _) _ _ _;refine aU9 (aUl hz rfl (x:=.bool false) rfl ?_)))
 |`(tactic|rw[45])=>`(tactic|(obtain⟨xs,hx,hz,m',hm,w9⟩:=q8;refine thn (wQ _ s8 σ6 H8 (.ref s2.heap.objs.size) [v] (.ref s2.heap.objs.size) [xv] (fun _ H9=>H9=upd H8 s2.heap.objs.size (.lst (xs++[v]))) I8 rfl (.cons r8 .nil) ⟨_,xs,v,rfl,rfl,hx,hz,rfl⟩) fun _ s9 ⟨_,H9,I9,_,e9⟩=>?_))
 |`(tactic|rw[46])=>`(tactic|(have z4:Z2 g4 n .ellipsis:=s4 _ _ d14.2 z3;exact aUn z4 (by simp) fun g5 _ s5=>hE g5 e (fun c o f q=>s5.extBut _ _ f.a4 (s4 _ _ f.a1 (s3.extBut _ _ f.a3 (s2.extBut _ _ f.a0 (s1.extBut _ _ f.a4 q))))) ⟨oe,s5.extBut _ _ (mX h1 z4 (by rw[h2];simp)) h1,h2⟩))
 |`(tactic|rw[47])=>`(tactic|(refine aU9 (wpAny_callSpecial?_slot (name:=("__next__":Str)) hit.typeIs F.slot_tuple_iterator_next (aUu F.slot_tuple_iterator_next hit.typeIs F.entry_tuple_iterator_next ?_ (F.args_tuple_iterator_next_1 _)));show wpAny _ _ (field (.ref it) 0 >>= _) _ _ s))
local macro_rules
 |`(tactic|rw[48])=>`(tactic|(rintro s₃ rfl;have I0:Inv (cxB X scope N' (cellsFrom (Hq.objs.size+1) scope.names cl) Hq.objs.size s2 H2 fp) [] (cJ src σ) (upd H2 s2.heap.objs.size (.lst [])) { s2 with heap:=h₁ }:=MQ (t4:=s2.toks) S I2 hcl f2 ho hCl old hacc hns₁ hown))
 |`(tactic|rw[49])=>`(tactic|(obtain⟨hz,hTI,⟨u,v,hTO⟩,⟨o1,e1,r1⟩,⟨o2,e2,r2⟩⟩:=st;exact⟨kp (n+4) (by simp) _ hz,kp (n+2) (by simp) _ hTI,⟨u,v,kp (n+3) (by simp) _ hTO⟩,⟨o1,kp n (by simp) _ e1,r1⟩,⟨o2,kp (n+1) (by simp) _ e2,r2⟩⟩))
 |`(tactic|rw[50])=>`(tactic|(have z2:Z2 g2 n .ellipsis:=s2 _ _ d04.2 z1;exact aUn z2 (by simp) fun g3 _ s3=>hE g3 e (fun c o f q=>s3.extBut _ _ f.a4 (s2 _ _ f.a0 (s1.extBut _ _ f.a4 q))) ⟨oe,s3.extBut _ _ (mX h1 z2 (by rw[h2];simp)) h1,h2⟩))
 |`(tactic|rw[51])=>`(tactic|(have up:∀ c o,c≠n+4->g7.get? c=some o->g10.get? c=some o:=fun c o f e=>s10.extBut _ _ f (s9.extBut _ _ f (aS6 _ e));have tn:Tw g10 g7.objs.size x y:=s10.extBut _ _ (aTz zl) (s9.extBut _ _ (aTz zl) (aSh _ rfl))))
 |`(tactic|rw[52])=>`(tactic|(refine⟨.ref s.heap.objs.size,_,I.laid (fun b u e=>aS6 _ e) (aTs _) ?_,rfl,q'⟩;exact⟨(show 3<=sizeLine by decide),_,.cons ⟨_,rfl⟩ (.cons ⟨_,rfl⟩ (.cons ⟨_,rfl⟩ .nil)),_,aSh _ rfl,rfl,_,rfl⟩))
 |`(tactic|rw[53])=>`(tactic|(refine codeAny_loop rfl I (fun n s hI => ?_) n h;show wpAny _ A ((compTurn (.ListComp elt [⟨target, iter, ifs, 0⟩] scope pos) 0 it acc env).onRaise (fun x => do noteFrame x env; theTreesLotGoes x)) _ _ s))
 |`(tactic|rw[54])=>`(tactic|(refine I''.turned (t':=s''.toks) (it:=C) (fun b o hb e=>hsb.extBut b o hb e) hCn (Ne.symm hLC) (.inr (aTt I2.sz hC)) cl' fun p hp z=>?_;exact absurd (aS3 (aSi (I2.pin p hp).1) (by rw[z];exact hC)) (aTu _)))
 |`(tactic|rw[55])=>`(tactic|(obtain⟨o,e,c,d⟩:=id st';exact⟨_,rfl,tO (s:={ s with heap:=h',toks:=s.toks+1 }) e c d (by decide) ⟨.str ⟨#[x.cps[i]]⟩,H,I1,⟨_,rfl⟩,⟨rfl,x.cps[i],hx,rfl⟩,st',fun b hb=>(hf b hb).1⟩⟩))
 |`(tactic|rw[56])=>`(tactic|(obtain⟨d,e,hf⟩:=bind_some hf;refine⟨Ex,ρ,M,d,S,e,fun H1 s1=>?_⟩))
 |`(tactic|rw[57])=>`(tactic|(refine aU9 (aUk h₁ (fun _ s₁' h₁' => ?_) fun _ _ h' => h'.elim);refine aU9 (aUk h₁' (fun _ s₂ h₂ => aU9 (aUk h₂ (fun ok s₃ h₃ => ?_) fun _ _ h' => h'.elim)) fun _ _ h' => h'.elim)))
 |`(tactic|rw[58])=>`(tactic|(refine hR _ _ H3 s4 m (aTs _) (aTr hCl) hm I4.free ?_ qn;exact I2.call' (ch:=fp) I4.os I4.base I4.hok I4.bare fun b hb=>⟨(f2 b hb).2.2.2.1,(f2 b hb).2.1,(f2 b hb).2.2.2.2.1,(f2 b hb).2.2.2.2.2⟩))
 |`(tactic|rw[59])=>`(tactic|(have d13:=@bL (n+1) (n+3) (by lia);have d14:=@bL (n+1) (n+4) (by lia)))
local macro_rules
 |`(tactic|rw[60])=>`(tactic|(have i0:=jV (.str k) ar;have a0:kW 0 (PG ws)=some (.lst (tW ws)):=rfl))
 |`(tactic|rw[61])=>`(tactic|(have up:∀ {c:Addr} {o},c≠n+4->g.get? c=some o->g'.get? c=some o:=fun q e=>sb.extBut _ _ q e;have gT:g'.get? s.heap.objs.size=some { cls:=.type "tuple",data:=.seq #[u,u'] }:=up (aTz lt) a6))
 |`(tactic|rw[62])=>`(tactic|(have hT:s.TypeIs (.ref (n+4)) "zip" := ⟨_,hz,rfl⟩;unfold pyNext))
 |`(tactic|rw[63])=>`(tactic|(refine⟨.ref D,H',?_,rfl,q⟩;refine I'.turned (t':=s'.toks) (it:=C) (fun b o hb e=>hsb.extBut b o hb e) hCn (aTz (aS3 I2.lt hC)) (.inr (aTt I2.sz hC)) (fun x c e z=>?_) fun p hp z=>?_))
 |`(tactic|rw[64])=>`(tactic|(obtain⟨e,he,hx⟩:=aTi.mp hb;exact aTi.mpr ⟨e,aRy _ he,hx⟩))
 |`(tactic|rw[65])=>`(tactic|(refine⟨m',hm,i+1,σ8,H8,I8.unpinned,Tn.keep _ _ _ st5 fun b hb o e=>(I8.pin (b,o) (aTh _ (aTh _ (qX hb e)))).1,fun b hb=>?_,w8⟩;obtain⟨o,e,d⟩:=Tn.obj _ _ st5 b hb))
 |`(tactic|rw[66])=>`(tactic|(have hns₁:(pushCells (Hq.push { cls:=.type "dict",data:=.dict #[] }) scope.names).Ns Hq.objs.size (fun _=>none):=(Heap.Ns.new Hq (.type "dict")).keeps (aV3 _ _);rw[38]))
 |`(tactic|rw[67])=>`(tactic|(have d01:=@bL n (n+1) (by lia);have d03:=@bL n (n+3) (by lia)))
 |`(tactic|rw[68])=>`(tactic|(refine aV5 (use:=none) rfl hs (vU hcl) S.kind S.names (thn (hi pins s σ H _ I h) fun v s1 h1=>thn h1 fun itv s2 h2=>?_);obtain⟨it,fp,tn,J,H2,e,I2,Tn,st2,f2,hw⟩:=h2))
 |`(tactic|rw[69])=>`(tactic|(obtain⟨W,⟨m0,w0⟩,turn⟩:=hw s2.heap.objs.size (I2.hok.fresh (aTs _));obtain⟨bg,bi,be⟩:=hb (cellsFrom (Hq.objs.size+1) scope.names cl) Hq.objs.size s2 H2 fp))
 |`(tactic|rw[70])=>`(tactic|(have hself:=Tn.self X.A 0 { s2 with heap:=h₁ };exact codeAny_compStart_list (loop _ rfl) (hself _ _ (Tn.keep _ _ _ st2 (fun b _ o e=>old b o e)) (loop _ rfl))))
 |`(tactic|rw[71])=>`(tactic|(refine thn (bg _ s5 σ3 H5 x u _ I5' r5 (step x H5 y5)) fun _ s6 ⟨σ6,H6,I6,q6⟩=>?_;refine thn (bi _ s6 σ6 H6 _ I6 q6) fun ok s7 ⟨H7,I7,q7⟩=>?_))
local macro_rules
 |`(tactic|rw[72])=>`(tactic|(have sn:=cW hT (.tup [x,y]);exact⟨sn,T,[x,y],rfl,.inl (.inl bY),x,[y],rfl,vR (fun z=>by cases z) sn rx,y,[],rfl,vR (fun z=>by cases z) sn ry,rfl⟩))
 |`(tactic|rw[73])=>`(tactic|(rw[37];refine aU9 (aUl hz rfl (x:=.none) rfl (aUa ?_))))
 |`(tactic|rw[74])=>`(tactic|(show wpAny _ X.A (assign (.Name x pos') X.env (.ref D')) _ _ _;refine wpAny_assign_Name (GF I' hN hiN hx (v:=.ref D') rfl (fun s'' I'' hsb=>?_) hf)))
 |`(tactic|rw[75])=>`(tactic|(have I1:Inv X pins σ H { s with heap:=h' }:=I.turned (t':=s.toks) (fun b o hb e=>(sb.2 b hb).trans e) f0 f1 f3 f4 f5;obtain⟨o,e,c,d⟩:=id st'))
 |`(tactic|rw[76])=>`(tactic|(rw[27];exact fun v H' S' rv _=>q _ M H' (S'.set hfl.1 (.inl hfl.2.1) (rv.weak fun b z=>z.le (by lia))) (by rw[aS5 (Ne.symm hfl.2.2.2)];exact hv)))
 |`(tactic|rw[77])=>`(tactic|(have I1:Inv X pins σ H { s with heap:=h',toks:=s.toks+1 }:=I.turned (t':=s.toks+1) (fun b o hb e=>(sb.2 b hb).trans e) f0 f1 f3 f4 f5;rw[55]))
set_option hygiene true
namespace L2
open PySem PySem.Spec PyProof.Rows
def _root_.aU9:=@wpAny_bind
def _root_.aUa:=@wpAny_pure
def _root_.aUb:=@if_true
def _root_.aUc:=@if_pos
def _root_.aUd:=@if_neg
def _root_.aUe:=@of_decide_eq_true
def _root_.aUf:=@beq_self_eq_true
def _root_.aUg:=@if_false
def _root_.aUh:=@decide_eq_true_eq
def _root_.aUi:=@decide_eq_false
def _root_.aUj:=@decide_eq_true
def _root_.aUk:=@wpAny_mono
def _root_.aUl:=@wpAny_field
def _root_.aUm:=@sizeLine_eq
def _root_.aUn:=@wpAny_setField_rec
def _root_.aUo:=@wpAny_seqItems
def _root_.aUp:=@or_false
def _root_.aUq:=@beq_eq_false_iff_ne
def _root_.aUr:=@wpAny_ite_false
def _root_.aUs:=@wpAny_pyIter_list
def _root_.aUt:=@wpAny_holding
def _root_.aUu:=@wpAny_call_entry
def _root_.aUv:=@typeIs_str
def _root_.aUw:=@codeAny_call_builtin
def _root_.aUx:=@beq_iff_eq
def _root_.aUy:=@wpAny_truthy_bool
def _root_.aUz:=@wpAny_onRaise
def _root_.aV0:=@wpAny_Call_Name_kw
def _root_.aV1:=@wpAny_execs_nil
def _root_.aV2:=@wpAny_passesOwn
def _root_.aV3:=@pushCells_keeps
def _root_.aV4:=@call_meets
def _root_.aV5:=@wpAny_comprehension_free
def _root_.aV6:=@typeIs_int
def _root_.aV7:=@codeAny_builtin
def _root_.aV8:=@codeAny_mono
def _root_.aV9:=@wpAny_standAt
def _root_.aVa:=@wpAny_attempt
def _root_.aVb:=@wpAny_pyIter_tuple
abbrev aVi(x:Str):Prop:=(x == ("__debug__":Str))=false
abbrev Key:=Sum Int Str
noncomputable def MY:Key->Value->Bool
 | .inl k,v=>Value.isInt k v
 | .inr x,v=>Value.isStrOf x v
noncomputable def aDj(w:World):Key->Int
 | .inl k=>hashInt k
 | .inr x=>hashStr w x
theorem kT:∀ {k:Key}{v:Value},MY k v=true->(∃ i t,k=Sum.inl i/\v=Value.int i t)\/(∃ x t,k=Sum.inr x/\v=Value.str x t)
 | .inl i,v,h=>by
  obtain⟨t,e⟩:=Value.isInt_shape (k:=i) (v:=v) h;exact .inl ⟨i,t,rfl,e⟩
 | .inr x,v,h=>by
  obtain⟨t,e⟩:=Value.isStrOf_shape (x:=x) (v:=v) h;exact .inr ⟨x,t,rfl,e⟩
def aDk(a b:Int):decide ((Sum.inl a:Key)=Sum.inl b)=(a == b):=by
 by_cases e:a=b
 ·subst e;simp
 ·have h:¬ (Sum.inl a:Key)=Sum.inl b:=fun q=>e (Sum.inl.inj q)
  rw[aUi h];exact (beq_eq_false_iff_ne.mpr e).symm
def aDn(a b:Str):decide ((Sum.inr a:Key)=Sum.inr b)=decide (a=b):=by
 by_cases e:a=b
 ·subst e;simp
 ·have h:¬ (Sum.inr a:Key)=Sum.inr b:=fun q=>e (Sum.inr.inj q)
  rw[aUi h,aUi e]
def aDl(a:Int)(b:Str):decide ((Sum.inl a:Key)=Sum.inr b)=false:=aUi (fun q=>nomatch q)
def aDm(a:Str)(b:Int):decide ((Sum.inr a:Key)=Sum.inl b)=false:=aUi (fun q=>nomatch q)
def tY(prog:Program)(w:World):PySem.KeyKind prog w Key where
 is:=MY
 hash:=aDj w
 inj:=fun v a b ha hb=>by
  rcases kT ha with ⟨i,t,rfl,rfl⟩ | ⟨x,t,rfl,rfl⟩
  ·rcases kT hb with ⟨j,u,rfl,e⟩ | ⟨y,u,rfl,e⟩
   ·injection e with e1 _;rw[e1]
   ·exact nomatch e
  ·rcases kT hb with ⟨j,u,rfl,e⟩ | ⟨y,u,rfl,e⟩
   ·exact nomatch e
   ·injection e with e1 _;rw[e1]
 byValue:=fun k v h=>by
  rcases kT h with ⟨i,t,rfl,rfl⟩ | ⟨x,t,rfl,rfl⟩<;>rfl
 pyHash:=fun hv h=>by
  rcases kT hv with ⟨i,t,rfl,rfl⟩ | ⟨x,t,rfl,rfl⟩
  ·exact wpAny_pyHash_int h
  ·exact wpAny_pyHash_str h
 eqBool:=fun hu hv h=>by
  rcases kT hu with ⟨i,t,rfl,rfl⟩ | ⟨x,t,rfl,rfl⟩
  ·rcases kT hv with ⟨j,u,rfl,rfl⟩ | ⟨y,u,rfl,rfl⟩
   ·rw[aDk] at h;exact wpAny_eqBool_int h
   ·rw[aDl] at h;exact SeqAt.EqAt.int_str i t y u _ _ _ _ h
  ·rcases kT hv with ⟨j,u,rfl,rfl⟩ | ⟨y,u,rfl,rfl⟩
   ·rw[aDm] at h;exact SeqAt.EqAt.str_int x t j u _ _ _ _ h
   ·rw[aDn] at h;exact wpAny_eqBool_str h
 «strs»:=fun k x t v h=>by
  rcases kT h with ⟨i,u,rfl,e⟩ | ⟨y,u,rfl,e⟩
  ·exact nomatch e
  ·injection e with e1 _
   subst e1;cases v<;>rfl
inductive V where
 | non | bl (b:Bool) | int (i:Int) | str (x:Str) | byt (b:Array UInt8) | flt (b:UInt64) | ref (a:Addr) | ty (n:String)
 deriving DecidableEq
def bB:V->Value->Prop
 | .non,u=>u=Value.none
 | .bl b,u=>u=Value.bool b
 | .int i,u=>∃ t,u=Value.int i t
 | .str x,u=>∃ t,u=Value.str x t
 | .byt b,u=>∃ t,u=Value.bytes b t
 | .flt b,u=>∃ t,u=Value.float b t
 | .ref a,u=>u=Value.ref a
 | .ty n,u=>u=Value.type n
abbrev aQ:List V->List Value->Prop:=Paired bB
def aQ.length{xs:List V}{us:List Value}(r:aQ xs us):xs.length=us.length:=Paired.length r
theorem aQ.get:∀ {xs:List V}{us:List Value}{i:Nat}{x:V},aQ xs us->xs[i]?=some x->∃ u,us[i]?=some u/\bB x u
 | _,_,_,_,.nil,e=>by simp at e
 | _,_,0,_,.cons r _,e=>by simp at e;subst e;exact⟨_,rfl,r⟩
 | _,_,i+1,x,.cons _ t,e=>by
  obtain⟨u,h1,h2⟩:=aQ.get (i:=i) (x:=x) t (by simpa using e);exact⟨u,by simpa using h1,h2⟩
theorem aQ.append:∀ {xs ys:List V}{us ws:List Value},aQ xs us->aQ ys ws->aQ (xs++ys) (us++ws)
 | _,_,_,_,.nil,s=>s
 | _,_,_,_,.cons r t,s=>.cons r (aQ.append t s)
def aQ.none_of:∀ {xs:List V}{us:List Value}{i:Nat},aQ xs us->xs[i]?=none->us[i]?=none:=fun {xs us i} r e=>by
 have h1:=r.length;have h2:xs.length<=i:=List.getElem?_eq_none_iff.mp e;exact List.getElem?_eq_none_iff.mpr (by lia)
def mJ:Option V->Option Value->Prop
 | some v,some u=>bB v u
 | none,none=>True
 | _,_=>False
def KV{κ:Type}:List (κ × V)->List (κ × Value)->Prop:=Paired fun (p:κ × V) (q:κ × Value)=>p.1=q.1/\bB p.2 q.2
noncomputable def kV:Key->V
 | .inl i=>.int i
 | .inr x=>.str x
inductive HO where
 /-- a list -/
 | lst (xs : List V)
 /-- a tuple (never changes) -/
 | tup (xs : List V)
 /-- a dict whose keys are ints and texts; one whose keys are tuples of ints and texts (the empty one is both) -/
 | dK (kvs : List (Key × V)) | dT (kvs : List (List Key × V))
 /-- a set of ints: its members, its size -/
 | set (S : Int -> Bool) (n : Nat)
 /-- an instance of the class at C, its dict at dx, its attributes -/
 | ins (C dx : Addr) (fs : List (Str × V))
 /-- the dict of the instance at x -/
 | own (x : Addr)
 /-- the dict of an exception -/
 | xd (fs : List (Str × V))
 /-- a bound method, f of x -/
 | met (f x : Addr)
 /-- a range object lo, lo + 1, .. below hi -/
 | rng (lo hi : Int)
 /-- a thing that is known to the object (the script; a dict while a loop walks it): read, never written while it is so -/
 | frz (o : Obj) (u : HO)
 /-- a code object's table -/
 | tbl (ps : Array Value)
 /-- any other thing, by what is true of its one object (a def of one's own: SetO a S n := HO.ext fun h => ..) -/
 | ext (φ : Heap -> Prop)
 /-- a code object's table that may hold the code q of a lambda at pos, which is tracked as its own -/
 | tbc (pos : Pos) (q : Str)
abbrev Hp:=Addr->Option HO
noncomputable def upd(H:Hp)(a:Addr)(o:HO):Hp:=fun b=>if b=a then some o else H b
def bY{H:Hp}{a:Addr}{o:HO}:upd H a o a=some o:=by unfold upd;rw[aUc rfl]
def aW{H:Hp}{a b:Addr}{o:HO}(h:b≠a):upd H a o b=H b:=by unfold upd;rw[aUd h]
def eA{H:Hp}{a b:Addr}{o:HO}(h:H a=some o)(h':H b=none):a≠b:=by
 intro e;subst e;rw[h] at h';cases h'
section
variable (P:Program) (w:World)
def cO (H : Hp) (h : Heap) (a : Addr) : HO -> Prop
 | .lst xs => xs.length <= sizeLine /\ ∃ (its : List Value) (n : Nat), aQ xs its /\ h.get? a = some { cls := .type "list", data := .seq its.toArray n }
 | .tup xs => xs.length <= sizeLine /\ ∃ its : List Value, aQ xs its /\ IsTup h a its.toArray
 | .dK kvs => kvs.length <= sizeLine /\ (a == sysModules) = false /\ ∃ vs, KV kvs vs /\ h.DictOf (tY P w) a vs
 | .dT kvs => kvs.length <= sizeLine /\ (a == sysModules) = false /\ ∃ xs : List (List Key × Addr × Value),
   Paired (fun (p : List Key × V) (q : List Key × Addr × Value) => p.1 = q.1 /\ H q.2.1 = some (.tup (p.1.map kV)) /\ bB p.2 q.2.2) kvs xs /\
   ∃ o es ep, h.get? a = some o /\ o.ExactDict /\ o.data = .dict es ep /\ es.toList = xs.map (entryOfKey (tupleKind (tY P w))) /\ (xs.map (·.1)).Nodup
 | .set S n => h.SetOf (intKind P w) a S n
 | .ins C dx fs => H dx = some (.own a) /\ fs.length <= 1000 /\ dx ≠ a /\ h.get? a = some (PySem.W.instObj C dx) /\
   ∃ mA, h.Ns1 dx mA /\ (∀ f, mJ (fs.lookup f) (mA f)) /\ PySem.Within mA (fs.map (·.1))
 | .own _ => ∃ o, h.get? a = some o
 | .xd fs => ∃ mA, h.Ns1 a mA /\ ∀ f, mJ (fs.lookup f) (mA f)
 | .rng lo hi => ∃ t u v, h.get? a = some { cls := .type "range", data := .fields #[.int lo t, .int hi u, .int 1 v] }
 | .frz o u => h.get? a = some o /\ cO H h a u
 | .tbl ps => h.get? a = some { cls := .none, data := .fields ps }
 | .met f x => h.get? a = some (PySem.W.methodObj (.ref f) (.ref x))
 | .tbc pos q => ∃ ps : Array Value, h.get? a = some { cls := .none, data := .fields ps } /\ TriplesOk ps.toList /\ (codeAmong pos ps.toList = none \/ ∃ c oc vs t, codeAmong pos ps.toList = some (.ref c) /\ H c = some (.own a) /\ h.get? c = some oc /\ oc.data = .fields vs /\ vs[1]? = some (.str q t))
 | .ext φ => φ h /\ (∃ o, h.get? a = some o) /\ ∀ h1 h2 : Heap, φ h1 -> (∀ o, h1.get? a = some o -> h2.get? a = some o) -> φ h2
def HOk(H:Hp)(h:Heap):Prop:=∀ a o,H a=some o->cO P w H h a o
end
section
variable {P:Program}{w:World}{H H':Hp}{h h':Heap}{a:Addr}{o:HO}
def cO.lt(x:cO P w H h a o):a<h.objs.size:=by
 cases o with
 | lst xs=>obtain⟨_,_,_,_,e⟩:=x;exact aSi e
 | tup xs=>obtain⟨_,_,_,p⟩:=x;exact p.lt
 | dK kvs=>obtain⟨_,_,_,_,o,_,_,e,_⟩:=x;exact aSi e
 | dT kvs=>obtain⟨_,_,_,_,o,_,_,e,_⟩:=x;exact aSi e
 | set S n=>obtain⟨o,_,_,_,e,_⟩:=x;exact aSi e
 | ins C dx fs=>obtain⟨_,_,_,e,_⟩:=x;exact aSi e
 | own y=>obtain⟨_,e⟩:=x;exact aSi e
 | xd fs=>obtain⟨_,⟨_,_,_,e,_⟩,_⟩:=x;exact aSi e
 | rng lo hi=>obtain⟨_,_,_,e⟩:=x;exact aSi e
 | frz ob u=>obtain⟨e,_⟩:=x;exact aSi e
 | tbl ps=>exact aSi (show h.get? a=some _ from x)
 | met f y=>exact aSi (show h.get? a=some _ from x)
 | ext φ=>obtain⟨_,⟨_,e⟩,_⟩:=x;exact aSi e
 | tbc pos q=>obtain⟨_,e,_⟩:=x;exact aSi e
theorem Paired.mapP{α β:Type}{F G:α->β->Prop}:∀ {l₁:List α}{l₂:List β},Paired F l₁ l₂->(∀ a b,F a b->G a b)->Paired G l₁ l₂
 | _,_,.nil,_=>.nil
 | _,_,.cons r t,f=>.cons (f _ _ r) (Paired.mapP t f)
theorem cO.stay(x:cO P w H h a o)(k:∀ b u,(b=a\/H b=some (.own a))->h.get? b=some u->h'.get? b=some u)
  (ho:∀ b,H b=some (.own a)->H' b=some (.own a)) (ht:∀ b xs,H b=some (.tup xs)->H' b=some (.tup xs)):cO P w H' h' a o:=by
 induction o with
 | lst xs=>obtain⟨z,its,n,r,e⟩:=x;exact⟨z,its,n,r,k _ _ (.inl rfl) e⟩
 | tup xs=>obtain⟨z,its,r,ob,e,c⟩:=x;exact⟨z,its,r,ob,k _ _ (.inl rfl) e,c⟩
 | dK kvs=>obtain⟨z,y,vs,r,ob,es,ep,e,c⟩:=x;exact⟨z,y,vs,r,ob,es,ep,k _ _ (.inl rfl) e,c⟩
 | dT kvs=>
  obtain⟨z,y,xs,r,ob,es,ep,e,c⟩:=x;exact⟨z,y,xs,Paired.mapP r fun p q z=>⟨z.1,ht _ _ z.2.1,z.2.2⟩,ob,es,ep,k _ _ (.inl rfl) e,c⟩
 | set S n=>obtain⟨ob,es,ep,t,e,c⟩:=x;exact⟨ob,es,ep,t,k _ _ (.inl rfl) e,c⟩
 | ins C dx fs=>
  obtain⟨d,z,ne,e,mA,⟨od,es,ep,e2,c⟩,r⟩:=x;exact⟨ho _ d,z,ne,k _ _ (.inl rfl) e,mA,⟨od,es,ep,k _ _ (.inr d) e2,c⟩,r⟩
 | own y=>obtain⟨ob,e⟩:=x;exact⟨ob,k _ _ (.inl rfl) e⟩
 | xd fs=>obtain⟨mA,⟨od,es,ep,e,c⟩,r⟩:=x;exact⟨mA,⟨od,es,ep,k _ _ (.inl rfl) e,c⟩,r⟩
 | rng lo hi=>obtain⟨t,u,v,e⟩:=x;exact⟨t,u,v,k _ _ (.inl rfl) e⟩
 | frz ob u ih=>obtain⟨e,q⟩:=x;exact⟨k _ _ (.inl rfl) e,ih q⟩
 | tbl ps=>
  have e:h.get? a=some { cls:=.none,data:=.fields ps }:=x;show h'.get? a=some { cls:=.none,data:=.fields ps };exact k a _ (.inl rfl) e
 | met f y=>
  have e:h.get? a=some (PySem.W.methodObj (.ref f) (.ref y)):=x;show h'.get? a=some (PySem.W.methodObj (.ref f) (.ref y));exact k a _ (.inl rfl) e
 | ext φ=>obtain⟨p,⟨o,e⟩,st⟩:=x;exact⟨st _ _ p fun o q=>k _ _ (.inl rfl) q,⟨o,k _ _ (.inl rfl) e⟩,st⟩
 | tbc pos q=>
  obtain⟨ps,e,t,r⟩:=x;refine⟨ps,k _ _ (.inl rfl) e,t,?_⟩;rcases r with r | ⟨c,oc,vs,t,r1,r2,r3,r4,r5⟩
  ·exact .inl r
  ·exact .inr ⟨c,oc,vs,t,r1,ho _ r2,k _ _ (.inr r2) r3,r4,r5⟩
def HOk.lt(x:HOk P w H h)(e:H a=some o):a<h.objs.size:=(x a o e).lt
def HOk.fresh(x:HOk P w H h)(e:h.objs.size<=a):H a=none:=by
 cases q:H a with
 | none=>rfl
 | some u=>exact absurd (aS3 (x.lt q) e) (aTu _)
def HOk.kept(x:HOk P w H h)(k:∀ b u,h.get? b=some u->h'.get? b=some u):HOk P w H h':=fun a o e=>
 (x a o e).stay (fun b u _ q=>k b u q) (fun _ q=>q) fun _ _ q=>q
def HOk.laid(x:HOk P w H h)(k:∀ b u,h.get? b=some u->h'.get? b=some u)(hp:h.objs.size<=a)(new:cO P w (upd H a o) h' a o):HOk P w (upd H a o) h':=fun b u e=>by
 have hn:=x.fresh hp
 by_cases hb:b=a
 ·subst hb;rw[bY] at e;cases e;exact new
 ·rw[aW hb] at e
  exact (x b u e).stay (fun c v _ q=>k c v q) (fun c q=>by rw[aW (eA q hn)];exact q) fun c xs q=>by rw[aW (eA q hn)];exact q
end
def Rd(H:Hp)(a:Addr)(u:HO):Prop:=H a=some u\/∃ o,H a=some (.frz o u)
def Rd.ok{P:Program}{w:World}{H:Hp}{h:Heap}{a:Addr}{u:HO}(r:Rd H a u)(x:HOk P w H h):cO P w H h a u:=by
 rcases r with r | ⟨o,r⟩
 ·exact x a u r
 ·obtain⟨_,q⟩:=x a _ r
  exact q
def Mut:Option HO->Prop
 | some (.lst _)=>True
 | some (.dK _)=>True
 | some (.dT _)=>True
 | some (.set _ _)=>True
 | some (.ins _ _ _)=>True
 | some (.ext _)=>True
 | _=>False
section
variable {P:Program}{w:World}{H:Hp}{h h':Heap}{x e:Addr}{o':HO}
def HOk.write(ok:HOk P w H h)(mu:Mut (H x))(he:e=x\/H e=some (.own x))(k:∀ b u,b≠e->h.get? b=some u->h'.get? b=some u)(heo:∃ u,h'.get? e=some u)
  (new:cO P w (upd H x o') h' x o'):HOk P w (upd H x o') h':=fun b u q=>by
 have nown:∀ c y,H c=some (.own y)->c≠x:=fun c y r z=>by subst z;rw[r] at mu;exact mu
 have ntup:∀ c xs,H c=some (.tup xs)->c≠x:=fun c xs r z=>by subst z;rw[r] at mu;exact mu
 by_cases hb:b=x
 ·subst hb;rw[bY] at q;cases q;exact new
 ·rw[aW hb] at q
  by_cases hbe:b=e
  ·have q':H b=some (.own x):=by
    rcases he with z | z
    ·exact absurd (hbe.trans z) hb
    ·rw[hbe];exact z
   rw[q] at q';cases q';obtain⟨v,hv⟩:=heo;exact⟨v,by rw[hbe];exact hv⟩
  ·refine (ok b u q).stay (fun c v hc r=>k c v ?_ r) (fun c r=>by rw[aW (nown c b r)];exact r) fun c xs r=>by rw[aW (ntup c xs r)];exact r
   rcases hc with rfl | hc
   ·exact hbe
   ·rintro rfl
    rcases he with z | z
    ·exact nown c b hc z
    ·rw[hc] at z;cases z;exact hb rfl
end
structure Un(fs ex:List Addr)(H H':Hp)(h h':Heap):Prop where
 keep:∀ b o,h.get? b=some o->H b=none->b ∉ fs->b ∉ ex->h'.get? b=some o
 slot:∀ b o,h.get? b=some o->H b=none->b∈fs->b ∉ ex->∃ sl,h'.get? b=some { o with slots:=sl }
 free:∀ b o,h.get? b=some o->H b=none->b ∉ ex->H' b=none
 there:∀ b o,h.get? b=some o->b ∉ ex->∃ o',h'.get? b=some o'
 tups:∀ b xs,H b=some (.tup xs)->H' b=some (.tup xs)
 frzs:∀ b o u,H b=some (.frz o u)->H' b=some (.frz o u)
 tbls:∀ b ps,H b=some (.tbl ps)->∃ more,H' b=some (.tbl (ps++more))
section
variable {fs fs' ex ex':List Addr}{H H1 H2:Hp}{h h1 h2 h':Heap}{a x e:Addr}{o:HO}
def Un.any(u:Un fs ex H H1 h h1){b:Addr}{ob:Obj}(q:h.get? b=some ob)(n:H b=none)(hx:b ∉ ex):∃ sl,h1.get? b=some { ob with slots:=sl }:=by
 by_cases hb:b∈fs
 ·exact u.slot b ob q n hb hx
 ·exact⟨ob.slots,u.keep b ob q n hb hx⟩
def Un.kept(k:∀ b u,h.get? b=some u->h'.get? b=some u):Un fs ex H H h h':=
 ⟨fun b ob q _ _ _=>k b ob q,fun b ob q _ _ _=>⟨ob.slots,k b ob q⟩,fun _ _ _ n _=>n,fun b ob q _=>⟨ob,k b ob q⟩,fun _ _ q=>q,fun _ _ _ q=>q,fun _ ps q=>⟨#[],by rw[q];simp⟩⟩
def Un.refl:Un fs ex H H h h:=Un.kept fun _ _ q=>q
def Un.laid(k:∀ b u,h.get? b=some u->h'.get? b=some u)(hp:h.objs.size<=a)(hn:H a=none):Un fs ex H (upd H a o) h h' where
 keep:=fun b u q _ _ _=>k b u q
 slot:=fun b u q _ _ _=>⟨u.slots,k b u q⟩
 free:=fun b u q n _=>by rw[aW (aU0 (aS3 (aSi q) hp))];exact n
 there:=fun b u q _=>⟨u,k b u q⟩
 tups:=fun b xs q=>by rw[aW (eA q hn)];exact q
 frzs:=fun b u xs q=>by rw[aW (eA q hn)];exact q
 tbls:=fun b ps q=>⟨#[],by rw[aW (eA q hn),q];simp⟩
def Un.write(mu:Mut (H x))(he:e=x\/H e=some (.own x))(k:∀ b u,b≠e->h.get? b=some u->h'.get? b=some u)(heo:∃ u,h'.get? e=some u):Un fs ex H (upd H x o) h h':=by
 have hx:∀ b,H b=none->b≠x:=fun b n z=>by subst z;rw[n] at mu;exact mu
 have hb:∀ b,H b=none->b≠e:=fun b n z=>by
  subst z;rcases he with r | r
  ·exact hx b n r
  ·rw[n] at r;cases r
 have hm:∀ b u,H b=some u->¬ Mut (some u)->b≠x:=fun b u q nm z=>by subst z;rw[q] at mu;exact nm mu
 refine⟨fun b u q n _ _=>k b u (hb b n) q,fun b u q n _ _=>⟨u.slots,k b u (hb b n) q⟩,fun b u q n _=>by rw[aW (hx b n)];exact n,fun b u q _=>?_,
  fun b xs q=>by rw[aW (hm b _ q fun z=>z)];exact q,fun b u xs q=>by rw[aW (hm b _ q fun z=>z)];exact q,fun b ps q=>⟨#[],by rw[aW (hm b _ q fun z=>z),q];simp⟩⟩
 by_cases hbe:b=e
 ·subst hbe;exact heo
 ·exact⟨u,k b u hbe q⟩
end
noncomputable def trk(h:Heap)(H:Hp):List Addr:=(List.range h.objs.size).filter fun a=>(H a).isSome
def kS(h:Heap)(H:Hp):Heap:=PySem.W.hideAll h (trk h H)
def aCm(h:Heap)(H:Hp):(kS h H).objs.size=h.objs.size:=PySem.W.hideAll_size _ _
def aCl{h:Heap}{H:Hp}{b:Addr}{o:Obj}(e:h.get? b=some o)(n:H b=none):(kS h H).get? b=some o:=
 PySem.W.hideAll_get _ e fun hm=>by
  have q:(H b).isSome=true:=(List.mem_filter.mp hm).2;rw[n] at q;simp at q
def aFh{h:Heap}{H:Hp}{b:Addr}{o:Obj}(e:(kS h H).get? b=some o):h.get? b=some o/\H b=none:=by
 have e':h.get? b=some o:=PySem.W.of_hideAll (trk h H) e;refine⟨e',?_⟩;cases q:H b with
 | none=>rfl
 | some x=>
  have hm:b∈trk h H:=List.mem_filter.mpr ⟨aS2.mpr (aSi e'),by simp[q]⟩;have z:(kS h H).get? b=none:=PySem.W.hideAll_none (trk h H) hm;rw[z] at e;cases e
noncomputable def VZ(g h:Heap)(L:Addr):List (Addr × Obj):=(List.range h.objs.size).filterMap fun a=>if a=L\/(g.get? a).isSome=true then none else (h.get? a).map fun o=>(a,o)
def rest(g h:Heap)(L d:Addr):List (Addr × Obj):=(VZ g h L).filter fun p=>decide (p.1≠d)
structure Mod(K:PySem.W.Frag)(mg:Str->Option Value)(base:Heap):Prop where
 kin:K.In base
 glob:base.Ns mainGlobals mg
 blt:∃ mb,base.Ns builtinsNs mb/\∀ x:Str,x ≠ "__name__" -> mb x=bootBuiltins x
 nolimit:base.NoLimit
 nodig:base.NoDigits
structure Cx where
 prog:Program
 w:World
 K:PySem.W.Frag
 mg:Str->Option Value
 base:Heap
 A:Around
 N:List Str
 s₀:Shared
 H₀:Hp
 env:Env
 outer:List Env
 stack:List Env
 ex:List Addr
 fn:Str->Bool
 calm:Bool
 pn:List (Addr × Obj)
 xe:Value->Shared->Prop
abbrev aVc(X:Cx)(e:Expr)(es:List Expr):Prop:=starEach (e::es) X.env=(false,eval e X.env)::starEach es X.env
abbrev aVd(X:Cx)(e:Expr):Prop:=starEach [e] X.env=[(false,eval e X.env)]
abbrev aVe(X:Cx)(pos:Pos)(es:List Expr):Prop:=(backTo pos (starEach es X.env)).any (·.1)=false
abbrev aVf(X:Cx)(iter:Expr):Prop:=∀ x,foldedSetIterable iter X.env x=pure x
abbrev aVg(X:Cx):Prop:=PassesOwn (model X.prog X.w) X.A X.env X.xe
abbrev aVh(X:Cx)(x:Str):Prop:=X.fn x=true\/X.env.scope.names.lookup x=some .local
noncomputable def frs(l:List Env):List Addr:=l.filterMap (·.frame)
abbrev Cx.fs(X:Cx):List Addr:=frs X.outer
def Vis(sc:Scope)(x:Str):Prop:=sc.names.lookup x=some .local\/sc.names.lookup x=some .cell\/sc.names.lookup x=some .free
def Loc(sc:Scope)(x:Str):Prop:=sc.names.lookup x=some .local\/sc.names.lookup x=some .cell
def VR(env:Env)(h:Heap)(m:Str->Option Value)(x:Str)(u:Value):Prop:=
 (env.kindOf x=some .local/\m x=some u)\/((env.kindOf x=some .cell\/env.kindOf x=some .free)/\∃ c,env.cells.lookup x=some c/\h.IsCell c (some u))
structure Cx.Ok(X:Cx):Prop where
 mod:Mod X.K X.mg X.base
 kind:X.env.scope.kind=.function
 glob:X.env.globals=mainGlobals
 blt:X.env.builtins=builtinsNs
 above:X.s₀.heap.objs.size<=X.env.locals
 inj:∀ x y c,X.env.cells.lookup x=some c->X.env.cells.lookup y=some c->x=y
 has:∀ x,(X.env.kindOf x=some .cell\/X.env.kindOf x=some .free)->∃ c,X.env.cells.lookup x=some c
 cab:∀ x c,X.fn x=true->X.env.cells.lookup x=some c->X.s₀.heap.objs.size<=c
 hd:X.calm=true->X.A.handled=none
 frames:X.A.frames=some X.stack
 stk:X.stack=X.outer\/(X.stack=X.env::X.outer/\X.env.frame=some X.env.locals)
 exf:∀ b∈X.ex,b≠X.env.locals/\∀ x c,X.env.cells.lookup x=some c->c≠b
 bs:∀ b o,X.base.get? b=some o->X.s₀.heap.get? b=some o/\X.H₀ b=none
 bsz:X.base.objs.size<=X.s₀.heap.objs.size
 noex:∀ b o,X.base.get? b=some o->b ∉ X.ex
 exfs:∀ b∈X.ex,b ∉ X.fs
 funs:X.s₀.heap.FunFrames X.base X.outer
 frf:∀ b∈X.fs,X.H₀ b=none
structure Inv(X:Cx)(pins:List (Addr × Obj))(σ:List (Option V))(H:Hp)(s:Shared):Prop where
 ok:X.Ok
 os:s.os=X.s₀.os
 bare:AllBare s.gens
 base:Un X.fs X.ex X.H₀ H X.s₀.heap s.heap
 loc:∃ m,s.heap.Ns X.env.locals m/\∀ (i:Nat) (x:Str) (v:V),X.N[i]?=some x->σ[i]?=some (some v)->Vis X.env.scope x->∃ u,bB v u/\VR X.env s.heap m x u
 cell:∀ x c,X.env.cells.lookup x=some c->∃ v,s.heap.IsCell c v
 free:H X.env.locals=none
 freeC:∀ x c,X.env.cells.lookup x=some c->H c=none
 pin:∀ p∈X.pn++pins,s.heap.get? p.1=some p.2/\H p.1=none/\p.1≠X.env.locals/\p.1 ∉ X.fs/\∀ v,p.2.data≠.cell v
 hok:HOk X.prog X.w H s.heap
 len:σ.length=X.N.length
section
variable {X:Cx}{pins:List (Addr × Obj)}{σ:List (Option V)}{H H':Hp}{s:Shared}{h':Heap}
def Cx.Ok.nofr(ok:X.Ok){b:Addr}{o:Obj}(e:X.base.get? b=some o):b ∉ X.fs:=fun hb=>by
 have:=(ok.funs.mem hb).1;rw[e] at this;cases this
def Inv.bs(I:Inv X pins σ H s):∀ b o,X.base.get? b=some o->s.heap.get? b=some o/\H b=none:=fun b o e=>
 ⟨I.base.keep b o (I.ok.bs b o e).1 (I.ok.bs b o e).2 (I.ok.nofr e) (I.ok.noex b o e),I.base.free b o (I.ok.bs b o e).1 (I.ok.bs b o e).2 (I.ok.noex b o e)⟩
def Inv.bk(I:Inv X pins σ H s):∀ b o,X.base.get? b=some o->s.heap.get? b=some o:=fun b o e=>(I.bs b o e).1
def Inv.mod(I:Inv X pins σ H s):Mod X.K X.mg X.base:=I.ok.mod
def Inv.kIn(I:Inv X pins σ H s):X.K.In s.heap:=I.ok.mod.kin.keeps I.bk
def Inv.nodig(I:Inv X pins σ H s):s.heap.NoDigits:=I.ok.mod.nodig.keeps I.bk
def Inv.lt(I:Inv X pins σ H s):X.env.locals<s.heap.objs.size:=let ⟨_,hn,_⟩:=I.loc;hn.lt
def Inv.sz(I:Inv X pins σ H s):X.s₀.heap.objs.size<=s.heap.objs.size:=aTt I.ok.above (aTr I.lt)
def Inv.nofs(I:Inv X pins σ H s){a:Addr}(h:s.heap.objs.size<=a):a ∉ X.fs:=fun hb=>by
 obtain⟨_,o,ho,_⟩:=I.ok.funs.mem hb;exact absurd (aS3 (aSi ho) (aTt I.sz h)) (aTu _)
def Inv.cne(I:Inv X pins σ H s):∀ x c,X.env.cells.lookup x=some c->c≠X.env.locals:=fun x c e z=>by
 obtain⟨v,o,ho,hd⟩:=I.cell x c e;obtain⟨m,⟨o',es,ep,ho',hd',_⟩,_⟩:=I.loc;rw[z,ho'] at ho;cases ho;rw[hd'] at hd;cases hd
def Inv.funs(I:Inv X pins σ H s):s.heap.FunFrames X.base X.outer:=by
 have all:∀ (l:List Env),(∀ b∈frs l,b∈X.fs)->X.s₀.heap.FunFrames X.base l->s.heap.FunFrames X.base l:=by
  intro l
  induction l with
  | nil=>intro _ _;trivial
  | cons env r ih=>
   intro hs hl;obtain⟨hk,⟨L,o,hf,hn,ho,hd⟩,hr⟩:=hl;have hL:L∈X.fs:=hs L (by unfold frs;rw[aSw,hf];exact aRz);obtain⟨sl,e⟩:=I.base.slot L o ho (I.ok.frf L hL) hL fun z=>I.ok.exfs L z hL;exact⟨hk,⟨L,_,hf,hn,e,hd⟩,ih (fun b hb=>hs b (by unfold frs;rw[aSw,hf];exact aRy _ hb)) hr⟩
 exact all X.outer (fun _ hb=>hb) I.ok.funs
def Inv.stack(I:Inv X pins σ H s):s.heap.FunFrames X.base X.stack:=by
 rcases I.ok.stk with e | ⟨e,hf⟩
 ·rw[e];exact I.funs
 ·rw[e]
  obtain⟨m,hn,_⟩:=I.loc;refine .cons (by rw[I.ok.kind];decide) hf hn ?_ I.funs;exact Heap.get?_none_of_le (aTt I.ok.bsz I.ok.above)
def Inv.stkSub(I:Inv X pins σ H s):∀ b∈frs X.stack,b∈X.env.locals::X.fs:=fun b hb=>by
 rcases I.ok.stk with e | ⟨e,hf⟩
 ·rw[e] at hb;exact aRy _ hb
 ·rw[e] at hb
  unfold frs at hb;rw[aSw,hf] at hb;exact hb
def Inv.stkFree(I:Inv X pins σ H s):∀ b∈frs X.stack,H b=none:=fun b hb=>by
 rcases aS7.mp (I.stkSub b hb) with e | hb
 ·rw[e];exact I.free
 ·obtain⟨_,o,ho,_⟩:=I.ok.funs.mem hb
  exact I.base.free b o ho (I.ok.frf b hb) fun z=>I.ok.exfs b z hb
def Inv.step{g':Array GenState}{t':Nat}{d':Drawn}{ch:List Addr}(I:Inv X pins σ H s)
  (hch:∀ b∈ch,(b∈X.ex\/X.s₀.heap.objs.size<=b)/\b≠X.env.locals/\(∀ x c,X.env.cells.lookup x=some c->c≠b)/\∀ p∈X.pn++pins,p.1≠b)
  (keep:∀ b o,b≠X.env.locals->b ∉ X.fs->b ∉ ch->s.heap.get? b=some o->H b=none->h'.get? b=some o)
  (slot:∀ b o,b≠X.env.locals->b∈X.fs->b ∉ ch->s.heap.get? b=some o->H b=none->∃ sl,h'.get? b=some { o with slots:=sl }) (free:∀ b o,b ∉ ch->s.heap.get? b=some o->H b=none->H' b=none)
  (there:∀ b o,b ∉ ch->s.heap.get? b=some o->∃ o',h'.get? b=some o')
  (tups:∀ b xs,H b=some (.tup xs)->H' b=some (.tup xs)) (frzs:∀ b o u,H b=some (.frz o u)->H' b=some (.frz o u)) (tbls:∀ b ps,H b=some (.tbl ps)->∃ more,H' b=some (.tbl (ps++more)))
  (ns:∀ m,s.heap.Ns X.env.locals m->h'.Ns X.env.locals m) (hok:HOk X.prog X.w H' h') (hg:AllBare g'):
  Inv X pins σ H' { s with heap:=h',gens:=g',drawn:=d',toks:=t' }:=by
 have neL:∀ b o,X.s₀.heap.get? b=some o->b≠X.env.locals:=fun b o e=>aU0 (aS3 (aSi e) I.ok.above);have neC:∀ b o,X.s₀.heap.get? b=some o->b ∉ X.ex->b ∉ ch:=fun b o e hx hb=>by
  rcases (hch b hb).1 with z | z
  ·exact hx z
  ·exact absurd (aS3 (aSi e) z) (aTu _)
 have cellK:∀ x c,X.env.cells.lookup x=some c->∀ v,s.heap.IsCell c v->h'.IsCell c v:=fun x c e v ⟨o,ho,hd⟩=>by
  have nch:c ∉ ch:=fun z=>(hch c z).2.2.1 x c e rfl
  by_cases hc:c∈X.fs
  ·obtain⟨sl,q⟩:=slot c o (I.cne x c e) hc nch ho (I.freeC x c e)
   exact⟨_,q,hd⟩
  ·exact⟨o,keep c o (I.cne x c e) hc nch ho (I.freeC x c e),hd⟩
 refine⟨I.ok,I.os,hg,⟨fun b o e n hb hx=>?_,fun b o e n hb hx=>?_,fun b o e n hx=>?_,fun b o e hx=>?_,fun b xs e=>tups b xs (I.base.tups b xs e),fun b o xs e=>frzs b o xs (I.base.frzs b o xs e),fun b ps e=>?_⟩,?_,fun x c e=>?_,?_,fun x c e=>?_,fun p hp=>?_,hok,I.len⟩
 ·exact keep b o (neL b o e) hb (neC b o e hx) (I.base.keep b o e n hb hx) (I.base.free b o e n hx)
 ·obtain⟨sl,e1⟩:=I.base.slot b o e n hb hx
  obtain⟨sl',e2⟩:=slot b _ (neL b o e) hb (neC b o e hx) e1 (I.base.free b o e n hx);exact⟨sl',e2⟩
 ·rw[33]
  exact free b o' (neC b o e hx) e1 (I.base.free b o e n hx)
 ·rw[33]
  exact there b o' (neC b o e hx) e1
 ·obtain⟨m1,e1⟩:=I.base.tbls b ps e
  obtain⟨m2,e2⟩:=tbls b _ e1;exact⟨m1++m2,by rw[e2,Array.append_assoc]⟩
 ·obtain⟨m,hn,hl⟩:=I.loc
  refine⟨m,ns m hn,fun i x v e1 e2 e3=>?_⟩;obtain⟨u,r,l⟩:=hl i x v e1 e2 e3;refine⟨u,r,?_⟩;rcases l with l | ⟨k,c,e,z⟩
  ·exact .inl l
  ·exact .inr ⟨k,c,e,cellK x c e _ z⟩
 ·obtain⟨v,z⟩:=I.cell x c e
  exact⟨v,cellK x c e v z⟩
 ·obtain⟨m,⟨o,_,_,ho,_⟩,_⟩:=I.loc
  exact free _ o (fun z=>(hch _ z).2.1 rfl) ho I.free
 ·obtain⟨v,o,ho,hd⟩:=I.cell x c e
  exact free c o (fun z=>(hch c z).2.2.1 x c e rfl) ho (I.freeC x c e)
 ·obtain⟨e,n,ne,nf,d⟩:=I.pin p hp
  have nch:p.1 ∉ ch:=fun z=>(hch p.1 z).2.2.2 p hp rfl;exact⟨keep p.1 p.2 ne nf nch e n,free p.1 p.2 nch e n,ne,nf,d⟩
def Inv.un{t':Nat}(I:Inv X pins σ H s)(u:Un X.fs [] H H' s.heap h')(hok:HOk X.prog X.w H' h'):Inv X pins σ H' { s with heap:=h',toks:=t' }:=by
 obtain⟨m,⟨o,es,ep,ho,r⟩,_⟩:=id I.loc;obtain⟨sl,hL⟩:=u.any ho I.free (by simp);exact I.step (g':=s.gens) (d':=s.drawn) (ch:=[]) (fun _ z=>nomatch z) (fun b o _ hb _ e n=>u.keep b o e n hb (by simp)) (fun b o _ hb _ e n=>u.slot b o e n hb (by simp)) (fun b o _ e n=>u.free b o e n (by simp)) (fun b o _ e=>u.there b o e (by simp)) u.tups u.frzs u.tbls (fun m' hm=>by
  obtain⟨o',es',ep',ho',r'⟩:=hm;rw[ho] at ho';cases ho';exact⟨_,es',ep',hL,r'⟩) hok I.bare
def Inv.call{g':Array GenState}{t':Nat}{d':Drawn}{ch:List Addr}(I:Inv X pins σ H s)(u:Un (frs X.stack) ch H H' s.heap h')(hok:HOk X.prog X.w H' h')(hg:AllBare g')
  (hch:∀ b∈ch,(b∈X.ex\/X.s₀.heap.objs.size<=b)/\b≠X.env.locals/\(∀ x c,X.env.cells.lookup x=some c->c≠b)/\∀ p∈X.pn++pins,p.1≠b):
  Inv X pins σ H' { s with heap:=h',gens:=g',drawn:=d',toks:=t' }:=by
 obtain⟨m,⟨o,es,ep,ho,r⟩,_⟩:=id I.loc;obtain⟨sl,hL⟩:=u.any ho I.free fun z=>(hch _ z).2.1 rfl;exact I.step (ch:=ch) hch (fun b o hL hb hc e n=>u.keep b o e n (fun z=>(aS7.mp (I.stkSub b z)).elim hL hb) hc) (fun b o _ _ hc e n=>u.any e n hc) (fun b o hc e n=>u.free b o e n hc) (fun b o hc e=>u.there b o e hc) u.tups u.frzs u.tbls (fun m' hm=>by
  obtain⟨o',es',ep',ho',r'⟩:=hm;rw[ho] at ho';cases ho';exact⟨_,es',ep',hL,r'⟩) hok hg
def Inv.turned{t':Nat}{it:Addr}(I:Inv X pins σ H s)(k:∀ b o,b≠it->s.heap.get? b=some o->h'.get? b=some o)(hn:H it=none)(hL:it≠X.env.locals)
  (h1:it∈X.ex\/X.s₀.heap.objs.size<=it) (h2:∀ x c,X.env.cells.lookup x=some c->c≠it) (h3:∀ p∈X.pn++pins,p.1≠it):Inv X pins σ H { s with heap:=h',toks:=t' }:=by
 have nit:∀ b u,H b=some u->b≠it:=fun b u e z=>by rw[z,hn] at e;cases e
 refine I.step (g':=s.gens) (d':=s.drawn) (ch:=[it]) (fun b hb=>?_) (fun b o _ _ hc e _=>k b o (fun z=>hc (by simp[z])) e) (fun b o _ _ hc e _=>⟨o.slots,k b o (fun z=>hc (by simp[z])) e⟩) (fun _ _ _ _ n=>n)
  (fun b o hc e=>⟨o,k b o (fun z=>hc (by simp[z])) e⟩) (fun _ _ e=>e) (fun _ _ _ e=>e) (fun b ps e=>⟨#[],by rw[e];simp⟩) (fun m hm=>?_) (fun b u e=>?_) I.bare
 ·have e:b=it:=by simpa using hb
  subst e;exact⟨h1,hL,h2,h3⟩
 ·obtain⟨o,es,ep,ho,r⟩:=hm
  exact⟨o,es,ep,k _ o (Ne.symm hL) ho,r⟩
 ·refine (I.hok b u e).stay (fun c v hc q=>k c v ?_ q) (fun _ q=>q) fun _ _ q=>q
  rcases hc with z | z
  ·rw[z];exact nit b u e
  ·exact nit c _ z
def Inv.tok(I:Inv X pins σ H s)(t:Nat):Inv X pins σ H { s with toks:=t }:=I.un (h':=s.heap) (t':=t) Un.refl I.hok
def Inv.kept{t':Nat}(I:Inv X pins σ H s)(k:∀ b u,s.heap.get? b=some u->h'.get? b=some u):Inv X pins σ H { s with heap:=h',toks:=t' }:=I.un (Un.kept k) (I.hok.kept k)
def Inv.laid{a:Addr}{o:HO}{t':Nat}(I:Inv X pins σ H s)(k:∀ b u,s.heap.get? b=some u->h'.get? b=some u)(hp:s.heap.objs.size<=a)(new:cO X.prog X.w (upd H a o) h' a o):
  Inv X pins σ (upd H a o) { s with heap:=h',toks:=t' }:=I.un (Un.laid k hp (I.hok.fresh hp)) (I.hok.laid k hp new)
def Inv.write{x e:Addr}{o:HO}{t':Nat}(I:Inv X pins σ H s)(mu:Mut (H x))(he:e=x\/H e=some (.own x))(k:∀ b u,b≠e->s.heap.get? b=some u->h'.get? b=some u)(heo:∃ u,h'.get? e=some u)
  (new:cO X.prog X.w (upd H x o) h' x o):Inv X pins σ (upd H x o) { s with heap:=h',toks:=t' }:=I.un (Un.write mu he k heo) (I.hok.write mu he k heo new)
def Inv.pins_of{pins':List (Addr × Obj)}(I:Inv X pins σ H s)(h:∀ p∈pins',s.heap.get? p.1=some p.2/\H p.1=none/\p.1≠X.env.locals/\p.1 ∉ X.fs/\∀ v,p.2.data≠.cell v):Inv X pins' σ H s:=
 ⟨I.ok,I.os,I.bare,I.base,I.loc,I.cell,I.free,I.freeC,fun p hp=>(aTf.mp hp).elim (fun z=>I.pin p (aTg _ z)) (h p),I.hok,I.len⟩
def CN{N:List Str}(hN:N.Nodup){i j:Nat}{x:Str}(a:N[i]?=some x)(b:N[j]?=some x):i=j:=by
 obtain⟨h1,e1⟩:=aS0.mp a;obtain⟨h2,e2⟩:=aS0.mp b;exact (List.getElem_inj hN).mp (e1.trans e2.symm)
def GF{M:Model}{A:Around}{E:Value->Shared->Prop}{i:Nat}{x:Str}{v:V}{u:Value}{Q:Unit->Shared->Prop}(I:Inv X pins σ H s)(hN:X.N.Nodup)(hi:X.N[i]?=some x)(hx:Loc X.env.scope x)(r:bB v u)
  (h:∀ s',Inv X pins (σ.set i (some v)) H s'->(∃ a,Heap.SameBut a s.heap s'.heap/\(a=X.env.locals\/X.env.cells.lookup x=some a))->Q () s') (hf:aVh X x:=by trivial):wpAny M A (storeName X.env x u) Q E s:=by
 obtain⟨m,hn,hl⟩:=id I.loc;have hcls:(X.env.scope.kind == .class||(X.env.scope.kind == .module&&X.env.locals != X.env.globals))=false:=by rw[I.ok.kind];rfl
 have hiσ:i<σ.length:=by rw[I.len];exact (aS0.mp hi).1
 have cne:=I.cne;have tracked:∀ {a:Addr} {h':Heap},(∃ o,s.heap.get? a=some o/\H a=none)->Heap.SameBut a s.heap h'->HOk X.prog X.w H h':=fun {a h'} ha hs b ob e=>by
  obtain⟨_,_,hfree⟩:=ha;refine (I.hok b ob e).stay (fun c w' hc q=>(hs.2 c ?_).trans q) (fun _ q=>q) fun _ _ q=>q;rintro rfl;rcases hc with rfl | hc
  ·rw[hfree] at e;cases e
  ·rw[hfree] at hc;cases hc
 rcases hx with hk | hk
 ·refine wpAny_storeName_local hk hn (fun h' hn' hs=>?_) hcls
  obtain⟨oL,_,_,hoL,_⟩:=id hn;refine h _ ⟨I.ok,I.os,I.bare,⟨fun b o e n hb hx=>?_,fun b o e n hb hx=>?_,I.base.free,fun b o e hx=>?_,I.base.tups,I.base.frzs,I.base.tbls⟩,⟨_,hn',fun j y v' e1 e2 e3=>?_⟩,fun y c e=>?_,I.free,I.freeC,fun p hp=>?_,tracked ⟨oL,hoL,I.free⟩ hs,by simpa using I.len⟩ ⟨_,hs,.inl rfl⟩
  ·exact (hs.2 b (aU0 (aS3 (aSi e) I.ok.above))).trans (I.base.keep b o e n hb hx)
  ·obtain⟨sl,e1⟩:=I.base.slot b o e n hb hx
   exact⟨sl,(hs.2 b (aU0 (aS3 (aSi e) I.ok.above))).trans e1⟩
  ·rw[33]
   exact⟨o',(hs.2 b (aU0 (aS3 (aSi e) I.ok.above))).trans e1⟩
  ·by_cases hj:j=i
   ·subst hj
    rw[hi] at e1;cases e1;rw[aT1 hiσ] at e2;cases e2;exact⟨u,r,.inl ⟨hk,by simp⟩⟩
   ·rw[aS5 (Ne.symm hj)] at e2
    obtain⟨u',r',q⟩:=hl j y v' e1 e2 e3;refine⟨u',r',?_⟩;rcases q with ⟨k,e⟩ | ⟨k,c,e,z⟩
    ·refine .inl ⟨k,?_⟩
     have:y≠x:=fun e=>hj (CN hN e1 (e ▸ hi));simp[this,e]
    ·exact .inr ⟨k,c,e,z.sameBut hs (cne y c e)⟩
  ·obtain⟨w',z⟩:=I.cell y c e
   exact⟨w',z.sameBut hs (cne y c e)⟩
  ·obtain⟨e,n,ne,nf,d⟩:=I.pin p hp
   exact⟨(hs.2 p.1 ne).trans e,n,ne,nf,d⟩
 ·have hfn:X.fn x=true:=by
   rcases hf with z | z
   ·exact z
   ·rw[z] at hk;cases hk
  obtain⟨c,hc⟩:=I.ok.has x (.inl hk);obtain⟨w',z⟩:=I.cell x c hc;refine wpAny_storeName_cell I.ok.kind hk hc z (fun h' hc' hs=>?_);obtain⟨oc,hoc,hocd⟩:=id z;refine h { s with heap:=h' } ⟨I.ok,I.os,I.bare,⟨fun b o e n hb hx=>?_,fun b o e n hb hx=>?_,I.base.free,fun b o e hx=>?_,I.base.tups,I.base.frzs,I.base.tbls⟩,⟨m,hn.sameBut hs (Ne.symm (cne x c hc)),fun j y v' e1 e2 e3=>?_⟩,fun y c' e=>?_,I.free,I.freeC,fun p hp=>?_,tracked ⟨oc,hoc,I.freeC x c hc⟩ hs,by simpa using I.len⟩ ⟨c,hs,.inr hc⟩
  ·exact (hs.2 b (aU0 (aS3 (aSi e) (I.ok.cab x c hfn hc)))).trans (I.base.keep b o e n hb hx)
  ·obtain⟨sl,e1⟩:=I.base.slot b o e n hb hx
   exact⟨sl,(hs.2 b (aU0 (aS3 (aSi e) (I.ok.cab x c hfn hc)))).trans e1⟩
  ·rw[33]
   exact⟨o',(hs.2 b (aU0 (aS3 (aSi e) (I.ok.cab x c hfn hc)))).trans e1⟩
  ·by_cases hj:j=i
   ·subst hj
    rw[hi] at e1;cases e1;rw[aT1 hiσ] at e2;cases e2;exact⟨u,r,.inr ⟨.inl hk,c,hc,hc'⟩⟩
   ·rw[aS5 (Ne.symm hj)] at e2
    obtain⟨u',r',q⟩:=hl j y v' e1 e2 e3;refine⟨u',r',?_⟩;rcases q with q | ⟨k,c',e,z'⟩
    ·exact .inl q
    ·refine .inr ⟨k,c',e,z'.sameBut hs ?_⟩
     rintro rfl;exact hj (CN hN e1 (I.ok.inj _ _ _ e hc ▸ hi))
  ·by_cases hcc:c'=c
   ·subst hcc;exact⟨_,hc'⟩
   ·obtain⟨w2,z2⟩:=I.cell y c' e
    exact⟨w2,z2.sameBut hs hcc⟩
  ·obtain⟨e,n,ne,nf,d⟩:=I.pin p hp
   refine⟨(hs.2 p.1 ?_).trans e,n,ne,nf,d⟩;intro q;rw[q,hoc] at e;have q':oc=p.2:=aRv e;exact d w' (by rw[<- q'];exact hocd)
def zF{M:Model}{A:Around}{E:Value->Shared->Prop}{i:Nat}{x:Str}{v:V}{u:Value}{Q:Unit->Shared->Prop}(I:Inv X pins σ H s)(hN:X.N.Nodup)(hi:X.N[i]?=some x)(hx:Loc X.env.scope x)(r:bB v u)
  (h:∀ s',Inv X pins (σ.set i (some v)) H s'->Q () s') (hf:aVh X x:=by trivial):wpAny M A (storeName X.env x u) Q E s:=
 GF I hN hi hx r (fun s' I' _=>h s' I') hf
def Inv.call'{s':Shared}{ch:List Addr}(I:Inv X pins σ H s)(ho:s'.os=s.os)(u:Un (frs X.stack) ch H H' s.heap s'.heap)(hok:HOk X.prog X.w H' s'.heap)(hg:AllBare s'.gens)
  (hch:∀ b∈ch,(b∈X.ex\/X.s₀.heap.objs.size<=b)/\b≠X.env.locals/\(∀ x c,X.env.cells.lookup x=some c->c≠b)/\∀ p∈X.pn++pins,p.1≠b):Inv X pins σ H' s':=by
 obtain⟨h',g',d',t',o'⟩:=s';have e:o'=s.os:=ho;subst e;exact I.call (g':=g') (t':=t') (d':=d') u hok hg hch
end
abbrev XK:=Value->Option Addr->Hp->Prop
abbrev St:=List (Option V)
abbrev VK:=V->Hp->Prop
abbrev TE:=St->Hp->VK->Prop
abbrev TT:=St->Hp->(Bool->Hp->Prop)->Prop
abbrev TA:=St->Hp->(List V->Hp->Prop)->Prop
structure Ends where
 nx:St->Hp->Prop
 rt:VK
 bk:St->Hp->Prop:=fun _ _=>False
 ct:St->Hp->Prop:=fun _ _=>False
abbrev TS:=Ends->St->Hp->Prop
def EP(X:Cx)(pins:List (Addr × Obj))(σ:St)(Q:VK)(u:Value)(s':Shared):Prop:=∃ v H',Inv X pins σ H' s'/\bB v u/\Q v H'
def TP(X:Cx)(pins:List (Addr × Obj))(σ:St)(Q:Bool->Hp->Prop)(b:Bool)(s':Shared):Prop:=∃ H',Inv X pins σ H' s'/\Q b H'
def AP(X:Cx)(pins:List (Addr × Obj))(σ:St)(Q:List V->Hp->Prop)(us:List Value)(s':Shared):Prop:=∃ vs H',Inv X pins σ H' s'/\aQ vs us/\Q vs H'
def SP(X:Cx)(pins:List (Addr × Obj))(D:Ends)(f:Flow)(s':Shared):Prop:=
 match f with
 | .next=>∃ σ' H',Inv X pins σ' H' s'/\D.nx σ' H'
 | .brk=>∃ σ' H',Inv X pins σ' H' s'/\D.bk σ' H'
 | .cont=>∃ σ' H',Inv X pins σ' H' s'/\D.ct σ' H'
 | .ret u=>∃ v σ' H',Inv X pins σ' H' s'/\bB v u/\D.rt v H'
def PE(X:Cx)(e:Expr)(t:TE):Prop:=
 ∀ (pins:List (Addr × Obj)) (s:Shared) (σ:St) (H:Hp) (Q:VK),Inv X pins σ H s->t σ H Q->wpAny (model X.prog X.w) X.A (eval e X.env) (EP X pins σ Q) X.xe s
def PT(X:Cx)(e:Expr)(t:TT):Prop:=
 ∀ (pins:List (Addr × Obj)) (s:Shared) (σ:St) (H:Hp) (Q:Bool->Hp->Prop),Inv X pins σ H s->t σ H Q->wpAny (model X.prog X.w) X.A (isTrue e X.env (eval e X.env)) (TP X pins σ Q) X.xe s
def PW(X:Cx)(e:Expr)(t:TT):Prop:=
 ∀ (whole:Sem Value) (pins:List (Addr × Obj)) (s:Shared) (σ:St) (H:Hp) (Q:Bool->Hp->Prop),Inv X pins σ H s->t σ H Q->wpAny (model X.prog X.w) X.A (isTrue e X.env whole) (TP X pins σ Q) X.xe s
def PW.pt{X:Cx}{e:Expr}{t:TT}(h:PW X e t):PT X e t:=h _
def PA(X:Cx)(es:List Expr)(t:TA):Prop:=
 ∀ (pos:Pos) (pins:List (Addr × Obj)) (s:Shared) (σ:St) (H:Hp) (Q:List V->Hp->Prop),Inv X pins σ H s->t σ H Q->wpAny (model X.prog X.w) X.A (spliced (backTo pos (starEach es X.env))) (AP X pins σ Q) X.xe s
def PS(X:Cx)(st:Stmt)(t:TS):Prop:=
 ∀ (pins:List (Addr × Obj)) (s:Shared) (σ:St) (H:Hp) (D:Ends),Inv X pins σ H s->t D σ H->wpAny (model X.prog X.w) X.A (exec st X.env) (SP X pins D) X.xe s
def PSs(X:Cx)(st:List Stmt)(t:TS):Prop:=
 ∀ (pins:List (Addr × Obj)) (s:Shared) (σ:St) (H:Hp) (D:Ends),Inv X pins σ H s->t D σ H->wpAny (model X.prog X.w) X.A (execs st X.env) (SP X pins D) X.xe s
def thn{α:Type}{t:Sem α}{Q Q':α->Shared->Prop}{M:Model}{A:Around}{E:Value->Shared->Prop}{s:Shared}(h:wpAny M A t Q E s)(hQ:∀ a s,Q a s->Q' a s):wpAny M A t Q' E s:=aUk h hQ fun _ _ x=>x
section
variable {X:Cx}
def SR(i:Nat):TE:=fun σ H Q=>∃ v,σ[i]?=some (some v)/\Q v H
def tC(v:V):TE:=fun _ H Q=>Q v H
def aHy{i:Nat}{x:Str}{pos:Pos}(hN:X.N[i]?=some x)(hv:Vis X.env.scope x)(hd:aVi x:=by decide)(hcd:(x == ("__classdict__" : Str))=false:=by decide):PE X (.Name x pos) (SR i):=by
 rw[2];obtain⟨v,e,h⟩:=h;obtain⟨m,hn,hl⟩:=I.loc;obtain⟨u,r,l⟩:=hl i x v hN e hv;have fin:EP X pins σ Q u s:=⟨v,H,I,r,h⟩;rcases l with ⟨hk,hm⟩ | ⟨hk,c,hc,hcell⟩
 ·exact wpAny_Name (wpAny_loadName_local I.ok.kind hk hn hm fin) hd
 ·rcases hk with hk | hk
  ·exact wpAny_Name (wpAny_loadName_cell I.ok.kind hk hc hcell fin) hd
  ·exact wpAny_Name (wpAny_loadName_free I.ok.kind hk hc hcell fin hcd) hd
def OP{i j pos}:PE X (.Constant (.int i) j pos) (tC (.int i)):=fun _ _ _ H _ I h=>wpAny_Constant_int ⟨.int i,H,I.tok _,⟨_,rfl⟩,h⟩
def aHp{b j pos}:PE X (.Constant (.bool b) j pos) (tC (.bl b)):=fun _ _ _ H _ I h=>Constant_bool ⟨.bl b,H,I,rfl,h⟩
def OS{j pos}:PE X (.Constant .none j pos) (tC .non):=fun _ _ _ H _ I h=>Constant_none ⟨.non,H,I,rfl,h⟩
def uJ{x j pos}:PE X (.Constant (.str x) j pos) (tC (.str x)):=fun _ _ _ H _ I h=>Calls.Constant_str ⟨.str x,H,I.tok _,⟨_,rfl⟩,h⟩
def Gl(X:Cx)(x:Str):Prop:=X.env.kindOf x=some .globalImplicit
def qV{E:Value->Shared->Prop}{pins:List (Addr × Obj)}{s:Shared}{σ:St}{H:Hp}{x:Str}{u:Value}{pos:Pos}{Q:Value->Shared->Prop}(I:Inv X pins σ H s)(hg:Gl X x)(hm:X.mg x=some u)(h:Q u s)
  (hd:aVi x:=by decide):wpAny (model X.prog X.w) X.A (eval (.Name x pos) X.env) Q E s:=
 Calls.Name_function_global I.ok.kind hg (Calls.loadGlobal_global (by rw[I.ok.glob];exact I.mod.glob.keeps I.bk) hm h) hd
def qU{E:Value->Shared->Prop}{pins:List (Addr × Obj)}{s:Shared}{σ:St}{H:Hp}{x:Str}{u:Value}{pos:Pos}{Q:Value->Shared->Prop}(I:Inv X pins σ H s)(hg:Gl X x)(hm:X.mg x=none)(hv:bootBuiltins x=some u)(h:Q u s)
  (hn:x ≠ "__name__" := by decide) (hd:aVi x:=by decide):wpAny (model X.prog X.w) X.A (eval (.Name x pos) X.env) Q E s:=by
 obtain⟨mb,h1,h2⟩:=I.mod.blt;exact Calls.Name_function_global I.ok.kind hg (Calls.loadGlobal_builtin (by rw[I.ok.glob];exact I.mod.glob.keeps I.bk) hm (by rw[I.ok.blt];exact h1.keeps I.bk) ((h2 x hn).trans hv) h) hd
def xK{x:Str}{v:V}{u:Value}{pos:Pos}(hg:Gl X x)(hm:X.mg x=some u)(r:bB v u)(hd:aVi x:=by decide):PE X (.Name x pos) (tC v):=
 fun _ _ _ H _ I h=>qV I hg hm ⟨v,H,I,r,h⟩ hd
def OL{x:Str}{v:V}{u:Value}{pos:Pos}(hg:Gl X x)(hm:X.mg x=none)(hv:bootBuiltins x=some u)(r:bB v u)(hn:x ≠ "__name__" := by decide)(hd:aVi x:=by decide):PE X (.Name x pos) (tC v):=
 fun _ _ _ H _ I h=>qU I hg hm hv ⟨v,H,I,r,h⟩ hn hd
variable {a b:Expr}{ta tb:TE}{pos:Pos}
def PC(X:Cx)(op:CmpOp)(a b:Expr)(t:TE):Prop:=
 ∀ (pins:List (Addr × Obj)) (s:Shared) (σ:St) (H:Hp) (Q:VK),Inv X pins σ H s->t σ H Q ->
  wpAny (model X.prog X.w) X.A (eval a X.env) (fun v s₁=>wpAny (model X.prog X.w) X.A (eval b X.env) (fun u s₂=>wpAny (model X.prog X.w) X.A (compareOp op v u) (EP X pins σ Q) X.xe s₂) X.xe s₁) X.xe s
def NL(b:Expr){op:CmpOp}(h:op≠.In)(h2:op≠.NotIn):behindInMarks op b=false:=by
 have e1:(op == CmpOp.In)=false:=by cases op<;>first | rfl | exact absurd rfl h
 have e2:(op == CmpOp.NotIn)=false:=by cases op<;>first | rfl | exact absurd rfl h2
 cases b<;>simp[behindInMarks,e1,e2]
def aLa(ta:TE):TE:=fun σ H Q=>ta σ H fun x H1=>Q (.bl (decide (x=.non))) H1
def aLg(ta:TE):TE:=fun σ H Q=>ta σ H fun x H1=>Q (.bl (!decide (x=.non))) H1
def bB.none_iff{x:V}{v:Value}(r:bB x v):(v == Value.none)=decide (x=.non):=by
 cases x with
 | non=>cases r;rfl
 | bl _=>cases r;rfl
 | int _=>obtain⟨t,rfl⟩:=r;rfl
 | str _=>obtain⟨t,rfl⟩:=r;rfl
 | byt _=>obtain⟨t,rfl⟩:=r;rfl
 | flt _=>obtain⟨t,rfl⟩:=r;rfl
 | ref _=>cases r;rfl
 | ty _=>cases r;rfl
def OK{j pos'}(ha:PE X a ta):PC X .Is a (.Constant .none j pos') (aLa ta):=by
 rw[2];refine thn (ha pins s σ H _ I h) fun v s1 ⟨x,H1,I1,r1,q1⟩=>?_;exact Constant_none (is_none_gen ⟨.bl _,H1,I1,by rw[r1.none_iff];rfl,q1⟩)
def aHm{j pos'}(ha:PE X a ta):PC X .IsNot a (.Constant .none j pos') (aLg ta):=by
 rw[2];refine thn (ha pins s σ H _ I h) fun v s1 ⟨x,H1,I1,r1,q1⟩=>?_;exact Constant_none (isnot_none_gen ⟨.bl _,H1,I1,by rw[r1.none_iff];rfl,q1⟩)
def tB(t:TE):TT:=fun σ H Q=>t σ H fun x H1=>∃ c,x=.bl c/\Q c H1
def aHq{op:CmpOp}{t:TE}(h:PC X op a b t)(h1:behindInMarks op b=false:=by first | exact NL _ (by decide) (by decide) | rfl):PE X (.Compare a [op] [b] pos) t:=fun pins s σ H Q I hw=>wpAny_Compare1 (h pins s σ H Q I hw) h1
def PF{op:CmpOp}{t:TE}(h:PC X op a b t)(h1:behindInMarks op b=false:=by first | exact NL _ (by decide) (by decide) | rfl):PT X (.Compare a [op] [b] pos) (tB t):=by
 intro pins s σ H Q I hw;refine wpAny_isTrue_Compare1 (thn (h pins s σ H _ I hw) fun v s1 h1=>thn h1 fun u s2 h2=>thn h2 fun c s3 ⟨x,H1,I1,r1,q1⟩=>?_) h1;obtain⟨d,rfl,q⟩:=q1;cases r1;exact aUy ⟨H1,I1,q⟩
def PJ{e:Expr}{t:TE}(h:PE X e t)(he:∀ whole,isTrue e X.env whole=(do let v <- whole;standAt e.pos;holding [v] (truthy v)):=by intro _;rfl):PT X e (tB t):=by
 intro pins s σ H Q I hw;refine isTrue_plain (thn (h pins s σ H _ I hw) fun v s1 ⟨x,H1,I1,r1,q1⟩=>?_) (he _);obtain⟨d,rfl,q⟩:=q1;cases r1;exact aUy ⟨H1,I1,q⟩
variable {tA tB':TT}{rest:List Expr}
def aKw(t u:TT):TT:=fun σ H Q=>t σ H fun c H1=>if c=true then u σ H1 Q else Q false H1
def tOr(t u:TT):TT:=fun σ H Q=>t σ H fun c H1=>if c=true then Q true H1 else u σ H1 Q
def aLf(t:TT):TT:=fun σ H Q=>t σ H fun c H1=>Q (!c) H1
def aIs(ha:PT X a tA):PW X (.BoolOp .And [a] pos) tA:=by
 intro wh pins s σ H Q I h;refine isTrue_and (thn (ha pins s σ H Q I h) fun c s1 e=>?_);cases c with
 | true=>exact isTrue_and_nil e
 | false=>exact e
def PP(ha:PT X a tA):PW X (.BoolOp .Or [a] pos) tA:=by
 intro wh pins s σ H Q I h;refine isTrue_or (thn (ha pins s σ H Q I h) fun c s1 e=>?_);cases c with
 | false=>exact isTrue_or_nil e
 | true=>exact e
def aIr(ha:PT X a tA)(hb:PW X (.BoolOp .And (b::rest) pos) tB'):PW X (.BoolOp .And (a::b::rest) pos) (aKw tA tB'):=by
 intro wh pins s σ H Q I h;refine isTrue_and (thn (ha pins s σ H _ I h) fun c s1 ⟨H1,I1,q1⟩=>?_);cases c with
 | true=>exact hb wh pins s1 σ H1 Q I1 q1
 | false=>exact⟨H1,I1,q1⟩
def PN(ha:PT X a tA)(hb:PW X (.BoolOp .Or (b::rest) pos) tB'):PW X (.BoolOp .Or (a::b::rest) pos) (tOr tA tB'):=by
 intro wh pins s σ H Q I h;refine isTrue_or (thn (ha pins s σ H _ I h) fun c s1 ⟨H1,I1,q1⟩=>?_);cases c with
 | true=>exact⟨H1,I1,q1⟩
 | false=>exact hb wh pins s1 σ H1 Q I1 q1
def PH(ha:PT X a tA):PT X (.UnaryOp .Not a pos) (aLf tA):=by
 rw[2];exact isTrue_not (ha pins s σ H (fun c H1=>Q (!c) H1) I h)
def aKx(ta tb:TE):TE:=fun σ H Q=>ta σ H fun x H1=>∃ c,x=.bl c/\if c=true then tb σ H1 Q else Q (.bl false) H1
def aLh(ta:TE):TE:=fun σ H Q=>ta σ H fun x H1=>∃ c,x=.bl c/\Q (.bl (!c)) H1
def aHw{op}{t:TE}(h:PE X a t):PE X (.BoolOp op [a] pos) t:=fun pins s σ H Q I hw=>BoolOp_one (h pins s σ H Q I hw)
def aHn(ha:PE X a ta)(hb:PE X (.BoolOp .And (b::rest) pos) tb):PE X (.BoolOp .And (a::b::rest) pos) (aKx ta tb):=by
 rw[2];refine BoolOp_and (thn (ha pins s σ H _ I h) fun v s1 ⟨x,H1,I1,r1,q1⟩=>?_);obtain⟨c,rfl,q1⟩:=q1;cases r1;refine aUy ?_;cases c with
 | true=>exact hb pins s1 σ H1 Q I1 q1
 | false=>exact⟨.bl false,H1,I1,rfl,q1⟩
def aHv(ha:PE X a ta):PE X (.UnaryOp .Not a pos) (aLh ta):=by
 rw[2];refine UnaryOp_ (thn (ha pins s σ H _ I h) fun v s1 ⟨x,H1,I1,r1,q1⟩=>?_);obtain⟨c,rfl,q1⟩:=q1;cases r1;exact not_of (aUy ⟨.bl (!c),H1,I1,rfl,q1⟩)
def tIf(t:TT)(ta tb:TE):TE:=fun σ H Q=>t σ H fun c H1=>if c=true then ta σ H1 Q else tb σ H1 Q
def OO{c:Expr}(hc:PT X c tA)(ha:PE X a ta)(hb:PE X b tb):PE X (.IfExp c a b pos) (tIf tA ta tb):=by
 rw[2];refine wpAny_IfExp (thn (hc pins s σ H _ I h) fun d s1 ⟨H1,I1,q1⟩=>?_);cases d with
 | true=>exact ha pins s1 σ H1 Q I1 q1
 | false=>exact hb pins s1 σ H1 Q I1 q1
end
def SqL(K:PySem.W.Frag)(H:Hp)(a:Addr)(xs:List V):Prop:=
 Rd H a (.lst xs) \/
  ∃ (o:Obj) (its:Array Value) (n:Nat),K.lookup a=some o/\o.cls=.type "list" /\ o.dict=none/\o.data=.seq its n/\its.size<=sizeLine/\aQ xs its.toList
def SqT(K:PySem.W.Frag)(H:Hp)(a:Addr)(xs:List V):Prop:=
 Rd H a (.tup xs) \/
  ∃ (o:Obj) (its:Array Value) (n:Nat),K.lookup a=some o/\o.cls=.type "tuple" /\ o.data=.seq its n/\its.size<=sizeLine/\aQ xs its.toList
noncomputable def VV:Value->Option V
 | .none=>some .non
 | .bool b=>some (.bl b)
 | .int i _=>some (.int i)
 | .str x _=>some (.str x)
 | .bytes b _=>some (.byt b)
 | .float b _=>some (.flt b)
 | .ref a=>some (.ref a)
 | .type n=>some (.ty n)
 | _=>none
def bB.abs{x:V}{u:Value}(r:bB x u):VV u=some x:=by
 cases x with
 | non=>cases r;rfl
 | bl _=>cases r;rfl
 | int _=>obtain⟨t,rfl⟩:=r;rfl
 | str _=>obtain⟨t,rfl⟩:=r;rfl
 | byt _=>obtain⟨t,rfl⟩:=r;rfl
 | flt _=>obtain⟨t,rfl⟩:=r;rfl
 | ref _=>cases r;rfl
 | ty _=>cases r;rfl
def bB.inj{x y:V}{u:Value}(r:bB x u)(q:bB y u):x=y:=aRv (r.abs.symm.trans q.abs)
theorem aQ.inj:∀ {xs ys:List V}{us:List Value},aQ xs us->aQ ys us->xs=ys
 | _,_,_,.nil,.nil=>rfl
 | _,_,_,.cons r t,.cons r' t'=>by rw[r.inj r',aQ.inj t t']
section
variable {X:Cx}{pins:List (Addr × Obj)}{σ:St}{H:Hp}{s:Shared}{a:Addr}{xs ys:List V}
def SqL.of{K:PySem.W.Frag}(h:H a=some (.lst xs)):SqL K H a xs:=.inl (.inl h)
def SqT.of{K:PySem.W.Frag}(h:H a=some (.tup xs)):SqT K H a xs:=.inl (.inl h)
def Inv.list(I:Inv X pins σ H s)(h:SqL X.K H a xs):∃ its:List Value,aQ xs its/\PlainL s.heap a its.toArray/\xs.length<=sizeLine:=by
 rcases h with h | ⟨o,its,n,hk,hc,hd,hs,hz,r⟩
 ·obtain⟨z,its,n,r,e⟩:=h.ok I.hok
  exact⟨its,r,⟨_,n,e,rfl,rfl,rfl⟩,z⟩
 ·refine⟨its.toList,r,⟨o,n,I.kIn a o hk,hc,hd,by simpa using hs⟩,?_⟩
  have e:=r.length;simp only[Array.length_toList] at e;lia
def Inv.tuple(I:Inv X pins σ H s)(h:SqT X.K H a xs):∃ its:List Value,aQ xs its/\IsTup s.heap a its.toArray/\xs.length<=sizeLine:=by
 rcases h with h | ⟨o,its,n,hk,hc,hs,hz,r⟩
 ·obtain⟨z,its,r,p⟩:=h.ok I.hok
  exact⟨its,r,p,z⟩
 ·refine⟨its.toList,r,⟨o,I.kIn a o hk,hc,n,by simpa using hs⟩,?_⟩
  have e:=r.length;simp only[Array.length_toList] at e;lia
def Inv.list_inj(I:Inv X pins σ H s)(h:SqL X.K H a xs)(h':SqL X.K H a ys):xs=ys:=by
 obtain⟨its,r,⟨o,n,e,_,_,d⟩,_⟩:=I.list h;obtain⟨its',r',⟨o',n',e',_,_,d'⟩,_⟩:=I.list h';rw[e] at e';cases e';rw[d] at d'
 injection d' with d1 _
 have:its=its':=by simpa using congrArg Array.toList d1
 subst this;exact r.inj r'
def Inv.tuple_inj(I:Inv X pins σ H s)(h:SqT X.K H a xs)(h':SqT X.K H a ys):xs=ys:=by
 obtain⟨its,r,⟨o,e,_,n,d⟩,_⟩:=I.tuple h;obtain⟨its',r',⟨o',e',_,n',d'⟩,_⟩:=I.tuple h';rw[e] at e';cases e';rw[d] at d'
 injection d' with d1 _
 have:its=its':=by simpa using congrArg Array.toList d1
 subst this;exact r.inj r'
end
abbrev Cx.wish(X:Cx)(E:Value->Shared->Prop):Cx:={ X with xe:=E }
abbrev Cx.nox(X:Cx):Cx:=X.wish fun _ _=>False
def Cx.Ok.wish{X:Cx}(ok:X.Ok)(E:Value->Shared->Prop):(X.wish E).Ok:=
 ⟨ok.mod,ok.kind,ok.glob,ok.blt,ok.above,ok.inj,ok.has,ok.cab,ok.hd,ok.frames,ok.stk,ok.exf,ok.bs,ok.bsz,ok.noex,ok.exfs,ok.funs,ok.frf⟩
def Cx.Ok.unwish{X:Cx}{E:Value->Shared->Prop}(ok:(X.wish E).Ok):X.Ok:=
 ⟨ok.mod,ok.kind,ok.glob,ok.blt,ok.above,ok.inj,ok.has,ok.cab,ok.hd,ok.frames,ok.stk,ok.exf,ok.bs,ok.bsz,ok.noex,ok.exfs,ok.funs,ok.frf⟩
section
variable {X:Cx}{pins:List (Addr × Obj)}{σ:St}{H:Hp}{s:Shared}{E:Value->Shared->Prop}
def Inv.wish(I:Inv X pins σ H s)(E:Value->Shared->Prop):Inv (X.wish E) pins σ H s:=⟨I.ok.wish E,I.os,I.bare,I.base,I.loc,I.cell,I.free,I.freeC,I.pin,I.hok,I.len⟩
def Inv.unwish(I:Inv (X.wish E) pins σ H s):Inv X pins σ H s:=⟨I.ok.unwish,I.os,I.bare,I.base,I.loc,I.cell,I.free,I.freeC,I.pin,I.hok,I.len⟩
def SP.unwish{D:Ends}{f:Flow}{s':Shared}(h:SP (X.wish E) pins D f s'):SP X pins D f s':=by
 cases f with
 | next=>obtain⟨σ',H',I,q⟩:=h;exact⟨σ',H',I.unwish,q⟩
 | brk=>obtain⟨σ',H',I,q⟩:=h;exact⟨σ',H',I.unwish,q⟩
 | cont=>obtain⟨σ',H',I,q⟩:=h;exact⟨σ',H',I.unwish,q⟩
 | ret u=>obtain⟨v,σ',H',I,r,q⟩:=h;exact⟨v,σ',H',I.unwish,r,q⟩
def PSs.nox{st:List Stmt}{t:TS}(h:PSs X.nox st t):PSs X st t:=fun pins s σ H D I hw=>
 aUk (h pins s σ H D (I.wish _) hw) (fun _ _ q=>q.unwish) fun _ _ z=>False.elim z
end
section
variable {X:Cx}{st:Stmt}{rest:List Stmt}{t u:TS}{e:Expr}{te:TE}{pos:Pos}
def aLd:TS:=fun D σ H=>D.nx σ H
def aLk(t u:TS):TS:=fun D σ H=>t { D with nx:=u D } σ H
def xP:PSs X [] aLd:=fun _ _ σ H _ I h=>aV1 ⟨σ,H,I,h⟩
def eL(h1:PS X st t)(h2:PSs X rest u):PSs X (st::rest) (aLk t u):=by
 rw[24];refine wpAny_execs_cons (thn (h1 pins s σ H { D with nx:=u D } I h) fun f s1 q=>?_);cases f with
 | next=>
  obtain⟨σ',H',I',q⟩:=q;exact h2 pins s1 σ' H' D I' q
 | ret v=>exact q
 | brk=>exact q
 | cont=>exact q
def nF(h1:PS X st t):PSs X [st] t:=by
 rw[24];refine wpAny_execs_cons (thn (h1 pins s σ H D I h) fun f s1 q=>?_);cases f with
 | next=>exact aV1 q
 | ret v=>exact q
 | brk=>exact q
 | cont=>exact q
def aL1:TS:=fun D σ H=>D.ct σ H
def aIf:PS X (.Continue pos) aL1:=fun _ _ σ H _ I h=>wpAny_Continue ⟨σ,H,I,h⟩
def Inv.quiet{pins:List (Addr × Obj)}{σ:St}{H:Hp}{s:Shared}(I:Inv X pins σ H s):interactive X.env=false:=by simp[interactive,I.ok.kind]
def aL2(te:TE):TS:=fun D σ H=>te σ H fun _ H1=>D.nx σ H1
def DN(he:PE X e te)(hs:swapsWith e none pos.line X.env=pure false:=by rfl):PS X (.Expr e pos) (aL2 te):=by
 rw[24];exact wpAny_Expr_any (thn (he pins s σ H _ I h) fun v s1 ⟨x,H1,I1,r1,q1⟩=>⟨σ,H1,I1,q1⟩) I.quiet hs
def aLj(te:TE):TS:=fun D σ H=>te σ H D.rt
def uL(he:PE X e te):PS X (.Return (some e) pos) (aLj te):=by
 rw[24];exact wpAny_Return_some (thn (he pins s σ H _ I h) fun v s1 ⟨x,H1,I1,r1,q1⟩=>⟨x,σ,H1,I1,r1,q1⟩)
def aL9(c:TT)(t u:TS):TS:=fun D σ H=>c σ H fun b H1=>if b=true then t D σ H1 else u D σ H1
def pJ{c:Expr}{a b:List Stmt}{tc:TT}(hc:PT X c tc)(ha:PSs X a t)(hb:PSs X b u):PS X (.If c a b pos) (aL9 tc t u):=by
 rw[24];refine wpAny_If (thn (hc pins s σ H _ I h) fun d s1 ⟨H1,I1,q1⟩=>?_);cases d with
 | true=>exact ha pins s1 σ H1 D I1 q1
 | false=>exact hb pins s1 σ H1 D I1 q1
end
abbrev TG:=V->St->Hp->(St->Hp->Prop)->Prop
abbrev TGs:=List V->St->Hp->(St->Hp->Prop)->Prop
def PG(X:Cx)(target:Expr)(t:TG):Prop:=
 ∀ (pins:List (Addr × Obj)) (s:Shared) (σ:St) (H:Hp) (v:V) (u:Value) (Q:St->Hp->Prop),Inv X pins σ H s->bB v u->t v σ H Q ->
  wpAny (model X.prog X.w) X.A (assign target X.env u) (fun _ s'=>∃ σ' H',Inv X pins σ' H' s'/\Q σ' H') X.xe s
def PGs(X:Cx)(ts:List Expr)(t:TGs):Prop:=
 ∀ (pins:List (Addr × Obj)) (s:Shared) (σ:St) (H:Hp) (vs:List V) (us:List Value) (Q:St->Hp->Prop),Inv X pins σ H s->aQ vs us->t vs σ H Q ->
  wpAny (model X.prog X.w) X.A (assignInOrder ((assignEach ts X.env).map (·.2)) us) (fun _ s'=>∃ σ' H',Inv X pins σ' H' s'/\Q σ' H') X.xe s
section
variable {X:Cx}{pos:Pos}
def gG(i:Nat):TG:=fun v σ H Q=>Q (σ.set i (some v)) H
def rH{i:Nat}{x:Str}(hN:X.N.Nodup)(hi:X.N[i]?=some x)(hx:Loc X.env.scope x)(hf:aVh X x:=by trivial):PG X (.Name x pos) (gG i):=by
 intro pins s σ H v u Q I r h;exact wpAny_assign_Name (zF I hN hi hx r (fun s' I'=>⟨_,H,I',h⟩) hf)
def aA3:TGs:=fun vs σ H Q=>vs=[]/\Q σ H
def aA2(t:TG)(u:TGs):TGs:=fun vs σ H Q=>∃ v r,vs=v::r/\t v σ H fun σ' H'=>u r σ' H' Q
def OY:PGs X [] aA3:=by
 intro pins s σ H vs us Q I r h;obtain⟨e,h⟩:=h;subst e;cases r;exact assignInOrder_nil ⟨σ,H,I,h⟩
theorem DK{e:Expr}{es:List Expr}{t:TG}{u:TGs}(h1:PG X e t)(h2:PGs X es u)
  (hs:(assignEach (e::es) X.env).map (·.2)=assign e X.env::(assignEach es X.env).map (·.2):=by rfl):PGs X (e::es) (aA2 t u):=by
 intro pins s σ H vs us Q I r h;obtain⟨v,vr,e1,h⟩:=h;subst e1;cases r with
 | cons r rr=>
  rw[hs];refine assignInOrder_cons (thn (h1 pins s σ H _ _ _ I r h) fun _ s1 ⟨σ1,H1,I1,q1⟩=>?_);exact h2 pins s1 σ1 H1 _ _ Q I1 rr q1
def aA4(K:PySem.W.Frag)(n:Nat)(t:TGs):TG:=fun v σ H Q=>∃ a xs,v=.ref a/\SqT K H a xs/\xs.length=n/\t xs σ H Q
def DJ{es:List Expr}{k:Nat}{t:TGs}{n:Nat}(hc:X.calm=true)(h:PGs X es t)
  (hn:(assignEach es X.env).length=n:=by rfl) (hst:(assignEach es X.env).findIdx? (·.1)=none:=by rfl):PG X (.Tuple es k pos) (aA4 X.K n t):=by
 intro pins s σ H v u Q I r hw;obtain⟨a,xs,e1,hq,hl,hw⟩:=hw;subst e1;cases r;obtain⟨its,rv,ht,hz⟩:=I.tuple hq;refine assign_Tuple_tuple (I.ok.hd hc) ht (by simp[hn,<- hl,rv.length]) hst fun h' hx=>?_;have I1:Inv X pins σ H { s with heap:=h' }:=I.kept (t':=s.toks) fun b o e=>hx b o (aU0 (aSi e)) e;exact h pins _ σ H xs _ Q I1 (by simpa using rv) hw
def vC(te:TE)(g:TG):TS:=fun D σ H=>te σ H fun x H1=>g x σ H1 D.nx
def aIe{tg e:Expr}{te:TE}{g:TG}(he:PE X e te)(hg:PG X tg g)(hs:swapsWithSole [tg] e pos.line X.env=pure false:=by rfl)(hw:swappedStores [tg] e X.env=pure none:=by rfl)
  (h1:(assignEach [tg] X.env).map (·.2)=[assign tg X.env]:=by rfl):PS X (.Assign [tg] e pos) (vC te g):=by
 rw[24];refine wpAny_Assign_stores (thn (he pins s σ H _ I h) fun v s1 ⟨x,H1,I1,r1,q1⟩=>?_) hs hw;rw[h1];exact thn (hg pins s1 σ H1 x v _ I1 r1 q1) fun _ s2 q=>q
def mE{i:Nat}{x:Str}{e:Expr}{te:TE}{pos':Pos}(hN:X.N.Nodup)(hi:X.N[i]?=some x)(hx:Loc X.env.scope x)(he:PE X e te)(hs:swapsWith e (some (.Name x pos')) pos.line X.env=pure false:=by rfl)(hf:aVh X x:=by trivial):
  PS X (.Assign [.Name x pos'] e pos) (vC te (gG i)):=by
 rw[24];refine wpAny_Assign_Name (thn (he pins s σ H _ I h) fun v s1 ⟨y,H1,I1,r1,q1⟩=>?_) hs;exact zF I1 hN hi hx r1 (fun s2 I2=>⟨_,H1,I2,q1⟩) hf
end
section
variable {X:Cx}{pos:Pos}
def aLp(c:TT)(tb:TS):TS:=fun D σ H=>∃ W:Nat->St->Hp->Prop,(∃ m,W m σ H)/\∀ m σ H,W m σ H ->
 c σ H fun b H1=>if b=true then ∃ N:St->Hp->Prop,(∀ σ' H',N σ' H'->∃ m',m'<m/\W m' σ' H')/\tb { D with nx:=N,ct:=N,bk:=D.nx } σ H1 else D.nx σ H1
def PD{c:Expr}{body:List Stmt}{tc:TT}{tb:TS}(hp:aVg X)(hc:PT X c tc)(hb:PSs X body tb):PS X (.While c body [] pos) (aLp tc tb):=by
 rw[24];obtain⟨W,⟨m0,w0⟩,turn⟩:=h;refine wpAny_While (codeAny_whileLoop (fun n s'=>∃ σ' H',Inv X pins σ' H' s'/\W n σ' H') ?_ m0 ⟨σ,H,I,w0⟩);rintro n s1 ⟨σ1,H1,I1,w1⟩;refine aV2 hp (thn (hc pins s1 σ1 H1 _ I1 (turn n σ1 H1 w1)) fun b s2 ⟨H2,I2,q2⟩=>?_);cases b with
 | true=>
  obtain⟨N,hN,q2⟩:=q2;rw[aUc rfl];refine aV2 hp (thn (hb pins s2 σ1 H2 _ I2 q2) fun f s3 q3=>?_);cases f with
  | next=>
   obtain⟨σ3,H3,I3,n3⟩:=q3;obtain⟨m',hm,w3⟩:=hN σ3 H3 n3;exact⟨m',hm,σ3,H3,I3,w3⟩
  | cont=>
   obtain⟨σ3,H3,I3,n3⟩:=q3;obtain⟨m',hm,w3⟩:=hN σ3 H3 n3;exact⟨m',hm,σ3,H3,I3,w3⟩
  | brk=>exact q3
  | ret v=>exact q3
 | false=>
  rw[aUd aSf];exact aV1 ⟨σ1,H2,I2,q2⟩
end
structure It where
 go:Nat->Hp->Prop
 yld:Nat->Hp->V->Hp->Prop
 stop:Nat->Hp->Prop
def cX(X:Cx)(pins:List (Addr × Obj))(H:Hp)(b:Addr):Prop:=
 H b=none/\b≠X.env.locals/\b ∉ X.fs/\(b∈X.ex\/X.s₀.heap.objs.size<=b)/\(∀ x c,X.env.cells.lookup x=some c->c≠b)/\∀ p∈X.pn++pins,p.1≠b
def Inv.fpOk{X:Cx}{pins:List (Addr × Obj)}{σ:St}{H H':Hp}{s:Shared}{b:Addr}(I:Inv X pins σ H s)(hb:s.heap.objs.size<=b)(hn:H' b=none):cX X pins H' b:=by
 refine⟨hn,aTz (aS3 I.lt hb),I.nofs hb,.inr (aTt I.sz hb),fun x c e z=>?_,fun p hp z=>?_⟩
 ·obtain⟨v,q⟩:=I.cell x c e
  exact absurd (aS3 q.lt (by rw[z];exact hb)) (aTu _)
 ·exact absurd (aS3 (aSi (I.pin p hp).1) (by rw[z];exact hb)) (aTu _)
structure Turn(P:Program)(w:World)(K:PySem.W.Frag)(tg:Expr)(J:It)(fp:List Addr)(it:Addr)(tn:Nat->Heap->Prop):Prop where
 mem:it∈fp
 obj:∀ i h,tn i h->∀ b∈fp,∃ o,h.get? b=some o/\∀ v,o.data≠.cell v
 keep:∀ i h h',tn i h->(∀ b∈fp,∀ o,h.get? b=some o->h'.get? b=some o)->tn i h'
 item:∀ (X:Cx),X.prog=P->X.w=w->X.K=K->X.calm=true->∀ (i:Nat) (pins:List (Addr × Obj)) (s:Shared) (σ:St) (H:Hp) (E:Value->Shared->Prop),Inv X pins σ H s->(∀ b∈fp,cX X pins H b)->tn i s.heap->J.go i H ->
  wpAny (model P w) X.A (pyNext (.ref it)) (fun r s1=>∃ u,r=some u /\
   wpAny (model P w) X.A (letOwnedTupleGo tg (.ref it) u) (fun _ s2=>∃ x H',Inv X pins σ H' s2/\bB x u/\J.yld i H x H'/\tn (i+1) s2.heap/\∀ b∈fp,H' b=none) E s1) E s
 done:∀ (X:Cx),X.prog=P->X.w=w->X.K=K->X.calm=true->∀ (i:Nat) (pins:List (Addr × Obj)) (s:Shared) (σ:St) (H:Hp) (E:Value->Shared->Prop),Inv X pins σ H s->(∀ b∈fp,cX X pins H b)->tn i s.heap->J.stop i H ->
  wpAny (model P w) X.A (pyNext (.ref it)) (fun r s1=>r=none/\Inv X pins σ H s1) E s
 self:∀ (A:Around) (i:Nat) (s:Shared) (Q:Value->Shared->Prop) (E:Value->Shared->Prop),tn i s.heap->Q (.ref it) s->wpAny (model P w) A (pyIter (.ref it)) Q E s
abbrev TI:=St->Hp->(It->Hp->Prop)->Prop
def PIE(X:Cx)(pins:List (Addr × Obj))(σ:St)(tg:Expr)(R:It->Hp->Prop)(itv:Value)(s2:Shared):Prop:=
 ∃ (it:Addr) (fp:List Addr) (tn:Nat->Heap->Prop) (J:It) (H':Hp),itv=.ref it/\Inv X pins σ H' s2/\Turn X.prog X.w X.K tg J fp it tn/\tn 0 s2.heap/\(∀ b∈fp,cX X pins H' b)/\R J H'
def PI(X:Cx)(tg iter:Expr)(wi:TI):Prop:=
 ∀ (pins:List (Addr × Obj)) (s:Shared) (σ:St) (H:Hp) (R:It->Hp->Prop),Inv X pins σ H s->wi σ H R ->
  wpAny (model X.prog X.w) X.A (eval iter X.env) (fun v s1=>wpAny (model X.prog X.w) X.A (pyIter v) (PIE X pins σ tg R) X.xe s1) X.xe s
theorem tO{M:Model}{A:Around}{E:Value->Shared->Prop}{s:Shared}{tg:Expr}{it:Addr}{u:Value}{o:Obj}{n:String}{vs:Array Value}{Q:Unit->Shared->Prop}(ho:s.heap.get? it=some o)(hc:o.cls=.type n)(hd:o.data=.fields vs)
    (hn:["enumerate","zip","dict_itemiterator","dict_reverseitemiterator","odict_iterator","itertools.zip_longest","itertools.pairwise"].contains n=false) (hQ:Q () s):wpAny M A (letOwnedTupleGo tg (.ref it) u) Q E s:=by
  unfold letOwnedTupleGo;cases tg<;>first
    | exact aUa hQ
    | (cases u<;>first
        | exact aUa hQ
        | (refine aU9 (wpAny_load ho ?_)
           rw[hc,hd];show wpAny M A (if (["enumerate","zip","dict_itemiterator","dict_reverseitemiterator","odict_iterator","itertools.zip_longest","itertools.pairwise"].contains n&&vs[0]? == some (rawInt _))=true then _ else _) Q E s;rw[aUd (by intro h;rw[hn,Bool.false_and] at h;cases h)];exact aUa hQ))
noncomputable def Itl(K:PySem.W.Frag)(a:Addr):It:=
 ⟨fun i H=>∃ xs x,SqL K H a xs/\xs[i]?=some x,fun i H x H'=>H'=H/\∀ xs,SqL K H a xs->xs[i]?=some x,fun i H=>∃ xs,SqL K H a xs/\xs.length<=i⟩
noncomputable def Itt(K:PySem.W.Frag)(a:Addr):It:=
 ⟨fun i H=>∃ xs x,SqT K H a xs/\xs[i]?=some x,fun i H x H'=>H'=H/\∀ xs,SqT K H a xs->xs[i]?=some x,fun i H=>∃ xs,SqT K H a xs/\xs.length<=i⟩
noncomputable def Itr(lo:Int)(n:Nat):It:=⟨fun i _=>i<n,fun i H x H'=>H'=H/\x=.int (lo+i),fun i _=>n<=i⟩
def TH{P:Program}{w:World}{K:PySem.W.Frag}{tg:Expr}(a it:Addr):Turn P w K tg (Itl K a) [it] it (fun i h=>h.IsListIter it a i) where
 mem:=by simp
 obj:=fun i h st b hb=>by
  have e:b=it:=by simpa using hb
  subst e;obtain⟨o,e,c,d⟩:=st;rw[23]
 keep:=fun i h h' st k=>st.at fun o e=>k it (by simp) o e
 item:=by
  rw[1];rw[28];obtain⟨xs,x,hq,hx⟩:=hg;obtain⟨its,rv,p,hz⟩:=I.list hq;obtain⟨u,hu,ru⟩:=rv.get hx;rw[8];refine wpAny_pyNext_list_item st p.isList (x:=u) (by simpa using hu) fun h' st' sb=>?_;rw[75];exact⟨u,rfl,tO (s:={ s with heap:=h' }) e c d (by decide) ⟨x,H,I1,ru,⟨rfl,fun ys hy=>by rw[I.list_inj hy hq];exact hx⟩,st',fun b hb=>(hf b hb).1⟩⟩
 done:=by
  rw[1];rw[28];obtain⟨xs,hq,hx⟩:=hg;obtain⟨its,rv,p,hz⟩:=I.list hq;rw[8];have hl:=rv.length;exact wpAny_pyNext_list_end (I.ok.hd hc) st p.isList (by simp;lia) fun h' eb=>⟨rfl,I.turned (t':=s.toks) (fun b o hb e=>eb b o hb e) f0 f1 f3 f4 f5⟩
 self:=fun _ _ _ _ _ st h=>wpAny_pyIter_listiter st h
def aMc{P:Program}{w:World}{K:PySem.W.Frag}{tg:Expr}(a it:Addr):Turn P w K tg (Itt K a) [it] it (fun i h=>h.IsTupleIter it a i) where
 mem:=by simp
 obj:=fun i h st b hb=>by
  have e:b=it:=by simpa using hb
  subst e;obtain⟨o,e,c,d⟩:=st;rw[23]
 keep:=fun i h h' st k=>st.at fun o e=>k it (by simp) o e
 item:=by
  rw[1];rw[28];obtain⟨xs,x,hq,hx⟩:=hg;obtain⟨its,rv,p,hz⟩:=I.tuple hq;obtain⟨u,hu,ru⟩:=rv.get hx;rw[8];refine wpAny_pyNext_tuple_item st (show s.heap.IsTuple a its.toArray from p) (x:=u) (by simpa using hu) fun h' st' sb=>?_;rw[75];exact⟨u,rfl,tO (s:={ s with heap:=h' }) e c d (by decide) ⟨x,H,I1,ru,⟨rfl,fun ys hy=>by rw[I.tuple_inj hy hq];exact hx⟩,st',fun b hb=>(hf b hb).1⟩⟩
 done:=by
  rw[1];rw[28];obtain⟨xs,hq,hx⟩:=hg;obtain⟨its,rv,p,hz⟩:=I.tuple hq;rw[8];have hl:=rv.length;exact wpAny_pyNext_tuple_end (I.ok.hd hc) st (show s.heap.IsTuple a its.toArray from p) (by simp;lia) fun h' eb=>⟨rfl,I.turned (t':=s.toks) (fun b o hb e=>eb b o hb e) f0 f1 f3 f4 f5⟩
 self:=fun _ _ _ _ _ st h=>wpAny_pyIter_tupleiter st h
def aM9{P:Program}{w:World}{K:PySem.W.Frag}{tg:Expr}(it:Addr)(lo:Int)(n:Nat):Turn P w K tg (Itr lo n) [it] it (fun i h=>IsRangeIter h it (lo+(i:Nat)*1) ((n:Int)-(i:Nat)) 1) where
 mem:=by simp
 obj:=fun i h st b hb=>by
  have e:b=it:=by simpa using hb
  subst e;exact⟨_,st,fun v z=>by
   have z':Data.fields _=Data.cell v:=z;cases z'⟩
 keep:=fun i h h' st k=>k it (by simp) _ st
 item:=by
  rw[1];rw[28];rw[8];have W:=Walks.range (prog:=X.prog) (w:=X.w) (I.ok.hd hc) it lo 1 n;refine W.item i s _ _ hg st fun v h' tk hv st' kk=>?_;obtain⟨t,rfl⟩:=hv;have I1:Inv X pins σ H { s with heap:=h',toks:=tk }:=I.turned (fun b o hb e=>kk b o (by simpa using hb) e) f0 f1 f3 f4 f5;refine⟨_,rfl,tO (s:={ s with heap:=h',toks:=tk }) (n := "range_iterator") st' rfl rfl (by decide) ⟨.int (lo+i),H,I1,⟨t,?_⟩,⟨rfl,rfl⟩,st',fun b hb=>(hf b hb).1⟩⟩;rw[Int.mul_one]
 done:=by
  rw[1];rw[28];rw[8];exact wpAny_pyNext_range_end (I.ok.hd hc) st (by have:n<=i:=hg;lia) fun h' eb=>⟨rfl,I.turned (t':=s.toks) (fun b o hb e=>eb b o hb e) f0 f1 f3 f4 f5⟩
 self:=fun _ _ _ _ _ st h=>wpAny_pyIter_rangeiter st h
section
variable {X:Cx}{tg:Expr}
def aCp(K:PySem.W.Frag)(tl:TE):TI:=fun σ H R=>tl σ H fun x H1=>∃ a,x=.ref a/\(∃ xs,SqL K H1 a xs)/\R (Itl K a) H1
def aCr(K:PySem.W.Frag)(tl:TE):TI:=fun σ H R=>tl σ H fun x H1=>∃ a,x=.ref a/\(∃ xs,SqT K H1 a xs)/\R (Itt K a) H1
def aI2{l:Expr}{tl:TE}(hl:PE X l tl):PI X tg l (aCp X.K tl):=by
 intro pins s σ H R I h;refine thn (hl pins s σ H _ I h) fun v s1 ⟨x,H1,I1,r1,q1⟩=>?_;obtain⟨a,e,⟨xs,hq⟩,q⟩:=q1;subst e;cases r1;obtain⟨its,rv,p,hz⟩:=I1.list hq;refine aUs p.isList ?_;refine⟨s1.heap.objs.size,[s1.heap.objs.size],_,_,H1,rfl,I1.kept (t':=s1.toks) fun b o e=>aS6 _ e,TH a _,⟨_,aSh _ rfl,rfl,rfl⟩,fun b hb=>?_,q⟩;have e:b=s1.heap.objs.size:=by simpa using hb
 subst e;rw[29]
def aI4{l:Expr}{tl:TE}(hl:PE X l tl):PI X tg l (aCr X.K tl):=by
 intro pins s σ H R I h;refine thn (hl pins s σ H _ I h) fun v s1 ⟨x,H1,I1,r1,q1⟩=>?_;obtain⟨a,e,⟨xs,hq⟩,q⟩:=q1;subst e;cases r1;obtain⟨its,rv,p,hz⟩:=I1.tuple hq;refine aVb (show s1.heap.IsTuple a its.toArray from p) ?_;refine⟨s1.heap.objs.size,[s1.heap.objs.size],_,_,H1,rfl,I1.kept (t':=s1.toks) fun b o e=>aS6 _ e,aMc a _,⟨_,aSh _ rfl,rfl,rfl⟩,fun b hb=>?_,q⟩;have e:b=s1.heap.objs.size:=by simpa using hb
 subst e;rw[29]
def aJa{pins:List (Addr × Obj)}{σ:St}{H:Hp}{s:Shared}{R:It->Hp->Prop}{E:Value->Shared->Prop}{lo hi:Int}{t u v:Tok}{tk:Nat}(I:Inv X pins σ H s)(h1 : -(2^62)<=lo)(h2:lo<2^62)(h3 : -(2^62)<=hi)(h4:hi<2^62)
  (q:R (Itr lo (hi-lo).toNat) H):wpAny (model X.prog X.w) X.A (pyIter (.ref s.heap.objs.size)) (PIE X pins σ tg R) E { s with heap:=s.heap.push { cls:=.type "range",data:=.fields #[.int lo t,.int hi u,.int 1 v] },toks:=tk }:=by
 refine wpAny_pyIter_range (IsRange.new ..) (small_one h1 h2 h3 h4) ?_;have I1:Inv X pins σ H { s with heap:=s.heap.push { cls:=.type "range",data:=.fields #[.int lo t,.int hi u,.int 1 v] },toks:=tk }:=I.kept fun b o e=>aS6 _ e;refine⟨(s.heap.push { cls:=.type "range",data:=.fields #[.int lo t,.int hi u,.int 1 v] }).objs.size,[(s.heap.push { cls:=.type "range",data:=.fields #[.int lo t,.int hi u,.int 1 v] }).objs.size],_,_,H,rfl,
  I1.kept (t':=tk) fun b o e=>aS6 _ e,aM9 _ lo (hi-lo).toNat,?_,fun b hb=>?_,q⟩
 ·have e1:lo+((0:Nat):Int)*1=lo:=by simp
  have e2:(((hi-lo).toNat:Nat):Int)-((0:Nat):Int)=Builtin.Range.rangeSize lo hi 1:=by rw[rangeSize_one];split<;>lia
  show IsRangeIter _ _ (lo+((0:Nat):Int)*1) ((((hi-lo).toNat:Nat):Int)-((0:Nat):Int)) 1;rw[e1,e2];exact aSh _ rfl
 ·have e:b=(s.heap.push { cls:=.type "range",data:=.fields #[.int lo t,.int hi u,.int 1 v] }).objs.size:=by simpa using hb
  subst e;rw[29]
def aCq(ta:TA):TI:=fun σ H R=>ta σ H fun vs H1=>∃ j:Int,vs=[.int j] /\ -(2^62)<=j/\j<2^62/\R (Itr 0 j.toNat) H1
def aI3{a:Expr}{ta:TA}{p pos:Pos}(hg:Gl X "range")(hm:X.mg "range" = none)(ha:PA X [a] ta)(hs:starEach [a] X.env=[(false,eval a X.env)]:=by rfl):PI X tg (.Call (.Name "range" p) [a] [] pos) (aCq ta):=by
 intro pins s σ H R I h;refine Call_ (qU I hg hm boot_range (PyProof.Rows.callWith_type1 (thn (ha pos pins s σ H _ I h) fun us s1 ⟨vs,H1,I1,r1,q1⟩=>?_) hs rfl));obtain⟨j,e,q1,q2,q⟩:=q1;subst e;cases r1 with
 | cons r rr=>
  cases rr;obtain⟨t,rfl⟩:=r;exact call_range_1 (aJa I1 (by lia) (by lia) q1 q2 (by simpa using q))
def aL5(wi:TI)(g:TG)(tb:TS):TS:=fun D σ H=>wi σ H fun J H1=>∃ W:Nat->Nat->St->Hp->Prop,(∃ m,W 0 m σ H1)/\∀ i m σ H,W i m σ H ->
 (J.stop i H/\D.nx σ H)\/(J.go i H/\∃ N:St->Hp->Prop,(∀ σ' H',N σ' H'->∃ m',m'<m/\W (i+1) m' σ' H')/\∀ x H',J.yld i H x H'->g x σ H' fun σ2 H2=>tb { D with nx:=N,ct:=N,bk:=D.nx } σ2 H2)
noncomputable def rJ(fp:List Addr)(h:Heap):List (Addr × Obj):=fp.filterMap fun b=>(h.get? b).map fun o=>(b,o)
def qX{fp:List Addr}{h:Heap}{b:Addr}{o:Obj}(hb:b∈fp)(e:h.get? b=some o):(b,o)∈rJ fp h:=aTi.mpr ⟨b,hb,by rw[e];rfl⟩
def aFj{fp:List Addr}{h:Heap}{p:Addr × Obj}(hp:p∈rJ fp h):p.1∈fp/\h.get? p.1=some p.2:=by
 obtain⟨b,hb,e⟩:=aTi.mp hp;cases q:h.get? b with
 | none=>rw[q] at e;cases e
 | some o=>
  rw[q] at e;have e':(b,o)=p:=aRv e;subst e';exact⟨hb,q⟩
def Inv.pinned{pins:List (Addr × Obj)}{σ:St}{H:Hp}{s:Shared}{fp:List Addr}(I:Inv X pins σ H s)(hf:∀ b∈fp,cX X pins H b)(ho:∀ b∈fp,∃ o,s.heap.get? b=some o/\∀ v,o.data≠.cell v):Inv X (pins++rJ fp s.heap) σ H s:=
 I.pins_of fun p hp=>(aTf.mp hp).elim (fun z=>I.pin p (aTh _ z)) fun z=>by
  obtain⟨hb,e⟩:=aFj z;obtain⟨f0,f1,f2,_⟩:=hf p.1 hb;obtain⟨o,e',d⟩:=ho p.1 hb;rw[e] at e';cases e';exact⟨e,f0,f1,f2,d⟩
def Inv.unpinned{pins pl:List (Addr × Obj)}{σ:St}{H:Hp}{s:Shared}(I:Inv X (pins++pl) σ H s):Inv X pins σ H s:=I.pins_of fun p hp=>I.pin p (aTh _ (aTg _ hp))
theorem DP{iter:Expr}{body:List Stmt}{wi:TI}{g:TG}{tb:TS}{pos:Pos}(hp:aVg X)(hc:X.calm=true)(hi:PI X tg iter wi)(hg:PG X tg g)(hb:PSs X body tb)
  (hs:aVf X iter:=by intro _;rfl):PS X (.For tg iter body [] pos) (aL5 wi g tb):=by
 rw[24];refine wpAny_For (thn (hi pins s σ H _ I h) fun v s1 h1=>thn h1 fun itv s2 h2=>?_) hs;obtain⟨it,fp,tn,J,H2,e,I2,T,st2,f2,W,⟨m0,w0⟩,turn⟩:=h2;subst e;have stat:∀ {H':Hp},(∀ b∈fp,H' b=none)->∀ b∈fp,cX X pins H' b:=fun hn b hb=>⟨hn b hb,(f2 b hb).2⟩;refine codeAny_forLoop_any (fun n s'=>∃ i σ' H',Inv X pins σ' H' s'/\tn i s'.heap/\(∀ b∈fp,H' b=none)/\W i n σ' H') ?_ m0 ⟨0,σ,H2,I2,st2,fun b hb=>(f2 b hb).1,w0⟩;rintro n s3 ⟨i,σ3,H3,I3,st3,fr3,w3⟩;rcases turn i n σ3 H3 w3 with ⟨stop,qn⟩ | ⟨go,N,hN,step⟩
 ·refine aV2 hp (thn (T.done X rfl rfl rfl hc i pins s3 σ3 H3 X.xe I3 (stat fr3) st3 stop) fun r s4 ⟨hr,I4⟩=>?_)
  subst hr;exact aV1 ⟨σ3,H3,I4,qn⟩
 ·refine aV2 hp (thn (T.item X rfl rfl rfl hc i pins s3 σ3 H3 X.xe I3 (stat fr3) st3 go) fun r s4 ⟨u,hr,h4⟩=>?_)
  subst hr;refine aV2 hp (thn h4 fun _ s5 ⟨x,H5,I5,r5,y5,st5,fr5⟩=>?_);have I5':=I5.pinned (stat fr5) (T.obj _ _ st5);refine aV2 hp (thn (hg _ s5 σ3 H5 x u _ I5' r5 (step x H5 y5)) fun _ s6 ⟨σ6,H6,I6,q6⟩=>?_);refine aV2 hp (thn (hb _ s6 σ6 H6 _ I6 q6) fun f s7 q7=>?_);have again:∀ {σ7:St} {H7:Hp},Inv X (pins++rJ fp s5.heap) σ7 H7 s7->N σ7 H7->∃ m,m<n/\∃ i σ' H',Inv X pins σ' H' s7/\tn i s7.heap/\(∀ b∈fp,H' b=none)/\W i m σ' H':=fun {σ7 H7} I7 n7=>by
   obtain⟨m',hm,w7⟩:=hN σ7 H7 n7;refine⟨m',hm,i+1,σ7,H7,I7.unpinned,T.keep _ _ _ st5 fun b hb o e=>(I7.pin (b,o) (aTh _ (aTh _ (qX hb e)))).1,fun b hb=>?_,w7⟩;obtain⟨o,e,d⟩:=T.obj _ _ st5 b hb;exact (I7.pin (b,o) (aTh _ (aTh _ (qX hb e)))).2.1
  cases f with
  | next=>obtain⟨σ7,H7,I7,n7⟩:=q7;exact again I7 n7
  | cont=>obtain⟨σ7,H7,I7,n7⟩:=q7;exact again I7 n7
  | brk=>obtain⟨σ7,H7,I7,q7⟩:=q7;exact⟨σ7,H7,I7.unpinned,q7⟩
  | ret v=>obtain⟨x7,σ7,H7,I7,r7,q7⟩:=q7;exact⟨x7,σ7,H7,I7.unpinned,r7,q7⟩
end
abbrev R2:=V->V->Hp->VK->Prop
def OpR(X:Cx)(f:Value->Value->Sem Value)(r:R2):Prop:=
 ∀ (pins:List (Addr × Obj)) (s:Shared) (σ:St) (H:Hp) (x y:V) (v u:Value) (Q:VK),Inv X pins σ H s->bB x v->bB y u->r x y H Q ->
  wpAny (model X.prog X.w) X.A (f v u) (EP X pins σ Q) X.xe s
def eF(X:Cx)(f:Value)(r:List V->Hp->VK->Prop):Prop:=
 ∀ (pins:List (Addr × Obj)) (s:Shared) (σ:St) (H:Hp) (xs:List V) (us:List Value) (Q:VK),Inv X pins σ H s->aQ xs us->r xs H Q ->
  wpAny (model X.prog X.w) X.A (call f us) (EP X pins σ Q) X.xe s
def VU(X:Cx)(r:V->Hp->(Bool->Hp->Prop)->Prop):Prop:=
 ∀ (pins:List (Addr × Obj)) (s:Shared) (σ:St) (H:Hp) (x:V) (v:Value) (Q:Bool->Hp->Prop),Inv X pins σ H s->bB x v->r x H Q ->
  wpAny (model X.prog X.w) X.A (truthy v) (TP X pins σ Q) X.xe s
def tOp(r:R2)(ta tb:TE):TE:=fun σ H Q=>ta σ H fun x H1=>tb σ H1 fun y H2=>r x y H2 Q
def rI(C:Int->Int->Prop)(g:Int->Int->V):R2:=fun x y H Q=>∃ i j,x=.int i/\y=.int j/\C i j/\Q (g i j) H
def rI0(g:Int->Int->V):R2:=fun x y H Q=>∃ i j,x=.int i/\y=.int j/\Q (g i j) H
section
variable {X:Cx}{a b c:Expr}{ta tb tc:TE}{pos:Pos}
def vS(ha:PE X a ta)(hb:PE X b tb){pins:List (Addr × Obj)}{s:Shared}{σ:St}{H:Hp}{R:V->V->Hp->Prop}(I:Inv X pins σ H s)
  (h:ta σ H fun x H1=>tb σ H1 fun y H2=>R x y H2) {Q:Value->Shared->Prop} {f:Value->Value->Sem Value}
  (hf:∀ v u s2 x y H2,Inv X pins σ H2 s2->bB x v->bB y u->R x y H2->wpAny (model X.prog X.w) X.A (f v u) Q X.xe s2):
  wpAny (model X.prog X.w) X.A (eval a X.env) (fun v s₁=>wpAny (model X.prog X.w) X.A (eval b X.env) (fun u s₂=>wpAny (model X.prog X.w) X.A (f v u) Q X.xe s₂) X.xe s₁) X.xe s:=by
 refine thn (ha pins s σ H _ I h) fun v s1 ⟨x,H1,I1,r1,q1⟩=>?_;refine thn (hb pins s1 σ H1 _ I1 q1) fun u s2 ⟨y,H2,I2,r2,q2⟩=>?_;exact hf v u s2 x y H2 I2 r1 r2 q2
def DI{op:Operator}{r:R2}(ho:OpR X (binaryOp op) r)(ha:PE X a ta)(hb:PE X b tb):PE X (.BinOp a op b pos) (tOp r ta tb):=by
 rw[2];exact wpAny_BinOp (vS ha hb I h fun v u s2 x y H2 I2 rx ry q=>ho pins s2 σ H2 x y v u Q I2 rx ry q)
def opI{f:Value->Value->Sem Value}{C:Int->Int->Prop}{g:Int->Int->Int}
  (rule:∀ (i j:Int) (t u:Tok) (s:Shared) (Q:Value->Shared->Prop) (E:Value->Shared->Prop),C i j->Q (.int (g i j) s.toks) { s with toks:=s.toks+1 }->wpAny (model X.prog X.w) X.A (f (.int i t) (.int j u)) Q E s):
  OpR X f (rI C fun i j=>.int (g i j)):=by
 rw[7];obtain⟨i,j,rfl,rfl,hc,q⟩:=h;rw[17];rw[34];exact rule i j t t' s _ _ hc ⟨.int (g i j),H,I.tok _,⟨_,rfl⟩,q⟩
def xE{f:Value->Value->Sem Value}{g:Int->Int->Int}
  (rule:∀ (i j:Int) (t u:Tok) (s:Shared) (Q:Value->Shared->Prop) (E:Value->Shared->Prop),Q (.int (g i j) s.toks) { s with toks:=s.toks+1 }->wpAny (model X.prog X.w) X.A (f (.int i t) (.int j u)) Q E s):
  OpR X f (rI0 fun i j=>.int (g i j)):=by
 rw[7];obtain⟨i,j,rfl,rfl,q⟩:=h;rw[17];rw[34];exact rule i j t t' s _ _ ⟨.int (g i j),H,I.tok _,⟨_,rfl⟩,q⟩
def xD{f:Value->Value->Sem Value}{g:Int->Int->Bool}
  (rule:∀ (i j:Int) (t u:Tok) (s:Shared) (Q:Value->Shared->Prop) (E:Value->Shared->Prop),Q (.bool (g i j)) s->wpAny (model X.prog X.w) X.A (f (.int i t) (.int j u)) Q E s):
  OpR X f (rI0 fun i j=>.bl (g i j)):=by
 rw[7];obtain⟨i,j,rfl,rfl,q⟩:=h;rw[17];rw[34];exact rule i j t t' s _ _ ⟨.bl (g i j),H,I,rfl,q⟩
def GZ(i j:Int):Prop:=0<=j/\j<=1000000/\i.natAbs<2^64
def aMf(k:Nat):(0:Int)<=2^k:=by
 rw[two_pow_cast];exact Int.natCast_nonneg _
def aGx:OpR X (binaryOp .Add) (rI0 fun i j=>.int (i+j)):=xE fun _ _ _ _ _ _ _ q=>add_int q
def aHd:OpR X (binaryOp .Sub) (rI0 fun i j=>.int (i-j)):=xE fun _ _ _ _ _ _ _ q=>sub_int q
def aH6:OpR X (binaryOp .Mod) (rI (fun _ j=>0<j) fun i j=>.int (i%j)):=opI fun i j _ _ _ _ _ hc q=>by
 have h1:(0:Int)<j:=hc;exact mod_int' (by lia) (by rw[Int.fmod_eq_emod_of_nonneg i (by lia)];exact q)
def aHb:OpR X (binaryOp .LShift) (rI GZ fun i j=>.int (i*2^j.toNat)):=opI fun _ _ _ _ _ _ _ hc q=>lshift_int_small hc.1 hc.2.1 hc.2.2 q
def aHc:OpR X (binaryOp .RShift) (rI (fun _ j=>0<=j) fun i j=>.int (i / 2^j.toNat)):=opI fun i j _ _ _ _ _ hc q=>
 rshift_int hc (by rw[Int.fdiv_eq_ediv_of_nonneg i (aMf _)];exact q)
def aGz:OpR X (binaryOp .BitAnd) (rI0 fun i j=>.int (Builtin.bitAnd i j)):=xE fun _ _ _ _ _ _ _ q=>and_int q
def aH8:OpR X (binaryOp .BitOr) (rI0 fun i j=>.int (Builtin.bitOr i j)):=xE fun _ _ _ _ _ _ _ q=>or_int q
end
noncomputable def scal:V->V->Bool
 | .non,.non=>true | .non,.int _=>true | .int _,.non=>true | .non,.bl _=>true | .bl _,.non=>true | .non,.str _=>true | .str _,.non=>true
 | .int _,.int _=>true | .bl _,.bl _=>true | .str _,.str _=>true | .byt _,.byt _=>true
 | .int _,.str _=>true | .str _,.int _=>true | .bl _,.str _=>true | .str _,.bl _=>true
 | _,_=>false
def rEq:R2:=fun x y H Q=>scal x y=true/\Q (.bl (decide (x=y))) H
def YD{i j:Int}:decide (V.int i=V.int j)=(i == j):=by
 rw[aSd];simp
def YB{i j:Bool}:decide (V.bl i=V.bl j)=(i == j):=by
 rw[aSd];simp
def YE{i j:Str}:decide (V.str i=V.str j)=(i == j):=by
 rw[aSd];simp
def YC{i j:Array UInt8}:decide (V.byt i=V.byt j)=(i.toList == j.toList):=by
 rw[aSd];cases i;cases j;simp
section
variable {X:Cx}{a b c:Expr}{ta tb tc:TE}{pos:Pos}
def dW{pins:List (Addr × Obj)}{σ:St}{H:Hp}{s:Shared}{Q:VK}{k k':Bool}(I:Inv X pins σ H s)(q:Q (.bl k) H)(e:k=k'):EP X pins σ Q (.bool k') s:=by
 subst e;exact⟨.bl k,H,I,rfl,q⟩
def aH1:OpR X (compareOp .Eq) rEq:=by
 rw[7];obtain⟨hs,q⟩:=h;cases x with
 | non=>
  cases rx;cases y with
  | non=>cases ry;exact PySem.EqNone.eq_none_none (dW I q (by simp))
  | bl j=>cases ry;exact PySem.EqNone.eq_none_bool (dW I q (by simp))
  | int j=>obtain⟨t',rfl⟩:=ry;exact PySem.EqNone.eq_none_int (dW I q (by simp))
  | str j=>obtain⟨t',rfl⟩:=ry;exact PySem.EqNone.eq_none_str (dW I q (by simp))
  | _=>exact absurd (show false=true from hs) aSf
 | bl i=>
  cases rx;cases y with
  | non=>cases ry;exact PySem.EqNone.eq_bool_none (dW I q (by simp))
  | bl j=>cases ry;exact eq_bool (dW I q YB)
  | str j=>obtain⟨t',rfl⟩:=ry;exact PySem.EqMixed.eq_bool_str (dW I q (by simp))
  | _=>exact absurd (show false=true from hs) aSf
 | int i=>
  rw[17];cases y with
  | non=>cases ry;exact PySem.EqNone.eq_int_none (dW I q (by simp))
  | int j=>obtain⟨t',rfl⟩:=ry;exact eq_int (dW I q YD)
  | str j=>obtain⟨t',rfl⟩:=ry;exact PySem.EqMixed.eq_int_str (dW I q (by simp))
  | _=>exact absurd (show false=true from hs) aSf
 | str i=>
  rw[17];cases y with
  | non=>cases ry;exact PySem.EqNone.eq_str_none (dW I q (by simp))
  | bl j=>cases ry;exact PySem.EqMixed.eq_str_bool (dW I q (by simp))
  | int j=>obtain⟨t',rfl⟩:=ry;exact PySem.EqMixed.eq_str_int (dW I q (by simp))
  | str j=>obtain⟨t',rfl⟩:=ry;exact eq_str (dW I q YE)
  | _=>exact absurd (show false=true from hs) aSf
 | byt i=>
  rw[17];cases y with
  | byt j=>obtain⟨t',rfl⟩:=ry;exact PySem.W.eq_bytes (dW I q YC)
  | _=>exact absurd (show false=true from hs) aSf
 | _=>cases y<;>exact absurd (show false=true from hs) aSf
def aH5:OpR X (compareOp .Lt) (rI0 fun i j=>.bl (decide (i<j))):=xD fun _ _ _ _ _ _ _ q=>lt_int q
def aH4:OpR X (compareOp .LtE) (rI0 fun i j=>.bl (decide (i<=j))):=xD fun _ _ _ _ _ _ _ q=>le_int q
def OE:OpR X (compareOp .Gt) (rI0 fun i j=>.bl (decide (j<i))):=xD fun _ _ _ _ _ _ _ q=>gt_int q
def aH2:OpR X (compareOp .GtE) (rI0 fun i j=>.bl (decide (j<=i))):=xD fun _ _ _ _ _ _ _ q=>ge_int q
def aH3:OpR X (compareOp .In) (fun x y H Q=>∃ i j,x=.str i/\y=.str j/\Q (.bl (!(Builtin.Str.occurrences j i 0 j.length 1).isEmpty)) H):=by
 rw[7];obtain⟨i,j,rfl,rfl,q⟩:=h;rw[17];rw[34];exact in_str (dW I q rfl)
def OG:OpR X (compareOp .Is) (fun x y H Q=>y=.non/\Q (.bl (decide (x=.non))) H):=by
 rw[7];obtain⟨rfl,q⟩:=h;cases ry;refine is_none_gen (dW I q ?_);cases x<;>first
  | (cases rx;rfl)
  | (obtain⟨t,rfl⟩:=rx;rfl)
def jX(b:Expr){op:CmpOp}(h:op≠.In:=by decide)(h2:op≠.NotIn:=by decide):behindInMarks op b=false:=by
 have e1:(op == CmpOp.In)=false:=by cases op<;>first | rfl | exact absurd rfl h
 have e2:(op == CmpOp.NotIn)=false:=by cases op<;>first | rfl | exact absurd rfl h2
 cases b<;>simp[behindInMarks,e1,e2]
def ON{op:CmpOp}{r:R2}(ho:OpR X (compareOp op) r)(ha:PE X a ta)(hb:PE X b tb)(hm:behindInMarks op b=false):PE X (.Compare a [op] [b] pos) (tOp r ta tb):=by
 rw[2];exact wpAny_Compare1 (vS ha hb I h fun v u s2 x y H2 I2 rx ry q=>ho pins s2 σ H2 x y v u Q I2 rx ry q) hm
def aLm(t:TE):TT:=fun σ H Q=>t σ H fun x H'=>∃ k,x=.bl k/\Q k H'
def DR{op:CmpOp}{r:R2}(ho:OpR X (compareOp op) r)(ha:PE X a ta)(hb:PE X b tb)(hm:behindInMarks op b=false):PT X (.Compare a [op] [b] pos) (aLm (tOp r ta tb)):=by
 rw[2];refine wpAny_isTrue_Compare1 (thn (ha pins s σ H _ I h) fun v s1 ⟨x,H1,I1,r1,q1⟩=>thn (hb pins s1 σ H1 _ I1 q1) fun u s2 ⟨y,H2,I2,r2,q2⟩=>
  thn (ho pins s2 σ H2 x y v u _ I2 r1 r2 q2) fun c s3 ⟨z,H3,I3,r3,k,e,q3⟩=>?_) hm
 subst e;cases r3;exact aUy ⟨H3,I3,q3⟩
def AB(K:PySem.W.Frag)(x:V)(H:Hp)(k:Bool):Prop:=
 match x with
 | .non=>k=false
 | .bl b=>k=b
 | .int i=>k=(i != 0)
 | .str y=>y.length<=sizeLine/\k=((y.length:Int) != 0)
 | .byt y=>y.size<=sizeLine/\k=((y.size:Int) != 0)
 | .ref p=>(∃ xs,SqL K H p xs/\k=!xs.isEmpty)\/(∃ xs,SqT K H p xs/\k=!xs.isEmpty)\/∃ kvs,H p=some (.dK kvs)/\k=!kvs.isEmpty
 | _=>False
def aD6{κ:Type}{kvs:List (κ × V)}{vs:List (κ × Value)}(r:KV kvs vs):(!vs.isEmpty)=!kvs.isEmpty:=by
 cases r<;>rfl
def MT{xs:List V}{its:List Value}(r:aQ xs its):(!its.toArray.isEmpty)=!xs.isEmpty:=by
 cases r<;>simp
def qW:(sizeLine:Nat)<2^63:=by rw[aUm];decide
def aM5:VU X (fun x H Q=>∃ k,AB X.K x H k/\Q k H):=by
 intro pins s σ H x v Q I rx h;obtain⟨k,e,q⟩:=h;have hl:=qW;have hs:sizeLine=16777216:=aUm;cases x with
 | non=>
  cases rx;have e':k=false:=e;subst e';exact truthy_none ⟨H,I,q⟩
 | bl b=>
  cases rx;have e':k=b:=e;subst e';exact aUy ⟨H,I,q⟩
 | int i=>
  rw[17];have e':k=(i != 0):=e;subst e';exact PySem.P.truthy_int ⟨H,I,q⟩
 | str y=>
  rw[17];obtain⟨hy,e'⟩:y.length<=sizeLine/\k=((y.length:Int) != 0):=e;subst e';exact PySem.P.truthy_str (by lia) ⟨H,I.tok _,q⟩
 | byt y=>
  rw[17];obtain⟨hy,e'⟩:y.size<=sizeLine/\k=((y.size:Int) != 0):=e;subst e';exact PySem.W.truthy_bytes (by lia) ⟨H,I.tok _,q⟩
 | ref p=>
  cases rx;have e':(∃ xs,SqL X.K H p xs/\k=!xs.isEmpty)\/(∃ xs,SqT X.K H p xs/\k=!xs.isEmpty)\/∃ kvs,H p=some (.dK kvs)/\k=!kvs.isEmpty:=e;rcases e' with ⟨xs,hx,e'⟩ | ⟨xs,hx,e'⟩ | ⟨kvs,hx,e'⟩
  ·subst e'
   obtain⟨its,r,pl,hz⟩:=I.list hx;have hlen:=r.length;exact wpAny_truthy_list pl.isList (by simp only[aS4];lia) ⟨H,I.tok _,by rw[MT r];exact q⟩
  ·subst e'
   obtain⟨its,r,pl,hz⟩:=I.tuple hx;have hlen:=r.length;exact truthy_tuple pl (by simp only[aS4];lia) ⟨H,I.tok _,by rw[MT r];exact q⟩
  ·subst e'
   obtain⟨hz,hS,vs,r,m⟩:kvs.length<=sizeLine/\(p == sysModules)=false/\∃ vs,KV kvs vs/\s.heap.DictOf (tY X.prog X.w) p vs:=I.hok p _ hx;have hlen:kvs.length=vs.length:=Paired.length r;exact wpAny_truthy_dict hS m (by lia) ⟨H,I.tok _,by rw[aD6 r];exact q⟩
 | _=>exact (show False from e).elim
def aIo(ha:PE X a ta)(he:∀ whole,isTrue a X.env whole=(do let v <- whole;standAt a.pos;holding [v] (truthy v))):
  PT X a (fun σ H Q=>ta σ H fun x H'=>∃ k,AB X.K x H' k/\Q k H'):=by
 rw[2];exact isTrue_plain (thn (ha pins s σ H _ I h) fun v s1 ⟨x,H1,I1,r1,q1⟩=>aM5 pins s1 σ H1 x v Q I1 r1 q1) (he _)
def aGy:OpR X (binaryOp .Add) (fun x y H Q=>∃ i j,x=.str i/\y=.str j/\i.length+j.length<=sizeLine/\Q (.str (i++j)) H):=by
 rw[7];obtain⟨i,j,rfl,rfl,hz,q⟩:=h;rw[17];rw[34];exact add_str (fun t' tk=>⟨.str (i++j),H,I.tok _,⟨_,rfl⟩,q⟩) hz
def HR(b:Expr):Prop:=∀ o i,subscripted b false o i=operate [o,i] (getItem o i)
def aHs(ha:PE X a ta)(hb:PE X b tb)(hs:HR b):
  PE X (.Subscript a b pos) (tOp (fun x y H Q=>∃ z i c,x=.str z/\y=.int i/\0<=i/\i<2^63/\i<z.length/\z.cps[i.toNat]?=some c/\Q (.str ⟨#[c]⟩) H) ta tb):=by
 rw[2];refine Subscript_ (vS ha hb I h fun v u s2 x y H2 I2 rx ry q=>?_);obtain⟨z,i,c,rfl,rfl,h0,h63,h1,hc,q⟩:=q;rw[17];rw[34];have e:seqIndex? i z.length=some i.toNat:=PySem.StrLaws.seqIndex_nonneg h0 h1;exact tail_any (aUv s2 z t) slot_str_getitem.lookup (getItem_str (c:=c) (by
  have e1:decide (i < -(2^63:Int))=false:=aUi (by lia);have e2:decide (i >= 2^63)=false:=aUi (by lia);rw[e1,e2]<;>rfl) (by rw[e];exact hc) ⟨.str ⟨#[c]⟩,H2,I2.tok _,⟨_,rfl⟩,q⟩) (hs _ _)
def jM{x:V}{us:List Value}(r:aQ [x] us):∃ u,us=[u]/\bB x u:=by
 cases r with
 | cons r1 r2=>cases r2;exact⟨_,rfl,r1⟩
def TN{x y:V}{us:List Value}(r:aQ [x,y] us):∃ u w',us=[u,w']/\bB x u/\bB y w':=by
 cases r with
 | cons r1 r2=>
  cases r2 with
  | cons r3 r4=>cases r4;exact⟨_,_,rfl,r1,r3⟩
end
structure ObjM(h:Heap)(x dx C:Addr)(mA:Str->Option Value):Prop where
 obj:h.get? x=some (PySem.W.instObj C dx)
 ns:h.Ns1 dx mA
 ne:dx≠x
def aE4{h:Heap}{dx:Addr}{mA:Str->Option Value}(n:h.Ns1 dx mA):∃ od,h.get? dx=some od/\∀ name,PySem.W.lookIn name od=some (mA name):=by
 obtain⟨o,es,ep,ho,hd,hk,_,hm⟩:=n;refine⟨o,ho,fun name=>?_⟩;have e:=hm name;unfold nsFind findBy at e;rw[<- Array.find?_toList] at e;unfold PySem.W.lookIn;rw[hd];dsimp only
 split
 ·rename_i y q
  rw[q] at e;exact congrArg some e
 ·rename_i q
  rw[q] at e;have a:es.toList.any (·.refKey)=false:=by
   rw[List.any_eq_false];intro y hy;obtain⟨z,t,hkey⟩:=hk y (Array.mem_toList_iff.mp hy);simp[DictEntry.refKey,hkey]
  have a':¬ es.toList.any (·.refKey)=true:=by rw[a];exact aSf
  rw[aUd a'];exact congrArg some e
def ObjM.look{h:Heap}{x dx C:Addr}{mA:Str->Option Value}(I:ObjM h x dx C mA):∃ od,PySem.W.InstAt h x (PySem.W.instObj C dx) C (some od)/\∀ name,PySem.W.lookIn name od=some (mA name):=
 let ⟨od,ho,hl⟩:=aE4 I.ns
 ⟨od,⟨I.obj,rfl,rfl,ho⟩,hl⟩
section
variable {prog:Program}{w:World}{A:Around}{E:Value->Shared->Prop}{s:Shared}{K:PySem.W.Frag}{x dx C f:Addr}{mA:Str->Option Value}{name:Str}{v:Value}
def LE{expr:Bool}{Q:Value->Shared->Prop}(X:K.In s.heap)(I:ObjM s.heap x dx C mA)(hg:PySem.W.plainGet K C name=true)(hh:PySem.W.hasDictIn K C=true)
  (ha:PySem.W.findIn K (.ref C) name=some none) (hv:mA name=some v) (hv':PySem.W.handedIn v=true) (h:Q v { s with toks:=s.toks+1 }):
  wpAny (model prog w) A (getAttr (.ref x) name expr) Q E s:=by
 obtain⟨od,J,hl⟩:=I.look;exact PySem.W.get_value X J (PySem.W.plainGet_of hg).1 (PySem.W.findObj_own hh ha rfl (by rw[hl,hv])) hv' h
def aKf{ns:List Str}{Q:Unit->Shared->Prop}(X:K.In s.heap)(I:ObjM s.heap x dx C mA)
  (hs:PySem.W.findIn K (.ref C) "__setattr__" = some (some (.builtin "object.__setattr__"))) (hp:PySem.W.plainOver K C=true) (ht:PySem.W.takerIn K C name=some none) (hh:PySem.W.hasDictIn K C=true)
  (hw:PySem.Within mA ns) (hsz:ns.length<=sizeLine)
  (h:∀ h',ObjM h' x dx C (fun y=>if y=name then some v else mA y)->Heap.SameBut dx s.heap h'->Q () { s with heap:=h',toks:=s.toks+2 }):
  wpAny (model prog w) A (setAttr (.ref x) name v) Q E s:=by
 obtain⟨od,J,hl⟩:=I.look;refine PySem.W.set_plain X J hs (PySem.W.osa_open (s:={ s with toks:=s.toks+1 }) (r:=none) X J hp ht fun b=>?_);obtain⟨cd,hc,hd'⟩:=PySem.W.any_some hh;have hx:s.heap.get? x=some ⟨.ref C,some dx,.plain,#[]⟩:=I.obj;refine aU9 (aUa (aU9 (aU9 (wpAny_loadPart hx (aU9 (PySem.W.Looks.here (s:={ s with toks:=s.toks+1 }) (PySem.W.looks_clsIn X hc) ?_))))));rw[hd'];refine aUa (a:=some dx) (aU9 (aUa (aU9 ?_)));refine wpAny_nsSet1 (s:={ s with toks:=s.toks+1 }) I.ns fun h' hn2 hs2=>?_;obtain⟨oD,esD,epD,hoD,hdD,hcD⟩:=hn2.count (PySem.Within.cons name v hw);refine aU9 (wpAny_lookBehind hoD (by rw[hdD];exact pastItsLine_dict (aTt hcD (by rw[aT4];lia))) ?_);exact aUa (h _ ⟨(hs2.2 _ (Ne.symm I.ne)).trans I.obj,hn2,I.ne⟩ hs2)
def aE6{R:Result->Shared->Prop}{vs:List Value}{kw:List (Str × Value)}(X:K.In s.heap)(hm:PySem.W.makesIn K C=true)
  (hi:PySem.W.findIn K (.ref C) "__init__" = some (some (.ref f))) (hf:PySem.W.typeIn K (.ref f)=some (.type "function"))
  (h:codeAny (model prog w) (A.under (.builtin "type.__call__" ⟨.ref C::vs,kw⟩)) (.call (.ref f) ⟨.ref (s.heap.objs.size+1)::vs,kw⟩) (PySem.W.InitBack (s.heap.objs.size+1) R)
   { s with heap:=(s.heap.push PySem.W.emptyDict).push (PySem.W.instObj C s.heap.objs.size) }):
  codeAny (model prog w) A (.call (.ref C) ⟨vs,kw⟩) R s:=by
 obtain⟨hh,g,d,t,os⟩:=s;exact PySem.W.make_core (PySem.W.makes_of X hm) (PySem.W.looks_findIn X hi) (fun self=>PySem.W.bind_fn X self hf) (.inl rfl) h
end
noncomputable def bR(f:Str)(v:V):List (Str × V)->List (Str × V)
 | []=>[(f,v)]
 | (g,x)::r=>if g=f then (g,v)::r else (g,x)::bR f v r
theorem mW(f g:Str)(v:V):∀ fs:List (Str × V),(bR f v fs).lookup g=if g=f then some v else fs.lookup g
 | []=>by
  show List.lookup g [(f,v)]=_
  by_cases h:g=f
  ·have hb:(g == f)=true:=beq_iff_eq.mpr h
   simp only[List.lookup,hb,aUc h]
  ·have hb:(g == f)=false:=beq_eq_false_iff_ne.mpr h
   simp only[List.lookup,hb,aUd h]
 | (k,x)::r=>by
  have ih:=mW f g v r;rw[show bR f v ((k,x)::r)=(if k=f then (k,v)::r else (k,x)::bR f v r) from rfl]
  by_cases hk:k=f
  ·rw[aUc hk]
   by_cases h:g=k
   ·have hb:(g == k)=true:=beq_iff_eq.mpr h
    simp only[List.lookup,hb,aUc (h.trans hk)]
   ·have hb:(g == k)=false:=beq_eq_false_iff_ne.mpr h
    simp only[List.lookup,hb,aUd (fun e:g=f=>h (e.trans hk.symm))]
  ·rw[aUd hk]
   by_cases h:g=k
   ·have hb:(g == k)=true:=beq_iff_eq.mpr h
    simp only[List.lookup,hb,aUd (fun e:g=f=>hk (h.symm.trans e))]
   ·have hb:(g == k)=false:=beq_eq_false_iff_ne.mpr h
    simp only[List.lookup,hb];exact ih
theorem CB(f:Str)(v:V):∀ fs:List (Str × V),f∈(bR f v fs).map (·.1)/\∀ g,g∈fs.map (·.1)->g∈(bR f v fs).map (·.1)
 | []=>⟨by simp[bR],fun g h=>by simp at h⟩
 | (k,x)::r=>by
  obtain⟨i1,i2⟩:=CB f v r;rw[show bR f v ((k,x)::r)=(if k=f then (k,v)::r else (k,x)::bR f v r) from rfl]
  by_cases hk:k=f
  ·rw[aUc hk]
   subst hk;exact⟨by simp,fun g h=>by simpa using h⟩
  ·rw[aUd hk]
   refine⟨?_,fun g h=>?_⟩
   ·rw[aTc]
    exact aRy _ i1
   ·rw[aTc] at h ⊢
    rcases aS7.mp h with e | e
    ·exact aS7.mpr (.inl e)
    ·exact aRy _ (i2 g e)
theorem NB(f:Str)(v:V):∀ fs:List (Str × V),(bR f v fs).length<=fs.length+1
 | []=>by simp[bR]
 | (k,x)::r=>by
  have ih:=NB f v r;rw[show bR f v ((k,x)::r)=(if k=f then (k,v)::r else (k,x)::bR f v r) from rfl]
  by_cases hk:k=f
  ·rw[aUc hk,aT4,aT4];lia
  ·rw[aUd hk,aT4,aT4];lia
def mJ.some_of{v:V}{o:Option Value}(r:mJ (some v) o):∃ u,o=some u/\bB v u:=by
 cases o with
 | none=>exact (show False from r).elim
 | some u=>exact⟨u,rfl,r⟩
def ME{v:V}{u:Value}(r:bB v u):PySem.W.handedIn u=true:=by
 cases v with
 | non=>cases (show u=Value.none from r);rfl
 | bl b=>cases (show u=Value.bool b from r);rfl
 | int i=>obtain⟨t,e⟩:=(show ∃ t,u=Value.int i t from r);cases e;rfl
 | str x=>obtain⟨t,e⟩:=(show ∃ t,u=Value.str x t from r);cases e;rfl
 | byt b=>obtain⟨t,e⟩:=(show ∃ t,u=Value.bytes b t from r);cases e;rfl
 | flt b=>obtain⟨t,e⟩:=(show ∃ t,u=Value.float b t from r);cases e;rfl
 | ref a=>cases (show u=Value.ref a from r);rfl
 | ty n=>cases (show u=Value.type n from r);rfl
section
variable {P:Program}{w:World}{H H':Hp}{h h':Heap}{a C dx:Addr}{fs fs':List (Str × V)}
def MM(hok:HOk P w H h)(e:H a=some (.ins C dx fs)):∃ mA,ObjM h a dx C mA/\(∀ f,mJ (fs.lookup f) (mA f))/\PySem.Within mA (fs.map (·.1))/\fs.length<=1000/\H dx=some (.own a):=by
 obtain⟨d,z,ne,ob,mA,n,r,q⟩:=(show cO P w H h a (.ins C dx fs) from hok a _ e);exact⟨mA,⟨ob,n,ne⟩,r,q,z,d⟩
end
structure Cls(K:PySem.W.Frag)(C:Addr):Prop where
 pg:PySem.W.plainGet K C Str.empty=true
 hd:PySem.W.hasDictIn K C=true
 po:PySem.W.plainOver K C=true
 sa:PySem.W.findIn K (.ref C) "__setattr__" = some (some (.builtin "object.__setattr__"))
def Cls.get{K:PySem.W.Frag}{C:Addr}(c:Cls K C)(f:Str):PySem.W.plainGet K C f=true:=c.pg
def fH(K:PySem.W.Frag)(C:Addr)(f:Str):Prop:=PySem.W.findIn K (.ref C) f=some none
def fH.taker{K:PySem.W.Frag}{C:Addr}{f:Str}(n:fH K C f):PySem.W.takerIn K C f=some none:=by
 unfold PySem.W.takerIn;rw[show PySem.W.findIn K (.ref C) f=some none from n]
 rfl
section
variable {X:Cx}{pins:List (Addr × Obj)}{σ:St}{H:Hp}{s:Shared}{a C dx:Addr}{fs:List (Str × V)}{f:Str}{v:V}{A:Around}{E:Value->Shared->Prop}
def aB8{b:Bool}{Q:Value->Shared->Prop}(I:Inv X pins σ H s)(e:H a=some (.ins C dx fs))(c:Cls X.K C)(n:fH X.K C f)(l:fs.lookup f=some v)
  (h:∀ u s',Inv X pins σ H s'->bB v u->Q u s'):wpAny (model X.prog X.w) A (getAttr (.ref a) f b) Q E s:=by
 obtain⟨mA,O,r,_,_,_⟩:=MM I.hok e;obtain⟨u,hu,ru⟩:=mJ.some_of (v:=v) (o:=mA f) (by rw[<- l];exact r f);exact LE I.kIn O (c.get f) c.hd n hu (ME ru) (h u _ (I.tok _) ru)
def aKg{y:V}{u:Value}{Q:Unit->Shared->Prop}(I:Inv X pins σ H s)(e:H a=some (.ins C dx fs))(c:Cls X.K C)(n:fH X.K C f)(hl:fs.length<1000)(ry:bB y u)
  (h:∀ s',Inv X pins σ (upd H a (.ins C dx (bR f y fs))) s'->Q () s'):wpAny (model X.prog X.w) A (setAttr (.ref a) f u) Q E s:=by
 obtain⟨mA,O,r,wi,_,ho⟩:=MM I.hok e;have hz:(fs.map (·.1)).length<=sizeLine:=by rw[aT5,aUm];lia
 refine aKf I.kIn O c.sa c.po n.taker c.hd wi hz fun h' O' sb=>h _ ?_;have hd:∃ o,h'.get? dx=some o:=let ⟨o,_,_,e',_⟩:=O'.ns;⟨o,e'⟩;refine I.write (x:=a) (e:=dx) (by rw[e];exact True.intro) (.inr ho) (fun b q hb z=>(sb.2 b hb).trans z) hd ?_;refine⟨by rw[aW O.ne];exact ho,?_,O.ne,O'.obj,_,O'.ns,fun g=>?_,fun g hg=>?_⟩
 ·have:=NB f y fs;lia
 ·show mJ ((bR f y fs).lookup g) (if g=f then some u else mA g)
  rw[mW]
  by_cases q:g=f
  ·rw[aUc q,aUc q];exact ry
  ·rw[aUd q,aUd q];exact r g
 ·by_cases q:g=f
  ·rw[q];exact (CB f y fs).1
  ·refine (CB f y fs).2 g (wi g fun z=>hg ?_)
   show (if g=f then some u else mA g)=none;rw[aUd q];exact z
def Inv.made(I:Inv X pins σ H s):Inv X pins σ (upd (upd H s.heap.objs.size (.own (s.heap.objs.size+1))) (s.heap.objs.size+1) (.ins C s.heap.objs.size []))
  { s with heap:=(s.heap.push PySem.W.emptyDict).push (PySem.W.instObj C s.heap.objs.size) }:=by
 have e1:(s.heap.push PySem.W.emptyDict).get? s.heap.objs.size=some PySem.W.emptyDict:=aSh s.heap rfl;have e2:((s.heap.push PySem.W.emptyDict).push (PySem.W.instObj C s.heap.objs.size)).get? (s.heap.objs.size+1)=some (PySem.W.instObj C s.heap.objs.size):=by
  have:=aSh (s.heap.push PySem.W.emptyDict) (o:=PySem.W.instObj C s.heap.objs.size) rfl
  rwa [aSj] at this
 have e3:(s.heap.push PySem.W.emptyDict).Ns s.heap.objs.size (fun _=>none):=⟨PySem.W.emptyDict,#[],_,e1,rfl,(fun e he=>absurd he (by simp)),fun _=>rfl⟩;have I1:=I.laid (a:=s.heap.objs.size) (o:=.own (s.heap.objs.size+1)) (h':=s.heap.push PySem.W.emptyDict) (t':=s.toks) (fun b u q=>aS6 _ q) (aTs _) ⟨_,e1⟩;refine I1.laid (a:=s.heap.objs.size+1) (o:=.ins C s.heap.objs.size []) (t':=s.toks) (fun b u q=>aS6 _ q) (Nat.le_of_eq (aSj _ _)) ?_;have ne:s.heap.objs.size≠s.heap.objs.size+1:=aU0 (aTw _);refine⟨by rw[aW ne,bY],aU4 _,ne,e2,fun _=>none,(Heap.Ns1.of_empty e3).at fun o q=>aS6 _ q,fun _=>True.intro,fun y hy=>absurd rfl hy⟩
def IE{prog:Program}{w:World}{env:Env}{e:Expr}{f:Str}{pos:Pos}{s:Shared}{Q:Value->Shared->Prop}(hb:attributeBase e f env (eval e env)=eval e env)
  (h:wpAny (model prog w) A (eval e env) (fun o s₁=>wpAny (model prog w) A (getAttr o f true) Q E s₁) E s):wpAny (model prog w) A (eval (.Attribute e f pos) env) Q E s:=
 Attribute_any_ h (by rw[arm_eval_Attribute,hb])
end
def aL4(K:PySem.W.Frag)(ta:TE)(f:Str):TE:=fun σ H Q=>ta σ H fun x H1=>∃ a C dx fs v,x=.ref a/\H1 a=some (.ins C dx fs)/\Cls K C/\fH K C f/\fs.lookup f=some v/\Q v H1
def aJu(K:PySem.W.Frag)(ta tv:TE)(f:Str):TS:=fun D σ H=>tv σ H fun y H1=>ta σ H1 fun x H2=>∃ a C dx fs,x=.ref a/\H2 a=some (.ins C dx fs)/\Cls K C/\fH K C f/\fs.length<1000 /\
 D.nx σ (upd H2 a (.ins C dx (bR f y fs)))
section
variable {X:Cx}{o e value:Expr}{f:Str}{pos pos' tpos:Pos}{ta tv:TE}
def DG(he:PE X e ta)(hb:attributeBase e f X.env (eval e X.env)=eval e X.env):PE X (.Attribute e f pos) (aL4 X.K ta f):=by
 rw[2];refine IE hb (thn (he pins s σ H _ I h) fun u s1 ⟨x,H1,I1,rx,a,C,dx,fs,v,ex,ea,c,n,l,q⟩=>?_);subst ex;obtain rfl:u=Value.ref a:=rx;exact aB8 I1 ea c n l fun u' s2 I2 ru=>⟨v,H1,I2,ru,q⟩
def DO(ha:PE X o ta)(hv:PE X value tv)(hs:swapsWith value (some (.Attribute o f pos')) pos.line X.env=pure false):PS X (.Assign [.Attribute o f pos'] value pos) (aJu X.K ta tv f):=by
 rw[24];refine plainObj_wpAny_Assign_Attribute (thn (hv pins s σ H _ I h) fun u s1 ⟨y,H1,I1,ry,q⟩=>thn (ha pins s1 σ H1 _ I1 q) fun ov s2 ⟨x,H2,I2,rx,a,C,dx,fs,ex,ea,c,n,l,q2⟩=>?_) hs;subst ex;obtain rfl:ov=Value.ref a:=rx;exact aKg I2 ea c n l ry fun s3 I3=>⟨σ,_,I3,q2⟩
end
structure Room(k:Nat)(A:Around):Prop where
 hd:A.handled=none
 dp:A.depth+3*k+5<recursionLimit
 un:A.units+16*k+200<cLine
def Room.mono{j k:Nat}{A:Around}(r:Room k A)(h:j<=k):Room j A:=⟨r.hd,by have:=r.dp;lia,by have:=r.un;lia⟩
def Room.deeper{k:Nat}{A:Around}(r:Room (k+1) A)(env:Env):Room k (A.deeper env):=
 ⟨r.hd,by have:=r.dp;show A.depth+1+3*k+5<_;lia,by have:=r.un;show A.units+3+16*k+200<_;lia⟩
def aE5{A:Around}{C:Addr}{us:List Value}{kw:List (Str × Value)}:(A.under (.builtin "type.__call__" ⟨.ref C::us,kw⟩)).depth=A.depth+1:=by
 first | rfl | simp[Around.under,Code.weight,Code.isCreation,Code.isGuard,Code.isCaller,Code.frames,Code.isFrame,guardIds]
def aE7{A:Around}{C:Addr}{us:List Value}{kw:List (Str × Value)}:(A.under (.builtin "type.__call__" ⟨.ref C::us,kw⟩)).units=A.units+1:=by
 first | rfl | simp[Around.under,Code.cUnits,Code.frames,Code.isFrame]
def Room.make{k:Nat}{A:Around}(r:Room (k+1) A)(C:Addr)(us:List Value)(kw:List (Str × Value)):Room k (A.under (.builtin "type.__call__" ⟨.ref C::us,kw⟩)):=
 ⟨r.hd,by have:=r.dp;rw[aE5];lia,by have:=r.un;rw[aE7];lia⟩
def Room.depth{k:Nat}{A:Around}(r:Room k A):A.depth<recursionLimit:=by have:=r.dp;lia
def Room.units{k:Nat}{A:Around}(r:Room k A):A.units+64<cLine:=by have:=r.un;lia
def SO:TA:=fun _ H Q=>Q [] H
def SN(ta:TE)(tr:TA):TA:=fun σ H Q=>ta σ H fun x H1=>tr σ H1 fun xs H2=>Q (x::xs) H2
section
variable {X:Cx}{e:Expr}{es:List Expr}{te:TE}{t:TA}{pos:Pos}
def cZ:PA X [] SO:=fun _ _ _ _ H Q I h=>Calls.spliced_nil ⟨[],H,I,.nil,h⟩
def cD(ha:PE X e te)(hr:PA X es t)(hs:aVc X e es:=by rfl):PA X (e::es) (SN te t):=by
 intro pos pins s σ H Q I h;rw[hs];show wpAny _ _ (spliced ((false,eval e X.env)::backTo pos (starEach es X.env))) _ _ s;refine Calls.spliced_cons (thn (ha pins s σ H _ I h) fun u s1 ⟨x,H1,I1,r1,q1⟩=>?_);exact thn (hr pos pins s1 σ H1 _ I1 q1) fun us s2 ⟨xs,H2,I2,r2,q2⟩=>⟨x::xs,H2,I2,.cons r1 r2,q2⟩
def aLo(t:TA):TE:=fun σ H Q=>t σ H fun xs H1=>xs.length<=sizeLine/\∀ p,H1 p=none->Q (.ref p) (upd H1 p (.tup xs))
def aLb(t:TA):TE:=fun σ H Q=>t σ H fun xs H1=>xs.length<=sizeLine/\∀ p,H1 p=none->Q (.ref p) (upd H1 p (.lst xs))
def OT{x1}(h:PA X es t):PE X (.Tuple es x1 pos) (aLo t):=by
 intro pins s σ H Q I hq;refine wpAny_Tuple_spliced (thn (h pos pins s σ H _ I hq) fun us s1 ⟨xs,H1,I1,r,z,q⟩=>⟨by rw[<- r.length];exact z,?_⟩);have hf:H1 s1.heap.objs.size=none:=I1.hok.fresh (aTs _);refine⟨.ref s1.heap.objs.size,upd H1 s1.heap.objs.size (.tup xs),I1.laid (t':=s1.toks) (fun b u e=>aS6 _ e) (aTs _) ?_,rfl,q _ hf⟩;exact⟨z,us,r,⟨_,aSh _ rfl,rfl,_,rfl⟩⟩
def DH(h:PA X es t):PE X (.List es pos) (aLb t):=by
 intro pins s σ H Q I hq;refine wpAny_List_spliced (thn (h pos pins s σ H _ I hq) fun us s1 ⟨xs,H1,I1,r,z,q⟩=>⟨by rw[<- r.length];exact z,?_⟩);have hf:H1 s1.heap.objs.size=none:=I1.hok.fresh (aTs _);refine⟨.ref s1.heap.objs.size,upd H1 s1.heap.objs.size (.lst xs),I1.laid (t':=s1.toks) (fun b u e=>aS6 _ e) (aTs _) ?_,rfl,q _ hf⟩;exact⟨z,us,0,r,aSh _ rfl⟩
end
abbrev Sp:=List V->Hp->VK->XK->Prop
abbrev CXT:=List Env->Hp->Shared->XK->Value->Shared->Prop
structure Env0(P:Program)(w:World)(K:PySem.W.Frag)(mg:Str->Option Value)(base:Heap)(A:Around)(outer:List Env)(s:Shared)(H:Hp):Prop where
 frames:A.frames=some outer
 mod:Mod K mg base
 bs:∀ b o,base.get? b=some o->s.heap.get? b=some o/\H b=none
 bsz:base.objs.size<=s.heap.objs.size
 funs:s.heap.FunFrames base outer
 frf:∀ b∈frs outer,H b=none
 hok:HOk P w H s.heap
 bare:AllBare s.gens
def CE(outer:List Env)(P:Program)(w:World)(H:Hp)(s:Shared)(Q:VK)(u:Value)(s':Shared):Prop:=
 ∃ v H',s'.os=s.os/\AllBare s'.gens/\Un (frs outer) [] H H' s.heap s'.heap/\HOk P w H' s'.heap/\bB v u/\Q v H'
def CR(CX:CXT)(outer:List Env)(P:Program)(w:World)(H:Hp)(s:Shared)(Q:VK)(E:XK)(r:Result)(s':Shared):Prop:=
 match r with
 | .ok (.ret u)=>CE outer P w H s Q u s'
 | .ok _=>False
 | .error e=>CX outer H s E e s'
structure FnOk(P:Program)(w:World)(K:PySem.W.Frag)(mg:Str->Option Value)(base:Heap)(CX:CXT)(k:Nat)(f:Addr)(fd:FuncData)(ps:List Str)(sp:Sp):Prop where
 len:∀ vs H Q E,sp vs H Q E->vs.length=ps.length
 run:∀ (A:Around) (outer:List Env) (s:Shared) (H:Hp) (args:Args) (us:List Value) (vs:List V) (Q:VK) (E:XK),Room k A->Env0 P w K mg base A outer s H->BindsTo s fd args (ps.zip us)->aQ vs us->sp vs H Q E ->
  codeAny (model P w) A (.call (.ref f) args) (CR CX outer P w H s Q E) s
def Env0.make{P:Program}{w:World}{K:PySem.W.Frag}{mg:Str->Option Value}{base:Heap}{A:Around}{outer:List Env}{s:Shared}{H:Hp}(e:Env0 P w K mg base A outer s H)(C:Addr)(us:List Value)(kw:List (Str × Value)):
  Env0 P w K mg base (A.under (.builtin "type.__call__" ⟨.ref C::us,kw⟩)) outer s H:=⟨by first | exact e.frames | (simpa [Around.under,Code.envs,Code.isFrame,pushEnvs] using e.frames),e.mod,e.bs,e.bsz,e.funs,e.frf,e.hok,e.bare⟩
section
variable {X:Cx}{pins:List (Addr × Obj)}{σ:St}{H:Hp}{s s':Shared}
def Inv.env0(I:Inv X pins σ H s):Env0 X.prog X.w X.K X.mg X.base X.A X.stack s H:=
 ⟨I.ok.frames,I.ok.mod,I.bs,aTt I.ok.bsz I.sz,I.stack,I.stkFree,I.hok,I.bare⟩
def Inv.after{Q:VK}{u:Value}(I:Inv X pins σ H s)(h:CE X.stack X.prog X.w H s Q u s'):EP X pins σ Q u s':=by
 obtain⟨v,H',os,bare,un,hok,r,q⟩:=h;obtain⟨hh,g,d,t,os'⟩:=s';obtain rfl:os'=s.os:=os;exact⟨v,H',I.call (h':=hh) (g':=g) (d':=d) (t':=t) (ch:=[]) un hok bare (fun b z=>absurd z (by simp)),r,q⟩
end
def aKz(sp:Sp)(dvs:List V)(E:XK)(t:TA):TE:=fun σ H Q=>t σ H fun vs H1=>sp (vs++dvs) H1 Q E
def aLc(C:Addr)(sp:Sp)(dvs:List V)(E:XK)(t:TA):TE:=fun σ H Q=>t σ H fun vs H1=>∀ x dx,H1 x=none->H1 dx=none->dx≠x ->
 sp (.ref x::(vs++dvs)) (upd (upd H1 dx (.own x)) x (.ins C dx [])) (fun v H2=>v=.non/\Q (.ref x) H2) E
def dE(K:PySem.W.Frag)(fd:FuncData)(ps:List Str)(ds:List Value):Prop:=
 ∀ (s:Shared) (us:List Value),K.In s.heap->(us++ds).length=ps.length->BindsTo s fd ⟨us,[]⟩ (ps.zip (us++ds))
def dE.all{K:PySem.W.Frag}{fd:FuncData}{ps:List Str}(h:∀ us:List Value,us.length=ps.length->bindArgs fd ⟨us,[]⟩=pure (ps.zip us)):dE K fd ps []:=fun s us _ hl=>by
 rw[aSp] at hl ⊢;exact .of_eq (h us hl)
def eR(CX:CXT)(X:Cx)(E:XK):Prop:=∀ (pins:List (Addr × Obj)) (σ:St) (H:Hp) (s:Shared) (e:Value) (s':Shared),Inv X pins σ H s->CX X.stack H s E e s'->X.xe e s'
section
variable {X:Cx}{CX:CXT}{k:Nat}{f C:Addr}{fd:FuncData}{ps:List Str}{sp:Sp}{dvs:List V}{ds:List Value}{E:XK}{x m:Str}{p pos apos:Pos}{e o:Expr}{es:List Expr}{ta:TE}{t:TA}
theorem aJq{pins:List (Addr × Obj)}{σ:St}{H:Hp}{s:Shared}{Q:VK}{us:List Value}{vs:List V}(F:FnOk X.prog X.w X.K X.mg X.base CX k f fd ps sp)(hr:Room k X.A)(hb:dE X.K fd ps ds)(hd:aQ dvs ds)(hx:eR CX X E)
  (I:Inv X pins σ H s) (r:aQ vs us) (h:sp (vs++dvs) H Q E):wpAny (model X.prog X.w) X.A (call (.ref f) us) (EP X pins σ Q) X.xe s:=by
 have r2:aQ (vs++dvs) (us++ds):=r.append hd;have hl:(us++ds).length=ps.length:=by rw[<- r2.length];exact F.len _ _ _ _ h
 refine wpAny_call (aV8 (F.run X.A X.stack s H ⟨us,[]⟩ (us++ds) (vs++dvs) Q E hr I.env0 (hb s us I.kIn hl) r2 h) fun r s' hq=>?_);cases r with
 | error e=>exact hx pins σ H s e s' I hq
 | ok fl=>
  cases fl with
  | ret u=>exact I.after hq
  | next=>exact False.elim hq
  | brk=>exact False.elim hq
  | cont=>exact False.elim hq
def pI(F:FnOk X.prog X.w X.K X.mg X.base CX k f fd ps sp)(hr:Room k X.A)(hg:Gl X x)(hm:X.mg x=some (.ref f))(hk:PySem.W.keepIn X.K (.ref f)=true)(hb:dE X.K fd ps ds)(hd:aQ dvs ds)(hx:eR CX X E)
  (ha:PA X (e::es) t) (hdb:aVi x:=by decide) (he:aVc X e es:=by rfl) (hpl:aVe X pos es:=by rfl):
  PE X (.Call (.Name x p) (e::es) [] pos) (aKz sp dvs E t):=by
 rw[2];refine aV0 (qV I hg hm ?_ hdb);refine PySem.W.callWith_K (h₀:=X.base) I.ok.mod.kin hk (thn (ha pos pins s σ H _ I h) fun us s1 ⟨vs,H1,I1,r,q⟩=>⟨I1.kIn,?_⟩) he hpl;exact aJq F hr hb hd hx I1 r q
structure Mk(K:PySem.W.Frag)(C f:Addr):Prop where
 makes:PySem.W.makesIn K C=true
 init:PySem.W.findIn K (.ref C) "__init__" = some (some (.ref f))
 fn:PySem.W.isFn K (.ref f)=true
 kp:PySem.W.keepIn K (.ref C)=true
theorem aJs{pins:List (Addr × Obj)}{σ:St}{H:Hp}{s:Shared}{Q:VK}{us:List Value}{vs:List V}(M:Mk X.K C f)(F:FnOk X.prog X.w X.K X.mg X.base CX k f fd ps sp)(hr:Room (k+1) X.A)(hb:dE X.K fd ps ds)(hd:aQ dvs ds)
  (hx:eR CX X E) (I:Inv X pins σ H s) (r:aQ vs us)
  (h:∀ x dx,H x=none->H dx=none->dx≠x->sp (.ref x::(vs++dvs)) (upd (upd H dx (.own x)) x (.ins C dx [])) (fun v H2=>v=.non/\Q (.ref x) H2) E):
  wpAny (model X.prog X.w) X.A (call (.ref C) us) (EP X pins σ Q) X.xe s:=by
 have hq:=h (s.heap.objs.size+1) s.heap.objs.size (I.hok.fresh (Nat.le_succ _)) (I.hok.fresh (aTs _)) (aU0 (aTw _));have I2:=Inv.made (C:=C) I;have r2:aQ (V.ref (s.heap.objs.size+1)::(vs++dvs)) (Value.ref (s.heap.objs.size+1)::(us++ds)):=.cons rfl (r.append hd);have hl:(Value.ref (s.heap.objs.size+1)::us++ds).length=ps.length:=by
  have e:=r2.length;rw[F.len _ _ _ _ hq] at e;exact e.symm
 refine wpAny_call (aE6 (f:=f) I.kIn M.makes M.init (beq_iff_eq.mp M.fn) (aV8 (F.run _ X.stack _ _ ⟨Value.ref (s.heap.objs.size+1)::us,[]⟩ (Value.ref (s.heap.objs.size+1)::(us++ds)) _ _ E (hr.make C us [])
  (I2.env0.make C us []) (hb _ (Value.ref (s.heap.objs.size+1)::us) I2.kIn hl) r2 hq) fun r s' hq'=>?_))
 cases r with
 | error e=>exact hx pins σ _ _ e s' I2 hq'
 | ok fl=>
  cases fl with
  | ret u=>
   obtain⟨v,H',I3,rv,ev,q3⟩:=I2.after hq';subst ev;exact⟨rv,⟨V.ref (s.heap.objs.size+1),H',I3,rfl,q3⟩⟩
  | next=>exact False.elim hq'
  | brk=>exact False.elim hq'
  | cont=>exact False.elim hq'
def OR(M:Mk X.K C f)(F:FnOk X.prog X.w X.K X.mg X.base CX k f fd ps sp)(hr:Room (k+1) X.A)(hg:Gl X x)(hm:X.mg x=some (.ref C))(hb:dE X.K fd ps ds)(hd:aQ dvs ds)(hx:eR CX X E)
  (ha:PA X (e::es) t) (hdb:aVi x:=by decide) (he:aVc X e es:=by rfl) (hpl:aVe X pos es:=by rfl):
  PE X (.Call (.Name x p) (e::es) [] pos) (aLc C sp dvs E t):=by
 rw[2];refine aV0 (qV I hg hm ?_ hdb);refine PySem.W.callWith_K (h₀:=X.base) I.ok.mod.kin M.kp (thn (ha pos pins s σ H _ I h) fun us s1 ⟨vs,H1,I1,r,q⟩=>⟨I1.kIn,?_⟩) he hpl;exact aJs M F hr hb hd hx I1 r q
end
def PK(X:Cx)(kws:List Keyword)(t:TA):Prop:=
 ∀ (pos:Pos) (pins:List (Addr × Obj)) (s:Shared) (σ:St) (H:Hp) (Q:List V->Hp->Prop),Inv X pins σ H s->t σ H Q->wpAny (model X.prog X.w) X.A (evalAll ((backToKw pos (keywordEach kws X.env)).map (·.2))) (AP X pins σ Q) X.xe s
section
variable {X:Cx}{CX:CXT}{k:Nat}{f C:Addr}{fd:FuncData}{ps ks:List Str}{sp:Sp}{E:XK}{x m:Str}{p pos apos kpos:Pos}{e o:Expr}{es:List Expr}{kws:List Keyword}{te ta:TE}{t tk:TA}{nm:Option Str}
def aI8:PK X [] SO:=fun _ _ _ _ H Q I h=>wpAny_evalAll_nil ⟨[],H,I,.nil,h⟩
def aI7(ha:PE X e te)(hr:PK X kws t):PK X (⟨nm,e,kpos⟩::kws) (SN te t):=by
 intro pos pins s σ H Q I h;show wpAny _ _ (evalAll ((do let v <- eval e X.env;standAt pos;pure v)::(backToKw pos (keywordEach kws X.env)).map (·.2))) _ _ s;refine wpAny_evalAll_cons (aU9 (thn (ha pins s σ H _ I h) fun u s1 ⟨x,H1,I1,r1,q1⟩=>aU9 (aV9 (aUa ?_))));exact thn (hr pos pins s1 σ H1 _ I1 q1) fun us s2 ⟨xs,H2,I2,r2,q2⟩=>⟨x::xs,H2,I2,.cons r1 r2,q2⟩
variable {g:List Value->List Value->List Value}{gV:List V->List V->List V}
end
structure FnScope(N P:List Str)(sc:Scope):Prop where
 kind:sc.kind=.function
 co:sc.isCoroutine=false
 gen:sc.isGenerator=false
 nd:N.Nodup
 pre:N.take P.length=P
 par:∀ x∈P,sc.names.lookup x=some .local\/sc.names.lookup x=some .cell
 nofree:∀ y∈sc.names,y.2≠.free
theorem IJ{kindOf:Str->Option NameKind}{x:Str}:∀ {binds:List (Str × Value)}{m:Str->Option Value},(∀ v,(x,v) ∉ binds)->bindL kindOf binds m x=m x
 | [],_,_=>rfl
 | (n,v)::r,m,h=>by
  unfold bindL;rw[IJ fun w hw=>h w (aRy _ hw)]
  split
  ·have:x≠n:=by rintro rfl;exact h v aRz
   simp[this]
  ·rfl
theorem IH{kindOf:Str->Option NameKind}{x:Str}:∀ {binds:List (Str × Value)}{m:Str->Option Value},(∀ v,(x,v) ∉ binds)->bindC kindOf binds m x=m x
 | [],_,_=>rfl
 | (n,v)::r,m,h=>by
  unfold bindC;rw[IH fun w hw=>h w (aRy _ hw)]
  split
  ·rfl
  ·have:x≠n:=by rintro rfl;exact h v aRz
   simp[this]
theorem II{kindOf:Str->Option NameKind}{x:Str}{v:Value}:∀ {P:List Str}{vs:List Value}{i:Nat}{m:Str->Option Value},P.Nodup->P[i]?=some x->vs[i]?=some v->kindOf x=some .local ->
  bindL kindOf (P.zip vs) m x=some v
 | [],_,_,_,_,h,_,_=>by simp at h
 | _::_,[],_,_,_,_,h,_=>by simp at h
 | p::P,w::vs,0,m,nd,h1,h2,hk=>by
  simp at h1 h2;subst h1;subst h2;show bindL kindOf ((p,w)::P.zip vs) m p=_;unfold bindL;rw[IJ fun v hv=>(List.nodup_cons.mp nd).1 (List.of_mem_zip hv).1,aUc hk];simp
 | p::P,w::vs,i+1,m,nd,h1,h2,hk=>by
  show bindL kindOf ((p,w)::P.zip vs) m x=_;unfold bindL;exact II (i:=i) (List.nodup_cons.mp nd).2 (by simpa using h1) (by simpa using h2) hk
theorem IG{kindOf:Str->Option NameKind}{x:Str}{v:Value}:∀ {P:List Str}{vs:List Value}{i:Nat}{m:Str->Option Value},P.Nodup->P[i]?=some x->vs[i]?=some v->kindOf x≠some .local ->
  bindC kindOf (P.zip vs) m x=some v
 | [],_,_,_,_,h,_,_=>by simp at h
 | _::_,[],_,_,_,_,h,_=>by simp at h
 | p::P,w::vs,0,m,nd,h1,h2,hk=>by
  simp at h1 h2;subst h1;subst h2;show bindC kindOf ((p,w)::P.zip vs) m p=_;unfold bindC;rw[IH fun v hv=>(List.nodup_cons.mp nd).1 (List.of_mem_zip hv).1,aUd hk];simp
 | p::P,w::vs,i+1,m,nd,h1,h2,hk=>by
  show bindC kindOf ((p,w)::P.zip vs) m x=_;unfold bindC;exact IG (i:=i) (List.nodup_cons.mp nd).2 (by simpa using h1) (by simpa using h2) hk
noncomputable def start(N:List Str)(vs:List V):St:=vs.map some++List.replicate (N.length-vs.length) none
noncomputable def cQ(CX:CXT)(P:Program)(w:World)(K:PySem.W.Frag)(mg:Str->Option Value)(base:Heap)(N:List Str)(qual:Str)(scope:Scope)(f:Addr)(cd:Value)(A:Around)(outer:List Env)(s:Shared)(H:Hp)(E:XK):Cx where
 prog:=P
 w:=w
 K:=K
 mg:=mg
 base:=base
 A:=A.deeper (envOfC qual scope s.heap.objs.size f cd)
 N:=N
 s₀:=s
 H₀:=H
 env:=envOfC qual scope s.heap.objs.size f cd
 outer:=outer
 stack:=envOfC qual scope s.heap.objs.size f cd::outer
 ex:=[]
 calm:=true
 fn:=fun _=>true
 pn:=[]
 xe:=fun e s'=>wpAny (model P w) (A.deeper (envOfC qual scope s.heap.objs.size f cd)) (leaving (envOfC qual scope s.heap.objs.size f cd) e) (fun _ s''=>CX outer H s E e s'') (fun e' s''=>CX outer H s E e' s'') s'
def IO{sc:Scope}{n:Nat}{x:Str}(h:sc.names.lookup x=some .cell):∃ c,(cellsFrom n sc.names []).lookup x=some c:=by
 have q:=PySem.W.cellsFrom_some sc.names n [] (.inl h);exact Option.isSome_iff_exists.mp q
theorem aD5{CX:CXT}{P:Program}{w:World}{K:PySem.W.Frag}{mg:Str->Option Value}{base:Heap}{N ps:List Str}{qual:Str}{scope:Scope}{f:Addr}{cd:Value}{A:Around}{outer:List Env}{s s1:Shared}{H:Hp}{E:XK}{us:List Value}{vs:List V}
  (S:FnScope N ps scope) (hd:A.handled=none) (e0:Env0 P w K mg base A outer s H) (hl:vs.length=ps.length) (r:aQ vs us)
  (x:InCallC s s.heap.objs.size (bindL (envOfC qual scope s.heap.objs.size f cd).kindOf (ps.zip us) fun _=>none) (cellsFrom (s.heap.objs.size+1) scope.names []) (bindC (envOfC qual scope s.heap.objs.size f cd).kindOf (ps.zip us) fun _=>none) s1):
  Inv (cQ CX P w K mg base N qual scope f cd A outer s H E) [] (start N vs) H s1:=by
 have hpl:ps.length<=N.length:=by have:=congrArg List.length S.pre;rw[List.length_take] at this;lia
 obtain⟨h1,tk,rfl,hk⟩:=x.done;have noA:∀ b:Addr,b ∉ (cQ CX P w K mg base N qual scope f cd A outer s H E).ex:=fun b z=>absurd (show b∈([]:List Addr) from z) (by simp);refine⟨⟨e0.mod,S.kind,rfl,rfl,aTs _,fun y z c h1 h2=>?_,fun y hy=>?_,fun y c _ h=>?_,fun _=>hd,Around.frames_deeper e0.frames,.inr ⟨rfl,rfl⟩,fun b z=>absurd z (noA b),e0.bs,e0.bsz,fun b _ _=>noA b,fun b z=>absurd z (noA b),e0.funs,e0.frf⟩,
  rfl,e0.bare,Un.kept hk,⟨_,x.toInCall.ns,fun i y v h1 h2 h3=>?_⟩,fun y c h=>⟨_,x.cell y c h⟩,e0.hok.fresh (aTs _),fun y c h=>?_,fun p hp=>absurd (show p∈([]:List (Addr × Obj)) from hp) (by simp),e0.hok.kept hk,?_⟩
 ·exact name_of_addr x.apart (PySem.mem_of_lookup h1) (PySem.mem_of_lookup h2)
 ·have hy:scope.names.lookup y=some .cell\/scope.names.lookup y=some .free:=hy
  rcases hy with hy | hy
  ·exact IO hy
  ·exact absurd rfl (S.nofree _ (PySem.mem_of_lookup hy))
 ·exact aTr (x.above y c (PySem.mem_of_lookup h))
 ·have hi:i<vs.length:=by
   unfold start at h2
   by_cases hi:i<vs.length
   ·exact hi
   ·rw[List.getElem?_append_right (by simpa using hi)] at h2
    rw[List.getElem?_replicate] at h2;split at h2<;>cases h2
  have ha:vs[i]?=some v:=by
   unfold start at h2;rw[aSy (by simpa using hi),aT0] at h2;cases e:vs[i]? with
   | none=>rw[e] at h2;cases h2
   | some a=>rw[e] at h2;cases h2;rfl
  obtain⟨u,hu,rv⟩:=r.get ha;have hp:ps[i]?=some y:=by
   rw[<- S.pre,List.getElem?_take_of_lt (by lia)];exact h1
  have ndP:ps.Nodup:=by rw[<- S.pre];exact S.nd.sublist (List.take_sublist _ _)
  refine⟨u,rv,?_⟩;rcases S.par y (List.mem_of_getElem? hp) with k | k
  ·exact .inl ⟨k,II ndP hp hu k⟩
  ·obtain⟨c,e⟩:=IO (n:=s.heap.objs.size+1) k
   refine .inr ⟨.inl k,c,e,?_⟩;have q:=x.cell y c e;rw[IG ndP hp hu (by show scope.names.lookup y≠_;rw[k];decide)] at q;exact q
 ·exact e0.hok.fresh (aTr (x.above y c (PySem.mem_of_lookup h)))
 ·unfold start
  show _=N.length;rw[aT3,aT5,aT7];lia
theorem BA{CX:CXT}{P:Program}{w:World}{K:PySem.W.Frag}{mg:Str->Option Value}{base:Heap}{k:Nat}{f:Addr}{name qual:Str}{params:Arguments}{body:List Stmt}{scope:Scope}{dV kV doc pm cdv ct oc:Value}{an od:Option Addr}
  {osl:Array (Option Value)} {N ps:List Str} {sp:Sp} (lk:K.lookup f=some ⟨oc,od,.func (PySem.W.fnOf name qual params body scope dV kV doc pm an cdv ct),osl⟩) (hcd:PySem.W.codeIn K cdv qual=true) (S:FnScope N ps scope)
  (len:∀ vs H Q E,sp vs H Q E->vs.length=ps.length)
  (hbody:∀ (A:Around) (outer:List Env) (s:Shared) (H:Hp) (vs:List V) (Q:VK) (E:XK),Room k (A.deeper (envOfC qual scope s.heap.objs.size f cdv))->sp vs H Q E ->
   ∃ t,PSs (cQ CX P w K mg base N qual scope f cdv A outer s H E) body t/\t { nx:=fun _ H'=>Q .non H',rt:=Q } (start N vs) H):
  FnOk P w K mg base CX (k+1) f (PySem.W.fnOf name qual params body scope dV kV doc pm an cdv ct) ps sp:=by
 refine⟨len,fun A outer s H args us vs Q E hr e0 hb r hsp=>?_⟩;have hl:=len _ _ _ _ hsp;have KX:K.In s.heap:=e0.mod.kin.keeps fun b o e=>(e0.bs b o e).1;have lim:s.heap.NoLimit:=e0.mod.nolimit.keeps fun b o e=>(e0.bs b o e).1;have hkind:∀ y∈ps.zip us,scope.names.lookup y.1=some .local\/(scope.names.lookup y.1=some .cell/\((cellsFrom (s.heap.objs.size+1) scope.names []).lookup y.1).isSome=true):=fun ⟨n,v⟩ hy=>by
  rcases S.par n (List.of_mem_zip hy).1 with q | q
  ·exact .inl q
  ·exact .inr ⟨q,PySem.W.cellsFrom_some _ _ _ (.inl q)⟩
 refine codeAny_call_function hr.depth (KX _ _ lk) rfl S.co S.gen rfl (PySem.W.codeRec_of KX hcd) (hb _ _ _ _ ?_);refine wpAny_newFunctionEnv_cells S.kind hkind fun env he s1 x=>?_;subst he;refine⟨lim.keeps x.toInCall.keep,codeAny_func ?_⟩;obtain⟨t,ht,hq⟩:=hbody A outer s H vs Q E (hr.deeper _) hsp;have I:Inv (cQ CX P w K mg base N qual scope f cdv A outer s H E) [] (start N vs) H s1:=aD5 S hr.hd e0 hl r x;refine aUk (ht [] s1 (start N vs) H _ I hq) (fun fl s' hs=>?_) fun e s' hs=>hs;have fin:∀ {σ':St} {H':Hp} {v:V} {u:Value},Inv (cQ CX P w K mg base N qual scope f cdv A outer s H E) [] σ' H' s'->bB v u->Q v H'->CE outer P w H s Q u s':=
  fun {σ' H' v u} J rv q=>⟨v,H',J.os,J.bare,J.base,J.hok,rv,q⟩
 cases fl with
 | ret u=>
  obtain⟨v,σ',H',J,rv,q⟩:=hs;exact fin J rv q
 | next=>
  obtain⟨σ',H',J,q⟩:=hs;exact fin (v:=V.non) (u:=Value.none) J rfl q
 | brk=>
  obtain⟨_,_,_,q⟩:=hs;exact False.elim q
 | cont=>
  obtain⟨_,_,_,q⟩:=hs;exact False.elim q
section
variable {X:Cx}{x:Str}{p pos:Pos}{e:Expr}{es:List Expr}{t:TA}{id T:String}{r:List V->Hp->VK->Prop}
def tCB(r:List V->Hp->VK->Prop)(t:TA):TE:=fun σ H Q=>t σ H fun vs H1=>r vs H1 Q
def nE(hc:eF X (.builtin id) r)(hg:Gl X x)(hm:X.mg x=none)(hv:bootBuiltins x=some (.builtin id))(ha:PA X (e::es) t)(hn:x ≠ "__name__" := by decide)(hdb:aVi x:=by decide)
  (he:aVc X e es:=by rfl) (hpl:aVe X pos es:=by rfl):PE X (.Call (.Name x p) (e::es) [] pos) (tCB r t):=by
 rw[2];refine aV0 (qU I hg hm hv ?_ hn hdb);exact PyProof.Rows.callWith_builtin1 (thn (ha pos pins s σ H _ I h) fun us s1 ⟨vs,H1,I1,r1,q1⟩=>hc pins s1 σ H1 vs us Q I1 r1 q1) he hpl
def xJ(hc:eF X (.type T) r)(hg:Gl X x)(hm:X.mg x=none)(hv:bootBuiltins x=some (.type T))(ha:PA X (e::es) t)(hn:x ≠ "__name__" := by decide)(hdb:aVi x:=by decide)
  (he:aVc X e es:=by rfl) (hpl:aVe X pos es:=by rfl):PE X (.Call (.Name x p) (e::es) [] pos) (tCB r t):=by
 rw[2];refine aV0 (qU I hg hm hv ?_ hn hdb);exact PyProof.Rows.callWith_type1 (thn (ha pos pins s σ H _ I h) fun us s1 ⟨vs,H1,I1,r1,q1⟩=>hc pins s1 σ H1 vs us Q I1 r1 q1) he hpl
end
end L2
namespace HT
open PySem PyProof.Rows
end HT
namespace L2
open PySem PySem.Spec PyProof.Rows
abbrev TO:=St->Hp->(Option Int->Hp->Prop)->Prop
def PO(X:Cx)(e:Option Expr)(t:TO):Prop:=
 ∀ (pins:List (Addr × Obj)) (s:Shared) (σ:St) (H:Hp) (Q:Option Int->Hp->Prop),Inv X pins σ H s->t σ H Q ->
  wpAny (model X.prog X.w) X.A (evalPart e X.env) (fun u s'=>∃ o H',Inv X pins σ H' s'/\IsPart u o/\Q o H') X.xe s
def aLe:TO:=fun _ H Q=>Q none H
def aLi(t:TE):TO:=fun σ H Q=>t σ H fun x H1=>∃ i,x=.int i/\Q (some i) H1
section
variable {X:Cx}{e:Expr}{te:TE}{lo hi:Option Expr}{tl th:TO}{pos p2:Pos}
def aI9:PO X none aLe:=by
 rw[2];rw[evalPart_none];exact aUa ⟨none,H,I,.none,h⟩
def aIa(h:PE X e te):PO X (some e) (aLi te):=by
 intro pins s σ H Q I hw;rw[evalPart_some];refine thn (h pins s σ H _ I hw) fun u s1 ⟨x,H1,I1,r1,q1⟩=>?_;obtain⟨i,rfl,q⟩:=q1;obtain⟨t,rfl⟩:=r1;exact⟨some i,H1,I1,.int i t,q⟩
end
noncomputable def ixN(n:Nat)(i:Int):Option Nat:=if 0<=i then (if i<n then some i.toNat else none) else if -(n:Int)<=i then some (i+n).toNat else none
def atI{α:Type}(xs:List α)(i:Int):Option α:=(ixN xs.length i).bind fun j=>xs[j]?
def aDa{n:Nat}{i:Int}{j:Nat}(h:ixN n i=some j):seqIndex? i n=some j/\j<n /\ -(n:Int)<=i/\i<n:=by
 unfold ixN at h
 by_cases h0:0<=i
 ·rw[aUc h0] at h
  by_cases h1:i<n
  ·rw[aUc h1] at h
   have e:i.toNat=j:=aRv h;exact⟨by rw[seqIndex_of h0 h1,e],by lia,by lia,h1⟩
  ·rw[aUd h1] at h;cases h
 ·rw[aUd h0] at h
  by_cases h1 : -(n:Int)<=i
  ·rw[aUc h1] at h
   have e:(i+n).toNat=j:=aRv h;exact⟨by rw[seqIndex_neg (by lia) h1,e],by lia,h1,by lia⟩
  ·rw[aUd h1] at h;cases h
def AG{α:Type}{xs:List α}{i:Int}{v:α}(h:atI xs i=some v):∃ j,seqIndex? i xs.length=some j/\xs[j]?=some v/\j<xs.length /\ -(xs.length:Int)<=i/\i<xs.length:=by
 unfold atI at h;cases e:ixN xs.length i with
 | none=>rw[e] at h;cases h
 | some j=>
  rw[e] at h;obtain⟨h1,h2,h3,h4⟩:=aDa e;exact⟨j,h1,h,h2,h3,h4⟩
def cM{α:Type}{xs:List α}{j:Nat}{v:α}(h:xs[j]?=some v):atI xs (j:Int)=some v:=by
 have hj:j<xs.length:=(aS0.mp h).1;have e:ixN xs.length (j:Int)=some j:=by
  unfold ixN;rw[aUc (by lia),aUc (by lia)];simp
 unfold atI;rw[e];exact h
def HQ(b:Expr):Prop:=∀ o i,subscripted b false o i=operate [o,i] (getItem o i)
def IxR(X:Cx)(r:R2):Prop:=
 ∀ (value slice:Expr) (pins:List (Addr × Obj)) (s:Shared) (σ:St) (H:Hp) (x y:V) (v u:Value) (Q:VK),Inv X pins σ H s->bB x v->bB y u->r x y H Q ->
  subscripted slice false v u=operate [v,u] (getItem v u)->wpAny (model X.prog X.w) X.A (subscriptTail value slice v u) (EP X pins σ Q) X.xe s
def MtR(X:Cx)(id:String)(r:V->List V->Hp->VK->Prop):Prop:=
 ∀ (pins:List (Addr × Obj)) (s:Shared) (σ:St) (H:Hp) (x:V) (xs:List V) (v:Value) (us:List Value) (Q:VK),Inv X pins σ H s->bB x v->aQ xs us->r x xs H Q ->
  wpAny (model X.prog X.w) X.A (call (.builtin id) (v::us)) (EP X pins σ Q) X.xe s
section
variable {X:Cx}{a b:Expr}{ta tb:TE}{pos:Pos}
def IxR.or{r r':R2}(h:IxR X r)(h':IxR X r'):IxR X (fun x y H Q=>r x y H Q\/r' x y H Q):=by
 intro value slice pins s σ H x y v u Q I rx ry q hs;rcases q with q | q
 ·exact h value slice pins s σ H x y v u Q I rx ry q hs
 ·exact h' value slice pins s σ H x y v u Q I rx ry q hs
def aHt{r:R2}(hr:IxR X r)(ha:PE X a ta)(hb:PE X b tb)(hs:HQ b):PE X (.Subscript a b pos) (tOp r ta tb):=by
 rw[2];exact Subscript_ (vS ha hb I h fun v u s2 x y H2 I2 rx ry q=>hr a b pins s2 σ H2 x y v u Q I2 rx ry q (hs _ _))
def PU(K:PySem.W.Frag):R2:=fun x y H Q=>∃ p xs i v,x=.ref p/\y=.int i/\SqL K H p xs/\atI xs i=some v/\Q v H
def PX(K:PySem.W.Frag):R2:=fun x y H Q=>∃ p xs i v,x=.ref p/\y=.int i/\SqT K H p xs/\atI xs i=some v/\Q v H
def PV:R2:=fun x y H Q=>∃ z i c,x=.str z/\y=.int i/\z.length<=sizeLine/\atI z.cps.toList i=some c/\Q (.str ⟨#[c]⟩) H
def aDc:IxR X (PU X.K):=by
 intro value slice pins s σ H x y v u Q I rx ry h hs;obtain⟨p,xs,i,z,rfl,rfl,hq,he,q⟩:=h;cases rx;obtain⟨t,rfl⟩:=ry;obtain⟨its,r,pl,hz⟩:=I.list hq;obtain⟨j,h1,h2,h3,h4,h5⟩:=AG he;obtain⟨w,ew,rw'⟩:=r.get h2;have hl:=r.length;have hn:=qW;have fin:EP X pins σ Q w s:=⟨z,H,I,rw',q⟩
 by_cases h0:0<=i
 ·have hj:i.toNat=j:=by
   rw[seqIndex_of h0 h5] at h1;exact aRv h1
  exact item_listR pl.isList h0 (by lia) (by rw[hj];simpa using ew) fin hs
 ·have hj:(i+(its.toArray.size:Int)).toNat=j:=by
   rw[seqIndex_neg (by lia) h4] at h1;rw[aS4,<- hl];exact aRv h1
  exact subscriptTail_builtinR (x:=w) pl.isList.typeIs slot_list_getitem.lookup
   (wpAny_getItem_list_neg (Q:=fun r s'=>r=w/\EP X pins σ Q r s') pl.isList (by lia) (by rw[aS4]<;>lia) (by lia) (by rw[hj];simpa using ew) ⟨rfl,fin⟩) hs
def aDf:IxR X (PX X.K):=by
 intro value slice pins s σ H x y v u Q I rx ry h hs;obtain⟨p,xs,i,z,rfl,rfl,hq,he,q⟩:=h;cases rx;obtain⟨t,rfl⟩:=ry;obtain⟨its,r,pl,hz⟩:=I.tuple hq;obtain⟨j,h1,h2,h3,h4,h5⟩:=AG he;obtain⟨w,ew,rw'⟩:=r.get h2;have hl:=r.length;have hn:=qW;have fin:EP X pins σ Q w s:=⟨z,H,I,rw',q⟩;exact subscriptTail_builtinR (x:=w) pl.typeIs slot_tuple_getitem.lookup
  (getItem_tuple (j:=j) (Q:=fun r s'=>r=w/\EP X pins σ Q r s') pl (by lia) (by lia) (by rw[aS4,<- hl];exact h1) (by simpa using ew) ⟨rfl,fin⟩) hs
def aDe:IxR X PV:=by
 intro value slice pins s σ H x y v u Q I rx ry h hs;obtain⟨z,i,c,rfl,rfl,hz,he,q⟩:=h;rw[17];rw[34];obtain⟨j,h1,h2,h3,h4,h5⟩:=AG he;have hl:z.cps.toList.length=z.length:=by simp[Str.length]
 rw[hl] at h1 h4 h5;have hn:=qW;exact tail_any (aUv s z t) slot_str_getitem.lookup (getItem_str (c:=c) (by
  have e1:decide (i < -(2^63:Int))=false:=aUi (by lia);have e2:decide (i >= 2^63)=false:=aUi (by lia);rw[e1,e2,Bool.or_false]) (by rw[h1];simpa using h2) ⟨.str ⟨#[c]⟩,H,I.tok _,⟨_,rfl⟩,q⟩) hs
def rIx(K:PySem.W.Frag):R2:=fun x y H Q=>PU K x y H Q\/PX K x y H Q\/PV x y H Q
def aDd:IxR X (rIx X.K):=aDc.or (aDf.or aDe)
noncomputable def kR:V->Bool
 | .non=>true
 | .bl _=>true
 | .int _=>true
 | .str _=>true
 | _=>false
noncomputable def eqV:V->V->Bool
 | .non,.non=>true
 | .bl a,.bl b=>a == b
 | .bl a,.int b=>(if a then 1 else 0) == b
 | .int a,.bl b=>a == (if b then 1 else 0)
 | .int a,.int b=>a == b
 | .str a,.str b=>a == b
 | _,_=>false
def YN{A:Around}{s:Shared}{y x:V}{u v:Value}(ry:bB y u)(rx:bB x v)(fy:kR y=true)(fx:kR x=true):SeqAt.EqAt A s u v (eqV y x):=by
 cases y with
 | non=>
  cases ry;cases x with
  | non=>cases rx;exact SeqAt.EqAt.same _
  | bl b=>cases rx;exact SeqAt.EqAt.none_bool b
  | int b=>obtain⟨t,rfl⟩:=rx;exact SeqAt.EqAt.none_int b t
  | str b=>obtain⟨t,rfl⟩:=rx;exact SeqAt.EqAt.none_str b t
  | _=>exact absurd (show false=true from fx) aSf
 | bl a=>
  cases ry;cases x with
  | non=>cases rx;exact SeqAt.EqAt.bool_none a
  | bl b=>cases rx;exact SeqAt.EqAt.bool_bool a b
  | int b=>obtain⟨t,rfl⟩:=rx;exact SeqAt.EqAt.bool_int a b t
  | str b=>obtain⟨t,rfl⟩:=rx;exact SeqAt.EqAt.bool_str a b t
  | _=>exact absurd (show false=true from fx) aSf
 | int a=>
  rw[34];cases x with
  | non=>cases rx;exact SeqAt.EqAt.int_none a t'
  | bl b=>cases rx;exact SeqAt.EqAt.int_bool a t' b
  | int b=>obtain⟨t,rfl⟩:=rx;exact SeqAt.EqAt.int_int a t' b t
  | str b=>obtain⟨t,rfl⟩:=rx;exact SeqAt.EqAt.int_str a t' b t
  | _=>exact absurd (show false=true from fx) aSf
 | str a=>
  rw[34];cases x with
  | non=>cases rx;exact SeqAt.EqAt.str_none a t'
  | bl b=>cases rx;exact SeqAt.EqAt.str_bool a t' b
  | int b=>obtain⟨t,rfl⟩:=rx;exact SeqAt.EqAt.str_int a t' b t
  | str b=>obtain⟨t,rfl⟩:=rx;exact SeqAt.EqAt.str_str a t' b t
  | _=>exact absurd (show false=true from fx) aSf
 | _=>exact absurd (show false=true from fy) aSf
def eqU(x:V)(u:Value):Bool:=match u with
 | .none=>eqV .non x
 | .bool b=>eqV (.bl b) x
 | .int i _=>eqV (.int i) x
 | .str z _=>eqV (.str z) x
 | _=>false
def JK{x y:V}{u:Value}(r:bB y u)(f:kR y=true):eqU x u=eqV y x:=by
 cases y with
 | non=>cases r;rfl
 | bl b=>cases r;rfl
 | int i=>obtain⟨t,rfl⟩:=r;rfl
 | str z=>obtain⟨t,rfl⟩:=r;rfl
 | _=>exact absurd (show false=true from f) aSf
theorem AF{x:V}:∀ {xs:List V}{us:List Value},aQ xs us->xs.all kR=true->us.any (eqU x)=xs.any fun y=>eqV y x
 | _,_,.nil,_=>rfl
 | y::xs,u::us,.cons r t,f=>by
  rw[aSn,aSb] at f;rw[List.any_cons,List.any_cons,JK r f.1,AF t f.2]
theorem CH{A:Around}{s:Shared}{x:V}{v:Value}(rx:bB x v)(fx:kR x=true):∀ {xs:List V}{us:List Value},aQ xs us->xs.all kR=true->∀ u∈us,SeqAt.EqAt A s u v (eqU x u)
 | _,_,.nil,_=>fun u hu=>by cases hu
 | y::xs,u::us,.cons r t,f=>fun u' hu=>by
  rw[aSn,aSb] at f;rcases aS7.mp hu with rfl | hu
  ·rw[JK r f.1];exact YN r rx f.1 fx
  ·exact CH rx fx t f.2 u' hu
def inV(x:V)(xs:List V):Bool:=xs.any fun y=>eqV y x
def rIn(K:PySem.W.Frag)(neg:Bool):R2:=fun x y H Q=>∃ p xs,y=.ref p/\(SqL K H p xs\/SqT K H p xs)/\kR x=true/\xs.all kR=true/\Q (.bl (if neg then !inV x xs else inV x xs)) H
def OF:OpR X (compareOp .In) (rIn X.K false):=by
 rw[7];obtain⟨p,xs,rfl,hq,fx,fs,q⟩:=h;cases ry;rcases hq with hq | hq
 ·obtain⟨its,r,pl,hz⟩:=I.list hq
  refine SeqAt.in_listAt (eqU x) pl.isList (fun w hw=>CH rx fx r fs w (by simpa using hw)) ⟨.bl _,H,I,rfl,?_⟩;rw[show its.toArray.any (eqU x)=its.any (eqU x) by simp,AF r fs];exact q
 ·obtain⟨its,r,pl,hz⟩:=I.tuple hq
  refine SeqAt.in_tupleAt (eqU x) pl (fun w hw=>CH rx fx r fs w (by simpa using hw)) ⟨.bl _,H,I,rfl,?_⟩;rw[show its.toArray.any (eqU x)=its.any (eqU x) by simp,AF r fs];exact q
def XB:eF X (.builtin "len") (fun xs H Q=>∃ p ys,xs=[.ref p]/\(SqL X.K H p ys\/SqT X.K H p ys)/\Q (.int ys.length) H):=by
 rw[16];obtain⟨p,ys,rfl,hq,q⟩:=h;obtain⟨u,rfl,rx⟩:=jM r;cases rx;have hn:=qW;rcases hq with hq | hq
 ·obtain⟨its,r',pl,hz⟩:=I.list hq
  have hlen:=r'.length;exact Calls.call_len_list pl.isList (by simp only[aS4]<;>lia) ⟨.int ys.length,H,I.tok _,⟨s.toks+1,by rw[aS4,hlen]⟩,q⟩
 ·obtain⟨its,r',pl,hz⟩:=I.tuple hq
  have hlen:=r'.length;exact len_tuple pl (by simp only[aS4]<;>lia) ⟨.int ys.length,H,I.tok _,⟨s.toks+1,by rw[aS4,hlen]⟩,q⟩
def XC:eF X (.builtin "len") (fun xs H Q=>∃ z,xs=[.str z]/\z.length<=sizeLine/\Q (.int z.length) H):=by
 rw[16];obtain⟨z,rfl,hz,q⟩:=h;obtain⟨u,rfl,t,rfl⟩:=jM r;have hn:=qW;exact len_str (by lia) ⟨.int z.length,H,I.tok _,⟨_,rfl⟩,q⟩
def XJ:eF X (.type "tuple") (fun xs H Q=>∃ p ys,xs=[.ref p]/\((SqL X.K H p ys/\∀ l,H l=none->Q (.ref l) (upd H l (.tup ys)))\/(SqT X.K H p ys/\Q (.ref p) H))):=by
 rw[16];obtain⟨p,ys,rfl,h⟩:=h;obtain⟨u,rfl,rx⟩:=jM r;cases rx;rcases h with ⟨hq,q⟩ | ⟨hq,q⟩
 ·obtain⟨its,r',pl,hz⟩:=I.list hq
  have hlen:=r'.length;refine call_tuple_list pl.isList (fun h' kp=>?_) (by simp only[aS4]<;>lia)
  have I1:Inv X pins σ H { s with heap:=h' }:=I.kept (t':=s.toks) kp;have I2:Inv X pins σ (upd H h'.objs.size (.tup ys)) { s with heap:=h'.push { cls:=.type "tuple",data:=.seq its.toArray } }:=
   I1.laid (t':=s.toks) (fun b o e=>aS6 _ e) (aTs _) (show cO X.prog X.w _ _ _ (.tup ys) from ⟨hz,its,r',IsTup.new _ _⟩)
  exact⟨.ref h'.objs.size,_,I2,rfl,q _ (I1.hok.fresh (aTs _))⟩
 ·obtain⟨its,r',pl,hz⟩:=I.tuple hq
  exact call_tuple_same pl ⟨.ref p,H,I,rfl,q⟩
def tyV (K : PySem.W.Frag) (T : String) (x : V) (H : Hp) : Prop := match x with
 | .str _ => T = "str"
 | .int _ => T = "int"
 | .ref p => (T = "list" /\ ∃ xs, SqL K H p xs) \/ (T = "tuple" /\ ∃ o, K.lookup p = some o /\ o.cls = .type "tuple" /\ o.dict = none) \/
   (T = "dict" /\ ((∃ kvs, H p = some (.dK kvs)) \/ ∃ kvs, H p = some (.dT kvs))) \/ (T = "set" /\ ∃ S n, H p = some (.set S n))
 | _ => False
theorem TL{pins:List (Addr × Obj)}{σ:St}{H:Hp}{s:Shared}{T:String}{x:V}{v:Value}(I:Inv X pins σ H s)(r:bB x v)(ty:tyV X.K T x H):
  s.TypeIs v T/\∀ a,v=.ref a->∃ ob,s.heap.get? a=some ob/\ob.dict=none:=by
 cases x with
 | str z=>
  obtain⟨t,rfl⟩:=r;cases (show T = "str" from ty);exact⟨aUv s z t,fun _ e=>nomatch e⟩
 | int i=>
  obtain⟨t,rfl⟩:=r;cases (show T = "int" from ty);exact⟨aV6 s i t,fun _ e=>nomatch e⟩
 | ref p=>
  cases r;rcases ty with ⟨rfl,xs,hq⟩ | ⟨rfl,o,hk,hc,hd⟩ | ⟨rfl,hk⟩ | ⟨rfl,S,n,hk⟩
  ·obtain⟨its,_,pl,_⟩:=I.list hq
   refine⟨pl.isList.typeIs,fun a e=>?_⟩;cases e;obtain⟨o,n,e,c,hd,_⟩:=pl;exact⟨o,e,hd⟩
  ·refine⟨⟨o,I.kIn p o hk,hc⟩,fun a e=>?_⟩
   cases e;exact⟨o,I.kIn _ o hk,hd⟩
  ·have z:∃ o,s.heap.get? p=some o/\o.ExactDict:=by
    rcases hk with ⟨kvs,hk⟩ | ⟨kvs,hk⟩
    ·obtain⟨_,_,_,_,o,_,_,e,ex,_⟩:=I.hok p _ hk
     exact⟨o,e,ex⟩
    ·obtain⟨_,_,_,_,o,_,_,e,ex,_⟩:=I.hok p _ hk
     exact⟨o,e,ex⟩
   obtain⟨o,e,ex⟩:=z;refine⟨⟨o,e,ex.1⟩,fun a e2=>?_⟩;cases e2;exact⟨o,e,ex.2.1⟩
  ·obtain⟨o,_,_,_,e,ex,_⟩:=I.hok p _ hk
   refine⟨⟨o,e,ex.1⟩,fun a e2=>?_⟩;cases e2;exact⟨o,e,ex.2.1⟩
 | _=>exact False.elim ty
def aKy(K:PySem.W.Frag)(T:String)(r:V->List V->Hp->VK->Prop)(to:TE):TE:=fun σ H Q=>to σ H fun x H1=>tyV K T x H1/\r x [] H1 Q
def tBM(K:PySem.W.Frag)(T:String)(r:V->List V->Hp->VK->Prop)(to:TE)(t:TA):TE:=fun σ H Q=>to σ H fun x H1=>tyV K T x H1/\t σ H1 fun xs H2=>r x xs H2 Q
variable {o e:Expr}{es:List Expr}{to:TE}{t:TA}{name:Str}{apos cpos:Pos}{T id:String}{r:V->List V->Hp->VK->Prop}
def OM(pa:PlainAttrs T)(slot:Slot T name id)(hty:typeOf (.builtin id)=pure (.type "method_descriptor"))(hm:MtR X id r)(ho:PE X o to)
  (hbase:attributeBase o name X.env (eval o X.env)=eval o X.env:=by rfl) (hline:(apos.endLine == cpos.line)=true:=by rfl):PE X (.Call (.Attribute o name apos) [] [] cpos) (aKy X.K T r to):=by
 rw[2];refine wpAny_Call_method0_late hbase hline (thn (ho pins s σ H _ I h) fun v s1 ⟨x,H1,I1,r1,ty,q1⟩=>?_);obtain⟨h1,h2⟩:=TL I1 r1 ty;exact⟨T,id,pa,slot,hty,h1,h2,Calls.callWith_builtin rfl (PySem.evalArgs_none (hm pins s1 σ H1 x [] v [] Q I1 r1 .nil q1))⟩
def nC(pa:PlainAttrs T)(slot:Slot T name id)(hty:typeOf (.builtin id)=pure (.type "method_descriptor"))(hm:MtR X id r)(ho:PE X o to)(ha:PA X (e::es) t)
  (hbase:attributeBase o name X.env (eval o X.env)=eval o X.env:=by rfl)
  (hfew:((backTo cpos (starEach (e::es) X.env)).all (fun x=>!x.1)&&(backToKw cpos (keywordEach [] X.env)).all (fun x=>x.1.isSome)
   && decide ((e::es).length+([]:List Keyword).length+(if ([]:List Keyword).isEmpty then 0 else 1)<30))=true:=by rfl)
  (hline:(apos.endLine == cpos.line)=true:=by rfl) (hs:aVc X e es:=by rfl) (hplain:(backTo cpos (starEach es X.env)).any (·.1)=false:=by rfl):
  PE X (.Call (.Attribute o name apos) (e::es) [] cpos) (tBM X.K T r to t):=by
 rw[2];refine wpAny_Call_method_late hbase hfew hline rfl (thn (ho pins s σ H _ I h) fun v s1 ⟨x,H1,I1,r1,ty,q1⟩=>?_);obtain⟨h1,h2⟩:=TL I1 r1 ty;refine⟨T,id,pa,slot,hty,h1,h2,?_⟩;have hA:=ha cpos pins s1 σ H1 _ I1 q1;rw[hs] at hA ⊢;refine Calls.callWith_builtin (by show (false||(backTo cpos (starEach es X.env)).any (·.1))=false;rw[hplain]<;>rfl) (Calls.evalArgs_plain ?_)
 exact thn hA fun us s2 ⟨vs,H2,I2,r2,q2⟩=>hm pins s2 σ H2 x vs v us Q I2 r1 r2 q2
end
def MtM(X:Cx)(id:String)(r:V->List V->Hp->VK->Prop):Prop:=
 ∀ (pins:List (Addr × Obj)) (s:Shared) (σ:St) (H:Hp) (x:V) (xs:List V) (v:Value) (us:List Value) (Q:VK),Inv X pins σ H s->bB x v->aQ xs us->r x xs H Q ->
  wpAny (model X.prog X.w) X.A (call (.builtin id) (v::us)) (EP X pins σ Q) X.xe s
theorem aQ.one:∀ {x:V}{us:List Value},aQ [x] us->∃ u,us=[u]/\bB x u
 | _,_,.cons r .nil=>⟨_,rfl,r⟩
theorem aQ.eraseIdx:∀ {xs:List V}{us:List Value}(i:Nat),aQ xs us->aQ (xs.eraseIdx i) (us.eraseIdx i)
 | _,_,_,.nil=>.nil
 | _,_,0,.cons _ t=>t
 | _,_,i+1,.cons r t=>.cons r (aQ.eraseIdx i t)
theorem aQ.rep{xs:List V}{us:List Value}(h:aQ xs us):∀ k:Nat,aQ (List.replicate k xs).flatten (List.replicate k us).flatten
 | 0=>.nil
 | k+1=>by
  rw[aTp,aTp,List.flatten_cons,List.flatten_cons];exact aQ.append h (aQ.rep h k)
theorem NA{α:Type}:∀ (l:List α) (i:Nat),(l.eraseIdx i).length<=l.length
 | [],_=>aTs _
 | _::_,0=>Nat.le_succ _
 | _::r,i+1=>Nat.succ_le_succ (NA r i)
theorem KB(its:List Value):∀ (k:Nat) (acc:List Value),
  List.foldl (fun x1 x2=>x1++x2) acc.toArray (List.replicate k its.toArray)=(acc++(List.replicate k its).flatten).toArray
 | 0,acc=>by simp
 | k+1,acc=>by
  have e:acc.toArray++its.toArray=(acc++its).toArray:=by simp
  have e2:(acc++its)++(List.replicate k its).flatten=acc++(List.replicate (k+1) its).flatten:=by
   rw[aTp,List.flatten_cons,aSo]
  rw[<- e2,<- KB its k (acc++its),<- e,aTp,List.foldl_cons]
section
variable {X:Cx}{pins:List (Addr × Obj)}{σ:St}{H:Hp}{s:Shared}{l b:Addr}{xs ys zs:List V}
def Inv.lset{its its':List Value}{n:Nat}{f:Array Value->Array Value}{t':Nat}(I:Inv X pins σ H s)(hH:H l=some (.lst xs))
  (e:s.heap.get? l=some { cls:=.type "list",data:=.seq its.toArray n }) (hf:f its.toArray=its'.toArray) (hv:aQ ys its') (hz:ys.length<=sizeLine):
  Inv X pins σ (upd H l (.lst ys)) { s with heap:=s.heap.update l (Obj.mapSeq f),toks:=t' }:=by
 have q:=PySem.IsL.update e f;rw[hf] at q;refine I.write (x:=l) (e:=l) (by rw[hH];exact trivial) (.inl rfl) (fun b' u hb hu=>(Heap.get?_update_other s.heap (Obj.mapSeq f) (Ne.symm hb)).trans hu) ⟨_,q⟩ ?_;exact⟨hz,its',_,hv,q⟩
def Inv.lnew{its:List Value}{t':Nat}(I:Inv X pins σ H s)(hv:aQ ys its)(hz:ys.length<=sizeLine):
  Inv X pins σ (upd H s.heap.objs.size (.lst ys)) { s with heap:=s.heap.push { cls:=.type "list",data:=.seq its.toArray },toks:=t' }:=
 I.laid (fun _ _ q=>aS6 _ q) (aTs _) ⟨hz,its,0,hv,aSh _ rfl⟩
def Inv.fresh(I:Inv X pins σ H s):H s.heap.objs.size=none:=I.hok.fresh (aTs _)
def Inv.lstM(I:Inv X pins σ H s)(hH:H l=some (.lst xs)):xs.length<=sizeLine/\∃ (its:List Value) (n:Nat),aQ xs its/\xs.length=its.length/\s.heap.get? l=some { cls:=.type "list",data:=.seq its.toArray n }:=by
 obtain⟨z,its,n,r,e⟩:=I.hok l _ hH;exact⟨z,its,n,r,r.length,e⟩
def NN{n:Nat}(h:n<=sizeLine):Builtin.List.listTooLong n=false:=by
 unfold Builtin.List.listTooLong;exact aUi (by lia)
end
section
variable {X:Cx}
def aIz:V->List V->Hp->VK->Prop:=fun x vs H Q=>∃ l xs y,x=.ref l/\vs=[y]/\H l=some (.lst xs)/\xs.length<sizeLine/\Q .non (upd H l (.lst (xs++[y])))
def wQ:MtM X "list.append" aIz:=by
 intro pins s σ H x vs v us Q I rx rv h;obtain⟨l,xs,y,rfl,rfl,hH,hz,q⟩:=h;cases rx;rw[31];obtain⟨z,its,n,r,hl,e⟩:=I.lstM hH;refine aV4 F.slot_list_append ⟨_,e,rfl⟩ F.entry_list_append (F.args_list_append_2 _ _) (PySem.list_append l its.toArray n u (by rw[aS4];lia)) ⟨e,?_⟩;refine⟨.non,_,I.lset (its':=its++[u]) hH e (by simp) (r.append (.cons ru .nil)) ?_,rfl,q⟩;rw[aT3,aT9];lia
def aJ1:V->List V->Hp->VK->Prop:=fun x vs H Q=>∃ l b xs zs,x=.ref l/\vs=[.ref b]/\H l=some (.lst xs)/\H b=some (.lst zs)/\xs.length+zs.length<=sizeLine/\Q .non (upd H l (.lst (xs++zs)))
def aEd:MtM X "list.extend" aJ1:=by
 intro pins s σ H x vs v us Q I rx rv h;obtain⟨l,b,xs,zs,rfl,rfl,hH,hB,hz,q⟩:=h;cases rx;rw[31];cases ru;obtain⟨z,its,n,r,hl,e⟩:=I.lstM hH;obtain⟨z2,its2,n2,r2,hl2,e2⟩:=I.lstM hB;have hsz:its.toArray.size+its2.toArray.size<=sizeLine:=by rw[aS4,aS4];lia
 have hlong:¬ (!its.toArray.isEmpty&&Builtin.List.listTooLong (its.toArray.size+its2.toArray.size))=true:=by
  rw[NN hsz,Bool.and_false];exact aSf
 refine aV4 F.slot_list_extend ⟨_,e,rfl⟩ F.entry_list_extend (F.args_list_extend_2 _ _)
  (AutoSeq1.list_extend_list_list_0 l its.toArray n b its2.toArray n2 hlong (by rw[aS4];lia) (by lia)) ⟨e,e2,?_⟩
 refine⟨.non,_,I.lset (its':=its++its2) hH e (by simp) (r.append r2) ?_,rfl,q⟩;rw[aT3];lia
def aJ3:V->List V->Hp->VK->Prop:=fun x vs H Q=>∃ l xs i k y,x=.ref l/\vs=[.int i]/\H l=some (.lst xs) /\ -(2^63)<=i/\i<2^63/\seqIndex? i xs.length=some k/\xs[k]?=some y/\Q y (upd H l (.lst (xs.eraseIdx k)))
def aEg:MtM X "list.pop" aJ3:=by
 intro pins s σ H x vs v us Q I rx rv h;obtain⟨l,xs,i,k,y,rfl,rfl,hH,h1,h2,hk,hy,q⟩:=h;cases rx;rw[31];obtain⟨t,rfl⟩:=ru;obtain⟨z,its,n,r,hl,e⟩:=I.lstM hH;obtain⟨w,hw,rw'⟩:=r.get hy;refine aV4 F.slot_list_pop ⟨_,e,rfl⟩ F.entry_list_pop (F.args_list_pop_2 _ _)
  (MeetsSeq.list_pop_at l its.toArray n i t k w (fitsIndex_both h1 h2) (by rw[aS4,<- hl];exact hk) (by rw[<- Array.getElem?_toList];exact hw) (by rw[aS4];lia)) ⟨e,?_⟩
 refine⟨y,_,I.lset (its':=its.eraseIdx k) hH e ?_ (r.eraseIdx k) ?_,rw',q⟩
 ·show its.toArray.eraseIdxIfInBounds k=(its.eraseIdx k).toArray
  rw[List.eraseIdxIfInBounds_toArray]
 ·have:=NA xs k
  lia
def aJ4:R2:=fun x y H Q=>∃ l k xs,x=.ref l/\y=.int k/\H l=some (.lst xs) /\ -(2^63)<=k/\k<2^63/\xs.length*k.toNat<=sizeLine /\
 ∀ p,H p=none->Q (.ref p) (upd H p (.lst (List.replicate k.toNat xs).flatten))
def aE1{α:Type}(xs:List α)(k:Nat):(List.replicate k xs).flatten.length=k*xs.length:=by
 induction k with
 | zero=>simp
 | succ k ih=>rw[aTp,List.flatten_cons,aT3,ih,Nat.succ_mul,Nat.add_comm]
def aH9:OpR X (binaryOp .Mult) aJ4:=by
 rw[7];obtain⟨l,k,xs,rfl,rfl,hH,h1,h2,hz,q⟩:=h;cases rx;obtain⟨t,rfl⟩:=ry;obtain⟨z,its,n,r,hl,e⟩:=I.lstM hH;have hlen:its.toArray.size*k.toNat<=sizeLine:=by rw[aS4,<- hl];exact hz
 have hcap:¬ its.toArray.size*k.toNat > (2^63-1) / 8:=by
  have:(sizeLine:Nat)<=(2^63-1) / 8:=by decide
  lia
 have hfit:¬ (!Builtin.List.listFitsIndex k)=true:=by
  rw[fitsIndex_both h1 h2];exact aSf
 have hlong:¬ Builtin.List.listTooLong (its.toArray.size*k.toNat)=true:=by
  rw[NN hlen];exact aSf
 have hnew:List.foldl (fun x1 x2=>x1++x2) #[] (List.replicate (if its.toArray.isEmpty=true then 0 else k.toNat) its.toArray)=(List.replicate k.toNat its).flatten.toArray:=by
  have f0:∀ m:Nat,List.foldl (fun x1 x2=>x1++x2) #[] (List.replicate m its.toArray)=(List.replicate m its).flatten.toArray:=fun m=>by
   have:=KB its m [];rw[aTm] at this;exact this
  rw[f0];cases its with
  | nil=>simp
  | cons a r'=>rw[aUd (by simp)]
 refine wpAny_binaryOp_repeat_ref (T := "list") (U := "int") (by decide) ⟨_,e,rfl⟩ (fun s'=>aV6 s' k t) noFill_list_mul F.fills_int_mul F.slot_int_rmul repeat_list F.slot_int_index.lookup
  (aV4 F.slot_int_rmul (aV6 s k t) F.entry_int_rmul (F.args_int_rmul_2 _ _) (int___rmul___int_list k t l its.toArray n)
   ⟨e,rfl,⟨_,e,rfl⟩,aV4 F.slot_list_mul ⟨_,e,rfl⟩ F.entry_list_mul (F.args_list_mul_2 _ _) (AutoListH.list___mul___list_int_3 l its.toArray n k t hfit hcap hlong) ⟨e,?_⟩⟩)
 rw[hnew];exact⟨.ref _,_,I.lnew (t':=s.toks) (r.rep k.toNat) (by rw[aE1,Nat.mul_comm];exact hz),rfl,q _ I.fresh⟩
end
end L2
namespace Att
open PySem PySem.W PySem.Calls PyProof.Rows
def aD3{P:Params}{h:Heap}:∀ (ns:List Int) (vs:List Value),WellAll P h vs (ns.map WData.int)->IntsAre vs ns:=by
 intro ns
 induction ns with
 | nil=>
  intro vs w;rw[aTe] at w;cases w;exact .nil
 | cons n ns ih=>
  intro vs w;rw[aTc] at w;cases w with
  | cons a b=>
   cases a;exact .cons _ _ (ih _ b)
theorem aKc{l:OpenLaw}{n:Nat}(hn:l.most=some n){P:Params}{h:Heap}{args:List WData}{vals:List Value}
  (hpre:l.row.toRowW.claim.pre args=true) (hwl:WellAll P h vals args):
  ∃ a vs ns,vals=[Value.ref a]/\args=[WData.list (ns.map WData.int)]/\h.get? a=some { cls:=.type "list",data:=.seq vs.toArray }/\IntsAre vs ns/\ns.length<=n:=by
 have hsh:WShape.hasAll [] args [.list .int]=true:=(pre_splitW hpre).1;have hc:l.pre.holds [] { args:=args }=true:=(pre_splitW hpre).2;obtain⟨d,r,rfl,h1,h2⟩:=hasAllW_cons hsh;obtain rfl:=hasAllW_nil h2;obtain⟨xs,rfl,h3⟩:=hasW_list h1;obtain⟨ns,rfl⟩:=items_int h3;have hlen:ns.length<=n:=by
  unfold OpenLaw.pre at hc;have h4:(WTm.not (.lt (.lit (.int (n:Int))) (.len (.arg 0)))).holds [] { args:=[.list (ns.map .int)] }=true:=by
   have h4:=(holds_andW hc).1;rw[hn] at h4;exact h4
  have h5:=condW_of h4 (w_not (w_lt w_lit (w_len_list (w_arg rfl))));rw[aT5] at h5;refine Nat.le_of_not_lt fun q=>?_;have q':(n:Int)<((ns.length:Nat):Int):=by lia
  first
   | (rw[aUj q'] at h5;exact absurd h5 (by decide))
   | (simp at h5;lia)
 cases hwl with
 | cons w1 w2=>
  cases w2;cases w1 with
  | list ho hall=>exact⟨_,_,ns,rfl,rfl,ho,aD3 ns _ hall,hlen⟩
def aIc(l:OpenLaw)(args:List WData):l.row.toRowW.claim.post args (.bool true) args=true:=
 postW_of (r:=l.row.toRowW) (X:=(true == true))
  (show WShape.has [] (.bool true) .bool=true by first | rfl | decide | simp[WShape.has,WShape.arms,WShape.armsAll])
  (show (WTm.eq .res (.lit (.bool true))).value [] { args:=args,res:=some (.bool true),after:=args }=some (.bool (true == true)) from w_eq_bool (w_res rfl) w_lit) rfl
def attach_call{l:OpenLaw}{n:Nat}{q:Program}{loose:List Str}{XP:(Str->Option Value)->Heap->Prop}{YP:World->Heap->Prop}{d:DefRec}
  (hn:l.most=some n) (hdf:d.params.defaults=[])
  (call:∀ (w:World) (s₀ s₁:Shared) (mg mb:Str->Option Value) (fa:Addr) (o:Obj) (pm cd doc:Value) (a:Addr) (vs:List Value) (ns:List Int),
   Ground q loose [] XP w s₀ mg mb s₁.heap->YP w s₁.heap ->
   s₁.heap.get? fa=some o->o.data=.func (docDef d.name d.params d.body d.scope pm cd doc)->s₁.heap.CodeRec cd d.name->mg d.name=some (.ref fa) ->
   s₁.heap.get? a=some { cls:=.type "list",data:=.seq vs.toArray }->IntsAre vs ns->ns.length<=n->s₁.gens=#[] ->
   codeAny (model l.prog w) callerA (.call (.ref fa) ⟨[.ref a],[]⟩) (fun r s'=>r=.ok (.ret (.bool true))/\OldK s₁.heap s'.heap/\s'.os=s₁.os/\AllBare s'.gens) s₁):
  WalkO q loose XP YP l.row.toRowW d [] (fun f vs=>PySem.call f vs):=by
 intro w s₀ s₁ mg mb G Y fa o pm cd doc dV kV ho hd hcd hD hmg hg args vals as hpre hlay hrd hwl hlo;obtain rfl:dV=.none:=Dflts.none hD hdf;obtain rfl:kV=.none:=Dflts.noKw hD;obtain⟨a,vs,ns,rfl,rfl,hobj,hints,hlen⟩:=aKc hn hpre hwl;refine enter_call (aV8 (call w s₀ s₁ mg mb fa o pm cd doc a vs ns G Y ho (fd_plain hd) hcd hmg hobj hints hlen hg) fun r s' hq=>?_);obtain⟨rfl,h2,h3,h4⟩:=hq;exact⟨.inl ⟨.bool true,.bool true,[],rfl,fun _=>rfl,.bool true,aIc l _,fun _=>⟨List.Pairwise.nil,fun _ hm=>(nomatch hm)⟩⟩,h2,h3,h4⟩
end Att
namespace L2
open PySem PySem.Spec PyProof.Rows
theorem zH:∀ {vs:List Value}{ns:List Int},IntsAre vs ns->aQ (ns.map V.int) vs
 | _,_,.nil=>.nil
 | _,_,.cons n t h=>.cons ⟨t,rfl⟩ (zH h)
def zY(H:Hp):Prop:=∀ b,H b=none\/∃ o xs,H b=some (.frz o (.lst xs))
theorem aDq{P:Program}{w:World}{K:PySem.W.Frag}{mg mb:Str->Option Value}{CX:CXT}{k:Nat}{fa a:Addr}{fd:FuncData}{x:Str}{sp:Sp}{s₁:Shared}{vs:List Value}{ns:List Int}
  (KX:K.In s₁.heap) (hns:s₁.heap.Ns mainGlobals mg) (hb:s₁.heap.Ns builtinsNs mb) (hbb:∀ x:Str,x ≠ "__name__" -> mb x=bootBuiltins x) (hlim:s₁.heap.NoLimit) (hdig:s₁.heap.NoDigits) (hg:s₁.gens=#[])
  (ha:s₁.heap.get? a=some { cls:=.type "list",data:=.seq vs.toArray }) (hi:IntsAre vs ns) (hl:ns.length<=sizeLine) (hr:Room k callerA)
  (F:∀ base:Heap,K.In base->base.Ns mainGlobals mg->FnOk P w K mg base CX k fa fd [x] sp) (hbind:∀ (s:Shared) (u:Value),BindsTo s fd ⟨[u],[]⟩ [(x,u)])
  (hsp:∀ H:Hp,zY H->SqL K H a (ns.map V.int)->sp [.ref a] H (fun v _=>v=.bl true) fun _ _ _=>False)
  (hCX:∀ H e s',CX [] H s₁ (fun _ _ _=>False) e s'->False):
  codeAny (model P w) callerA (.call (.ref fa) ⟨[.ref a],[]⟩) (fun r s'=>r=.ok (.ret (.bool true))/\OldK s₁.heap s'.heap/\s'.os=s₁.os/\AllBare s'.gens) s₁:=by
 have rv:=zH hi;have lenV:=hi.length;have core:∀ H:Hp,zY H->SqL K H a (ns.map V.int)->HOk P w H s₁.heap->(∀ b,H b≠none->b=a)->(H a≠none->K.lookup a=none) ->
   codeAny (model P w) callerA (.call (.ref fa) ⟨[.ref a],[]⟩) (fun r s'=>r=.ok (.ret (.bool true))/\OldK s₁.heap s'.heap/\s'.os=s₁.os/\AllBare s'.gens) s₁:=by
  intro H hO hS hok hA hK;have base_of:∀ {b:Addr} {o:Obj},s₁.heap.get? b=some o->H b=none->(kS s₁.heap H).get? b=some o:=fun e n=>aCl e n;have noA:∀ {b:Addr} {o:Obj} {es:Array DictEntry} {ep:Nat},s₁.heap.get? b=some o->o.data=.dict es ep->H b=none:=fun {b o es ep} e d=>by
   cases q:H b with
   | none=>rfl
   | some u=>
    have e':b=a:=hA b (by rw[q];simp);subst e';rw[ha] at e;cases e;have d':Data.seq vs.toArray _=Data.dict es ep:=d;cases d'
  have nsK:∀ {b:Addr} {m:Str->Option Value},s₁.heap.Ns b m->(kS s₁.heap H).Ns b m:=fun {b m} ⟨o,es,ep,e,d,r⟩=>⟨o,es,ep,base_of e (noA e d),d,r⟩;have hKb:K.In (kS s₁.heap H):=fun b o e=>base_of (KX b o e) (by
   cases q:H b with
   | none=>rfl
   | some u=>
    have e':b=a:=hA b (by rw[q];simp);subst e';rw[hK (by rw[q];simp)] at e;cases e)
  have hM:Mod K mg (kS s₁.heap H):=⟨hKb,nsK hns,⟨mb,nsK hb,hbb⟩,let ⟨mc,h1,h2⟩:=hlim;⟨mc,nsK h1,h2⟩,let ⟨mc,h1,h2⟩:=hdig;⟨mc,nsK h1,h2⟩⟩;have e0:Env0 P w K mg (kS s₁.heap H) callerA [] s₁ H:=⟨rfl,hM,fun b o e=>aFh e,Nat.le_of_eq (aCm _ _),trivial,fun b hb=>absurd (show b∈([]:List Addr) from hb) (by simp),hok,.of_eq hg⟩;refine aV8 ((F _ hKb (nsK hns)).run callerA [] s₁ H ⟨[.ref a],[]⟩ [.ref a] [.ref a] _ _ hr e0 (hbind s₁ (.ref a)) (.cons rfl .nil) (hsp H hO hS)) fun r s' h=>?_;cases r with
  | error e=>exact (hCX H e s' h).elim
  | ok fl=>
   cases fl with
   | next=>exact False.elim h
   | brk=>exact False.elim h
   | cont=>exact False.elim h
   | ret u=>
    obtain⟨v,H',os,bare,un,hok',r',q⟩:=h;have q':v=.bl true:=q;subst q';obtain rfl:u=Value.bool true:=r';refine⟨rfl,OldK.of_keep fun b o e=>?_,os,bare⟩;cases q:H b with
    | none=>exact un.keep b o e q (by intro z;exact absurd (show b∈([]:List Addr) from z) (by simp)) (by simp)
    | some u=>
     rcases hO b with z | ⟨ob,xs,z⟩
     ·rw[q] at z;cases z
     ·have z2:=un.frzs b ob _ z
      obtain⟨e1,_⟩:=hok b _ z;obtain⟨e2,_⟩:=hok' b _ z2;rw[e] at e1;cases e1;exact e2
 cases hk:K.lookup a with
 | some o=>
  have e:=KX a o hk;rw[ha] at e;cases e;refine core (fun _=>none) (fun _=>.inl rfl) (.inr ⟨_,vs.toArray,_,hk,rfl,rfl,rfl,by rw[aS4,lenV];exact hl,by simpa using rv⟩) (fun b u z=>by have z':(none:Option HO)=some u:=z;cases z') (fun b z=>absurd rfl z) fun z=>absurd rfl z
 | none=>
  refine core (fun b=>if b=a then some (.frz { cls:=.type "list",data:=.seq vs.toArray } (.lst (ns.map V.int))) else none) (fun b=>?_) (.inl (.inr ⟨{ cls:=.type "list",data:=.seq vs.toArray },aUc rfl⟩)) (fun b u z=>?_) (fun b z=>?_) fun _=>hk
  ·by_cases hb:b=a
   ·exact .inr ⟨_,_,aUc hb⟩
   ·exact .inl (aUd hb)
  ·by_cases hb:b=a
   ·have z':=(aUc hb).symm.trans z
    cases z';subst hb;exact⟨ha,by rw[aT5];exact hl,vs,_,rv,ha⟩
   ·have z':=(aUd hb).symm.trans z
    cases z'
  ·by_cases hb:b=a
   ·exact hb
   ·exact absurd (aUd hb) z
def walk_of{l:PySem.W.OpenLaw}{n k:Nat}{q:Program}{loose:List Str}{XP:(Str->Option Value)->Heap->Prop}{YP:World->Heap->Prop}{d:DefRec}{K:Params->PySem.W.Frag}{CX:World->CXT}{sp:World->Sp}{x:Str}
  (hn:l.most=some n) (hn2:n<=sizeLine) (hdf:d.params.defaults=[]) (hr:Room k callerA)
  (hY:∀ (w:World) (h:Heap),YP w h->(K w.params).In h)
  (F:∀ (w:World) (mg:Str->Option Value) (fa:Addr) (h:Heap),(K w.params).In h->h.Ns mainGlobals mg->mg d.name=some (.ref fa) ->
   ∃ fd:FuncData,(∀ (s:Shared) (u:Value),BindsTo s fd ⟨[u],[]⟩ [(x,u)]) /\
    ∀ base:Heap,(K w.params).In base->base.Ns mainGlobals mg->FnOk l.prog w (K w.params) mg base (CX w) k fa fd [x] (sp w))
  (hsp:∀ (w:World) (H:Hp) (a:Addr) (ns:List Int),ns.length<=n->zY H->SqL (K w.params) H a (ns.map V.int)->sp w [.ref a] H (fun v _=>v=.bl true) fun _ _ _=>False)
  (hCX:∀ (w:World) (H:Hp) (s:Shared) (e:Value) (s':Shared),CX w [] H s (fun _ _ _=>False) e s'->False):
  PySem.W.WalkO q loose XP YP l.row.toRowW d [] (fun f vs=>PySem.call f vs):=by
 refine Att.attach_call hn hdf fun w s₀ s₁ mg mb fa o pm cd doc a vs ns G Y ho hd hcd hmg hobj hints hlen hg=>?_;have KX:=hY w _ Y;obtain⟨fd,hb,hF⟩:=F w mg fa _ KX G.T.g hmg;exact aDq KX G.T.g G.T.b G.T.builtins G.T.nolimit G.T.nodigits hg hobj hints (aTt hlen hn2) hr hF hb (fun H hO hS=>hsp w H a ns hlen hO hS) fun H e s'=>hCX w H s₁ e s'
noncomputable def inClass(s:Stmt)(j:Nat):Stmt:=match s with
 | .ClassDef _ _ _ body _ _ _ _ _ _ _=>body.getD j (.Pass ⟨0,0,0,0⟩)
 | _=>.Pass ⟨0,0,0,0⟩
noncomputable def defArgs(s:Stmt):Arguments:=match s with
 | .FunctionDef _ a _ _ _ _ _ _ _ _=>a
 | _=>{ posonlyargs:=[],args:=[],vararg:=none,kwonlyargs:=[],kw_defaults:=[],kwarg:=none,defaults:=[] }
noncomputable def defBody(s:Stmt):List Stmt:=match s with
 | .FunctionDef _ _ b _ _ _ _ _ _ _=>b
 | _=>[]
noncomputable def defScope(s:Stmt):Scope:=match s with
 | .FunctionDef _ _ _ _ _ _ sc _ _ _=>sc
 | _=>{ kind:=.function,names:=[],isGenerator:=false,isCoroutine:=false }
abbrev CX0:CXT:=fun _ _ _ _ _ _=>False
abbrev E0:XK:=fun _ _ _=>False
def rG{X:Cx}:eR CX0 X E0:=fun _ _ _ _ _ _ _ h=>h.elim
structure Fun(K:PySem.W.Frag)(x qual:Str)(st:Stmt)(f:Addr)(fd:FuncData):Prop where
 ex:∃ (oc:Value) (od:Option Addr) (kV doc pm:Value) (an:Option Addr) (cdv ct:Value) (osl:Array (Option Value)),
  fd=PySem.W.fnOf x qual (defArgs st) (defBody st) (defScope st) .none kV doc pm an cdv ct/\K.lookup f=some ⟨oc,od,.func fd,osl⟩/\PySem.W.codeIn K cdv qual=true
 kp:PySem.W.keepIn K (.ref f)=true
section
variable {P:Program}{w:World}{K:PySem.W.Frag}{mg:Str->Option Value}{base:Heap}
def Fun.ok{x qual:Str}{st:Stmt}{f:Addr}{fd:FuncData}{N ps:List Str}{k:Nat}{sp:Sp}(F:Fun K x qual st f fd)(S:FnScope N ps (defScope st))(len:∀ vs H Q E,sp vs H Q E->vs.length=ps.length)
  (hbody:∀ (cdv:Value) (A:Around) (outer:List Env) (s:Shared) (H:Hp) (vs:List V) (Q:VK) (E:XK),Room k (A.deeper (envOfC qual (defScope st) s.heap.objs.size f cdv))->sp vs H Q E ->
   ∃ t,PSs (cQ CX0 P w K mg base N qual (defScope st) f cdv A outer s H E).nox (defBody st) t/\t { nx:=fun _ H'=>Q .non H',rt:=Q } (start N vs) H):FnOk P w K mg base CX0 (k+1) f fd ps sp:=by
 obtain⟨oc,od,kV,doc,pm,an,cdv,ct,osl,rfl,lk,hcd⟩:=F.ex;refine BA lk hcd S len fun A outer s H vs Q E hr hsp=>?_;obtain⟨t,h,q⟩:=hbody cdv A outer s H vs Q E hr hsp;exact⟨t,h.nox,q⟩
def Fun.binds{x qual:Str}{st:Stmt}{f:Addr}{fd:FuncData}{ps:List Str}(F:Fun K x qual st f fd)
  (h:∀ (kV doc pm:Value) (an:Option Addr) (cdv ct:Value) (us:List Value),us.length=ps.length->bindArgs (PySem.W.fnOf x qual (defArgs st) (defBody st) (defScope st) .none kV doc pm an cdv ct) ⟨us,[]⟩=pure (ps.zip us)):dE K fd ps []:=by
 obtain⟨oc,od,kV,doc,pm,an,cdv,ct,osl,rfl,lk,hcd⟩:=F.ex;exact .all (h kV doc pm an cdv ct)
def KM{x qual:Str}{st:Stmt}{f:Addr}{oc:Value}{od an:Option Addr}{osl:Array (Option Value)}{kV doc pm cdv ct:Value}(l:K.lookup f=some ⟨oc,od,.func (PySem.W.fnOf x qual (defArgs st) (defBody st) (defScope st) .none kV doc pm an cdv ct),osl⟩)
  (c:PySem.W.codeIn K cdv qual=true) (k:PySem.W.keepIn K (.ref f)=true):Fun K x qual st f (PySem.W.fnOf x qual (defArgs st) (defBody st) (defScope st) .none kV doc pm an cdv ct):=⟨⟨oc,od,kV,doc,pm,an,cdv,ct,osl,rfl,l,c⟩,k⟩
end
section
variable {X:Cx}
def pv(i:Nat){x:Str}{pos:Pos}(hN:X.N[i]?=some x:=by rfl)(hv:Vis X.env.scope x:=by trivial)(hd:aVi x:=by decide)
  (hcd:(x == ("__classdict__" : Str))=false:=by decide):PE X (.Name x pos) (SR i):=aHy hN hv hd hcd
end
def eW{A B:Prop}(h:B):if false=true then A else B:=by
 rw[aUd aSf];exact h
def fQ{A B:Prop}(h:A):if true=true then A else B:=by
 rw[aUc rfl];exact h
def aL(H H':Hp):Prop:=∀ b o,H b=some o->H' b=some o
def aL.refl(H:Hp):aL H H:=fun _ _ h=>h
def aL.trans{H H1 H2:Hp}(a:aL H H1)(b:aL H1 H2):aL H H2:=fun c o h=>b c o (a c o h)
def aL.free{H H':Hp}(e:aL H H'){l:Addr}(h:H' l=Option.none):H l=Option.none:=by
 cases q:H l with
 | none=>rfl
 | some o=>
  rw[e l o q] at h;cases h
abbrev KT(H:Hp):List (List Key × V)->List (List Key × Addr × Value)->Prop:=Paired fun p q=>p.1=q.1/\H q.2.1=some (.tup (p.1.map kV))/\bB p.2 q.2.2
section
variable {P:Program}{w:World}{H:Hp}{h:Heap}{a:Addr}
def aJc{u:HO}(ok:HOk P w H h)(e:Rd H a u):cO P w H h a u:=e.ok ok
def YI{kvs:List (Key × V)}(ok:HOk P w H h)(e:Rd H a (.dK kvs)):kvs.length<=sizeLine/\(a == sysModules)=false/\∃ vs,KV kvs vs/\h.DictOf (tY P w) a vs:=
 show cO P w H h a (.dK kvs) from aJc ok e
def YH{kvs:List (Key × V)}(ok:HOk P w H h)(e:H a=some (.dK kvs)):kvs.length<=sizeLine/\(a == sysModules)=false/\∃ vs,KV kvs vs/\h.DictOf (tY P w) a vs:=YI ok (.inl e)
end
def HM(i:Expr):Prop:=∀ ov iv,subscripted i false ov iv=operate [ov,iv] (getItem ov iv)
theorem aKv{prog:Program}{w:World}{A:Around}{E:Value->Shared->Prop}{s:Shared}{env:Env}{value slice:Expr}{pos:Pos}{T id:String}{Q:Value->Shared->Prop}
  (hl:typeLookup (.type T) "__getitem__" = pure (some (.builtin id))) (hs:HM slice)
  (h:wpAny (model prog w) A (eval value env) (fun o s₁=>wpAny (model prog w) A (eval slice env) (fun i s₂=>s₂.TypeIs o T/\wpAny (model prog w) A (getItem o i) Q E s₂) E s₁) E s):
  wpAny (model prog w) A (eval (.Subscript value slice pos) env) Q E s:=by
 refine Subscript_ (aUk h (fun o s₁ h₁=>aUk h₁ (fun i s₂ h₂=>?_) fun _ _ x=>x) fun _ _ x=>x);obtain⟨hT,h₂⟩:=h₂;unfold subscriptTail;rw[12];rw[getitemInPython_of_ne hT.not_modules];refine aU9 (wpAny_specialOf hT hl ?_);have fin:wpAny (model prog w) A (subscripted slice false o i) (fun r s₃=>wpAny (model prog w) A (letTemporaryGo value o r >>= fun _=>pure r) Q E s₃) E s₂:=by
  rw[hs o i];exact wpAny_operating (aUk h₂ (fun r s₃ h₃=>aU9 (wpAny_letTemporaryGo (aUa h₃))) fun _ _ x=>x)
 first
  | exact aUa (aU9 fin)
  | exact aU9 (aUa (aU9 fin))
  | exact aU9 fin
structure M1(X:Cx)(o:Expr)(m:Str)(apos:Pos)(e:Expr)(cpos:Pos):Prop where
 base:attributeBase o m X.env (eval o X.env)=eval o X.env
 few:((backTo cpos (starEach [e] X.env)).all (fun x=>!x.1)&&(backToKw cpos (keywordEach [] X.env)).all (fun x=>x.1.isSome)
  && decide (([e]:List Expr).length+([]:List Keyword).length+(if ([]:List Keyword).isEmpty then 0 else 1)<30))=true
 line:(apos.endLine == cpos.line)=true
 trees:backTo cpos (starEach [e] X.env)=[(false,eval e X.env)]
structure M2(X:Cx)(o:Expr)(m:Str)(apos:Pos)(e f:Expr)(cpos:Pos):Prop where
 base:attributeBase o m X.env (eval o X.env)=eval o X.env
 few:((backTo cpos (starEach [e,f] X.env)).all (fun x=>!x.1)&&(backToKw cpos (keywordEach [] X.env)).all (fun x=>x.1.isSome)
  && decide (([e,f]:List Expr).length+([]:List Keyword).length+(if ([]:List Keyword).isEmpty then 0 else 1)<30))=true
 line:(apos.endLine == cpos.line)=true
 trees:backTo cpos (starEach [e,f] X.env)=[(false,eval e X.env),(false,eval f X.env)]
end L2
set_option maxHeartbeats 4000000
namespace L2
open PySem PySem.Spec PyProof.Rows
noncomputable def qL(a:Addr)(cls:Value):HO:=.ext fun h=>∃ oe vs,h.get? a=some oe/\oe.cls=cls/\oe.data=.fields vs
end L2
namespace G
open PySem PySem.Spec PyProof.Rows L2
abbrev St:=L2.St
inductive T where
 | non | bl (b : Bool) | int (i : Int) | str (x : Str) | lst (xs : List T) | tup (xs : List T)
 /-- an exception, by its class's name -/
 | exc (nm : Str)
 /-- a dict of ints, all of them to True -/
 | dct (ks : List Int)
 /-- a list that one name alone has, with all that lies in it (only in a slot that changes) -/
 | own (ts : List T)
 /-- a page: what its attributes are -/
 | pg (ts : List T)
abbrev Rho:=List (Option T)
def KL(K:PySem.W.Frag)(a:Addr)(xs:List V):Prop:=
 ∃ (o:Obj) (its:Array Value) (n:Nat),K.lookup a=some o/\o.cls=.type "list" /\ o.dict=none/\o.data=.seq its n/\its.size<=sizeLine/\aQ xs its.toList
def KT(K:PySem.W.Frag)(a:Addr)(xs:List V):Prop:=
 ∃ (o:Obj) (its:Array Value) (n:Nat),K.lookup a=some o/\o.cls=.type "tuple" /\ o.data=.seq its n/\its.size<=sizeLine/\aQ xs its.toList
def jN(K:PySem.W.Frag)(nm:Str)(C:Addr):Prop:=
 PySem.W.nsIn K mainGlobals nm=some (some (.ref C))/\(∀ a:Addr,PySem.W.KitX K (.ref a) (.ref C) (fun h=>∃ oe,h.get? a=some oe/\oe.cls=.ref C)) /\
 ∀ c∈(["int","bool","list","tuple","str"]:List String),PySem.W.kitOne K (.ref C) (.type c)=some false
structure PgK(K:PySem.W.Frag)(C:Addr):Prop where
 cl:Cls K C
 nN:fH K C "names"
 nT:fH K C "tables"
 nA:fH K C "asks"
 gl:PySem.W.nsIn K mainGlobals "Page" = some (some (.ref C))
 ca:PySem.W.findIn K (.ref C) "__class__" = some (some (.builtin "object.__class__"))
 cg:PySem.W.specialIn K (.builtin "object.__class__") "__get__" = some (some (.builtin "getset_descriptor.__get__"))
 ct:PySem.W.takesIn K (.builtin "object.__class__")=some true
 cm:PySem.W.mroIn K C (.type "object")=some true
 kc:∀ c∈(["int","bool","list","tuple","str"]:List String),PySem.W.kitOne K (.ref C) (.type c)=some false
def pgF(n t a:V):List (Str × V):=bR "asks" a (bR "tables" t (bR "names" n []))
noncomputable def dkv(ks:List Int):List (Key × V):=ks.map fun k=>(.inl k,.bl true)
mutual
def Rep(K:PySem.W.Frag)(H:Hp)(A:Addr->Prop):T->V->Prop
 | .non,v=>v=.non
 | .bl b,v=>v=.bl b
 | .int i,v=>v=.int i
 | .str x,v=>v=.str x
 | .lst ts,v=>∃ a xs,v=.ref a/\((A a/\Rd H a (.lst xs))\/KL K a xs)/\RepL K H A ts xs
 | .tup ts,v=>∃ a xs,v=.ref a/\(Rd H a (.tup xs)\/KT K a xs)/\RepL K H A ts xs
 | .exc nm,v=>∃ (a C:Addr),v=.ref a/\jN K nm C/\Rd H a (qL a (.ref C))
 | .dct ks,v=>∃ a,v=.ref a/\A a/\H a=some (.dK (dkv ks))
 | .own ts,v=>∃ a xs,v=.ref a/\A a/\H a=some (.lst xs)/\RepL K H A ts xs
 | .pg ts,v=>∃ p C dx n t a,v=.ref p/\PgK K C/\Rd H p (.ins C dx (pgF n t a))/\RepL K H A ts [n,t,a]
def RepL(K:PySem.W.Frag)(H:Hp)(A:Addr->Prop):List T->List V->Prop
 | [],xs=>xs=[]
 | t::ts,xs=>∃ x r,xs=x::r/\Rep K H A t x/\RepL K H A ts r
end
def dP{H H':Hp}{a:Addr}{u:HO}(k:∀ o,H a=some o->H' a=some o)(h:Rd H a u):Rd H' a u:=by
 rcases h with h | ⟨o,h⟩
 ·exact .inl (k _ h)
 ·exact .inr ⟨o,k _ h⟩
abbrev Fix:={ u:HO // (∀ ys,u≠.lst ys)/\∀ ys,u≠.dK ys }
def jI{H:Hp}{a b:Addr}{xs ys:List V}{u:Fix}(ha:H a=some (.lst xs))(h:Rd H b u.1):Rd (upd H a (.lst ys)) b u.1:=
 dP (fun o q=>by
  have:b≠a:=fun z=>by
   subst z;rcases h with h | ⟨o',h⟩<;>rw[ha] at h
   ·exact u.2.1 xs (aRv h).symm
   ·cases h
  rw[aW this];exact q) h
def aJd{H:Hp}{a:Addr}{u:HO}(h:Rd H a u):H a≠none:=by
 rcases h with h | ⟨o,h⟩<;>rw[h]<;>simp
section
variable {K:PySem.W.Frag}{H H':Hp}{A A':Addr->Prop}
mutual
theorem Rep.keep(kt:∀ b (u:Fix),Rd H b u.1->Rd H' b u.1)(k:∀ b o,A b->H b=some o->H' b=some o)(hA:∀ b,A b->H b≠none->A' b):∀ (t:T) {v:V},Rep K H A t v->Rep K H' A' t v
 | .non,_,h=>h
 | .bl _,_,h=>h
 | .int _,_,h=>h
 | .str _,_,h=>h
 | .lst ts,_,h=>by
  obtain⟨a,xs,e,c,r⟩:=h;refine⟨a,xs,e,?_,RepL.keep kt k hA ts r⟩;rcases c with ⟨c1,c2⟩ | c
  ·exact .inl ⟨hA a c1 (aJd c2),dP (fun o e=>k a o c1 e) c2⟩
  ·exact .inr c
 | .tup ts,_,h=>by
  obtain⟨a,xs,e,c,r⟩:=h;refine⟨a,xs,e,?_,RepL.keep kt k hA ts r⟩;rcases c with c | c
  ·exact .inl (kt a ⟨.tup xs,(fun _ z=>by cases z),fun _ z=>by cases z⟩ c)
  ·exact .inr c
 | .exc _,_,h=>by
  obtain⟨a,C,e,c,r⟩:=h;exact⟨a,C,e,c,kt a ⟨qL a (.ref C),(fun _ z=>by cases z),fun _ z=>by cases z⟩ r⟩
 | .dct _,_,h=>by
  obtain⟨a,e,c,r⟩:=h;exact⟨a,e,hA a c (by rw[r];simp),k a _ c r⟩
 | .own ts,_,h=>by
  obtain⟨a,xs,e,c,r,q⟩:=h;exact⟨a,xs,e,hA a c (by rw[r];simp),k a _ c r,RepL.keep kt k hA ts q⟩
 | .pg ts,_,h=>by
  obtain⟨p,C,dx,n,t,a,e,k1,k2,r⟩:=h;exact⟨p,C,dx,n,t,a,e,k1,kt p ⟨_,(fun _ z=>by cases z),fun _ z=>by cases z⟩ k2,RepL.keep kt k hA ts r⟩
theorem RepL.keep(kt:∀ b (u:Fix),Rd H b u.1->Rd H' b u.1)(k:∀ b o,A b->H b=some o->H' b=some o)(hA:∀ b,A b->H b≠none->A' b):∀ (ts:List T) {xs:List V},RepL K H A ts xs->RepL K H' A' ts xs
 | [],_,h=>h
 | t::ts,_,h=>by
  obtain⟨x,r,e,h1,h2⟩:=h;exact⟨x,r,e,Rep.keep kt k hA t h1,RepL.keep kt k hA ts h2⟩
end
def Rep.grow{t:T}{v:V}(s:aL H H')(h:Rep K H A t v):Rep K H' A t v:=Rep.keep (fun b _ e=>dP (fun o q=>s b o q) e) (fun b o _ e=>s b o e) (fun _ x _=>x) t h
def RepL.grow{ts:List T}{xs:List V}(s:aL H H')(h:RepL K H A ts xs):RepL K H' A ts xs:=RepL.keep (fun b _ e=>dP (fun o q=>s b o q) e) (fun b o _ e=>s b o e) (fun _ x _=>x) ts h
def Rep.weak{t:T}{v:V}(f:∀ b,A b->A' b)(h:Rep K H A t v):Rep K H A' t v:=Rep.keep (fun _ _ e=>e) (fun _ _ _ e=>e) (fun b x _=>f b x) t h
def RepL.weak{ts:List T}{xs:List V}(f:∀ b,A b->A' b)(h:RepL K H A ts xs):RepL K H A' ts xs:=RepL.keep (fun _ _ e=>e) (fun _ _ _ e=>e) (fun b x _=>f b x) ts h
def RepL.avoid{ts:List T}{xs:List V}{a:Addr}(n:H a=none)(h:RepL K H A ts xs):RepL K H (fun b=>A b/\b≠a) ts xs:=
 RepL.keep (fun _ _ e=>e) (fun _ _ _ e=>e) (fun b x y=>⟨x,fun z=>y (z ▸ n)⟩) ts h
theorem RepL.length:∀ {ts:List T}{xs:List V},RepL K H A ts xs->ts.length=xs.length
 | [],_,h=>by cases (show _=[] from h);rfl
 | _::ts,_,h=>by
  obtain⟨x,r,e,_,h2⟩:=h;subst e;simp[RepL.length h2]
theorem RepL.get:∀ {ts:List T}{xs:List V}{i:Nat}{t:T},RepL K H A ts xs->ts[i]?=some t->∃ x,xs[i]?=some x/\Rep K H A t x
 | [],_,_,_,_,e=>by simp at e
 | _::ts,_,0,_,h,e=>by
  obtain⟨x,r,e1,h1,_⟩:=h;subst e1;simp at e;subst e;exact⟨x,rfl,h1⟩
 | _::ts,_,i+1,_,h,e=>by
  obtain⟨x,r,e1,_,h2⟩:=h;subst e1;obtain⟨y,q,h3⟩:=RepL.get (i:=i) h2 (by simpa using e);exact⟨y,by simpa using q,h3⟩
theorem RepL.app:∀ {ts us:List T}{xs ys:List V},RepL K H A ts xs->RepL K H A us ys->RepL K H A (ts++us) (xs++ys)
 | [],_,_,_,h,q=>by cases (show _=[] from h);exact q
 | _::ts,_,_,_,h,q=>by
  obtain⟨x,r,e,h1,h2⟩:=h;subst e;exact⟨x,r++_,rfl,h1,RepL.app h2 q⟩
def RepL.one{t:T}{x:V}(h:Rep K H A t x):RepL K H A [t] [x]:=⟨x,[],rfl,h,rfl⟩
def Rep.sqL{ts:List T}{v:V}(h:Rep K H A (.lst ts) v):∃ a xs,v=.ref a/\SqL K H a xs/\RepL K H A ts xs:=by
 obtain⟨a,xs,e,c,r⟩:=h;refine⟨a,xs,e,?_,r⟩;rcases c with ⟨_,c⟩ | c
 ·exact .inl c
 ·exact .inr c
def Rep.sqT{ts:List T}{v:V}(h:Rep K H A (.tup ts) v):∃ a xs,v=.ref a/\SqT K H a xs/\RepL K H A ts xs:=by
 obtain⟨a,xs,e,c,r⟩:=h;exact⟨a,xs,e,c,r⟩
end
noncomputable def scal:T->Bool
 | .lst _=>false
 | .tup _=>false
 | .exc _=>false
 | .dct _=>false
 | .own _=>false
 | .pg _=>false
 | _=>true
noncomputable def tv:T->V
 | .non=>.non
 | .bl b=>.bl b
 | .int i=>.int i
 | .str x=>.str x
 | _=>.non
def QJ{K:PySem.W.Frag}{H:Hp}{A:Addr->Prop}{t:T}{v:V}(h:scal t=true):Rep K H A t v ↔ v=tv t:=by
 cases t<;>first | exact Iff.rfl | (simp[scal] at h)
mutual
noncomputable def im:T->Bool
 | .lst _=>false
 | .dct _=>false
 | .own _=>false
 | .pg _=>false
 | .tup ts=>imL ts
 | _=>true
noncomputable def imL:List T->Bool
 | []=>true
 | t::ts=>im t&&imL ts
end
section
variable {K:PySem.W.Frag}{H H':Hp}{A A':Addr->Prop}
mutual
theorem uO(kt:∀ b (u:Fix),Rd H b u.1->Rd H' b u.1):∀ (t:T) {v:V},im t=true->Rep K H A t v->Rep K H' A' t v
 | .non,_,_,h=>h
 | .bl _,_,_,h=>h
 | .int _,_,_,h=>h
 | .str _,_,_,h=>h
 | .lst _,_,e,_=>by simp[im] at e
 | .tup ts,_,e,h=>by
  obtain⟨a,xs,e1,c,r⟩:=h;refine⟨a,xs,e1,?_,repL_imk kt ts (by simpa [im] using e) r⟩;rcases c with c | c
  ·exact .inl (kt a ⟨.tup xs,(fun _ z=>by cases z),fun _ z=>by cases z⟩ c)
  ·exact .inr c
 | .exc _,_,_,h=>by
  obtain⟨a,C,e,c,r⟩:=h;exact⟨a,C,e,c,kt a ⟨qL a (.ref C),(fun _ z=>by cases z),fun _ z=>by cases z⟩ r⟩
 | .dct _,_,e,_=>by simp[im] at e
 | .own _,_,e,_=>by simp[im] at e
 | .pg _,_,e,_=>by simp[im] at e
theorem repL_imk(kt:∀ b (u:Fix),Rd H b u.1->Rd H' b u.1):∀ (ts:List T) {xs:List V},imL ts=true->RepL K H A ts xs->RepL K H' A' ts xs
 | [],_,_,h=>h
 | t::ts,_,e,h=>by
  obtain⟨x,r,e1,h1,h2⟩:=h;have e':im t=true/\imL ts=true:=by simpa [imL] using e
  exact⟨x,r,e1,uO kt t e'.1 h1,repL_imk kt ts e'.2 h2⟩
end
def rN(t:T){v:V}(h:im t=true)(r:Rep K H A t v):Rep K H A' t v:=uO (fun _ _ e=>e) t h r
end
def bK(ts:List T):Bool:=ts.all im
theorem kH{K:PySem.W.Frag}{H:Hp}{A A':Addr->Prop}:∀ {ts:List T}{xs:List V},bK ts=true->RepL K H A ts xs->RepL K H A' ts xs
 | [],_,_,h=>h
 | t::ts,_,f,h=>by
  obtain⟨x,r,e,h1,h2⟩:=h;have f':im t=true/\bK ts=true:=by simpa [bK] using f
  exact⟨x,r,e,rN t f'.1 h1,kH f'.2 h2⟩
theorem JY:∀ {ts:List T},bK ts=true->imL ts=true
 | [],_=>rfl
 | t::ts,f=>by
  have f':im t=true/\bK ts=true:=by simpa [bK] using f
  simp[imL,f'.1,JY f'.2]
def Ad(B H:Hp)(M:List Addr)(l:Nat)(a:Addr):Prop:=(1<=l->a ∉ M)/\(2<=l->B a=none)/\(3<=l->H a=none)
def Ad.le{B H:Hp}{M:List Addr}{l l':Nat}{a:Addr}(h:Ad B H M l a)(k:l'<=l):Ad B H M l' a:=
 ⟨fun z=>h.1 (by lia),fun z=>h.2.1 (by lia),fun z=>h.2.2 (by lia)⟩
def Ad.zero{B H:Hp}{M:List Addr}{a:Addr}:Ad B H M 0 a:=⟨fun z=>by lia,fun z=>by lia,fun z=>by lia⟩
def aO(K:PySem.W.Frag)(B H:Hp)(M:List Addr)(H':Hp):Bool->Nat->T->V->Prop
 | true,l,.lst ts,v=>∃ a xs,v=.ref a/\H a=none/\H' a=some (.lst xs)/\RepL K H' (fun b=>Ad B H M l b/\b≠a) ts xs
 | _,l,t,v=>Rep K H' (Ad B H M l) t v
def dF:T->Nat->List T->Prop
 | .lst ts,c,us=>c=0/\us=ts
 | .tup ts,c,us=>ts[c]?=some (.lst us)
 | .dct _,c,us=>c=0/\us=[]
 | .own ts,c,us=>us=[]/\c<=ts.length
 | _,_,_=>False
noncomputable def mT:T->Bool
 | .own _=>true
 | _=>false
def jO(H:Hp):T->Addr->List V->Prop
 | .dct ks,a,_=>H a=some (.dK (dkv ks))
 | .own _,a,_=>H a≠none
 | _,a,xs=>H a=some (.lst xs)
def jO.keep{H H':Hp}{t:T}{a:Addr}{xs:List V}(k:∀ o,H a=some o->H' a=some o)(h:jO H t a xs):jO H' t a xs:=by
 cases t with
 | own ts=>
  cases e:H a with
  | none=>exact absurd e h
  | some o=>show H' a≠none;rw[k o e];simp
 | _=>exact k _ h
def jO.some{H:Hp}{t:T}{a:Addr}{xs:List V}(h:jO H t a xs):H a≠none:=by
 cases t with
 | own ts=>exact h
 | dct ks=>rw[show H a=Option.some (.dK (dkv ks)) from h];simp
 | _=>rw[show H a=Option.some (.lst xs) from h];simp
def gO(K:PySem.W.Frag)(H:Hp):T->V->(Nat->Addr)->Prop
 | .lst _,v,ga=>v=.ref (ga 0)
 | .dct _,v,ga=>v=.ref (ga 0)
 | .own ts,v,ga=>v=.ref (ga 0)/\∃ xs,H (ga 0)=some (.lst xs)/\ts.length=xs.length/\∀ (d:Nat) (t:T),ts[d]?=some t->ga (d+1)≠ga 0/\xs[d]?=some (.ref (ga (d+1)))/\∃ us ys,t=.lst us/\bK us=true/\H (ga (d+1))=some (.lst ys)/\RepL K H (fun _=>True) us ys
 | .tup ts,v,ga=>∃ p vs,v=.ref p/\Rd H p (.tup vs)/\ts.length=vs.length/\∀ (c:Nat) (t:T),ts[c]?=some t->(∃ us,t=.lst us/\vs[c]?=some (.ref (ga c)))\/(im t=true/\∃ w,vs[c]?=some w/\Rep K H (fun _=>True) t w)
 | _,_,_=>False
def gO.keep{K:PySem.W.Frag}{H H':Hp}{t:T}{v:V}{ga:Nat->Addr}(kt:∀ b (u:Fix),Rd H b u.1->Rd H' b u.1)(ko:mT t=true->∀ c o,dF t c []->H (ga c)=some o->H' (ga c)=some o)(h:gO K H t v ga):gO K H' t v ga:=by
 cases t with
 | tup ts=>
  obtain⟨p,vs,h1,h2,h3,h4⟩:=h;refine⟨p,vs,h1,kt p ⟨.tup _,(fun _ z=>by cases z),fun _ z=>by cases z⟩ h2,h3,fun c u e=>?_⟩;rcases h4 c u e with h | ⟨hi,w,e1,r⟩
  ·exact .inl h
  ·exact .inr ⟨hi,w,e1,uO kt u hi r⟩
 | own ts=>
  obtain⟨h1,xs,h2,h3,h4⟩:=h;refine⟨h1,xs,ko rfl 0 _ ⟨rfl,aU4 _⟩ h2,h3,fun d t e=>?_⟩;obtain⟨k1,k2,us,ys,k3,k4,k5,k6⟩:=h4 d t e;refine⟨k1,k2,us,ys,k3,k4,ko rfl (d+1) _ ⟨rfl,(aS0.mp e).1⟩ k5,repL_imk kt us ?_ k6⟩;exact JY k4
 | _=>exact h
def gO.grow{K:PySem.W.Frag}{H H':Hp}{t:T}{v:V}{ga:Nat->Addr}(s:aL H H')(h:gO K H t v ga):gO K H' t v ga:=h.keep (fun b _ e=>dP (fun o q=>s b o q) e) fun _ c o _ e=>s _ o e
theorem DZ{K:PySem.W.Frag}{H:Hp}{A:Addr->Prop}:∀ {ts:List T}{vs:List V},ts.length=vs.length->(∀ (c:Nat) (t:T) (w:V),ts[c]?=some t->vs[c]?=some w->Rep K H A t w)->RepL K H A ts vs
 | [],[],_,_=>rfl
 | [],_::_,h,_=>by cases h
 | _::_,[],h,_=>by cases h
 | t::ts,v::vs,h,k=>⟨v,vs,rfl,k 0 t v rfl rfl,DZ (by simpa using h) fun c u w e e'=>k (c+1) u w (by simpa using e) (by simpa using e')⟩
def gO.rep{K:PySem.W.Frag}{H:Hp}{A:Addr->Prop}{t:T}{v:V}{ga:Nat->Addr}(hA:∀ b,A b)(h:gO K H t v ga)(r:∀ c us,dF t c us->∃ xs,jO H t (ga c) xs/\RepL K H A us xs):Rep K H A t v:=by
 cases t with
 | lst ts=>
  obtain⟨xs,e,r⟩:=r 0 ts ⟨rfl,rfl⟩;exact⟨ga 0,xs,h,.inl ⟨hA _,.inl e⟩,r⟩
 | tup ts=>
  obtain⟨p,vs,h1,h2,h3,h4⟩:=h;refine⟨p,vs,h1,.inl h2,DZ h3 fun c u w e e'=>?_⟩;rcases h4 c u e with ⟨us,rfl,e1⟩ | ⟨hi,w',e1,q⟩
  ·obtain⟨xs,e2,r⟩:=r c us e
   rw[e'] at e1;exact⟨ga c,xs,aRv e1,.inl ⟨hA _,.inl e2⟩,r⟩
  ·rw[e'] at e1
   cases (aRv e1);exact rN u hi q
 | non=>exact h.elim
 | bl _=>exact h.elim
 | int _=>exact h.elim
 | str _=>exact h.elim
 | exc _=>exact h.elim
 | pg _=>exact h.elim
 | dct ks=>
  obtain⟨xs,e,_⟩:=r 0 [] ⟨rfl,rfl⟩;exact⟨ga 0,h,hA _,e⟩
 | own ts=>
  obtain⟨h1,xs,h2,h3,h4⟩:=h;refine⟨ga 0,xs,h1,hA _,h2,DZ h3 fun d t w e e'=>?_⟩;obtain⟨_,k2,us,ys,rfl,k4,k5,k6⟩:=h4 d t e;rw[k2] at e';exact⟨ga (d+1),ys,(aRv e').symm,.inl ⟨hA _,.inl k5⟩,k6.weak fun b _=>hA b⟩
noncomputable def lc(fl:List Nat):Nat:=if fl.contains 3 then 1 else 2
def nX(fl:List Nat):lc fl<=2:=by unfold lc;split<;>decide
def tV(fl:List Nat):1<=lc fl:=by unfold lc;split<;>decide
def HP(K:PySem.W.Frag)(B:Hp)(lv:Nat)(M:List Addr)(H:Hp)(t:T)(v:V)(ga:Nat->Addr):Prop:=
 gO K H t v ga/\∀ c us,dF t c us->∃ xs,jO H t (ga c) xs/\RepL K H (Ad B H M lv) us xs/\ga c∈M
def tQ{t:T}{c:Nat}{us:List T}(h:dF t c us):im t=false:=by
 cases t with
 | lst _=>rfl
 | dct _=>rfl
 | own _=>rfl
 | pg _=>rfl
 | tup ts=>
  show imL ts=false;have:ts[c]?=some (.lst us):=h
  clear h
  induction ts generalizing c with
  | nil=>cases this
  | cons a r ih=>
   cases c with
   | zero=>cases (aRv (show some a=some (T.lst us) from this));simp[imL,im]
   | succ c=>simp[imL,ih (show r[c]?=some (T.lst us) from this)]
 | _=>exact h.elim
structure Sl(K:PySem.W.Frag)(B:Hp)(fl:List Nat)(Ex:List (T × V))(σ:St)(ρ:Rho)(M:List Addr)(H:Hp):Prop where
 same:aL B H
 slot:∀ i t,ρ[i]?=some (some t)->(1<=fl.getD i 1\/im t=true)->∃ v,σ[i]?=some (some v)/\Rep K H (Ad B H M (min (fl.getD i 1) 2)) t v
 mu:∃ g:Nat->Nat->Addr,(∀ i t,ρ[i]?=some (some t)->fl.getD i 1=0->im t=false->∃ v,σ[i]?=some (some v)/\HP K B (lc fl) M H t v (g i)) /\
  ∀ i j c d t u us ws,(i≠j\/c≠d/\mT t=false)->ρ[i]?=some (some t)->ρ[j]?=some (some u)->fl.getD i 1=0->fl.getD j 1=0->dF t c us->dF u d ws->g i c≠g j d
 ex:∀ p∈Ex,Rep K H (Ad B H M 1) p.1 p.2
 mB:∀ a∈M,B a=none/\H a≠none
 len:fl.length<=σ.length
variable {B:Hp}{fl:List Nat}{l':Nat}
section
variable {K:PySem.W.Frag}{H H' H1:Hp}{Ex:List (T × V)}{σ:St}{ρ:Rho}{M:List Addr}{n:Bool}{l:Nat}{t:T}{v:V}
def Ad.any{a:Addr}(h:Ad B H M l a)(k:l<=2):Ad B H1 M l a:=⟨h.1,h.2.1,fun z=>by lia⟩
def Sl.grow(S:Sl K B fl Ex σ ρ M H)(s:aL H H'):Sl K B fl Ex σ ρ M H' where
 same:=S.same.trans s
 slot:=fun i t e k=>by
  obtain⟨v,e1,r⟩:=S.slot i t e k;exact⟨v,e1,(r.grow s).weak fun b x=>x.any (by lia)⟩
 mu:=by
  rw[36];refine⟨g,fun i t e k hm=>?_,ap⟩;obtain⟨v,e1,e2,e3⟩:=hg i t e k hm;refine⟨v,e1,e2.grow s,fun c us h=>?_⟩;obtain⟨xs,q1,q2,q3⟩:=e3 c us h;exact⟨xs,q1.keep (s _),(q2.grow s).weak fun b x=>x.any (nX fl),q3⟩
 ex:=fun p hp=>((S.ex p hp).grow s).weak fun b x=>x.any (by lia)
 mB:=fun a ha=>⟨(S.mB a ha).1,fun z=>(S.mB a ha).2 (s.free z)⟩
 len:=S.len
def Sl.muL(S:Sl K B fl Ex σ ρ M H)(i:Nat)(us:List T)(e:ρ[i]?=some (some (.lst us)))(k:fl.getD i 1=0):∃ a ts xs,T.lst us=.lst ts/\σ[i]?=some (some (.ref a))/\H a=some (.lst xs)/\RepL K H (Ad B H M (lc fl)) ts xs/\a∈M:=by
 obtain⟨g,hg,_⟩:=S.mu;obtain⟨v,e1,e2,e3⟩:=hg i _ e k rfl;obtain⟨xs,q1,q2,q3⟩:=e3 0 us ⟨rfl,rfl⟩;cases (show v=.ref (g i 0) from e2);exact⟨g i 0,us,xs,rfl,e1,q1,q2,q3⟩
def aO.rep(S:Sl K B fl Ex σ ρ M H)(h:aO K B H M H' n l t v):Rep K H' (Ad B H M l) t v:=by
 cases n with
 | false=>cases t<;>exact h
 | true=>
  cases t with
  | lst ts=>
   obtain⟨a,xs,e,h1,h2,r⟩:=h;exact⟨a,xs,e,.inl ⟨⟨fun _ z=>(S.mB a z).2 h1,fun _=>S.same.free h1,fun _=>h1⟩,.inl h2⟩,r.weak fun b x=>x.1⟩
  | non=>exact h
  | bl _=>exact h
  | int _=>exact h
  | str _=>exact h
  | tup _=>exact h
  | exc _=>exact h
  | dct _=>exact h
  | own _=>exact h
  | pg _=>exact h
def Ad.since{a:Addr}(s:aL H H1)(h:Ad B H1 M l a):Ad B H M l a:=⟨h.1,h.2.1,fun z=>s.free (h.2.2 z)⟩
def aO.since(s:aL H H1)(h:aO K B H1 M H' n l t v):aO K B H M H' n l t v:=by
 cases n with
 | false=>cases t<;>exact Rep.weak (fun b x=>Ad.since s x) h
 | true=>
  cases t with
  | lst ts=>
   obtain⟨a,xs,e,h1,h2,r⟩:=h;exact⟨a,xs,e,s.free h1,h2,r.weak fun b x=>⟨x.1.since s,x.2⟩⟩
  | non=>exact h
  | bl _=>exact h
  | int _=>exact h
  | str _=>exact h
  | tup _=>exact Rep.weak (fun b x=>Ad.since s x) h
  | exc _=>exact h
  | dct _=>exact Rep.weak (fun b x=>Ad.since s x) h
  | own _=>exact Rep.weak (fun b x=>Ad.since s x) h
  | pg _=>exact Rep.weak (fun b x=>Ad.since s x) h
def aO.scal(h:scal t=true):aO K B H M H' n l t v ↔ v=tv t:=by
 cases n<;>cases t<;>first | exact Iff.rfl | (simp[G.scal] at h)
def aO.laid{ts:List T}{xs:List V}{p:Addr}(s:aL H H1)(hp:H1 p=none)(r:RepL K H1 (Ad B H M l) ts xs):aO K B H M (upd H1 p (.lst xs)) true l (.lst ts) (.ref p):=by
 refine⟨p,xs,rfl,s.free hp,bY,?_⟩;exact (r.avoid hp).keep (fun b ys e=>dP (fun o q=>by rw[aW (fun z=>by rw[z,hp] at q;cases q)];exact q) e) (fun b o x e=>by rw[aW x.2];exact e) (fun b x _=>x) ts
end
def cW{H:Hp}{p:Addr}(h:H p=none)(o:HO):aL H (upd H p o):=fun b u q=>by rw[aW (eA q h)];exact q
def tG(K:PySem.W.Frag)(B:Hp)(fl:List Nat)(f:Rho->Option T)(n:Bool)(l:Nat):TE:=fun σ H Q=>
 ∃ Ex ρ M t,Sl K B fl Ex σ ρ M H/\f ρ=some t/\∀ v H',aL H H'->aO K B H M H' n l t v->Q v H'
def GE(X:Cx)(B:Hp)(fl:List Nat)(e:Expr)(f:Rho->Option T)(n:Bool)(l:Nat):Prop:=PE X e (tG X.K B fl f n l)
def tGT(K:PySem.W.Frag)(B:Hp)(fl:List Nat)(f:Rho->Option Bool):TT:=fun σ H Q=>
 ∃ Ex ρ M b,Sl K B fl Ex σ ρ M H/\f ρ=some b/\∀ H',aL H H'->Q b H'
def GT(X:Cx)(B:Hp)(fl:List Nat)(e:Expr)(f:Rho->Option Bool):Prop:=PT X e (tGT X.K B fl f)
def GW(X:Cx)(B:Hp)(fl:List Nat)(e:Expr)(f:Rho->Option Bool):Prop:=PW X e (tGT X.K B fl f)
def tGA(K:PySem.W.Frag)(B:Hp)(fl:List Nat)(f:Rho->Option (List T))(l:Nat):TA:=fun σ H Q=>
 ∃ Ex ρ M ts,Sl K B fl Ex σ ρ M H/\f ρ=some ts/\∀ vs H',aL H H'->RepL K H' (Ad B H M l) ts vs->Q vs H'
def GA(X:Cx)(B:Hp)(fl:List Nat)(es:List Expr)(f:Rho->Option (List T))(l:Nat):Prop:=PA X es (tGA X.K B fl f l)
def bC{X:Cx}{e:Expr}{t t':TE}(h:PE X e t)(k:∀ σ H Q,t' σ H Q->t σ H Q):PE X e t':=fun pins s σ H Q I q=>h pins s σ H Q I (k σ H Q q)
def DS{X:Cx}{e:Expr}{t t':TT}(h:PT X e t)(k:∀ σ H Q,t' σ H Q->t σ H Q):PT X e t':=fun pins s σ H Q I q=>h pins s σ H Q I (k σ H Q q)
def PL{X:Cx}{e:Expr}{t t':TT}(h:PW X e t)(k:∀ σ H Q,t' σ H Q->t σ H Q):PW X e t':=fun wh pins s σ H Q I q=>h wh pins s σ H Q I (k σ H Q q)
def rF{X:Cx}{es:List Expr}{t t':TA}(h:PA X es t)(k:∀ σ H Q,t' σ H Q->t σ H Q):PA X es t':=fun pos pins s σ H Q I q=>h pos pins s σ H Q I (k σ H Q q)
def cV{X:Cx}{st:Stmt}{t t':TS}(h:PS X st t)(k:∀ D σ H,t' D σ H->t D σ H):PS X st t':=fun pins s σ H D I q=>h pins s σ H D I (k D σ H q)
def uM{X:Cx}{st:List Stmt}{t t':TS}(h:PSs X st t)(k:∀ D σ H,t' D σ H->t D σ H):PSs X st t':=fun pins s σ H D I q=>h pins s σ H D I (k D σ H q)
noncomputable def aA(i:Nat):Rho->Option T:=fun ρ=>(ρ[i]?).join
noncomputable def fC(t:T):Rho->Option T:=fun _=>some t
noncomputable def f1(f:Rho->Option T)(F:T->Option T):Rho->Option T:=fun ρ=>(f ρ).bind F
noncomputable def f2(f g:Rho->Option T)(F:T->T->Option T):Rho->Option T:=fun ρ=>(f ρ).bind fun x=>(g ρ).bind fun y=>F x y
noncomputable def aD:Rho->Option (List T):=fun _=>some []
noncomputable def aB(f:Rho->Option T)(g:Rho->Option (List T)):Rho->Option (List T):=fun ρ=>(f ρ).bind fun x=>(g ρ).bind fun y=>some (x::y)
def aP:T->Option T:=fun t=>if im t then some t else none
def fM:T->Option T
 | .lst ts=>if bK ts then some (.lst ts) else none
 | .tup _=>none
 | .dct _=>none
 | .own _=>none
 | .pg _=>none
 | t=>some t
def bind_some{α β:Type}{o:Option α}{f:α->Option β}{y:β}(h:o.bind f=some y):∃ x,o=some x/\f x=some y:=by
 cases o with
 | none=>cases h
 | some x=>exact⟨x,rfl,h⟩
section
variable {X:Cx}{a b e:Expr}{f g:Rho->Option T}{n n':Bool}{l:Nat}{pos:Pos}
def GE.old(h:GE X B fl e f n l):GE X B fl e f false l:=
 bC h fun σ H Q ⟨Ex,ρ,M,t,S,hf,q⟩=>⟨Ex,ρ,M,t,S,hf,fun v H' s r=>q v H' s (by cases t<;>exact r.rep S)⟩
def GE.sc(h:GE X B fl e f n l):GE X B fl e (f1 f aP) true 3:=by
 refine bC h ?_;rw[0];obtain⟨x,hx,hg⟩:=bind_some hf;unfold aP at hg;split at hg
 ·rename_i hs
  have e:=aRv hg;subst e;refine⟨Ex,ρ,M,x,S,hx,fun v H' s r=>q v H' s ?_⟩;have r':=rN (A':=Ad B H M 3) x hs (r.rep S);cases x<;>first | exact r' | (simp[im] at hs)
 ·cases hg
def GE.flt(h:GE X B fl e f true l):GE X B fl e (f1 f fM) true 3:=by
 refine bC h ?_;rw[0];obtain⟨x,hx,hg⟩:=bind_some hf;refine⟨Ex,ρ,M,x,S,hx,fun v H' s r=>q v H' s ?_⟩;cases x with
 | lst ts=>
  unfold fM at hg;dsimp only at hg;split at hg
  ·rename_i hs
   cases hg;obtain⟨a,xs,e,h1,h2,r⟩:=r;exact⟨a,xs,e,h1,h2,kH hs r⟩
  ·cases hg
 | tup ts=>cases hg
 | non=>cases hg;exact r
 | bl _=>cases hg;exact r
 | int _=>cases hg;exact r
 | str _=>cases hg;exact r
 | exc _=>cases hg;exact r
 | dct _=>cases hg
 | own _=>cases hg
 | pg _=>cases hg
def dY(i:Nat){x:Str}(hN:X.N[i]?=some x:=by rfl)(hv:Vis X.env.scope x:=by trivial)(hd:aVi x:=by decide)
  (hcd:(x == ("__classdict__" : Str))=false:=by decide):GE X B fl (.Name x pos) (aA i) false (min (fl.getD i 1) 2):=by
 refine bC (pv (X:=X) i hN hv hd hcd) ?_;rw[0];have e:ρ[i]?=some (some t):=by
  unfold aA at hf;cases h:ρ[i]? with
  | none=>rw[h] at hf;cases hf
  | some o=>rw[h] at hf;cases (show o=some t from hf);rfl
 by_cases k:1<=fl.getD i 1\/im t=true
 ·obtain⟨v,e1,r⟩:=S.slot i t e k
  exact⟨v,e1,q v H (aL.refl H) (by cases t<;>exact r)⟩
 ·have k0:fl.getD i 1=0:=by lia
  have ki:im t=false:=by
   cases h:im t with
   | false=>rfl
   | true=>exact absurd (.inr h) k
  obtain⟨g,hg,_⟩:=S.mu;obtain⟨v,e1,e2,e3⟩:=hg i t e k0 ki;rw[k0] at q;exact⟨_,e1,q _ H (aL.refl H) (by
   have:=e2.rep (A:=Ad B H M 0) (fun _=>Ad.zero) fun c us h=>(by
    obtain⟨xs,q1,q2,_⟩:=e3 c us h;exact⟨xs,q1,q2.weak fun b _=>Ad.zero⟩)
   cases t<;>exact this)⟩
def ge_int{i:Int}{j:Nat}:GE X B fl (.Constant (.int i) j pos) (fC (.int i)) true 3:=
 bC OP fun _ H _ ⟨_,_,_,_,_,hf,q⟩=>q _ H (aL.refl H) (by cases (aRv hf);rfl)
def jP{i:Bool}{j:Nat}:GE X B fl (.Constant (.bool i) j pos) (fC (.bl i)) true 3:=
 bC aHp fun _ H _ ⟨_,_,_,_,_,hf,q⟩=>q _ H (aL.refl H) (by cases (aRv hf);rfl)
def jR{j:Nat}:GE X B fl (.Constant .none j pos) (fC .non) true 3:=
 bC OS fun _ H _ ⟨_,_,_,_,_,hf,q⟩=>q _ H (aL.refl H) (by cases (aRv hf);rfl)
def aF{i:Str}{j:Nat}:GE X B fl (.Constant (.str i) j pos) (fC (.str i)) true 3:=
 bC uJ fun _ H _ ⟨_,_,_,_,_,hf,q⟩=>q _ H (aL.refl H) (by cases (aRv hf);rfl)
def SOp(r:R2)(F:T->T->Option T):Prop:=∀ x y t,F x y=some t->scal x=true/\scal y=true/\scal t=true/\∀ (H:Hp) (Q:VK),Q (tv t) H->r (tv x) (tv y) H Q
def gH{op:Operator}{r:R2}{F:T->T->Option T}(ho:OpR X (binaryOp op) r)(hF:SOp r F)(ha:GE X B fl a f n l)(hb:GE X B fl b g n' l'):GE X B fl (.BinOp a op b pos) (f2 f g F) true 3:=by
 refine bC (DI ho ha hb) ?_;rw[0];rw[9];rw[13];obtain⟨sx,sy,st,k⟩:=hF x y t hf;rw[3];rw[aO.scal sx] at rx;rw[aO.scal sy] at ry;subst rx ry;exact k H2 Q (q _ H2 (s1.trans s2) ((aO.scal st).mpr rfl))
def wD{op:CmpOp}{r:R2}{F:T->T->Option T}(ho:OpR X (compareOp op) r)(hF:SOp r F)(ha:GE X B fl a f n l)(hb:GE X B fl b g n' l')(hm:behindInMarks op b=false:=by first | exact jX _ | rfl):GE X B fl (.Compare a [op] [b] pos) (f2 f g F) true 3:=by
 refine bC (ON ho ha hb hm) ?_;rw[0];rw[9];rw[13];obtain⟨sx,sy,st,k⟩:=hF x y t hf;rw[3];rw[aO.scal sx] at rx;rw[aO.scal sy] at ry;subst rx ry;exact k H2 Q (q _ H2 (s1.trans s2) ((aO.scal st).mpr rfl))
noncomputable def oI(C:Int->Int->Bool)(h:Int->Int->T):T->T->Option T
 | .int i,.int j=>if C i j then some (h i j) else none
 | _,_=>none
def pO{C:Int->Int->Prop}{c:Int->Int->Bool}{gv:Int->Int->V}{h:Int->Int->T}(hc:∀ i j,c i j=true->C i j)(hs:∀ i j,scal (h i j)=true)(he:∀ i j,tv (h i j)=gv i j):SOp (rI C gv) (oI c h):=by
 intro x y t e;cases x<;>first | (cases e;done) | skip
 cases y<;>first | (cases e;done) | skip
 rename_i i j;unfold oI at e;dsimp only at e;split at e
 ·rename_i k
  cases e;exact⟨rfl,rfl,hs i j,fun H Q q=>⟨i,j,rfl,rfl,hc i j k,by rw[<- he i j];exact q⟩⟩
 ·cases e
def mG{gv:Int->Int->V}{h:Int->Int->T}(hs:∀ i j,scal (h i j)=true)(he:∀ i j,tv (h i j)=gv i j):SOp (rI0 gv) (oI (fun _ _=>true) h):=by
 intro x y t e;cases x<;>first | (cases e;done) | skip
 cases y<;>first | (cases e;done) | skip
 rename_i i j;cases (show some (h i j)=some t from e);exact⟨rfl,rfl,hs i j,fun H Q q=>⟨i,j,rfl,rfl,by rw[<- he i j];exact q⟩⟩
noncomputable abbrev cT:Int->Int->Bool:=fun _ _=>true
def bU:T->T->Option T:=oI cT fun i j=>.int (i+j)
def kA:T->T->Option T:=oI cT fun i j=>.int (i-j)
noncomputable def kU(i j:Int):Bool:=decide (i.natAbs<2^64)||decide (j.natAbs<2^64)||(decide (Builtin.Int.intBits i<=2^20)&&decide (Builtin.Int.intBits j<=2^20))
def bM:T->T->Option T:=oI kU fun i j=>.int (i*j)
def bV:T->T->Option T:=oI (fun _ j=>decide (0<j)&&decide (j<2^200)) fun i j=>.int (i / j)
def bE:T->T->Option T:=oI (fun _ j=>decide (0<j)) fun i j=>.int (i%j)
def DA:T->T->Option T:=oI (fun _ j=>decide (0<=j)) fun i j=>.int (i / 2^j.toNat)
def nB:T->T->Option T:=oI (fun i j=>decide (0<=j)&&decide (j<=1000000)&&decide (i.natAbs<2^64)) fun i j=>.int (i*2^j.toNat)
def dO:T->T->Option T:=oI (fun i j=>decide (0<=j)&&decide ((Builtin.Int.intBits i:Int)*j<=2^27)) fun i j=>.int (i^j.toNat)
def wT:T->T->Option T:=oI cT fun i j=>.int (Builtin.bitAnd i j)
def oOr:T->T->Option T:=oI cT fun i j=>.int (Builtin.bitOr i j)
def aFg:T->T->Option T:=oI cT fun i j=>.int (Builtin.bitXor i j)
def oLt:T->T->Option T:=oI cT fun i j=>.bl (decide (i<j))
def oLe:T->T->Option T:=oI cT fun i j=>.bl (decide (i<=j))
def oGt:T->T->Option T:=oI cT fun i j=>.bl (decide (j<i))
def oGe:T->T->Option T:=oI cT fun i j=>.bl (decide (j<=i))
def aEj{i j:Int}(h:kU i j=true):IntMulOk i j:=by
 unfold kU at h;rcases Bool.or_eq_true_iff.mp h with h | h
 ·rcases Bool.or_eq_true_iff.mp h with h | h
  ·have h:=aUe h
   exact .of_left (intBits_le_64 (by lia) (by lia))
  ·have h:=aUe h
   exact .of_right (intBits_le_64 (by lia) (by lia))
 ·have h:=aSc.mp h
  exact .of_bits (aUe h.1) (aUe h.2)
def aGv:OpR X (binaryOp .Mult) (rI (fun i j=>kU i j=true) fun i j=>.int (i*j)):=opI fun _ _ _ _ _ _ _ hc q=>mul_int q (aEj hc)
def aGw:OpR X (binaryOp .Pow) (rI (fun i j=>0<=j/\(Builtin.Int.intBits i:Int)*j<=2^27) fun i j=>.int (i^j.toNat)):=opI fun _ _ _ _ _ _ _ hc q=>pow_int hc.1 hc.2 q
def aA8(ha:GE X B fl a f n l)(hb:GE X B fl b g n' l'):GE X B fl (.BinOp a .Add b pos) (f2 f g bU) true 3:=gH aGx (mG (fun _ _=>rfl) fun _ _=>rfl) ha hb
def aB4(ha:GE X B fl a f n l)(hb:GE X B fl b g n' l'):GE X B fl (.BinOp a .Sub b pos) (f2 f g kA) true 3:=gH aHd (mG (fun _ _=>rfl) fun _ _=>rfl) ha hb
def aAr(ha:GE X B fl a f n l)(hb:GE X B fl b g n' l'):GE X B fl (.BinOp a .Mult b pos) (f2 f g bM) true 3:=gH aGv (pO (fun _ _ k=>k) (fun _ _=>rfl) fun _ _=>rfl) ha hb
def aAv(ha:GE X B fl a f n l)(hb:GE X B fl b g n' l'):GE X B fl (.BinOp a .Pow b pos) (f2 f g dO) true 3:=gH aGw (pO (fun _ _ k=>by simpa using k) (fun _ _=>rfl) fun _ _=>rfl) ha hb
def aAq(ha:GE X B fl a f n l)(hb:GE X B fl b g n' l'):GE X B fl (.BinOp a .Mod b pos) (f2 f g bE) true 3:=gH aH6 (pO (fun _ _ k=>aUe k) (fun _ _=>rfl) fun _ _=>rfl) ha hb
def LB(ha:GE X B fl a f n l)(hb:GE X B fl b g n' l'):GE X B fl (.BinOp a .RShift b pos) (f2 f g DA) true 3:=gH aHc (pO (fun _ _ k=>aUe k) (fun _ _=>rfl) fun _ _=>rfl) ha hb
def aAy(ha:GE X B fl a f n l)(hb:GE X B fl b g n' l'):GE X B fl (.BinOp a .LShift b pos) (f2 f g nB) true 3:=gH aHb (pO (fun _ _ k=>by simpa [GZ,and_assoc] using k) (fun _ _=>rfl) fun _ _=>rfl) ha hb
def KQ(ha:GE X B fl a f n l)(hb:GE X B fl b g n' l'):GE X B fl (.BinOp a .BitAnd b pos) (f2 f g wT) true 3:=gH aGz (mG (fun _ _=>rfl) fun _ _=>rfl) ha hb
def aAu(ha:GE X B fl a f n l)(hb:GE X B fl b g n' l'):GE X B fl (.BinOp a .BitOr b pos) (f2 f g oOr) true 3:=gH aH8 (mG (fun _ _=>rfl) fun _ _=>rfl) ha hb
def aAo(ha:GE X B fl a f n l)(hb:GE X B fl b g n' l'):GE X B fl (.Compare a [.LtE] [b] pos) (f2 f g oLe) true 3:=wD aH4 (mG (fun _ _=>rfl) fun _ _=>rfl) ha hb
def aAi(ha:GE X B fl a f n l)(hb:GE X B fl b g n' l'):GE X B fl (.Compare a [.Gt] [b] pos) (f2 f g oGt) true 3:=wD OE (mG (fun _ _=>rfl) fun _ _=>rfl) ha hb
def aAh(ha:GE X B fl a f n l)(hb:GE X B fl b g n' l'):GE X B fl (.Compare a [.GtE] [b] pos) (f2 f g oGe) true 3:=wD aH2 (mG (fun _ _=>rfl) fun _ _=>rfl) ha hb
end
end G
namespace L2
open PySem PySem.Spec PyProof.Rows
noncomputable def dH(cells:List (Str × Addr)):List (Str × NameKind)->List (Str × Addr)->Option (List (Str × Addr))
 | [],cs=>some cs
 | (n,k)::r,cs=>if k == .free then (match cells.lookup n with | some a=>dH cells r ((n,a)::cs) | none=>none) else dH cells r cs
def vU{scope:Scope}{env:Env}{cl:List (Str × Addr)}(h:dH env.cells scope.names []=some cl):closureFor scope env=pure cl:=by
 have key:∀ (ns:List (Str × NameKind)) (cs:List (Str × Addr)),dH env.cells ns cs=some cl ->
   (forIn ns cs (fun (x:Str × NameKind) (cs:List (Str × Addr))=>if x.2 == .free then (do let a <- cellOf env x.1;pure (ForInStep.yield ((x.1,a)::cs))) else pure (ForInStep.yield cs)):Sem (List (Str × Addr)))=pure cl:=by
  intro ns
  induction ns with
  | nil=>intro cs h;cases (aRv h);rfl
  | cons x r ih=>
   intro cs h;obtain⟨n,k⟩:=x;rw[List.forIn_cons];unfold dH at h;dsimp only at h ⊢
   by_cases hk:(k == NameKind.free)=true
   ·rw[aUc hk] at h ⊢
    cases hl:env.cells.lookup n with
    | none=>rw[hl] at h;cases h
    | some a=>
     rw[hl] at h;have e:cellOf env n=pure a:=by unfold cellOf;rw[hl]
     rw[e];simp only[pure_bind];exact ih _ h
   ·rw[aUd hk] at h ⊢
    simp only[pure_bind];exact ih _ h
 have q:=key scope.names [] h;unfold closureFor
 simpa using q
theorem AO{cells:List (Str × Addr)}:∀ {ns:List (Str × NameKind)}{cs cl:List (Str × Addr)},dH cells ns cs=some cl->(∀ x c,cs.lookup x=some c->cells.lookup x=some c)->∀ x c,cl.lookup x=some c->cells.lookup x=some c
 | [],cs,cl,h,k=>by cases (aRv h);exact k
 | (n,kd)::r,cs,cl,h,k=>by
  unfold dH at h
  by_cases hk:(kd == NameKind.free)=true
  ·rw[aUc hk] at h
   cases hl:cells.lookup n with
   | none=>rw[hl] at h;cases h
   | some a=>
    rw[hl] at h;refine AO h fun x c e=>?_;rw[aTa] at e
    by_cases hx:(x == n)=true
    ·rw[hx] at e
     cases (aRv e);rw[eq_of_beq hx];exact hl
    ·have hx':(x == n)=false:=by simpa using hx
     rw[hx'] at e;exact k x c e
  ·rw[aUd hk] at h
   exact AO h k
theorem vT{cells:List (Str × Addr)}{x:Str}:∀ {ns:List (Str × NameKind)}{cs cl:List (Str × Addr)},dH cells ns cs=some cl->((x,NameKind.free)∈ns\/∃ c,cs.lookup x=some c)->∃ c,cl.lookup x=some c
 | [],cs,cl,h,k=>by
  cases (aRv h);rcases k with k | k
  ·cases k
  ·exact k
 | (n,kd)::r,cs,cl,h,k=>by
  unfold dH at h;have old:∀ a,(∃ c,cs.lookup x=some c)->∃ c,((n,a)::cs).lookup x=some c:=fun a ⟨c,e⟩=>by
   rw[aTa]
   by_cases hx:(x == n)=true
   ·rw[hx];exact⟨_,rfl⟩
   ·have hx':(x == n)=false:=by simpa using hx
    rw[hx'];exact⟨c,e⟩
  by_cases hk:(kd == NameKind.free)=true
  ·rw[aUc hk] at h
   cases hl:cells.lookup n with
   | none=>rw[hl] at h;cases h
   | some a=>
    rw[hl] at h;refine vT h ?_;rcases k with k | k
    ·rcases aS7.mp k with e | k
     ·cases e
      exact .inr ⟨a,by rw[aTa];simp⟩
     ·exact .inl k
    ·exact .inr (old a k)
  ·rw[aUd hk] at h
   refine vT h ?_;rcases k with k | k
   ·rcases aS7.mp k with e | k
    ·cases e
     exact absurd rfl hk
    ·exact .inl k
   ·exact .inr k
theorem qH{cells:List (Str × Addr)}:∀ {ns:List (Str × NameKind)}{cs:List (Str × Addr)},(∀ n,(n,NameKind.free)∈ns->∃ c,cells.lookup n=some c)->∃ cl,dH cells ns cs=some cl
 | [],cs,_=>⟨cs,rfl⟩
 | (n,kd)::r,cs,k=>by
  unfold dH
  by_cases hk:(kd == NameKind.free)=true
  ·rw[aUc hk]
   obtain⟨c,e⟩:=k n (by rw[eq_of_beq hk];exact aRz);rw[e];exact qH fun m hm=>k m (aRy _ hm)
  ·rw[aUd hk]
   exact qH fun m hm=>k m (aRy _ hm)
noncomputable def qR:Option NameKind->Bool
 | some .cell=>true
 | _=>false
def MS{o:Option NameKind}(h:qR o=true):o=some .cell:=by
 cases o with
 | none=>cases h
 | some k=>cases k<;>first | rfl | cases h
def mV{x y:Str}{n:Addr}{cs:List (Str × Addr)}:((y,n)::cs).lookup x=if (x == y)=true then some n else cs.lookup x:=by
 rw[aTa]
 by_cases h:(x == y)=true
 ·rw[h];rfl
 ·have h':(x == y)=false:=by simpa using h
  rw[h'];rfl
theorem xG{x:Str}:∀ {ns:List (Str × NameKind)}{n n0:Nat}{cs:List (Str × Addr)},n0<=n->(ns.lookup x=some .cell\/∃ c,cs.lookup x=some c/\n0<=c)->∃ c,(cellsFrom n ns cs).lookup x=some c/\n0<=c
 | [],n,n0,cs,_,h=>by
  rcases h with h | h
  ·cases h
  ·exact h
 | (y,k)::r,n,n0,cs,hn,h=>by
  unfold cellsFrom
  rw[32]
  ·rw[aUc hk]
   refine xG (Nat.le_succ_of_le hn) ?_
   by_cases hx:(x == y)=true
   ·exact .inr ⟨n,by rw[mV,aUc hx],hn⟩
   ·rcases h with h | ⟨c,e,hc⟩
    ·have hx':(x == y)=false:=by simpa using hx
     rw[aTa,hx'] at h;exact .inl h
    ·exact .inr ⟨c,by rw[mV,aUd hx];exact e,hc⟩
  ·rw[aUd hk]
   refine xG hn ?_;rcases h with h | h
   ·rw[aTa] at h
    by_cases hx:(x == y)=true
    ·rw[hx] at h
     have h':k=NameKind.cell:=aRv h;rw[h'] at hk;exact absurd rfl hk
    ·have hx':(x == y)=false:=by simpa using hx
     rw[hx'] at h;exact .inl h
   ·exact .inr h
theorem DF{x:Str}{c:Addr}:∀ {ns:List (Str × NameKind)}{n:Nat}{cs:List (Str × Addr)},(x,NameKind.cell) ∉ ns->cs.lookup x=some c->(cellsFrom n ns cs).lookup x=some c
 | [],_,_,_,h=>h
 | (y,k)::r,n,cs,hx,h=>by
  unfold cellsFrom;have hr:(x,NameKind.cell) ∉ r:=fun z=>hx (aRy _ z)
  rw[32]
  ·rw[aUc hk]
   refine DF hr ?_;have:¬ (x == y)=true:=fun z=>hx (by rw[eq_of_beq z,eq_of_beq hk];exact aRz);rw[mV,aUd this];exact h
  ·rw[aUd hk]
   exact DF hr h
theorem xH{x:Str}{c:Addr}:∀ {ns:List (Str × NameKind)}{n:Nat}{cs:List (Str × Addr)},cs.lookup x=some c->∃ c',(cellsFrom n ns cs).lookup x=some c'
 | [],_,_,h=>⟨c,h⟩
 | (y,k)::r,n,cs,h=>by
  unfold cellsFrom
  rw[32]
  ·rw[aUc hk]
   by_cases hx:(x == y)=true
   ·exact xH (c:=n) (by rw[mV,aUc hx])
   ·exact xH (c:=c) (by rw[mV,aUd hx];exact h)
  ·rw[aUd hk]
   exact xH h
theorem xI{x:Str}{c:Addr}:∀ {ns:List (Str × NameKind)}{h:Heap}{cs:List (Str × Addr)},(cellsFrom h.objs.size ns cs).lookup x=some c->cs.lookup x=some c\/(h.objs.size<=c/\(pushCells h ns).IsCell c none)
 | [],_,_,e=>.inl e
 | (y,k)::r,h,cs,e=>by
  unfold cellsFrom at e;unfold pushCells
  rw[32]
  ·rw[aUc hk] at e
   rw[aUc hk];have e':(cellsFrom (h.push { cls:=.type "cell",data:=.cell none }).objs.size r ((y,h.objs.size)::cs)).lookup x=some c:=by rw[aSj];exact e
   rcases xI e' with q | ⟨q1,q2⟩
   ·rw[mV] at q
    by_cases hx:(x == y)=true
    ·rw[aUc hx] at q
     cases q;exact .inr ⟨aTs _,_,aV3 r _ _ _ (aSh _ rfl),rfl⟩
    ·rw[aUd hx] at q
     exact .inl q
   ·rw[aSj] at q1
    exact .inr ⟨Nat.le_of_succ_le q1,q2⟩
  ·rw[aUd hk] at e
   rw[aUd hk];exact xI e
theorem DD:∀ {ns:List (Str × NameKind)}{n:Nat}{cs:List (Str × Addr)},(∀ x c,cs.lookup x=some c->c<n)->(∀ x y c,cs.lookup x=some c->cs.lookup y=some c->x=y) ->
  ∀ x y c,(cellsFrom n ns cs).lookup x=some c->(cellsFrom n ns cs).lookup y=some c->x=y
 | [],_,_,_,h=>h
 | (z,k)::r,n,cs,hb,h=>by
  unfold cellsFrom
  rw[32]
  ·rw[aUc hk]
   refine DD (fun x c e=>?_) fun x y c e1 e2=>?_
   ·rw[mV] at e
    split at e
    ·cases e;exact aTw _
    ·exact Nat.lt_succ_of_lt (hb x c e)
   ·rw[mV] at e1 e2
    split at e1
    ·rename_i hx
     cases e1;split at e2
     ·rename_i hy
      rw[eq_of_beq hx,eq_of_beq hy]
     ·exact absurd (hb y _ e2) (aTu _)
    ·split at e2
     ·cases e2
      exact absurd (hb x _ e1) (aTu _)
     ·exact h x y c e1 e2
  ·rw[aUd hk]
   exact DD hb h
def NK{M:Model}{A:Around}{E:Value->Shared->Prop}{s:Shared}{scope:Scope}{globals:Addr}{closure:List (Str × Addr)}{qual:Str}{outer:Env}{builtins:Addr}{Q:Env->Shared->Prop}
  (hQ:Q (newEnv scope s.heap.objs.size globals (cellsFrom (s.heap.objs.size+1) scope.names closure) qual none .none (some outer) builtins) { s with heap:=pushCells (s.heap.push { cls:=.type "dict",data:=.dict #[] }) scope.names }):
  wpAny M A (newFunctionEnv scope globals closure [] qual none .none (some outer) builtins) Q E s:=by
 simp only[newFunctionEnv,Option.isSome_some,aUb];simp only[newEnv] at hQ;refine aU9 (wpAny_alloc ?_);refine aU9 (wpAny_layCells _ (fun name kind cells=>by cases hkc:kind == NameKind.cell<;>simp[hkc]) _ _ _ _ ?_)
 rw[show ({ s with heap:=s.heap.push { cls:=.type "dict",data:=.dict #[] } }:Shared).heap.objs.size=s.heap.objs.size+1 from aSj ..];rw[12];rw[List.forIn_nil];exact aUa (aUa hQ)
def cxB(X:Cx)(scope:Scope)(N':List Str)(cl:List (Str × Addr))(C:Addr)(s:Shared)(H:Hp)(ex:List Addr):Cx where
 prog:=X.prog
 w:=X.w
 K:=X.K
 mg:=X.mg
 base:=X.base
 A:=X.A
 N:=N'
 s₀:=s
 H₀:=H
 env:=compEnvC scope cl C X.env
 outer:=X.stack
 stack:=X.stack
 ex:=ex
 fn:=fun x=>qR (scope.names.lookup x)
 calm:=X.calm
 pn:=[]
 xe:=fun _ _=>False
noncomputable def cJ(src:List (Option Nat))(σ:St):St:=src.map fun o=>o.bind fun i=>(σ[i]?).join
structure BlkOk(X:Cx)(scope:Scope)(N':List Str)(src:List (Option Nat)):Prop where
 kind:scope.kind=.function
 cells:∀ y∈scope.names,y.2=.cell->scope.names.lookup y.1=some .cell
 names:∀ y∈scope.names,y.2=.local->scope.names.lookup y.1=some .local
 frees:∀ y∈scope.names,y.2=.free->X.env.kindOf y.1=some .cell\/X.env.kindOf y.1=some .free
 srcN:∀ (j i:Nat),src[j]?=some (some i)->∃ x,N'[j]?=some x/\X.N[i]?=some x/\scope.names.lookup x≠some .local/\scope.names.lookup x≠some .cell
 len:src.length=N'.length
theorem wP{env:Env}:∀ {names:List (Str × NameKind)}{x:Str}{k:NameKind},
  (names.map fun (n,k)=>if (k == NameKind.free&&env.scope.kind == .function&&env.kindOf n == some .cell) then (n,NameKind.cell) else (n,k)).lookup x=some k->∃ k0,names.lookup x=some k0/\(x,k0)∈names/\(k0=k\/(k0=.free/\k=.cell))
 | [],_,_,h=>by simp at h
 | (n,kd)::r,x,k,h=>by
  have ih:=@wP env r x k
  by_cases hc:(kd == NameKind.free&&env.scope.kind == .function&&env.kindOf n == some .cell)=true
  ·have e:((n,kd)::r).map (fun (n,k)=>if (k == NameKind.free&&env.scope.kind == .function&&env.kindOf n == some .cell) then (n,NameKind.cell) else (n,k))=(n,NameKind.cell)::r.map (fun (n,k)=>if (k == NameKind.free&&env.scope.kind == .function&&env.kindOf n == some .cell) then (n,NameKind.cell) else (n,k)):=by
    rw[aTc];dsimp only;rw[aUc hc]
   rw[e,aTa] at h;have hf:kd=.free:=by
    have:=(aSc.mp (aSc.mp hc).1).1;exact eq_of_beq this
   by_cases hx:(x == n)=true
   ·rw[hx] at h
    have h':NameKind.cell=k:=aRv h;refine⟨kd,by rw[aTa,hx],by rw[eq_of_beq hx];exact aRz,.inr ⟨hf,h'.symm⟩⟩
   ·have hx':(x == n)=false:=by simpa using hx
    rw[hx'] at h;obtain⟨k0,a,b,c⟩:=ih h;exact⟨k0,by rw[aTa,hx'];exact a,aRy _ b,c⟩
  ·have e:((n,kd)::r).map (fun (n,k)=>if (k == NameKind.free&&env.scope.kind == .function&&env.kindOf n == some .cell) then (n,NameKind.cell) else (n,k))=(n,kd)::r.map (fun (n,k)=>if (k == NameKind.free&&env.scope.kind == .function&&env.kindOf n == some .cell) then (n,NameKind.cell) else (n,k)):=by
    rw[aTc];dsimp only;rw[aUd hc]
   rw[e,aTa] at h
   by_cases hx:(x == n)=true
   ·rw[hx] at h
    have h':kd=k:=aRv h;exact⟨kd,by rw[aTa,hx],by rw[eq_of_beq hx];exact aRz,.inl h'⟩
   ·have hx':(x == n)=false:=by simpa using hx
    rw[hx'] at h;obtain⟨k0,a,b,c⟩:=ih h;exact⟨k0,by rw[aTa,hx'];exact a,aRy _ b,c⟩
section
variable {X:Cx}{pins:List (Addr × Obj)}{σ:St}{H:Hp}{s2:Shared}
theorem MQ {scope : Scope} {N' : List Str} {src : List (Option Nat)} {cl : List (Str × Addr)} {fp : List Addr} {h4 : Heap} {t4 : Nat} {C : Addr} {m : Str -> Option Value} (S : BlkOk X scope N' src) (I : Inv X pins σ H s2)
  (hcl : dH X.env.cells scope.names [] = some cl) (hf : ∀ b ∈ fp, cX X pins H b) (ho : ∀ b ∈ fp, ∃ o, s2.heap.get? b = some o) (hC : s2.heap.objs.size < C)
  (hk : ∀ b o, s2.heap.get? b = some o -> h4.get? b = some o) (hD : h4.get? s2.heap.objs.size = some { cls := .type "list", data := .seq ([] : List Value).toArray 0 }) (hns : h4.Ns C m)
  (hown : ∀ x c, (cellsFrom (C + 1) scope.names cl).lookup x = some c -> cl.lookup x = some c \/ (C < c /\ h4.IsCell c none)) :
  Inv (cxB X scope N' (cellsFrom (C + 1) scope.names cl) C s2 H fp) [] (cJ src σ) (upd H s2.heap.objs.size (.lst [])) { s2 with heap := h4, toks := t4 } := by
 have hH : H s2.heap.objs.size = none := I.hok.fresh (aTs _);have hHC : H C = none := I.hok.fresh (aTr hC);have sub := AO hcl (fun x c e => by simp at e);have clt : ∀ x c, cl.lookup x = some c -> c < s2.heap.objs.size := fun x c e => by
  obtain ⟨v, q⟩ := I.cell x c (sub x c e);exact q.lt
 have frKind : ∀ x, ((relabel scope X.env).names.lookup x = some .cell \/ (relabel scope X.env).names.lookup x = some .free) -> (x, NameKind.free) ∈ scope.names \/ scope.names.lookup x = some .cell := fun x hx => by
  rcases hx with hx | hx
  ·obtain ⟨k0, a, b, c⟩ := wP hx
   rcases c with rfl | ⟨rfl, _⟩
   ·exact .inr a
   ·exact .inl b
  ·obtain ⟨k0, _, b, c⟩ := wP hx
   rcases c with rfl | ⟨rfl, _⟩
   ·exact .inl b
   ·exact .inl b
 have noex : ∀ b o, X.base.get? b = some o -> b ∉ fp := fun b o e hb => by
  rcases (hf b hb).2.2.2.1 with z | z
  ·exact I.ok.noex b o e z
  ·exact absurd (aS3 (aS3 (aSi e) I.ok.bsz) z) (aTu _)
 have hasC : ∀ x, ((relabel scope X.env).names.lookup x = some .cell \/ (relabel scope X.env).names.lookup x = some .free) -> ∃ c, (cellsFrom (C + 1) scope.names cl).lookup x = some c := fun x hx => by
  rcases frKind x hx with q | q
  ·obtain ⟨c, e⟩ := vT hcl (.inl q)
   exact xH e
  ·obtain ⟨c, e, _⟩ := xG (n0 := C + 1) (cs := cl) (aTs (C + 1)) (.inl q)
   exact ⟨c, e⟩
 have cabC : ∀ x c, qR (scope.names.lookup x) = true -> (cellsFrom (C + 1) scope.names cl).lookup x = some c -> s2.heap.objs.size <= c := fun x c z e => by
  obtain ⟨c', e', h'⟩ := xG (n0 := C + 1) (cs := cl) (aTs (C + 1)) (.inl (MS z));rw [e] at e';cases e';exact aTr (aTx hC h')
 have exC : ∀ b ∈ fp, ∀ x c, (cellsFrom (C + 1) scope.names cl).lookup x = some c -> c ≠ b := fun b hb x c e => by
  rcases hown x c e with q | ⟨q, _⟩
  ·exact (hf b hb).2.2.2.2.1 x c (sub x c q)
  ·rintro rfl
   obtain ⟨o, eo⟩ := ho c hb;exact absurd (aTx (aSi eo) (aTx hC q)) (aTu _)
 refine ⟨⟨I.ok.mod, S.kind, I.ok.glob, I.ok.blt, aTr hC, DD (fun x c e => Nat.lt_succ_of_lt (aTx (clt x c e) hC)) (fun x y c e1 e2 => I.ok.inj x y c (sub x c e1) (sub y c e2)), fun x hx => hasC x hx, fun x c z e => cabC x c z e, I.ok.hd, I.ok.frames, .inl rfl, fun b hb => ⟨fun z => ?_, fun x c e => exC b hb x c e⟩,
   I.bs, aTt I.ok.bsz I.sz, noex, fun b hb z => ?_, I.stack, I.stkFree⟩,
  rfl, I.bare, Un.laid hk (aTs _) hH, ⟨m, hns, fun i x v e1 e2 e3 => ?_⟩, fun x c e => ?_, ?_, fun x c e => ?_, fun p hp => absurd (show p ∈ ([] : List (Addr × Obj)) from hp) (by simp), I.hok.laid hk (aTs _) ?_, ?_⟩
 ·obtain ⟨o, e⟩ := ho b hb
  have z' : b = C := z;subst z';exact absurd (aTx (aSi e) hC) (aTu _)
 ·rcases aS7.mp (I.stkSub b z) with e | z
  ·exact (hf b hb).2.1 e
  ·exact (hf b hb).2.2.1 z
 ·-- a captured name
  have e2' : (src.map fun o => o.bind fun i => (σ[i]?).join)[i]? = some (some v) := e2;rw [aT0] at e2';cases es : src[i]? with
  | none => rw [es] at e2'; cases e2'
  | some o =>
   rw [es] at e2';have e2'' : (o.bind fun i => (σ[i]?).join) = some v := aRv e2';cases o with
   | none => cases e2''
   | some j =>
    have ej : σ[j]? = some (some v) := by
     have z : (σ[j]?).join = some v := e2'';cases q : σ[j]? with
     | none => rw [q] at z; cases z
     | some w => rw [q] at z; cases (show w = some v from z); rfl
    obtain ⟨x', n1, n2, n3⟩ := S.srcN i j es;have ex : x' = x := by
     have z : N'[i]? = some x := e1;rw [n1] at z; exact aRv z
    subst ex;have hkd : (relabel scope X.env).names.lookup x' = some .cell \/ (relabel scope X.env).names.lookup x' = some .free := by
     have e3' : Vis (relabel scope X.env) x' := e3;rcases e3' with z | z | z
     ·obtain ⟨k0, a, _, c⟩ := wP z
      rcases c with rfl | ⟨_, q⟩
      ·exact absurd a n3.1
      ·cases q
     ·exact .inl z
     ·exact .inr z
    have hfr := (frKind x' hkd).resolve_right n3.2;have nown : (x', NameKind.cell) ∉ scope.names := fun z => n3.2 (S.cells _ z rfl);have ok := S.frees _ hfr rfl;obtain ⟨m0, hn0, hl0⟩ := I.loc;obtain ⟨u, ru, lu⟩ := hl0 j x' v n2 ej (ok.elim (fun z => .inr (.inl z)) (fun z => .inr (.inr z)));refine ⟨u, ru, .inr ⟨hkd, ?_⟩⟩;rcases lu with ⟨z, _⟩ | ⟨_, c, ec, ic⟩
    ·exfalso
     have z' : X.env.kindOf x' = some .local := z;rcases ok with w | w <;> (rw [z'] at w; cases w)
    ·obtain ⟨c', ec'⟩ := vT hcl (.inl hfr)
     have : c' = c := by
      have := sub x' c' ec';rw [ec] at this;exact (aRv this).symm
     subst this;obtain ⟨oc, g1, g2⟩ := ic;exact ⟨c', DF nown ec', oc, hk _ _ g1, g2⟩
 ·rcases hown x c e with q | ⟨_, q⟩
  ·obtain ⟨v, oc, g1, g2⟩ := I.cell x c (sub x c q)
   exact ⟨v, oc, hk _ _ g1, g2⟩
  ·exact ⟨none, q⟩
 ·show upd H s2.heap.objs.size (.lst []) C = none
  rw [aW (aTz hC)];exact hHC
 ·show upd H s2.heap.objs.size (.lst []) c = none
  rcases hown x c e with q | ⟨q, _⟩
  ·rw [aW (aU0 (clt x c q))]
   exact I.freeC x c (sub x c q)
  ·rw [aW (aTz (aTx hC q))]
   exact I.hok.fresh (aTr (aTx hC q))
 ·exact ⟨aU4 _, [], 0, .nil, hD⟩
 ·show (cJ src σ).length = N'.length
  unfold cJ;rw [aT5];exact S.len
end
section
variable {prog:Program}{w:World}{A:Around}{E:Value->Shared->Prop}{R:Result->Shared->Prop}{s:Shared}
theorem XV {elt target iter : Expr} {ifs : List Expr} {scope : Scope} {pos : Pos} {it acc : Value} {env : Env} (I : Nat -> Shared -> Prop)
  (turn : ∀ n s, I n s -> wpAny (model prog w) A (pyNext it) (fun r s₁ => match r with
   | none => R (.ok .next) s₁
   | some v => wpAny (model prog w) A (letOwnedTupleGo target it v) (fun _ s₁' => wpAny (model prog w) A (assign target env v) (fun _ s₂ =>
     wpAny (model prog w) A (forIn ifs true fun c r => if r = true then do let ok <- isTrue c env (eval c env); pure (ForInStep.yield ok) else pure (ForInStep.yield r)) (fun ok s₃ =>
      if ok = true then wpAny (model prog w) A (eval elt env) (fun x s₄ =>
       wpAny (model prog w) A (call (.builtin "list.append") [acc, x]) (fun _ s₅ => ∃ m, m < n /\ I m s₅) (fun _ _ => False) s₄) (fun _ _ => False) s₃
      else ∃ m, m < n /\ I m s₃) (fun _ _ => False) s₂) (fun _ _ => False) s₁') (fun _ _ => False) s₁) (fun _ _ => False) s)
  (n : Nat) (h : I n s) :
  codeAny (model prog w) A (.compLoop (.ListComp elt [⟨target, iter, ifs, 0⟩] scope pos) 0 it acc env) R s := by
 rw[53];refine wpAny_noted ?_;rw [compTurn_list];refine aU9 (aV9 (aU9 (aUk (turn n s hI) (fun r s₁ h₁ => ?_) fun _ _ h' => h'.elim)));cases r with
 | none => exact aUa h₁
 | some v =>
  rw[57];cases ok with
  | false => exact aUa ⟨rfl, h₃⟩
  | true =>
   exact aU9 (aU9 (aUk h₃ (fun x s₄ h₄ => aU9 (aUk h₄ (fun _ s₅ h₅ => aUa (aUa ⟨rfl, h₅⟩)) fun _ _ h' => h'.elim)) fun _ _ h' => h'.elim))
end
def PIf(X:Cx)(ifs:List Expr)(t:TT):Prop:=
 ∀ (pins:List (Addr × Obj)) (s:Shared) (σ:St) (H:Hp) (Q:Bool->Hp->Prop),Inv X pins σ H s->t σ H Q ->
  wpAny (model X.prog X.w) X.A (forIn ifs true fun c r=>if r=true then do let ok <- isTrue c X.env (eval c X.env);pure (ForInStep.yield ok) else pure (ForInStep.yield r)) (TP X pins σ Q) X.xe s
def vD:TT:=fun _ H Q=>Q true H
def xM{X:Cx}:PIf X [] vD:=fun _ _ _ H _ I h=>wpAny_tests_nil ⟨H,I,h⟩
def aI6{X:Cx}{c:Expr}{t:TT}(h:PT X c t):PIf X [c] t:=fun pins s σ H Q I hw=>wpAny_tests_one (h pins s σ H Q I hw)
def pQ(wi:TI)(mk:St->St)(g:TG)(tc:TT)(te:TE):TE:=fun σ H Q=>wi σ H fun J H1=>∀ D,H1 D=none->∃ W:Nat->Nat->St->Hp->Prop,(∃ m,W 0 m (mk σ) (upd H1 D (.lst []))) /\
 ∀ i m σ1 H2,W i m σ1 H2->(J.stop i H2/\Q (.ref D) H2)\/(J.go i H2/\∀ x H3,J.yld i H2 x H3->g x σ1 H3 fun σ2 H4=>tc σ2 H4 fun b H5=>
  if b=true then te σ2 H5 fun v H6=>∃ xs,H6 D=some (.lst xs)/\xs.length<sizeLine/\∃ m',m'<m/\W (i+1) m' σ2 (upd H6 D (.lst (xs++[v]))) else ∃ m',m'<m/\W (i+1) m' σ2 H5)
section
variable {X:Cx}{elt tg iter:Expr}{ifs:List Expr}{scope:Scope}{pos:Pos}{N':List Str}{src:List (Option Nat)}{wi:TI}{g:TG}{tc:TT}{te:TE}
theorem IK{pins:List (Addr × Obj)}{σ:St}{H2:Hp}{s2:Shared}{E:Value->Shared->Prop}{cl:List (Str × Addr)}{it:Addr}{fp:List Addr}{tn:Nat->Heap->Prop}{J:It}{Q:VK}{RR:Value->Addr->Result->Shared->Prop}
  (S:BlkOk X scope N' src) (hc:X.calm=true) (hcl:dH X.env.cells scope.names []=some cl)
  (hb:∀ cl C s H ex,PG (cxB X scope N' cl C s H ex) tg g/\PIf (cxB X scope N' cl C s H ex) ifs tc/\PE (cxB X scope N' cl C s H ex) elt te)
  (I2:Inv X pins σ H2 s2) (Tn:Turn X.prog X.w X.K tg J fp it tn) (st2:tn 0 s2.heap) (f2:∀ b∈fp,cX X pins H2 b)
  (hw:∀ D,H2 D=none->∃ W:Nat->Nat->St->Hp->Prop,(∃ m,W 0 m (cJ src σ) (upd H2 D (.lst []))) /\
   ∀ i m σ1 H2,W i m σ1 H2->(J.stop i H2/\Q (.ref D) H2)\/(J.go i H2/\∀ x H3,J.yld i H2 x H3->g x σ1 H3 fun σ2 H4=>tc σ2 H4 fun b H5=>
    if b=true then te σ2 H5 fun v H6=>∃ xs,H6 D=some (.lst xs)/\xs.length<sizeLine/\∃ m',m'<m/\W (i+1) m' σ2 (upd H6 D (.lst (xs++[v]))) else ∃ m',m'<m/\W (i+1) m' σ2 H5))
  (hR:∀ D C H' s' m,s2.heap.objs.size<=D->s2.heap.objs.size<=C->s'.heap.Ns C m->H' C=none->Inv X pins σ H' s'->Q (.ref D) H'->RR (.ref D) C (.ok .next) s'):
  wpAny (model X.prog X.w) X.A (newList []) (fun acc s₃=>wpAny (model X.prog X.w) X.A (newFunctionEnv scope X.env.globals cl [] X.env.qual none .none (some X.env)) (fun cenv s₄=>
   codeAny (model X.prog X.w) X.A (.compStart (.ListComp elt [⟨tg,iter,ifs,0⟩] scope pos) 0 (.ref it) acc { cenv with scope:=relabel scope X.env }) (RR acc cenv.locals) s₄) E s₃) E s2:=by
 refine wpAny_newObj_type (NK ?_);dsimp only;generalize hH2:s2.heap.push { cls:=.type "list",dict:=none,data:=.seq ([]:List Value).toArray }=Hq;have hC:Hq.objs.size=s2.heap.objs.size+1:=by rw[<- hH2,aSj]
 have hCl:s2.heap.objs.size<Hq.objs.size:=by rw[hC];exact aTw _
 rw[66];have hown:∀ x c,(cellsFrom (Hq.objs.size+1) scope.names cl).lookup x=some c->cl.lookup x=some c\/(Hq.objs.size<c/\(pushCells (Hq.push { cls:=.type "dict",data:=.dict #[] }) scope.names).IsCell c none):=fun x c e=>by
  have e':(cellsFrom (Hq.push { cls:=.type "dict",data:=.dict #[] }).objs.size scope.names cl).lookup x=some c:=by rw[aSj];exact e
  rcases xI e' with q | ⟨q1,q2⟩
  ·exact .inl q
  ·rw[aSj] at q1
   exact .inr ⟨q1,q2⟩
 generalize pushCells (Hq.push { cls:=.type "dict",data:=.dict #[] }) scope.names=h₁ at hns₁ old hacc hown ⊢;have ho:∀ b∈fp,∃ o,s2.heap.get? b=some o:=fun b hb=>let ⟨o,e,_⟩:=Tn.obj 0 _ st2 b hb;⟨o,e⟩;rw[69];have loop:∀ s₃:Shared,s₃={ s2 with heap:=h₁ } ->
   codeAny (model X.prog X.w) X.A (.compLoop (.ListComp elt [⟨tg,iter,ifs,0⟩] scope pos) 0 (.ref it) (.ref s2.heap.objs.size) (compEnvC scope (cellsFrom (Hq.objs.size+1) scope.names cl) Hq.objs.size X.env)) (RR (.ref s2.heap.objs.size) Hq.objs.size) s₃:=by
  rw[48];have fpOk:∀ {H':Hp},(∀ b∈fp,H' b=none)->∀ b∈fp,cX (cxB X scope N' (cellsFrom (Hq.objs.size+1) scope.names cl) Hq.objs.size s2 H2 fp) [] H' b:=fun hn b hb=>
   ⟨hn b hb,(I0.ok.exf b hb).1,I0.ok.exfs b hb,.inl hb,(I0.ok.exf b hb).2,fun p hp=>absurd (show p∈([]:List (Addr × Obj)) from hp) (by simp)⟩
  have fpOkP:∀ {H':Hp} ,(∀ b∈fp,H' b=none)->∀ b∈fp,cX (cxB X scope N' (cellsFrom (Hq.objs.size+1) scope.names cl) Hq.objs.size s2 H2 fp) [] H' b:=fun hn=>fpOk hn;refine XV (fun n s'=>∃ i σ' H',Inv (cxB X scope N' (cellsFrom (Hq.objs.size+1) scope.names cl) Hq.objs.size s2 H2 fp) [] σ' H' s'/\tn i s'.heap/\(∀ b∈fp,H' b=none)/\W i n σ' H') ?_ m0
   ⟨0,cJ src σ,_,I0,Tn.keep _ _ _ st2 (fun b _ o e=>old b o e),fun b hb=>?_,w0⟩
  rotate_left
  ·obtain⟨o,e⟩:=ho b hb
   rw[aW (aU0 (aSi e))];exact (f2 b hb).1
  rintro n s3 ⟨i,σ3,H3,I3,st3,fr3,w3⟩;rcases turn i n σ3 H3 w3 with ⟨stop,qn⟩ | ⟨go,step⟩
  ·refine thn (Tn.done (cxB X scope N' (cellsFrom (Hq.objs.size+1) scope.names cl) Hq.objs.size s2 H2 fp) rfl rfl rfl hc i [] s3 σ3 H3 _ I3 (fpOk fr3) st3 stop) fun r s4 ⟨hr,I4⟩=>?_
   subst hr;obtain⟨m,hm,_⟩:=I4.loc;rw[58]
  ·refine thn (Tn.item (cxB X scope N' (cellsFrom (Hq.objs.size+1) scope.names cl) Hq.objs.size s2 H2 fp) rfl rfl rfl hc i [] s3 σ3 H3 _ I3 (fpOk fr3) st3 go) fun r s4 ⟨u,hr,h4⟩=>?_
   subst hr;refine thn h4 fun _ s5 ⟨x,H5,I5,r5,y5,st5,fr5⟩=>?_;have I5':=I5.pinned (fpOk fr5) (Tn.obj _ _ st5);rw[71];have again:∀ {σ8:St} {H8:Hp} {s8:Shared} {m':Nat},Inv (cxB X scope N' (cellsFrom (Hq.objs.size+1) scope.names cl) Hq.objs.size s2 H2 fp) ([]++rJ fp s5.heap) σ8 H8 s8->m'<n->W (i+1) m' σ8 H8 ->
     ∃ m,m<n/\∃ i σ' H',Inv (cxB X scope N' (cellsFrom (Hq.objs.size+1) scope.names cl) Hq.objs.size s2 H2 fp) [] σ' H' s8/\tn i s8.heap/\(∀ b∈fp,H' b=none)/\W i m σ' H':=fun {σ8 H8 s8 m'} I8 hm w8=>by
    rw[65];exact (I8.pin (b,o) (aTh _ (aTh _ (qX hb e)))).2.1
   cases ok with
   | false=>
    rw[aUd aSf] at q7;rw[aUd aSf];obtain⟨m',hm,w8⟩:=q7;exact again I7 hm w8
   | true=>
    rw[aUc rfl] at q7;rw[aUc rfl];refine thn (be _ s7 σ6 H7 _ I7 q7) fun xv s8 ⟨v,H8,I8,r8,q8⟩=>?_;rw[45];subst e9;exact again I9 hm w9
 rw[70]
def OQ(S:BlkOk X scope N' src)(hc:X.calm=true)(hi:PI X tg iter wi)
  (hb:∀ cl C s H ex,PG (cxB X scope N' cl C s H ex) tg g/\PIf (cxB X scope N' cl C s H ex) ifs tc/\PE (cxB X scope N' cl C s H ex) elt te)
  (hs:aVf X iter:=by intro _;rfl):PE X (.ListComp elt [⟨tg,iter,ifs,0⟩] scope pos) (pQ wi (cJ src) g tc te):=by
 rw[2];rw[10];rw[eval_ListComp];rw[68];subst e;refine IK (RR:=fun acc C=>compPost (model X.prog X.w) X.A X.xe none (EP X pins σ Q) acc C) S hc hcl hb I2 Tn st2 f2 hw ?_;intro D C H' s' m hD hC hm hCn I' q;refine⟨m,hm,fun h' hsb=>?_⟩;rw[63]
 ·obtain⟨v,q⟩:=I2.cell x c e
  exact absurd (aS3 q.lt (by rw[z];exact hC)) (aTu _)
 ·exact absurd (aS3 (aSi (I2.pin p hp).1) (by rw[z];exact hC)) (aTu _)
def aIg{i:Nat}{x:Str}{pos' spos:Pos}(hN:X.N.Nodup)(hiN:X.N[i]?=some x)(hx:Loc X.env.scope x)(S:BlkOk X scope N' src)(hc:X.calm=true)(hi:PI X tg iter wi)
  (hb:∀ cl C s H ex,PG (cxB X scope N' cl C s H ex) tg g/\PIf (cxB X scope N' cl C s H ex) ifs tc/\PE (cxB X scope N' cl C s H ex) elt te)
  (hsw:swapsWith (.ListComp elt [⟨tg,iter,ifs,0⟩] scope pos) (some (.Name x pos')) spos.line X.env=pure true:=by rfl)
  (hs:aVf X iter:=by intro _;rfl) (hf:aVh X x:=by trivial):
  PS X (.Assign [.Name x pos'] (.ListComp elt [⟨tg,iter,ifs,0⟩] scope pos) spos) (vC (pQ wi (cJ src) g tc te) (gG i)):=by
 rw[24];rw[10];rw[exec_Assign_Name_used _ _ _ _ hsw];refine aU9 (aV9 (aU9 ?_));show wpAny _ X.A (do let _ <- comprehension (.ListComp elt [⟨tg,iter,ifs,0⟩] scope pos) scope X.env _ (newList []) false (eval iter X.env) (some (assign (.Name x pos') X.env))) _ _ s;refine aU9 (aUk (aV5 (use:=some (assign (.Name x pos') X.env)) (Q:=fun _ s'=>SP X pins D .next s') rfl hs (vU hcl) S.kind S.names
  (thn (hi pins s σ H _ I h) fun v s1 h1=>thn h1 fun itv s2 h2=>?_)) (fun _ s' hq=>aUa (aUa hq)) fun _ _ e=>e)
 obtain⟨it,fp,tn,J,H2,e,I2,Tn,st2,f2,hw⟩:=h2;subst e;refine IK (Q:=fun v H'=>D.nx (σ.set i (some v)) H') (RR:=fun acc C=>compPost (model X.prog X.w) X.A X.xe (some (assign (.Name x pos') X.env)) (fun _ s'=>SP X pins D .next s') acc C) S hc hcl hb I2 Tn st2 f2 hw ?_;intro D' C H' s' m hD hC hm hCn I' q;rw[74];have cl':∀ x c,X.env.cells.lookup x=some c->c≠C:=fun x c e z=>by
  obtain⟨v,q⟩:=I2.cell x c e;exact absurd (aS3 q.lt (by rw[z];exact hC)) (aTu _)
 have hLC:X.env.locals≠C:=aU0 (aS3 I2.lt hC);obtain⟨a,sb,ha⟩:=hsb;have haC:C≠a:=by
  rcases ha with rfl | ha
  ·exact Ne.symm hLC
  ·exact Ne.symm (cl' x a ha)
 refine⟨m,hm.sameBut sb haC,fun h' hsb=>⟨_,H',?_,q⟩⟩;rw[54]
end
end L2
namespace G
open PySem PySem.Spec PyProof.Rows L2
mutual
noncomputable def eqT:T->T->Bool
 | .non,.non=>true
 | .bl a,.bl b=>a == b
 | .int a,.int b=>a == b
 | .str a,.str b=>a == b
 | .bl a,.int b=>(if a then 1 else 0) == b
 | .int a,.bl b=>a == (if b then 1 else 0)
 | .lst xs,.lst ys=>eqL xs ys
 | .tup xs,.tup ys=>eqL xs ys
 | .exc _,.exc _=>true
 | .dct _,.dct _=>true
 | .own _,.own _=>true
 | .pg _,.pg _=>true
 | _,_=>false
noncomputable def eqL:List T->List T->Bool
 | [],[]=>true
 | x::xs,y::ys=>eqT x y&&eqL xs ys
 | _,_=>false
end
mutual
noncomputable def dep:T->Nat
 | .lst xs=>depL xs+1
 | .tup xs=>depL xs+1
 | .exc _=>61
 | .dct _=>61
 | .own _=>61
 | .pg _=>61
 | _=>0
noncomputable def depL:List T->Nat
 | []=>0
 | x::xs=>max (dep x) (depL xs)
end
mutual
theorem YO:∀ t:T,eqT t t=true
 | .non=>by simp[eqT]
 | .bl _=>by simp[eqT]
 | .int _=>by simp[eqT]
 | .str _=>by simp[eqT]
 | .lst xs=>by simp[eqT,eqL_refl xs]
 | .tup xs=>by simp[eqT,eqL_refl xs]
 | .exc _=>by simp[eqT]
 | .dct _=>by simp[eqT]
 | .own _=>by simp[eqT]
 | .pg _=>by simp[eqT]
theorem eqL_refl:∀ xs:List T,eqL xs xs=true
 | []=>by simp[eqL]
 | x::xs=>by simp[eqL,YO x,eqL_refl xs]
end
theorem AR:∀ {xs:List T}{t:T}{i:Nat},xs[i]?=some t->dep t<=depL xs
 | [],_,_,e=>by simp at e
 | x::xs,t,0,e=>by simp at e;subst e;simp[depL];lia
 | x::xs,t,i+1,e=>by
  have:=AR (xs:=xs) (i:=i) (t:=t) (by simpa using e);simp[depL];lia
theorem AU:∀ (xs ys:List T),xs.length=ys.length->eqL xs ys=(List.range xs.length).all fun j=>match xs[j]?,ys[j]? with | some a,some b=>eqT a b | _,_=>false
 | [],[],_=>by simp[eqL]
 | x::xs,y::ys,h=>by
  have ih:=AU xs ys (by simpa using h);rw[eqL,ih,aT4,List.range_succ_eq_map,aSn,List.all_map];simp[Function.comp_def]
 | [],_::_,h=>by simp at h
 | _::_,[],h=>by simp at h
theorem AT:∀ (xs ys:List T),xs.length≠ys.length->eqL xs ys=false
 | [],[],h=>by simp at h
 | x::xs,y::ys,h=>by rw[eqL,AT xs ys (by simpa using h),Bool.and_false]
 | [],_::_,_=>by simp[eqL]
 | _::_,[],_=>by simp[eqL]
variable {X:Cx}{pins:List (Addr × Obj)}
section
variable {σ:St}{H:Hp}{s:Shared}
mutual
theorem EB(I:Inv X pins σ H s){A A':Addr->Prop}:∀ (t u:T) {v:V},dep t<=60->dep u<=60->Rep X.K H A t v->Rep X.K H A' u v->eqT t u=true
 | .lst xs,u,_,hd,hd2,h,q=>by
  obtain⟨a,us,rfl,h1,h2⟩:=h.sqL;cases u with
  | lst ys=>
   obtain⟨b,ws,e',q1,q2⟩:=q.sqL;cases e';have:=I.list_inj h1 q1;subst this;rw[eqT];exact repL_same I xs ys (by simp[dep] at hd;lia) (by simp[dep] at hd2;lia) h2 q2
  | tup ys=>
   obtain⟨b,ws,e',q1,q2⟩:=q.sqT;cases e';obtain⟨_,_,p1,_⟩:=I.list h1;obtain⟨_,_,p2,_⟩:=I.tuple q1;exact (SeqAt.ne_of_list_tuple p1.isList p2 rfl).elim
  | _=>first | (simp[dep] at hd2;done) | cases (show _=_ from q)
 | .tup xs,u,_,hd,hd2,h,q=>by
  obtain⟨a,us,rfl,h1,h2⟩:=h.sqT;cases u with
  | tup ys=>
   obtain⟨b,ws,e',q1,q2⟩:=q.sqT;cases e';have:=I.tuple_inj h1 q1;subst this;rw[eqT];exact repL_same I xs ys (by simp[dep] at hd;lia) (by simp[dep] at hd2;lia) h2 q2
  | lst ys=>
   obtain⟨b,ws,e',q1,q2⟩:=q.sqL;cases e';obtain⟨_,_,p1,_⟩:=I.tuple h1;obtain⟨_,_,p2,_⟩:=I.list q1;exact (SeqAt.ne_of_list_tuple p2.isList p1 rfl).elim
  | _=>first | (simp[dep] at hd2;done) | cases (show _=_ from q)
 | .non,u,_,hd,hd2,h,q | .bl _,u,_,hd,hd2,h,q | .int _,u,_,hd,hd2,h,q | .str _,u,_,hd,hd2,h,q=>by
  cases (show _=_ from h);cases u<;>first | (simp[dep] at hd2;done) | (cases (show _=_ from q);simp[eqT];done) | cases (show _=_ from q) | (obtain⟨_,_,e,_⟩:=q;cases e)
 | .exc _,_,_,hd,_,_,_ | .dct _,_,_,hd,_,_,_ | .own _,_,_,hd,_,_,_ | .pg _,_,_,hd,_,_,_=>by simp[dep] at hd
theorem repL_same(I:Inv X pins σ H s){A A':Addr->Prop}:∀ (ts us:List T) {xs:List V},depL ts<=60->depL us<=60->RepL X.K H A ts xs->RepL X.K H A' us xs->eqL ts us=true
 | [],[],_,_,_,_,_=>by simp[eqL]
 | t::ts,u::us,_,hd,hd2,h,q=>by
  simp only[depL] at hd hd2;obtain⟨x,r,e,h1,h2⟩:=h;obtain⟨y,r',e',q1,q2⟩:=q;subst e;cases e';rw[eqL,EB I t u (by lia) (by lia) h1 q1,repL_same I ts us (by lia) (by lia) h2 q2]
  rfl
 | [],_::_,_,_,_,h,q=>by
  cases (show _=_ from h);obtain⟨_,_,e,_⟩:=q;cases e
 | _::_,[],_,_,_,h,q=>by
  cases (show _=_ from q);obtain⟨_,_,e,_⟩:=h;cases e
end
open SeqAt in
def JM(I:Inv X pins σ H s){A A':Addr->Prop}{Ar:Around}{t u:T}{v w:V}{x y:Value}(hd:dep t<=60)(hdu:dep u<=60)(hu':Ar.units<cLine)(h:Rep X.K H A t v)(q:Rep X.K H A' u w)(r:bB v x)(r':bB w y)(hn:∀ ts us,¬(t=.lst ts/\u=.lst us)/\¬(t=.tup ts/\u=.tup us)):EqAt Ar s x y (eqT t u)/\RcAt Ar s x y (eqT t u)/\RcNeAt Ar s x y (!eqT t u):=by
 cases t<;>first | (obtain⟨_,_,rfl,k1,_⟩:=h.sqL;cases r;obtain⟨_,_,k2,_⟩:=I.list k1;have p1:=k2.isList) | (obtain⟨_,_,rfl,k1,_⟩:=h.sqT;cases r;obtain⟨_,_,p1,_⟩:=I.tuple k1) | (simp[dep] at hd;done) | (cases (show _=_ from h);first | cases (show _=_ from r) | obtain⟨_,rfl⟩:=r)
 all_goals
  cases u<;>first | (obtain⟨_,_,rfl,k1,_⟩:=q.sqL;cases r';obtain⟨_,_,k2,_⟩:=I.list k1;have p2:=k2.isList) | (obtain⟨_,_,rfl,k1,_⟩:=q.sqT;cases r';obtain⟨_,_,p2,_⟩:=I.tuple k1) | (simp[dep] at hdu;done) | (cases (show _=_ from q);first | cases (show _=_ from r') | obtain⟨_,rfl⟩:=r')
 ·exact⟨EqAt.same _,RcAt.none_none,RcNeAt.none_none⟩
 ·exact⟨.none_bool _,.none_bool _,.none_bool _⟩
 ·exact⟨.none_int _ _,.none_int _ _,.none_int _ _⟩
 ·exact⟨.none_str _ _,.none_str _ _,.none_str _ _⟩
 ·exact⟨.none_list p2 hu',.none_list p2 hu',.none_list p2 hu'⟩
 ·exact⟨.none_tuple p2 hu',.none_tuple p2 hu',.none_tuple p2 hu'⟩
 ·exact⟨.bool_none _,.bool_none _,.bool_none _⟩
 ·exact⟨.bool_bool _ _,.bool_bool _ _,.bool_bool _ _⟩
 ·exact⟨.bool_int _ _ _,.bool_int _ _ _,.bool_int _ _ _⟩
 ·exact⟨.bool_str _ _ _,.bool_str _ _ _,.bool_str _ _ _⟩
 ·exact⟨.bool_list _ p2 hu',.bool_list _ p2 hu',.bool_list _ p2 hu'⟩
 ·exact⟨.bool_tuple _ p2 hu',.bool_tuple _ p2 hu',.bool_tuple _ p2 hu'⟩
 ·exact⟨.int_none _ _,.int_none _ _,.int_none _ _⟩
 ·exact⟨.int_bool _ _ _,.int_bool _ _ _,.int_bool _ _ _⟩
 ·exact⟨.int_int _ _ _ _,.int_int _ _ _ _,.int_int _ _ _ _⟩
 ·exact⟨.int_str _ _ _ _,.int_str _ _ _ _,.int_str _ _ _ _⟩
 ·exact⟨.int_list _ _ p2 hu',.int_list _ _ p2 hu',.int_list _ _ p2 hu'⟩
 ·exact⟨.int_tuple _ _ p2 hu',.int_tuple _ _ p2 hu',.int_tuple _ _ p2 hu'⟩
 ·exact⟨.str_none _ _,.str_none _ _,.str_none _ _⟩
 ·exact⟨.str_bool _ _ _,.str_bool _ _ _,.str_bool _ _ _⟩
 ·exact⟨.str_int _ _ _ _,.str_int _ _ _ _,.str_int _ _ _ _⟩
 ·exact⟨.str_str _ _ _ _,.str_str _ _ _ _,.str_str _ _ _ _⟩
 ·exact⟨.str_list _ _ p2 hu',.str_list _ _ p2 hu',.str_list _ _ p2 hu'⟩
 ·exact⟨.str_tuple _ _ p2 hu',.str_tuple _ _ p2 hu',.str_tuple _ _ p2 hu'⟩
 ·exact⟨.list_none p1 hu',.list_none p1 hu',.list_none p1 hu'⟩
 ·exact⟨.list_bool _ p1 hu',.list_bool _ p1 hu',.list_bool _ p1 hu'⟩
 ·exact⟨.list_int _ _ p1 hu',.list_int _ _ p1 hu',.list_int _ _ p1 hu'⟩
 ·exact⟨.list_str _ _ p1 hu',.list_str _ _ p1 hu',.list_str _ _ p1 hu'⟩
 ·exact ((hn _ _).1 ⟨rfl,rfl⟩).elim
 ·exact⟨.list_tuple p1 p2 hu',.list_tuple p1 p2 hu',.list_tuple p1 p2 hu'⟩
 ·exact⟨.tuple_none p1 hu',.tuple_none p1 hu',.tuple_none p1 hu'⟩
 ·exact⟨.tuple_bool _ p1 hu',.tuple_bool _ p1 hu',.tuple_bool _ p1 hu'⟩
 ·exact⟨.tuple_int _ _ p1 hu',.tuple_int _ _ p1 hu',.tuple_int _ _ p1 hu'⟩
 ·exact⟨.tuple_str _ _ p1 hu',.tuple_str _ _ p1 hu',.tuple_str _ _ p1 hu'⟩
 ·exact⟨.tuple_list p1 p2 hu',.tuple_list p1 p2 hu',.tuple_list p1 p2 hu'⟩
 ·exact ((hn _ _).2 ⟨rfl,rfl⟩).elim
open SeqAt in
def JL(I:Inv X pins σ H s){A A':Addr->Prop}:∀ (n:Nat) (Ar:Around) (t u:T) (v w:V) (x y:Value),n<=60->dep t<=n->dep u<=60->Ar.units+n<cLine->Rep X.K H A t v->Rep X.K H A' u w->bB v x->bB w y->EqAt Ar s x y (eqT t u)/\RcAt Ar s x y (eqT t u)/\RcNeAt Ar s x y (!eqT t u):=by
 intro n
 induction n with
 | zero=>
  intro Ar t u v w x y hn hd hdu hu h q r r';refine JM I (by lia) hdu (by lia) h q r r' fun ts us=>⟨?_,?_⟩<;>(rintro ⟨rfl,rfl⟩;simp[dep] at hd)
 | succ n ih=>
  intro Ar t u v w x y hn hd hdu hu h q r r';have hu':Ar.units<cLine:=by lia
  have parts:∀ {ts us:List T} {xs ys:List V} {its its2:List Value},depL ts<=n->depL us<=60->RepL X.K H A ts xs->RepL X.K H A' us ys->aQ xs its->aQ ys its2 ->
    ∀ j (h1:j<its.toArray.size) (h2:j<its2.toArray.size),EqAt Ar.in1 s its.toArray[j] its2.toArray[j] (match ts[j]?,us[j]? with | some a,some b=>eqT a b | _,_=>false):=by
   intro ts us xs ys its its2 hdn hdm hr hq hv hv' j h1 h2;have l1:=hr.length;have l2:=hq.length;have l3:=hv.length;have l4:=hv'.length;simp only[aS4] at h1 h2;have e1:ts[j]?=some ts[j]:=aRx (by lia);have e2:us[j]?=some us[j]:=aRx (by lia);obtain⟨a,g1,ra⟩:=hr.get e1;obtain⟨b,g2,rb⟩:=hq.get e2;obtain⟨c,g3,rc⟩:=hv.get g1;obtain⟨d,g4,rd⟩:=hv'.get g2;have i1:its.toArray[j]=c:=by
    have:=(aS0.mp g3).2
    simpa using this
   have i2:its2.toArray[j]=d:=by
    have:=(aS0.mp g4).2
    simpa using this
   rw[i1,i2,e1,e2];exact (ih Ar.in1 _ _ a b c d (by lia) (aTt (AR e1) hdn) (aTt (AR e2) hdm) (by show Ar.units+1+n<cLine;lia) ra rb rc rd).1
  by_cases hL:∃ ts us,t=.lst ts/\u=.lst us
  ·obtain⟨ts,us,rfl,rfl⟩:=hL
   have hd':depL ts<=n:=by simp[dep] at hd;lia
   obtain⟨a,xs,rfl,h1,h2⟩:=h.sqL;cases r;obtain⟨its,hv,p1,_⟩:=I.list h1;have l1:=h2.length;have l3:=hv.length;obtain⟨b,ys,rfl,q1,q2⟩:=q.sqL;cases r';obtain⟨its2,hv',p2,_⟩:=I.list q1;have l2:=q2.length;have l4:=hv'.length;have rc:RcAt Ar s (.ref a) (.ref b) (eqT (.lst ts) (.lst us))/\RcNeAt Ar s (.ref a) (.ref b) (!eqT (.lst ts) (.lst us)):=by
    rw[eqT]
    by_cases hl:ts.length=us.length
    ·have hz:its.toArray.size=its2.toArray.size:=by simp only[aS4];lia
     have e1:=RcAt.lists p1.isList p2.isList hz hu' (parts hd' (by simp[dep] at hdu;lia) h2 q2 hv hv');have e2:=RcNeAt.lists p1.isList p2.isList hz hu' (parts hd' (by simp[dep] at hdu;lia) h2 q2 hv hv');have el:its.toArray.size=ts.length:=by simp only[aS4];lia
     rw[el,<- AU ts us hl] at e1 e2;exact⟨e1,e2⟩
    ·have hz:(its.toArray.size != its2.toArray.size)=true:=by simp only[aS4];simp;lia
     rw[AT ts us hl];exact⟨RcAt.lists_lengths p1.isList p2.isList hz hu',RcNeAt.lists_lengths p1.isList p2.isList hz hu'⟩
   refine⟨?_,rc⟩
   by_cases hab:a=b
   ·subst hab
    rw[EB I (.lst ts) (.lst us) (by lia) hdu h q];exact EqAt.same _
   ·exact EqAt.of_refs hab rc.1
  by_cases hT:∃ ts us,t=.tup ts/\u=.tup us
  ·obtain⟨ts,us,rfl,rfl⟩:=hT
   have hd':depL ts<=n:=by simp[dep] at hd;lia
   obtain⟨a,xs,rfl,h1,h2⟩:=h.sqT;cases r;obtain⟨its,hv,p1,_⟩:=I.tuple h1;have l1:=h2.length;have l3:=hv.length;obtain⟨b,ys,rfl,q1,q2⟩:=q.sqT;cases r';obtain⟨its2,hv',p2,_⟩:=I.tuple q1;have l2:=q2.length;have l4:=hv'.length;have el:its.toArray.size=ts.length:=by simp only[aS4];lia
   have el2:its2.toArray.size=us.length:=by simp only[aS4];lia
   have same:((List.range (min its.toArray.size its2.toArray.size)).all (fun j=>match ts[j]?,us[j]? with | some a,some b=>eqT a b | _,_=>false)&&its.toArray.size == its2.toArray.size)=eqL ts us:=by
    by_cases hl:ts.length=us.length
    ·rw[el,el2,<- hl,Nat.min_self,<- AU ts us hl,aUf,Bool.and_true]
    ·rw[AT ts us hl,el,el2,beq_false_of_ne hl,Bool.and_false]
   have e1:=RcAt.tuples p1 p2 hu' (parts hd' (by simp[dep] at hdu;lia) h2 q2 hv hv');have e2:=RcNeAt.tuples p1 p2 hu' (parts hd' (by simp[dep] at hdu;lia) h2 q2 hv hv');rw[same] at e1 e2;have rc:RcAt Ar s (.ref a) (.ref b) (eqT (.tup ts) (.tup us))/\RcNeAt Ar s (.ref a) (.ref b) (!eqT (.tup ts) (.tup us)):=by
    rw[eqT];exact⟨e1,e2⟩
   refine⟨?_,rc⟩
   by_cases hab:a=b
   ·subst hab
    rw[EB I (.tup ts) (.tup us) (by lia) hdu h q];exact EqAt.same _
   ·exact EqAt.of_refs hab rc.1
  exact JM I (by lia) hdu hu' h q r r' fun ts us=>⟨fun z=>hL ⟨ts,us,z⟩,fun z=>hT ⟨ts,us,z⟩⟩
end
def GOp(K:PySem.W.Frag)(r:R2)(F:T->T->Option T):Prop:=∀ x y t,F x y=some t->scal t=true/\∀ (H:Hp) (A A':Addr->Prop) (vx vy:V),Rep K H A x vx->Rep K H A' y vy->∀ Q:VK,Q (tv t) H->r vx vy H Q
def SOp.gop{K:PySem.W.Frag}{r:R2}{F:T->T->Option T}(h:SOp r F):GOp K r F:=fun x y t e=>by
 obtain⟨sx,sy,st,k⟩:=h x y t e;refine⟨st,fun H A A' vx vy rx ry Q q=>?_⟩;rw[QJ sx] at rx;rw[QJ sy] at ry;subst rx ry;exact k H Q q
noncomputable def isB:T->Option Bool
 | .bl b=>some b
 | _=>none
def fB(f:Rho->Option T):Rho->Option Bool:=fun ρ=>(f ρ).bind isB
def wL{t:T}{b:Bool}(h:isB t=some b):t=.bl b:=by
 cases t<;>first | (cases h;done) | skip
 cases (aRv h);rfl
variable {B:Hp}{fl:List Nat}{es:List Expr}{fa:Rho->Option (List T)}{n':Bool}{l':Nat}{pos:Pos}
section
variable {a b c e:Expr}{f g:Rho->Option T}{p q:Rho->Option Bool}{n:Bool}{l:Nat}{op:CmpOp}{r:R2}{F:T->T->Option T}
def BG(ho:OpR X (compareOp op) r)(hF:GOp X.K r F)(ha:GE X B fl a f n l)(hb:GE X B fl b g n' l')(hm:behindInMarks op b=false):GE X B fl (.Compare a [op] [b] pos) (f2 f g F) true 3:=by
 refine bC (ON ho ha hb hm) ?_;rw[0];rw[9];rw[13];obtain⟨st,k⟩:=hF x y t hf;rw[3];exact k H2 _ _ vx vy ((rx.rep S).grow s2) (ry.rep (S.grow s1)) Q (q _ H2 (s1.trans s2) ((aO.scal st).mpr rfl))
def qQ(ho:OpR X (compareOp op) r)(hF:GOp X.K r F)(ha:GE X B fl a f n l)(hb:GE X B fl b g n' l')(hm:behindInMarks op b=false):GT X B fl (.Compare a [op] [b] pos) (fB (f2 f g F)):=by
 refine DS (DR ho ha hb hm) ?_;rintro σ H Q ⟨Ex,ρ,M,c,S,hf,q⟩;obtain⟨t,hf,hc⟩:=bind_some hf;cases wL hc;rw[9];rw[13];obtain⟨st,k⟩:=hF x y _ hf;rw[3];exact k H2 _ _ vx vy ((rx.rep S).grow s2) (ry.rep (S.grow s1)) _ ⟨c,rfl,q H2 (s1.trans s2)⟩
def oEq:T->T->Option T:=fun x y=>if max (dep x) (dep y)<=60 then some (.bl (eqT x y)) else none
def oNe:T->T->Option T:=fun x y=>if max (dep x) (dep y)<=60 then some (.bl (!eqT x y)) else none
def xQ(K:PySem.W.Frag)(neg:Bool):R2:=fun x y H Q=>∃ t u A A',max (dep t) (dep u)<=60/\Rep K H A t x/\Rep K H A' u y/\Q (.bl (if neg then !eqT t u else eqT t u)) H
def OD(hu:X.A.units+64<cLine):OpR X (compareOp .Eq) (xQ X.K false):=by
 rw[7];obtain⟨t,u',A,A',hd,r1,r2,q⟩:=h;exact (JL I 60 X.A t u' x y v u (aTs _) (by lia) (by lia) (by lia) r1 r2 rx ry).2.1 _ _ _ _ ⟨.bl _,H,I,rfl,q⟩
def OH(hu:X.A.units+64<cLine):OpR X (compareOp .NotEq) (xQ X.K true):=by
 rw[7];obtain⟨t,u',A,A',hd,r1,r2,q⟩:=h;exact (JL I 60 X.A t u' x y v u (aTs _) (by lia) (by lia) (by lia) r1 r2 rx ry).2.2 _ _ _ _ ⟨.bl _,H,I,rfl,q⟩
def LL{K:PySem.W.Frag}:GOp K (xQ K false) oEq:=by
 intro x y t h;unfold oEq at h;split at h
 ·rename_i hd
  cases h;exact⟨rfl,fun H A A' vx vy rx ry Q q=>⟨x,y,A,A',hd,rx,ry,q⟩⟩
 ·cases h
def LN{K:PySem.W.Frag}:GOp K (xQ K true) oNe:=by
 intro x y t h;unfold oNe at h;split at h
 ·rename_i hd
  cases h;exact⟨rfl,fun H A A' vx vy rx ry Q q=>⟨x,y,A,A',hd,rx,ry,q⟩⟩
 ·cases h
def aAf(hu:X.A.units+64<cLine)(ha:GE X B fl a f n l)(hb:GE X B fl b g n' l'):GE X B fl (.Compare a [.Eq] [b] pos) (f2 f g oEq) true 3:=BG (OD hu) LL ha hb (jX _)
def LU(hu:X.A.units+64<cLine)(ha:GE X B fl a f n l)(hb:GE X B fl b g n' l'):GT X B fl (.Compare a [.Eq] [b] pos) (fB (f2 f g oEq)):=qQ (OD hu) LL ha hb (jX _)
def LX(hu:X.A.units+64<cLine)(ha:GE X B fl a f n l)(hb:GE X B fl b g n' l'):GT X B fl (.Compare a [.NotEq] [b] pos) (fB (f2 f g oNe)):=qQ (OH hu) LN ha hb (jX _)
def wH(ha:GE X B fl a f n l)(hb:GE X B fl b g n' l'):GT X B fl (.Compare a [.Lt] [b] pos) (fB (f2 f g oLt)):=qQ aH5 (SOp.gop (mG (fun _ _=>rfl) fun _ _=>rfl)) ha hb (jX _)
def LV(ha:GE X B fl a f n l)(hb:GE X B fl b g n' l'):GT X B fl (.Compare a [.Gt] [b] pos) (fB (f2 f g oGt)):=qQ OE (SOp.gop (mG (fun _ _=>rfl) fun _ _=>rfl)) ha hb (jX _)
noncomputable def wM:T->Bool
 | .non=>true
 | _=>false
def aJj{K:PySem.W.Frag}{H:Hp}{A:Addr->Prop}{t:T}{v:V}(h:Rep K H A t v):decide (v=.non)=wM t:=by
 cases t with
 | non=>cases (show _=_ from h);rfl
 | bl _=>cases (show _=_ from h);rfl
 | int _=>cases (show _=_ from h);rfl
 | str _=>cases (show _=_ from h);rfl
 | lst _=>obtain⟨a,xs,rfl,_⟩:=h;rfl
 | tup _=>obtain⟨a,xs,rfl,_⟩:=h;rfl
 | exc _=>obtain⟨a,C,rfl,_⟩:=h;rfl
 | dct _=>obtain⟨a,rfl,_⟩:=h;rfl
 | own _=>obtain⟨a,xs,rfl,_⟩:=h;rfl
 | pg _=>obtain⟨p,C,dx,n,t,a,rfl,_⟩:=h;rfl
def oIs:T->T->Option T:=fun x y=>if wM y then some (.bl (wM x)) else none
def aD9{y:T}(h:wM y=true):y=.non:=by cases y<;>first | rfl | cases h
def LM{K:PySem.W.Frag}:GOp K (fun x y H Q=>y=.non/\Q (.bl (decide (x=.non))) H) oIs:=by
 intro x y t h;unfold oIs at h;split at h
 ·rename_i hy
  cases h;cases aD9 hy;exact⟨rfl,fun H A A' vx vy rx ry Q q=>⟨ry,by rw[aJj rx];exact q⟩⟩
 ·cases h
def aAn(ha:GE X B fl a f n l)(hb:GE X B fl b g n' l'):GE X B fl (.Compare a [.Is] [b] pos) (f2 f g oIs) true 3:=BG OG LM ha hb (jX _)
def aCd(ha:GE X B fl a f n l)(hb:GE X B fl b g n' l'):GT X B fl (.Compare a [.Is] [b] pos) (fB (f2 f g oIs)):=qQ OG LM ha hb (jX _)
noncomputable def vE:T->Option Bool
 | .non=>some false
 | .bl b=>some b
 | .int i=>some (i != 0)
 | .lst ts=>some (!ts.isEmpty)
 | .tup ts=>some (!ts.isEmpty)
 | .str _=>none
 | .exc _=>none
 | .dct _=>none
 | .own _=>none
 | .pg _=>none
def aJk{K:PySem.W.Frag}{H:Hp}{A:Addr->Prop}{t:T}{v:V}{k:Bool}(h:Rep K H A t v)(e:vE t=some k):AB K v H k:=by
 cases t with
 | non=>cases (show _=_ from h);exact (aRv e).symm
 | bl _=>cases (show _=_ from h);exact (aRv e).symm
 | int _=>cases (show _=_ from h);exact (aRv e).symm
 | str _=>cases e
 | exc _=>cases e
 | dct _=>cases e
 | own _=>cases e
 | pg _=>cases e
 | lst ts=>
  obtain⟨a,xs,rfl,h1,h2⟩:=h.sqL;have hl:=h2.length;refine .inl ⟨xs,h1,(aRv e).symm.trans ?_⟩;cases ts<;>cases xs<;>simp at hl ⊢
 | tup ts=>
  obtain⟨a,xs,rfl,h1,h2⟩:=h.sqT;have hl:=h2.length;refine .inr (.inl ⟨xs,h1,(aRv e).symm.trans ?_⟩);cases ts<;>cases xs<;>simp at hl ⊢
def fT(f:Rho->Option T):Rho->Option Bool:=fun ρ=>(f ρ).bind vE
def LZ(h:GE X B fl e f n l)(he:∀ whole,isTrue e X.env whole=(do let v <- whole;standAt e.pos;holding [v] (truthy v)):=by intro _;rfl):GT X B fl e (fT f):=by
 refine DS (aIo h he) ?_;rintro σ H Q ⟨Ex,ρ,M,c,S,hf,q⟩;obtain⟨t,hf,hc⟩:=bind_some hf;exact⟨Ex,ρ,M,t,S,hf,fun v H1 s1 r1=>⟨c,aJk (r1.rep S) hc,q H1 s1⟩⟩
noncomputable def fD(p:Rho->Option Bool):Rho->Option Bool:=fun ρ=>(p ρ).map (!·)
noncomputable def rE(p q:Rho->Option Bool):Rho->Option Bool:=fun ρ=>(p ρ).bind fun b=>if b then q ρ else some false
noncomputable def pOr(p q:Rho->Option Bool):Rho->Option Bool:=fun ρ=>(p ρ).bind fun b=>if b then some true else q ρ
def LY(h:GT X B fl a p):GT X B fl (.UnaryOp .Not a pos) (fD p):=by
 refine DS (PH h) ?_;rintro σ H Q ⟨Ex,ρ,M,c,S,hf,q⟩;unfold fD at hf;cases e:p ρ with
 | none=>rw[e] at hf;cases hf
 | some d=>
  rw[e] at hf;rw[4];exact⟨Ex,ρ,M,d,S,e,fun H1 s1=>q H1 s1⟩
def MB(h:GT X B fl a p):GW X B fl (.BoolOp .And [a] pos) p:=aIs h
def BQ(h:GT X B fl a p):GW X B fl (.BoolOp .Or [a] pos) p:=PP h
def MA(h:GT X B fl a p)(k:GW X B fl (.BoolOp .And (b::es) pos) q):GW X B fl (.BoolOp .And (a::b::es) pos) (rE p q):=by
 refine PL (aIr h k) ?_;rintro σ H Q ⟨Ex,ρ,M,c,S,hf,q⟩;rw[56];cases d with
 | true=>exact fQ ⟨Ex,ρ,M,c,S.grow s1,hf,fun H2 s2=>q H2 (s1.trans s2)⟩
 | false=>
  rw[4];exact eW (q H1 s1)
def wI(h:GT X B fl a p)(k:GW X B fl (.BoolOp .Or (b::es) pos) q):GW X B fl (.BoolOp .Or (a::b::es) pos) (pOr p q):=by
 refine PL (PN h k) ?_;rintro σ H Q ⟨Ex,ρ,M,c,S,hf,q⟩;rw[56];cases d with
 | false=>exact eW ⟨Ex,ρ,M,c,S.grow s1,hf,fun H2 s2=>q H2 (s1.trans s2)⟩
 | true=>
  rw[4];exact fQ (q H1 s1)
def GW.gt(h:GW X B fl e p):GT X B fl e p:=h.pt
def sE(f:Rho->Option T):Rho->Option T:=fun ρ=>((f ρ).bind isB).map fun b=>.bl (!b)
def hJ(f g:Rho->Option T):Rho->Option T:=fun ρ=>((f ρ).bind isB).bind fun b=>if b then g ρ else some (.bl false)
def aAt{op:BoolOp}(h:GE X B fl a f n l):GE X B fl (.BoolOp op [a] pos) f n l:=aHw h
def aAs(h:GE X B fl a f n l):GE X B fl (.UnaryOp .Not a pos) (sE f) true 3:=by
 refine bC (aHv h) ?_;rw[0];unfold sE at hf;cases e:(f ρ).bind isB with
 | none=>rw[e] at hf;cases hf
 | some d=>
  rw[e] at hf;rw[4];obtain⟨u,hu,hd⟩:=bind_some e;cases wL hd;exact⟨Ex,ρ,M,_,S,hu,fun v H1 s1 r1=>⟨d,(aO.scal rfl).mp r1,q _ H1 s1 ((aO.scal rfl).mpr rfl)⟩⟩
def aA9(h:GE X B fl a f n l)(k:GE X B fl (.BoolOp .And (b::es) pos) g n' l'):GE X B fl (.BoolOp .And (a::b::es) pos) (hJ f g) false l':=by
 refine bC (aHn h k) ?_;rw[0];obtain⟨d,e,hf⟩:=bind_some hf;obtain⟨u,hu,hd⟩:=bind_some e;cases wL hd;refine⟨Ex,ρ,M,_,S,hu,fun v H1 s1 r1=>⟨d,(aO.scal rfl).mp r1,?_⟩⟩;cases d with
 | true=>exact fQ ⟨Ex,ρ,M,t,S.grow s1,hf,fun v H2 s2 r2=>q v H2 (s1.trans s2) (by have z:=(r2.rep (S.grow s1)).weak fun b x=>Ad.since s1 x;cases t<;>exact z)⟩
 | false=>
  rw[4];exact eW (q _ H1 s1 ((aO.scal rfl).mpr rfl))
noncomputable def fIf(p:Rho->Option Bool)(f g:Rho->Option T):Rho->Option T:=fun ρ=>(p ρ).bind fun b=>if b then f ρ else g ρ
def KY(hc:GT X B fl c p)(ha:GE X B fl a f n l)(hb:GE X B fl b g n l):GE X B fl (.IfExp c a b pos) (fIf p f g) n l:=by
 refine bC (OO hc ha hb) ?_;rw[0];rw[56];cases d with
 | true=>exact fQ ⟨Ex,ρ,M,t,S.grow s1,hf,fun v H2 s2 r2=>q v H2 (s1.trans s2) (r2.since s1)⟩
 | false=>exact eW ⟨Ex,ρ,M,t,S.grow s1,hf,fun v H2 s2 r2=>q v H2 (s1.trans s2) (r2.since s1)⟩
def cF:GA X B fl [] aD 3:=rF cZ fun σ H Q ⟨Ex,ρ,M,ts,S,hf,q⟩=>q _ H (aL.refl H) (by cases (aRv hf);rfl)
def cS(ha:GE X B fl e f n l)(hr:GA X B fl es fa l')(hs:aVc X e es:=by rfl):GA X B fl (e::es) (aB f fa) (min l l'):=by
 refine rF (cD ha hr hs) ?_;rintro σ H Q ⟨Ex,ρ,M,ts,S,hf,q⟩;rw[9];obtain⟨xs,hxs,hf⟩:=bind_some hf;rw[4];refine⟨Ex,ρ,M,x,S,hx,fun v H1 s1 r1=>⟨Ex,ρ,M,xs,S.grow s1,hxs,fun vs H2 s2 r2=>q _ H2 (s1.trans s2) ⟨v,vs,rfl,?_,?_⟩⟩⟩
 ·exact ((r1.rep S).grow s2).weak fun b x=>x.le (Nat.min_le_left _ _)
 ·exact r2.weak fun b x=>(x.since s1).le (Nat.min_le_right _ _)
noncomputable def cap:Nat:=1000000
def fI{n:Nat}(h:n<=cap):n<sizeLine:=by rw[aUm];unfold cap at h;lia
def bZ(fa:Rho->Option (List T)):Rho->Option T:=fun ρ=>(fa ρ).bind fun ts=>if ts.length<=cap then some (.lst ts) else none
def dB(fa:Rho->Option (List T)):Rho->Option T:=fun ρ=>(fa ρ).bind fun ts=>if ts.length<=cap then some (.tup ts) else none
def tN(ha:GA X B fl es fa l):GE X B fl (.List es pos) (bZ fa) true l:=by
 refine bC (DH ha) ?_;rw[0];rw[5];split at hf
 ·rename_i hl
  rw[4];refine⟨Ex,ρ,M,ts,S,hts,fun vs H1 s1 r1=>⟨by rw[<- r1.length];exact aTr (fI hl),fun p hp=>q _ _ (s1.trans (cW hp _)) (aO.laid s1 hp r1)⟩⟩
 ·cases hf
def aB6{k:Nat}(ha:GA X B fl es fa l):GE X B fl (.Tuple es k pos) (dB fa) true l:=by
 refine bC (OT ha) ?_;rw[0];rw[5];split at hf
 ·rename_i hl
  rw[4];refine⟨Ex,ρ,M,ts,S,hts,fun vs H1 s1 r1=>⟨by rw[<- r1.length];exact aTr (fI hl),fun p hp=>q _ _ (s1.trans (cW hp _)) ?_⟩⟩;have hp0:=s1.free hp;exact⟨p,vs,rfl,.inl (.inl bY),r1.grow (cW hp _)⟩
 ·cases hf
def oIx:T->T->Option T
 | .lst ts,.int i=>atI ts i
 | .tup ts,.int i=>atI ts i
 | _,_=>none
def RepL.at{K:PySem.W.Frag}{H:Hp}{A:Addr->Prop}{ts:List T}{xs:List V}{i:Int}{t:T}(h:RepL K H A ts xs)(e:atI ts i=some t):∃ x,atI xs i=some x/\Rep K H A t x:=by
 unfold atI at e ⊢;rw[<- h.length];cases q:ixN ts.length i with
 | none=>rw[q] at e;cases e
 | some j=>rw[q] at e;exact h.get e
def BI(ha:GE X B fl a f n l)(hb:GE X B fl b g n' l')(hs:HQ b:=by exact fun _ _=>rfl):GE X B fl (.Subscript a b pos) (f2 f g oIx) false l:=by
 refine bC (aHt aDd ha hb hs) ?_;rw[0];rw[9];rw[13];rw[3];have rx':=(rx.rep S).grow s2;have ry':=ry.rep (S.grow s1);cases y<;>first | (cases x<;>cases hf;done) | skip
 rename_i i;cases (show _=_ from ry');cases x with
 | lst ts=>
  obtain⟨p,xs,rfl,h1,h2⟩:=rx'.sqL;obtain⟨z,hz,rz⟩:=h2.at hf;exact .inl ⟨p,xs,i,z,rfl,rfl,h1,hz,q _ _ (s1.trans s2) (by cases t<;>exact rz)⟩
 | tup ts=>
  obtain⟨p,xs,rfl,h1,h2⟩:=rx'.sqT;obtain⟨z,hz,rz⟩:=h2.at hf;exact .inr (.inl ⟨p,xs,i,z,rfl,rfl,h1,hz,q _ _ (s1.trans s2) (by cases t<;>exact rz)⟩)
 | non=>cases hf
 | bl _=>cases hf
 | int _=>cases hf
 | str _=>cases hf
 | exc _=>cases hf
 | dct _=>cases hf
 | own _=>cases hf
 | pg _=>cases hf
noncomputable def cN:List T->Option T
 | [.lst ts]=>some (.int ts.length)
 | [.tup ts]=>some (.int ts.length)
 | _=>none
noncomputable def aG(fa:Rho->Option (List T))(F:List T->Option T):Rho->Option T:=fun ρ=>(fa ρ).bind F
def eM{K:PySem.W.Frag}{H:Hp}{A:Addr->Prop}{t:T}{xs:List V}(h:RepL K H A [t] xs):∃ x,xs=[x]/\Rep K H A t x:=by
 obtain⟨x,r,e,h1,h2⟩:=h;cases (show _=[] from h2);exact⟨x,e,h1⟩
theorem wE{x:Str}{p':Pos}(hx:x = "len")(hg:Gl X x)(hm:X.mg x=none)(ha:GA X B fl (e::es) fa l)
  (he:aVc X e es:=by rfl) (hpl:aVe X pos es:=by rfl):GE X B fl (.Call (.Name x p') (e::es) [] pos) (aG fa cN) true 3:=by
 subst hx;refine bC (nE XB hg hm PySem.boot_len ha (by decide) (by decide) he hpl) ?_;rw[0];rw[5];rw[6]
 match ts,hf with
 | [.lst us],hf=>
  rw[4];rw[25];obtain⟨p,xs,rfl,h1,h2⟩:=ry.sqL;exact⟨p,xs,rfl,.inl h1,by rw[<- h2.length];exact q _ H1 s1 ((aO.scal rfl).mpr rfl)⟩
 | [.tup us],hf=>
  rw[4];rw[25];obtain⟨p,xs,rfl,h1,h2⟩:=ry.sqT;exact⟨p,xs,rfl,.inr h1,by rw[<- h2.length];exact q _ H1 s1 ((aO.scal rfl).mpr rfl)⟩
noncomputable def NS:List T->Option T
 | [.lst ts]=>some (.lst ts)
 | [.tup ts]=>some (.lst ts)
 | _=>none
end
variable {iter elt:Expr}
section
variable {a b c e tg:Expr}{ifs:List Expr}{f g:Rho->Option T}{p q:Rho->Option Bool}{n:Bool}{l:Nat}
def aJ0(K:PySem.W.Frag):R2:=fun x y H Q=>∃ l b xs zs,x=.ref l/\y=.ref b/\SqL K H l xs/\SqL K H b zs/\xs.length+zs.length<=sizeLine/\∀ p,H p=none->Q (.ref p) (upd H p (.lst (xs++zs)))
def aH0:OpR X (binaryOp .Add) (aJ0 X.K):=by
 rw[7];obtain⟨l,b,xs,zs,rfl,rfl,hH,hB,hz,q⟩:=h;cases rx;cases ry;obtain⟨its,r,p1,z⟩:=I.list hH;obtain⟨its2,r2,p2,z2⟩:=I.list hB;have hl:=r.length;have hl2:=r2.length;obtain⟨⟨cls,dd,data,sl⟩,n,e,hc,hd,hq⟩:=p1;obtain⟨⟨cls2,dd2,data2,sl2⟩,n2,e2,hc2,hd2,hq2⟩:=p2;simp only at hc hd hq hc2 hd2 hq2;subst hc hd hq hc2 hd2 hq2;have ea:its.toArray++its2.toArray=(its++its2).toArray:=by simp
 refine concat_meets ⟨_,e,rfl⟩ ⟨_,e2,rfl⟩ noFill_list_add seq_list_add PySem.F.slot_list_add PySem.F.entry_list_add (PySem.F.args_list_add_2 _ _) (list_addW l b its.toArray its2.toArray n n2 none none sl sl2 (by simp only[aS4];omega)) ⟨e,e2,?_⟩;rw[ea];exact⟨.ref _,_,I.lnew (t':=s.toks) (r.append r2) (by rw[aT3];omega),rfl,q _ I.fresh⟩
def dC:T->T->Option T
 | .lst xs,.lst ys=>if xs.length+ys.length<=cap then some (.lst (xs++ys)) else none
 | _,_=>none
def aAc(ha:GE X B fl a f n l)(hb:GE X B fl b g n' l'):GE X B fl (.BinOp a .Add b pos) (f2 f g dC) true (min l l'):=by
 refine bC (DI aH0 ha hb) ?_;rw[0];rw[9];rw[13];rw[3];have rx':=(rx.rep S).grow s2;have ry':=ry.rep (S.grow s1);cases x<;>first | (cases hf;done) | skip
 cases y<;>first | (cases hf;done) | skip
 rename_i xs ys;unfold dC at hf;dsimp only at hf;split at hf
 ·rename_i hl
  rw[4];obtain⟨p1,us,rfl,h1,h2⟩:=rx'.sqL;obtain⟨p2,ws,rfl,k1,k2⟩:=ry'.sqL;refine⟨p1,p2,us,ws,rfl,rfl,h1,k1,?_,fun p hp=>q _ _ ((s1.trans s2).trans (cW hp _)) (aO.laid (s1.trans s2) hp (RepL.app (h2.weak fun b x=>x.le (Nat.min_le_left _ _)) (k2.weak fun b x=>(x.since s1).le (Nat.min_le_right _ _))))⟩;rw[<- h2.length,<- k2.length];exact aTr (fI hl)
 ·cases hf
def aJ5:R2:=fun x y H Q=>∃ l k v,x=.ref l/\y=.int k/\H l=some (.lst [v]) /\ -(2^63)<=k/\k<2^63/\k.toNat<=sizeLine/\∀ p,H p=none->Q (.ref p) (upd H p (.lst (List.replicate k.toNat v)))
theorem uP{α:Type}(v:α):∀ k:Nat,(List.replicate k [v]).flatten=List.replicate k v
 | 0=>rfl
 | k+1=>by rw[aTp,List.flatten_cons,uP v k,aTp];rfl
def aHa:OpR X (binaryOp .Mult) aJ5:=by
 rw[7];obtain⟨l,k,w,rfl,rfl,hH,h1,h2,hz,q⟩:=h;exact aH9 pins s σ H _ _ _ _ Q I rx ry ⟨l,k,[w],rfl,rfl,hH,h1,h2,by simpa using hz,fun p hp=>by rw[uP];exact q p hp⟩
def pF:T->T->Option T
 | .lst [t],.int k=>if 0<=k/\k<=cap then some (.lst (List.replicate k.toNat t)) else none
 | _,_=>none
theorem QF{K:PySem.W.Frag}{H:Hp}{A:Addr->Prop}{t:T}{v:V}(h:Rep K H A t v):∀ k:Nat,RepL K H A (List.replicate k t) (List.replicate k v)
 | 0=>rfl
 | k+1=>⟨v,_,rfl,h,QF h k⟩
def aAx(ha:GE X B fl a f true l)(hb:GE X B fl b g n' l'):GE X B fl (.BinOp a .Mult b pos) (f2 f g pF) true l:=by
 refine bC (DI aHa ha hb) ?_;rw[0];rw[9];rw[13];rw[3]
 match x,y,hf with
 | .lst [z],.int k,hf=>
  unfold pF at hf;dsimp only at hf;split at hf
  ·rename_i hk
   rw[4];obtain⟨p1,us,rfl,h0,h1,h2⟩:=rx;obtain⟨w,rfl,rw'⟩:=eM h2;cases (show vy=V.int k from (aO.scal rfl).mp ry);have hc:k.toNat<=cap:=by omega
   refine⟨p1,k,w,rfl,rfl,s2 _ _ h1,by omega,by have:=hk.2;unfold cap at this;omega,aTr (fI hc),fun p hp=>q _ _ ((s1.trans s2).trans (cW hp _)) (aO.laid (s1.trans s2) hp (QF ((rw'.grow s2).weak fun b x=>x.1) _))⟩
  ·cases hf
noncomputable def eO{α:Type}(xs:List α)(lo hi st:Option Int):List α:=
 (sliceRange (sliceBounds lo hi st xs.length).1 (sliceBounds lo hi st xs.length).2.1 (sliceBounds lo hi st xs.length).2.2).filterMap (xs[·]?)
theorem QE{K:PySem.W.Frag}{H:Hp}{A:Addr->Prop}{ts:List T}{xs:List V}(h:RepL K H A ts xs):∀ is:List Nat,RepL K H A (is.filterMap (ts[·]?)) (is.filterMap (xs[·]?))
 | []=>rfl
 | i::is=>by
  have ih:=QE h is;have hl:=h.length;cases e:ts[i]? with
  | none=>
   have e':xs[i]?=none:=by
    rw[List.getElem?_eq_none_iff] at e ⊢;omega
   rw[aSw,aSw,e,e'];exact ih
  | some t=>
   obtain⟨x,ex,rx⟩:=h.get e;rw[aSw,aSw,e,ex];exact⟨x,_,rfl,rx,ih⟩
def aJg{K:PySem.W.Frag}{H:Hp}{A:Addr->Prop}{ts:List T}{xs:List V}(h:RepL K H A ts xs)(lo hi st:Option Int):RepL K H A (eO ts lo hi st) (eO xs lo hi st):=by
 unfold eO;rw[h.length];exact QE h _
theorem TR{xs:List V}{us:List Value}(h:aQ xs us):∀ is:List Nat,aQ (is.filterMap (xs[·]?)) (is.filterMap (us[·]?))
 | []=>.nil
 | i::is=>by
  have ih:=TR h is;cases e:xs[i]? with
  | none=>
   rw[aSw,aSw,e,h.none_of e];exact ih
  | some t=>
   obtain⟨x,ex,rx⟩:=h.get e;rw[aSw,aSw,e,ex];exact .cons rx ih
def GO(X:Cx)(B:Hp)(fl:List Nat)(e:Option Expr)(f:Rho->Option (Option Int)):Prop:=
 PO X e (fun σ H Q=>∃ Ex ρ M o,Sl X.K B fl Ex σ ρ M H/\f ρ=some o/\∀ H',aL H H'->Q o H')
noncomputable def qZ:Rho->Option (Option Int):=fun _=>some none
noncomputable def isI:T->Option Int
 | .int i=>some i
 | _=>none
def rA(f:Rho->Option T):Rho->Option (Option Int):=fun ρ=>((f ρ).bind isI).map some
def BL:GO X B fl none qZ:=fun pins s σ H Q I ⟨_,_,_,o,_,hf,q⟩=>aI9 pins s σ H Q I (by cases (aRv hf);exact q H (aL.refl H))
def LK(h:GE X B fl e f n l):GO X B fl (some e) (rA f):=by
 intro pins s σ H Q I hq;obtain⟨Ex,ρ,M,o,S,hf,q⟩:=hq;refine aIa h pins s σ H Q I ?_;unfold rA at hf;cases e1:(f ρ).bind isI with
 | none=>rw[e1] at hf;cases hf
 | some i=>
  rw[e1] at hf;rw[4];obtain⟨t,ht,hi⟩:=bind_some e1;cases t<;>first | (cases hi;done) | skip
  cases (aRv hi);exact⟨Ex,ρ,M,_,S,ht,fun v H1 s1 r1=>⟨i,(aO.scal rfl).mp r1,q H1 s1⟩⟩
def AX(f:Rho->Option T)(lo hi st:Rho->Option (Option Int)):Rho->Option T:=fun ρ=>(f ρ).bind fun x=>(lo ρ).bind fun a=>(hi ρ).bind fun b=>(st ρ).bind fun c=>
 match x with
 | .lst ts=>if c=some 0 then none else some (.lst (eO ts a b c))
 | _=>none
def aAz{lo hi st:Option Expr}{fl' fh fs:Rho->Option (Option Int)}{p2:Pos}(he:GE X B fl e f n l)(hl:GO X B fl lo fl')(hh:GO X B fl hi fh)(hst:GO X B fl st fs)
  (hsub:∀ (v sl:Value),∃ ops,subscripted (.Slice lo hi st p2) false v sl=operate ops (getItem v sl):=by intro _ _;first | exact⟨_,rfl⟩ | (refine⟨_,?_⟩;with_unfolding_all rfl)):
  GE X B fl (.Subscript e (.Slice lo hi st p2) pos) (AX f fl' fh fs) true l:=by
 intro pins s σ H Q I hq;obtain⟨Ex,ρ,M,t,S,hf,q⟩:=hq;rw[9];obtain⟨a,ha,hf⟩:=bind_some hf;obtain⟨b,hb,hf⟩:=bind_some hf;obtain⟨c,hc,hf⟩:=bind_some hf;have hx2:∃ ts,x=.lst ts:=by
  cases x<;>first | (cases hf;done) | exact⟨_,rfl⟩
 obtain⟨ts,rfl⟩:=hx2;dsimp only at hf;split at hf
 ·cases hf
 ·rename_i hc0
  rw[4];refine Subscript_ (thn (he pins s σ H (fun v H1=>aL H H1/\aO X.K B H M H1 n l (.lst ts) v) I ⟨Ex,ρ,M,_,S,hx,fun v H1 s1 r1=>⟨s1,r1⟩⟩) fun v s1 ⟨x,H1,I1,r1,s01,rx⟩=>?_);refine wpAny_Slice (thn (hl pins s1 σ H1 (fun o H2=>o=a/\aL H1 H2) I1 ⟨Ex,ρ,M,a,S.grow s01,ha,fun H2 s2=>⟨rfl,s2⟩⟩) fun vl s2 ⟨o,H2,I2,pl,e2,s12⟩=>?_);subst e2;refine thn (hh pins s2 σ H2 (fun o H3=>o=b/\aL H2 H3) I2 ⟨Ex,ρ,M,b,S.grow (s01.trans s12),hb,fun H3 s3=>⟨rfl,s3⟩⟩) fun vu s3 ⟨o2,H3,I3,pu,e3,s23⟩=>?_;subst e3;refine thn (hst pins s3 σ H3 (fun o H4=>o=c/\aL H3 H4) I3 ⟨Ex,ρ,M,c,S.grow ((s01.trans s12).trans s23),hc,fun H4 s4=>⟨rfl,s4⟩⟩) fun vs s4 ⟨o3,H4,I4,pst,e4,s34⟩=>?_;subst e4;have I5:Inv X pins σ H4 { s4 with heap:=s4.heap.push { cls:=.type "slice",data:=.fields #[vl,vu,vs] } }:=I4.kept (t':=s4.toks) fun b ob q=>aS6 _ q;have rx':=(rx.rep S).grow ((s12.trans s23).trans s34);obtain⟨p1,us,rfl,h1,h2⟩:=rx'.sqL;cases r1;obtain⟨its,rv,pl',hz⟩:=I5.list h1;have hlen:=rv.length;show wpAny (model X.prog X.w) X.A (subscriptTail e (.Slice lo hi st p2) (.ref p1) (.ref s4.heap.objs.size)) (EP X pins σ Q) X.xe { s4 with heap:=s4.heap.push { cls:=.type "slice",data:=.fields #[vl,vu,vs] } };obtain⟨ops,hops⟩:=hsub (.ref p1) (.ref s4.heap.objs.size);refine tail_any (ops:=ops) (pl'.isList.typeIs) slot_list_getitem.lookup ?_ hops;refine wpAny_getItem_list_slice pl'.isList (Heap.IsSliceOf.new ..) pl pu pst hc0 ?_ (by rw[aS4];omega);have e0:slicePick its.toArray o o2 o3=(eO its o o2 o3).toArray:=by
   unfold slicePick eO;simp
  rw[e0];have e1:eO its o o2 o3=(sliceRange (sliceBounds o o2 o3 us.length).1 (sliceBounds o o2 o3 us.length).2.1 (sliceBounds o o2 o3 us.length).2.2).filterMap (its[·]?):=by
   unfold eO;rw[hlen]
  have hv:aQ (eO us o o2 o3) (eO its o o2 o3):=by
   rw[e1];exact TR rv _
  have hzz:(eO us o o2 o3).length<=sizeLine:=by
   rw[hv.length];have:=slicePick_size_le its.toArray o o2 o3;rw[e0] at this;simp only[aS4] at this;omega
  have hnew:H4 (s4.heap.push { cls:=.type "slice",data:=.fields #[vl,vu,vs] }).objs.size=none:=I5.hok.fresh (aTs _);refine⟨.ref _,_,I5.lnew (t':=s4.toks) hv hzz,rfl,q _ _ (((s01.trans s12).trans (s23.trans s34)).trans (cW hnew _)) ?_⟩;exact aO.laid ((s01.trans s12).trans (s23.trans s34)) hnew (aJg h2 _ _ _)
def Am(sc:Bool)(A:Addr->Prop)(H:Hp):Addr->Prop:=fun a=>sc=false/\(A a\/H a=none)
def nI(K:PySem.W.Frag)(J:It)(ps:List (T × V))(ts:List T)(sc:Bool):Prop:=
 ∀ (H:Hp) (A:Addr->Prop),(∀ p∈ps,Rep K H A p.1 p.2)->∀ i:Nat,(∀ t,ts[i]?=some t->J.go i H/\∀ x H',J.yld i H x H'->aL H H'/\Rep K H' (Am sc A H) t x)/\(ts.length<=i->J.stop i H)
def tGI(K:PySem.W.Frag)(B:Hp)(fl:List Nat)(f:Rho->Option (List T))(l:Nat)(sc:Bool):TI:=fun σ H R=>
 ∃ Ex ρ M ts,Sl K B fl Ex σ ρ M H/\f ρ=some ts/\∀ J H' ps,aL H H'->(∀ p∈ps,Rep K H' (Ad B H M l) p.1 p.2)->nI K J ps ts sc->R J H'
def GI(X:Cx)(B:Hp)(fl:List Nat)(tg e:Expr)(f:Rho->Option (List T))(l:Nat)(sc:Bool):Prop:=PI X tg e (tGI X.K B fl f l sc)
def DL{t t':TI}(h:PI X tg e t)(k:∀ σ H R,t' σ H R->t σ H R):PI X tg e t':=fun pins s σ H R I q=>h pins s σ H R I (k σ H R q)
noncomputable def isL:T->Option (List T)
 | .lst ts=>some ts
 | _=>none
def fL(f:Rho->Option T):Rho->Option (List T):=fun ρ=>(f ρ).bind isL
def mR:T->Option (List T)
 | .lst ts=>if bK ts then some ts else none
 | _=>none
def fFL(f:Rho->Option T):Rho->Option (List T):=fun ρ=>(f ρ).bind mR
theorem ND{pins:List (Addr × Obj)}{s:Shared}{σ:St}{H:Hp}{R:It->Hp->Prop}{Ex:List (T × V)}{ρ:Rho}{M:List Addr}{ts:List T}{sc:Bool}(h:GE X B fl e f n l)(I:Inv X pins σ H s)(S:Sl X.K B fl Ex σ ρ M H)(ht:f ρ=some (.lst ts))(hsc:sc=true->bK ts=true)
  (q:∀ J H' ps,aL H H'->(∀ p∈ps,Rep X.K H' (Ad B H M l) p.1 p.2)->nI X.K J ps ts sc->R J H'):
  wpAny (model X.prog X.w) X.A (eval e X.env) (fun v s1=>wpAny (model X.prog X.w) X.A (pyIter v) (PIE X pins σ tg R) X.xe s1) X.xe s:=by
 refine thn (h pins s σ H (fun v H1=>aL H H1/\aO X.K B H M H1 n l (.lst ts) v) I ⟨Ex,ρ,M,_,S,ht,fun v H1 s1 r1=>⟨s1,r1⟩⟩) fun v s1 ⟨x,H1,I1,r1,s01,rx⟩=>?_;have rx':=rx.rep S;obtain⟨a,xs,rfl,hs,hr⟩:=rx'.sqL;cases r1;obtain⟨its,rv,p,hz⟩:=I1.list hs;refine aUs p.isList ?_;refine⟨s1.heap.objs.size,[s1.heap.objs.size],_,_,H1,rfl,I1.kept (t':=s1.toks) fun b o e=>aS6 _ e,TH a _,⟨_,aSh _ rfl,rfl,rfl⟩,fun b hb=>?_,?_⟩
 ·have e:b=s1.heap.objs.size:=by simpa using hb
  subst e;rw[29]
 ·refine q (Itl X.K a) H1 [(.lst ts,.ref a)] s01 (fun p hp=>by cases aTl.mp hp;exact rx') ?_
  intro H2 A hA i;obtain⟨a',ys,e,hs2,hr2⟩:=(hA _ aRz).sqL;cases e;refine⟨fun t hti=>?_,fun hi=>⟨ys,hs2,by rw[<- hr2.length];exact hi⟩⟩;obtain⟨y,hy,ry⟩:=hr2.get hti;refine⟨⟨ys,y,hs2,hy⟩,fun z H3 hz=>?_⟩;obtain⟨rfl,hz⟩:=hz;have:=hz ys hs2;rw[hy] at this;cases (aRv this);refine⟨aL.refl _,?_⟩;cases sc with
  | false=>exact ry.weak fun b x=>⟨rfl,.inl x⟩
  | true=>
   have hs:G.im t=true:=aS1.mp (hsc rfl) t (List.mem_of_getElem? hti);exact rN t hs ry
def aBg(h:GE X B fl e f n l):GI X B fl tg e (fL f) l false:=by
 intro pins s σ H R I hq;obtain⟨Ex,ρ,M,ts,S,hf,q⟩:=hq;obtain⟨t,ht,hl⟩:=bind_some hf;cases t<;>first | (cases hl;done) | skip
 cases (aRv hl);exact ND h I S ht (fun z=>by cases z) q
def LG(h:GE X B fl e f n l):GI X B fl tg e (fFL f) l true:=by
 intro pins s σ H R I hq;obtain⟨Ex,ρ,M,ts,S,hf,q⟩:=hq;obtain⟨t,ht,hl⟩:=bind_some hf;cases t<;>first | (cases hl;done) | skip
 unfold mR at hl;dsimp only at hl;split at hl
 ·rename_i hfl
  cases (aRv hl);exact ND h I S ht (fun _=>hfl) q
 ·cases hl
noncomputable def rangeT(lo:Int)(n:Nat):List T:=(List.range n).map fun (i:Nat)=>T.int (lo+(i:Int))
def fS:List T->Option (List T)
 | [.int j]=>if j.natAbs<2^62 then some (rangeT 0 j.toNat) else none
 | _=>none
noncomputable def gS(fa:Rho->Option (List T))(o:List T->Option (List T)):Rho->Option (List T):=fun ρ=>(fa ρ).bind o
def aMi{K:PySem.W.Frag}(lo:Int)(n:Nat):nI K (Itr lo n) [] (rangeT lo n) true:=by
 intro H A _ i;unfold rangeT;refine⟨fun t ht=>?_,fun hi=>by show n<=i;simpa using hi⟩;rw[aT0] at ht;cases e:(List.range n)[i]? with
 | none=>rw[e] at ht;cases ht
 | some k=>
  rw[e] at ht;cases (aRv ht);obtain⟨h1,h2⟩:=aS0.mp e;rw[List.getElem_range] at h2;subst h2;refine⟨by show i<n;simpa using h1,fun x H' hx=>?_⟩;obtain⟨rfl,rfl⟩:=hx;exact⟨aL.refl _,rfl⟩
def aBh{x:Str}{p':Pos}(hx:x = "range")(hg:Gl X "range")(hm:X.mg "range" = none)(ha:GA X B fl [a] fa l)(hs:starEach [a] X.env=[(false,eval a X.env)]:=by rfl):GI X B fl tg (.Call (.Name x p') [a] [] pos) (gS fa fS) 3 true:=by
 subst hx;refine DL (aI3 hg hm ha hs) ?_;rintro σ H R ⟨Ex,ρ,M,ts,S,hf,q⟩;obtain⟨us,hus,hf⟩:=bind_some hf;refine⟨Ex,ρ,M,us,S,hus,fun vs H1 s1 r1=>?_⟩
 match us,hf with
 | [.int j],hf=>
  unfold fS at hf;dsimp only at hf;split at hf
  ·rename_i hj
   rw[4];rw[25];cases (show _=_ from ry);exact⟨j,rfl,by omega,by omega,q _ H1 [] s1 (fun _ z=>nomatch z) (aMi 0 j.toNat)⟩
  ·cases hf
end
noncomputable def bX(src:List (Option Nat))(ρ:Rho):Rho:=src.map fun o=>o.bind fun i=>(ρ[i]?).join
noncomputable def bS(p:Rho->Option Bool)(f:Rho->Option T)(ρ:Rho):List T->Option (List T)
 | []=>some []
 | t::ts=>(p (ρ.set 0 (some t))).bind fun b=>if b then (f (ρ.set 0 (some t))).bind fun x=>(bS p f ρ ts).map (x :: ·) else bS p f ρ ts
def cL(fi:Rho->Option (List T))(src:List (Option Nat))(p:Rho->Option Bool)(f:Rho->Option T):Rho->Option T:=fun ρ=>
 (fi ρ).bind fun ts=>(bS p f (bX src ρ) ts).bind fun us=>if us.length<=cap then some (.lst us) else none
noncomputable def bI:Rho->Option Bool:=fun _=>some true
def GIf(X:Cx)(B:Hp)(fl:List Nat)(ifs:List Expr)(p:Rho->Option Bool):Prop:=PIf X ifs (tGT X.K B fl p)
def eV{X:Cx}{B:Hp}{fl:List Nat}:GIf X B fl [] bI:=fun pins s σ H Q I ⟨_,_,_,b,_,hf,q⟩=>xM pins s σ H Q I (by cases (aRv hf);exact q H (aL.refl H))
def LI{X:Cx}{B:Hp}{fl:List Nat}{c:Expr}{p:Rho->Option Bool}(h:GT X B fl c p):GIf X B fl [c] p:=aI6 h
def mP{α:Type}{l:List (Option α)}{i:Nat}{t:α}(h:(l[i]?).join=some t):l[i]?=some (some t):=by
 cases e:l[i]? with
 | none=>rw[e] at h;cases h
 | some o=>rw[e] at h;cases (show o=some t from h);rfl
def aLq{src:List (Option Nat)}{ρ:Rho}{j:Nat}{t:T}(h:(bX src ρ)[j]?=some (some t)):∃ i,src[j]?=some (some i)/\ρ[i]?=some (some t):=by
 unfold bX at h;rw[aT0] at h;cases e:src[j]? with
 | none=>rw[e] at h;cases h
 | some o=>
  rw[e] at h;cases o with
  | none=>cases (aRv h)
  | some i=>exact⟨i,rfl,mP (aRv h)⟩
def aLr{src:List (Option Nat)}{σ:St}{j i:Nat}{v:V}(h:src[j]?=some (some i))(e:σ[i]?=some (some v)):(cJ src σ)[j]?=some (some v):=by
 unfold cJ;rw[aT0,h];show some ((σ[i]?).join)=_;rw[e];rfl
structure FlOk(X:Cx)(N':List Str)(src:List (Option Nat))(fl fl':List Nat)(li:Nat)(sc:Bool):Prop where
 nd:N'.Nodup
 own:src[0]?=some none
 cap:∀ (j i:Nat),src[j]?=some (some i)->fl'.getD j 1=fl.getD i 1
 pos:1<=fl'.getD 0 1
 le:sc=false->fl'.getD 0 1<=li
 xN:∀ (j i:Nat),src[j]?=some (some i)->N'[j]?=X.N[i]?/\j<N'.length
 lf:fl'.length=src.length
 lcs:lc fl'<=lc fl\/∀ j,fl'.getD j 1≠0
variable {src:List (Option Nat)}{N':List Str}{Ex:List (T × V)}{ρ:Rho}
section
variable {K:PySem.W.Frag}{H:Hp}{fl':List Nat}{σ σ1:St}{M:List Addr}{li:Nat}{sc:Bool}
def Sl.block{t:T}{x:V}(F:FlOk X N' src fl fl' li sc)(S:Sl K B fl Ex σ ρ M H)(h0:∀ j,j≠0->σ1[j]?=(cJ src σ)[j]?)(hl:σ1.length=src.length)(r:Rep K H (Ad B H M (min (fl'.getD 0 1) 2)) t x):
  Sl K B fl' Ex (σ1.set 0 (some x)) ((bX src ρ).set 0 (some t)) M H:=by
 have get:∀ j u,((bX src ρ).set 0 (some t))[j]?=some (some u)->(j=0/\u=t)\/(j≠0/\∃ i,src[j]?=some (some i)/\ρ[i]?=some (some u)):=fun j u e=>by
  by_cases hj:j=0
  ·subst hj
   left
   refine⟨rfl,?_⟩
   by_cases hz:0<(bX src ρ).length
   ·rw[aT1 hz] at e
    cases (aRv e);rfl
   ·have:((bX src ρ).set 0 (some t))=[]:=by
     have:(bX src ρ)=[]:=List.length_eq_zero_iff.mp (by omega);rw[this];rfl
    rw[this] at e;cases e
  ·right
   rw[aS5 (Ne.symm hj)] at e;exact⟨hj,aLq e⟩
 have put:∀ j i v,j≠0->src[j]?=some (some i)->σ[i]?=some (some v)->(σ1.set 0 (some x))[j]?=some (some v):=fun j i v hj e1 e2=>by
  rw[aS5 (Ne.symm hj),h0 j hj];exact aLr e1 e2
 have hl0:0<σ1.length:=by
  have:=(aS0.mp F.own).1;omega
 rw[36];refine⟨S.same,fun j u e k=>?_,⟨fun j=>g (((src[j]?).join).getD 0),fun j u e k hm=>?_,fun j j' c d u u' us ws hne e e' k k' hm hm'=>?_⟩,S.ex,S.mB,by rw[List.length_set,hl];exact Nat.le_of_eq F.lf⟩
 ·rcases get j u e with ⟨rfl,rfl⟩ | ⟨hj,i,e1,e2⟩
  ·exact⟨x,by rw[aT1 hl0],r⟩
  ·rw[F.cap j i e1] at k ⊢
   obtain⟨v,e3,r3⟩:=S.slot i u e2 k;exact⟨v,put j i v hj e1 e3,r3⟩
 ·rcases get j u e with ⟨rfl,rfl⟩ | ⟨hj,i,e1,e2⟩
  ·exact absurd k (by have:=F.pos;omega)
  ·rw[F.cap j i e1] at k
   obtain⟨v,e4,e5,e6⟩:=hg i u e2 k hm;simp only[show ((src[j]?).join).getD 0=i by rw[e1];rfl];refine⟨v,put j i _ hj e1 e4,e5,fun c us h=>?_⟩;obtain⟨xs,q1,q2,q3⟩:=e6 c us h;rcases F.lcs with lk | lk
   ·exact⟨xs,q1,q2.weak fun b x=>x.le lk,q3⟩
   ·exact absurd ((F.cap j i e1).trans k) (lk j)
 ·rcases get j u e with ⟨rfl,rfl⟩ | ⟨hj,i,e1,e2⟩
  ·exact absurd k (by have:=F.pos;omega)
  ·rcases get j' u' e' with ⟨rfl,rfl⟩ | ⟨hj',i',e1',e2'⟩
   ·exact absurd k' (by have:=F.pos;omega)
   ·rw[F.cap j i e1] at k
    rw[F.cap j' i' e1'] at k';have hii:j≠j'->i≠i':=fun hj z=>by
     subst z;have q1:=F.xN j i e1;have q2:=F.xN j' i e1';have:N'[j]?=N'[j']?:=q1.1.trans q2.1.symm;rw[aRx q1.2,aRx q2.2] at this;exact hj ((List.getElem_inj F.nd).mp (aRv this))
    simp only[show ((src[j]?).join).getD 0=i by rw[e1];rfl,show ((src[j']?).join).getD 0=i' by rw[e1'];rfl];exact ap i i' c d u u' us ws (hne.imp hii id) e2 e2' k k' hm hm'
end
def Sl.mores{K:PySem.W.Frag}{B H1 H':Hp}{fl:List Nat}{Ex:List (T × V)}{σ:St}{ρ:Rho}{M:List Addr}(Ds:List Addr)(S:Sl K B fl Ex σ ρ M H1)(hD:∀ D∈Ds,H1 D=none/\H' D≠none)(s:aL H1 H'):Sl K B fl Ex σ ρ (Ds++M) H' where
 same:=S.same.trans s
 slot:=fun i t e k=>by
  obtain⟨v,e1,r⟩:=S.slot i t e k;refine⟨v,e1,Rep.keep (fun b _ e=>dP (fun o q=>s b o q) e) (fun b o _ e=>s b o e) (fun b x y=>⟨fun z w=>?_,x.2.1,fun z=>by omega⟩) t r⟩;rcases aTf.mp w with w | w
  ·exact y (hD b w).1
  ·exact x.1 z w
 mu:=by
  rw[36];refine⟨g,fun i t e k hm=>?_,ap⟩;obtain⟨v,e1,e2,e3⟩:=hg i t e k hm;refine⟨v,e1,e2.grow s,fun c us h=>?_⟩;obtain⟨xs,q1,r,q3⟩:=e3 c us h;refine⟨xs,q1.keep (s _),RepL.keep (fun b _ e=>dP (fun o q=>s b o q) e) (fun b o _ e=>s b o e) (fun b x y=>⟨fun z w=>?_,x.2.1,fun z=>by have:=nX fl;omega⟩) us r,aTh _ q3⟩;rcases aTf.mp w with w | w
  ·exact y (hD b w).1
  ·exact x.1 z w
 ex:=fun p hp=>by
  refine Rep.keep (fun b _ e=>dP (fun o q=>s b o q) e) (fun b o _ e=>s b o e) (fun b x y=>⟨fun z w=>?_,x.2.1,fun z=>by omega⟩) p.1 (S.ex p hp);rcases aTf.mp w with w | w
  ·exact y (hD b w).1
  ·exact x.1 z w
 mB:=fun a ha=>by
  rcases aTf.mp ha with ha | ha
  ·exact⟨S.same.free (hD a ha).1,(hD a ha).2⟩
  ·exact⟨(S.mB a ha).1,fun z=>(S.mB a ha).2 (s.free z)⟩
 len:=S.len
def Sl.more{K:PySem.W.Frag}{B H1 H':Hp}{fl:List Nat}{Ex:List (T × V)}{σ:St}{ρ:Rho}{M:List Addr}{D:Addr}(S:Sl K B fl Ex σ ρ M H1)(hD:H1 D=none)(s:aL H1 H')(hn:H' D≠none):Sl K B fl Ex σ ρ (D::M) H':=
 Sl.mores [D] S (fun _ h=>by cases aTl.mp h;exact⟨hD,hn⟩) s
theorem XX{p:Rho->Option Bool}{f:Rho->Option T}{ρ:Rho}{t:T}{ts us:List T}(h:bS p f ρ (t::ts)=some us):
  ∃ b,p (ρ.set 0 (some t))=some b/\((b=true/\∃ x r,f (ρ.set 0 (some t))=some x/\bS p f ρ ts=some r/\us=x::r)\/(b=false/\bS p f ρ ts=some us)):=by
 unfold bS at h;obtain⟨b,hb,h⟩:=bind_some h;refine⟨b,hb,?_⟩;cases b with
 | true=>
  left
  rw[aUc rfl] at h;obtain⟨x,hx,h⟩:=bind_some h;cases e:bS p f ρ ts with
  | none=>rw[e] at h;cases h
  | some r=>rw[e] at h;cases (aRv h);exact⟨rfl,x,r,hx,rfl,rfl⟩
 | false=>
  right
  rw[aUd aSf] at h;exact⟨rfl,h⟩
section
variable {fl':List Nat}{x0:Str}{p0:Pos}{ifs:List Expr}{scope:Scope}{fi:Rho->Option (List T)}{p:Rho->Option Bool}{f:Rho->Option T}{n sc:Bool}{l li:Nat}
def IT(F:FlOk X N' src fl fl' li sc)(hl1':1<=l){σ:St}{H:Hp}{Q:VK}(h:tG X.K B fl (cL fi src p f) true l σ H Q):
  pQ (tGI X.K B fl fi li sc) (cJ src) (gG 0) (tGT X.K B fl' p) (tG X.K B fl' f n l) σ H Q:=by
 obtain⟨Ex,ρ,M,t,S,hf,q⟩:=h;rw[5];obtain⟨fin,hfin,hf⟩:=bind_some hf;split at hf
 rotate_left
 ·cases hf
 rename_i hcap;rw[4];refine⟨Ex,ρ,M,ts,S,hts,fun J H1 ps s01 rp wk=>?_⟩;intro D hD;have hlen:0<src.length:=by
  have:=(aS0.mp F.own).1;exact this
 refine⟨fun i m σ1 H2=>m=ts.length-i/\i<=ts.length/\aL H1 H2/\σ1.length=src.length/\(∀ j,j≠0->σ1[j]?=(cJ src σ)[j]?) /\
  ∃ us rest xs,us++rest=fin/\bS p f (bX src ρ) (ts.drop i)=some rest/\H2 D=some (.lst xs)/\RepL X.K H2 (fun b=>Ad B H M l b/\b≠D) us xs,?_,?_⟩
 ·refine⟨ts.length,by simp,aU4 _,cW hD _,by unfold cJ;simp,fun _ _=>rfl,[],fin,[],rfl,by simpa using hfin,bY,rfl⟩
 ·rintro i m σ1 H2 ⟨rfl,hi,s12,hl1,hσ,us,rest,xs,e1,e2,e3,e4⟩
  have hD2:H2 D≠none:=by rw[e3];simp
  have S2:=(S.grow s01).more hD s12 hD2;have rp1:∀ pv∈ps,Rep X.K H1 (fun b=>Ad B H M li b/\b≠D) pv.1 pv.2:=fun pv hpv=>Rep.keep (fun _ _ e=>e) (fun _ _ _ e=>e) (fun b x y=>⟨x,fun z=>y (z ▸ hD)⟩) pv.1 (rp pv hpv);have w:=wk H2 _ (fun pv hpv=>(rp1 pv hpv).grow s12) i
  by_cases hlt:i<ts.length
  ·refine .inr ?_
   have et:ts[i]?=some ts[i]:=aRx hlt;obtain⟨go,yl⟩:=w.1 _ et;refine⟨go,fun x H3 hy=>?_⟩;obtain⟨s23,rx⟩:=yl x H3 hy;rw[aSs hlt] at e2;obtain⟨b,hb,hcase⟩:=XX e2;have S3:=S2.grow s23;have rx':Rep X.K H3 (Ad B H3 (D::M) (min (fl'.getD 0 1) 2)) ts[i] x:=rx.weak fun c hc=>by
    obtain⟨h0,hc⟩:=hc;rcases hc with hc | hc
    ·refine⟨fun z w=>?_,fun z=>hc.1.2.1 (by have:=F.le h0;omega),fun z=>by omega⟩
     rcases aS7.mp w with rfl | w
     ·exact hc.2 rfl
     ·exact hc.1.1 (by have:=F.le h0;omega) w
    ·exact⟨fun _ z=>(S2.mB c z).2 hc,fun _=>S2.same.free hc,fun z=>by omega⟩
   have Sb:=Sl.block (σ1:=σ1) F S3 hσ hl1 rx';show tGT X.K B fl' p (σ1.set 0 (some x)) H3 _;refine⟨Ex,_,D::M,b,Sb,hb,fun H5 s35=>?_⟩;have hσ':∀ j,j≠0->(σ1.set 0 (some x))[j]?=(cJ src σ)[j]?:=fun j hj=>by rw[aS5 (Ne.symm hj)];exact hσ j hj
   rcases hcase with ⟨rfl,y,r,hy',hr,rfl⟩ | ⟨rfl,hr⟩
   ·refine fQ ⟨Ex,_,D::M,y,Sb.grow s35,hy',fun v H6 s56 rv=>?_⟩
    have s26:=(s23.trans s35).trans s56;have e5:=s26 _ _ e3;have hl:xs.length<sizeLine:=by
     rw[<- e4.length];refine fI (aTt ?_ hcap);rw[<- e1];simp
    refine⟨xs,e5,hl,ts.length-(i+1),by omega,rfl,hlt,?_,by simpa using hl1,hσ',us++[y],r,xs++[v],by rw[<- e1];simp,hr,bY,?_⟩
    ·intro c o hc
     have:c≠D:=fun z=>by rw[z,hD] at hc;cases hc
     rw[aW this];exact (s12.trans s26) c o hc
    ·have k1:RepL X.K H6 (fun b=>Ad B H M l b/\b≠D) us xs:=e4.grow s26
     have k2:Rep X.K H6 (fun b=>Ad B H M l b/\b≠D) y v:=by
      have z:=rv.rep (Sb.grow s35);exact z.weak fun c hc=>⟨⟨fun k w=>hc.1 k (aRy _ w),hc.2.1,fun k=>((s01.trans s12).trans (s23.trans s35)).free (hc.2.2 k)⟩,fun w=>hc.1 hl1' (by rw[w];exact aRz)⟩
     exact (RepL.app k1 (RepL.one k2)).keep (fun c _ e=>jI e5 e) (fun c o hc e=>by rw[aW hc.2];exact e) (fun c hc _=>hc) _
   ·refine eW ⟨ts.length-(i+1),by omega,rfl,hlt,(s12.trans s23).trans s35,by simpa using hl1,hσ',us,rest,xs,e1,hr,(s23.trans s35) _ _ e3,e4.grow (s23.trans s35)⟩
  ·have ei:i=ts.length:=by omega
   subst ei;refine .inl ⟨w.2 (aTs _),?_⟩;rw[aSt (aTs _)] at e2;cases (aRv (show some []=some rest from e2));rw[aSp] at e1;subst e1;exact q _ H2 (s01.trans s12) ⟨D,xs,rfl,s01.free hD,e3,e4⟩
noncomputable def rD:Option NameKind->Bool
 | some .local=>true
 | some .cell=>true
 | _=>false
theorem QB{env:Env}:∀ {names:List (Str × NameKind)}{x:Str},names.lookup x=some .cell ->
  (names.map fun (n,k)=>if (k == NameKind.free&&env.scope.kind == .function&&env.kindOf n == some .cell) then (n,NameKind.cell) else (n,k)).lookup x=some .cell
 | [],_,h=>by cases h
 | (n,k)::r,x,h=>by
  rw[aTa] at h;rw[aTc]
  by_cases hx:(x == n)=true
  ·rw[hx] at h
   have h':k=NameKind.cell:=aRv h;subst h';show ((n,NameKind.cell)::_).lookup x=_;rw[aTa,hx]
  ·have hx':(x == n)=false:=by simpa using hx
   rw[hx'] at h;have ih:=QB (env:=env) h;dsimp only
   split<;>(rw[aTa,hx'];exact ih)
theorem xL{X:Cx}{scope:Scope}{N':List Str}{cl:List (Str × Addr)}{C:Addr}{s:Shared}{H:Hp}{ex:List Addr}{i:Nat}{x:Str}{p:Pos}(hN:N'.Nodup)(hi:N'[i]?=some x)(hx:rD (scope.names.lookup x)=true):
  PG (cxB X scope N' cl C s H ex) (.Name x p) (gG i):=by
 cases q:scope.names.lookup x with
 | none=>rw[q] at hx;cases hx
 | some k=>
  rw[q] at hx;cases k with
  | «local»=>exact rH hN hi (.inl (lookup_relabel_local q)) (.inr (lookup_relabel_local q))
  | cell=>exact rH hN hi (.inr (QB q)) (.inl (show qR (scope.names.lookup x)=true by rw[q];rfl))
  | _=>cases hx
def KS(S:BlkOk X scope N' src)(F:FlOk X N' src fl fl' li sc)(hl1:1<=l)(hc:X.calm=true)(hi:GI X B fl (.Name x0 p0) iter fi li sc)(hN:N'[0]?=some x0)(hx:rD (scope.names.lookup x0)=true)
  (hb:∀ cl C s H ex,GIf (cxB X scope N' cl C s H ex) B fl' ifs p/\GE (cxB X scope N' cl C s H ex) B fl' elt f n l)
  (hs:aVf X iter:=by intro _;rfl):GE X B fl (.ListComp elt [⟨.Name x0 p0,iter,ifs,0⟩] scope pos) (cL fi src p f) true l:=by
 refine bC (OQ (wi:=tGI X.K B fl fi li sc) (g:=gG 0) (tc:=tGT X.K B fl' p) (te:=tG X.K B fl' f n l) S hc hi (fun cl C s H ex=>⟨?_,(hb cl C s H ex).1,(hb cl C s H ex).2⟩) hs) fun σ H Q h=>IT F hl1 h;exact xL F.nd hN hx
def aBv{i:Nat}{x:Str}{pos' spos:Pos}(S:BlkOk X scope N' src)(hc:X.calm=true)(hi:GI X B fl (.Name x0 p0) iter fi li sc)(hnd:N'.Nodup)(hN0:N'[0]?=some x0)(hx0:rD (scope.names.lookup x0)=true)
  (hb:∀ cl C s H ex,GIf (cxB X scope N' cl C s H ex) B fl' ifs p/\GE (cxB X scope N' cl C s H ex) B fl' elt f n l) (hN:X.N.Nodup) (hiN:X.N[i]?=some x) (hx:Loc X.env.scope x)
  (hsw:swapsWith (.ListComp elt [⟨.Name x0 p0,iter,ifs,0⟩] scope pos) (some (.Name x pos')) spos.line X.env=pure true)
  (hs:aVf X iter) (hf:aVh X x):
  PS X (.Assign [.Name x pos'] (.ListComp elt [⟨.Name x0 p0,iter,ifs,0⟩] scope pos) spos) (vC (pQ (tGI X.K B fl fi li sc) (cJ src) (gG 0) (tGT X.K B fl' p) (tG X.K B fl' f n l)) (gG i)):=by
 refine aIg hN hiN hx S hc hi (fun cl C s H ex=>⟨?_,(hb cl C s H ex).1,(hb cl C s H ex).2⟩) hsw hs hf;exact xL hnd hN0 hx0
end
inductive Out where
 | nx (ρ:Rho) | rt (t:T) | bk (ρ:Rho) | ct (ρ:Rho)
def okO:T->Bool
 | .lst _=>true
 | t=>im t
def HN(K:PySem.W.Frag)(B H:Hp)(M:List Addr)(H':Hp):List T->List V->Prop
 | [],xs=>xs=[]
 | t::ts,xs=>∃ x r,xs=x::r/\okO t=true/\aO K B H M H' true 3 t x/\HN K B H M H' ts r
def Dst(ts:List T)(xs:List V):Prop:=∀ (c d:Nat) (us ws:List T) (a:Addr),c≠d->ts[c]?=some (.lst us)->ts[d]?=some (.lst ws)->xs[c]?=some (.ref a)->xs[d]?=some (.ref a)->False
def VS(K:PySem.W.Frag)(B H:Hp)(M:List Addr)(H':Hp)(t:T)(v:V):Prop:=∃ p ts xs,t=.tup ts/\v=.ref p/\Rd H' p (.tup xs)/\HN K B H M H' ts xs/\Dst ts xs
def RtX(K:PySem.W.Frag)(B H:Hp)(n:Bool)(l:Nat)(t:T)(v:V):Prop:=if l=4 then VS K B B [] H t v else aO K B B [] H n l t v
def RtX.of{K:PySem.W.Frag}{B H:Hp}{n:Bool}{l:Nat}{t:T}{v:V}(hl:l≠4):RtX K B H n l t v ↔ aO K B B [] H n l t v:=by unfold RtX;rw[aUd hl]
def zO(K:PySem.W.Frag)(B:Hp)(fl:List Nat)(n:Bool)(l:Nat)(Ex:List (T × V))(D:Ends):Out->Prop
 | .nx ρ=>∀ σ M H,Sl K B fl Ex σ ρ M H->D.nx σ H
 | .bk ρ=>∀ σ M H,Sl K B fl Ex σ ρ M H->D.bk σ H
 | .ct ρ=>∀ σ M H,Sl K B fl Ex σ ρ M H->D.ct σ H
 | .rt t=>∀ v H,aL B H->RtX K B H n l t v->D.rt v H
def tS(K:PySem.W.Frag)(B:Hp)(fl:List Nat)(n:Bool)(l:Nat)(run:Rho->Option Out):TS:=fun D σ H=>
 ∃ Ex ρ M o,Sl K B fl Ex σ ρ M H/\run ρ=some o/\zO K B fl n l Ex D o
def GS(X:Cx)(B:Hp)(fl:List Nat)(n:Bool)(l:Nat)(st:Stmt)(run:Rho->Option Out):Prop:=PS X st (tS X.K B fl n l run)
def GSs(X:Cx)(B:Hp)(fl:List Nat)(n:Bool)(l:Nat)(st:List Stmt)(run:Rho->Option Out):Prop:=PSs X st (tS X.K B fl n l run)
noncomputable def bJ:Rho->Option Out:=fun ρ=>some (.nx ρ)
noncomputable def aN(r1 r2:Rho->Option Out):Rho->Option Out:=fun ρ=>(r1 ρ).bind fun o=>match o with | .nx ρ'=>r2 ρ' | o=>some o
noncomputable def aZ(i:Nat)(f:Rho->Option T):Rho->Option Out:=fun ρ=>(f ρ).map fun t=>.nx (ρ.set i (some t))
def okM:T->Bool
 | .lst _=>true
 | t=>im t
def kG(i:Nat)(f:Rho->Option T):Rho->Option Out:=fun ρ=>(f ρ).bind fun t=>if okM t then some (.nx (ρ.set i (some t))) else none
noncomputable def rIf(p:Rho->Option Bool)(r1 r2:Rho->Option Out):Rho->Option Out:=fun ρ=>(p ρ).bind fun b=>if b then r1 ρ else r2 ρ
noncomputable def aS(f:Rho->Option T):Rho->Option Out:=fun ρ=>(f ρ).map .rt
def DT(i:Nat)(f:Rho->Option T):Rho->Option Out:=fun ρ=>(aA i ρ).bind fun t=>(f ρ).bind fun x=>match t with | .lst ts=>if ts.length<cap then some (.nx (ρ.set i (some (.lst (ts++[x]))))) else none | _=>none
noncomputable def eU(j:Nat)(body:Rho->Option Out):List T->Rho->Option Out
 | [],ρ=>some (.nx ρ)
 | t::ts,ρ=>(body (ρ.set j (some t))).bind fun o=>match o with | .nx ρ'=>eU j body ts ρ' | .ct ρ'=>eU j body ts ρ' | .bk ρ'=>some (.nx ρ') | .rt t=>some (.rt t)
def uN(j:Nat)(fi:Rho->Option (List T))(body:Rho->Option Out):Rho->Option Out:=fun ρ=>(fi ρ).bind fun ts=>eU j body ts ρ
section
variable {K:PySem.W.Frag}{H H':Hp}{σ:St}{M:List Addr}{n:Bool}{l:Nat}{t:T}{v:V}{i:Nat}
def gJ{ρ:Rho}{i j:Nat}{t u:T}(h:(ρ.set i (some t))[j]?=some (some u)):(j=i/\u=t/\i<ρ.length)\/(j≠i/\ρ[j]?=some (some u)):=by
 by_cases hj:j=i
 ·subst hj
  left
  by_cases hl:j<ρ.length
  ·rw[aT1 hl] at h
   cases (aRv h);exact⟨rfl,rfl,hl⟩
  ·rw[List.getElem?_eq_none_iff.mpr (by rw[List.length_set];omega)] at h
   cases h
 ·right
  rw[aS5 (Ne.symm hj)] at h;exact⟨hj,h⟩
def Sl.set(S:Sl K B fl Ex σ ρ M H)(hi:i<fl.length)(h1:1<=fl.getD i 1\/im t=true)(r:Rep K H (Ad B H M (min (fl.getD i 1) 2)) t v):Sl K B fl Ex (σ.set i (some v)) (ρ.set i (some t)) M H where
 same:=S.same
 slot:=fun j u e k=>by
  rcases gJ e with ⟨rfl,rfl,_⟩ | ⟨hj,e⟩
  ·exact⟨v,by rw[aT1 (aS3 hi S.len)],r⟩
  ·obtain⟨w,e1,r1⟩:=S.slot j u e k
   exact⟨w,by rw[aS5 (Ne.symm hj)];exact e1,r1⟩
 mu:=by
  rw[36];refine⟨g,fun j u e k hm=>?_,fun j j' c d u u' us ws hne e e' k k' hm hm'=>?_⟩
  ·rcases gJ e with ⟨rfl,rfl,_⟩ | ⟨hj,e⟩
   ·rcases h1 with h1 | h1
    ·omega
    ·rw[hm] at h1;cases h1
   ·obtain⟨w,e2,e3⟩:=hg j u e k hm
    exact⟨w,by rw[aS5 (Ne.symm hj)];exact e2,e3⟩
  ·rcases gJ e with ⟨rfl,rfl,_⟩ | ⟨hj,e⟩
   ·rcases h1 with h1 | h1
    ·omega
    ·rw[tQ hm] at h1;cases h1
   ·rcases gJ e' with ⟨rfl,rfl,_⟩ | ⟨hj',e'⟩
    ·rcases h1 with h1 | h1
     ·omega
     ·rw[tQ hm'] at h1;cases h1
    ·exact ap j j' c d u u' us ws hne e e' k k' hm hm'
 ex:=S.ex
 mB:=S.mB
 len:=by rw[List.length_set];exact S.len
def Sl.setC{ga:Nat->Addr}(Ds:List Addr)(S:Sl K B fl Ex σ ρ M H)(hi:i<fl.length)(h0:fl.getD i 1=0)(s:aL H H')(hD:∀ D∈Ds,H D=none/\H' D≠none)(hm0:im t=false)(sh:gO K H' t v ga)
  (r:∀ c us,dF t c us->∃ xs,jO H' t (ga c) xs/\RepL K H' (fun b=>Ad B H M (lc fl) b/\b ∉ Ds) us xs/\ga c∈Ds) (dj:∀ c d us ws,c≠d->mT t=false->dF t c us->dF t d ws->ga c≠ga d):
  Sl K B fl Ex (σ.set i (some v)) (ρ.set i (some t)) (Ds++M) H':=by
 have lcl:=nX fl;have lcp:=tV fl;have S':=Sl.mores Ds S hD s;rw[36];have hold:∀ j c u us,ρ[j]?=some (some u)->fl.getD j 1=0->dF u c us->g j c ∉ Ds:=fun j c u us e k h z=>by
  obtain⟨_,_,_,e3⟩:=hg j u e k (tQ h);obtain⟨xs,q,_⟩:=e3 c us h;exact q.some (hD _ z).1
 have gmo:∀ j u,ρ[j]?=some (some u)->fl.getD j 1=0->im u=false->∃ v,σ[j]?=some (some v)/\HP K B (lc fl) (Ds++M) H' u v (g j):=fun j u e k hm=>by
  obtain⟨v,e1,e2,e3⟩:=hg j u e k hm;refine⟨v,e1,e2.grow s,fun c us h=>?_⟩;obtain⟨xs,q1,r,q3⟩:=e3 c us h;refine⟨xs,q1.keep (s _),RepL.keep (fun b _ e=>dP (fun o q=>s b o q) e) (fun b o _ e=>s b o e) (fun b x y=>⟨fun z w=>?_,x.2.1,fun z=>by omega⟩) us r,aTh _ q3⟩;rcases aTf.mp w with w | w
  ·exact y (hD b w).1
  ·exact x.1 z w
 refine⟨S'.same,fun j u e k=>?_,⟨fun j=>if j=i then ga else g j,fun j u e k hm=>?_,fun j j' c d u u' us ws hne e e' k k' hm hm'=>?_⟩,S'.ex,S'.mB,by rw[List.length_set];exact S.len⟩
 ·rcases gJ e with ⟨rfl,rfl,_⟩ | ⟨hj,e⟩
  ·rcases k with k | k
   ·omega
   ·rw[hm0] at k;cases k
  ·obtain⟨w,e1,r1⟩:=S'.slot j u e k
   exact⟨w,by rw[aS5 (Ne.symm hj)];exact e1,r1⟩
 ·rcases gJ e with ⟨rfl,rfl,_⟩ | ⟨hj,e⟩
  ·simp only[aUc]
   refine⟨v,by rw[aT1 (aS3 hi S.len)],sh,fun c us h=>?_⟩;obtain⟨xs,q1,q2,q3⟩:=r c us h;refine⟨xs,q1,q2.weak fun b x=>⟨fun z w=>?_,fun z=>x.1.2.1 z,fun z=>by omega⟩,aTg _ q3⟩;rcases aTf.mp w with w | w
   ·exact x.2 w
   ·exact x.1.1 z w
  ·simp only[aUd hj]
   obtain⟨v1,e2,e3⟩:=gmo j u e k hm;exact⟨v1,by rw[aS5 (Ne.symm hj)];exact e2,e3⟩
 ·rcases gJ e with ⟨z1,z2,_⟩ | ⟨hj,f⟩
  ·rcases gJ e' with ⟨z1',z2',_⟩ | ⟨hj',f'⟩
   ·have hcd:c≠d/\mT t=false:=by
     rcases hne with h | h
     ·exact absurd (z1.trans z1'.symm) h
     ·exact z2 ▸ h
    subst z2 z2';simp only[aUc z1,aUc z1'];exact dj c d us ws hcd.1 hcd.2 hm hm'
   ·simp only[aUc z1,aUd hj']
    subst z2;obtain⟨_,_,_,q3⟩:=r c us hm;exact fun z=>hold j' d u' ws f' k' hm' (by rw[<- z];exact q3)
  ·rcases gJ e' with ⟨z1',z2',_⟩ | ⟨hj',f'⟩
   ·simp only[aUc z1',aUd hj]
    subst z2';obtain⟨_,_,_,q3⟩:=r d ws hm';exact fun z=>hold j c u us f k hm (by rw[z];exact q3)
   ·simp only[aUd hj,aUd hj']
    exact ap j j' c d u u' us ws hne f f' k k' hm hm'
def Sl.setM{ts:List T}{xs:List V}{a:Addr}(S:Sl K B fl Ex σ ρ M H)(hi:i<fl.length)(h0:fl.getD i 1=0)(s:aL H H')(hn:H a=none)(ha:H' a=some (.lst xs))(r:RepL K H' (fun b=>Ad B H M (lc fl) b/\b≠a) ts xs):
  Sl K B fl Ex (σ.set i (some (.ref a))) (ρ.set i (some (.lst ts))) (a::M) H':=
 Sl.setC (ga:=fun _=>a) [a] S hi h0 s (fun D h=>by cases aTl.mp h;exact⟨hn,by rw[ha];simp⟩) rfl rfl (fun c us h=>by
  obtain⟨_,rfl⟩:=h;exact⟨xs,ha,r.weak fun b x=>⟨x.1,fun z=>x.2 (aTl.mp z)⟩,aTl.mpr rfl⟩) (fun c d us ws hne _ h h'=>by
  obtain⟨rfl,_⟩:=h;obtain⟨rfl,_⟩:=h';exact absurd rfl hne)
def Sl.writeC{t':T}{us:List T}{xs ys:List V}{a:Addr}{c:Nat}(no:mT t=false)(no':mT t'=false)(ot:∀ H a zs,jO H t a zs=(H a=some (.lst zs)))(ot':∀ H a zs,jO H t' a zs=(H a=some (.lst zs)))(S:Sl K B fl Ex σ ρ M H)(h0:fl.getD i 1=0)(e0:ρ[i]?=some (some t))(hc:dF t c us)(hm1:im t'=false)(hm:a∈M)(ha:H a=some (.lst xs))
  (sh:∀ v ga,gO K H t v ga->σ[i]?=some (some v)->ga c=a/\gO K H t' v ga) {us':List T} (h1:∀ d ws,dF t' d ws->(d=c/\ws=us')\/(d≠c/\dF t d ws)) (r:RepL K H (Ad B H M (lc fl)) us' ys):
  Sl K B fl Ex σ (ρ.set i (some t')) M (upd H a (.lst ys)):=by
 have lcl:=nX fl;have lcp:=tV fl;have kp:∀ {l:Nat} (b:Addr) (o:HO),1<=l->Ad B H M l b->H b=some o->upd H a (.lst ys) b=some o:=fun b o hl hb e=>by
  rw[aW (fun z=>hb.1 hl (by rw[z];exact hm))];exact e
 rw[36];have gi:g i c=a:=by
  obtain⟨v1,s1,q1,_⟩:=hg i t e0 h0 (tQ hc);exact (sh v1 _ q1 s1).1
 have has:∀ d ws,dF t' d ws->∃ ws',dF t d ws':=fun d ws h=>by
  rcases h1 d ws h with ⟨rfl,_⟩ | ⟨_,h⟩
  ·exact⟨us,hc⟩
  ·exact⟨ws,h⟩
 refine⟨fun b o e=>?_,fun j u e k=>?_,⟨g,fun j u e k hM=>?_,fun j j' d d' u u' ws ws' hne e e' k k' hM hM'=>?_⟩,fun p hp=>?_,fun b hb=>⟨(S.mB b hb).1,?_⟩,S.len⟩
 ·rw[aW (fun z=>by rw[z,(S.mB a hm).1] at e;cases e)]
  exact S.same b o e
 ·rcases gJ e with ⟨rfl,rfl,_⟩ | ⟨hj,e⟩
  ·rcases k with k | k
   ·omega
   ·rw[hm1] at k;cases k
  ·obtain⟨w,e1,r1⟩:=S.slot j u e k
   rcases k with k | k
   ·exact⟨w,e1,Rep.keep (fun _ _ e=>jI ha e) (fun b o x e=>kp b o (by omega) x e) (fun b x _=>x.any (by omega)) u r1⟩
   ·exact⟨w,e1,uO (fun _ _ e=>jI ha e) u k r1⟩
 ·rcases gJ e with ⟨rfl,rfl,_⟩ | ⟨hj,e⟩
  ·obtain⟨v1,s1,q1,q2⟩:=hg j t e0 h0 (tQ hc)
   refine⟨v1,s1,(sh v1 _ q1 s1).2.keep (fun _ _ e=>jI ha e) (fun z=>by rw[no'] at z;cases z),fun d ws h=>?_⟩;rcases h1 d ws h with ⟨rfl,rfl⟩ | ⟨hd,h'⟩
   ·rw[gi]
    exact⟨ys,by rw[ot' _ _ _];exact bY,RepL.keep (fun _ _ e=>jI ha e) (fun b o x e=>kp b o (by omega) x e) (fun b x _=>x.any (by omega)) _ r,hm⟩
   ·obtain⟨zs,f1,f2,f3⟩:=q2 d ws h'
    have hne:g j d≠a:=fun z=>ap j j d c t t ws us (.inr ⟨hd,no⟩) e0 e0 h0 h0 h' hc (z.trans gi.symm);exact⟨zs,by rw[ot' _ _ _,aW hne,<- ot _ _ _];exact f1,RepL.keep (fun _ _ e=>jI ha e) (fun b o x e=>kp b o (by omega) x e) (fun b x _=>x.any (by omega)) ws f2,f3⟩
  ·obtain⟨v1,e1,e2,e3⟩:=hg j u e k hM
   refine⟨v1,e1,e2.keep (fun _ _ e=>jI ha e) (fun zo d o hdo eo=>?_),fun d ws h=>?_⟩
   ·have hne:g j d≠a:=fun z=>ap j i d c u t [] us (.inl hj) e e0 k h0 hdo hc (z.trans gi.symm)
    rw[aW hne];exact eo
   obtain⟨zs,f1,f2,f3⟩:=e3 d ws h;have hne:g j d≠a:=fun z=>ap j i d c u t ws us (.inl hj) e e0 k h0 h hc (z.trans gi.symm);exact⟨zs,f1.keep (fun o eo=>by rw[aW hne];exact eo),RepL.keep (fun _ _ e=>jI ha e) (fun b o x e=>kp b o (by omega) x e) (fun b x _=>x.any (by omega)) ws f2,f3⟩
 ·have lk:∀ j u d ws,(ρ.set i (some t'))[j]?=some (some u)->dF u d ws->∃ u' ws',ρ[j]?=some (some u')/\dF u' d ws'/\mT u'=mT u:=fun j u d ws e h=>by
   rcases gJ e with ⟨z1,z2,_⟩ | ⟨_,f⟩
   ·subst z2
    obtain⟨ws',h'⟩:=has d ws h;exact⟨t,ws',by rw[z1];exact e0,h',by rw[no,no']⟩
   ·exact⟨u,ws,f,h,rfl⟩
  obtain⟨w,x,ew,hw,ow⟩:=lk j u d ws e hM;obtain⟨w',x',ew',hw',_⟩:=lk j' u' d' ws' e' hM';exact ap j j' d d' w w' x x' (by rw[ow];exact hne) ew ew' k k' hw hw'
 ·exact Rep.keep (fun _ _ e=>jI ha e) (fun b o x e=>kp b o (by omega) x e) (fun b x _=>x.any (by omega)) p.1 (S.ex p hp)
 ·by_cases hb':b=a
  ·rw[hb',bY];simp
  ·rw[aW hb'];exact (S.mB b hb).2
def Sl.write{ts us:List T}{xs ys:List V}{a:Addr}(S:Sl K B fl Ex σ ρ M H)(h0:fl.getD i 1=0)(e0:ρ[i]?=some (some (.lst ts)))(ea:σ[i]?=some (some (.ref a)))(hm:a∈M)(ha:H a=some (.lst xs))(r:RepL K H (Ad B H M (lc fl)) us ys):
  Sl K B fl Ex σ (ρ.set i (some (.lst us))) M (upd H a (.lst ys)):=
 Sl.writeC rfl rfl (fun _ _ _=>rfl) (fun _ _ _=>rfl) (c:=0) (us':=us) S h0 e0 ⟨rfl,rfl⟩ rfl hm ha (fun v ga q e=>by
  rw[ea] at e;have h1:V.ref a=v:=aRv (aRv e);have h2:v=V.ref (ga 0):=q;exact⟨(V.ref.inj (h1.trans h2)).symm,h2⟩) (fun d ws h=>.inl h) r
def Sl.fewer{ps:List (T × V)}(S:Sl K B fl (ps++Ex) σ ρ M H):Sl K B fl Ex σ ρ M H:=⟨S.same,S.slot,S.mu,fun q hq=>S.ex q (aTh _ hq),S.mB,S.len⟩
def Sl.plus{ps:List (T × V)}(S:Sl K B fl Ex σ ρ M H)(r:∀ p∈ps,Rep K H (Ad B H M 1) p.1 p.2):Sl K B fl (ps++Ex) σ ρ M H:=⟨S.same,S.slot,S.mu,fun q hq=>by
 rcases aTf.mp hq with hq | hq
 ·exact r q hq
 ·exact S.ex q hq,S.mB,S.len⟩
end
variable {pos':Pos}
section
variable {n:Bool}{l:Nat}{st:Stmt}{rest body els:List Stmt}{r r1 r2:Rho->Option Out}{e c:Expr}{f g:Rho->Option T}{p:Rho->Option Bool}{i:Nat}{x:Str}
def BP:GSs X B fl n l [] bJ:=uM xP fun D σ H ⟨Ex,ρ,M,o,S,hr,q⟩=>by
 rw[27];exact q σ M H S
def BO(h1:GS X B fl n l st r1)(h2:GSs X B fl n l rest r2):GSs X B fl n l (st::rest) (aN r1 r2):=by
 refine uM (eL h1 h2) ?_;rw[14];rw[35];refine⟨Ex,ρ,M,o1,S,h1,?_⟩;cases o1 with
 | nx ρ'=>exact fun σ' M' H' S'=>⟨Ex,ρ',M',o,S',hr,q⟩
 | rt t=>cases (aRv hr);exact q
 | bk ρ'=>cases (aRv hr);exact q
 | ct ρ'=>cases (aRv hr);exact q
def tP(h1:GS X B fl n l st r1):GSs X B fl n l [st] r1:=nF h1
theorem BN(i:Nat)(he:GE X B fl e f n' l')(hN:X.N.Nodup)(hi:X.N[i]?=some x)(hx:Loc X.env.scope x)(hfl:(decide (i<fl.length)&&decide (1<=fl.getD i 1)&&decide (fl.getD i 1<=l'))=true)
  (hs:swapsWith e (some (.Name x pos')) pos.line X.env=pure false:=by rfl) (hf:aVh X x:=by trivial):
  GS X B fl n l (.Assign [.Name x pos'] e pos) (aZ i f):=by
 refine cV (mE hN hi hx he hs hf) ?_;rw[14];simp only[aSb,aUh] at hfl;unfold aZ at hr;cases e1:f ρ with
 | none=>rw[e1] at hr;cases hr
 | some t=>
  rw[e1] at hr;rw[27];refine⟨Ex,ρ,M,t,S,e1,fun v H1 s1 rx=>q _ M H1 ((S.grow s1).set hfl.1.1 (.inl hfl.1.2) ?_)⟩;exact (rx.rep S).weak fun b x=>⟨fun z=>x.1 (by omega),fun z=>x.2.1 (by omega),fun z=>by omega⟩
theorem SG{ρ:Rho}{σ:St}{H H1:Hp}{M:List Addr}{Ex:List (T × V)}{t:T}{v:V}{o:Out}{D:Ends}(S:Sl X.K B fl Ex σ ρ M H)(hfl:i<fl.length/\fl.getD i 1=0/\lc fl<=l')
  (hr:(if okM t then some (Out.nx (ρ.set i (some t))) else none)=some o) (q:zO X.K B fl n l Ex D o) (s1:aL H H1) (rx:aO X.K B H M H1 true l' t v):D.nx (σ.set i (some v)) H1:=by
 split at hr
 rotate_left
 ·cases hr
 rename_i hok;rw[27]
 by_cases hl:∃ ts,t=.lst ts
 ·obtain⟨ts,rfl⟩:=hl
  obtain⟨a,xs,rfl,h1,h2,h3⟩:=rx;exact q _ _ H1 (S.setM hfl.1 hfl.2.1 s1 h1 h2 (h3.weak fun b x=>⟨x.1.le hfl.2.2,x.2⟩))
 ·have him:im t=true:=by
   cases t with
   | lst ts=>exact absurd ⟨ts,rfl⟩ hl
   | non=>exact hok
   | bl _=>exact hok
   | int _=>exact hok
   | str _=>exact hok
   | tup _=>exact hok
   | exc _=>exact hok
   | dct _=>exact hok
   | own _=>exact hok
   | pg _=>exact hok
  exact q _ _ H1 ((S.grow s1).set hfl.1 (.inr him) (rN t him (rx.rep S)))
def LR(i:Nat)(he:GE X B fl e f true l')(hN:X.N.Nodup)(hi:X.N[i]?=some x)(hx:Loc X.env.scope x)(hfl:(decide (i<fl.length)&&decide (fl.getD i 1=0)&&decide (lc fl<=l'))=true)
  (hs:swapsWith e (some (.Name x pos')) pos.line X.env=pure false:=by rfl) (hf:aVh X x:=by trivial):
  GS X B fl n l (.Assign [.Name x pos'] e pos) (kG i f):=by
 refine cV (mE hN hi hx he hs hf) ?_;rw[14];rw[30];obtain⟨t,e1,hr⟩:=bind_some hr;exact⟨Ex,ρ,M,t,S,e1,fun v H1 s1 rx=>SG S hfl hr q s1 rx⟩
section
variable {elt iter:Expr}{x0:Str}{p0 cpos:Pos}{ifs:List Expr}{scope:Scope}{N':List Str}{src:List (Option Nat)}{fl':List Nat}{fi:Rho->Option (List T)}{li:Nat}{sc:Bool}{spos:Pos}
theorem aBu(i:Nat)(S:BlkOk X scope N' src)(F:FlOk X N' src fl fl' li sc)(hc:X.calm=true)(hi:GI X B fl (.Name x0 p0) iter fi li sc)(hN0:N'[0]?=some x0)(hx0:rD (scope.names.lookup x0)=true)
  (hb:∀ cl C s H ex,GIf (cxB X scope N' cl C s H ex) B fl' ifs p/\GE (cxB X scope N' cl C s H ex) B fl' elt f n' l') (hN:X.N.Nodup) (hiN:X.N[i]?=some x) (hx:Loc X.env.scope x) (hfl:(decide (i<fl.length)&&decide (1<=fl.getD i 1)&&decide (fl.getD i 1<=l')&&decide (1<=l'))=true)
  (hsw:swapsWith (.ListComp elt [⟨.Name x0 p0,iter,ifs,0⟩] scope cpos) (some (.Name x pos')) spos.line X.env=pure true:=by rfl)
  (hs:aVf X iter:=by intro _;rfl) (hf:aVh X x:=by trivial):
  GS X B fl n l (.Assign [.Name x pos'] (.ListComp elt [⟨.Name x0 p0,iter,ifs,0⟩] scope cpos) spos) (aZ i (cL fi src p f)):=by
 refine cV (aBv S hc hi F.nd hN0 hx0 hb hN hiN hx hsw hs hf) ?_;rw[14];simp only[aSb,aUh] at hfl;unfold aZ at hr;cases e1:cL fi src p f ρ with
 | none=>rw[e1] at hr;cases hr
 | some t=>
  rw[e1] at hr;rw[27];refine IT F hfl.2 ⟨Ex,ρ,M,t,S,e1,fun v H1 s1 rx=>q _ M H1 ((S.grow s1).set hfl.1.1.1 (.inl hfl.1.1.2) ?_)⟩;exact (rx.rep S).weak fun b x=>⟨fun z=>x.1 (by omega),fun z=>x.2.1 (by omega),fun z=>by omega⟩
end
def BM(hc:GT X B fl c p)(ha:GSs X B fl n l body r1)(hb:GSs X B fl n l els r2):GS X B fl n l (.If c body els pos) (rIf p r1 r2):=by
 refine cV (pJ hc ha hb) ?_;rw[14];obtain⟨b,hb,hr⟩:=bind_some hr;refine⟨Ex,ρ,M,b,S,hb,fun H1 s1=>?_⟩;cases b with
 | true=>exact fQ ⟨Ex,ρ,M,o,S.grow s1,hr,q⟩
 | false=>exact eW ⟨Ex,ρ,M,o,S.grow s1,hr,q⟩
def aJo{ρ:Rho}{σ:St}{H H1:Hp}{M:List Addr}{Ex:List (T × V)}{t:T}{v:V}(S:Sl X.K B fl Ex σ ρ M H)(h:(n=true->n'=true)/\(l=0\/2<=l'))(rx:aO X.K B H M H1 n' l' t v):aO X.K B B [] H1 n l t v:=by
 have ad:∀ b,Ad B H M l' b->Ad B B [] l b:=fun b x=>⟨fun _ z=>by simp at z,fun z=>x.2.1 (by omega),fun z=>x.2.1 (by omega)⟩;cases n with
 | false=>cases t<;>exact (rx.rep S).weak ad
 | true=>
  have e:=h.1 rfl;subst e;cases t with
  | lst ts=>
   obtain⟨a,xs,e,h1,h2,h3⟩:=rx;exact⟨a,xs,e,S.same.free h1,h2,h3.weak fun b x=>⟨ad b x.1,x.2⟩⟩
  | non=>exact rx
  | bl _=>exact rx
  | int _=>exact rx
  | str _=>exact rx
  | tup _=>exact Rep.weak ad rx
  | exc _=>exact rx
  | dct _=>exact Rep.weak ad rx
  | own _=>exact Rep.weak ad rx
  | pg _=>exact Rep.weak ad rx
def aBr(i:Nat){apos p2:Pos}(he:GE X B fl e f n' l')(h1:(decide (fl.getD i 1=0)&&decide (lc fl<=l'))=true)(hN:X.N[i]?=some x:=by rfl)(hv:Vis X.env.scope x:=by trivial)
  (hd:aVi x:=by decide) (hcd:(x == ("__classdict__" : Str))=false:=by decide)
  (hbase:attributeBase (.Name x p2) "append" X.env (eval (.Name x p2) X.env)=eval (.Name x p2) X.env:=by rfl)
  (hfew:((backTo pos' (starEach [e] X.env)).all (fun x=>!x.1)&&(backToKw pos' (keywordEach [] X.env)).all (fun x=>x.1.isSome)
   && decide (([e]:List Expr).length+([]:List Keyword).length+(if ([]:List Keyword).isEmpty then 0 else 1)<30))=true:=by rfl)
  (hline:(apos.endLine == pos'.line)=true:=by rfl) (hs:aVd X e:=by rfl) (hsw:swapsWith (.Call (.Attribute (.Name x p2) "append" apos) [e] [] pos') none pos.line X.env=pure false:=by rfl):
  GS X B fl n l (.Expr (.Call (.Attribute (.Name x p2) "append" apos) [e] [] pos') pos) (DT i f):=by
 simp only[aSb,aUh] at h1;have lcl:=nX fl;have lcp:=tV fl;refine cV (DN (nC PySem.F.plainAttrs_list PySem.F.slot_list_append PySem.F.type_list_append wQ (pv (X:=X) i hN hv hd hcd) (cD he cZ hs) hbase hfew hline hs rfl) hsw) ?_;rw[14];obtain⟨t,e1,hr⟩:=bind_some hr;obtain⟨y,e2,hr⟩:=bind_some hr;cases t<;>first | (cases hr;done) | skip
 dsimp only at hr;split at hr
 ·rename_i hl
  rw[27];have e1':=mP e1;obtain⟨a,ts,xs,e3,e4,e5,e6,e7⟩:=S.muL i _ e1' h1.1;cases e3;refine⟨_,e4,.inl ⟨rfl,xs,SqL.of e5⟩,?_⟩;refine⟨Ex,ρ,M,y,S,e2,fun v H1 s1 rx=>?_⟩;refine⟨a,xs,v,rfl,rfl,s1 _ _ e5,by rw[<- e6.length];exact fI (aTr hl),?_⟩;refine q σ M _ ((S.grow s1).write h1.1 e1' e4 e7 (s1 _ _ e5) (RepL.app ((e6.grow s1).weak fun b x=>x.any (by omega)) (RepL.one ((rx.rep S).weak fun b x=>?_))));exact⟨fun z=>x.1 (by omega),fun z=>x.2.1 (by omega),fun z=>by omega⟩
 ·cases hr
theorem aBs(j:Nat){iter:Expr}{fi:Rho->Option (List T)}{li:Nat}{sc:Bool}{tpos:Pos}(hp:aVg X)(hc:X.calm=true)(hi:GI X B fl (.Name x tpos) iter fi li sc)(hN:X.N.Nodup)(hj:X.N[j]?=some x)(hx:Loc X.env.scope x)
  (hb:GSs X B fl n l body r) (hfl:(decide (j<fl.length)&&decide (fl.getD j 1=1)&&decide (1<=li))=true)
  (hs:aVf X iter:=by intro _;rfl) (hf:aVh X x:=by trivial):
  GS X B fl n l (.For (.Name x tpos) iter body [] pos) (uN j fi r):=by
 rw[30];refine cV (DP hp hc hi (rH hN hj hx hf) hb hs) ?_;rw[14];obtain⟨ts,hts,hr⟩:=bind_some hr;refine⟨Ex,ρ,M,ts,S,hts,fun J H1 ps s1 rp wk=>?_⟩;refine⟨fun i m σ1 H2=>m=ts.length-i/\i<=ts.length/\∃ ρ1 M1,Sl X.K B fl (ps++Ex) σ1 ρ1 M1 H2/\eU j r (ts.drop i) ρ1=some o,⟨ts.length,by simp,aU4 _,ρ,M,(S.grow s1).plus (fun p hp=>(rp p hp).weak fun b x=>⟨fun z=>x.1 (by omega),fun z=>by omega,fun z=>by omega⟩),hr⟩,?_⟩;rintro i m σ1 H2 ⟨rfl,hi,ρ1,M1,S1,e1⟩;have w:=wk H2 _ (fun p hp=>S1.ex p (aTg _ hp)) i
 by_cases hlt:i<ts.length
 ·have et:ts[i]?=some ts[i]:=aRx hlt
  obtain⟨go,yl⟩:=w.1 _ et;rw[aSs hlt] at e1;unfold eU at e1;obtain⟨o1,h1,e1⟩:=bind_some e1;refine .inr ⟨go,fun σ' H'=>∃ ρ1 M1,Sl X.K B fl (ps++Ex) σ' ρ1 M1 H'/\eU j r (ts.drop (i+1)) ρ1=some o,fun σ' H' ⟨ρ',M',S',e'⟩=>⟨ts.length-(i+1),by omega,rfl,hlt,ρ',M',S',e'⟩,fun y H3 hy=>?_⟩;obtain⟨s23,ry⟩:=yl y H3 hy;have ry':Rep X.K H3 (Ad B H3 M1 (min (fl.getD j 1) 2)) ts[i] y:=ry.weak fun c hc=>by
   obtain⟨_,hc⟩:=hc;rcases hc with hc | hc
   ·exact⟨fun z=>hc.1 (aTs _),fun z=>by omega,fun z=>by omega⟩
   ·exact⟨fun _ z=>(S1.mB c z).2 hc,fun z=>by omega,fun z=>by omega⟩
  refine⟨ps++Ex,_,M1,o1,(S1.grow s23).set hfl.1 (.inl (by omega)) ry',h1,?_⟩;cases o1 with
  | nx ρ'=>exact fun σ' M' H' S'=>⟨ρ',M',S',e1⟩
  | ct ρ'=>exact fun σ' M' H' S'=>⟨ρ',M',S',e1⟩
  | bk ρ'=>cases (aRv e1);exact fun σ' M' H' S'=>q σ' M' H' S'.fewer
  | rt t=>cases (aRv e1);exact q
 ·have ei:i=ts.length:=by omega
  subst ei;rw[aSt (aTs _)] at e1;cases (aRv (show some (Out.nx ρ1)=some o from e1));exact .inl ⟨w.2 (aTs _),q σ1 M1 H2 S1.fewer⟩
end
def spT(K:PySem.W.Frag)(F:List T->Option T)(n:Bool)(l:Nat):Sp:=fun vs H Q _=>
 ∃ ts t,RepL K H (fun _=>True) ts vs/\F ts=some t/\∀ v H',aL H H'->aO K H H [] H' n l t v->Q v H'
structure Cal(P:Program)(w:World)(K:PySem.W.Frag)(mg:Str->Option Value)(base:Heap)(x:Str)(k:Nat)(ps:List Str)(F:List T->Option T)(n:Bool)(l:Nat):Prop where
 ex:∃ f fd,FnOk P w K mg base CX0 k f fd ps (spT K F n l)/\mg x=some (.ref f)/\PySem.W.keepIn K (.ref f)=true/\dE K fd ps []
variable {p':Pos}{ps:List Str}
section
variable {e:Expr}{f:Rho->Option T}{n:Bool}{l k:Nat}{x:Str}{F:List T->Option T}
def aO.called{K:PySem.W.Frag}{H H1 H2:Hp}{Ex:List (T × V)}{σ:St}{ρ:Rho}{M:List Addr}{t:T}{v:V}(S:Sl K B fl Ex σ ρ M H)(s1:aL H H1)(hl:l=0\/l=3)(r:aO K H1 H1 [] H2 n l t v):aO K B H M H2 n l t v:=by
 have S1:=S.grow s1;have ad:∀ b,Ad H1 H1 [] l b->Ad B H M l b:=fun b x=>by
  rcases hl with rfl | rfl
  ·exact Ad.zero
  ·have hn:=x.2.2 (by lia)
   exact⟨fun _ z=>(S1.mB b z).2 hn,fun _=>S1.same.free hn,fun _=>s1.free hn⟩
 cases n with
 | false=>cases t<;>exact Rep.weak ad r
 | true=>
  cases t with
  | lst ts=>
   obtain⟨a,xs,e,h1,h2,h3⟩:=r;exact⟨a,xs,e,s1.free h1,h2,h3.weak fun b x=>⟨ad b x.1,x.2⟩⟩
  | non=>exact r
  | bl _=>exact r
  | int _=>exact r
  | str _=>exact r
  | tup _=>exact Rep.weak ad r
  | exc _=>exact r
  | dct _=>exact Rep.weak ad r
  | own _=>exact Rep.weak ad r
  | pg _=>exact Rep.weak ad r
def BF(C:Cal X.prog X.w X.K X.mg X.base x k ps F n l)(hr:Room k X.A)(hg:Gl X x)(ha:GA X B fl (e::es) fa l')(hl:(decide (l=0)||decide (l=3))=true:=by rfl)(hdb:aVi x:=by decide)
  (he:aVc X e es:=by rfl) (hpl:aVe X pos es:=by rfl):GE X B fl (.Call (.Name x p') (e::es) [] pos) (aG fa F) n l:=by
 obtain⟨f,fd,FO,hm,hk,hb⟩:=C.ex;refine bC (pI FO hr hg hm hk hb .nil rG ha hdb he hpl) ?_;rw[0];rw[5];simp only[Bool.or_eq_true,aUh] at hl;rw[6];show spT X.K F n l (vs++[]) H1 Q E0;rw[aSp];exact⟨ts,t,r1.weak fun _ _=>trivial,hf,fun v H2 s2 r2=>q v H2 (s1.trans s2) (r2.called S s1 hl)⟩
end
section
variable {P:Program}{w:World}{K:PySem.W.Frag}{mg:Str->Option Value}{base:Heap}
def zZ:Out->T->Prop
 | .rt t,u=>t=u
 | .nx _,u=>u=.non
 | _,_=>False
def FZ{H:Hp}{fl:List Nat}{N ps:List Str}{ts:List T}{vs:List V}(hfl:fl.length=N.length)(hp:∀ i,i<ps.length->fl.getD i 1=1)(hl:ts.length=ps.length)(r:RepL K H (fun _=>True) ts vs)(hN:ps.length<=N.length):
  Sl K H fl [] (L2.start N vs) (ts.map some++List.replicate (N.length-ps.length) none) [] H:=by
 have hlv:=r.length;have get:∀ i t,(ts.map some++List.replicate (N.length-ps.length) none)[i]?=some (some t)->ts[i]?=some t/\i<ps.length:=fun i t e=>by
  by_cases hi:i<ts.length
  ·rw[aSy (by simpa using hi),aT0] at e
   rw[aRx hi] at e ⊢;exact⟨aRv e,by lia⟩
  ·rw[List.getElem?_append_right (by simpa using hi),List.getElem?_replicate] at e
   split at e<;>cases e
 refine⟨aL.refl H,fun i t e k=>?_,⟨fun _ _=>0,fun i t e k=>?_,fun i j c d t u us ws _ e _ k=>?_⟩,fun p hp=>by simp at hp,fun a ha=>by simp at ha,?_⟩
 ·obtain⟨e1,hi⟩:=get i t e
  obtain⟨v,e2,r2⟩:=r.get e1;refine⟨v,?_,r2.weak fun b _=>?_⟩
  ·unfold L2.start
   rw[aSy (by rw[aT5];lia),aT0,e2]
   rfl
  ·rw[hp i hi]
   exact⟨fun _ z=>by simp at z,fun z=>by lia,fun z=>by lia⟩
 ·obtain⟨_,hi⟩:=get i t e
  rw[hp i hi] at k;cases k
 ·obtain⟨_,hi⟩:=get i t e
  rw[hp i hi] at k;cases k
 ·unfold L2.start
  rw[hfl,aT3,aT5,aT7];lia
theorem gfn{x qual:Str}{st:Stmt}{f:Addr}{fd:FuncData}{N ps:List Str}{k:Nat}{fl:List Nat}{n:Bool}{l:Nat}{F:List T->Option T}{run:Rho->Option Out}(Fu:Fun K x qual st f fd)(S:FnScope N ps (defScope st))
  (hfl:fl.length=N.length) (hp:∀ i,i<ps.length->fl.getD i 1=1) (hlen:∀ ts t,F ts=some t->ts.length=ps.length)
  (hb:∀ (cdv:Value) (A:Around) (outer:List Env) (s:Shared) (H:Hp) (E:XK),Room k (A.deeper (envOfC qual (defScope st) s.heap.objs.size f cdv)) ->
   GSs (cQ CX0 P w K mg base N qual (defScope st) f cdv A outer s H E).nox H fl n l (defBody st) run)
  (hrun:∀ ts t,F ts=some t->∃ o,run (ts.map some++List.replicate (N.length-ps.length) none)=some o/\zZ o t) (hl4:l≠4:=by decide):FnOk P w K mg base CX0 (k+1) f fd ps (spT K F n l):=by
 have hN:ps.length<=N.length:=by have:=congrArg List.length S.pre;rw[List.length_take] at this;lia
 refine Fu.ok S (fun vs H Q E h=>?_) (fun cdv A outer s H vs Q E hr h=>?_)
 ·obtain⟨ts,t,r,hf,_⟩:=h
  rw[<- r.length];exact hlen ts t hf
 ·obtain⟨ts,t,r,hf,q⟩:=h
  refine⟨_,hb cdv A outer s H E hr,?_⟩;obtain⟨o,ho,hi⟩:=hrun ts t hf;refine⟨[],_,[],o,FZ hfl hp (hlen ts t hf) r hN,ho,?_⟩;cases o with
  | rt u=>
   cases (show u=t from hi);exact fun v H' s' r'=>q v H' s' ((RtX.of hl4).mp r')
  | nx ρ'=>
   cases (show t=.non from hi);exact fun σ' M' H' S'=>q _ H' S'.same ((aO.scal rfl).mpr rfl)
  | bk _=>exact False.elim hi
  | ct _=>exact False.elim hi
end
noncomputable def TJ:T->String
 | .non => "NoneType"
 | .bl _ => "bool"
 | .int _ => "int"
 | .str _ => "str"
 | .lst _ => "list"
 | .tup _ => "tuple"
 | .exc _ => "NoneType"
 | .dct _ => "dict"
 | .own _ => "list"
 | .pg _ => "NoneType"
noncomputable def wJ(c:String):T->Bool
 | .non=>c == "NoneType"
 | .bl _=>c == "bool" || c == "int"
 | .int _=>c == "int"
 | .str _=>c == "str"
 | .lst _=>c == "list"
 | .tup _=>c == "tuple"
 | .exc _=>c == "NoneType"
 | .dct _=>c == "dict"
 | .own _=>c == "list"
 | .pg _=>c == "NoneType"
def qC(c:String):Prop:=(∀ (K:PySem.W.Frag) (t:T),PySem.W.kitOne K (.type (TJ t)) (.type c)=some (wJ c t))/\c∈(["int","bool","list","tuple","str"]:List String)
def aCy:qC "int" := ⟨by intro K t;cases t<;>rfl,by simp⟩
def aCx:qC "bool" := ⟨by intro K t;cases t<;>rfl,by simp⟩
def aCz:qC "list" := ⟨by intro K t;cases t<;>rfl,by simp⟩
def aD1:qC "tuple" := ⟨by intro K t;cases t<;>rfl,by simp⟩
def aD0:qC "str" := ⟨by intro K t;cases t<;>rfl,by simp⟩
variable {p2:Pos}
section
variable {e:Expr}{f:Rho->Option T}{n:Bool}{l k:Nat}{x:Str}{F:List T->Option T}
def aCt{P:Program}{w:World}{H:Hp}{h:Heap}{a C dx:Addr}{fs:List (Str × V)}(x:cO P w H h a (.ins C dx fs)):∃ od,PySem.W.InstAt h a (PySem.W.instObj C dx) C (some od):=by
 obtain⟨d,z,ne,ob,mA,n,r,q⟩:=x;obtain⟨od,J,_⟩:=ObjM.look ⟨ob,n,ne⟩;exact⟨od,J⟩
theorem aCw{pins:List (Addr × Obj)}{σ:St}{H:Hp}{s:Shared}{A:Around}{E:Value->Shared->Prop}{Q:Value->Shared->Prop}{c:Value}{b:Bool}{Ad:Addr->Prop}{t:T}{v:V}{u:Value}(I:Inv X pins σ H s)(r:Rep X.K H Ad t v)(rx:bB v u)
  (e:PySem.W.kitOne X.K (.type (TJ t)) c=some b) (hx:∀ nm C,t=.exc nm->jN X.K nm C->PySem.W.kitOne X.K (.ref C) c=some b) (hy:∀ ts C,t=.pg ts->PgK X.K C->PySem.W.kitOne X.K (.ref C) c=some b) (h:∀ tk,Q (.bool b) { s with toks:=tk }):wpAny (model X.prog X.w) A (call (.builtin "isinstance") [u,c]) Q E s:=by
 cases t with
 | non=>cases (show _=_ from r);cases rx;exact aU6 PySem.W.kitx_none I.kIn True.intro e (fun z=>nomatch z) h
 | bl y=>cases (show _=_ from r);cases rx;exact aU6 PySem.W.kitx_bool I.kIn True.intro e (fun z=>nomatch z) h
 | int y=>cases (show _=_ from r);obtain⟨k,rfl⟩:=rx;exact aU6 PySem.W.kitx_int I.kIn True.intro e (fun z=>nomatch z) h
 | str y=>cases (show _=_ from r);obtain⟨k,rfl⟩:=rx;exact aU6 PySem.W.kitx_str I.kIn True.intro e (fun z=>nomatch z) h
 | lst ts=>
  obtain⟨a,xs,rfl,h1,h2⟩:=r.sqL;cases rx;obtain⟨its,_,⟨o,m,h3,h4,_,_⟩,_⟩:=I.list h1;exact aU6 PySem.W.kitx_list I.kIn ⟨o,h3,h4⟩ e (fun z=>nomatch z) h
 | own ts=>
  obtain⟨a,xs,rfl,_,h1,h2⟩:=r;cases rx;obtain⟨its,_,⟨o,m,h3,h4,_,_⟩,_⟩:=I.list (SqL.of h1);exact aU6 PySem.W.kitx_list I.kIn ⟨o,h3,h4⟩ e (fun z=>nomatch z) h
 | tup ts=>
  obtain⟨a,xs,rfl,h1,h2⟩:=r.sqT;cases rx;obtain⟨its,_,⟨o,h3,h4,_⟩,_⟩:=I.tuple h1;exact aU6 PySem.W.kitx_tuple I.kIn ⟨o,h3,h4⟩ e (fun z=>nomatch z) h
 | exc nm=>
  obtain⟨a,C,rfl,k,h1⟩:=r;cases rx;have ho:∃ oe,s.heap.get? a=some oe/\oe.cls=.ref C:=by
   rcases h1 with h1 | ⟨o,h1⟩
   ·obtain⟨⟨oe,vs,g1,g2,_⟩,_⟩:=I.hok a _ h1
    exact⟨oe,g1,g2⟩
   ·obtain⟨_,⟨oe,vs,g1,g2,_⟩,_⟩:=I.hok a _ h1
    exact⟨oe,g1,g2⟩
  exact aU6 (k.2.1 a) I.kIn ho (hx nm C rfl k) (fun z=>nomatch z) h
 | pg ts=>
  obtain⟨p,C,dx,n,t,a,rfl,k,h1,_⟩:=r;cases rx;obtain⟨od,J⟩:=aCt (h1.ok I.hok);exact aU6 (PySem.W.kitx_own (k.cl.get _) k.cl.hd k.ca k.cg k.ct k.cm) I.kIn J (hy ts C rfl k) (fun z=>nomatch z) h
 | dct ks=>
  obtain⟨a,rfl,_,h1⟩:=r;cases rx;obtain⟨_,_,vs,_,ob,_,_,g1,g2,_⟩:=YH I.hok h1;exact aU6 PySem.W.kitx_dict I.kIn ⟨ob,g1,g2.1⟩ e (fun z=>nomatch z) h
def cH(c:String):T->Option T:=fun t=>some (.bl (wJ c t))
def tL{x y:Str}{c:String}(hx:x = "isinstance")(hc:qC c)(hg:Gl X x)(hm:X.mg x=none)(hg':Gl X y)(hm':X.mg y=none)(hv:bootBuiltins y=some (.type c))(he:GE X B fl e f n l)
  (hn:y ≠ "__name__" := by decide) (hd:(y == ("__debug__" : Str))=false:=by decide)
  (h1:starEach [e,.Name y p2] X.env=(false,eval e X.env)::starEach [.Name y p2] X.env:=by rfl) (h2:starEach [.Name y p2] X.env=[(false,eval (.Name y p2) X.env)]:=by rfl) (hpl:(backTo pos (starEach [.Name y p2] X.env)).any (·.1)=false:=by rfl):
  GE X B fl (.Call (.Name x p') [e,.Name y p2] [] pos) (f1 f (cH c)) true 3:=by
 subst hx;have cr:eF X (.builtin "isinstance") (fun xs H Q=>∃ v t A,xs=[v,.ty c]/\Rep X.K H A t v/\Q (.bl (wJ c t)) H):=by
  rw[16];obtain⟨v,t,A,rfl,rt,q⟩:=h;obtain⟨u,w',rfl,r1,r2⟩:=TN r;cases r2;exact aCw I rt r1 (hc.1 X.K t) (fun nm C e k=>by
   subst e;have:=k.2.2 c hc.2;rw[this];have hc2:=hc.2;simp only[aS7,aTn,aUp] at hc2;rcases hc2 with rfl | rfl | rfl | rfl | rfl<;>rfl) (fun ts C e k=>by
   subst e;have:=k.kc c hc.2;rw[this];have hc2:=hc.2;simp only[aS7,aTn,aUp] at hc2;rcases hc2 with rfl | rfl | rfl | rfl | rfl<;>rfl) fun tk=>⟨.bl _,H,I.tok tk,rfl,q⟩
 refine bC (nE cr hg hm PyProof.Rows.boot_isinstance (cD he (cD (OL (v:=.ty c) hg' hm' hv rfl hn hd) cZ h2) h1) (by decide) (by decide) h1 hpl) ?_;rw[0];rw[18];rw[4];exact⟨Ex,ρ,M,u,S,hu,fun v H1 s1 r1=>⟨v,u,_,rfl,r1.rep S,q _ H1 s1 ((aO.scal rfl).mpr rfl)⟩⟩
noncomputable def CQ:T->Option T
 | .int i=>some (.int (Builtin.Int.intBits i:Nat))
 | _=>none
def aEc:MtR X "int.bit_length" (fun x xs H Q=>∃ i,x=.int i/\xs=[]/\Q (.int ((Builtin.Int.intBits i:Nat):Int)) H):=by
 intro pins s σ H x xs v us Q I rx rs h;obtain⟨i,rfl,rfl,q⟩:=h;rw[17];cases rs;exact call_int_bit_length ⟨.int _,H,I.tok _,⟨_,rfl⟩,q⟩
def aAa{apos:Pos}(he:GE X B fl e f n l)(hbase:attributeBase e "bit_length" X.env (eval e X.env)=eval e X.env:=by rfl)(hline:(apos.endLine == pos.line)=true:=by rfl):
  GE X B fl (.Call (.Attribute e "bit_length" apos) [] [] pos) (f1 f CQ) true 3:=by
 refine bC (OM PySem.F.plainAttrs_int slot_int_bit_length type_int_bit_length aEc he hbase hline) ?_;rw[0];rw[18];have hi:∃ i,u=.int i:=by cases u<;>first | (cases hf;done) | exact⟨_,rfl⟩
 obtain⟨i,rfl⟩:=hi;rw[4];refine⟨Ex,ρ,M,_,S,hu,fun v H1 s1 r1=>?_⟩;cases (show v=V.int i from (aO.scal rfl).mp r1);exact⟨rfl,i,rfl,rfl,q _ H1 s1 ((aO.scal rfl).mpr rfl)⟩
def aGt:OpR X (binaryOp .FloorDiv) (rI (fun _ j=>0<j/\j<2^200) fun i j=>.int (i / j)):=opI fun i j _ _ _ _ _ hc q=>by
 refine floordiv_int (by omega) ?_ (.inl (PyProof.noPylong_of_log2 ?_))
 ·rw[Int.fdiv_eq_ediv_of_nonneg _ (by omega)]
  exact q
 ·have:j.natAbs.log2<200:=(Nat.log2_lt (by omega)).mpr (by omega)
  omega
end
section
variable {a b:Expr}{f g:Rho->Option T}{n:Bool}{l:Nat}
def aAe(ha:GE X B fl a f n l)(hb:GE X B fl b g n' l'):GE X B fl (.BinOp a .FloorDiv b pos) (f2 f g bV) true 3:=gH aGt (pO (fun _ _ k=>by simpa using k) (fun _ _=>rfl) fun _ _=>rfl) ha hb
end
noncomputable def CA:Option NameKind->Bool
 | some .local=>true
 | _=>false
noncomputable def MR:Option NameKind->Bool
 | some .cell=>true
 | some .free=>true
 | _=>false
def IP(env:Env)(N N':List Str)(src:List (Option Nat))(scope:Scope):Bool:=
 (match scope.kind with | .function=>true | _=>false) &&
 scope.names.all (fun y=>match y.2 with | .cell=>qR (scope.names.lookup y.1) | _=>true) &&
 scope.names.all (fun y=>match y.2 with | .local=>CA (scope.names.lookup y.1) | _=>true) &&
 scope.names.all (fun y=>match y.2 with | .free=>MR (env.kindOf y.1) | _=>true) &&
 (src.length == N'.length) &&
 (List.range src.length).all (fun j=>match src[j]? with | some (some i)=>(match N'[j]?,N[i]? with | some a,some b=>a == b && !CA (scope.names.lookup a) && !qR (scope.names.lookup a) | _,_=>false) | _=>true)
def AL{X:Cx}{scope:Scope}{N':List Str}{src:List (Option Nat)}(h:IP X.env X.N N' src scope=true):BlkOk X scope N' src:=by
 unfold IP at h;simp only[aSb] at h;obtain⟨⟨⟨⟨⟨h1,h2⟩,h3⟩,h4⟩,h5⟩,h6⟩:=h;refine⟨?_,fun y hy e=>?_,fun y hy e=>?_,fun y hy e=>?_,fun j i e=>?_,eq_of_beq h5⟩
 ·cases q:scope.kind<;>rw[q] at h1<;>first | rfl | cases h1
 ·have:=aS1.mp h2 y hy
  rw[e] at this;exact MS this
 ·have:=aS1.mp h3 y hy
  rw[e] at this;have this:CA (scope.names.lookup y.1)=true:=this;cases q:scope.names.lookup y.1 with
  | none=>rw[q] at this;cases this
  | some k=>rw[q] at this;cases k<;>first | rfl | cases this
 ·have:=aS1.mp h4 y hy
  rw[e] at this;have this:MR (X.env.kindOf y.1)=true:=this;cases q:X.env.kindOf y.1 with
  | none=>rw[q] at this;cases this
  | some k=>rw[q] at this;cases k<;>first | exact .inl rfl | exact .inr rfl | cases this
 ·have hj:j<src.length:=(aS0.mp e).1
  have:=aS1.mp h6 j (aS2.mpr hj);rw[e] at this;dsimp only at this;cases q:N'[j]? with
  | none=>rw[q] at this;cases this
  | some a=>
   cases q2:X.N[i]? with
   | none=>rw[q,q2] at this;cases this
   | some b=>
    rw[q,q2] at this;simp only[aSb] at this;have e1:=eq_of_beq this.1.1;subst e1;refine⟨a,rfl,rfl,fun z=>?_,fun z=>?_⟩
    ·have t2:=this.1.2
     rw[z] at t2;cases t2
    ·have t2:=this.2
     rw[z] at t2;cases t2
noncomputable def wR:List Str->Bool
 | []=>true
 | x::r=>!(r.any (· == x))&&wR r
theorem NM:∀ {l:List Str},wR l=true->l.Nodup
 | [],_=>List.nodup_nil
 | x::r,h=>by
  unfold wR at h;simp only[aSb] at h;refine List.nodup_cons.mpr ⟨fun hx=>?_,NM h.2⟩;have h1:=h.1;rw[Bool.not_eq_true',List.any_eq_false] at h1;exact h1 x hx (aUf x)
def IQ(N N':List Str)(src:List (Option Nat))(fl fl':List Nat)(li:Nat)(sc:Bool):Bool:=
 wR N'&&(match src with | none::_=>true | _=>false)&&decide (1<=fl'.getD 0 1)&&(sc||decide (fl'.getD 0 1<=li))&&(fl'.length == src.length)&&(src.length == N'.length) &&
 (List.range src.length).all (fun j=>match src[j]? with | some (some i)=>(match N'[j]?,N[i]? with | some a,some b=>a == b | _,_=>false)&&(fl'.getD j 1 == fl.getD i 1) | _=>true)&&(decide (lc fl'<=lc fl) || !fl'.contains 0)
def aDt{fl fl':List Nat}(h:(decide (lc fl'<=lc fl) || !fl'.contains 0)=true):lc fl'<=lc fl\/∀ j,fl'.getD j 1≠0:=by
 rcases Bool.or_eq_true_iff.mp h with h | h
 ·exact .inl (aUe h)
 ·refine .inr fun j z=>?_
  rw[aRw] at z;cases q:fl'[j]? with
  | none=>rw[q] at z;cases z
  | some m=>
   rw[q] at z;have z:m=0:=z;have:fl'.contains 0=true:=List.contains_iff_mem.mpr (List.mem_of_getElem? (z ▸ q));rw[this] at h;cases h
def JX{X:Cx}{N':List Str}{src:List (Option Nat)}{fl fl':List Nat}{li:Nat}{sc:Bool}(h:IQ X.N N' src fl fl' li sc=true):FlOk X N' src fl fl' li sc:=by
 unfold IQ at h;have h8:=aDt (aSc.mp h).2;simp only[aSb,aUh] at h;obtain⟨⟨⟨⟨⟨⟨⟨h1,h2⟩,h3⟩,h4⟩,h5⟩,h6⟩,h7⟩,_⟩:=h;have key:∀ j i,src[j]?=some (some i)->(∃ a,N'[j]?=some a/\X.N[i]?=some a)/\fl'.getD j 1=fl.getD i 1:=fun j i e=>by
  have hj:j<src.length:=(aS0.mp e).1;have:=aS1.mp h7 j (aS2.mpr hj);rw[e] at this;dsimp only at this;simp only[aSb] at this;refine⟨?_,eq_of_beq this.2⟩;have t1:=this.1;cases q:N'[j]? with
  | none=>rw[q] at t1;cases t1
  | some a=>
   cases q2:X.N[i]? with
   | none=>rw[q,q2] at t1;cases t1
   | some b=>
    rw[q,q2] at t1;exact⟨a,rfl,by rw[eq_of_beq t1]⟩
 refine⟨NM h1,?_,fun j i e=>(key j i e).2,h3,fun z=>by simpa [z] using h4,fun j i e=>?_,eq_of_beq h5,h8⟩
 ·cases src with
  | nil=>cases h2
  | cons o r=>cases o<;>first | rfl | cases h2
 ·obtain⟨⟨a,e1,e2⟩,_⟩:=key j i e
  refine⟨e1.trans e2.symm,?_⟩;exact (aS0.mp e1).1
theorem aDr{l:PySem.W.OpenLaw}{q:Program}{loose:List Str}{XP:(Str->Option Value)->Heap->Prop}{YP:World->Heap->Prop}{d:DefRec}{K:Params->PySem.W.Frag}{k:Nat}{F0:List T->Option T}{n:Bool}{lv:Nat}(hr:Room k callerA)(hn:l.most=some 63)(hdf:d.params.defaults=[])
  (hY:∀ (w:World) (h:Heap),YP w h->(K w.params).In h)
  (F:∀ (w:World) (mg:Str->Option Value) (fa:Addr) (h:Heap),(K w.params).In h->h.Ns mainGlobals mg->mg d.name=some (.ref fa) ->
   ∃ fd:FuncData,(∀ (s:Shared) (u:Value),BindsTo s fd ⟨[u],[]⟩ [("script",u)])/\∀ base:Heap,(K w.params).In base->base.Ns mainGlobals mg->FnOk l.prog w (K w.params) mg base CX0 k fa fd ["script"] (spT (K w.params) F0 n lv))
  (ht:∀ ns:List Int,ns.length<=63->F0 [.lst (ns.map T.int)]=some (.bl true)):
  PySem.W.WalkO q loose XP YP l.row.toRowW d [] (fun f vs=>PySem.call f vs):=by
 refine L2.walk_of (n:=63) (k:=k) (x := "script") (CX:=fun _=>CX0) (sp:=fun w=>spT (K w.params) F0 n lv) hn (by decide) hdf hr hY F (fun w H a ns hl _ hS=>?_) fun _ _ _ _ _ z=>z;have ri:∀ ns:List Int,RepL (K w.params) H (fun _=>True) (ns.map T.int) (ns.map V.int):=fun ns=>by
  induction ns with
  | nil=>exact rfl
  | cons a r ih=>exact⟨_,_,rfl,rfl,ih⟩
 refine⟨[.lst (ns.map T.int)],.bl true,⟨.ref a,[],rfl,⟨a,ns.map V.int,rfl,?_,ri ns⟩,rfl⟩,ht ns hl,fun v H' _ r=>(aO.scal rfl).mp r⟩;rcases hS with hS | hS
 ·exact .inl ⟨trivial,hS⟩
 ·exact .inr hS
@[simp] theorem jn{α:Type}(x:Option α):(some x).join=x:=by cases x<;>rfl
@[simp] theorem aE(i:Nat)(ρ:Rho):aA i ρ=(ρ[i]?).join:=id rfl
@[simp] theorem aM(t:T)(ρ:Rho):fC t ρ=some t:=id rfl
@[simp] theorem aX(f:Rho->Option T)(F:T->Option T)(ρ:Rho):f1 f F ρ=(f ρ).bind F:=id rfl
@[simp] theorem aJ(f g:Rho->Option T)(F:T->T->Option T)(ρ:Rho):f2 f g F ρ=(f ρ).bind fun x=>(g ρ).bind fun y=>F x y:=id rfl
@[simp] theorem aH(ρ:Rho):aD ρ=some []:=id rfl
@[simp] theorem aK(f:Rho->Option T)(g:Rho->Option (List T))(ρ:Rho):aB f g ρ=(f ρ).bind fun x=>(g ρ).bind fun y=>some (x::y):=id rfl
@[simp] theorem aY(fa:Rho->Option (List T))(F:List T->Option T)(ρ:Rho):aG fa F ρ=(fa ρ).bind F:=id rfl
@[simp] theorem aU(f:Rho->Option T)(ρ:Rho):fB f ρ=(f ρ).bind isB:=id rfl
@[simp] theorem eI(f:Rho->Option T)(ρ:Rho):fT f ρ=(f ρ).bind vE:=id rfl
@[simp] theorem JP(f:Rho->Option T)(ρ:Rho):fL f ρ=(f ρ).bind isL:=id rfl
@[simp] theorem mM(f:Rho->Option T)(ρ:Rho):fFL f ρ=(f ρ).bind mR:=id rfl
@[simp] theorem kD(p:Rho->Option Bool)(ρ:Rho):fD p ρ=(p ρ).map (!·):=id rfl
@[simp] theorem OJ(p q:Rho->Option Bool)(ρ:Rho):rE p q ρ=(p ρ).bind fun b=>if b then q ρ else some false:=id rfl
@[simp] theorem jG(p q:Rho->Option Bool)(ρ:Rho):pOr p q ρ=(p ρ).bind fun b=>if b then some true else q ρ:=id rfl
@[simp] theorem aNs(ρ:Rho):bI ρ=some true:=id rfl
@[simp] theorem TM(f:Rho->Option T)(ρ:Rho):sE f ρ=((f ρ).bind isB).map fun b=>.bl (!b):=id rfl
@[simp] theorem vF(f g:Rho->Option T)(ρ:Rho):hJ f g ρ=((f ρ).bind isB).bind fun b=>if b then g ρ else some (.bl false):=id rfl
@[simp] theorem qM(p:Rho->Option Bool)(f g:Rho->Option T)(ρ:Rho):fIf p f g ρ=(p ρ).bind fun b=>if b then f ρ else g ρ:=id rfl
@[simp] theorem cR(fa:Rho->Option (List T))(ρ:Rho):bZ fa ρ=(fa ρ).bind fun ts=>if ts.length<=cap then some (.lst ts) else none:=id rfl
@[simp] theorem eS(fa:Rho->Option (List T))(ρ:Rho):dB fa ρ=(fa ρ).bind fun ts=>if ts.length<=cap then some (.tup ts) else none:=id rfl
@[simp] theorem nO(fa:Rho->Option (List T))(o:List T->Option (List T))(ρ:Rho):gS fa o ρ=(fa ρ).bind o:=id rfl
@[simp] theorem eH(fi:Rho->Option (List T))(src:List (Option Nat))(p:Rho->Option Bool)(f:Rho->Option T)(ρ:Rho):cL fi src p f ρ =
 (fi ρ).bind fun ts=>(bS p f (bX src ρ) ts).bind fun us=>if us.length<=cap then some (.lst us) else none:=id rfl
@[simp] theorem CZ(ρ:Rho):qZ ρ=some none:=id rfl
@[simp] theorem DB(f:Rho->Option T)(ρ:Rho):rA f ρ=((f ρ).bind isI).map some:=id rfl
@[simp] theorem YT(f:Rho->Option T)(lo hi st:Rho->Option (Option Int))(ρ:Rho):AX f lo hi st ρ=(f ρ).bind fun x=>(lo ρ).bind fun a=>(hi ρ).bind fun b=>(st ρ).bind fun c=>
 match x with
 | .lst ts=>if c=some 0 then none else some (.lst (eO ts a b c))
 | _=>none:=id rfl
@[simp] theorem cC(ρ:Rho):bJ ρ=some (.nx ρ):=id rfl
@[simp] theorem aT(r1 r2:Rho->Option Out)(ρ:Rho):aN r1 r2 ρ=(r1 ρ).bind fun o=>match o with | .nx ρ'=>r2 ρ' | o=>some o:=id rfl
@[simp] theorem bN(i:Nat)(f:Rho->Option T)(ρ:Rho):aZ i f ρ=(f ρ).map fun t=>.nx (ρ.set i (some t)):=id rfl
@[simp] theorem rK(i:Nat)(f:Rho->Option T)(ρ:Rho):kG i f ρ=(f ρ).bind fun t=>if okM t then some (.nx (ρ.set i (some t))) else none:=id rfl
@[simp] theorem mD(ts:List T):okM (.lst ts)=true:=rfl
@[simp] theorem aNl:okM .non=true:=rfl
@[simp] theorem bG(p:Rho->Option Bool)(r1 r2:Rho->Option Out)(ρ:Rho):rIf p r1 r2 ρ=(p ρ).bind fun b=>if b then r1 ρ else r2 ρ:=id rfl
@[simp] theorem bD(f:Rho->Option T)(ρ:Rho):aS f ρ=(f ρ).map .rt:=id rfl
@[simp] theorem aIy(i:Nat)(f:Rho->Option T)(ρ:Rho):DT i f ρ=(aA i ρ).bind fun t=>(f ρ).bind fun x=>match t with | .lst ts=>if ts.length<cap then some (.nx (ρ.set i (some (.lst (ts++[x]))))) else none | _=>none:=id rfl
@[simp] theorem PR(j:Nat)(fi:Rho->Option (List T))(body:Rho->Option Out)(ρ:Rho):uN j fi body ρ=(fi ρ).bind fun ts=>eU j body ts ρ:=id rfl
@[simp] theorem wU(C:Int->Int->Bool)(h:Int->Int->T)(i j:Int):oI C h (.int i) (.int j)=if C i j then some (h i j) else none:=id rfl
@[simp] theorem jY(i j:Int):bU (.int i) (.int j)=some (.int (i+j)):=id rfl
@[simp] theorem aFe(i j:Int):kA (.int i) (.int j)=some (.int (i-j)):=id rfl
def NT{i j:Int}(h:kU i j=true):bM (.int i) (.int j)=some (.int (i*j)):=by simp[bM,h]
def jD{i j:Int}(h:0<j)(h2:j<2^200):bV (.int i) (.int j)=some (.int (i / j)):=by simp only[bV,wU];rw[aUc (by simp[h];exact h2)]
def eB{i j:Int}(h:0<j):bE (.int i) (.int j)=some (.int (i%j)):=by simp[bE,h]
def aFa{i j:Int}(h:0<=j)(h2:j<=1000000)(h3:i.natAbs<2^64):nB (.int i) (.int j)=some (.int (i*2^j.toNat)):=by simp only[nB,wU];rw[aUc (by simp[h,h2];exact h3)]
@[simp] theorem aN8(i j:Int):wT (.int i) (.int j)=some (.int (Builtin.bitAnd i j)):=id rfl
@[simp] theorem aF8(i j:Int):oOr (.int i) (.int j)=some (.int (Builtin.bitOr i j)):=id rfl
@[simp] theorem aNk(i j:Int):aFg (.int i) (.int j)=some (.int (Builtin.bitXor i j)):=id rfl
@[simp] theorem CV(i j:Int):oLt (.int i) (.int j)=some (.bl (decide (i<j))):=id rfl
@[simp] theorem aF7(i j:Int):oLe (.int i) (.int j)=some (.bl (decide (i<=j))):=id rfl
@[simp] theorem mY(i j:Int):oGt (.int i) (.int j)=some (.bl (decide (j<i))):=id rfl
@[simp] theorem aF4(i j:Int):oGe (.int i) (.int j)=some (.bl (decide (j<=i))):=id rfl
@[simp] theorem aR(b:Bool):isB (.bl b)=some b:=id rfl
@[simp] theorem eC(b:Bool):vE (.bl b)=some b:=id rfl
@[simp] theorem aNx(i:Int):vE (.int i)=some (i != 0):=id rfl
@[simp] theorem aN5(ts:List T):isL (.lst ts)=some ts:=id rfl
@[simp] theorem BZ(i:Int):isI (.int i)=some i:=id rfl
@[simp] theorem dX(i:Int):aP (.int i)=some (.int i):=id rfl
@[simp] theorem nQ(i:Bool):aP (.bl i)=some (.bl i):=id rfl
@[simp] theorem eZ(ts:List T):cN [.lst ts]=some (.int ts.length):=id rfl
@[simp] theorem aNg(ts:List T):NS [.lst ts]=some (.lst ts):=id rfl
@[simp] theorem dN(ts:List T)(i:Int):oIx (.lst ts) (.int i)=atI ts i:=id rfl
@[simp] theorem aNb(c:String)(t:T):cH c t=some (.bl (wJ c t)):=id rfl
@[simp] theorem aNa(i:Int):CQ (.int i)=some (.int (Builtin.Int.intBits i:Nat)):=id rfl
def pA{xs ys:List T}(h:xs.length+ys.length<=cap):dC (.lst xs) (.lst ys)=some (.lst (xs++ys)):=by simp[dC,h]
noncomputable def tI(ns:List Int):List T:=ns.map T.int
@[simp] theorem zG(ns:List Int):(tI ns).length=ns.length:=by simp[tI]
@[simp] theorem aNw:tI []=[]:=rfl
@[simp] theorem aL8(n:Int)(ns:List Int):tI (n::ns)=.int n::tI ns:=rfl
theorem JZ:∀ ns:List Int,bK (tI ns)=true
 | []=>rfl
 | n::ns=>by simp[bK,tI,im]
theorem IV:∀ ns:List Int,depL (tI ns)=0
 | []=>rfl
 | n::ns=>by
  have:=IV ns;show max (dep (.int n)) (depL (tI ns))=0;rw[this];rfl
def YF(ns:List Int):dep (.lst (tI ns))=1:=by simp[dep,IV]
theorem JJ:∀ ns ms:List Int,eqL (tI ns) (tI ms)=decide (ns=ms)
 | [],[]=>by simp[eqL]
 | [],m::ms=>by simp[eqL]
 | n::ns,[]=>by simp[eqL]
 | n::ns,m::ms=>by
  have ih:=JJ ns ms;simp only[aL8,eqL,ih,eqT]
  by_cases h:n=m<;>by_cases h':ns=ms<;>simp[h,h']
def YQ(ns ms:List Int):eqT (.lst (tI ns)) (.lst (tI ms))=decide (ns=ms):=by rw[eqT,JJ]
def NV(ns ms:List Int):oNe (.lst (tI ns)) (.lst (tI ms))=some (.bl (!decide (ns=ms))):=by simp[oNe,YF,YQ]
@[simp] theorem NR(i j:Int):oEq (.int i) (.int j)=some (.bl (i == j)):=rfl
@[simp] theorem CY(i j:Int):oNe (.int i) (.int j)=some (.bl (!(i == j))):=rfl
def BY(ns:List Int):mR (.lst (tI ns))=some (tI ns):=by simp[mR,JZ]
def WD{α β:Type}(f:α->β)(xs:List α)(i:Int):atI (xs.map f) i=(atI xs i).map f:=by
 unfold atI;rw[aT5];cases ixN xs.length i with
 | none=>rfl
 | some j=>simp
def WG(ns:List Int)(i:Int):atI (tI ns) i=(atI ns i).map T.int:=WD _ _ _
def WF{α:Type}{xs:List α}{i:Nat}(h:i<xs.length):atI xs (i:Int)=some xs[i]:=cM (aRx h)
def WE{α:Type}{xs:List α}{i:Int}(h0:0<=i)(h:i<xs.length):atI xs i=some (xs[i.toNat]'(by lia)):=by
 have e:((i.toNat:Nat):Int)=i:=by lia
 have:=WF (xs:=xs) (i:=i.toNat) (by lia);rw[e] at this;exact this
theorem IR{p:Rho->Option Bool}{f:Rho->Option T}{ρ:Rho}(c:T->Bool)(h:T->T):∀ ts:List T,(∀ t∈ts,p (ρ.set 0 (some t))=some (c t))->(∀ t∈ts,c t=true->f (ρ.set 0 (some t))=some (h t))->bS p f ρ ts=some ((ts.filter c).map h)
 | [],_,_=>rfl
 | t::ts,h1,h2=>by
  have ih:=IR (p:=p) (f:=f) (ρ:=ρ) c h ts (fun u hu=>h1 u (aRy _ hu)) (fun u hu=>h2 u (aRy _ hu));unfold bS;rw[h1 t aRz];cases hc:c t with
  | true=>
   have:=h2 t aRz hc;simp[this,ih,hc]
  | false=>simp[ih,hc]
def IS{f:Rho->Option T}{ρ:Rho}(h:T->T)(ts:List T)(h2:∀ t∈ts,f (ρ.set 0 (some t))=some (h t)):bS bI f ρ ts=some (ts.map h):=by
 rw[IR (fun _=>true) h ts (fun _ _=>rfl) (fun t ht _=>h2 t ht)]
 congr 2
 exact List.filter_eq_self.mpr fun _ _=>rfl
def tD{f:Rho->Option T}{ρ:Rho}{lo:Int}{n:Nat}(h:Nat->T)(h2:∀ i,i<n->f (ρ.set 0 (some (.int (lo+i))))=some (h i)):bS bI f ρ (rangeT lo n)=some ((List.range n).map h):=by
 have key:∀ is:List Nat,(∀ i∈is,i<n)->bS bI f ρ (is.map fun (i:Nat)=>T.int (lo+(i:Int)))=some (is.map h):=by
  intro is
  induction is with
  | nil=>intro _;rfl
  | cons i r ih=>
   intro hi;have e:=h2 i (hi i aRz);have ih':=ih fun j hj=>hi j (aRy _ hj);rw[aTc];unfold bS;simp[e,ih']
 exact key (List.range n) fun i hi=>aS2.mp hi
def uF(n:Nat)(h:n<2^62):fS [.int (n:Int)]=some (rangeT 0 n):=by
 unfold fS;dsimp only;rw[aUc (by lia)];simp
mutual
noncomputable def cB:T->T->Bool
 | .non,.non=>true
 | .bl a,.bl b=>a == b
 | .int a,.int b=>a == b
 | .str a,.str b=>decide (a=b)
 | .lst xs,.lst ys=>sameL xs ys
 | .tup xs,.tup ys=>sameL xs ys
 | .exc a,.exc b=>decide (a=b)
 | .dct a,.dct b=>decide (a=b)
 | _,_=>false
noncomputable def sameL:List T->List T->Bool
 | [],[]=>true
 | x::xs,y::ys=>cB x y&&sameL xs ys
 | _,_=>false
end
mutual
theorem QZ:∀ (t u:T),cB t u=true->t=u
 | .non,u,h=>by cases u<;>simp[cB] at h ⊢
 | .bl a,u,h=>by cases u<;>simp[cB] at h ⊢;exact h
 | .int a,u,h=>by cases u<;>simp[cB] at h ⊢;exact h
 | .str a,u,h=>by cases u<;>simp[cB] at h ⊢;exact h
 | .exc a,u,h=>by cases u<;>simp[cB] at h ⊢;exact h
 | .dct a,u,h=>by cases u<;>simp[cB] at h ⊢;exact h
 | .own a,u,h=>by cases u<;>simp[cB] at h
 | .pg _,u,h=>by cases u<;>simp[cB] at h
 | .lst xs,.lst ys,h=>by rw[cB] at h;rw[sameL_eq xs ys h]
 | .tup xs,.tup ys,h=>by rw[cB] at h;rw[sameL_eq xs ys h]
 | .lst xs,.non,h=>by simp[cB] at h
 | .lst xs,.bl _,h=>by simp[cB] at h
 | .lst xs,.int _,h=>by simp[cB] at h
 | .lst xs,.str _,h=>by simp[cB] at h
 | .lst xs,.tup _,h=>by simp[cB] at h
 | .lst xs,.exc _,h=>by simp[cB] at h
 | .lst xs,.dct _,h=>by simp[cB] at h
 | .lst xs,.own _,h=>by simp[cB] at h
 | .lst xs,.pg _,h=>by simp[cB] at h
 | .tup xs,.non,h=>by simp[cB] at h
 | .tup xs,.bl _,h=>by simp[cB] at h
 | .tup xs,.int _,h=>by simp[cB] at h
 | .tup xs,.str _,h=>by simp[cB] at h
 | .tup xs,.lst _,h=>by simp[cB] at h
 | .tup xs,.exc _,h=>by simp[cB] at h
 | .tup xs,.dct _,h=>by simp[cB] at h
 | .tup xs,.own _,h=>by simp[cB] at h
 | .tup xs,.pg _,h=>by simp[cB] at h
theorem sameL_eq:∀ (xs ys:List T),sameL xs ys=true->xs=ys
 | [],[],_=>rfl
 | [],_::_,h=>by simp[sameL] at h
 | _::_,[],h=>by simp[sameL] at h
 | x::xs,y::ys,h=>by
  rw[sameL,aSb] at h;rw[QZ x y h.1,sameL_eq xs ys h.2]
end
def QY:Option T->Option T->Bool
 | some t,some u=>cB t u
 | none,none=>true
 | _,_=>false
def aJv{a b:Option T}(h:QY a b=true):a=b:=by
 cases a<;>cases b<;>first | rfl | cases h | skip
 rw[QZ _ _ h]
def below{P:Int->Prop}(n:Nat)(f:Nat->Bool)(h:(List.range n).all f=true)(hP:∀ k:Nat,f k=true->P k){g:Int}(h0:0<=g)(h1:g<n):P g:=by
 have:=aS1.mp h g.toNat (aS2.mpr (by lia));have:=hP _ this
 rwa [Int.toNat_of_nonneg h0] at this
noncomputable def kQ:List T->Option (List Int)
 | []=>some []
 | .int i::r=>(kQ r).map (i :: ·)
 | _=>none
theorem HZ:∀ ns:List Int,kQ (tI ns)=some ns
 | []=>rfl
 | n::ns=>by
  show (kQ (tI ns)).map (n :: ·)=_;rw[HZ ns];rfl
theorem HY:∀ {ts:List T}{ns:List Int},kQ ts=some ns->ts=tI ns
 | [],ns,h=>by cases (aRv h);rfl
 | .int i::r,ns,h=>by
  cases e:kQ r with
  | none=>rw[kQ,e] at h;cases h
  | some ms=>
   rw[kQ,e] at h;cases (aRv h);rw[HY e];rfl
 | .non::_,_,h=>by cases h
 | .bl _::_,_,h=>by cases h
 | .str _::_,_,h=>by cases h
 | .lst _::_,_,h=>by cases h
 | .tup _::_,_,h=>by cases h
 | .exc _::_,_,h=>by cases h
 | .dct _::_,_,h=>by cases h
 | .own _::_,_,h=>by cases h
 | .pg _::_,_,h=>by cases h
theorem QI{K:PySem.W.Frag}{H:Hp}{A:Addr->Prop}:∀ {ns:List Int}{xs:List V},RepL K H A (tI ns) xs->xs=ns.map V.int
 | [],_,h=>h
 | n::ns,_,h=>by
  obtain⟨x,r,e,h1,h2⟩:=h;rw[e,QI h2,(show x=.int n from h1)];rfl
noncomputable def tB(bs:List Bool):List T:=bs.map T.bl
theorem QH{K:PySem.W.Frag}{H:Hp}{A:Addr->Prop}:∀ {ns:List Bool}{xs:List V},RepL K H A (G.tB ns) xs->xs=ns.map V.bl
 | [],_,h=>h
 | n::ns,_,h=>by
  obtain⟨x,r,e,h1,h2⟩:=h;rw[e,QH h2,(show x=.bl n from h1)];rfl
noncomputable def allB:List T->Option (List Bool)
 | []=>some []
 | .bl i::r=>(allB r).map (i :: ·)
 | _=>none
theorem HX:∀ {ts:List T}{ns:List Bool},allB ts=some ns->ts=G.tB ns
 | [],ns,h=>by cases (aRv h);rfl
 | .bl i::r,ns,h=>by
  cases e:allB r with
  | none=>rw[allB,e] at h;cases h
  | some ms=>
   rw[allB,e] at h;cases (aRv h);rw[HX e];rfl
 | .non::_,_,h=>by cases h
 | .int _::_,_,h=>by cases h
 | .str _::_,_,h=>by cases h
 | .lst _::_,_,h=>by cases h
 | .tup _::_,_,h=>by cases h
 | .exc _::_,_,h=>by cases h
 | .dct _::_,_,h=>by cases h
 | .own _::_,_,h=>by cases h
 | .pg _::_,_,h=>by cases h
section
variable {e:Expr}{f:Rho->Option T}{n:Bool}{l k:Nat}{x:Str}{F:List T->Option T}
def aD4{pins:List (Addr × Obj)}{σ:St}{H:Hp}{s s':Shared}(I:Inv X pins σ H s)(o:Obj)(m:Moved [s.heap.objs.size] (fun a b=>b=a) { s with heap:=s.heap.push o } s'):Inv X pins σ H s':=by
 have I2:Inv X pins σ H { s with heap:=s.heap.push o }:=I.kept (t':=s.toks) fun b ob q=>aS6 _ q;obtain⟨h',g',d',t',o'⟩:=s';obtain⟨m1,m2,m3,m4,m5⟩:=m;cases (show g'=s.gens from m2);cases (show d'=s.drawn from m3);cases (show o'=s.os from m4);have fp:=I.fpOk (aTs s.heap.objs.size) (I.hok.fresh (aTs _));exact L2.Inv.turned (s:={ s with heap:=s.heap.push o }) (h':=h') (t':=t') (it:=s.heap.objs.size) I2 (fun b ob hb q=>m1 b ob (by simpa using hb) q) fp.1 fp.2.1 fp.2.2.2.1 fp.2.2.2.2.1 fp.2.2.2.2.2
def WX(hc:X.calm=true):eF X (.builtin "all") (fun xs H Q=>∃ (a:Addr) (bs:List Bool),xs=[.ref a]/\SqL X.K H a (bs.map V.bl)/\Q (.bl (bs.all id)) H):=by
 rw[16];obtain⟨a,ns,rfl,hS,q⟩:=h;obtain⟨u,rfl,ru⟩:=jM r;cases ru;obtain⟨its,rv,p,hz⟩:=I.list hS;have hl:=rv.length;have ha:a<s.heap.objs.size:=by obtain⟨o,n,e,_⟩:=p;exact aSi e
 refine call_all_walkS (aUs p.isList ?_);refine⟨s.heap.objs.size,[s.heap.objs.size,a],[s.heap.objs.size],_,its.toArray.size,_,_,fun i=>ns.getD i true,rfl,(Walks.list (A:=X.A.in1) (I.ok.hd hc) s.heap.objs.size a (aU0 ha) its.toArray).toS,⟨⟨_,aSh _ rfl,rfl,rfl⟩,p.isList.push _⟩,fun i v s0 Q0 E0 hv hq=>?_,fun s' mv=>?_⟩
 ·have hv':its[i]?=some v:=by simpa using hv
  have hi:i<its.length:=(aS0.mp hv').1;have hin:i<ns.length:=by rw[aT5] at hl;lia
  have e1:(ns.map V.bl)[i]?=some (V.bl (ns.getD i true)):=by
   rw[aT0,aRx hin];simp[aRw,hin]
  obtain⟨u,e2,ru⟩:=rv.get e1;rw[hv'] at e2;cases (aRv e2);cases ru;exact aUy hq
 ·have es:its.toArray.size=ns.length:=by simp only[aS4];rw[<- hl];simp
  have ea:(List.range ns.length).all (fun i=>ns.getD i true)=ns.all id:=by
   rw[aSd,aS1,aS1]
   constructor
   ·intro h x hx
    obtain⟨i,hi,rfl⟩:=List.mem_iff_getElem.mp hx;have:=h i (aS2.mpr hi)
    simpa [aRw,hi] using this
   ·intro h i hi
    have hi:=aS2.mp hi;have:=h ns[i] (List.getElem_mem hi)
    simpa [aRw,hi] using this
  rw[es,ea];exact⟨.bl (ns.all id),H,aD4 I _ mv,rfl,q⟩
def gW:List T->Option T
 | [.lst ts]=>(allB ts).map fun ns=>.bl (ns.all id)
 | _=>none
theorem KP(hx:x = "all")(hc:X.calm=true)(hg:Gl X x)(hm:X.mg x=none)(ha:GA X B fl (e::es) fa l)
  (he:aVc X e es:=by rfl) (hpl:aVe X pos es:=by rfl):GE X B fl (.Call (.Name x p') (e::es) [] pos) (aG fa gW) true 3:=by
 subst hx;refine bC (nE (WX hc) hg hm (by decide +kernel) ha (by decide) (by decide) he hpl) ?_;rw[0];rw[5];rw[6]
 match ts,hf with
 | [.lst us],hf=>
  have hf:(allB us).map (fun ns=>T.bl (ns.all id))=some t:=hf;cases ea:allB us with
  | none=>rw[ea] at hf;cases hf
  | some ns=>
   rw[ea] at hf;rw[4];cases HX ea;rw[25];obtain⟨p,xs,rfl,h1,h2⟩:=ry.sqL;cases QH h2;exact⟨p,ns,rfl,h1,q _ H1 s1 ((aO.scal rfl).mpr rfl)⟩
end
noncomputable def bQ:Out->Option T
 | .rt t=>some t
 | .nx _=>some .non
 | _=>none
def Fof(np k:Nat)(run:Rho->Option Out)(ts:List T):Option T:=if ts.length=np then (run (ts.map some++List.replicate k none)).bind bQ else none
def HI{np k:Nat}{run:Rho->Option Out}{ts:List T}{t:T}(h:Fof np k run ts=some t):ts.length=np:=by
 unfold Fof at h;split at h
 ·assumption
 ·cases h
def HJ{np k:Nat}{run:Rho->Option Out}{ts:List T}{t:T}(h:Fof np k run ts=some t):∃ o,run (ts.map some++List.replicate k none)=some o/\zZ o t:=by
 unfold Fof at h;split at h
 ·obtain⟨o,e,h⟩:=bind_some h
  refine⟨o,e,?_⟩;cases o with
  | rt u=>exact aRv h
  | nx _=>exact (aRv h).symm
  | bk _=>cases h
  | ct _=>cases h
 ·cases h
@[simp] theorem bF(t:T):bQ (.rt t)=some t:=rfl
@[simp] theorem aNq(ρ:Rho):bQ (.nx ρ)=some .non:=rfl
def tGR(K:PySem.W.Frag)(B:Hp)(fl:List Nat)(f:Rho->Option T)(n:Bool)(l:Nat):TE:=fun σ H Q=>
 ∃ Ex ρ M t,Sl K B fl Ex σ ρ M H/\f ρ=some t/\∀ v H',aL H H'->RtX K B H' n l t v->Q v H'
def GR(X:Cx)(B:Hp)(fl:List Nat)(e:Expr)(f:Rho->Option T)(n:Bool)(l:Nat):Prop:=PE X e (tGR X.K B fl f n l)
def aL7(K:PySem.W.Frag)(B:Hp)(fl:List Nat)(f:Rho->Option (List T))(l:Nat):TA:=fun σ H Q=>
 ∃ Ex ρ M ts,Sl K B fl Ex σ ρ M H/\f ρ=some ts/\∀ vs H',aL H H'->RepL K H' (Ad B B [] l) ts vs->Q vs H'
def GRA(X:Cx)(B:Hp)(fl:List Nat)(es:List Expr)(f:Rho->Option (List T))(l:Nat):Prop:=PA X es (aL7 X.K B fl f l)
def tH(i:Nat):Rho->Option T:=fun ρ=>(aA i ρ).bind fun t=>match t with | .lst ts=>if bK ts then some (.lst ts) else none | _=>none
@[simp] theorem vZ(i:Nat)(ρ:Rho):tH i ρ=(aA i ρ).bind fun t=>match t with | .lst ts=>if bK ts then some (.lst ts) else none | _=>none:=rfl
section
variable {a b c e:Expr}{f g:Rho->Option T}{p:Rho->Option Bool}{n:Bool}{l:Nat}{x:Str}
def wF(he:GE X B fl e f n' l')(h:((!n||n')&&(decide (l=0)||decide (2<=l'))&&decide (l≠4))=true):GR X B fl e f n l:=by
 refine bC he ?_;rintro σ H Q ⟨Ex,ρ,M,t,S,e1,q⟩;rw[aSb] at h;refine⟨Ex,ρ,M,t,S,e1,fun v H1 s1 rx=>q v H1 s1 ((RtX.of (aUe h.2)).mpr (aJo S ?_ rx))⟩;have h:=h.1;cases n<;>cases n'<;>simp at h ⊢<;>exact h
def aBo(i:Nat)(hN:X.N[i]?=some x:=by rfl)(hv:Vis X.env.scope x:=by trivial)(h4:(decide (fl.getD i 1=0)&&decide (l≠4))=true:=by rfl)(hd:aVi x:=by decide)
  (hcd:(x == ("__classdict__" : Str))=false:=by decide):GR X B fl (.Name x pos') (tH i) n l:=by
 have h4:=aSc.mp h4;have h0:fl.getD i 1=0:=aUe h4.1;refine bC (pv (X:=X) i hN hv hd hcd) ?_;rintro σ H Q ⟨Ex,ρ,M,t,S,hr,q⟩;obtain⟨t',e1,hr⟩:=bind_some hr;cases t'<;>first | (cases hr;done) | skip
 dsimp only at hr;split at hr
 ·rename_i hfl
  rw[27];obtain⟨a,ts,xs,e2,e3,e4,e5,e6⟩:=S.muL i _ (mP e1) h0;cases e2;refine⟨_,e3,q _ H (aL.refl H) ((RtX.of (aUe h4.2)).mpr ?_)⟩;cases n with
  | true=>exact⟨a,xs,rfl,(S.mB a e6).1,e4,kH hfl e5⟩
  | false=>exact⟨a,xs,rfl,.inl ⟨⟨fun _ z=>by simp at z,fun _=>(S.mB a e6).1,fun _=>(S.mB a e6).1⟩,.inl e4⟩,kH hfl e5⟩
 ·cases hr
def aBn(hc:GT X B fl c p)(ha:GR X B fl a f n l)(hb:GR X B fl b g n l):GR X B fl (.IfExp c a b pos) (fIf p f g) n l:=by
 refine bC (OO hc ha hb) ?_;rw[0];rw[56];cases d with
 | true=>exact fQ ⟨Ex,ρ,M,t,S.grow s1,hf,fun v H2 s2 r2=>q v H2 (s1.trans s2) r2⟩
 | false=>exact eW ⟨Ex,ρ,M,t,S.grow s1,hf,fun v H2 s2 r2=>q v H2 (s1.trans s2) r2⟩
def aO.any{K:PySem.W.Frag}{H':Hp}{t:T}{v:V}(h:aO K B B [] H' n l t v):Rep K H' (Ad B B [] l) t v:=by
 cases n with
 | false=>cases t<;>exact h
 | true=>
  cases t with
  | lst ts=>
   obtain⟨a,xs,e,h1,h2,r⟩:=h;exact⟨a,xs,e,.inl ⟨⟨fun _ z=>by simp at z,fun _=>h1,fun _=>h1⟩,.inl h2⟩,r.weak fun b x=>x.1⟩
  | non=>exact h
  | bl _=>exact h
  | int _=>exact h
  | str _=>exact h
  | tup _=>exact h
  | exc _=>exact h
  | dct _=>exact h
  | own _=>exact h
  | pg _=>exact h
def aBq:GRA X B fl [] aD l:=rF cZ fun σ H Q ⟨Ex,ρ,M,ts,S,hf,q⟩=>q _ H (aL.refl H) (by cases (aRv hf);rfl)
def LO(ha:GR X B fl e f false l)(hr:GRA X B fl es fa l)(hs:aVc X e es:=by rfl)(h4:(l == 4)=false:=by rfl):GRA X B fl (e::es) (aB f fa) l:=by
 refine rF (cD ha hr hs) ?_;rintro σ H Q ⟨Ex,ρ,M,ts,S,hf,q⟩;rw[9];obtain⟨xs,hxs,hf⟩:=bind_some hf;rw[4];exact⟨Ex,ρ,M,x,S,hx,fun v H1 s1 r1=>⟨Ex,ρ,M,xs,S.grow s1,hxs,fun vs H2 s2 r2=>q _ H2 (s1.trans s2) ⟨v,vs,rfl,((RtX.of (by simpa using h4)).mp r1).any.grow s2,r2⟩⟩⟩
def aBp{k:Nat}(ha:GRA X B fl es fa l)(h4:(l == 4)=false:=by rfl):GR X B fl (.Tuple es k pos) (dB fa) n l:=by
 refine bC (OT ha) ?_;rw[0];rw[5];split at hf
 ·rename_i hl
  rw[4];refine⟨Ex,ρ,M,ts,S,hts,fun vs H1 s1 r1=>⟨by rw[<- r1.length];exact aTr (fI hl),fun p hp=>q _ _ (s1.trans (cW hp _)) ((RtX.of (by simpa using h4)).mpr ?_)⟩⟩;have z:Rep X.K (upd H1 p (.tup vs)) (Ad B B [] l) (.tup ts) (.ref p):=⟨p,vs,rfl,.inl (.inl bY),r1.grow (cW hp _)⟩;cases n<;>exact z
 ·cases hf
@[simp] theorem aNn(ts:List T):okO (.lst ts)=true:=id rfl
@[simp] theorem aNm(i:Int):okO (.int i)=true:=id rfl
@[simp] theorem aNo(i:Str):okO (.str i)=true:=id rfl
def wG(he:GR X B fl e f n l):GS X B fl n l (.Return (some e) pos) (aS f):=by
 refine cV (uL he) ?_;rw[14];unfold aS at hr;cases e1:f ρ with
 | none=>rw[e1] at hr;cases hr
 | some t=>
  rw[e1] at hr;rw[27];exact⟨Ex,ρ,M,t,S,e1,fun v H1 s1 rx=>q v H1 (S.same.trans s1) rx⟩
end
@[simp] theorem aN1(j:Nat)(body:Rho->Option Out)(ρ:Rho):eU j body [] ρ=some (.nx ρ):=rfl
def KD(j:Nat)(body:Rho->Option Out)(t:T)(ts:List T)(ρ:Rho):eU j body (t::ts) ρ =
 (body (ρ.set j (some t))).bind fun o=>match o with | .nx ρ'=>eU j body ts ρ' | .ct ρ'=>eU j body ts ρ' | .bk ρ'=>some (.nx ρ') | .rt t=>some (.rt t):=rfl
def aEi{i j:Int}(h:i.natAbs<2^64):kU i j=true:=by unfold kU;rw[aUj h];rfl
def aEk{i j:Int}(h:j.natAbs<2^64):kU i j=true:=by unfold kU;rw[aUj h];simp
def jZ{i j:Int}(h:i.natAbs<2^64):bM (.int i) (.int j)=some (.int (i*j)):=NT (aEi h)
def NU{i j:Int}(h:j.natAbs<2^64):bM (.int i) (.int j)=some (.int (i*j)):=NT (aEk h)
def WI{ns:List Int}{i:Int}(h0:0<=i)(h:i<ns.length):atI (tI ns) i=some (.int (ns.getD i.toNat 0)):=by
 have hl:i.toNat<ns.length:=by lia
 rw[WG,WE h0 h,aRw,aRx hl];rfl
def WH{ns:List Int}{i:Nat}(h:i<ns.length):atI (tI ns) (i:Int)=some (.int (ns.getD i 0)):=by
 rw[WI (by lia) (by lia)];simp
@[simp] theorem aN2(i:Int):aP (.int i)=some (.int i):=rfl
@[simp] theorem aN0(ns:List Int):bK (tI ns)=true:=JZ ns
def wX(i:Int)(j:Nat)(h:decide ((Builtin.Int.intBits i:Int)*(j:Int)<=2^27)=true):dO (.int i) (.int (j:Int))=some (.int (i^j)):=by
 unfold dO;simp only[wU];rw[aUc (by simpa using h)];simp
def WT(a b:Nat):Builtin.bitOr (a:Int) (b:Int)=((a|||b:Nat):Int):=by
 unfold Builtin.bitOr Builtin.bitAnd Builtin.bitNot;have h1:¬ (0 <= -(a:Int)-1):=by lia
 have h2:¬ (0 <= -(b:Int)-1):=by lia
 rw[aUi h1,aUi h2];show -(-(((-(-(a:Int)-1)-1).toNat|||(-(-(b:Int)-1)-1).toNat:Nat):Int)-1)-1=_;have e1:(-(-(a:Int)-1)-1).toNat=a:=by lia
 have e2:(-(-(b:Int)-1)-1).toNat=b:=by lia
 rw[e1,e2];lia
def aFb{a b:Nat}(h:a<2^64)(h2:b<=1000000):nB (.int (a:Int)) (.int (b:Int))=some (.int ((a*2^b:Nat):Int)):=by
 rw[aFa (by lia) (by lia) (by lia)];simp
def NX{b:Nat}(h2:b<=1000000):nB (.int 1) (.int (b:Int))=some (.int ((2^b:Nat):Int)):=by
 have:=aFb (a:=1) (b:=b) (by decide) h2;rw[Nat.one_mul] at this;exact this
theorem OZ{α:Type}(xs:List α)(a:Nat):∀ k,((List.range k).map (a + ·)).filterMap (xs[·]?)=(xs.drop a).take k
 | 0=>by simp
 | k+1=>by
  rw[List.range_succ,List.map_append,List.filterMap_append,OZ xs a k,List.take_add_one]
  congr 1
  simp only[aTc,aTe,aSw,List.filterMap_nil,List.getElem?_drop];cases xs[a+k]?<;>rfl
def aKl{α:Type}(xs:List α)(lo hi:Option Int):eO xs lo hi none=(xs.drop (lo.elim 0 (clipAt xs.length))).take ((hi.elim xs.length (clipAt xs.length))-(lo.elim 0 (clipAt xs.length))):=by
 unfold eO;rw[sliceBounds_plain,sliceRange_one,OZ]
def XT{n:Nat}{i:Int}(h:0<=i):clipAt n i=min i.toNat n:=by unfold clipAt;lia
def aKk{α:Type}(xs:List α){i:Int}(h:0<=i):eO xs (some i) none none=xs.drop i.toNat:=by
 rw[aKl];simp only[Option.elim,XT h];rw[List.take_of_length_le (by simp)]
 by_cases h':i.toNat<=xs.length
 ·rw[Nat.min_eq_left h']
 ·rw[Nat.min_eq_right (by lia),aSt (aTs _),aSt (by lia)]
section
variable {σ:St}{H:Hp}{s:Shared}{h':Heap}
def BX{t':Nat}{fs:List Addr}{T:Addr}{ys:List V}(I:Inv X pins σ H s)(hT:s.heap.objs.size<=T)(k:∀ b o,b ∉ fs->s.heap.get? b=some o->h'.get? b=some o)(hf:∀ b∈fs,cX X pins H b)
  (new:cO X.prog X.w (upd H T (.tup ys)) h' T (.tup ys)):Inv X pins σ (upd H T (.tup ys)) { s with heap:=h',toks:=t' }:=by
 have hn:H T=none:=I.hok.fresh hT;have nfs:∀ b u,H b=some u->b ∉ fs:=fun b u e z=>by rw[(hf b z).1] at e;cases e
 have nT:∀ b (o:Obj),s.heap.get? b=some o->b≠T:=fun b o e z=>absurd (aS3 (aSi e) (by rw[z];exact hT)) (aTu _);refine I.step (g':=s.gens) (d':=s.drawn) (ch:=fs) (fun b hb=>⟨(hf b hb).2.2.2.1,(hf b hb).2.1,(hf b hb).2.2.2.2.1,(hf b hb).2.2.2.2.2⟩) (fun b o _ _ hc e _=>k b o hc e) (fun b o _ _ hc e _=>⟨o.slots,k b o hc e⟩)
  (fun b o hc e n=>by rw[aW (nT b o e)];exact n) (fun b o hc e=>⟨o,k b o hc e⟩) (fun b xs e=>by rw[aW (eA e hn)];exact e) (fun b o u e=>by rw[aW (eA e hn)];exact e) (fun b ps e=>⟨#[],by rw[aW (eA e hn),e];simp⟩) (fun m hm=>?_) (fun b u e=>?_) I.bare
 ·obtain⟨o,es,ep,ho,r⟩:=hm
  exact⟨o,es,ep,k _ o (fun z=>(hf _ z).2.1 rfl) ho,r⟩
 ·by_cases hb:b=T
  ·subst hb;rw[bY] at e;cases e;exact new
  ·rw[aW hb] at e
   refine (I.hok b u e).stay (fun c v hc q=>k c v ?_ q) (fun c q=>by rw[aW (eA q hn)];exact q) fun c xs q=>by rw[aW (eA q hn)];exact q
   rcases hc with z | z
   ·rw[z];exact nfs b u e
   ·exact nfs c _ z
def BW{t':Nat}{fs:List Addr}(I:Inv X pins σ H s)(k:∀ b o,b ∉ fs->s.heap.get? b=some o->h'.get? b=some o)(hf:∀ b∈fs,cX X pins H b):Inv X pins σ H { s with heap:=h',toks:=t' }:=by
 have nfs:∀ b u,H b=some u->b ∉ fs:=fun b u e z=>by rw[(hf b z).1] at e;cases e
 refine I.step (g':=s.gens) (d':=s.drawn) (ch:=fs) (fun b hb=>⟨(hf b hb).2.2.2.1,(hf b hb).2.1,(hf b hb).2.2.2.2.1,(hf b hb).2.2.2.2.2⟩) (fun b o _ _ hc e _=>k b o hc e) (fun b o _ _ hc e _=>⟨o.slots,k b o hc e⟩)
  (fun _ _ _ _ n=>n) (fun b o hc e=>⟨o,k b o hc e⟩) (fun _ _ e=>e) (fun _ _ _ e=>e) (fun b ps e=>⟨#[],by rw[e];simp⟩) (fun m hm=>?_) (fun b u e=>?_) I.bare
 ·obtain⟨o,es,ep,ho,r⟩:=hm
  exact⟨o,es,ep,k _ o (fun z=>(hf _ z).2.1 rfl) ho,r⟩
 ·refine (I.hok b u e).stay (fun c v hc q=>k c v ?_ q) (fun _ q=>q) fun _ _ q=>q
  rcases hc with z | z
  ·rw[z];exact nfs b u e
  ·exact nfs c _ z
end
def mX{h:Heap}{a b:Addr}{o o':Obj}(e:h.get? a=some o)(e':h.get? b=some o')(hc:o.cls≠o'.cls):a≠b:=fun z=>by
 subst z;rw[e] at e';cases e';exact hc rfl
structure ZA(z TI TO i1 i2:Addr):Prop where
 TIz:TI≠z
 TOz:TO≠z
 i1z:i1≠z
 i2z:i2≠z
 TITO:TI≠TO
 TIi1:TI≠i1
 TIi2:TI≠i2
 TOi1:TO≠i1
 TOi2:TO≠i2
 i12:i1≠i2
noncomputable def kL(xs ys:List T):List T:=List.zipWith (fun x y=>.tup [x,y]) xs ys
def AY(fi gi:Rho->Option (List T)):Rho->Option (List T):=fun ρ=>(fi ρ).bind fun xs=>(gi ρ).map fun ys=>kL xs ys
@[simp] theorem JS(fi gi:Rho->Option (List T))(ρ:Rho):AY fi gi ρ=(fi ρ).bind fun xs=>(gi ρ).map fun ys=>kL xs ys:=rfl
def vR{K:PySem.W.Frag}{H H':Hp}{A:Addr->Prop}{u:T}{y:V}{sc:Bool}(hsc:sc=true->im u=true)(s:aL H H')(r:Rep K H A u y):Rep K H' (Am sc A H) u y:=by
 cases sc with
 | false=>exact (r.grow s).weak fun b x=>⟨rfl,.inl x⟩
 | true=>exact rN u (hsc rfl) (r.grow s)
noncomputable def setL(ρ:Rho):List Nat->List T->Option Rho
 | [],[]=>some ρ
 | j::js,t::ts=>setL (ρ.set j (some t)) js ts
 | _,_=>none
noncomputable def FV(σ:St):List Nat->List V->St
 | j::js,v::vs=>FV (σ.set j (some v)) js vs
 | _,_=>σ
def gNs(js:List Nat):TGs:=fun vs σ H Q=>vs.length=js.length/\Q (FV σ js vs) H
def LJ{X:Cx}:PGs X [] (gNs []):=by
 intro pins s σ H vs us Q I r h;refine OY pins s σ H vs us Q I r ⟨List.length_eq_zero_iff.mp h.1,?_⟩;have e:=List.length_eq_zero_iff.mp h.1;subst e;exact h.2
def aBk{X:Cx}{j:Nat}{x:Str}{pos:Pos}{es:List Expr}{js:List Nat}(hN:X.N.Nodup)(hi:X.N[j]?=some x)(hx:Loc X.env.scope x)(h2:PGs X es (gNs js))(hf:aVh X x:=by trivial)
  (hs:(assignEach ((.Name x pos)::es) X.env).map (·.2)=assign (.Name x pos) X.env::(assignEach es X.env).map (·.2):=by rfl):PGs X ((.Name x pos)::es) (gNs (j::js)):=by
 intro pins s σ H vs us Q I r h;refine DK (rH hN hi hx hf) h2 hs pins s σ H vs us Q I r ?_
 match vs,h with
 | v::vr,h=>exact⟨v,vr,rfl,by simpa using h.1,h.2⟩
theorem zD:∀ (js:List Nat) (ts:List T) (ρ ρ':Rho),setL ρ js ts=some ρ'->ts.length=js.length
 | [],[],_,_,_=>rfl
 | [],_::_,_,_,h=>by cases h
 | _::_,[],_,_,h=>by cases h
 | j::js,t::ts,ρ,ρ',h=>by simp[zD js ts _ ρ' h]
theorem Sl.setL{K:PySem.W.Frag}{B H:Hp}{fl:List Nat}{Ex:List (T × V)}{M:List Addr}{lv:Nat}:∀ (js:List Nat) (ts:List T) (vs:List V) {σ:St}{ρ ρ':Rho},Sl K B fl Ex σ ρ M H->(∀ j∈js,j<fl.length/\1<=fl.getD j 1/\min (fl.getD j 1) 2<=lv)->RepL K H (Ad B H M lv) ts vs->G.setL ρ js ts=some ρ'->Sl K B fl Ex (FV σ js vs) ρ' M H
 | [],[],vs,σ,ρ,ρ',S,_,r,h=>by
  cases (aRv h);cases (show vs=[] from r);exact S
 | [],_::_,_,_,_,_,_,_,_,h=>by cases h
 | _::_,[],_,_,_,_,_,_,_,h=>by cases h
 | j::js,t::ts,vs,σ,ρ,ρ',S,hj,r,h=>by
  obtain⟨v,vr,rfl,r1,r2⟩:=r;have h0:=hj j aRz;exact Sl.setL js ts vr (S.set h0.1 (.inl h0.2.1) (r1.weak fun b x=>⟨fun z=>x.1 (by omega),fun z=>x.2.1 (by omega),fun z=>by omega⟩)) (fun i hi=>hj i (aRy _ hi)) r2 h
noncomputable def fK(js:List Nat)(body:Rho->Option Out):List T->Rho->Option Out
 | [],ρ=>some (.nx ρ)
 | .tup us::ts,ρ=>(setL ρ js us).bind fun ρ1=>(body ρ1).bind fun o=>match o with | .nx ρ'=>fK js body ts ρ' | .ct ρ'=>fK js body ts ρ' | .bk ρ'=>some (.nx ρ') | .rt t=>some (.rt t)
 | _::_,_=>none
def DV(js:List Nat)(fi:Rho->Option (List T))(body:Rho->Option Out):Rho->Option Out:=fun ρ=>(fi ρ).bind fun ts=>fK js body ts ρ
@[simp] theorem PQ(js:List Nat)(fi:Rho->Option (List T))(body:Rho->Option Out)(ρ:Rho):DV js fi body ρ=(fi ρ).bind fun ts=>fK js body ts ρ:=rfl
def YY{js:List Nat}{body:Rho->Option Out}{t:T}{ts:List T}{ρ:Rho}{o:Out}(h:fK js body (t::ts) ρ=some o):∃ us ρ1 o1,t=.tup us/\setL ρ js us=some ρ1/\body ρ1=some o1/\(match o1 with | .nx ρ'=>fK js body ts ρ' | .ct ρ'=>fK js body ts ρ' | .bk ρ'=>some (.nx ρ') | .rt t=>some (.rt t))=some o:=by
 cases t with
 | tup us=>
  obtain⟨ρ1,h1,h⟩:=bind_some h;obtain⟨o1,h2,h⟩:=bind_some h;exact⟨us,ρ1,o1,rfl,h1,h2,h⟩
 | exc _=>cases h
 | dct _=>cases h
 | own _=>cases h
 | pg _=>cases h
 | non=>cases h
 | bl _=>cases h
 | int _=>cases h
 | str _=>cases h
 | lst _=>cases h
def mF{K:PySem.W.Frag}{H:Hp}{A:Addr->Prop}{us:List T}{v:V}(h:Rep K H A (.tup us) v):∃ a xs,v=.ref a/\SqT K H a xs/\RepL K H A us xs:=h.sqT
theorem aBt{X:Cx}{B:Hp}{fl:List Nat}{n:Bool}{l:Nat}{body:List Stmt}{r:Rho->Option Out}{pos p2:Pos}{k m:Nat}(js:List Nat){iter:Expr}{elts:List Expr}{fi:Rho->Option (List T)}{li:Nat}{sc:Bool}(hp:aVg X)(hc:X.calm=true)(hi:GI X B fl (.Tuple elts k p2) iter fi li sc)
  (hg:PGs X elts (gNs js)) (hb:GSs X B fl n l body r) (hfl:(js.all fun j=>decide (j<fl.length)&&decide (fl.getD j 1=1))=true) (hli:decide (1<=li)=true)
  (hn:(assignEach elts X.env).length=m:=by rfl) (hst:(assignEach elts X.env).findIdx? (·.1)=none:=by rfl) (hm:js.length=m:=by rfl)
  (hs:aVf X iter:=by intro _;rfl):
  GS X B fl n l (.For (.Tuple elts k p2) iter body [] pos) (DV js fi r):=by
 have hfl':∀ j∈js,j<fl.length/\1<=fl.getD j 1/\min (fl.getD j 1) 2<=1:=fun j hj=>by
  have:=aS1.mp hfl j hj;simp only[aSb,aUh] at this;exact⟨this.1,by omega,by omega⟩
 have hli:=aUe hli;refine cV (DP hp hc hi (DJ hc hg hn hst) hb hs) ?_;rw[14];obtain⟨ts,hts,hr⟩:=bind_some hr;refine⟨Ex,ρ,M,ts,S,hts,fun J H1 ps s1 rp wk=>?_⟩;refine⟨fun i m σ1 H2=>m=ts.length-i/\i<=ts.length/\∃ ρ1 M1,Sl X.K B fl (ps++Ex) σ1 ρ1 M1 H2/\fK js r (ts.drop i) ρ1=some o,⟨ts.length,by simp,aU4 _,ρ,M,(S.grow s1).plus (fun p hp=>(rp p hp).weak fun b x=>⟨fun z=>x.1 (by omega),fun z=>by omega,fun z=>by omega⟩),hr⟩,?_⟩;rintro i m' σ1 H2 ⟨rfl,hi,ρ1,M1,S1,e1⟩;have w:=wk H2 _ (fun p hp=>S1.ex p (aTg _ hp)) i
 by_cases hlt:i<ts.length
 ·have et:ts[i]?=some ts[i]:=aRx hlt
  obtain⟨go,yl⟩:=w.1 _ et;rw[aSs hlt] at e1;obtain⟨us,ρ2,o1,eu,h0,h1,e1⟩:=YY e1;refine .inr ⟨go,fun σ' H'=>∃ ρ1 M1,Sl X.K B fl (ps++Ex) σ' ρ1 M1 H'/\fK js r (ts.drop (i+1)) ρ1=some o,fun σ' H' ⟨ρ',M',S',e'⟩=>⟨ts.length-(i+1),by omega,rfl,hlt,ρ',M',S',e'⟩,fun y H3 hy=>?_⟩;obtain⟨s23,ry⟩:=yl y H3 hy;have ry':Rep X.K H3 (Ad B H3 M1 1) ts[i] y:=ry.weak fun c hc=>by
   obtain⟨_,hc⟩:=hc;rcases hc with hc | hc
   ·exact⟨fun z=>hc.1 (aTs _),fun z=>by omega,fun z=>by omega⟩
   ·exact⟨fun _ z=>(S1.mB c z).2 hc,fun z=>by omega,fun z=>by omega⟩
  rw[eu] at ry';obtain⟨a,xs,rfl,hsq,rl⟩:=mF ry';have hlen:xs.length=js.length:=by rw[<- rl.length];exact zD js us ρ1 ρ2 h0
  refine⟨a,xs,rfl,hsq,by rw[hlen,hm],hlen,?_⟩;refine⟨ps++Ex,_,M1,o1,(S1.grow s23).setL js us xs hfl' rl h0,h1,?_⟩;cases o1 with
  | nx ρ'=>exact fun σ' M' H' S'=>⟨ρ',M',S',e1⟩
  | ct ρ'=>exact fun σ' M' H' S'=>⟨ρ',M',S',e1⟩
  | bk ρ'=>cases (aRv e1);exact fun σ' M' H' S'=>q σ' M' H' S'.fewer
  | rt t=>cases (aRv e1);exact q
 ·have ei:i=ts.length:=by omega
  subst ei;rw[aSt (aTs _)] at e1;cases (aRv (show some (Out.nx ρ1)=some o from e1));exact .inl ⟨w.2 (aTs _),q σ1 M1 H2 S1.fewer⟩
noncomputable def aD2:Expr->Option Int
 | .Constant (.int i) _ _=>some i
 | _=>none
noncomputable def wK:List Expr->Option (List Int)
 | []=>some []
 | e::es=>(aD2 e).bind fun i=>(wK es).map (i :: ·)
theorem KN{X:Cx}{B:Hp}{fl:List Nat}:∀ (es:List Expr) (ns:List Int),wK es=some ns->GA X B fl es (fun _=>some (tI ns)) 3
 | [],ns,h=>by
  cases (aRv h);exact cF
 | e::es,ns,h=>by
  obtain⟨i,h1,h⟩:=bind_some h;cases h2:wK es with
  | none=>rw[h2] at h;cases h
  | some ms=>
   rw[h2] at h;cases (aRv h);have ih:=KN (X:=X) (B:=B) (fl:=fl) es ms h2;cases e<;>first | (cases h1;done) | skip
   rename_i c j pos;cases c<;>first | (cases h1;done) | skip
   cases (aRv h1);have:=cS (X:=X) (B:=B) (fl:=fl) (ge_int (i:=i) (j:=j) (pos:=pos)) ih (by rfl);exact this
def aAm{X:Cx}{B:Hp}{fl:List Nat}{es:List Expr}{pos:Pos}{ns:List Int}(h:wK es=some ns)(hl:decide (ns.length<=cap)=true):GE X B fl (.List es pos) (fC (.lst (tI ns))) true 3:=by
 refine bC (tN (B:=B) (fl:=fl) (KN es ns h)) ?_;rw[0];refine⟨Ex,ρ,M,t,S,?_,q⟩;rw[4];show (if (tI ns).length<=cap then some (T.lst (tI ns)) else none)=_;rw[aUc (by rw[zG];exact aUe hl)]
@[simp] theorem aNv(ρ:Rho):setL ρ [] []=some ρ:=rfl
@[simp] theorem aNu(ρ:Rho)(j:Nat)(js:List Nat)(t:T)(ts:List T):setL ρ (j::js) (t::ts)=setL (ρ.set j (some t)) js ts:=rfl
section
variable {e:Expr}{f:Rho->Option T}{n:Bool}{l k:Nat}{x:Str}{F:List T->Option T}
def BH{i:Int}(hg:Gl X x)(hm:∃ tk,X.mg x=some (.int i tk))(hd:aVi x:=by decide):GE X B fl (.Name x pos) (fC (.int i)) true 3:=by
 obtain⟨tk,hm⟩:=hm;refine bC (xK (v:=.int i) hg hm ⟨tk,rfl⟩ hd) ?_;rw[0];rw[4];exact q _ H (aL.refl H) ((aO.scal rfl).mpr rfl)
variable {a b:Expr}{g:Rho->Option T}
noncomputable def eP(p:Rho->Option Bool)(r:Rho->Option Out):Nat->Rho->Option Out
 | 0,_=>none
 | k+1,ρ=>(p ρ).bind fun b=>if b then (r ρ).bind fun o=>match o with | .nx ρ'=>eP p r k ρ' | .ct ρ'=>eP p r k ρ' | .bk ρ'=>some (.nx ρ') | .rt t=>some (.rt t) else some (.nx ρ)
def rL(p:Rho->Option Bool)(r:Rho->Option Out):Rho->Option Out:=eP p r 100000
def aBy{c:Expr}{body:List Stmt}{p:Rho->Option Bool}{r:Rho->Option Out}(hp:aVg X)(hc:GT X B fl c p)(hb:GSs X B fl n l body r):GS X B fl n l (.While c body [] pos) (rL p r):=by
 refine cV (PD hp hc hb) ?_;rw[14];refine⟨fun m σ1 H1=>∃ ρ1 M1,Sl X.K B fl Ex σ1 ρ1 M1 H1/\eP p r m ρ1=some o,⟨_,ρ,M,S,hr⟩,?_⟩;rintro m σ1 H1 ⟨ρ1,M1,S1,e1⟩;cases m with
 | zero=>cases e1
 | succ m=>
  obtain⟨b,hb,e1⟩:=bind_some (show ((p ρ1).bind fun b=>if b then (r ρ1).bind fun o=>match o with | .nx ρ'=>eP p r m ρ' | .ct ρ'=>eP p r m ρ' | .bk ρ'=>some (.nx ρ') | .rt t=>some (.rt t) else some (.nx ρ1))=some o from e1)
  refine⟨Ex,ρ1,M1,b,S1,hb,fun H2 s2=>?_⟩;cases b with
  | false=>
   cases (aRv (show some (Out.nx ρ1)=some o from e1));exact eW (q σ1 M1 H2 (S1.grow s2))
  | true=>
   obtain⟨o1,h1,e1⟩:=bind_some (show ((r ρ1).bind fun o=>match o with | .nx ρ'=>eP p r m ρ' | .ct ρ'=>eP p r m ρ' | .bk ρ'=>some (.nx ρ') | .rt t=>some (.rt t))=some o from e1)
   refine fQ ⟨fun σ' H'=>∃ ρ1 M1,Sl X.K B fl Ex σ' ρ1 M1 H'/\eP p r m ρ1=some o,fun σ' H' h=>⟨m,aTw m,h⟩,Ex,ρ1,M1,o1,S1.grow s2,h1,?_⟩;cases o1 with
   | nx ρ'=>exact fun σ' M' H' S'=>⟨ρ',M',S',e1⟩
   | ct ρ'=>exact fun σ' M' H' S'=>⟨ρ',M',S',e1⟩
   | bk ρ'=>cases (aRv e1);exact fun σ' M' H' S'=>q σ' M' H' S'
   | rt t=>cases (aRv e1);exact q
end
@[simp] theorem aNt(p:Rho->Option Bool)(r:Rho->Option Out)(ρ:Rho):rL p r ρ=eP p r 100000 ρ:=id rfl
noncomputable def gvS(row:List Int):List Nat->Nat->Int
 | [],_=>0
 | k::ks,g=>(if g.testBit k then row.getD k 0 else 0)+gvS row ks g
def gv(row:List Int)(g:Nat):Int:=gvS row (List.range row.length) g
def Sub(n:Nat)(t:List Int):Prop:=∀ a b,a<2^n->b<2^n->t.getD (a|||b) 0+t.getD (a&&&b) 0<=t.getD a 0+t.getD b 0
noncomputable def IN(g:Nat):Nat:=g%2+g / 2%2+g / 4%2+g / 8%2+g / 16%2+g / 32%2
def sq(k:Nat):Nat:=IN k*IN k
@[simp] theorem aNf(ts:List T):cN [.tup ts]=some (.int ts.length):=rfl
@[simp] theorem aNh(ts:List T):NS [.tup ts]=some (.lst ts):=rfl
def aD7{ts:List T}(h:bK ts=true):mR (.lst ts)=some ts:=by simp[mR,h]
def BC{ts:List T}(h:bK ts=true):fM (.lst ts)=some (.lst ts):=by simp[fM,h]
where ite_le2 (c:Bool) {x:Int} (h:0<=x):(if c then x else 0)<=x:=by cases c<;>simp<;>lia
noncomputable def upT(n:Nat):List Int:=(List.range n).map fun (i:Nat)=>(i:Int)
@[simp] theorem aNy(n:Nat):(upT n).length=n:=by simp[upT]
section
variable {a:Expr}{l:Nat}
theorem QD{K:PySem.W.Frag}{H:Hp}{A:Addr->Prop}:∀ (ns:List Int),RepL K H A (tI ns) (ns.map V.int)
 | []=>rfl
 | n::ns=>⟨.int n,ns.map V.int,rfl,rfl,QD ns⟩
end
section
variable {a b:Expr}{f g:Rho->Option T}{n:Bool}{l:Nat}
noncomputable def aF5:T->T->Option T
 | .bl a,.bl b=>some (.bl (a == b))
 | _,_=>none
noncomputable def aF6:T->T->Option T
 | .bl a,.bl b=>some (.bl (!(a == b)))
 | _,_=>none
@[simp] theorem aNd(a b:Bool):aF6 (.bl a) (.bl b)=some (.bl (!(a == b))):=rfl
@[simp] theorem aNc(a b:Bool):aF5 (.bl a) (.bl b)=some (.bl (a == b)):=rfl
end
noncomputable def aD8:T->Bool
 | .lst _=>true
 | _=>false
@[simp] theorem aN6(ts:List T):aD8 (.lst ts)=true:=id rfl
noncomputable def nV(x:Int):List Int->List Int
 | []=>[x]
 | y::ys=>if y<=x then x::y::ys else y::nV x ys
noncomputable def zE:List Int->List Int
 | []=>[]
 | x::xs=>nV x (zE xs)
theorem BV(x:Int):∀ ys:List Int,(nV x ys).Perm (x::ys)
 | []=>.refl _
 | y::ys=>by
  unfold nV
  split
  ·exact .refl _
  ·exact (List.Perm.cons y (BV x ys)).trans (List.Perm.swap x y ys)
theorem SK:∀ xs:List Int,(zE xs).Perm xs
 | []=>.refl _
 | x::xs=>(BV x _).trans (List.Perm.cons x (SK xs))
theorem ML(x:Int):∀ ys:List Int,ys.Pairwise (· >= ·)->(nV x ys).Pairwise (· >= ·)
 | [],_=>by simp[nV]
 | y::ys,h=>by
  obtain⟨h1,h2⟩:=List.pairwise_cons.mp h;unfold nV
  split
  ·rename_i hx
   refine List.pairwise_cons.mpr ⟨fun z hz=>?_,h⟩;rcases aS7.mp hz with rfl | hz
   ·exact hx
   ·exact Int.le_trans (h1 z hz) hx
  ·rename_i hx
   refine List.pairwise_cons.mpr ⟨fun z hz=>?_,ML x ys h2⟩;rcases aS7.mp ((BV x ys).mem_iff.mp hz) with rfl | hz
   ·show z<=y
    lia
   ·exact h1 z hz
theorem SJ:∀ xs:List Int,(zE xs).Pairwise (· >= ·)
 | []=>.nil
 | x::xs=>ML x _ (SJ xs)
theorem IW:∀ (a b:List Int),a.Perm b->a.Pairwise (· >= ·)->b.Pairwise (· >= ·)->a=b
 | [],b,hp,_,_=>(List.Perm.nil_eq hp)
 | x::a,[],hp,_,_=>absurd hp.length_eq (by simp)
 | x::a,y::b,hp,ha,hb=>by
  obtain⟨p1,p2⟩:=List.pairwise_cons.mp ha;obtain⟨q1,q2⟩:=List.pairwise_cons.mp hb;have e:x=y:=by
   rcases aS7.mp (hp.mem_iff.mp aRz) with e | e
   ·exact e
   ·rcases aS7.mp (hp.mem_iff.mpr aRz) with e' | e'
    ·exact e'.symm
    ·have h1:y >= x:=q1 x e
     have h2:x >= y:=p1 y e';lia
  subst e;rw[IW a b (List.Perm.cons_inv hp) p2 q2]
theorem MO:∀ {ns:List Int}{its:List Value},aQ (ns.map V.int) its->IntsAre its ns
 | [],_,h=>by cases h;exact .nil
 | n::ns,_,h=>by
  cases h with
  | cons r rr=>
   obtain⟨t,rfl⟩:=r;exact .cons n t (MO rr)
def zH{ns:List Int}{its:List Value}(h:IntsAre its ns):aQ (ns.map V.int) its:=by
 induction h with
 | nil=>exact .nil
 | cons n t _ ih=>exact .cons ⟨t,rfl⟩ ih
section
variable {e:Expr}{f:Rho->Option T}{n:Bool}{l:Nat}{x:Str}
def WW:eF X (.builtin "abs") (fun xs H Q=>∃ i:Int,xs=[.int i]/\Q (.int (if i<0 then -i else i)) H):=by
 rw[16];obtain⟨i,rfl,q⟩:=h;obtain⟨u,rfl,t,rfl⟩:=jM r;exact call_abs_int fun u tk=>⟨.int _,H,I.tok _,⟨_,rfl⟩,q⟩
noncomputable def uA:List T->Option T
 | [.int i]=>some (.int (if i<0 then -i else i))
 | _=>none
def NP(i:Int):uA [.int i]=some (.int (i.natAbs:Int)):=by
 show some (T.int (if i<0 then -i else i))=_
 congr 2
 split<;>lia
theorem aA7(hx:x = "abs")(hg:Gl X x)(hm:X.mg x=none)(ha:GA X B fl (e::es) fa l)
  (he:aVc X e es:=by rfl) (hpl:aVe X pos es:=by rfl):GE X B fl (.Call (.Name x p') (e::es) [] pos) (aG fa uA) true 3:=by
 subst hx;refine bC (nE WW hg hm PyProof.Rows.boot_abs ha (by decide) (by decide) he hpl) ?_;rw[0];rw[5];rw[6]
 match ts,hf with
 | [.int i],hf=>
  rw[4];rw[25];cases (show _=_ from ry);exact⟨i,rfl,q _ H1 s1 ((aO.scal rfl).mpr rfl)⟩
def pB:T->T->Option T:=oI (fun _ j=>decide (j≠0)&&decide (j.natAbs<2^9000)) fun i j=>.int (i.fdiv j)
def NQ{i j:Int}(h:j≠0)(h2:j.natAbs<2^9000):pB (.int i) (.int j)=some (.int (i.fdiv j)):=by
 simp only[pB,wU];rw[aUc (by rw[aUj h,aUj h2];rfl)]
def aGu:OpR X (binaryOp .FloorDiv) (rI (fun _ j=>j≠0/\j.natAbs<2^9000) fun i j=>.int (i.fdiv j)):=opI fun _ _ _ _ _ _ _ hc q=>floordiv_int hc.1 q (.inl (PyProof.noPylong_of_log2 ((Nat.log2_lt (by lia)).mpr hc.2)))
def KU{a b:Expr}{g:Rho->Option T}(ha:GE X B fl a f n l)(hb:GE X B fl b g n' l'):GE X B fl (.BinOp a .FloorDiv b pos) (f2 f g pB) true 3:=gH aGu (pO (fun _ _ k=>by simpa only [aSb,aUh] using k) (fun _ _=>rfl) fun _ _=>rfl) ha hb
def xS(js:List Nat)(f:Rho->Option T):Rho->Option Out:=fun ρ=>(f ρ).bind fun t=>match t with | .tup us=>(setL ρ js us).map .nx | _=>none
def aJ8{js:List Nat}{f:Rho->Option T}{ρ ρ':Rho}{us:List T}(h:f ρ=some (.tup us))(h2:setL ρ js us=some ρ'):xS js f ρ=some (.nx ρ'):=by
 unfold xS;rw[h];simp only[Option.bind_some,h2,Option.map_some]
theorem aBx(js:List Nat){elts:List Expr}{k m:Nat}(hc:X.calm=true)(he:GE X B fl e f n' l')
  (hg:PGs X elts (gNs js)) (hfl:(js.all fun j=>decide (j<fl.length)&&decide (fl.getD j 1=1))=true) (hli:decide (1<=l')=true)
  (hn:(assignEach elts X.env).length=m:=by rfl) (hst:(assignEach elts X.env).findIdx? (·.1)=none:=by rfl) (hm:js.length=m:=by rfl)
  (hs:swapsWithSole [.Tuple elts k p2] e pos.line X.env=pure false:=by rfl) (hw:swappedStores [.Tuple elts k p2] e X.env=pure none:=by rfl)
  (h1:(assignEach [.Tuple elts k p2] X.env).map (·.2)=[assign (.Tuple elts k p2) X.env]:=by rfl):
  GS X B fl n l (.Assign [.Tuple elts k p2] e pos) (xS js f):=by
 have hfl':∀ j∈js,j<fl.length/\1<=fl.getD j 1/\min (fl.getD j 1) 2<=1:=fun j hj=>by
  have:=aS1.mp hfl j hj;simp only[aSb,aUh] at this;exact⟨this.1,by lia,by lia⟩
 have hli:=aUe hli;refine cV (aIe he (DJ hc hg hn hst) hs hw h1) ?_;rw[14];obtain⟨t,ht,hr⟩:=bind_some hr;refine⟨Ex,ρ,M,t,S,ht,fun v H1 s1 rx=>?_⟩
 match t,hr with
 | .tup us,hr=>
  have hr:(setL ρ js us).map Out.nx=some o:=hr;cases hs:setL ρ js us with
  | none=>rw[hs] at hr;cases hr
  | some ρ'=>
   rw[hs] at hr;rw[27];obtain⟨a,xs,rfl,h3,h4⟩:=mF (rx.rep S);refine⟨a,xs,rfl,h3,?_,?_,?_⟩
   ·rw[<- h4.length,zD _ _ _ _ hs];exact hm
   ·rw[<- h4.length];exact zD _ _ _ _ hs
   ·exact q _ M H1 ((S.grow s1).setL js us xs hfl' (h4.weak fun b x=>⟨fun z=>x.1 (by lia),fun z=>by lia,fun z=>by lia⟩) hs)
end
theorem aA6{p:Rho->Option Bool}{r:Rho->Option Out}{st:Nat->Nat->Option T->Rho}(hp:∀ a b x,p (st a b x)=some (decide (b≠0)))
  (hr:∀ a b x,0<b->∃ x',r (st a b x)=some (.nx (st b (a%b) x'))):∀ m k a b x,b<=a->a*b<2^m->m<k->∃ x',eP p r k (st a b x)=some (.nx (st (Nat.gcd a b) 0 x')):=by
 have z:∀ k a x,0<k->∃ x',eP p r k (st a 0 x)=some (.nx (st (Nat.gcd a 0) 0 x')):=fun k a x hk=>by
  obtain⟨k,rfl⟩:∃ k',k=k'+1:=⟨k-1,by lia⟩;refine⟨x,?_⟩;rw[eP,hp];simp
 intro m
 induction m with
 | zero=>
  intro k a b x hab h hk;have hb:b=0:=by
   rcases Nat.eq_zero_or_pos b with e | e
   ·exact e
   ·have:=Nat.mul_pos (show 0<a by lia) e;lia
  subst hb;exact z k a x hk
 | succ m ih=>
  intro k a b x hab h hk;rcases Nat.eq_zero_or_pos b with e | e
  ·subst e;exact z k a x (by lia)
  ·obtain⟨k,rfl⟩:∃ k',k=k'+1:=⟨k-1,by lia⟩
   obtain⟨x1,h1⟩:=hr a b x e;have hlt:=Nat.mod_lt a e;have hq:b+a%b<=a:=by
    have h2:=Nat.div_add_mod a b;have h3:1<=a / b:=(Nat.one_le_div_iff e).mpr hab;have h4:b*1<=b*(a / b):=Nat.mul_le_mul_left b h3;lia
   have h5:b*(a%b)<2^m:=by
    have h6:(b+a%b)*b<=a*b:=Nat.mul_le_mul_right b hq;have h7:a%b*b<=b*b:=Nat.mul_le_mul_right b (by lia);rw[Nat.add_mul] at h6;rw[Nat.pow_succ] at h;have h8:b*(a%b)=a%b*b:=Nat.mul_comm _ _;lia
   obtain⟨x',h9⟩:=ih k b (a%b) x1 (by lia) h5 (by lia);refine⟨x',?_⟩;rw[eP,hp,h1];have hd:decide (b≠0)=true:=aUj (by lia);rw[hd];simp only[Option.bind_some,aUb];rw[h9,Nat.gcd_comm a b,Nat.gcd_rec b a,Nat.gcd_comm]
def KO{p:Rho->Option Bool}{r:Rho->Option Out}{st:Nat->Nat->Option T->Rho}(hp:∀ a b x,p (st a b x)=some (decide (b≠0)))
  (hr:∀ a b x,0<b->∃ x',r (st a b x)=some (.nx (st b (a%b) x'))) (a b:Nat) (x:Option T) (hb:b<2^9000):∃ x',rL p r (st a b x)=some (.nx (st (Nat.gcd a b) 0 x')):=by
 unfold rL;rcases Nat.eq_zero_or_pos b with e | e
 ·subst e
  refine⟨x,?_⟩;rw[show (100000:Nat)=99999+1 from rfl,eP,hp];simp
 ·obtain⟨x1,h1⟩:=hr a b x e
  have hlt:=Nat.mod_lt a e;have hm:b*(a%b)<2^18000:=by
   have h2:b*(a%b)<=b*b:=Nat.mul_le_mul_left b (by lia);have h3:b*b<2^9000*2^9000:=Nat.mul_lt_mul'' hb hb;rw[<- Nat.pow_add] at h3;exact Nat.lt_of_le_of_lt h2 h3
  obtain⟨x',h9⟩:=aA6 hp hr 18000 99999 b (a%b) x1 (by lia) hm (by lia);refine⟨x',?_⟩;rw[show (100000:Nat)=99999+1 from rfl,eP,hp,h1];have hd:decide (b≠0)=true:=aUj (by lia);rw[hd];simp only[Option.bind_some,aUb];rw[h9,Nat.gcd_comm a b,Nat.gcd_rec b a,Nat.gcd_comm]
noncomputable def frD(t b:Int):Int:=if b<0 then -(Int.gcd t b:Int) else (Int.gcd t b:Int)
def frI(t b:Int):Int × Int:=(t.fdiv (frD t b),b.fdiv (frD t b))
def KH{t b:Int}(hb:b≠0):frD t b≠0/\(frD t b).natAbs<=b.natAbs/\t=frD t b*(frI t b).1/\b=frD t b*(frI t b).2/\0<(frI t b).2/\Int.gcd (frI t b).1 (frI t b).2=1/\(frD t b).natAbs=Int.gcd t b:=by
 have hg:0<Int.gcd t b:=Int.gcd_pos_of_ne_zero_right t hb;have hn:(frD t b).natAbs=Int.gcd t b:=by unfold frD;split<;>lia
 have h0:frD t b≠0:=by lia
 have d1:frD t b ∣ t:=by
  rw[<- Int.natAbs_dvd,hn];exact Int.gcd_dvd_left t b
 have d2:frD t b ∣ b:=by
  rw[<- Int.natAbs_dvd,hn];exact Int.gcd_dvd_right t b
 have e1:t=frD t b*(frI t b).1:=(Int.mul_fdiv_cancel' d1).symm;have e2:b=frD t b*(frI t b).2:=(Int.mul_fdiv_cancel' d2).symm;have hle:(frD t b).natAbs<=b.natAbs:=by rw[hn];exact Nat.le_of_dvd (by lia) (Int.natAbs_dvd_natAbs.mpr (Int.gcd_dvd_right t b))
 have hs:0<(frI t b).2:=by
  rcases Int.lt_or_le b 0 with h | h
  ·have hd:frD t b<0:=by unfold frD;rw[aUc h];lia
   rcases Int.lt_or_le 0 (frI t b).2 with k | k
   ·exact k
   ·have:=Int.mul_nonneg_of_nonpos_of_nonpos (Int.le_of_lt hd) k
    lia
  ·have hd:0<frD t b:=by unfold frD;rw[aUd (by lia)];lia
   rcases Int.lt_or_le 0 (frI t b).2 with k | k
   ·exact k
   ·have:=Int.mul_nonpos_of_nonneg_of_nonpos (Int.le_of_lt hd) k
    lia
 refine⟨h0,hle,e1,e2,hs,?_,hn⟩;have hh:Int.gcd t b=(frD t b).natAbs*Int.gcd (frI t b).1 (frI t b).2:=by
  have q:=Int.gcd_mul_left (frD t b) (frI t b).1 (frI t b).2;rw[<- e1,<- e2] at q;exact q
 rw[hn] at hh;exact Nat.eq_of_mul_eq_mul_left hg (by lia)
end G
namespace G
end G
namespace G
end G
namespace G
open PySem PySem.Spec PyProof.Rows L2
def zz0{α:Type _}{a:α}{l:List α}:(a::l)[0]?=some a:=List.getElem?_cons_zero
def zz1{α:Type _}{a:α}{i:Nat}{l:List α}:(a::l)[i+1]?=l[i]?:=List.getElem?_cons_succ
def zz2{α β:Type _}(a:α)(f:α->Option β):(some a).bind f=f a:=Option.bind_some a f
def zz3{α β:Type _}(a:α)(f:α->β):(some a).map f=some (f a):=Option.map_some ..
end G
namespace G
end G
namespace G
open PySem PySem.Spec PyProof.Rows L2
def xR(i:Nat)(f:Rho->Option T):Rho->Option Out:=fun ρ=>(aA i ρ).bind fun t=>(f ρ).bind fun u=>match t,u with
 | .lst ts,.lst us=>if ts.length+us.length<=cap then some (.nx (ρ.set i (some (.lst (ts++us))))) else none
 | _,_=>none
@[simp] theorem DU(i:Nat)(f:Rho->Option T)(ρ:Rho):xR i f ρ=(aA i ρ).bind fun t=>(f ρ).bind fun u=>match t,u with
 | .lst ts,.lst us=>if ts.length+us.length<=cap then some (.nx (ρ.set i (some (.lst (ts++us))))) else none
 | _,_=>none:=id rfl
section
variable {X:Cx}{B:Hp}{fl:List Nat}{n:Bool}{l l':Nat}{e:Expr}{f:Rho->Option T}{x y:Str}{pos pos':Pos}
theorem QC{K:PySem.W.Frag}{H:Hp}{A:Addr->Prop}:∀ {ts:List T}{xs:List V}{us:List T}{zs:List V},RepL K H A ts xs->RepL K H A us zs->RepL K H A (ts++us) (xs++zs)
 | [],xs,us,zs,h1,h2=>by cases (show xs=[] from h1);exact h2
 | t::ts,xs,us,zs,h1,h2=>by
  obtain⟨x,r,rfl,a,b⟩:=h1;exact⟨x,r++zs,rfl,a,QC b h2⟩
def LQ(i:Nat){apos p2:Pos}(he:GE X B fl e f true l')(h1:(decide (fl.getD i 1=0)&&decide (lc fl<=l'))=true)(hN:X.N[i]?=some x:=by rfl)(hv:Vis X.env.scope x:=by trivial)
  (hd:aVi x:=by decide) (hcd:(x == ("__classdict__" : Str))=false:=by decide)
  (hbase:attributeBase (.Name x p2) "extend" X.env (eval (.Name x p2) X.env)=eval (.Name x p2) X.env:=by rfl)
  (hfew:((backTo pos' (starEach [e] X.env)).all (fun x=>!x.1)&&(backToKw pos' (keywordEach [] X.env)).all (fun x=>x.1.isSome)
   && decide (([e]:List Expr).length+([]:List Keyword).length+(if ([]:List Keyword).isEmpty then 0 else 1)<30))=true:=by rfl)
  (hline:(apos.endLine == pos'.line)=true:=by rfl) (hs:aVd X e:=by rfl) (hsw:swapsWith (.Call (.Attribute (.Name x p2) "extend" apos) [e] [] pos') none pos.line X.env=pure false:=by rfl):
  GS X B fl n l (.Expr (.Call (.Attribute (.Name x p2) "extend" apos) [e] [] pos') pos) (xR i f):=by
 simp only[aSb,aUh] at h1;refine cV (DN (nC PySem.F.plainAttrs_list PySem.F.slot_list_extend PySem.F.type_list_extend aEd (pv (X:=X) i hN hv hd hcd) (cD he cZ hs) hbase hfew hline hs rfl) hsw) ?_;rw[14];obtain⟨t,e1,hr⟩:=bind_some hr;obtain⟨y,e2,hr⟩:=bind_some hr;cases t<;>first | (cases hr;done) | skip
 cases y<;>first | (cases hr;done) | skip
 dsimp only at hr;split at hr
 ·rename_i hl
  rw[27];have e1':=mP e1;have lcl:=nX fl;have lcp:=tV fl;obtain⟨a,ts,xs,e3,e4,e5,e6,e7⟩:=S.muL i _ e1' h1.1;cases e3;refine⟨_,e4,.inl ⟨rfl,xs,SqL.of e5⟩,?_⟩;refine⟨Ex,ρ,M,_,S,e2,fun v H1 s1 rx=>?_⟩;obtain⟨b,zs,rfl,b1,b2,b3⟩:=rx;refine⟨a,b,xs,zs,rfl,rfl,s1 _ _ e5,b2,by rw[<- e6.length,<- b3.length];exact aTr (fI hl),?_⟩;exact q σ M _ ((S.grow s1).write h1.1 e1' e4 e7 (s1 _ _ e5) (QC ((e6.grow s1).weak fun b x=>x.any (by lia)) (b3.weak fun b x=>⟨fun z=>x.1.1 (by lia),fun z=>x.1.2.1 (by lia),fun z=>by lia⟩)))
 ·cases hr
end
noncomputable def aHe:Out->Option T
 | .rt t=>some t
 | _=>none
@[simp] theorem aNp(t:T):aHe (.rt t)=some t:=id rfl
end G
set_option maxRecDepth 100000
namespace HD
open PySem PySem.W PySem.Calls PyProof.Rows
noncomputable def uQ(thr ok:Thread->Bool)(stp:SharedT->Thread->Option (SharedT × Thread))(n:Nat):SharedT->Thread->Option SharedT:=
 @Nat.rec (fun _=>SharedT->Thread->Option SharedT) (fun _ _=>none)
  (fun _ ih s t=>@Bool.rec (fun _=>Option SharedT) (@Bool.rec (fun _=>Option SharedT) none
   (@Option.rec (SharedT × Thread) (fun _=>Option SharedT) none (fun r=>ih r.1 r.2) (stp s t)) (ok t)) (some s) (thr t)) n
theorem QK{tb:String->Option Builtin}{p:Program}{w:World}{n₀:Nat}{ann:Option Value}:∀ {n:Nat}{s s':SharedT}{t:Thread},
  uQ through (stepOk n₀ ann) (stepT (denote tb) p w) n s t=some s'->topRun tb p w n₀ ann n s.abs t=some s'.abs
 | 0,_,_,_,h=>by cases h
 | n+1,s,s',t,h=>by
  have e:uQ through (stepOk n₀ ann) (stepT (denote tb) p w) (n+1) s t=@Bool.rec (fun _=>Option SharedT) (@Bool.rec (fun _=>Option SharedT) none
   (@Option.rec (SharedT × Thread) (fun _=>Option SharedT) none (fun r=>uQ through (stepOk n₀ ann) (stepT (denote tb) p w) n r.1 r.2) (stepT (denote tb) p w s t)) (stepOk n₀ ann t)) (some s) (through t):=rfl
  rw[e] at h;unfold topRun;cases h1:through t with
  | true=>rw[h1] at h;cases h;rfl
  | false=>
   rw[h1] at h;cases h2:stepOk n₀ ann t with
   | false=>rw[h2] at h;cases h
   | true=>
    rw[h2] at h;cases h3:stepT (denote tb) p w s t with
    | none=>rw[h3] at h;cases h
    | some r=>
     obtain⟨s₂,t₂⟩:=r;rw[h3] at h;rw[stepT_spec h3];exact QK h
def aDz{p q:Program}{loose:List Str}{Xt:Shared->Bool}{α:Type}{Yf:Shared->α}{Ya:World->α}{N:Nat}{g0:Bool}{B:Params->BT}{b:Nat}{life:Life}{m₀:Nat}{ann:Option Value}{M:Nat}
  (open_:∀ w:World,(fencedOpening treeTable p w N).map (fun s=>(s.heap,s.gens,s.drawn,s.toks))=some (boot_heap w.params,Array.mk [],boot_drawn,boot_toks))
  (hb:∀ P:Params,absHeap (B P) b life=boot_heap P)
  (size:∀ w:World,((boot_heap w.params).isNs mainGlobals&&(Array.mk []:Array GenState).size == 0,(boot_heap w.params).objs.size,(boot_heap w.params).nsMap mainGlobals "__annotations__")=(true,m₀,ann))
  (le:Nat.ble M N=true)
  (ev:∀ (w:World) (os:OsState),(uQ through (stepOk m₀ ann) (stepT (denote treeTable) p w) M ⟨B w.params,b,life,Array.mk [],boot_drawn,boot_toks,os⟩ (topStub p)).map (fun s=>
    ((staticsOk (importedModules p.main.body) (boot_heap w.params) s.abs.heap&&namesBound p s.abs.heap&&gensDone s.abs&&laidKept (boot_heap w.params) s.abs.heap),
    openSeen q loose (importedModules p.main.body) Xt g0 s.abs,Yf s.abs))=some (true,openGood q loose,Ya w)):LeftO p q loose Xt Yf Ya N g0:=fun w=>by
 obtain⟨⟨h,gs,d,k,os⟩,e,e'⟩:=Option.map_eq_some_iff.mp (open_ w);obtain⟨rfl,rfl,rfl,rfl⟩:h=boot_heap w.params/\gs=Array.mk []/\d=boot_drawn/\k=boot_toks:=by simpa using e'
 obtain⟨z1,z2,z3⟩:_/\_/\_:=by simpa only [Prod.mk.injEq] using size w
 obtain⟨s₁,r0,r1⟩:=Option.map_eq_some_iff.mp (ev w os);obtain⟨l1,l2,l3⟩:_/\_/\_:=by simpa only [Prod.mk.injEq] using r1
 have r:=topRun_mono (N-M) _ _ _ _ (QK r0);rw[show M+(N-M)=N by have:=Nat.le_of_ble_eq_true le;lia] at r;have r:topRun treeTable p w m₀ ann N ⟨absHeap (B w.params) b life,Array.mk [],boot_drawn,boot_toks,os⟩ (topStub p)=some s₁.abs:=r;rw[hb] at r;have t:topFrom treeTable p w N ⟨boot_heap w.params,Array.mk [],boot_drawn,boot_toks,os⟩=some s₁.abs:=by
  unfold topFrom;dsimp only;rw[z1,z2,z3,r];show (match staticsOk (importedModules p.main.body) (boot_heap w.params) s₁.abs.heap&&namesBound p s₁.abs.heap&&gensDone s₁.abs&&laidKept (boot_heap w.params) s₁.abs.heap with | true=>_ | false=>_)=_
  rw[l1]
 unfold openEnds;rw[e];show (topFrom treeTable p w N _).map _=_;rw[t];exact congrArg some (Prod.ext l2 l3)
noncomputable def bT(P:Params):BT:=(BT.node (boot_o_0 P) (BT.node (boot_o_1 P) (BT.node (boot_o_3 P) (BT.node (boot_o_7 P) BT.nil BT.nil) BT.nil) (BT.node (boot_o_5 P) (BT.node (boot_o_9 P) BT.nil BT.nil) BT.nil)) (BT.node (boot_o_2 P) (BT.node (boot_o_4 P) (BT.node (boot_o_8 P) BT.nil BT.nil) BT.nil) (BT.node (boot_o_6 P) (BT.node (boot_o_10 P) BT.nil BT.nil) BT.nil)))
def WM:∀ P:Params,absHeap (bT P) 11 {}=boot_heap P:=fun P=>by kernel_rfl
def WN:∀ w:World,((boot_heap w.params).isNs mainGlobals&&(Array.mk []:Array GenState).size == 0,(boot_heap w.params).objs.size,(boot_heap w.params).nsMap mainGlobals "__annotations__")=(true,11,some (.ref 6)):=fun w=>by kernel_rfl
def Ev(p q:Program)(loose:List Str)(Xt:Shared->Bool){α:Type}(Yf:Shared->α)(Ya:World->α)(N:Nat)(w:World):Prop:=
 ∀ os:OsState,(uQ through (PySem.W.Fast.tw6613529449190102663 11 (some (.ref 6))) (PySem.W.Fast.tw10156331382660048174 (PySem.W.Fast.tw11892475500146522536 PySem.W.Fast.tw14364793385576792824) p w) N ⟨bT w.params,11,{},Array.mk [],boot_drawn,boot_toks,os⟩ (topStub p)).map (fun s=>
    ((staticsOk (importedModules p.main.body) (boot_heap w.params) s.abs.heap&&namesBound p s.abs.heap&&gensDone s.abs&&laidKept (boot_heap w.params) s.abs.heap),
    PySem.W.Fast.tw4187177175401517315 q loose (importedModules p.main.body) Xt true s.abs,Yf s.abs))=some (true,openGood q loose,Ya w)
def left_of{p q:Program}{loose:List Str}{Xt:Shared->Bool}{α:Type}{Yf:Shared->α}{Ya:World->α}{N:Nat}
  (open_:∀ w:World,(fencedOpening treeTable p w N).map (fun s=>(s.heap,s.gens,s.drawn,s.toks))=some (boot_heap w.params,Array.mk [],boot_drawn,boot_toks))
  (ev:∀ w:World,Ev p q loose Xt Yf Ya N w):LeftO p q loose Xt Yf Ya N:=
 aDz open_ WM WN (Nat.ble_eq_true_of_le (aTs N)) (by
  rw[PySem.W.Fast.te6613529449190102663,PySem.W.Fast.te10156331382660048174,PySem.W.Fast.te11892475500146522536,PySem.W.Fast.te14364793385576792824,PySem.W.Fast.te4187177175401517315];exact ev)
def said_of{l:OpenLaw}(h:PySem.W.Fast.tw9446332074065402090 l=true):l.wellSaid=true:=by rw[PySem.W.Fast.te9446332074065402090];exact h
noncomputable def kE(P:Params)(x:Str)(t:Nat)(v:Value):DictEntry:=⟨PyData.keyHash P x,.str x t,v⟩
noncomputable def kC(a:Str)(t:Nat)(l m x:Int)(r:Addr)(b:Bool)(u:Int)(r2:Addr)(v1 v2 v3 v4:Value)(z:Nat):Obj:=
 ⟨.type "code",none,.fields #[.str a t,.str a (t+1),.str "/claim/cut.py" (t+2),.int l 0,.int m 0,.int 0 0,.int 0 0,.int x 0,.ref r,.bool b,.int u 0,.ref r2,v1,v2,v3,v4,.int (z:Int) 0,.int l 0,.str "/claim/cut.py" (z+1)],#[]⟩
end HD
namespace G
open PySem PySem.Spec PyProof.Rows L2
abbrev Z3(h:Heap)(n:Nat)(f0:Value):Prop:=
 h.get? (n+5)=some { cls:=.type "zip",dict:=none,data:=.fields #[f0,.bool false,.bool false,.ref (n+3),.ref (n+4)],slots:=#[] }
def bL{a b:Nat}(h:a<b):(a:Addr)≠b/\(b:Addr)≠a:=⟨aU0 h,aTz h⟩
end G
namespace G
open PySem
noncomputable def iv:Value->Int
 | .int i _=>i
 | _=>0
noncomputable def met(ns:List Int):List Int:=ns.foldl (fun ks k=>if k∈ks then ks else k::ks) []
noncomputable def dr(es:Array (Int × Value))(t:SetTable):Bool:=!t.plain&&es.size > 1
end G
namespace G
open PySem PyProof.Rows
end G
namespace G
open PySem PySem.Spec PyProof.Rows L2
end G
namespace G
open PySem PySem.Calls PyProof.Rows
end G
namespace G
open PySem PySem.Spec PyProof.Rows L2
def fV(ns:List Int):List Int:=(zE ns).reverse
def SL(ns:List Int):(fV ns).Perm ns:=(List.reverse_perm _).trans (SK ns)
def aKs(ns:List Int):(fV ns).Pairwise (·<=·):=List.pairwise_reverse.mpr (SJ ns)
def WC{a b:List Int}(hp:a.Perm b)(ha:a.Pairwise (·<=·))(hb:b.Pairwise (·<=·)):a=b:=by
 have:=IW a.reverse b.reverse ((List.reverse_perm _).trans (hp.trans (List.reverse_perm _).symm)) (List.pairwise_reverse.mpr ha) (List.pairwise_reverse.mpr hb);have h2:=congrArg List.reverse this
 simpa using h2
section
variable {X:Cx}{B:Hp}{fl:List Nat}{e:Expr}{es:List Expr}{fa:Rho->Option (List T)}{l:Nat}{pos p':Pos}{x:Str}
def XG:eF X (.builtin "sorted") (fun vs H Q=>∃ a ns,vs=[.ref a]/\SqL X.K H a (List.map V.int ns)/\ns.length<64/\∀ q,H q=none->Q (.ref q) (upd H q (.lst ((fV ns).map V.int)))):=by
 intro pins s σ H vs us Q I r h;obtain⟨a,ns,rfl,hS,h64,q⟩:=h;obtain⟨u,rfl,ru⟩:=jM r;cases ru;obtain⟨its,rv,pl,hz⟩:=I.list hS;have hl:=rv.length;refine sorted_ints pl.isList (MO rv) (by rw[<- hl,aT5];exact h64) fun out ns' a1 a2 a3=>?_;have e':ns'=fV ns:=WC (a2.trans (SL ns).symm) a3 (aKs ns);subst e';obtain⟨c',hc'⟩:=sortedAll_at s.heap its out;refine⟨.ref _,_,I.laid (t':=s.toks) (o:=.lst ((fV ns).map V.int)) (fun b o e=>sortedAll_old e) (Nat.le_succ _) ⟨?_,out.toList,c',zH a1,?_⟩,rfl,q _ (I.hok.fresh (Nat.le_succ _))⟩
 ·rw[aT5,(SL ns).length_eq,aUm];lia
 ·rw[hc']
def wY:List T->Option T
 | [.lst ts]=>(kQ ts).bind fun ns=>if ns.length<64 then some (.lst (tI (fV ns))) else none
 | _=>none
def NY{ns:List Int}(h:ns.length<64):wY [.lst (tI ns)]=some (.lst (tI (fV ns))):=by simp[wY,HZ,h]
theorem aB1(hx:x = "sorted")(hg:Gl X x)(hm:X.mg x=none)(ha:GA X B fl (e::es) fa l)
  (he:aVc X e es:=by rfl) (hpl:aVe X pos es:=by rfl):GE X B fl (.Call (.Name x p') (e::es) [] pos) (aG fa wY) true 3:=by
 subst hx;refine bC (nE XG hg hm PyProof.Rows.boot_sorted ha (by decide) (by decide) he hpl) ?_;rw[0];rw[5];rw[6]
 match ts,hf with
 | [.lst us],hf=>
  have hf:((kQ us).bind fun ns=>if ns.length<64 then some (T.lst (tI (fV ns))) else none)=some t:=hf;obtain⟨ns,hns,hf2⟩:=bind_some hf
  clear hf
  split at hf2
  ·rename_i h64
   have et:=aRv hf2;subst et;cases HY hns;rw[25];obtain⟨p,xs,rfl,h1,h2⟩:=ry.sqL;cases QI h2;exact⟨p,ns,rfl,h1,h64,fun p' hp=>q _ _ (s1.trans (cW hp _)) (aO.laid s1 hp (QD _))⟩
  ·cases hf2
end
end G
namespace GN
open PySem PySem.Builtin PySem.Builtin.Str PySem.Builtin.Int PySem.Calls PySem.NumText PyProof.Rows
set_option maxRecDepth 100000
section
variable {prog:Program}{w:World}{A:Around}{E:Value->Shared->Prop}{s:Shared}{a:Int}{t:Tok}
def aJl{Q:Value->Shared->Prop}(hn:s.heap.NoDigits)(hl:a.natAbs<10^4300)(h1:Q (.str (toString a) s.toks) { s with toks:=s.toks+1 }):
  wpAny (model prog w) A (call (.builtin "int.__repr__") [.int a t]) Q E s:=by
 refine aUu F.slot_int_repr (aV6 s a t) F.entry_int_repr ?_ (F.args_int_repr_1 _);unfold Builtin.«int.__repr__»;show wpAny _ _ (do let r <- Builtin.overDigitLimit? a;_) _ _ s;refine aU9 (overDigitLimit_any hn (fun hlt=>?_) (fun hge=>absurd hl (aU1.mpr hge)));exact aU9 (wpAny_mkStr (aUa ⟨_,rfl,h1⟩) (int_text_fits10 hlt))
def aKu{Q:Value->Shared->Prop}(hn:s.heap.NoDigits)(hl:a.natAbs<10^4300)(h1:Q (.str (toString a) s.toks) { s with toks:=s.toks+1 }):
  wpAny (model prog w) A (PySem.Builtin.Str.strOf (.int a t)) Q E s:=by
 unfold PySem.Builtin.Str.strOf;rw[show isExactStr (.int a t)=false from rfl];have hv:[Value.int a t].any Value.onHeap=false:=rfl;simp only[cRoomFor,hv,aSe,aUg,pure_bind];refine aU9 (m:=callSpecial? (.int a t) (("__str__":Str))) (wpAny_callSpecial?_slot (name:=("__str__":Str)) (aV6 s a t) F.slot_int_str ?_);refine aUu F.slot_int_str (aV6 s a t) entry_object_str ?_ (args_object_str _);unfold Builtin.«object.__str__»;refine aU9 (m:=slotArgs "__str__" 0 _) (aUa ?_);simp only[cRoomFor,hv,aSe,aUg,pure_bind];refine aU9 (m:=callSpecialIfBound? (.int a t) (("__repr__":Str))) (wpAny_callSpecialIfBound?_slot (name:=("__repr__":Str)) (aV6 s a t) F.slot_int_repr (aJl hn hl ?_));exact aUa ⟨_,rfl,aUa h1⟩
def str_big{Q:Value->Shared->Prop}(hn:s.heap.NoDigits)(hl:a.natAbs<10^4300)(h1:Q (.str (toString a) s.toks) { s with toks:=s.toks+1 }):
  wpAny (model prog w) A (call (.type "str") [.int a t]) Q E s:=
 callType_new F.called_str (by decide) (F.typeCall_str_1 _) (F.newCall_str_1 _) (fun obj=>F.args_object_init_2 obj _) F.entry_str_new
  (meets_str_new (S:=fun _ R s=>s.heap.NoDigits/\R (.ok (.ret (.str (toString a) s.toks))) { s with toks:=s.toks+1 }) fun _ _ _ _ _ hq=>aKu hq.1 hl hq.2)
  ⟨hn,aUv _ _ _,h1⟩
end
def aMo{M:Model}{A:Around}{E:Value->Shared->Prop}{s:Shared}{Q:Value->Shared->Prop}{v:Value}{text:List Nat}{n:Int}(hn:s.heap.NoDigits)
  (hs:¬ (text.takeWhile (· != 0)).length<=640) (hr:(int_private% "readNumeral") 4300 10 (text.takeWhile (· != 0))=(int_private% "Numeral.value") n)
  (ha:((text.takeWhile (· != 0)).length == text.length)=true) (h:Q (.int n s.toks) { s with toks:=s.toks+1 }):
  wpAny M A ((int_private% "intFromText") v text 10) Q E s:=by
 obtain⟨mc,hns,hnone⟩:=hn;refine aUr (c:=(text.takeWhile (· != 0)).length<=640) (aUi hs) ?_;refine aU9 (m:=Builtin.intMaxStrDigits) ?_;unfold Builtin.intMaxStrDigits;refine aU9 (wpAny_nsGet hns ?_);rw[hnone];refine aUa ?_;dsimp only;rw[hr];dsimp only;rw[aUc ha];exact wpAny_mkInt h
def aMn{M:Model}{A:Around}{E:Value->Shared->Prop}{s:Shared}{Q:Value->Shared->Prop}{v:Value}{text:List Nat}{n:Int}(hn:s.heap.NoDigits)
  (hr:(int_private% "readNumeral") (if (text.takeWhile (· != 0)).length<=640 then 0 else 4300) 10 (text.takeWhile (· != 0))=(int_private% "Numeral.value") n)
  (ha:((text.takeWhile (· != 0)).length == text.length)=true) (h:Q (.int n s.toks) { s with toks:=s.toks+1 }):
  wpAny M A ((int_private% "intFromText") v text 10) Q E s:=by
 by_cases hs:(text.takeWhile (· != 0)).length<=640
 ·rw[aUc hs] at hr
  exact PySem.W.KIN.wp_text hs hr ha h
 ·rw[aUd hs] at hr
  exact aMo hn hs hr ha h
def aEn{x:PySem.Str}{u:Tok}{n:Int}(hl:x.length<=sizeLine)(hn:PySem.intText? x=some n):GivesAt (fun s=>s.heap.NoDigits) (Builtin.«int.__new__» ⟨[.type "int",.str x u],[]⟩) (.int n):=by
 intro prog w A R s hP h;have hr:(int_private% "readNumeral") (numLimitOf x) 10 (numSeenOf x)=(int_private% "Numeral.value") n/\((numSeenOf x).length == (numTextOf x).length)=true:=by
  rcases readAny x hl with ⟨m,h1,h2,h3⟩ | ⟨h1,_⟩
  ·rw[hn] at h1
   injection h1 with h1
   subst h1;exact⟨h3,h2⟩
  ·rw[hn] at h1
   cases h1
 obtain⟨hp,g,d,tk,os⟩:=s;have f1:=F.conv_sub_int;have f2:=F.madeHere_int;have f3:=PySem.W.KIN.str_int;have f4:=PySem.W.KIN.str_idx;have f5:=PySem.W.KIN.str_trunc;have f6:typeOf (.str x u)=pure (.type "str"):=rfl;have hk:=PySem.W.KIN.Hid.mk hr;have hP':=PySem.W.KIN.Hid.mk hP;have h':R (.ok (.ret (.int n tk))) ⟨hp,g,d,tk+1,os⟩:=h
 clear hr hl hn hP h
 repeat (any_goals (first
  | assumption
  | ((with_reducible show wpAny _ _ ((int_private% "intFromText") _ _ _) _ _ _);refine aMn hP'.out hk.out.1 hk.out.2 ?_)
  | wp_step))
def int_big{prog:Program}{w:World}{A:Around}{E:Value->Shared->Prop}{s:Shared}{Q:Value->Shared->Prop}{x:PySem.Str}{t:Tok}{n:Int}(hd:s.heap.NoDigits)(hl:x.length<=sizeLine)(hn:PySem.intText? x=some n)(h:Q (.int n s.toks) { s with toks:=s.toks+1 }):
  wpAny (model prog w) A (call (.type "int") [.str x t]) Q E s:=by
 have g:=aEn (u:=t) hl hn;exact call_int_1 (S:=fun A R s=>s.heap.NoDigits/\(Made.int n).post (fun v s'=>R (.ok (.ret v)) s') s) (fun prog w A R s h=>g prog w A R s h.1 h.2) ⟨hd,show (Made.int n).post _ s from ⟨rfl,h⟩⟩
end GN
namespace G
open PySem PySem.Spec PyProof.Rows L2
def cG:T->T->Option T
 | .str x,.str y=>if x.length+y.length<=cap then some (.str (x++y)) else none
 | _,_=>none
noncomputable def pH(x y:Str):Bool:=!(Builtin.Str.occurrences y x 0 y.length 1).isEmpty
def wV:T->T->Option T
 | .str x,.str y=>some (.bl (pH x y))
 | _,_=>none
noncomputable def gX:T->T->Option T
 | .str x,.int i=>if 0<=i/\i<2^63 then (x.cps[i.toNat]?).map fun c=>.str ⟨#[c]⟩ else none
 | _,_=>none
def mZ:List T->Option T
 | [.str x]=>if x.length<=cap then some (.int x.length) else none
 | _=>none
@[irreducible] noncomputable def figLim:Nat:=10^4300
def qO:figLim=10^4300:=by unfold figLim;rfl
def sZ{n:Nat}(h:n<=cap):n<=sizeLine:=aTt h (by unfold cap;decide)
variable {X:Cx}{B:Hp}{fl:List Nat}{es:List Expr}{fa:Rho->Option (List T)}{n':Bool}{l':Nat}{pos p':Pos}
section
variable {a b e:Expr}{f g:Rho->Option T}{n:Bool}{l:Nat}{x:Str}
def aKn:SOp (fun x y H Q=>∃ i j,x=.str i/\y=.str j/\i.length+j.length<=sizeLine/\Q (.str (i++j)) H) cG:=by
 intro x y t e;cases x<;>first | (cases e;done) | skip
 cases y<;>first | (cases e;done) | skip
 rename_i i j;unfold cG at e;dsimp only at e;split at e
 ·rename_i k
  cases e;exact⟨rfl,rfl,rfl,fun H Q q=>⟨i,j,rfl,rfl,sZ k,q⟩⟩
 ·cases e
def nR(ha:GE X B fl a f n l)(hb:GE X B fl b g n' l'):GE X B fl (.BinOp a .Add b pos) (f2 f g cG) true 3:=gH aGy aKn ha hb
def aKo:SOp (fun x y H Q=>∃ i j,x=.str i/\y=.str j/\Q (.bl (!(Builtin.Str.occurrences j i 0 j.length 1).isEmpty)) H) wV:=by
 intro x y t e;cases x<;>first | (cases e;done) | skip
 cases y<;>first | (cases e;done) | skip
 rename_i i j;cases (aRv (show some (T.bl (pH i j))=some t from e));exact⟨rfl,rfl,rfl,fun H Q q=>⟨i,j,rfl,rfl,q⟩⟩
def KZ(ha:GE X B fl a f n l)(hb:GE X B fl b g n' l')(hm:behindInMarks .In b=false:=by rfl):GE X B fl (.Compare a [.In] [b] pos) (f2 f g wV) true 3:=wD aH3 aKo ha hb hm
def BJ(ha:GE X B fl a f n l)(hb:GE X B fl b g n' l')(hs:HR b:=by exact fun _ _=>rfl):GE X B fl (.Subscript a b pos) (f2 f g gX) true 3:=by
 refine bC (aHs ha hb hs) ?_;rw[0];rw[18];rw[13];have h2:∃ z i,u=.str z/\y=.int i:=by
  cases u<;>first | (cases hf;done) | skip
  cases y<;>first | (cases hf;done) | exact⟨_,_,rfl,rfl⟩
 obtain⟨z,i,rfl,rfl⟩:=h2;unfold gX at hf;dsimp only at hf;split at hf
 rotate_left
 ·cases hf
 rename_i hi;cases hc:z.cps[i.toNat]? with
 | none=>rw[hc] at hf;cases hf
 | some c=>
  rw[hc] at hf;rw[4];refine⟨Ex,ρ,M,_,S,hu,fun vx H1 s1 rx=>⟨Ex,ρ,M,_,S.grow s1,hy,fun vy H2 s2 ry=>?_⟩⟩;cases (show vx=.str z from (aO.scal rfl).mp rx);cases (show vy=.int i from (aO.scal rfl).mp ry);have hlt:i.toNat<z.cps.size:=(Array.getElem?_eq_some_iff.mp hc).1;have hlen:z.length=z.cps.size:=rfl;exact⟨z,i,c,rfl,rfl,hi.1,hi.2,by rw[hlen];lia,hc,q _ H2 (s1.trans s2) ((aO.scal rfl).mpr rfl)⟩
theorem aAp(hx:x = "len")(hg:Gl X x)(hm:X.mg x=none)(ha:GA X B fl (e::es) fa l)
  (he:aVc X e es:=by rfl) (hpl:aVe X pos es:=by rfl):GE X B fl (.Call (.Name x p') (e::es) [] pos) (aG fa mZ) true 3:=by
 subst hx;refine bC (nE XC hg hm PySem.boot_len ha (by decide) (by decide) he hpl) ?_;rw[0];rw[5];rw[6]
 match ts,hf with
 | [.str z],hf=>
  have hf:(if z.length<=cap then some (T.int z.length) else none)=some t:=hf;split at hf
  ·rename_i hz
   rw[4];rw[25];cases (show _=_ from ry);exact⟨z,rfl,sZ hz,q _ H1 s1 ((aO.scal rfl).mpr rfl)⟩
  ·cases hf
def XH:eF X (.type "str") (fun xs H Q=>∃ i:Int,xs=[.int i]/\i.natAbs<figLim/\Q (.str (toString i)) H):=by
 rw[16];obtain⟨i,rfl,hz,q⟩:=h;obtain⟨u,rfl,t,rfl⟩:=jM r;exact GN.str_big I.nodig (qO ▸ hz) ⟨.str (toString i),H,I.tok _,⟨_,rfl⟩,q⟩
end
theorem aKj{X:Cx}{pins:List (Addr × Obj)}{σ:St}{H:Hp}{s:Shared}{z:Str}{t:Tok}{vl vu:Value}{lo hi:Option Int}{Q:VK}(I:Inv X pins σ H s)(pl:IsPart vl lo)(pu:IsPart vu hi)(hz:z.length<=sizeLine)(q:Q (.str (Txt.slice z lo hi)) H):
  ItemOn (model X.prog X.w) X.A X.xe (.str z t) (.ref s.heap.objs.size) (EP X pins σ Q) { s with heap:=s.heap.push { cls:=.type "slice",data:=.fields #[vl,vu,.none] } }:=by
 have hk:KeptH (fun h=>∀ b u,s.heap.get? b=some u->h.get? b=some u):=fun h ob k b u e=>aS6 _ (k b u e);have fin:∀ (h':Heap) (t':Tok) (k:Nat),(∀ b u,s.heap.get? b=some u->h'.get? b=some u)->EP X pins σ Q (.str (Txt.slice z lo hi) t') { s with heap:=h',toks:=k }:=fun h' t' k hh=>⟨.str (Txt.slice z lo hi),H,I.kept hh,⟨_,rfl⟩,q⟩;cases pl with
 | none=>
  cases pu with
  | none=>exact SBH.sliceItem_nn hk (fun b u e=>e) fin hz
  | int j uj=>exact SBH.sliceItem_ns hk (fun b u e=>e) fin hz
 | int i ui=>
  cases pu with
  | none=>exact SBH.sliceItem_sn hk (fun b u e=>e) fin hz
  | int j uj=>exact SBH.sliceItem_ss hk (fun b u e=>e) fin hz
def wA(f:Rho->Option T)(lo hi:Rho->Option (Option Int)):Rho->Option T:=fun ρ=>(f ρ).bind fun x=>(lo ρ).bind fun a=>(hi ρ).bind fun b=>
 match x with
 | .str z=>if z.length<=cap then some (.str (Txt.slice z a b)) else none
 | _=>none
@[simp] theorem JQ(f:Rho->Option T)(lo hi:Rho->Option (Option Int))(ρ:Rho):wA f lo hi ρ=(f ρ).bind fun x=>(lo ρ).bind fun a=>(hi ρ).bind fun b=>
 match x with
 | .str z=>if z.length<=cap then some (.str (Txt.slice z a b)) else none
 | _=>none:=id rfl
def aB0{X:Cx}{B:Hp}{fl:List Nat}{e:Expr}{f:Rho->Option T}{n:Bool}{l:Nat}{pos:Pos}{lo hi:Option Expr}{fl' fh:Rho->Option (Option Int)}{p2:Pos}(he:GE X B fl e f n l)(hl:GO X B fl lo fl')(hh:GO X B fl hi fh):
  GE X B fl (.Subscript e (.Slice lo hi none p2) pos) (wA f fl' fh) true 3:=by
 intro pins s σ H Q I hq;obtain⟨Ex,ρ,M,t,S,hf,q⟩:=hq;rw[9];obtain⟨a,ha,hf⟩:=bind_some hf;obtain⟨b,hb,hf⟩:=bind_some hf;have hx2:∃ z,x=.str z:=by
  cases x<;>first | (cases hf;done) | exact⟨_,rfl⟩
 obtain⟨z,rfl⟩:=hx2;dsimp only at hf;split at hf
 rotate_left
 ·cases hf
 rename_i hz;rw[4];refine Subscript_ (thn (he pins s σ H (fun v H1=>aL H H1/\v=.str z) I ⟨Ex,ρ,M,_,S,hx,fun v H1 s1 r1=>⟨s1,(aO.scal rfl).mp r1⟩⟩) fun v s1 ⟨x,H1,I1,r1,s01,rx⟩=>?_);subst rx;refine wpAny_Slice (thn (hl pins s1 σ H1 (fun o H2=>o=a/\aL H1 H2) I1 ⟨Ex,ρ,M,a,S.grow s01,ha,fun H2 s2=>⟨rfl,s2⟩⟩) fun vl s2 ⟨o,H2,I2,pl,e2,s12⟩=>?_);subst e2;refine thn (hh pins s2 σ H2 (fun o H3=>o=b/\aL H2 H3) I2 ⟨Ex,ρ,M,b,S.grow (s01.trans s12),hb,fun H3 s3=>⟨rfl,s3⟩⟩) fun vu s3 ⟨o2,H3,I3,pu,e3,s23⟩=>?_;subst e3;rw[evalPart_none];refine aUa ?_;obtain⟨tk,rfl⟩:=r1;obtain⟨T,id,hT,ht,hg⟩:=aKj (t:=tk) (Q:=Q) I3 pl pu (sZ hz) (q _ H3 ((s01.trans s12).trans s23) ((aO.scal rfl).mpr rfl));show wpAny (model X.prog X.w) X.A (subscriptTail e (.Slice lo hi none p2) (.str z tk) (.ref s3.heap.objs.size)) (EP X pins σ Q) X.xe { s3 with heap:=s3.heap.push { cls:=.type "slice",data:=.fields #[vl,vu,.none] } };exact tail_any (ops:=[.ref s3.heap.objs.size,.str z tk]) ht hT hg (by with_unfolding_all rfl)
noncomputable def uH:T->T->Option T
 | .str x,.str y=>some (.bl (Txt.startswith x y))
 | _,_=>none
section
variable {a b:Expr}{f g:Rho->Option T}{n:Bool}{l:Nat}{apos cpos:Pos}
def aB2(ha:GE X B fl a f n l)(hb:GE X B fl b g n' l')(m:M1 X a "startswith" apos b cpos:=by exact⟨rfl,rfl,rfl,rfl⟩):GE X B fl (.Call (.Attribute a "startswith" apos) [b] [] cpos) (f2 f g uH) true 3:=by
 rw[2];obtain⟨Ex,ρ,M,t,S,hf,q⟩:=h;rw[18];rw[13];have h2:∃ z w,u=.str z/\y=.str w:=by
  cases u<;>first | (cases hf;done) | skip
  cases y<;>first | (cases hf;done) | exact⟨_,_,rfl,rfl⟩
 obtain⟨z,w,rfl,rfl⟩:=h2;cases (aRv (show some (T.bl (Txt.startswith z w))=some t from hf));refine wpAny_Call_method_lateS m.base m.few m.line (thn (ha pins s σ H (fun v H1=>aL H H1/\v=.str z) I ⟨Ex,ρ,M,_,S,hu,fun v H1 s1 r1=>⟨s1,(aO.scal rfl).mp r1⟩⟩) fun v s1 ⟨x,H1,I1,r1,s01,rx⟩=>?_);subst rx;obtain⟨tk,rfl⟩:=r1;rw[m.trees];refine SB.startswith (thn (hb pins s1 σ H1 (fun v H2=>aL H1 H2/\v=.str w) I1 ⟨Ex,ρ,M,_,S.grow s01,hy,fun v H2 s2 r2=>⟨s2,(aO.scal rfl).mp r2⟩⟩) fun v2 s2 ⟨x2,H2,I2,r2,s12,rx2⟩=>?_);subst rx2;obtain⟨tk2,rfl⟩:=r2;exact⟨w,tk2,rfl,.bl (Txt.startswith z w),H2,I2,rfl,q _ H2 (s01.trans s12) ((aO.scal rfl).mpr rfl)⟩
end
noncomputable def Its(x:Str):It:=⟨fun i _=>i<x.cps.size,fun i H v H'=>H'=H/\∃ c,x.cps[i]?=some c/\v=.str ⟨#[c]⟩,fun i _=>x.cps.size<=i⟩
def aMb{P:Program}{w:World}{K:PySem.W.Frag}{tg:Expr}(x:Str)(t:Tok)(it:Addr):Turn P w K tg (Its x) [it] it (fun i h=>h.IsStrIter it "str_iterator" x t i) where
 mem:=by simp
 obj:=fun i h st b hb=>by
  have e:b=it:=by simpa using hb
  subst e;obtain⟨o,e,c,d⟩:=st;rw[23]
 keep:=fun i h h' st k=>by
  obtain⟨o,e,r⟩:=st;exact⟨o,k it (by simp) o e,r⟩
 item:=by
  rw[1];rw[28];have hg:i<x.cps.size:=hg;rw[8];have hx:x.cps[i]?=some x.cps[i]:=Array.getElem?_eq_getElem hg;refine wpAny_pyNext_wide_item st hx fun h' st' sb=>?_;rw[77]
 done:=by
  rw[1];rw[28];have hg:x.cps.size<=i:=hg;rw[8];exact wpAny_pyNext_wide_end (I.ok.hd hc) st (Array.getElem?_eq_none hg) fun h' eb=>⟨rfl,I.turned (t':=s.toks) (fun b o hb e=>eb b o hb e) f0 f1 f3 f4 f5⟩
 self:=fun _ _ _ _ _ st h=>wpAny_pyIter_striter_wide st h
def aMa{P:Program}{w:World}{K:PySem.W.Frag}{tg:Expr}(x:Str)(t:Tok)(it:Addr):Turn P w K tg (Its x) [it] it (fun i h=>h.IsStrIter it "str_ascii_iterator" x t i) where
 mem:=by simp
 obj:=fun i h st b hb=>by
  have e:b=it:=by simpa using hb
  subst e;obtain⟨o,e,c,d⟩:=st;rw[23]
 keep:=fun i h h' st k=>by
  obtain⟨o,e,r⟩:=st;exact⟨o,k it (by simp) o e,r⟩
 item:=by
  rw[1];rw[28];have hg:i<x.cps.size:=hg;rw[8];have hx:x.cps[i]?=some x.cps[i]:=Array.getElem?_eq_getElem hg;refine wpAny_pyNext_ascii_item st hx fun h' st' sb=>?_;rw[77]
 done:=by
  rw[1];rw[28];have hg:x.cps.size<=i:=hg;rw[8];exact wpAny_pyNext_ascii_end (I.ok.hd hc) st (Array.getElem?_eq_none hg) fun h' eb=>⟨rfl,I.turned (t':=s.toks) (fun b o hb e=>eb b o hb e) f0 f1 f3 f4 f5⟩
 self:=fun _ _ _ _ _ st h=>wpAny_pyIter_striter_ascii st h
noncomputable def signs(x:Str):List T:=x.cps.toList.map fun c=>.str ⟨#[c]⟩
def tJ(f:Rho->Option T):Rho->Option (List T):=fun ρ=>(f ρ).bind fun t=>match t with | .str x=>some (signs x) | _=>none
@[simp] theorem JR(f:Rho->Option T)(ρ:Rho):tJ f ρ=(f ρ).bind fun t=>match t with | .str x=>some (signs x) | _=>none:=id rfl
def aMj{K:PySem.W.Frag}(x:Str):nI K (Its x) [] (signs x) true:=by
 intro H A _ i;unfold signs;refine⟨fun t ht=>?_,fun hi=>by show x.cps.size<=i;simpa using hi⟩;rw[aT0] at ht;cases e:x.cps.toList[i]? with
 | none=>rw[e] at ht;cases ht
 | some c=>
  rw[e] at ht;cases (aRv ht);have e':x.cps[i]?=some c:=by rw[<- Array.getElem?_toList];exact e
  refine⟨(Array.getElem?_eq_some_iff.mp e').1,fun v H' hv=>?_⟩;obtain⟨rfl,c',h1,rfl⟩:=hv;rw[e'] at h1;cases (aRv h1);exact⟨aL.refl _,rfl⟩
def LH{X:Cx}{B:Hp}{fl:List Nat}{e tg:Expr}{f:Rho->Option T}{n:Bool}{l:Nat}(h:GE X B fl e f n l):GI X B fl tg e (tJ f) 3 true:=by
 intro pins s σ H R I hq;obtain⟨Ex,ρ,M,ts,S,hf,q⟩:=hq;rw[18];have hx2:∃ z,u=.str z:=by
  cases u<;>first | (cases hf;done) | exact⟨_,rfl⟩
 obtain⟨z,rfl⟩:=hx2;cases (aRv (show some (signs z)=some ts from hf));refine thn (h pins s σ H (fun v H1=>aL H H1/\v=.str z) I ⟨Ex,ρ,M,_,S,hu,fun v H1 s1 r1=>⟨s1,(aO.scal rfl).mp r1⟩⟩) fun v s1 ⟨x,H1,I1,r1,s01,rx⟩=>?_;subst rx;obtain⟨tk,rfl⟩:=r1;have fp:∀ {H':Hp} {s':Shared},True->True:=fun _=>trivial;have Ik:∀ o:Obj,Inv X pins σ H1 { s1 with heap:=s1.heap.push o }:=fun o=>I1.kept (t':=s1.toks) fun b ob e=>aS6 _ e;have fin:∀ b∈[s1.heap.objs.size],cX X pins H1 b:=fun b hb=>by
  have e:b=s1.heap.objs.size:=by simpa using hb
  subst e;rw[29]
 have last:=q (Its z) H1 [] s01 (fun p hp=>by cases hp) (aMj z);cases ha:z.cps.all (· < 128) with
 | false=>exact wpAny_pyIter_wide ha ⟨s1.heap.objs.size,[s1.heap.objs.size],_,_,H1,rfl,Ik _,aMb z tk _,⟨_,aSh _ rfl,rfl,rfl⟩,fin,last⟩
 | true=>exact wpAny_pyIter_ascii ha ⟨s1.heap.objs.size,[s1.heap.objs.size],_,_,H1,rfl,Ik _,aMa z tk _,⟨_,aSh _ rfl,rfl,rfl⟩,fin,last⟩
section
variable {e:Expr}{n:Bool}{l:Nat}{x:Str}
def KW{z:Str}(hg:Gl X x)(hm:∃ tk,X.mg x=some (.str z tk))(hd:aVi x:=by decide):GE X B fl (.Name x pos) (fC (.str z)) true 3:=by
 obtain⟨tk,hm⟩:=hm;refine bC (xK (v:=.str z) hg hm ⟨tk,rfl⟩ hd) ?_;rw[0];rw[4];exact q _ H (aL.refl H) ((aO.scal rfl).mpr rfl)
def WZ:eF X (.type "int") (fun xs H Q=>∃ x n,xs=[.str x]/\PySem.intText? x=some n/\x.length<=sizeLine/\Q (.int n) H):=by
 rw[16];obtain⟨x,n,rfl,hn,hz,q⟩:=h;obtain⟨u,rfl,t,rfl⟩:=jM r;exact GN.int_big I.nodig hz hn ⟨.int n,H,I.tok _,⟨_,rfl⟩,q⟩
def uC:List T->Option T
 | [.str x]=>if x.length<=cap then (PySem.intText? x).map .int else none
 | _=>none
theorem aB5(hx:x = "int")(hg:Gl X x)(hm:X.mg x=none)(ha:GA X B fl (e::es) fa l)
  (he:aVc X e es:=by rfl) (hpl:aVe X pos es:=by rfl):GE X B fl (.Call (.Name x p') (e::es) [] pos) (aG fa uC) true 3:=by
 subst hx;refine bC (xJ WZ hg hm PyProof.Rows.boot_int ha (by decide) (by decide) he hpl) ?_;rw[0];rw[5];rw[6]
 match ts,hf with
 | [.str z],hf=>
  have hf:(if z.length<=cap then (PySem.intText? z).map T.int else none)=some t:=hf;split at hf
  ·rename_i hz
   cases hn:PySem.intText? z with
   | none=>rw[hn] at hf;cases hf
   | some m=>
    rw[hn] at hf;rw[4];rw[25];cases (show _=_ from ry);exact⟨z,m,rfl,hn,sZ hz,q _ H1 s1 ((aO.scal rfl).mpr rfl)⟩
  ·cases hf
end
def KDs(K:PySem.W.Frag):List (Str × List Str)->List (Str × Addr × Tok)->Prop
 | [],ks=>ks=[]
 | (k,l)::tab,ks=>∃ a t r,ks=(k,a,t)::r/\KT K a (l.map V.str)/\KDs K tab r
noncomputable def vY(P:Params)(x:Str × Addr × Tok):DictEntry:=⟨PyData.keyHash P x.1,.str x.1 x.2.2,.ref x.2.1⟩
def vO(K:PySem.W.Frag)(P:Params)(a:Addr)(tab:List (Str × List Str)):Prop:=
 ∃ (ks:List (Str × Addr × Tok)) (n:Nat),K.lookup a=some { cls:=.type "dict",data:=.dict (ks.map (vY P)).toArray n }/\KDs K tab ks/\(tab.map (·.1)).Nodup/\(a == sysModules)=false
theorem KDs.keys{K:PySem.W.Frag}:∀ {tab:List (Str × List Str)}{ks:List (Str × Addr × Tok)},KDs K tab ks->ks.map (·.1)=tab.map (·.1)
 | [],_,h=>by cases h;rfl
 | (k,l)::tab,_,⟨a,t,r,e,_,h⟩=>by subst e;rw[aTc,aTc,KDs.keys h]
theorem KDs.at{K:PySem.W.Frag}(k:Str):∀ {tab:List (Str × List Str)}{ks:List (Str × Addr × Tok)},KDs K tab ks ->
  (tab.lookup k=none/\(ks.map fun x=>(x.1,Value.ref x.2.1)).find? (fun kv=>kv.1=k)=none)\/∃ l a,tab.lookup k=some l/\(ks.map fun x=>(x.1,Value.ref x.2.1)).find? (fun kv=>kv.1=k)=some (k,.ref a)/\KT K a (l.map V.str)
 | [],_,h=>by cases h;exact .inl ⟨rfl,rfl⟩
 | (k0,l)::tab,_,⟨a,t,r,e,hk,h⟩=>by
  subst e
  by_cases hq:k=k0
  ·subst hq
   refine .inr ⟨l,a,by rw[aTa,aUf],?_,hk⟩;rw[aTc,List.find?_cons,aUj rfl]
  ·have e1:((k0,l)::tab).lookup k=tab.lookup k:=by rw[aTa,show (k == k0)=false by rw[aUq];exact hq]
   have e2:(((k0,a,t)::r).map fun x=>(x.1,Value.ref x.2.1)).find? (fun kv=>kv.1=k)=(r.map fun x=>(x.1,Value.ref x.2.1)).find? (fun kv=>kv.1=k):=by
    rw[aTc,List.find?_cons,aUi (fun z=>hq z.symm)]
   rw[e1,e2];exact KDs.at k h
theorem QG{K:PySem.W.Frag}{H:Hp}{A:Addr->Prop}:∀ l:List Str,RepL K H A (l.map T.str) (l.map V.str)
 | []=>rfl
 | x::l=>⟨_,_,rfl,rfl,QG l⟩
abbrev Z2(h:Heap)(n:Nat)(f0:Value):Prop:=
 h.get? (n+4)=some { cls:=.type "zip",dict:=none,data:=.fields #[f0,.bool false,.bool false,.ref (n+2),.ref (n+3)],slots:=#[] }
abbrev Tw(h:Heap)(T:Addr)(a b:Value):Prop:=h.get? T=some { cls:=.type "tuple",data:=.seq #[a,b] }
structure Of2(n:Nat)(l:Addr):Prop where
 a0:l≠n
 a1:l≠n+1
 a3:l≠n+3
 a4:l≠n+4
variable {prog:Program}
section
variable {w:World}{A:Around}{E:Value->Shared->Prop}{s:Shared}
def tZ{it l:Addr}{i:Nat}{items}{x:Value}{Q:Value->Shared->Prop}(hit:s.heap.IsTupleIter it l i)(hl:s.heap.IsTuple l items)(hx:items[i]?=some x)
  (hQ:∀ h',h'.IsTupleIter it l (i+1)->Heap.SameBut it s.heap h'->Q x { s with heap:=h' }):wpAny (model prog w) A (Builtin.SmallTypes.nextOf (.ref it)) Q E s:=by
 obtain⟨o,ho,hc,hd⟩:=id hit;obtain⟨ol,hol,_,nl,hdl⟩:=hl;unfold Builtin.SmallTypes.nextOf;rw[47];refine aU9 (aUl ho hd (x:=.ref l) rfl ?_);show wpAny _ _ (if (Value.ref l == Value.none)=true then _ else _) _ _ s;rw[aUd (show ¬ ((Value.ref l == Value.none)=true) from aSf)];show wpAny _ _ (field (.ref it) 1 >>= _) _ _ s;refine aU9 (aUl ho hd (x:=.int i 0) rfl ?_);show wpAny _ _ (seqItems? (.ref l) >>= _) _ _ s;refine aU9 (aUo hol hdl ?_);simp only[Int.toNat_natCast,hx];refine aU9 (wpAny_setField ho hd (by simp) (aUa ⟨x,rfl,aUa (hQ _ ?_ (Heap.SameBut.update ..))⟩));exact⟨_,Heap.get?_update_self _ ho (Obj.isFreed_of_fields (Obj.data_mapFields hd _)),(Obj.cls_mapFields ..).trans hc,by
  rw[Obj.data_mapFields hd];simp[rawInt]⟩
def CL{it l:Addr}{i:Nat}{items}{Q:Value->Shared->Prop}(hh:A.handled=none)(hit:s.heap.IsTupleIter it l i)(hl:s.heap.IsTuple l items)(hx:items[i]?=none)
  (hE:∀ h' e,Heap.ExtBut it s.heap h'->(∃ o,h'.get? e=some o/\o.cls=.type "StopIteration")->E (.ref e) { s with heap:=h' }):wpAny (model prog w) A (Builtin.SmallTypes.nextOf (.ref it)) Q E s:=by
 obtain⟨o,ho,hc,hd⟩:=id hit;obtain⟨ol,hol,_,nl,hdl⟩:=hl;unfold Builtin.SmallTypes.nextOf;rw[47];refine aU9 (aUl ho hd (x:=.ref l) rfl ?_);show wpAny _ _ (if (Value.ref l == Value.none)=true then _ else _) _ _ s;rw[aUd (show ¬ ((Value.ref l == Value.none)=true) from aSf)];show wpAny _ _ (field (.ref it) 1 >>= _) _ _ s;refine aU9 (aUl ho hd (x:=.int i 0) rfl ?_);show wpAny _ _ (seqItems? (.ref l) >>= _) _ _ s;refine aU9 (aUo hol hdl ?_);simp only[Int.toNat_natCast,hx];refine aU9 (wpAny_rule (aU9 (wpAny_setField ho hd (by simp) ?_)));show wpAny _ _ (newExc (.type "StopIteration") [] >>= _) _ _ _;rw[12];simp only[newExc,newTuple];refine aU9 (wpAny_newObj_type ?_ (by size_fits));refine aU9 (m:=firstArgMember _ _) (wpAny_of_eq (a:=Value.none) (by first | rfl | (simp only[firstArgMember];rfl)) ?_)
 refine wpAny_newObj_type ?_ (by size_fits);simp only[raiseNew];refine aU9 (wpAny_handled ?_)
 first | rw[show A.in1.handled=none from hh] | rw[hh]
 refine aU9 (aUa (wpAny_throw ?_));exact hE _ _ (((Heap.SameBut.update ..).extBut.push _).push _) ⟨_,aSh _ rfl,rfl⟩
def rZ{T:Addr}{a b x:Value}{k:Nat}{Q:Unit->Shared->Prop}(hT:Tw s.heap T a b)
  (h:∀ h',h'.get? T=some { cls:=.type "tuple",data:=.seq ((#[a,b]:Array Value).setIfInBounds k x) }->Heap.SameBut T s.heap h'->Q () { s with heap:=h' }):
  wpAny (model prog w) A (updateSeq T (·.setIfInBounds k x)) Q E s:=
 wpAny_updateSeq hT rfl (h _ (by rw[Heap.get?_update_self _ hT rfl];simp[Obj.mapSeq]) (Heap.SameBut.update ..))
def aMw{n:Nat}{l l':Addr}{k:Nat}{xs ys:Array Value}{x y a b:Value}{Q:Value->Shared->Prop}(o1:Of2 n l)(o2:Of2 n l')
  (hz:Z2 s.heap n .none) (ti:Tw s.heap (n+2) (.ref n) (.ref (n+1))) (to:Tw s.heap (n+3) a b)
  (i1:s.heap.IsTupleIter n l k) (i2:s.heap.IsTupleIter (n+1) l' k) (p1:s.heap.IsTuple l xs) (p2:s.heap.IsTuple l' ys) (hx:xs[k]?=some x) (hy:ys[k]?=some y)
  (hQ:∀ h',Z2 h' n (rawInt s.heap.objs.size)->Tw h' (n+3) x y->h'.IsTupleIter n l (k+1)->h'.IsTupleIter (n+1) l' (k+1)->Tw h' s.heap.objs.size x y->h'.objs.size=s.heap.objs.size+1 ->
   (∀ c o,Of2 n c->s.heap.get? c=some o->h'.get? c=some o)->Q (.ref s.heap.objs.size) { s with heap:=h' }):
  wpAny (model prog w) A (Builtin.«zip.__next__» ⟨[.ref (n+4)],[]⟩) (fun fin s'=>∃ v,fin=.done (.ret v)/\Q v s') E s:=by
 rw[67];have d04:=@bL n (n+4) (by lia);rw[59];have d34:=@bL (n+3) (n+4) (by lia);rw[44];rw[41];rw[19];rw[12];rw[73];rw[aUc rfl];rw[42]
 replace z1:Z2 g1 n .ellipsis:=z1
 rw[12];rw[22];refine aU9 (aU9 (aUz ?_));rw[26];rw[11];rw[39]
 replace t3:Tw g3 (n+3) x b:=t3
 rw[40];refine aU9 (tZ (((i2.extBut s1.extBut d14.1).extBut s2.extBut d01.2).extBut s3.extBut d13.1) (((p2.extBut s1.extBut o2.a4).extBut s2.extBut o2.a0).extBut s3.extBut o2.a3) hy fun g6 q2 s6=>aUa ?_);have t6:Tw g6 (n+3) x b:=s6.extBut _ _ d13.2 t3;refine aU9 (aUo t6 rfl (aU9 (rZ t6 fun g7 t7 s7=>?_)))
 replace t7:Tw g7 (n+3) x y:=t7
 refine aU9 (wpAny_letGo (aUa (aUa (aU9 (aUo t7 rfl (aU9 (wpAny_newTuple ?_)))))));have sz:g7.objs.size=s.heap.objs.size:=by rw[s7.1,s6.1,s3.1,s2.1,s1.1]
 have z7:Z2 g7 n .ellipsis:=s7.extBut _ _ d34.2 (s6.extBut _ _ d14.2 (s3.extBut _ _ d34.2 (s2.extBut _ _ d04.2 z1)));have kp:∀ c o,Of2 n c->s.heap.get? c=some o->g7.get? c=some o:=fun c o f e=>
  s7.extBut _ _ f.a3 (s6.extBut _ _ f.a1 (s3.extBut _ _ f.a3 (s2.extBut _ _ f.a0 (s1.extBut _ _ f.a4 e))))
 have q1':g7.IsTupleIter n l (k+1):=((q1.extBut s3.extBut d03.1).extBut s6.extBut d01.1).extBut s7.extBut d03.1;have q2':g7.IsTupleIter (n+1) l' (k+1):=q2.extBut s7.extBut d13.1;have zl:n+4<g7.objs.size:=aSi z7;show wpAny _ _ (Builtin.SmallTypes.ownedTupleHandOut (.ref (n+4)) (.ref g7.objs.size) >>= _) _ _ _;rw[12];unfold Builtin.SmallTypes.ownedTupleHandOut;have z8:Z2 (g7.push { cls:=.type "tuple",data:=.seq #[x,y] }) n .ellipsis:=aS6 _ z7;refine aU9 (aUn z8 (by simp) fun g9 z9 s9=>?_)
 replace z9:Z2 g9 n (rawInt g7.objs.size):=z9
 refine aUn z9 (by simp) fun g10 z10 s10=>?_
 replace z10:Z2 g10 n (rawInt g7.objs.size):=z10
 rw[51];have sz2:g10.objs.size=g7.objs.size+1:=by rw[s10.1,s9.1,aSj]
 rw[sz] at z10 tn sz2;refine aUa ⟨_,rfl,?_⟩;show Q (.ref g7.objs.size) _;rw[sz];exact hQ g10 z10 (up _ _ d34.1 t7) (let ⟨o,e,r⟩:=q1';⟨o,up _ o d04.1 e,r⟩) (let ⟨o,e,r⟩:=q2';⟨o,up _ o d14.1 e,r⟩) tn sz2 fun c o f e=>up c o f.a4 (kp c o f e)
theorem aMv{n:Nat}{l l':Addr}{k:Nat}{xs ys:Array Value}{a b:Value}{Q:Fin->Shared->Prop}(hh:A.handled=none)(o1:Of2 n l)(o2:Of2 n l')
  (hz:Z2 s.heap n .none) (ti:Tw s.heap (n+2) (.ref n) (.ref (n+1))) (to:Tw s.heap (n+3) a b)
  (i1:s.heap.IsTupleIter n l k) (i2:s.heap.IsTupleIter (n+1) l' k) (p1:s.heap.IsTuple l xs) (p2:s.heap.IsTuple l' ys) (hend:xs[k]?=none\/ys[k]?=none)
  (hE:∀ h' e,(∀ c o,Of2 n c->s.heap.get? c=some o->h'.get? c=some o)->(∃ o,h'.get? e=some o/\o.cls=.type "StopIteration")->E (.ref e) { s with heap:=h' }):
  wpAny (model prog w) A (Builtin.«zip.__next__» ⟨[.ref (n+4)],[]⟩) Q E s:=by
 rw[67];have d04:=@bL n (n+4) (by lia);rw[59];have d34:=@bL (n+3) (n+4) (by lia);rw[44];rw[41];rw[19];rw[12];rw[73];rw[aUc rfl];rw[42]
 replace z1:Z2 g1 n .ellipsis:=z1
 rw[12];rw[22];refine aU9 (aU9 (aUz ?_));rw[26];cases hx:xs[k]? with
 | none=>
  refine aU9 (CL hh (i1.extBut s1.extBut d04.1) (p1.extBut s1.extBut o1.a4) hx fun g2 e s2 he=>?_);obtain⟨oe,h1,h2⟩:=he;rw[50]
 | some x=>
 rw[11];rw[39];have z3:Z2 g3 n .ellipsis:=s3.extBut _ _ d34.2 (s2.extBut _ _ d04.2 z1);rw[40];have hy:ys[k]?=none:=by
  rcases hend with h | h
  ·rw[hx] at h;cases h
  ·exact h
 refine aU9 (CL hh (((i2.extBut s1.extBut d14.1).extBut s2.extBut d01.2).extBut s3.extBut d13.1) (((p2.extBut s1.extBut o2.a4).extBut s2.extBut o2.a0).extBut s3.extBut o2.a3) hy fun g4 e s4 he=>?_);obtain⟨oe,h1,h2⟩:=he;rw[46]
def aMx{n:Nat}{l l':Addr}{k:Nat}{xs ys:Array Value}{x y a b:Value}{Q:Option Value->Shared->Prop}(o1:Of2 n l)(o2:Of2 n l')
  (hz:Z2 s.heap n .none) (ti:Tw s.heap (n+2) (.ref n) (.ref (n+1))) (to:Tw s.heap (n+3) a b)
  (i1:s.heap.IsTupleIter n l k) (i2:s.heap.IsTupleIter (n+1) l' k) (p1:s.heap.IsTuple l xs) (p2:s.heap.IsTuple l' ys) (hx:xs[k]?=some x) (hy:ys[k]?=some y)
  (hQ:∀ h',Z2 h' n (rawInt s.heap.objs.size)->Tw h' (n+3) x y->h'.IsTupleIter n l (k+1)->h'.IsTupleIter (n+1) l' (k+1)->Tw h' s.heap.objs.size x y->h'.objs.size=s.heap.objs.size+1 ->
   (∀ c o,Of2 n c->s.heap.get? c=some o->h'.get? c=some o)->Q (some (.ref s.heap.objs.size)) { s with heap:=h' }):
  wpAny (model prog w) A (pyNext (.ref (n+4))) Q E s:=by
 rw[62];exact aU9 (aVa (wpAny_callSpecial?_slot (name:=("__next__":Str)) hT F.slot_zip_next (aUu F.slot_zip_next hT F.entry_zip_next
   (aMw o1 o2 hz ti to i1 i2 p1 p2 hx hy fun h' a1 a2 a3 a4 a5 a6 a7=>aUa (hQ h' a1 a2 a3 a4 a5 a6 a7)) (F.args_zip_next_1 _))))
def aMy{n:Nat}{l l':Addr}{k:Nat}{xs ys:Array Value}{a b:Value}{Q:Option Value->Shared->Prop}(hh:A.handled=none)(o1:Of2 n l)(o2:Of2 n l')
  (hz:Z2 s.heap n .none) (ti:Tw s.heap (n+2) (.ref n) (.ref (n+1))) (to:Tw s.heap (n+3) a b)
  (i1:s.heap.IsTupleIter n l k) (i2:s.heap.IsTupleIter (n+1) l' k) (p1:s.heap.IsTuple l xs) (p2:s.heap.IsTuple l' ys) (hend:xs[k]?=none\/ys[k]?=none)
  (hQ:∀ h',(∀ c o,Of2 n c->s.heap.get? c=some o->h'.get? c=some o)->Q none { s with heap:=h' }):wpAny (model prog w) A (pyNext (.ref (n+4))) Q E s:=by
 rw[62];refine aU9 (aVa (wpAny_callSpecial?_slot (name:=("__next__":Str)) hT F.slot_zip_next (aUu F.slot_zip_next hT F.entry_zip_next
   (aMv hh o1 o2 hz ti to i1 i2 p1 p2 hend fun h' e kp he=>?_) (F.args_zip_next_1 _))))
 obtain⟨o,h1,h2⟩:=he;exact aU9 (wpAny_isInstance (T := "StopIteration") (b:=true) ⟨o,h1,h2⟩ isSubtype_stop (aUa (hQ _ kp)))
end
noncomputable abbrev yh1(h:Heap)(l:Addr):Heap:=h.push { cls:=.type "tuple_iterator",data:=.fields #[.ref l,.int 0 0] }
abbrev yh3(h:Heap)(l l':Addr):Heap:=(yh1 (yh1 h l) l').push { cls:=.type "tuple",data:=.seq #[.ref h.objs.size,.ref (yh1 h l).objs.size] }
abbrev yh4(h:Heap)(l l':Addr):Heap:=(yh3 h l l').push { cls:=.type "tuple",data:=.seq #[.none,.none] }
abbrev yh5(h:Heap)(l l':Addr):Heap:=(yh4 h l l').push { cls:=.type "zip",data:=.fields #[.none,.bool false,.bool false,.ref (yh1 (yh1 h l) l').objs.size,.ref (yh3 h l l').objs.size] }
def aEa(l l':Addr)(xs ys:Array Value):
  Meets (Builtin.«zip.__new__» ⟨[.type "zip",.ref l,.ref l'],[]⟩) (fun _ R s=>s.heap.IsTuple l xs/\s.heap.IsTuple l' ys/\R (.ok (.ret (.ref (yh4 s.heap l l').objs.size))) { s with heap:=yh5 s.heap l l' }):=
 .of_wp fun prog w A R s h=>by
  obtain⟨hp,g,d,tk,os⟩:=s;obtain⟨k1,k2,h⟩:=h;have hsub:=sub_zip;have f1:Heap.IsTuple (Shared.heap ⟨hp,g,d,tk,os⟩) l xs:=k1;have f2:Heap.IsTuple (Shared.heap ⟨yh1 hp l,g,d,tk,os⟩) l' ys:=Heap.IsTuple.push k2 _
  wp_walk using aVb f1,aVb f2
  exact⟨_,rfl,h⟩
def SU(a b:Value):checkTypeCall "zip" ⟨[a,b],[]⟩=pure ():=by kernel_rfl
def NI(a b:Value):checkBuiltinCall "zip.__new__" ⟨[.type "zip",a,b],[]⟩=pure ():=by kernel_rfl
def IC(a b d:Value):argsOk "object.__init__" ⟨[a,b,d],[]⟩:=by
 unfold argsOk;rw[signature?_of (id := "object.__init__") (n:=['_','_','t','i','n','i','_','_']) (o:=['t','c','e','j','b','o']) (by kernel_rfl) F.owner_object]
 kernel_rfl
section
variable {w:World}{A:Around}{E:Value->Shared->Prop}{s:Shared}
def XN{l l':Addr}{xs ys:Array Value}{Q:Value->Shared->Prop}(k1:s.heap.IsTuple l xs)(k2:s.heap.IsTuple l' ys)
  (h:∀ h',Z2 h' s.heap.objs.size .none->Tw h' (s.heap.objs.size+2) (.ref s.heap.objs.size) (.ref (s.heap.objs.size+1)) ->
   Tw h' (s.heap.objs.size+3) .none .none->h'.IsTupleIter s.heap.objs.size l 0->h'.IsTupleIter (s.heap.objs.size+1) l' 0 ->
   (∀ c o,s.heap.get? c=some o->h'.get? c=some o)->Q (.ref (s.heap.objs.size+4)) { s with heap:=h' }):
  wpAny (model prog w) A (call (.type "zip") [.ref l,.ref l']) Q E s:=by
 refine callType_new F.called_zip (by decide) (SU _ _) (NI _ _) (fun obj=>IC obj _ _) F.entry_zip_new (aEa l l' xs ys) ⟨k1,k2,?_⟩;have e1:(yh1 s.heap l).objs.size=s.heap.objs.size+1:=aSj ..;have e2:(yh1 (yh1 s.heap l) l').objs.size=s.heap.objs.size+2:=by rw[aSj,e1]
 have e3:(yh3 s.heap l l').objs.size=s.heap.objs.size+3:=by rw[aSj,e2]
 have e4:(yh4 s.heap l l').objs.size=s.heap.objs.size+4:=by rw[aSj,e3]
 have g5:(yh5 s.heap l l').get? (yh4 s.heap l l').objs.size=some _:=aSh _ rfl;have g4:(yh5 s.heap l l').get? (yh3 s.heap l l').objs.size=some _:=aS6 _ (aSh _ rfl);have g3:(yh5 s.heap l l').get? (yh1 (yh1 s.heap l) l').objs.size=some _:=aS6 _ (aS6 _ (aSh _ rfl));have g2:(yh5 s.heap l l').get? (yh1 s.heap l).objs.size=some _:=aS6 _ (aS6 _ (aS6 _ (aSh _ rfl)));have g1:(yh5 s.heap l l').get? s.heap.objs.size=some _:=aS6 _ (aS6 _ (aS6 _ (aS6 _ (aSh _ rfl))));show _/\_;rw[e2,e3,e4] at g5;rw[e3] at g4;rw[e1,e2] at g3;rw[e1] at g2;rw[e4];exact⟨⟨_,g5,rfl⟩,h _ g5 g3 g4 ⟨_,g1,rfl,rfl⟩ ⟨_,g2,rfl,rfl⟩ fun c o x=>
  aS6 _ (aS6 _ (aS6 _ (aS6 _ (aS6 _ x))))⟩
end
def ItT(K:PySem.W.Frag)(a b:Addr):It:=
  ⟨fun i H=>∃ xs ys x y,SqT K H a xs/\SqT K H b ys/\xs[i]?=some x/\ys[i]?=some y,
   fun i H v H'=>∃ T x y,(∀ xs,SqT K H a xs->xs[i]?=some x)/\(∀ ys,SqT K H b ys->ys[i]?=some y)/\H T=none/\v=.ref T/\H'=upd H T (.tup [x,y]),
   fun i H=>∃ xs ys,SqT K H a xs/\SqT K H b ys/\(xs.length<=i\/ys.length<=i)⟩
def StT(n:Nat)(a b:Addr)(i:Nat)(h:Heap):Prop:=Z2 h n .none/\Tw h (n+2) (.ref n) (.ref (n+1))/\(∃ u v,Tw h (n+3) u v)/\h.IsTupleIter n a i/\h.IsTupleIter (n+1) b i
def xC{X:Cx}{pins:List (Addr × Obj)}{σ:St}{H:Hp}{s:Shared}{l c:Addr}{xs:List V}(I:Inv X pins σ H s)(q:SqT X.K H l xs)(f:cX X pins H c):l≠c:=by
 intro z;subst z;obtain⟨f0,_,_,f3,_⟩:=f;rcases q with q | ⟨o,its,n,hk,_⟩
 ·rcases q with q | ⟨o,q⟩<;>rw[f0] at q<;>cases q
 ·have hb:=I.mod.kin _ _ hk
  rcases f3 with f3 | f3
  ·exact I.ok.noex _ _ hb f3
  ·exact absurd (aSi (I.ok.bs _ _ hb).1) (aU1.mpr f3)
def rC{X:Cx}{pins:List (Addr × Obj)}{σ:St}{H:Hp}{s:Shared}{l:Addr}{n:Nat}{xs:List V}(I:Inv X pins σ H s)(q:SqT X.K H l xs)(hf:∀ c∈([n,n+1,n+2,n+3,n+4]:List Addr),cX X pins H c):Of2 n l:=
 ⟨xC I q (hf _ (by simp)),xC I q (hf _ (by simp)),xC I q (hf _ (by simp)),xC I q (hf _ (by simp))⟩
def rB{n:Nat}{c:Addr}(h:c ∉ ([n,n+1,n+2,n+3,n+4]:List Addr)):Of2 n c:=by
 simp only[aS7,aTk,aUp,not_or] at h;exact⟨h.1,h.2.1,h.2.2.2.1,h.2.2.2.2⟩
def aMe{P:Program}{w:World}{K:PySem.W.Frag}{elts:List Expr}{k:Nat}{pos:Pos}(a b:Addr)(n:Nat):Turn P w K (.Tuple elts k pos) (ItT K a b) [n,n+1,n+2,n+3,n+4] (n+4) (StT n a b) where
 mem:=by simp
 obj:=fun i h st d hd=>by
  obtain⟨hz,hTI,⟨u,v,hTO⟩,h1,h2⟩:=st;simp only[aS7,aTk,aUp] at hd;have it:∀ {p q:Addr} {j:Nat},h.IsTupleIter p q j->∃ o,h.get? p=some o/\∀ v,o.data≠.cell v:=fun {p q j} hp=>by
   obtain⟨o,e,c,d⟩:=hp;rw[23]
  rcases hd with rfl | rfl | rfl | rfl | rfl
  ·exact it h1
  ·exact it h2
  ·exact⟨_,hTI,fun v z=>by cases (show Data.seq _ _=Data.cell v from z)⟩
  ·exact⟨_,hTO,fun v z=>by cases (show Data.seq _ _=Data.cell v from z)⟩
  ·exact⟨_,hz,fun v z=>by cases (show Data.fields _=Data.cell v from z)⟩
 keep:=fun i h h' st kp=>by
  rw[49]
 item:=by
  rw[1];rw[28];obtain⟨xs,ys,x,y,r1,r2,hx,hy⟩:=hg;obtain⟨its,rv,p,_⟩:=I.tuple r1;obtain⟨its',rv',p',_⟩:=I.tuple r2;obtain⟨u,hu,ru⟩:=rv.get hx;obtain⟨u',hu',ru'⟩:=rv'.get hy;have f1:=rC I r1 hf;have f2:=rC I r2 hf;obtain⟨hz,hTI,⟨w1,w2,hTO⟩,h1,h2⟩:=st;refine aMx f1 f2 hz hTI hTO h1 h2 (show s.heap.IsTuple a its.toArray from p) (show s.heap.IsTuple b its'.toArray from p') (by simpa using hu) (by simpa using hu') fun g a1 a2 a3 a4 a6 a7 kp=>⟨_,rfl,?_⟩;have lt:n+4<s.heap.objs.size:=aSi hz;refine wpAny_letOwnedTupleGo_zip (z:=n+4) (TI:=n+2) (TO:=n+3) a1 fun g' b1 sb=>?_;rw[61];have new:cO X.prog X.w (upd H s.heap.objs.size (.tup [x,y])) g' s.heap.objs.size (.tup [x,y]):=
   ⟨by rw[aUm];show 2<=16777216;decide,[u,u'],.cons ru (.cons ru' .nil),⟨_,gT,rfl,_,rfl⟩⟩
  have nz:∀ c∈([n,n+1,n+2,n+3,n+4]:List Addr),c≠s.heap.objs.size:=fun c hcm=>by
   simp only[aS7,aTk,aUp] at hcm;rcases hcm with rfl | rfl | rfl | rfl | rfl<;>exact aU0 (by lia)
  rw[43];refine⟨.ref s.heap.objs.size,_,I2,rfl,⟨_,x,y,fun q hq=>by rw[I.tuple_inj hq r1];exact hx,fun q hq=>by rw[I.tuple_inj hq r2];exact hy,I.hok.fresh (aTs _),rfl,rfl⟩,
   ⟨b1,up o3.a4 (kp _ _ o3 hTI),⟨_,_,up (bL (by lia)).1 a2⟩,let ⟨o,e,r⟩:=a3;⟨o,up (bL (by lia)).1 e,r⟩,let ⟨o,e,r⟩:=a4;⟨o,up (bL (by lia)).1 e,r⟩⟩,fun c hcm=>?_⟩
  rw[aW (nz c hcm)];exact (hf c hcm).1
 done:=by
  rw[1];rw[28];obtain⟨xs,ys,r1,r2,hx⟩:=hg;obtain⟨its,rv,p,_⟩:=I.tuple r1;obtain⟨its',rv',p',_⟩:=I.tuple r2;have f1:=rC I r1 hf;have f2:=rC I r2 hf;obtain⟨hz,hTI,⟨w1,w2,hTO⟩,h1,h2⟩:=st;have e1:=rv.length;have e2:=rv'.length;have hend:its.toArray[i]?=none\/its'.toArray[i]?=none:=by
   rcases hx with hx | hx
   ·exact .inl (by simp;lia)
   ·exact .inr (by simp;lia)
  exact aMy (I.ok.hd hc) f1 f2 hz hTI hTO h1 h2 (show s.heap.IsTuple a its.toArray from p) (show s.heap.IsTuple b its'.toArray from p') hend fun h' kp=>⟨rfl,BW (t':=s.toks) (fs:=[n,n+1,n+2,n+3,n+4]) I (fun b o hb q=>kp b o (rB hb) q) hf⟩
 self:=fun A i s Q E st h=>wpAny_pyIter_zip (z:=n+4) (TI:=n+2) (TO:=n+3) st.1 h
noncomputable def mU:T->Option (List T)
 | .tup ts=>some ts
 | _=>none
def fTp(f:Rho->Option T):Rho->Option (List T):=fun ρ=>(f ρ).bind mU
@[simp] theorem qN(f:Rho->Option T)(ρ:Rho):fTp f ρ=(f ρ).bind mU:=id rfl
@[simp] theorem aN7(ts:List T):mU (.tup ts)=some ts:=rfl
def aMm{K:PySem.W.Frag}{a b:Addr}{us ws:List T}:nI K (ItT K a b) [(.tup us,.ref a),(.tup ws,.ref b)] (kL us ws) false:=by
 intro H A hA i;obtain⟨a',xs,e,hs,hr⟩:=mF (hA _ aRz);obtain⟨b',ys,e',hs',hr'⟩:=mF (hA _ (aRy _ aRz));cases e;cases e';refine⟨fun t ht=>?_,fun hi=>⟨xs,ys,hs,hs',?_⟩⟩
 ·unfold kL at ht
  obtain⟨u,w,hu,hw,rfl⟩:=List.getElem?_zipWith_eq_some.mp ht;obtain⟨x,hx,rx⟩:=hr.get hu;obtain⟨y,hy,ry⟩:=hr'.get hw;refine⟨⟨xs,ys,x,y,hs,hs',hx,hy⟩,fun v H' hv=>?_⟩;obtain⟨T,x',y',h1,h2,hT,rfl,rfl⟩:=hv;have q1:=h1 xs hs;have q2:=h2 ys hs';rw[hx] at q1;rw[hy] at q2;cases (aRv q1);cases (aRv q2);rw[72]
 ·rw[<- hr.length,<- hr'.length]
  unfold kL at hi;rw[List.length_zipWith] at hi;lia
noncomputable def cI:List T->Option (List Str)
 | []=>some []
 | .str x::r=>(cI r).map (x :: ·)
 | _=>none
theorem nK:∀ l:List Str,cI (l.map T.str)=some l
 | []=>rfl
 | x::l=>by rw[aTc,cI,nK l];rfl
theorem nJ:∀ {ts:List T}{l:List Str},cI ts=some l->ts=l.map T.str
 | [],l,h=>by cases (aRv h);rfl
 | .str x::r,l,h=>by
  cases e:cI r with
  | none=>rw[cI,e] at h;cases h
  | some m=>
   rw[cI,e] at h;cases (aRv h);rw[nJ e];rfl
def wW:T->T->Option T
 | .str x,.lst ts=>(cI ts).map fun l=>.bl (l.contains x)
 | _,_=>none
theorem pK{K:PySem.W.Frag}{H:Hp}{A:Addr->Prop}:∀ {l:List Str}{xs:List V},RepL K H A (l.map T.str) xs->xs=l.map V.str
 | [],_,h=>h
 | n::ns,_,h=>by
  obtain⟨x,r,e,h1,h2⟩:=h;rw[e,pK h2,(show x=.str n from h1)];rfl
theorem BU(x:Str):∀ l:List Str,inV (.str x) (l.map V.str)=l.contains x
 | []=>rfl
 | n::ns=>by
  have ih:=BU x ns;unfold inV at ih ⊢;rw[aTc,List.any_cons,ih,List.contains_cons];have:eqV (.str n) (.str x)=(x == n):=by
   show (n == x)=(x == n);exact Bool.beq_comm
  rw[this]
theorem AZ:∀ l:List Str,(l.map V.str).all kR=true
 | []=>rfl
 | _::l=>by rw[aTc,aSn,AZ l];rfl
def aBl{K:PySem.W.Frag}:GOp K (rIn K false) wW:=by
 intro x y t h;cases x<;>first | (cases h;done) | skip
 rename_i i;cases y<;>first | (cases h;done) | skip
 rename_i us;have h:(cI us).map (fun ns=>T.bl (ns.contains i))=some t:=h;cases ea:cI us with
 | none=>rw[ea] at h;cases h
 | some ns=>
  rw[ea] at h;cases (aRv h);cases nJ ea;refine⟨rfl,fun H A A' vx vy rx ry Q q=>?_⟩;cases (show _=_ from rx);obtain⟨p,xs,rfl,h1,h2⟩:=ry.sqL;cases pK h2;refine⟨p,_,rfl,.inl h1,rfl,AZ ns,?_⟩;rw[BU];exact q
section
variable {a b:Expr}{f g:Rho->Option T}{n:Bool}{l:Nat}
def aAj(ha:GE X B fl a f n l)(hb:GE X B fl b g n' l')(hm:behindInMarks .In b=false:=by rfl):GE X B fl (.Compare a [.In] [b] pos) (f2 f g wW) true 3:=BG OF aBl ha hb hm
end
end G
namespace G
open PySem PySem.Calls PyProof.Rows
end G
namespace G
open PySem PySem.Spec PyProof.Rows L2
noncomputable def eJ(H:Hp)(a:Addr):Hp:=fun b=>if b=a then none else H b
def jC{H:Hp}{a:Addr}:eJ H a a=none:=aUc rfl
def dL{H:Hp}{a b:Addr}(h:b≠a):eJ H a b=H b:=aUd h
variable {B:Hp}{fl:List Nat}
section
variable {K:PySem.W.Frag}{H:Hp}{Ex:List (T × V)}{σ:St}{ρ:Rho}{M:List Addr}
def wC{a b:Addr}{xs:List V}{u:Fix}(ha:H a=some (.lst xs))(h:Rd H b u.1):b≠a:=fun z=>by
 subst z;rcases h with h | ⟨o,h⟩
 ·rw[ha] at h;exact u.2.1 xs (aRv h).symm
 ·rw[ha] at h;cases h
end
section
variable {K:PySem.W.Frag}
def aKi{H:Hp}{fl:List Nat}{N ps:List Str}{ts:List T}{vs:List V}{p:Nat}{a:Addr}{xs:List V}{us:List T}(hfl:fl.length=N.length)(hp:∀ i,i<ps.length->i≠p->fl.getD i 1=1)(hl:ts.length=ps.length)(hlv:ts.length=vs.length)(hN:ps.length<=N.length)
  (h0:fl.getD p 1=0) (h1:vs[p]?=some (.ref a)) (h2:ts[p]?=some (.lst us)) (h3:bK us=true) (h4:H a=some (.lst xs)) (h5:RepL K H (fun _=>True) us xs)
  (h6:∀ (j:Nat) (u:T) (v:V),j≠p->ts[j]?=some u->vs[j]?=some v->Rep K H (fun b=>b≠a) u v):
  Sl K (eJ H a) fl [] (L2.start N vs) (ts.map some++List.replicate (N.length-ps.length) none) [a] H:=by
 have get:∀ i t,(ts.map some++List.replicate (N.length-ps.length) none)[i]?=some (some t)->ts[i]?=some t/\i<ps.length:=fun i t e=>by
  by_cases hi:i<ts.length
  ·rw[aSy (by simpa using hi),aT0] at e
   rw[aRx hi] at e ⊢;exact⟨aRv e,by lia⟩
  ·rw[List.getElem?_append_right (by simpa using hi),List.getElem?_replicate] at e
   split at e<;>cases e
 have sv:∀ i v,i<ps.length->vs[i]?=some v->(L2.start N vs)[i]?=some (some v):=fun i v hi e=>by
  unfold L2.start;rw[aSy (by rw[aT5];lia),aT0,e]
  rfl
 refine⟨fun b o e=>?_,fun i t e k=>?_,⟨fun _ _=>a,fun i t e k hm=>?_,fun i j c d t u us' ws hne e e' k k' hh hh'=>?_⟩,fun p hp=>by simp at hp,fun b hb=>?_,?_⟩
 ·by_cases hb:b=a
  ·rw[hb,jC] at e;cases e
  ·rw[dL hb] at e;exact e
 ·obtain⟨e1,hi⟩:=get i t e
  by_cases hip:i=p
  ·subst hip
   rw[h2] at e1;cases e1;rcases k with k | k
   ·lia
   ·simp[im] at k
  ·obtain⟨v,ev⟩:∃ v,vs[i]?=some v:=⟨_,aRx (by lia)⟩
   refine⟨v,sv i v hi ev,(h6 i t v hip e1 ev).weak fun b hb=>?_⟩;rw[hp i hi hip];exact⟨fun _ z=>hb (by simpa using z),fun z=>by lia,fun z=>by lia⟩
 ·obtain⟨e1,hi⟩:=get i t e
  by_cases hip:i=p
  ·subst hip
   rw[h2] at e1;cases e1;refine⟨.ref a,sv i _ hi h1,rfl,fun c us' hh=>?_⟩;obtain⟨_,rfl⟩:=hh;exact⟨xs,h4,kH h3 h5,by simp⟩
  ·rw[hp i hi hip] at k;cases k
 ·obtain⟨e1,hi⟩:=get i t e
  obtain⟨e2,hj⟩:=get j u e';have hip:i=p:=Classical.byContradiction fun z=>by rw[hp i hi z] at k;cases k
  have hjp:j=p:=Classical.byContradiction fun z=>by rw[hp j hj z] at k';cases k'
  subst hip;subst hjp;rw[h2] at e1 e2;cases e1;cases e2;rcases hne with z | z
  ·exact absurd rfl z
  ·exact absurd (hh.1.trans hh'.1.symm) z.1
 ·have:b=a:=by simpa using hb
  rw[this,jC,h4];exact⟨rfl,by simp⟩
 ·unfold L2.start
  rw[hfl,aT3,aT5,aT7];lia
end
def aL6(K:PySem.W.Frag)(B:Hp)(fl:List Nat)(i p:Nat)(fa:Rho->Option (List T)):TA:=fun σ H Q=>∃ Ex ρ M ts us a xs,Sl K B fl Ex σ ρ M H/\ρ[i]?=some (some (.lst us))/\σ[i]?=some (some (.ref a))/\H a=some (.lst xs)/\fa ρ=some ts /\
 ∀ vs H',aL H H'->ts.length=vs.length->vs[p]?=some (.ref a)->ts[p]?=some (.lst us)->(∀ (j:Nat) (u:T) (v:V),j≠p->ts[j]?=some u->vs[j]?=some v->Rep K H' (Ad B H M 1) u v)->Q vs H'
def GAM(X:Cx)(B:Hp)(fl:List Nat)(i p:Nat)(es:List Expr)(fa:Rho->Option (List T)):Prop:=PA X es (aL6 X.K B fl i p fa)
section
variable {X:Cx}{e:Expr}{es:List Expr}{f:Rho->Option T}{fa:Rho->Option (List T)}{n n':Bool}{l l' k i p:Nat}{pos p' pos' apos:Pos}{x y:Str}{ps:List Str}{F:List T->Option T}
def fO(hr:GA X B fl es fa l')(hl:1<=l')(hN:X.N[i]?=some x:=by rfl)(hv:Vis X.env.scope x:=by trivial)(hd:aVi x:=by decide)
  (hcd:(x == ("__classdict__" : Str))=false:=by decide) (hs:starEach (.Name x pos::es) X.env=(false,eval (.Name x pos) X.env)::starEach es X.env:=by rfl):GAM X B fl i 0 (.Name x pos::es) (aB (aA i) fa):=by
 refine rF (cD (pv (X:=X) i hN hv hd hcd) hr hs) ?_;rintro σ H Q ⟨Ex,ρ,M,ts,us,a,xs,S,hi,ev,ha,hf,q⟩;obtain⟨t0,h0,hf⟩:=bind_some hf;obtain⟨ts',h1,hf⟩:=bind_some hf;rw[4];have e0:t0=.lst us:=by
  unfold aA at h0;rw[hi] at h0;exact (aRv h0).symm
 subst e0;refine⟨.ref a,ev,Ex,ρ,M,ts',S,h1,fun vs H1 s1 r1=>q _ H1 s1 (by simp[r1.length]) rfl rfl fun j u v hj e1 e2=>?_⟩;cases j with
 | zero=>exact absurd rfl hj
 | succ j=>
  obtain⟨v',e3,r3⟩:=r1.get (show ts'[j]?=some u from e1);have e2:vs[j]?=some v:=e2;rw[e2] at e3;cases e3;exact r3.weak fun b z=>z.le hl |>.any (by decide)
def aA5(he:GE X B fl e f n' l')(hl:1<=l')(hr:GAM X B fl i p es fa)(hs:aVc X e es:=by rfl):GAM X B fl i (p+1) (e::es) (aB f fa):=by
 refine rF (cD he hr hs) ?_;rintro σ H Q ⟨Ex,ρ,M,ts,us,a,xs,S,hi,ev,ha,hf,q⟩;obtain⟨t0,h0,hf⟩:=bind_some hf;obtain⟨ts',h1,hf⟩:=bind_some hf;rw[4];refine⟨Ex,ρ,M,t0,S,h0,fun v0 H1 s1 rx=>⟨Ex,ρ,M,ts',us,a,xs,S.grow s1,hi,ev,s1 _ _ ha,h1,fun vs H2 s2 hl2 e1 e2 rj=>q _ H2 (s1.trans s2) (by simp[hl2]) e1 e2 fun j u v hj e3 e4=>?_⟩⟩;cases j with
 | zero=>
  cases (show some t0=some u from e3);cases (show some v0=some v from e4);exact ((rx.rep S).grow s2).weak fun b z=>z.le hl |>.any (by decide)
 | succ j=>exact (rj j u v (fun z=>hj (by rw[z])) e3 e4).weak fun b z=>z.any (by decide)
end
end G
namespace G
open PySem PySem.Calls PySem.Spec PyProof.Rows L2
end G
namespace G
open PySem PySem.Spec PyProof.Rows L2
end G
namespace G
open PySem PySem.Calls PyProof.Rows
structure J(R:Keyed->Keyed->Prop)(T out P Q:List Keyed):Prop where
 perm:(out++P++Q).Perm T
 so:out.Pairwise R
 sp:P.Pairwise R
 sq:Q.Pairwise R
 up:∀ x∈out,∀ y,y∈P\/y∈Q->R x y
noncomputable def tr(a:Array Keyed)(n:Nat):List Keyed:=(a.toList.take n).reverse
structure SB(a₀:Array Keyed)(pe:Array (Nat × Nat × Nat))(st:SortSt):Prop where
 perm:(arrOf st).toList.Perm a₀.toList
 kind:PyProof.Rows.kindOf st=oneType'
 failed:failedOf st=none
 pend:pendingOf st=pe
end G
namespace G
open PySem PySem.Calls PySem.Spec PyProof.Rows L2
end G
namespace G
open PySem PySem.Spec PyProof.Rows L2
def HL(cs:List (Nat × Addr))(σ:St):Prop:=∀ c∈cs,σ[c.1]?=some (some (.ref c.2))
def tCB(K:PySem.W.Frag)(B:Hp)(fl:List Nat)(cs:List (Nat × Addr))(rp:Rho->Option Out):TS:=fun D σ H=>∃ Ex ρ M o,Sl K B fl Ex σ ρ M H/\HL cs σ/\rp ρ=some o /\
 match o with
 | .nx ρ'=>∀ σ' M' H',Sl K B fl Ex σ' ρ' M' H'->HL cs σ'->D.nx σ' H'
 | _=>False
def un4(u0 u1 u2 u3:List T):Bool:=!eqT (.lst u0) (.lst u1) && !eqT (.lst u0) (.lst u2) && !eqT (.lst u0) (.lst u3) && !eqT (.lst u1) (.lst u2) && !eqT (.lst u1) (.lst u3) && !eqT (.lst u2) (.lst u3)
section
variable {K:PySem.W.Frag}{H H':Hp}{A A':Addr->Prop}
mutual
theorem aJi(kt:∀ b (u:HO),((∃ ys,u=.tup ys)\/∃ φ,u=.ext φ)->Rd H b u->Rd H' b u):∀ (t:T) {v:V},im t=true->Rep K H A t v->Rep K H' A' t v
 | .non,_,_,h=>h
 | .bl _,_,_,h=>h
 | .int _,_,_,h=>h
 | .str _,_,_,h=>h
 | .lst _,_,e,_=>by simp[im] at e
 | .tup ts,_,e,h=>by
  obtain⟨a,xs,e1,c,r⟩:=h;refine⟨a,xs,e1,?_,repL_imt kt ts (by simpa [im] using e) r⟩;rcases c with c | c
  ·exact .inl (kt a _ (.inl ⟨_,rfl⟩) c)
  ·exact .inr c
 | .exc _,_,_,h=>by
  obtain⟨a,C,e,c,r⟩:=h;exact⟨a,C,e,c,kt a _ (.inr ⟨_,rfl⟩) r⟩
 | .dct _,_,e,_=>by simp[im] at e
 | .own _,_,e,_=>by simp[im] at e
 | .pg _,_,e,_=>by simp[im] at e
theorem repL_imt(kt:∀ b (u:HO),((∃ ys,u=.tup ys)\/∃ φ,u=.ext φ)->Rd H b u->Rd H' b u):∀ (ts:List T) {xs:List V},imL ts=true->RepL K H A ts xs->RepL K H' A' ts xs
 | [],_,_,h=>h
 | t::ts,_,e,h=>by
  obtain⟨x,r,e1,h1,h2⟩:=h;have e':im t=true/\imL ts=true:=by simpa [imL] using e
  exact⟨x,r,e1,aJi kt t e'.1 h1,repL_imt kt ts e'.2 h2⟩
end
end
noncomputable def tW(l:List Str):List T:=l.map T.str
def jE:T->T->Option T
 | .str x,.str y=>if (y.length == 0)=false/\x.length<=cap/\(Txt.split x y).length<=cap then some (.lst (tW (Txt.split x y))) else none
 | _,_=>none
theorem TQ:∀ (l:List Str) (k:Nat),aQ (l.map V.str) (strsFrom k l)
 | [],_=>.nil
 | x::l,k=>.cons ⟨_,rfl⟩ (TQ l (k+1))
def aJ6:V->List V->Hp->VK->Prop:=fun x vs H Q=>∃ i j,x=.str i/\vs=[.str j]/\(j.length == 0)=false/\i.length<=sizeLine/\(Txt.split i j).length<=sizeLine/\∀ p,H p=none->Q (.ref p) (upd H p (.lst ((Txt.split i j).map V.str)))
def NG{X:Cx}:MtM X "str.split" aJ6:=by
 intro pins s σ H x vs v us Q I rx rv h;obtain⟨i,j,rfl,rfl,hj,hi,hl,q⟩:=h;rw[17];rw[31];obtain⟨t2,rfl⟩:=ru;have hf:H s.heap.objs.size=none:=I.hok.fresh (aTs _);have one:Txt.split i j=[i]->(listOfItself i t) X.A (wants (EP X pins σ Q) X.xe) s:=fun e=>by
  rw[e] at q;refine⟨.ref s.heap.objs.size,upd H s.heap.objs.size (.lst [V.str i]),I.laid (t':=s.toks) (fun b u e=>aS6 _ e) (aTs _) ?_,rfl,q _ hf⟩;exact⟨(show 1<=sizeLine by decide),[Value.str i t],0,.cons ⟨_,rfl⟩ .nil,aSh _ rfl⟩
 by_cases c:(decide (i.length<j.length)||decide (Builtin.Str.strKind i<Builtin.Str.strKind j))=true
 ·refine aV4 F.slot_str_split (aUv s i t) F.entry_str_split (F.args_str_split_2 _ _) (meets_str_split_cannot_occur i j t t2 c) (one ?_)
  unfold Txt.split;rw[aUc c]
 ·have c':(decide (i.length<j.length)||decide (Builtin.Str.strKind i<Builtin.Str.strKind j))=false:=by simpa using c
  by_cases d:(Builtin.Str.occurrences i j 0 i.length (i.length+1)).isEmpty=true
  ·refine aV4 F.slot_str_split (aUv s i t) F.entry_str_split (F.args_str_split_2 _ _) (meets_str_split_not_found i j t t2 c' hj d) (one ?_)
   unfold Txt.split;rw[aUd c,aUc d]
  ·have d':(Builtin.Str.occurrences i j 0 i.length (i.length+1)).isEmpty=false:=by simpa using d
   have e:Txt.split i j=Builtin.Str.partsBetween i (Builtin.Str.occurrences i j 0 i.length (i.length+1)) j.length:=by
    unfold Txt.split;rw[aUd c,aUd d]
   rw[e] at q hl;refine aV4 F.slot_str_split (aUv s i t) F.entry_str_split (F.args_str_split_2 _ _) (meets_str_split_sep i j t t2 c' hj d' hi hl) ?_;refine⟨.ref s.heap.objs.size,upd H s.heap.objs.size (.lst ((Builtin.Str.partsBetween i (Builtin.Str.occurrences i j 0 i.length (i.length+1)) j.length).map V.str)),I.laid (fun b u e=>aS6 _ e) (aTs _) ?_,rfl,q _ hf⟩;exact⟨by rw[aT5];exact hl,_,0,TQ _ _,aSh _ rfl⟩
theorem EA(K:PySem.W.Frag)(H:Hp)(A:Addr->Prop):∀ l:List Str,RepL K H A (tW l) (l.map V.str)
 | []=>rfl
 | x::l=>⟨.str x,l.map V.str,rfl,rfl,EA K H A l⟩
variable {X:Cx}{B:Hp}{fl:List Nat}{pos:Pos}
section
variable {a b:Expr}{f g:Rho->Option T}{n n':Bool}{l l':Nat}{apos cpos:Pos}
def LC(ha:GE X B fl a f n l)(hb:GE X B fl b g n' l')
  (hbase:attributeBase a "split" X.env (eval a X.env)=eval a X.env:=by rfl)
  (hfew:((backTo cpos (starEach [b] X.env)).all (fun x=>!x.1)&&(backToKw cpos (keywordEach [] X.env)).all (fun x=>x.1.isSome)
   && decide (([b]:List Expr).length+([]:List Keyword).length+(if ([]:List Keyword).isEmpty then 0 else 1)<30))=true:=by rfl)
  (hline:(apos.endLine == cpos.line)=true:=by rfl) (hs:starEach [b] X.env=[(false,eval b X.env)]:=by rfl):GE X B fl (.Call (.Attribute a "split" apos) [b] [] cpos) (f2 f g jE) true 3:=by
 refine bC (nC PySem.F.plainAttrs_str PySem.F.slot_str_split PySem.F.type_str_split NG ha (cD hb cZ hs) hbase hfew hline hs rfl) ?_;rw[0];rw[9];rw[13];cases x<;>first | (cases y<;>cases hf;done) | skip
 cases y<;>first | (cases hf;done) | skip
 rename_i i _ j;have hf:(if (j.length == 0)=false/\i.length<=cap/\(Txt.split i j).length<=cap then some (T.lst (tW (Txt.split i j))) else none)=some t:=hf;split at hf
 ·rename_i hc
  rw[4];refine⟨Ex,ρ,M,_,S,hx,fun v H1 s1 rx=>?_⟩;cases (aO.scal rfl).mp rx;refine⟨rfl,Ex,ρ,M,_,S.grow s1,hy,fun v2 H2 s2 ry=>?_⟩;cases (aO.scal rfl).mp ry;exact⟨i,j,rfl,rfl,hc.1,aTr (fI hc.2.1),aTr (fI hc.2.2),fun p hp=>q _ _ ((s1.trans s2).trans (cW hp _)) (aO.laid (s1.trans s2) hp (EA _ _ _ _))⟩
 ·cases hf
def pD:T->T->Option T
 | .str x,.lst ts=>(cI ts).bind fun l=>if JoinOk x l=true then some (.str (Txt.join x l)) else none
 | _,_=>none
theorem zI:∀ {l:List Str}{us:List Value},aQ (l.map V.str) us->∃ l':List (Str × Tok),us=strValues l'/\l'.map (·.1)=l
 | [],_,.nil=>⟨[],rfl,rfl⟩
 | x::l,_,.cons r t=>by
  obtain⟨l',e1,e2⟩:=zI t;obtain⟨k,rfl⟩:=r;exact⟨(x,k)::l',by rw[e1];rfl,by rw[aTc,e2]⟩
def tM(ha:GE X B fl a f n l)(hb:GE X B fl b g n' l')(m:M1 X a "join" apos b cpos:=by exact⟨rfl,rfl,rfl,rfl⟩):GE X B fl (.Call (.Attribute a "join" apos) [b] [] cpos) (f2 f g pD) true 3:=by
 rw[2];obtain⟨Ex,ρ,M,t,S,hf,q⟩:=h;rw[18];rw[13];have h2:∃ z ts,u=.str z/\y=.lst ts:=by
  cases u<;>first | (cases hf;done) | skip
  cases y<;>first | (cases hf;done) | exact⟨_,_,rfl,rfl⟩
 obtain⟨z,ts,rfl,rfl⟩:=h2;obtain⟨ws,ea,hf⟩:=bind_some (show ((cI ts).bind fun l=>if JoinOk z l=true then some (T.str (Txt.join z l)) else none)=some t from hf);split at hf
 ·rename_i hj
  rw[4];cases nJ ea;refine wpAny_Call_method_lateS m.base m.few m.line (thn (ha pins s σ H (fun v H1=>aL H H1/\v=.str z) I ⟨Ex,ρ,M,_,S,hu,fun v H1 s1 r1=>⟨s1,(aO.scal rfl).mp r1⟩⟩) fun v s1 ⟨x,H1,I1,r1,s01,rx⟩=>?_);subst rx;obtain⟨tk,rfl⟩:=r1;rw[m.trees];refine SB.join (thn (hb pins s1 σ H1 (fun v H2=>aL H1 H2/\∃ p,v=.ref p/\SqL X.K H2 p (ws.map V.str)) I1 ⟨Ex,ρ,M,_,S.grow s01,hy,fun v H2 s2 r2=>⟨s2,?_⟩⟩) fun v2 s2 ⟨x2,H2,I2,r2,s12,p,rx2,sq⟩=>?_)
  ·obtain⟨p,xs,rfl,h1,h2⟩:=(r2.rep (S.grow s01)).sqL
   cases pK h2;exact⟨p,rfl,h1⟩
  ·subst rx2
   cases r2;obtain⟨its,rv,⟨ob,nn,e1,e2,_,e4⟩,_⟩:=I2.list sq;obtain⟨l2,rfl,e5⟩:=zI rv;exact⟨p,l2,rfl,⟨ob,e1,e2,nn,e4⟩,ws,e5,hj,fun t' k=>⟨.str (Txt.join z ws),H2,I2.tok k,⟨_,rfl⟩,q _ H2 (s01.trans s12) ((aO.scal rfl).mpr rfl)⟩⟩
 ·cases hf
noncomputable def pE:T->T->Option T
 | .str x,.int n=>if 0<=n/\n<=3000/\x.length<=1000 then some (.str (Txt.mul x n)) else none
 | _,_=>none
def aEl{x:Str}{n:Int}(h0:0<=n)(h1:n<=3000)(hx:x.length<=1000):MulOk x n:=by
 refine⟨?_,fun h _=>?_,fun _ _=>?_⟩
 ·rw[Bool.or_eq_false_iff]
  exact⟨aUi (by lia),aUi (by lia)⟩
 ·have hd:(1000:Int)<=(2^63-1) / n:=by
   rw[Int.le_ediv_iff_mul_le (by lia)];lia
  lia
 ·have k:x.length*n.toNat<=1000*3000:=aTy hx (by lia)
  have hs:1000*3000<=sizeLine:=by decide
  unfold Builtin.Str.tooLong;simp;lia
def aH7:OpR X (binaryOp .Mult) (fun x y H Q=>∃ i j,x=.str i/\y=.int j/\MulOk i j/\Q (.str (Txt.mul i j)) H):=by
 rw[7];obtain⟨i,j,rfl,rfl,hz,q⟩:=h;rw[17];rw[34];exact SB.mul hz fun t' k=>⟨.str (Txt.mul i j),H,I.tok k,⟨_,rfl⟩,q⟩
def aKp:SOp (fun x y H Q=>∃ i j,x=.str i/\y=.int j/\MulOk i j/\Q (.str (Txt.mul i j)) H) pE:=by
 intro x y t e;cases x<;>first | (cases e;done) | skip
 cases y<;>first | (cases e;done) | skip
 rename_i i j;have e:(if 0<=j/\j<=3000/\i.length<=1000 then some (T.str (Txt.mul i j)) else none)=some t:=e;split at e
 ·rename_i hc
  cases (aRv e);exact⟨rfl,rfl,rfl,fun H Q q=>⟨i,j,rfl,rfl,aEl hc.1 hc.2.1 hc.2.2,q⟩⟩
 ·cases e
def BK(ha:GE X B fl a f n l)(hb:GE X B fl b g n' l'):GE X B fl (.BinOp a .Mult b pos) (f2 f g pE) true 3:=gH aH7 aKp ha hb
end
noncomputable def wN(k:Str):Value->Bool
 | .str b _=>b == k
 | _=>false
theorem NJ{k:Str}:∀ {bs:List Str}{j:Nat},j<bs.idxOf k->∀ (h2:j<bs.length),(bs[j] == k)=false
 | b::r,0,h,_=>by
  by_cases e:b=k
  ·subst e;simp at h
  ·simpa using e
 | b::r,j+1,h,h2=>by
  by_cases e:b=k
  ·subst e;simp at h
  ·have hb:(b == k)=false:=by simpa using e
   rw[List.idxOf_cons,hb] at h;exact NJ (bs:=r) (j:=j) (by simpa using h) (Nat.lt_of_succ_lt_succ h2)
def MV{k:Str}{l:List (Str × Tok)}{ws:List Str}(e:l.map (·.1)=ws){j:Nat}(hj:j<(strValues l).length)(hw:j<ws.length):wN k (strValues l)[j]=(ws[j] == k):=by
 subst e;have h1:j<l.length:=by rw[aT5] at hw;exact hw
 have h2:(strValues l)[j]=Value.str l[j].1 l[j].2:=by
  have:(strValues l)[j]?=some (Value.str l[j].1 l[j].2):=by
   unfold strValues;rw[aT0,aRx h1];rfl
  exact (aS0.mp this).2
 rw[h2,List.getElem_map]
 rfl
def aEe{X:Cx}:MtR X "list.index" (fun x xs H Q=>∃ (a:Addr) (bs:List Str) (k:Str),x=.ref a/\xs=[.str k]/\SqL X.K H a (bs.map V.str)/\k∈bs/\Q (.int (bs.idxOf k:Nat)) H):=by
 intro pins s σ H x xs v us Q I rx rv h;obtain⟨a,bs,k,rfl,rfl,hS,hk,q⟩:=h;cases rx;rw[31];obtain⟨tk,rfl⟩:=ru;obtain⟨its,r,p,hz⟩:=I.list hS;obtain⟨l,rfl,el⟩:=zI r;have hll:(strValues l).length=bs.length:=by unfold strValues;rw[aT5,<- el,aT5]
 have hj:bs.idxOf k<bs.length:=List.idxOf_lt_length_iff.mpr hk;have hz':bs.length<=sizeLine:=by simpa using hz
 rw[aUm] at hz';obtain⟨⟨cls,dd,data,sl⟩,ho,hc,n,hd⟩:=p.isList;simp only at hc hd;subst hc hd;refine aV4 PySem.F.slot_list_index ⟨_,ho,rfl⟩ PySem.F.entry_list_index (PySem.F.args_list_index_2 _ _)
  (PySem.SeqAt.list_indexAt a (strValues l).toArray n dd sl (.str k tk) (wN k) (bs.idxOf k) (by simpa [hll] using hj) (by lia) ?_ ?_) ⟨ho,fun y hy=>?_,⟨.int _,H,I.tok _,⟨_,rfl⟩,q⟩⟩
 ·have hj':bs.idxOf k<(strValues l).length:=by lia
  show wN k (strValues l)[bs.idxOf k]=true;rw[MV el hj' hj]
  simpa using List.getElem_idxOf hj
 ·intro j hjs hlt
  have hj':j<(strValues l).length:=by simpa using hjs
  show wN k (strValues l)[j]=false;rw[MV el hj' (by lia)];exact NJ hlt _
 ·obtain⟨b,_,rfl⟩:=aTj.mp (show y∈l.map (fun p=>Value.str p.1 p.2) from by simpa [strValues] using hy)
  exact PySem.SeqAt.EqAt.str_str b.1 b.2 k tk
def CS:T->T->Option T
 | .lst ts,.str k=>(cI ts).bind fun bs=>if k∈bs then some (.int (bs.idxOf k:Nat)) else none
 | _,_=>none
def aAk{X:Cx}{B:Hp}{fl:List Nat}{o e:Expr}{f g:Rho->Option T}{n n':Bool}{l l':Nat}{apos pos:Pos}(ho:GE X B fl o f n l)(he:GE X B fl e g n' l')
  (hbase:attributeBase o "index" X.env (eval o X.env)=eval o X.env:=by rfl)
  (hfew:((backTo pos (starEach [e] X.env)).all (fun x=>!x.1)&&(backToKw pos (keywordEach [] X.env)).all (fun x=>x.1.isSome)
   && decide (([e]:List Expr).length+([]:List Keyword).length+(if ([]:List Keyword).isEmpty then 0 else 1)<30))=true:=by rfl)
  (hline:(apos.endLine == pos.line)=true:=by rfl) (hs:aVd X e:=by rfl):GE X B fl (.Call (.Attribute o "index" apos) [e] [] pos) (f2 f g CS) true 3:=by
 refine bC (nC PySem.F.plainAttrs_list PySem.F.slot_list_index PySem.F.type_list_index aEe ho (cD he cZ hs) hbase hfew hline hs rfl) ?_;rw[0];rw[9];rw[13];cases x<;>first | (cases y<;>cases hf;done) | skip
 cases y<;>first | (cases hf;done) | skip
 rename_i us _ k;obtain⟨ns,ea,hg⟩:=bind_some (show ((cI us).bind fun ns=>if k∈ns then some (T.int (ns.idxOf k:Nat)) else none)=some t from hf);cases nJ ea
 by_cases hk:k∈ns
 ·rw[aUc hk] at hg
  cases (aRv hg);refine⟨Ex,ρ,M,_,S,hx,fun v H1 s1 rx=>?_⟩;obtain⟨p,xs,rfl,h1,h2⟩:=(rx.rep S).sqL;cases pK h2;refine⟨.inl ⟨rfl,_,h1⟩,Ex,ρ,M,_,S.grow s1,hy,fun v2 H2 s2 ry=>?_⟩;cases (aO.scal rfl).mp ry;have h1':SqL X.K H2 p (ns.map V.str):=by
   rcases h1 with h | h
   ·exact .inl (dP (fun o q=>s2 _ _ q) h)
   ·exact .inr h
  exact⟨p,ns,k,rfl,rfl,h1',hk,q _ _ (s1.trans s2) ((aO.scal rfl).mpr rfl)⟩
 ·rw[aUd hk] at hg
  cases hg
noncomputable def gP(acc:List Str)(x:Str):List Str:=if acc.contains x then acc else acc++[x]
def dsS(acc l:List Str):List Str:=l.foldl gP acc
def HS(acc:List Str)(x:Str):(gP acc x).length=if acc.contains x=true then acc.length else acc.length+1:=by
 unfold gP
 split<;>simp
def VW(acc:List Str)(x:Str):(fun k=>acc.contains k||decide (k=x))=fun k=>(gP acc x).contains k:=by
 funext k
 unfold gP
 by_cases h:acc.contains x=true
 ·rw[aUc h]
  by_cases e:k=x
  ·subst e;rw[h];rfl
  ·rw[aUi e,Bool.or_false]
 ·rw[aUd h]
  rw[aSd];simp
def MU{prog:Program}{w:World}(x:Str)(t:Tok):(PySem.strKind prog w).is x (.str x t)=true:=show Value.isStrOf x (.str x t)=true from aUf _
def FU{prog:Program}{w:World}{h h':Heap}{a:Addr}{S:Str->Bool}{n:Nat}(k:∀ o,h.get? a=some o->h'.get? a=some o)(s:Heap.SetOf (PySem.strKind prog w) h a S n):Heap.SetOf (PySem.strKind prog w) h' a S n:=by
 obtain⟨o,es,ep,t,e,r⟩:=s;exact⟨o,es,ep,t,k o e,r⟩
theorem aKd{prog:Program}{w:World}(S I l:Addr)(its:List (Str × Tok))(hSI:S≠I)(hSl:S≠l)(hIl:I≠l):∀ (k i:Nat),its.length-i=k->∀ (A:Around) (R:Result->Shared->Prop) (s:Shared) (acc:List Str),A.handled=none->i<=its.length->s.heap.IsListIter I l i->s.heap.IsList l (strValues its).toArray->Heap.SetOf (PySem.strKind prog w) s.heap S (fun k=>acc.contains k) acc.length->acc.length+(its.length-i)+1<scanBound ->
   (∀ (h':Heap) (tk:Nat),Heap.SetOf (PySem.strKind prog w) h' S (fun k=>(dsS acc ((its.drop i).map (·.1))).contains k) (dsS acc ((its.drop i).map (·.1))).length->(∀ b o,b≠S->b≠I->s.heap.get? b=some o->h'.get? b=some o)->R (.ok (.ret .none)) { s with heap:=h',toks:=tk }) ->
   wpAny (model prog w) A.in1 (Builtin.«set.update.loop» { pos:=[Value.ref S,Value.ref I] }) (fun fin s'=>match fin with | .done f=>R (.ok f) s' | .again c'=>c'.quiet=true/\codeAny (model prog w) A c' R s') (fun e s'=>R (.error e) s') s:=by
 intro k
 induction k with
 | zero=>
  intro i hi A R s acc hA hle it hl st hb q;have e:its.drop i=[]:=aSt (by lia);rw[e] at q;unfold Builtin.«set.update.loop»;dsimp only;refine aU9 (wpAny_pyNext_list_end hA it hl (by simp[strValues];lia) fun h' eb=>?_);exact aUa (q h' s.toks (FU (fun o e=>eb S o hSI e) st) fun b o _ h2 e=>eb b o h2 e)
 | succ k ih=>
  intro i hi A R s acc hA hle it hl st hb q;have hlt:i<its.length:=by lia
  have e:its.drop i=its[i]::its.drop (i+1):=aSs hlt;rw[e] at q;unfold Builtin.«set.update.loop»;dsimp only;refine aU9 (wpAny_pyNext_list_item (x:=.str its[i].1 its[i].2) it hl (by simp[strValues,hlt]) fun h' it' sb=>?_);dsimp only;refine aU9 (aUt ?_);unfold setAdd;refine aUt (aU9 ((PySem.strKind prog w).pyHash (k:=its[i].1) (MU _ _) ?_));refine wpAny_setAddHashed_of (knd:=PySem.strKind prog w) (k:=its[i].1) (S:=fun k=>acc.contains k) (n:=acc.length) (MU _ _) rfl ?_ (by lia) fun h2 sb2 st2=>?_
  ·exact FU (fun o e=>(sb.2 S hSI).trans e) st
  ·refine aUa ⟨plainId_quiet F.plain_set_update_loop _,aV7 F.entry_set_update_loop ?_⟩
   rw[Around.under_plainId F.plain_set_update_loop _];have e2:dsS acc ((its[i]::its.drop (i+1)).map (·.1))=dsS (gP acc its[i].1) ((its.drop (i+1)).map (·.1)):=rfl;rw[e2] at q;have st3:Heap.SetOf (PySem.strKind prog w) h2 S (fun k=>(gP acc its[i].1).contains k) (gP acc its[i].1).length:=by
    rw[<- VW,HS];exact st2
   obtain⟨o,ho,hr⟩:=hl;have hl2:h2.IsList l (strValues its).toArray:=⟨o,(sb2.2 l (Ne.symm hSl)).trans ((sb.2 l (Ne.symm hIl)).trans ho),hr⟩;have it2:h2.IsListIter I l (i+1):=it'.at fun o e=>(sb2.2 I (Ne.symm hSI)).trans e;have hlen:=HS acc its[i].1;refine ih (i+1) (by lia) A R { s with heap:=h2,toks:=s.toks+1 } (gP acc its[i].1) hA (by lia) it2 hl2 st3 (by split at hlen<;>lia) fun h3 tk s3 k3=>q h3 tk s3 fun b o b1 b2 e=>k3 b o b1 b2 ((sb2.2 b b1).trans ((sb.2 b b2).trans e))
def aKe{prog:Program}{w:World}{A:Around}{R:Result->Shared->Prop}{s:Shared}{S I l:Addr}{its:List (Str × Tok)}(hSI:S≠I)(hSl:S≠l)(hIl:I≠l)(hA:A.handled=none)(it:s.heap.IsListIter I l 0)(hl:s.heap.IsList l (strValues its).toArray)(st:Heap.SetOf (PySem.strKind prog w) s.heap S (fun k=>([]:List Str).contains k) 0)(hn:its.length+1<scanBound)
  (q:∀ (h':Heap) (tk:Nat),Heap.SetOf (PySem.strKind prog w) h' S (fun k=>(dsS [] (its.map (·.1))).contains k) (dsS [] (its.map (·.1))).length->(∀ b o,b≠S->b≠I->s.heap.get? b=some o->h'.get? b=some o)->R (.ok (.ret .none)) { s with heap:=h',toks:=tk }):
  codeAny (model prog w) A (Code.builtin "set.update.loop" { pos:=[Value.ref S,Value.ref I] }) R s:=by
 refine aV7 F.entry_set_update_loop ?_;rw[Around.under_plainId F.plain_set_update_loop _];exact aKd S I l its hSI hSl hIl its.length 0 (by lia) A R s [] hA (aU4 _) it hl st (by simpa using hn) q
section
variable {prog:Program}{w:World}{A:Around}{E:Value->Shared->Prop}{s:Shared}
def XF{l:Addr}{its:List (Str × Tok)}{Q:Value->Shared->Prop}(hA:A.handled=none)(hl:s.heap.IsList l (strValues its).toArray)(hn:its.length+1<scanBound)
  (h:∀ (h':Heap) (tk:Nat),Heap.SetOf (PySem.strKind prog w) h' s.heap.objs.size (fun k=>(dsS [] (its.map (·.1))).contains k) (dsS [] (its.map (·.1))).length->(∀ b o,b<s.heap.objs.size->s.heap.get? b=some o->h'.get? b=some o)->Q (.ref s.heap.objs.size) { s with heap:=h',toks:=tk }):
  wpAny (model prog w) A (call (.type "set") [.ref l]) Q E s:=by
 unfold call;refine wpAny_runValue (codeAny_of_tree ?_);have hm:(model prog w).den=denote table:=by simp only[model]
 rw[hm]
 wp_walk
 refine⟨by kernel_rfl,aV7 entry_typeCall ?_⟩;generalize hA1:A.under (Code.builtin "type.__call__" { pos:=Value.type "set" :: ({ pos:=[Value.ref l] }:Args).pos })=A1;unfold Builtin.«type.__call__»;dsimp only;rw[aUd (show ¬ (Value.type "set" == Value.type "type")=true from by rw[F.called_set.notType];decide),aUd (show ¬ _=true from by rw[F.called_set.canCreate];decide),F.typeCall_set_1];obtain⟨c,tl,em⟩:=F.called_set.mro;rw[em,F.called_set.made];refine aU9 (aUa ?_);refine aU9 (aUa ?_);rw[aUd (show ¬ (c::tl).isEmpty=true from fun z=>by cases z)];refine aU9 (aUa ?_);dsimp only;refine aU9 (aUa ?_);refine aU9 (aUt ?_);unfold call;refine wpAny_runValue (code_set_new_1 (E:=E) _ fun led=>?_);have ho1:(s.heap.push { cls:=Value.type "set",data:=Data.set #[] 0 (SetTable.fresh 0 0 led) }).get? s.heap.objs.size=some { cls:=Value.type "set",data:=Data.set #[] 0 (SetTable.fresh 0 0 led) }:=aSh _ rfl;obtain⟨⟨cls,dd,data,sl⟩,ho,hc,n,hd⟩:=hl;simp only at hc hd;subst hc hd;have ho':(s.heap.push { cls:=Value.type "set",data:=Data.set #[] 0 (SetTable.fresh 0 0 led) }).get? l=some ⟨.type "list",dd,.seq (strValues its).toArray n,sl⟩:=aS6 _ ho;have hl':(s.heap.push { cls:=Value.type "set",data:=Data.set #[] 0 (SetTable.fresh 0 0 led) }).IsList l (strValues its).toArray:=⟨_,ho',rfl,n,rfl⟩;rw[12]
 wp_walk using wpAny_loadPart' ho1
 rw[F.called_set.sub];refine aUa ?_;rw[aUd (by decide)];refine aU9 (aUt (wpAny_callSpecial?_slot ⟨_,ho1,rfl⟩ F.slot_set_init ?_));unfold call;refine wpAny_runValue (aUw (by kernel_rfl) F.entry_set_init (check_set_init_1 ⟨_,ho1,rfl⟩ ?_));unfold Builtin.«set.__init__»;dsimp only
 wp_walk using wpAny_loadPart' ho',aUs hl'
 rw[show isSubtype _ (Value.type "set")=pure false from F.sub_list_set];refine aUa ?_;show wpAny _ _ (isInstance (Value.ref l) (Value.type "frozenset")) _ _ _
 wp_walk using wpAny_loadPart' ho'
 rw[show isSubtype _ (Value.type "frozenset")=pure false from F.sub_list_frozenset];refine aUa ?_;rw[aUd (by decide)]
 wp_walk using aUs hl',wpAny_loadPart' ho'
 have hsz:(s.heap.push { cls:=Value.type "set",data:=Data.set #[] 0 (SetTable.fresh 0 0 led) }).objs.size=s.heap.objs.size+1:=aSj ..;have hlt:l<s.heap.objs.size:=aSi ho;have n1:s.heap.objs.size≠(s.heap.push { cls:=Value.type "set",data:=Data.set #[] 0 (SetTable.fresh 0 0 led) }).objs.size:=fun z=>absurd (z.trans hsz) (aU0 (aTw _));have n2:s.heap.objs.size≠l:=fun z=>absurd z.symm (aU0 hlt);have n3:(s.heap.push { cls:=Value.type "set",data:=Data.set #[] 0 (SetTable.fresh 0 0 led) }).objs.size≠l:=fun z=>absurd (z.symm.trans hsz) (aU0 (Nat.lt_succ_of_lt hlt));have hl2:((s.heap.push { cls:=Value.type "set",data:=Data.set #[] 0 (SetTable.fresh 0 0 led) }).push { cls:=Value.type "list_iterator",data:=Data.fields #[Value.ref l,Value.int 0 0] }).IsList l (strValues its).toArray:=⟨_,aS6 _ ho',rfl,n,rfl⟩;refine aKe (prog:=prog) (w:=w) (its:=its) n1 n2 n3 (by rw[<- hA1];exact hA) ⟨_,aSh _ rfl,rfl,rfl⟩ hl2 ?_ hn fun h' tk st k=>?_
 ·refine⟨_,#[],0,SetTable.fresh 0 0 led,aS6 _ ho1,⟨rfl,rfl,rfl⟩,rfl,(fun e he=>by simp at he),(fun k=>by simp),Nat.lt_of_le_of_lt (aU4 _) hn,by cases led<;>rfl,rfl⟩
 ·refine aUa (aUa ?_)
  dsimp only;rw[aUd (by decide)];refine aUa ?_;dsimp only;refine h h' tk st fun b o hb e=>k b o (aU0 hb) (fun z=>absurd (z.trans hsz) (aU0 (Nat.lt_succ_of_lt hb))) (aS6 _ (aS6 _ e))
end
noncomputable def vP(P:Program)(w:World)(a:Addr)(ws:List Str):HO:=.ext fun h=>Heap.SetOf (PySem.strKind P w) h a (fun k=>ws.contains k) ws.length
def XD{X:Cx}(hc:X.calm=true):eF X (.type "set") (fun vs H Q=>∃ p ws,vs=[.ref p]/\SqL X.K H p (ws.map V.str)/\ws.length+1<scanBound/\∀ a,H a=none->Q (.ref a) (upd H a (vP X.prog X.w a (dsS [] ws)))):=by
 intro pins s σ H vs us Q I rv h;obtain⟨p,ws,rfl,sq,hn,q⟩:=h;rw[31];cases ru;obtain⟨its,r,⟨ob,nn,e1,e2,_,e4⟩,_⟩:=I.list sq;obtain⟨l,rfl,el⟩:=zI r;have hf:H s.heap.objs.size=none:=I.hok.fresh (aTs _);have hll:l.length=ws.length:=by rw[<- el,aT5]
 refine XF (its:=l) (I.ok.hd hc) ⟨ob,e1,e2,nn,e4⟩ (by lia) fun h' tk st k=>?_;rw[el] at st;refine⟨.ref s.heap.objs.size,upd H s.heap.objs.size (vP X.prog X.w s.heap.objs.size (dsS [] ws)),I.laid (h':=h') (t':=tk) (fun b o e=>k b o (aSi e) e) (aTs _) ?_,rfl,q _ hf⟩;refine⟨st,?_,fun h1 h2 s1 kk=>FU kk s1⟩;obtain⟨o,_,_,_,e,_⟩:=st;exact⟨o,e⟩
def XA{X:Cx}:eF X (.builtin "len") (fun vs H Q=>∃ a ws,vs=[.ref a]/\H a=some (vP X.prog X.w a ws)/\Q (.int (ws.length:Nat)) H):=by
 intro pins s σ H vs us Q I rv h;obtain⟨a,ws,rfl,hH,q⟩:=h;rw[31];cases ru;obtain⟨⟨o,es,ep,t,e,ex,hd,_,_,hb,hfit,hsz⟩,_⟩:=(show cO X.prog X.w H s.heap a (vP X.prog X.w a ws) from I.hok a _ hH);refine call_len_set e ex hd hfit ?_ ⟨.int _,H,I.tok _,⟨_,rfl⟩,?_⟩
 ·have:scanBound<2^63:=by decide
  lia
 ·rw[hsz];exact q
def qY:List T->Option T
 | [.lst ts]=>(cI ts).bind fun l=>if l.length<=1000 then some (.int ((dsS [] l).length:Nat)) else none
 | _=>none
section
variable {e:Expr}{fa:Rho->Option (List T)}{l:Nat}{p1 p2 pos2:Pos}{x y:Str}
theorem LA(hx:x = "len")(hy:y = "set")(hg:Gl X x)(hm:X.mg x=none)(hg2:Gl X y)(hm2:X.mg y=none)(hc:X.calm=true)(ha:GA X B fl [e] fa l)
  (he:aVd X e:=by rfl) (he2:starEach [.Call (.Name y p2) [e] [] pos2] X.env=[(false,eval (.Call (.Name y p2) [e] [] pos2) X.env)]:=by rfl):
  GE X B fl (.Call (.Name x p1) [.Call (.Name y p2) [e] [] pos2] [] pos) (aG fa qY) true 3:=by
 subst hx hy;refine bC (nE XA hg hm PySem.boot_len (cD (xJ (XD hc) hg2 hm2 (by kernel_rfl) ha (by decide) (by decide) he rfl) cZ he2) (by decide) (by decide) he2 rfl) ?_;rw[0];rw[5];rw[6]
 match ts,hf with
 | [.lst us],hf=>
  obtain⟨ws,ea,hg⟩:=bind_some (show ((cI us).bind fun l=>if l.length<=1000 then some (T.int ((dsS [] l).length:Nat)) else none)=some t from hf);split at hg
  ·rename_i hl
   cases (aRv hg);cases nJ ea;rw[25];obtain⟨p,xs,rfl,h1,h2⟩:=ry.sqL;cases pK h2;have hb:1001<scanBound:=by decide
   refine⟨p,ws,rfl,h1,by lia,fun a hn=>⟨a,dsS [] ws,rfl,bY,q _ _ (s1.trans (cW hn _)) ((aO.scal rfl).mpr rfl)⟩⟩
  ·cases hg
end
theorem JU{α:Type}{c:α}:∀ {u u' v v':List α},c ∉ u->c ∉ u'->u++c::v=u'++c::v'->u=u'/\v=v'
 | [],[],_,_,_,_,e=>⟨rfl,(List.cons.inj e).2⟩
 | [],y::u',_,_,_,h2,e=>by
  obtain⟨e1,_⟩:=List.cons.inj e;exact absurd (by rw[e1];exact aRz) h2
 | x::u,[],_,_,h1,_,e=>by
  obtain⟨e1,_⟩:=List.cons.inj e;exact absurd (by rw[<- e1];exact aRz) h1
 | x::u,y::u',v,v',h1,h2,e=>by
  obtain⟨e1,e2⟩:=List.cons.inj e;obtain⟨a,b⟩:=JU (fun z=>h1 (aRy _ z)) (fun z=>h2 (aRy _ z)) e2;exact⟨by rw[e1,a],b⟩
noncomputable def chL(x:Str):List Nat:=x.cps.toList
def gQ{x y:Str}(h:chL x=chL y):x=y:=by
 cases x with
 | mk a=>
  cases y with
  | mk b=>
   have:a=b:=Array.toList_inj.mp h;rw[this]
def dU(x y:Str):chL (x++y)=chL x++chL y:=by
 show ((x.cps++y.cps).toList)=_;rw[Array.toList_append];rfl
def nW(c:Nat)(x y:Str)(r:List Str):chL (Str.join ⟨#[c]⟩ (x::y::r))=chL x++c::chL (Str.join ⟨#[c]⟩ (y::r)):=by
 rw[PyProof.Rows.join_cons_cons,dU,dU,aSo]
 rfl
theorem MX{c:Nat}:∀ {a b:List Str},a≠[]->b≠[]->(∀ x∈a,c ∉ chL x)->(∀ x∈b,c ∉ chL x)->Str.join ⟨#[c]⟩ a=Str.join ⟨#[c]⟩ b->a=b
 | [],_,h,_,_,_,_=>absurd rfl h
 | [x],[],_,h,_,_,_=>absurd rfl h
 | [x],[y],_,_,_,_,e=>by rw[show x=y from e]
 | [x],y::z::r,_,_,h1,_,e=>by
  have e2:=congrArg chL e;rw[nW] at e2;have:chL (Str.join ⟨#[c]⟩ [x])=chL x:=rfl;rw[this] at e2;exact absurd (by rw[e2];simp) (h1 x aRz)
 | x::y::r,[],_,h,_,_,_=>absurd rfl h
 | x::y::r,[z],_,_,_,h2,e=>by
  have e2:=congrArg chL e;rw[nW] at e2;have:chL (Str.join ⟨#[c]⟩ [z])=chL z:=rfl;rw[this] at e2;exact absurd (by rw[<- e2];simp) (h2 z aRz)
 | x::y::r,x'::y'::r',_,_,h1,h2,e=>by
  have e2:=congrArg chL e;rw[nW,nW] at e2;obtain⟨a,b⟩:=JU (h1 x aRz) (h2 x' aRz) e2;have ih:=MX (a:=y::r) (b:=y'::r') (by simp) (by simp) (fun z hz=>h1 z (aRy _ hz)) (fun z hz=>h2 z (aRy _ hz)) (gQ b);rw[gQ a,ih]
def aKq(x y:Str):Txt.split x y≠[]:=by
 unfold Txt.split
 split
 ·simp
 ·split
  ·simp
  ·unfold Builtin.Str.partsBetween;simp
def rX{c:Nat}{rows:List Str}(h0:rows≠[])(h:∀ x∈rows,c ∉ chL x):Txt.split (Txt.join ⟨#[c]⟩ rows) ⟨#[c]⟩=rows:=by
 have e:Txt.join ⟨#[c]⟩ rows=Str.join ⟨#[c]⟩ rows:=PySem.StrLaws.glued_eq_join _ _;rw[e];exact MX (aKq _ _) h0 (fun x hx=>PySem.StrLaws.split_free _ c x hx) h (PySem.StrLaws.join_split _ _)
theorem JC:∀ (l acc:List Str),(acc++l).Nodup->dsS acc l=acc++l
 | [],acc,_=>by simp[dsS]
 | x::l,acc,h=>by
  have hx:acc.contains x=false:=by
   have:=(List.nodup_append.mp h).2.2;rw[Bool.eq_false_iff];intro z;exact this x (by simpa using z) x aRz rfl
  have e:dsS acc (x::l)=dsS (gP acc x) l:=rfl;rw[e,gP,hx,aUd (by decide),JC l (acc++[x]) (by rw[aSo];exact h),aSo]
  rfl
def JB{l:List Str}(h:l.Nodup):dsS [] l=l:=by
 have:=JC l [] (by simpa using h)
 simpa using this
def JA{prog:Program}{w:World}{A:Around}{it:Addr}{fp:List Addr}{n:Nat}{P:Nat->Value->Prop}{St:Nat->Heap->Prop}(D:Draws prog w A it fp n P St):Draws prog w A it fp (n+1) (fun j=>P (j-1)) (fun j h=>1<=j/\St (j-1) h) where
 live:=fun i h s=>D.live (i-1) h s.2
 frame:=fun i h h' s k=>⟨s.1,D.frame (i-1) h h' s.2 k⟩
 item:=fun i s Q E hi st q=>by
  refine D.item (i-1) s Q E (by have:=st.1;lia) st.2 fun x h' tk p s' sb=>q x h' tk p ⟨Nat.le_add_left 1 i,?_⟩ sb;have e:i+1-1=i-1+1:=by have:=st.1;lia
  rw[e];exact s'
 done:=fun s Q E st q=>D.done s Q E (by have:=st.2;rwa [Nat.add_sub_cancel] at this) q
def sW(K:PySem.W.Frag)(a:Addr):It:=
 ⟨fun i H=>∃ xs x,SqL K H a xs/\xs[i]?=some x,fun i H x H'=>∃ T y,(∀ xs,SqL K H a xs->xs[i]?=some y)/\H T=none/\x=.ref T/\H'=upd H T (.tup [.int ((i+1:Nat):Int),y]),fun i H=>∃ xs,SqL K H a xs/\xs.length=i⟩
def aM8{P:Program}{w:World}{K:PySem.W.Frag}{elts:List Expr}{k:Nat}{pos:Pos}(a e it:Addr)(hei:e≠it):Turn P w K (.Tuple elts k pos) (sW K a) [e,it] e (fun i h=>(∃ old,IsEnum h e it ((i+1:Nat):Int) old)/\h.IsListIter it a i) where
 mem:=by simp
 obj:=fun i h st b hb=>by
  obtain⟨⟨old,he⟩,hit⟩:=st;rcases aS7.mp hb with rfl | hb
  ·exact⟨_,he,fun v z=>by cases (show Data.fields _=Data.cell v from z)⟩
  ·have eb:b=it:=by simpa using hb
   subst eb;obtain⟨o,q,c,d⟩:=hit;exact⟨o,q,fun v z=>by rw[d] at z;cases z⟩
 keep:=fun i h h' st kp=>by
  obtain⟨⟨old,he⟩,hit⟩:=st;exact⟨⟨old,kp e (by simp) _ he⟩,hit.at fun o q=>kp it (by simp) o q⟩
 item:=by
  rw[1];rw[28];obtain⟨xs,x,hq,hx⟩:=hg;obtain⟨its,rv,p,hz⟩:=I.list hq;obtain⟨u,hu,ru⟩:=rv.get hx;obtain⟨⟨old,he⟩,hit⟩:=st;obtain⟨oit,eit,cit,dit⟩:=id hit;obtain⟨ol,el,cl,nl,dl⟩:=id p.isList;have hle:a≠e:=mX el he (by rw[cl];simp);have hli:a≠it:=mX el eit (by rw[cl,cit];simp);have W:=WalksT.enumerateD (A:=X.A) (JA (Draws.list (prog:=X.prog) (w:=X.w) (A:=X.A.in1) (I.ok.hd hc) it a hli its.toArray)) e hei (by simp;exact⟨hei,Ne.symm hle⟩) (by simp);have hi:i+1<its.toArray.size+1:=by
   have:=(aS0.mp hu).1
   simpa using this
  refine W.item (i+1) s _ E hi ⟨⟨old,he⟩,Nat.le_add_left 1 i,hit,p.isList⟩ fun T vals h1 tk hPt hT hTup hMid keep1=>⟨_,rfl,?_⟩;refine W.go elts k pos (i+1) T { s with heap:=h1,toks:=tk } _ E hMid fun h2 hSt keep2=>?_;obtain⟨t,v,hv,rfl⟩:=hPt;have hvu:v=u:=by
   have:its[i]?=some v:=by simpa using hv
   rw[hu] at this;exact (aRv this).symm
  subst hvu;have hTw:=W.apart (i+1) T h1 hMid;obtain⟨oT,eT,cT,nT,dT⟩:=hTup;have eT2:h2.get? T=some oT:=keep2 T oT hTw eT;have new:cO X.prog X.w (upd H T (.tup [.int ((i+1:Nat):Int),x])) h2 T (.tup [.int ((i+1:Nat):Int),x]):=by
   refine⟨by rw[aUm];show 2<=16777216;decide,[.int ((i+1:Nat):Int) t,v],.cons ⟨t,rfl⟩ (.cons ru .nil),⟨oT,eT2,cT,nT,dT⟩⟩
  have I2:Inv X pins σ (upd H T (.tup [.int ((i+1:Nat):Int),x])) { s with heap:=h2,toks:=tk }:=BX (fs:=[e,it]) I hT (fun b o hb q=>keep2 b o hb (keep1 b o hb q)) hf new;refine⟨.ref T,_,I2,rfl,⟨T,x,fun ys hy=>by rw[I.list_inj hy hq];exact hx,I.hok.fresh hT,rfl,rfl⟩,⟨hSt.1,hSt.2.2.1⟩,fun b hb=>?_⟩;rw[aW (fun z=>hTw (by rw[<- z];exact hb))];exact (hf b hb).1
 done:=by
  rw[1];rw[28];obtain⟨xs,hq,hx⟩:=hg;obtain⟨its,rv,p,hz⟩:=I.list hq;obtain⟨⟨old,he⟩,hit⟩:=st;obtain⟨oit,eit,cit,dit⟩:=id hit;obtain⟨ol,el,cl,nl,dl⟩:=id p.isList;have hle:a≠e:=mX el he (by rw[cl];simp);have hli:a≠it:=mX el eit (by rw[cl,cit];simp);have hl:=rv.length;have W:=WalksT.enumerateD (A:=X.A) (JA (Draws.list (prog:=X.prog) (w:=X.w) (A:=X.A.in1) (I.ok.hd hc) it a hli its.toArray)) e hei (by simp;exact⟨hei,Ne.symm hle⟩) (by simp);have hn:i=its.toArray.size:=by simp;lia
  refine W.done s _ E ⟨⟨old,by rw[<- hn];exact he⟩,Nat.le_add_left _ _,by rw[Nat.add_sub_cancel,<- hn];exact hit,p.isList⟩ fun h' tk k=>⟨rfl,BW (t':=tk) (fs:=[e,it]) I (fun b o hb q=>k b o hb q) hf⟩
 self:=fun A i s Q E st h=>by
  obtain⟨⟨old,he⟩,hit⟩:=st;exact wpAny_pyIter_enum he h
end G
set_option maxRecDepth 100000
namespace G
open PySem PySem.Spec PyProof.Rows L2
noncomputable abbrev JE(a:Value)(tk:Tok):Args:=⟨[a],[("start",.int 1 tk)]⟩
noncomputable abbrev vX(a:Value)(tk:Tok):Args:=⟨[.type "enumerate",a],[("start",.int 1 tk)]⟩
noncomputable abbrev JG(o a:Value)(tk:Tok):Args:=⟨[o,a],[("start",.int 1 tk)]⟩
def aLs(a:Value)(tk:Tok):checkTypeCall "enumerate" (JE a tk)=pure ():=by kernel_rfl
def aEm(a:Value)(tk:Tok):checkBuiltinCall "enumerate.__new__" (vX a tk)=pure ():=by kernel_rfl
def WB(o a:Value)(tk:Tok):argsOk "object.__init__" (JG o a tk):=by
 have z:=signature?_of (id := "object.__init__") (n := "__tini__".toList) (o := "tcejbo".toList) (by kernel_rfl) F.owner_object;unfold argsOk;rw[z];kernel_rfl
noncomputable abbrev liO(l:Addr):Obj:={ cls:=.type "list_iterator",data:=.fields #[.ref l,.int 0 0] }
noncomputable abbrev enO(i:Addr):Obj:={ cls:=.type "enumerate",data:=.fields #[.none,.bool false,.ref i,rawInt 1,.none,.none] }
def VT(l:Addr)(its:Array Value)(n:Nat)(dc:Option Addr)(sl:Array (Option Value)):PySem.Spec:=fun _ R s=>s.heap.get? l=some ⟨.type "list",dc,.seq its n,sl⟩/\R (.ok (.ret (.ref (s.heap.push (liO l)).objs.size))) { s with heap:=(s.heap.push (liO l)).push (enO s.heap.objs.size) }
def aEo(l:Addr)(its:Array Value)(n:Nat)(dc:Option Addr)(sl:Array (Option Value))(tk:Tok):Meets (Builtin.«enumerate.__new__» (vX (.ref l) tk)) (VT l its n dc sl):=by
 refine .of_wp ?_;intro pr w A R s h;have su:=sub_enumerate;obtain⟨e,h⟩:=h;have il:s.heap.IsList l its:=⟨_,e,rfl,n,rfl⟩
 wp_walk using AutoSeq1.wpAny_loadPart' e
 apply wpAny_stack_any;intro st;apply aUa
 split
 ·rename_i c _ _ _ _ _
  rcases (c == Value.type "enumerate") with _ | _<;>(wp_walk using AutoSeq1.wpAny_loadPart' e,aUs il;exact⟨_,rfl,h⟩)
 ·wp_walk using AutoSeq1.wpAny_loadPart' e,aUs il;exact⟨_,rfl,h⟩
def aCs(o a:Value)(tk:Tok):Meets (Builtin.«object.__init__» (JG o a tk)) (fun _ R s=>s.TypeIs o "enumerate" /\ R (.ok (.ret .none)) s):=by
 have k1:=F.called_enumerate.init.lookup;have k2:=F.called_enumerate.made;refine .of_wp ?_;intro pr w A R s h;obtain⟨k3,h⟩:=h
 repeat any_goals first | assumption | wp_step
 exact⟨_,rfl,h⟩
section
variable {prog:Program}{w:World}{A:Around}{E:Value->Shared->Prop}{s:Shared}
def WY{l:Addr}{items:Array Value}{tk:Tok}{Q:Value->Shared->Prop}(hl:s.heap.IsList l items)
  (h:∀ h',IsEnum h' (s.heap.objs.size+1) s.heap.objs.size 1 .none->h'.IsListIter s.heap.objs.size l 0->h'.objs.size=s.heap.objs.size+2->(∀ b o,s.heap.get? b=some o->h'.get? b=some o)->Q (.ref (s.heap.objs.size+1)) { s with heap:=h' }):
  wpAny (model prog w) A (call (.type "enumerate") [.ref l] [("start",.int 1 tk)]) Q E s:=by
 obtain⟨⟨c,dc,dt,sl⟩,el,ec,n,ed⟩:=hl;cases (show c=.type "list" from ec);cases (show dt=.seq items n from ed);obtain⟨c,tl,hm⟩:=F.called_enumerate.mro;have f1:=F.called_enumerate.made;have f2:=F.called_enumerate.sub;have f3:=F.called_enumerate.notType;have f4:=F.called_enumerate.canCreate;have f5:=aLs (.ref l) tk;refine wpAny_call (codeAny_of_tree ?_);refine (show wpAny _ _ (callAny (.type "enumerate") (JE (.ref l) tk)) _ _ _ from aUa ⟨Code.quiet_builtin _ (by decide +kernel),aV7 F.entry_type_call ?_⟩);rw[Around.under_plain (show (Code.builtin "type.__call__" (vX (.ref l) tk)).weight=0 from rfl) (show (Code.builtin "type.__call__" (vX (.ref l) tk)).cUnits=1 from rfl)]
 repeat any_goals first | assumption | wp_step
 have z1:(s.heap.push (liO l)).objs.size=s.heap.objs.size+1:=aSj ..;have z2:IsEnum ((s.heap.push (liO l)).push (enO s.heap.objs.size)) (s.heap.objs.size+1) s.heap.objs.size 1 .none:=by
  have:=aSh (s.heap.push (liO l)) (o:=enO s.heap.objs.size) rfl;rw[z1] at this;exact this
 have q:=h _ z2 ⟨_,aS6 _ (aSh _ rfl),rfl,rfl⟩ (by rw[aSj,z1]) fun b o x=>aS6 _ (aS6 _ x);have m1:=aEo l items n dc sl tk prog w A.in1 (fun r t=>r=.ok (.ret (.ref (s.heap.objs.size+1)))/\t={ s with heap:=(s.heap.push (liO l)).push (enO s.heap.objs.size) }) s ⟨el,by rw[z1],rfl⟩;refine aV8 (R:=fun r t=>r=.ok (.ret (.ref (s.heap.objs.size+1)))/\t={ s with heap:=(s.heap.push (liO l)).push (enO s.heap.objs.size) }) (aUw F.called_enumerate.plain F.entry_enumerate_new (wpAny_of_eq (aEm (.ref l) tk) m1)) ?_;rintro r t ⟨rfl,rfl⟩;have k1:=F.called_enumerate.init.lookup;have k2:=F.called_enumerate.init.bind (.ref (s.heap.objs.size+1));have k3:Shared.TypeIs { s with heap:=(s.heap.push (liO l)).push (enO s.heap.objs.size) } (.ref (s.heap.objs.size+1)) "enumerate" := ⟨_,z2,rfl⟩
 repeat any_goals first | assumption | wp_step
 have m2:=aCs (.ref (s.heap.objs.size+1)) (.ref l) tk prog w A.in1 (fun r t=>r=.ok (.ret .none)/\t={ s with heap:=(s.heap.push (liO l)).push (enO s.heap.objs.size) }) _ ⟨k3,rfl,rfl⟩;refine aV8 (R:=fun r t=>r=.ok (.ret .none)/\t={ s with heap:=(s.heap.push (liO l)).push (enO s.heap.objs.size) }) (aUw F.called_enumerate.init.plain F.entry_object_init (F.called_enumerate.init.check _ _ _ _ _ _ _ _ k3 (WB _ _ tk) m2)) ?_;rintro r t ⟨rfl,rfl⟩
 repeat any_goals first | assumption | wp_step
def WV{M:Model}{env:Env}{pos:Pos}{T:String}{e:Expr}{kws:List Keyword}{Q:Value->Shared->Prop}
  (h:wpAny M A (spliced (backTo pos (starEach [e] env))) (fun vs s1=>wpAny M A (PySem.evalAll ((backToKw pos (keywordEach kws env)).map (·.2)))
   (fun ks s2=>wpAny M A (call (.type T) vs (((backToKw pos (keywordEach kws env)).filterMap (·.1)).zip ks)) Q E s2) E s1) E s)
  (he:backTo pos (starEach [e] env)=(false,eval e env)::backTo pos (starEach [] env)) (hp:(backTo pos (starEach [e] env)).any (·.1)=false)
  (hall:(backToKw pos (keywordEach kws env)).all (·.1.isSome)=true) (hkw:(backToKw pos (keywordEach kws env)).any (·.1.isNone)=false):
  wpAny M A (callWith pos (.type T) [] (backTo pos (starEach [e] env)) (backToKw pos (keywordEach kws env))) Q E s:=by
 have go:wpAny M A (evalArgs (.type T) true (backTo pos (starEach [e] env)) (backToKw pos (keywordEach kws env))) (fun a t=>wpAny M A (call (.type T) a.pos a.kw) Q E t) E s:=by
  rw[he] at h ⊢;exact PyProof.Rows.evalArgs_kwB hall h
 unfold callWith
 apply aU9;apply aUt
 refine thn go fun a t h1=>?_
 apply aU9;apply aV9
 simp only[hp,hkw,Bool.or_false]
 apply aU9;apply aUa;apply aU9
 exact thn h1 fun r u hr=>aU9 (aUt (wpAny_point (aUa hr)))
end
variable {X:Cx}
section
variable {elts:List Expr}{k:Nat}{p2:Pos}
def aCo(K:PySem.W.Frag)(ta tk:TA):TI:=fun σ H R=>ta σ H fun vs H1=>tk σ H1 fun zs H2=>∃ l xs,vs=[.ref l]/\zs=[.int 1]/\SqL K H2 l xs/\R (sW K l) H2
def aI1{a kv:Expr}{ta tk:TA}{p pos kpos:Pos}(hg:Gl X "enumerate")(hm:X.mg "enumerate" = none)(ha:PA X [a] ta)(hk:PK X [⟨some "start",kv,kpos⟩] tk)
  (he:backTo pos (starEach [a] X.env)=(false,eval a X.env)::backTo pos (starEach [] X.env):=by rfl) (hpl:(backTo pos (starEach [a] X.env)).any (·.1)=false:=by rfl)
  (hall:(backToKw pos (keywordEach [⟨some "start",kv,kpos⟩] X.env)).all (·.1.isSome)=true:=by rfl) (hkw:(backToKw pos (keywordEach [⟨some "start",kv,kpos⟩] X.env)).any (·.1.isNone)=false:=by rfl)
  (hks:(backToKw pos (keywordEach [⟨some "start",kv,kpos⟩] X.env)).filterMap (·.1)=[("start":Str)]:=by rfl):PI X (.Tuple elts k p2) (.Call (.Name "enumerate" p) [a] [⟨some "start",kv,kpos⟩] pos) (aCo X.K ta tk):=by
 intro pins s σ H R I h;refine aV0 (qU I hg hm PyProof.Rows.boot_enumerate ?_ (by decide) (by decide));refine WV ?_ he hpl hall hkw;refine thn (ha pos pins s σ H _ I h) fun us s1 ⟨vs,H1,I1,r1,q1⟩=>?_;refine thn (hk pos pins s1 σ H1 _ I1 q1) fun ws s2 ⟨zs,H2,I2,rz,q2⟩=>?_;rw[hks];obtain⟨l,xs,rfl,rfl,hq,q⟩:=q2;obtain⟨u,rfl,ru⟩:=jM r1;cases ru;obtain⟨w,rfl,rw'⟩:=jM rz;obtain⟨tk,rfl⟩:=rw';obtain⟨its,rv,p,hz⟩:=I2.list hq;refine WY (tk:=tk) p.isList fun h' he hit hsz keep=>wpAny_pyIter_enum he ?_;refine⟨_,[s2.heap.objs.size+1,s2.heap.objs.size],_,_,H2,rfl,I2.kept (t':=s2.toks) keep,aM8 l _ _ (aTz (aTw _)),⟨⟨_,he⟩,hit⟩,fun b hb=>?_,q⟩;have hb':s2.heap.objs.size<=b:=by
  simp only[aS7,aTk,aUp] at hb;rcases hb with rfl | rfl<;>lia
 exact I2.fpOk hb' (I2.hok.fresh hb')
def YZ{K:PySem.W.Frag}{a:Addr}{xs:List V}{g:TG}{tb:TS}{D:Ends}{σ:St}{H:Hp}(Pv:Nat->St->Hp->Prop)(h0:Pv 0 σ H)(hl:∀ i σ H,i<=xs.length->Pv i σ H->SqL K H a xs)
  (hs:∀ i x σ H T,xs[i]?=some x->Pv i σ H->H T=none->g (.ref T) σ (upd H T (.tup [.int ((i+1:Nat):Int),x])) fun σ2 H2=>tb { D with nx:=Pv (i+1),ct:=Pv (i+1),bk:=D.nx } σ2 H2) (hd:∀ σ H,Pv xs.length σ H->D.nx σ H):
  ∃ W:Nat->Nat->St->Hp->Prop,(∃ m,W 0 m σ H)/\∀ i m σ H,W i m σ H ->
   ((sW K a).stop i H/\D.nx σ H)\/((sW K a).go i H/\∃ N:St->Hp->Prop,(∀ σ' H',N σ' H'->∃ m',m'<m/\W (i+1) m' σ' H')/\∀ x H',(sW K a).yld i H x H'->g x σ H' fun σ2 H2=>tb { D with nx:=N,ct:=N,bk:=D.nx } σ2 H2):=by
 refine⟨fun i m σ H=>m=xs.length-i/\i<=xs.length/\Pv i σ H,⟨xs.length,by simp,aU4 _,h0⟩,?_⟩;rintro i m σ H ⟨rfl,hi,pv⟩;have sq:=hl i σ H hi pv;rcases Nat.lt_or_ge i xs.length with lt | ge
 ·refine .inr ⟨⟨xs,xs[i],sq,by simp[lt]⟩,Pv (i+1),fun σ' H' p'=>⟨xs.length-(i+1),by lia,rfl,lt,p'⟩,?_⟩
  rintro x H' ⟨T,y,hy,hT,rfl,rfl⟩;exact hs i y σ H T (hy xs sq) pv hT
 ·have e:xs.length=i:=Nat.le_antisymm ge hi
  subst e;exact .inl ⟨⟨xs,sq,rfl⟩,hd σ H pv⟩
end
section
variable {a b:Expr}{ta tb:TE}{apos cpos:Pos}
def aLl(ta tb:TE):TE:=fun σ H Q=>ta σ H fun x H1=>∃ i,x=.str i/\tb σ H1 fun y H2=>∃ j,y=.str j/\Q (.bl (Txt.startswith i j)) H2
def aHx(ha:PE X a ta)(hb:PE X b tb)(m:M1 X a "startswith" apos b cpos:=by exact⟨rfl,rfl,rfl,rfl⟩):PE X (.Call (.Attribute a "startswith" apos) [b] [] cpos) (aLl ta tb):=by
 rw[2];refine wpAny_Call_method_lateS m.base m.few m.line (thn (ha pins s σ H _ I h) fun v s1 ⟨x,H1,I1,r1,i,e,q1⟩=>?_);subst e;obtain⟨tk,rfl⟩:=r1;rw[m.trees];refine SB.startswith (thn (hb pins s1 σ H1 _ I1 q1) fun v2 s2 ⟨y,H2,I2,r2,j,e2,q2⟩=>?_);subst e2;obtain⟨tk2,rfl⟩:=r2;exact⟨j,tk2,rfl,.bl (Txt.startswith i j),H2,I2,rfl,q2⟩
end
end G
namespace L2
open PySem PySem.Spec PyProof.Rows
noncomputable def rem(S:List Addr)(h:Heap):Heap:={ h with objs:=h.objs.mapIdx fun i o=>if i∈S then { o with data:=.freed } else o }
def hG{S:List Addr}{h:Heap}{b:Addr}(hb:b∈S):(rem S h).get? b=none:=by
 unfold rem Heap.get?;simp only[Array.getElem?_mapIdx];cases h.objs[b]? with
 | none=>rfl
 | some o=>simp[hb]
def fU{S:List Addr}{h:Heap}{b:Addr}(hb:b ∉ S):(rem S h).get? b=h.get? b:=by
 unfold rem Heap.get?;simp only[Array.getElem?_mapIdx];cases e:h.objs[b]? with
 | none=>rfl
 | some o=>simp[hb]
def rM(S:List Addr)(h:Heap):(rem S h).StaysIn h:=fun b o e=>by
 by_cases hb:b∈S
 ·rw[hG hb] at e;cases e
 ·rw[fU hb] at e;exact e
theorem nP{S:List Addr}{h B:Heap}:∀ {l:List Env},(∀ b∈frs l,b∈S)->h.FunFrames B l->h.FunFrames (rem S h) l
 | [],_,_=>by unfold Heap.FunFrames;trivial
 | env::l,hs,hf=>by
  unfold Heap.FunFrames at hf ⊢;obtain⟨k,⟨L,o,f,_,g,d⟩,r⟩:=hf;have hL:L∈frs (env::l):=by
   unfold frs;exact aTi.mpr ⟨env,aRz,f⟩
  refine⟨k,⟨L,o,f,hG (hs L hL),g,d⟩,nP (fun b hb=>hs b ?_) r⟩;unfold frs at hb ⊢;rw[64]
def cO.there{P:Program}{w:World}{H:Hp}{h:Heap}{a:Addr}{o:HO}(x:cO P w H h a o):∃ u,h.get? a=some u:=by
 induction o with
 | lst xs=>obtain⟨_,_,_,_,e⟩:=x;exact⟨_,e⟩
 | tup xs=>obtain⟨_,_,_,ob,e,_⟩:=x;exact⟨_,e⟩
 | dK kvs=>obtain⟨_,_,_,_,o,_,_,e,_⟩:=x;exact⟨_,e⟩
 | dT kvs=>obtain⟨_,_,_,_,o,_,_,e,_⟩:=x;exact⟨_,e⟩
 | set S n=>obtain⟨o,_,_,_,e,_⟩:=x;exact⟨_,e⟩
 | ins C dx fs=>obtain⟨_,_,_,e,_⟩:=x;exact⟨_,e⟩
 | own y=>exact x
 | xd fs=>obtain⟨_,⟨_,_,_,e,_⟩,_⟩:=x;exact⟨_,e⟩
 | rng lo hi=>obtain⟨_,_,_,e⟩:=x;exact⟨_,e⟩
 | frz ob u ih=>exact⟨_,x.1⟩
 | tbl ps=>exact⟨_,x⟩
 | met f y=>exact⟨_,x⟩
 | ext φ=>exact x.2.1
 | tbc pos q=>obtain⟨_,e,_⟩:=x;exact⟨_,e⟩
structure Air(fr:Bool)(h₀:Heap)(H:Hp)(a:Addr)(cls:Value)(h:Heap):Prop where
 new:h₀.get? a=none
 free:H a=none
 obj:∃ oe vs a0,h.get? a=some oe/\oe.cls=cls/\oe.data=.fields vs/\vs[0]?=some a0/\((fr=true/\vs[1]?=some .none) \/
  ∃ T oT ts,fr=false/\vs[1]?=some (.ref T)/\h₀.get? T=none/\H T=none/\T≠a/\h.get? T=some oT/\oT.data=.fields ts/\ts[3]?=some .none)
def CX1(P:Program)(w:World):CXT:=fun outer H s E e s'=>∃ a cls H',e=.ref a/\s'.os=s.os/\AllBare s'.gens/\Un (frs outer) [] H H' s.heap s'.heap/\HOk P w H' s'.heap/\Air false s.heap H' a cls s'.heap/\E cls none H'
theorem MZ{P:Program}{w:World}{l:List Env}{H H':Hp}{h₀ h h' B0:Heap}{a:Addr}{cls a0:Value}{fr:Bool}(un:Un (frs l) [] H H' h₀ h)(hok:HOk P w H' h)(hff:h.FunFrames B0 l)(hfree:∀ b∈frs l,H' b=none)(x:Air fr h₀ H' a cls h)(S:List Addr)
  (hS2:∀ b∈S,b∈frs l\/(h₀.get? b=none/\H' b=none)) (hl:(rem S h).LeftW l a cls a0 h h'):Un (frs l) [] H H' h₀ h'/\HOk P w H' h'/\Air false h₀ H' a cls h':=by
 obtain⟨st,ff,trc,slo⟩:=hl;have noS:∀ b o,h₀.get? b=some o->b ∉ frs l->b ∉ S:=fun b o e hb hbS=>by
  rcases hS2 b hbS with z | ⟨z,_⟩
  ·exact hb z
  ·rw[e] at z;cases z
 have tracked:∀ b o,H' b=some o->b ∉ S:=fun b o e hbS=>by
  rcases hS2 b hbS with z | ⟨_,z⟩
  ·rw[hfree b z] at e;cases e
  ·rw[z] at e;cases e
 refine⟨⟨?_,?_,un.free,?_,un.tups,un.frzs,un.tbls⟩,?_,⟨x.new,x.free,?_⟩⟩
 ·intro b o e n hb hx
  have e1:=un.keep b o e n hb hx;exact st b o (by rw[fU (noS b o e hb)];exact e1)
 ·intro b o e n hb hx
  obtain⟨sl,e1⟩:=un.slot b o e n hb hx;obtain⟨_,o2,e2,nd⟩:=hff.mem hb;obtain⟨sl',e3⟩:=slo b o2 e2 nd;rw[e1] at e2;cases aRv e2;exact⟨sl',e3⟩
 ·intro b o e hx
  by_cases hb:b∈frs l
  ·obtain⟨_,o2,e2,nd⟩:=hff.mem hb
   obtain⟨sl',e3⟩:=slo b o2 e2 nd;exact⟨_,e3⟩
  ·obtain⟨o',e1⟩:=un.there b o e hx
   exact⟨o',st b o' (by rw[fU (noS b o e hb)];exact e1)⟩
 ·intro b o e
  refine (hok b o e).stay (fun b' u hb' g'=>?_) (fun _ z=>z) fun _ _ z=>z;have:b' ∉ S:=by
   rcases hb' with rfl | hb'
   ·exact tracked _ _ e
   ·exact tracked _ _ hb'
  exact st b' u (by rw[fU this];exact g')
 ·obtain⟨oe',vs',T,oT,ts,t1,⟨t2,t2'⟩,t3,t4,t5,t6,t7,t8,t9⟩:=trc
  refine⟨oe',vs',a0,t1,t2,t3,t2',.inr ⟨T,oT,ts,rfl,t4,?_,?_,t6,t7,t8,t9⟩⟩
  ·by_cases hT:T∈S
   ·rcases hS2 T hT with z | ⟨z,_⟩
    ·obtain⟨_,o2,e2,nd⟩:=ff.mem z
     rw[t7] at e2;cases aRv e2;exact absurd t8 (nd _)
    ·exact z
   ·rw[fU hT] at t5
    cases e0:h₀.get? T with
    | none=>rfl
    | some o=>
     obtain⟨o',e1⟩:=un.there T o e0 (by simp);rw[t5] at e1;cases e1
  ·by_cases hT:T∈S
   ·rcases hS2 T hT with z | ⟨_,z⟩
    ·obtain⟨_,o2,e2,nd⟩:=ff.mem z
     rw[t7] at e2;cases aRv e2;exact absurd t8 (nd _)
    ·exact z
   ·rw[fU hT] at t5
    cases e0:H' T with
    | none=>rfl
    | some o=>
     obtain⟨u,e1⟩:=(hok T o e0).there;rw[t5] at e1;cases e1
theorem aDv{X:Cx}{pins:List (Addr × Obj)}{σ:St}{H:Hp}{s:Shared}{a:Addr}{cls:Value}{E:XK}{E':Value->Shared->Prop}{fr:Bool}(I:Inv X pins σ H s)(hst:X.stack=X.env::X.outer)(hL:X.env.frame=some X.env.locals)(hex:X.ex=[])
  (x:Air fr X.s₀.heap H a cls s.heap) (q:E cls none H):wpAny (model X.prog X.w) X.A (leaving X.env (.ref a)) (fun _ s''=>CX1 X.prog X.w X.outer X.H₀ X.s₀ E (.ref a) s'') E' s:=by
 have hfr:X.A.frames=some (X.env::X.outer):=by rw[<- hst];exact I.ok.frames
 have hff:s.heap.FunFrames X.base (X.env::X.outer):=by rw[<- hst];exact I.stack
 have hfree:∀ b∈frs (X.env::X.outer),H b=none:=by rw[<- hst];exact I.stkFree
 have hbase:=I.base;rw[hex] at hbase;obtain⟨oe,vs,a0,g,c,d,v0,tr⟩:=x.obj;have main:∀ (S:List Addr),(∀ b∈frs (X.env::X.outer),b∈S)->(∀ b∈S,b∈frs (X.env::X.outer)\/(X.s₀.heap.get? b=none/\H b=none))->a∈S->∀ h',(rem S s.heap).LeftW (X.env::X.outer) a oe.cls a0 s.heap h'->CX1 X.prog X.w X.outer X.H₀ X.s₀ E (.ref a) { heap:=h',gens:=s.gens,drawn:=s.drawn,toks:=s.toks,os:=s.os }:=by
  intro S hS1 hS2 ha h' hl;obtain⟨st,ff,trc,slo⟩:=hl;have noS:∀ b o,X.s₀.heap.get? b=some o->b ∉ frs X.outer->b ∉ S:=fun b o e hb hbS=>by
   rcases hS2 b hbS with z | ⟨z,_⟩
   ·unfold frs at z
    obtain⟨env,he,hx⟩:=aTi.mp z;rcases aS7.mp he with rfl | he
    ·rw[hL] at hx
     have h1:=aRv hx;have h2:=aSi e;exact absurd h2 (by rw[<- h1];exact aU1.mpr I.ok.above)
    ·exact hb (aTi.mpr ⟨env,he,hx⟩)
   ·rw[e] at z;cases z
  have inOuter:∀ b,b∈frs X.outer->b∈frs (X.env::X.outer):=fun b hb=>by
   unfold frs at hb ⊢;rw[64]
  have tracked:∀ b o,H b=some o->b ∉ S:=fun b o e hbS=>by
   rcases hS2 b hbS with z | ⟨_,z⟩
   ·rw[hfree b z] at e;cases e
   ·rw[z] at e;cases e
  refine⟨a,cls,H,rfl,I.os,I.bare,⟨?_,?_,?_,?_,hbase.tups,hbase.frzs,hbase.tbls⟩,?_,⟨x.new,x.free,?_⟩,q⟩
  ·intro b o e n hb hx
   have e1:=hbase.keep b o e n hb hx;exact st b o (by rw[fU (noS b o e hb)];exact e1)
  ·intro b o e n hb hx
   obtain⟨sl,e1⟩:=hbase.slot b o e n hb hx;obtain⟨_,o2,e2,nd⟩:=hff.mem (inOuter b hb);obtain⟨sl',e3⟩:=slo b o2 e2 nd;rw[e1] at e2;cases aRv e2;exact⟨sl',e3⟩
  ·exact hbase.free
  ·intro b o e hx
   by_cases hb:b∈frs X.outer
   ·obtain⟨_,o2,e2,nd⟩:=hff.mem (inOuter b hb)
    obtain⟨sl',e3⟩:=slo b o2 e2 nd;exact⟨_,e3⟩
   ·obtain⟨o',e1⟩:=hbase.there b o e hx
    exact⟨o',st b o' (by rw[fU (noS b o e hb)];exact e1)⟩
  ·intro b o e
   refine (I.hok b o e).stay (fun b' u hb' g'=>?_) (fun _ z=>z) fun _ _ z=>z;have:b' ∉ S:=by
    rcases hb' with rfl | hb'
    ·exact tracked _ _ e
    ·exact tracked _ _ hb'
   exact st b' u (by rw[fU this];exact g')
  ·obtain⟨oe',vs',T,oT,ts,t1,⟨t2,t2'⟩,t3,t4,t5,t6,t7,t8,t9⟩:=trc
   refine⟨oe',vs',a0,t1,by rw[t2,c],t3,t2',.inr ⟨T,oT,ts,rfl,t4,?_,?_,t6,t7,t8,t9⟩⟩
   ·by_cases hT:T∈S
    ·rcases hS2 T hT with z | ⟨z,_⟩
     ·obtain⟨_,o2,e2,nd⟩:=ff.mem z
      rw[t7] at e2;cases aRv e2;exact absurd t8 (nd _)
     ·exact z
    ·rw[fU hT] at t5
     cases e0:X.s₀.heap.get? T with
     | none=>rfl
     | some o=>
      obtain⟨o',e1⟩:=hbase.there T o e0 (by simp);rw[t5] at e1;cases e1
   ·by_cases hT:T∈S
    ·rcases hS2 T hT with z | ⟨_,z⟩
     ·obtain⟨_,o2,e2,nd⟩:=ff.mem z
      rw[t7] at e2;cases aRv e2;exact absurd t8 (nd _)
     ·exact z
    ·rw[fU hT] at t5
     cases e0:H T with
     | none=>rfl
     | some o=>
      obtain⟨u,e1⟩:=(I.hok T o e0).there;rw[t5] at e1;cases e1
 rcases tr with ⟨_,tr⟩ | ⟨T,oT,ts,_,t1,t2,t3,t4,t5,t6,t7⟩
 ·refine wpAny_leaving_firstW (a0:=a0) (base:=rem (frs (X.env::X.outer)++[a]) s.heap) hfr (nP (fun b hb=>aTg _ hb) hff) hL g (rM _ _) (hG (by simp)) d tr v0 fun h' hl=>?_
  exact main _ (fun b hb=>aTg _ hb) (fun b hb=>by
   rcases aTf.mp hb with z | z
   ·exact .inl z
   ·rw[aTl] at z;subst z;exact .inr ⟨x.new,x.free⟩) (by simp) h' hl
 ·refine wpAny_leaving_nextW (base:=rem (frs (X.env::X.outer)++[a,T]) s.heap) (cls:=oe.cls) (a0:=a0) hfr (nP (fun b hb=>aTg _ hb) hff) hL ⟨oe,vs,T,oT,ts,g,⟨rfl,v0⟩,d,t1,hG (by simp),t4,t5,t6,t7⟩ (rM _ _) (hG (by simp)) fun h' hl=>?_
  exact main _ (fun b hb=>aTg _ hb) (fun b hb=>by
   rcases aTf.mp hb with z | z
   ·exact .inl z
   ·rcases aS7.mp z with rfl | z
    ·exact .inr ⟨x.new,x.free⟩
    ·rw[aTl] at z;subst z;exact .inr ⟨t2,t3⟩) (by simp) h' hl
abbrev XS:=Bool->Value->St->Hp->Prop
def XP(X:Cx)(pins:List (Addr × Obj))(Ex:XS)(e:Value)(s':Shared):Prop:=∃ fr a cls σ H H' s,e=.ref a/\Inv X pins σ H s/\s'.os=s.os/\AllBare s'.gens/\Un (frs X.stack) [] H H' s.heap s'.heap/\HOk X.prog X.w H' s'.heap/\Air fr s.heap H' a cls s'.heap/\Ex fr cls σ H'
abbrev TSX:=Ends->XS->St->Hp->Prop
abbrev TEX:=St->Hp->VK->(Bool->Value->Hp->Prop)->Prop
def PSX(X:Cx)(st:Stmt)(t:TSX):Prop:=
 ∀ (pins:List (Addr × Obj)) (s:Shared) (σ:St) (H:Hp) (D:Ends) (Ex:XS),Inv X pins σ H s->t D Ex σ H->wpAny (model X.prog X.w) X.A (exec st X.env) (SP X pins D) (XP X pins Ex) s
def qD(X:Cx)(st:List Stmt)(t:TSX):Prop:=
 ∀ (pins:List (Addr × Obj)) (s:Shared) (σ:St) (H:Hp) (D:Ends) (Ex:XS),Inv X pins σ H s->t D Ex σ H->wpAny (model X.prog X.w) X.A (execs st X.env) (SP X pins D) (XP X pins Ex) s
def PEX(X:Cx)(e:Expr)(t:TEX):Prop:=
 ∀ (pins:List (Addr × Obj)) (s:Shared) (σ:St) (H:Hp) (Q:VK) (Ex:Bool->Value->Hp->Prop),Inv X pins σ H s->t σ H Q Ex->wpAny (model X.prog X.w) X.A (eval e X.env) (EP X pins σ Q) (XP X pins fun fr c σ' H'=>σ'=σ/\Ex fr c H') s
section
variable {X:Cx}{st:Stmt}{rest a b:List Stmt}{t u:TSX}{e:Expr}{te:TEX}{pos:Pos}
def XP.mono{pins:List (Addr × Obj)}{Ex Ex':XS}{v:Value}{s':Shared}(h:XP X pins Ex v s')(k:∀ fr c σ H,Ex fr c σ H->Ex' fr c σ H):XP X pins Ex' v s':=
 let ⟨fr,a,c,σ,H,H',s,e,I,x1,x2,x3,x4,x,q⟩:=h
 ⟨fr,a,c,σ,H,H',s,e,I,x1,x2,x3,x4,x,k _ _ _ _ q⟩
def tOf(t:TS):TSX:=fun D _ σ H=>t D σ H
def aIk{t:TS}(h:PSs X.nox rest t):qD X rest (tOf t):=fun pins s σ H D Ex I q=>
 aUk (h pins s σ H D (I.wish _) q) (fun _ _ z=>z.unwish) fun _ _ z=>False.elim z
def aIl(h1:PSX X st t):qD X [st] t:=by
 intro pins s σ H D Ex I h;refine wpAny_execs_cons (thn (h1 pins s σ H D Ex I h) fun f s1 q=>?_);cases f with
 | next=>exact aV1 q
 | ret v=>exact q
 | brk=>exact q
 | cont=>exact q
def aL3(te:TEX):TSX:=fun D Ex σ H=>te σ H (fun _ H1=>D.nx σ H1) fun fr c H1=>Ex fr c σ H1
def aIm(he:PEX X e te)(hs:swapsWith e none pos.line X.env=pure false:=by rfl):PSX X (.Expr e pos) (aL3 te):=by
 intro pins s σ H D Ex I h;refine wpAny_Expr_any (aUk (he pins s σ H _ _ I h) (fun v s1 ⟨x,H1,I1,r1,q1⟩=>⟨σ,H1,I1,q1⟩) fun v s1 z=>z.mono ?_) I.quiet hs;rintro fr c _ H1 ⟨rfl,q⟩;exact q
end
def Inv.oldNone{X:Cx}{pins:List (Addr × Obj)}{σ:St}{H:Hp}{s:Shared}{a:Addr}(I:Inv X pins σ H s)(hex:X.ex=[])(e:s.heap.get? a=none):X.s₀.heap.get? a=none/\H a=none:=by
 constructor
 ·cases e0:X.s₀.heap.get? a with
  | none=>rfl
  | some o=>
   obtain⟨o',e1⟩:=I.base.there a o e0 (by rw[hex];simp);rw[e] at e1;cases e1
 ·cases e0:H a with
  | none=>rfl
  | some o=>
   obtain⟨u,e1⟩:=(I.hok a o e0).there;rw[e] at e1;cases e1
def SQ(C:Addr)(ta:TA):TSX:=fun _ Ex σ H=>ta σ H fun vs H1=>vs.length<=sizeLine/\Ex true (.ref C) σ H1
def aIn{X:Cx}{x:Str}{C:Addr}{B newId initId:String}{bmB:List Value}{np cpos pos:Pos}{e₀:Expr}{es:List Expr}{ta:TA}(hc:X.calm=true)(hex:X.ex=[])(hg:Gl X x)(O:OwnCls x C bmB newId X.mg X.base)(FB:ExcBaseFacts B newId initId bmB)
  (ha:PA X.nox (e₀::es) ta) (hdb:aVi x:=by decide) (he:starEach (e₀::es) X.env=(false,eval e₀ X.env)::starEach es X.env:=by rfl) (hpl:(backTo cpos (starEach es X.env)).any (·.1)=false:=by rfl):
  PSX X (.Raise (some (.Call (.Name x np) (e₀::es) [] cpos)) none pos) (SQ C ta):=by
 intro pins s σ H D Ex I h;obtain⟨bm,N,nm,q,bs,hdct,sn,sub,ab,col,dd,k0,k1,k2,k3,k5,mN,hC,hN,hni,T⟩:=O.obj;refine wpAny_Raise_call_subT (nm:=nm) (q:=q) (N:=N) (bs:=bs) (hdct:=hdct) (sn:=sn) (sub:=sub) (ab:=ab) (col:=col) (dd:=dd) (k0:=k0) (k1:=k1) (k2:=k2) (k3:=k3) (k5:=k5) FB (T.hasType FB.hasBase) (I.ok.hd hc) (by rw[he];show (false||(backTo cpos (starEach es X.env)).any (·.1))=false;rw[hpl];rfl) hni (qV I hg O.bound ⟨rfl,?_⟩ hdb);rw[he];have hh:=ha cpos pins s σ H _ (I.wish _) h;rw[show starEach (e₀::es) X.nox.env=_ from he] at hh;refine Calls.evalArgs_plain (aUk hh (fun us s2 z=>?_) fun _ _ z=>False.elim z);obtain⟨vs,H1,I1,r,hl,q1⟩:=z;have I1:=I1.unwish;refine⟨rfl,by show us.length<=sizeLine;rw[<- r.length];exact hl,I1.bk _ _ hC,hN.keeps I1.bk,T.keeps I1.bk,fun h' e m=>?_⟩;obtain⟨n1,n2⟩:=I1.oldNone hex m.new;obtain⟨t,g,_,_⟩:=m.there;exact⟨true,e,_,σ,H1,H1,s2,rfl,I1,rfl,I1.bare,Un.kept m.keeps,I1.hok.kept m.keeps,⟨m.new,n2,⟨_,_,_,g,rfl,rfl,rfl,.inl ⟨rfl,rfl⟩⟩⟩,q1⟩
theorem aE8{M:Model}{A:Around}{E:Value->Shared->Prop}{K:PySem.W.Frag}{s:Shared}{a C CE:Addr}{oe:Obj}{b:Bool}{cd:ClassData}{Q:Bool->Shared->Prop}(k:K.In s.heap)(ht:W.typeIn K (.ref CE)=some (.type "type"))(hc:W.clsIn K CE=some cd)
  (hb:W.subIn K (.ref CE) (.type "BaseException")=some true) (he:s.heap.get? a=some oe) (hcls:oe.cls=.ref C) (hs:W.subIn K (.ref C) (.ref CE)=some b) (q:Q b s):wpAny M A (excMatches (.ref a) (.ref CE)) Q E s:=by
 have keep:∀ (b:Addr) (o:Obj),s.heap.get? b=some o->s.heap.get? b=some o:=fun _ _ z=>z;unfold excMatches;rw[12];unfold isInstance;refine aU9 (W.looks_typeIn k ht A _ E s keep ?_);refine wpAny_of_eq tc_notTuple ?_;refine aUr rfl (aU9 (aUa ?_));rw[12];refine wpAny_forIn_list _ (fun l _ s'=>s'=s/\(l=[.ref CE]\/l=[])) _ (fun x rest _ s1 h1=>?_) (fun _ s1 h1=>?_) _ _ ⟨rfl,.inl rfl⟩
 ·obtain⟨rfl,h1⟩:=h1
  have hx:x=.ref CE/\rest=[]:=by
   rcases h1 with z | z
   ·injection z with z1 z2;exact⟨z1,z2⟩
   ·cases z
  obtain⟨rfl,rfl⟩:=hx;rw[12];unfold isExcClass;rw[12];obtain⟨oD,e1,e2⟩:∃ oD,s1.heap.get? CE=some oD/\oD.data=.cls cd:=by
   unfold W.clsIn at hc;split at hc
   ·rename_i _ _ _ _ _ e
    cases hc;exact⟨_,k _ _ e,rfl⟩
   ·cases hc
  obtain⟨h,g,d,t,os⟩:=s1;refine ks_wpAny_isType_cls e1 e2 ?_;refine wpAny_ite_true rfl (W.looks_subIn k hb A _ E _ (fun _ _ z=>z) ?_);exact aUr rfl (aUa ⟨rfl,.inr rfl⟩)
 ·obtain⟨rfl,_⟩:=h1
  refine aU9 (wpAny_typeOf_ref he ?_);rw[hcls];rw[12];refine wpAny_forIn_list _ (fun l r s'=>s'=s1/\((l=[.ref CE]/\r=(none,()))\/(l=[]/\r=(none,())/\b=false))) _ (fun x rest r s2 h2=>?_) (fun r s2 h2=>?_) _ _ ⟨rfl,.inl ⟨rfl,rfl⟩⟩
  ·obtain⟨rfl,h2⟩:=h2
   have hx:x=.ref CE/\rest=[]:=by
    rcases h2 with ⟨z,_⟩ | ⟨z,_⟩
    ·injection z with z1 z2;exact⟨z1,z2⟩
    ·cases z
   obtain⟨rfl,rfl⟩:=hx;refine aU9 (W.looks_subIn k hs A _ E _ (fun _ _ z=>z) ?_);cases b with
   | true=>exact wpAny_ite_true rfl (aUa (aUa q))
   | false=>exact aUr rfl (aUa ⟨rfl,.inr ⟨rfl,rfl,rfl⟩⟩)
  ·obtain⟨rfl,h2⟩:=h2
   rcases h2 with ⟨z,_⟩ | ⟨_,z,zb⟩
   ·cases z
   ·subst z;subst zb;exact aUa q
def Cx.hdl(X:Cx)(a:Addr):Cx:={ X with A:=X.A.mark (some (.ref a)),calm:=false,xe:=fun _ _=>False }
def Cx.Ok.hdl{X:Cx}(ok:X.Ok)(a:Addr):(X.hdl a).Ok:=
 ⟨ok.mod,ok.kind,ok.glob,ok.blt,ok.above,ok.inj,ok.has,ok.cab,fun z=>(by cases z),ok.frames,ok.stk,ok.exf,ok.bs,ok.bsz,ok.noex,ok.exfs,ok.funs,ok.frf⟩
section
variable {X:Cx}{pins:List (Addr × Obj)}{σ:St}{H H':Hp}{s s':Shared}{a:Addr}{cls:Value}
def Inv.hdl(I:Inv X pins σ H s)(a:Addr):Inv (X.hdl a) pins σ H s:=⟨I.ok.hdl a,I.os,I.bare,I.base,I.loc,I.cell,I.free,I.freeC,I.pin,I.hok,I.len⟩
def Inv.unhdl(ok:X.Ok)(I:Inv (X.hdl a) pins σ H s):Inv X pins σ H s:=⟨ok,I.os,I.bare,I.base,I.loc,I.cell,I.free,I.freeC,I.pin,I.hok,I.len⟩
def aMg{M:Model}{A:Around}{E:Value->Shared->Prop}{i:Nat}{x:Str}{Q:Unit->Shared->Prop}{v:V}(I:Inv X pins σ H s)(hN:X.N.Nodup)(hi:X.N[i]?=some x)(hx:X.env.scope.names.lookup x=some .local)(hv:σ[i]?=some (some v))
  (h:∀ s',Inv X pins (σ.set i none) H s'->Q () s'):wpAny M A (unbindName X.env x) Q E s:=by
 obtain⟨m,hn,hl⟩:=id I.loc;have hcls:(X.env.scope.kind == .class||(X.env.scope.kind == .module&&X.env.locals != X.env.globals))=false:=by rw[I.ok.kind];rfl
 have hiσ:i<σ.length:=by rw[I.len];exact (aS0.mp hi).1
 obtain⟨u,_,lk⟩:=hl i x v hi hv (.inl hx);have hm:m x=some u:=by
  rcases lk with ⟨_,z⟩ | ⟨z,_⟩
  ·exact z
  ·have:X.env.kindOf x=some .local:=hx
   rw[this] at z;rcases z with z | z<;>cases z
 refine wpAny_unbindName_local hx hn hm hcls fun h' u' hn' hs=>?_;have ne:∀ b o,X.s₀.heap.get? b=some o->b≠X.env.locals:=fun b o e=>aU0 (aS3 (aSi e) I.ok.above);refine h _ ⟨I.ok,I.os,I.bare,⟨fun b o e n hb hx=>(hs.2 b (ne b o e)).trans (I.base.keep b o e n hb hx),fun b o e n hb hx=>?_,I.base.free,fun b o e hx=>?_,I.base.tups,I.base.frzs,I.base.tbls⟩,⟨_,hn',fun j y v' e1 e2 e3=>?_⟩,fun y c e=>?_,I.free,I.freeC,fun p hp=>?_,fun b ob e=>?_,by simpa using I.len⟩
 ·obtain⟨sl,e1⟩:=I.base.slot b o e n hb hx
  exact⟨sl,(hs.2 b (ne b o e)).trans e1⟩
 ·rw[33]
  exact⟨o',(hs.2 b (ne b o e)).trans e1⟩
 ·by_cases hj:j=i
  ·subst hj
   rw[aT1 hiσ] at e2;cases e2
  ·rw[aS5 (Ne.symm hj)] at e2
   obtain⟨u',r',q⟩:=hl j y v' e1 e2 e3;refine⟨u',r',?_⟩;rcases q with ⟨k,e⟩ | ⟨k,c,e,z⟩
   ·refine .inl ⟨k,?_⟩
    have:y≠x:=fun e=>hj (CN hN e1 (e ▸ hi));simp[this,e]
   ·exact .inr ⟨k,c,e,z.sameBut hs (I.cne y c e)⟩
 ·obtain⟨w',z⟩:=I.cell y c e
  exact⟨w',z.sameBut hs (I.cne y c e)⟩
 ·obtain⟨e,n,ne',nf,d⟩:=I.pin p hp
  exact⟨(hs.2 p.1 ne').trans e,n,ne',nf,d⟩
 ·refine (I.hok b ob e).stay (fun c w' hc q=>(hs.2 c ?_).trans q) (fun _ q=>q) fun _ _ q=>q
  rintro rfl;rcases hc with rfl | hc
  ·rw[I.free] at e;cases e
  ·rw[I.free] at hc;cases hc
structure Got(X:Cx)(pins:List (Addr × Obj))(σ:St)(H H':Hp)(s s':Shared)(fr:Bool)(a:Addr)(cls:Value):Prop where
 inv:Inv X pins σ H s
 os:s'.os=s.os
 bare:AllBare s'.gens
 un:Un (frs X.stack) [] H H' s.heap s'.heap
 hok:HOk X.prog X.w H' s'.heap
 air:Air fr s.heap H' a cls s'.heap
def Got.now{fr:Bool}(g:Got X pins σ H H' s s' fr a cls):Inv X pins σ H' s':=g.inv.call' (ch:=[]) g.os g.un g.hok g.bare fun b z=>absurd z (by simp)
def Got.obj{fr:Bool}(g:Got X pins σ H H' s s' fr a cls):∃ oe vs,s'.heap.get? a=some oe/\oe.cls=cls/\oe.data=.fields vs:=
 let ⟨oe,vs,_,g1,c1,d1,_⟩:=g.air.obj
 ⟨oe,vs,g1,c1,d1⟩
def Got.flight{M:Model}{A:Around}{E:Value->Shared->Prop}{Q:Unit->Shared->Prop}(g:Got X pins σ H H' s s' false a cls)(q:∀ h3,Got X pins σ H H' s { s' with heap:=h3 } false a cls->Q () { s' with heap:=h3 }):wpAny M A (setFlight (.ref a) none) Q E s':=by
 obtain⟨oe,vs,a0,g1,c1,d1,v0,tr⟩:=g.air.obj;rcases tr with ⟨z,_⟩ | ⟨T,oT,ts,_,t1,t2,t3,t4,t5,t6,t7⟩
 ·cases z
 have hff:=g.now.stack;have hfree:=g.now.stkFree;refine wpAny_setFlight_noneW (base:=rem (frs X.stack++[a,T]) s'.heap) (l:=X.stack) (cls:=cls) (a0:=a0) (fl:=.none) (rM _ _) (nP (fun b hb=>aTg _ hb) hff) ⟨oe,vs,T,oT,ts,g1,⟨c1,v0⟩,d1,t1,hG (by simp),t4,t5,t6,t7⟩ fun h' st ff trw same=>?_;obtain⟨un,hok,air⟩:=MZ (a0:=a0) g.un g.hok hff hfree g.air (frs X.stack++[a,T]) (fun b hb=>by
  rcases aTf.mp hb with z | z
  ·exact .inl z
  ·rcases aS7.mp z with rfl | z
   ·exact .inr ⟨g.air.new,g.air.free⟩
   ·rw[aTl] at z;subst z;exact .inr ⟨t2,t3⟩) (h':=h') ⟨st,ff,trw,fun b o e d=>⟨o.slots,same b o e d⟩⟩
 exact q h' ⟨g.inv,g.os,g.bare,un,hok,air⟩
def Got.note{M:Model}{A A2:Around}{E E':Value->Shared->Prop}{Q:Unit->Shared->Prop}(hst:X.stack=X.env::X.outer)(hL:X.env.frame=some X.env.locals)(hA:A.frames=some X.stack)(g:Got X pins σ H H' s s' false a cls)
  (q:∀ h3,Got X pins σ H H' s { s' with heap:=h3 } false a cls->Q () { s' with heap:=h3 }):wpAny M A (noteFrame (.ref a) X.env) (fun _ s2=>wpAny M A2 (setFlight (.ref a) none) Q E s2) E' s':=by
 obtain⟨oe,vs,a0,g1,c1,d1,v0,tr⟩:=g.air.obj;rcases tr with ⟨z,_⟩ | ⟨T,oT,ts,_,t1,t2,t3,t4,t5,t6,t7⟩
 ·cases z
 have hff:=g.now.stack;have hfree:=g.now.stkFree;have hS:∀ b∈frs X.stack++[a,T],b∈frs X.stack\/(s.heap.get? b=none/\H' b=none):=fun b hb=>by
  rcases aTf.mp hb with z | z
  ·exact .inl z
  ·rcases aS7.mp z with rfl | z
   ·exact .inr ⟨g.air.new,g.air.free⟩
   ·rw[aTl] at z;subst z;exact .inr ⟨t2,t3⟩
 have hff':=nP (S:=frs X.stack++[a,T]) (fun b hb=>aTg _ hb) hff;refine wpAny_noteFrame_onW (base:=rem (frs X.stack++[a,T]) s'.heap) (outer:=X.outer) (cls:=cls) (a0:=a0) (by rw[hA,hst]) (by rw[<- hst];exact hff') hL ⟨oe,vs,T,oT,ts,g1,⟨c1,v0⟩,d1,t1,hG (by simp),t4,t5,t6,t7⟩ (rM _ _) (hG (by simp)) fun h' hl=>?_;rw[<- hst] at hl;obtain⟨st,ff,tra,slo⟩:=hl;refine wpAny_setFlight_noneW (base:=rem (frs X.stack++[a,T]) s'.heap) (l:=X.stack) (cls:=cls) (a0:=a0) st ff tra fun h2 st2 ff2 trw same=>?_;obtain⟨un,hok,air⟩:=MZ (a0:=a0) g.un g.hok hff hfree g.air _ hS (h':=h2) ⟨st2,ff2,trw,fun b o e d=>by
  obtain⟨sl,e1⟩:=slo b o e d;exact⟨sl,same b _ e1 d⟩⟩
 exact q h2 ⟨g.inv,g.os,g.bare,un,hok,air⟩
def Got.hold(g:Got X pins σ H H' s s' false a cls):Inv X pins σ (upd H' a (qL a cls)) s':=by
 have hne:∀ b o,s.heap.get? b=some o->b≠a:=fun b o e z=>by rw[z,g.air.new] at e;cases e
 have hne':∀ b o,H' b=some o->b≠a:=fun b o e z=>by rw[z,g.air.free] at e;cases e
 refine g.inv.call' (ch:=[]) g.os ⟨g.un.keep,g.un.slot,fun b o e n hx=>?_,g.un.there,fun b xs e=>?_,fun b o u e=>?_,fun b ps e=>?_⟩ (fun b o e=>?_) g.bare fun b z=>absurd z (by simp)
 ·rw[aW (hne b o e)];exact g.un.free b o e n hx
 ·have:=g.un.tups b xs e
  rw[aW (hne' b _ this)];exact this
 ·have:=g.un.frzs b o u e
  rw[aW (hne' b _ this)];exact this
 ·obtain⟨more,this⟩:=g.un.tbls b ps e
  exact⟨more,by rw[aW (hne' b _ this)];exact this⟩
 ·by_cases hb:b=a
  ·subst hb
   rw[bY] at e;cases e;obtain⟨oe,vs,g1,c1,d1⟩:=g.obj;exact⟨⟨oe,vs,g1,c1,d1⟩,⟨oe,g1⟩,fun h1 h2 ⟨oe,vs,z1,z2,z3⟩ k=>⟨oe,vs,k _ z1,z2,z3⟩⟩
  ·rw[aW hb] at e
   exact (g.hok b o e).stay (fun _ _ _ z=>z) (fun c z=>by rw[aW (hne' c _ z)];exact z) fun c xs z=>by rw[aW (hne' c _ z)];exact z
end
noncomputable def ID(i:Nat)(D:Ends):Ends:={ nx:=fun σ H=>D.nx (σ.set i none) H,rt:=D.rt,bk:=fun σ H=>D.bk (σ.set i none) H,ct:=fun σ H=>D.ct (σ.set i none) H }
def aLn(K:PySem.W.Frag)(CE:Addr)(i:Nat)(tb:TSX)(ts:TS):TS:=fun D σ H=>tb D (fun fr cls σ' H'=>fr=false/\∃ C,cls=.ref C/\PySem.W.subIn K (.ref C) (.ref CE)=some true /\
 ∀ a,H' a=none->ts (ID i D) (σ'.set i (some (.ref a))) (upd H' a (qL a cls))) σ H
theorem aIi{X:Cx}{body suite:List Stmt}{b₀:Stmt}{tb:TSX}{ts:TS}{c n:Str}{i:Nat}{CE:Addr}{cd:ClassData}{cp hpos pos:Pos}(hst:X.stack=X.env::X.outer)(hL:X.env.frame=some X.env.locals)(hN:X.N.Nodup)(hi:X.N[i]?=some n)
  (hx:X.env.scope.names.lookup n=some .local) (hg:Gl X c) (hm:X.mg c=some (.ref CE)) (ht:PySem.W.typeIn X.K (.ref CE)=some (.type "type")) (hc:PySem.W.clsIn X.K CE=some cd) (hbe:PySem.W.subIn X.K (.ref CE) (.type "BaseException")=some true)
  (hb:qD X body tb) (hs:∀ a,PSs (X.hdl a) (b₀::suite) ts) (hdb:(c == ("__debug__" : Str))=false:=by decide):
  PS X (.Try body [.ExceptHandler (some (.Name c cp)) (some n) (b₀::suite) hpos] [] [] pos) (aLn X.K CE i tb ts):=by
 rw[24];refine wpAny_Try_except (aUk (hb pins s σ H D _ I h) (fun f s1 z=>?_) (fun e s1 z=>?_))
 ·cases f with
  | next=>exact aV1 z
  | ret v=>exact z
  | brk=>exact z
  | cont=>exact z
 ·obtain⟨fr,a,cls,σ',H0,H',s0,rfl,I0,os,bare,un,hok,air,rfl,C,rfl,hsub,q⟩:=z
  have g:Got X pins σ' H0 H' s0 s1 false a (.ref C):=⟨I0,os,bare,un,hok,air⟩;refine g.note hst hL I.ok.frames fun h3 g3=>?_;refine wpAny_handleBy_cons ?_ (by intro z;cases z);refine codeAny_handlers_test ?_;obtain⟨oe,vs,g1,c1,d1⟩:=g3.obj;refine qV (X:=X.hdl a) (g3.now.hdl a) hg hm ?_ hdb;refine aE8 (K:=X.K) g3.now.kIn ht hc hbe g1 c1 hsub ?_;refine codeAny_handlers_suite_as ?_;refine g3.flight fun h4 g4=>?_;refine zF (v:=.ref a) g4.hold hN hi (.inl hx) rfl (fun s5 I5=>?_) (.inr hx);refine aUk (hs a pins s5 _ _ (ID i D) (I5.hdl a) (q a g4.air.free)) (fun f s6 z=>?_) fun _ _ z=>False.elim z;have away:∀ {σ2:St} {H2:Hp} {Q:Unit->Shared->Prop},Inv (X.hdl a) pins σ2 H2 s6->(∀ s8,Inv X pins (σ2.set i none) H2 s8->Q () s8)->wpAny (model X.prog X.w) X.A (do
    bindName X.env n Value.none
    unbindBehindTheSuite X.env n hpos) Q X.xe s6:=by
   intro σ2 H2 Q I6 k;have I6:=I6.unhdl I.ok;have hlen:i<σ2.length:=by rw[I6.len];exact (aS0.mp hi).1
   refine aU9 (wpAny_bindName (zF (v:=.non) I6 hN hi (.inl hx) rfl (fun s7 I7=>?_) (.inr hx)));unfold unbindBehindTheSuite;refine aUz (aMg (v:=.non) I7 hN hi hx (aT1 hlen) fun s8 I8=>?_);rw[List.set_set] at I8;exact k s8 I8
  cases f with
  | next=>
   obtain⟨σ2,H2,I6,q6⟩:=z;exact away I6 fun s8 I8=>⟨_,_,I8,q6⟩
  | ret v=>
   obtain⟨w,σ2,H2,I6,r6,q6⟩:=z;exact away I6 fun s8 I8=>⟨w,_,_,I8,r6,q6⟩
  | brk=>
   obtain⟨σ2,H2,I6,q6⟩:=z;exact away I6 fun s8 I8=>⟨_,_,I8,q6⟩
  | cont=>
   obtain⟨σ2,H2,I6,q6⟩:=z;exact away I6 fun s8 I8=>⟨_,_,I8,q6⟩
def XR{prog:Program}{w:World}{A:Around}{s:Shared}{K:PySem.W.Frag}{x C:Addr}{R:Result->Shared->Prop}{ox:Obj}{tp:Value}(k:K.In s.heap)(he:s.heap.get? x=some ox)(hc:ox.cls=.ref C)(hm:W.mroIn K C (.type "object")=some true)
  (h:R (.ok (.ret (.ref C))) s):codeAny (model prog w) A (.call (.builtin "getset_descriptor.__get__") { pos:=[.builtin "object.__class__",.ref x,tp] }) R s:=by
 obtain⟨hh,g,dr,t,os⟩:=s;have keep:∀ (b:Addr) (o:Obj),hh.get? b=some o->hh.get? b=some o:=fun _ _ z=>z;have L0:∀ {M:Model} {A:Around} {Q:Value->Shared->Prop} {E:Value->Shared->Prop},Q (.ref C) ⟨hh,g,dr,t,os⟩->wpAny M A (typeOf (.ref x)) Q E ⟨hh,g,dr,t,os⟩:=fun {M A Q E} q=>wpAny_typeOf_ref he (by rw[hc];exact q);refine aUw W.KF.slot_gs.plain W.KF.entry_gs (W.KF.slot_gs.check _ _ _ _ _ [.ref x,tp] [] _ W.KF.type_class (W.KF.args_gs _ _ _) ?_);unfold Builtin.«getset_descriptor.__get__» Builtin.Getset_descriptor.descrGet;rw[W.dga_obj];refine aU9 (aUa ?_);show wpAny _ _ (Builtin.Getset_descriptor.descrGetter _ _) _ _ _;unfold Builtin.Getset_descriptor.descrGetter;rw[12];unfold Builtin.Getset_descriptor.descrCheckInstance;rw[12];show wpAny _ _ (pure (Str.ofString (Builtin.Getset_descriptor.descrOwnerAndName "object.__class__").2,Value.type (Builtin.Getset_descriptor.descrOwnerAndName "object.__class__").1)) _ _ _;rw[W.KF.owner_class];refine aUa ?_;rw[12];unfold isInstance;refine aU9 (L0 ?_);refine W.looks_subIn (K:=K) k (show W.subIn K (.ref C) (.type "object")=some true from hm) A.in1 _ _ _ keep ?_;refine aUr rfl (aUa ?_);show wpAny _ _ (again (Code.builtin "object.__class__" { pos:=[.ref x] })) _ _ _;unfold again;refine aUa ⟨Code.quiet_builtin _ (by decide +kernel),aV7 W.KF.entry_class ?_⟩;unfold Builtin.«object.__class__»;rw[12];unfold shownTypeOf;refine aU9 (L0 ?_);refine aUr rfl (aUa (aUa h))
def XQ{prog:Program}{w:World}{A:Around}{E:Value->Shared->Prop}{K:PySem.W.Frag}{s:Shared}{a C:Addr}{o:Obj}{Q:Option Value->Shared->Prop}(k:K.In s.heap)(he:s.heap.get? a=some o)(hc:o.cls=.ref C)
  {nm qn:Str} {N:Addr} {bs bm bmB:List Value} {hdct:Bool} {sn:List Str} {sub:List Value} {ab:Bool} {col:Option Bool} {dd:Option Addr} {k0 k1 k2 k3 k5:Option Value} {B newId:String} (FB:ExcAttrBase B bmB) (hC:s.heap.get? C=some (excClassObj nm qn C N bs bm hdct sn sub ab col dd k0 k1 k2 k3 k5 newId)) (T:OwnTailQ s.heap bmB bm)
  (h1:W.findIn K (.ref C) "__getattribute__" = some (some (.builtin "BaseException.__getattribute__"))) (h2:W.findIn K (.ref C) "__getattr__" = some none)
  (h3:W.findIn K (.ref C) "__class__" = some (some (.builtin "object.__class__"))) (h4:W.specialIn K (.builtin "object.__class__") "__get__" = some (some (.builtin "getset_descriptor.__get__"))) (h5:W.takesIn K (.builtin "object.__class__")=some true)
  (h6:W.mroIn K C (.type "object")=some true) (q:Q (some (.ref C)) { s with toks:=s.toks+1 }):wpAny (model prog w) A (getAttr? (.ref a) "__class__") Q E s:=by
 obtain⟨h,g,d,t,os⟩:=s;have keep:∀ (b:Addr) (o:Obj),h.get? b=some o->h.get? b=some o:=fun _ _ z=>z;unfold getAttr?;rw[12];refine aU9 (wpAny_fresh' (aUa ?_));unfold getAttrBy?;refine aU9 (aVa ?_);unfold getAttrBy;refine aUt (aU9 ?_);refine aU9 (wpAny_loadPart_at he ?_);rw[hc];refine aUa (aU9 (W.looks_findIn k h1 A _ _ _ keep ?_));refine aUr rfl ?_;unfold getAttrByItsOwn;rw[12];unfold hookBefore;refine wpAny_ite_true rfl (W.looks_findIn k h2 A _ _ _ keep ?_);refine aU9 (aVa (aUt ?_));unfold callGetattribute;refine aUr rfl ?_;unfold boundAndCalled;refine aU9 (wpAny_of_eq (FB.ga.bind (.ref a)) (wpAny_call ?_));refine aUw FB.ga.plain F.entry_bexc_ga (wpAny_check_ga_own FB hC T he hc ?_);unfold Builtin.«object.__getattribute__»;rw[12];unfold slotArgs;refine aUr rfl ?_;refine aUr rfl (aUa ?_);rw[12];refine aUa (aU9 ?_);refine aU9 (wpAny_loadPart_at he ?_);rw[hc];refine aUa (aU9 ?_);unfold Builtin.ObjectAttr.find;refine aU9 (W.looks_findIn k h3 A.in1 _ _ _ keep ?_);rw[12];unfold Builtin.ObjectAttr.getOf;refine W.looks_specialIn k h4 A.in1 _ _ _ keep ?_;rw[12];unfold Builtin.ObjectAttr.dataDescriptor?;refine aU9 (W.looks_takesIn k h5 A.in1 _ _ _ keep ?_);refine wpAny_ite_true rfl (aUa ?_);refine aU9 (wpAny_rule ?_);refine aUa ?_;unfold Builtin.ObjectAttr.bindTo;refine aU9 (aUt (wpAny_call ?_));refine XR (s:=⟨h,g,d,_,os⟩) k he hc h6 ?_;exact aUa (aUa (aUa q))
def aDo{K:PySem.W.Frag}{a C N:Addr}{nm qn:Str}{bs bm bmB:List Value}{hdct:Bool}{sn:List Str}{sub:List Value}{ab:Bool}{col:Option Bool}{dd:Option Addr}{k0 k1 k2 k3 k5:Option Value}{B newId:String}(FB:ExcAttrBase B bmB)
  (hC:K.lookup C=some (excClassObj nm qn C N bs bm hdct sn sub ab col dd k0 k1 k2 k3 k5 newId)) (T:∀ h:Heap,K.In h->OwnTailQ h bmB bm)
  (h1:W.findIn K (.ref C) "__getattribute__" = some (some (.builtin "BaseException.__getattribute__"))) (h2:W.findIn K (.ref C) "__getattr__" = some none) (h3:W.findIn K (.ref C) "__class__" = some (some (.builtin "object.__class__")))
  (h4:W.specialIn K (.builtin "object.__class__") "__get__" = some (some (.builtin "getset_descriptor.__get__"))) (h5:W.takesIn K (.builtin "object.__class__")=some true) (h6:W.mroIn K C (.type "object")=some true):
  W.KitX K (.ref a) (.ref C) (fun h=>∃ oe,h.get? a=some oe/\oe.cls=.ref C) where
 ty:=fun M h _ ⟨oe,e,c⟩ A Q E s keep q=>wpAny_typeOf_ref (keep _ _ e) (by rw[c];exact q)
 it:=fun M h k _ A Q E s keep q=>by
  obtain⟨hh,g,d,t,os⟩:=s;exact ks_wpAny_isType_cls (keep _ _ (k _ _ hC)) rfl q
 ne:=fun h tp dd' its n sl k e=>by
  rw[aUq];intro z;have z:=Value.ref.inj z;subst z;rw[k _ _ hC] at e;exact absurd (congrArg (fun o=>o.data) (aRv e)) (by intro y;cases y)
 ca:=fun {prog w A E Q s} k ⟨oe,e,c⟩ q=>XQ k e c FB (k _ _ hC) (T _ k) h1 h2 h3 h4 h5 h6 q
end L2
namespace G
open PySem PySem.Spec PyProof.Rows L2
abbrev nmC(K:PySem.W.Frag)(nm:Str)(C:Addr):Prop:=PySem.W.nsIn K mainGlobals nm=some (some (.ref C))
def TY(K:PySem.W.Frag)(B:Hp)(fl:List Nat)(n:Bool)(l:Nat)(Exl:List (T × V))(D:Ends)(Ex:XS):Out ⊕ Str->Prop
 | .inl o=>zO K B fl n l Exl D o
 | .inr nm=>∀ fr C σ' H',nmC K nm C->aL B H'->Ex fr (.ref C) σ' H'
def tSX(K:PySem.W.Frag)(B:Hp)(fl:List Nat)(n:Bool)(l:Nat)(run:Rho->Option (Out ⊕ Str)):TSX:=fun D Ex σ H=>
 ∃ Exl ρ M o,Sl K B fl Exl σ ρ M H/\run ρ=some o/\TY K B fl n l Exl D Ex o
def HK(X:Cx)(B:Hp)(fl:List Nat)(n:Bool)(l:Nat)(st:List Stmt)(run:Rho->Option (Out ⊕ Str)):Prop:=qD X st (tSX X.K B fl n l run)
def aIj{X:Cx}{st:List Stmt}{t t':TSX}(h:qD X st t)(k:∀ D Ex σ H,t' D Ex σ H->t D Ex σ H):qD X st t':=fun pins s σ H D Ex I q=>h pins s σ H D Ex I (k D Ex σ H q)
noncomputable def xOf(r:Rho->Option Out):Rho->Option (Out ⊕ Str):=fun ρ=>(r ρ).map .inl
noncomputable def GX(r1 r2:Rho->Option (Out ⊕ Str)):Rho->Option (Out ⊕ Str):=fun ρ=>(r1 ρ).bind fun o=>match o with | .inl (.nx ρ')=>r2 ρ' | o=>some o
@[simp] theorem zN(r:Rho->Option Out)(ρ:Rho):xOf r ρ=(r ρ).map .inl:=id rfl
@[simp] theorem GY(r1 r2:Rho->Option (Out ⊕ Str))(ρ:Rho):GX r1 r2 ρ=(r1 ρ).bind fun o=>match o with | .inl (.nx ρ')=>r2 ρ' | o=>some o:=id rfl
def spX(K:PySem.W.Frag)(FX:List T->Option (T ⊕ Str))(n:Bool)(l:Nat):Sp:=fun vs H Q E=>
 ∃ ts o,RepL K H (fun _=>True) ts vs/\FX ts=some o/\(match o with
  | .inl t=>∀ v H',aL H H'->aO K H H [] H' n l t v->Q v H'
  | .inr nm=>∀ C H',nmC K nm C->aL H H'->E (.ref C) none H')
variable {X:Cx}{B:Hp}{fl:List Nat}{pos:Pos}
section
variable {n:Bool}{l:Nat}{st:Stmt}{rest a b:List Stmt}{r:Rho->Option Out}{r1 r2:Rho->Option (Out ⊕ Str)}{c:Expr}{p:Rho->Option Bool}
def aMq{K:PySem.W.Frag}(D:Ends)(Ex:XS)(σ:St)(H:Hp)(h:tSX K B fl n l (xOf r) D Ex σ H):tOf (tS K B fl n l r) D Ex σ H:=by
 obtain⟨Exl,ρ,M,o,S,hr,e⟩:=h;cases hq:r ρ with
 | none=>rw[zN,hq] at hr;cases hr
 | some o'=>
  rw[zN,hq] at hr;rw[27];exact⟨Exl,ρ,M,o',S,hq,e⟩
def aC2(h:GSs X.nox B fl n l rest r):HK X B fl n l rest (xOf r):=aIj (aIk h) aMq
end
structure CalX(P:Program)(w:World)(K:PySem.W.Frag)(mg:Str->Option Value)(base:Heap)(x:Str)(k:Nat)(ps:List Str)(FX:List T->Option (T ⊕ Str))(n:Bool)(l:Nat)(ds:List Value):Prop where
 ex:∃ f fd,FnOk P w K mg base (CX1 P w) k f fd ps (spX K FX n l)/\mg x=some (.ref f)/\PySem.W.keepIn K (.ref f)=true/\dE K fd ps ds
variable {ps:List Str}{es:List Expr}
section
variable {k:Nat}{f:Addr}{fd:FuncData}{sp:Sp}{x:Str}{p:Pos}{e:Expr}{t:TA}
theorem aJr{ds:List Value}{dvs:List V}{pins:List (Addr × Obj)}{σ:St}{H:Hp}{s:Shared}{Q:VK}{Ex:Bool->Value->Hp->Prop}{us:List Value}{vs:List V}(F:FnOk X.prog X.w X.K X.mg X.base (CX1 X.prog X.w) k f fd ps sp)(hr:Room k X.A)(hex:X.ex=[])(hb:dE X.K fd ps ds)(hd:aQ dvs ds)
  (I:Inv X pins σ H s) (r:aQ vs us) (h:sp (vs++dvs) H Q fun c _ H'=>Ex false c H'):wpAny (model X.prog X.w) X.A (call (.ref f) us) (EP X pins σ Q) (XP X pins fun fr c σ' H'=>σ'=σ/\Ex fr c H') s:=by
 have hl:(us++ds).length=ps.length:=by
  rw[aT3,<- r.length,<- hd.length,<- List.length_append];exact F.len _ _ _ _ h
 have hb':=hb s us I.kIn hl;refine wpAny_call (aV8 (F.run X.A X.stack s H ⟨us,[]⟩ (us++ds) (vs++dvs) Q _ hr I.env0 hb' (aQ.append r hd) h) fun r s' hq=>?_);cases r with
 | error e=>
  obtain⟨a,cls,H',rfl,os,bare,un,hok,air,q⟩:=hq;exact⟨false,a,cls,σ,H,H',s,rfl,I,os,bare,un,hok,air,rfl,q⟩
 | ok fl=>
  cases fl with
  | ret u=>exact I.after hq
  | next=>exact False.elim hq
  | brk=>exact False.elim hq
  | cont=>exact False.elim hq
def aL0(sp:Sp)(dvs:List V)(t:TA):TEX:=fun σ H Q Ex=>t σ H fun vs H1=>sp (vs++dvs) H1 Q fun c _ H'=>Ex false c H'
def aHz{ds:List Value}{dvs:List V}(F:FnOk X.prog X.w X.K X.mg X.base (CX1 X.prog X.w) k f fd ps sp)(hr:Room k X.A)(hex:X.ex=[])(hg:Gl X x)(hm:X.mg x=some (.ref f))(hk:PySem.W.keepIn X.K (.ref f)=true)(hb:dE X.K fd ps ds)(hd:aQ dvs ds)
  (ha:PA X.nox (e::es) t) (hdb:aVi x:=by decide) (he:aVc X e es:=by rfl) (hpl:aVe X pos es:=by rfl):
  PEX X (.Call (.Name x p) (e::es) [] pos) (aL0 sp dvs t):=by
 intro pins s σ H Q Ex I h;refine aV0 (qV I hg hm ?_ hdb);refine PySem.W.callWith_K (h₀:=X.base) I.ok.mod.kin hk (aUk (ha pos pins s σ H _ (I.wish _) h) (fun us s1 ⟨vs,H1,I1,r,q⟩=>⟨I1.kIn,?_⟩) fun _ _ z=>False.elim z) he hpl;exact aJr F hr hex hb hd I1.unwish r q
end
variable {n':Bool}{l':Nat}{fa:Rho->Option (List T)}{p':Pos}
section
variable {n:Bool}{l k:Nat}{e:Expr}{FX:List T->Option (T ⊕ Str)}{x:Str}{epos:Pos}
def aJm{K:PySem.W.Frag}{H:Hp}{A:Addr->Prop}{ts:List T}{vs:List V}(r:RepL K H A ts vs):RepL K H (fun _=>True) ts vs:=r.weak fun _ _=>trivial
end
def xF:Out ⊕ Str->Option (T ⊕ Str)
 | .inl o=>(bQ o).map .inl
 | .inr nm=>some (.inr nm)
@[simp] theorem OI(o:Out):xF (.inl o)=(bQ o).map .inl:=rfl
@[simp] theorem aHf(nm:Str):xF (.inr nm)=some (.inr nm):=rfl
def qB(np k:Nat)(run:Rho->Option (Out ⊕ Str))(ts:List T):Option (T ⊕ Str):=if ts.length=np then (run (ts.map some++List.replicate k none)).bind xF else none
def VP{np k:Nat}{run:Rho->Option (Out ⊕ Str)}{ts:List T}{t:T ⊕ Str}(h:qB np k run ts=some t):ts.length=np:=by
 unfold qB at h;split at h
 ·assumption
 ·cases h
def AA:Out ⊕ Str->T ⊕ Str->Prop
 | .inl o,.inl t=>zZ o t
 | .inr a,.inr b=>a=b
 | _,_=>False
def VQ{np k:Nat}{run:Rho->Option (Out ⊕ Str)}{ts:List T}{t:T ⊕ Str}(h:qB np k run ts=some t):∃ o,run (ts.map some++List.replicate k none)=some o/\AA o t:=by
 unfold qB at h;split at h
 ·obtain⟨o,e,h⟩:=bind_some h
  refine⟨o,e,?_⟩;cases o with
  | inr nm=>cases (aRv h);exact rfl
  | inl o=>
   cases o with
   | rt u=>cases (aRv h);exact rfl
   | nx _=>cases (aRv h);exact rfl
   | bk _=>cases h
   | ct _=>cases h
 ·cases h
variable {mg:Str->Option Value}{base:Heap}
section
variable {P:Program}{w:World}{K:PySem.W.Frag}
theorem aBf{N ps:List Str}{fl:List Nat}{n:Bool}{l:Nat}{FX:List T->Option (T ⊕ Str)}{run:Rho->Option (Out ⊕ Str)}(hN:ps.length<=N.length)(hfl:fl.length=N.length)(hp:∀ i,i<ps.length->fl.getD i 1=1)(hlen:∀ ts t,FX ts=some t->ts.length=ps.length)
  (hrun:∀ ts t,FX ts=some t->∃ o,run (ts.map some++List.replicate (N.length-ps.length) none)=some o/\AA o t) {vs:List V} {H:Hp} {Q:VK} {E:XK} (h:spX K FX n l vs H Q E) (hl4:l≠4):
  tSX K H fl n l run { nx:=fun _ H'=>Q .non H',rt:=Q } (fun _ c _ H'=>E c none H') (L2.start N vs) H:=by
 obtain⟨ts,t,r,hf,q⟩:=h;obtain⟨o,ho,hi⟩:=hrun ts t hf;refine⟨[],_,[],o,FZ hfl hp (hlen ts t hf) r hN,ho,?_⟩
 match o,t,hi,q with
 | .inr a,.inr b,hi,q=>
  cases (show a=b from hi);exact fun fr C σ' H' hC s'=>q C H' hC s'
 | .inl (.rt u),.inl t,hi,q=>
  cases (show u=t from hi);exact fun v H' s' r'=>q v H' s' ((RtX.of hl4).mp r')
 | .inl (.nx ρ'),.inl t,hi,q=>
  cases (show t=.non from hi);exact fun σ' M' H' S'=>q _ H' S'.same ((aO.scal rfl).mpr rfl)
end
def Sl.drop{K:PySem.W.Frag}{B H:Hp}{fl:List Nat}{Ex:List (T × V)}{σ:St}{ρ:Rho}{M:List Addr}{i:Nat}(S:Sl K B fl Ex σ ρ M H):Sl K B fl Ex (σ.set i none) (ρ.set i none) M H:=by
 have get:∀ {j:Nat} {u:T},(ρ.set i none)[j]?=some (some u)->j≠i/\ρ[j]?=some (some u):=fun {j u} e=>by
  by_cases hj:j=i
  ·subst hj
   by_cases hl:j<ρ.length
   ·rw[aT1 hl] at e;cases e
   ·rw[List.getElem?_eq_none_iff.mpr (by rw[List.length_set];omega)] at e;cases e
  ·rw[aS5 (Ne.symm hj)] at e
   exact⟨hj,e⟩
 rw[36];refine⟨S.same,fun j u e k=>?_,⟨g,fun j u e k hm=>?_,fun j j' c d u u' us ws hne e e' k k' hm hm'=>?_⟩,S.ex,S.mB,by rw[List.length_set];exact S.len⟩
 ·obtain⟨hj,e⟩:=get e
  obtain⟨w,e1,r1⟩:=S.slot j u e k;exact⟨w,by rw[aS5 (Ne.symm hj)];exact e1,r1⟩
 ·obtain⟨hj,e⟩:=get e
  obtain⟨w,e2,e3⟩:=hg j u e k hm;exact⟨w,by rw[aS5 (Ne.symm hj)];exact e2,e3⟩
 ·obtain⟨hj,e⟩:=get e
  obtain⟨hj',e'⟩:=get e';exact ap j j' c d u u' us ws hne e e' k k' hm hm'
noncomputable def AC(dts:List T)(fa:Rho->Option (List T)):Rho->Option (List T):=fun ρ=>(fa ρ).map (· ++ dts)
@[simp] theorem AD(dts:List T)(fa:Rho->Option (List T))(ρ:Rho):AC dts fa ρ=(fa ρ).map (· ++ dts):=id rfl
def hd0:aQ [] []:=.nil
def aCk{K:PySem.W.Frag}:∀ H:Hp,RepL K H (fun _=>True) [] []:=fun _=>rfl
noncomputable def DW(i:Nat)(fa:Rho->Option (List T))(FX:List T->Option (T ⊕ Str))(nms:List Str)(rs:Rho->Option Out):Rho->Option Out:=fun ρ=>(fa ρ).bind fun ts=>(FX ts).bind fun u=>match u with
 | .inl _=>some (.nx ρ)
 | .inr nm=>if nm∈nms then (rs (ρ.set i (some (.exc nm)))).bind fun o=>(match o with | .nx ρ'=>some (.nx (ρ'.set i none)) | .rt t=>some (.rt t) | _=>none) else none
@[simp] theorem aJ7(i:Nat)(fa:Rho->Option (List T))(FX:List T->Option (T ⊕ Str))(nms:List Str)(rs:Rho->Option Out)(ρ:Rho):DW i fa FX nms rs ρ=(fa ρ).bind fun ts=>(FX ts).bind fun u=>match u with
 | .inl _=>some (.nx ρ)
 | .inr nm=>if nm∈nms then (rs (ρ.set i (some (.exc nm)))).bind fun o=>(match o with | .nx ρ'=>some (.nx (ρ'.set i none)) | .rt t=>some (.rt t) | _=>none) else none:=id rfl
structure TryK(K:PySem.W.Frag)(mg:Str->Option Value)(c:Str)(nms:List Str):Prop where
 ex:∃ (CE:Addr) (cd:ClassData),mg c=some (.ref CE)/\PySem.W.typeIn K (.ref CE)=some (.type "type")/\PySem.W.clsIn K CE=some cd/\PySem.W.subIn K (.ref CE) (.type "BaseException")=some true /\
  ∀ nm∈nms,∀ C,nmC K nm C->jN K nm C/\PySem.W.subIn K (.ref C) (.ref CE)=some true
theorem aBw{X:Cx}{B:Hp}{fl:List Nat}{n n':Bool}{l l' la k i:Nat}{e:Expr}{es:List Expr}{fa:Rho->Option (List T)}{FX:List T->Option (T ⊕ Str)}{x c v:Str}{ps:List Str}{p' pos epos cp hpos tpos:Pos}{b₀:Stmt}{suite:List Stmt}{rs:Rho->Option Out}{nms:List Str}{ds:List Value}{dvs:List V}{dts:List T}
  (C:CalX X.prog X.w X.K X.mg X.base x k ps FX n' l' ds) (hd:aQ dvs ds) (hdt:∀ (H:Hp),RepL X.K H (fun _=>True) dts dvs) (TK:TryK X.K X.mg c nms) (hr:Room k X.A) (hex:X.ex=[]) (hg:Gl X x) (hgc:Gl X c) (ha:GA X.nox B fl (e::es) fa la)
  (hst:X.stack=X.env::X.outer) (hL:X.env.frame=some X.env.locals) (hN:X.N.Nodup) (hi:X.N[i]?=some v) (hv:X.env.scope.names.lookup v=some .local) (hfl:(decide (i<fl.length)&&decide (1<=fl.getD i 1))=true)
  (hs:∀ a,GSs (X.hdl a) B fl n l (b₀::suite) rs) (hsw:swapsWith (.Call (.Name x p') (e::es) [] pos) none epos.line X.env=pure false:=by rfl) (hdb:aVi x:=by decide) (hdc:(c == ("__debug__" : Str))=false:=by decide)
  (he:aVc X e es:=by rfl) (hpl:aVe X pos es:=by rfl):
  GS X B fl n l (.Try [.Expr (.Call (.Name x p') (e::es) [] pos) epos] [.ExceptHandler (some (.Name c cp)) (some v) (b₀::suite) hpos] [] [] tpos) (DW i (AC dts fa) FX nms rs):=by
 obtain⟨f,fd,FO,hm,hk,hb⟩:=C.ex;obtain⟨CE,cd,hmc,ht,hcl,hbe,hnm⟩:=TK.ex;simp only[aSb,aUh] at hfl;refine cV (aIi (ts:=tS X.K B fl n l rs) (i:=i) hst hL hN hi hv hgc hmc ht hcl hbe (aIl (aIm (aHz (dvs:=dvs) FO hr hex hg hm hk hb hd ha hdb he hpl) hsw)) (fun a=>hs a) hdc) ?_;rintro D σ H ⟨Ex,ρ,M,o,S,hrr,q⟩;obtain⟨ts',hts',hrr⟩:=bind_some hrr;obtain⟨u,hu,hrr⟩:=bind_some hrr;cases hts:fa ρ with
 | none=>simp only[AD,hts] at hts';cases hts'
 | some ts=>
 simp only[AD,hts] at hts';cases (aRv hts');rw[6];show spX X.K FX n' l' (vs++dvs) H1 _ _;refine⟨ts++dts,u,RepL.app (aJm r1) (hdt H1),hu,?_⟩;cases u with
 | inl t=>
  cases (aRv hrr);exact fun v H2 s2 _=>q σ M H2 (S.grow (s1.trans s2))
 | inr nm=>
  intro C' H2 hC s2;dsimp only at hrr;split at hrr
  ·rename_i hmem
   obtain⟨o',ho',hrr⟩:=bind_some hrr;obtain⟨hEx,hsub⟩:=hnm nm hmem C' hC;refine⟨rfl,C',rfl,hsub,fun a ha0=>?_⟩;have S2:=(S.grow (s1.trans s2)).grow (cW ha0 (qL a (.ref C')));have S3:=S2.set (i:=i) (t:=.exc nm) (v:=.ref a) hfl.1 (.inl hfl.2) ⟨a,C',rfl,hEx,.inl bY⟩;refine⟨Ex,_,M,o',S3,ho',?_⟩
   match o',hrr with
   | .nx ρ',hrr=>
    cases (aRv hrr);exact fun σ' M' H' S'=>q _ M' H' S'.drop
   | .rt t,hrr=>
    cases (aRv hrr);exact q
  ·cases hrr
def YS{X:Cx}{pins:List (Addr × Obj)}{σ:St}{H:Hp}{s:Shared}{A:Around}{E:Value->Shared->Prop}{Q:Value->Shared->Prop}{c:Value}{b:Bool}{Ad:Addr->Prop}{nm:Str}{v:V}{u:Value}(I:Inv X pins σ H s)(r:Rep X.K H Ad (.exc nm) v)(rx:bB v u)
  (hx:∀ C,jN X.K nm C->PySem.W.kitOne X.K (.ref C) c=some b) (h:∀ tk,Q (.bool b) { s with toks:=tk }):wpAny (model X.prog X.w) A (call (.builtin "isinstance") [u,c]) Q E s:=by
 obtain⟨a,C,rfl,k,h1⟩:=r;cases rx;have ho:∃ oe,s.heap.get? a=some oe/\oe.cls=.ref C:=by
  rcases h1 with h1 | ⟨o,h1⟩
  ·obtain⟨⟨oe,vs,g1,g2,_⟩,_⟩:=I.hok a _ h1
   exact⟨oe,g1,g2⟩
  ·obtain⟨_,⟨oe,vs,g1,g2,_⟩,_⟩:=I.hok a _ h1
   exact⟨oe,g1,g2⟩
 exact aU6 (k.2.1 a) I.kIn ho (hx C k) (fun z=>nomatch z) h
noncomputable def eK(tab:List (Str × Bool)):T->Option T
 | .exc nm=>(tab.lookup nm).map .bl
 | _=>none
variable {p2:Pos}
section
variable {e:Expr}{f:Rho->Option T}{n:Bool}{l:Nat}{x y:Str}{tab:List (Str × Bool)}
theorem MN{c:Value}{vc:V}(rc:bB vc c)(hE:PE X (.Name y p2) (tC vc))(hx:x = "isinstance")(hg:Gl X x)(hm:X.mg x=none)(ht:∀ nm b,tab.lookup nm=some b->∀ C,jN X.K nm C->PySem.W.kitOne X.K (.ref C) c=some b)(he:GE X B fl e f n l)
  (hinj:∀ u,bB vc u->u=c)
  (h1:starEach [e,.Name y p2] X.env=(false,eval e X.env)::starEach [.Name y p2] X.env:=by rfl) (h2:starEach [.Name y p2] X.env=[(false,eval (.Name y p2) X.env)]:=by rfl) (hpl:(backTo pos (starEach [.Name y p2] X.env)).any (·.1)=false:=by rfl):
  GE X B fl (.Call (.Name x p') [e,.Name y p2] [] pos) (f1 f (eK tab)) true 3:=by
 subst hx;have cr:eF X (.builtin "isinstance") (fun xs H Q=>∃ v nm b A,xs=[v,vc]/\Rep X.K H A (.exc nm) v/\tab.lookup nm=some b/\Q (.bl b) H):=by
  rw[16];obtain⟨v,nm,b,A,rfl,rt,hl,q⟩:=h;obtain⟨u,w',rfl,r1,r2⟩:=TN r;cases hinj w' r2;exact YS I rt r1 (fun C k=>ht nm b hl C k) fun tk=>⟨.bl _,H,I.tok tk,rfl,q⟩
 refine bC (nE cr hg hm PyProof.Rows.boot_isinstance (cD he (cD hE cZ h2) h1) (by decide) (by decide) h1 hpl) ?_;rw[0];rw[18]
 match u,hf with
 | .exc nm,hf=>
  have hf:(tab.lookup nm).map T.bl=some t:=hf;cases hb:tab.lookup nm with
  | none=>rw[hb] at hf;cases hf
  | some b=>
   rw[hb] at hf;rw[4];exact⟨Ex,ρ,M,.exc nm,S,hu,fun v H1 s1 r1=>⟨v,nm,b,_,rfl,r1.rep S,hb,q _ H1 s1 ((aO.scal rfl).mpr rfl)⟩⟩
def jQ(hx:x = "isinstance")(hg:Gl X x)(hm:X.mg x=none)(hg':Gl X y)(hT:∃ CE:Addr,X.mg y=some (.ref CE)/\∀ nm b,tab.lookup nm=some b->∀ C,jN X.K nm C->PySem.W.kitOne X.K (.ref C) (.ref CE)=some b)(he:GE X B fl e f n l)
  (hd:(y == ("__debug__" : Str))=false:=by decide)
  (h1:starEach [e,.Name y p2] X.env=(false,eval e X.env)::starEach [.Name y p2] X.env:=by rfl) (h2:starEach [.Name y p2] X.env=[(false,eval (.Name y p2) X.env)]:=by rfl) (hpl:(backTo pos (starEach [.Name y p2] X.env)).any (·.1)=false:=by rfl):
  GE X B fl (.Call (.Name x p') [e,.Name y p2] [] pos) (f1 f (eK tab)) true 3:=by
 obtain⟨CE,hy,ht⟩:=hT;exact MN (c:=.ref CE) (vc:=.ref CE) rfl (xK hg' hy rfl hd) hx hg hm ht he (fun u r=>by cases r;rfl) h1 h2 hpl
def aAl{c:String}(hx:x = "isinstance")(hg:Gl X x)(hm:X.mg x=none)(hg':Gl X y)(hm':X.mg y=none)(hv:bootBuiltins y=some (.type c))(ht:∀ nm b,tab.lookup nm=some b->∀ C,jN X.K nm C->PySem.W.kitOne X.K (.ref C) (.type c)=some b)(he:GE X B fl e f n l)
  (hn:y ≠ "__name__" := by decide) (hd:(y == ("__debug__" : Str))=false:=by decide)
  (h1:starEach [e,.Name y p2] X.env=(false,eval e X.env)::starEach [.Name y p2] X.env:=by rfl) (h2:starEach [.Name y p2] X.env=[(false,eval (.Name y p2) X.env)]:=by rfl) (hpl:(backTo pos (starEach [.Name y p2] X.env)).any (·.1)=false:=by rfl):
  GE X B fl (.Call (.Name x p') [e,.Name y p2] [] pos) (f1 f (eK tab)) true 3:=
 MN (c:=.type c) (vc:=.ty c) rfl (OL (v:=.ty c) hg' hm' hv rfl hn hd) hx hg hm ht he (fun u r=>by cases r;rfl) h1 h2 hpl
end
noncomputable abbrev VB:List Value:=[.type "ValueError",.type "Exception",.type "BaseException",.type "object"]
noncomputable def tR(K:PySem.W.Frag)(N:Addr):Bool:=PySem.W.nsOkIn K N&&quietNames.all fun z=>PySem.W.nsIn K N z == some none
def MK{K:PySem.W.Frag}{h:Heap}{N:Addr}(I:K.In h)(e:tR K N=true):∃ mN,h.Ns N mN/\∀ z∈quietNames,mN z=none:=by
 unfold tR at e;obtain⟨e1,e2⟩:=aSc.mp e;refine⟨h.nsMap N,.of_isNs (PySem.W.isNs_of_in I e1),fun z hz=>PySem.W.nsMap_none_of_in I e1 ?_⟩;exact beq_iff_eq.mp (aS1.mp e2 z hz)
noncomputable def tX(K:PySem.W.Frag):List Value->Bool
 | []=>false
 | v::r=>((v::r) == VB)||(match v with
  | .ref A=>(match K.lookup A with
   | some u=>(match u.data with | .cls cd=>tR K cd.ns&&tX K r | _=>false)
   | none=>false)
  | _=>false)
theorem CG{K:PySem.W.Frag}{h:Heap}(I:K.In h):∀ {ls:List Value},tX K ls=true->OwnTailQ h VB ls
 | [],e=>by cases e
 | v::r,e=>by
  unfold tX at e;rcases Bool.or_eq_true_iff.mp e with q | q
  ·have:=beq_iff_eq.mp q
   rw[this];exact .base
  ·cases v with
   | ref A=>
    dsimp only at q;cases hA:K.lookup A with
    | none=>rw[hA] at q;cases q
    | some u=>
     rw[hA] at q;obtain⟨c0,d0,data0,s0⟩:=u;cases data0 with
     | cls cd=>
      obtain⟨q1,q2⟩:=aSc.mp q;obtain⟨mN,n1,n2⟩:=MK I q1;exact .own (I _ _ hA) n1 n2 (CG I q2)
     | _=>cases q
   | _=>cases q
def AV(K:PySem.W.Frag)(C:Addr):Bool:=match K.lookup C with
 | some ⟨.type "type",_,.cls cd,sl⟩=>(match cd.mro,sl.toList with
  | .ref C'::bm,[_,_,_,_,some (.builtin z),_]=>(z == "ValueError.__new__")&&(C' == C)&&tX K bm&&tR K cd.ns && !cd.hasDel
  | _,_=>false)
 | _=>false
def JN{K:PySem.W.Frag}{C:Addr}(h:AV K C=true):∃ bm N nm qn bs hdct sn sub ab col dd k0 k1 k2 k3 k5,K.lookup C=some (excClassObj nm qn C N bs bm hdct sn sub ab col dd k0 k1 k2 k3 k5 "ValueError.__new__")/\tR K N=true/\tX K bm=true:=by
 unfold AV at h;split at h
 ·rename_i d9 cd9 sl9 hK
  split at h
  ·rename_i C9 bm9 y0 y1 y2 y3 z9 y5 em es
   simp only[aSb,aUx,Bool.not_eq_true'] at h;obtain⟨⟨⟨⟨e1,e2⟩,e3⟩,e4⟩,e5⟩:=h;obtain⟨a1,a2,a3,a4,a5,a6,a7,a8,a9,a10,a11⟩:=cd9;dsimp only at em e4 e5;obtain⟨ll⟩:=sl9;have es':ll=[y0,y1,y2,y3,some (.builtin z9),y5]:=es;subst em e5 es' e1 e2;exact⟨bm9,_,_,_,_,_,_,_,_,_,_,y0,y1,y2,y3,y5,hK,e4,e3⟩
  ·cases h
 ·cases h
def qK(K:PySem.W.Frag)(C:Addr):Bool:=AV K C&&(PySem.W.findIn K (.ref C) "__getattribute__" == some (some (.builtin "BaseException.__getattribute__")))&&(PySem.W.findIn K (.ref C) "__getattr__" == some none) &&
 (PySem.W.findIn K (.ref C) "__class__" == some (some (.builtin "object.__class__")))&&(PySem.W.specialIn K (.builtin "object.__class__") "__get__" == some (some (.builtin "getset_descriptor.__get__")))&&(PySem.W.takesIn K (.builtin "object.__class__") == some true) &&
 (PySem.W.mroIn K C (.type "object") == some true)&&(["int","bool","list","tuple","str"]:List String).all fun c=>PySem.W.kitOne K (.ref C) (.type c) == some false
def YR{K:PySem.W.Frag}{nm:Str}{C:Addr}(hn:nmC K nm C)(h:qK K C=true):jN K nm C:=by
 unfold qK at h;simp only[aSb,aUx] at h;obtain⟨⟨⟨⟨⟨⟨⟨h0,h1⟩,h2⟩,h3⟩,h4⟩,h5⟩,h6⟩,h7⟩:=h;obtain⟨bm,N,nm',qn,bs,hdct,sn,sub,ab,col,dd,k0,k1,k2,k3,k5,hC,_,hl⟩:=JN h0;exact⟨hn,fun a=>aDo F.attrBase_ValueError hC (fun h I=>CG I hl) h1 h2 h3 h4 h5 h6,fun c hc=>beq_iff_eq.mp (aS1.mp h7 c hc)⟩
structure RaiseK(K:PySem.W.Frag)(mg:Str->Option Value)(base:Heap)(nm:Str):Prop where
 ex:∃ C,OwnCls nm C VB "ValueError.__new__" mg base/\nmC K nm C
def aJ9{K:PySem.W.Frag}{mg:Str->Option Value}{base:Heap}{nm:Str}{C:Addr}(I:K.In base)(G0:base.Ns mainGlobals mg)(hn:nmC K nm C)(h:qK K C=true):RaiseK K mg base nm:=by
 unfold qK at h;simp only[aSb,aUx] at h;obtain⟨⟨⟨⟨⟨⟨⟨h0,h1⟩,h2⟩,h3⟩,h4⟩,h5⟩,h6⟩,h7⟩:=h;obtain⟨bm,N,nm',qn,bs,hdct,sn,sub,ab,col,dd,k0,k1,k2,k3,k5,hC,hh,hl⟩:=JN h0;obtain⟨mN,n1,n2⟩:=MK I hh;exact⟨C,OwnClsQ.own ⟨aU8 I G0 hn,bm,N,nm',qn,bs,hdct,sn,sub,ab,col,dd,k0,k1,k2,k3,k5,mN,I _ _ hC,n1,n2,CG I hl⟩,hn⟩
def CM{K:PySem.W.Frag}{nm:Str}{C C':Addr}(h:nmC K nm C)(h':nmC K nm C'):C=C':=by
 have:=h.symm.trans h';cases this;rfl
def gB(K:PySem.W.Frag)(mg:Str->Option Value)(y:Str)(tab:List (Str × Bool)):Prop:=∃ CE:Addr,mg y=some (.ref CE)/\∀ nm b,tab.lookup nm=some b->∀ C,jN K nm C->PySem.W.kitOne K (.ref C) (.ref CE)=some b
def vN(K:PySem.W.Frag)(c:String)(tab:List (Str × Bool)):Prop:=∀ nm b,tab.lookup nm=some b->∀ C,jN K nm C->PySem.W.kitOne K (.ref C) (.type c)=some b
section
variable {K:PySem.W.Frag}{y m c:Str}{C CE:Addr}{b0:Bool}{tab:List (Str × Bool)}{nms:List Str}{cd:ClassData}
def ST{nm:Str}{b:Bool}(h:((m,b0)::tab).lookup nm=some b):(nm=m/\b=b0)\/tab.lookup nm=some b:=by
 rw[aTa] at h;cases e:nm == m with
 | true=>rw[e] at h;exact .inl ⟨eq_of_beq e,(aRv h).symm⟩
 | false=>rw[e] at h;exact .inr h
def jT(I:K.In base)(G0:base.Ns mainGlobals mg)(hy:nmC K y CE):gB K mg y []:=⟨CE,aU8 I G0 hy,fun nm b h=>by cases h⟩
def jS(I:K.In base)(G0:base.Ns mainGlobals mg)(hy:nmC K y CE)(hm:nmC K m C)(hk:PySem.W.kitOne K (.ref C) (.ref CE)=some b0)(h:gB K mg y tab):gB K mg y ((m,b0)::tab):=by
 obtain⟨CE',e1,e2⟩:=h;have e:=aU8 I G0 hy;rw[e1] at e;cases (Value.ref.inj (aRv e));refine⟨_,e1,fun nm b hl C' hC=>?_⟩;rcases ST hl with ⟨rfl,rfl⟩ | hl
 ·rw[CM hC.1 hm];exact hk
 ·exact e2 nm b hl C' hC
def aCv{v:String}:vN K v []:=fun nm b h=>by cases h
def aCu{v:String}(hm:nmC K m C)(hk:PySem.W.kitOne K (.ref C) (.type v)=some b0)(h:vN K v tab):vN K v ((m,b0)::tab):=fun nm b hl C' hC=>by
 rcases ST hl with ⟨rfl,rfl⟩ | hl
 ·rw[CM hC.1 hm];exact hk
 ·exact h nm b hl C' hC
def aM7(I:K.In base)(G0:base.Ns mainGlobals mg)(hc:nmC K c CE)(ht:PySem.W.typeIn K (.ref CE)=some (.type "type"))(hcl:PySem.W.clsIn K CE=some cd)(hb:PySem.W.subIn K (.ref CE) (.type "BaseException")=some true):TryK K mg c []:=
 ⟨CE,cd,aU8 I G0 hc,ht,hcl,hb,fun nm h=>by cases h⟩
def aM6(I:K.In base)(G0:base.Ns mainGlobals mg)(hc:nmC K c CE)(hm:nmC K m C)(hx:qK K C=true)(hs:PySem.W.subIn K (.ref C) (.ref CE)=some true)(h:TryK K mg c nms):TryK K mg c (m::nms):=by
 obtain⟨CE',cd',e1,e2,e3,e4,e5⟩:=h.ex;have e:=aU8 I G0 hc;rw[e1] at e;cases (Value.ref.inj (aRv e));refine⟨_,cd',e1,e2,e3,e4,fun nm hn C' hC=>?_⟩;rcases aS7.mp hn with rfl | hn
 ·cases CM hC hm
  exact⟨YR hm hx,hs⟩
 ·exact e5 nm hn C' hC
end
def XLv(X:Cx)(E:XK):Prop:=∀ (pins:List (Addr × Obj)) (v:Value) (s':Shared),XP X pins (fun _ c _ H'=>E c none H') v s'->X.xe v s'
def fX{P:Program}{w:World}{K:PySem.W.Frag}{mg:Str->Option Value}{base:Heap}{N:List Str}{qual:Str}{scope:Scope}{f:Addr}{cd:Value}{A:Around}{outer:List Env}{s:Shared}{H:Hp}{E:XK}:
  XLv (cQ (CX1 P w) P w K mg base N qual scope f cd A outer s H E) E:=by
 intro pins v s' z;obtain⟨fr,a,cls,σ',H0,H',s0,rfl,I0,os,bare,un,hok,air,q'⟩:=z;have I':=I0.call' (ch:=[]) os un hok bare fun b z=>absurd z (by simp);have x:Air fr s.heap H' a cls s'.heap:=by
  obtain⟨oe,vs,a0,g1,c1,d1,v0,tr⟩:=air.obj;exact⟨(I0.oldNone rfl air.new).1,air.free,oe,vs,a0,g1,c1,d1,v0,tr.imp id fun ⟨T,oT,ts,z0,z1,z2,z3,z4⟩=>⟨T,oT,ts,z0,z1,(I0.oldNone rfl z2).1,z3,z4⟩⟩
 exact aDv I' rfl rfl rfl x q'
def aIb{P:Program}{w:World}{K:PySem.W.Frag}{mg:Str->Option Value}{base:Heap}{N:List Str}{qual:Str}{scope:Scope}{f:Addr}{cd:Value}{A:Around}{outer:List Env}{s:Shared}{H:Hp}{E:XK}:
  PassesOwn (model (cQ (CX1 P w) P w K mg base N qual scope f cd A outer s H E).prog (cQ (CX1 P w) P w K mg base N qual scope f cd A outer s H E).w) (cQ (CX1 P w) P w K mg base N qual scope f cd A outer s H E).A (cQ (CX1 P w) P w K mg base N qual scope f cd A outer s H E).env (cQ (CX1 P w) P w K mg base N qual scope f cd A outer s H E).xe:=
 PassesOwn.leaving
def tSL(K:PySem.W.Frag)(B:Hp)(fl:List Nat)(n:Bool)(l:Nat)(run:Rho->Option (Out ⊕ Str))(E:XK):TS:=fun D σ H=>tSX K B fl n l run D (fun _ c _ H'=>E c none H') σ H
def GSL(X:Cx)(E:XK)(B:Hp)(fl:List Nat)(n:Bool)(l:Nat)(st:Stmt)(run:Rho->Option (Out ⊕ Str)):Prop:=PS X st (tSL X.K B fl n l run E)
def sV(X:Cx)(E:XK)(B:Hp)(fl:List Nat)(n:Bool)(l:Nat)(st:List Stmt)(run:Rho->Option (Out ⊕ Str)):Prop:=PSs X st (tSL X.K B fl n l run E)
section
variable {E:XK}{n:Bool}{l:Nat}{st:Stmt}{rest body:List Stmt}{r r1 r2:Rho->Option (Out ⊕ Str)}{x:Str}
def aC1(hx:XLv X E)(h:HK X B fl n l rest r):sV X E B fl n l rest r:=fun pins s σ H D I q=>aUk (h pins s σ H D _ I q) (fun _ _ z=>z) fun v s' z=>hx pins v s' z
def aC0(h1:GSL X E B fl n l st r1)(h2:sV X E B fl n l rest r2):sV X E B fl n l (st::rest) (GX r1 r2):=by
 refine uM (eL h1 h2) ?_;rintro D σ H ⟨Exl,ρ,M,o,S,hr,e⟩;rw[35];refine⟨Exl,ρ,M,o1,S,h1,?_⟩
 match o1,hr with
 | .inl (.nx ρ'),hr=>exact fun σ' M' H' S'=>⟨Exl,ρ',M',o,S',hr,e⟩
 | .inl (.rt t),hr=>cases (aRv hr);exact e
 | .inl (.bk _),hr=>cases (aRv hr);exact e
 | .inl (.ct _),hr=>cases (aRv hr);exact e
 | .inr nm,hr=>cases (aRv hr);exact e
end
section
variable {P:Program}{w:World}{K:PySem.W.Frag}
def aBd{x qual:Str}{st:Stmt}{f:Addr}{fd:FuncData}{N ps:List Str}{k:Nat}{fl:List Nat}{n:Bool}{l:Nat}{FX:List T->Option (T ⊕ Str)}{run:Rho->Option (Out ⊕ Str)}(Fu:Fun K x qual st f fd)(S:FnScope N ps (defScope st))
  (hfl:fl.length=N.length) (hp:∀ i,i<ps.length->fl.getD i 1=1) (hlen:∀ ts t,FX ts=some t->ts.length=ps.length)
  (hb:∀ (cdv:Value) (A:Around) (outer:List Env) (s:Shared) (H:Hp) (E:XK),Room k (A.deeper (envOfC qual (defScope st) s.heap.objs.size f cdv)) ->
   sV (cQ (CX1 P w) P w K mg base N qual (defScope st) f cdv A outer s H E) E H fl n l (defBody st) run)
  (hrun:∀ ts t,FX ts=some t->∃ o,run (ts.map some++List.replicate (N.length-ps.length) none)=some o/\AA o t) (hl4:l≠4:=by decide):FnOk P w K mg base (CX1 P w) (k+1) f fd ps (spX K FX n l):=by
 have hN:ps.length<=N.length:=by have:=congrArg List.length S.pre;rw[List.length_take] at this;omega
 obtain⟨oc,od,kV,doc,pm,an,cdv,ct,osl,rfl,lk,hcd⟩:=Fu.ex;refine BA lk hcd S (fun vs H Q E h=>?_) fun A outer s H vs Q E hr h=>⟨_,hb cdv A outer s H E hr,aBf hN hfl hp hlen hrun h hl4⟩;obtain⟨ts,t,r,hf,_⟩:=h;rw[<- r.length];exact hlen ts t hf
end
structure PgTxt(K:PySem.W.Frag)(mg:Str->Option Value)(C:Addr):Prop where
 cl:Cls K C
 nN:fH K C "names"
 nT:fH K C "tables"
 nA:fH K C "asks"
 mgC:mg "Page" = some (.ref C)
def sn1:¬ (("names" : Str) = "tables"):=by decide +kernel
def sn2:¬ (("names" : Str) = "asks"):=by decide +kernel
def sn3:¬ (("tables" : Str) = "asks"):=by decide +kernel
def OV(n t a:V):(pgF n t a).lookup ("names" : Str)=some n:=by
 unfold pgF;rw[mW,aUd sn2,mW,aUd sn1,mW,aUc rfl]
def OX(n t a:V):(pgF n t a).lookup ("tables" : Str)=some t:=by
 unfold pgF;rw[mW,aUd sn3,mW,aUc rfl]
def OU(n t a:V):(pgF n t a).lookup ("asks" : Str)=some a:=by
 unfold pgF;rw[mW,aUc rfl]
def GC(C:Addr):Sp:=fun vs H Q _=>∃ (p dx:Addr) (n t a:V),vs=[.ref p,n,t,a]/\H p=some (.ins C dx [])/\Q .non (upd (upd (upd H p (.ins C dx (bR "names" n []))) p (.ins C dx (bR "tables" t (bR "names" n [])))) p (.ins C dx (pgF n t a)))
def aIp(n:V):(bR "names" n []).length<1000:=by show 1<1000;decide
def aIq(n t:V):(bR "tables" t (bR "names" n [])).length<1000:=by
 show (if ("names" : Str) = "tables" then [(("names" : Str),t)] else (("names" : Str),n)::bR "tables" t []).length<1000;rw[aUd sn1];show 2<1000
 decide
structure PgAt(K:PySem.W.Frag)(C:Addr)(B H:Hp)(p lt:Addr)(ws:List Str)(tabs:List T):Prop where
 ex:∃ dx ln la vs,H p=some (.ins C dx (pgF (.ref ln) (.ref lt) (.ref la)))/\H ln=some (.lst (ws.map V.str))/\H lt=some (.lst vs)/\H la=some (.lst [])/\RepL K H (fun b=>B b=none/\b≠lt) tabs vs/\B lt=none/\aL B H/\ln≠lt/\la≠lt/\vs.length<=1000/\B ln=none/\B la=none
def DQ{X:Cx}{st:List Stmt}:PSs X st (fun _ _ _=>False):=fun _ _ _ _ _ _ h=>h.elim
def PgAt.grow{K:PySem.W.Frag}{C:Addr}{B H H':Hp}{p lt:Addr}{ws:List Str}{tabs:List T}(h:PgAt K C B H p lt ws tabs)(s:aL H H'):PgAt K C B H' p lt ws tabs:=by
 obtain⟨dx,ln,la,vs,hp,hln,hlt,hla,rp,hBl,sB,n1,n2,hvl,fN,fA⟩:=h;exact⟨dx,ln,la,vs,s _ _ hp,s _ _ hln,s _ _ hlt,s _ _ hla,rp.grow s,hBl,sB.trans s,n1,n2,hvl,fN,fA⟩
def bgE(Fn:List T->Option T):Rho->Option T:=f1 (aG (aB (aA 0) aD) Fn) aP
def bg1:Rho->Option Out:=aZ 1 (f2 (aA 0) (fC (.str " ")) jE)
def bg2:Rho->Option Out:=kG 2 (f1 (AX (aA 1) (rA (fC (.int 1))) qZ qZ) fM)
def bg3:Rho->Option Out:=rIf (pOr (fB (f2 (f2 (aA 1) (fC (.int 0)) oIx) (fC (.str "hands")) oNe)) (pOr (fB (f2 (aG (aB (aA 2) aD) cN) (fC (.int 1)) oLt)) (fB (f2 (aG (aB (aA 2) aD) cN) (fC (.int 6)) oGt)))) (aS (fC .non)) bJ
def bg4(Fn:List T->Option T):Rho->Option Out:=rIf (pOr (fD (fT (aG (aB (cL (fFL (aA 2)) [none] bI (bgE Fn)) aD) gW))) (fB (f2 (aG (aB (aA 2) aD) qY) (aG (aB (aA 2) aD) cN) oLt))) (aS (fC .non)) bJ
def SI(K:PySem.W.Frag)(C:Addr)(Fn:List T->Option T):Sp:=fun vs H Q _=>∃ row ws wd,vs=[.str row]/\bg1 [some (.str row),none,none]=some (.nx [some (.str row),some (.lst wd),none])/\bg2 [some (.str row),some (.lst wd),none]=some (.nx [some (.str row),some (.lst wd),some (.lst (tW ws))]) /\
 bg3 [some (.str row),some (.lst wd),some (.lst (tW ws))]=some (.nx [some (.str row),some (.lst wd),some (.lst (tW ws))])/\bg4 Fn [some (.str row),some (.lst wd),some (.lst (tW ws))]=some (.nx [some (.str row),some (.lst wd),some (.lst (tW ws))]) /\
 ∀ p lt H',aL H H'->H p=none->H lt=none->PgAt K C H H' p lt ws []->Q (.ref p) H'
def PgAt.since{K:PySem.W.Frag}{C:Addr}{B B' H:Hp}{p lt:Addr}{ws:List Str}{tabs:List T}(h:PgAt K C B' H p lt ws tabs)(s:aL B B'):PgAt K C B H p lt ws tabs:=by
 obtain⟨dx,ln,la,vs,hp,hln,hlt,hla,rp,hBl,sB,n1,n2,hvl,fN,fA⟩:=h;exact⟨dx,ln,la,vs,hp,hln,hlt,hla,rp.weak fun b x=>⟨s.free x.1,x.2⟩,s.free hBl,s.trans sB,n1,n2,hvl,s.free fN,s.free fA⟩
noncomputable def kK(r:Str):Bool:=decide (r=("":Str))||Txt.startswith r (("#":Str))
def sH(Fn:List T->Option T)(row:Str)(ws:List Str):Prop:=∃ wd,bg1 [some (.str row),none,none]=some (.nx [some (.str row),some (.lst wd),none])/\bg2 [some (.str row),some (.lst wd),none]=some (.nx [some (.str row),some (.lst wd),some (.lst (tW ws))]) /\
 bg3 [some (.str row),some (.lst wd),some (.lst (tW ws))]=some (.nx [some (.str row),some (.lst wd),some (.lst (tW ws))])/\bg4 Fn [some (.str row),some (.lst wd),some (.lst (tW ws))]=some (.nx [some (.str row),some (.lst wd),some (.lst (tW ws))])
def vQ(K:PySem.W.Frag)(C:Addr)(B H:Hp)(l:Addr):Option (List Str × List T)->V->Prop
 | none,v=>v=.non
 | some (ws,tabs),v=>∃ p lt,v=.ref p/\PgAt K C B H p lt ws tabs/\l≠lt
def vQ.grow{K:PySem.W.Frag}{C:Addr}{B H H':Hp}{l:Addr}{st:Option (List Str × List T)}{v:V}(h:vQ K C B H l st v)(s:aL H H'):vQ K C B H' l st v:=by
 match st,h with
 | none,h=>exact h
 | some (ws,tabs),⟨p,lt,e,Pg,n⟩=>exact⟨p,lt,e,Pg.grow s,n⟩
def peF{X:Cx}{e:Expr}:PE X e (fun _ _ _=>False):=fun _ _ _ _ _ _ h=>h.elim
def aI0{X:Cx}{e:Expr}:PG X e (fun _ _ _ _=>False):=fun _ _ _ _ _ _ _ _ _ h=>h.elim
theorem SS:∀ {a b:List Str},tW a=tW b->a=b
 | [],[],_=>rfl
 | [],_::_,h=>by cases h
 | _::_,[],h=>by cases h
 | x::a,y::b,h=>by
  obtain⟨h1,h2⟩:=List.cons.inj (show T.str x::tW a=T.str y::tW b from h);cases h1;rw[SS h2]
def sH.det{Fn:List T->Option T}{row:Str}{a b:List Str}(h:sH Fn row a)(k:sH Fn row b):a=b:=by
 obtain⟨wd,e1,e2,_⟩:=h;obtain⟨wd',k1,k2,_⟩:=k;rw[e1] at k1;cases k1;rw[e2] at k2;have:=Out.nx.inj (aRv k2);simp only[List.cons.injEq,Option.some.injEq,T.lst.injEq,and_true,true_and] at this;exact SS this
section
variable {e:Expr}{l k:Nat}{x:Str}{Fm Fa Fn:List T->Option T}
noncomputable def kW(j:Nat):T->Option T
 | .pg ts=>ts[j]?
 | _=>none
@[simp] theorem aN9(j:Nat)(ts:List T):kW j (.pg ts)=ts[j]?:=rfl
end
section
variable {e:Expr}{f:Rho->Option T}{n:Bool}{l:Nat}{ta:TE}{g:Str}
def aHo(h1:PE X e ta)(hb:attributeBase e g X.env (eval e X.env)=eval e X.env):
  PE X (.Attribute e g pos) (fun σ H Q=>ta σ H fun y H1=>∃ p C dx fs z,y=.ref p/\Rd H1 p (.ins C dx fs)/\Cls X.K C/\fH X.K C g/\fs.lookup g=some z/\Q z H1):=by
 intro pins s σ H Q I q0
 apply IE hb
 refine thn (h1 pins s σ H _ I q0) ?_;rintro u s1 ⟨y,H1,J,ry,p,C,dx,fs,z,rfl,hp,cl,na,lk,q⟩;cases (show u=Value.ref p from ry);obtain⟨d,hz,ne,ob,mA,m,r,wi⟩:=hp.ok J.hok;obtain⟨u',hu,ru⟩:=mJ.some_of (v:=z) (o:=mA g) (by rw[<- lk];exact r g);exact LE J.kIn ⟨ob,m,ne⟩ (cl.get g) cl.hd na hu (ME ru) ⟨z,H1,J.tok _,ru,q⟩
noncomputable def AJ:Nat->Str
 | 0 => "names"
 | 1 => "tables"
 | _ => "asks"
def WK(j:Nat)(hj:j<3)(a b c:V):∃ z,(pgF a b c).lookup (AJ j)=some z/\[a,b,c][j]?=some z:=by
 match j,hj with
 | 0,_=>exact⟨a,OV a b c,rfl⟩
 | 1,_=>exact⟨b,OX a b c,rfl⟩
 | 2,_=>exact⟨c,OU a b c,rfl⟩
def WL{K:PySem.W.Frag}{C:Addr}(k:PgK K C)(j:Nat):fH K C (AJ j):=by
 match j with
 | 0=>exact k.nN
 | 1=>exact k.nT
 | _+2=>exact k.nA
def KR(j:Nat)(hg:g=AJ j)(hj:j<3)(he:GE X B fl e f n l)(hb:attributeBase e g X.env (eval e X.env)=eval e X.env:=by rfl):GE X B fl (.Attribute e g pos) (f1 f (kW j)) false l:=by
 subst hg;refine bC (aHo he hb) ?_;rw[0];rw[18];cases u<;>first | (cases hf;done) | skip
 rename_i ts;refine⟨Ex,ρ,M,_,S,hu,fun v H1 s1 r1=>?_⟩;obtain⟨p,C,dx,a,b,c,rfl,k,hp,rl⟩:=r1.rep S;obtain⟨z,h1,h2⟩:=WK j hj a b c;obtain⟨v',e',r'⟩:=rl.get (show ts[j]?=some t from hf);rw[h2] at e';cases e';refine⟨p,C,dx,_,z,rfl,hp,k.cl,WL k j,h1,q z H1 s1 ?_⟩;cases t<;>exact r'
end
section
variable {K:PySem.W.Frag}{H H':Hp}{Ex:List (T × V)}{σ:St}{ρ:Rho}{M:List Addr}
theorem Sl.change{i:Nat}{us us':List T}{a:Addr}{xs xs':List V}(S:Sl K B fl Ex σ ρ M H)(hi:ρ[i]?=some (some (.lst us)))(h0:fl.getD i 1=0)(hv:σ[i]?=some (some (.ref a)))(ha:H a=some (.lst xs))
  (sm:aL (eJ H a) H') (ha':H' a=some (.lst xs')) (hf:bK us'=true) (r:RepL K H' (fun _=>True) us' xs'):a∈M/\Sl K B fl Ex σ (ρ.set i (some (.lst us'))) M H':=by
 rw[36];obtain⟨v0,e1,sh,e5⟩:=hg i _ hi h0 rfl;obtain⟨ys,e2,e3,e4⟩:=e5 0 us ⟨rfl,rfl⟩;cases (show v0=.ref (g i 0) from sh);rw[hv] at e1;have ga:g i 0=a:=by
  have z:=aRv (aRv e1)
  injection z with z
  exact z.symm
 rw[ga] at e2 e4;refine⟨e4,?_⟩;have Ba:=(S.mB a e4).1;have go:∀ b o,b≠a->H b=some o->H' b=some o:=fun b o n e=>sm b o (by rw[dL n];exact e);have kt:∀ b (u:Fix),Rd H b u.1->Rd H' b u.1:=fun b u h=>dP (fun o e=>go b o (wC ha h) e) h;have kl:∀ (lv:Nat),1<=lv->∀ b o,Ad B H M lv b->H b=some o->H' b=some o:=fun lv hl b o h e=>go b o (fun z=>h.1 hl (by rw[z];exact e4)) e;have aw:∀ (lv:Nat),lv<=2->∀ b,Ad B H M lv b->H b≠none->Ad B H' M lv b:=fun lv hl b h _=>h.any hl;have ej:∀ {j:Nat} {t:T},(ρ.set i (some (.lst us')))[j]?=some (some t)->(j=i/\t=.lst us')\/(j≠i/\ρ[j]?=some (some t)):=fun {j t} e=>by
  rcases gJ e with ⟨z1,z2,_⟩ | ⟨hj,e⟩
  ·exact .inl ⟨z1,z2⟩
  ·exact .inr ⟨hj,e⟩
 refine⟨fun b o e=>go b o (fun z=>by rw[z,Ba] at e;cases e) (S.same b o e),fun j t e hj=>?_,⟨g,fun j t e hj hm=>?_,fun j k c d t u ws zs hjk e1 e2 fj fk h1 h2=>?_⟩,fun p hp=>?_,fun b hb=>?_,S.len⟩
 ·rcases ej e with ⟨rfl,rfl⟩ | ⟨n1,n2⟩
  ·rcases hj with hj | hj
   ·lia
   ·simp[im] at hj
  ·obtain⟨w,w1,w2⟩:=S.slot j t n2 hj
   refine⟨w,w1,?_⟩
   by_cases hf:1<=fl.getD j 1
   ·exact Rep.keep kt (kl _ (by lia)) (aw _ (Nat.min_le_right _ _)) t w2
   ·exact uO kt t (hj.resolve_left hf) w2
 ·rcases ej e with ⟨rfl,rfl⟩ | ⟨n1,n2⟩
  ·refine⟨.ref a,hv,(by rw[<- ga];rfl),fun c us2 hh=>?_⟩
   obtain⟨rfl,rfl⟩:=hh;refine⟨xs',?_,kH hf r,by rw[ga];exact e4⟩;rw[ga];exact ha'
  ·obtain⟨w,w1,w2,w3⟩:=hg j t n2 hj hm
   have gne:∀ c ws,dF t c ws->g j c≠a:=fun c ws h z=>ap j i c 0 t _ ws us (.inl n1) n2 hi hj h0 h ⟨rfl,rfl⟩ (z.trans ga.symm);refine⟨w,w1,w2.keep kt (fun _ c o hh e=>go _ _ (gne c _ hh) e),fun c ws hh=>?_⟩;obtain⟨zs,f1,f2,f3⟩:=w3 c ws hh;exact⟨zs,f1.keep fun o e=>go _ _ (gne c _ hh) e,RepL.keep kt (kl _ (tV fl)) (aw _ (nX fl)) ws f2,f3⟩
 ·rcases ej e1 with ⟨rfl,rfl⟩ | ⟨n1,n2⟩
  ·rcases ej e2 with ⟨rfl,rfl⟩ | ⟨m1,m2⟩
   ·exact ap k k c d (.lst us) (.lst us) us us hjk hi hi fj fk ⟨h1.1,rfl⟩ ⟨h2.1,rfl⟩
   ·exact ap j k c d (.lst us) u us zs hjk hi m2 fj fk ⟨h1.1,rfl⟩ h2
  ·rcases ej e2 with ⟨rfl,rfl⟩ | ⟨m1,m2⟩
   ·exact ap j k c d t (.lst us) ws us hjk n2 hi fj fk h1 ⟨h2.1,rfl⟩
   ·exact ap j k c d t u ws zs hjk n2 m2 fj fk h1 h2
 ·exact Rep.keep kt (kl 1 (by decide)) (aw 1 (by decide)) p.1 (S.ex p hp)
 ·obtain⟨b1,b2⟩:=S.mB b hb
  refine⟨b1,?_⟩
  by_cases z:b=a
  ·rw[z,ha'];simp
  ·cases e:H b with
   | none=>exact absurd e b2
   | some o=>rw[go b o z e];simp
end
def spW(p:Nat)(K:PySem.W.Frag)(FW:List T->Option ((T × List T) ⊕ Str)):Sp:=fun vs H Q E=>∃ ts o a xs us,ts.length=vs.length/\vs[p]?=some (.ref a)/\ts[p]?=some (.lst us)/\bK us=true/\H a=some (.lst xs)/\RepL K H (fun _=>True) us xs /\
 (∀ (j:Nat) (u:T) (v:V),j≠p->ts[j]?=some u->vs[j]?=some v->Rep K H (fun b=>b≠a) u v)/\FW ts=some o/\(match o with
  | .inl r=>∀ v H' xs',aL (eJ H a) H'->H' a=some (.lst xs')->bK r.2=true->RepL K H' (fun _=>True) r.2 xs'->Rep K H' (fun b=>H b=none) r.1 v->Q v H'
  | .inr nm=>∀ C H',nmC K nm C->aL (eJ H a) H'->E (.ref C) none H')
structure CalW(P:Program)(w:World)(K:PySem.W.Frag)(mg:Str->Option Value)(base:Heap)(x:Str)(k:Nat)(ps:List Str)(p:Nat)(FW:List T->Option ((T × List T) ⊕ Str)):Prop where
 ex:∃ f fd,FnOk P w K mg base (CX1 P w) k f fd ps (spW p K FW)/\mg x=some (.ref f)/\PySem.W.keepIn K (.ref f)=true/\dE K fd ps []
def TW(K:PySem.W.Frag)(B:Hp)(fl:List Nat)(Exl:List (T × V))(i:Nat)(M:List Addr)(H:Hp)(σ:St)(Q:VK)(E:XK):(T × Rho) ⊕ Str->Prop
 | .inl r=>∀ v H',Sl K B fl Exl σ r.2 M H'->Rep K H' (Ad B H' M 2) r.1 v->(∀ a,σ[i]?=some (some (.ref a))->aL (eJ H a) H')->Q v H'
 | .inr nm=>∀ C H',nmC K nm C->aL B H'->E (.ref C) none H'
def tEW(K:PySem.W.Frag)(B:Hp)(fl:List Nat)(i:Nat)(f:Rho->Option ((T × Rho) ⊕ Str))(E:XK):TE:=fun σ H Q=>∃ Exl ρ M o,Sl K B fl Exl σ ρ M H/\f ρ=some o/\TW K B fl Exl i M H σ Q E o
def GEW(X:Cx)(E:XK)(B:Hp)(fl:List Nat)(i:Nat)(e:Expr)(f:Rho->Option ((T × Rho) ⊕ Str)):Prop:=PE X e (tEW X.K B fl i f E)
def CI{H H':Hp}{a:Addr}(s:aL H H'):aL (eJ H a) H':=fun b o e=>s b o (by
 by_cases z:b=a
 ·rw[z,jC] at e;cases e
 ·rw[dL z] at e;exact e)
def NF{H H1 H':Hp}{a:Addr}(s:aL H H1)(t:aL (eJ H1 a) H'):aL (eJ H a) H':=fun b o e=>t b o (by
 by_cases z:b=a
 ·rw[z,jC] at e;cases e
 ·rw[dL z] at e ⊢;exact s b o e)
def dI(i:Nat)(fa:Rho->Option (List T))(FW:List T->Option ((T × List T) ⊕ Str)):Rho->Option ((T × Rho) ⊕ Str):=fun ρ=>(aA i ρ).bind fun t0=>match t0 with
 | .lst us=>if bK us then (fa ρ).bind fun ts=>(FW ts).bind fun o=>(match o with | .inl r=>if bK r.2 then some (.inl (r.1,ρ.set i (some (.lst r.2)))) else none | .inr nm=>some (.inr nm)) else none
 | _=>none
@[simp] theorem cK(i:Nat)(fa:Rho->Option (List T))(FW:List T->Option ((T × List T) ⊕ Str))(ρ:Rho):dI i fa FW ρ=(aA i ρ).bind fun t0=>match t0 with
 | .lst us=>if bK us then (fa ρ).bind fun ts=>(FW ts).bind fun o=>(match o with | .inl r=>if bK r.2 then some (.inl (r.1,ρ.set i (some (.lst r.2)))) else none | .inr nm=>some (.inr nm)) else none
 | _=>none:=id rfl
noncomputable def gE(f:Rho->Option T):Rho->Option ((T × Rho) ⊕ Str):=fun ρ=>(f ρ).map fun t=>.inl (t,ρ)
@[simp] theorem fJ(f:Rho->Option T)(ρ:Rho):gE f ρ=(f ρ).map fun t=>.inl (t,ρ):=id rfl
noncomputable def AS(f:Rho->Option ((T × Rho) ⊕ Str))(fa:Rho->Option (List T))(F:List T->Option T):Rho->Option ((T × Rho) ⊕ Str):=fun ρ=>(f ρ).bind fun o=>match o with
 | .inl r=>(fa r.2).bind fun ts=>(F (r.1::ts)).map fun u=>.inl (u,r.2)
 | .inr nm=>some (.inr nm)
@[simp] theorem JF(f:Rho->Option ((T × Rho) ⊕ Str))(fa:Rho->Option (List T))(F:List T->Option T)(ρ:Rho):AS f fa F ρ=(f ρ).bind fun o=>match o with
 | .inl r=>(fa r.2).bind fun ts=>(F (r.1::ts)).map fun u=>.inl (u,r.2)
 | .inr nm=>some (.inr nm):=id rfl
variable {pos' apos:Pos}
section
variable {E:XK}{e:Expr}{f:Rho->Option T}{g:Rho->Option ((T × Rho) ⊕ Str)}{n:Bool}{l k i p:Nat}{x y:Str}{F:List T->Option T}{FW:List T->Option ((T × List T) ⊕ Str)}
def aJn{K:PySem.W.Frag}{H H':Hp}{t:T}{v:V}(h:aO K H H [] H' n 3 t v):Rep K H' (fun b=>H b=none) t v:=by
 have w:∀ b,Ad H H [] 3 b->H b=none:=fun b z=>z.2.2 (by decide);cases n with
 | false=>cases t<;>exact Rep.weak w h
 | true=>
  cases t with
  | lst ts=>
   obtain⟨a,xs,e,h1,h2,r⟩:=h;exact⟨a,xs,e,.inl ⟨h1,.inl h2⟩,r.weak fun b z=>w b z.1⟩
  | _=>exact Rep.weak w h
def gZ(hx:XLv X E):eR (CX1 X.prog X.w) X E:=fun pins σ H s v s' I hq=>by
 obtain⟨a,cls,H',rfl,os,bare,un,hok,air,q⟩:=hq;exact hx pins _ s' ⟨false,a,cls,σ,H,H',s,rfl,I,os,bare,un,hok,air,q⟩
def aBb(he:GE X B fl e f n l)(hl:decide (2<=l)=true):GEW X E B fl i e (gE f):=by
 refine bC he ?_;rintro σ H Q ⟨Exl,ρ,M,o,S,hf,q⟩;cases e1:f ρ with
 | none=>rw[fJ,e1] at hf;cases hf
 | some t=>
  rw[fJ,e1] at hf;rw[4];exact⟨Exl,ρ,M,t,S,e1,fun v H1 s1 r1=>q v H1 (S.grow s1) ((r1.rep S).weak fun b z=>(z.le (aUe hl)).any (by decide)) fun _ _=>CI s1⟩
theorem aBa(i:Nat)(C:CalW X.prog X.w X.K X.mg X.base x k ps p FW)(hx:eR (CX1 X.prog X.w) X E)(hr:Room k X.A)(hg:Gl X x)(ha:GAM X B fl i p (e::es) fa)(hfl:decide (fl.getD i 1=0)=true)
  (hdb:aVi x:=by decide) (he:aVc X e es:=by rfl) (hpl:aVe X pos es:=by rfl):
  GEW X E B fl i (.Call (.Name x p') (e::es) [] pos) (dI i fa FW):=by
 obtain⟨f,fd,FO,hm,hk,hb⟩:=C.ex;have hfl:=aUe hfl;refine bC (pI FO hr hg hm hk hb .nil hx ha hdb he hpl) ?_;rintro σ H Q ⟨Exl,ρ,M,o,S,hrr,q⟩;obtain⟨t0,h0,hrr⟩:=bind_some hrr;cases t0<;>first | (cases hrr;done) | skip
 rename_i us;dsimp only at hrr;split at hrr
 rotate_left
 ·cases hrr
 rename_i hflat;obtain⟨ts,hts,hrr⟩:=bind_some hrr;obtain⟨u,hF,hrr⟩:=bind_some hrr;have hρ:ρ[i]?=some (some (.lst us)):=mP h0;obtain⟨a,us0,xs,e1,e2,e3,e4,e5⟩:=S.muL i _ hρ hfl;cases e1;refine⟨Exl,ρ,M,ts,us,a,xs,S,hρ,e2,e3,hts,fun vs H1 s1 hl2 ev et rj=>?_⟩;show spW p X.K FW (vs++[]) H1 _ _;rw[aSp];refine⟨ts,u,a,xs,us,hl2,ev,et,hflat,s1 _ _ e3,(e4.grow s1).weak fun _ _=>trivial,fun j u v hj a1 a2=>(rj j u v hj a1 a2).weak fun b z w=>z.1 (by decide) (by rw[w];exact e5),hF,?_⟩;have S1:=S.grow s1;cases u with
 | inr nm=>
  cases (aRv hrr);exact fun C H2 hC sm=>q C H2 hC fun b o eb=>sm b o (by
   rw[dL (fun z=>by rw[z,(S.mB a e5).1] at eb;cases eb)];exact S1.same b o eb)
 | inl r=>
  dsimp only at hrr;split at hrr
  rotate_left
  ·cases hrr
  rename_i hfr;cases (aRv hrr);intro v H2 xs' sm ha' hf2 r2 rv;refine q v H2 (S1.change hρ hfl e2 (s1 _ _ e3) sm ha' hf2 r2).2 (rv.weak fun b z=>⟨fun _ hM=>(S1.mB b hM).2 z,fun _=>S1.same.free z,fun w=>by lia⟩) fun a' ea=>?_;have z:=aRv (aRv (e2.symm.trans ea))
  injection z with z
  subst z;exact NF s1 sm
theorem aB9(C:Cal X.prog X.w X.K X.mg X.base x k ps F n l)(hr:Room k X.A)(hg:Gl X x)(h1:GEW X E B fl i e g)(h2:GA X B fl es fa l')(hl:decide (l=3)=true)
  (hdb:aVi x:=by decide) (he:aVc X e es:=by rfl) (hpl:aVe X pos es:=by rfl):
  GEW X E B fl i (.Call (.Name x p') (e::es) [] pos) (AS g fa F):=by
 obtain⟨f,fd,FO,hm,hk,hb⟩:=C.ex;cases (aUe hl);refine bC (pI FO hr hg hm hk hb .nil rG (cD h1 h2 he) hdb he hpl) ?_;rintro σ H Q ⟨Exl,ρ,M,o,S,hrr,q⟩;obtain⟨o1,h0,hrr⟩:=bind_some hrr;refine⟨Exl,ρ,M,o1,S,h0,?_⟩;cases o1 with
 | inr nm=>
  cases (aRv hrr);exact q
 | inl r=>
  dsimp only at hrr;obtain⟨ts,hts,hrr⟩:=bind_some hrr;cases hF:F (r.1::ts) with
  | none=>rw[hF] at hrr;cases hrr
  | some u=>
   rw[hF] at hrr;cases (aRv hrr);intro v H1 S1 r1 fm;refine⟨Exl,r.2,M,ts,S1,hts,fun vs H2 s2 r2=>?_⟩;show spT X.K F n 3 ((v::vs)++[]) H2 _ _;rw[aSp];refine⟨r.1::ts,u,⟨v,vs,rfl,(r1.grow s2).weak fun _ _=>trivial,r2.weak fun _ _=>trivial⟩,hF,fun v3 H3 s3 r3=>q v3 H3 (S1.grow (s2.trans s3)) ((aJn r3).weak fun b z=>?_) fun a ea=>(fm a ea).trans (s2.trans s3)⟩;have zb:=s2.free z;exact⟨fun _ hM=>(S1.mB b hM).2 zb,fun _=>S1.same.free zb,fun w=>by lia⟩
end
inductive OW where
 | nx (ρ:Rho)
 | rt (t:T) (us:List T)
 | ex (nm:Str)
def TX(K:PySem.W.Frag)(B:Hp)(fl:List Nat)(Exl:List (T × V))(i:Nat)(a:Addr)(D:Ends)(E:XK):OW->Prop
 | .nx ρ=>∀ σ' M' H',Sl K B fl Exl σ' ρ M' H'->σ'[i]?=some (some (.ref a))->D.nx σ' H'
 | .rt t us=>∀ v H' xs,aL B H'->H' a=some (.lst xs)->bK us=true->RepL K H' (fun _=>True) us xs->Rep K H' (fun b=>B b=none/\b≠a) t v->D.rt v H'
 | .ex nm=>∀ C H',nmC K nm C->aL B H'->E (.ref C) none H'
def tSW(K:PySem.W.Frag)(B:Hp)(fl:List Nat)(i:Nat)(a:Addr)(run:Rho->Option OW)(E:XK):TS:=fun D σ H=>∃ Exl ρ M o,Sl K B fl Exl σ ρ M H/\σ[i]?=some (some (.ref a))/\run ρ=some o/\TX K B fl Exl i a D E o
def GSW(X:Cx)(E:XK)(B:Hp)(fl:List Nat)(i:Nat)(a:Addr)(st:Stmt)(run:Rho->Option OW):Prop:=PS X st (tSW X.K B fl i a run E)
def jA(X:Cx)(E:XK)(B:Hp)(fl:List Nat)(i:Nat)(a:Addr)(st:List Stmt)(run:Rho->Option OW):Prop:=PSs X st (tSW X.K B fl i a run E)
noncomputable def cA(r1 r2:Rho->Option OW):Rho->Option OW:=fun ρ=>(r1 ρ).bind fun o=>match o with | .nx ρ'=>r2 ρ' | o=>some o
noncomputable def eD:Rho->Option OW:=fun ρ=>some (.nx ρ)
noncomputable def wIf(p:Rho->Option Bool)(r1 r2:Rho->Option OW):Rho->Option OW:=fun ρ=>(p ρ).bind fun b=>if b then r1 ρ else r2 ρ
def hU(nm:Str)(fa:Rho->Option (List T)):Rho->Option OW:=fun ρ=>(fa ρ).bind fun ts=>if ts.length<=cap then some (.ex nm) else none
noncomputable def fW(j:Nat)(g:Rho->Option ((T × Rho) ⊕ Str)):Rho->Option OW:=fun ρ=>(g ρ).bind fun o=>match o with | .inl r=>some (.nx (r.2.set j (some r.1))) | .inr nm=>some (.ex nm)
def eX(i:Nat)(ρ:Rho):Option (List T):=(aA i ρ).bind fun t=>match t with | .lst us=>if bK us then some us else none | _=>none
def fE(i:Nat)(g:Rho->Option ((T × Rho) ⊕ Str)):Rho->Option OW:=fun ρ=>(g ρ).bind fun o=>match o with | .inl r=>(eX i r.2).map fun us=>.rt r.1 us | .inr nm=>some (.ex nm)
noncomputable def hV(p:Rho->Option Bool)(r:Rho->Option OW):Nat->Rho->Option OW
 | 0,_=>none
 | k+1,ρ=>(p ρ).bind fun b=>if b then (r ρ).bind fun o=>match o with | .nx ρ'=>hV p r k ρ' | .rt t us=>some (.rt t us) | .ex nm=>some (.ex nm) else some (.nx ρ)
def zM(p:Rho->Option Bool)(r:Rho->Option OW):Rho->Option OW:=hV p r 100000
def GL(j:Nat)(g:Rho->Option ((T × Rho) ⊕ Str)):Rho->Option OW:=fun ρ=>(aA j ρ).bind fun t0=>match t0 with
 | .lst _=>(g ρ).bind fun o=>(match o with
  | .inl r=>(aA j r.2).bind fun t=>(match t with | .lst ts=>if ts.length<cap then some (.nx (r.2.set j (some (.lst (ts++[r.1]))))) else none | _=>none)
  | .inr nm=>some (.ex nm))
 | _=>none
def GP(i:Nat):Rho->Option OW:=fun ρ=>(eX i ρ).bind fun us=>match us with | .str w::r=>some (.rt (.str w) r) | _=>none
@[simp] theorem cE(r1 r2:Rho->Option OW)(ρ:Rho):cA r1 r2 ρ=(r1 ρ).bind fun o=>match o with | .nx ρ'=>r2 ρ' | o=>some o:=id rfl
@[simp] theorem eE(ρ:Rho):eD ρ=some (.nx ρ):=id rfl
@[simp] theorem dQ(p:Rho->Option Bool)(r1 r2:Rho->Option OW)(ρ:Rho):wIf p r1 r2 ρ=(p ρ).bind fun b=>if b then r1 ρ else r2 ρ:=id rfl
@[simp] theorem sG(nm:Str)(fa:Rho->Option (List T))(ρ:Rho):hU nm fa ρ=(fa ρ).bind fun ts=>if ts.length<=cap then some (.ex nm) else none:=id rfl
@[simp] theorem dD(j:Nat)(g:Rho->Option ((T × Rho) ⊕ Str))(ρ:Rho):fW j g ρ=(g ρ).bind fun o=>match o with | .inl r=>some (.nx (r.2.set j (some r.1))) | .inr nm=>some (.ex nm):=id rfl
@[simp] theorem cU(i:Nat)(ρ:Rho):eX i ρ=(aA i ρ).bind fun t=>match t with | .lst us=>if bK us then some us else none | _=>none:=id rfl
@[simp] theorem fF(i:Nat)(g:Rho->Option ((T × Rho) ⊕ Str))(ρ:Rho):fE i g ρ=(g ρ).bind fun o=>match o with | .inl r=>(eX i r.2).map fun us=>.rt r.1 us | .inr nm=>some (.ex nm):=id rfl
@[simp] theorem TU(p:Rho->Option Bool)(r:Rho->Option OW)(ρ:Rho):zM p r ρ=hV p r 100000 ρ:=id rfl
@[simp] theorem GM(j:Nat)(g:Rho->Option ((T × Rho) ⊕ Str))(ρ:Rho):GL j g ρ=(aA j ρ).bind fun t0=>match t0 with
 | .lst _=>(g ρ).bind fun o=>(match o with
  | .inl r=>(aA j r.2).bind fun t=>(match t with | .lst ts=>if ts.length<cap then some (.nx (r.2.set j (some (.lst (ts++[r.1]))))) else none | _=>none)
  | .inr nm=>some (.ex nm))
 | _=>none:=id rfl
@[simp] theorem aMh(i:Nat)(ρ:Rho):GP i ρ=(eX i ρ).bind fun us=>match us with | .str w::r=>some (.rt (.str w) r) | _=>none:=id rfl
def NC{i:Nat}{ρ:Rho}{us:List T}(h:eX i ρ=some us):ρ[i]?=some (some (.lst us))/\bK us=true:=by
 obtain⟨t,h0,h⟩:=bind_some h;cases t<;>first | (cases h;done) | skip
 dsimp only at h;split at h
 ·rename_i hf
  cases (aRv h);exact⟨mP h0,hf⟩
 ·cases h
def map_some{α β:Type}{f:α->β}{o:Option α}{b:β}(h:o.map f=some b):∃ a,o=some a/\f a=b:=by
 cases o with
 | none=>cases h
 | some a=>exact⟨a,rfl,aRv h⟩
section
variable {E:XK}{i j:Nat}{a:Addr}{st:Stmt}{rest sa sb:List Stmt}{e c:Expr}{f:Rho->Option T}{g:Rho->Option ((T × Rho) ⊕ Str)}{p:Rho->Option Bool}{r r1 r2:Rho->Option OW}{n:Bool}{l k:Nat}{x:Str}
def LS:jA X E B fl i a [] eD:=by
 refine uM (fun pins s σ H D I q=>aV1 ⟨σ,H,I,q⟩:PSs X [] (fun D σ H=>D.nx σ H)) ?_;rw[20];rw[27];exact q σ M H S hv
def LT(h:GSW X E B fl i a st r):jA X E B fl i a [st] r:=nF h
def qP(h1:GSW X E B fl i a st r1)(h2:jA X E B fl i a rest r2):jA X E B fl i a (st::rest) (cA r1 r2):=by
 refine uM (eL h1 h2) ?_;rw[20];rw[35];refine⟨Exl,ρ,M,o1,S,hv,h1,?_⟩;cases o1 with
 | nx ρ'=>exact fun σ' M' H' S' hv'=>⟨Exl,ρ',M',o,S',hv',hr,q⟩
 | rt t us=>cases (aRv hr);exact q
 | ex nm=>cases (aRv hr);exact q
def aC4(hc:GT X B fl c p)(ha:jA X E B fl i a sa r1)(hb:jA X E B fl i a sb r2):GSW X E B fl i a (.If c sa sb pos) (wIf p r1 r2):=by
 refine cV (pJ hc ha hb) ?_;rw[20];obtain⟨d,hd,hr⟩:=bind_some hr;refine⟨Exl,ρ,M,d,S,hd,fun H1 s1=>?_⟩;cases d with
 | true=>exact fQ ⟨Exl,ρ,M,o,S.grow s1,hv,hr,q⟩
 | false=>exact eW ⟨Exl,ρ,M,o,S.grow s1,hv,hr,q⟩
def aC7{e₀:Expr}{np cpos:Pos}{l':Nat}(hx:XLv X E)(R:RaiseK X.K X.mg X.base x)(hc:X.calm=true)(hex:X.ex=[])(hg:Gl X x)
  (ha:GA X.nox B fl (e₀::es) fa l') (hdb:aVi x:=by decide) (he:starEach (e₀::es) X.env=(false,eval e₀ X.env)::starEach es X.env:=by rfl) (hpl:(backTo cpos (starEach es X.env)).any (·.1)=false:=by rfl):
  GSW X E B fl i a (.Raise (some (.Call (.Name x np) (e₀::es) [] cpos)) none pos) (hU x fa):=by
 obtain⟨C,O,hn⟩:=R.ex;have h:=aIn (pos:=pos) (np:=np) hc hex hg O F.excBase_ValueError ha hdb he hpl;refine cV (t:=fun D σ H=>SQ C (tGA X.nox.K B fl fa l') D (fun _ c _ H'=>E c none H') σ H) (fun pins s σ H D I q=>aUk (h pins s σ H D _ I q) (fun _ _ z=>z) fun v s' z=>hx pins v s' z) ?_;rw[20];obtain⟨ts,hts,hr⟩:=bind_some hr;split at hr
 ·rename_i hl
  rw[27];exact⟨Exl,ρ,M,ts,S,hts,fun vs H1 s1 r1=>⟨by rw[<- r1.length];exact aTr (fI hl),q C H1 hn (S.same.trans s1)⟩⟩
 ·cases hr
theorem aC9(j:Nat)(he:GEW X E B fl i e g)(hN:X.N.Nodup)(hi:X.N[j]?=some x)(hx:Loc X.env.scope x)(hfl:(decide (j<fl.length)&&decide (1<=fl.getD j 1)&&decide (fl.getD j 1<=2)&&decide (i≠j))=true)
  (hs:swapsWith e (some (.Name x pos')) pos.line X.env=pure false:=by rfl) (hf:aVh X x:=by trivial):
  GSW X E B fl i a (.Assign [.Name x pos'] e pos) (fW j g):=by
 rw[30];refine cV (mE hN hi hx he hs hf) ?_;rw[20];rw[35];refine⟨Exl,ρ,M,o1,S,h1,?_⟩;cases o1 with
 | inr nm=>cases (aRv hr);exact q
 | inl u=>
  rw[76]
def CD{Exl:List (T × V)}{σ:St}{ρ:Rho}{M:List Addr}{H:Hp}{us:List T}(S:Sl X.K B fl Exl σ ρ M H)(h0:fl.getD i 1=0)(hv:σ[i]?=some (some (.ref a)))(hl:eX i ρ=some us):∃ xs,H a=some (.lst xs)/\bK us=true/\RepL X.K H (fun _=>True) us xs/\a∈M:=by
 obtain⟨h1,h2⟩:=NC hl;obtain⟨b,ts,xs,e1,e2,e3,e4,e5⟩:=S.muL i _ h1 h0;cases e1;rw[hv] at e2;have:b=a:=by
  have z:=aRv (aRv e2)
  injection z with z
  exact z.symm
 subst this;exact⟨xs,e3,h2,e4.weak fun _ _=>trivial,e5⟩
def aC8(he:GEW X E B fl i e g)(hfl:decide (fl.getD i 1=0)=true):GSW X E B fl i a (.Return (some e) pos) (fE i g):=by
 have hfl:=aUe hfl;refine cV (uL he) ?_;rw[20];rw[35];refine⟨Exl,ρ,M,o1,S,h1,?_⟩;cases o1 with
 | inr nm=>cases (aRv hr);exact q
 | inl u=>
  obtain⟨us,hu,rfl⟩:=map_some hr;intro v H' S' rv _;obtain⟨xs,e1,e2,e3,e4⟩:=CD S' hfl hv hu;exact q v H' xs S'.same e1 e2 e3 (rv.weak fun b z=>⟨z.2.1 (by decide),fun w=>z.1 (by decide) (by rw[w];exact e4)⟩)
def aCc{body:List Stmt}(hp:aVg X)(hc:GT X B fl c p)(hb:jA X E B fl i a body r):GSW X E B fl i a (.While c body [] pos) (zM p r):=by
 refine cV (PD hp hc hb) ?_;rw[20];refine⟨fun m σ1 H1=>∃ ρ1 M1,Sl X.K B fl Exl σ1 ρ1 M1 H1/\σ1[i]?=some (some (.ref a))/\hV p r m ρ1=some o,⟨_,ρ,M,S,hv,hr⟩,?_⟩;rintro m σ1 H1 ⟨ρ1,M1,S1,hv1,e1⟩;cases m with
 | zero=>cases e1
 | succ m=>
  unfold hV at e1;obtain⟨b,hb,e1⟩:=bind_some e1;refine⟨Exl,ρ1,M1,b,S1,hb,fun H2 s2=>?_⟩;cases b with
  | false=>
   cases (aRv (show some (OW.nx ρ1)=some o from e1));exact eW (q σ1 M1 H2 (S1.grow s2) hv1)
  | true=>
   rw[aUc rfl] at e1;obtain⟨o1,h1,e1⟩:=bind_some e1;refine fQ ⟨fun σ' H'=>∃ ρ1 M1,Sl X.K B fl Exl σ' ρ1 M1 H'/\σ'[i]?=some (some (.ref a))/\hV p r m ρ1=some o,fun σ' H' h=>⟨m,aTw m,h⟩,Exl,ρ1,M1,o1,S1.grow s2,hv1,h1,?_⟩;cases o1 with
   | nx ρ'=>exact fun σ' M' H' S' hv'=>⟨ρ',M',S',hv',e1⟩
   | rt t us=>cases (aRv e1);exact q
   | ex nm=>cases (aRv e1);exact q
end
def zL(j:Nat)(f:Rho->Option T):Rho->Option OW:=fun ρ=>(f ρ).bind fun t=>if okM t then some (.nx (ρ.set j (some t))) else none
@[simp] theorem GQ(j:Nat)(f:Rho->Option T)(ρ:Rho):zL j f ρ=(f ρ).bind fun t=>if okM t then some (.nx (ρ.set j (some t))) else none:=id rfl
section
variable {E:XK}{i j:Nat}{a:Addr}{e:Expr}{f:Rho->Option T}{g:Rho->Option ((T × Rho) ⊕ Str)}{n:Bool}{l k:Nat}{x:Str}
def aCb(j:Nat)(he:GE X B fl e f true l')(hN:X.N.Nodup)(hi:X.N[j]?=some x)(hx:Loc X.env.scope x)(hfl:(decide (j<fl.length)&&decide (fl.getD j 1=0)&&decide (lc fl<=l')&&decide (i≠j))=true)
  (hs:swapsWith e (some (.Name x pos')) pos.line X.env=pure false:=by rfl) (hf:aVh X x:=by trivial):
  GSW X E B fl i a (.Assign [.Name x pos'] e pos) (zL j f):=by
 rw[30];refine cV (mE hN hi hx he hs hf) ?_;rw[20];obtain⟨t,h1,hr⟩:=bind_some hr;refine⟨Exl,ρ,M,t,S,h1,fun v H1 s1 rx=>?_⟩;split at hr
 rotate_left
 ·cases hr
 rename_i hok;rw[27];obtain⟨M',S'⟩:=SG (X:=X) (n:=true) (l:=0) (D:={ nx:=fun σ' H'=>∃ M',Sl X.K B fl Exl σ' (ρ.set j (some t)) M' H',rt:=fun _ _=>False }) S ⟨hfl.1,hfl.2.1,hfl.2.2.1⟩ (aUc hok) (fun σ' M' H' S'=>⟨M',S'⟩) s1 rx;exact q _ M' H1 S' (by rw[aS5 (Ne.symm hfl.2.2.2)];exact hv)
def aC3(j:Nat){apos p2:Pos}(he:GEW X E B fl i e g)(h1:(decide (fl.getD j 1=0)&&decide (lc fl<=2))=true)(hN:X.N[j]?=some x:=by rfl)(hv:Vis X.env.scope x:=by trivial)
  (hd:aVi x:=by decide) (hcd:(x == ("__classdict__" : Str))=false:=by decide)
  (hbase:attributeBase (.Name x p2) "append" X.env (eval (.Name x p2) X.env)=eval (.Name x p2) X.env:=by rfl)
  (hfew:((backTo pos' (starEach [e] X.env)).all (fun x=>!x.1)&&(backToKw pos' (keywordEach [] X.env)).all (fun x=>x.1.isSome)
   && decide (([e]:List Expr).length+([]:List Keyword).length+(if ([]:List Keyword).isEmpty then 0 else 1)<30))=true:=by rfl)
  (hline:(apos.endLine == pos'.line)=true:=by rfl) (hs:aVd X e:=by rfl) (hsw:swapsWith (.Call (.Attribute (.Name x p2) "append" apos) [e] [] pos') none pos.line X.env=pure false:=by rfl):
  GSW X E B fl i a (.Expr (.Call (.Attribute (.Name x p2) "append" apos) [e] [] pos') pos) (GL j g):=by
 simp only[aSb,aUh] at h1;refine cV (DN (nC PySem.F.plainAttrs_list PySem.F.slot_list_append PySem.F.type_list_append wQ (pv (X:=X) j hN hv hd hcd) (cD he cZ hs) hbase hfew hline hs rfl) hsw) ?_;rintro D σ H ⟨Exl,ρ,M,o,S,hva,hr,q⟩;obtain⟨t0,e0,hr⟩:=bind_some hr;cases t0<;>first | (cases hr;done) | skip
 obtain⟨o1,e1,hr⟩:=bind_some hr;obtain⟨b,_,xs0,e3,e4,e5,e6,e7⟩:=S.muL j _ (mP e0) h1.1;refine⟨_,e4,.inl ⟨rfl,xs0,SqL.of e5⟩,?_⟩;refine⟨Exl,ρ,M,o1,S,e1,?_⟩;cases o1 with
 | inr nm=>cases (aRv hr);exact q
 | inl r=>
  intro v H' S' rv _;dsimp only at hr;obtain⟨t,f0,hr⟩:=bind_some hr;cases t<;>first | (cases hr;done) | skip
  rename_i ts;dsimp only at hr;split at hr
  rotate_left
  ·cases hr
  rename_i hl;rw[27];have f0':=mP f0;obtain⟨b',ts',xs,f3,f4,f5,f6,f7⟩:=S'.muL j _ f0' h1.1;cases f3;have z:=aRv (aRv (e4.symm.trans f4))
  injection z with z
  subst z;refine⟨b,xs,v,rfl,rfl,f5,by rw[<- f6.length];exact fI (aTr hl),?_⟩;exact q σ M _ (S'.write h1.1 f0' f4 f7 f5 (RepL.app f6 (RepL.one (rv.weak fun b x=>x.le h1.2)))) hva
def aC6{p2 apos:Pos}{k:Expr}{nk:Bool}{lk:Nat}(hk:GE X B fl k (fC (.int 0)) nk lk)(h1:decide (fl.getD i 1=0)=true)(hN:X.N[i]?=some x:=by rfl)(hv:Vis X.env.scope x:=by trivial)
  (hd:aVi x:=by decide) (hcd:(x == ("__classdict__" : Str))=false:=by decide)
  (hbase:attributeBase (.Name x p2) "pop" X.env (eval (.Name x p2) X.env)=eval (.Name x p2) X.env:=by rfl)
  (hfew:((backTo pos' (starEach [k] X.env)).all (fun x=>!x.1)&&(backToKw pos' (keywordEach [] X.env)).all (fun x=>x.1.isSome)
   && decide (([k]:List Expr).length+([]:List Keyword).length+(if ([]:List Keyword).isEmpty then 0 else 1)<30))=true:=by rfl)
  (hline:(apos.endLine == pos'.line)=true:=by rfl) (hs:starEach [k] X.env=[(false,eval k X.env)]:=by rfl):
  GSW X E B fl i a (.Return (some (.Call (.Attribute (.Name x p2) "pop" apos) [k] [] pos')) pos) (GP i):=by
 have h1:=aUe h1;refine cV (uL (nC PySem.F.plainAttrs_list PySem.F.slot_list_pop PySem.F.type_list_pop aEg (pv (X:=X) i hN hv hd hcd) (cD hk cZ hs) hbase hfew hline hs rfl)) ?_;rintro D σ H ⟨Exl,ρ,M,o,S,hva,hr,q⟩;obtain⟨us,hu,hr⟩:=bind_some hr;obtain⟨xs,e1,e2,e3,e4⟩:=CD S h1 hva hu
 match us,hr with
 | .str w::r,hr=>
  rw[27];obtain⟨y,ys,rfl,hy,hys⟩:=e3;cases (show y=.str w from hy);refine⟨_,hva,.inl ⟨rfl,_,SqL.of e1⟩,?_⟩;refine⟨Exl,ρ,M,_,S,rfl,fun v0 H0 s0 r0=>?_⟩;cases (aO.scal rfl).mp r0;refine⟨a,V.str w::ys,0,0,V.str w,rfl,rfl,s0 _ _ e1,(by decide),(by decide),(by
   unfold seqIndex?;simp),rfl,?_⟩
  have f2:bK r=true:=by
   simp[bK] at e2 ⊢;exact e2.2
  have Ba:=(S.mB a e4).1;exact q _ _ ys (fun b o eb=>by rw[aW (fun z=>by rw[z,Ba] at eb;cases eb)];exact s0 _ _ (S.same b o eb)) bY f2 (kH f2 (RepL.keep (A:=fun _=>False) (A':=fun _=>False) (fun b u h=>jI (s0 _ _ e1) (dP (fun o q=>s0 _ _ q) h)) (fun _ _ z _=>z.elim) (fun _ z _=>z) r (kH (A':=fun _=>False) f2 hys))) rfl
end
section
variable {P:Program}{w:World}{K:PySem.W.Frag}
noncomputable def gI:OW->Option ((T × List T) ⊕ Str)
 | .rt t us=>some (.inl (t,us))
 | .ex nm=>some (.inr nm)
 | .nx _=>none
@[simp] theorem kB(t:T)(us:List T):gI (.rt t us)=some (.inl (t,us)):=rfl
@[simp] theorem gY(nm:Str):gI (.ex nm)=some (.inr nm):=rfl
@[simp] theorem aNr(ρ:Rho):gI (.nx ρ)=none:=rfl
def gA(np k:Nat)(run:Rho->Option OW)(ts:List T):Option ((T × List T) ⊕ Str):=if ts.length=np then (run (ts.map some++List.replicate k none)).bind gI else none
theorem aBe{x qual:Str}{st:Stmt}{f:Addr}{fd:FuncData}{N ps:List Str}{k:Nat}{fl:List Nat}{run:Rho->Option OW}(p:Nat)(Fu:Fun K x qual st f fd)(S:FnScope N ps (defScope st))
  (hfl:fl.length=N.length) (hp:∀ i,i<ps.length->i≠p->fl.getD i 1=1) (h0:fl.getD p 1=0) (hpl:p<ps.length)
  (hb:∀ (B:Hp) (a:Addr) (cdv:Value) (A:Around) (outer:List Env) (s:Shared) (H:Hp) (E:XK),Room k (A.deeper (envOfC qual (defScope st) s.heap.objs.size f cdv)) ->
   jA (cQ (CX1 P w) P w K mg base N qual (defScope st) f cdv A outer s H E) E B fl p a (defBody st) run):FnOk P w K mg base (CX1 P w) (k+1) f fd ps (spW p K (gA ps.length (N.length-ps.length) run)):=by
 have hN:ps.length<=N.length:=by have:=congrArg List.length S.pre;rw[List.length_take] at this;lia
 have hlen:∀ ts o,gA ps.length (N.length-ps.length) run ts=some o->ts.length=ps.length:=fun ts o h=>by
  unfold gA at h;split at h
  ·assumption
  ·cases h
 obtain⟨oc,od,kV,doc,pm,an,cdv,ct,osl,rfl,lk,hcd⟩:=Fu.ex;refine BA lk hcd S (fun vs H Q E h=>?_) fun A outer s H vs Q E hr h=>?_
 ·obtain⟨ts,o,_,_,_,hl,_,_,_,_,_,_,hf,_⟩:=h
  rw[<- hl];exact hlen ts o hf
 ·obtain⟨ts,o,a,xs,us,hl,h1,h2,h3,h4,h5,h6,hf,q⟩:=h
  refine⟨_,hb (eJ H a) a cdv A outer s H E hr,?_⟩;have hl2:=hlen ts o hf;unfold gA at hf;rw[aUc hl2] at hf;rw[18];have S0:=aKi (K:=K) hfl hp hl2 hl hN h0 h1 h2 h3 h4 h5 h6;refine⟨[],_,[a],u,S0,?_,hu,?_⟩
  ·unfold L2.start
   have:p<vs.length:=by lia
   rw[aSy (by rw[aT5];exact this),aT0,h1]
   rfl
  ·cases u with
   | nx ρ'=>cases hf
   | rt t us'=>
    rw[4];intro v H' xs' s' ha' hf' r' rv;refine q v H' xs' s' ha' hf' r' (rv.weak fun b z=>?_);rw[dL z.2] at z;exact z.1
   | ex nm=>
    rw[4];exact fun C H' hC s'=>q C H' hC s'
end
end G
namespace L2
open PySem PySem.Spec PyProof.Rows
def aEz{e:Value}{env env':Env}(h:env.frame=env'.frame):noteFrame e env=noteFrame e env':=by
 unfold noteFrame PySem.frameOf;rw[h]
section
variable {M:Model}{A:Around}{E:Value->Shared->Prop}{s:Shared}
def aDu{base:Heap}{env:Env}{outer:List Env}{L a:Addr}{cls a0 fl:Value}{Q:Unit->Shared->Prop}
  (hfr:A.frames=some (env::outer)) (hff:s.heap.FunFrames base (env::outer)) (hf:env.frame=some L) (tr:s.heap.TracedAtW base a cls a0 fl) (st:base.StaysIn s.heap) (nw:base.get? a=none)
  (q:∀ h',Heap.LeftW base (env::outer) a cls a0 s.heap h'->Q () { s with heap:=h' }):wpAny M A (leaving env (.ref a)) Q E s:=by
 obtain⟨oe,vs,T,oT,ts,t1,⟨t2,t3⟩,t4,t5,t6,t7,t8,t9,t10⟩:=id tr;subst t2
 by_cases hL:fl=rawInt L
 ·subst hL
  unfold leaving;refine aU9 (wpAny_noteFrame_againW hf tr ?_);exact wpAny_setFlight_noneW st hff tr fun h' k1 k2 k3 k4=>q h' ⟨k1,k2,k3,fun b o e n=>⟨o.slots,k4 b o e n⟩⟩
 ·unfold leaving noteFrame
  simp only[hf];refine aU9 (aU9 (aUl t1 t4 t5 ?_));rw[aUc (by simp)];refine aU9 (aUl t8 t9 t10 ?_);rw[aUd (by simpa using hL)];refine aU9 (wpAny_setField t8 t9 (Array.getElem?_eq_some_iff.mp t10).1 ?_);generalize hh:s.heap.update T (Obj.mapFields (·.setIfInBounds 3 Value.none))=h1;have oth:∀ b,b≠T->h1.get? b=s.heap.get? b:=fun b z=>by rw[<- hh];exact Heap.get?_update_other _ _ (Ne.symm z)
  have nrec:∀ b o,s.heap.get? b=some o->(∀ vs,o.data≠.fields vs)->h1.get? b=some o:=fun b o e n=>by
   rw[oth b fun z=>?_]
   ·exact e
   ·rw[z,t8] at e
    cases e;exact n ts t9
  refine wpAny_newEntryW (s:={ s with heap:=h1 }) hfr (hff.of_keeps fun b o e n=>⟨o,nrec b o e n,rfl⟩) hf ((oth a (Ne.symm t7)).trans t1) (fun b o e=>?_) nw t4 (Array.getElem?_eq_some_iff.mp t5).1 t3 ?_
  ·rw[oth b fun z=>by rw[z,t6] at e;cases e]
   exact st b o e
  ·rintro h' ⟨y1,y2,y3,y4⟩
   exact q h' ⟨y1,y2,y3,fun b o e n=>y4 b o (nrec b o e n) n⟩
end
def SF{P:Program}{w:World}{l:List Env}{H H':Hp}{h₀ h h':Heap}(un:Un (frs l) [] H H' h₀ h)(hok:HOk P w H' h)(hfree:∀ b∈frs l,H' b=none)(S:List Addr)
  (hS:∀ b∈S,b∈frs l\/(h₀.get? b=none/\H' b=none)) (st:∀ b o,b ∉ S->h.get? b=some o->h'.get? b=some o) (sl:∀ b o,b∈frs l->h.get? b=some o->∃ z,h'.get? b=some { o with slots:=z }):Un (frs l) [] H H' h₀ h'/\HOk P w H' h':=by
 have noS:∀ b o,h₀.get? b=some o->b ∉ frs l->b ∉ S:=fun b o e hb hbS=>by
  rcases hS b hbS with z | ⟨z,_⟩
  ·exact hb z
  ·rw[e] at z;cases z
 have trk:∀ b o,H' b=some o->b ∉ S:=fun b o e hbS=>by
  rcases hS b hbS with z | ⟨_,z⟩
  ·rw[hfree b z] at e;cases e
  ·rw[z] at e;cases e
 refine⟨⟨fun b o e n hb hx=>st b o (noS b o e hb) (un.keep b o e n hb hx),fun b o e n hb hx=>?_,un.free,fun b o e hx=>?_,un.tups,un.frzs,un.tbls⟩,fun b o e=>?_⟩
 ·obtain⟨z,e1⟩:=un.slot b o e n hb hx
  obtain⟨z',e2⟩:=sl b _ hb e1;exact⟨z',e2⟩
 ·obtain⟨o',e1⟩:=un.there b o e hx
  by_cases hb:b∈frs l
  ·obtain⟨z,e2⟩:=sl b o' hb e1
   exact⟨_,e2⟩
  ·exact⟨o',st b o' (noS b o e hb) e1⟩
 ·refine (hok b o e).stay (fun b' u hb' g'=>?_) (fun _ z=>z) fun _ _ z=>z
  rcases hb' with rfl | hb'
  ·exact st _ u (trk _ _ e) g'
  ·exact st b' u (trk _ _ hb') g'
theorem KJ{P:Program}{w:World}{l:List Env}{H H':Hp}{h₀ h h' B0:Heap}{T:Addr}{oT:Obj}{ts:Array Value}(un:Un (frs l) [] H H' h₀ h)(hok:HOk P w H' h)(S:List Addr)(hS:∀ b∈S,b∈frs l\/(h₀.get? b=none/\H' b=none))
  (n:(rem S h).get? T=none) (ff:h'.FunFrames B0 l) (e:h'.get? T=some oT) (d:oT.data=.fields ts):h₀.get? T=none/\H' T=none:=by
 by_cases hT:T∈S
 ·rcases hS T hT with z | z
  ·obtain⟨_,o2,e2,nd⟩:=ff.mem z
   rw[e] at e2;cases aRv e2;exact absurd d (nd _)
  ·exact z
 ·rw[fU hT] at n
  constructor
  ·cases e0:h₀.get? T with
   | none=>rfl
   | some o=>
    obtain⟨o',e1⟩:=un.there T o e0 (by simp);rw[n] at e1;cases e1
  ·cases e0:H' T with
   | none=>rfl
   | some o=>
    obtain⟨u,e1⟩:=(hok T o e0).there;rw[n] at e1;cases e1
theorem KK{h h' B:Heap}:∀ {l:List Env},h.FunFrames B l->(∀ b o,b∈frs l->h.get? b=some o->(∀ vs,o.data≠.fields vs)->h'.get? b=some o)->h'.FunFrames B l
 | [],_,_=>by unfold Heap.FunFrames;trivial
 | env::l,hf,k=>by
  unfold Heap.FunFrames at hf ⊢;obtain⟨k0,⟨L,o,f,n,g,d⟩,r⟩:=hf;have hL:L∈frs (env::l):=by
   unfold frs;exact aTi.mpr ⟨env,aRz,f⟩
  refine⟨k0,⟨L,o,f,n,k L o hL g d,d⟩,KK r fun b o hb e nd=>k b o ?_ e nd⟩;unfold frs at hb ⊢;rw[64]
structure OwnC(X:Cx)(E:XK):Prop where
 st:X.stack=X.env::X.outer
 fr:X.env.frame=some X.env.locals
 ex:X.ex=[]
 xe:∀ a s',(∀ E',wpAny (model X.prog X.w) X.A (leaving X.env (.ref a)) (fun _ s''=>CX1 X.prog X.w X.outer X.H₀ X.s₀ E (.ref a) s'') E' s')->X.xe (.ref a) s'
def DC{P:Program}{w:World}{K:PySem.W.Frag}{mg:Str->Option Value}{base:Heap}{N:List Str}{qual:Str}{scope:Scope}{f:Addr}{cd:Value}{A:Around}{outer:List Env}{s:Shared}{H:Hp}{E:XK}:
  OwnC (cQ (CX1 P w) P w K mg base N qual scope f cd A outer s H E) E:=⟨rfl,rfl,rfl,fun a s' h=>h _⟩
theorem YA{X:Cx}{E:XK}{pins:List (Addr × Obj)}{σ:St}{H:Hp}{s:Shared}{a C:Addr}{cls:Value}{cenv:Env}{m:Str->Option Value}{acc:Value}{Q:Value->Shared->Prop}{use:Option (Value->Sem Unit)}(W:OwnC X E)(I:Inv X pins σ H s)(x:Air false X.s₀.heap H a cls s.heap)(q:E cls none H)
  (hC:s.heap.Ns C m) (hCf:H C=none) (hCn:X.s₀.heap.get? C=none) (hCs:C ∉ frs (X.env::X.outer)) (hcf:cenv.frame=X.env.frame):
  notedBy (model X.prog X.w) X.A cenv (fun v s'=>compPost (model X.prog X.w) X.A X.xe use Q acc C (.error v) s') (.ref a) s:=by
 have hfr:X.A.frames=some (X.env::X.outer):=by rw[<- W.st];exact I.ok.frames
 have hff:s.heap.FunFrames X.base (X.env::X.outer):=by rw[<- W.st];exact I.stack
 have hfree:∀ b∈frs (X.env::X.outer),H b=none:=by rw[<- W.st];exact I.stkFree
 have hbase:=I.base;rw[W.ex] at hbase;have inO:∀ b,b∈frs X.outer->b∈frs (X.env::X.outer):=fun b hb=>by
  unfold frs at hb ⊢;rw[64]
 have offO:∀ b o,X.s₀.heap.get? b=some o->b∈frs (X.env::X.outer)->b∈frs X.outer:=fun b o e hb=>by
  unfold frs at hb ⊢;obtain⟨env,he,hx⟩:=aTi.mp hb;rcases aS7.mp he with rfl | he
  ·rw[W.fr] at hx
   have h1:=aRv hx;have h2:=aSi e;exact absurd h2 (by rw[<- h1];exact aU1.mpr I.ok.above)
  ·exact aTi.mpr ⟨env,he,hx⟩
 have un0:Un (frs (X.env::X.outer)) [] X.H₀ H X.s₀.heap s.heap:=⟨fun b o e n hb hx=>hbase.keep b o e n (fun z=>hb (inO b z)) hx,fun b o e n hb hx=>hbase.slot b o e n (offO b o e hb) hx,hbase.free,hbase.there,hbase.tups,hbase.frzs,hbase.tbls⟩;obtain⟨oe,vs,a0,g,c,d,v0,tr⟩:=x.obj;rcases tr with ⟨z,_⟩ | ⟨T,oT,ts,_,t1,t2,t3,t4,t5,t6,t7⟩
 ·cases z
 subst c;unfold notedBy;rw[aEz hcf];refine wpAny_noteFrame_onW (base:=rem (frs (X.env::X.outer)++[a,T]) s.heap) (cls:=oe.cls) (a0:=a0) hfr (nP (fun b hb=>aTg _ hb) hff) W.fr ⟨oe,vs,T,oT,ts,g,⟨rfl,v0⟩,d,t1,hG (by simp),t4,t5,t6,t7⟩ (rM _ _) (hG (by simp)) fun h1 hN=>?_;obtain⟨n1,n2,⟨oe1,vs1,T1,oT1,ts1,r1,⟨r2,r2'⟩,r3,r4,r5,r6,r7,r8,r9⟩,n4⟩:=hN;have hC1:h1.Ns C m:=Heap.UpToSlots.ns n4 hC;have hS1:∀ b∈frs (X.env::X.outer)++[a,T],b∈frs (X.env::X.outer)\/(X.s₀.heap.get? b=none/\H b=none):=fun b hb=>by
  rcases aTf.mp hb with z | z
  ·exact .inl z
  ·rcases aS7.mp z with rfl | z
   ·exact .inr ⟨x.new,x.free⟩
   ·rw[aTl] at z;subst z;exact .inr ⟨t2,t3⟩
 have fT1:=KJ un0 I.hok _ hS1 r5 n2 r7 r8
 suffices hz:∃ m,h1.Ns C m/\∀ h',Heap.SameBut C h1 h'->∀ cenv:Env,cenv.locals=C->wpAny (model X.prog X.w) X.A (PySem.passOn "comprehension.variables-let-go" (.ref a) cenv:Sem Value) (fun _ _=>False) X.xe { s with heap:=h' } by
  cases use<;>exact hz
 refine⟨m,hC1,fun h2 hsb cenv' hc'=>?_⟩;obtain⟨oC,esC,epC,c1,c2,_⟩:=hC1;have naC:a≠C:=fun z=>by rw[z,c1] at r1;cases r1;rw[c2] at r3;cases r3
 have nTC:T1≠C:=fun z=>by rw[z,c1] at r7;cases r7;rw[c2] at r8;cases r8
 have e2a:h2.get? a=some oe1:=(hsb.2 a naC).trans r1;have e2T:h2.get? T1=some oT1:=(hsb.2 T1 nTC).trans r7;unfold PySem.passOn;refine aU9 (aUl e2a r3 r4 ?_);rw[aUd (by simp)];have sz:3<ts1.size:=(Array.getElem?_eq_some_iff.mp r9).1;have fin:wpAny (model X.prog X.w) X.A (setFlight (.ref a) cenv'.frame) (fun _ s3=>X.xe (.ref a) s3) X.xe { s with heap:=h2 }:=by
  unfold setFlight;refine aU9 (aUl e2a r3 r4 ?_);rw[aUc (by simp)];refine wpAny_setField e2T r8 sz ?_;generalize (cenv'.frame.elim Value.none fun f=>rawInt f)=fl;have self:(h2.update T1 (Obj.mapFields (·.setIfInBounds 3 fl))).get? T1=some (Obj.mapFields (·.setIfInBounds 3 fl) oT1):=Heap.get?_update_self _ e2T (Obj.isFreed_of_fields (Obj.data_mapFields r8 _));have oth:∀ b,b≠T1->(h2.update T1 (Obj.mapFields (·.setIfInBounds 3 fl))).get? b=h2.get? b:=fun b z=>Heap.get?_update_other _ _ (Ne.symm z);generalize h2.update T1 (Obj.mapFields (·.setIfInBounds 3 fl))=h3 at self oth;have up:∀ b o,b ∉ frs (X.env::X.outer)++[a,T,T1,C]->s.heap.get? b=some o->h3.get? b=some o:=fun b o hb e=>by
   have k1:b ∉ frs (X.env::X.outer)++[a,T]:=fun z=>hb (by
    rcases aTf.mp z with z | z
    ·exact aTg _ z
    ·refine aTh _ ?_
     simp at z ⊢;rcases z with z | z<;>simp[z])
   have k2:b≠T1:=fun z=>hb (by simp[z]);have k3:b≠C:=fun z=>hb (by simp[z]);rw[oth b k2,hsb.2 b k3];exact n1 b o (by rw[fU k1];exact e)
  have frU:∀ b o,b∈frs (X.env::X.outer)->s.heap.get? b=some o->∃ z,h3.get? b=some { o with slots:=z }:=fun b o hb e=>by
   obtain⟨_,o1,e1,nd⟩:=hff.mem hb;rw[e] at e1;cases e1;obtain⟨z,e2⟩:=n4 b o e nd;have k2:b≠T1:=fun z'=>by
    rw[z',r7] at e2;cases e2;exact nd _ r8
   have k3:b≠C:=fun z'=>hCs (z' ▸ hb);exact⟨z,by rw[oth b k2,hsb.2 b k3];exact e2⟩
  obtain⟨un3,hok3⟩:=SF un0 I.hok hfree (frs (X.env::X.outer)++[a,T,T1,C]) (fun b hb=>by
   rcases aTf.mp hb with z | z
   ·exact .inl z
   ·simp only[aS7,aTn,aUp] at z
    rcases z with rfl | rfl | rfl | rfl
    ·exact .inr ⟨x.new,x.free⟩
    ·exact .inr ⟨t2,t3⟩
    ·exact .inr fT1
    ·exact .inr ⟨hCn,hCf⟩) up frU
  have hff3:h3.FunFrames (rem (frs (X.env::X.outer)++[a,T1]) h3) (X.env::X.outer):=by
   have k:h3.FunFrames (rem (frs (X.env::X.outer)++[a,T]) s.heap) (X.env::X.outer):=KK n2 fun b o hb e nd=>by
    have k2:b≠T1:=fun z'=>by rw[z',r7] at e;cases e;exact nd _ r8
    have k3:b≠C:=fun z'=>hCs (z' ▸ hb);rw[oth b k2,hsb.2 b k3];exact e
   exact nP (fun b hb=>aTg _ hb) k
  refine W.xe a _ fun E'=>?_;refine aDu (s:={ s with heap:=h3 }) (base:=rem (frs (X.env::X.outer)++[a,T1]) h3) (fl:=fl) (cls:=oe.cls) (a0:=a0) hfr hff3 W.fr ⟨oe1,vs1,T1,_,_,(oth a (Ne.symm r6)).trans e2a,⟨r2,r2'⟩,r3,r4,hG (by simp),r6,self,Obj.data_mapFields r8 _,by simp[sz]⟩ (rM _ _) (hG (by simp)) fun h4 hl=>?_;obtain⟨l1,l2,⟨oe4,vs4,T4,oT4,ts4,y1,⟨y2,y2'⟩,y3,y4,y5,y6,y7,y8,y9⟩,l4⟩:=hl;have hS3:∀ b∈frs (X.env::X.outer)++[a,T1],b∈frs (X.env::X.outer)\/(X.s₀.heap.get? b=none/\H b=none):=fun b hb=>by
   rcases aTf.mp hb with z | z
   ·exact .inl z
   ·simp only[aS7,aTn,aUp] at z
    rcases z with rfl | rfl
    ·exact .inr ⟨x.new,x.free⟩
    ·exact .inr fT1
  obtain⟨un4,hok4⟩:=SF (h':=h4) un3 hok3 hfree _ hS3 (fun b o hb e=>l1 b o (by rw[fU hb];exact e)) fun b o hb e=>by
   obtain⟨_,o1,e1,nd⟩:=hff3.mem hb;rw[e] at e1;cases e1;exact l4 b o e nd
  have fT4:=KJ un3 hok3 _ hS3 y5 l2 y7 y8;refine⟨a,oe.cls,H,rfl,I.os,I.bare,⟨fun b o e n hb hx=>un4.keep b o e n (fun z=>hb (offO b o e z)) hx,fun b o e n hb hx=>un4.slot b o e n (inO b hb) hx,un4.free,un4.there,un4.tups,un4.frzs,un4.tbls⟩,hok4,⟨x.new,x.free,oe4,vs4,a0,y1,y2,y3,y2',.inr ⟨T4,oT4,ts4,rfl,y4,fT4.1,fT4.2,y6,y7,y8,y9⟩⟩,q⟩
 first
  | exact aU9 (aUa (aU9 (aUk fin (fun _ s3 z=>wpAny_throw z) fun _ _ z=>z)))
  | exact aU9 (aUk fin (fun _ s3 z=>wpAny_throw z) fun _ _ z=>z)
section
variable {prog:Program}{w:World}{A:Around}{E:Value->Shared->Prop}{R:Result->Shared->Prop}{s:Shared}
theorem XW {elt target iter : Expr} {ifs : List Expr} {scope : Scope} {pos : Pos} {it acc : Value} {env : Env} (I : Nat -> Shared -> Prop)
  (turn : ∀ n s, I n s -> wpAny (model prog w) A (pyNext it) (fun r s₁ => match r with
   | none => R (.ok .next) s₁
   | some v => wpAny (model prog w) A (letOwnedTupleGo target it v) (fun _ s₁' => wpAny (model prog w) A (assign target env v) (fun _ s₂ =>
     wpAny (model prog w) A (forIn ifs true fun c r => if r = true then do let ok <- isTrue c env (eval c env); pure (ForInStep.yield ok) else pure (ForInStep.yield r)) (fun ok s₃ =>
      if ok = true then wpAny (model prog w) A (eval elt env) (fun x s₄ =>
       wpAny (model prog w) A (call (.builtin "list.append") [acc, x]) (fun _ s₅ => ∃ m, m < n /\ I m s₅) (fun _ _ => False) s₄) (notedBy (model prog w) A env fun x s' => R (.error x) s') s₃
      else ∃ m, m < n /\ I m s₃) (fun _ _ => False) s₂) (fun _ _ => False) s₁') (fun _ _ => False) s₁) (fun _ _ => False) s)
  (n : Nat) (h : I n s) :
  codeAny (model prog w) A (.compLoop (.ListComp elt [⟨target, iter, ifs, 0⟩] scope pos) 0 it acc env) R s := by
 rw[53];refine wpAny_noted ?_;rw [compTurn_list];refine aU9 (aV9 (aU9 (aUk (turn n s hI) (fun r s₁ h₁ => ?_) fun _ _ h' => h'.elim)));cases r with
 | none => exact aUa h₁
 | some v =>
  rw[57];cases ok with
  | false => exact aUa ⟨rfl, h₃⟩
  | true =>
   exact aU9 (aU9 (aUk h₃ (fun x s₄ h₄ => aU9 (aUk h₄ (fun _ s₅ h₅ => aUa (aUa ⟨rfl, h₅⟩)) fun _ _ h' => h'.elim)) fun _ _ h' => h'))
end
section
variable {X:Cx}{elt tg iter:Expr}{ifs:List Expr}{scope:Scope}{pos:Pos}{N':List Str}{src:List (Option Nat)}{wi:TI}{g:TG}{tc:TT}{te:TE}
theorem IL{EX:XK}{use:Option (Value->Sem Unit)}{Qc:Value->Shared->Prop}{pins:List (Addr × Obj)}{σ:St}{H2:Hp}{s2:Shared}{E:Value->Shared->Prop}{cl:List (Str × Addr)}{it:Addr}{fp:List Addr}{tn:Nat->Heap->Prop}{J:It}{Q:VK}
  (W0:OwnC X EX) (S:BlkOk X scope N' src) (hc:X.calm=true) (hcl:dH X.env.cells scope.names []=some cl)
  (hb:∀ cl C s H ex,PG (cxB X scope N' cl C s H ex) tg g/\PIf (cxB X scope N' cl C s H ex) ifs tc/\∀ XE,eR (CX1 X.prog X.w) ((cxB X scope N' cl C s H ex).wish XE) EX->PE ((cxB X scope N' cl C s H ex).wish XE) elt te)
  (I2:Inv X pins σ H2 s2) (Tn:Turn X.prog X.w X.K tg J fp it tn) (st2:tn 0 s2.heap) (f2:∀ b∈fp,cX X pins H2 b)
  (hw:∀ D,H2 D=none->∃ W:Nat->Nat->St->Hp->Prop,(∃ m,W 0 m (cJ src σ) (upd H2 D (.lst []))) /\
   ∀ i m σ1 H2,W i m σ1 H2->(J.stop i H2/\Q (.ref D) H2)\/(J.go i H2/\∀ x H3,J.yld i H2 x H3->g x σ1 H3 fun σ2 H4=>tc σ2 H4 fun b H5=>
    if b=true then te σ2 H5 fun v H6=>∃ xs,H6 D=some (.lst xs)/\xs.length<sizeLine/\∃ m',m'<m/\W (i+1) m' σ2 (upd H6 D (.lst (xs++[v]))) else ∃ m',m'<m/\W (i+1) m' σ2 H5))
  (hR:∀ D C H' s' m,s2.heap.objs.size<=D->s2.heap.objs.size<=C->s'.heap.Ns C m->H' C=none->Inv X pins σ H' s'->Q (.ref D) H'->compPost (model X.prog X.w) X.A X.xe use Qc (.ref D) C (.ok .next) s'):
  wpAny (model X.prog X.w) X.A (newList []) (fun acc s₃=>wpAny (model X.prog X.w) X.A (newFunctionEnv scope X.env.globals cl [] X.env.qual none .none (some X.env)) (fun cenv s₄=>
   codeAny (model X.prog X.w) X.A (.compStart (.ListComp elt [⟨tg,iter,ifs,0⟩] scope pos) 0 (.ref it) acc { cenv with scope:=relabel scope X.env }) (compPost (model X.prog X.w) X.A X.xe use Qc acc cenv.locals) s₄) E s₃) E s2:=by
 refine wpAny_newObj_type (NK ?_);dsimp only;generalize hH2:s2.heap.push { cls:=.type "list",dict:=none,data:=.seq ([]:List Value).toArray }=Hq;have hC:Hq.objs.size=s2.heap.objs.size+1:=by rw[<- hH2,aSj]
 have hCl:s2.heap.objs.size<Hq.objs.size:=by rw[hC];exact aTw _
 rw[66];have hown:∀ x c,(cellsFrom (Hq.objs.size+1) scope.names cl).lookup x=some c->cl.lookup x=some c\/(Hq.objs.size<c/\(pushCells (Hq.push { cls:=.type "dict",data:=.dict #[] }) scope.names).IsCell c none):=fun x c e=>by
  have e':(cellsFrom (Hq.push { cls:=.type "dict",data:=.dict #[] }).objs.size scope.names cl).lookup x=some c:=by rw[aSj];exact e
  rcases xI e' with q | ⟨q1,q2⟩
  ·exact .inl q
  ·rw[aSj] at q1
   exact .inr ⟨q1,q2⟩
 generalize pushCells (Hq.push { cls:=.type "dict",data:=.dict #[] }) scope.names=h₁ at hns₁ old hacc hown ⊢;have ho:∀ b∈fp,∃ o,s2.heap.get? b=some o:=fun b hb=>let ⟨o,e,_⟩:=Tn.obj 0 _ st2 b hb;⟨o,e⟩;rw[69];have hch:∀ b∈fp,(b∈X.ex\/X.s₀.heap.objs.size<=b)/\b≠X.env.locals/\(∀ x c,X.env.cells.lookup x=some c->c≠b)/\∀ p∈X.pn++pins,p.1≠b:=fun b hb=>⟨(f2 b hb).2.2.2.1,(f2 b hb).2.1,(f2 b hb).2.2.2.2.1,(f2 b hb).2.2.2.2.2⟩;have pas:eR (CX1 X.prog X.w) ((cxB X scope N' (cellsFrom (Hq.objs.size+1) scope.names cl) Hq.objs.size s2 H2 fp).wish (notedBy (model X.prog X.w) X.A (compEnvC scope (cellsFrom (Hq.objs.size+1) scope.names cl) Hq.objs.size X.env) fun x s'=>compPost (model X.prog X.w) X.A X.xe use Qc (.ref s2.heap.objs.size) Hq.objs.size (.error x) s')) EX:=by
  rintro pins' σ0 H0 s0 v s' I0' ⟨a,cls,H',rfl,os,bare,un,hok,air,qE⟩;have I0:=I0'.unwish;have J0:Inv X pins σ H0 s0:=I2.call' (ch:=fp) I0.os I0.base I0.hok I0.bare hch;have J1:Inv (cxB X scope N' (cellsFrom (Hq.objs.size+1) scope.names cl) Hq.objs.size s2 H2 fp) pins' σ0 H' s':=I0.call' (ch:=[]) os un hok bare fun b z=>absurd z (by simp);have J:Inv X pins σ H' s':=I2.call' (ch:=fp) J1.os J1.base J1.hok J1.bare hch;obtain⟨m,hm,_⟩:=J1.loc;have air':Air false X.s₀.heap H' a cls s'.heap:=by
   obtain⟨oe,vs,a0,g1,c1,d1,v0,tr⟩:=air.obj;exact⟨(J0.oldNone W0.ex air.new).1,air.free,oe,vs,a0,g1,c1,d1,v0,tr.imp id fun ⟨T,oT,ts,z0,z1,z2,z3,z4⟩=>⟨T,oT,ts,z0,z1,(J0.oldNone W0.ex z2).1,z3,z4⟩⟩
  refine YA W0 J air' qE hm J1.free ?_ ?_ rfl
  ·cases e0:X.s₀.heap.get? Hq.objs.size with
   | none=>rfl
   | some o=>exact absurd (aSi e0) (aU1.mpr (aTt I2.sz (aTr hCl)))
  ·intro z
   have ff:s2.heap.FunFrames X.base (X.env::X.outer):=by rw[<- W0.st];exact I2.stack
   obtain⟨_,o,e0,_⟩:=ff.mem z;exact absurd (aSi e0) (aU1.mpr (aTr hCl))
 have loop:∀ s₃:Shared,s₃={ s2 with heap:=h₁ } ->
   codeAny (model X.prog X.w) X.A (.compLoop (.ListComp elt [⟨tg,iter,ifs,0⟩] scope pos) 0 (.ref it) (.ref s2.heap.objs.size) (compEnvC scope (cellsFrom (Hq.objs.size+1) scope.names cl) Hq.objs.size X.env)) (compPost (model X.prog X.w) X.A X.xe use Qc (.ref s2.heap.objs.size) Hq.objs.size) s₃:=by
  rw[48];have fpOk:∀ {H':Hp},(∀ b∈fp,H' b=none)->∀ b∈fp,cX (cxB X scope N' (cellsFrom (Hq.objs.size+1) scope.names cl) Hq.objs.size s2 H2 fp) [] H' b:=fun hn b hb=>
   ⟨hn b hb,(I0.ok.exf b hb).1,I0.ok.exfs b hb,.inl hb,(I0.ok.exf b hb).2,fun p hp=>absurd (show p∈([]:List (Addr × Obj)) from hp) (by simp)⟩
  have fpOkP:∀ {H':Hp} ,(∀ b∈fp,H' b=none)->∀ b∈fp,cX (cxB X scope N' (cellsFrom (Hq.objs.size+1) scope.names cl) Hq.objs.size s2 H2 fp) [] H' b:=fun hn=>fpOk hn;refine XW (fun n s'=>∃ i σ' H',Inv (cxB X scope N' (cellsFrom (Hq.objs.size+1) scope.names cl) Hq.objs.size s2 H2 fp) [] σ' H' s'/\tn i s'.heap/\(∀ b∈fp,H' b=none)/\W i n σ' H') ?_ m0
   ⟨0,cJ src σ,_,I0,Tn.keep _ _ _ st2 (fun b _ o e=>old b o e),fun b hb=>?_,w0⟩
  rotate_left
  ·obtain⟨o,e⟩:=ho b hb
   rw[aW (aU0 (aSi e))];exact (f2 b hb).1
  rintro n s3 ⟨i,σ3,H3,I3,st3,fr3,w3⟩;rcases turn i n σ3 H3 w3 with ⟨stop,qn⟩ | ⟨go,step⟩
  ·refine thn (Tn.done (cxB X scope N' (cellsFrom (Hq.objs.size+1) scope.names cl) Hq.objs.size s2 H2 fp) rfl rfl rfl hc i [] s3 σ3 H3 _ I3 (fpOk fr3) st3 stop) fun r s4 ⟨hr,I4⟩=>?_
   subst hr;obtain⟨m,hm,_⟩:=I4.loc;rw[58]
  ·refine thn (Tn.item (cxB X scope N' (cellsFrom (Hq.objs.size+1) scope.names cl) Hq.objs.size s2 H2 fp) rfl rfl rfl hc i [] s3 σ3 H3 _ I3 (fpOk fr3) st3 go) fun r s4 ⟨u,hr,h4⟩=>?_
   subst hr;refine thn h4 fun _ s5 ⟨x,H5,I5,r5,y5,st5,fr5⟩=>?_;have I5':=I5.pinned (fpOk fr5) (Tn.obj _ _ st5);rw[71];have again:∀ {σ8:St} {H8:Hp} {s8:Shared} {m':Nat},Inv (cxB X scope N' (cellsFrom (Hq.objs.size+1) scope.names cl) Hq.objs.size s2 H2 fp) ([]++rJ fp s5.heap) σ8 H8 s8->m'<n->W (i+1) m' σ8 H8 ->
     ∃ m,m<n/\∃ i σ' H',Inv (cxB X scope N' (cellsFrom (Hq.objs.size+1) scope.names cl) Hq.objs.size s2 H2 fp) [] σ' H' s8/\tn i s8.heap/\(∀ b∈fp,H' b=none)/\W i m σ' H':=fun {σ8 H8 s8 m'} I8 hm w8=>by
    rw[65];exact (I8.pin (b,o) (aTh _ (aTh _ (qX hb e)))).2.1
   cases ok with
   | false=>
    rw[aUd aSf] at q7;rw[aUd aSf];obtain⟨m',hm,w8⟩:=q7;exact again I7 hm w8
   | true=>
    rw[aUc rfl] at q7;rw[aUc rfl];refine aUk (be _ pas _ s7 σ6 H7 _ (I7.wish _) q7) (fun xv s8 ⟨v,H8,I8',r8,q8⟩=>?_) fun _ _ z=>z;have I8:=I8'.unwish;rw[45];subst e9;exact again I9 hm w9
 rw[70]
def aHu{EX:XK}(W0:OwnC X EX)(S:BlkOk X scope N' src)(hc:X.calm=true)(hi:PI X tg iter wi)
  (hb:∀ cl C s H ex,PG (cxB X scope N' cl C s H ex) tg g/\PIf (cxB X scope N' cl C s H ex) ifs tc/\∀ XE,eR (CX1 X.prog X.w) ((cxB X scope N' cl C s H ex).wish XE) EX->PE ((cxB X scope N' cl C s H ex).wish XE) elt te)
  (hs:aVf X iter:=by intro _;rfl):PE X (.ListComp elt [⟨tg,iter,ifs,0⟩] scope pos) (pQ wi (cJ src) g tc te):=by
 rw[2];rw[10];rw[eval_ListComp];rw[68];subst e;refine IL (use:=none) (Qc:=EP X pins σ Q) W0 S hc hcl hb I2 Tn st2 f2 hw ?_;intro D C H' s' m hD hC hm hCn I' q;refine⟨m,hm,fun h' hsb=>?_⟩;rw[63]
 ·obtain⟨v,q⟩:=I2.cell x c e
  exact absurd (aS3 q.lt (by rw[z];exact hC)) (aTu _)
 ·exact absurd (aS3 (aSi (I2.pin p hp).1) (by rw[z];exact hC)) (aTu _)
def aIh{EX:XK}(W0:OwnC X EX){i:Nat}{x:Str}{pos' spos:Pos}(hN:X.N.Nodup)(hiN:X.N[i]?=some x)(hx:Loc X.env.scope x)(S:BlkOk X scope N' src)(hc:X.calm=true)(hi:PI X tg iter wi)
  (hb:∀ cl C s H ex,PG (cxB X scope N' cl C s H ex) tg g/\PIf (cxB X scope N' cl C s H ex) ifs tc/\∀ XE,eR (CX1 X.prog X.w) ((cxB X scope N' cl C s H ex).wish XE) EX->PE ((cxB X scope N' cl C s H ex).wish XE) elt te)
  (hsw:swapsWith (.ListComp elt [⟨tg,iter,ifs,0⟩] scope pos) (some (.Name x pos')) spos.line X.env=pure true:=by rfl)
  (hs:aVf X iter:=by intro _;rfl) (hf:aVh X x:=by trivial):
  PS X (.Assign [.Name x pos'] (.ListComp elt [⟨tg,iter,ifs,0⟩] scope pos) spos) (vC (pQ wi (cJ src) g tc te) (gG i)):=by
 rw[24];rw[10];rw[exec_Assign_Name_used _ _ _ _ hsw];refine aU9 (aV9 (aU9 ?_));show wpAny _ X.A (do let _ <- comprehension (.ListComp elt [⟨tg,iter,ifs,0⟩] scope pos) scope X.env _ (newList []) false (eval iter X.env) (some (assign (.Name x pos') X.env))) _ _ s;refine aU9 (aUk (aV5 (use:=some (assign (.Name x pos') X.env)) (Q:=fun _ s'=>SP X pins D .next s') rfl hs (vU hcl) S.kind S.names
  (thn (hi pins s σ H _ I h) fun v s1 h1=>thn h1 fun itv s2 h2=>?_)) (fun _ s' hq=>aUa (aUa hq)) fun _ _ e=>e)
 obtain⟨it,fp,tn,J,H2,e,I2,Tn,st2,f2,hw⟩:=h2;subst e;refine IL (Q:=fun v H'=>D.nx (σ.set i (some v)) H') (use:=some (assign (.Name x pos') X.env)) (Qc:=fun _ s'=>SP X pins D .next s') W0 S hc hcl hb I2 Tn st2 f2 hw ?_;intro D' C H' s' m hD hC hm hCn I' q;rw[74];have cl':∀ x c,X.env.cells.lookup x=some c->c≠C:=fun x c e z=>by
  obtain⟨v,q⟩:=I2.cell x c e;exact absurd (aS3 q.lt (by rw[z];exact hC)) (aTu _)
 have hLC:X.env.locals≠C:=aU0 (aS3 I2.lt hC);obtain⟨a,sb,ha⟩:=hsb;have haC:C≠a:=by
  rcases ha with rfl | ha
  ·exact Ne.symm hLC
  ·exact Ne.symm (cl' x a ha)
 refine⟨m,hm.sameBut sb haC,fun h' hsb=>⟨_,H',?_,q⟩⟩;rw[54]
end
end L2
namespace G
open PySem PySem.Spec PyProof.Rows L2
noncomputable def dA(jw i:Nat)(src:List (Option Nat))(f:Rho->Option ((T × Rho) ⊕ Str)):List T->Rho->Option ((List T × Rho) ⊕ Str)
 | [],ρ=>some (.inl ([],ρ))
 | t::ts,ρ=>(f ((bX src ρ).set 0 (some t))).bind fun o=>match o with
  | .inl r=>(eX jw r.2).bind fun w=>(dA jw i src f ts (ρ.set i (some (.lst w)))).map fun o=>(match o with | .inl z=>.inl (r.1::z.1,z.2) | .inr nm=>.inr nm)
  | .inr nm=>some (.inr nm)
def nM(jw i:Nat)(fi:Rho->Option (List T))(src:List (Option Nat))(f:Rho->Option ((T × Rho) ⊕ Str)):Rho->Option ((T × Rho) ⊕ Str):=fun ρ=>(eX i ρ).bind fun _=>(fi ρ).bind fun ts=>if ts.length<=cap then (dA jw i src f ts ρ).map fun o=>(match o with | .inl z=>.inl (.lst z.1,z.2) | .inr nm=>.inr nm) else none
@[simp] theorem tE(jw i:Nat)(fi:Rho->Option (List T))(src:List (Option Nat))(f:Rho->Option ((T × Rho) ⊕ Str))(ρ:Rho):nM jw i fi src f ρ=(eX i ρ).bind fun _=>(fi ρ).bind fun ts=>if ts.length<=cap then (dA jw i src f ts ρ).map fun o=>(match o with | .inl z=>.inl (.lst z.1,z.2) | .inr nm=>.inr nm) else none:=id rfl
noncomputable def uK(us:List T):(List T × Rho) ⊕ Str->(T × Rho) ⊕ Str
 | .inl z=>.inl (.lst (us++z.1),z.2)
 | .inr nm=>.inr nm
theorem XY{jw i:Nat}{src:List (Option Nat)}{f:Rho->Option ((T × Rho) ⊕ Str)}{t:T}{ts:List T}{ρ:Rho}{o:(List T × Rho) ⊕ Str}(h:dA jw i src f (t::ts) ρ=some o):
  ∃ o1,f ((bX src ρ).set 0 (some t))=some o1/\((∃ nm,o1=.inr nm/\o=.inr nm)\/∃ r w o2,o1=.inl r/\eX jw r.2=some w/\dA jw i src f ts (ρ.set i (some (.lst w)))=some o2/\∀ us,uK us o=uK (us++[r.1]) o2):=by
 unfold dA at h;obtain⟨o1,h1,h⟩:=bind_some h;refine⟨o1,h1,?_⟩;cases o1 with
 | inr nm=>cases (aRv h);exact .inl ⟨nm,rfl,rfl⟩
 | inl r=>
  obtain⟨w,hw,h⟩:=bind_some h;obtain⟨o2,h2,rfl⟩:=map_some h;refine .inr ⟨r,w,o2,rfl,hw,h2,fun us=>?_⟩;cases o2 with
  | inl z=>simp[uK]
  | inr nm=>rfl
def aEb{H:Hp}{D:Addr}{o:HO}:eJ (upd H D o) D=eJ H D:=funext fun b=>by
 by_cases z:b=D
 ·rw[z,jC,jC]
 ·rw[dL z,dL z,aW z]
variable {X:Cx}{B:Hp}{fl:List Nat}{pos:Pos}
section
variable {E:XK}{fl':List Nat}{elt iter:Expr}{x0:Str}{p0:Pos}{scope:Scope}{N':List Str}{src:List (Option Nat)}{fi:Rho->Option (List T)}{f:Rho->Option ((T × Rho) ⊕ Str)}{sc:Bool}{li i jw:Nat}
def IU(F:FlOk X N' src fl fl' li sc)(hli:1<=li)(h0:fl.getD i 1=0)(hj:src[jw]?=some (some i)){σ:St}{H:Hp}{Q:VK}(h:tEW X.K B fl i (nM jw i fi src f) E σ H Q):
  pQ (tGI X.K B fl fi li sc) (cJ src) (gG 0) vD (tEW X.K B fl' jw f E) σ H Q:=by
 obtain⟨Ex,ρ,M,o,S,hf,q⟩:=h;obtain⟨w0,hw0,hf⟩:=bind_some hf;rw[5];split at hf
 rotate_left
 ·cases hf
 rename_i hcap;obtain⟨o0,hcm,hoe⟩:=map_some hf;have hpo:uK [] o0=o:=by
  rw[<- hoe];cases o0<;>rfl
 obtain⟨hw1,hw2⟩:=NC hw0;obtain⟨a,_,xw,k1,ka,kh,kr,kM⟩:=S.muL i _ hw1 h0;cases k1;have f0:fl'.getD jw 1=0:=by rw[F.cap jw i hj];exact h0
 have hlen:0<src.length:=(aS0.mp F.own).1;have hjw:jw≠0:=fun z=>by rw[z,F.own] at hj;cases hj
 have kaB:(cJ src σ)[jw]?=some (some (.ref a)):=by
  unfold cJ;rw[aT0,hj];show some ((some i).bind fun i=>(σ[i]?).join)=_;simp[ka]
 refine⟨Ex,ρ,M,ts,S,hts,fun J H1 ps s01 rp wk=>?_⟩;intro D hD;have naD:a≠D:=fun z=>by rw[<- z,s01 _ _ kh] at hD;cases hD
 have nDM:D ∉ M:=fun z=>(S.mB D z).2 (s01.free hD);have BD:B D=none:=S.same.free (s01.free hD);refine⟨fun k m σ1 H2=>m=ts.length-k/\k<=ts.length/\σ1.length=src.length/\(∀ j,j≠0->σ1[j]?=(cJ src σ)[j]?)/\(∀ b oo,b≠a->H1 b=some oo->H2 b=some oo) /\
  ∃ ρ2 us xs o2,Sl X.K B fl Ex σ ρ2 M (eJ H2 D)/\(∃ ww,ρ2[i]?=some (some (.lst ww)))/\dA jw i src f (ts.drop k) ρ2=some o2/\uK us o2=o/\us.length=k/\H2 D=some (.lst xs)/\RepL X.K H2 (fun b=>Ad B H2 M 2 b/\b≠D) us xs,?_,?_⟩
 ·refine⟨ts.length,by simp,aU4 _,by unfold cJ;simp,fun _ _=>rfl,fun b oo _ e=>by rw[aW (fun z=>by rw[z,hD] at e;cases e)];exact e,ρ,[],[],o0,?_,⟨_,hw1⟩,by simpa using hcm,hpo,rfl,bY,rfl⟩
  refine (S.grow s01).grow fun b oo e=>?_;have:b≠D:=fun z=>by rw[z,hD] at e;cases e
  rw[dL this,aW this];exact e
 ·rintro k m σ1 H2 ⟨rfl,hk,hl1,hσ,fr,ρ2,us,xs,o2,Sx,⟨ww,hww⟩,e2,e1,eu,e3,e4⟩
  have hD2:H2 D≠none:=by rw[e3];simp
  have S2:Sl X.K B fl Ex σ ρ2 (D::M) H2:=Sx.more jC (CI (aL.refl _)) hD2;have k2:H2 a≠none:=by
   obtain⟨a',_,xw',z1,z2,z3,z4,z5⟩:=Sx.muL i _ hww h0;rw[ka] at z2;have z:=aRv (aRv z2)
   injection z with z
   subst z;rw[dL naD] at z3;rw[z3];simp
  have rpk:∀ pv∈ps,Rep X.K H2 (fun b=>Ad B H M li b/\b≠D) pv.1 pv.2:=fun pv hpv=>Rep.keep (fun b u e=>by
    refine dP (fun oo e'=>fr b oo (fun z=>?_) e') e;exact wC (s01 _ _ kh) e z) (fun b oo z e=>fr b oo (fun w=>z.1 hli (by rw[w];exact kM)) e) (fun b x y=>⟨x,fun z=>y (z ▸ hD)⟩) pv.1 (rp pv hpv)
  have w:=wk H2 _ rpk k
  by_cases hlt:k<ts.length
  ·refine .inr ?_
   have et:ts[k]?=some ts[k]:=aRx hlt;obtain⟨go,yl⟩:=w.1 _ et;refine⟨go,fun x H3 hy=>?_⟩;obtain⟨s23,rx⟩:=yl x H3 hy;rw[aSs hlt] at e2;obtain⟨o1,h1,hcase⟩:=XY e2;have S3:=S2.grow s23;have rx':Rep X.K H3 (Ad B H3 (D::M) (min (fl'.getD 0 1) 2)) ts[k] x:=rx.weak fun c hc=>by
    obtain⟨g0,hc⟩:=hc;rcases hc with hc | hc
    ·refine⟨fun z w=>?_,fun z=>hc.1.2.1 (by have:=F.le g0;lia),fun z=>by lia⟩
     rcases aS7.mp w with rfl | w
     ·exact hc.2 rfl
     ·exact hc.1.1 (by have:=F.le g0;lia) w
    ·exact⟨fun _ z=>(S2.mB c z).2 hc,fun _=>S2.same.free hc,fun z=>by lia⟩
   have Sb:=Sl.block (σ1:=σ1) F S3 hσ hl1 rx';have hσ':∀ j,j≠0->(σ1.set 0 (some x))[j]?=(cJ src σ)[j]?:=fun j hj=>by rw[aS5 (Ne.symm hj)];exact hσ j hj
   have kab:(σ1.set 0 (some x))[jw]?=some (some (.ref a)):=(hσ' jw hjw).trans kaB;unfold gG vD;dsimp only;rw[aUc rfl];refine⟨Ex,_,D::M,o1,Sb,h1,?_⟩;rcases hcase with ⟨nm,rfl,rfl⟩ | ⟨r,w',o3,rfl,hw',hr,hpr⟩
   ·subst e1
    exact q
   ·intro v H6 S6 rv fm
    have fma:=fm a kab;obtain⟨xs6,b1,b2,b3,b4⟩:=CD (X:=X) S6 f0 kab hw';have n6:∀ b oo,b≠a->H3 b=some oo->H6 b=some oo:=fun b oo nb e=>fma b oo (by rw[dL nb];exact e);have e36:H6 D=some (.lst xs):=n6 D _ (Ne.symm naD) (s23 _ _ e3);refine⟨xs,e36,?_,ts.length-(k+1),by lia,rfl,hlt,by simpa using hl1,hσ',?_,ρ2.set i (some (.lst w')),us++[r.1],xs++[v],o3,?_,?_,hr,by rw[<- hpr];exact e1,by simp[eu],bY,?_⟩
    ·rw[<- e4.length]
     exact fI (by lia)
    ·intro b oo nb e
     have nD:b≠D:=fun z=>by rw[z,hD] at e;cases e
     rw[aW nD];exact n6 b oo nb (s23 _ _ (fr b oo nb e))
    ·rw[aEb]
     have Sm:Sl X.K B fl Ex σ ρ2 M (eJ H3 D):=Sx.grow fun b oo e=>by
      by_cases z:b=D
      ·rw[z,jC] at e;cases e
      ·rw[dL z] at e ⊢;exact s23 _ _ e
     obtain⟨a',_,xw',z1,z2,z3,z4,z5⟩:=Sm.muL i _ hww h0;rw[ka] at z2;have z:=aRv (aRv z2)
     injection z with z
     subst z;refine (Sm.change hww h0 ka z3 (fun b oo e=>?_) (by rw[dL naD];exact b1) b2 ?_).2
     ·by_cases z:b=a
      ·rw[z,jC] at e;cases e
      ·rw[dL z] at e
       by_cases z':b=D
       ·rw[z',jC] at e;cases e
       ·rw[dL z'] at e ⊢;exact n6 b oo z e
     ·exact kH b2 (RepL.keep (A:=fun _=>False) (A':=fun _=>False) (fun b u hh=>dP (fun oo e=>by rw[dL (wC e36 hh)];exact e) hh) (fun _ _ z _=>z.elim) (fun _ z _=>z) w' (kH (A':=fun _=>False) b2 b3))
    ·exact⟨w',by rw[aT1 (aS0.mp hww).1]⟩
    ·have kk1:RepL X.K H6 (fun b=>Ad B H6 M 2 b/\b≠D) us xs:=RepL.keep (fun b u e=>dP (fun oo e'=>n6 b oo (fun z=>by
       obtain⟨_,_,xw',_,z2,z3,_,_⟩:=S3.muL i _ hww h0;rw[ka] at z2;have zz:=aRv (aRv z2)
       injection zz with zz
       subst zz;exact wC z3 (dP (fun oo q=>s23 _ _ q) e) z) (s23 _ _ e')) e) (fun b oo z e=>n6 b oo (fun w=>z.1.1 (by decide) (by rw[w];exact kM)) (s23 _ _ e)) (fun b z _=>⟨z.1.any (by decide),z.2⟩) us e4
     have kk2:Rep X.K H6 (fun b=>Ad B H6 M 2 b/\b≠D) r.1 v:=rv.weak fun b z=>⟨⟨fun k w=>z.1 k (aRy _ w),z.2.1,fun k=>by lia⟩,fun w=>z.1 (by decide) (by rw[w];exact aRz)⟩;exact (RepL.app kk1 (RepL.one kk2)).keep (fun c _ e=>jI e36 e) (fun c oo hc e=>by rw[aW hc.2];exact e) (fun c hc _=>⟨hc.1.any (by decide),hc.2⟩) _
  ·have ei:k=ts.length:=by lia
   subst ei;refine .inl ⟨w.2 (aTs _),?_⟩;rw[aSt (aTs _)] at e2;cases (aRv (show some (Sum.inl ([],ρ2))=some o2 from e2));subst e1;refine q (.ref D) H2 (Sx.grow (CI (aL.refl _))) ?_ fun a' ea=>?_
   ·show Rep X.K H2 _ (.lst (us++[])) _
    rw[aSp];exact⟨D,xs,rfl,.inl ⟨⟨fun _=>nDM,fun _=>BD,fun z=>by lia⟩,.inl e3⟩,e4.weak fun b z=>z.1⟩
   ·rw[ka] at ea
    have z:=aRv (aRv ea)
    injection z with z
    subst z;exact NF s01 fun b oo e=>by
     by_cases z:b=a
     ·rw[z,jC] at e;cases e
     ·rw[dL z] at e;exact fr b oo z e
def LF(jw:Nat)(W0:OwnC X E)(S:BlkOk X scope N' src)(F:FlOk X N' src fl fl' li sc)(hc:X.calm=true)(hi:GI X B fl (.Name x0 p0) iter fi li sc)(hN:N'[0]?=some x0)(hx:rD (scope.names.lookup x0)=true)(hk:(decide (1<=li)&&decide (fl.getD i 1=0))=true)(hj:src[jw]?=some (some i))
  (hb:∀ cl C s H ex XE,eR (CX1 X.prog X.w) ((cxB X scope N' cl C s H ex).wish XE) E->GEW ((cxB X scope N' cl C s H ex).wish XE) E B fl' jw elt f)
  (hs:aVf X iter:=by intro _;rfl):GEW X E B fl i (.ListComp elt [⟨.Name x0 p0,iter,[],0⟩] scope pos) (nM jw i fi src f):=by
 simp only[aSb,aUh] at hk;refine bC (aHu (wi:=tGI X.K B fl fi li sc) (g:=gG 0) (tc:=vD) (te:=tEW X.K B fl' jw f E) W0 S hc hi (fun cl C s H ex=>⟨?_,xM,fun XE hp=>hb cl C s H ex XE hp⟩) hs) fun σ H Q h=>IU F hk.1 hk.2 hj h;exact xL F.nd hN hx
theorem aCa{a:Addr}{x:Str}{pos' spos:Pos}(j jw:Nat)(W0:OwnC X E)(S:BlkOk X scope N' src)(F:FlOk X N' src fl fl' li sc)(hc:X.calm=true)(hi:GI X B fl (.Name x0 p0) iter fi li sc)(hN:N'[0]?=some x0)(hx:rD (scope.names.lookup x0)=true)(hk:(decide (1<=li)&&decide (fl.getD i 1=0))=true)(hj:src[jw]?=some (some i))
  (hb:∀ cl C s H ex XE,eR (CX1 X.prog X.w) ((cxB X scope N' cl C s H ex).wish XE) E->GEW ((cxB X scope N' cl C s H ex).wish XE) E B fl' jw elt f)
  (hN0:X.N.Nodup) (hi0:X.N[j]?=some x) (hx0:Loc X.env.scope x) (hfl:(decide (j<fl.length)&&decide (1<=fl.getD j 1)&&decide (fl.getD j 1<=2)&&decide (i≠j))=true)
  (hsw:swapsWith (.ListComp elt [⟨.Name x0 p0,iter,[],0⟩] scope pos) (some (.Name x pos')) spos.line X.env=pure true:=by rfl)
  (hs:aVf X iter:=by intro _;rfl) (hf:aVh X x:=by trivial):
  GSW X E B fl i a (.Assign [.Name x pos'] (.ListComp elt [⟨.Name x0 p0,iter,[],0⟩] scope pos) spos) (fW j (nM jw i fi src f)):=by
 simp only[aSb,aUh] at hk;rw[30];refine cV (aIh (wi:=tGI X.K B fl fi li sc) (g:=gG 0) (tc:=vD) (te:=tEW X.K B fl' jw f E) W0 hN0 hi0 hx0 S hc hi (fun cl C s H ex=>⟨xL F.nd hN hx,xM,fun XE hp=>hb cl C s H ex XE hp⟩) hsw hs hf) ?_;rw[20];rw[35];refine IU F hk.1 hk.2 hj ⟨Exl,ρ,M,o1,S,h1,?_⟩;cases o1 with
 | inr nm=>cases (aRv hr);exact q
 | inl u=>
  rw[76]
end
def uE:T->T->Option T
 | .str x,.str y=>if (y.length == 0)=false/\x.length<=cap then some (.tup [.str (Txt.partition x y).1,.str (Txt.partition x y).2.1,.str (Txt.partition x y).2.2]) else none
 | _,_=>none
@[simp] theorem NW(x y:Str):uE (.str x) (.str y)=if (y.length == 0)=false/\x.length<=cap then some (.tup [.str (Txt.partition x y).1,.str (Txt.partition x y).2.1,.str (Txt.partition x y).2.2]) else none:=id rfl
def aF9{t y u:T}(h:uE t y=some u):∃ a b,t=.str a/\y=.str b/\((b.length == 0)=false/\a.length<=cap)/\u=.tup [.str (Txt.partition a b).1,.str (Txt.partition a b).2.1,.str (Txt.partition a b).2.2]:=by
 cases t<;>first | (cases h;done) | skip
 cases y<;>first | (cases h;done) | skip
 rename_i a b;rw[NW] at h;split at h
 ·rename_i hc
  exact⟨a,b,rfl,rfl,hc,(aRv h).symm⟩
 ·cases h
def aJ2:V->List V->Hp->VK->Prop:=fun x vs H Q=>∃ i j,x=.str i/\vs=[.str j]/\(j.length == 0)=false/\i.length<=sizeLine/\∀ p,H p=none->Q (.ref p) (upd H p (.tup [.str (Txt.partition i j).1,.str (Txt.partition i j).2.1,.str (Txt.partition i j).2.2]))
def aEf{X:Cx}:MtM X "str.partition" aJ2:=by
 intro pins s σ H x vs v us Q I rx rv h;obtain⟨i,j,rfl,rfl,hj,hi,q⟩:=h;rw[17];rw[31];obtain⟨t2,rfl⟩:=ru;have hf:H s.heap.objs.size=none:=I.hok.fresh (aTs _);refine aV4 F.slot_str_partition (aUv s i t) F.entry_str_partition (F.args_str_partition_2 _ _) (meets_str_partition i j t t2 hj hi) ?_;have q':=q _ hf;unfold Txt.partition at q'
 revert q'
 cases Builtin.Str.occurrences i j 0 i.length 1 with
 | nil=>
  intro q';rw[52]
 | cons k r=>
  intro q';rw[52]
noncomputable def eOp(g:Rho->Option ((T × Rho) ⊕ Str))(fb:Rho->Option T)(F:T->T->Option T):Rho->Option ((T × Rho) ⊕ Str):=fun ρ=>(g ρ).bind fun o=>match o with
 | .inl r=>(fb r.2).bind fun y=>(F r.1 y).map fun u=>.inl (u,r.2)
 | .inr nm=>some (.inr nm)
@[simp] theorem tF(g:Rho->Option ((T × Rho) ⊕ Str))(fb:Rho->Option T)(F:T->T->Option T)(ρ:Rho):eOp g fb F ρ=(g ρ).bind fun o=>match o with
 | .inl r=>(fb r.2).bind fun y=>(F r.1 y).map fun u=>.inl (u,r.2)
 | .inr nm=>some (.inr nm):=id rfl
def zJ(p:Rho->Option ((T × Rho) ⊕ Str))(r1 r2:Rho->Option OW):Rho->Option OW:=fun ρ=>(p ρ).bind fun o=>match o with
 | .inl r=>(isB r.1).bind fun b=>if b then r1 r.2 else r2 r.2
 | .inr nm=>some (.ex nm)
@[simp] theorem zK(p:Rho->Option ((T × Rho) ⊕ Str))(r1 r2:Rho->Option OW)(ρ:Rho):zJ p r1 r2 ρ=(p ρ).bind fun o=>match o with
 | .inl r=>(isB r.1).bind fun b=>if b then r1 r.2 else r2 r.2
 | .inr nm=>some (.ex nm):=id rfl
section
variable {E:XK}{i j:Nat}{ad:Addr}{a b:Expr}{f:Rho->Option T}{g:Rho->Option ((T × Rho) ⊕ Str)}{n:Bool}{l:Nat}{apos cpos p2:Pos}{x:Str}{sa sb:List Stmt}{r1 r2:Rho->Option OW}
theorem aBc(ha:GEW X E B fl i a g)(hb:GE X B fl b f n l)
  (hbase:attributeBase a "partition" X.env (eval a X.env)=eval a X.env:=by rfl)
  (hfew:((backTo cpos (starEach [b] X.env)).all (fun x=>!x.1)&&(backToKw cpos (keywordEach [] X.env)).all (fun x=>x.1.isSome)
   && decide (([b]:List Expr).length+([]:List Keyword).length+(if ([]:List Keyword).isEmpty then 0 else 1)<30))=true:=by rfl)
  (hline:(apos.endLine == cpos.line)=true:=by rfl) (hs:starEach [b] X.env=[(false,eval b X.env)]:=by rfl):GEW X E B fl i (.Call (.Attribute a "partition" apos) [b] [] cpos) (eOp g f uE):=by
 refine bC (nC PySem.F.plainAttrs_str PySem.F.slot_str_partition PySem.F.type_str_partition aEf ha (cD hb cZ hs) hbase hfew hline hs rfl) ?_;rintro σ H Q ⟨Exl,ρ,M,o,S,hr,q⟩;obtain⟨o1,h0,hr⟩:=bind_some hr;refine⟨Exl,ρ,M,o1,S,h0,?_⟩;cases o1 with
 | inr nm=>cases (aRv hr);exact q
 | inl r=>
  intro v H1 S1 r1 fm;dsimp only at hr;obtain⟨y,hy,hr⟩:=bind_some hr;obtain⟨u,hu,hq⟩:=map_some hr;subst hq;obtain⟨t,ρ'⟩:=r;obtain⟨x,y,rfl,rfl,hc,rfl⟩:=aF9 hu;cases (show v=.str x from r1);refine⟨rfl,Exl,ρ',M,_,S1,hy,fun v2 H2 s2 ry=>?_⟩;cases (aO.scal rfl).mp ry;refine⟨x,y,rfl,rfl,hc.1,aTr (fI hc.2),fun p hp=>?_⟩;have sp:=cW hp (.tup [.str (Txt.partition x y).1,.str (Txt.partition x y).2.1,.str (Txt.partition x y).2.2]);refine q (.ref p) _ ((S1.grow s2).grow sp) ⟨p,_,rfl,.inl (.inl bY),.str _,_,rfl,rfl,.str _,_,rfl,rfl,.str _,_,rfl,rfl,rfl⟩ fun a' ea=>?_;exact (fm a' ea).trans (s2.trans sp)
def aC5(hu:X.A.units+64<cLine)(ha:GEW X E B fl i a g)(hb:GE X B fl b f n l)(h1:jA X E B fl i ad sa r1)(h2:jA X E B fl i ad sb r2):GSW X E B fl i ad (.If (.Compare a [.NotEq] [b] cpos) sa sb pos) (zJ (eOp g f oNe) r1 r2):=by
 refine cV (pJ (DR (OH hu) ha hb (jX _)) h1 h2) ?_;rintro D σ H ⟨Exl,ρ,M,o,S,hva,hr,q⟩;obtain⟨o1,h0,hr⟩:=bind_some hr;obtain⟨o2,h3,h0⟩:=bind_some h0;refine⟨Exl,ρ,M,o2,S,h3,?_⟩;cases o2 with
 | inr nm=>cases (aRv h0);cases (aRv hr);exact q
 | inl r=>
  intro v H1 S1 r1' fm;dsimp only at h0;obtain⟨y,hy,h0⟩:=bind_some h0;obtain⟨u,hu',rfl⟩:=map_some h0;dsimp only at hr;obtain⟨c,hc,hr⟩:=bind_some hr;cases wL hc;obtain⟨st,k⟩:=LN (K:=X.K) r.1 y _ hu';refine⟨Exl,r.2,M,y,S1,hy,fun vy H2 s2 ry=>?_⟩;refine k H2 _ _ v vy (r1'.grow s2) (ry.rep S1) _ ⟨c,rfl,?_⟩;cases c with
  | true=>exact fQ ⟨Exl,r.2,M,o,S1.grow s2,hva,hr,q⟩
  | false=>exact eW ⟨Exl,r.2,M,o,S1.grow s2,hva,hr,q⟩
end
def aMk{K:PySem.W.Frag}{a:Addr}{ts:List T}:nI K (Itt K a) [(.tup ts,.ref a)] ts false:=by
 intro H A hA i;obtain⟨b,xs,e,hs,hr⟩:=mF (hA _ aRz);cases e;refine⟨fun t et=>?_,fun hi=>⟨xs,hs,by rw[<- hr.length];exact hi⟩⟩;obtain⟨x,ex,rx⟩:=hr.get et;refine⟨⟨xs,x,hs,ex⟩,fun y H' hy=>?_⟩;obtain⟨rfl,hy⟩:=hy;have:=hy xs hs;rw[ex] at this;cases this;exact⟨aL.refl _,rx.weak fun b z=>⟨rfl,.inl z⟩⟩
section
variable {e tg:Expr}{f:Rho->Option T}{n:Bool}{l:Nat}
def aBi(h:GE X B fl e f n l):GI X B fl tg e (fTp f) l false:=by
 refine DL (aI4 h) ?_;rintro σ H R ⟨Ex,ρ,M,ts,S,hf,q⟩;obtain⟨t,ht,hl⟩:=bind_some hf;cases t<;>first | (cases hl;done) | skip
 cases (aRv hl);refine⟨Ex,ρ,M,_,S,ht,fun v H1 s1 r1=>?_⟩;have r:=r1.rep S;obtain⟨a,xs,rfl,hs,_⟩:=mF r;exact⟨a,rfl,⟨xs,hs⟩,q _ H1 [(.tup ts,.ref a)] s1 (fun p hp=>by
  cases aTl.mp hp;exact r) aMk⟩
end
end G
namespace GN
open PySem PySem.Builtin PySem.Builtin.Str PySem.Builtin.Int PySem.Calls PySem.NumText PyProof.Rows
set_option maxRecDepth 100000
section
variable {prog:Program}{w:World}{A:Around}{E:Value->Shared->Prop}{s:Shared}{i:Int}{t:Tok}
def aJh{R:Result->Shared->Prop}(nd:s.heap.NoDigits)(hl:i.natAbs<10^4300)(q:R (.ok (.ret (.str (toString i) s.toks))) { s with toks:=s.toks+1 }):codeAny (model prog w) A (.builtin "int.__repr__" ⟨[.int i t],[]⟩) R s:=by
 apply aV7 F.entry_int_repr
 rw[Around.under_plainId PyProof.Rows.plain_int_repr];unfold Builtin.«int.__repr__»;show wpAny _ _ (Builtin.overDigitLimit? i >>= _) _ _ s;exact aU9 (overDigitLimit_any nd (fun z=>aU9 (wpAny_mkStr (aUa q) (int_text_fits10 z))) fun z=>absurd hl (aU1.mpr z))
def fmt_big{Q:Value->Shared->Prop}(nd:s.heap.NoDigits)(hl:i.natAbs<10^4300)(q:∀ t' k,Q (.str (toString i) t') { s with toks:=k }):wpAny (model prog w) A (formatField (.int i t) Str.empty) Q E s:=by
 show wpAny _ _ (holding [.int i t] (pyFormat (.int i t) Str.empty)) Q E s
 apply aUt
 unfold pyFormat;refine aU9 (wpAny_mkStr ?_ (by decide))
 apply aU9
 apply wpAny_callSpecial?_slot (aV6 _ i t) PyProof.Rows.slot_int_format
 apply wpAny_call
 refine aUw PyProof.Rows.slot_int_format.plain PyProof.Rows.entry_int_format ?_;refine PyProof.Rows.slot_int_format.check _ _ _ _ _ _ _ _ (aV6 _ i t) (PyProof.Rows.args_int_format _ _) ?_;show wpAny _ _ (typeNameOf (.str Str.empty s.toks) >>= fun _=>(do rule "int.format.empty";again (.builtin "int.__repr__" ⟨[.int i t],[]⟩))) _ _ _
 apply aU9
 refine wpAny_typeNameOf (T := "str") (aUv _ _ _) (by decide) fun _=>?_;refine aU9 (wpAny_rule (aUa ⟨plainId_quiet PyProof.Rows.plain_int_repr _,aJh nd hl ?_⟩));show wpAny _ _ (isInstance (.str (toString i) (s.toks+1)) (.type "str") >>= _) Q E _;exact aU9 (wpAny_isInstance (aUv _ _ _) isSubtype_str_str (aUa (q _ _)))
end
end GN
namespace G
open PySem PySem.Spec PyProof.Rows L2
def JI(y:Str):Str.empty++y=y:=by
 cases y with
 | mk a=>
  show Str.mk (#[]++a)=Str.mk a;simp
def uB(m:Str):T->T->Option T
 | .int i,.int j=>if i.natAbs<figLim/\j.natAbs<figLim/\m.length<=1000 then some (.str ((toString i++m)++toString j)) else none
 | _,_=>none
def aF3{m:Str}{x y u:T}(h:uB m x y=some u):∃ i j,x=.int i/\y=.int j/\(i.natAbs<figLim/\j.natAbs<figLim/\m.length<=1000)/\u=.str ((toString i++m)++toString j):=by
 cases x<;>first | (cases h;done) | skip
 cases y<;>first | (cases h;done) | skip
 rename_i i j;unfold uB at h;dsimp only at h;split at h
 ·rename_i hc
  exact⟨i,j,rfl,rfl,hc,(aRv h).symm⟩
 ·cases h
variable {X:Cx}{B:Hp}{fl:List Nat}{n':Bool}{l':Nat}{pos p2:Pos}
section
variable {a b:Expr}{f g:Rho->Option T}{n:Bool}{l:Nat}{p1 p3:Pos}{ta tb:TE}{m:Str}{k:Nat}
def CF{i:Int}(h:i.natAbs<figLim):(Str.ofString (toString i)).length<=4400:=by
 rw[qO] at h;have e:=int_text_length_le10 (k:=4300) (by decide) h
 clear h
 rw[PySem.ofString_length];lia
def aHr(ha:PE X a ta)(hb:PE X b tb):PE X (.JoinedStr [.FormattedValue a (-1) none p1,.Constant (.str m) k p2,.FormattedValue b (-1) none p3] pos) (fun σ H Q=>ta σ H fun u H1=>∃ i,u=.int i/\i.natAbs<figLim/\m.length<=1000/\tb σ H1 fun v H2=>∃ j,v=.int j/\j.natAbs<figLim/\Q (.str ((toString i++m)++toString j)) H2):=by
 rw[2];refine PyProof.Rows.JoinedStr_many (PyProof.Rows.joinParts_cons (PyProof.Rows.FormattedValue_plain (thn (ha pins s σ H _ I h) ?_)));rintro u s1 ⟨x,H1,I1,rx,i,rfl,hi,hm,q1⟩;rw[17];refine GN.fmt_big I1.nodig (qO ▸ hi) fun t' tk=>⟨?_,?_⟩
 ·rw[JI]
  have:=CF hi;rw[aUm];lia
 rw[JI];have li:=CF hi;have J1:=I1.tok tk;refine PyProof.Rows.joinParts_cons (thn (uJ (X:=X) (x:=m) (j:=k) (pos:=p2) pins _ σ H1 (fun v H'=>v=.str m/\H'=H1) J1 ⟨rfl,rfl⟩) ?_);rintro u2 s2 ⟨x2,H2,I2,rx2,rfl,rfl⟩;obtain⟨t2,rfl⟩:=rx2;refine⟨by rw[strLen_append,aUm];lia,?_⟩;refine PyProof.Rows.joinParts_cons (PyProof.Rows.FormattedValue_plain (thn (hb pins _ σ _ _ I2 q1) ?_));rintro u3 s3 ⟨x3,H3,I3,rx3,j,rfl,hj,q3⟩;obtain⟨t3,rfl⟩:=rx3;have lj:=CF hj;refine GN.fmt_big I3.nodig (qO ▸ hj) fun t4 tk4=>⟨by rw[strLen_append,strLen_append,aUm];lia,?_⟩;exact PyProof.Rows.joinParts_nil ⟨.str ((toString i++m)++toString j),H3,(I3.tok tk4).tok _,⟨_,rfl⟩,q3⟩ (by rw[strLen_append,strLen_append,aUm];lia)
def aAg(ha:GE X B fl a f n l)(hb:GE X B fl b g n' l'):GE X B fl (.JoinedStr [.FormattedValue a (-1) none p1,.Constant (.str m) k p2,.FormattedValue b (-1) none p3] pos) (f2 f g (uB m)) true 3:=by
 refine bC (aHr ha hb) ?_;rw[0];rw[9];rw[13];obtain⟨i,j,rfl,rfl,hc,rfl⟩:=aF3 hf;refine⟨Ex,ρ,M,_,S,hx,fun vx H1 s1 rx=>?_⟩;cases (aO.scal rfl).mp rx;refine⟨i,rfl,hc.1,hc.2.2,Ex,ρ,M,_,S.grow s1,hy,fun vy H2 s2 ry=>?_⟩;cases (aO.scal rfl).mp ry;exact⟨j,rfl,hc.2.1,q _ H2 (s1.trans s2) ((aO.scal rfl).mpr rfl)⟩
end
def aDi{X:Cx}{a:Addr}{tab:List (Str × List Str)}{ks:List (Str × Addr × Tok)}{en:Nat}{s2:Shared}(kin:X.K.In X.base)(hk:X.K.lookup a=some { cls:=.type "dict",data:=.dict (ks.map (vY X.w.params)).toArray en })(hks:KDs X.K tab ks)(nd:(tab.map (·.1)).Nodup)
  (bk:∀ b o,X.base.get? b=some o->s2.heap.get? b=some o):s2.heap.DictOf (strKind X.prog X.w) a (ks.map fun x=>(x.1,Value.ref x.2.1)):=by
 refine⟨_,_,_,bk _ _ (kin _ _ hk),⟨rfl,rfl,rfl⟩,rfl,fun en he=>?_,?_,?_⟩
 ·obtain⟨y,hy,rfl⟩:=aTj.mp (show en∈(ks.map (vY X.w.params)) by simpa using he)
  exact⟨y.1,aUf _,rfl⟩
 ·show Pairs (strKind X.prog X.w) (ks.map (vY X.w.params)) _
  clear hk hks nd
  induction ks with
  | nil=>exact .nil
  | cons y ks ih=>exact .cons (aUf _) rfl ih
 ·rw[aTd]
  show (ks.map (·.1)).Nodup;rw[hks.keys];exact nd
noncomputable def CT(tab:List (Str × List Str)):T->Option T
 | .str k=>(tab.lookup k).map fun l=>.tup (l.map .str)
 | _=>none
@[simp] theorem aNe(tab:List (Str × List Str))(k:Str):CT tab (.str k)=(tab.lookup k).map fun l=>.tup (l.map .str):=id rfl
variable {es:List Expr}{fa:Rho->Option (List T)}{p':Pos}
section
variable {e:Expr}{f:Rho->Option T}{n:Bool}{l:Nat}{spos:Pos}{x:Str}{tab:List (Str × List Str)}
def aAd(hg:Gl X x)(hm:∃ a,X.mg x=some (.ref a)/\vO X.K X.w.params a tab)(he:GE X B fl e f n l)(hs:HM e:=by exact fun _ _=>rfl)(hd:aVi x:=by decide):GE X B fl (.Subscript (.Name x pos) e spos) (f1 f (CT tab)) true 3:=by
 obtain⟨a,hm,ks,en,hk,hks,nd,hsys⟩:=hm;rw[2];obtain⟨Ex,ρ,M,t,S,hf,q⟩:=h;rw[18];have h2:∃ z,u=.str z:=by cases u<;>first | (cases hf;done) | exact⟨_,rfl⟩
 obtain⟨z,rfl⟩:=h2;obtain⟨l0,hl0,rfl⟩:=map_some (show (tab.lookup z).map (fun l=>T.tup (l.map .str))=some t from hf);refine aKv PySem.F.slot_dict_getitem.lookup hs ?_;refine thn (xK (v:=.ref a) hg hm rfl hd pins s σ H (fun v H1=>v=.ref a/\H1=H) I ⟨rfl,rfl⟩) fun v s1 ⟨y,H1,I1,r1,ey,eh⟩=>?_;subst ey eh;cases r1;refine thn (he pins s1 σ H1 (fun v H2=>aL H1 H2/\v=.str z) I1 ⟨Ex,ρ,M,_,S,hu,fun v H2 s2 r2=>⟨s2,(aO.scal rfl).mp r2⟩⟩) fun iv s2 ⟨y,H2,I2,ry,s12,ey⟩=>?_;subst ey;obtain⟨tk,rfl⟩:=ry;have d2:=aDi (X:=X) I.mod.kin hk hks nd I2.bk;refine⟨d2.typeIs,?_⟩;rcases hks.at z with ⟨h1,h2⟩ | ⟨l1,c,h1,h2,h3⟩
 ·rw[h1] at hl0;cases hl0
 ·rw[h1] at hl0
  cases hl0;refine wpAny_getItem_of (knd:=strKind X.prog X.w) (k:=z) (v:=.ref c) (show Value.isStrOf z (.str z tk)=true from aUf _) d2.mapOf ?_ ⟨.ref c,H2,I2.tok _,rfl,q (.ref c) H2 s12 ⟨c,l0.map V.str,rfl,.inr h3,QG l0⟩⟩;show valueAt _ z=some (.ref c);unfold valueAt;rw[h2];rfl
def XI:eF X (.type "str") (fun xs H Q=>∃ z:Str,xs=[.str z]/\Q (.str z) H):=by
 rw[16];obtain⟨z,rfl,q⟩:=h;obtain⟨u,rfl,t,rfl⟩:=jM r;exact callType_new F.called_str (by decide) (F.typeCall_str_1 _) (F.newCall_str_1 _) (fun obj=>F.args_object_init_2 obj _) F.entry_str_new
  (meets_str_new (S:=fun _ R s=>R (.ok (.ret (.str z t))) s) fun _ _ _ _ _ hq=>by
   rw[show PySem.Builtin.Str.strOf (.str z t)=pure (.str z t) from rfl];exact aUa hq) ⟨aUv _ _ _,⟨.str z,H,I,⟨_,rfl⟩,q⟩⟩
def jF:List T->Option T
 | [.int i]=>if i.natAbs<figLim then some (.str (toString i)) else none
 | [.str z]=>some (.str z)
 | _=>none
@[simp] theorem aFc(i:Int):jF [.int i]=if i.natAbs<figLim then some (.str (toString i)) else none:=rfl
@[simp] theorem aNi(z:Str):jF [.str z]=some (.str z):=rfl
theorem aB3(hx:x = "str")(hg:Gl X x)(hm:X.mg x=none)(hv:bootBuiltins x=some (.type "str"))(ha:GA X B fl (e::es) fa l)
  (he:aVc X e es:=by rfl) (hpl:aVe X pos es:=by rfl):GE X B fl (.Call (.Name x p') (e::es) [] pos) (aG fa jF) true 3:=by
 subst hx;have cr:eF X (.type "str") (fun xs H Q=>(∃ i:Int,xs=[.int i]/\i.natAbs<figLim/\Q (.str (toString i)) H)\/∃ z:Str,xs=[.str z]/\Q (.str z) H):=by
  rw[16];rcases h with h | h
  ·exact XH pins s σ H xs us Q I r h
  ·exact XI pins s σ H xs us Q I r h
 refine bC (xJ cr hg hm hv ha (by decide) (by decide) he hpl) ?_;rw[0];rw[5];rw[6]
 match ts,hf with
 | [.int i],hf=>
  have hf:(if i.natAbs<figLim then some (T.str (toString i)) else none)=some t:=hf;split at hf
  ·rename_i hz
   rw[4];rw[25];cases (show _=_ from ry);exact .inl ⟨i,rfl,hz,q _ H1 s1 ((aO.scal rfl).mpr rfl)⟩
  ·cases hf
 | [.str z],hf=>
  cases (aRv (show some (T.str z)=some t from hf));rw[25];cases (show _=_ from ry);exact .inr ⟨z,rfl,q _ H1 s1 ((aO.scal rfl).mpr rfl)⟩
end
noncomputable def wO(FX:List T->Option (T ⊕ Str)):List T->Option T:=fun ts=>(FX ts).bind fun o=>match o with | .inl t=>some t | .inr _=>none
@[simp] theorem aDy(FX:List T->Option (T ⊕ Str))(ts:List T):wO FX ts=(FX ts).bind fun o=>match o with | .inl t=>some t | .inr _=>none:=id rfl
def aHl{X:Cx}:eR (CX1 X.prog X.w) X (fun _ _ _=>False):=fun _ _ _ _ _ _ _ ⟨_,_,_,_,_,_,_,_,_,q⟩=>q.elim
variable {apos:Pos}{ps:List Str}
section
variable {E:XK}{e e1 e2 e3:Expr}{f1 f2 f3:Rho->Option T}{n n1 n2:Bool}{l l1 l2 k j:Nat}{pos':Pos}{x y:Str}{FX:List T->Option (T ⊕ Str)}{FW:List T->Option ((T × List T) ⊕ Str)}
def aAb(C:CalX X.prog X.w X.K X.mg X.base x k ps FX n l [])(hr:Room k X.A)(hg:Gl X x)(ha:GA X B fl (e::es) fa l')(hl:(decide (l=0)||decide (l=3))=true:=by rfl)(hdb:aVi x:=by decide)
  (he:aVc X e es:=by rfl) (hpl:aVe X pos es:=by rfl):GE X B fl (.Call (.Name x p') (e::es) [] pos) (aG fa (wO FX)) n l:=by
 obtain⟨f,fd,FO,hm,hk,hb⟩:=C.ex;refine bC (pI FO hr hg hm hk hb .nil aHl ha hdb he hpl) ?_;rw[0];rw[5];obtain⟨o,ho,hf⟩:=bind_some hf;simp only[Bool.or_eq_true,aUh] at hl;rw[6];show spX X.K FX n l (vs++[]) H1 Q _;rw[aSp];cases o with
 | inr nm=>cases hf
 | inl t'=>
  rw[4];exact⟨ts,.inl t,r1.weak fun _ _=>trivial,ho,fun v H2 s2 r2=>q v H2 (s1.trans s2) (r2.called S s1 hl)⟩
def GU(j:Nat)(f1 f2 f3:Rho->Option T)(FW:List T->Option ((T × List T) ⊕ Str)):Rho->Option (Out ⊕ Str):=fun ρ=>(f1 ρ).bind fun t1=>(f2 ρ).bind fun t2=>(f3 ρ).bind fun t3=>match t3 with
 | .lst us=>if bK us then (FW [t1,t2,.lst us]).bind fun o=>(match o with | .inl r=>some (.inl (.nx (ρ.set j (some r.1)))) | .inr nm=>some (.inr nm)) else none
 | _=>none
@[simp] theorem GV(j:Nat)(f1 f2 f3:Rho->Option T)(FW:List T->Option ((T × List T) ⊕ Str))(ρ:Rho):GU j f1 f2 f3 FW ρ=(f1 ρ).bind fun t1=>(f2 ρ).bind fun t2=>(f3 ρ).bind fun t3=>match t3 with
 | .lst us=>if bK us then (FW [t1,t2,.lst us]).bind fun o=>(match o with | .inl r=>some (.inl (.nx (ρ.set j (some r.1)))) | .inr nm=>some (.inr nm)) else none
 | _=>none:=id rfl
theorem aBz(j:Nat)(C:CalW X.prog X.w X.K X.mg X.base x k ps 2 FW)(hx:eR (CX1 X.prog X.w) X E)(hr:Room k X.A)(hg:Gl X x)(h1:GE X B fl e1 f1 n1 l1)(h2:GE X B fl e2 f2 n2 l2)(h3:GE X B fl e3 f3 true 3)(hN:X.N.Nodup)(hi:X.N[j]?=some y)(hy:Loc X.env.scope y)(hfl:(decide (j<fl.length)&&decide (1<=fl.getD j 1)&&decide (fl.getD j 1<=2))=true)
  (hs:swapsWith (.Call (.Name x p') [e1,e2,e3] [] pos) (some (.Name y pos')) apos.line X.env=pure false:=by rfl) (hf:X.fn y=true\/X.env.scope.names.lookup y=some .local:=by trivial)
  (hdb:aVi x:=by decide) (he1:starEach [e1,e2,e3] X.env=(false,eval e1 X.env)::starEach [e2,e3] X.env:=by rfl) (he2:starEach [e2,e3] X.env=(false,eval e2 X.env)::starEach [e3] X.env:=by rfl) (he3:starEach [e3] X.env=(false,eval e3 X.env)::starEach [] X.env:=by rfl)
  (hpl:(backTo pos (starEach [e2,e3] X.env)).any (·.1)=false:=by rfl):
  GSL X E B fl n l (.Assign [.Name y pos'] (.Call (.Name x p') [e1,e2,e3] [] pos) apos) (GU j f1 f2 f3 FW):=by
 obtain⟨f,fd,FO,hm,hk,hb⟩:=C.ex;rw[30];refine cV (mE hN hi hy (pI FO hr hg hm hk hb .nil hx (cD h1 (cD h2 (cD h3 cZ he3) he2) he1) hdb he1 hpl) hs hf) ?_;rintro D σ H ⟨Ex,ρ,M,o,S,hrr,q⟩;obtain⟨t1,g1,hrr⟩:=bind_some hrr;obtain⟨t2,g2,hrr⟩:=bind_some hrr;obtain⟨t3,g3,hrr⟩:=bind_some hrr;cases t3<;>first | (cases hrr;done) | skip
 rename_i us;dsimp only at hrr;split at hrr
 rotate_left
 ·cases hrr
 rename_i hflat;obtain⟨u,hF,hrr⟩:=bind_some hrr;refine⟨Ex,ρ,M,t1,S,g1,fun v1 H1 s1 r1=>⟨Ex,ρ,M,t2,S.grow s1,g2,fun v2 H2 s2 r2=>⟨Ex,ρ,M,_,(S.grow s1).grow s2,g3,fun v3 H3 s3 r3=>?_⟩⟩⟩;obtain⟨a,xs,rfl,na,ha,ra⟩:=r3;have ge:∀ {t:T} {v:V} {A:Addr->Prop},Rep X.K H2 A t v->Rep X.K H3 (fun b=>b≠a) t v:=fun {t v A} r=>Rep.keep (A':=fun b=>b≠a) (fun b _ e=>dP (fun o q=>s3 b o q) e) (fun b o _ e=>s3 b o e) (fun b _ y z=>y (by rw[show b=a from z];exact na)) t r;show spW 2 X.K FW ([v1,v2,.ref a]++[]) H3 _ _;refine⟨[t1,t2,.lst us],u,a,xs,us,rfl,rfl,rfl,hflat,ha,ra.weak fun _ _=>trivial,fun j t v hj e4 e5=>?_,hF,?_⟩
 ·match j,hj,e4,e5 with
  | 0,_,e4,e5=>cases e4;cases e5;exact ge ((r1.rep S).grow s2)
  | 1,_,e4,e5=>cases e4;cases e5;exact ge (r2.rep (S.grow s1))
  | 2,hj,_,_=>exact absurd rfl hj
  | j+3,_,e4,_=>simp at e4
 ·have S3:=((S.grow s1).grow s2).grow s3
  have sm:∀ {H4:Hp},aL (eJ H3 a) H4->aL H2 H4:=fun h b o e=>h b o (by
   rw[dL (fun z=>by rw[z,na] at e;cases e)];exact s3 b o e)
  cases u with
  | inr nm=>
   cases (aRv hrr);exact fun C H4 hC h4=>q false C σ H4 hC (((S.grow s1).grow s2).same.trans (sm h4))
  | inl r=>
   cases (aRv hrr);intro v4 H4 xs' h4 _ _ _ rv;have S4:=((S.grow s1).grow s2).grow (sm h4);refine q _ M H4 (S4.set hfl.1 (.inl hfl.2.1) (rv.weak fun b z=>⟨fun _ hM=>?_,fun _=>S3.same.free z,fun w=>by lia⟩));exact (S3.mB b hM).2 z
noncomputable def xA:List T->Option T
 | [.lst ts]=>some (.tup ts)
 | [.tup ts]=>some (.tup ts)
 | _=>none
@[simp] theorem aFf(ts:List T):xA [.lst ts]=some (.tup ts):=rfl
@[simp] theorem aNj(ts:List T):xA [.tup ts]=some (.tup ts):=rfl
theorem aB7(hx:x = "tuple")(hg:Gl X x)(hm:X.mg x=none)(hv:bootBuiltins x=some (.type "tuple"))(ha:GA X B fl (e::es) fa l)
  (he:aVc X e es:=by rfl) (hpl:aVe X pos es:=by rfl):GE X B fl (.Call (.Name x p') (e::es) [] pos) (aG fa xA) true l:=by
 subst hx;refine bC (xJ XJ hg hm hv ha (by decide) (by decide) he hpl) ?_;rw[0];rw[5];rw[6]
 match ts,hf with
 | [.lst us],hf=>
  cases (aRv (show some (T.tup us)=some t from hf));obtain⟨v,rfl,rv⟩:=eM r1;obtain⟨a,xs,rfl,hs,rx⟩:=rv.sqL;refine⟨a,xs,rfl,.inl ⟨hs,fun c hc=>?_⟩⟩;have sp:=cW hc (.tup xs);exact q _ _ (s1.trans sp) ⟨c,xs,rfl,.inl (.inl bY),rx.grow sp⟩
 | [.tup us],hf=>
  cases (aRv (show some (T.tup us)=some t from hf));obtain⟨v,rfl,rv⟩:=eM r1;obtain⟨a,xs,rfl,hs,rx⟩:=rv.sqT;exact⟨a,xs,rfl,.inr ⟨hs,q _ _ s1 rv⟩⟩
end
def wZ:T->Option T
 | .str x=>if (Txt.strip x).length<=cap then some (.str (Txt.strip x)) else none
 | _=>none
@[simp] theorem aFd(x:Str):wZ (.str x)=if (Txt.strip x).length<=cap then some (.str (Txt.strip x)) else none:=id rfl
section
variable {e:Expr}{f:Rho->Option T}{n:Bool}{l:Nat}
def aEh:MtR X "str.strip" (fun x xs H Q=>∃ i,x=.str i/\xs=[]/\(Txt.strip i).length<=sizeLine/\Q (.str (Txt.strip i)) H):=by
 intro pins s σ H x xs v us Q I rx rs h;obtain⟨i,rfl,rfl,hz,q⟩:=h;rw[17];cases rs;refine call_gives F.slot_str_strip (aUv s i t) F.entry_str_strip (F.args_str_strip_1 _) (gives_str_strip i t) ?_;unfold Txt.strip Txt.stripBy at q hz
 by_cases c:stripSame Unicode.isSpace true true i=true
 ·rw[aUc c] at q ⊢
  exact⟨.str i,H,I,⟨_,rfl⟩,q⟩
 ·rw[aUd c] at q hz ⊢
  exact⟨hz,.str _,H,I.tok _,⟨_,rfl⟩,q⟩
def LD(he:GE X B fl e f n l)(hbase:attributeBase e "strip" X.env (eval e X.env)=eval e X.env:=by rfl)(hline:(apos.endLine == pos.line)=true:=by rfl):
  GE X B fl (.Call (.Attribute e "strip" apos) [] [] pos) (f1 f wZ) true 3:=by
 refine bC (OM PySem.F.plainAttrs_str PySem.F.slot_str_strip PySem.F.type_str_strip aEh he hbase hline) ?_;rw[0];rw[18];have h2:∃ z,u=.str z:=by cases u<;>first | (cases hf;done) | exact⟨_,rfl⟩
 obtain⟨z,rfl⟩:=h2;rw[aFd] at hf;split at hf
 ·rename_i hc
  rw[4];refine⟨Ex,ρ,M,_,S,hu,fun v H1 s1 r1=>?_⟩;cases (show v=.str z from (aO.scal rfl).mp r1);exact⟨rfl,z,rfl,rfl,sZ hc,q _ H1 s1 ((aO.scal rfl).mpr rfl)⟩
 ·cases hf
end
variable {prog:Program}
section
variable {w:World}{A:Around}{E:Value->Shared->Prop}{s:Shared}
def aMs{n:Nat}{l l':Addr}{k:Nat}{xs ys:Array Value}{x y a b:Value}{Q:Value->Shared->Prop}(o1:Of2 n l)(o2:Of2 n l')
  (hz:Z2 s.heap n .none) (ti:Tw s.heap (n+2) (.ref n) (.ref (n+1))) (to:Tw s.heap (n+3) a b)
  (i1:s.heap.IsTupleIter n l k) (i2:s.heap.IsListIter (n+1) l' k) (p1:s.heap.IsTuple l xs) (p2:s.heap.IsList l' ys) (hx:xs[k]?=some x) (hy:ys[k]?=some y)
  (hQ:∀ h',Z2 h' n (rawInt s.heap.objs.size)->Tw h' (n+3) x y->h'.IsTupleIter n l (k+1)->h'.IsListIter (n+1) l' (k+1)->Tw h' s.heap.objs.size x y->h'.objs.size=s.heap.objs.size+1 ->
   (∀ c o,Of2 n c->s.heap.get? c=some o->h'.get? c=some o)->Q (.ref s.heap.objs.size) { s with heap:=h' }):
  wpAny (model prog w) A (Builtin.«zip.__next__» ⟨[.ref (n+4)],[]⟩) (fun fin s'=>∃ v,fin=.done (.ret v)/\Q v s') E s:=by
 rw[67];have d04:=@bL n (n+4) (by lia);rw[59];have d34:=@bL (n+3) (n+4) (by lia);rw[44];rw[41];rw[19];rw[12];rw[73];rw[aUc rfl];rw[42]
 replace z1:Z2 g1 n .ellipsis:=z1
 rw[12];rw[22];refine aU9 (aU9 (aUz ?_));rw[26];rw[11];rw[39]
 replace t3:Tw g3 (n+3) x b:=t3
 rw[40];refine aU9 (wpAny_nextOf_list_item (((i2.extBut s1.extBut d14.1).extBut s2.extBut d01.2).extBut s3.extBut d13.1) (((p2.extBut s1.extBut o2.a4).extBut s2.extBut o2.a0).extBut s3.extBut o2.a3) hy fun g6 q2 s6=>aUa ?_);have t6:Tw g6 (n+3) x b:=s6.extBut _ _ d13.2 t3;refine aU9 (aUo t6 rfl (aU9 (rZ t6 fun g7 t7 s7=>?_)))
 replace t7:Tw g7 (n+3) x y:=t7
 refine aU9 (wpAny_letGo (aUa (aUa (aU9 (aUo t7 rfl (aU9 (wpAny_newTuple ?_)))))));have sz:g7.objs.size=s.heap.objs.size:=by rw[s7.1,s6.1,s3.1,s2.1,s1.1]
 have z7:Z2 g7 n .ellipsis:=s7.extBut _ _ d34.2 (s6.extBut _ _ d14.2 (s3.extBut _ _ d34.2 (s2.extBut _ _ d04.2 z1)));have kp:∀ c o,Of2 n c->s.heap.get? c=some o->g7.get? c=some o:=fun c o f e=>
  s7.extBut _ _ f.a3 (s6.extBut _ _ f.a1 (s3.extBut _ _ f.a3 (s2.extBut _ _ f.a0 (s1.extBut _ _ f.a4 e))))
 have q1':g7.IsTupleIter n l (k+1):=((q1.extBut s3.extBut d03.1).extBut s6.extBut d01.1).extBut s7.extBut d03.1;have q2':g7.IsListIter (n+1) l' (k+1):=q2.extBut s7.extBut d13.1;have zl:n+4<g7.objs.size:=aSi z7;show wpAny _ _ (Builtin.SmallTypes.ownedTupleHandOut (.ref (n+4)) (.ref g7.objs.size) >>= _) _ _ _;rw[12];unfold Builtin.SmallTypes.ownedTupleHandOut;have z8:Z2 (g7.push { cls:=.type "tuple",data:=.seq #[x,y] }) n .ellipsis:=aS6 _ z7;refine aU9 (aUn z8 (by simp) fun g9 z9 s9=>?_)
 replace z9:Z2 g9 n (rawInt g7.objs.size):=z9
 refine aUn z9 (by simp) fun g10 z10 s10=>?_
 replace z10:Z2 g10 n (rawInt g7.objs.size):=z10
 rw[51];have sz2:g10.objs.size=g7.objs.size+1:=by rw[s10.1,s9.1,aSj]
 rw[sz] at z10 tn sz2;refine aUa ⟨_,rfl,?_⟩;show Q (.ref g7.objs.size) _;rw[sz];exact hQ g10 z10 (up _ _ d34.1 t7) (let ⟨o,e,r⟩:=q1';⟨o,up _ o d04.1 e,r⟩) (let ⟨o,e,r⟩:=q2';⟨o,up _ o d14.1 e,r⟩) tn sz2 fun c o f e=>up c o f.a4 (kp c o f e)
theorem aMr{n:Nat}{l l':Addr}{k:Nat}{xs ys:Array Value}{a b:Value}{Q:Fin->Shared->Prop}(hh:A.handled=none)(o1:Of2 n l)(o2:Of2 n l')
  (hz:Z2 s.heap n .none) (ti:Tw s.heap (n+2) (.ref n) (.ref (n+1))) (to:Tw s.heap (n+3) a b)
  (i1:s.heap.IsTupleIter n l k) (i2:s.heap.IsListIter (n+1) l' k) (p1:s.heap.IsTuple l xs) (p2:s.heap.IsList l' ys) (hend:xs[k]?=none\/ys[k]?=none)
  (hE:∀ h' e,(∀ c o,Of2 n c->s.heap.get? c=some o->h'.get? c=some o)->(∃ o,h'.get? e=some o/\o.cls=.type "StopIteration")->E (.ref e) { s with heap:=h' }):
  wpAny (model prog w) A (Builtin.«zip.__next__» ⟨[.ref (n+4)],[]⟩) Q E s:=by
 rw[67];have d04:=@bL n (n+4) (by lia);rw[59];have d34:=@bL (n+3) (n+4) (by lia);rw[44];rw[41];rw[19];rw[12];rw[73];rw[aUc rfl];rw[42]
 replace z1:Z2 g1 n .ellipsis:=z1
 rw[12];rw[22];refine aU9 (aU9 (aUz ?_));rw[26];cases hx:xs[k]? with
 | none=>
  refine aU9 (CL hh (i1.extBut s1.extBut d04.1) (p1.extBut s1.extBut o1.a4) hx fun g2 e s2 he=>?_);obtain⟨oe,h1,h2⟩:=he;rw[50]
 | some x=>
 rw[11];rw[39];have z3:Z2 g3 n .ellipsis:=s3.extBut _ _ d34.2 (s2.extBut _ _ d04.2 z1);rw[40];have hy:ys[k]?=none:=by
  rcases hend with h | h
  ·rw[hx] at h;cases h
  ·exact h
 refine aU9 (wpAny_nextOf_list_end hh (((i2.extBut s1.extBut d14.1).extBut s2.extBut d01.2).extBut s3.extBut d13.1) (((p2.extBut s1.extBut o2.a4).extBut s2.extBut o2.a0).extBut s3.extBut o2.a3) hy fun g4 e s4 he=>?_);obtain⟨oe,h1,h2⟩:=he;rw[46]
def aMt{n:Nat}{l l':Addr}{k:Nat}{xs ys:Array Value}{x y a b:Value}{Q:Option Value->Shared->Prop}(o1:Of2 n l)(o2:Of2 n l')
  (hz:Z2 s.heap n .none) (ti:Tw s.heap (n+2) (.ref n) (.ref (n+1))) (to:Tw s.heap (n+3) a b)
  (i1:s.heap.IsTupleIter n l k) (i2:s.heap.IsListIter (n+1) l' k) (p1:s.heap.IsTuple l xs) (p2:s.heap.IsList l' ys) (hx:xs[k]?=some x) (hy:ys[k]?=some y)
  (hQ:∀ h',Z2 h' n (rawInt s.heap.objs.size)->Tw h' (n+3) x y->h'.IsTupleIter n l (k+1)->h'.IsListIter (n+1) l' (k+1)->Tw h' s.heap.objs.size x y->h'.objs.size=s.heap.objs.size+1 ->
   (∀ c o,Of2 n c->s.heap.get? c=some o->h'.get? c=some o)->Q (some (.ref s.heap.objs.size)) { s with heap:=h' }):
  wpAny (model prog w) A (pyNext (.ref (n+4))) Q E s:=by
 rw[62];exact aU9 (aVa (wpAny_callSpecial?_slot (name:=("__next__":Str)) hT F.slot_zip_next (aUu F.slot_zip_next hT F.entry_zip_next
   (aMs o1 o2 hz ti to i1 i2 p1 p2 hx hy fun h' a1 a2 a3 a4 a5 a6 a7=>aUa (hQ h' a1 a2 a3 a4 a5 a6 a7)) (F.args_zip_next_1 _))))
def aMu{n:Nat}{l l':Addr}{k:Nat}{xs ys:Array Value}{a b:Value}{Q:Option Value->Shared->Prop}(hh:A.handled=none)(o1:Of2 n l)(o2:Of2 n l')
  (hz:Z2 s.heap n .none) (ti:Tw s.heap (n+2) (.ref n) (.ref (n+1))) (to:Tw s.heap (n+3) a b)
  (i1:s.heap.IsTupleIter n l k) (i2:s.heap.IsListIter (n+1) l' k) (p1:s.heap.IsTuple l xs) (p2:s.heap.IsList l' ys) (hend:xs[k]?=none\/ys[k]?=none)
  (hQ:∀ h',(∀ c o,Of2 n c->s.heap.get? c=some o->h'.get? c=some o)->Q none { s with heap:=h' }):wpAny (model prog w) A (pyNext (.ref (n+4))) Q E s:=by
 rw[62];refine aU9 (aVa (wpAny_callSpecial?_slot (name:=("__next__":Str)) hT F.slot_zip_next (aUu F.slot_zip_next hT F.entry_zip_next
   (aMr hh o1 o2 hz ti to i1 i2 p1 p2 hend fun h' e kp he=>?_) (F.args_zip_next_1 _))))
 obtain⟨o,h1,h2⟩:=he;exact aU9 (wpAny_isInstance (T := "StopIteration") (b:=true) ⟨o,h1,h2⟩ isSubtype_stop (aUa (hQ _ kp)))
end
noncomputable abbrev yl1(h:Heap)(l:Addr):Heap:=h.push { cls:=.type "list_iterator",data:=.fields #[.ref l,.int 0 0] }
abbrev ym3(h:Heap)(l l':Addr):Heap:=(yl1 (yh1 h l) l').push { cls:=.type "tuple",data:=.seq #[.ref h.objs.size,.ref (yh1 h l).objs.size] }
abbrev ym4(h:Heap)(l l':Addr):Heap:=(ym3 h l l').push { cls:=.type "tuple",data:=.seq #[.none,.none] }
abbrev ym5(h:Heap)(l l':Addr):Heap:=(ym4 h l l').push { cls:=.type "zip",data:=.fields #[.none,.bool false,.bool false,.ref (yl1 (yh1 h l) l').objs.size,.ref (ym3 h l l').objs.size] }
def aE9(l l':Addr)(xs ys:Array Value):
  Meets (Builtin.«zip.__new__» ⟨[.type "zip",.ref l,.ref l'],[]⟩) (fun _ R s=>s.heap.IsTuple l xs/\s.heap.IsList l' ys/\R (.ok (.ret (.ref (ym4 s.heap l l').objs.size))) { s with heap:=ym5 s.heap l l' }):=
 .of_wp fun prog w A R s h=>by
  obtain⟨hp,g,d,tk,os⟩:=s;obtain⟨k1,k2,h⟩:=h;have hsub:=sub_zip;have f1:Heap.IsTuple (Shared.heap ⟨hp,g,d,tk,os⟩) l xs:=k1;have f2:Heap.IsList (Shared.heap ⟨yh1 hp l,g,d,tk,os⟩) l' ys:=Heap.IsList.push k2 _
  wp_walk using aVb f1,aUs f2
  exact⟨_,rfl,h⟩
section
variable {w:World}{A:Around}{E:Value->Shared->Prop}{s:Shared}
def XM{l l':Addr}{xs ys:Array Value}{Q:Value->Shared->Prop}(k1:s.heap.IsTuple l xs)(k2:s.heap.IsList l' ys)
  (h:∀ h',Z2 h' s.heap.objs.size .none->Tw h' (s.heap.objs.size+2) (.ref s.heap.objs.size) (.ref (s.heap.objs.size+1)) ->
   Tw h' (s.heap.objs.size+3) .none .none->h'.IsTupleIter s.heap.objs.size l 0->h'.IsListIter (s.heap.objs.size+1) l' 0 ->
   (∀ c o,s.heap.get? c=some o->h'.get? c=some o)->Q (.ref (s.heap.objs.size+4)) { s with heap:=h' }):
  wpAny (model prog w) A (call (.type "zip") [.ref l,.ref l']) Q E s:=by
 refine callType_new F.called_zip (by decide) (SU _ _) (NI _ _) (fun obj=>IC obj _ _) F.entry_zip_new (aE9 l l' xs ys) ⟨k1,k2,?_⟩;have e1:(yh1 s.heap l).objs.size=s.heap.objs.size+1:=aSj ..;have e2:(yl1 (yh1 s.heap l) l').objs.size=s.heap.objs.size+2:=by rw[aSj,e1]
 have e3:(ym3 s.heap l l').objs.size=s.heap.objs.size+3:=by rw[aSj,e2]
 have e4:(ym4 s.heap l l').objs.size=s.heap.objs.size+4:=by rw[aSj,e3]
 have g5:(ym5 s.heap l l').get? (ym4 s.heap l l').objs.size=some _:=aSh _ rfl;have g4:(ym5 s.heap l l').get? (ym3 s.heap l l').objs.size=some _:=aS6 _ (aSh _ rfl);have g3:(ym5 s.heap l l').get? (yl1 (yh1 s.heap l) l').objs.size=some _:=aS6 _ (aS6 _ (aSh _ rfl));have g2:(ym5 s.heap l l').get? (yh1 s.heap l).objs.size=some _:=aS6 _ (aS6 _ (aS6 _ (aSh _ rfl)));have g1:(ym5 s.heap l l').get? s.heap.objs.size=some _:=aS6 _ (aS6 _ (aS6 _ (aS6 _ (aSh _ rfl))));show _/\_;rw[e2,e3,e4] at g5;rw[e3] at g4;rw[e1,e2] at g3;rw[e1] at g2;rw[e4];exact⟨⟨_,g5,rfl⟩,h _ g5 g3 g4 ⟨_,g1,rfl,rfl⟩ ⟨_,g2,rfl,rfl⟩ fun c o x=>
  aS6 _ (aS6 _ (aS6 _ (aS6 _ (aS6 _ x))))⟩
end
def ItM(K:PySem.W.Frag)(a b:Addr):It:=
  ⟨fun i H=>∃ xs ys x y,SqT K H a xs/\SqL K H b ys/\xs[i]?=some x/\ys[i]?=some y,
   fun i H v H'=>∃ T x y,(∀ xs,SqT K H a xs->xs[i]?=some x)/\(∀ ys,SqL K H b ys->ys[i]?=some y)/\H T=none/\v=.ref T/\H'=upd H T (.tup [x,y]),
   fun i H=>∃ xs ys,SqT K H a xs/\SqL K H b ys/\(xs.length<=i\/ys.length<=i)⟩
def StM(n:Nat)(a b:Addr)(i:Nat)(h:Heap):Prop:=Z2 h n .none/\Tw h (n+2) (.ref n) (.ref (n+1))/\(∃ u v,Tw h (n+3) u v)/\h.IsTupleIter n a i/\h.IsListIter (n+1) b i
def xB{X:Cx}{pins:List (Addr × Obj)}{σ:St}{H:Hp}{s:Shared}{l c:Addr}{xs:List V}(I:Inv X pins σ H s)(q:SqL X.K H l xs)(f:cX X pins H c):l≠c:=by
 intro z;subst z;obtain⟨f0,_,_,f3,_⟩:=f;rcases q with q | ⟨o,its,n,hk,_⟩
 ·rcases q with q | ⟨o,q⟩<;>rw[f0] at q<;>cases q
 ·have hb:=I.mod.kin _ _ hk
  rcases f3 with f3 | f3
  ·exact I.ok.noex _ _ hb f3
  ·exact absurd (aSi (I.ok.bs _ _ hb).1) (aU1.mpr f3)
def NZ{X:Cx}{pins:List (Addr × Obj)}{σ:St}{H:Hp}{s:Shared}{l:Addr}{n:Nat}{xs:List V}(I:Inv X pins σ H s)(q:SqL X.K H l xs)(hf:∀ c∈([n,n+1,n+2,n+3,n+4]:List Addr),cX X pins H c):Of2 n l:=
 ⟨xB I q (hf _ (by simp)),xB I q (hf _ (by simp)),xB I q (hf _ (by simp)),xB I q (hf _ (by simp))⟩
def aMd{P:Program}{w:World}{K:PySem.W.Frag}{elts:List Expr}{k:Nat}{pos:Pos}(a b:Addr)(n:Nat):Turn P w K (.Tuple elts k pos) (ItM K a b) [n,n+1,n+2,n+3,n+4] (n+4) (StM n a b) where
 mem:=by simp
 obj:=fun i h st d hd=>by
  obtain⟨hz,hTI,⟨u,v,hTO⟩,h1,h2⟩:=st;simp only[aS7,aTk,aUp] at hd;have it:∀ {p q:Addr} {j:Nat},h.IsTupleIter p q j->∃ o,h.get? p=some o/\∀ v,o.data≠.cell v:=fun {p q j} hp=>by
   obtain⟨o,e,c,d⟩:=hp;rw[23]
  rcases hd with rfl | rfl | rfl | rfl | rfl
  ·exact it h1
  ·obtain⟨o,e,c,d⟩:=h2
   rw[23]
  ·exact⟨_,hTI,fun v z=>by cases (show Data.seq _ _=Data.cell v from z)⟩
  ·exact⟨_,hTO,fun v z=>by cases (show Data.seq _ _=Data.cell v from z)⟩
  ·exact⟨_,hz,fun v z=>by cases (show Data.fields _=Data.cell v from z)⟩
 keep:=fun i h h' st kp=>by
  rw[49]
 item:=by
  rw[1];rw[28];obtain⟨xs,ys,x,y,r1,r2,hx,hy⟩:=hg;obtain⟨its,rv,p,_⟩:=I.tuple r1;obtain⟨its',rv',p',_⟩:=I.list r2;obtain⟨u,hu,ru⟩:=rv.get hx;obtain⟨u',hu',ru'⟩:=rv'.get hy;have f1:=rC I r1 hf;have f2:=NZ I r2 hf;obtain⟨hz,hTI,⟨w1,w2,hTO⟩,h1,h2⟩:=st;refine aMt f1 f2 hz hTI hTO h1 h2 (show s.heap.IsTuple a its.toArray from p) p'.isList (by simpa using hu) (by simpa using hu') fun g a1 a2 a3 a4 a6 a7 kp=>⟨_,rfl,?_⟩;have lt:n+4<s.heap.objs.size:=aSi hz;refine wpAny_letOwnedTupleGo_zip (z:=n+4) (TI:=n+2) (TO:=n+3) a1 fun g' b1 sb=>?_;rw[61];have new:cO X.prog X.w (upd H s.heap.objs.size (.tup [x,y])) g' s.heap.objs.size (.tup [x,y]):=
   ⟨by rw[aUm];show 2<=16777216;decide,[u,u'],.cons ru (.cons ru' .nil),⟨_,gT,rfl,_,rfl⟩⟩
  have nz:∀ c∈([n,n+1,n+2,n+3,n+4]:List Addr),c≠s.heap.objs.size:=fun c hcm=>by
   simp only[aS7,aTk,aUp] at hcm;rcases hcm with rfl | rfl | rfl | rfl | rfl<;>exact aU0 (by lia)
  rw[43];refine⟨.ref s.heap.objs.size,_,I2,rfl,⟨_,x,y,fun q hq=>by rw[I.tuple_inj hq r1];exact hx,fun q hq=>by rw[I.list_inj hq r2];exact hy,I.hok.fresh (aTs _),rfl,rfl⟩,
   ⟨b1,up o3.a4 (kp _ _ o3 hTI),⟨_,_,up (bL (by lia)).1 a2⟩,let ⟨o,e,r⟩:=a3;⟨o,up (bL (by lia)).1 e,r⟩,let ⟨o,e,r⟩:=a4;⟨o,up (bL (by lia)).1 e,r⟩⟩,fun c hcm=>?_⟩
  rw[aW (nz c hcm)];exact (hf c hcm).1
 done:=by
  rw[1];rw[28];obtain⟨xs,ys,r1,r2,hx⟩:=hg;obtain⟨its,rv,p,_⟩:=I.tuple r1;obtain⟨its',rv',p',_⟩:=I.list r2;have f1:=rC I r1 hf;have f2:=NZ I r2 hf;obtain⟨hz,hTI,⟨w1,w2,hTO⟩,h1,h2⟩:=st;have e1:=rv.length;have e2:=rv'.length;have hend:its.toArray[i]?=none\/its'.toArray[i]?=none:=by
   rcases hx with hx | hx
   ·exact .inl (by simp;lia)
   ·exact .inr (by simp;lia)
  exact aMu (I.ok.hd hc) f1 f2 hz hTI hTO h1 h2 (show s.heap.IsTuple a its.toArray from p) p'.isList hend fun h' kp=>⟨rfl,BW (t':=s.toks) (fs:=[n,n+1,n+2,n+3,n+4]) I (fun b o hb q=>kp b o (rB hb) q) hf⟩
 self:=fun A i s Q E st h=>wpAny_pyIter_zip (z:=n+4) (TI:=n+2) (TO:=n+3) st.1 h
def aMl{K:PySem.W.Frag}{a b:Addr}{us ws:List T}:nI K (ItM K a b) [(.tup us,.ref a),(.lst ws,.ref b)] (kL us ws) false:=by
 intro H A hA i;obtain⟨a',xs,e,hs,hr⟩:=mF (hA _ aRz);obtain⟨b',ys,e',hs',hr'⟩:=(hA _ (aRy _ aRz)).sqL;cases e;cases e';refine⟨fun t ht=>?_,fun hi=>⟨xs,ys,hs,hs',?_⟩⟩
 ·unfold kL at ht
  obtain⟨u,w,hu,hw,rfl⟩:=List.getElem?_zipWith_eq_some.mp ht;obtain⟨x,hx,rx⟩:=hr.get hu;obtain⟨y,hy,ry⟩:=hr'.get hw;refine⟨⟨xs,ys,x,y,hs,hs',hx,hy⟩,fun v H' hv=>?_⟩;obtain⟨T,x',y',h1,h2,hT,rfl,rfl⟩:=hv;have q1:=h1 xs hs;have q2:=h2 ys hs';rw[hx] at q1;rw[hy] at q2;cases (aRv q1);cases (aRv q2);rw[72]
 ·rw[<- hr.length,<- hr'.length]
  unfold kL at hi;rw[List.length_zipWith] at hi;lia
section
variable {elts:List Expr}{k:Nat}
def iZa(K:PySem.W.Frag)(ta:TA):TI:=fun σ H R=>ta σ H fun vs H1=>∃ l l' xs ys,vs=[.ref l,.ref l']/\SqT K H1 l xs/\((SqT K H1 l' ys/\R (ItT K l l') H1)\/(SqL K H1 l' ys/\R (ItM K l l') H1))
def aI5{a b:Expr}{ta:TA}{p pos:Pos}(hg:Gl X "zip")(hm:X.mg "zip" = none)(ha:PA X [a,b] ta)(hs:starEach [a,b] X.env=[(false,eval a X.env),(false,eval b X.env)])(hs2:starEach [b] X.env=[(false,eval b X.env)]):PI X (.Tuple elts k p2) (.Call (.Name "zip" p) [a,b] [] pos) (iZa X.K ta):=by
 intro pins s σ H R I h;refine Call_ (qU I hg hm PyProof.Rows.boot_zip (PyProof.Rows.callWith_type1 (thn (ha pos pins s σ H _ I h) fun us s1 ⟨vs,H1,I1,r1,q1⟩=>?_) (hs.trans (by rw[hs2])) (by rw[hs2];rfl)));obtain⟨l,l',xs,ys,e,r1',q⟩:=q1;subst e;cases r1 with
 | cons t1 rr=>
  cases rr with
  | cons t2 rr=>
   cases rr;cases t1;cases t2;obtain⟨its,rv,p,_⟩:=I1.tuple r1';have fin:∀ b∈([s1.heap.objs.size,s1.heap.objs.size+1,s1.heap.objs.size+2,s1.heap.objs.size+3,s1.heap.objs.size+4]:List Addr),cX X pins H1 b:=fun b hb=>by
    have hb':s1.heap.objs.size<=b:=by
     simp only[aS7,aTk,aUp] at hb;rcases hb with rfl | rfl | rfl | rfl | rfl<;>lia
    exact I1.fpOk hb' (I1.hok.fresh hb')
   rcases q with ⟨r2',q⟩ | ⟨r2',q⟩
   ·obtain⟨its',rv',p',_⟩:=I1.tuple r2'
    refine XN (show s1.heap.IsTuple l its.toArray from p) (show s1.heap.IsTuple l' its'.toArray from p') fun h' a1 a2 a3 a4 a5 keep=>wpAny_pyIter_zip (z:=s1.heap.objs.size+4) (TI:=s1.heap.objs.size+2) (TO:=s1.heap.objs.size+3) a1 ?_;exact⟨_,_,_,_,H1,rfl,I1.kept (t':=s1.toks) keep,aMe l l' s1.heap.objs.size,⟨a1,a2,⟨_,_,a3⟩,a4,a5⟩,fin,q⟩
   ·obtain⟨its',rv',p',_⟩:=I1.list r2'
    refine XM (show s1.heap.IsTuple l its.toArray from p) p'.isList fun h' a1 a2 a3 a4 a5 keep=>wpAny_pyIter_zip (z:=s1.heap.objs.size+4) (TI:=s1.heap.objs.size+2) (TO:=s1.heap.objs.size+3) a1 ?_;exact⟨_,_,_,_,H1,rfl,I1.kept (t':=s1.toks) keep,aMd l l' s1.heap.objs.size,⟨a1,a2,⟨_,_,a3⟩,a4,a5⟩,fin,q⟩
end
noncomputable def qS:T->Option (List T)
 | .lst ts=>some ts
 | .tup ts=>some ts
 | _=>none
@[simp] theorem aN3(ts:List T):qS (.lst ts)=some ts:=rfl
@[simp] theorem aN4(ts:List T):qS (.tup ts)=some ts:=rfl
def fLT(f:Rho->Option T):Rho->Option (List T):=fun ρ=>(f ρ).bind qS
@[simp] theorem JO(f:Rho->Option T)(ρ:Rho):fLT f ρ=(f ρ).bind qS:=id rfl
section
variable {e e':Expr}{f g:Rho->Option T}{n:Bool}{l:Nat}{x:Str}{elts:List Expr}{k:Nat}
def aBj(hx:x = "zip")(hg:Gl X x)(hm:X.mg x=none)(he:GE X B fl e f n l)(he':GE X B fl e' g n' l')(hs:starEach [e,e'] X.env=[(false,eval e X.env),(false,eval e' X.env)]:=by rfl)(hs2:starEach [e'] X.env=[(false,eval e' X.env)]:=by rfl):
  GI X B fl (.Tuple elts k p2) (.Call (.Name x p') [e,e'] [] pos) (AY (fTp f) (fLT g)) (min l l') false:=by
 subst hx;refine DL (aI5 hg hm (cS he (cS he' cF hs2) (hs.trans (by rw[hs2]))) hs hs2) ?_;rintro σ H R ⟨Ex,ρ,M,ts,S,hf,q⟩;obtain⟨us,hu,hf⟩:=bind_some hf;cases hw:fLT g ρ with
 | none=>rw[hw] at hf;cases hf
 | some ws=>
  rw[hw] at hf;rw[4];obtain⟨t1,h1,h1'⟩:=bind_some hu;obtain⟨t2,h2,h2'⟩:=bind_some hw;have k1:t1=.tup us:=by cases t1<;>first | (cases h1';done) | (cases (aRv h1');rfl)
  have k2:t2=.tup ws\/t2=.lst ws:=by cases t2<;>first | (cases h2';done) | (cases (aRv h2');first | exact .inl rfl | exact .inr rfl)
  subst k1;refine⟨Ex,ρ,M,[.tup us,t2],S,by simp only[aB,aD,h1,h2,zz2],fun vs H1 s1 r1=>?_⟩;obtain⟨y,r,rfl,ry,r2⟩:=r1;obtain⟨z,rfl,rz⟩:=eM r2;obtain⟨p,xs,rfl,m1,_⟩:=mF ry;have wk:∀ a,Ad B H M (min l (min l' 3)) a->Ad B H M (min l l') a:=fun a h=>⟨fun z=>h.1 (by lia),fun z=>h.2.1 (by lia),fun z=>h.2.2 (by lia)⟩;rcases k2 with rfl | rfl
  ·obtain⟨p2,ys,rfl,m2,_⟩:=mF rz
   refine⟨p,p2,xs,ys,rfl,m1,.inl ⟨m2,q _ H1 [(.tup us,.ref p),(.tup ws,.ref p2)] s1 (fun pv hp=>?_) aMm⟩⟩;rcases aS7.mp hp with rfl | hp
   ·exact ry.weak wk
   ·cases aTl.mp hp
    exact rz.weak wk
  ·obtain⟨p2,ys,rfl,m2,_⟩:=rz.sqL
   refine⟨p,p2,xs,ys,rfl,m1,.inr ⟨m2,q _ H1 [(.tup us,.ref p),(.lst ws,.ref p2)] s1 (fun pv hp=>?_) aMl⟩⟩;rcases aS7.mp hp with rfl | hp
   ·exact ry.weak wk
   ·cases aTl.mp hp
    exact rz.weak wk
end
def kY:T->T->Option T
 | .str x,.tup ts=>(cI ts).map fun l=>.bl (l.contains x)
 | _,_=>none
def aBm{K:PySem.W.Frag}:GOp K (rIn K false) kY:=by
 intro x y t h;cases x<;>first | (cases h;done) | skip
 rename_i i;cases y<;>first | (cases h;done) | skip
 rename_i us;have h:(cI us).map (fun ns=>T.bl (ns.contains i))=some t:=h;cases ea:cI us with
 | none=>rw[ea] at h;cases h
 | some ns=>
  rw[ea] at h;cases (aRv h);cases nJ ea;refine⟨rfl,fun H A A' vx vy rx ry Q q=>?_⟩;cases (show _=_ from rx);obtain⟨p,xs,rfl,h1,h2⟩:=ry.sqT;cases pK h2;refine⟨p,_,rfl,.inr h1,rfl,AZ ns,?_⟩;rw[BU];exact q
section
variable {a b:Expr}{f g:Rho->Option T}{n:Bool}{l:Nat}
def LW(ha:GE X B fl a f n l)(hb:GE X B fl b g n' l')(hm:behindInMarks .In b=false:=by rfl):GT X B fl (.Compare a [.In] [b] pos) (fB (f2 f g kY)):=qQ OF aBm ha hb hm
end
noncomputable def fOf(K:PySem.W.Frag)(x:Str):Addr:=match PySem.W.nsIn K mainGlobals x with | some (some (.ref f))=>f | _=>0
noncomputable def mOf(o:Option Obj):Value × Value × Option Addr × Array (Option Value) × Value × Value × Value × Option Addr × Value:=match o with | some ⟨oc,od,.func f,sl⟩=>(f.pyModule,f.code,f.annotations,sl,oc,f.kwdefaults,f.doc,od,f.closureTuple) | _=>(.none,.none,none,#[],.none,.none,.none,none,.none)
def eOf(x:Str)(st:Stmt)(o:Option Obj):Option Obj:=some ⟨(mOf o).2.2.2.2.1,(mOf o).2.2.2.2.2.2.2.1,.func (PySem.W.fnOf x x (defArgs st) (defBody st) (defScope st) .none (mOf o).2.2.2.2.2.1 (mOf o).2.2.2.2.2.2.1 (mOf o).1 (mOf o).2.2.1 (mOf o).2.1 (mOf o).2.2.2.2.2.2.2.2),(mOf o).2.2.2.1⟩
abbrev DE(K:PySem.W.Frag)(x:Str)(st:Stmt):Prop:=
 (PySem.W.nsIn K mainGlobals x,K.lookup (fOf K x),PySem.W.codeIn K (mOf (K.lookup (fOf K x))).2.1 x,PySem.W.keepIn K (.ref (fOf K x)))=(some (some (.ref (fOf K x))),eOf x st (K.lookup (fOf K x)),true,true)
variable {mg:Str->Option Value}{base:Heap}
section
variable {P:Program}{w:World}{K:PySem.W.Frag}{h:Heap}{x:Str}{st:Stmt}{CX:CXT}{k:Nat}{sp:Sp}
def DE.at(e:DE K x st)(X:K.In h)(G0:h.Ns mainGlobals mg):∃ f kV dc pm an cd ct,Fun K x x st f (PySem.W.fnOf x x (defArgs st) (defBody st) (defScope st) .none kV dc pm an cd ct)/\mg x=some (.ref f)/\PySem.W.keepIn K (.ref f)=true:=by
 obtain⟨e1,e⟩:=Prod.mk.inj e;obtain⟨e2,e⟩:=Prod.mk.inj e;obtain⟨e3,e4⟩:=Prod.mk.inj e;generalize fOf K x=f at *;generalize hm:mOf (K.lookup f)=m at *;unfold eOf at e2;rw[hm] at e2;exact⟨f,_,_,_,_,_,_,KM e2 e3 e4,aU8 X G0 e1,e4⟩
def dM(P:Program)(w:World)(base:Heap)(e:DE K x st)(X:K.In h)(G0:h.Ns mainGlobals mg)
  (ok:∀ f fd,Fun K x x st f fd->FnOk P w K mg base CX k f fd ps sp)
  (hb:∀ (kV doc pm:Value) (an:Option Addr) (cdv ct:Value) (us:List Value),us.length=ps.length->bindArgs (PySem.W.fnOf x x (defArgs st) (defBody st) (defScope st) .none kV doc pm an cdv ct) ⟨us,[]⟩=pure (ps.zip us)):∃ f fd,FnOk P w K mg base CX k f fd ps sp/\mg x=some (.ref f)/\PySem.W.keepIn K (.ref f)=true/\dE K fd ps []:=by
 obtain⟨f,kV,dc,pm,an,cd,ct,U,m,kp⟩:=e.at X G0;exact⟨f,_,ok _ _ U,m,kp,U.binds hb⟩
end
noncomputable def fsB(N ps:List Str)(sc:Scope):Bool:=(match sc.kind with | .function=>true | _=>false) && !sc.isCoroutine && !sc.isGenerator&&decide N.Nodup&&(N.take ps.length == ps)&&ps.all (fun x=>decide (sc.names.lookup x=some .local\/sc.names.lookup x=some .cell))&&sc.names.all (fun y=>decide (y.2≠.free))
def bH{N ps:List Str}{sc:Scope}(h:fsB N ps sc=true):FnScope N ps sc:=by
 unfold fsB at h;simp only[aSb,Bool.not_eq_true'] at h;obtain⟨⟨⟨⟨⟨⟨h1,h2⟩,h3⟩,h4⟩,h5⟩,h6⟩,h7⟩:=h;refine⟨?_,h2,h3,aUe h4,beq_iff_eq.mp h5,fun x hx=>aUe (aS1.mp h6 x hx),fun y hy=>aUe (aS1.mp h7 y hy)⟩;cases e:sc.kind<;>first | rfl | (rw[e] at h1;cases h1)
noncomputable def flB(fl:List Nat)(N ps:List Str):Bool:=(fl.length == N.length)&&(List.range ps.length).all fun i=>fl.getD i 1 == 1
def JV{fl:List Nat}{N ps:List Str}(h:flB fl N ps=true):fl.length=N.length:=beq_iff_eq.mp (aSc.mp h).1
def JW{fl:List Nat}{N ps:List Str}(h:flB fl N ps=true):∀ i,i<ps.length->fl.getD i 1=1:=fun i hi=>beq_iff_eq.mp (aS1.mp (aSc.mp h).2 i (aS2.mpr hi))
section
variable {P:Program}{w:World}{K:PySem.W.Frag}{x qual:Str}{st:Stmt}{f:Addr}{fd:FuncData}{N:List Str}{k:Nat}{n:Bool}{l:Nat}
def gF{run:Rho->Option Out}(fl:List Nat)(Fu:Fun K x qual st f fd)(S:FnScope N ps (defScope st))
  (hb:∀ (cdv:Value) (A:Around) (outer:List Env) (s:Shared) (H:Hp) (E:XK),Room k (A.deeper (envOfC qual (defScope st) s.heap.objs.size f cdv))->GSs (cQ CX0 P w K mg base N qual (defScope st) f cdv A outer s H E).nox H fl n l (defBody st) run)
  (h:flB fl N ps=true:=by rfl) (h4:l≠4:=by decide):FnOk P w K mg base CX0 (k+1) f fd ps (spT K (Fof ps.length (N.length-ps.length) run) n l):=gfn Fu S (JV h) (JW h) (fun ts t h=>HI h) hb (fun ts t h=>HJ h) h4
def gFL{run:Rho->Option (Out ⊕ Str)}(fl:List Nat)(Fu:Fun K x qual st f fd)(S:FnScope N ps (defScope st))
  (hb:∀ (cdv:Value) (A:Around) (outer:List Env) (s:Shared) (H:Hp) (E:XK),Room k (A.deeper (envOfC qual (defScope st) s.heap.objs.size f cdv))->sV (cQ (CX1 P w) P w K mg base N qual (defScope st) f cdv A outer s H E) E H fl n l (defBody st) run)
  (h:flB fl N ps=true:=by rfl) (h4:l≠4:=by decide):FnOk P w K mg base (CX1 P w) (k+1) f fd ps (spX K (qB ps.length (N.length-ps.length) run) n l):=aBd Fu S (JV h) (JW h) (fun ts t h=>VP h) hb (fun ts t h=>VQ h) h4
noncomputable def flW(p:Nat)(fl:List Nat)(N ps:List Str):Bool:=(fl.length == N.length)&&(List.range ps.length).all (fun i=>i == p||fl.getD i 1 == 1)&&(fl.getD p 1 == 0)&&decide (p<ps.length)
def gFW{run:Rho->Option OW}(p:Nat)(fl:List Nat)(Fu:Fun K x qual st f fd)(S:FnScope N ps (defScope st))
  (hb:∀ (B:Hp) (a:Addr) (cdv:Value) (A:Around) (outer:List Env) (s:Shared) (H:Hp) (E:XK),Room k (A.deeper (envOfC qual (defScope st) s.heap.objs.size f cdv))->jA (cQ (CX1 P w) P w K mg base N qual (defScope st) f cdv A outer s H E) E B fl p a (defBody st) run)
  (h:flW p fl N ps=true:=by rfl):FnOk P w K mg base (CX1 P w) (k+1) f fd ps (spW p K (gA ps.length (N.length-ps.length) run)):=by
 unfold flW at h;simp only[aSb] at h;obtain⟨⟨⟨h1,h2⟩,h3⟩,h4⟩:=h;refine aBe p Fu S (beq_iff_eq.mp h1) (fun i hi hp=>?_) (beq_iff_eq.mp h3) (aUe h4) hb;have:=aS1.mp h2 i (aS2.mpr hi);rw[Bool.or_eq_true] at this;rcases this with z | z
 ·exact absurd (beq_iff_eq.mp z) hp
 ·exact beq_iff_eq.mp z
end
inductive Rds1 (Fn:List T->Option T):List Str->Option (List Str × List T)->Option (List Str × List T)->Prop
 | nil {st}:Rds1 Fn [] st st
 | skip {r:Str} {rs:List Str} {st st'} (h:kK r=true) (k:Rds1 Fn rs st st'):Rds1 Fn (r::rs) st st'
 | beg {r:Str} {rs:List Str} {ws:List Str} {st'} (h:kK r=false) (b:sH Fn r ws) (k:Rds1 Fn rs (some (ws,[])) st'):Rds1 Fn (r::rs) none st'
def Rds1.det{Fn:List T->Option T}{rs:List Str}{st a b:Option (List Str × List T)}(h:Rds1 Fn rs st a):Rds1 Fn rs st b->a=b:=by
 induction h with
 | nil=>intro k;cases k;rfl
 | skip h k ih=>
  intro q;cases q with
  | skip h' k'=>exact ih k'
  | beg h' _ _=>rw[h] at h';cases h'
 | beg h b k ih=>
  intro q;cases q with
  | skip h' k'=>rw[h] at h';cases h'
  | beg h' b' k'=>rw[<- b.det b'] at k';exact ih k'
def GD(K:PySem.W.Frag)(C:Addr)(Fn:List T->Option T):Sp:=fun vs H Q _=>∃ text ws tabs,vs=[.str text]/\text.length<=sizeLine/\(Txt.split text (Str.ofString "\n")).length ≤ sizeLine ∧ Rds1 Fn (Txt.split text (Str.ofString "\n")) none (some (ws,tabs)) /\
 ∀ p lt H',PgAt K C H H' p lt ws tabs->Q (.ref p) H'
def sX(Fn:List T->Option T)(text:Str)(p:List Str × List T):Prop:=text.length<=sizeLine/\(Txt.split text (Str.ofString "\n")).length ≤ sizeLine ∧ Rds1 Fn (Txt.split text (Str.ofString "\n")) none (some p)
structure CalR1(P:Program)(w:World)(K:PySem.W.Frag)(mg:Str->Option Value)(base:Heap)(x:Str)(k:Nat)(Fn:List T->Option T):Prop where
 ex:∃ C f fd,FnOk P w K mg base CX0 k f fd ["text"] (GD K C Fn)/\mg x=some (.ref f)/\PySem.W.keepIn K (.ref f)=true/\dE K fd ["text"] []/\PgTxt K mg C
section
variable {e:Expr}{l k:Nat}{x:Str}{Fn:List T->Option T}
noncomputable def pG(Fn:List T->Option T):List T->Option T
 | [.str text]=>open Classical in if h:∃ p,sX Fn text p then some (.pg [.lst (tW h.choose.1),.lst h.choose.2,.lst []]) else none
 | _=>none
def aHg{text:Str}{p:List Str × List T}(h:sX Fn text p):pG Fn [.str text]=some (.pg [.lst (tW p.1),.lst p.2,.lst []]):=by
 have k:∃ p,sX Fn text p:=⟨p,h⟩;unfold pG;dsimp only;rw[dif_pos k,aRv (k.choose_spec.2.2.det h.2.2)]
def aHh{ts:List T}{t:T}(h:pG Fn ts=some t):∃ text p,ts=[.str text]/\sX Fn text p/\t=.pg [.lst (tW p.1),.lst p.2,.lst []]:=by
 unfold pG at h;split at h
 ·rename_i text
  split at h
  ·rename_i k
   exact⟨text,_,rfl,k.choose_spec,(aRv h).symm⟩
  ·cases h
 ·cases h
def aAw(c:CalR1 X.prog X.w X.K X.mg X.base x k Fn)(hr:Room k X.A)(hg:Gl X x)(ha:GA X B fl [e] fa l)(pk:∀ C,X.mg "Page" = some (.ref C)->PgK X.K C)(hdb:aVi x:=by decide)
  (he:starEach [e] X.env=(false,eval e X.env)::starEach [] X.env:=by rfl) (hpl:(backTo pos (starEach [] X.env)).any (·.1)=false:=by rfl):GE X B fl (.Call (.Name x p') [e] [] pos) (aG fa (pG Fn)) true 3:=by
 obtain⟨C,f,fd,FO,hm,hk,hb,Tx⟩:=c.ex;refine bC (pI FO hr hg hm hk hb .nil rG ha hdb he hpl) ?_;rw[0];rw[5];obtain⟨text,⟨ws,tabs⟩,rfl,⟨h1,h2,R⟩,rfl⟩:=aHh hf;refine⟨Ex,ρ,M,_,S,hts,fun vs H1 s1 r1=>?_⟩;show GD X.K C Fn (vs++[]) H1 _ E0;rw[aSp];obtain⟨v,rfl,rv⟩:=eM r1;cases (show v=.str text from rv);refine⟨text,ws,tabs,rfl,h1,h2,R,fun p lt H' Pg=>?_⟩;obtain⟨dx,ln,la,vs,hp,hln,hlt,hla,rp,hBl,sB,n1,n2,hvl,fN,fA⟩:=Pg;have ad:∀ b,H1 b=none->Ad B H M 3 b:=fun b x=>⟨fun _ z=>(S.mB b z).2 (s1.free x),fun _=>S.same.free (s1.free x),fun _=>s1.free x⟩;exact q _ H' (s1.trans sB) ⟨p,C,dx,_,_,_,rfl,pk C Tx.mgC,.inl hp,.ref ln,_,rfl,⟨ln,_,rfl,.inl ⟨ad ln fN,.inl hln⟩,EA _ _ _ ws⟩,.ref lt,_,rfl,⟨lt,vs,rfl,.inl ⟨ad lt hBl,.inl hlt⟩,rp.weak fun b x=>ad b x.1⟩,.ref la,_,rfl,⟨la,[],rfl,.inl ⟨ad la fA,.inl hla⟩,rfl⟩,rfl⟩
end
def aMp(j:Nat)(r1:Rho->Option (Out ⊕ Str))(r:Rho->Option OW):Rho->Option (Out ⊕ Str):=fun ρ=>(r1 ρ).bind fun o=>match o with
 | .inl (.nx ρ')=>(eX j ρ').bind fun _=>(r ρ').bind fun o=>(match o with | .rt t _=>some (.inl (.rt t)) | .ex nm=>some (.inr nm) | .nx _=>none)
 | .inr nm=>some (.inr nm)
 | _=>none
@[simp] theorem aNz(j:Nat)(r1:Rho->Option (Out ⊕ Str))(r:Rho->Option OW)(ρ:Rho):aMp j r1 r ρ=(r1 ρ).bind fun o=>match o with
 | .inl (.nx ρ')=>(eX j ρ').bind fun _=>(r ρ').bind fun o=>(match o with | .rt t _=>some (.inl (.rt t)) | .ex nm=>some (.inr nm) | .nx _=>none)
 | .inr nm=>some (.inr nm)
 | _=>none:=id rfl
def YL(i:Nat)(f:Rho->Option T)(g:Rho->Option ((T × Rho) ⊕ Str)):Rho->Option ((T × Rho) ⊕ Str):=fun ρ=>(eX i ρ).bind fun _=>(f ρ).bind fun t1=>(g ρ).bind fun o=>match o with
 | .inl r=>(match t1,r.1 with | .lst [.str w],.lst ys=>if ys.length<cap then some (.inl (.tup (.str w::ys),r.2)) else none | _,_=>none)
 | .inr nm=>some (.inr nm)
@[simp] theorem aMz(i:Nat)(f:Rho->Option T)(g:Rho->Option ((T × Rho) ⊕ Str))(ρ:Rho):YL i f g ρ=(eX i ρ).bind fun _=>(f ρ).bind fun t1=>(g ρ).bind fun o=>match o with
 | .inl r=>(match t1,r.1 with | .lst [.str w],.lst ys=>if ys.length<cap then some (.inl (.tup (.str w::ys),r.2)) else none | _,_=>none)
 | .inr nm=>some (.inr nm):=id rfl
end G
namespace My
open PySem PySem.Spec PyProof.Rows L2 G
noncomputable def top(i:Nat):Stmt:=PySem.Challenge.pw_groupcost_k90_answers_written.main.body.getD i (.Pass ⟨0,0,0,0⟩)
set_option hygiene false
local macro_rules
 | `(ZA $a0)=>`(@tP _ _ _ _ _ _ _ (@wG _ _ _ _ _ _ _ _ (@wF _ _ _ _ _ _ _ _ _ $a0 (by rfl)) ))
 | `(ZB $a0 $a1)=>`(@BN _ _ _ _ _ _ _ _ _ _ _ _ $a0 $a1 nd (by rfl) (Or.inl (by rfl)) (by rfl) (by rfl) (by trivial))
 | `(ZC $a0 $a1 $a2)=>`(@BO _ _ _ _ _ _ _ _ _ $a0 (@BO _ _ _ _ _ _ _ _ _ $a1 $a2 ))
 | `(ZD $a0 $a1)=>`(@BI _ _ _ _ _ _ _ _ _ _ _ _ (dY $a0 ) $a1 (by exact fun _ _=>rfl))
 | `(ZE $a0)=>`(dY $a0)
 | `(ZF $a0 $a1)=>`(BF $a0 (hr.mono (by decide)) (by rfl) $a1)
 | `(ZG $a0 $a1 $a2 $a3)=>`(@KS _ _ _ _ _ _ _ _ _ _ _ _ _ _ _ _ _ _ _ _ $a0 $a1 (by decide) (by rfl) $a2 (by rfl) (by rfl) $a3 (by intro _;rfl))
 | `(ZH $a0)=>`(cS (dY $a0 ) cF)
 | `(ZI $a0 $a1)=>`(@BM _ _ _ _ _ _ _ _ _ _ _ _ $a0 $a1 BP)
 | `(ZJ $a0)=>`(@LZ _ _ _ _ _ _ _ $a0 (by intro _;rfl))
 | `(ZK $a0 $a1)=>`(AL (by kernel_rfl) (N':=$a0 ) (src:=$a1 ))
 | `(ZL $a0 $a1)=>`(@aAq _ _ _ _ _ _ _ _ _ _ _ _ $a0 $a1)
 | `(ZM $a0)=>`(@GE.sc _ _ _ _ _ _ _ $a0)
 | `(ZN $a0 $a1)=>`(cS $a0 (cS $a1 cF))
 | `(ZO $a0 $a1)=>`(@LU _ _ _ _ _ _ _ _ _ _ _ _ hu (dY $a0 ) $a1)
 | `(ZP $a0)=>`(cS $a0 cF)
 | `(ZQ $a0)=>`(@GE.sc _ _ _ _ _ _ _ (dY $a0 ))
 | `(ZR $a0)=>`(JX (by kernel_rfl) (fl':=$a0 ))
 | `(ZS $a0)=>`(@wF _ _ _ _ _ _ _ _ _ $a0 (by rfl))
 | `(ZT $a0 $a1)=>`(@aA8 _ _ _ _ _ _ _ _ _ _ _ _ $a0 $a1)
 | `(ZU $a0)=>`(@tN _ _ _ _ _ _ _ $a0)
 | `(ZV $a0 $a1 $a2)=>`(@LR _ _ _ _ _ _ _ _ _ _ _ $a0 $a1 nd (by rfl) $a2 (by rfl) (by rfl) (by trivial))
 | `(ZW $a0)=>`(@tL _ _ _ _ _ _ _ _ _ _ _ _ _ (by rfl) aD1 (by rfl) aO0 (by rfl) aOe PyProof.Rows.boot_tuple $a0 (by decide) (by decide) (by rfl) (by rfl) (by rfl))
 | `(ZX $a0 $a1)=>`(@BO _ _ _ _ _ _ _ _ _ $a0 $a1)
 | `(ZY $a0)=>`(wE (by rfl) (by rfl) aO1 $a0)
 | `(ZZ $a0 $a1)=>`(@aAe _ _ _ _ _ _ _ _ _ _ _ _ $a0 $a1)
 | `(Za $a0)=>`(@tL _ _ _ _ _ _ _ _ _ _ _ _ _ (by rfl) aCy (by rfl) aO0 (by rfl) aOw PyProof.Rows.boot_int $a0 (by decide) (by decide) (by rfl) (by rfl) (by rfl))
 | `(Zb $a0)=>`(@tL _ _ _ _ _ _ _ _ _ _ _ _ _ (by rfl) aD0 (by rfl) aO0 (by rfl) aOh PyProof.Rows.boot_str $a0 (by decide) (by decide) (by rfl) (by rfl) (by rfl))
 | `(Zc $a0)=>`(@tP _ _ _ _ _ _ _ (@wG _ _ _ _ _ _ _ _ $a0 ))
 | `(Zd $a0)=>`(aC7 fX aO2 (by rfl) (by rfl) (by rfl) $a0)
 | `(Ze $a0 $a1)=>`(@LO _ _ _ _ _ _ _ _ $a0 $a1 (by rfl) (by rfl))
 | `(Zf $a0 $a1 $a2 $a3 $a4)=>`(aBa $a0 $a1 $a2 $a3 (by rfl) $a4 (by rfl))
 | `(Zg $a0 $a1 $a2 $a3 $a4)=>`(cS $a0 (cS $a1 (cS $a2 (cS $a3 $a4 )) ))
 | `(Zh $a0 $a1)=>`(cS $a0 (cS (dY $a1 ) cF))
 | `(Zi $a0 $a1)=>`(@aAr _ _ _ _ _ _ _ _ _ _ _ _ $a0 $a1)
 | `(Zj $a0 $a1)=>`((fun cl C s H ex=>⟨$a0,$a1⟩))
 | `(Zk $a0)=>`(@LO _ _ _ _ _ _ _ _ $a0 aBq (by rfl) (by rfl))
 | `(Zl $a0 $a1 $a2)=>`(@BN _ _ _ _ _ _ _ _ _ _ _ _ $a0 $a1 nd (by rfl) $a2 (by rfl) (by rfl) (by trivial))
 | `(Zm $a0 $a1 $a2)=>`(cS $a0 (cS (dY $a1 ) $a2 ))
 | `(Zn $a0 $a1)=>`(@aA9 _ _ _ _ _ _ _ _ _ _ _ _ _ $a0 $a1)
 | `(Zo $a0 $a1)=>`(@LX _ _ _ _ _ _ _ _ _ _ _ _ hu $a0 $a1)
 | `(Zp $a0 $a1)=>`(@wI _ _ _ _ _ _ _ _ _ $a0 $a1)
 | `(Zq $a0)=>`(LT (aC8 $a0 (by rfl)))
 | `(Zr $a0 $a1)=>`(@BI _ _ _ _ _ _ _ _ _ _ _ _ $a0 $a1 (by exact fun _ _=>rfl))
 | `(Zs $a0 $a1 $a2 $a3)=>`(@aBs _ _ _ _ _ _ _ _ _ $a0 _ _ _ _ _ PassesOwn.never (by rfl) $a1 nd (by rfl) $a2 $a3 (by rfl) (by intro _;rfl) (by trivial))
 | `(Zt $a0)=>`(aB3 (by rfl) (by rfl) aOh PyProof.Rows.boot_str $a0)
 | `(Zu $a0)=>`(@tL _ _ _ _ _ _ _ _ _ _ _ _ _ (by rfl) aCz (by rfl) aO0 (by rfl) aQ6 PyProof.Rows.boot_list $a0 (by decide) (by decide) (by rfl) (by rfl) (by rfl))
 | `(Zv $a0)=>`(@tL _ _ _ _ _ _ _ _ _ _ _ _ _ (by rfl) aCx (by rfl) aO0 (by rfl) aP7 PyProof.Rows.boot_bool $a0 (by decide) (by decide) (by rfl) (by rfl) (by rfl))
 | `(Zw $a0 $a1)=>`(@LU _ _ _ _ _ _ _ _ _ _ _ _ hu $a0 $a1)
 | `(Zx $a0 $a1 $a2)=>`(cS $a0 (cS $a1 $a2 ))
 | `(Zy $a0)=>`(@aBp _ _ _ _ _ _ _ _ _ $a0 (by rfl))
 | `(Zz $a0 $a1 $a2)=>`(qP $a0 (qP $a1 $a2 ))
 | `(Z0 $a0 $a1)=>`(@aAc _ _ _ _ _ _ _ _ _ _ _ _ $a0 $a1)
 | `(Z1 $a0)=>`(aBh (by rfl) (by rfl) aO7 $a0)
 | `(Z2 $a0 $a1 $a2)=>`(aC9 $a0 $a1 nd (by rfl) $a2 (by rfl))
 | `(Z3 $a0)=>`(@aBo _ _ _ _ _ _ _ $a0 (by rfl) (by trivial) (by rfl) (by decide) (by decide))
 | `(Z4 $a0)=>`(@tP _ _ _ _ _ _ _ $a0)
 | `(Z5 $a0 $a1)=>`(@aBk _ _ _ _ _ _ nd (by rfl) $a0 $a1 (by trivial) (by rfl))
 | `(Z6 $a0)=>`(@LY _ _ _ _ _ _ $a0)
 | `(Z7 $a0 $a1)=>`(aC4 $a0 $a1 LS)
 | `(Z8 $a0)=>`(@aB6 _ _ _ _ _ _ _ _ $a0)
 | `(Z9 $a0)=>`(@aAt _ _ _ _ _ _ _ _ _ $a0)
 | `(ZAA $a0 $a1 $a2)=>`(nR (nR $a0 $a1 ) $a2)
 | `(ZAB $a0)=>`(@GW.gt _ _ _ _ _ $a0)
 | `(ZAC $a0)=>`(@BQ _ _ _ _ _ _ $a0)
 | `(ZAD $a0 $a1)=>`(@aAv _ _ _ _ _ _ _ _ _ _ _ _ $a0 $a1)
 | `(ZAE $a0)=>`(@BH _ _ _ _ _ $a0 (by rfl) aOb (by decide))
 | `(ZAF $a0 $a1)=>`(@LV _ _ _ _ _ _ _ _ _ _ _ _ $a0 $a1)
 | `(ZAG $a0)=>`(KP (by rfl) (by rfl) (by rfl) aOf $a0)
 | `(ZAH $a0)=>`(LG (dY $a0 ))
 | `(ZAI $a0)=>`(aBb $a0 (by rfl))
 | `(ZAJ $a0)=>`(@aAm _ _ _ _ _ $a0 (by rfl) (by decide +kernel))
 | `(ZAK $a0 $a1)=>`(@aAf _ _ _ _ _ _ _ _ _ _ _ _ hu $a0 $a1)
 | `(ZAL $a0 $a1)=>`(aA5 $a0 (by decide) $a1)
 | `(ZAM $a0 $a1)=>`(@aB4 _ _ _ _ _ _ _ _ _ _ _ _ $a0 $a1)
 | `(ZAN $a0)=>`(aAp (by rfl) (by rfl) aO1 $a0)
 | `(ZAO $a0)=>`(LT $a0)
 | `(ZAP $a0)=>`(@aBg _ _ _ _ _ _ _ _ $a0)
 | `(ZAQ $a0 $a1)=>`(@aAy _ _ _ _ _ _ _ _ _ _ _ _ $a0 $a1)
 | `(ZAR $a0 $a1)=>`(@aCd _ _ _ _ _ _ _ _ _ _ _ _ $a0 $a1)
 | `(ZAS $a0)=>`(aA7 (by rfl) (by rfl) aR6 $a0)
 | `(ZAT $a0 $a1)=>`(@aAx _ _ _ _ _ _ _ _ _ _ _ $a0 $a1)
 | `(ZAU $a0 $a1)=>`(@aBy _ _ _ _ _ _ _ _ _ _ PassesOwn.never $a0 $a1)
 | `(ZAV $a0)=>`(@GE.flt _ _ _ _ _ _ $a0)
 | `(ZAW $a0)=>`((fun cl C s H ex XE hp=>$a0))
 | `(ZAX $a0)=>`(@aAs _ _ _ _ _ _ _ _ $a0)
set_option hygiene true
set_option maxRecDepth 100000
variable {P:Program}{w:World}{K:PySem.W.Frag}{mg:Str->Option Value}{base:Heap}{f:Addr}
abbrev EK:Stmt:=top 90
def RG:FnScope ["script","k","cell"] ["script","k"] (defScope EK):=bH (by kernel_rfl)
def yE:Rho->Option Out:=
 aN (aZ 2 (fC (.int 0)))
  (aN (rIf (fB (f2 (aG (aB (aA 0) aD) cN) (fC (.int 0)) oGt)) (aZ 2 (f2 (f2 (aA 0) (f2 (aA 1) (aG (aB (aA 0) aD) cN) bE) oIx) (fC (.int 2147483647)) bE)) bJ)
  (aS (f2 (f2 (f2 (f2 (aA 2) (f2 (fC (.int 7919)) (aA 1) bM) bU) (fC (.int 1)) bU) (f2 (fC (.int 48271)) (f2 (f2 (fC (.int 2)) (aA 1) bM) (aA 1) bM) bU) bM) (fC (.int 2147483647)) bE)))
def fZ:List T->Option T:=Fof 2 1 yE
def UH(t0 t1:T):fZ [t0,t1]=(yE [some t0,some t1,none]).bind bQ:=rfl
def aG2{fd:FuncData}(aO1:mg "len" = none)(Fu:Fun K "_law_mixed" "_law_mixed" EK f fd):
  FnOk P w K mg base CX0 1 f fd ["script","k"] (spT K fZ false 3):=
 gF [1,1,1] Fu RG (fun cdv A outer s H E hr=>by
  have nd:=RG.nd;unfold yE;exact ZC (ZB 2 ge_int) (ZI (ZAF (ZY (ZH 0)) ge_int) (Z4 (ZB 2 (ZL (ZD 0 (ZL (ZE 1) (ZY (ZH 0)))) ge_int)))) (ZA (ZL (Zi (ZT (ZT (ZE 2) (Zi ge_int (ZE 1))) ge_int) (ZT ge_int (Zi (Zi ge_int (ZE 1)) (ZE 1)))) ge_int)))
abbrev EJ:Stmt:=top 91
def aJz:FnScope ["script"] ["script"] (defScope EJ):=bH (by kernel_rfl)
def yD:Rho->Option Out:=
 aS (f1 (f2 (fC (.lst (tI [1,2,3,4,3,4,5,6]))) (f2 (f2 (aG (aB (aA 0) (aB (fC (.int 0)) aD)) fZ) (fC (.int 3)) bV) (fC (.int 8)) bE) oIx) aP)
def sM:List T->Option T:=Fof 1 0 yD
def UG(t0:T):sM [t0]=(yD [some t0]).bind bQ:=rfl
def aG1{fd:FuncData}(aO6:Cal P w K mg base "_law_mixed" 1 ["script","k"] fZ false 3)(Fu:Fun K "_law_hands" "_law_hands" EJ f fd):
  FnOk P w K mg base CX0 2 f fd ["script"] (spT K sM false 3):=
 gF [1] Fu aJz (fun cdv A outer s H E hr=>by
  unfold yD;exact ZA (ZM (Zr (ZAJ [1,2,3,4,3,4,5,6]) (ZL (ZZ (ZF aO6 (ZN (ZE 0) ge_int)) ge_int) ge_int))))
abbrev EL:Stmt:=top 92
def RH:FnScope ["script","k","many","way","turn","words","letters","start"] ["script","k","many"] (defScope EL):=bH (by kernel_rfl)
def uV:Rho->Option T:=
 f1 (f2 (aA 1) (f2 (f2 (aA 2) (aA 0) bU) (fC (.int 8)) bE) oIx) aP
def yG:Rho->Option T:=
 f2 (f2 (aA 1) (aA 2) gX) (f2 (fC (.int 1)) (f2 (f2 (aA 3) (f2 (fC (.int 3)) (aA 0) bM) bU) (fC (.int 8)) bE) bU) pE
def yH:Rho->Option T:=
 f2 (aA 1) (f2 (f2 (aA 2) (f2 (fC (.int 5)) (aA 0) bM) bU) (fC (.int 26)) bE) gX
def yF:Rho->Option Out:=
 aN (aZ 3 (f2 (f2 (aG (aB (aA 0) (aB (aA 1) aD)) fZ) (fC (.int 3)) bV) (fC (.int 3)) bE))
  (aN (aZ 4 (f2 (f2 (aG (aB (aA 0) (aB (f2 (aA 1) (fC (.int 1)) bU) aD)) fZ) (fC (.int 5)) bV) (fC (.int 8)) bE))
  (aN (aZ 5 (bZ (aB (fC (.str "ask")) (aB (fC (.str "table")) (aB (fC (.str "none")) (aB (fC (.str "sum")) (aB (fC (.str "dues")) (aB (fC (.str "yes")) (aB (fC (.str "steps")) (aB (fC (.str "refused")) aD))))))))))
  (aN (aZ 6 (fC (.str "abcdefghijklmnopqrstuvwxyz")))
  (aN (aZ 7 (f2 (f2 (aG (aB (aA 0) (aB (f2 (aA 1) (fC (.int 2)) bU) aD)) fZ) (fC (.int 7)) bV) (fC (.int 26)) bE))
  (aN (rIf (fB (f2 (aA 3) (fC (.int 0)) oEq)) (aS (cL (gS (aB (aA 2) aD) fS) [none,some 5,some 4] bI uV)) bJ)
  (aN (rIf (fB (f2 (aA 3) (fC (.int 1)) oEq)) (aS (cL (gS (aB (aA 2) aD) fS) [none,some 6,some 7,some 4] bI yG)) bJ)
  (aS (cL (gS (aB (aA 2) aD) fS) [none,some 6,some 7] bI yH))))))))
def pW:List T->Option T:=Fof 3 5 yF
def UI(t0 t1 t2:T):pW [t0,t1,t2]=(yF [some t0,some t1,some t2,none,none,none,none,none]).bind bQ:=rfl
def aG3{fd:FuncData}(aO6:Cal P w K mg base "_law_mixed" 1 ["script","k"] fZ false 3)(aO7:mg "range" = none)(Fu:Fun K "_law_names" "_law_names" EL f fd):
  FnOk P w K mg base CX0 2 f fd ["script","k","many"] (spT K pW true 3):=
 gF [1,1,1,1,1,1,1,1] Fu RH (fun cdv A outer s H E hr=>by
  rw[15];have nd:=RH.nd;unfold yF yH yG uV;exact ZC (ZB 3 (ZL (ZZ (ZF aO6 (Zh (ZE 0) 1)) ge_int) ge_int)) (Zl 4 (ZL (ZZ (ZF aO6 (ZN (ZE 0) (ZT (ZE 1) ge_int))) ge_int) ge_int) (Or.inr (by rfl))) (ZC (Zl 5 (ZU (Zg aF aF aF aF (Zx aF aF (ZN aF aF)))) (Or.inr (by rfl))) (Zl 6 aF (Or.inr (by rfl))) (ZC (Zl 7 (ZL (ZZ (ZF aO6 (ZN (ZE 0) (ZT (ZE 1) ge_int))) ge_int) ge_int) (Or.inr (by rfl))) (ZI (ZO 3 ge_int) (ZA (ZG (ZK ["j","words","turn"] [none,some 5,some 4]) (ZR [2,1,1]) (Z1 (ZH 2)) (Zj eV (ZM (ZD 1 (ZL (ZT (ZE 2) (ZE 0)) ge_int))))))) (ZX (ZI (ZO 3 ge_int) (ZA (ZG (ZK ["j","letters","start","turn"] [none,some 6,some 7,some 4]) (ZR [2,1,1,1]) (Z1 (ZH 2)) (Zj eV (BK (BJ (ZE 1) (ZE 2)) (ZT ge_int (ZL (ZT (ZE 3) (Zi ge_int (ZE 0))) ge_int))))))) (ZA (ZG (ZK ["j","letters","start"] [none,some 6,some 7]) (ZR [2,1,1]) (Z1 (ZH 2)) (Zj eV (BJ (ZE 1) (ZL (ZT (ZE 2) (Zi ge_int (ZE 0))) ge_int)))))))))
abbrev FC:Stmt:=top 51
def aK6:FnScope ["word"] ["word"] (defScope FC):=bH (by kernel_rfl)
def EC:Rho->Option T:=
 f2 (aA 0) (fC (.str "abcdefghijklmnopqrstuvwxyz")) wV
def yW:Rho->Option Out:=
 aS (f1 (hJ (f2 (aG (aB (aA 0) aD) mZ) (fC (.int 1)) oGe) (hJ (f2 (aG (aB (aA 0) aD) mZ) (fC (.int 8)) oLe) (aG (aB (cL (tJ (aA 0)) [none] bI EC) aD) gW))) aP)
def hZ:List T->Option T:=Fof 1 0 yW
def UZ(t0:T):hZ [t0]=(yW [some t0]).bind bQ:=rfl
def aGi{fd:FuncData}(aO1:mg "len" = none)(aP3:∃ tk,mg "MOST_LETTERS" = some (.int 8 tk))(aQn:∃ tk,mg "LETTERS" = some (.str "abcdefghijklmnopqrstuvwxyz" tk))(aOf:mg "all" = none)(Fu:Fun K "is_name" "is_name" FC f fd):
  FnOk P w K mg base CX0 1 f fd ["word"] (spT K hZ false 3):=
 gF [1] Fu aK6 (fun cdv A outer s H E hr=>by
  unfold yW EC;exact ZA (ZM (Zn (@aAh _ _ _ _ _ _ _ _ _ _ _ _ (ZAN (ZH 0)) ge_int) (Zn (@aAo _ _ _ _ _ _ _ _ _ _ _ _ (ZAN (ZH 0)) (@BH _ _ _ _ _ 8 (by rfl) aP3 (by decide))) (Z9 (ZAG (ZP (ZG (ZK ["sign"] [none]) (ZR [2]) (LH (ZE 0)) (Zj eV (KZ (ZE 0) (KW (by rfl) aQn (z := "abcdefghijklmnopqrstuvwxyz"))))))))))))
abbrev rU:Stmt:=inClass (top 50) 0
def aJw:FnScope ["self","names","tables","asks"] ["self","names","tables","asks"] (defScope rU):=bH (by kernel_rfl)
def aFu{f C:Addr}{fd:FuncData}(F:Fun K "__init__" "Page.__init__" rU f fd)(T:PgTxt K mg C):FnOk P w K mg base CX0 1 f fd ["self","names","tables","asks"] (GC C):=by
 refine F.ok aJw (fun vs H Q E h=>?_) (fun cdv A outer s H vs Q E hr h=>?_)
 ·obtain⟨p,dx,n,t,a,rfl,_⟩:=h
  rfl
 ·obtain⟨p,dx,n,t,a,rfl,hp,k⟩:=h
  refine⟨_,eL (DO (pv 0) (pv 1) rfl) (eL (DO (pv 0) (pv 2) rfl) (nF (DO (pv 0) (pv 3) rfl))),?_⟩;refine⟨_,rfl,_,rfl,p,C,dx,[],rfl,hp,T.cl,T.nN,(by show 0<1000;decide),?_⟩;refine⟨_,rfl,_,rfl,p,C,dx,_,rfl,bY,T.cl,T.nT,aIp _,?_⟩;exact⟨_,rfl,_,rfl,p,C,dx,_,rfl,bY,T.cl,T.nA,aIq _ _,k⟩
abbrev jK:Stmt:=top 65
def zC:FnScope ["row","words","names"] ["row"] (defScope jK):=bH (by kernel_rfl)
theorem aGa{f C fi:Addr}{fd fdi:FuncData}{k:Nat}{Fn:List T->Option T}(aQh:Cal P w K mg base "is_name" k ["word"] Fn false 3)(aO1:mg "len" = none)(aPn:∃ tk,mg "MOST_HANDS" = some (.int 6 tk))(aOf:mg "all" = none)(aQu:mg "set" = none)
  (M:Mk K C fi) (FOi:FnOk P w K mg base CX0 1 fi fdi ["self","names","tables","asks"] (GC C)) (hbi:dE K fdi ["self","names","tables","asks"] []) (F:Fun K "begun_page" "begun_page" jK f fd) (T:PgTxt K mg C):FnOk P w K mg base CX0 (max k 2+1) f fd ["row"] (SI K C Fn):=by
 refine F.ok zC (fun vs H Q E h=>?_) (fun cdv A outer s H vs Q E hr h=>?_)
 ·obtain⟨_,_,_,rfl,_⟩:=h
  rfl
 ·obtain⟨row,ws,wd,rfl,e1,e2,e3,e4,kq⟩:=h
  rw[15];have nd:=zC.nd;have d1:GS (cQ CX0 P w K mg base ["row","words","names"] "begun_page" (defScope jK) f cdv A outer s H E).nox H [1,1,0] true 3 ((defBody jK).getD 0 (.Pass ⟨0,0,0,0⟩)) bg1:=by
   unfold bg1;exact @BN _ _ _ _ _ _ _ _ _ _ _ _ 1 (LC (dY 0) aF) zC.nd (by rfl) (Or.inl (by rfl)) (by rfl) (by rfl) (by first | exact .inl rfl | exact .inr rfl | trivial)
  have d2:GS (cQ CX0 P w K mg base ["row","words","names"] "begun_page" (defScope jK) f cdv A outer s H E).nox H [1,1,0] true 3 ((defBody jK).getD 1 (.Pass ⟨0,0,0,0⟩)) bg2:=by
   unfold bg2;exact @LR _ _ _ _ _ _ _ _ _ _ _ 2 (@GE.flt _ _ _ _ _ _ (@aAz _ _ _ _ _ _ _ _ _ _ _ _ _ _ _ (dY 1) (@LK _ _ _ _ _ _ _ ge_int) BL BL (by intro _ _;first | exact⟨_,rfl⟩ | (refine⟨_,?_⟩;with_unfolding_all rfl)))) zC.nd (by rfl) (Or.inl (by rfl)) (by rfl) (by rfl) (by first | exact .inl rfl | exact .inr rfl | trivial)
  have d3:GS (cQ CX0 P w K mg base ["row","words","names"] "begun_page" (defScope jK) f cdv A outer s H E).nox H [1,1,0] true 3 ((defBody jK).getD 2 (.Pass ⟨0,0,0,0⟩)) bg3:=by
   unfold bg3;exact @BM _ _ _ _ _ _ _ _ _ _ _ _ (@GW.gt _ _ _ _ _ (@wI _ _ _ _ _ _ _ _ _ (@LX _ _ _ _ _ _ _ _ _ _ _ _ hu (@BI _ _ _ _ _ _ _ _ _ _ _ _ (dY 1) ge_int (by exact fun _ _=>rfl)) aF) (@wI _ _ _ _ _ _ _ _ _ (@wH _ _ _ _ _ _ _ _ _ _ _ _ (wE (by rfl) (by rfl) aO1 (cS (dY 2) cF)) ge_int) (@BQ _ _ _ _ _ _ (@LV _ _ _ _ _ _ _ _ _ _ _ _ (wE (by rfl) (by rfl) aO1 (cS (dY 2) cF)) (@BH _ _ _ _ _ (6) (by rfl) aPn (by decide))))))) (@tP _ _ _ _ _ _ _ (@wG _ _ _ _ _ _ _ _ (@wF _ _ _ _ _ _ _ _ _ jR (by rfl)))) BP
  have d4:GS (cQ CX0 P w K mg base ["row","words","names"] "begun_page" (defScope jK) f cdv A outer s H E).nox H [1,1,0] true 3 ((defBody jK).getD 3 (.Pass ⟨0,0,0,0⟩)) (bg4 Fn):=by
   unfold bg4 bgE;exact @BM _ _ _ _ _ _ _ _ _ _ _ _ (@GW.gt _ _ _ _ _ (@wI _ _ _ _ _ _ _ _ _ (@LY _ _ _ _ _ _ (@LZ _ _ _ _ _ _ _ (KP (by rfl) (by rfl) (by rfl) aOf (cS (@KS _ _ _ _ _ _ _ _ _ _ _ _ _ _ _ _ _ _ _ _ (AL (by kernel_rfl) (N':=[ "name" ]) (src:=[ none ])) (JX (by kernel_rfl) (fl':=[ 2 ])) (by decide) (by rfl) (LG (dY 2)) (by rfl) (by rfl) (fun cl C s H ex=>⟨eV,@GE.sc _ _ _ _ _ _ _ (BF aQh (hr.mono (Nat.le_max_left _ _)) (by rfl) (cS (dY 0) cF))⟩) (by intro _;rfl)) cF)) (by intro _;rfl))) (@BQ _ _ _ _ _ _ (@wH _ _ _ _ _ _ _ _ _ _ _ _ (LA (by rfl) (by rfl) (by rfl) aO1 (by rfl) aQu (by rfl) (cS (dY 2) cF)) (wE (by rfl) (by rfl) aO1 (cS (dY 2) cF)))))) (@tP _ _ _ _ _ _ _ (@wG _ _ _ _ _ _ _ _ (@wF _ _ _ _ _ _ _ _ _ jR (by rfl)))) BP
  refine⟨_,eL d1 (eL d2 (eL d3 (eL d4 (nF (uL (OR M FOi (hr.mono (Nat.le_max_right _ _)) rfl T.mgC hbi .nil rG (cD (pv 2) (cD (DH cZ) (cD (DH cZ) cZ))))))))),?_⟩;have S0:=FZ (K:=K) (H:=H) (fl:=[1,1,0]) (N:=["row","words","names"]) (ps:=["row"]) (ts:=[.str row]) (vs:=[.str row]) rfl (by decide) rfl ⟨.str row,[],rfl,rfl,rfl⟩ (by decide);refine⟨[],_,[],_,S0,e1,fun σ1 M1 H1 S1=>?_⟩;refine⟨[],_,M1,_,S1,e2,fun σ2 M2 H2 S2=>?_⟩;refine⟨[],_,M2,_,S2,e3,fun σ3 M3 H3 S3=>?_⟩;refine⟨[],_,M3,_,S3,e4,fun σ4 M4 H4 S4=>?_⟩;obtain⟨ln,ts,xs,e5,e6,hln,rx,hM⟩:=S4.muL 2 (tW ws) rfl rfl;cases e5;cases pK rx;have s4:aL H H4:=S4.same;refine⟨_,e6,(by show 0<=sizeLine;exact aU4 _),fun lt hlt=>?_⟩;have sA:aL H4 (upd H4 lt (.lst [])):=cW hlt _;refine⟨(by show 0<=sizeLine;exact aU4 _),fun la hla=>?_⟩;have sB:aL (upd H4 lt (.lst [])) (upd (upd H4 lt (.lst [])) la (.lst [])):=cW hla _;intro p dx hp hdx ndx;refine⟨p,dx,.ref ln,.ref lt,.ref la,rfl,bY,rfl,?_⟩;have hlt2:(upd (upd H4 lt (.lst [])) la (.lst [])) lt=some (.lst []):=sB _ _ bY;have hln2:=sB _ _ (sA _ _ hln);have nll:ln≠lt:=eA hln hlt;have nal:la≠lt:=fun z=>by rw[z,bY] at hla;cases hla
  have hla2:(upd (upd H4 lt (.lst [])) la (.lst [])) la=some (.lst []):=bY;have frees:∀ x,(upd (upd H4 lt (.lst [])) la (.lst [])) x=none->H x=none:=fun x hx=>by
   cases e:H x with
   | none=>rfl
   | some o=>rw[sB _ _ (sA _ _ (s4 _ _ e))] at hx;cases hx
  have hlt0:H lt=none:=by
   cases e:H lt with
   | none=>rfl
   | some o=>rw[s4 _ _ e] at hlt;cases hlt
  have fin:∀ c o,(upd (upd H4 lt (.lst [])) la (.lst [])) c=some o->(upd (upd (upd (upd (upd (upd (upd H4 lt (.lst [])) la (.lst [])) dx (.own p)) p (.ins C dx [])) p (.ins C dx (bR "names" (.ref ln) []))) p (.ins C dx (bR "tables" (.ref lt) (bR "names" (.ref ln) [])))) p (.ins C dx (pgF (.ref ln) (.ref lt) (.ref la)))) c=some o:=fun c o e=>by
   have n1:c≠p:=eA e hp;have n2:c≠dx:=eA e hdx;rw[aW n1,aW n1,aW n1,aW n1,aW n2];exact e
  refine kq p lt _ (fun c o e=>fin c o (sB _ _ (sA _ _ (s4 _ _ e)))) (frees p hp) hlt0 ⟨dx,ln,la,[],bY,fin _ _ hln2,fin _ _ hlt2,fin _ _ hla2,rfl,hlt0,fun c o e=>fin c o (sB _ _ (sA _ _ (s4 _ _ e))),nll,nal,aU4 _,(S4.mB ln hM).1,(by
   cases e:H la with
   | none=>rfl
   | some o=>rw[sA _ _ (s4 _ _ e)] at hla;cases hla)⟩
abbrev FK:Stmt:=top 66
def RX:FnScope ["text","rows","page","number","row","taken"] ["text"] (defScope FK):=bH (by kernel_rfl)
theorem aGr{f C fb fi:Addr}{fd fdb fdi:FuncData}{k:Nat}{Fn:List T->Option T}(FOb:FnOk P w K mg base CX0 k fb fdb ["row"] (SI K C Fn))(hmb:mg "begun_page" = some (.ref fb))(hkb:PySem.W.keepIn K (.ref fb)=true)(hbb:dE K fdb ["row"] [])
  (aRu:mg "enumerate" = none)
  (M:Mk K C fi) (FOi:FnOk P w K mg base CX0 1 fi fdi ["self","names","tables","asks"] (GC C)) (hbi:dE K fdi ["self","names","tables","asks"] []) (F:Fun K "read_page" "read_page" FK f fd) (T:PgTxt K mg C):FnOk P w K mg base CX0 (max k 2+1) f fd ["text"] (GD K C Fn):=by
 refine F.ok RX (fun vs H Q E h=>?_) (fun cdv A outer s H vs Q E hr h=>?_)
 ·obtain⟨_,_,_,rfl,_⟩:=h
  rfl
 ·obtain⟨text,ws,tabs,rfl,hl1,hl2,R,kq⟩:=h
  have nd:=RX.nd;refine⟨_,eL (mE (i:=1) nd rfl (Or.inl rfl) (nC PySem.F.plainAttrs_str PySem.F.slot_str_split PySem.F.type_str_split NG (pv 0) (cD uJ cZ)))
   (eL (mE (i:=2) nd rfl (Or.inr rfl) OS)
   (eL (DP PassesOwn.never rfl (aI1 rfl aRu (cD (pv 1) cZ) (aI7 OP aI8)) (DJ rfl (DK (rH (i:=3) nd rfl (Or.inl rfl)) (DK (rH (i:=4) nd rfl (Or.inl rfl)) OY)))
    (eL (pJ (PW.pt (PN (DR aH1 (pv 4) uJ (jX _)) (PP (PJ (aHx (pv 4) uJ))))) (nF aIf) xP)
    (eL (pJ (PF (OK (pv 2))) (eL (mE (i:=2) nd rfl (Or.inr rfl) (pI FOb (hr.mono (Nat.le_max_left _ _)) rfl hmb hkb hbb .nil rG (cD (pv 4) cZ))) (nF (mE (i:=5) nd rfl (Or.inl rfl) (aHq (aHm (pv 2))))))
     DQ)
    (nF (pJ (PH (PJ (pv 5))) DQ xP)))))
   (eL (pJ (PF (OK (pv 2))) DQ xP)
   (nF (uL (OR M FOi (hr.mono (Nat.le_max_right _ _)) rfl T.mgC hbi .nil rG (cD (DG (pv 2) rfl) (cD (DG (pv 2) rfl) (cD (OQ (AL (by kernel_rfl) (N':=["row","ask"]) (src:=[none,none])) rfl (aI2 (DG (pv 2) rfl)) (fun cl C s H ex=>⟨aI0,xM,peF⟩)) cZ))))))))),?_⟩
  have hnl:(Str.ofString "\n").length≠0:=by decide +kernel
  refine⟨_,rfl,rfl,text,Str.ofString "\n",rfl,rfl,by decide +kernel,hl1,hl2,fun q hq=>?_⟩;have sA:aL H (upd H q (.lst ((Txt.split text (Str.ofString "\n")).map V.str))):=cW hq _;have hqq:(upd H q (.lst ((Txt.split text (Str.ofString "\n")).map V.str))) q = some (.lst ((Txt.split text (Str.ofString "\n")).map V.str)):=bY;generalize upd H q (.lst ((Txt.split text (Str.ofString "\n")).map V.str))=H1 at sA hqq;generalize Txt.split text (Str.ofString "\n")=rows at R hqq;refine⟨_,rfl,q,_,rfl,rfl,SqL.of hqq,?_⟩;refine YZ (xs:=rows.map V.str) (fun i σ H'=>∃ st v3 v4 v5 pg,σ=[some (.str text),some (.ref q),some pg,v3,v4,v5]/\H' q=some (.lst (rows.map V.str))/\aL H H'/\vQ K C H H' q st pg/\Rds1 Fn (rows.drop i) st (some (ws,tabs)))
   ⟨none,none,none,none,.non,rfl,hqq,sA,rfl,R⟩ (fun i σ H' _ z=>by obtain⟨_,_,_,_,_,_,z,_⟩:=z;exact SqL.of z) (fun i x σ H' Tp hx z hT=>?_) (fun σ H' z=>?_)
  ·obtain⟨st,v3,v4,v5,pg,rfl,hq',s0,sp,Rr⟩:=z
   rw[aT0] at hx;cases er:rows[i]? with
   | none=>rw[er] at hx;cases hx
   | some r=>
   rw[er] at hx;cases (aRv hx);have ed:rows.drop i=r::rows.drop (i+1):=by
    obtain⟨h1,h2⟩:=aS0.mp er;rw[aSs h1,h2]
   rw[ed] at Rr;have sT:aL H' (upd H' Tp (.tup [.int ((i+1:Nat):Int),.str r])):=cW hT _;have hTT:(upd H' Tp (.tup [.int ((i+1:Nat):Int),.str r])) Tp=some (.tup [.int ((i+1:Nat):Int),.str r]):=bY;refine⟨Tp,_,rfl,SqT.of hTT,rfl,_,_,rfl,_,_,rfl,rfl,?_⟩;generalize upd H' Tp (.tup [.int ((i+1:Nat):Int),.str r])=H2 at sT hTT;have hq2:=sT _ _ hq';have s2:=s0.trans sT;have sp2:=sp.grow sT;refine⟨_,rfl,rfl,_,rfl,?_⟩;have ev:decide (V.str r=V.str (("":Str)))=decide (r=("":Str)):=by simp
   rw[ev];have skp:kK r=true->Rds1 Fn (rows.drop (i+1)) st (some (ws,tabs)):=fun h=>by
    cases Rr with
    | skip _ k=>exact k
    | beg h' _ _=>rw[h] at h';cases h'
   rcases Bool.eq_false_or_eq_true (decide (r=("":Str))) with z0 | z0
   ·rw[z0]
    refine fQ ?_;exact⟨st,_,_,v5,pg,rfl,hq2,s2,sp2,skp (by unfold kK;rw[z0];rfl)⟩
   rw[z0];refine eW ?_;refine⟨_,rfl,r,rfl,_,rfl,_,rfl,?_⟩;rcases Bool.eq_false_or_eq_true (Txt.startswith r (("#":Str))) with z1 | z1
   ·rw[z1]
    refine fQ ?_;exact⟨st,_,_,v5,pg,rfl,hq2,s2,sp2,skp (by unfold kK;rw[z0,z1];rfl)⟩
   rw[z1];refine eW ?_;have nsk:kK r=false:=by unfold kK;rw[z0,z1];rfl
   refine⟨_,rfl,_,rfl,?_⟩;cases Rr with
   | skip h' _=>rw[nsk] at h';cases h'
   | beg hb b k=>
    rename_i ws';cases (show pg=.non from sp2);obtain⟨wd,e1,e2,e3,e4⟩:=b;refine fQ ?_;refine⟨_,rfl,r,ws',wd,rfl,e1,e2,e3,e4,fun p lt H3 s3 hp hlt Pg=>?_⟩;refine⟨_,rfl,_,rfl,_,rfl,?_⟩;refine eW ?_;have nql:q≠lt:=eA hq2 hlt;exact⟨some (ws',[]),_,_,_,.ref p,rfl,s3 _ _ hq2,s2.trans s3,⟨p,lt,rfl,Pg.since s2,nql⟩,k⟩
  ·obtain⟨st,v3,v4,v5,pg,rfl,hq',s0,sp,Rr⟩:=z
   rw[show rows.drop (rows.map V.str).length=[] by rw[aT5,List.drop_length]] at Rr;cases Rr;obtain⟨p,lt,rfl,Pg,nql⟩:=sp;obtain⟨dx,ln,la,vs,hp,hln,hlt,hla,rp,hBl,sB,n1,n2,hvl,fN,fA⟩:=id Pg;refine⟨_,rfl,_,rfl,?_⟩;refine eW ?_;refine⟨_,rfl,p,C,dx,_,_,rfl,hp,T.cl,T.nN,OV _ _ _,_,rfl,p,C,dx,_,_,rfl,hp,T.cl,T.nT,OX _ _ _,_,rfl,p,C,dx,_,_,rfl,hp,T.cl,T.nA,OU _ _ _,la,rfl,⟨_,SqL.of hla⟩,fun D hD=>?_⟩;have sD:aL H' (upd H' D (.lst [])):=cW hD _;have hDD:(upd H' D (.lst [])) D=some (.lst []):=bY;have nDl:D≠lt:=fun z=>by rw[z,hlt] at hD;cases hD
   generalize upd H' D (.lst [])=H2 at sD hDD;refine⟨fun i m σ H''=>i=0/\H''=H2,⟨0,rfl,rfl⟩,?_⟩;rintro i m σ1 H3 ⟨rfl,rfl⟩;refine .inl ⟨⟨[],SqL.of (sD _ _ hla),aU4 _⟩,?_⟩;intro x dx2 nx ndx nex;refine⟨x,dx2,.ref ln,.ref lt,.ref D,rfl,bY,rfl,?_⟩;have fin:∀ c o,H3 c=some o->(upd (upd (upd (upd (upd H3 dx2 (.own x)) x (.ins C dx2 [])) x (.ins C dx2 (bR "names" (.ref ln) []))) x (.ins C dx2 (bR "tables" (.ref lt) (bR "names" (.ref ln) [])))) x (.ins C dx2 (pgF (.ref ln) (.ref lt) (.ref D)))) c=some o:=fun c o e=>by
    have n1:c≠x:=eA e nx;have n2:c≠dx2:=eA e ndx;rw[aW n1,aW n1,aW n1,aW n1,aW n2];exact e
   have sF:aL H' (upd (upd (upd (upd (upd H3 dx2 (.own x)) x (.ins C dx2 [])) x (.ins C dx2 (bR "names" (.ref ln) []))) x (.ins C dx2 (bR "tables" (.ref lt) (bR "names" (.ref ln) [])))) x (.ins C dx2 (pgF (.ref ln) (.ref lt) (.ref D)))):=fun c o e=>fin c o (sD _ _ e);exact kq x lt _ ⟨dx2,ln,D,vs,bY,sF _ _ hln,sF _ _ hlt,fin _ _ hDD,rp.grow sF,hBl,sB.trans sF,n1,nDl,hvl,fN,sB.free hD⟩
abbrev EM:Stmt:=top 94
def RI:FnScope ["cell","j","turned","far"] ["cell","j"] (defScope EM):=bH (by kernel_rfl)
def yI:Rho->Option Out:=
 aN (aZ 2 (f2 (f2 (aA 0) (f2 (fC (.int 11)) (aA 1) bM) bU) (f2 (f2 (aA 1) (aA 1) bM) (fC (.int 3)) bU) bM))
  (aN (aZ 3 (f1 (f2 (bZ (aB (fC (.int 3)) (aB (fC (.int 1000)) (aB (f2 (f2 (fC (.int 10)) (fC (.int 50)) dO) (fC (.int 4)) dO) (aB (f2 (f2 (fC (.int 10)) (fC (.int 50)) dO) (fC (.int 40)) dO) aD))))) (f2 (f2 (f2 (aA 2) (fC (.int 5)) bV) (f2 (aA 1) (aA 1) bM) bU) (fC (.int 4)) bE) oIx) aP))
  (aS (f2 (f2 (f2 (f2 (aA 2) (fC (.int 7)) bV) (f2 (f2 (fC (.int 2)) (aA 3) bM) (fC (.int 1)) kA) bE) (aA 3) kA) (fC (.int 1)) bU)))
def hW:List T->Option T:=Fof 2 2 yI
def UJ(t0 t1:T):hW [t0,t1]=(yI [some t0,some t1,none,none]).bind bQ:=rfl
def aG4{fd:FuncData}(Fu:Fun K "_law_number" "_law_number" EM f fd):
  FnOk P w K mg base CX0 1 f fd ["cell","j"] (spT K hW false 3):=
 gF [1,1,1,1] Fu RI (fun cdv A outer s H E hr=>by
  have nd:=RI.nd;unfold yI;exact ZC (ZB 2 (Zi (ZT (ZE 0) (Zi ge_int (ZE 1))) (ZT (Zi (ZE 1) (ZE 1)) ge_int))) (ZB 3 (ZM (Zr (ZU (Zx ge_int ge_int (ZN (ZAD (ZAD ge_int ge_int) ge_int) (ZAD (ZAD ge_int ge_int) ge_int)))) (ZL (ZT (ZZ (ZE 2) ge_int) (Zi (ZE 1) (ZE 1))) ge_int)))) (ZA (ZT (ZAM (ZL (ZZ (ZE 2) ge_int) (ZAM (Zi ge_int (ZE 3)) ge_int)) (ZE 3)) ge_int)))
abbrev EO:Stmt:=top 95
def RJ:FnScope ["one","other","rest"] ["one","other"] (defScope EO):=bH (by kernel_rfl)
def yK:Rho->Option Out:=
 aN (aZ 2 (f2 (aA 0) (aA 1) bE))
  (aN (aZ 0 (f1 (aA 1) aP))
  (aZ 1 (f1 (aA 2) aP)))
def yL:Rho->Option Bool:=
 fB (f2 (aA 1) (fC (.int 0)) oGt)
def yJ:Rho->Option Out:=
 aN (rL yL yK)
  (aS (f1 (aA 0) aP))
def pX:List T->Option T:=Fof 2 1 yJ
def UK(t0 t1:T):pX [t0,t1]=(yJ [some t0,some t1,none]).bind bQ:=rfl
def aG6{fd:FuncData}(Fu:Fun K "_law_part" "_law_part" EO f fd):
  FnOk P w K mg base CX0 1 f fd ["one","other"] (spT K pX false 3):=
 gF [1,1,1] Fu RJ (fun cdv A outer s H E hr=>by
  have nd:=RJ.nd;unfold yJ yL yK;exact ZX (ZAU (ZAF (ZE 1) ge_int) (ZC (ZB 2 (ZL (ZE 0) (ZE 1))) (ZB 0 (ZQ 1)) (Z4 (ZB 1 (ZQ 2))))) (ZA (ZQ 0)))
abbrev EH:Stmt:=top 96
def RE:FnScope ["top","bottom","part"] ["top","bottom"] (defScope EH):=bH (by kernel_rfl)
def yA:Rho->Option Out:=
 aN (aZ 2 (f1 (aG (aB (aG (aB (aA 0) aD) uA) (aB (aA 1) aD)) pX) aP))
  (aS (dB (aB (f2 (aA 0) (aA 2) pB) (aB (f2 (aA 1) (aA 2) pB) aD))))
def sK:List T->Option T:=Fof 2 1 yA
def UE(t0 t1:T):sK [t0,t1]=(yA [some t0,some t1,none]).bind bQ:=rfl
def aFz{fd:FuncData}(aPw:Cal P w K mg base "_law_part" 1 ["one","other"] pX false 3)(aR6:mg "abs" = none)(Fu:Fun K "_law_fraction" "_law_fraction" EH f fd):
  FnOk P w K mg base CX0 2 f fd ["top","bottom"] (spT K sK false 3):=
 gF [1,1,1] Fu RE (fun cdv A outer s H E hr=>by
  have nd:=RE.nd;unfold yA;exact ZX (ZB 2 (ZM (ZF aPw (Zh (ZAS (ZH 0)) 1)))) (Zc (Zy (Ze (ZS (@KU _ _ _ _ _ _ _ _ _ _ _ _ (ZE 0) (ZE 2))) (Zk (ZS (@KU _ _ _ _ _ _ _ _ _ _ _ _ (ZE 1) (ZE 2))))))))
abbrev EF:Stmt:=top 97
def RD:FnScope ["cell","j","far"] ["cell","j"] (defScope EF):=bH (by kernel_rfl)
def xZ:Rho->Option Out:=
 aN (aZ 2 (f1 (f2 (bZ (aB (fC (.int 1)) (aB (fC (.int 12)) (aB (f2 (fC (.int 10)) (fC (.int 60)) dO) aD)))) (f2 (f2 (f2 (aA 0) (fC (.int 2)) bV) (aA 1) bU) (fC (.int 3)) bE) oIx) aP))
  (aS (f1 (aG (aB (aG (aB (aA 0) (aB (aA 1) aD)) hW) (aB (f2 (fC (.int 1)) (f2 (f2 (f2 (f2 (aA 0) (aA 1) bU) (fC (.int 48271)) bM) (fC (.int 3)) bV) (aA 2) bE) bU) aD)) sK) aP))
def pV:List T->Option T:=Fof 2 1 xZ
def UD(t0 t1:T):pV [t0,t1]=(xZ [some t0,some t1,none]).bind bQ:=rfl
def aFx{fd:FuncData}(aO8:Cal P w K mg base "_law_number" 1 ["cell","j"] hW false 3)(aOr:Cal P w K mg base "_law_fraction" 2 ["top","bottom"] sK false 3)(Fu:Fun K "_law_drawn_fraction" "_law_drawn_fraction" EF f fd):
  FnOk P w K mg base CX0 3 f fd ["cell","j"] (spT K pV false 3):=
 gF [1,1,1] Fu RD (fun cdv A outer s H E hr=>by
  have nd:=RD.nd;unfold xZ;exact ZX (ZB 2 (ZM (Zr (ZU (Zx ge_int ge_int (ZP (ZAD ge_int ge_int)))) (ZL (ZT (ZZ (ZE 0) ge_int) (ZE 1)) ge_int)))) (ZA (ZM (ZF aOr (ZN (ZF aO8 (Zh (ZE 0) 1)) (ZT ge_int (ZL (ZZ (Zi (ZT (ZE 0) (ZE 1)) ge_int) ge_int) (ZE 2))))))))
abbrev ED:Stmt:=top 100
def RA:FnScope ["cell","hands","zeros","row","way","ask"] ["cell","hands"] (defScope ED):=bH (by kernel_rfl)
def uT:Rho->Option T:=
 f1 (aG (aB (f2 (aA 1) (fC (.int 7)) bV) (aB (aA 0) aD)) pV) aP
def xY:Rho->Option Out:=
 aN (aZ 2 (f2 (fC (.lst (tI [0]))) (f2 (fC (.int 1)) (aA 1) nB) pF))
  (aN (aZ 3 (f2 (fC (.lst (tI [1]))) (aA 1) pF))
  (aN (aZ 4 (f2 (aA 0) (fC (.int 7)) bE))
  (aN (rIf (fB (f2 (aA 4) (fC (.int 3)) oLt)) (aN (aZ 5 (f2 (bZ (aB (dB (aB (fC (.str "falls")) (aB (aA 2) aD))) (aB (dB (aB (fC (.str "base")) (aB (aA 2) (aB (aA 3) aD)))) (aB (dB (aB (fC (.str "between")) (aB (aA 2) (aB (aA 2) aD)))) aD)))) (aA 4) oIx))
  (aS (dB (aB (aA 5) (aB (f1 (f2 (bZ (aB (fC (.str "yes")) (aB (fC (.str "no")) aD))) (f2 (f2 (aA 0) (fC (.int 7)) bV) (fC (.int 2)) bE) oIx) aP) aD))))) bJ)
  (aN (rIf (fB (f2 (aA 4) (fC (.int 3)) oEq)) (aS (dB (aB (dB (aB (fC (.str "cheapest")) (aB (aA 2) (aB (aA 3) aD)))) (aB (dB (aB (f2 (f2 (aA 0) (fC (.int 7)) bV) (f2 (fC (.int 1)) (aA 1) nB) bE) (aB (f1 (aG (aB (f2 (aA 0) (fC (.int 7)) bV) (aB (fC (.int 1)) aD)) hW) aP) aD))) aD)))) bJ)
  (aN (rIf (fB (f2 (aA 4) (fC (.int 4)) oEq)) (aS (dB (aB (dB (aB (fC (.str "fairest")) (aB (aA 2) (aB (aA 3) aD)))) (aB (cL (gS (aB (aA 1) aD) fS) [none,some 0] bI uT) aD)))) bJ)
  (aS (dB (aB (f2 (bZ (aB (dB (aB (fC (.str "best")) (aB (aA 2) (aB (aA 3) aD)))) (aB (dB (aB (fC (.str "common")) (aB (aA 2) (aB (aA 2) aD)))) aD))) (f2 (aA 4) (fC (.int 5)) kA) oIx) (aB (f1 (aG (aB (f2 (aA 0) (fC (.int 7)) bV) (aB (fC (.int 2)) aD)) hW) aP) aD)))))))))
def pU:List T->Option T:=Fof 2 4 xY
def UC(t0 t1:T):pU [t0,t1]=(xY [some t0,some t1,none,none,none,none]).bind bQ:=rfl
def aFv{fd:FuncData}(aO8:Cal P w K mg base "_law_number" 1 ["cell","j"] hW false 3)(aOd:Cal P w K mg base "_law_drawn_fraction" 3 ["cell","j"] pV false 3)(aO7:mg "range" = none)(Fu:Fun K "_law_answer" "_law_answer" ED f fd):
  FnOk P w K mg base CX0 4 f fd ["cell","hands"] (spT K pU true 3):=
 gF [1,1,2,2,1,2] Fu RA (fun cdv A outer s H E hr=>by
  rw[15];have nd:=RA.nd;unfold xY uT;exact ZC (ZB 2 (ZAT (ZAJ [0]) (ZAQ ge_int (ZE 1)))) (ZB 3 (ZAT (ZAJ [1]) (ZE 1))) (ZC (ZB 4 (ZL (ZE 0) ge_int)) (ZI (@wH _ _ _ _ _ _ _ _ _ _ _ _ (ZE 4) ge_int) (ZX (ZB 5 (Zr (ZU (Zx (Z8 (Zh aF 2)) (Z8 (Zm aF 2 (ZH 3))) (ZP (Z8 (Zm aF 2 (ZH 2)))))) (ZE 4))) (Zc (Zy (Ze (ZS (ZE 5)) (Zk (ZS (ZM (Zr (ZU (ZN aF aF)) (ZL (ZZ (ZE 0) ge_int) ge_int)))))))))) (ZC (ZI (ZO 4 ge_int) (Zc (Zy (Ze (Zy (Ze (ZS aF) (Ze (ZS (ZE 2)) (Zk (ZS (ZE 3)))))) (Zk (Zy (Ze (ZS (ZL (ZZ (ZE 0) ge_int) (ZAQ ge_int (ZE 1)))) (Zk (ZS (ZM (ZF aO8 (ZN (ZZ (ZE 0) ge_int) ge_int)))))))))))) (ZI (ZO 4 ge_int) (Zc (Zy (Ze (Zy (Ze (ZS aF) (Ze (ZS (ZE 2)) (Zk (ZS (ZE 3)))))) (Zk (ZS (ZG (ZK ["j","cell"] [none,some 0]) (ZR [2,1]) (Z1 (ZH 1)) (Zj eV (ZM (ZF aOd (Zh (ZZ (ZE 1) ge_int) 0))))))))))) (Zc (Zy (Ze (ZS (Zr (ZU (ZN (Z8 (Zm aF 2 (ZH 3))) (Z8 (Zm aF 2 (ZH 2))))) (ZAM (ZE 4) ge_int))) (Zk (ZS (ZM (ZF aO8 (ZN (ZZ (ZE 0) ge_int) ge_int)))))))))))
abbrev EI:Stmt:=top 93
def RF:FnScope ["names","group","inside"] ["names","group"] (defScope EI):=bH (by kernel_rfl)
def nG:Rho->Option Bool:=
 fB (f2 (f2 (f2 (aA 1) (aA 0) DA) (fC (.int 1)) wT) (fC (.int 1)) oEq)
def yC:Rho->Option T:=
 f1 (f2 (aA 2) (aA 0) oIx) aP
def yB:Rho->Option Out:=
 aN (aZ 2 (cL (gS (aB (aG (aB (aA 0) aD) cN) aD) fS) [none,some 1,some 0] nG yC))
  (aS (f2 (fC (.str " ")) (f2 (f2 (bZ (aB (fC (.str "{")) aD)) (aA 2) dC) (bZ (aB (fC (.str "}")) aD)) dC) pD))
def sL:List T->Option T:=Fof 2 1 yB
def UF(t0 t1:T):sL [t0,t1]=(yB [some t0,some t1,none]).bind bQ:=rfl
def aG0{fd:FuncData}(aO1:mg "len" = none)(aO7:mg "range" = none)(Fu:Fun K "_law_group_row" "_law_group_row" EI f fd):
  FnOk P w K mg base CX0 1 f fd ["names","group"] (spT K sL false 3):=
 gF [1,1,1] Fu RF (fun cdv A outer s H E hr=>by
  rw[15];have nd:=RF.nd;unfold yB yC nG;exact ZX (@aBu _ _ _ _ _ _ _ _ _ _ _ _ _ _ _ _ _ _ _ _ _ _ _ _ _ 2 (ZK ["hand","group","names"] [none,some 1,some 0]) (ZR [2,1,1]) (by rfl) (Z1 (ZP (ZY (ZH 0)))) (by rfl) (by rfl) (Zj (@LI _ _ _ _ _ (Zw (@KQ _ _ _ _ _ _ _ _ _ _ _ _ (@LB _ _ _ _ _ _ _ _ _ _ _ _ (ZE 1) (ZE 0)) ge_int) ge_int)) (ZM (ZD 2 (ZE 0)))) nd (by rfl) (Or.inl (by rfl)) (by rfl) (by rfl) (by intro _;rfl) (by trivial)) (ZA (tM aF (Z0 (Z0 (ZU (ZP aF)) (ZE 2)) (ZU (ZP aF))))))
abbrev EG:Stmt:=top 101
def aJy:FnScope ["names","ask","answer"] ["names","ask","answer"] (defScope EG):=bH (by kernel_rfl)
def uU:Rho->Option T:=
 f2 (f2 (aG (aB (f2 (aA 0) (fC (.int 0)) oIx) aD) jF) (fC (.str "/")) cG) (aG (aB (f2 (aA 0) (fC (.int 1)) oIx) aD) jF) cG
def rR:Rho->Option Out:=
 aN (rIf (fB (f2 (f2 (aA 1) (fC (.int 0)) oIx) (fC (.str "cheapest")) oEq)) (aS (f2 (f2 (aG (aB (aA 0) (aB (f2 (aA 2) (fC (.int 0)) oIx) aD)) sL) (fC (.str " ")) cG) (aG (aB (f2 (aA 2) (fC (.int 1)) oIx) aD) jF) cG)) bJ)
  (aN (rIf (fB (f2 (f2 (aA 1) (fC (.int 0)) oIx) (fC (.str "fairest")) oEq)) (aS (f2 (fC (.str " ")) (cL (fL (aA 2)) [none] bI uU) pD)) bJ)
  (aS (aG (aB (aA 2) aD) jF)))
def mI:List T->Option T:=Fof 3 0 rR
def zU(t0 t1 t2:T):mI [t0,t1,t2]=(rR [some t0,some t1,some t2]).bind bQ:=rfl
def aFy{fd:FuncData}(aOl:Cal P w K mg base "_law_group_row" 1 ["names","group"] sL false 3)(aOh:mg "str" = none)(Fu:Fun K "_law_due" "_law_due" EG f fd):
  FnOk P w K mg base CX0 2 f fd ["names","ask","answer"] (spT K mI false 3):=
 gF [1,1,1] Fu aJy (fun cdv A outer s H E hr=>by
  rw[15];unfold rR uU;exact ZC (ZI (Zw (ZD 1 ge_int) aF) (ZA (ZAA (ZF aOl (ZN (ZE 0) (ZD 2 ge_int))) aF (Zt (ZP (ZD 2 ge_int)))))) (ZI (Zw (ZD 1 ge_int) aF) (ZA (tM aF (ZG (ZK ["one"] [none]) (ZR [1]) (ZAP (ZE 2)) (Zj eV (ZAA (Zt (ZP (ZD 0 ge_int))) aF (Zt (ZP (ZD 0 ge_int))))))))) (ZA (Zt (ZH 2))))
abbrev ER:Stmt:=top 44
def aK1:FnScope ["kind"] ["kind"] (defScope ER):=bH (by kernel_rfl)
def QO:Rho->Option Out:=
 aS (f1 (aA 0) (CT [("falls",["word"]),("cheapest",["group","number"]),("best",["number"]),("base",["word"]),("common",["number"]),("between",["word"]),("fairest",["fractions"])]))
def dR:List T->Option T:=Fof 1 0 QO
def aG8{fd:FuncData}(aQl:∃ a,mg "ANSWERS" = some (.ref a)/\vO K w.params a [("falls",["word"]),("cheapest",["group","number"]),("best",["number"]),("base",["word"]),("common",["number"]),("between",["word"]),("fairest",["fractions"])])(Fu:Fun K "answer_forms" "answer_forms" ER f fd):
  FnOk P w K mg base CX0 1 f fd ["kind"] (spT K dR true 3):=
 gF [1] Fu aK1 (fun cdv A outer s H E hr=>by
  unfold QO;exact ZA (aAd (by rfl) aQl (ZE 0) (tab:=[( "falls",["word"] ),( "cheapest",["group","number"] ),( "best",["number"] ),( "base",["word"] ),( "common",["number"] ),( "between",["word"] ),( "fairest",["fractions"] )])))
abbrev EY:Stmt:=top 13
def aK3:FnScope ["group"] ["group"] (defScope EY):=bH (by kernel_rfl)
def QR:Rho->Option Bool:=
 fT (f2 (f2 (aA 1) (aA 0) DA) (fC (.int 1)) wT)
def QQ:Rho->Option T:=
 f1 (aA 0) aP
def QP:Rho->Option Out:=
 aS (cL (gS (aB (f1 (aA 0) CQ) aD) fS) [none,some 0] QR QQ)
def sP:List T->Option T:=Fof 1 0 QP
def aGf{fd:FuncData}(aO7:mg "range" = none)(Fu:Fun K "hands_in" "hands_in" EY f fd):
  FnOk P w K mg base CX0 1 f fd ["group"] (spT K sP true 3):=
 gF [1] Fu aK3 (fun cdv A outer s H E hr=>by
  unfold QP QQ QR;exact ZA (ZG (ZK ["hand","group"] [none,some 0]) (ZR [2,1]) (Z1 (ZP (@aAa _ _ _ _ _ _ _ _ _ (ZE 0) (by rfl) (by rfl)))) (Zj (@LI _ _ _ _ _ (ZJ (@KQ _ _ _ _ _ _ _ _ _ _ _ _ (@LB _ _ _ _ _ _ _ _ _ _ _ _ (ZE 1) (ZE 0)) ge_int))) (ZQ 0))))
abbrev FF:Stmt:=top 69
def aK9:FnScope ["names","begin","hands","end"] ["names","begin","hands","end"] (defScope FF):=bH (by kernel_rfl)
def yZ:Rho->Option T:=
 f1 (f2 (aA 1) (aA 0) oIx) aP
def yY:Rho->Option Out:=
 aS (f2 (f2 (bZ (aB (f1 (aA 1) aP) aD)) (cL (fFL (aA 2)) [none,some 0] bI yZ) dC) (bZ (aB (f1 (aA 3) aP) aD)) dC)
def sU:List T->Option T:=Fof 4 0 yY
def VL(t0 t1 t2 t3:T):sU [t0,t1,t2,t3]=(yY [some t0,some t1,some t2,some t3]).bind bQ:=rfl
def aGm{fd:FuncData}(Fu:Fun K "named_words" "named_words" FF f fd):
  FnOk P w K mg base CX0 1 f fd ["names","begin","hands","end"] (spT K sU true 3):=
 gF [1,1,1,1] Fu aK9 (fun cdv A outer s H E hr=>by
  unfold yY yZ;exact ZA (Z0 (Z0 (ZU (ZP (ZQ 1))) (ZG (ZK ["hand","names"] [none,some 0]) (ZR [2,1]) (ZAH 2) (Zj eV (ZM (ZD 1 (ZE 0)))))) (ZU (ZP (ZQ 3)))))
abbrev EW:Stmt:=top 70
def aK2:FnScope ["names","group"] ["names","group"] (defScope EW):=bH (by kernel_rfl)
def yS:Rho->Option Out:=
 aS (aG (aB (aA 0) (aB (fC (.str "{")) (aB (aG (aB (aA 1) aD) sP) (aB (fC (.str "}")) aD)))) sU)
def sO:List T->Option T:=Fof 2 0 yS
def UV(t0 t1:T):sO [t0,t1]=(yS [some t0,some t1]).bind bQ:=rfl
def aGe{fd:FuncData}(aQ9:Cal P w K mg base "hands_in" 1 ["group"] sP true 3)(aPc:Cal P w K mg base "named_words" 1 ["names","begin","hands","end"] sU true 3)(Fu:Fun K "group_words" "group_words" EW f fd):
  FnOk P w K mg base CX0 2 f fd ["names","group"] (spT K sO true 3):=
 gF [1,1] Fu aK2 (fun cdv A outer s H E hr=>by
  unfold yS;exact ZA (ZF aPc (Zx (ZE 0) aF (ZN (ZF aQ9 (ZH 1)) aF))))
abbrev EU:Stmt:=top 71
def RO:FnScope ["found","top","bottom"] ["found"] (defScope EU):=bH (by kernel_rfl)
def yQ:Rho->Option Out:=
 aN (aZ 1 (f1 (f2 (aA 0) (fC (.int 0)) oIx) aP))
  (aN (aZ 2 (f1 (f2 (aA 0) (fC (.int 1)) oIx) aP))
  (aS (f2 (aA 1) (aA 2) (uB "/"))))
def pY:List T->Option T:=Fof 1 2 yQ
def UQ(t0:T):pY [t0]=(yQ [some t0,none,none]).bind bQ:=rfl
def aGc{fd:FuncData}(Fu:Fun K "fraction_word" "fraction_word" EU f fd):
  FnOk P w K mg base CX0 1 f fd ["found"] (spT K pY false 3):=
 gF [1,1,1] Fu RO (fun cdv A outer s H E hr=>by
  have nd:=RO.nd;unfold yQ;exact ZC (ZB 1 (ZM (ZD 0 ge_int))) (ZB 2 (ZM (ZD 0 ge_int))) (ZA (aAg (ZE 1) (ZE 2))))
abbrev QW:Stmt:=top 72
noncomputable def zX:List T->Option T:=fun _=>none
def aGo{fd:FuncData}(Fu:Fun K "pair_words" "pair_words" QW f fd):FnOk P w K mg base CX0 1 f fd ["names","form","pair"] (spT K zX true 3):=
 ⟨(fun vs H Q E h=>by obtain⟨ts,t,_,h,_⟩:=h;cases h),(fun A outer s H args us vs Q E _ _ _ _ h=>by obtain⟨ts,t,_,h,_⟩:=h;cases h)⟩
abbrev FH:Stmt:=top 73
def RT:FnScope ["names","form","part","words","pair"] ["names","form","part"] (defScope FH):=bH (by kernel_rfl)
def QV:Rho->Option T:=
 aG (aB (aA 0) aD) jF
def zB:Rho->Option T:=
 f1 (aG (aB (aA 0) aD) pY) aP
def QU:Rho->Option Out:=
 xR 3 (aG (aB (aA 0) (aB (aA 1) (aB (aA 4) aD))) zX)
def pN:Rho->Option Out:=
 aN (rIf (fB (f2 (aA 1) (fC (.str "word")) oEq)) (aS (bZ (aB (f1 (aA 2) aP) aD))) bJ)
  (aN (rIf (fB (f2 (aA 1) (fC (.str "number")) oEq)) (aS (bZ (aB (aG (aB (aA 2) aD) jF) aD))) bJ)
  (aN (rIf (fB (f2 (aA 1) (fC (.str "row")) oEq)) (aS (cL (fL (aA 2)) [none] bI QV)) bJ)
  (aN (rIf (fB (f2 (aA 1) (fC (.str "group")) oEq)) (aS (aG (aB (aA 0) (aB (aA 2) aD)) sO)) bJ)
  (aN (rIf (fB (f2 (aA 1) (fC (.str "fractions")) oEq)) (aS (cL (fL (aA 2)) [none] bI zB)) bJ)
  (aN (kG 3 (bZ aD))
  (aN (uN 4 (fL (aA 2))
  QU)
  (aS (tH 3))))))))
def fG:List T->Option T:=Fof 3 2 pN
def vM(t0 t1 t2:T):fG [t0,t1,t2]=(pN [some t0,some t1,some t2,none,none]).bind bQ:=rfl
def aGp{fd:FuncData}(aP9:Cal P w K mg base "group_words" 2 ["names","group"] sO true 3)(aOs:Cal P w K mg base "fraction_word" 1 ["found"] pY false 3)(aPk:Cal P w K mg base "pair_words" 1 ["names","form","pair"] zX true 3)(aOh:mg "str" = none)(Fu:Fun K "part_words" "part_words" FH f fd):
  FnOk P w K mg base CX0 3 f fd ["names","form","part"] (spT K fG true 3):=
 gF [1,1,1,0,1] Fu RT (fun cdv A outer s H E hr=>by
  rw[15];have nd:=RT.nd;unfold pN QU zB QV;exact ZC (ZI (ZO 1 aF) (ZA (ZU (ZP (ZQ 2))))) (ZI (ZO 1 aF) (ZA (ZU (ZP (Zt (ZH 2)))))) (ZC (ZI (ZO 1 aF) (ZA (ZG (ZK ["number"] [none]) (ZR [1]) (ZAP (ZE 2)) (Zj eV (Zt (ZH 0)))))) (ZI (ZO 1 aF) (ZA (ZF aP9 (Zh (ZE 0) 2)))) (ZC (ZI (ZO 1 aF) (ZA (ZG (ZK ["found"] [none]) (ZR [1]) (ZAP (ZE 2)) (Zj eV (ZM (ZF aOs (ZH 0))))))) (ZV 3 (@tN _ _ _ _ _ _ _ cF) (Or.inl (by rfl))) (ZX (Zs 4 (ZAP (ZE 2)) (Or.inl (by rfl)) (Z4 (LQ 3 (ZF aPk (Zm (ZE 0) 1 (ZH 4))) (by rfl)))) (Zc (Z3 3))))))
abbrev FI:Stmt:=top 74
def RU:FnScope ["names","forms","parts","words","form","part"] ["names","forms","parts"] (defScope FI):=bH (by kernel_rfl)
def kJ:Rho->Option Out:=
 xR 3 (aG (aB (aA 0) (aB (aA 4) (aB (aA 5) aD))) fG)
def uZ:Rho->Option Out:=
 aN (kG 3 (bZ aD))
  (aN (DV [4,5] (AY (fTp (aA 1)) (fLT (aA 2)))
  kJ)
  (aS (tH 3)))
def qA:List T->Option T:=Fof 3 3 uZ
def HH(t0 t1 t2:T):qA [t0,t1,t2]=(uZ [some t0,some t1,some t2,none,none,none]).bind bQ:=rfl
def aGq{fd:FuncData}(aPl:Cal P w K mg base "part_words" 3 ["names","form","part"] fG true 3)(aRj:mg "zip" = none)(Fu:Fun K "parts_words" "parts_words" FI f fd):
  FnOk P w K mg base CX0 4 f fd ["names","forms","parts"] (spT K qA true 3):=
 gF [1,1,1,0,1,1] Fu RU (fun cdv A outer s H E hr=>by
  have nd:=RU.nd;unfold uZ kJ;exact ZC (ZV 3 (@tN _ _ _ _ _ _ _ cF) (Or.inl (by rfl))) (@aBt _ _ _ _ _ _ _ _ _ _ _ [4,5] _ _ _ _ _ PassesOwn.never (by rfl) (aBj (by rfl) (by rfl) aRj (ZE 1) (ZE 2)) (Z5 (Or.inl (by rfl)) (Z5 (Or.inl (by rfl)) (@LJ _))) (Z4 (LQ 3 (ZF aPl (Zm (ZE 0) 4 (ZH 5))) (by rfl))) (by rfl) (by rfl) (by rfl) (by rfl) (by rfl) (by intro _;rfl)) (Zc (Z3 3)))
abbrev ES:Stmt:=top 87
def RL:FnScope ["page","ask","answer","forms","parts"] ["page","ask","answer"] (defScope ES):=bH (by kernel_rfl)
def uW:Rho->Option Out:=
 aN (aZ 3 (aG (aB (f2 (aA 1) (fC (.int 0)) oIx) aD) dR))
  (aN (aZ 4 (fIf (fB (f2 (aG (aB (aA 3) aD) cN) (fC (.int 1)) oEq)) (bZ (aB (aA 2) aD)) (aA 2)))
  (aS (f2 (fC (.str " ")) (aG (aB (f1 (aA 0) (kW 0)) (aB (aA 3) (aB (aA 4) aD))) qA) pD)))
def nH:List T->Option T:=Fof 3 2 uW
def HB(t0 t1 t2:T):nH [t0,t1,t2]=(uW [some t0,some t1,some t2,none,none]).bind bQ:=rfl
def aG9{fd:FuncData}(aO9:Cal P w K mg base "answer_forms" 1 ["kind"] dR true 3)(aPd:Cal P w K mg base "parts_words" 4 ["names","forms","parts"] qA true 3)(aO1:mg "len" = none)(Fu:Fun K "answer_text" "answer_text" ES f fd):
  FnOk P w K mg base CX0 5 f fd ["page","ask","answer"] (spT K nH false 3):=
 gF [1,1,1,1,1] Fu RL (fun cdv A outer s H E hr=>by
  rw[15];have nd:=RL.nd;unfold uW;exact ZC (ZB 3 (ZF aO9 (ZP (ZD 1 ge_int)))) (ZB 4 (@KY _ _ _ _ _ _ _ _ _ _ _ _ (Zw (ZY (ZH 3)) ge_int) (@GE.old _ _ _ _ _ _ _ (ZU (ZH 2))) (ZE 2))) (ZA (tM aF (ZF aPd (Zm (KR 0 (by rfl) (by decide) (ZE 0)) 3 (ZH 4))))))
abbrev rV:Stmt:=top 98
def aJx:FnScope ["found","due"] ["found","due"] (defScope rV):=bH (by kernel_rfl)
def xX(Fs:List T->Option T):Rho->Option T:=
 f1 (aG (aB (f2 (aA 1) (aA 0) oIx) (aB (f2 (aA 2) (aA 0) oIx) aD)) Fs) aP
def jJ(Fs:List T->Option T):Rho->Option Out:=
 aN (rIf (fB (f2 (aA 1) (fC .non) oIs)) (aS (f2 (aA 0) (fC .non) oIs)) bJ)
  (aN (rIf (fT (f1 (aA 1) (cH "str"))) (aS (f1 (hJ (f1 (aA 0) (cH "str")) (f2 (aA 0) (aA 1) oEq)) aP)) bJ)
  (aN (rIf (fT (f1 (aA 1) (cH "int"))) (aS (f1 (hJ (f1 (aA 0) (cH "int")) (hJ (sE (f1 (aA 0) (cH "bool"))) (f2 (aA 0) (aA 1) oEq))) aP)) bJ)
  (aN (rIf (fB (f2 (f1 (aA 1) (cH "tuple")) (f1 (aA 0) (cH "tuple")) oNe)) (aS (fC (.bl false))) bJ)
  (aN (rIf (pOr (fB (f2 (f1 (aA 1) (cH "list")) (f1 (aA 0) (cH "list")) oNe)) (fB (f2 (aG (aB (aA 0) aD) cN) (aG (aB (aA 1) aD) cN) oNe))) (aS (fC (.bl false))) bJ)
  (aS (aG (aB (cL (gS (aB (aG (aB (aA 1) aD) cN) aD) fS) [none,some 0,some 1] bI ((xX Fs))) aD) gW))))))
noncomputable def eQ:Nat->List T->Option T
 | 0=>fun _=>none
 | d+1=>Fof 2 0 (jJ (eQ d))
def sJ:List T->Option T:=eQ 5
def YG{Fs:List T->Option T}{d:Nat}(aRt:Cal P w K mg base "_law_alike" d ["found","due"] Fs false 3)(aO0:mg "isinstance" = none)(aOh:mg "str" = none)(aOw:mg "int" = none)(aP7:mg "bool" = none)(aOe:mg "tuple" = none)(aQ6:mg "list" = none)(aO1:mg "len" = none)(aO7:mg "range" = none)(aOf:mg "all" = none)(cdv:Value)(A:Around)(outer:List Env)(s:Shared)(H:Hp)(E:XK)
  (hr:Room d (A.deeper (envOfC "_law_alike" (defScope rV) s.heap.objs.size f cdv))):
  GSs (cQ CX0 P w K mg base ["found","due"] "_law_alike" (defScope rV) f cdv A outer s H E).nox H [1,1] false 3 (defBody rV) (jJ Fs):=by
 rw[15];unfold jJ xX;exact ZC (ZI (ZAR (ZE 1) jR) (ZA (@aAn _ _ _ _ _ _ _ _ _ _ _ _ (ZE 0) jR))) (ZI (ZJ (Zb (ZE 1))) (ZA (ZM (Zn (Zb (ZE 0)) (Z9 (ZAK (ZE 0) (ZE 1))))))) (ZC (ZI (ZJ (Za (ZE 1))) (ZA (ZM (Zn (Za (ZE 0)) (Zn (ZAX (Zv (ZE 0))) (Z9 (ZAK (ZE 0) (ZE 1)))))))) (ZI (Zo (ZW (ZE 1)) (ZW (ZE 0))) (ZA jP)) (ZX (ZI (ZAB (Zp (Zo (Zu (ZE 1)) (Zu (ZE 0))) (ZAC (Zo (ZY (ZH 0)) (ZY (ZH 1)))))) (ZA jP)) (ZA (ZAG (ZP (ZG (ZK ["k","found","due"] [none,some 0,some 1]) (ZR [2,1,1]) (Z1 (ZP (ZY (ZH 1)))) (Zj eV (ZM (BF aRt hr (by rfl) (ZN (ZD 1 (ZE 0)) (ZD 2 (ZE 0))))))))))))
theorem OA{fd:FuncData}(aO0:mg "isinstance" = none)(aOh:mg "str" = none)(aOw:mg "int" = none)(aP7:mg "bool" = none)(aOe:mg "tuple" = none)(aQ6:mg "list" = none)(aO1:mg "len" = none)(aO7:mg "range" = none)(aOf:mg "all" = none)(Fu:Fun K "_law_alike" "_law_alike" rV f fd)(hm:mg "_law_alike" = some (.ref f))(hk:PySem.W.keepIn K (.ref f)=true)(hb:dE K fd ["found","due"] []):
  ∀ d,FnOk P w K mg base CX0 d f fd ["found","due"] (spT K (eQ d) false 3)
 | 0=>⟨(fun vs H Q E h=>by obtain⟨ts,t,_,h,_⟩:=h;cases h),(fun A outer s H args us vs Q E _ _ _ _ h=>by obtain⟨ts,t,_,h,_⟩:=h;cases h)⟩
 | d+1=>gfn Fu aJx rfl (by decide) (fun ts t h=>HI h) (fun cdv A outer s H E hr=>@YG _ _ _ _ _ _ _ d ⟨_,_,OA aO0 aOh aOw aP7 aOe aQ6 aO1 aO7 aOf Fu hm hk hb d,hm,hk,hb⟩ aO0 aOh aOw aP7 aOe aQ6 aO1 aO7 aOf cdv A outer s H E hr) (fun ts t h=>HJ h)
abbrev FT:Stmt:=top 75
def aKb:FnScope ["words"] ["words"] (defScope FT):=bH (by kernel_rfl)
def xW:Rho->Option OW:=
 cA (wIf (fB (f2 (aG (aB (aA 0) aD) cN) (fC (.int 0)) oEq)) (hU "BadPaper" (aB (fC (.str "the row ends too early")) aD)) eD)
  (GP 0)
def eG:List T->Option ((T × List T) ⊕ Str):=gA 1 0 xW
def UB(t0:T):eG [t0]=(xW [some t0]).bind gI:=rfl
def aFs{fd:FuncData}(aO2:RaiseK K mg base "BadPaper")(aO1:mg "len" = none)(Fu:Fun K "take_word" "take_word" FT f fd):
  FnOk P w K mg base (CX1 P w) 1 f fd ["words"] (spW 0 K eG):=
 gFW 0 [0] Fu aKb (fun B a cdv A outer s H E hr=>by
  rw[15];unfold xW;exact qP (Z7 (Zw (ZY (ZH 0)) ge_int) (ZAO (Zd (ZP aF)))) (ZAO (aC6 ge_int (by rfl))))
abbrev FL:Stmt:=top 76
def RY:FnScope ["words","word"] ["words"] (defScope FL):=bH (by kernel_rfl)
def xT:Rho->Option OW:=
 cA (fW 1 (dI 0 (aB (aA 0) aD) eG))
  (cA (wIf (rE (fB (f2 (aA 1) (fC (.str "yes")) oNe)) (fB (f2 (aA 1) (fC (.str "no")) oNe))) (hU "BadPaper" (aB (fC (.str "neither yes nor no")) aD)) eD)
  (fE 0 (gE (f1 (aA 1) aP))))
def pT:List T->Option ((T × List T) ⊕ Str):=gA 1 1 xT
def TZ(t0:T):pT [t0]=(xT [some t0,none]).bind gI:=rfl
def aFk{fd:FuncData}(aO4:CalW P w K mg base "take_word" 1 ["words"] 0 eG)(aO2:RaiseK K mg base "BadPaper")(Fu:Fun K "take_answer_word" "take_answer_word" FL f fd):
  FnOk P w K mg base (CX1 P w) 2 f fd ["words"] (spW 0 K pT):=
 gFW 0 [0,2] Fu RY (fun B a cdv A outer s H E hr=>by
  rw[15];have nd:=RY.nd;unfold xT;exact Zz (Z2 1 (Zf 0 aO4 (gZ fX) (hr.mono (by decide)) (fO cF (by decide))) (Or.inl (by rfl))) (Z7 (ZAB (@MA _ _ _ _ _ _ _ _ _ (Zo (ZE 1) aF) (@MB _ _ _ _ _ _ (Zo (ZE 1) aF)))) (ZAO (Zd (ZP aF)))) (Zq (ZAI (ZQ 1))))
abbrev FG:Stmt:=top 52
def RS:FnScope ["word","figures","written"] ["word","figures"] (defScope FG):=bH (by kernel_rfl)
def zA:Rho->Option T:=
 f2 (aA 0) (fC (.str "0123456789")) wV
def uY:Rho->Option Out:=
 aN (aZ 2 (fIf (fT (f2 (aA 0) (fC (.str "-")) uH)) (wA (aA 0) (rA (fC (.int 1))) qZ) (f1 (aA 0) aP)))
  (aN (rIf (pOr (fB (f2 (aG (aB (aA 2) aD) mZ) (fC (.int 0)) oEq)) (pOr (fB (f2 (aG (aB (aA 2) aD) mZ) (aA 1) oGt)) (fD (fT (aG (aB (cL (tJ (aA 2)) [none] bI zA) aD) gW))))) (aS (fC .non)) bJ)
  (aN (rIf (rE (fB (f2 (f2 (aA 2) (fC (.int 0)) gX) (fC (.str "0")) oEq)) (fB (f2 (aA 0) (fC (.str "0")) oNe))) (aS (fC .non)) bJ)
  (aS (aG (aB (aA 0) aD) uC))))
def dS:List T->Option T:=Fof 2 1 uY
def HG(t0 t1:T):dS [t0,t1]=(uY [some t0,some t1,none]).bind bQ:=rfl
def aGn{fd:FuncData}(aO1:mg "len" = none)(aQm:∃ tk,mg "FIGURES" = some (.str "0123456789" tk))(aOf:mg "all" = none)(aOw:mg "int" = none)(Fu:Fun K "number_in" "number_in" FG f fd):
  FnOk P w K mg base CX0 1 f fd ["word","figures"] (spT K dS false 3):=
 gF [1,1,1] Fu RS (fun cdv A outer s H E hr=>by
  rw[15];have nd:=RS.nd;unfold uY zA;exact ZC (ZB 2 (@KY _ _ _ _ _ _ _ _ _ _ _ _ (ZJ (aB2 (ZE 0) aF)) (aB0 (ZE 0) (@LK _ _ _ _ _ _ _ ge_int) BL) (ZQ 0))) (ZI (ZAB (Zp (Zw (ZAN (ZH 2)) ge_int) (Zp (ZAF (ZAN (ZH 2)) (ZE 1)) (ZAC (Z6 (ZJ (ZAG (ZP (ZG (ZK ["sign"] [none]) (ZR [2]) (LH (ZE 2)) (Zj eV (KZ (ZE 0) (KW (by rfl) aQm (z := "0123456789"))))))))))))) (ZA jR)) (ZX (ZI (ZAB (@MA _ _ _ _ _ _ _ _ _ (Zw (BJ (ZE 2) ge_int) aF) (@MB _ _ _ _ _ _ (Zo (ZE 0) aF)))) (ZA jR)) (ZA (aB5 (by rfl) (by rfl) aOw (ZH 0)))))
abbrev FQ:Stmt:=top 77
def SD:FnScope ["words","number"] ["words"] (defScope FQ):=bH (by kernel_rfl)
def uR:Rho->Option OW:=
 cA (fW 1 (AS (dI 0 (aB (aA 0) aD) eG) (aB (fC (.int 2000)) aD) dS))
  (cA (wIf (fB (f2 (aA 1) (fC .non) oIs)) (hU "BadPaper" (aB (fC (.str "no number")) aD)) eD)
  (fE 0 (gE (f1 (aA 1) aP))))
def kO:List T->Option ((T × List T) ⊕ Str):=gA 1 1 uR
def HA(t0:T):kO [t0]=(uR [some t0,none]).bind gI:=rfl
def aFo{fd:FuncData}(aOc:Cal P w K mg base "number_in" 1 ["word","figures"] dS false 3)(aO4:CalW P w K mg base "take_word" 1 ["words"] 0 eG)(aO2:RaiseK K mg base "BadPaper")(aOb:∃ tk,mg "PAPER_FIGURES" = some (.int 2000 tk))(Fu:Fun K "take_number" "take_number" FQ f fd):
  FnOk P w K mg base (CX1 P w) 2 f fd ["words"] (spW 0 K kO):=
 gFW 0 [0,2] Fu SD (fun B a cdv A outer s H E hr=>by
  have nd:=SD.nd;unfold uR;exact Zz (Z2 1 (aB9 aOc (hr.mono (by decide)) (by rfl) (Zf 0 aO4 (gZ fX) (hr.mono (by decide)) (fO cF (by decide))) (ZP (ZAE 2000)) (by rfl)) (Or.inl (by rfl))) (Z7 (ZAR (ZE 1) jR) (ZAO (Zd (ZP aF)))) (Zq (ZAI (ZQ 1))))
abbrev EZ:Stmt:=top 54
def aK4:FnScope ["names","words"] ["names","words"] (defScope EZ):=bH (by kernel_rfl)
def yT:Rho->Option T:=
 f2 (aA 0) (aA 1) wW
def yU:Rho->Option T:=
 f2 (aA 1) (aA 0) CS
def rS:Rho->Option Out:=
 aN (rIf (pOr (fD (fT (aG (aB (cL (fFL (aA 1)) [none,some 0] bI yT) aD) gW))) (fB (f2 (aG (aB (aA 1) aD) qY) (aG (aB (aA 1) aD) cN) oLt))) (aS (fC .non)) bJ)
  (aS (cL (fFL (aA 1)) [none,some 0] bI yU))
def hX:List T->Option T:=Fof 2 0 rS
def zV(t0 t1:T):hX [t0,t1]=(rS [some t0,some t1]).bind bQ:=rfl
def aGg{fd:FuncData}(aOf:mg "all" = none)(aO1:mg "len" = none)(aQu:mg "set" = none)(Fu:Fun K "hands_named" "hands_named" EZ f fd):
  FnOk P w K mg base CX0 1 f fd ["names","words"] (spT K hX true 3):=
 gF [1,1] Fu aK4 (fun cdv A outer s H E hr=>by
  unfold rS yU yT;exact ZX (ZI (ZAB (Zp (Z6 (ZJ (ZAG (ZP (ZG (ZK ["word","names"] [none,some 0]) (ZR [2,1]) (ZAH 1) (Zj eV (aAj (ZE 0) (ZE 1)))))))) (ZAC (@wH _ _ _ _ _ _ _ _ _ _ _ _ (LA (by rfl) (by rfl) (by rfl) aO1 (by rfl) aQu (by rfl) (ZH 1)) (ZY (ZH 1)))))) (ZA jR)) (ZA (ZG (ZK ["word","names"] [none,some 0]) (ZR [2,1]) (ZAH 1) (Zj eV (aAk (ZE 1) (ZE 0))))))
abbrev FP:Stmt:=top 80
def SC:FnScope ["names","words","begin","end","named","word","hands"] ["names","words","begin","end"] (defScope FP):=bH (by kernel_rfl)
def kI:Rho->Option OW:=
 cA (GL 4 (gE (f1 (aA 5) aP)))
  (fW 5 (dI 1 (aB (aA 1) aD) eG))
def xV:Rho->Option OW:=
 cA (zJ (eOp (dI 1 (aB (aA 1) aD) eG) (aA 2) oNe) (hU "BadPaper" (aB (fC (.str "the sign ahead of names is lacking")) aD)) eD)
  (cA (zL 4 (bZ aD))
  (cA (fW 5 (dI 1 (aB (aA 1) aD) eG))
  (cA (zM (fB (f2 (aA 5) (aA 3) oNe)) kI)
  (cA (fW 6 (gE (aG (aB (aA 0) (aB (aA 4) aD)) hX)))
  (cA (wIf (fB (f2 (aA 6) (fC .non) oIs)) (hU "BadPaper" (aB (fC (.str "a name of no hand, or one told twice")) aD)) eD)
  (fE 1 (gE (aA 6))))))))
def gK:List T->Option ((T × List T) ⊕ Str):=gA 4 3 xV
def zQ(t0 t1 t2 t3:T):gK [t0,t1,t2,t3]=(xV [some t0,some t1,some t2,some t3,none,none,none]).bind gI:=rfl
def aFn{fd:FuncData}(aPa:Cal P w K mg base "hands_named" 1 ["names","words"] hX true 3)(aO4:CalW P w K mg base "take_word" 1 ["words"] 0 eG)(aO2:RaiseK K mg base "BadPaper")(Fu:Fun K "take_hands" "take_hands" FP f fd):
  FnOk P w K mg base (CX1 P w) 2 f fd ["names","words","begin","end"] (spW 1 K gK):=
 gFW 1 [1,0,1,1,0,2,2] Fu SC (fun B a cdv A outer s H E hr=>by
  rw[15];have nd:=SC.nd;unfold xV kI;exact Zz (aC5 hu (Zf 1 aO4 (gZ fX) (hr.mono (by decide)) (fO cF (by decide))) (ZE 2) (ZAO (Zd (ZP aF))) LS) (aCb 4 (@tN _ _ _ _ _ _ _ cF) nd (by rfl) (Or.inl (by rfl)) (by rfl)) (Zz (Z2 5 (Zf 1 aO4 (gZ fX) (hr.mono (by decide)) (fO cF (by decide))) (Or.inl (by rfl))) (aCc aIb (Zo (ZE 5) (ZE 3)) (qP (aC3 4 (ZAI (ZQ 5)) (by rfl)) (ZAO (Z2 5 (Zf 1 aO4 (gZ fX) (hr.mono (by decide)) (fO cF (by decide))) (Or.inl (by rfl)))))) (Zz (Z2 6 (ZAI (ZF aPa (Zh (ZE 0) 4))) (Or.inl (by rfl))) (Z7 (ZAR (ZE 6) jR) (ZAO (Zd (ZP aF)))) (Zq (ZAI (ZE 6))))))
abbrev EV:Stmt:=top 15
def RP:FnScope ["hands","group","hand"] ["hands"] (defScope EV):=bH (by kernel_rfl)
def uX:Rho->Option Out:=
 aZ 1 (f2 (aA 1) (f2 (fC (.int 1)) (aA 2) nB) oOr)
def yR:Rho->Option Out:=
 aN (aZ 1 (fC (.int 0)))
  (aN (uN 2 (fFL (aA 0))
  uX)
  (aS (f1 (aA 1) aP)))
def pZ:List T->Option T:=Fof 1 2 yR
def UT(t0:T):pZ [t0]=(yR [some t0,none,none]).bind bQ:=rfl
def aGd{fd:FuncData}(Fu:Fun K "group_of" "group_of" EV f fd):
  FnOk P w K mg base CX0 1 f fd ["hands"] (spT K pZ false 3):=
 gF [1,1,1] Fu RP (fun cdv A outer s H E hr=>by
  have nd:=RP.nd;unfold yR uX;exact ZC (ZB 1 ge_int) (Zs 2 (ZAH 0) (Or.inl (by rfl)) (Z4 (ZB 1 (@aAu _ _ _ _ _ _ _ _ _ _ _ _ (ZE 1) (ZAQ ge_int (ZE 2)))))) (ZA (ZQ 1)))
abbrev FN:Stmt:=top 81
def SA:FnScope ["names","words","hands"] ["names","words"] (defScope FN):=bH (by kernel_rfl)
def rO:Rho->Option OW:=
 cA (fW 2 (dI 1 (aB (aA 0) (aB (aA 1) (aB (fC (.str "{")) (aB (fC (.str "}")) aD)))) gK))
  (cA (wIf (fB (f2 (aA 2) (aG (aB (aA 2) aD) wY) oNe)) (hU "BadPaper" (aB (fC (.str "the hands of a group are not in growing order")) aD)) eD)
  (fE 1 (gE (f1 (aG (aB (aA 2) aD) pZ) aP))))
def kN:List T->Option ((T × List T) ⊕ Str):=gA 2 1 rO
def zP(t0 t1:T):kN [t0,t1]=(rO [some t0,some t1,none]).bind gI:=rfl
def aFm{fd:FuncData}(aQ8:Cal P w K mg base "group_of" 1 ["hands"] pZ false 3)(aPr:CalW P w K mg base "take_hands" 2 ["names","words","begin","end"] 1 gK)(aO2:RaiseK K mg base "BadPaper")(aR2:mg "sorted" = none)(Fu:Fun K "take_group" "take_group" FN f fd):
  FnOk P w K mg base (CX1 P w) 3 f fd ["names","words"] (spW 1 K kN):=
 gFW 1 [1,0,2] Fu SA (fun B a cdv A outer s H E hr=>by
  rw[15];have nd:=SA.nd;unfold rO;exact Zz (Z2 2 (Zf 1 aPr (gZ fX) (hr.mono (by decide)) (ZAL (ZE 0) (fO (ZN aF aF) (by decide)))) (Or.inl (by rfl))) (Z7 (Zo (ZE 2) (aB1 (by rfl) (by rfl) aR2 (ZH 2))) (ZAO (Zd (ZP aF)))) (Zq (ZAI (ZM (ZF aQ8 (ZH 2))))))
abbrev FE:Stmt:=top 36
def aK8:FnScope ["value"] ["value"] (defScope FE):=bH (by kernel_rfl)
def QT:Rho->Option Out:=
 aS (f1 (hJ (f1 (aA 0) (cH "tuple")) (f2 (aG (aB (aA 0) aD) cN) (fC (.int 2)) oEq)) aP)
def vJ:List T->Option T:=Fof 1 0 QT
def aGk{fd:FuncData}(aO0:mg "isinstance" = none)(aOe:mg "tuple" = none)(aO1:mg "len" = none)(Fu:Fun K "is_pair" "is_pair" FE f fd):
  FnOk P w K mg base CX0 1 f fd ["value"] (spT K vJ false 3):=
 gF [1] Fu aK8 (fun cdv A outer s H E hr=>by
  rw[15];unfold QT;exact ZA (ZM (Zn (ZW (ZE 0)) (Z9 (ZAK (ZY (ZH 0)) ge_int)))))
abbrev FD:Stmt:=top 33
def aK7:FnScope ["value"] ["value"] (defScope FD):=bH (by kernel_rfl)
def QS:Rho->Option Out:=
 aS (f1 (hJ (f1 (aA 0) (cH "int")) (sE (f1 (aA 0) (cH "bool")))) aP)
def sR:List T->Option T:=Fof 1 0 QS
def aGj{fd:FuncData}(aO0:mg "isinstance" = none)(aOw:mg "int" = none)(aP7:mg "bool" = none)(Fu:Fun K "is_number" "is_number" FD f fd):
  FnOk P w K mg base CX0 1 f fd ["value"] (spT K sR false 3):=
 gF [1] Fu aK7 (fun cdv A outer s H E hr=>by
  unfold QS;exact ZA (ZM (Zn (Za (ZE 0)) (Z9 (ZAX (Zv (ZE 0)))))))
abbrev ET:Stmt:=top 38
def RM:FnScope ["one","other","greater","lesser","rest"] ["one","other"] (defScope ET):=bH (by kernel_rfl)
def yO:Rho->Option Out:=
 aN (aZ 4 (f2 (aA 2) (aA 3) bE))
  (aN (aZ 2 (f1 (aA 3) aP))
  (aZ 3 (f1 (aA 4) aP)))
def yP:Rho->Option Bool:=
 fB (f2 (aA 3) (fC (.int 0)) oNe)
def yN:Rho->Option Out:=
 aN (aZ 2 (aG (aB (aA 0) aD) uA))
  (aN (aZ 3 (aG (aB (aA 1) aD) uA))
  (aN (rL yP yO)
  (aS (f1 (aA 2) aP))))
def sN:List T->Option T:=Fof 2 3 yN
def UO(t0 t1:T):sN [t0,t1]=(yN [some t0,some t1,none,none,none]).bind bQ:=rfl
def aGb{fd:FuncData}(aR6:mg "abs" = none)(Fu:Fun K "common_divisor" "common_divisor" ET f fd):
  FnOk P w K mg base CX0 1 f fd ["one","other"] (spT K sN false 3):=
 gF [1,1,1,1,1] Fu RM (fun cdv A outer s H E hr=>by
  rw[15];have nd:=RM.nd;unfold yN yP yO;exact ZC (ZB 2 (ZAS (ZH 0))) (ZB 3 (ZAS (ZH 1))) (ZX (ZAU (Zo (ZE 3) ge_int) (ZC (ZB 4 (ZL (ZE 2) (ZE 3))) (ZB 2 (ZQ 3)) (Z4 (ZB 3 (ZQ 4))))) (ZA (ZQ 2))))
abbrev FA:Stmt:=top 39
def aK5:FnScope ["value"] ["value"] (defScope FA):=bH (by kernel_rfl)
def yV:Rho->Option Out:=
 aN (rIf (pOr (fD (fT (aG (aB (aA 0) aD) vJ))) (pOr (fD (fT (aG (aB (f2 (aA 0) (fC (.int 0)) oIx) aD) sR))) (fD (fT (aG (aB (f2 (aA 0) (fC (.int 1)) oIx) aD) sR))))) (aS (fC (.bl false))) bJ)
  (aS (f1 (hJ (f2 (f2 (aA 0) (fC (.int 1)) oIx) (fC (.int 0)) oGt) (f2 (aG (aB (f2 (aA 0) (fC (.int 0)) oIx) (aB (f2 (aA 0) (fC (.int 1)) oIx) aD)) sN) (fC (.int 1)) oEq)) aP))
def sQ:List T->Option T:=Fof 1 0 yV
def UY(t0:T):sQ [t0]=(yV [some t0]).bind bQ:=rfl
def aGh{fd:FuncData}(aQi:Cal P w K mg base "is_pair" 1 ["value"] vJ false 3)(aP4:Cal P w K mg base "is_number" 1 ["value"] sR false 3)(aOm:Cal P w K mg base "common_divisor" 1 ["one","other"] sN false 3)(Fu:Fun K "is_fraction" "is_fraction" FA f fd):
  FnOk P w K mg base CX0 2 f fd ["value"] (spT K sQ false 3):=
 gF [1] Fu aK5 (fun cdv A outer s H E hr=>by
  rw[15];unfold yV;exact ZX (ZI (ZAB (Zp (Z6 (ZJ (ZF aQi (ZH 0)))) (Zp (Z6 (ZJ (ZF aP4 (ZP (ZD 0 ge_int))))) (ZAC (Z6 (ZJ (ZF aP4 (ZP (ZD 0 ge_int))))))))) (ZA jP)) (ZA (ZM (Zn (@aAi _ _ _ _ _ _ _ _ _ _ _ _ (ZD 0 ge_int) ge_int) (Z9 (ZAK (ZF aOm (ZN (ZD 0 ge_int) (ZD 0 ge_int))) ge_int))))))
abbrev FM:Stmt:=top 79
def RZ:FnScope ["words","halves","found"] ["words"] (defScope FM):=bH (by kernel_rfl)
def xU:Rho->Option OW:=
 cA (fW 1 (eOp (dI 0 (aB (aA 0) aD) eG) (fC (.str "/")) uE))
  (cA (fW 2 (gE (dB (aB (f1 (aG (aB (f2 (aA 1) (fC (.int 0)) oIx) (aB (fC (.int 2000)) aD)) dS) aP) (aB (f1 (aG (aB (f2 (aA 1) (fC (.int 2)) oIx) (aB (fC (.int 2000)) aD)) dS) aP) aD)))))
  (cA (wIf (fD (fT (aG (aB (aA 2) aD) sQ))) (hU "BadPaper" (aB (fC (.str "no fraction without a common divisor")) aD)) eD)
  (fE 0 (gE (f1 (aA 2) aP)))))
def sI:List T->Option ((T × List T) ⊕ Str):=gA 1 2 xU
def UA(t0:T):sI [t0]=(xU [some t0,none,none]).bind gI:=rfl
def aFl{fd:FuncData}(aOc:Cal P w K mg base "number_in" 1 ["word","figures"] dS false 3)(aPb:Cal P w K mg base "is_fraction" 2 ["value"] sQ false 3)(aO4:CalW P w K mg base "take_word" 1 ["words"] 0 eG)(aO2:RaiseK K mg base "BadPaper")(aOb:∃ tk,mg "PAPER_FIGURES" = some (.int 2000 tk))(Fu:Fun K "take_fraction" "take_fraction" FM f fd):
  FnOk P w K mg base (CX1 P w) 3 f fd ["words"] (spW 0 K sI):=
 gFW 0 [0,2,2] Fu RZ (fun B a cdv A outer s H E hr=>by
  have nd:=RZ.nd;unfold xU;exact Zz (Z2 1 (aBc (Zf 0 aO4 (gZ fX) (hr.mono (by decide)) (fO cF (by decide))) aF) (Or.inl (by rfl))) (Z2 2 (ZAI (Z8 (ZN (ZM (ZF aOc (ZN (ZD 1 ge_int) (ZAE 2000)))) (ZM (ZF aOc (ZN (ZD 1 ge_int) (ZAE 2000))))))) (Or.inl (by rfl))) (qP (Z7 (Z6 (ZJ (ZF aPb (ZH 2)))) (ZAO (Zd (ZP aF)))) (Zq (ZAI (ZQ 2)))))
abbrev QX:Stmt:=top 83
noncomputable def zR:List T->Option ((T × List T) ⊕ Str):=fun _=>none
def aFp{fd:FuncData}(Fu:Fun K "take_pairs" "take_pairs" QX f fd):FnOk P w K mg base (CX1 P w) 1 f fd ["names","form","words"] (spW 2 K zR):=
 ⟨(fun vs H Q E h=>by obtain⟨_,_,_,_,_,_,_,_,_,_,_,_,h,_⟩:=h;cases h),(fun A outer s H args us vs Q E _ _ _ _ h=>by obtain⟨_,_,_,_,_,_,_,_,_,_,_,_,h,_⟩:=h;cases h)⟩
abbrev FR:Stmt:=top 84
def aKa:FnScope ["names","form","words"] ["names","form","words"] (defScope FR):=bH (by kernel_rfl)
def QL:Rho->Option ((T × Rho) ⊕ Str):=
 dI 1 (aB (aA 1) aD) kO
def uS:Rho->Option ((T × Rho) ⊕ Str):=
 dI 1 (aB (aA 1) aD) sI
def pL:Rho->Option OW:=
 cA (wIf (fB (f2 (aA 1) (fC (.str "word")) oEq)) (fE 2 (dI 2 (aB (aA 2) aD) pT)) eD)
  (cA (wIf (fB (f2 (aA 1) (fC (.str "number")) oEq)) (fE 2 (dI 2 (aB (aA 2) aD) kO)) eD)
  (cA (wIf (fB (f2 (aA 1) (fC (.str "row")) oEq)) (fE 2 (nM 1 2 (fFL (aA 0)) [none,some 2] QL)) eD)
  (cA (wIf (fB (f2 (aA 1) (fC (.str "group")) oEq)) (fE 2 (dI 2 (aB (aA 0) (aB (aA 2) aD)) kN)) eD)
  (cA (wIf (fB (f2 (aA 1) (fC (.str "fractions")) oEq)) (fE 2 (nM 1 2 (fFL (aA 0)) [none,some 2] uS)) eD)
  (fE 2 (dI 2 (aB (aA 0) (aB (f1 (aA 1) aP) (aB (aA 2) aD))) zR))))))
def gL:List T->Option ((T × List T) ⊕ Str):=gA 3 0 pL
def vG(t0 t1 t2:T):gL [t0,t1,t2]=(pL [some t0,some t1,some t2]).bind gI:=rfl
def aFq{fd:FuncData}(aOg:CalW P w K mg base "take_answer_word" 2 ["words"] 0 pT)(aOk:CalW P w K mg base "take_number" 2 ["words"] 0 kO)(aPq:CalW P w K mg base "take_group" 3 ["names","words"] 1 kN)(aOv:CalW P w K mg base "take_fraction" 3 ["words"] 0 sI)(aPs:CalW P w K mg base "take_pairs" 1 ["names","form","words"] 2 zR)(Fu:Fun K "take_part" "take_part" FR f fd):
  FnOk P w K mg base (CX1 P w) 4 f fd ["names","form","words"] (spW 2 K gL):=
 gFW 2 [1,1,0] Fu aKa (fun B a cdv A outer s H E hr=>by
  rw[15];unfold pL uS QL;exact Zz (Z7 (ZO 1 aF) (Zq (Zf 2 aOg (gZ fX) (hr.mono (by decide)) (fO cF (by decide))))) (Z7 (ZO 1 aF) (Zq (Zf 2 aOk (gZ fX) (hr.mono (by decide)) (fO cF (by decide))))) (Zz (Z7 (ZO 1 aF) (Zq (LF 1 DC (ZK ["name","words"] [none,some 2]) (ZR [2,0]) (by rfl) (ZAH 0) (by rfl) (by rfl) (by rfl) (by rfl) (ZAW (Zf 1 aOk hp (hr.mono (by decide)) (fO cF (by decide))))))) (Z7 (ZO 1 aF) (Zq (Zf 2 aPq (gZ fX) (hr.mono (by decide)) (ZAL (ZE 0) (fO cF (by decide)))))) (qP (Z7 (ZO 1 aF) (Zq (LF 1 DC (ZK ["name","words"] [none,some 2]) (ZR [2,0]) (by rfl) (ZAH 0) (by rfl) (by rfl) (by rfl) (by rfl) (ZAW (Zf 1 aOv hp (hr.mono (by decide)) (fO cF (by decide))))))) (Zq (Zf 2 aPs (gZ fX) (hr.mono (by decide)) (ZAL (ZE 0) (ZAL (ZQ 1) (fO cF (by decide)))))))))
abbrev FS:Stmt:=top 85
def SE:FnScope ["names","forms","words","parts"] ["names","forms","words"] (defScope FS):=bH (by kernel_rfl)
def eN:Rho->Option ((T × Rho) ⊕ Str):=
 dI 2 (aB (aA 1) (aB (f1 (aA 0) aP) (aB (aA 2) aD))) gL
def pM:Rho->Option OW:=
 cA (fW 3 (nM 2 2 (fTp (aA 1)) [none,some 0,some 2] eN))
  (cA (wIf (fB (f2 (aG (aB (aA 2) aD) cN) (fC (.int 0)) oGt)) (hU "BadPaper" (aB (fC (.str "the row goes on too long")) aD)) eD)
  (fE 2 (gE (aA 3))))
def fY:List T->Option ((T × List T) ⊕ Str):=gA 3 1 pM
def vH(t0 t1 t2:T):fY [t0,t1,t2]=(pM [some t0,some t1,some t2,none]).bind gI:=rfl
def aFr{fd:FuncData}(aQ4:CalW P w K mg base "take_part" 4 ["names","form","words"] 2 gL)(aO2:RaiseK K mg base "BadPaper")(aO1:mg "len" = none)(Fu:Fun K "take_parts" "take_parts" FS f fd):
  FnOk P w K mg base (CX1 P w) 5 f fd ["names","forms","words"] (spW 2 K fY):=
 gFW 2 [1,1,0,2] Fu SE (fun B a cdv A outer s H E hr=>by
  have nd:=SE.nd;unfold pM eN;exact Zz (aCa 3 2 DC (ZK ["form","names","words"] [none,some 0,some 2]) (ZR [1,1,0]) (by rfl) (aBi (ZE 1)) (by rfl) (by rfl) (by rfl) (by rfl) (ZAW (Zf 2 aQ4 hp (hr.mono (by decide)) (ZAL (ZE 1) (ZAL (ZQ 0) (fO cF (by decide)))))) nd (by rfl) (Or.inl (by rfl)) (by rfl)) (Z7 (ZAF (ZY (ZH 2)) ge_int) (ZAO (Zd (ZP aF)))) (Zq (ZAI (ZE 3))))
abbrev FJ:Stmt:=top 88
def RV:FnScope ["page","ask","row","parts"] ["page","ask","row"] (defScope FJ):=bH (by kernel_rfl)
def rP:Rho->Option (Out ⊕ Str):=
 GX (GU 3 (f1 (aA 0) (kW 0)) (aG (aB (f2 (aA 1) (fC (.int 0)) oIx) aD) dR) (f2 (aA 2) (fC (.str " ")) jE) fY)
  (xOf (aS (fIf (fB (f2 (aG (aB (aA 3) aD) cN) (fC (.int 1)) oEq)) (f2 (aA 3) (fC (.int 0)) oIx) (aG (aB (aA 3) aD) xA))))
def gM:List T->Option (T ⊕ Str):=qB 3 1 rP
def zS(t0 t1 t2:T):gM [t0,t1,t2]=(rP [some t0,some t1,some t2,none]).bind xF:=rfl
def aFt{fd:FuncData}(aO9:Cal P w K mg base "answer_forms" 1 ["kind"] dR true 3)(aPt:CalW P w K mg base "take_parts" 5 ["names","forms","words"] 2 fY)(aO1:mg "len" = none)(aOe:mg "tuple" = none)(Fu:Fun K "read_answer" "read_answer" FJ f fd):
  FnOk P w K mg base (CX1 P w) 6 f fd ["page","ask","row"] (spX K gM false 3):=
 gFL [1,1,1,2] Fu RV (fun cdv A outer s H E hr=>by
  rw[15];have nd:=RV.nd;unfold rP;exact aC0 (aBz 3 aPt (gZ fX) (hr.mono (by decide)) (by rfl) (KR 0 (by rfl) (by decide) (ZE 0)) (ZF aO9 (ZP (ZD 1 ge_int))) (LC (ZE 2) aF) nd (by rfl) (Or.inl (by rfl)) (by rfl)) (aC1 fX (@aC2 _ _ _ _ _ _ _ (Zc (@aBn _ _ _ _ _ _ _ _ _ _ _ _ (Zw (ZY (ZH 3)) ge_int) (ZS (ZD 3 ge_int)) (ZS (aB7 (by rfl) (by rfl) aOe PyProof.Rows.boot_tuple (ZH 3))))))))
abbrev EE:Stmt:=top 102
def RB:FnScope ["names","kind","one","told","good","ends"] ["names","kind"] (defScope EE):=bH (by kernel_rfl)
def QM:Rho->Option T:=
 f1 (f2 (aA 1) (aA 0) cG) wZ
def rQ : Rho -> Option Out :=
 aN (aZ 2 (f1 (f2 (aA 0) (fC (.int 0)) oIx) aP))
  (aN (rIf (fB (f2 (aA 1) (dB (aB (fC (.str "falls")) (aB (fC (.str "base")) (aB (fC (.str "between")) aD)))) kY)) (aS (bZ (aB (fC (.str "Yes")) (aB (fC (.str "no ")) (aB (fC (.str " yes")) (aB (fC (.str "refused")) (aB (fC (.str "1")) (aB (fC (.str "none")) (aB (fC (.str "")) (aB (fC (.str "yes no")) (aB (fC (.str "yes\t")) (aB (fC (.str "yess")) aD)))))))))))) bJ)
  (aN (rIf (fB (f2 (aA 1) (dB (aB (fC (.str "best")) (aB (fC (.str "common")) aD))) kY)) (aN (kG 3 (bZ (aB (fC (.str "")) (aB (fC (.str "01")) (aB (fC (.str "+1")) (aB (fC (.str "1_0")) (aB (fC (.str "-0")) (aB (fC (.str "--1")) (aB (fC (.str "1 2")) (aB (fC (.str " 1")) (aB (fC (.str "1 ")) (aB (fC (.str "yes")) (aB (fC (.str "{ }")) (aB (fC (.str "1/1")) (aB (fC (.str "-")) aD)))))))))))))))
  (aS (f1 (f2 (aA 3) (bZ (aB (f2 (fC (.str "1")) (fC (.int 2001)) pE) (aB (f2 (fC (.str "-")) (f2 (fC (.str "1")) (fC (.int 2001)) pE) cG) (aB (fC (.str "1\t")) (aB (fC (.str "1.0")) aD))))) dC) fM))) bJ)
  (aN (rIf (fB (f2 (aA 1) (fC (.str "cheapest")) oEq)) (aN (kG 3 (bZ (aB (fC (.str "")) (aB (fC (.str "{ }")) (aB (f2 (f2 (fC (.str "{ ")) (aA 2) cG) (fC (.str " 1")) cG) (aB (f2 (aA 2) (fC (.str " } 1")) cG) (aB (f2 (f2 (f2 (f2 (fC (.str "{ ")) (aA 2) cG) (fC (.str " ")) cG) (aA 2) cG) (fC (.str " } 1")) cG) aD)))))))
  (aN (kG 3 (f1 (f2 (aA 3) (bZ (aB (fC (.str "{ xyzzyq } 1")) (aB (fC (.str "{ } 1 1")) (aB (fC (.str "{} 1")) (aB (fC (.str "1")) (aB (fC (.str "{ } yes")) (aB (fC (.str "{ } 01")) (aB (fC (.str "{  } 1")) aD)))))))) dC) fM))
  (aN (kG 3 (f1 (f2 (aA 3) (bZ (aB (f2 (f2 (fC (.str "( ")) (aA 2) cG) (fC (.str " ) 1")) cG) (aB (fC (.str "{ } -0")) (aB (fC (.str "{ } 1 ")) aD)))) dC) fM))
  (aN (rIf (fB (f2 (aG (aB (aA 0) aD) cN) (fC (.int 1)) oGt)) (DT 3 (f2 (f2 (f2 (f2 (fC (.str "{ ")) (f2 (aA 0) (fC (.int 1)) oIx) cG) (fC (.str " ")) cG) (aA 2) cG) (fC (.str " } 1")) cG)) bJ)
  (aS (tH 3)))))) bJ)
  (aN (aZ 4 (f2 (fC (.str " ")) (f2 (bZ (aB (fC (.str "1/2")) aD)) (f2 (aG (aB (aA 0) aD) cN) (fC (.int 1)) kA) pF) pD))
  (aN (kG 3 (bZ (aB (f1 (aA 4) aP) (aB (f1 (f2 (aA 4) (fC (.str " 1/2 1/2")) cG) wZ) aD))))
  (aN (aZ 5 (bZ (aB (fC (.str " 2/4")) (aB (fC (.str " 1/0")) (aB (fC (.str " 1/-1")) (aB (fC (.str " 1")) (aB (fC (.str " 1/2/3")) (aB (fC (.str " 0/2")) (aB (fC (.str " 1/02")) (aB (fC (.str " /2")) aD))))))))))
  (aS (f1 (f2 (aA 3) (cL (fFL (aA 5)) [none, some 4] bI QM) dC) fM))))))))
def mH:List T->Option T:=Fof 2 4 rQ
def zT(t0 t1:T):mH [t0,t1]=(rQ [some t0,some t1,none,none,none,none]).bind bQ:=rfl
def aFw{fd:FuncData}(aO1:mg "len" = none)(Fu:Fun K "_law_bad_rows" "_law_bad_rows" EE f fd):
  FnOk P w K mg base CX0 1 f fd ["names","kind"] (spT K mH true 3):=
 gF [1,1,1,0,1,1] Fu RB (fun cdv A outer s H E hr=>by
  rw[15];have nd:=RB.nd;unfold rQ QM;exact ZC (ZB 2 (ZM (ZD 0 ge_int))) (ZI (LW (ZE 1) (Z8 (Zx aF aF (ZP aF)))) (ZA (ZU (Zg aF aF aF aF (Zg aF aF aF aF (ZN aF aF)))))) (ZC (ZI (LW (ZE 1) (Z8 (ZN aF aF))) (ZX (ZV 3 (ZU (Zg aF aF aF aF (Zg aF aF aF aF (Zg aF aF aF aF (ZP aF))))) (Or.inl (by rfl))) (ZA (ZAV (Z0 (ZE 3) (ZU (Zx (BK aF ge_int) (nR aF (BK aF ge_int)) (ZN aF aF)))))))) (ZI (ZO 1 aF) (ZC (ZV 3 (ZU (Zg aF aF (ZAA aF (ZE 2) aF) (nR (ZE 2) aF) (ZP (ZAA (ZAA aF (ZE 2) aF) (ZE 2) aF)))) (Or.inl (by rfl))) (ZV 3 (ZAV (Z0 (ZE 3) (ZU (Zg aF aF aF aF (Zx aF aF (ZP aF)))))) (Or.inl (by rfl))) (ZC (ZV 3 (ZAV (Z0 (ZE 3) (ZU (Zx (ZAA aF (ZE 2) aF) aF (ZP aF))))) (Or.inl (by rfl))) (ZI (ZAF (ZY (ZH 0)) ge_int) (Z4 (@aBr _ _ _ _ _ _ _ _ _ _ _ _ 3 _ _ (ZAA (ZAA aF (ZD 0 ge_int) aF) (ZE 2) aF) (by rfl) (by rfl) (by trivial) (by decide) (by decide) (by rfl) (by rfl) (by rfl) (by rfl) (by rfl)))) (Zc (Z3 3))))) (ZC (Zl 4 (tM aF (ZAT (ZU (ZP aF)) (ZAM (ZY (ZH 0)) ge_int))) (Or.inr (by rfl))) (ZV 3 (ZU (ZN (ZQ 4) (LD (nR (ZE 4) aF)))) (Or.inl (by rfl))) (ZX (ZB 5 (ZU (Zg aF aF aF aF (Zx aF aF (ZN aF aF))))) (ZA (ZAV (Z0 (ZE 3) (ZG (ZK ["more","good"] [none,some 4]) (ZR [2,1]) (ZAH 5) (Zj eV (LD (nR (ZE 1) (ZE 0))))))))))))
abbrev EN:Stmt:=top 99
def aK0:FnScope ["kept"] ["kept"] (defScope EN):=bH (by kernel_rfl)
def QN:Rho->Option Out:=
 aN (rIf (pOr (fT (f1 (aA 0) (eK [("BadPaper",false)]))) (pOr (fT (f1 (aA 0) (eK [("BadPaper",false)]))) (fT (f1 (aA 0) (eK [("BadPaper",false)]))))) (aS (fC (.bl false))) bJ)
  (aN (rIf (pOr (fT (f1 (aA 0) (eK [("BadPaper",false)]))) (pOr (fT (f1 (aA 0) (eK [("BadPaper",false)]))) (fT (f1 (aA 0) (eK [("BadPaper",false)]))))) (aS (fC (.bl false))) bJ)
  (aN (rIf (pOr (fT (f1 (aA 0) (eK [("BadPaper",false)]))) (fT (f1 (aA 0) (eK [("BadPaper",false)])))) (aS (fC (.bl false))) bJ)
  (aS (f1 (aA 0) (eK [("BadPaper",true)])))))
def vI:List T->Option T:=Fof 1 0 QN
def aG5{fd:FuncData}(aQj:gB K mg "BadAsk" [("BadPaper",false)])(aPy:gB K mg "BadMaker" [("BadPaper",false)])(aQ0:gB K mg "BadTable" [("BadPaper",false)])(aQc:gB K mg "NotBase" [("BadPaper",false)])(aPe:gB K mg "NotFalling" [("BadPaper",false)])(aPm:gB K mg "NotRising" [("BadPaper",false)])(aQ1:gB K mg "NotUnder" [("BadPaper",false)])(aQk:gB K mg "Unlike" [("BadPaper",false)])(aPf:vN K "ValueError" [("BadPaper",true)])(aO0:mg "isinstance" = none)(aPu:mg "ValueError" = none)(Fu:Fun K "_law_of_none" "_law_of_none" EN f fd):
  FnOk P w K mg base CX0 1 f fd ["kept"] (spT K vI false 3):=
 gF [1] Fu aK0 (fun cdv A outer s H E hr=>by
  unfold QN;exact ZC (ZI (ZAB (Zp (ZJ (@jQ _ _ _ _ _ _ _ _ _ _ _ _ _ (by rfl) (by rfl) aO0 (by rfl) aQj (ZE 0) (by decide) (by rfl) (by rfl) (by rfl))) (Zp (ZJ (@jQ _ _ _ _ _ _ _ _ _ _ _ _ _ (by rfl) (by rfl) aO0 (by rfl) aPy (ZE 0) (by decide) (by rfl) (by rfl) (by rfl))) (ZAC (ZJ (@jQ _ _ _ _ _ _ _ _ _ _ _ _ _ (by rfl) (by rfl) aO0 (by rfl) aQ0 (ZE 0) (by decide) (by rfl) (by rfl) (by rfl))))))) (ZA jP)) (ZI (ZAB (Zp (ZJ (@jQ _ _ _ _ _ _ _ _ _ _ _ _ _ (by rfl) (by rfl) aO0 (by rfl) aQc (ZE 0) (by decide) (by rfl) (by rfl) (by rfl))) (Zp (ZJ (@jQ _ _ _ _ _ _ _ _ _ _ _ _ _ (by rfl) (by rfl) aO0 (by rfl) aPe (ZE 0) (by decide) (by rfl) (by rfl) (by rfl))) (ZAC (ZJ (@jQ _ _ _ _ _ _ _ _ _ _ _ _ _ (by rfl) (by rfl) aO0 (by rfl) aPm (ZE 0) (by decide) (by rfl) (by rfl) (by rfl))))))) (ZA jP)) (ZX (ZI (ZAB (Zp (ZJ (@jQ _ _ _ _ _ _ _ _ _ _ _ _ _ (by rfl) (by rfl) aO0 (by rfl) aQ1 (ZE 0) (by decide) (by rfl) (by rfl) (by rfl))) (ZAC (ZJ (@jQ _ _ _ _ _ _ _ _ _ _ _ _ _ (by rfl) (by rfl) aO0 (by rfl) aQk (ZE 0) (by decide) (by rfl) (by rfl) (by rfl)))))) (ZA jP)) (ZA (@aAl _ _ _ _ _ _ _ _ _ _ _ _ _ _ (by rfl) (by rfl) aO0 (by rfl) aPu (by kernel_rfl) aPf (ZE 0) (by decide) (by decide) (by rfl) (by rfl) (by rfl)))))
abbrev EQ:Stmt:=top 103
def RK:FnScope ["page","ask","row","kept","e"] ["page","ask","row"] (defScope EQ):=bH (by kernel_rfl)
def yM:Rho->Option Out:=
 aN (aZ 3 (fC .non))
  (aN (DW 4 (AC [] (aB (aA 0) (aB (aA 1) (aB (aA 2) aD)))) gM ["BadPaper"] (aZ 3 (f1 (aA 4) aP)))
  (aS (f1 (hJ (f1 (aA 3) (eK [("BadPaper",true)])) (hJ (sE (f1 (aA 3) (eK [("BadPaper",false)]))) (aG (aB (aA 3) aD) vI))) aP)))
def gN:List T->Option T:=Fof 3 2 yM
def UL(t0 t1 t2:T):gN [t0,t1,t2]=(yM [some t0,some t1,some t2,none,none]).bind bQ:=rfl
def aG7{fd:FuncData}(aP1:Cal P w K mg base "_law_of_none" 1 ["kept"] vI false 3)(aOa:CalX P w K mg base "read_answer" 6 ["page","ask","row"] gM false 3 [])(aPp:TryK K mg "CostError" ["BadPaper"])(aPz:gB K mg "BadPaper" [("BadPaper",true)])(aQb:gB K mg "BadText" [("BadPaper",false)])(aO0:mg "isinstance" = none)(Fu:Fun K "_law_refused" "_law_refused" EQ f fd):
  FnOk P w K mg base CX0 7 f fd ["page","ask","row"] (spT K gN false 3):=
 gF [1,1,1,1,1] Fu RK (fun cdv A outer s H E hr=>by
  have nd:=RK.nd;unfold yM;exact ZC (ZB 3 jR) (@aBw _ _ _ _ _ _ _ _ _ _ _ _ _ _ _ _ _ _ _ _ _ _ _ _ _ _ _ _ _ _ _ aOa hd0 aCk aPp (hr.mono (by decide)) (by rfl) (by rfl) (by rfl) (Zm (ZE 0) 1 (ZH 2)) (by rfl) (by rfl) nd (by rfl) (by rfl) (by rfl) (fun a=>Z4 (ZB 3 (ZQ 4))) (by rfl) (by decide) (by decide) (by rfl) (by rfl)) (ZA (ZM (Zn (@jQ _ _ _ _ _ _ _ _ _ _ _ _ _ (by rfl) (by rfl) aO0 (by rfl) aPz (ZE 3) (by decide) (by rfl) (by rfl) (by rfl)) (Zn (ZAX (@jQ _ _ _ _ _ _ _ _ _ _ _ _ _ (by rfl) (by rfl) aO0 (by rfl) aQb (ZE 3) (by decide) (by rfl) (by rfl) (by rfl))) (Z9 (ZF aP1 (ZH 3))))))))
abbrev rW:Stmt:=top 104
def RQ:FnScope ["script","hands","names","page","cell","ask","answer","handed","due","text","rows"] ["script"] (defScope rW):=bH (by kernel_rfl)
def rT:Rho->Option Out:=
 aN (xS [5,6] (aG (aB (aA 4) (aB (aA 1) aD)) pU))
  (aN (aZ 7 (aG (aB (aA 4) (aB (aA 1) aD)) pU))
  (aN (aZ 8 (f1 (aG (aB (aA 2) (aB (aA 5) (aB (aA 6) aD))) mI) aP))
  (aN (aZ 9 (f1 (aG (aB (aA 3) (aB (f2 (aA 7) (fC (.int 0)) oIx) (aB (f2 (aA 7) (fC (.int 1)) oIx) aD))) nH) aP))
  (aN (rIf (pOr (fD (fT (f1 (aA 9) (cH "str")))) (pOr (fB (f2 (aA 9) (aA 8) oNe)) (fD (fT (aG (aB (f2 (aA 7) (fC (.int 1)) oIx) (aB (aA 6) aD)) sJ))))) (aS (fC (.bl false))) bJ)
  (aN (rIf (fD (fT (aG (aB (aG (aB (aA 3) (aB (aA 5) (aB (aA 8) aD))) (wO gM)) (aB (aA 6) aD)) sJ))) (aS (fC (.bl false))) bJ)
  (aN (aZ 10 (aG (aB (aA 2) (aB (f2 (aA 5) (fC (.int 0)) oIx) aD)) mH))
  (rIf (fD (fT (aG (aB (aA 3) (aB (aA 5) (aB (f2 (aA 10) (f2 (f2 (aA 4) (fC (.int 3)) bV) (aG (aB (aA 10) aD) cN) bE) oIx) aD))) gN))) (aS (fC (.bl false))) bJ)))))))
noncomputable def yX:Rho->Option Out:=
 aN (aZ 1 (f1 (aG (aB (aA 0) aD) sM) aP))
  (aN (aZ 2 (aG (aB (aA 0) (aB (fC (.int 150)) (aB (aA 1) aD))) pW))
  (aN (aZ 3 (aG (aB (f2 (fC (.str "hands ")) (f2 (fC (.str " ")) (aA 2) pD) cG) aD) (pG hZ)))
  (aN (uN 4 (fFL (aA 0))
  rT)
  (aS (fC (.bl true))))))
noncomputable def sS:List T->Option T:=Fof 1 10 yX
def VE(t0:T):sS [t0]=(yX [some t0,none,none,none,none,none,none,none,none,none,none]).bind bQ:=rfl
def aGl{fd:FuncData}(aPi:Cal P w K mg base "_law_hands" 2 ["script"] sM false 3)(aPj:Cal P w K mg base "_law_names" 2 ["script","k","many"] pW true 3)(aPx:CalR1 P w K mg base "read_page" 4 hZ)(aOj:Cal P w K mg base "_law_answer" 4 ["cell","hands"] pU true 3)(aQ7:Cal P w K mg base "_law_due" 2 ["names","ask","answer"] mI false 3)(aP8:Cal P w K mg base "answer_text" 5 ["page","ask","answer"] nH false 3)(aOp:Cal P w K mg base "_law_alike" 5 ["found","due"] sJ false 3)(aOq:Cal P w K mg base "_law_bad_rows" 1 ["names","kind"] mH true 3)(aP2:Cal P w K mg base "_law_refused" 7 ["page","ask","row"] gN false 3)(aOa:CalX P w K mg base "read_answer" 6 ["page","ask","row"] gM false 3 [])(aR7:∀ C,mg "Page" = some (.ref C)->PgK K C)(aO0:mg "isinstance" = none)(aOh:mg "str" = none)(aO1:mg "len" = none)(Fu:Fun K "law" "law" rW f fd):
  FnOk P w K mg base CX0 8 f fd ["script"] (spT K sS false 3):=
 gF [1,1,1,1,1,1,1,1,1,1,1] Fu RQ (fun cdv A outer s H E hr=>by
  rw[15];have nd:=RQ.nd;unfold yX rT;exact ZC (ZB 1 (ZM (ZF aPi (ZH 0)))) (ZB 2 (ZF aPj (Zx (ZE 0) ge_int (ZH 1)))) (ZC (ZB 3 (aAw aPx (hr.mono (by decide)) (by rfl) (ZP (nR aF (tM aF (ZE 2)))) aR7)) (Zs 4 (ZAH 0) (Or.inl (by rfl)) (ZC (@aBx _ _ _ _ _ _ _ _ _ _ _ [5,6] _ _ _ (by rfl) (ZF aOj (Zh (ZE 4) 1)) (Z5 (Or.inl (by rfl)) (Z5 (Or.inl (by rfl)) (@LJ _))) (by rfl) (by rfl) (by rfl) (by rfl) (by rfl) (by rfl) (by rfl) (by rfl)) (ZB 7 (ZF aOj (Zh (ZE 4) 1))) (ZC (ZB 8 (ZM (ZF aQ7 (Zm (ZE 2) 5 (ZH 6))))) (ZB 9 (ZM (ZF aP8 (Zx (ZE 3) (ZD 7 ge_int) (ZP (ZD 7 ge_int)))))) (ZC (ZI (ZAB (Zp (Z6 (ZJ (Zb (ZE 9)))) (Zp (Zo (ZE 9) (ZE 8)) (ZAC (Z6 (ZJ (ZF aOp (Zh (ZD 7 ge_int) 6)))))))) (ZA jP)) (ZI (Z6 (ZJ (ZF aOp (Zh (aAb aOa (hr.mono (by decide)) (by rfl) (Zm (ZE 3) 5 (ZH 8))) 6)))) (ZA jP)) (ZX (ZB 10 (ZF aOq (ZN (ZE 2) (ZD 5 ge_int)))) (Z4 (ZI (Z6 (ZJ (ZF aP2 (Zm (ZE 3) 5 (ZP (ZD 10 (ZL (ZZ (ZE 4) ge_int) (ZY (ZH 10))))))))) (ZA jP)))))))) (ZA jP)))
end My
namespace My
open PySem PySem.Spec PyProof.Rows L2 G
noncomputable def fR(ns:List Int)(k:Nat):Int:=((if 0<ns.length then ns.getD (k%ns.length) 0%2147483647 else 0)+7919*(k:Int)+1)*(48271+2*(k:Int)*(k:Int))%2147483647
def vL(ns:List Int){k:Nat}(h1:k<1000):fZ [.lst (tI ns),.int (k:Int)]=some (.int (fR ns k)):=by
 have m1:bM (.int 7919) (.int (k:Int))=some (.int (7919*(k:Int))):=jZ (by decide);have m2:bM (.int 2) (.int (k:Int))=some (.int (2*(k:Int))):=jZ (by decide);have m3:bM (.int (2*(k:Int))) (.int (k:Int))=some (.int (2*(k:Int)*(k:Int))):=jZ (by lia);have m4:∀ i:Int,bE (.int i) (.int 2147483647)=some (.int (i%2147483647)):=fun i=>eB (by decide);rw[UH];unfold yE fR
 by_cases h:0<ns.length
 ·have hm:k%ns.length<ns.length:=Nat.mod_lt _ h
  have m5:bE (.int (k:Int)) (.int (ns.length:Int))=some (.int ((k%ns.length:Nat):Int)):=by rw[eB (by lia),Int.natCast_emod]
  have a1:atI (tI ns) ((k%ns.length:Nat):Int)=some (.int (ns.getD (k%ns.length) 0)):=WH hm;have h':decide ((0:Int)<(ns.length:Int))=true:=aUj (by lia);rw[aUc h];generalize ns.getD (k%ns.length) 0=c at a1;have c0:0<=c%2147483647:=Int.emod_nonneg _ (by decide);have c1:c%2147483647<2147483647:=Int.emod_lt_of_pos _ (by decide);have mc:=m4 c;generalize c%2147483647=y at c0 c1 mc;have m6:bM (.int (y+7919*(k:Int)+1)) (.int (48271+2*(k:Int)*(k:Int)))=some (.int ((y+7919*(k:Int)+1)*(48271+2*(k:Int)*(k:Int)))):=jZ (by lia);simp only[aT,bN,bG,bD,aU,aJ,aE,aM,aY,aK,aH,List.set,zz0,zz1,jn,zz2,zz3,eZ,zG,mY,h',aR,aUb,m5,dN,a1,mc,m1,m2,m3,jY,m6,m4,bF]
 ·have h':decide ((0:Int)<(ns.length:Int))=false:=aUi (by lia)
  rw[aUd h];have m6:bM (.int (0+7919*(k:Int)+1)) (.int (48271+2*(k:Int)*(k:Int)))=some (.int ((0+7919*(k:Int)+1)*(48271+2*(k:Int)*(k:Int)))):=jZ (by lia);simp only[aT,bN,bG,cC,bD,aU,aJ,aE,aM,aY,aK,aH,List.set,zz0,zz1,jn,zz2,zz3,eZ,zG,mY,h',aR,aSe,aUg,m1,m2,m3,jY,m6,m4,bF]
noncomputable def JH:List Int:=[1,2,3,4,3,4,5,6]
def YM:(List.range 8).all (fun k=>match atI (tI JH) (k:Int) with | some (.int i)=>decide (1<=i)&&decide (i<=6) | _=>false)=true:=by decide +kernel
def UW(ns:List Int):∃ n:Nat,1<=n/\n<=6/\sM [.lst (tI ns)]=some (.int (n:Int)):=by
 have f0:fZ [.lst (tI ns),.int 0]=some (.int (fR ns 0)):=vL ns (k:=0) (by decide);have d3:bV (.int (fR ns 0)) (.int 3)=some (.int (fR ns 0 / 3)):=jD (by decide) (by decide);have c0:0<=fR ns 0 / 3%8:=Int.emod_nonneg _ (by decide);have c1:fR ns 0 / 3%8<8:=Int.emod_lt_of_pos _ (by decide);have m:bE (.int (fR ns 0 / 3)) (.int 8)=some (.int ((fR ns 0 / 3%8).toNat:Int)):=by rw[eB (by decide),Int.toNat_of_nonneg c0]
 have hk:(fR ns 0 / 3%8).toNat<8:=by lia
 generalize (fR ns 0 / 3%8).toNat=k at m hk;have a:=aS1.mp YM k (aS2.mpr hk);cases h:atI (tI JH) (k:Int) with
 | none=>rw[h] at a;cases a
 | some t=>
  rw[h] at a;cases t<;>first | (cases a;done) | skip
  rename_i i;simp only[aSb,aUh] at a;refine⟨i.toNat,by lia,by lia,?_⟩;rw[UG];unfold yD;simp only[bD,aX,aJ,aM,aE,aY,aK,aH,zz0,jn,zz2,f0,d3,m,dN,show atI (tI [1,2,3,4,3,4,5,6]) (k:Int)=some (.int i) from h,dX,zz3,bF]
  congr 2
  lia
def xO{n:Nat}(h:n<=6):2^n<=64:=aTt (Nat.pow_le_pow_right (by decide) h) (by decide:2^6<=64)
noncomputable def tN'(ns:List Nat):List Int:=ns.map fun (n:Nat)=>(n:Int)
open PySem.NumText
def aKm{w:Str}{j:Int}(h:0<=j/\j<=w.cps.toList.length):Txt.slice w none (some j)=⟨(w.cps.toList.take j.toNat).toArray⟩:=by
 have:=slice_closes_to h;rw[aUx] at this
 simpa using this
def SH{w:Str}{i:Int}(h0:0<=i)(h:i<=w.length):Txt.slice w (some i) none=⟨(w.cps.toList.drop i.toNat).toArray⟩:=by
 rw[slice_from_eq h0 h rfl]
 congr 2
 apply List.take_of_length_le
 have:w.cps.toList.length=w.length:=Array.length_toList;simp only[List.length_drop];lia
def nY:(("-":Str))=⟨#[45]⟩:=by decide +kernel
def vA(c:Nat)(r:List Nat):Txt.startswith ⟨(c::r).toArray⟩ ⟨#[45]⟩=(c == 45):=by
 have e1:decide (0+(⟨#[45]⟩:Str).length<=(⟨(c::r).toArray⟩:Str).length)=true:=aUj (by show 0+1<=(c::r).toArray.size;simp);have e2:Builtin.Str.subAt ⟨(c::r).toArray⟩ ⟨#[45]⟩ 0=((#[c]:Array Nat) == #[45]):=by
  unfold Builtin.Str.subAt;have:((c::r).toArray).extract 0 (0+(⟨#[45]⟩:Str).length)=#[c]:=by
   show ((c::r).toArray).extract 0 1=#[c];simp
  rw[this]
 unfold Txt.startswith;rw[e1,e2,Bool.true_and];rw[aSd,aUx,aUx];simp
def aM1(w:Str):∃ (u:Str) (st:Bool),Txt.startswith w "-" = st/\(Txt.slice w none (some 1) == ("-" : Str))=st/\(if st then Txt.slice w (some 1) none else w)=u/\u.length<=w.length/\(st=true->w.cps.toList=45::u.cps.toList)/\(st=false->u=w):=by
 refine⟨if Txt.startswith w "-" then Txt.slice w (some 1) none else w,Txt.startswith w "-",rfl,?_,rfl,?_,?_,?_⟩
 all_goals (obtain⟨⟨cs⟩⟩:=w)
 ·rw[nY]
  cases cs with
  | nil=>decide
  | cons c r=>
   rw[aKm (by simp;lia),vA];rw[aSd,aUx,aUx];simp
 ·split
  ·exact Txt.slice_le _ _ _
  ·exact aTs _
 ·intro h
  rw[aUc h];rw[nY] at h;cases cs with
  | nil=>exact absurd h (by decide)
  | cons c r=>
   rw[vA,aUx] at h;rw[SH (by decide) (by show (1:Int)<=((c::r).toArray.size:Nat);simp;lia)];simp[h]
 ·intro h
  rw[h];rfl
noncomputable def fig(c:Nat):Bool:=decide (c∈(("0123456789":Str)).cps.toList)
def YX:(("0123456789":Str)).cps.toList=[48,49,50,51,52,53,54,55,56,57]:=by decide +kernel
def aHj(c:Nat):pH ⟨#[c]⟩ (("0123456789":Str))=fig c:=StrLaws.found_one _ c
def aF2(a b:Str):oEq (.str a) (.str b)=some (.bl (a == b)):=rfl
def kZ(a b:Str):oNe (.str a) (.str b)=some (.bl (!(a == b))):=rfl
def CU{u:Str}(h:u.length<=cap):mZ [.str u]=some (.int u.length):=by
 show (if u.length<=cap then some (T.int u.length) else none)=_;rw[aUc h]
def XZ(u:Str):bS bI zA [none] (G.signs u)=some (u.cps.toList.map fun c=>T.bl (fig c)):=by
 unfold G.signs;rw[IS (fun t=>match t with | .str ⟨#[c]⟩=>T.bl (fig c) | t=>t),aTd]
 ·rfl
 ·intro t ht
  obtain⟨c,_,rfl⟩:=aTj.mp ht;show some (T.bl (pH ⟨#[c]⟩ (("0123456789":Str))))=_;rw[aHj]
  rfl
def WA(l:List Nat):gW [.lst (l.map fun c=>T.bl (fig c))]=some (.bl (l.all fig)):=by
 have:G.allB (l.map fun c=>T.bl (fig c))=some (l.map fig):=by
  induction l with
  | nil=>rfl
  | cons a r ih=>simp only[aTc,G.allB,ih];rfl
 show (G.allB _).map _=_;rw[this];simp
def gR(w:Str):(chL w).length=w.length:=Array.length_toList
noncomputable def aV(n:Int):Str:=Str.ofString (toString n)
noncomputable def dg(k:Nat):List Nat:=(Nat.toDigits 10 k).map Char.toNat
def qJ(k:Nat):AllDigits (dg k):=by
 intro c hc;obtain⟨ch,hch,e⟩:=aTj.mp hc;rw[<- e];exact PyProof.Rows.digit_range (Nat.isDigit_of_mem_toDigits (by decide) (by decide) hch)
def IZ{k:Nat}(h:¬ k<10):dg k=dg (k / 10)++[(Nat.digitChar (k%10)).toNat]:=by
 have hm:k%10<10:=Nat.mod_lt k (by decide);have t:Nat.toDigits 10 (k / 10)++Nat.toDigits 10 (k%10)=Nat.toDigits 10 (10*(k / 10)+k%10):=Nat.toDigits_append_toDigits (by decide) (by lia) hm;rw[Nat.div_add_mod] at t;unfold dg;rw[<- t,List.map_append,Nat.toDigits_of_lt_base hm]
 rfl
def IY{k:Nat}(h:k<10):dg k=[(Nat.digitChar k).toNat]:=by
 unfold dg;rw[Nat.toDigits_of_lt_base h]
 rfl
def IX(k:Nat):∃ c r,dg k=c::r/\(c=48->k=0):=by
 induction k using Nat.strongRecOn with
 | _ k ih=>
  by_cases h:k<10
  ·refine⟨_,_,IY h,?_⟩
   have:∀ d:Nat,d<10->(Nat.digitChar d).toNat=48->d=0:=by decide
   exact this k h
  ·obtain⟨c,r,e,hc⟩:=ih (k / 10) (by lia)
   rw[IZ h,e];exact⟨c,_,rfl,fun z=>absurd (hc z) (by lia)⟩
def vW:∀ (L k:Nat),1<=L->k<10^L->(dg k).length<=L:=by
 intro L
 induction L with
 | zero=>intro k h;lia
 | succ L ih=>
  intro k _ hk
  by_cases h:k<10
  ·rw[IY h];simp
  ·rw[IZ h,aT3,aT9]
   have hd:k / 10<10^L:=by rw[Nat.div_lt_iff_lt_mul (by decide)];rwa [Nat.pow_succ] at hk
   have h1:1<=L:=by
    rcases Nat.eq_zero_or_pos L with z | z
    ·subst z;simp at hd;lia
    ·exact z
   have:=ih (k / 10) h1 hd;lia
def CP(k:Nat):chL (aV (k:Int))=dg k:=PySem.W.KIN.signs_num k
def CO(k:Nat):chL (aV (Int.negSucc k))=45::dg (k+1):=by
 unfold chL aV;rw[PyProof.Rows.signs_ofString];show (("-" ++ Nat.repr (k+1)):String).toList.map Char.toNat=_;rw[String.toList_append,List.map_append,Nat.toList_repr]
 rfl
def IA{l:List Nat}(h:AllDigits l):l.all fig=true:=by
 rw[aS1];intro c hc;have:=h c hc;unfold fig;rw[YX];have all:∀ c:Nat,48<=c->c<=57->decide (c∈[48,49,50,51,52,53,54,55,56,57])=true:=fun c h1 h2=>by
  obtain⟨d,rfl⟩:∃ d,c=48+d:=⟨c-48,by lia⟩;have:∀ d:Nat,d<10->decide (48+d∈[48,49,50,51,52,53,54,55,56,57])=true:=by decide
  exact this d (by lia)
 exact all c this.1 this.2
theorem HF{L:Nat}(hL:L<=4000){w u:Str}{st:Bool}{m:Int}(h1:Txt.startswith w "-" = st)(h3:(if st then Txt.slice w (some 1) none else w)=u)(hwc:w.length<=4300)(huc:u.length<=L){c:Nat}{r:List Nat}(hcr:u.cps.toList=c::r)(hd:u.cps.toList.all fig=true)(hl:c=48->w=("0":Str))
  (hm:uC [.str w]=some (.int m)):dS [.str w,.int (L:Int)]=some (.int m):=by
 have hwc':w.length<=cap:=by unfold cap;lia
 have huc':u.length<=cap:=by unfold cap;lia
 have hlu:u.cps.toList.length=u.length:=Array.length_toList;have toldN:dS [.str w,.int (L:Int)]=((aN (rIf (pOr (fB (f2 (aG (aB (aA 2) aD) mZ) (fC (.int 0)) oEq)) (pOr (fB (f2 (aG (aB (aA 2) aD) mZ) (aA 1) oGt)) (fD (fT (aG (aB (cL (tJ (aA 2)) [none] bI zA) aD) gW))))) (aS (fC .non)) bJ)
  (aN (rIf (rE (fB (f2 (f2 (aA 2) (fC (.int 0)) gX) (fC (.str "0")) oEq)) (fB (f2 (aA 0) (fC (.str "0")) oNe))) (aS (fC .non)) bJ)
  (aS (aG (aB (aA 0) aD) uC)))) [some (.str w),some (.int (L:Int)),some (.str u)]).bind bQ:=by
  rw[HG];unfold uY;rw[aT];have g:aP (.str w)=some (.str w):=rfl;have os:uH (.str w) (.str "-")=some (.bl st):=by rw[<- h1];rfl
  simp only[bN,aX,aJ,qM,eI,aM,aE,JQ,DB,CZ,BZ,List.set,zz0,jn,zz2,zz3,g,os,eC,hwc',aUb];cases st with
  | true=>cases h3;rfl
  | false=>cases h3;rfl
 rw[toldN]
 clear toldN
 have lS:=CU huc';have tk:bX [none] [some (T.str w),some (.int (L:Int)),some (.str u)]=[none]:=rfl;have ci:=XZ u;have lm:(u.cps.toList.map fun c=>T.bl (fig c)).length<=cap:=by rw[aT5];lia
 have ab:=WA u.cps.toList;rw[hd] at ab;have a2:((u.length:Int) == 0)=false:=by
  rw[hcr,aT4] at hlu;rw[aUq];lia
 have eq0:oEq (.int (u.length:Int)) (.int 0)=some (.bl ((u.length:Int) == 0)):=rfl;have b1:decide ((L:Int)<(u.length:Int))=false:=aUi (by lia);have ix:gX (.str u) (.int 0)=some (.str ⟨#[c]⟩):=by
  have:u.cps[(0:Int).toNat]?=some c:=by
   rw[<- Array.getElem?_toList,hcr];rfl
  show (if (0:Int)<=0/\(0:Int)<2^63 then _ else none)=_;rw[aUc (by decide),this];rfl
 have hE:rE (fB (f2 (f2 (aA 2) (fC (.int 0)) gX) (fC (.str "0")) oEq)) (fB (f2 (aA 0) (fC (.str "0")) oNe)) [some (.str w),some (.int (L:Int)),some (.str u)]=some false:=by
  simp only[OJ,aU,aJ,aM,aE,zz0,zz1,jn,zz2,ix,aF2,kZ,aR]
  by_cases hc:c=48
  ·have:(!(w == ("0":Str)))=false:=by rw[hl hc];decide +kernel
   rw[show (!(w == ("0":Str)))=false from this];cases ((⟨#[c]⟩:Str) == ("0":Str))<;>rfl
  ·have:((⟨#[c]⟩:Str) == ("0":Str))=false:=by
    rw[aUq];intro z;have e0:("0":Str) = ⟨#[48]⟩:=by decide +kernel
    rw[e0] at z
    injection z with z
    have:=congrArg Array.toList z;simp at this;exact hc this
   rw[this];rfl
 rw[aT];simp only[bG,cC,jG,kD,eI,eC,aU,aJ,aM,aY,aK,aH,aE,eH,JR,tk,ci,lm,ab,zz0,zz1,jn,zz2,zz3,lS,eq0,a2,b1,mY,aR,aSg,aSe,aUg,aUb];rw[aT,bG,hE];simp only[bD,cC,aY,aK,aH,aE,zz0,jn,zz2,zz3,aSe,aUg,hm]
 rfl
def nZ{L:Nat}(h1:1<=L){n:Int}(h:n.natAbs<10^L):(aV n).length<=L+1:=by
 rw[<- gR]
 match n,h with
 | .ofNat k,h=>rw[show chL (aV (Int.ofNat k))=dg k from CP k];have:=vW L k h1 h;lia
 | .negSucc k,h=>rw[CO,aT4];have:=vW L (k+1) h1 h;lia
def wS{n:Int}{c:Nat}(h:c∈chL (aV n)):c=45\/(48<=c/\c<=57):=by
 match n,h with
 | .ofNat k,h=>rw[show chL (aV (Int.ofNat k))=dg k from CP k] at h;exact .inr (qJ k c h)
 | .negSucc k,h=>
  rw[CO] at h;rcases aS7.mp h with h | h
  ·exact .inl h
  ·exact .inr (qJ _ c h)
def VN{L:Nat}(hL1:1<=L)(hL:L<=4000){n:Int}(h:n.natAbs<10^L):dS [.str (aV n),.int (L:Int)]=some (.int n):=by
 have hl:=nZ hL1 h;obtain⟨u,st,h1,_,h3,h4,h5,h6⟩:=aM1 (aV n);have oi:∀ m,PySem.intText? (aV n)=some m->uC [.str (aV n)]=some (.int m):=fun m e=>by
  show (if (aV n).length<=cap then (PySem.intText? (aV n)).map T.int else none)=_;rw[aUc (by unfold cap;lia),e];rfl
 match n,h,hl,u,st,h1,h3,h4,h5,h6,oi with
 | .ofNat k,h,hl,u,st,h1,h3,h4,h5,h6,oi=>
  have ec:(aV (Int.ofNat k)).cps.toList=dg k:=CP k;obtain⟨c,r,ed,hc⟩:=IX k;have hst:st=false:=by
   cases st with
   | false=>rfl
   | true=>
    have:=h5 rfl;rw[ec,ed] at this;have hd:=qJ k c (by rw[ed];exact aRz);have:=(List.cons.inj this).1;lia
  subst hst;cases h6 rfl;have ad:AllDigits (aV (Int.ofNat k)).cps.toList:=by rw[ec];exact qJ k
  refine HF hL h1 h3 (by lia) ?_ (ec.trans ed) (IA ad) (fun z=>?_) (oi _ ?_)
  ·rw[<- gR,show chL (aV (Int.ofNat k))=dg k from ec]
   exact vW L k hL1 h
  ·cases hc z;decide +kernel
  ·have:=intText_digits ad (by rw[ec,ed];simp) (by lia)
   rw[ec] at this;rw[this];unfold dg;rw[PySem.W.KIN.val_back];rfl
 | .negSucc k,h,hl,u,st,h1,h3,h4,h5,h6,oi=>
  have ec:(aV (Int.negSucc k)).cps.toList=45::dg (k+1):=CO k;obtain⟨c,r,ed,hc⟩:=IX (k+1);have hst:st=true:=by
   rw[<- h1,nY];have:aV (Int.negSucc k)=⟨(45::dg (k+1)).toArray⟩:=by
    rw[<- ec]
   rw[this,vA];rfl
  subst hst;have eu:u.cps.toList=dg (k+1):=by
   have:=h5 rfl;rw[ec] at this;exact (List.cons.inj this).2.symm
  refine HF hL h1 h3 (by lia) ?_ (eu.trans ed) (by rw[eu];exact IA (qJ _)) (fun z=>absurd (hc z) (by lia)) (oi _ ?_)
  ·rw[<- gR,show chL u=dg (k+1) from eu]
   exact vW L (k+1) hL1 h
  ·rw[intText_neg ec (qJ _) (by rw[ed];simp) (by lia)]
   unfold dg;rw[PySem.W.KIN.val_back]
   rfl
def zW{n:Int}(h:n.natAbs<10^2000):dS [.str (aV n),.int 2000]=some (.int n):=VN (L:=2000) (by decide) (by decide) h
def mS(w:Str):Bool:=decide (1<=w.length)&&decide (w.length<=8)&&(chL w).all fun c=>decide (97<=c)&&decide (c<=122)
def jU{w:Str}(h:mS w=true):1<=w.length/\w.length<=8/\∀ c∈chL w,97<=c/\c<=122:=by
 unfold mS at h;simp only[aSb,aUh,aS1] at h;exact⟨h.1.1,h.1.2,h.2⟩
def dG(ws:List Str):Prop:=ws.Nodup/\∀ w∈ws,mS w=true
noncomputable def ltr:List Nat:=(List.range 26).map (97 + ·)
def NE:(("abcdefghijklmnopqrstuvwxyz":Str)).cps.toList=ltr:=by decide +kernel
def CW(a:Nat){b:Nat}(h:0<b):bE (.int (a:Int)) (.int (b:Int))=some (.int ((a%b:Nat):Int)):=by
 rw[eB (by lia)];rfl
noncomputable def one(c:Nat):Str:=⟨#[c]⟩
noncomputable def wdL:List Str:=[("ask":Str),("table":Str),("none":Str),("sum":Str),("dues":Str),("yes":Str),("steps":Str),("refused":Str)]
def nm0(t j:Nat):Str:=wdL.getD ((t+j)%8) default
noncomputable def nm1(t s j:Nat):Str:=⟨(List.replicate (1+(t+3*j)%8) (97+s)).toArray⟩
def nm2(s j:Nat):Str:=one (97+(s+5*j)%26)
def mL(l:List Nat):chL ⟨l.toArray⟩=l:=rfl
def NH(c n:Nat)(hn:n<=3000):pE (.str (one c)) (.int (n:Int))=some (.str ⟨(List.replicate n c).toArray⟩):=by
 have h:0<=(n:Int)/\(n:Int)<=3000/\(one c).length<=1000:=⟨by lia,by lia,by show 1<=1000;decide⟩;show (if 0<=(n:Int)/\(n:Int)<=3000/\(one c).length<=1000 then some (T.str (Txt.mul (one c) (n:Int))) else none)=_;rw[aUc h]
 congr 2
 apply gQ
 rw[mL];unfold Txt.mul
 by_cases h0:(n:Int)<1
 ·have:n=0:=by lia
  subst this;rw[aUc h0];rfl
 rw[aUd h0];have l1:((one c).length == 0)=false:=rfl
 by_cases h1:n=1
 ·subst h1;rfl
 have e1:(((n:Int) == 1)||(one c).length == 0)=false:=by
  rw[l1,Bool.or_false,aUq];lia
 rw[e1,aUd (by decide),Int.toNat_natCast];show (((List.replicate n (#[c]:Array Nat)).foldl (· ++ ·) #[]).toList)=_;have key:∀ (m:Nat) (acc:Array Nat),((List.replicate m (#[c]:Array Nat)).foldl (· ++ ·) acc).toList=acc.toList++List.replicate m c:=by
  intro m
  induction m with
  | zero=>intro acc;simp
  | succ m ih=>intro acc;rw[aTp,List.foldl_cons,ih,aTp];simp
 rw[key];exact aTm _
def CK{f:Nat->Str}{m:Nat}(h:∀ i j,i<j->j<m->f i≠f j):((List.range m).map f).Nodup:=by
 unfold List.Nodup;rw[List.pairwise_map];refine List.Pairwise.imp_of_mem (R:=(· < ·)) ?_ List.pairwise_lt_range;intro a b ha hb hab;exact h a b hab (aS2.mp hb)
def aEr:(List.range 8).all (fun t=>(List.range 6).all fun j=>mS (nm0 t j)&&(List.range j).all fun i=>!(nm0 t i == nm0 t j))=true:=by decide +kernel
def aEs:(List.range 8).all (fun t=>(List.range 6).all fun j=>(List.range j).all fun i=>!((t+3*i)%8 == (t+3*j)%8))=true:=by decide +kernel
def aEt:(List.range 26).all (fun s=>(List.range 6).all fun j=>(List.range j).all fun i=>!((s+5*i)%26 == (s+5*j)%26))=true:=by decide +kernel
def jB{n:Nat}{p:Nat->Bool}(h:(List.range n).all p=true){i:Nat}(hi:i<n):p i=true:=aS1.mp h i (aS2.mpr hi)
def ok0{t m:Nat}(ht:t<8)(hm:m<=6):dG ((List.range m).map (nm0 t)):=by
 have A:∀ j,j<m->mS (nm0 t j)=true/\∀ i,i<j->nm0 t i≠nm0 t j:=fun j hj=>by
  have:=jB (jB aEr ht) (show j<6 by lia);rw[aSb] at this;exact⟨this.1,fun i hi e=>by have:=jB this.2 hi;rw[e] at this;simp at this⟩
 refine⟨CK fun i j hij hj=>(A j hj).2 i hij,fun w hw=>?_⟩;obtain⟨j,hj,rfl⟩:=aTj.mp hw;exact (A j (aS2.mp hj)).1
def ok1{t s m:Nat}(ht:t<8)(hs:s<26)(hm:m<=6):dG ((List.range m).map (nm1 t s)):=by
 refine⟨CK fun i j hij hj e=>?_,fun w hw=>?_⟩
 ·have:=jB (jB (jB aEs ht) (show j<6 by lia)) hij
  have l:=congrArg (fun w=>(chL w).length) e;simp only[nm1,mL,aT7] at l;have:(t+3*i)%8=(t+3*j)%8:=by lia
  simp_all
 ·obtain⟨j,hj,rfl⟩:=aTj.mp hw
  unfold mS;simp only[aSb,aUh,aS1,<- gR,nm1,mL,aT7];refine⟨⟨by lia,by lia⟩,fun c hc=>?_⟩;have:=List.eq_of_mem_replicate hc;lia
def ok2{s m:Nat}(hs:s<26)(hm:m<=6):dG ((List.range m).map (nm2 s)):=by
 refine⟨CK fun i j hij hj e=>?_,fun w hw=>?_⟩
 ·have:=jB (jB (jB aEt hs) (show j<6 by lia)) hij
  have l:=congrArg (fun w=>(chL w)[0]?) e;simp only[nm2,one,chL] at l;simp at l
  simp_all
 ·obtain⟨j,hj,rfl⟩:=aTj.mp hw
  have hl:(s+5*j)%26<26:=Nat.mod_lt _ (by decide);unfold mS;simp only[aSb,aUh,aS1,<- gR,nm2,one,chL];refine⟨⟨by simp,by simp⟩,fun c hc=>?_⟩;simp at hc;lia
def MW{z:Str}(hz:z.cps.toList=ltr){k:Nat}(h:k<26):gX (.str z) (.int (k:Int))=some (.str (one (97+k))):=by
 have e:z.cps[((k:Nat):Int).toNat]?=some (97+k):=by
  rw[Int.toNat_natCast,<- Array.getElem?_toList,hz];unfold ltr;rw[aT0,List.getElem?_range h]
  rfl
 unfold gX;dsimp only;rw[aUc ⟨by lia,by lia⟩,e]
 rfl
def aEw{t m:Nat}:bS bI uV [none,some (.lst (tW wdL)),some (.int (t:Int))] (G.rangeT 0 m)=some ((List.range m).map fun j=>T.str (nm0 t j)):=by
 refine tD _ fun j hj=>?_;have a:bU (.int (t:Int)) (.int (0+(j:Int)))=some (.int ((t+j:Nat):Int)):=by rw[jY];congr 2;lia
 have md:bE (.int ((t+j:Nat):Int)) (.int 8)=some (.int (((t+j)%8:Nat):Int)):=CW _ (b:=8) (by decide);have ix:atI (tW wdL) (((t+j)%8:Nat):Int)=some (.str (nm0 t j)):=by
  have hl:(t+j)%8<wdL.length:=Nat.mod_lt _ (by decide);refine cM ?_;unfold tW nm0;rw[aT0,aRx hl,aRw,aRx hl]
  rfl
 have g:aP (.str (nm0 t j))=some (.str (nm0 t j)):=rfl;unfold uV;simp only[aX,aJ,aM,aE,List.set,zz0,zz1,jn,zz2,a,md,dN,ix,g]
def AW{a b:Rho->Option T}{o:T->T->Option T}{ρ:Rho}{x y:T}(ha:a ρ=some x)(hb:b ρ=some y):f2 a b o ρ=o x y:=by
 rw[aJ,ha,hb];rfl
def aEx{z:Str}(hz:z.cps.toList=ltr){t s m:Nat}(s26:s<26):bS bI yG [none,some (.str z),some (.int (s:Int)),some (.int (t:Int))] (G.rangeT 0 m)=some ((List.range m).map fun j=>T.str (nm1 t s j)):=by
 refine tD _ fun j hj=>?_;have a1:bM (.int 3) (.int (0+(j:Int)))=some (.int ((3*j:Nat):Int)):=by rw[jZ (by decide)];congr 2;lia
 have a2:bU (.int (t:Int)) (.int ((3*j:Nat):Int))=some (.int ((t+3*j:Nat):Int)):=by rw[jY];congr 2
 have md:bE (.int ((t+3*j:Nat):Int)) (.int 8)=some (.int (((t+3*j)%8:Nat):Int)):=CW _ (b:=8) (by decide);have a3:bU (.int 1) (.int (((t+3*j)%8:Nat):Int))=some (.int ((1+(t+3*j)%8:Nat):Int)):=by rw[jY];congr 2
 have hl:(t+3*j)%8<8:=Nat.mod_lt _ (by decide);have B:(f2 (fC (.int 1)) (f2 (f2 (aA 3) (f2 (fC (.int 3)) (aA 0) bM) bU) (fC (.int 8)) bE) bU) [some (.int (0+(j:Int))),some (.str z),some (.int (s:Int)),some (.int (t:Int))]=some (.int ((1+(t+3*j)%8:Nat):Int)):=by
  simp only[aJ,aM,aE,zz0,zz1,jn,zz2,a1,a2,md,a3]
 exact (AW ((AW (a:=aA 1) (b:=aA 2) (o:=gX) rfl rfl).trans (MW hz s26)) B).trans (NH _ _ (by lia))
def aEy{z:Str}(hz:z.cps.toList=ltr){s m:Nat}:bS bI yH [none,some (.str z),some (.int (s:Int))] (G.rangeT 0 m)=some ((List.range m).map fun j=>T.str (nm2 s j)):=by
 refine tD _ fun j hj=>?_;have a1:bM (.int 5) (.int (0+(j:Int)))=some (.int ((5*j:Nat):Int)):=by rw[jZ (by decide)];congr 2;lia
 have a2:bU (.int (s:Int)) (.int ((5*j:Nat):Int))=some (.int ((s+5*j:Nat):Int)):=by rw[jY];congr 2
 have md:bE (.int ((s+5*j:Nat):Int)) (.int 26)=some (.int (((s+5*j)%26:Nat):Int)):=CW _ (b:=26) (by decide);have hl:(s+5*j)%26<26:=Nat.mod_lt _ (by decide);have A1:(f2 (f2 (aA 2) (f2 (fC (.int 5)) (aA 0) bM) bU) (fC (.int 26)) bE) [some (.int (0+(j:Int))),some (.str z),some (.int (s:Int))]=some (.int (((s+5*j)%26:Nat):Int)):=by
  simp only[aJ,aM,aE,zz0,zz1,jn,zz2,a1,a2,md]
 exact (AW (a:=aA 1) (o:=gX) rfl A1).trans (MW hz hl)
def nmT:Rho->Option Out:=aN (rIf (fB (f2 (aA 3) (fC (.int 0)) oEq)) (aS (cL (gS (aB (aA 2) aD) fS) [none,some 5,some 4] bI uV)) bJ)
  (aN (rIf (fB (f2 (aA 3) (fC (.int 1)) oEq)) (aS (cL (gS (aB (aA 2) aD) fS) [none,some 6,some 7,some 4] bI yG)) bJ)
  (aS (cL (gS (aB (aA 2) aD) fS) [none,some 6,some 7] bI yH)))
noncomputable def xyS:Str:=("xyzzyq":Str)
def TV:chL xyS=[120,121,122,122,121,113]:=by decide +kernel
def aEv:(List.range 8).all (fun t=>(List.range 6).all fun j=>!(nm0 t j == xyS))=true:=by decide +kernel
def nx0{t m:Nat}(ht:t<8)(hm:m<=6):xyS ∉ (List.range m).map (nm0 t):=fun h=>by
 obtain⟨j,hj,e⟩:=aTj.mp h;have:=jB (jB aEv ht) (show j<6 by have:=aS2.mp hj;lia);rw[e] at this;simp at this
def nx1{t s m:Nat}:xyS ∉ (List.range m).map (nm1 t s):=fun h=>by
 obtain⟨j,hj,e⟩:=aTj.mp h;have e:=congrArg chL e;rw[TV] at e;unfold nm1 at e;rw[mL] at e;have h1:120=97+s:=List.eq_of_mem_replicate (n:=1+(t+3*j)%8) (by rw[e];simp);have h2:121=97+s:=List.eq_of_mem_replicate (n:=1+(t+3*j)%8) (by rw[e];simp);lia
def nx2{s m:Nat}:xyS ∉ (List.range m).map (nm2 s):=fun h=>by
 obtain⟨j,hj,e⟩:=aTj.mp h;have e:=congrArg (fun w=>(chL w).length) e;simp only[TV] at e;exact absurd e (by show ¬ (1=6);decide)
def aEq{z:Str}(hz:z.cps.toList=ltr){y:Int}{t s m:Nat}(t8:t<8)(s26:s<26)(h6:m<=6)(r0 r1:Option T):∃ ws:List Str,nmT [r0,r1,some (.int (m:Int)),some (.int y),some (.int (t:Int)),some (.lst (tW wdL)),some (.str z),some (.int (s:Int))]=some (.rt (.lst (tW ws)))/\ws.length=m/\dG ws/\xyS ∉ ws:=by
 have hr:=uF m (by lia);have hcm:∀ g:Nat->Str,(tW ((List.range m).map g)).length<=cap:=fun g=>by unfold tW;rw[aT5,aT5,List.length_range];unfold cap;lia
 have tw:∀ g:Nat->Str,((List.range m).map fun j=>T.str (g j))=tW ((List.range m).map g):=fun g=>by unfold tW;rw[aTd];rfl
 have eq0:oEq (.int y) (.int 0)=some (.bl (y == 0)):=rfl;have eq1:oEq (.int y) (.int 1)=some (.bl (y == 1)):=rfl;unfold nmT
 by_cases h0:y=0
 ·have b0:(y == 0)=true:=by rw[h0];rfl
  have e1:=aEw (t:=t) (m:=m);refine⟨_,?_,?_,ok0 t8 h6,nx0 t8 h6⟩
  ·simp only[aT,bG,bD,aU,aJ,aM,aE,eH,nO,aK,aH,zz0,zz1,jn,zz2,zz3,eq0,b0,aR,aUb,hr,bX,aTc,aTe,aU5,e1,hcm,tw]
  ·simp
 have b0:(y == 0)=false:=by rw[aUq];exact h0
 by_cases h1:y=1
 ·have b1:(y == 1)=true:=by rw[h1];rfl
  have e2:=aEx hz (t:=t) (m:=m) s26;refine⟨_,?_,?_,ok1 t8 s26 h6,nx1⟩
  ·simp only[aT,bG,bD,cC,aU,aJ,aM,aE,eH,nO,aK,aH,zz0,zz1,jn,zz2,zz3,eq0,eq1,b0,b1,aR,aSe,aUg,aUb,hr,bX,aTc,aTe,aU5,e2,hcm,tw]
  ·simp
 have b1:(y == 1)=false:=by rw[aUq];exact h1
 have e3:=aEy hz (s:=s) (m:=m);refine⟨_,?_,?_,ok2 s26 h6,nx2⟩
 ·simp only[aT,bG,bD,cC,aU,aJ,aM,aE,eH,nO,aK,aH,zz0,zz1,jn,zz2,zz3,eq0,eq1,b0,b1,aR,aSe,aUg,hr,bX,aTc,aTe,aU5,e3,hcm,aUb,tw]
 ·simp
def aEu:yF=aN (aZ 3 (f2 (f2 (aG (aB (aA 0) (aB (aA 1) aD)) fZ) (fC (.int 3)) bV) (fC (.int 3)) bE))
  (aN (aZ 4 (f2 (f2 (aG (aB (aA 0) (aB (f2 (aA 1) (fC (.int 1)) bU) aD)) fZ) (fC (.int 5)) bV) (fC (.int 8)) bE))
  (aN (aZ 5 (bZ (aB (fC (.str "ask")) (aB (fC (.str "table")) (aB (fC (.str "none")) (aB (fC (.str "sum")) (aB (fC (.str "dues")) (aB (fC (.str "yes")) (aB (fC (.str "steps")) (aB (fC (.str "refused")) aD))))))))))
  (aN (aZ 6 (fC (.str "abcdefghijklmnopqrstuvwxyz")))
  (aN (aZ 7 (f2 (f2 (aG (aB (aA 0) (aB (f2 (aA 1) (fC (.int 2)) bU) aD)) fZ) (fC (.int 7)) bV) (fC (.int 26)) bE))
  nmT)))):=rfl
def VM(ns:List Int){k m:Nat}(hk:k<900)(h6:m<=6):∃ ws:List Str,pW [.lst (tI ns),.int (k:Int),.int (m:Int)]=some (.lst (tW ws))/\ws.length=m/\dG ws/\xyS ∉ ws:=by
 have f0:=vL ns (k:=k) (by lia);have f1':=vL ns (k:=k+1) (by lia);have f2':=vL ns (k:=k+2) (by lia);generalize fR ns k=c0 at f0;generalize fR ns (k+1)=c1 at f1';generalize fR ns (k+2)=c2 at f2';have p1:bU (.int (k:Int)) (.int 1)=some (.int ((k+1:Nat):Int)):=by rw[jY];rfl
 have p2:bU (.int (k:Int)) (.int 2)=some (.int ((k+2:Nat):Int)):=by rw[jY];rfl
 have d0:bV (.int c0) (.int 3)=some (.int (c0 / 3)):=jD (by decide) (by decide);have d1:bV (.int c1) (.int 5)=some (.int (c1 / 5)):=jD (by decide) (by decide);have d2:bV (.int c2) (.int 7)=some (.int (c2 / 7)):=jD (by decide) (by decide);obtain⟨t,ht,t8⟩:∃ t:Nat,c1 / 5%8=(t:Int)/\t<8:=⟨(c1 / 5%8).toNat,by lia,by lia⟩;obtain⟨s,hs,s26⟩:∃ s:Nat,c2 / 7%26=(s:Int)/\s<26:=⟨(c2 / 7%26).toNat,by lia,by lia⟩;have m0:bE (.int (c0 / 3)) (.int 3)=some (.int (c0 / 3%3)):=eB (by decide);have m1:bE (.int (c1 / 5)) (.int 8)=some (.int (t:Int)):=by rw[<- ht];exact eB (by decide)
 have m2:bE (.int (c2 / 7)) (.int 26)=some (.int (s:Int)):=by rw[<- hs];exact eB (by decide)
 have c8:(8:Nat)<=cap:=by decide
 have wd:some (T.lst [.str "ask",.str "table",.str "none",.str "sum",.str "dues",.str "yes",.str "steps",.str "refused"])=some (T.lst (tW wdL)):=rfl;have hz:=NE;rw[UI,aEu];generalize ("abcdefghijklmnopqrstuvwxyz":Str) = z at hz ⊢;obtain⟨ws,e,h⟩:=aEq hz (y:=c0 / 3%3) (m:=m) t8 s26 h6 (some (.lst (tI ns))) (some (.int (k:Int)));refine⟨ws,?_,h⟩;rw[<- wd] at e;simp only[aT,bN,cR,aY,aJ,aM,aE,aK,aH,List.set,zz0,zz1,jn,zz2,zz3,aT4,aT6,c8,aUb,f0,f1',f2',p1,p2,d0,d1,d2,m0,m1,m2,e,bF]
def VC{w:Str}(h:mS w=true):hZ [.str w]=some (.bl true):=by
 obtain⟨h1,h8,hc⟩:=jU h;have hcp:w.length<=cap:=by unfold cap;lia
 have lS:=CU hcp;have ci:bS bI EC [none] (G.signs w)=some ((chL w).map fun _=>T.bl true):=by
  unfold G.signs;rw[IS (fun _=>T.bl true),aTd]
  ·rfl
  ·intro t ht
   obtain⟨c,hc',rfl⟩:=aTj.mp ht;have:=hc c hc';have e:pH ⟨#[c]⟩ (("abcdefghijklmnopqrstuvwxyz":Str))=true:=by
    have:=StrLaws.found_one (("abcdefghijklmnopqrstuvwxyz":Str)) c;rw[show pH ⟨#[c]⟩ (("abcdefghijklmnopqrstuvwxyz":Str))=_ from this]
    apply aUj
    rw[NE];unfold ltr;exact aTj.mpr ⟨c-97,aS2.mpr (by lia),by lia⟩
   show some (T.bl (pH ⟨#[c]⟩ (("abcdefghijklmnopqrstuvwxyz":Str))))=_;rw[e]
 have ab:gW [.lst ((chL w).map fun _=>T.bl true)]=some (.bl true):=by
  have:G.allB ((chL w).map fun _=>T.bl true)=some ((chL w).map fun _=>true):=by
   induction (chL w) with
   | nil=>rfl
   | cons a r ih=>simp only[aTc,G.allB,ih];rfl
  show (G.allB _).map _=_;rw[this];simp
 have lm:((chL w).map fun _=>T.bl true).length<=cap:=by rw[aT5,gR];exact hcp
 have tk:bX [none] [some (T.str w)]=[none]:=rfl;have q1:oGe (.int (w.length:Int)) (.int 1)=some (.bl true):=by rw[aF4,aUj (by lia)]
 have q2:oLe (.int (w.length:Int)) (.int 8)=some (.bl true):=by rw[aF7,aUj (by lia)]
 rw[UZ];unfold yW;simp only[bD,aX,vF,aJ,aM,aY,aK,aH,aE,eH,JR,tk,ci,lm,ab,zz0,jn,zz2,zz3,lS,q1,q2,aR,aUb,nQ,bF]
theorem AQ{α:Type}{p:Rho->Option Bool}{f:Rho->Option T}{ρ:Rho}(tp:α->T)(c:α->Bool)(h:α->T):∀ xs:List α,(∀ x∈xs,p (ρ.set 0 (some (tp x)))=some (c x)/\(c x=true->f (ρ.set 0 (some (tp x)))=some (h x)))->bS p f ρ (xs.map tp)=some ((xs.filter c).map h)
 | [],_=>rfl
 | x::xs,hx=>by
  have ih:=AQ tp c h xs fun y hy=>hx y (aRy _ hy);obtain⟨h1,h2⟩:=hx x aRz;rw[aTc];unfold bS;rw[h1];simp only[zz2];cases hc:c x with
  | true=>
   rw[aUc rfl,h2 hc,List.filter_cons,aUc hc,aTc];simp only[zz2];rw[ih];rfl
  | false=>
   rw[aUd (by decide),List.filter_cons,aUd (by simp[hc])];exact ih
theorem KC{α:Type}{j:Nat}{body:Rho->Option Out}(I:Rho->Prop)(tp:α->T)(c:α->Bool)(r:T):∀ (l:List α),(∀ x∈l,∀ ρ,I ρ->(c x=true/\∃ ρ',body (ρ.set j (some (tp x)))=some (.nx ρ')/\I ρ')\/(c x=false/\body (ρ.set j (some (tp x)))=some (.rt r)))->∀ ρ,I ρ ->
  (l.all c=true/\∃ ρ',eU j body (l.map tp) ρ=some (.nx ρ')/\I ρ')\/(l.all c=false/\eU j body (l.map tp) ρ=some (.rt r))
 | [],_,ρ,h=>.inl ⟨rfl,ρ,rfl,h⟩
 | x::l,hb,ρ,h=>by
  rw[aTc,KD,aSn];rcases hb x aRz ρ h with ⟨h1,ρ',h2,h3⟩ | ⟨h1,h2⟩
  ·rw[h2,h1,Bool.true_and]
   exact KC I tp c r l (fun y hy=>hb y (aRy _ hy)) ρ' h3
  ·rw[h2,h1,Bool.false_and]
   exact .inr ⟨rfl,rfl⟩
noncomputable def gor(l:List Nat):Nat:=l.foldl (fun a h=>a|||2^h) 0
theorem LP:∀ (l:List Nat) (a:Nat) (r0 x2:Option T),(∀ h∈l,h<6)->a<64->∃ x2',eU 2 uX (tI (tN' l)) [r0,some (.int (a:Int)),x2]=some (.nx [r0,some (.int ((l.foldl (fun a h=>a|||2^h) a:Nat):Int)),x2'])
 | [],a,r0,x2,_,_=>⟨x2,rfl⟩
 | h::l,a,r0,x2,hl,ha=>by
  have hh:=hl h aRz;have sh:=NX (b:=h) (by lia);have hlt:a|||2^h<64:=Nat.or_lt_two_pow (n:=6) ha (Nat.pow_lt_pow_right (by decide) hh);obtain⟨x2',e⟩:=LP l (a|||2^h) r0 (some (.int (h:Int))) (fun k hk=>hl k (aRy _ hk)) hlt;refine⟨x2',?_⟩;have st:uX ([r0,some (.int (a:Int)),x2].set 2 (some (.int (h:Int))))=some (.nx [r0,some (.int ((a|||2^h:Nat):Int)),some (.int (h:Int))]):=by
   unfold uX;simp only[bN,aJ,aE,aM,List.set,zz0,zz1,jn,zz2,zz3,sh,aF8,WT]
  have et:tI (tN' (h::l))=.int (h:Int)::tI (tN' l):=rfl;rw[et,KD,st,List.foldl_cons];exact e
def US{l:List Nat}(h:∀ k∈l,k<6):pZ [.lst (tI (tN' l))]=some (.int (gor l:Int)):=by
 obtain⟨x2,e⟩:=LP l 0 (some (.lst (tI (tN' l)))) none h (by decide);have e0:T.int ((0:Nat):Int)=.int 0:=rfl;rw[e0] at e;unfold gor;rw[UT];unfold yR;simp only[aT,bN,PR,bD,aX,aE,aM,mM,List.set,zz0,zz1,jn,zz2,zz3,BY,e,dX,bF]
noncomputable def BR(g:Nat):List Int:=((List.range 6).filter fun h=>g / 2^h%2 == 1).map fun (h:Nat)=>(h:Int)
def aCi:(List.range 64).all (fun k=>QY (sP [.int (k:Int)]) (some (.lst (tI (BR k)))))=true:=by decide +kernel
def UX{g:Nat}(h:g<64):sP [.int (g:Int)]=some (.lst (tI (BR g))):=aJv (aS1.mp aCi g (aS2.mpr h))
def dZ(x y:Str):(x++y).length=x.length+y.length:=Array.size_append
def qI{α:Type}{f:Rho->Option T}{ρ:Rho}(tp h:α->T)(xs:List α)(hx:∀ x∈xs,f (ρ.set 0 (some (tp x)))=some (h x)):bS bI f ρ (xs.map tp)=some (xs.map h):=by
 have:=AQ (p:=bI) (f:=f) (ρ:=ρ) tp (fun _=>true) h xs (fun x hx'=>⟨rfl,fun _=>hx x hx'⟩)
 rwa [List.filter_eq_self.mpr (fun _ _=>rfl)] at this
theorem bA:∀ l:List Str,bK (tW l)=true
 | []=>rfl
 | x::l=>by
  show (im (.str x)&&bK (tW l))=true;rw[bA l];rfl
def tT(l:List Str):mR (.lst (tW l))=some (tW l):=aD7 (bA l)
def bW(l:List Str):(tW l).length=l.length:=aT5 _
def vV{w0:Str}{wd:List Str}:atI (tW (w0::wd)) 0=some (.str w0):=cM (j:=0) rfl
noncomputable def called(ws:List Str)(l:List Nat):List Str:=l.map fun k=>ws.getD k default
def mQ{ws:List Str}{k:Nat}(h:k<ws.length):ws.getD k default=ws[k]:=by
 rw[aRw,aRx h];rfl
def tU{sep:Str}{l:List Str}{B:Nat}(hs:sep.length<=1)(h:∀ w∈l,w.length<=B)(hc:l.length*(B+1)<=16777216):JoinOk sep l=true:=by
 have key:∀ (l:List Str) (a:Nat),(∀ w∈l,w.length<=B)->l.foldl (fun a w=>a+w.length+sep.length) a<=a+l.length*(B+1):=by
  intro l
  induction l with
  | nil=>intro a _;simp
  | cons x l ih=>
   intro a hl;rw[List.foldl_cons,aT4,Nat.succ_mul];have:=ih (a+x.length+sep.length) fun w hw=>hl w (aRy _ hw);have:=hl x aRz;lia
 unfold JoinOk Builtin.Str.tooLong;have e:l.toArray.foldl (fun a w=>a+w.length+sep.length) 0=l.foldl (fun a w=>a+w.length+sep.length) 0:=by simp
 have k:=key l 0 h;rw[Bool.not_eq_true',decide_eq_false_iff_not,aUm];rw[<- e] at k;exact aU1.mpr (aTt k (by lia))
noncomputable def sp:Str:=⟨#[32]⟩
def pP:(" ":Str) = sp:=by decide +kernel
def uD{l:List Str}(h:JoinOk sp l=true):pD (.str " ") (.lst (tW l))=some (.str (Txt.join sp l)):=by
 have e:((" ":Str))=sp:=pP;show (cI (l.map T.str)).bind (fun l=>if JoinOk ((" ":Str)) l=true then some (T.str (Txt.join ((" ":Str)) l)) else none)=_;rw[nK,zz2,e,aUc h]
def AM{ws:List Str}(hn:dG ws){l:List Nat}(hl:∀ k∈l,k<ws.length):∀ w∈called ws l,w.length<=201/\∀ c∈chL w,33<=c:=fun w hw=>by
 obtain⟨k,hk,rfl⟩:=aTj.mp hw;rw[mQ (hl k hk)];obtain⟨_,h2,h3⟩:=jU (hn.2 _ (List.getElem_mem (hl k hk)));exact⟨by lia,fun c hc=>by have:=h3 c hc;lia⟩
noncomputable def nl:Str:=⟨#[10]⟩
def aEp:Str.ofString "\n"=nl:=by decide +kernel
def aKt(d c:Nat)(r:List Nat):Txt.startswith ⟨(c::r).toArray⟩ ⟨#[d]⟩=(c == d):=by
 have e1:decide (0+(⟨#[d]⟩:Str).length<=(⟨(c::r).toArray⟩:Str).length)=true:=aUj (by show 0+1<=(c::r).toArray.size;simp);have e2:Builtin.Str.subAt ⟨(c::r).toArray⟩ ⟨#[d]⟩ 0=((#[c]:Array Nat) == #[d]):=by
  unfold Builtin.Str.subAt;have:((c::r).toArray).extract 0 (0+(⟨#[d]⟩:Str).length)=#[c]:=by
   show ((c::r).toArray).extract 0 1=#[c];simp
  rw[this]
 unfold Txt.startswith;rw[e1,e2,Bool.true_and];rw[aSd,aUx,aUx];simp
def aKh{r:Str}{c:Nat}{t:List Nat}(e:chL r=c::t)(h:c≠35):kK r=false:=by
 have er:r=⟨(c::t).toArray⟩:=by rw[<- e];rfl
 have hs:("#":Str) = ⟨#[35]⟩:=by decide +kernel
 unfold kK;rw[Bool.or_eq_false_iff];refine⟨aUi fun z=>?_,?_⟩
 ·rw[z] at e
  have:chL (("":Str))=[]:=by decide +kernel
  rw[this] at e;cases e
 ·rw[hs,er,aKt,aUq];exact h
def aDg{l:List Str}{c:Nat}(h:c∈chL (Txt.join sp l)):c=32\/∃ w∈l,c∈chL w:=by
 have e:Txt.join sp l=Str.join sp l:=PySem.StrLaws.glued_eq_join _ _;rw[e] at h;rcases (PyProof.Rows.mem_join sp c l).mp h with ⟨w,hw,hc⟩ | ⟨_,hc⟩
 ·exact .inr ⟨w,hw,hc⟩
 ·exact .inl (by simpa [sp] using hc)
def aDh{w0:Str}{wd:List Str}{c:Nat}{t:List Nat}(e:chL w0=c::t):∃ t',chL (Txt.join sp (w0::wd))=c::t':=by
 have ej:Txt.join sp (w0::wd)=Str.join sp (w0::wd):=PySem.StrLaws.glued_eq_join _ _;rw[ej];cases wd with
 | nil=>exact⟨t,e⟩
 | cons x r=>
  unfold sp;rw[nW,e];exact⟨_,rfl⟩
def qT{l:List Str}{B:Nat}(h:∀ w∈l,w.length<=B):(Txt.join sp l).length<=l.length*(B+1):=by
 have e:Txt.join sp l=Str.join sp l:=PySem.StrLaws.glued_eq_join _ _;rw[e];have j:=PySem.StrLaws.join_length_le sp l;have k:∀ l:List Str,(∀ w∈l,w.length<=B)->(l.map (·.length)).sum<=l.length*B:=by
  intro l
  induction l with
  | nil=>intro _;simp
  | cons x l ih=>
   intro hl;have:=ih fun w hw=>hl w (aRy _ hw);have:=hl x aRz;rw[aTc,List.sum_cons,aT4,Nat.succ_mul];lia
 have:=k l h;have:sp.length=1:=rfl;rw[Nat.mul_add,Nat.mul_one];rw[‹sp.length=1›,Nat.mul_one] at j;lia
structure RowOk(row:Str):Prop where
 sk:kK row=false
 no:10 ∉ chL row
 le:row.length<=2000
def aKr{w0:Str}{wd:List Str}(h:∀ w∈w0::wd,∀ c∈chL w,33<=c):Txt.split (Txt.join sp (w0::wd)) sp=w0::wd:=
 rX (by simp) fun w hw z=>by have:=h w hw 32 z;lia
abbrev PZ:=Rds1 hZ
def dJ(ws:List Str):Str:=Txt.join sp (("hands":Str) :: ws)
def MH{ws:List Str}(hn:dG ws):∀ w∈("hands":Str) :: ws,∀ c∈chL w,33<=c:=fun w hm=>by
 rcases aS7.mp hm with rfl | hm
 ·have:(chL (("hands":Str))).all (fun d=>decide (33<=d))=true:=by decide +kernel
  exact fun d hd=>aUe (aS1.mp this d hd)
 ·intro c hc
  have:=(jU (hn.2 w hm)).2.2 c hc;lia
def MF{ws:List Str}(hn:dG ws)(h6:ws.length<=6):(dJ ws).length<=100:=by
 have:=qT (l:=("hands":Str) :: ws) (B:=8) fun w hm=>by
  rcases aS7.mp hm with rfl | hm
  ·decide +kernel
  ·exact (jU (hn.2 w hm)).2.1
 rw[aT4] at this;unfold dJ;lia
def MG{ws:List Str}(hn:dG ws)(h6:ws.length<=6):RowOk (dJ ws):=by
 obtain⟨t',ej⟩:=aDh (w0:=("hands":Str)) (wd:=ws) (c:=104) (t:=(chL (("hands":Str))).drop 1) (by decide +kernel);refine⟨aKh ej (by decide),fun z=>?_,by have:=MF hn h6;lia⟩;rcases aDg z with h | ⟨w,hm,h⟩
 ·lia
 ·have:=MH hn w hm _ h;lia
def WS{ws:List Str}(hn:dG ws)(h1:1<=ws.length)(h6:ws.length<=6):sH hZ (dJ ws) ws:=by
 have hl:=MF hn h6;have es:Txt.split (dJ ws) ((" ":Str))=("hands":Str) :: ws:=by rw[pP];exact aKr (MH hn)
 have os:jE (.str (dJ ws)) (.str " ")=some (.lst (tW (("hands":Str) :: ws))):=by
  show (if (((" ":Str)).length == 0)=false/\(dJ ws).length<=cap/\(Txt.split (dJ ws) ((" ":Str))).length<=cap then some (T.lst (tW (Txt.split (dJ ws) ((" ":Str))))) else none)=_;rw[es,aUc ⟨by decide +kernel,by unfold cap;lia,by rw[aT4];unfold cap;lia⟩]
 have sl:eO (tW (("hands":Str) :: ws)) (some 1) none none=tW ws:=by rw[aKk _ (by decide)];rfl
 have gf:fM (.lst (tW ws))=some (.lst (tW ws)):=by
  unfold fM;dsimp only;rw[aUc (bA _)]
 have ix:=vV (w0:=("hands":Str)) (wd:=ws);have ne:oNe (.str (("hands":Str))) (.str "hands")=some (.bl false):=by show some (T.bl (!(("hands":Str) == ("hands":Str))))=_;rw[aUf];rfl
 have lt:oLt (.int (ws.length:Int)) (.int 1)=some (.bl false):=by rw[CV,aUi (by lia)]
 have gt:oGt (.int (ws.length:Int)) (.int 6)=some (.bl false):=by rw[mY,aUi (by lia)]
 have ec:bS bI (bgE hZ) [none] (tW ws)=some (ws.map fun _=>T.bl true):=by
  refine qI T.str _ ws fun w hw=>?_;unfold bgE;simp only[aX,aY,aK,aH,aE,List.set,zz0,jn,zz2,VC (hn.2 w hw),nQ]
 have ab:gW [.lst (ws.map fun _=>T.bl true)]=some (.bl true):=by
  have:G.allB (ws.map fun _=>T.bl true)=some (ws.map fun _=>true):=by
   generalize ws=l
   induction l with
   | nil=>rfl
   | cons a r ih=>simp only[aTc,G.allB,ih];rfl
  show (G.allB _).map _=_;rw[this];simp
 have cl:(ws.map fun _=>T.bl true).length<=cap:=by rw[aT5];unfold cap;lia
 have ls:qY [.lst (tW ws)]=some (.int (ws.length:Nat)):=by
  show (cI (ws.map T.str)).bind (fun l=>if l.length<=1000 then some (T.int ((dsS [] l).length:Nat)) else none)=_;rw[nK,zz2,aUc (by lia),JB hn.1]
 have ll:oLt (.int (ws.length:Int)) (.int (ws.length:Int))=some (.bl false):=by rw[CV,aUi (Int.lt_irrefl _)]
 refine⟨tW (("hands":Str) :: ws),?_,?_,?_,?_⟩
 ·unfold bg1
  simp only[bN,aJ,aM,aE,List.set,zz0,jn,zz2,zz3,os]
 ·unfold bg2
  simp only[rK,aX,YT,DB,CZ,aM,aE,List.set,zz0,zz1,jn,zz2,zz3,BZ,reduceCtorEq,aUg,sl,gf,mD,aUb]
 ·unfold bg3
  simp only[bG,cC,jG,aU,aJ,aM,aY,aK,aH,aE,zz0,zz1,jn,zz2,dN,ix,ne,eZ,bW,lt,gt,aR,aSe,aUg]
 ·unfold bg4
  simp only[bG,cC,jG,kD,eI,eC,aU,aJ,aY,aK,aH,eH,mM,aE,zz0,zz1,jn,zz2,zz3,tT,bX,aTc,aTe,aU5,ec,cl,aUb,ab,aSg,aSe,aUg,ls,eZ,bW,ll,aR]
def aJf{rows:List Str}(h0:rows≠[])(hl:rows.length<=100)(hr:∀ r∈rows,10 ∉ chL r/\r.length<=2000){p:List Str × List T}(k:PZ rows none (some p)):sX hZ (Txt.join nl rows) p:=by
 have es:Txt.split (Txt.join nl rows) (Str.ofString "\n")=rows:=by rw[aEp];exact rX h0 fun r h=>(hr r h).1
 have len:(Txt.join nl rows).length<=1000000:=by
  have e:Txt.join nl rows=Str.join nl rows:=PySem.StrLaws.glued_eq_join _ _;rw[e];have j:=PySem.StrLaws.join_length_le nl rows;have k:∀ l:List Str,(∀ w∈l,w.length<=2000)->(l.map (·.length)).sum<=l.length*2000:=by
   intro l
   induction l with
   | nil=>intro _;simp
   | cons x l ih=>
    intro hl;have:=ih fun w hw=>hl w (aRy _ hw);have:=hl x aRz;rw[aTc,List.sum_cons,aT4,Nat.succ_mul];lia
  have:=k rows fun r h=>(hr r h).2;have h1:nl.length=1:=rfl;rw[h1,Nat.mul_one] at j;lia
 refine⟨aTt len (by rw[aUm];decide),?_,?_⟩
 ·rw[es,aUm];lia
 ·rw[es];exact k
def aHi{ws:List Str}(hn:dG ws)(h1:1<=ws.length)(h6:ws.length<=6):pG hZ [.str (dJ ws)]=some (.pg [.lst (tW ws),.lst [],.lst []]):=by
 have k:PZ [dJ ws] none (some (ws,[])):=.beg (MG hn h6).sk (WS hn h1 h6) .nil;have r:=aJf (rows:=[dJ ws]) (by simp) (by simp) (fun r hr=>by rw[aTl.mp hr];have:=MG hn h6;exact⟨this.no,this.le⟩) k;have e:Txt.join nl [dJ ws]=dJ ws:=by
  rw[show Txt.join nl [dJ ws]=Str.join nl [dJ ws] from PySem.StrLaws.glued_eq_join _ _]
  rfl
 rw[e] at r;exact aHg r
def aCj(ws:List Str)(h1:1<=ws.length):("hands ":Str) ++ Txt.join sp ws=dJ ws:=by
 unfold dJ;rw[show Txt.join sp (("hands":Str) :: ws)=Str.join sp (("hands":Str) :: ws) from PySem.StrLaws.glued_eq_join _ _,show Txt.join sp ws=Str.join sp ws from PySem.StrLaws.glued_eq_join _ _];cases ws with
 | nil=>cases h1
 | cons a r=>
  apply gQ
  unfold sp;rw[nW,dU];have e:chL (("hands ":Str))=chL (("hands":Str))++[32]:=by decide +kernel
  rw[e,aSo];rfl
def BE(y z:Int):aP (.tup [.int y,.int z])=some (.tup [.int y,.int z]):=rfl
def UN(t b:Int)(hb:b.natAbs<2^9000):sN [.int t,.int b]=some (.int (Int.gcd t b:Int)):=by
 obtain⟨x',h⟩:=KO (p:=yP) (r:=yO) (st:=fun a b' x=>[some (.int t),some (.int b),some (.int (a:Int)),some (.int (b':Int)),x])
  (fun a b' x=>by
   have e:oNe (.int (b':Int)) (.int 0)=some (.bl (decide (b'≠0))):=by
    rw[CY];congr 2;rcases Nat.eq_zero_or_pos b' with e | e
    ·subst e;rfl
    ·rw[aUj (show b'≠0 by lia)]
     simp;lia
   unfold yP;simp only[aU,aJ,aE,aM,zz0,zz1,jn,zz2,e,aR])
  (fun a b' x hb'=>by
   have e:bE (.int (a:Int)) (.int (b':Int))=some (.int ((a%b':Nat):Int)):=by rw[eB (by lia),Int.natCast_emod]
   refine⟨some (.int ((a%b':Nat):Int)),?_⟩;unfold yO;simp only[aT,bN,aX,aJ,aE,List.set,zz0,zz1,jn,zz2,zz3,e,dX]) t.natAbs b.natAbs none hb
 rw[UO];unfold yN;simp only[aT,bN,bD,aX,aE,aY,aK,aH,List.set,zz0,zz1,jn,zz2,zz3,NP,h,dX,bF]
 rfl
def VO(t b:Nat)(hb:b<2^9000):pX [.int (t:Int),.int (b:Int)]=some (.int (Nat.gcd t b:Int)):=by
 obtain⟨x',h⟩:=KO (p:=yL) (r:=yK) (st:=fun a b' x=>[some (.int (a:Int)),some (.int (b':Int)),x])
  (fun a b' x=>by
   have e:oGt (.int (b':Int)) (.int 0)=some (.bl (decide (b'≠0))):=by
    rw[mY];congr 2;rcases Nat.eq_zero_or_pos b' with e | e
    ·subst e;rfl
    ·rw[aUj (show b'≠0 by lia)]
     exact aUj (by lia)
   unfold yL;simp only[aU,aJ,aE,aM,zz0,zz1,jn,zz2,e,aR])
  (fun a b' x hb'=>by
   have e:bE (.int (a:Int)) (.int (b':Int))=some (.int ((a%b':Nat):Int)):=by rw[eB (by lia),Int.natCast_emod]
   refine⟨some (.int ((a%b':Nat):Int)),?_⟩;unfold yK;simp only[aT,bN,aX,aJ,aE,List.set,zz0,zz1,jn,zz2,zz3,e,dX]) t b none hb
 rw[UK];unfold yJ;simp only[aT,bD,aX,aE,zz0,zz1,jn,zz2,zz3,h,dX,bF]
def VH{t b:Int}(h0:0<b)(hb:b.natAbs<2^9000):sK [.int t,.int b]=some (.tup [.int (frI t b).1,.int (frI t b).2]):=by
 have hf:=KH (t:=t) (b:=b) (by lia);have hc:(2:Nat)<=cap:=by decide
 have ed:(Int.gcd t b:Int)=frD t b:=by unfold frD;rw[aUd (by lia)]
 have pt:pX [.int (t.natAbs:Int),.int b]=some (.int (frD t b)):=by
  have:=VO t.natAbs b.natAbs hb;rw[show ((b.natAbs:Nat):Int)=b by lia] at this;rw[this,<- ed]
  rfl
 have d1:pB (.int t) (.int (frD t b))=some (.int (frI t b).1):=NQ hf.1 (Nat.lt_of_le_of_lt hf.2.1 hb);have d2:pB (.int b) (.int (frD t b))=some (.int (frI t b).2):=NQ hf.1 (Nat.lt_of_le_of_lt hf.2.1 hb);rw[UE];unfold yA;simp only[aT,bN,bD,aX,aJ,aE,aY,eS,aK,aH,List.set,zz0,zz1,jn,zz2,zz3,NP,pt,dX,d1,d2,aT4,aT6,aU3,Nat.reduceAdd,hc,aUb,bF]
def aE0(w:Str)(r:List Str):oEq (.int (((w::r).length:Nat):Int)) (.int 0)=some (.bl false):=by
 show some (T.bl ((((w::r).length:Nat):Int) == 0))=_;rw[beq_eq_false_iff_ne.mpr (by rw[aT4];lia)]
def bp1:(1:Nat)<=cap:=by decide
def jL(w:Str)(r:List Str):eG [.lst (tW (w::r))]=some (.inl (.str w,tW r)):=by
 have f:=bA (w::r);have e0:=aE0 w r;rw[UB];unfold xW;simp only[cE,dQ,eE,aMh,cU,aU,aJ,aM,aY,aK,aH,aE,zz0,jn,zz2,zz3,eZ,bW,e0,aR,aSe,aUg,f,aUb]
 rfl
def TB:eG [.lst (tW [])]=some (.inr "BadPaper"):=rfl
def aLy{w:Str}{v:Int}(fn:dS [.str w,.int 2000]=some (.int v))(r:List Str):kO [.lst (tW (w::r))]=some (.inl (.int v,tW r)):=by
 have f:=bA (w::r);have f':=bA r;have tw:=jL w r;have i1:oIs (.int v) .non=some (.bl false):=rfl;rw[HA];unfold uR;simp only[cE,dD,dQ,eE,fF,JF,cK,fJ,cU,aU,aX,aJ,aM,aK,aH,aE,List.set,zz0,zz1,jn,zz2,zz3,f,f',aUb,tw,fn,i1,aR,aSe,aUg,dX,kB]
def aLz{w:Str}(fn:dS [.str w,.int 2000]=some .non)(r:List Str):kO [.lst (tW (w::r))]=some (.inr "BadPaper"):=by
 have f:=bA (w::r);have f':=bA r;have tw:=jL w r;have i1:oIs .non .non=some (.bl true):=rfl;have c1:=bp1;rw[HA];unfold uR;simp only[cE,dD,dQ,eE,sG,fF,JF,cK,fJ,cU,aU,aX,aJ,aM,aK,aH,aE,List.set,zz0,zz1,jn,zz2,zz3,f,f',aUb,tw,fn,i1,aR,aT4,aT6,c1,gY]
def TC{v:Int}(h:v.natAbs<10^2000)(r:List Str):kO [.lst (tW (aV v::r))]=some (.inl (.int v,tW r)):=aLy (zW h) r
def aM0{w:Str}(h:w=("yes":Str) \/ w=("no":Str))(r:List Str):pT [.lst (tW (w::r))]=some (.inl (.str w,tW r)):=by
 have f:=bA (w::r);have f':=bA r;have tw:=jL w r;have n1:oNe (.str w) (.str "yes")=some (.bl (!(w == ("yes":Str)))):=rfl;have n2:oNe (.str w) (.str "no")=some (.bl (!(w == ("no":Str)))):=rfl;have b:((!(w == ("yes":Str)))=true->(!(w == ("no":Str)))=true->False):=fun h1 h2=>by
  rcases h with rfl | rfl
  ·simp at h1
  ·simp at h2
 rw[TZ];unfold xT;simp only[cE,dD,dQ,eE,fF,OJ,cK,fJ,cU,aU,aX,aJ,aM,aK,aH,aE,List.set,zz0,zz1,jn,zz2,zz3,f,f',aUb,tw,n1,n2,aR];generalize (!(w == ("yes":Str)))=x at b;generalize (!(w == ("no":Str)))=y at b;have g:aP (.str w)=some (.str w):=rfl;cases x
 ·simp only[aSe,aUg,zz2,zz3,zz0,zz1,jn,f',aUb,g,kB]
 ·cases y
  ·simp only[aSe,aUg,zz2,zz3,zz0,zz1,jn,f',aUb,g,kB]
  ·exact (b rfl rfl).elim
def thP:Rho->Option Bool:=fB (f2 (aA 5) (aA 3) oNe)
theorem SX{r0 rb r6:Option T}{e:Str}(rest:List Str):∀ (ns acc:List Str) (k:Nat),ns.length<k->acc.length+ns.length<=1000->(∀ x∈ns,(x == e)=false)->∀ x xs,ns++e::rest=x::xs ->
  hV thP kI k [r0,some (.lst (tW xs)),rb,some (.str e),some (.lst (tW acc)),some (.str x),r6]=some (.nx [r0,some (.lst (tW rest)),rb,some (.str e),some (.lst (tW (acc++ns))),some (.str e),r6])
 | _,_,0,h,_,_,_,_,_=>by lia
 | [],acc,k+1,_,_,_,x,xs,ex=>by
  cases ex;have n1:oNe (.str e) (.str e)=some (.bl false):=by rw[kZ,aUf];rfl
  rw[aSp];unfold hV thP;simp only[aU,aJ,aE,zz0,zz1,jn,zz2,n1,aR,aSe,aUg]
 | y::ns,acc,k+1,hk,hl,hn,x,xs,ex=>by
  rw[List.cons_append] at ex;obtain⟨rfl,rfl⟩:=List.cons.inj ex;have n1:oNe (.str y) (.str e)=some (.bl true):=by rw[kZ,hn y aRz];rfl
  obtain⟨z,zs,ez⟩:∃ z zs,ns++e::rest=z::zs:=by cases ns<;>exact⟨_,_,rfl⟩
  rw[aT4] at hk hl;have ih:=SX (r0:=r0) (rb:=rb) (r6:=r6) rest ns (acc++[y]) k (by lia) (by rw[aT3,aT9];lia) (fun x hx=>hn x (aRy _ hx)) z zs ez;have tw:=jL z zs;have f:=bA (z::zs);have f':=bA zs;have ha:tW acc++[T.str y]=tW (acc++[y]):=by unfold tW;rw[List.map_append];rfl
  have hc:acc.length<cap:=by unfold cap;lia
  have g:aP (.str y)=some (.str y):=rfl;rw[aSo] at ih;rw[ez];unfold hV;unfold thP kI;unfold thP kI at ih;simp only[cE,GM,dD,fJ,cK,aU,aX,aJ,aE,aK,aH,List.set,zz0,zz1,jn,zz2,zz3,n1,aR,aUb,g,bW,hc,ha,f,f',tw];exact ih
theorem SW{r0 rb r6:Option T}{e:Str}:∀ (xs acc:List Str) (x:Str) (k:Nat),xs.length<k->acc.length+xs.length<=999->(x == e)=false->(∀ x∈xs,(x == e)=false) ->
  hV thP kI k [r0,some (.lst (tW xs)),rb,some (.str e),some (.lst (tW acc)),some (.str x),r6]=some (.ex "BadPaper")
 | _,_,_,0,h,_,_,_=>by lia
 | [],acc,y,k+1,_,hl,hy,_=>by
  have n1:oNe (.str y) (.str e)=some (.bl true):=by rw[kZ,hy];rfl
  have tw:=TB;have f:=bA [];have hc:acc.length<cap:=by unfold cap;rw[aT6] at hl;lia
  have g:aP (.str y)=some (.str y):=rfl;unfold hV;unfold thP kI;simp only[cE,GM,dD,fJ,cK,aU,aX,aJ,aE,aK,aH,List.set,zz0,zz1,jn,zz2,zz3,n1,aR,aUb,g,bW,hc,f,tw]
 | z::zs,acc,y,k+1,hk,hl,hy,hn=>by
  have n1:oNe (.str y) (.str e)=some (.bl true):=by rw[kZ,hy];rfl
  rw[aT4] at hk hl;have ih:=SW (r0:=r0) (rb:=rb) (r6:=r6) zs (acc++[y]) z k (by lia) (by rw[aT3,aT9];lia) (hn z aRz) (fun x hx=>hn x (aRy _ hx));have tw:=jL z zs;have f:=bA (z::zs);have f':=bA zs;have ha:tW acc++[T.str y]=tW (acc++[y]):=by unfold tW;rw[List.map_append];rfl
  have hc:acc.length<cap:=by unfold cap;lia
  have g:aP (.str y)=some (.str y):=rfl;unfold hV;unfold thP kI;unfold thP kI at ih;simp only[cE,GM,dD,fJ,cK,aU,aX,aJ,aE,aK,aH,List.set,zz0,zz1,jn,zz2,zz3,n1,aR,aUb,g,bW,hc,ha,f,f',tw];exact ih
def thT:Rho->Option OW:=cA (fW 6 (gE (aG (aB (aA 0) (aB (aA 4) aD)) hX)))
  (cA (wIf (fB (f2 (aA 6) (fC .non) oIs)) (hU "BadPaper" (aB (fC (.str "a name of no hand, or one told twice")) aD)) eD)
  (fE 1 (gE (aA 6))))
def GH:xV=cA (zJ (eOp (dI 1 (aB (aA 1) aD) eG) (aA 2) oNe) (hU "BadPaper" (aB (fC (.str "the sign ahead of names is lacking")) aD)) eD)
  (cA (zL 4 (bZ aD))
  (cA (fW 5 (dI 1 (aB (aA 1) aD) eG))
  (cA (zM thP kI) thT))):=rfl
def SV{t0:T}{w b e:Str}(h:(w == b)=false)(r:List Str):gK [t0,.lst (tW (w::r)),.str b,.str e]=some (.inr "BadPaper"):=by
 have f:=bA (w::r);have f':=bA r;have tw:=jL w r;have n1:oNe (.str w) (.str b)=some (.bl true):=by rw[kZ,h];rfl
 have c1:=bp1;rw[zQ,GH];simp only[cE,zK,sG,tF,cK,aM,aK,aH,aE,List.set,zz0,zz1,jn,zz2,zz3,f,f',aUb,tw,n1,aR,aT4,aT6,c1,gY]
def aLv{t0:T}{b e:Str}{ns:List Str}(hl:ns.length<=900)(hn:∀ x∈ns,(x == e)=false):gK [t0,.lst (tW (b::ns)),.str b,.str e]=some (.inr "BadPaper"):=by
 have f:=bA (b::ns);have f':=bA ns;have tw:=jL b ns;have n1:oNe (.str b) (.str b)=some (.bl false):=by rw[kZ,aUf];rfl
 have c0:(0:Nat)<=cap:=aU4 _;rw[zQ,GH];cases ns with
 | nil=>
  have t0':=TB;simp only[cE,zK,eE,GQ,dD,tF,cK,aM,cR,aK,aH,aE,List.set,zz0,zz1,jn,zz2,zz3,f,f',aUb,tw,t0',n1,aR,aSe,aUg,aT6,c0,mD,gY]
 | cons x xs=>
  have t1:=jL x xs;have f'':=bA xs;rw[aT4] at hl;have lp:=SW (r0:=some t0) (rb:=some (.str b)) (r6:=none) (e:=e) xs [] x 100000 (by lia) (by rw[aT6];lia) (hn x aRz) (fun x hx=>hn x (aRy _ hx));have et:tW []=[]:=rfl;rw[et] at lp;simp only[cE,zK,eE,GQ,dD,TU,tF,cK,aM,cR,aK,aH,aE,List.set,zz0,zz1,jn,zz2,zz3,f,f',f'',aUb,tw,t1,n1,aR,aSe,aUg,aT6,c0,mD,lp,gY]
def SZ{t0 o:T}{b e:Str}{ns rest:List Str}(hl:ns.length<=900)(hn:∀ x∈ns,(x == e)=false)(hh:hX [t0,.lst (tW ns)]=some o):gK [t0,.lst (tW (b::(ns++e::rest))),.str b,.str e]=(thT [some t0,some (.lst (tW rest)),some (.str b),some (.str e),some (.lst (tW ns)),some (.str e),none]).bind gI:=by
 have f:=bA (b::(ns++e::rest));have f':=bA (ns++e::rest);have tw:=jL b (ns++e::rest);have n1:oNe (.str b) (.str b)=some (.bl false):=by rw[kZ,aUf];rfl
 have c0:(0:Nat)<=cap:=aU4 _;obtain⟨z,zs,ez⟩:∃ z zs,ns++e::rest=z::zs:=by cases ns<;>exact⟨_,_,rfl⟩
 have t1:=jL z zs;rw[<- ez] at t1;have f'':=bA zs;have lp:=SX (r0:=some t0) (rb:=some (.str b)) (r6:=none) (e:=e) rest ns [] 100000 (by lia) (by rw[aT6];lia) hn z zs ez;have et:tW []=[]:=rfl;rw[et,aTm] at lp;rw[zQ,GH];simp only[cE,zK,eE,GQ,dD,TU,tF,cK,aM,cR,aK,aH,aE,List.set,zz0,zz1,jn,zz2,zz3,f,f',f'',aUb,tw,t1,n1,aR,aSe,aUg,aT6,c0,mD,lp]
def GG{t0:T}{b e:Str}{ns rest:List Str}(hl:ns.length<=900)(hn:∀ x∈ns,(x == e)=false)(hh:hX [t0,.lst (tW ns)]=some .non):gK [t0,.lst (tW (b::(ns++e::rest))),.str b,.str e]=some (.inr "BadPaper"):=by
 have i1:oIs .non .non=some (.bl true):=rfl;have c1:=bp1;rw[SZ hl hn hh];unfold thT;simp only[cE,dD,dQ,sG,fJ,aU,aJ,aM,aY,aK,aH,aE,List.set,zz0,zz1,jn,zz2,zz3,hh,i1,aR,aUb,aT4,aT6,c1,gY]
def SY{t0:T}{b e:Str}{ns rest:List Str}{hs:List Int}(hl:ns.length<=900)(hn:∀ x∈ns,(x == e)=false)(hh:hX [t0,.lst (tW ns)]=some (.lst (tI hs))):gK [t0,.lst (tW (b::(ns++e::rest))),.str b,.str e]=some (.inl (.lst (tI hs),tW rest)):=by
 have i1:oIs (.lst (tI hs)) .non=some (.bl false):=rfl;have f:=bA rest;rw[SZ hl hn hh];unfold thT;simp only[cE,dD,dQ,eE,fF,cU,fJ,aU,aJ,aM,aY,aK,aH,aE,List.set,zz0,zz1,jn,zz2,zz3,hh,i1,aR,aSe,aUg,f,aUb,kB]
def rY{t0:T}{l:List Str}(h:gK [t0,.lst (tW l),.str "{",.str "}"]=some (.inr "BadPaper")):kN [t0,.lst (tW l)]=some (.inr "BadPaper"):=by
 have f:=bA l;rw[zP];unfold rO;simp only[cE,dD,cK,aM,aK,aH,aE,zz0,zz1,jn,zz2,f,aUb,h,gY]
def aLu{t0:T}{l rest:List Str}{hs:List Int}(h64:hs.length<64)(h:gK [t0,.lst (tW l),.str "{",.str "}"]=some (.inl (.lst (tI hs),tW rest)))(hs':hs≠fV hs):kN [t0,.lst (tW l)]=some (.inr "BadPaper"):=by
 have f:=bA l;have f':=bA rest;have so:=NY h64;have ne:oNe (.lst (tI hs)) (.lst (tI (fV hs)))=some (.bl true):=by rw[NV,aUi hs'];rfl
 have c1:=bp1;rw[zP];unfold rO;simp only[cE,dD,dQ,sG,cK,aU,aJ,aM,aY,aK,aH,aE,List.set,zz0,zz1,jn,zz2,zz3,f,f',aUb,h,so,ne,aR,aT4,aT6,c1,gY]
def aLt{t0:T}{l rest:List Str}{hs:List Int}{g:Int}(h64:hs.length<64)(h:gK [t0,.lst (tW l),.str "{",.str "}"]=some (.inl (.lst (tI hs),tW rest)))(hs':hs=fV hs)(hg:pZ [.lst (tI hs)]=some (.int g)):kN [t0,.lst (tW l)]=some (.inl (.int g,tW rest)):=by
 have f:=bA l;have f':=bA rest;have so:=NY h64;have ne:oNe (.lst (tI hs)) (.lst (tI (fV hs)))=some (.bl false):=by rw[NV,aUj hs'];rfl
 rw[zP];unfold rO;simp only[cE,dD,dQ,eE,fF,cU,fJ,cK,aU,aX,aJ,aM,aY,aK,aH,aE,List.set,zz0,zz1,jn,zz2,zz3,f,f',aUb,h,so,ne,aR,aSe,aUg,hg,dX,kB]
noncomputable def sl:Str:=⟨#[47]⟩
def FY:("/":Str) = sl:=by decide +kernel
def frW(p q:Int):Str:=(aV p++sl)++aV q
def AN(p q:Int):chL (frW p q)=chL (aV p)++47::chL (aV q):=by
 unfold frW;rw[dU,dU,aSo];rfl
def AH{x:Str}{c i:Nat}:PySem.StrLaws.At x ⟨#[c]⟩ x.length i ↔ (chL x)[i]?=some c:=by
 obtain⟨⟨l⟩⟩:=x;show (i+1<=l.toArray.size/\Builtin.Str.subAt ⟨l.toArray⟩ ⟨#[c]⟩ i=true) ↔ l[i]?=some c;have e2:Builtin.Str.subAt ⟨l.toArray⟩ ⟨#[c]⟩ i=((l.toArray.extract i (i+1)) == #[c]):=rfl;rw[e2,aUx]
 constructor
 ·rintro ⟨h1,h2⟩
  have h1:i<l.length:=by have:l.toArray.size=l.length:=aS4;lia
  have:=congrArg Array.toList h2;rw[Array.toList_extract,List.extract_eq_take_drop] at this;have e:l.drop i=l[i]::l.drop (i+1):=aSs h1;have e3:i+1-i=1:=by lia
  rw[e3,show (l.toArray).toList=l from rfl,e] at this;have:=(List.cons.inj this).1;rw[aRx h1,this]
 ·intro h
  obtain⟨h1,h2⟩:=aS0.mp h;refine⟨by have:l.toArray.size=l.length:=aS4;lia,?_⟩
  apply Array.ext'
  rw[Array.toList_extract,List.extract_eq_take_drop];have e:l.drop i=l[i]::l.drop (i+1):=aSs h1;have e3:i+1-i=1:=by lia
  rw[e3,show (l.toArray).toList=l from rfl,e,h2];rfl
def aHk{x:Str}{c:Nat}{a b:List Nat}(h:chL x=a++c::b)(hn:c ∉ a):Txt.partition x ⟨#[c]⟩=(⟨a.toArray⟩,⟨#[c]⟩,⟨b.toArray⟩):=by
 have ha:(chL x)[a.length]?=some c:=by rw[h];simp
 rcases PyProof.Rows.partition_whole x ⟨#[c]⟩ with ⟨_,k⟩ | ⟨i,e,k1,k2⟩
 ·exact absurd (AH.mpr ha) (k _)
 ·have k1:=AH.mp k1
  have hi:i=a.length:=by
   rcases Nat.lt_trichotomy i a.length with z | z | z
   ·rw[h,aSy z] at k1
    exact absurd (List.mem_of_getElem? k1) hn
   ·exact z
   ·exact absurd (AH.mpr ha) (k2 _ z)
  subst hi;rw[e];have l1:(⟨#[c]⟩:Str).length=1:=rfl;have hx:x.cps.toList=a++c::b:=h;have s1:Builtin.Str.strSub x 0 a.length=⟨a.toArray⟩:=by
   unfold Builtin.Str.strSub
   congr 1
   apply Array.ext'
   rw[Array.toList_extract,List.extract_eq_take_drop,hx];simp
  have s2:Builtin.Str.strSub x (a.length+1) x.length=⟨b.toArray⟩:=by
   have hl:x.length=a.length+1+b.length:=by
    rw[<- gR,h];simp;lia
   unfold Builtin.Str.strSub
   congr 1
   apply Array.ext'
   rw[Array.toList_extract,List.extract_eq_take_drop,hx,hl,show a++c::b=(a++[c])++b by simp,List.drop_left' (by simp)];simp
  rw[s1,l1,s2]
def SM{x:Str}:(⟨(chL x).toArray⟩:Str)=x:=gQ (mL _)
def aA0(p q:Int):Txt.partition (frW p q) (("/":Str))=(aV p,("/":Str),aV q):=by
 rw[FY];have:=aHk (x:=frW p q) (AN p q) (fun z=>by have:=wS z;lia);rw[SM,SM] at this;exact this
structure FrOk(p q:Int):Prop where
 top:p.natAbs<10^2000
 bot:q.natAbs<10^100
 pos:0<q
 cop:Int.gcd p q=1
def DM:10^100<=10^2000:=Nat.pow_le_pow_right (by decide) (by decide)
def PB:10^100<2^9000:=by decide +kernel
def HC(v:Int):sR [.int v]=some (.bl true):=rfl
def VA{p q:Int}(h:FrOk p q):sQ [.tup [.int p,.int q]]=some (.bl true):=by
 have cd:=UN p q (aTx h.bot PB);rw[h.cop] at cd;have e1:vJ [.tup [.int p,.int q]]=some (.bl true):=rfl;have x0:oIx (.tup [.int p,.int q]) (.int 0)=some (.int p):=rfl;have x1:oIx (.tup [.int p,.int q]) (.int 1)=some (.int q):=rfl;have gt:oGt (.int q) (.int 0)=some (.bl true):=by rw[mY,aUj h.pos]
 have e2:=HC p;have e3:=HC q;have e4:oEq (.int ((1:Nat):Int)) (.int 1)=some (.bl true):=rfl;rw[UY];unfold yV;simp only[aT,bG,cC,bD,jG,kD,eI,vF,aX,aJ,aM,aY,aK,aH,aE,zz0,jn,zz2,zz3,e1,x0,x1,e2,e3,eC,aSg,aSe,aUg,gt,cd,e4,aR,aUb,nQ,bF]
def KG{p q:Int}(h:FrOk p q):(frW p q).length<=2200:=by
 rw[<- gR,AN,aT3,aT4,gR,gR];have:=nZ (L:=2000) (by decide) h.top;have:=nZ (L:=100) (by decide) h.bot;lia
def aLx{p q:Int}(h:FrOk p q)(r:List Str):sI [.lst (tW (frW p q::r))]=some (.inl (.tup [.int p,.int q],tW r)):=by
 have f:=bA (frW p q::r);have f':=bA r;have tw:=jL (frW p q) r;have op:uE (.str (frW p q)) (.str "/")=some (.tup [.str (aV p),.str "/",.str (aV q)]):=by
  rw[NW,aA0,aUc ⟨by decide +kernel,by have:=KG h;unfold cap;lia⟩]
 have n1:=zW h.top;have n2:=zW (aS3 h.bot DM);have x0:oIx (.tup [.str (aV p),.str "/",.str (aV q)]) (.int 0)=some (.str (aV p)):=rfl;have x2:oIx (.tup [.str (aV p),.str "/",.str (aV q)]) (.int 2)=some (.str (aV q)):=rfl;have fr:=VA h;have c2:(2:Nat)<=cap:=by decide
 rw[UA];unfold xU;simp only[cE,dD,dQ,eE,fF,tF,cK,fJ,cU,kD,eI,eS,aX,aJ,aM,aY,aK,aH,aE,List.set,zz0,zz1,jn,zz2,zz3,f,f',aUb,tw,op,x0,x2,n1,n2,dX,aT4,aT6,aU3,Nat.reduceAdd,c2,fr,eC,aSg,aSe,aUg,BE,kB]
def eqS(a b:Str):oEq (.str a) (.str b)=some (.bl (a == b)):=rfl
def aM3{t0:T}{l:List Str}{o:(T × List T) ⊕ Str}(h:pT [.lst (tW l)]=some o)(ho:∀ r,o=.inl r->bK r.2=true):gL [t0,.str "word",.lst (tW l)]=some o:=by
 have f:=bA l;have q:oEq (.str "word") (.str "word")=some (.bl true):=by rw[eqS,aUf]
 rw[vG];unfold pL;rw[cE];cases o with
 | inl r=>
  have fr:=ho r rfl;simp only[dQ,fF,cK,cU,aU,aJ,aM,aK,aH,aE,List.set,zz0,zz1,jn,zz2,zz3,f,aUb,q,aR,h,fr,kB]
 | inr nm=>
  simp only[dQ,fF,cK,cU,aU,aJ,aM,aK,aH,aE,List.set,zz0,zz1,jn,zz2,zz3,f,aUb,q,aR,h,gY]
def GJ{t0:T}{l:List Str}{o:(T × List T) ⊕ Str}(h:kO [.lst (tW l)]=some o)(ho:∀ r,o=.inl r->bK r.2=true):gL [t0,.str "number",.lst (tW l)]=some o:=by
 have f:=bA l;have q1:oEq (.str "number") (.str "word")=some (.bl false):=by rw[eqS,show (("number":Str) == ("word":Str))=false by decide +kernel]
 have q:oEq (.str "number") (.str "number")=some (.bl true):=by rw[eqS,aUf]
 rw[vG];unfold pL;rw[cE];cases o with
 | inl r=>
  have fr:=ho r rfl;simp only[cE,dQ,eE,fF,cK,cU,aU,aJ,aM,aK,aH,aE,List.set,zz0,zz1,jn,zz2,zz3,f,aUb,q1,q,aR,aSe,aUg,h,fr,kB]
 | inr nm=>
  simp only[cE,dQ,eE,fF,cK,cU,aU,aJ,aM,aK,aH,aE,List.set,zz0,zz1,jn,zz2,zz3,f,aUb,q1,q,aR,aSe,aUg,h,gY]
def TD{t0:T}{l:List Str}{o:(T × List T) ⊕ Str}(h:kN [t0,.lst (tW l)]=some o)(ho:∀ r,o=.inl r->bK r.2=true):gL [t0,.str "group",.lst (tW l)]=some o:=by
 have f:=bA l;have q1:oEq (.str "group") (.str "word")=some (.bl false):=by rw[eqS,show (("group":Str) == ("word":Str))=false by decide +kernel]
 have q2:oEq (.str "group") (.str "number")=some (.bl false):=by rw[eqS,show (("group":Str) == ("number":Str))=false by decide +kernel]
 have q3:oEq (.str "group") (.str "row")=some (.bl false):=by rw[eqS,show (("group":Str) == ("row":Str))=false by decide +kernel]
 have q:oEq (.str "group") (.str "group")=some (.bl true):=by rw[eqS,aUf]
 rw[vG];unfold pL;rw[cE];cases o with
 | inl r=>
  have fr:=ho r rfl;simp only[cE,dQ,eE,fF,cK,cU,aU,aJ,aM,aK,aH,aE,List.set,zz0,zz1,jn,zz2,zz3,f,aUb,q1,q2,q3,q,aR,aSe,aUg,h,fr,kB]
 | inr nm=>
  simp only[cE,dQ,eE,fF,cK,cU,aU,aJ,aM,aK,aH,aE,List.set,zz0,zz1,jn,zz2,zz3,f,aUb,q1,q2,q3,q,aR,aSe,aUg,h,gY]
noncomputable def frT(x:Int × Int):T:=.tup [.int x.1,.int x.2]
theorem KI{r0 r1:Option T}:∀ (ts:List T) (fs:List (Int × Int)) (rest:List Str),fs.length=ts.length->(∀ x∈fs,FrOk x.1 x.2) ->
  dA 1 2 [none,some 2] uS ts [r0,r1,some (.lst (tW (fs.map (fun x=>frW x.1 x.2)++rest)))]=some (.inl (fs.map frT,[r0,r1,some (.lst (tW rest))]))
 | [],[],rest,_,_=>rfl
 | [],_::_,_,h,_=>by cases h
 | _::_,[],_,h,_=>by cases h
 | t::ts,x::fs,rest,h,hx=>by
  have ih:=KI (r0:=r0) (r1:=r1) ts fs rest (by simpa using h) (fun y hy=>hx y (aRy _ hy));have tf:=aLx (hx x aRz) (fs.map (fun x=>frW x.1 x.2)++rest);have f:=bA (frW x.1 x.2::(fs.map (fun x=>frW x.1 x.2)++rest));have f':=bA (fs.map (fun x=>frW x.1 x.2)++rest);rw[aTc,List.cons_append,aTc];have tk:bX [none,some 2] [r0,r1,some (T.lst (tW (frW x.1 x.2::(fs.map (fun x=>frW x.1 x.2)++rest))))]=[none,some (.lst (tW (frW x.1 x.2::(fs.map (fun x=>frW x.1 x.2)++rest))))]:=rfl;have e1:uS [some t,some (.lst (tW (frW x.1 x.2::(fs.map (fun x=>frW x.1 x.2)++rest))))]=some (.inl (frT x,[some t,some (.lst (tW (fs.map (fun x=>frW x.1 x.2)++rest)))])):=by
   unfold uS;simp only[cK,aK,aH,aE,List.set,zz0,zz1,jn,zz2,f,f',aUb,tf]
   rfl
  unfold dA;simp only[tk,List.set,e1,zz2,cU,aE,zz0,zz1,jn,f',aUb,ih,zz3]
def aM2{ws:List Str}{fs:List (Int × Int)}{rest:List Str}(h6:ws.length<=6)(hl:fs.length=ws.length)(hx:∀ x∈fs,FrOk x.1 x.2):gL [.lst (tW ws),.str "fractions",.lst (tW (fs.map (fun x=>frW x.1 x.2)++rest))]=some (.inl (.lst (fs.map frT),tW rest)):=by
 have f:=bA (fs.map (fun x=>frW x.1 x.2)++rest);have f':=bA rest;have q1:oEq (.str "fractions") (.str "word")=some (.bl false):=by rw[eqS,show (("fractions":Str) == ("word":Str))=false by decide +kernel]
 have q2:oEq (.str "fractions") (.str "number")=some (.bl false):=by rw[eqS,show (("fractions":Str) == ("number":Str))=false by decide +kernel]
 have q3:oEq (.str "fractions") (.str "row")=some (.bl false):=by rw[eqS,show (("fractions":Str) == ("row":Str))=false by decide +kernel]
 have q4:oEq (.str "fractions") (.str "group")=some (.bl false):=by rw[eqS,show (("fractions":Str) == ("group":Str))=false by decide +kernel]
 have q:oEq (.str "fractions") (.str "fractions")=some (.bl true):=by rw[eqS,aUf]
 have wk:=KI (r0:=some (.lst (tW ws))) (r1:=some (.str "fractions")) (tW ws) fs rest (by rw[bW];exact hl) hx;have hc:ws.length<=cap:=by unfold cap;lia
 rw[vG];unfold pL;simp only[cE,dQ,eE,fF,tE,cU,aU,mM,aJ,aM,aE,zz0,zz1,jn,zz2,zz3,f,aUb,q1,q2,q3,q4,q,aR,aSe,aUg,tT,bW,hc,wk,f',kB]
def GK{ws:List Str}{fm:Str}{l rest:List Str}{t:T}(h:gL [.lst (tW ws),.str fm,.lst (tW l)]=some (.inl (t,tW rest))):fY [.lst (tW ws),.tup [.str fm],.lst (tW l)]=(if rest=[] then some (.inl (.lst [t],[])) else some (.inr "BadPaper")):=by
 have f:=bA l;have f':=bA rest;have c1:=bp1;have g:aP (.str fm)=some (.str fm):=rfl;have tp:mU (.tup [.str fm])=some [T.str fm]:=rfl;have e1:eN [some (.str fm),some (.lst (tW ws)),some (.lst (tW l))]=some (.inl (t,[some (.str fm),some (.lst (tW ws)),some (.lst (tW rest))])):=by
  unfold eN;simp only[cK,aK,aH,aX,aE,List.set,zz0,zz1,jn,zz2,f,f',aUb,g,h]
 have tk:bX [none,some 0,some 2] [some (T.lst (tW ws)),some (.tup [.str fm]),some (.lst (tW l)),none]=[none,some (.lst (tW ws)),some (.lst (tW l))]:=rfl;have wk:dA 2 2 [none,some 0,some 2] eN [T.str fm] [some (.lst (tW ws)),some (.tup [.str fm]),some (.lst (tW l)),none]=some (.inl ([t],[some (.lst (tW ws)),some (.tup [.str fm]),some (.lst (tW rest)),none])):=by
  unfold dA;simp only[tk,List.set,e1,zz2,cU,aE,zz0,zz1,jn,f',aUb]
  rfl
 have gt:oGt (.int (rest.length:Int)) (.int 0)=some (.bl (decide (0<(rest.length:Int)))):=rfl;rw[vH];unfold pM;simp only[cE,dD,dQ,sG,eE,fF,tE,fJ,cU,aU,qN,aJ,aM,aY,aK,aH,aE,List.set,zz0,zz1,jn,zz2,zz3,f,aUb,tp,aT4,aT6,c1,wk,eZ,bW,gt,aR];cases rest with
 | nil=>
  rw[aUc rfl];rfl
 | cons x r=>
  have:decide ((0:Int)<((x::r).length:Int))=true:=aUj (by rw[aT4];lia);rw[aUd (show ¬ (x::r)=[] by simp),this];rfl
def TF{ws:List Str}{fm:Str}{fr:List Str}{l:List Str}(hr:fr.length<=9)(h:gL [.lst (tW ws),.str fm,.lst (tW l)]=some (.inr "BadPaper")):fY [.lst (tW ws),.tup (tW (fm::fr)),.lst (tW l)]=some (.inr "BadPaper"):=by
 have f:=bA l;have g:aP (.str fm)=some (.str fm):=rfl;have tp:mU (.tup (tW (fm::fr)))=some (tW (fm::fr)):=rfl;have hc:(fm::fr).length<=cap:=by rw[aT4];unfold cap;lia
 have e1:eN [some (.str fm),some (.lst (tW ws)),some (.lst (tW l))]=some (.inr "BadPaper"):=by
  unfold eN;simp only[cK,aK,aH,aX,aE,List.set,zz0,zz1,jn,zz2,f,aUb,g,h]
 have tk:bX [none,some 0,some 2] [some (T.lst (tW ws)),some (.tup (tW (fm::fr))),some (.lst (tW l)),none]=[none,some (.lst (tW ws)),some (.lst (tW l))]:=rfl;have wk:dA 2 2 [none,some 0,some 2] eN (tW (fm::fr)) [some (.lst (tW ws)),some (.tup (tW (fm::fr))),some (.lst (tW l)),none]=some (.inr "BadPaper"):=by
  have et:tW (fm::fr)=.str fm::tW fr:=rfl
  conv=>lhs;arg 5;rw[et]
  unfold dA;simp only[tk,List.set,e1,zz2]
 rw[vH];unfold pM;simp only[cE,dD,tE,cU,qN,aE,zz0,zz1,jn,zz2,zz3,f,aUb,tp,bW,hc,wk,gY]
theorem aM4{ws:List Str}{f1' f2':Str}{l m:List Str}{t1:T}{o:(T × List T) ⊕ Str}(h1:gL [.lst (tW ws),.str f1',.lst (tW l)]=some (.inl (t1,tW m)))(h2:gL [.lst (tW ws),.str f2',.lst (tW m)]=some o)(ho:∀ r,o=.inl r->∃ rest,r.2=tW rest):
  fY [.lst (tW ws),.tup [.str f1',.str f2'],.lst (tW l)]=(match o with | .inl r=>(if r.2=[] then some (.inl (.lst [t1,r.1],[])) else some (.inr "BadPaper")) | .inr nm=>some (.inr nm)):=by
 have f:=bA l;have fm:=bA m;have c1:=bp1;have c2:(2:Nat)<=cap:=by decide
 have g1:aP (.str f1')=some (.str f1'):=rfl;have g2:aP (.str f2')=some (.str f2'):=rfl;have tp:mU (.tup [.str f1',.str f2'])=some [T.str f1',T.str f2']:=rfl;have e1:eN [some (.str f1'),some (.lst (tW ws)),some (.lst (tW l))]=some (.inl (t1,[some (.str f1'),some (.lst (tW ws)),some (.lst (tW m))])):=by
  unfold eN;simp only[cK,aK,aH,aX,aE,List.set,zz0,zz1,jn,zz2,f,fm,aUb,g1,h1]
 have tk:bX [none,some 0,some 2] [some (T.lst (tW ws)),some (.tup [.str f1',.str f2']),some (.lst (tW l)),none]=[none,some (.lst (tW ws)),some (.lst (tW l))]:=rfl;have tk2:bX [none,some 0,some 2] [some (T.lst (tW ws)),some (.tup [.str f1',.str f2']),some (.lst (tW m)),none]=[none,some (.lst (tW ws)),some (.lst (tW m))]:=rfl;cases o with
 | inr nm=>
  have e2:eN [some (.str f2'),some (.lst (tW ws)),some (.lst (tW m))]=some (.inr nm):=by
   unfold eN;simp only[cK,aK,aH,aX,aE,List.set,zz0,zz1,jn,zz2,f,fm,aUb,g2,h2]
  have wk:dA 2 2 [none,some 0,some 2] eN [T.str f1',T.str f2'] [some (.lst (tW ws)),some (.tup [.str f1',.str f2']),some (.lst (tW l)),none]=some (.inr nm):=by
   unfold dA;simp only[tk,List.set,e1,zz2,cU,aE,zz0,zz1,jn,fm,aUb];unfold dA;simp only[tk2,List.set,e2,zz2,zz3]
  rw[vH];unfold pM;simp only[cE,dD,tE,cU,qN,aE,zz0,zz1,jn,zz2,zz3,f,aUb,tp,aT4,aT6,aU3,Nat.reduceAdd,c2,wk,gY]
 | inl r=>
  obtain⟨t2,r2⟩:=r;obtain⟨rest,er⟩:=ho _ rfl;have er:r2=tW rest:=er;subst er;have fr:=bA rest;have e2:eN [some (.str f2'),some (.lst (tW ws)),some (.lst (tW m))]=some (.inl (t2,[some (.str f2'),some (.lst (tW ws)),some (.lst (tW rest))])):=by
   unfold eN;simp only[cK,aK,aH,aX,aE,List.set,zz0,zz1,jn,zz2,f,fm,fr,aUb,g2,h2]
  have wk:dA 2 2 [none,some 0,some 2] eN [T.str f1',T.str f2'] [some (.lst (tW ws)),some (.tup [.str f1',.str f2']),some (.lst (tW l)),none]=some (.inl ([t1,t2],[some (.lst (tW ws)),some (.tup [.str f1',.str f2']),some (.lst (tW rest)),none])):=by
   unfold dA;simp only[tk,List.set,e1,zz2,cU,aE,zz0,zz1,jn,fm,aUb];unfold dA;simp only[tk2,List.set,e2,zz2,zz3,cU,aE,zz0,zz1,jn,fr,aUb]
   rfl
  have gt:oGt (.int (rest.length:Int)) (.int 0)=some (.bl (decide (0<(rest.length:Int)))):=rfl;rw[vH];unfold pM;simp only[cE,dD,dQ,sG,eE,fF,tE,fJ,cU,aU,qN,aJ,aM,aY,aK,aH,aE,List.set,zz0,zz1,jn,zz2,zz3,f,aUb,tp,aT4,aT6,aU3,Nat.reduceAdd,c1,c2,wk,eZ,bW,gt,aR];cases rest with
  | nil=>rfl
  | cons x r=>
   have:decide ((0:Int)<((x::r).length:Int))=true:=aUj (by rw[aT4];lia);rw[this];rfl
def PG(ws:List Str):T:=.pg [.lst (tW ws),.lst [],.lst []]
def uG{row:Str}{l:List Str}(es:Txt.split row ((" ":Str))=l)(h1:row.length<=100000)(h2:l.length<=100000):jE (.str row) (.str " ")=some (.lst (tW l)):=by
 show (if (((" ":Str)).length == 0)=false/\row.length<=cap/\(Txt.split row ((" ":Str))).length<=cap then some (T.lst (tW (Txt.split row ((" ":Str))))) else none)=_;rw[es,aUc ⟨by decide +kernel,by unfold cap;lia,by unfold cap;lia⟩]
def jV(x:T)(r:List T):oIx (.tup (x::r)) (.int 0)=some x:=by
 show atI (x::r) 0=some x;exact cM (j:=0) rfl
def aDb(x:T)(r:List T):oIx (.lst (x::r)) (.int 0)=some x:=by
 show atI (x::r) 0=some x;exact cM (j:=0) rfl
def PY{ws:List Str}{k row:Str}{ar:List T}{fm l:List Str}(hf:dR [.str k]=some (.tup (tW fm)))(os:jE (.str row) (.str " ")=some (.lst (tW l)))(h:fY [.lst (tW ws),.tup (tW fm),.lst (tW l)]=some (.inr "BadPaper")):gM [PG ws,.tup (.str k::ar),.str row]=some (.inr "BadPaper"):=by
 have f:=bA l;rw[60];rw[zS];unfold rP;simp only[GY,GV,aX,aJ,aM,aY,aK,aH,aE,zz0,zz1,jn,zz2,a0,i0,hf,os,f,aUb,h,aHf]
def DY{ws:List Str}{k row:Str}{ar:List T}{fm l:List Str}{t:T}(hf:dR [.str k]=some (.tup (tW fm)))(os:jE (.str row) (.str " ")=some (.lst (tW l)))(h:fY [.lst (tW ws),.tup (tW fm),.lst (tW l)]=some (.inl (.lst [t],[]))):gM [PG ws,.tup (.str k::ar),.str row]=some (.inl t):=by
 have f:=bA l;have i0:=jV (.str k) ar;have i1:=aDb t [];have a0:kW 0 (PG ws)=some (.lst (tW ws)):=rfl;have e1:oEq (.int ((1:Nat):Int)) (.int 1)=some (.bl true):=rfl;rw[zS];unfold rP;simp only[GY,GV,zN,bD,qM,aU,aX,aJ,aM,aY,aK,aH,aE,List.set,zz0,zz1,jn,zz2,zz3,a0,i0,hf,os,f,aUb,h,eZ,aT4,aT6,aU3,e1,aR,i1,OI,bF]
def aJe{ws:List Str}{k row:Str}{ar:List T}{fm l:List Str}{t u:T}(hf:dR [.str k]=some (.tup (tW fm)))(os:jE (.str row) (.str " ")=some (.lst (tW l)))(h:fY [.lst (tW ws),.tup (tW fm),.lst (tW l)]=some (.inl (.lst [t,u],[]))):gM [PG ws,.tup (.str k::ar),.str row]=some (.inl (.tup [t,u])):=by
 have f:=bA l;rw[60];have e1:oEq (.int ((2:Nat):Int)) (.int 1)=some (.bl false):=rfl;rw[zS];unfold rP;simp only[GY,GV,zN,bD,qM,aU,aX,aJ,aM,aY,aK,aH,aE,List.set,zz0,zz1,jn,zz2,zz3,a0,i0,hf,os,f,aUb,h,eZ,aT4,aT6,aU3,Nat.reduceAdd,e1,aR,aSe,aUg,aFf,OI,bF]
def aFi:vI [.exc "BadPaper"]=some (.bl true):=by kernel_rfl
def QA{ws:List Str}{ask:T}{row:Str}(h:gM [PG ws,ask,.str row]=some (.inr "BadPaper")):gN [PG ws,ask,.str row]=some (.bl true):=by
 have n:=aFi;have m:("BadPaper" : Str)∈(["BadPaper"]:List Str):=by decide
 have g:aP (.exc "BadPaper")=some (.exc "BadPaper"):=rfl;have i1:eK [("BadPaper",true)] (.exc "BadPaper")=some (.bl true):=by kernel_rfl
 have i2:eK [("BadPaper",false)] (.exc "BadPaper")=some (.bl false):=by kernel_rfl
 rw[UL];unfold yM;simp only[aT,bN,aJ7,bD,AD,aTm,aSp,vF,TM,aX,aM,aY,aK,aH,aE,List.set,zz0,zz1,jn,zz2,zz3,h,m,aUb,g,i1,i2,aR,n,Bool.not_false,nQ,bF]
def vB{v:Int}(h:v.natAbs<10^2000):jF [.int v]=some (.str (aV v)):=by
 rw[aFc,aUc]
 ·rfl
 ·rw[qO]
  exact aTx h (Nat.pow_lt_pow_right (by decide) (by decide))
def JT{v:Int}(h:v.natAbs<10^2000):v.natAbs<figLim:=by
 rw[qO];exact aTx h (Nat.pow_lt_pow_right (by decide) (by decide))
def UR{p q:Int}(h:FrOk p q):pY [.tup [.int p,.int q]]=some (.str (frW p q)):=by
 have x0:oIx (.tup [.int p,.int q]) (.int 0)=some (.int p):=rfl;have x1:oIx (.tup [.int p,.int q]) (.int 1)=some (.int q):=rfl;have o:uB "/" (.int p) (.int q)=some (.str (frW p q)):=by
  show (if p.natAbs<figLim/\q.natAbs<figLim/\(("/":Str)).length<=1000 then some (T.str ((Str.ofString (toString p)++("/":Str))++Str.ofString (toString q))) else none)=_;rw[aUc ⟨JT h.top,JT (aS3 h.bot DM),by decide +kernel⟩,FY]
  rfl
 rw[UQ];unfold yQ;simp only[aT,bN,bD,aX,aJ,aM,aE,List.set,zz0,zz1,jn,zz2,zz3,x0,x1,dX,o,bF]
noncomputable def hN(g:Nat):List Nat:=(List.range 6).filter fun h=>g / 2^h%2 == 1
def aCh(g:Nat):BR g=tN' (hN g):=rfl
def aCe:(List.range 7).all (fun n=>(List.range (2^n)).all fun g=>((List.range n).filter fun h=>g / 2^h%2 == 1) == hN g)=true:=by decide +kernel
def MC{n g:Nat}(h6:n<=6)(hg:g<2^n):((List.range n).filter fun h=>g / 2^h%2 == 1)=hN g:=by
 have:=aS1.mp (aS1.mp aCe n (aS2.mpr (by lia))) g (aS2.mpr hg);exact beq_iff_eq.mp this
def nU{n g:Nat}(h6:n<=6)(hg:g<2^n):∀ k∈hN g,k<n:=fun k hk=>by
 rw[<- MC h6 hg] at hk;exact aS2.mp (List.mem_filter.mp hk).1
def aCg(g:Nat):(hN g).Nodup:=List.Nodup.sublist List.filter_sublist List.nodup_range
def aCf:(List.range 64).all (fun g=>decide (tN' (hN g)=fV (tN' (hN g)))&&(gor (hN g) == g))=true:=by decide +kernel
def MD{g:Nat}(h:g<64):tN' (hN g)=fV (tN' (hN g))/\gor (hN g)=g:=by
 have:=aS1.mp aCf g (aS2.mpr h);rw[aSb] at this;exact⟨aUe this.1,beq_iff_eq.mp this.2⟩
noncomputable def lbr:Str:=⟨#[123]⟩
noncomputable def rbr:Str:=⟨#[125]⟩
def CC:("{":Str) = lbr:=by decide +kernel
def DX:("}":Str) = rbr:=by decide +kernel
def grW(ws:List Str)(g:Nat):List Str:=lbr::(called ws (hN g)++[rbr])
def pR(a b:List Str):tW (a++b)=tW a++tW b:=List.map_append
def qG(ws:List Str)(l:List Nat):(called ws l).length=l.length:=aT5 _
def nS(g:Nat):(hN g).length<=6:=aTt (List.length_filter_le _ _) (by decide)
def VJ{ws:List Str}{l:List Nat}(hl:∀ k∈l,k<ws.length)(h6:l.length<=6)(a b:Str):sU [.lst (tW ws),.str a,.lst (tI (tN' l)),.str b]=some (.lst (tW (a::(called ws l++[b])))):=by
 have ec:bS bI yZ [none,some (.lst (tW ws))] (tI (tN' l))=some (tW (called ws l)):=by
  have en:tI (tN' l)=l.map fun (k:Nat)=>T.int (k:Int):=by unfold tI tN';rw[aTd];rfl
  have et:tW (called ws l)=l.map fun k=>T.str (ws.getD k default):=by unfold tW called;rw[aTd];rfl
  rw[en,et];refine qI _ _ l fun k hk=>?_;have ix:atI (tW ws) (k:Int)=some (.str (ws.getD k default)):=by
   refine cM ?_;unfold tW;rw[aT0,aRx (hl k hk),mQ (hl k hk)];rfl
  have g:aP (.str (ws.getD k default))=some (.str (ws.getD k default)):=rfl;unfold yZ;simp only[aX,aJ,aE,List.set,zz0,zz1,jn,zz2,dN,ix,g]
 have cl:=qG ws l;have c1:(called ws l).length<=cap:=by rw[cl];unfold cap;lia
 have k1:=bp1;have g1:aP (.str a)=some (.str a):=rfl;have g2:aP (.str b)=some (.str b):=rfl;have o1:dC (.lst [.str a]) (.lst (tW (called ws l)))=some (.lst (tW (a::called ws l))):=by
  rw[pA (by rw[bW,aT9];unfold cap;lia)];rfl
 have o2:dC (.lst (tW (a::called ws l))) (.lst [.str b])=some (.lst (tW (a::(called ws l++[b])))):=by
  rw[pA (by rw[bW,aT4,aT9];unfold cap;lia),<- List.cons_append,pR];rfl
 rw[VL];unfold yY;simp only[bD,aX,aJ,cR,eH,mM,aK,aH,aE,zz0,zz1,jn,zz2,zz3,g1,g2,aT4,aT6,aU3,k1,aUb,BY,bX,aTc,aTe,aU5,ec,bW,c1,o1,o2,bF]
def UU{ws:List Str}{g:Nat}(h6:ws.length<=6)(hg:g<2^ws.length):sO [.lst (tW ws),.int (g:Int)]=some (.lst (tW (grW ws g))):=by
 have h64:g<64:=aS3 hg (xO h6);have hi:=UX h64;rw[aCh] at hi;have nw:=VJ (ws:=ws) (nU h6 hg) (nS g) (("{":Str)) (("}":Str));rw[UV];unfold yS;simp only[bD,aM,aY,aK,aH,aE,zz0,zz1,jn,zz2,zz3,hi,nw,bF];rw[CC,DX]
 rfl
def aE2:(List.range 64).all (fun g=>(List.range 6).all fun h=>match nG [some (.int (h:Int)),some (.int (g:Int)),none] with | some b=>b == (g / 2^h%2 == 1) | none=>false)=true:=by decide +kernel
def lgp{g h:Nat}(hg:g<64)(hh:h<6)(x:Option T):nG [some (.int (h:Int)),some (.int (g:Int)),x]=some (g / 2^h%2 == 1):=by
 have:=aS1.mp (aS1.mp aE2 g (aS2.mpr hg)) h (aS2.mpr hh);have e:nG [some (.int (h:Int)),some (.int (g:Int)),x]=nG [some (.int (h:Int)),some (.int (g:Int)),none]:=rfl;rw[e];generalize nG [some (.int (h:Int)),some (.int (g:Int)),none]=o at this;cases o with
 | none=>cases this
 | some b=>rw[beq_iff_eq.mp this]
def VI{ws:List Str}{g:Nat}(hn:dG ws)(h6:ws.length<=6)(hg:g<2^ws.length):sL [.lst (tW ws),.int (g:Int)]=some (.str (Txt.join sp (grW ws g))):=by
 have h64:g<64:=aS3 hg (xO h6);have hr:=uF ws.length (by lia);have ec:bS nG yC [none,some (.int (g:Int)),some (.lst (tW ws))] (G.rangeT 0 ws.length)=some (tW (called ws (hN g))):=by
  have er:G.rangeT 0 ws.length=(List.range ws.length).map fun (j:Nat)=>T.int (j:Int):=by
   unfold G.rangeT;refine List.map_congr_left fun j _=>?_
   congr 1;lia
  have et:tW (called ws (hN g))=(hN g).map fun k=>T.str (ws.getD k default):=by unfold tW called;rw[aTd];rfl
  rw[er,et,<- MC h6 hg];refine AQ _ _ _ _ fun j hj=>?_;have hj:=aS2.mp hj;refine⟨lgp h64 (by lia) _,fun _=>?_⟩;have ix:atI (tW ws) (j:Int)=some (.str (ws.getD j default)):=by
   refine cM ?_;unfold tW;rw[aT0,aRx hj,mQ hj];rfl
  have gs:aP (.str (ws.getD j default))=some (.str (ws.getD j default)):=rfl;unfold yC;simp only[aX,aJ,aE,List.set,zz0,zz1,jn,zz2,dN,ix,gs]
 have cl:=qG ws (hN g);have hl:=nS g;have c1:(called ws (hN g)).length<=cap:=by rw[cl];unfold cap;lia
 have k1:=bp1;have o1:dC (.lst [.str "{"]) (.lst (tW (called ws (hN g))))=some (.lst (tW (lbr::called ws (hN g)))):=by
  rw[pA (by rw[bW,aT9];unfold cap;lia),CC];rfl
 have o2:dC (.lst (tW (lbr::called ws (hN g)))) (.lst [.str "}"])=some (.lst (tW (grW ws g))):=by
  unfold grW;rw[pA (by rw[bW,aT4,aT9];unfold cap;lia),<- List.cons_append,pR,DX];rfl
 have jo:JoinOk sp (grW ws g)=true:=tU (B:=201) (by decide) (fun w hw=>by
  rcases aS7.mp hw with rfl | hw
  ·decide
  rcases aTf.mp hw with hw | hw
  ·exact (AM hn (nU h6 hg) w hw).1
  ·rw[aTl.mp hw];decide) (by unfold grW;rw[aT4,aT3,cl];simp only[aT9];lia)
 have oj:=uD jo;rw[UF];unfold yB;simp only[aT,bN,bD,aJ,aM,cR,eH,nO,aY,aK,aH,aE,List.set,zz0,zz1,jn,zz2,zz3,eZ,bW,hr,bX,aTc,aTe,aU5,ec,c1,aT4,aT6,aU3,k1,aUb,o1,o2,oj,bF]
def aIv{t0:T}(w:Str):fG [t0,.str "word",.str w]=some (.lst (tW [w])):=by
 have q:oEq (.str "word") (.str "word")=some (.bl true):=by rw[eqS,aUf]
 have g:aP (.str w)=some (.str w):=rfl;have k1:=bp1;rw[vM];unfold pN;rw[aT];simp only[bG,bD,aU,aX,aJ,aM,cR,aK,aH,aE,zz0,zz1,jn,zz2,zz3,q,aR,aUb,g,aT4,aT6,aU3,k1]
 rfl
def PM{t0:T}{v:Int}(h:v.natAbs<10^2000):fG [t0,.str "number",.int v]=some (.lst (tW [aV v])):=by
 have q1:oEq (.str "number") (.str "word")=some (.bl false):=by rw[eqS,show (("number":Str) == ("word":Str))=false by decide +kernel]
 have q:oEq (.str "number") (.str "number")=some (.bl true):=by rw[eqS,aUf]
 have s:=vB h;have k1:=bp1;rw[vM];unfold pN;rw[aT];simp only[aT,bG,cC,bD,aU,aJ,aM,cR,aY,aK,aH,aE,zz0,zz1,jn,zz2,zz3,q1,q,aR,aSe,aUg,aUb,s,aT4,aT6,aU3,k1]
 rfl
def aIu{ws:List Str}{g:Nat}(h6:ws.length<=6)(hg:g<2^ws.length):fG [.lst (tW ws),.str "group",.int (g:Int)]=some (.lst (tW (grW ws g))):=by
 have q1:oEq (.str "group") (.str "word")=some (.bl false):=by rw[eqS,show (("group":Str) == ("word":Str))=false by decide +kernel]
 have q2:oEq (.str "group") (.str "number")=some (.bl false):=by rw[eqS,show (("group":Str) == ("number":Str))=false by decide +kernel]
 have q3:oEq (.str "group") (.str "row")=some (.bl false):=by rw[eqS,show (("group":Str) == ("row":Str))=false by decide +kernel]
 have q:oEq (.str "group") (.str "group")=some (.bl true):=by rw[eqS,aUf]
 have gw:=UU h6 hg;rw[vM];unfold pN;rw[aT];simp only[aT,bG,cC,bD,aU,aJ,aM,aY,aK,aH,aE,zz0,zz1,jn,zz2,zz3,q1,q2,q3,q,aR,aSe,aUg,aUb,gw,bF]
def cY(fs:List (Int × Int)):List Str:=fs.map fun x=>frW x.1 x.2
def aIt{t0:T}{fs:List (Int × Int)}(hl:fs.length<=6)(hx:∀ x∈fs,FrOk x.1 x.2):fG [t0,.str "fractions",.lst (fs.map frT)]=some (.lst (tW (cY fs))):=by
 have q1:oEq (.str "fractions") (.str "word")=some (.bl false):=by rw[eqS,show (("fractions":Str) == ("word":Str))=false by decide +kernel]
 have q2:oEq (.str "fractions") (.str "number")=some (.bl false):=by rw[eqS,show (("fractions":Str) == ("number":Str))=false by decide +kernel]
 have q3:oEq (.str "fractions") (.str "row")=some (.bl false):=by rw[eqS,show (("fractions":Str) == ("row":Str))=false by decide +kernel]
 have q4:oEq (.str "fractions") (.str "group")=some (.bl false):=by rw[eqS,show (("fractions":Str) == ("group":Str))=false by decide +kernel]
 have q:oEq (.str "fractions") (.str "fractions")=some (.bl true):=by rw[eqS,aUf]
 have et:tW (cY fs)=fs.map fun x=>T.str (frW x.1 x.2):=by unfold tW cY;rw[aTd];rfl
 have ec:bS bI zB [none] (fs.map frT)=some (tW (cY fs)):=by
  rw[et];refine qI _ _ fs fun x h=>?_;have fw:=UR (hx x h);have g:aP (.str (frW x.1 x.2))=some (.str (frW x.1 x.2)):=rfl;unfold zB;show f1 (aG (aB (aA 0) aD) pY) aP [some (.tup [.int x.1,.int x.2])]=_;simp only[aX,aY,aK,aH,aE,zz0,jn,zz2,fw,g]
 have fl:isL (.lst (fs.map frT))=some (fs.map frT):=rfl;have hc:(tW (cY fs)).length<=cap:=by rw[et,aT5];unfold cap;lia
 rw[vM];unfold pN;rw[aT];simp only[aT,bG,cC,bD,aU,aJ,aM,eH,JP,aE,zz0,zz1,jn,zz2,zz3,q1,q2,q3,q4,q,aR,aSe,aUg,aUb,fl,bX,aTc,aTe,aU5,ec,hc,bF]
def VY(d:Nat)(s:Str):eQ (d+1) [.str s,.str s]=some (.bl true):=by
 show ((jJ (eQ d)) [some (.str s),some (.str s)]).bind bQ=_;have i0:oIs (.str s) .non=some (.bl false):=rfl;have i1:cH "str" (.str s)=some (.bl true):=rfl;have e:oEq (.str s) (.str s)=some (.bl true):=by rw[eqS,aUf]
 unfold jJ;rw[aT];simp only[aT,bG,cC,bD,aU,eI,vF,aX,aJ,aM,aE,zz0,zz1,jn,zz2,zz3,i0,i1,e,eC,aR,aSe,aUg,aUb,nQ,bF]
def sY(d:Nat)(v:Int):eQ (d+1) [.int v,.int v]=some (.bl true):=by
 show ((jJ (eQ d)) [some (.int v),some (.int v)]).bind bQ=_;have i0:oIs (.int v) .non=some (.bl false):=rfl;have i1:cH "str" (.int v)=some (.bl false):=rfl;have i2:cH "int" (.int v)=some (.bl true):=rfl;have i3:cH "bool" (.int v)=some (.bl false):=rfl;have e:oEq (.int v) (.int v)=some (.bl true):=by rw[NR,aUf]
 unfold jJ;rw[aT];simp only[aT,bG,cC,bD,aU,eI,vF,TM,aX,aJ,aM,aE,zz0,zz1,jn,zz2,zz3,i0,i1,i2,i3,e,eC,aR,Bool.not_false,aSe,aUg,aUb,nQ,bF]
def HU(l:List Nat):gW [.lst (l.map fun _=>T.bl true)]=some (.bl true):=by
 have:G.allB (l.map fun _=>T.bl true)=some (l.map fun _=>true):=by
  induction l with
  | nil=>rfl
  | cons a r ih=>simp only[aTc,G.allB,ih];rfl
 show (G.allB _).map _=_;rw[this];simp
def HV{d:Nat}{t:T}{ts:List T}(ix:∀ i:Int,oIx t (.int i)=atI ts i)(h:∀ u∈ts,eQ d [u,u]=some (.bl true)):bS bI (xX (eQ d)) [none,some t,some t] (G.rangeT 0 ts.length)=some ((List.range ts.length).map fun _=>T.bl true):=by
 refine tD _ fun j hj=>?_;have a:atI ts (0+(j:Int))=some ts[j]:=by
  rw[Int.zero_add];exact cM (aRx hj)
 have hu:=h _ (List.getElem_mem hj);unfold xX;simp only[aX,aJ,aY,aK,aH,aE,List.set,zz0,zz1,jn,zz2,ix,a,hu,nQ]
def HW{d:Nat}{ts:List T}(hl:ts.length<=100)(h:∀ u∈ts,eQ d [u,u]=some (.bl true)):eQ (d+1) [.tup ts,.tup ts]=some (.bl true):=by
 show ((jJ (eQ d)) [some (.tup ts),some (.tup ts)]).bind bQ=_;have i0:oIs (.tup ts) .non=some (.bl false):=rfl;have i1:cH "str" (.tup ts)=some (.bl false):=rfl;have i2:cH "int" (.tup ts)=some (.bl false):=rfl;have i3:cH "tuple" (.tup ts)=some (.bl true):=rfl;have i4:cH "list" (.tup ts)=some (.bl false):=rfl;have n1:oNe (.bl true) (.bl true)=some (.bl false):=rfl;have n2:oNe (.bl false) (.bl false)=some (.bl false):=rfl;have ln:cN [.tup ts]=some (.int (ts.length:Int)):=rfl;have n3:oNe (.int (ts.length:Int)) (.int (ts.length:Int))=some (.bl false):=by rw[CY,aUf];rfl
 have hr:=uF ts.length (by lia);have ec:=HV (d:=d) (t:=.tup ts) (ts:=ts) (fun i=>rfl) h;have hc:((List.range ts.length).map fun _=>T.bl true).length<=cap:=by rw[aT5,List.length_range];unfold cap;lia
 have oa:=HU (List.range ts.length);unfold jJ;rw[aT];simp only[aT,bG,cC,bD,aU,eI,jG,aX,aJ,aM,aY,eH,nO,aK,aH,aE,zz0,zz1,jn,zz2,zz3,i0,i1,i2,i3,i4,n1,n2,ln,n3,eC,aR,aSe,aUg,aUb,hr,bX,aTc,aTe,aU5,ec,hc,oa,bF]
def VX{d:Nat}{ts:List T}(hl:ts.length<=100)(h:∀ u∈ts,eQ d [u,u]=some (.bl true)):eQ (d+1) [.lst ts,.lst ts]=some (.bl true):=by
 show ((jJ (eQ d)) [some (.lst ts),some (.lst ts)]).bind bQ=_;have i0:oIs (.lst ts) .non=some (.bl false):=rfl;have i1:cH "str" (.lst ts)=some (.bl false):=rfl;have i2:cH "int" (.lst ts)=some (.bl false):=rfl;have i3:cH "tuple" (.lst ts)=some (.bl false):=rfl;have i4:cH "list" (.lst ts)=some (.bl true):=rfl;have n1:oNe (.bl true) (.bl true)=some (.bl false):=rfl;have n2:oNe (.bl false) (.bl false)=some (.bl false):=rfl;have ln:cN [.lst ts]=some (.int (ts.length:Int)):=rfl;have n3:oNe (.int (ts.length:Int)) (.int (ts.length:Int))=some (.bl false):=by rw[CY,aUf];rfl
 have hr:=uF ts.length (by lia);have ec:=HV (d:=d) (t:=.lst ts) (ts:=ts) (fun i=>rfl) h;have hc:((List.range ts.length).map fun _=>T.bl true).length<=cap:=by rw[aT5,List.length_range];unfold cap;lia
 have oa:=HU (List.range ts.length);unfold jJ;rw[aT];simp only[aT,bG,cC,bD,aU,eI,jG,aX,aJ,aM,aY,eH,nO,aK,aH,aE,zz0,zz1,jn,zz2,zz3,i0,i1,i2,i3,i4,n1,n2,ln,n3,eC,aR,aSe,aUg,aUb,hr,bX,aTc,aTe,aU5,ec,hc,oa,bF]
def aDs{p q:Int}(h:FrOk p q):uU [some (frT (p,q))]=some (.str (frW p q)):=by
 have x0:oIx (frT (p,q)) (.int 0)=some (.int p):=rfl;have x1:oIx (frT (p,q)) (.int 1)=some (.int q):=rfl;have s1:=vB h.top;have s2:=vB (aS3 h.bot DM);have l1:=nZ (L:=2000) (by decide) h.top;have l2:=nZ (L:=100) (by decide) h.bot;have hs:(("/":Str)).length=1:=by decide +kernel
 have a1:cG (.str (aV p)) (.str "/")=some (.str (aV p++sl)):=by
  show (if (aV p).length+(("/":Str)).length<=cap then some (T.str (aV p++("/":Str))) else none)=_;rw[aUc (by rw[hs];unfold cap;lia),FY]
 have a2:cG (.str (aV p++sl)) (.str (aV q))=some (.str (frW p q)):=by
  show (if (aV p++sl).length+(aV q).length<=cap then some (T.str ((aV p++sl)++aV q)) else none)=_;have hl:(aV p++sl).length=(aV p).length+1:=by rw[dZ];rfl
  rw[aUc (by rw[hl];unfold cap;lia)]
  rfl
 unfold uU;simp only[aJ,aM,aY,aK,aH,aE,zz0,jn,zz2,x0,x1,s1,s2,a1,a2]
def aIw{t0 p:T}{fm:Str}{l:List Str}(hl:l.length<=100)(h:fG [t0,.str fm,p]=some (.lst (tW l))):qA [t0,.tup (tW [fm]),.lst [p]]=some (.lst (tW l)):=by
 have z:kL [T.str fm] [p]=[.tup [.str fm,p]]:=rfl;have tp:mU (.tup (tW [fm]))=some [T.str fm]:=rfl;have lt:qS (.lst [p])=some [p]:=rfl;have hc:(([]:List T).length+(tW l).length<=cap):=by rw[bW];show 0+l.length<=cap;unfold cap;lia
 have b:kJ [some t0,some (.tup (tW [fm])),some (.lst [p]),some (.lst []),some (.str fm),some p]=some (.nx [some t0,some (.tup (tW [fm])),some (.lst [p]),some (.lst (tW l)),some (.str fm),some p]):=by
  unfold kJ;simp only[DU,aY,aK,aH,aE,List.set,zz0,zz1,jn,zz2,zz3,h,hc,aUb,aTm]
 have lp:fK [4,5] kJ [.tup [.str fm,p]] [some t0,some (.tup (tW [fm])),some (.lst [p]),some (.lst []),none,none]=some (.nx [some t0,some (.tup (tW [fm])),some (.lst [p]),some (.lst (tW l)),some (.str fm),some p]):=by
  have s:setL [some t0,some (T.tup (tW [fm])),some (.lst [p]),some (.lst []),none,none] [4,5] [.str fm,p]=some [some t0,some (.tup (tW [fm])),some (.lst [p]),some (.lst []),some (.str fm),some p]:=rfl;unfold fK;simp only[s,zz2,b]
  rfl
 have c0:(0:Nat)<=cap:=aU4 _;rw[HH];unfold uZ;simp only[aT,rK,PQ,bD,JS,qN,JO,cR,vZ,aH,aE,List.set,zz0,zz1,jn,zz2,zz3,aT6,c0,aUb,mD,tp,lt,z,lp,bA,bF]
def aIx{t0 p p2:T}{fm f2':Str}{l l2:List Str}(hl:l.length<=100)(hl2:l2.length<=100)(h:fG [t0,.str fm,p]=some (.lst (tW l)))(h2:fG [t0,.str f2',p2]=some (.lst (tW l2))):qA [t0,.tup (tW [fm,f2']),.tup [p,p2]]=some (.lst (tW (l++l2))):=by
 have z:kL [T.str fm,T.str f2'] [p,p2]=[.tup [.str fm,p],.tup [.str f2',p2]]:=rfl;have tp:mU (.tup (tW [fm,f2']))=some [T.str fm,T.str f2']:=rfl;have lt:qS (.tup [p,p2])=some [p,p2]:=rfl;have hc:(([]:List T).length+(tW l).length<=cap):=by rw[bW];show 0+l.length<=cap;unfold cap;lia
 have hc2:((tW l).length+(tW l2).length<=cap):=by rw[bW,bW];unfold cap;lia
 have ea:tW l++tW l2=tW (l++l2):=(pR _ _).symm;have b:kJ [some t0,some (.tup (tW [fm,f2'])),some (.tup [p,p2]),some (.lst []),some (.str fm),some p]=some (.nx [some t0,some (.tup (tW [fm,f2'])),some (.tup [p,p2]),some (.lst (tW l)),some (.str fm),some p]):=by
  unfold kJ;simp only[DU,aY,aK,aH,aE,List.set,zz0,zz1,jn,zz2,zz3,h,hc,aUb,aTm]
 have b2:kJ [some t0,some (.tup (tW [fm,f2'])),some (.tup [p,p2]),some (.lst (tW l)),some (.str f2'),some p2]=some (.nx [some t0,some (.tup (tW [fm,f2'])),some (.tup [p,p2]),some (.lst (tW (l++l2))),some (.str f2'),some p2]):=by
  unfold kJ;simp only[DU,aY,aK,aH,aE,List.set,zz0,zz1,jn,zz2,zz3,h2,hc2,aUb,ea]
 have lp:fK [4,5] kJ [.tup [.str fm,p],.tup [.str f2',p2]] [some t0,some (.tup (tW [fm,f2'])),some (.tup [p,p2]),some (.lst []),none,none]=some (.nx [some t0,some (.tup (tW [fm,f2'])),some (.tup [p,p2]),some (.lst (tW (l++l2))),some (.str f2'),some p2]):=by
  have s:setL [some t0,some (T.tup (tW [fm,f2'])),some (.tup [p,p2]),some (.lst []),none,none] [4,5] [.str fm,p]=some [some t0,some (.tup (tW [fm,f2'])),some (.tup [p,p2]),some (.lst []),some (.str fm),some p]:=rfl;have s2:setL [some t0,some (T.tup (tW [fm,f2'])),some (.tup [p,p2]),some (.lst (tW l)),some (.str fm),some p] [4,5] [.str f2',p2]=some [some t0,some (.tup (tW [fm,f2'])),some (.tup [p,p2]),some (.lst (tW l)),some (.str f2'),some p2]:=rfl;unfold fK;simp only[s,zz2,b];unfold fK;simp only[s2,zz2,b2]
  rfl
 have c0:(0:Nat)<=cap:=aU4 _;rw[HH];unfold uZ;simp only[aT,rK,PQ,bD,JS,qN,JO,cR,vZ,aH,aE,List.set,zz0,zz1,jn,zz2,zz3,aT6,c0,aUb,mD,tp,lt,z,lp,bA,bF]
def AI{ws:List Str}{k fm:Str}{ar:List T}{l:List Str}{p:T}(hf:dR [.str k]=some (.tup (tW [fm])))(hl:l.length<=100)(h:fG [.lst (tW ws),.str fm,p]=some (.lst (tW l)))(jo:JoinOk sp l=true):nH [PG ws,.tup (.str k::ar),p]=some (.str (Txt.join sp l)):=by
 rw[60];have e1:oEq (.int ((1:Nat):Int)) (.int 1)=some (.bl true):=rfl;have lt:cN [.tup (tW [fm])]=some (.int ((1:Nat):Int)):=rfl;have k1:=bp1;have pw:=aIw hl h;have oj:=uD jo;rw[HB];unfold uW;simp only[aT,bN,bD,qM,aU,aX,aJ,aM,cR,aY,aK,aH,aE,List.set,zz0,zz1,jn,zz2,zz3,i0,hf,lt,e1,aR,aUb,aT4,aT6,aU3,k1,a0,pw,oj,bF]
def WJ{ws:List Str}{k fm f2':Str}{ar:List T}{l l2:List Str}{p p2:T}(hf:dR [.str k]=some (.tup (tW [fm,f2'])))(hl:l.length<=100)(hl2:l2.length<=100)(h:fG [.lst (tW ws),.str fm,p]=some (.lst (tW l)))(h2:fG [.lst (tW ws),.str f2',p2]=some (.lst (tW l2)))(jo:JoinOk sp (l++l2)=true):nH [PG ws,.tup (.str k::ar),.tup [p,p2]]=some (.str (Txt.join sp (l++l2))):=by
 rw[60];have e1:oEq (.int ((2:Nat):Int)) (.int 1)=some (.bl false):=rfl;have lt:cN [.tup (tW [fm,f2'])]=some (.int ((2:Nat):Int)):=rfl;have pw:=aIx hl hl2 h h2;have oj:=uD jo;rw[HB];unfold uW;simp only[aT,bN,bD,qM,aU,aX,aJ,aM,aY,aK,aH,aE,List.set,zz0,zz1,jn,zz2,zz3,i0,hf,lt,e1,aR,aSe,aUg,a0,pw,oj,bF]
noncomputable def nL:Nat:=10^2000
def AK:nL=10^2000:=by unfold nL;rfl
def YU:((10:Int)^50)^4=((10^200:Nat):Int):=by
 rw[<- Int.pow_mul];exact (Int.natCast_pow 10 200).symm
def YV:((10:Int)^50)^40=((10^2000:Nat):Int):=by
 rw[<- Int.pow_mul];exact (Int.natCast_pow 10 2000).symm
def wB:Rho->Option T:=bZ (aB (fC (.int 3)) (aB (fC (.int 1000)) (aB (f2 (f2 (fC (.int 10)) (fC (.int 50)) dO) (fC (.int 4)) dO) (aB (f2 (f2 (fC (.int 10)) (fC (.int 50)) dO) (fC (.int 40)) dO) aD))))
def YW(ρ:Rho){k:Nat}(hk:k<4):∃ L N,wB ρ=some (.lst L)/\atI L (k:Int)=some (.int ((N:Nat):Int))/\1<=N/\N<=nL:=by
 have p1:dO (.int 10) (.int 50)=some (.int (10^50)):=wX 10 50 (by decide +kernel);have p2:dO (.int (10^50)) (.int 4)=some (.int ((10^50)^4)):=wX (10^50) 4 (by decide +kernel);have p3:dO (.int (10^50)) (.int 40)=some (.int ((10^50)^40)):=wX (10^50) 40 (by decide +kernel);rw[YU] at p2;rw[YV] at p3;have c4:(4:Nat)<=cap:=by decide
 have h1:1<=10^200:=Nat.one_le_pow _ _ (by decide);have h2:10^200<=nL:=by rw[AK];exact Nat.pow_le_pow_right (by decide) (by decide)
 have h3:nL=10^2000:=AK;rw[<- h3] at p3;have h4:1000<=10^200:=aTt (show 1000<=10^3 by decide) (Nat.pow_le_pow_right (by decide) (by decide));generalize 10^200=Q at *;have e:wB ρ=some (.lst [.int ((3:Nat):Int),.int ((1000:Nat):Int),.int (Q:Int),.int (nL:Int)]):=by
  unfold wB;simp only[cR,aK,aH,aJ,aM,jn,zz2,zz3,p1,p2,p3,aT4,aT6,aU3,Nat.reduceAdd,c4,aUb]
  rfl
 match k,hk with
 | 0,_=>exact⟨_,3,e,cM (j:=0) rfl,by lia,by lia⟩
 | 1,_=>exact⟨_,1000,e,cM (j:=1) rfl,by lia,by lia⟩
 | 2,_=>exact⟨_,Q,e,cM (j:=2) rfl,h1,h2⟩
 | 3,_=>exact⟨_,nL,e,cM (j:=3) rfl,by lia,aTs _⟩
def aE3:yI=aN (aZ 2 (f2 (f2 (aA 0) (f2 (fC (.int 11)) (aA 1) bM) bU) (f2 (f2 (aA 1) (aA 1) bM) (fC (.int 3)) bU) bM))
  (aN (aZ 3 (f1 (f2 wB (f2 (f2 (f2 (aA 2) (fC (.int 5)) bV) (f2 (aA 1) (aA 1) bM) bU) (fC (.int 4)) bE) oIx) aP))
  (aS (f2 (f2 (f2 (f2 (aA 2) (fC (.int 7)) bV) (f2 (f2 (fC (.int 2)) (aA 3) bM) (fC (.int 1)) kA) bE) (aA 3) kA) (fC (.int 1)) bU))):=rfl
def vK(c:Int){j:Nat}(hj:j<=100):∃ v:Int,hW [.int c,.int (j:Int)]=some (.int v)/\v.natAbs<10^2000:=by
 have jj:j*j<=100*100:=aTy hj hj;have m1:bM (.int 11) (.int (j:Int))=some (.int (11*(j:Int))):=jZ (by decide);have m2:bM (.int (j:Int)) (.int (j:Int))=some (.int ((j*j:Nat):Int)):=by rw[jZ (by lia)];congr 2
 generalize j*j=J at jj m2;have m3:bM (.int (c+11*(j:Int))) (.int ((J:Int)+3))=some (.int ((c+11*(j:Int))*((J:Int)+3))):=NU (by lia);generalize (c+11*(j:Int))*((J:Int)+3)=tu at m3;have d5:bV (.int tu) (.int 5)=some (.int (tu / 5)):=jD (by decide) (by decide);have d7:bV (.int tu) (.int 7)=some (.int (tu / 7)):=jD (by decide) (by decide);obtain⟨k,hk,k4⟩:∃ k:Nat,(tu / 5+(J:Int))%4=(k:Int)/\k<4:=⟨((tu / 5+(J:Int))%4).toNat,by lia,by lia⟩;have m4:bE (.int (tu / 5+(J:Int))) (.int 4)=some (.int (k:Int)):=by rw[<- hk];exact eB (by decide)
 obtain⟨L,N,e1,e2,n1,n2⟩:=YW [some (.int c),some (.int (j:Int)),some (.int tu),none] k4;have m5:bM (.int 2) (.int (N:Int))=some (.int (2*(N:Int))):=jZ (by decide);have m6:bE (.int (tu / 7)) (.int (2*(N:Int)-1))=some (.int (tu / 7%(2*(N:Int)-1))):=eB (by lia);have b1:0<=tu / 7%(2*(N:Int)-1):=Int.emod_nonneg _ (by lia);have b2:tu / 7%(2*(N:Int)-1)<2*(N:Int)-1:=Int.emod_lt_of_pos _ (by lia);generalize tu / 7%(2*(N:Int)-1)=y at m6 b1 b2;refine⟨y-(N:Int)+1,?_,?_⟩
 ·rw[UJ,aE3]
  simp only[aT,bN,bD,aX,aJ,aM,aE,List.set,zz0,zz1,jn,zz2,zz3,m1,m2,jY,m3,d5,d7,m4,e1,dN,e2,dX,m5,aFe,m6,bF]
 ·rw[<- AK]
  lia
def aLw(ρ:Rho){k:Nat}(hk:k<3):∃ L N,bZ (aB (fC (.int 1)) (aB (fC (.int 12)) (aB (f2 (fC (.int 10)) (fC (.int 60)) dO) aD))) ρ=some (.lst L)/\atI L (k:Int)=some (.int ((N:Nat):Int))/\1<=N/\N<=10^60:=by
 have p1:dO (.int 10) (.int 60)=some (.int (10^60)):=wX 10 60 (by decide +kernel);have p2:((10:Int)^60)=((10^60:Nat):Int):=(Int.natCast_pow 10 60).symm;rw[p2] at p1;have c3:(3:Nat)<=cap:=by decide
 have h4:1000<=10^60:=aTt (show 1000<=10^3 by decide) (Nat.pow_le_pow_right (by decide) (by decide));generalize 10^60=Q at *;have e:bZ (aB (fC (.int 1)) (aB (fC (.int 12)) (aB (f2 (fC (.int 10)) (fC (.int 60)) dO) aD))) ρ=some (.lst [.int ((1:Nat):Int),.int ((12:Nat):Int),.int (Q:Int)]):=by
  simp only[cR,aK,aH,aJ,aM,jn,zz2,zz3,p1,aT4,aT6,aU3,Nat.reduceAdd,c3,aUb]
  rfl
 match k,hk with
 | 0,_=>exact⟨_,1,e,cM (j:=0) rfl,by lia,by lia⟩
 | 1,_=>exact⟨_,12,e,cM (j:=1) rfl,by lia,by lia⟩
 | 2,_=>exact⟨_,Q,e,cM (j:=2) rfl,by lia,aTs _⟩
def aId:10^60<10^100:=Nat.pow_lt_pow_right (by decide) (by decide)
def aA1{t b:Int}(ht:t.natAbs<10^2000)(h0:0<b)(hb:b.natAbs<10^100):FrOk (frI t b).1 (frI t b).2:=by
 obtain⟨d0,_,e1,e2,hq,hg,_⟩:=KH (t:=t) (b:=b) (by lia);have hD:1<=(frD t b).natAbs:=by lia
 refine⟨Nat.lt_of_le_of_lt ?_ ht,Nat.lt_of_le_of_lt ?_ hb,hq,hg⟩
 ·have:=congrArg Int.natAbs e1
  rw[Int.natAbs_mul] at this;rw[this];exact Nat.le_mul_of_pos_left _ hD
 ·have:=congrArg Int.natAbs e2
  rw[Int.natAbs_mul] at this;rw[this];exact Nat.le_mul_of_pos_left _ hD
def VG(c:Int){j:Nat}(hj:j<=100):∃ x:Int × Int,pV [.int c,.int (j:Int)]=some (frT x)/\FrOk x.1 x.2:=by
 obtain⟨v,fv,hv⟩:=vK c hj;have d2:bV (.int c) (.int 2)=some (.int (c / 2)):=jD (by decide) (by decide);obtain⟨k,hk,k3⟩:∃ k:Nat,(c / 2+(j:Int))%3=(k:Int)/\k<3:=⟨((c / 2+(j:Int))%3).toNat,by lia,by lia⟩;have m3:bE (.int (c / 2+(j:Int))) (.int 3)=some (.int (k:Int)):=by rw[<- hk];exact eB (by decide)
 obtain⟨L,N,e1,e2,n1,n2⟩:=aLw [some (.int c),some (.int (j:Int)),none] k3;have m1:bM (.int (c+(j:Int))) (.int 48271)=some (.int ((c+(j:Int))*48271)):=NU (by decide);generalize (c+(j:Int))*48271=y at m1;have d3:bV (.int y) (.int 3)=some (.int (y / 3)):=jD (by decide) (by decide);have m4:bE (.int (y / 3)) (.int (N:Int))=some (.int (y / 3%(N:Int))):=eB (by lia);have b1:0<=y / 3%(N:Int):=Int.emod_nonneg _ (by lia);have b2:y / 3%(N:Int)<(N:Int):=Int.emod_lt_of_pos _ (by lia);generalize y / 3%(N:Int)=z at m4 b1 b2;have hb:(1+z).natAbs<10^100:=by
  have:=aId;generalize 10^100=A at *;generalize 10^60=B at *;lia
 have lf:=VH (t:=v) (b:=1+z) (by lia) (aTx hb PB);have fo:=aA1 hv (show 0<1+z by lia) hb;refine⟨frI v (1+z),?_,fo⟩;have g:aP (.tup [.int (frI v (1+z)).1,.int (frI v (1+z)).2])=some (.tup [.int (frI v (1+z)).1,.int (frI v (1+z)).2]):=BE _ _;rw[UD];unfold xZ;simp only[aT,bN,bD,aX,aJ,aM,aY,aK,aH,aE,List.set,zz0,zz1,jn,zz2,zz3,d2,jY,m3,e1,dN,e2,dX,fv,m1,d3,m4,lf,g,bF]
 rfl
inductive AnsK (ws:List Str):Str->T->Prop
 | word {k w:Str} (h:k=("falls":Str) \/ k=("base":Str) \/ k=("between":Str)) (hw:w=("yes":Str) \/ w=("no":Str)):AnsK ws k (.str w)
 | cheap {g:Nat} {v:Int} (hg:g<2^ws.length) (hv:v.natAbs<10^2000):AnsK ws (("cheapest":Str)) (.tup [.int (g:Int),.int v])
 | fair {fs:List (Int × Int)} (hl:fs.length=ws.length) (hx:∀ x∈fs,FrOk x.1 x.2):AnsK ws (("fairest":Str)) (.lst (fs.map frT))
 | num {k:Str} {v:Int} (h:k=("best":Str) \/ k=("common":Str)) (hv:v.natAbs<10^2000):AnsK ws k (.int v)
def uP{x:Int}{k:Nat}(h:k<=100):pF (.lst (tI [x])) (.int (k:Int))=some (.lst (tI (List.replicate k x))):=by
 have e:(0:Int)<=(k:Int)/\(k:Int)<=(cap:Int):=by unfold cap;lia
 unfold pF;rw[show tI [x]=[T.int x] from rfl];simp only[e,and_self,aUb,Int.toNat_natCast,tI,List.map_replicate]
def aDp(c:Int){n:Nat}(h6:n<=6):∃ fs:List (Int × Int),bS bI uT [none,some (.int c)] (G.rangeT 0 n)=some (fs.map frT)/\fs.length=n/\∀ x∈fs,FrOk x.1 x.2:=by
 have d7:bV (.int c) (.int 7)=some (.int (c / 7)):=jD (by decide) (by decide);have ex:∀ j:Nat,∃ x:Int × Int,j<n->pV [.int (c / 7),.int (j:Int)]=some (frT x)/\FrOk x.1 x.2:=fun j=>by
  by_cases h:j<n
  ·obtain⟨x,hx⟩:=VG (c / 7) (j:=j) (by lia)
   exact⟨x,fun _=>hx⟩
  ·exact⟨(0,0),fun z=>absurd z h⟩
 refine⟨(List.range n).map fun j=>(ex j).choose,?_,by simp,fun x hx=>?_⟩
 ·rw[aTd]
  refine tD _ fun j hj=>?_;have h:=((ex j).choose_spec hj).1;show uT _=some (frT (ex j).choose);generalize (ex j).choose=x at h ⊢;have g:aP (frT x)=some (frT x):=BE _ _;unfold uT;rw[Int.zero_add];simp only[aX,aJ,aM,aY,aK,aH,aE,List.set,zz0,zz1,jn,zz2,d7,h,g]
 ·obtain⟨j,hj,rfl⟩:=aTj.mp hx
  exact ((ex j).choose_spec (aS2.mp hj)).2
def VD(c:Int){ws:List Str}(h6:ws.length<=6):∃ (k:Str) (ar:List T) (p:T),pU [.int c,.int (ws.length:Int)]=some (.tup [.tup (.str k::ar),p])/\AnsK ws k p:=by
 have h64:=xO h6;have sh:=NX (b:=ws.length) (by lia);have r0:=uP (x:=0) (k:=2^ws.length) (by lia);have r1:=uP (x:=1) (k:=ws.length) (by lia);have d7:bV (.int c) (.int 7)=some (.int (c / 7)):=jD (by decide) (by decide);generalize tI (List.replicate (2^ws.length) 0)=z at r0;generalize tI (List.replicate ws.length 1)=o at r1;have c1:=bp1;have c2:(2:Nat)<=cap:=by decide
 have c3:(3:Nat)<=cap:=by decide
 have gs:∀ w:Str,aP (.str w)=some (.str w):=fun w=>rfl;obtain⟨w,hw,w7⟩:∃ w:Nat,c%7=(w:Int)/\w<7:=⟨(c%7).toNat,by lia,by lia⟩;have m7:bE (.int c) (.int 7)=some (.int (w:Int)):=by rw[<- hw];exact eB (by decide)
 obtain⟨y,hy,y2⟩:∃ y:Nat,c / 7%2=(y:Int)/\y<2:=⟨(c / 7%2).toNat,by lia,by lia⟩;have my:bE (.int (c / 7)) (.int 2)=some (.int (y:Int)):=by rw[<- hy];exact eB (by decide)
 obtain⟨yw,ey,hyw⟩:∃ yw:Str,atI [T.str "yes",T.str "no"] (y:Int)=some (.str yw)/\(yw=("yes":Str) \/ yw=("no":Str)):=by
  match y,y2 with
  | 0,_=>exact⟨_,cM (j:=0) rfl,.inl rfl⟩
  | 1,_=>exact⟨_,cM (j:=1) rfl,.inr rfl⟩
 rw[UC];unfold xY
 match w,w7 with
 | 0,_=>
  refine⟨("falls":Str),[.lst z],.str yw,?_,.word (.inl rfl) hyw⟩;have lt:oLt (.int ((0:Nat):Int)) (.int 3)=some (.bl true):=rfl;have ix:atI [T.tup [.str "falls",.lst z],.tup [.str "base",.lst z,.lst o],.tup [.str "between",.lst z,.lst z]] ((0:Nat):Int)=some (.tup [.str "falls",.lst z]):=cM (j:=0) rfl;simp only[aT,bN,bG,bD,aU,aX,aJ,aM,cR,eS,aK,aH,aE,List.set,zz0,zz1,jn,zz2,zz3,sh,r0,r1,m7,lt,aR,aUb,aT4,aT6,aU3,Nat.reduceAdd,c2,c3,dN,ix,d7,my,ey,gs,bF]
 | 1,_=>
  refine⟨("base":Str),[.lst z,.lst o],.str yw,?_,.word (.inr (.inl rfl)) hyw⟩;have lt:oLt (.int ((1:Nat):Int)) (.int 3)=some (.bl true):=rfl;have ix:atI [T.tup [.str "falls",.lst z],.tup [.str "base",.lst z,.lst o],.tup [.str "between",.lst z,.lst z]] ((1:Nat):Int)=some (.tup [.str "base",.lst z,.lst o]):=cM (j:=1) rfl;simp only[aT,bN,bG,bD,aU,aX,aJ,aM,cR,eS,aK,aH,aE,List.set,zz0,zz1,jn,zz2,zz3,sh,r0,r1,m7,lt,aR,aUb,aT4,aT6,aU3,Nat.reduceAdd,c2,c3,dN,ix,d7,my,ey,gs,bF]
 | 2,_=>
  refine⟨("between":Str),[.lst z,.lst z],.str yw,?_,.word (.inr (.inr rfl)) hyw⟩;have lt:oLt (.int ((2:Nat):Int)) (.int 3)=some (.bl true):=rfl;have ix:atI [T.tup [.str "falls",.lst z],.tup [.str "base",.lst z,.lst o],.tup [.str "between",.lst z,.lst z]] ((2:Nat):Int)=some (.tup [.str "between",.lst z,.lst z]):=cM (j:=2) rfl;simp only[aT,bN,bG,bD,aU,aX,aJ,aM,cR,eS,aK,aH,aE,List.set,zz0,zz1,jn,zz2,zz3,sh,r0,r1,m7,lt,aR,aUb,aT4,aT6,aU3,Nat.reduceAdd,c2,c3,dN,ix,d7,my,ey,gs,bF]
 | 3,_=>
  obtain⟨v,fv,hv⟩:=vK (c / 7) (j:=1) (by decide);have fv:hW [.int (c / 7),.int 1]=some (.int v):=fv;have hp:(0:Int)<((2^ws.length:Nat):Int):=by have:=Nat.two_pow_pos ws.length;lia
  obtain⟨g,hg,g2⟩:∃ g:Nat,c / 7%((2^ws.length:Nat):Int)=(g:Int)/\g<2^ws.length:=by
   have a:=Int.emod_nonneg (c / 7) (Int.ne_of_gt hp);have b:=Int.emod_lt_of_pos (c / 7) hp;exact⟨(c / 7%((2^ws.length:Nat):Int)).toNat,by lia,by lia⟩
  have mg:bE (.int (c / 7)) (.int ((2^ws.length:Nat):Int))=some (.int (g:Int)):=by rw[<- hg];exact eB hp
  refine⟨("cheapest":Str),[.lst z,.lst o],.tup [.int (g:Int),.int v],?_,.cheap g2 hv⟩;have lt:oLt (.int ((3:Nat):Int)) (.int 3)=some (.bl false):=rfl;have eq:oEq (.int ((3:Nat):Int)) (.int 3)=some (.bl true):=rfl;simp only[aT,bN,bG,cC,bD,aU,aX,aJ,aM,aY,eS,aK,aH,aE,List.set,zz0,zz1,jn,zz2,zz3,sh,r0,r1,m7,lt,eq,aR,aSe,aUg,aUb,aT4,aT6,aU3,Nat.reduceAdd,c2,c3,d7,mg,fv,dX,bF]
 | 4,_=>
  obtain⟨fs,ec,hl,hx⟩:=aDp c h6;refine⟨("fairest":Str),[.lst z,.lst o],.lst (fs.map frT),?_,.fair hl hx⟩;have hr:=uF ws.length (by lia);have hc:(fs.map frT).length<=cap:=by rw[aT5,hl];unfold cap;lia
  have lt:oLt (.int ((4:Nat):Int)) (.int 3)=some (.bl false):=rfl;have eq:oEq (.int ((4:Nat):Int)) (.int 3)=some (.bl false):=rfl;have eq4:oEq (.int ((4:Nat):Int)) (.int 4)=some (.bl true):=rfl;simp only[aT,bN,bG,cC,bD,aU,aJ,aM,eH,nO,eS,aK,aH,aE,List.set,zz0,zz1,jn,zz2,zz3,sh,r0,r1,m7,lt,eq,eq4,aR,aSe,aUg,aUb,aT4,aT6,aU3,Nat.reduceAdd,c2,c3,hr,bX,aTc,aTe,aU5,ec,hc,bF]
 | 5,_=>
  obtain⟨v,fv,hv⟩:=vK (c / 7) (j:=2) (by decide);have fv:hW [.int (c / 7),.int 2]=some (.int v):=fv;refine⟨("best":Str),[.lst z,.lst o],.int v,?_,.num (.inl rfl) hv⟩;have lt:oLt (.int ((5:Nat):Int)) (.int 3)=some (.bl false):=rfl;have eq:oEq (.int ((5:Nat):Int)) (.int 3)=some (.bl false):=rfl;have eq4:oEq (.int ((5:Nat):Int)) (.int 4)=some (.bl false):=rfl;have sb:kA (.int ((5:Nat):Int)) (.int 5)=some (.int ((0:Nat):Int)):=rfl;have ix:atI [T.tup [.str "best",.lst z,.lst o],.tup [.str "common",.lst z,.lst z]] ((0:Nat):Int)=some (.tup [.str "best",.lst z,.lst o]):=cM (j:=0) rfl;simp only[aT,bN,bG,cC,bD,aU,aX,aJ,aM,aY,cR,eS,aK,aH,aE,List.set,zz0,zz1,jn,zz2,zz3,sh,r0,r1,m7,lt,eq,eq4,aR,aSe,aUg,aUb,aT4,aT6,aU3,Nat.reduceAdd,c2,c3,d7,sb,dN,ix,fv,dX,bF]
 | 6,_=>
  obtain⟨v,fv,hv⟩:=vK (c / 7) (j:=2) (by decide);have fv:hW [.int (c / 7),.int 2]=some (.int v):=fv;refine⟨("common":Str),[.lst z,.lst z],.int v,?_,.num (.inr rfl) hv⟩;have lt:oLt (.int ((6:Nat):Int)) (.int 3)=some (.bl false):=rfl;have eq:oEq (.int ((6:Nat):Int)) (.int 3)=some (.bl false):=rfl;have eq4:oEq (.int ((6:Nat):Int)) (.int 4)=some (.bl false):=rfl;have sb:kA (.int ((6:Nat):Int)) (.int 5)=some (.int ((1:Nat):Int)):=rfl;have ix:atI [T.tup [.str "best",.lst z,.lst o],.tup [.str "common",.lst z,.lst z]] ((1:Nat):Int)=some (.tup [.str "common",.lst z,.lst z]):=cM (j:=1) rfl;simp only[aT,bN,bG,cC,bD,aU,aX,aJ,aM,aY,cR,eS,aK,aH,aE,List.set,zz0,zz1,jn,zz2,zz3,sh,r0,r1,m7,lt,eq,eq4,aR,aSe,aUg,aUb,aT4,aT6,aU3,Nat.reduceAdd,c2,c3,d7,sb,dN,ix,fv,dX,bF]
def HE{w u:Str}{st:Bool}(h1:Txt.startswith w "-" = st)(h3:(if st then Txt.slice w (some 1) none else w)=u)(hw:w.length<=3000)(hu:2000<u.length)(hu2:u.length<=3000):dS [.str w,.int 2000]=some .non:=by
 have hwc':w.length<=cap:=by unfold cap;lia
 have huc':u.length<=cap:=by unfold cap;lia
 have lS:=CU huc';have g:aP (.str w)=some (.str w):=rfl;have os:uH (.str w) (.str "-")=some (.bl st):=by rw[<- h1];rfl
 have eq0:oEq (.int (u.length:Int)) (.int 0)=some (.bl false):=by rw[NR];rw[beq_eq_false_iff_ne.mpr (by lia)]
 have gt:oGt (.int (u.length:Int)) (.int 2000)=some (.bl true):=by rw[mY,aUj (by lia)]
 rw[HG];unfold uY;rw[aT];have e1:aZ 2 (fIf (fT (f2 (aA 0) (fC (.str "-")) uH)) (wA (aA 0) (rA (fC (.int 1))) qZ) (f1 (aA 0) aP)) [some (.str w),some (.int 2000),none]=some (.nx [some (.str w),some (.int 2000),some (.str u)]):=by
  simp only[bN,aX,aJ,qM,eI,aM,aE,JQ,DB,CZ,BZ,List.set,zz0,jn,zz2,zz3,g,os,eC,hwc',aUb];cases st with
  | true=>cases h3;rfl
  | false=>cases h3;rfl
 rw[e1];simp only[zz2];rw[aT];simp only[bG,bD,jG,aU,aJ,aM,aY,aK,aH,aE,zz0,zz1,jn,zz2,zz3,lS,eq0,gt,aR,aSe,aUg,aUb,bF]
noncomputable def bO:Str:=⟨(List.replicate 2001 49).toArray⟩
def uI:bO.length=2001:=by rw[<- gR];unfold bO;rw[mL,aT7]
def OC:32 ∉ chL bO:=fun z=>by
 unfold bO at z;rw[mL] at z;have:=List.eq_of_mem_replicate z;lia
def aGs:bO=⟨(49::List.replicate 2000 49).toArray⟩:=by unfold bO;rw[show (2001:Nat)=2000+1 from rfl,aTp]
def aF1:dS [.str bO,.int 2000]=some .non:=by
 have s:Txt.startswith bO "-" = false:=by
  have:=vA 49 (List.replicate 2000 49);rw[<- aGs] at this;rw[show (("-" : Str))=⟨#[45]⟩ from nY,this];rfl
 have:=uI;exact HE (u:=bO) s (by rw[aUd (by decide)]) (by lia) (by lia) (by lia)
def aF0:dS [.str (("-":Str) ++ bO),.int 2000]=some .non:=by
 have e:("-":Str) ++ bO=⟨(45::List.replicate 2001 49).toArray⟩:=by
  apply gQ
  rw[dU,nY];rfl
 have s:Txt.startswith (("-":Str) ++ bO) "-" = true:=by
  rw[e,show (("-" : Str))=⟨#[45]⟩ from nY,vA];rfl
 have hl:(("-":Str) ++ bO).length=2002:=by rw[e,<- gR,mL,aT4,aT7]
 have sl':Txt.slice (("-":Str) ++ bO) (some 1) none=bO:=by
  rw[SH (by decide) (by rw[hl];decide),e]
  rfl
 have:=uI;refine HE (u:=bO) s ?_ (by lia) (by lia) (by lia);rw[aUc rfl,sl']
def jW(w:Str):Txt.join sp [w]=w:=by
 rw[show Txt.join sp [w]=Str.join sp [w] from PySem.StrLaws.glued_eq_join _ _];rfl
def XU{f:Rho->Option T}{ρ:Rho}(c:Str->Bool)(xs:List Str)(hx:∀ x∈xs,f (ρ.set 0 (some (.str x)))=some (.bl (c x))):bS bI f ρ (tW xs)=some (xs.map fun x=>T.bl (c x)):=qI _ _ xs hx
def AE(c:Str->Bool)(l:List Str):gW [.lst (l.map fun x=>T.bl (c x))]=some (.bl (l.all c)):=by
 have:G.allB (l.map fun x=>T.bl (c x))=some (l.map c):=by
  induction l with
  | nil=>rfl
  | cons a r ih=>simp only[aTc,G.allB,ih];rfl
 show (G.allB _).map _=_;rw[this];simp
def BS(ws ns:List Str):bS bI yT [none,some (.lst (tW ws))] (tW ns)=some (ns.map fun x=>T.bl (ws.contains x)):=by
 refine XU _ ns fun x hx=>?_;have:wW (.str x) (.lst (tW ws))=some (.bl (ws.contains x)):=by
  show (cI (ws.map T.str)).map (fun l=>T.bl (l.contains x))=_;rw[nK,zz3]
 unfold yT;simp only[aJ,aE,List.set,zz0,zz1,jn,zz2,this]
def MI{ws ns:List Str}(hl:ns.length<=900)(h:ns.all ws.contains=false):hX [.lst (tW ws),.lst (tW ns)]=some .non:=by
 have e1:=BS ws ns;have ab:=AE ws.contains ns;rw[h] at ab;have c1:(ns.map fun x=>T.bl (ws.contains x)).length<=cap:=by rw[aT5];unfold cap;lia
 rw[zV];unfold rS;simp only[aT,bG,bD,jG,kD,eI,eC,aM,aY,aK,aH,eH,mM,aE,zz0,zz1,jn,zz2,zz3,tT,bX,aTc,aTe,aU5,e1,c1,aUb,ab,Bool.not_false,bF]
def aCn{ws:List Str}{w:Str}(h:w∈ws):hX [.lst (tW ws),.lst (tW [w,w])]=some .non:=by
 have e1:=BS ws [w,w];have ab:=AE ws.contains [w,w];have hc:ws.contains w=true:=List.contains_iff_mem.mpr h;have ha:[w,w].all ws.contains=true:=by rw[aSn,aSn,hc];rfl
 rw[ha] at ab;have c1:([w,w].map fun x=>T.bl (ws.contains x)).length<=cap:=by rw[aT5];show 2<=cap;decide
 have ls:qY [.lst (tW [w,w])]=some (.int 1):=by
  show (cI ([w,w].map T.str)).bind (fun l=>if l.length<=1000 then some (T.int ((dsS [] l).length:Nat)) else none)=_;have:dsS [] [w,w]=[w]:=by
   unfold dsS gP;simp
  rw[nK,zz2,aUc (show [w,w].length<=1000 by show 2<=1000;decide),this];rfl
 have lt:oLt (.int 1) (.int (([w,w].length:Nat):Int))=some (.bl true):=rfl;rw[zV];unfold rS;simp only[aT,bG,bD,jG,kD,eI,eC,aU,aJ,aM,aY,aK,aH,eH,mM,aE,zz0,zz1,jn,zz2,zz3,tT,bX,aTc,aTe,aU5];simp only[e1,c1,aUb,zz2,ab,eC,aSg,aSe,aUg,ls,eZ,bW,lt,aR,zz3,bF]
def MJ{ws:List Str}(hn:ws.Nodup){l:List Nat}(nd:l.Nodup)(hl:∀ k∈l,k<ws.length)(h6:l.length<=6):hX [.lst (tW ws),.lst (tW (called ws l))]=some (.lst (tI (tN' l))):=by
 have e1:=BS ws (called ws l);have ab:=AE ws.contains (called ws l);have mem:∀ k∈l,ws.getD k default∈ws:=fun k hk=>by rw[mQ (hl k hk)];exact List.getElem_mem _
 have ha:(called ws l).all ws.contains=true:=by
  rw[aS1];intro x hx;obtain⟨k,hk,rfl⟩:=aTj.mp hx;exact List.contains_iff_mem.mpr (mem k hk)
 rw[ha] at ab;have et:tW (called ws l)=l.map fun k=>T.str (ws.getD k default):=by unfold tW called;rw[aTd];rfl
 have e2:bS bI yU [none,some (.lst (tW ws))] (tW (called ws l))=some (tI (tN' l)):=by
  have en:tI (tN' l)=l.map fun (k:Nat)=>T.int (k:Int):=by unfold tI tN';rw[aTd];rfl
  rw[et,en];refine qI _ _ l fun k hk=>?_;have:CS (.lst (tW ws)) (.str (ws.getD k default))=some (.int (k:Int)):=by
   show (cI (ws.map T.str)).bind (fun bs=>if ws.getD k default∈bs then some (T.int (bs.idxOf (ws.getD k default):Nat)) else none)=_;rw[nK,zz2,aUc (mem k hk),mQ (hl k hk),List.Nodup.idxOf_getElem hn]
  unfold yU;simp only[aJ,aE,List.set,zz0,zz1,jn,zz2,this]
 have cl:=qG ws l;have cn:(called ws l).Nodup:=by
  unfold called List.Nodup;rw[List.pairwise_map];refine List.Pairwise.imp_of_mem ?_ nd;intro a b ha hb hab e;have ha:=hl a ha;have hb:=hl b hb;rw[mQ ha,mQ hb] at e;exact hab ((List.getElem_inj hn).mp e)
 have ls:qY [.lst (tW (called ws l))]=some (.int ((called ws l).length:Nat)):=by
  show (cI ((called ws l).map T.str)).bind (fun l=>if l.length<=1000 then some (T.int ((dsS [] l).length:Nat)) else none)=_;rw[nK,zz2,aUc (by rw[cl];lia),JB cn]
 have lt:oLt (.int ((called ws l).length:Int)) (.int ((called ws l).length:Int))=some (.bl false):=by rw[CV,aUi (Int.lt_irrefl _)]
 have c1:((called ws l).map fun x=>T.bl (ws.contains x)).length<=cap:=by rw[aT5,cl];unfold cap;lia
 have c2:(tI (tN' l)).length<=cap:=by rw[zG,show (tN' l).length=l.length from aT5 _];unfold cap;lia
 rw[zV];unfold rS;simp only[aT,bG,bD,cC,jG,kD,eI,eC,aU,aJ,aY,aK,aH,eH,mM,aE,zz0,zz1,jn,zz2,zz3,tT,bX,aTc,aTe,aU5,e1,c1,aUb,ab,aSg,aSe,aUg,ls,eZ,bW,lt,aR,e2,c2,bF]
def chJ(a:Str)(b:Str)(r:List Str):chL (Txt.join sp (a::b::r))=chL a++32::chL (Txt.join sp (b::r)):=by
 rw[show Txt.join sp (a::b::r)=Str.join sp (a::b::r) from PySem.StrLaws.glued_eq_join _ _,show Txt.join sp (b::r)=Str.join sp (b::r) from PySem.StrLaws.glued_eq_join _ _];exact nW 32 a b r
def CJ{ws:List Str}(hn:dG ws){w:Str}(h:w∈ws):(32 ∉ chL w)/\w.length<=3000/\∀ c,(c<97\/122<c)->∀ x,chL x=[c]->(w == x)=false:=by
 obtain⟨h1,h8,hc⟩:=jU (hn.2 w h);refine⟨fun z=>by have:=hc _ z;lia,by lia,fun c hc' x ex=>?_⟩;rw[aUq];rintro rfl;have:=hc c (by rw[ex];exact aTl.mpr rfl);lia
def eY{x y:Str}(h:x.length+y.length<=10000):cG (.str x) (.str y)=some (.str (x++y)):=by
 show (if x.length+y.length<=cap then _ else none)=_;rw[aUc (by unfold cap;lia)]
def bpW(t0:T)(fm:List Str)(r:Str):Bool:=decide (r.length<=100000)&&decide ((Txt.split r ((" ":Str))).length<=100000)&&(match fY [t0,.tup (tW fm),.lst (tW (Txt.split r ((" ":Str))))] with | some (.inr s)=>s == ("BadPaper" : Str) | _=>false)
def gD{ws:List Str}{k r:Str}{ar:List T}{fm:List Str}(hf:dR [.str k]=some (.tup (tW fm)))(h:bpW (.lst (tW ws)) fm r=true):gN [PG ws,.tup (.str k::ar),.str r]=some (.bl true):=by
 unfold bpW at h;rw[aSb,aSb] at h;obtain⟨⟨h1,h2⟩,h3⟩:=h;refine QA (PY hf (uG rfl (aUe h1) (aUe h2)) ?_);generalize fY [.lst (tW ws),.tup (tW fm),.lst (tW (Txt.split r ((" ":Str))))]=o at h3
 match o,h3 with
 | some (.inr s),h3=>rw[show s=("BadPaper" : Str) from beq_iff_eq.mp h3]
def IM{ws:List Str}{k:Str}{ar:List T}{fm:List Str}{w0:Str}{wd:List Str}(hf:dR [.str k]=some (.tup (tW fm)))(hw:∀ w∈w0::wd,32 ∉ chL w)(hl:∀ w∈w0::wd,w.length<=3000)(hd:wd.length<=20)(h:fY [.lst (tW ws),.tup (tW fm),.lst (tW (w0::wd))]=some (.inr "BadPaper")):gN [PG ws,.tup (.str k::ar),.str (Txt.join sp (w0::wd))]=some (.bl true):=by
 have es:Txt.split (Txt.join sp (w0::wd)) ((" ":Str))=w0::wd:=by rw[pP];exact rX (by simp) hw
 have jl:=qT hl;rw[aT4] at jl;have:(wd.length+1)*(3000+1)<=21*3001:=aTy (by lia) (by decide);exact QA (PY hf (uG es (by lia) (by rw[aT4];lia)) h)
def pS(ws:List Str)(k:Str):Prop:=∃ R:List Str,R≠[]/\R.length<=100/\mH [.lst (tW ws),.str k]=some (.lst (tW R))/\∀ r∈R,∀ ar,gN [PG ws,.tup (.str k::ar),.str r]=some (.bl true)
noncomputable def RW:List Str:=["Yes","no "," yes","refused","1","none","","yes no","yes\t", "yess"]
def aJt(t0:T):RW.all (bpW t0 ["word"])=true:=by kernel_rfl
def BB{k:Str}(h:k=("falls":Str) \/ k=("base":Str) \/ k=("between":Str)):dR [.str k]=some (.tup (tW ["word"])):=by
 rcases h with rfl | rfl | rfl<;>kernel_rfl
def tK{k:Str}(h:k=("best":Str) \/ k=("common":Str)):dR [.str k]=some (.tup (tW ["number"])):=by
 rcases h with rfl | rfl<;>kernel_rfl
def gU:dR [.str "cheapest"]=some (.tup (tW ["group","number"])):=by kernel_rfl
def mO:dR [.str "fairest"]=some (.tup (tW ["fractions"])):=by kernel_rfl
def WR{w0:Str}{wr:List Str}{k:Str}(h:k=("falls":Str) \/ k=("base":Str) \/ k=("between":Str)):pS (w0::wr) k:=by
 refine⟨RW,by decide,by decide,?_,fun r hr ar=>gD (BB h) (aS1.mp (aJt _) r hr)⟩;have i0:=vV (w0:=w0) (wd:=wr);have g:aP (.str w0)=some (.str w0):=rfl;have q:kY (.str k) (.tup [.str "falls",.str "base",.str "between"])=some (.bl true):=by rcases h with rfl | rfl | rfl<;>kernel_rfl
 have c3:(3:Nat)<=cap:=by decide
 have c10:(10:Nat)<=cap:=by decide
 rw[zT];unfold rQ;rw[aT];simp only[bN,bG,bD,aU,aX,aJ,aM,cR,eS,aK,aH,aE,List.set,zz0,zz1,jn,zz2,zz3,dN,i0,g];rw[aT];simp only[bG,bD,aU,aJ,aM,cR,eS,aK,aH,aE,zz0,zz1,jn,zz2,zz3,aT4,aT6,aU3,Nat.reduceAdd,c3,c10,aUb,q,aR]
 rfl
noncomputable def RN : List Str := ["", "01", "+1", "1_0", "-0", "--1", "1 2", " 1", "1 ", "yes", "{ }", "1/1", "-"]
def aJp(t0:T):(RN++(["1\t", "1.0"] : List Str)).all (bpW t0 ["number"])=true:=by kernel_rfl
def IF{ws:List Str}{k w:Str}{ar:List T}(h:k=("best":Str) \/ k=("common":Str))(hn:dS [.str w,.int 2000]=some .non)(h32:32 ∉ chL w)(hl:w.length<=3000):gN [PG ws,.tup (.str k::ar),.str w]=some (.bl true):=by
 have:=IM (ws:=ws) (ar:=ar) (w0:=w) (wd:=[]) (tK h) (fun x hx=>by rw[aTl.mp hx];exact h32) (fun x hx=>by rw[aTl.mp hx];exact hl) (by decide) (TF (fr:=[]) (by decide) (GJ (aLz hn []) (fun r z=>by cases z)))
 rwa [jW] at this
def WQ {w0 : Str} {wr : List Str} {k : Str} (h : k = ("best":Str) \/ k = ("common":Str)) : pS (w0 :: wr) k := by
 refine ⟨RN ++ [bO, ("-":Str) ++ bO, "1\t", "1.0"], by simp [RN], by decide, ?_, fun r hr ar => ?_⟩
 ·have i0 := vV (w0 := w0) (wd := wr)
  have g : aP (.str w0) = some (.str w0) := rfl;have q0 : kY (.str k) (.tup [.str "falls", .str "base", .str "between"]) = some (.bl false) := by rcases h with rfl | rfl <;> kernel_rfl
  have q : kY (.str k) (.tup [.str "best", .str "common"]) = some (.bl true) := by rcases h with rfl | rfl <;> kernel_rfl
  have c2 : (2 : Nat) <= cap := by decide
  have c3 : (3 : Nat) <= cap := by decide
  have c4 : (4 : Nat) <= cap := by decide
  have c13 : (13 : Nat) <= cap := by decide
  have mu : pE (.str "1") (.int 2001) = some (.str bO) := by
   have := NH 49 2001 (by decide);have e1 : (("1" : Str)) = one 49 := by show ("1":Str) = _; unfold one; decide +kernel
   rw [e1]; exact this
  have ad : cG (.str "-") (.str bO) = some (.str (("-":Str) ++ bO)) := by
   show (if (("-":Str)).length + bO.length <= cap then some (T.str (("-":Str) ++ bO)) else none) = _;rw [aUc (by rw [uI, show (("-":Str)).length = 1 by decide +kernel]; decide)]
  have ct : dC (.lst (tW RN)) (.lst (tW [bO, ("-":Str) ++ bO, "1\t", "1.0"])) = some (.lst (tW (RN ++ [bO, ("-":Str) ++ bO, "1\t", "1.0"]))) := by
   rw [pA (by rw [bW, bW]; decide), pR]
  have gf : fM (.lst (tW (RN ++ [bO, ("-":Str) ++ bO, "1\t", "1.0"]))) = some (.lst (tW (RN ++ [bO, ("-":Str) ++ bO, "1\t", "1.0"]))) := BC (bA _);have rn : some (T.lst [.str "", .str "01", .str "+1", .str "1_0", .str "-0", .str "--1", .str "1 2", .str " 1", .str "1 ", .str "yes", .str "{ }", .str "1/1", .str "-"]) = some (.lst (tW RN)) := rfl
  have rn2 : some (T.lst [.str bO, .str (("-":Str) ++ bO), .str "1\t", .str "1.0"]) = some (.lst (tW [bO, ("-":Str) ++ bO, "1\t", "1.0"])) := rfl;rw [zT];unfold rQ;rw [aT];simp only [bN, aX, aJ, aM, aE, List.set, zz0, zz1, jn, zz2, zz3, dN, i0, g];rw [aT];simp only [bG, cC, aU, aJ, aM, eS, aK, aH, aE, zz0, zz1, jn, zz2, zz3, aT4, aT6, aU3, Nat.reduceAdd, c3, aUb, q0, aR, aSe, aUg];rw [aT];simp only [bG, aT, rK, bD, aU, aX, aJ, aM, cR, eS, aK, aH, aE, List.set, zz0, zz1, jn, zz2, zz3, aT4, aT6, aU3, Nat.reduceAdd, c2, c4, c13, aUb, q, aR, mu, ad, mD, rn, rn2];simp only [ct, zz2, zz3, gf, bF]
 ·have ra := aJp (.lst (tW (w0 :: wr)))
  rw [List.all_append, aSb] at ra;rcases aTf.mp hr with hr | hr
  ·exact gD (tK h) (aS1.mp ra.1 r hr)
  rcases aS7.mp hr with rfl | hr
  ·exact IF h aF1 OC (by rw [uI]; decide)
  rcases aS7.mp hr with rfl | hr
  ·refine IF h aF0 (fun z => ?_) (by rw [dZ, uI, show (("-":Str)).length = 1 by decide +kernel]; decide)
   rw [dU, nY] at z;rcases aTf.mp z with z | z
   ·revert z; decide
   ·exact OC z
  ·exact gD (tK h) (aS1.mp ra.2 r hr)
def mK(ws:List Str)(k:Str)(fm:List Str):Bool:=match mH [.lst (tW ws),.str k] with
 | some (.lst l)=>(match cI l with | some R=>!R.isEmpty&&decide (R.length<=100)&&R.all (bpW (.lst (tW ws)) fm) | none=>false)
 | _=>false
def qF{ws:List Str}{k:Str}{fm:List Str}(hf:dR [.str k]=some (.tup (tW fm)))(h:mK ws k fm=true):pS ws k:=by
 unfold mK at h;cases e:mH [.lst (tW ws),.str k] with
 | none=>rw[e] at h;cases h
 | some t=>
  rw[e] at h;cases t<;>first | (cases h;done) | skip
  rename_i l;dsimp only at h;cases ea:cI l with
  | none=>rw[ea] at h;cases h
  | some R=>
   rw[ea] at h;dsimp only at h;rw[aSb,aSb] at h;refine⟨R,fun z=>?_,aUe h.1.2,by rw[e,nJ ea];rfl,fun r hr ar=>gD hf (aS1.mp h.2 r hr)⟩;subst z;exact absurd h.1.1 (by decide)
def bf1(a:Str):mK [a] "fairest" ["fractions"]=true:=by kernel_rfl
def bf2(a b:Str):mK [a,b] "fairest" ["fractions"]=true:=by kernel_rfl
def bf3(a b c:Str):mK [a,b,c] "fairest" ["fractions"]=true:=by kernel_rfl
def bf4(a b c d:Str):mK [a,b,c,d] "fairest" ["fractions"]=true:=by kernel_rfl
def bf5(a b c d e:Str):mK [a,b,c,d,e] "fairest" ["fractions"]=true:=by kernel_rfl
def bf6(a b c d e f:Str):mK [a,b,c,d,e,f] "fairest" ["fractions"]=true:=by kernel_rfl
theorem WP:∀ {ws:List Str},1<=ws.length->ws.length<=6->pS ws "fairest"
 | [],h,_=>by cases h
 | [a],_,_=>qF mO (bf1 a)
 | [a,b],_,_=>qF mO (bf2 a b)
 | [a,b,c],_,_=>qF mO (bf3 a b c)
 | [a,b,c,d],_,_=>qF mO (bf4 a b c d)
 | [a,b,c,d,e],_,_=>qF mO (bf5 a b c d e)
 | [a,b,c,d,e,f],_,_=>qF mO (bf6 a b c d e f)
 | _::_::_::_::_::_::_::_,_,h=>by simp at h
noncomputable def RC0:List Str:=["","{ }","{ } 1 1","{} 1","1","{ } yes","{ } 01","{ } -0","{ } 1 "]
def aJb(ws:List Str):RC0.all (bpW (.lst (tW ws)) ["group","number"])=true:=by kernel_rfl
noncomputable def R1(o:Str):List Str:=["","{ }",(("{ ":Str) ++ o)++(" 1":Str),o++(" } 1":Str),(((("{ ":Str) ++ o)++(" ":Str))++o)++(" } 1":Str)]
noncomputable def R2:List Str:=["{ xyzzyq } 1","{ } 1 1","{} 1","1","{ } yes","{ } 01","{  } 1"]
noncomputable def R3(o:Str):List Str:=[(("( ":Str) ++ o)++(" ) 1":Str),"{ } -0","{ } 1 "]
noncomputable def R4(m o:Str):Str:=(((("{ ":Str) ++ m)++(" ":Str))++o)++(" } 1":Str)
def RC(o:Str):List Str->List Str
 | []=>(R1 o++R2)++R3 o
 | m::_=>((R1 o++R2)++R3 o)++[R4 m o]
def UM{o:Str}{wr:List Str}(hn:dG (o::wr)):mH [.lst (tW (o::wr)),.str "cheapest"]=some (.lst (tW (RC o wr))):=by
 have ol:o.length<=8:=(jU (hn.2 o aRz)).2.1;have k1:(("{ ":Str)).length=2:=by decide +kernel
 have k2:((" 1":Str)).length=2:=by decide +kernel
 have k3:((" } 1":Str)).length=4:=by decide +kernel
 have k4:((" ":Str)).length=1:=by decide +kernel
 have k5:(("( ":Str)).length=2:=by decide +kernel
 have k6:((" ) 1":Str)).length=4:=by decide +kernel
 have a1:=eY (x:=("{ ":Str)) (y:=o) (by lia);have a2:=eY (x:=("{ ":Str) ++ o) (y:=(" 1":Str)) (by rw[dZ];lia);have a3:=eY (x:=o) (y:=(" } 1":Str)) (by lia);have a4:=eY (x:=("{ ":Str) ++ o) (y:=(" ":Str)) (by rw[dZ];lia);have a5:=eY (x:=(("{ ":Str) ++ o)++(" ":Str)) (y:=o) (by rw[dZ,dZ];lia);have a6:=eY (x:=((("{ ":Str) ++ o)++(" ":Str))++o) (y:=(" } 1":Str)) (by rw[dZ,dZ,dZ];lia);have a7:=eY (x:=("( ":Str)) (y:=o) (by lia)
 have a8:=eY (x:=("( ":Str) ++ o) (y:=(" ) 1":Str)) (by rw[dZ];lia);have i0:=vV (w0:=o) (wd:=wr);have g:aP (.str o)=some (.str o):=rfl;have q0:kY (.str "cheapest") (.tup [.str "falls",.str "base",.str "between"])=some (.bl false):=by kernel_rfl
 have q1:kY (.str "cheapest") (.tup [.str "best",.str "common"])=some (.bl false):=by kernel_rfl
 have q2:oEq (.str "cheapest") (.str "cheapest")=some (.bl true):=by rw[eqS,aUf]
 have c2:(2:Nat)<=cap:=by decide
 have c3:(3:Nat)<=cap:=by decide
 have c5:(5:Nat)<=cap:=by decide
 have c7:(7:Nat)<=cap:=by decide
 have ct1:dC (.lst (tW (R1 o))) (.lst (tW R2))=some (.lst (tW (R1 o++R2))):=by rw[pA (by rw[bW,bW];show 5+7<=cap;decide),pR]
 have ct2:dC (.lst (tW (R1 o++R2))) (.lst (tW (R3 o)))=some (.lst (tW ((R1 o++R2)++R3 o))):=by rw[pA (by rw[bW,bW];show 12+3<=cap;decide),pR _ (R3 o)]
 have gf1:fM (.lst (tW (R1 o++R2)))=some (.lst (tW (R1 o++R2))):=BC (bA _);have gf2:fM (.lst (tW ((R1 o++R2)++R3 o)))=some (.lst (tW ((R1 o++R2)++R3 o))):=BC (bA _);have r1:some (T.lst [.str "",.str "{ }",.str ((("{ ":Str) ++ o)++(" 1":Str)),.str (o++(" } 1":Str)),.str ((((("{ ":Str) ++ o)++(" ":Str))++o)++(" } 1":Str))])=some (.lst (tW (R1 o))):=rfl;have r2:some (T.lst [.str "{ xyzzyq } 1",.str "{ } 1 1",.str "{} 1",.str "1",.str "{ } yes",.str "{ } 01",.str "{  } 1"])=some (.lst (tW R2)):=rfl;have r3:some (T.lst [.str ((("( ":Str) ++ o)++(" ) 1":Str)),.str "{ } -0",.str "{ } 1 "])=some (.lst (tW (R3 o))):=rfl;rw[zT];unfold rQ;rw[aT];simp only[bN,aX,aJ,aM,aE,List.set,zz0,zz1,jn,zz2,zz3,dN,i0,g];rw[aT];simp only[bG,cC,aU,aJ,aM,eS,aK,aH,aE,zz0,zz1,jn,zz2,zz3,aT4,aT6,aU3,Nat.reduceAdd,c3,aUb,q0,aR,aSe,aUg];rw[aT];simp only[bG,cC,aU,aJ,aM,eS,aK,aH,aE,zz0,zz1,jn,zz2,zz3,aT4,aT6,aU3,Nat.reduceAdd,c2,aUb,q1,aR,aSe,aUg];rw[aT,bG];simp only[aU,aJ,aM,aE,zz0,zz1,jn,zz2,q2,aR,aUb];cases wr with
 | nil=>
  have gt:oGt (.int (([o].length:Nat):Int)) (.int 1)=some (.bl false):=rfl;simp only[aT,bG,cC,rK,bD,vZ,aU,aX,aJ,aM,cR,aY,aK,aH,aE,List.set,zz0,zz1,jn,zz2,zz3,aT4,aT6,aU3,Nat.reduceAdd,c3,c5,c7,aUb,aR,aSe,aUg,a1,a2,a3,a4,a5,a6,a7,a8,mD,r1,r2,r3,ct1,ct2,gf1,gf2,eZ,bW,gt,bA,bF]
  rfl
 | cons m wr=>
  have ml:m.length<=8:=(jU (hn.2 m (aRy _ aRz))).2.1;have b1:=eY (x:=("{ ":Str)) (y:=m) (by lia);have b4:=eY (x:=("{ ":Str) ++ m) (y:=(" ":Str)) (by rw[dZ];lia);have b5:=eY (x:=(("{ ":Str) ++ m)++(" ":Str)) (y:=o) (by rw[dZ,dZ];lia);have b6:=eY (x:=((("{ ":Str) ++ m)++(" ":Str))++o) (y:=(" } 1":Str)) (by rw[dZ,dZ,dZ];lia);have i1:atI (tW (o::m::wr)) 1=some (.str m):=cM (j:=1) rfl;have gt:oGt (.int (((o::m::wr).length:Nat):Int)) (.int 1)=some (.bl true):=by rw[mY,aUj (by rw[aT4,aT4];lia)]
  have cl:(tW ((R1 o++R2)++R3 o)).length<cap:=by rw[bW];show 15<cap;decide
  have ap:tW ((R1 o++R2)++R3 o)++[T.str ((((("{ ":Str) ++ m)++(" ":Str))++o)++(" } 1":Str))]=tW (RC o (m::wr)):=by
   unfold RC;rw[pR _ [R4 m o]];rfl
  simp only[aT,bG,cC,rK,aIy,bD,vZ,aU,aX,aJ,aM,cR,aY,aK,aH,aE,List.set,zz0,zz1,jn,zz2,zz3,aT4,aT6,aU3,Nat.reduceAdd,c3,c5,c7,aUb,aR,aSe,aUg,a1,a2,a3,a4,a5,a6,a7,a8,mD,r1,r2,r3,ct1,ct2,gf1,gf2,eZ];rw[show (tW (o::m::wr)).length=(o::m::wr).length from bW _];simp only[gt,aR,zz2,aUb,dN,i1,b1,b4,b5,b6,cl,ap,bA,zz3,zz0,zz1,jn,bF]
def WO{o:Str}{wr:List Str}(hn:dG (o::wr))(h6:(o::wr).length<=6)(hx:("xyzzyq":Str) ∉ o::wr):pS (o::wr) "cheapest":=by
 refine⟨RC o wr,by cases wr<;>simp[RC,R1],?_,UM hn,fun r hr ar0=>?_⟩
 ·cases wr with
  | nil=>show 15<=100;decide
  | cons m wr=>show 16<=100;decide
 have om:=aRz (a:=o) (l:=wr);obtain⟨o32,ol,od⟩:=CJ hn om;have L:∀ {w0:Str} {wd:List Str} {ar:List T},(∀ w∈w0::wd,32 ∉ chL w)->(∀ w∈w0::wd,w.length<=3000)->wd.length<=20->kN [.lst (tW (o::wr)),.lst (tW (w0::wd))]=some (.inr "BadPaper")->gN [PG (o::wr),.tup (.str "cheapest" :: ar),.str (Txt.join sp (w0::wd))]=some (.bl true):=fun h1 h2 h3 h4=>
  IM gU h1 h2 h3 (TF (fr:=["number"]) (show 1<=9 by decide) (TD h4 (fun r z=>by cases z)))
 have ra:=aS1.mp (aJb (o::wr));have e1:chL (("{":Str))=[123]:=by decide +kernel
 have e2:chL (("}":Str))=[125]:=by decide +kernel
 have e3:chL (("1":Str))=[49]:=by decide +kernel
 have e4:chL (("(":Str))=[40]:=by decide +kernel
 have e5:chL ((")":Str))=[41]:=by decide +kernel
 have f1:chL (("{ ":Str))=[123,32]:=by decide +kernel
 have f2:chL ((" 1":Str))=[32,49]:=by decide +kernel
 have f3:chL ((" } 1":Str))=[32,125,32,49]:=by decide +kernel
 have f4:chL ((" ":Str))=[32]:=by decide +kernel
 have f5:chL (("( ":Str))=[40,32]:=by decide +kernel
 have f6:chL ((" ) 1":Str))=[32,41,32,49]:=by decide +kernel
 have n1:(("1":Str) == ("}":Str))=false:=by decide +kernel
 have n2:(("(":Str) == ("{":Str))=false:=by decide +kernel
 have n3:(("xyzzyq":Str) == ("}":Str))=false:=by decide +kernel
 have n4:(("":Str) == ("}":Str))=false:=by decide +kernel
 have s1:32 ∉ chL (("{":Str))/\(("{":Str)).length<=3000:=by decide +kernel
 have s2:32 ∉ chL (("}":Str))/\(("}":Str)).length<=3000:=by decide +kernel
 have s3:32 ∉ chL (("1":Str))/\(("1":Str)).length<=3000:=by decide +kernel
 have s4:32 ∉ chL (("(":Str))/\(("(":Str)).length<=3000:=by decide +kernel
 have s5:32 ∉ chL ((")":Str))/\((")":Str)).length<=3000:=by decide +kernel
 have s6:32 ∉ chL (("xyzzyq":Str))/\(("xyzzyq":Str)).length<=3000:=by decide +kernel
 have s7:32 ∉ chL (("":Str))/\(("":Str)).length<=3000:=by decide +kernel
 have so:32 ∉ chL o/\o.length<=3000:=⟨o32,ol⟩;have W:∀ {l:List Str},(∀ w∈l,32 ∉ chL w/\w.length<=3000)->(∀ w∈l,32 ∉ chL w)/\(∀ w∈l,w.length<=3000):=fun h=>⟨fun w hw=>(h w hw).1,fun w hw=>(h w hw).2⟩;have oe:(o == ("}":Str))=false:=od 125 (by decide) _ e2;have ob:(o == ("{":Str))=false:=od 123 (by decide) _ e1;have t1:(("{ ":Str) ++ o)++(" 1":Str) = Txt.join sp [("{":Str),o,("1":Str)]:=by
  apply gQ
  rw[chJ,chJ,jW];simp[dU,f1,f2,e1,e3]
 have t2:o++(" } 1":Str) = Txt.join sp [o,("}":Str),("1":Str)]:=by
  apply gQ
  rw[chJ,chJ,jW];simp[dU,f3,e2,e3]
 have t3:∀ m:Str,(((("{ ":Str) ++ m)++(" ":Str))++o)++(" } 1":Str) = Txt.join sp [("{":Str),m,o,("}":Str),("1":Str)]:=fun m=>by
  apply gQ
  rw[chJ,chJ,chJ,chJ,jW];simp[dU,f1,f3,f4,e1,e2,e3]
 have t4:(("( ":Str) ++ o)++(" ) 1":Str) = Txt.join sp [("(":Str),o,(")":Str),("1":Str)]:=by
  apply gQ
  rw[chJ,chJ,chJ,jW];simp[dU,f5,f6,e4,e5,e3]
 have t5:("{ xyzzyq } 1":Str) = Txt.join sp [("{":Str),("xyzzyq":Str),("}":Str),("1":Str)]:=by decide +kernel
 have t6:("{  } 1":Str) = Txt.join sp [("{":Str),("":Str),("}":Str),("1":Str)]:=by decide +kernel
 have no0:("":Str) ∉ o::wr:=fun z=>by
  have:=(jU (hn.2 _ z)).1;rw[show (("":Str)).length=0 by decide +kernel] at this;lia
 have one:∀ {x:Str},x ∉ o::wr->[x].all (o::wr).contains=false:=fun {x} h=>by
  rw[aSn,show (o::wr).contains x=false from by rw[<- Bool.not_eq_true,List.contains_iff_mem];exact h];rfl
 have key:∀ r∈(R1 o++R2)++R3 o,gN [PG (o::wr),.tup (.str "cheapest" :: ar0),.str r]=some (.bl true):=fun r hr=>by
  simp only[R1,R2,R3,aTf,aS7,aTn,aUp] at hr;rcases hr with ((rfl | rfl | rfl | rfl | rfl) | rfl | rfl | rfl | rfl | rfl | rfl | rfl) | rfl | rfl | rfl
  ·rw[21]
  ·rw[21]
  ·rw[t1]
   have w:=W (l:=[("{":Str),o,("1":Str)]) (by simp only[aS7,aTn,aUp];rintro w (rfl | rfl | rfl)<;>assumption)
   exact L w.1 w.2 (by simp only[aT4,aT6];decide) (rY (aLv (show 2<=900 by decide) (by simp only[aS7,aTn,aUp];rintro x (rfl | rfl)<;>assumption)))
  ·rw[t2]
   have w:=W (l:=[o,("}":Str),("1":Str)]) (by simp only[aS7,aTn,aUp];rintro w (rfl | rfl | rfl)<;>assumption)
   exact L w.1 w.2 (by simp only[aT4,aT6];decide) (rY (SV ob _))
  ·rw[t3]
   have w:=W (l:=[("{":Str),o,o,("}":Str),("1":Str)]) (by simp only[aS7,aTn,aUp];rintro w (rfl | rfl | rfl | rfl | rfl)<;>assumption)
   exact L w.1 w.2 (by simp only[aT4,aT6];decide) (rY (GG (ns:=[o,o]) (rest:=[("1":Str)]) (show 2<=900 by decide) (by simp only[aS7,aTn,aUp];rintro x (rfl | rfl)<;>assumption) (aCn om)))
  ·rw[t5]
   have w:=W (l:=[("{":Str),("xyzzyq":Str),("}":Str),("1":Str)]) (by simp only[aS7,aTn,aUp];rintro w (rfl | rfl | rfl | rfl)<;>assumption)
   exact L w.1 w.2 (by simp only[aT4,aT6];decide) (rY (GG (ns:=[("xyzzyq":Str)]) (rest:=[("1":Str)]) (show 1<=900 by decide) (by simp only[aS7,aTn,aUp];rintro x rfl;assumption) (MI (show 1<=900 by decide) (one hx))))
  ·rw[21]
  ·rw[21]
  ·rw[21]
  ·rw[21]
  ·rw[21]
  ·rw[t6]
   have w:=W (l:=[("{":Str),("":Str),("}":Str),("1":Str)]) (by simp only[aS7,aTn,aUp];rintro w (rfl | rfl | rfl | rfl)<;>assumption)
   exact L w.1 w.2 (by simp only[aT4,aT6];decide) (rY (GG (ns:=[("":Str)]) (rest:=[("1":Str)]) (show 1<=900 by decide) (by simp only[aS7,aTn,aUp];rintro x rfl;assumption) (MI (show 1<=900 by decide) (one no0))))
  ·rw[t4]
   have w:=W (l:=[("(":Str),o,(")":Str),("1":Str)]) (by simp only[aS7,aTn,aUp];rintro w (rfl | rfl | rfl | rfl)<;>assumption)
   exact L w.1 w.2 (by simp only[aT4,aT6];decide) (rY (SV n2 _))
  ·rw[21]
  ·rw[21]
 cases wr with
 | nil=>exact key r hr
 | cons m wr=>
  rcases aTf.mp hr with hr | hr
  ·exact key r hr
  ·rw[aTl.mp hr]
   have mm:m∈o::m::wr:=aRy _ aRz;obtain⟨m32,ml,md⟩:=CJ hn mm;have sm:32 ∉ chL m/\m.length<=3000:=⟨m32,ml⟩;have me:(m == ("}":Str))=false:=md 125 (by decide) _ e2;show gN [PG (o::m::wr),.tup (.str "cheapest" :: ar0),.str ((((("{ ":Str) ++ m)++(" ":Str))++o)++(" } 1":Str))]=_;rw[t3];have w:=W (l:=[("{":Str),m,o,("}":Str),("1":Str)]) (by simp only[aS7,aTn,aUp];rintro w (rfl | rfl | rfl | rfl | rfl)<;>assumption)
   have hs:=MJ (ws:=o::m::wr) hn.1 (l:=[1,0]) (by decide) (fun k hk=>by simp at hk;rw[aT4,aT4];lia) (by decide);exact L w.1 w.2 (by simp only[aT4,aT6];decide) (aLu (hs:=tN' [1,0]) (by decide) (SY (ns:=[m,o]) (rest:=[("1":Str)]) (show 2<=900 by decide) (by simp only[aS7,aTn,aUp];rintro x (rfl | rfl)<;>assumption) hs) (by decide +kernel))
def YJ{ws:List Str}{g:Nat}{v:Int}{ar:List T}(hn:dG ws)(h6:ws.length<=6)(hg:g<2^ws.length)(hv:v.natAbs<10^2000):mI [.lst (tW ws),.tup (.str "cheapest" :: ar),.tup [.int (g:Int),.int v]]=some (.str (Txt.join sp (grW ws g++[aV v]))):=by
 have i0:=jV (.str "cheapest") ar;have q:oEq (.str "cheapest") (.str "cheapest")=some (.bl true):=by rw[eqS,aUf]
 have x0:oIx (.tup [.int (g:Int),.int v]) (.int 0)=some (.int (g:Int)):=rfl;have x1:oIx (.tup [.int (g:Int),.int v]) (.int 1)=some (.int v):=rfl;have fg:=VI hn h6 hg;have s:=vB hv;have lg:(Txt.join sp (grW ws g)).length<=2000:=by
  have:=qT (l:=grW ws g) (B:=201) (fun w hw=>by
   rcases aS7.mp hw with rfl | hw
   ·decide
   rcases aTf.mp hw with hw | hw
   ·exact (AM hn (nU h6 hg) w hw).1
   ·rw[aTl.mp hw];decide)
  have hl:(grW ws g).length<=8:=by
   unfold grW;rw[aT4,aT3,qG,aT9];have:=nS g;lia
  have:(grW ws g).length*(201+1)<=8*202:=aTy hl (by decide);lia
 have lv:=nZ (L:=2000) (by decide) hv;have l1:((" ":Str)).length=1:=by decide +kernel
 have a1:=eY (x:=Txt.join sp (grW ws g)) (y:=(" ":Str)) (by lia);have a2:=eY (x:=Txt.join sp (grW ws g)++(" ":Str)) (y:=aV v) (by rw[dZ];lia);have e:(Txt.join sp (grW ws g)++(" ":Str))++aV v=Txt.join sp (grW ws g++[aV v]):=by
  have key:∀ (l:List Str) (a x:Str),(Txt.join sp (a::l)++sp)++x=Txt.join sp ((a::l)++[x]):=by
   intro l
   induction l with
   | nil=>
    intro a x
    apply gQ
    rw[List.cons_append,aTm,chJ,jW,jW,dU,dU,aSo];rfl
   | cons b l ih=>
    intro a x
    apply gQ
    have:=congrArg chL (ih b x);rw[dU,dU] at this;rw[List.cons_append,List.cons_append,chJ,dU,dU,chJ,<- List.cons_append,<- this];simp
  rw[pP];exact key _ _ _
 rw[zU];unfold rR;rw[aT];simp only[bG,bD,aU,aJ,aM,aY,aK,aH,aE,zz0,zz1,jn,zz2,zz3,i0,q,aR,aUb,x0,x1,fg,s,a1,a2,bF];rw[e]
def YK{t0:T}{fs:List (Int × Int)}{ar:List T}(hl:fs.length<=6)(hx:∀ x∈fs,FrOk x.1 x.2)(jo:JoinOk sp (cY fs)=true):mI [t0,.tup (.str "fairest" :: ar),.lst (fs.map frT)]=some (.str (Txt.join sp (cY fs))):=by
 have i0:=jV (.str "fairest") ar;have q0:oEq (.str "fairest") (.str "cheapest")=some (.bl false):=by rw[eqS,show (("fairest":Str) == ("cheapest":Str))=false by decide +kernel]
 have q:oEq (.str "fairest") (.str "fairest")=some (.bl true):=by rw[eqS,aUf]
 have et:tW (cY fs)=fs.map fun x=>T.str (frW x.1 x.2):=by unfold tW cY;rw[aTd];rfl
 have ec:bS bI uU [none] (fs.map frT)=some (tW (cY fs)):=by
  rw[et];exact qI _ _ fs fun x h=>aDs (hx x h)
 have fl:isL (.lst (fs.map frT))=some (fs.map frT):=rfl;have hc:(tW (cY fs)).length<=cap:=by rw[et,aT5];unfold cap;lia
 have oj:=uD jo;rw[zU];unfold rR;rw[aT];simp only[aT,bG,cC,bD,aU,aJ,aM,eH,JP,aE,zz0,zz1,jn,zz2,zz3,i0,q0,q,aR,aSe,aUg,aUb,fl,bX,aTc,aTe,aU5,ec,hc,oj,bF]
def JD{t0 p:T}{k w:Str}{ar:List T}(h1:(k == ("cheapest":Str))=false)(h2:(k == ("fairest":Str))=false)(hs:jF [p]=some (.str w)):mI [t0,.tup (.str k::ar),p]=some (.str w):=by
 have i0:=jV (.str k) ar;have q0:oEq (.str k) (.str "cheapest")=some (.bl false):=by rw[eqS,h1]
 have q:oEq (.str k) (.str "fairest")=some (.bl false):=by rw[eqS,h2]
 rw[zU];unfold rR;rw[aT];simp only[aT,bG,cC,bD,aU,aJ,aM,aY,aK,aH,aE,zz0,zz1,jn,zz2,zz3,i0,q0,q,aR,aSe,aUg,hs,bF]
structure CaseOk(ws:List Str)(k:Str)(ar:List T)(p:T):Prop where
 ex:∃ row,mI [.lst (tW ws),.tup (.str k::ar),p]=some (.str row)/\nH [PG ws,.tup (.str k::ar),p]=some (.str row)/\gM [PG ws,.tup (.str k::ar),.str row]=some (.inl p)
 al:sJ [p,p]=some (.bl true)
 bad:pS ws k
def OB{w:Str}(h32:32 ∉ chL w)(hl:w.length<=3000):JoinOk sp [w]=true/\jE (.str (Txt.join sp [w])) (.str " ")=some (.lst (tW [w])):=by
 refine⟨tU (B:=3000) (by decide) (fun x hx=>by rw[aTl.mp hx];exact hl) (show 1*3001<=16777216 by decide),?_⟩;refine uG ?_ (by rw[jW];lia) (show 1<=100000 by decide);rw[pP];exact rX (by simp) (fun x hx=>by rw[aTl.mp hx];exact h32)
def NO{v:Int}(hv:v.natAbs<10^2000):32 ∉ chL (aV v)/\(aV v).length<=3000:=by
 have:=nZ (L:=2000) (by decide) hv;exact⟨fun z=>by have:=wS z;lia,by lia⟩
def XO{ws:List Str}{k:Str}{ar:List T}{p:T}(hn:dG ws)(h1:1<=ws.length)(h6:ws.length<=6)(hx:xyS ∉ ws)(h:AnsK ws k p):CaseOk ws k ar p:=by
 obtain⟨o,wr,rfl⟩:∃ o wr,ws=o::wr:=by cases ws with | nil=>cases h1 | cons a b=>exact⟨a,b,rfl⟩
 cases h with
 | @word _ w hk hw=>
  have s:32 ∉ chL w/\w.length<=3000:=by rcases hw with rfl | rfl<;>decide +kernel
  obtain⟨jo,os⟩:=OB s.1 s.2;refine⟨⟨Txt.join sp [w],?_,?_,?_⟩,VY 4 w,WR hk⟩
  ·rw[jW]
   refine JD ?_ ?_ rfl
   ·rcases hk with rfl | rfl | rfl<;>decide +kernel
   ·rcases hk with rfl | rfl | rfl<;>decide +kernel
  ·exact AI (BB hk) (show 1<=100 by decide) (aIv w) jo
  ·refine DY (BB hk) os ?_
   have:=GK (ws:=o::wr) (fm:=("word":Str)) (l:=[w]) (rest:=[]) (aM3 (aM0 hw []) (fun r z=>by cases z;rfl));rw[aUc rfl] at this;exact this
 | @cheap g v hg hv=>
  have h64:g<64:=aS3 hg (xO h6);have cw:=AM hn (nU h6 hg);have wl:∀ w∈grW (o::wr) g++[aV v],32 ∉ chL w/\w.length<=3000:=fun w hw=>by
   rcases aTf.mp hw with hw | hw
   ·rcases aS7.mp hw with rfl | hw
    ·decide
    rcases aTf.mp hw with hw | hw
    ·exact⟨fun z=>by have:=(cw w hw).2 _ z;lia,by have:=(cw w hw).1;lia⟩
    ·rw[aTl.mp hw];decide
   ·rw[aTl.mp hw];exact NO hv
  have hl:(grW (o::wr) g++[aV v]).length<=9:=by
   unfold grW;rw[aT3,aT4,aT3,qG,aT9,aT9];have:=nS g;lia
  have hl2:(grW (o::wr) g).length<=100:=by rw[aT3] at hl;lia
  have jo:JoinOk sp (grW (o::wr) g++[aV v])=true:=tU (B:=3000) (by decide) (fun w hw=>(wl w hw).2) (by have:=aTy hl (aTs 3001);lia);have os:jE (.str (Txt.join sp (grW (o::wr) g++[aV v]))) (.str " ")=some (.lst (tW (grW (o::wr) g++[aV v]))):=by
   refine uG ?_ ?_ (by lia)
   ·rw[pP]
    exact rX (by simp) (fun w hw=>(wl w hw).1)
   ·have:=qT (l:=grW (o::wr) g++[aV v]) (B:=3000) fun w hw=>(wl w hw).2
    have:=aTy hl (aTs 3001);lia
  refine⟨⟨Txt.join sp (grW (o::wr) g++[aV v]),YJ hn h6 hg hv,?_,?_⟩,?_,WO hn h6 hx⟩
  ·exact WJ gU hl2 (show 1<=100 by decide) (aIu h6 hg) (PM hv) jo
  ·refine aJe gU os ?_
   have nx:∀ x∈called (o::wr) (hN g),(x == ("}":Str))=false:=fun x hx=>by
    obtain⟨j,hj,rfl⟩:=aTj.mp hx;rw[mQ (nU h6 hg j hj)];exact (CJ hn (List.getElem_mem _)).2.2 125 (by decide) _ (by decide +kernel)
   have hs:=MJ (ws:=o::wr) hn.1 (aCg g) (nU h6 hg) (nS g);have th:=SY (t0:=.lst (tW (o::wr))) (b:=("{":Str)) (e:=("}":Str)) (rest:=[aV v]) (by rw[qG];have:=nS g;lia) nx hs;have eg:("{":Str) :: (called (o::wr) (hN g)++("}":Str) :: [aV v])=grW (o::wr) g++[aV v]:=by
    unfold grW;rw[CC,DX];simp
   rw[eg] at th;have fg:=US (l:=hN g) (fun k hk=>aS3 (nU h6 hg k hk) h6);rw[(MD h64).2] at fg;have tg:=aLt (by rw[show (tN' (hN g)).length=(hN g).length from aT5 _];have:=nS g;lia) th (MD h64).1 fg;have tp:=aM4 (ws:=o::wr) (f1':=("group":Str)) (f2':=("number":Str)) (m:=[aV v]) (TD tg (fun r z=>by cases z;exact bA _)) (GJ (TC hv []) (fun r z=>by cases z;rfl)) (fun r z=>by cases z;exact⟨[],rfl⟩);exact tp
  ·refine HW (d:=4) (show 2<=100 by decide) ?_
   intro u hu;rcases aS7.mp hu with rfl | hu
   ·exact sY 3 _
   ·rw[aTl.mp hu];exact sY 3 _
 | @fair fs hl hf=>
  have hl6:fs.length<=6:=by lia
  have wl:∀ w∈cY fs,32 ∉ chL w/\w.length<=3000:=fun w hw=>by
   obtain⟨x,hx,rfl⟩:=aTj.mp hw;refine⟨fun z=>?_,by have:=KG (hf x hx);lia⟩;rw[AN] at z;rcases aTf.mp z with z | z
   ·have:=wS z;lia
   rcases aS7.mp z with z | z
   ·lia
   ·have:=wS z;lia
  have fl:(cY fs).length=fs.length:=aT5 _;have jo:JoinOk sp (cY fs)=true:=tU (B:=3000) (by decide) (fun w hw=>(wl w hw).2) (by rw[fl];have:=aTy hl6 (aTs 3001);lia);have ne:cY fs≠[]:=fun z=>by rw[z] at fl;rw[aT6] at fl;rw[aT4] at hl;lia
  have os:jE (.str (Txt.join sp (cY fs))) (.str " ")=some (.lst (tW (cY fs))):=by
   refine uG ?_ ?_ (by lia)
   ·rw[pP]
    exact rX ne (fun w hw=>(wl w hw).1)
   ·have:=qT (l:=cY fs) (B:=3000) fun w hw=>(wl w hw).2
    rw[fl] at this;have:=aTy hl6 (aTs 3001);lia
  refine⟨⟨Txt.join sp (cY fs),YK hl6 hf jo,?_,?_⟩,?_,WP (by rw[aT4];lia) h6⟩
  ·exact AI mO (by lia) (aIt hl6 hf) jo
  ·refine DY mO os ?_
   have tf:=aM2 (rest:=[]) h6 hl hf;rw[aSp] at tf;have:=GK (ws:=o::wr) (fm:=("fractions":Str)) (l:=cY fs) (rest:=[]) tf;rw[aUc rfl] at this;exact this
  ·refine VX (d:=4) (by rw[aT5];lia) ?_
   intro u hu;obtain⟨x,_,rfl⟩:=aTj.mp hu;refine HW (d:=3) (show 2<=100 by decide) ?_;intro u hu;rcases aS7.mp hu with rfl | hu
   ·exact sY 2 _
   ·rw[aTl.mp hu];exact sY 2 _
 | @num _ v hk hv=>
  have s:=NO hv;obtain⟨jo,os⟩:=OB s.1 s.2;refine⟨⟨Txt.join sp [aV v],?_,?_,?_⟩,sY 4 v,WQ hk⟩
  ·rw[jW]
   refine JD ?_ ?_ (vB hv)
   ·rcases hk with rfl | rfl<;>decide +kernel
   ·rcases hk with rfl | rfl<;>decide +kernel
  ·exact AI (tK hk) (show 1<=100 by decide) (PM hv) jo
  ·refine DY (tK hk) os ?_
   have:=GK (ws:=o::wr) (fm:=("number":Str)) (l:=[aV v]) (rest:=[]) (GJ (TC hv []) (fun r z=>by cases z;rfl));rw[aUc rfl] at this;exact this
def jH{r1 r2:Rho->Option Out}{ρ ρ':Rho}(h:r1 ρ=some (.nx ρ')):aN r1 r2 ρ=r2 ρ':=by rw[aT,h];rfl
def WU{ws:List Str}(hn:dG ws)(h1:1<=ws.length)(h6:ws.length<=6)(hx:xyS ∉ ws)(sc:T)(c:Int)(x5 x6 x7 x8 x9 x10:Option T):∃ y5 y6 y7 y8 y9 y10,rT [some sc,some (.int (ws.length:Int)),some (.lst (tW ws)),some (PG ws),some (.int c),x5,x6,x7,x8,x9,x10]=some (.nx [some sc,some (.int (ws.length:Int)),some (.lst (tW ws)),some (PG ws),some (.int c),y5,y6,y7,y8,y9,y10]):=by
 obtain⟨k,ar,p,fa,ha⟩:=VD c h6;obtain⟨⟨row,du,tx,rd⟩,al,R,R0,R100,fb,hb⟩:=XO (ar:=ar) hn h1 h6 hx ha;have rl:0<R.length:=by cases R with | nil=>exact absurd rfl R0 | cons a b=>simp
 have d3:bV (.int c) (.int 3)=some (.int (c / 3)):=jD (by decide) (by decide);obtain⟨i,hi,il⟩:∃ i:Nat,c / 3%(R.length:Int)=(i:Int)/\i<R.length:=by
  have a:=Int.emod_nonneg (c / 3) (show (R.length:Int)≠0 by lia);have b:=Int.emod_lt_of_pos (c / 3) (show (0:Int)<(R.length:Int) by lia);exact⟨(c / 3%(R.length:Int)).toNat,by lia,by lia⟩
 have mi:bE (.int (c / 3)) (.int (R.length:Int))=some (.int (i:Int)):=by rw[<- hi];exact eB (by lia)
 have ixr:atI (tW R) (i:Int)=some (.str R[i]):=by
  refine cM ?_;unfold tW;rw[aT0,aRx il];rfl
 have re:=hb _ (List.getElem_mem il) ar;have i0:=jV (.str k) ar;have j0:oIx (.tup [.tup (.str k::ar),p]) (.int 0)=some (.tup (.str k::ar)):=jV _ _;have j1:oIx (.tup [.tup (.str k::ar),p]) (.int 1)=some p:=by
  show atI [T.tup (.str k::ar),p] 1=some p;exact cM (j:=1) rfl
 have gs:∀ w:Str,aP (.str w)=some (.str w):=fun w=>rfl;have in1:cH "str" (.str row)=some (.bl true):=rfl;have ne:oNe (.str row) (.str row)=some (.bl false):=by rw[kZ,aUf];rfl
 have lf:wO gM [PG ws,.tup (.str k::ar),.str row]=some p:=by rw[aDy,rd];rfl
 generalize PG ws=pg at tx lf re;generalize T.tup (.str k::ar)=ask at *;refine⟨some ask,some p,some (.tup [ask,p]),some (.str row),some (.str row),some (.lst (tW R)),?_⟩;unfold rT;rw[jH (ρ':=[some sc,some (.int (ws.length:Int)),some (.lst (tW ws)),some pg,some (.int c),some ask,some p,x7,x8,x9,x10]) (by
  exact aJ8 (us:=[ask,p]) (by simp only[aY,aK,aH,aE,zz0,zz1,jn,zz2,fa]) rfl)]
 rw[jH (ρ':=[some sc,some (.int (ws.length:Int)),some (.lst (tW ws)),some pg,some (.int c),some ask,some p,some (.tup [ask,p]),x8,x9,x10]) (by
  simp only[bN,aY,aK,aH,aE,List.set,zz0,zz1,jn,zz2,zz3,fa])]
 rw[jH (ρ':=[some sc,some (.int (ws.length:Int)),some (.lst (tW ws)),some pg,some (.int c),some ask,some p,some (.tup [ask,p]),some (.str row),x9,x10]) (by
  simp only[bN,aX,aY,aK,aH,aE,List.set,zz0,zz1,jn,zz2,zz3,du,gs])]
 rw[jH (ρ':=[some sc,some (.int (ws.length:Int)),some (.lst (tW ws)),some pg,some (.int c),some ask,some p,some (.tup [ask,p]),some (.str row),some (.str row),x10]) (by
  simp only[bN,aX,aJ,aM,aY,aK,aH,aE,List.set,zz0,zz1,jn,zz2,zz3,j0,j1,tx,gs])]
 rw[jH (ρ':=[some sc,some (.int (ws.length:Int)),some (.lst (tW ws)),some pg,some (.int c),some ask,some p,some (.tup [ask,p]),some (.str row),some (.str row),x10]) (by
  simp only[bG,cC,jG,kD,eI,aU,aX,aJ,aM,aY,aK,aH,aE,zz0,zz1,jn,zz2,zz3,in1,eC,aSg,aSe,aUg,ne,aR,j1,al])]
 rw[jH (ρ':=[some sc,some (.int (ws.length:Int)),some (.lst (tW ws)),some pg,some (.int c),some ask,some p,some (.tup [ask,p]),some (.str row),some (.str row),x10]) (by
  simp only[bG,cC,kD,eI,aY,aK,aH,aE,zz0,zz1,jn,zz2,zz3,lf,al,eC,aSg,aSe,aUg])]
 rw[jH (ρ':=[some sc,some (.int (ws.length:Int)),some (.lst (tW ws)),some pg,some (.int c),some ask,some p,some (.tup [ask,p]),some (.str row),some (.str row),some (.lst (tW R))]) (by
  simp only[bN,aJ,aM,aY,aK,aH,aE,List.set,zz0,zz1,jn,zz2,zz3,i0,fb])]
 simp only[bG,cC,kD,eI,aJ,aM,aY,aK,aH,aE,zz0,zz1,jn,zz2,zz3,d3,eZ,bW,mi,dN,ixr,re,eC,aSg,aSe,aUg]
def VF(ns:List Int)(h:ns.length<=63):sS [.lst (ns.map T.int)]=some (.bl true):=by
 obtain⟨n,n1,n6,fh⟩:=UW ns;obtain⟨ws,fn,wl,hn,hx⟩:=VM ns (k:=150) (m:=n) (by decide) n6;subst wl;have fn:pW [.lst (tI ns),.int 150,.int (ws.length:Int)]=some (.lst (tW ws)):=fn;have jo:JoinOk sp ws=true:=tU (B:=201) (by decide) (fun w hw=>by have:=(jU (hn.2 w hw)).2.1;lia) (by lia);have oj:=uD jo;have jl:(Txt.join sp ws).length<=2000:=by
  have:=qT (l:=ws) (B:=201) (fun w hw=>by have:=(jU (hn.2 w hw)).2.1;lia);lia
 have ad:=eY (x:=("hands ":Str)) (y:=Txt.join sp ws) (by rw[show (("hands ":Str)).length=6 by decide +kernel];lia);rw[aCj ws n1] at ad;have pg:=aHi hn n1 n6;have lp:=KC (j:=4) (body:=rT) (fun ρ=>∃ x4 x5 x6 x7 x8 x9 x10,ρ=[some (.lst (tI ns)),some (.int (ws.length:Int)),some (.lst (tW ws)),some (PG ws),x4,x5,x6,x7,x8,x9,x10]) T.int (fun _=>true) (.bl false) ns (fun c _ ρ hρ=>by
   obtain⟨x4,x5,x6,x7,x8,x9,x10,rfl⟩:=hρ;obtain⟨y5,y6,y7,y8,y9,y10,e⟩:=WU hn n1 n6 hx (.lst (tI ns)) c x5 x6 x7 x8 x9 x10;exact .inl ⟨rfl,_,e,_,_,_,_,_,_,_,rfl⟩) _ ⟨none,none,none,none,none,none,none,rfl⟩
 have lp:∃ ρ',eU 4 rT (tI ns) [some (.lst (tI ns)),some (.int (ws.length:Int)),some (.lst (tW ws)),some (PG ws),none,none,none,none,none,none,none]=some (.nx ρ'):=by
  rcases lp with ⟨_,ρ',e,_⟩ | ⟨e,_⟩
  ·exact⟨ρ',e⟩
  ·simp at e
 obtain⟨ρ',lp⟩:=lp;have et:ns.map T.int=tI ns:=rfl;rw[et,VE];unfold yX;rw[jH (ρ':=[some (.lst (tI ns)),some (.int (ws.length:Int)),none,none,none,none,none,none,none,none,none]) (by
  simp only[bN,aX,aY,aK,aH,aE,List.set,zz0,zz1,jn,zz2,zz3,fh,dX])]
 rw[jH (ρ':=[some (.lst (tI ns)),some (.int (ws.length:Int)),some (.lst (tW ws)),none,none,none,none,none,none,none,none]) (by
  simp only[bN,aM,aY,aK,aH,aE,List.set,zz0,zz1,jn,zz2,zz3,fn])]
 rw[jH (ρ':=[some (.lst (tI ns)),some (.int (ws.length:Int)),some (.lst (tW ws)),some (PG ws),none,none,none,none,none,none,none]) (by
  simp only[bN,aJ,aM,aY,aK,aH,aE,List.set,zz0,zz1,jn,zz2,zz3,oj,ad,pg]
  rfl)]
 rw[jH (ρ':=ρ') (by
  simp only[PR,mM,aE,zz0,jn,zz2,BY,lp])]
 rfl
@[elab_as_elim] theorem ln1{P:List Value->Prop}:∀ (us:List Value) (_:us.length=1) (f:∀ a0,P [a0]),P us
 | [a0],_,f=>f a0
@[elab_as_elim] theorem ln2{P:List Value->Prop}:∀ (us:List Value) (_:us.length=2) (f:∀ a0 a1,P [a0,a1]),P us
 | [a0,a1],_,f=>f a0 a1
@[elab_as_elim] theorem ln3{P:List Value->Prop}:∀ (us:List Value) (_:us.length=3) (f:∀ a0 a1 a2,P [a0,a1,a2]),P us
 | [a0,a1,a2],_,f=>f a0 a1 a2
@[elab_as_elim] theorem ln4{P:List Value->Prop}:∀ (us:List Value) (_:us.length=4) (f:∀ a0 a1 a2 a3,P [a0,a1,a2,a3]),P us
 | [a0,a1,a2,a3],_,f=>f a0 a1 a2 a3
def all_mk{l:PySem.W.OpenLaw}{w:World}{K:PySem.W.Frag}{h:Heap}{mg:Str->Option Value}{fa:Addr}(X:K.In h)(G0:h.Ns mainGlobals mg)(hfa:mg "law" = some (.ref fa))
  (e0:DE K "_law_mixed" EK)
  (e1:DE K "_law_hands" EJ)
  (e2:DE K "_law_names" EL)
  (e3:DE K "is_name" FC)
  (e4:DE K "begun_page" jK)
  (e5:DE K "read_page" FK)
  (e6:DE K "_law_number" EM)
  (e7:DE K "_law_part" EO)
  (e8:DE K "_law_fraction" EH)
  (e9:DE K "_law_drawn_fraction" EF)
  (e10:DE K "_law_answer" ED)
  (e11:DE K "_law_group_row" EI)
  (e12:DE K "_law_due" EG)
  (e13:DE K "answer_forms" ER)
  (e14:DE K "hands_in" EY)
  (e15:DE K "named_words" FF)
  (e16:DE K "group_words" EW)
  (e17:DE K "fraction_word" EU)
  (e18:DE K "pair_words" QW)
  (e19:DE K "part_words" FH)
  (e20:DE K "parts_words" FI)
  (e21:DE K "answer_text" ES)
  (e22:DE K "_law_alike" rV)
  (e23:DE K "take_word" FT)
  (e24:DE K "take_answer_word" FL)
  (e25:DE K "number_in" FG)
  (e26:DE K "take_number" FQ)
  (e27:DE K "hands_named" EZ)
  (e28:DE K "take_hands" FP)
  (e29:DE K "group_of" EV)
  (e30:DE K "take_group" FN)
  (e31:DE K "is_pair" FE)
  (e32:DE K "is_number" FD)
  (e33:DE K "common_divisor" ET)
  (e34:DE K "is_fraction" FA)
  (e35:DE K "take_fraction" FM)
  (e36:DE K "take_pairs" QX)
  (e37:DE K "take_part" FR)
  (e38:DE K "take_parts" FS)
  (e39:DE K "read_answer" FJ)
  (e40:DE K "_law_bad_rows" EE)
  (e41:DE K "_law_of_none" EN)
  (e42:DE K "_law_refused" EQ)
  (e43:DE K "law" rW)
  {C fP:Addr} {odP anP:Option Addr} {slP:Array (Option Value)} {ocP kVP dcP pmP cdP ctP:Value} (aC:PySem.W.nsIn K mainGlobals "Page" = some (some (.ref C))) (aI:PySem.W.findIn K (.ref C) "__init__" = some (some (.ref fP))) (iI:PySem.W.isFn K (.ref fP)=true) (lP:K.lookup fP=some ⟨ocP,odP,.func (PySem.W.fnOf "__init__" "Page.__init__" (defArgs rU) (defBody rU) (defScope rU) .none kVP dcP pmP anP cdP ctP),slP⟩) (cP:PySem.W.codeIn K cdP "Page.__init__" = true) (kP:PySem.W.keepIn K (.ref fP)=true)
  (gC:PySem.W.plainGet K C Str.empty=true) (hC:PySem.W.hasDictIn K C=true) (pC:PySem.W.plainOver K C=true) (sC:PySem.W.findIn K (.ref C) "__setattr__" = some (some (.builtin "object.__setattr__"))) (mC:PySem.W.makesIn K C=true) (kC:PySem.W.keepIn K (.ref C)=true) (nN:PySem.W.findIn K (.ref C) "names" = some none) (nT:PySem.W.findIn K (.ref C) "tables" = some none) (nA:PySem.W.findIn K (.ref C) "asks" = some none)
  (caC:PySem.W.findIn K (.ref C) "__class__" = some (some (.builtin "object.__class__"))) (cgC:PySem.W.specialIn K (.builtin "object.__class__") "__get__" = some (some (.builtin "getset_descriptor.__get__"))) (ctC:PySem.W.takesIn K (.builtin "object.__class__")=some true) (cmC:PySem.W.mroIn K C (.type "object")=some true) (kcC:((["int","bool","list","tuple","str"]:List String).all fun c=>PySem.W.kitOne K (.ref C) (.type c) == some false)=true)
  (aRp:PySem.W.nsIn K mainGlobals "len" = some none)
  (aRh:PySem.W.nsIn K mainGlobals "range" = some none)
  {t_MOST_LETTERS:_} (aQ5:PySem.W.nsIn K mainGlobals "MOST_LETTERS" = some (some (.int 8 t_MOST_LETTERS)))
  {t_LETTERS:_} (aRb:PySem.W.nsIn K mainGlobals "LETTERS" = some (some (.str "abcdefghijklmnopqrstuvwxyz" t_LETTERS)))
  (aRn:PySem.W.nsIn K mainGlobals "all" = some none)
  {t_MOST_HANDS:_} (aQr:PySem.W.nsIn K mainGlobals "MOST_HANDS" = some (some (.int 6 t_MOST_HANDS)))
  (aRq:PySem.W.nsIn K mainGlobals "set" = some none)
  (aQz:PySem.W.nsIn K mainGlobals "enumerate" = some none)
  (aRm:PySem.W.nsIn K mainGlobals "abs" = some none)
  (aRr:PySem.W.nsIn K mainGlobals "str" = some none)
  (aQq:∃ a,PySem.W.nsIn K mainGlobals "ANSWERS" = some (some (.ref a))/\vO K w.params a [("falls",["word"]),("cheapest",["group","number"]),("best",["number"]),("base",["word"]),("common",["number"]),("between",["word"]),("fairest",["fractions"])])
  (aRs:PySem.W.nsIn K mainGlobals "zip" = some none)
  (aQt:PySem.W.nsIn K mainGlobals "isinstance" = some none)
  (aRo:PySem.W.nsIn K mainGlobals "int" = some none)
  (aRk:PySem.W.nsIn K mainGlobals "bool" = some none)
  (aRi:PySem.W.nsIn K mainGlobals "tuple" = some none)
  (aRl:PySem.W.nsIn K mainGlobals "list" = some none)
  {t_FIGURES:_} (aRa:PySem.W.nsIn K mainGlobals "FIGURES" = some (some (.str "0123456789" t_FIGURES)))
  {t_PAPER_FIGURES:_} (aPv:PySem.W.nsIn K mainGlobals "PAPER_FIGURES" = some (some (.int 2000 t_PAPER_FIGURES)))
  (aRf:PySem.W.nsIn K mainGlobals "sorted" = some none)
  (aQs:PySem.W.nsIn K mainGlobals "ValueError" = some none)
  {aO5:Addr} (aO3:nmC K "BadPaper" aO5)
  {aRc:Addr} (aR0:nmC K "BadAsk" aRc)
  {aR3:Addr} (aQd:nmC K "BadMaker" aR3)
  {aR4:Addr} (aQe:nmC K "BadTable" aR4)
  {aR9:Addr} (aQp:nmC K "NotBase" aR9)
  {aQg:Addr} (aPo:nmC K "NotFalling" aQg)
  {aQv:Addr} (aQ3:nmC K "NotRising" aQv)
  {aR5:Addr} (aQf:nmC K "NotUnder" aR5)
  {aRd:Addr} (aR1:nmC K "Unlike" aRd)
  {aOi:Addr} (aQ2:nmC K "CostError" aOi)
  {aR8:Addr} (aQo:nmC K "BadText" aR8)
  (aQa:qK K aO5=true)
  (aPg:PySem.W.kitOne K (.ref aO5) (.ref aRc)=some false)
  (aOx:PySem.W.kitOne K (.ref aO5) (.ref aR3)=some false)
  (aOz:PySem.W.kitOne K (.ref aO5) (.ref aR4)=some false)
  (aP6:PySem.W.kitOne K (.ref aO5) (.ref aR9)=some false)
  (aOn:PySem.W.kitOne K (.ref aO5) (.ref aQg)=some false)
  (aOt:PySem.W.kitOne K (.ref aO5) (.ref aQv)=some false)
  (aP0:PySem.W.kitOne K (.ref aO5) (.ref aR5)=some false)
  (aPh:PySem.W.kitOne K (.ref aO5) (.ref aRd)=some false)
  (aOo:PySem.W.kitOne K (.ref aO5) (.type "ValueError")=some true)
  {cd_CostError:ClassData} (aQw:PySem.W.typeIn K (.ref aOi)=some (.type "type")) (aQx:PySem.W.clsIn K aOi=some cd_CostError) (aQy:PySem.W.subIn K (.ref aOi) (.type "BaseException")=some true)
  (aOu:PySem.W.subIn K (.ref aO5) (.ref aOi)=some true)
  (aOy:PySem.W.kitOne K (.ref aO5) (.ref aO5)=some true)
  (aP5:PySem.W.kitOne K (.ref aO5) (.ref aR8)=some false)
  : ∃ fd:FuncData,(∀ (s:Shared) (v:Value),BindsTo s fd ⟨[v],[]⟩ [("script",v)])/\∀ base:Heap,K.In base->base.Ns mainGlobals mg->FnOk l.prog w K mg base CX0 8 fa fd ["script"] (spT K sS false 3):=by
 obtain⟨f43,kV,dc,pm,an,cd,ct,U43,m43,k43⟩:=e43.at X G0;cases (hfa.symm.trans m43);have aO1:=aU7 X G0 aRp;have aO7:=aU7 X G0 aRh;have aP3:∃ tk,mg "MOST_LETTERS" = some (.int 8 tk):=⟨_,aU8 X G0 aQ5⟩;have aQn:∃ tk,mg "LETTERS" = some (.str "abcdefghijklmnopqrstuvwxyz" tk):=⟨_,aU8 X G0 aRb⟩;have aOf:=aU7 X G0 aRn;have aPn:∃ tk,mg "MOST_HANDS" = some (.int 6 tk):=⟨_,aU8 X G0 aQr⟩;have aQu:=aU7 X G0 aRq;have aRg:=aU7 X G0 aQz;have aR6:=aU7 X G0 aRm;have aOh:=aU7 X G0 aRr;have aQl:∃ a,mg "ANSWERS" = some (.ref a)/\vO K w.params a [("falls",["word"]),("cheapest",["group","number"]),("best",["number"]),("base",["word"]),("common",["number"]),("between",["word"]),("fairest",["fractions"])]:=let ⟨a,e,k⟩:=aQq;⟨a,aU8 X G0 e,k⟩;have aRj:=aU7 X G0 aRs;have aO0:=aU7 X G0 aQt;have aOw:=aU7 X G0 aRo;have aP7:=aU7 X G0 aRk;have aOe:=aU7 X G0 aRi;have aQ6:=aU7 X G0 aRl;have aQm:∃ tk,mg "FIGURES" = some (.str "0123456789" tk):=⟨_,aU8 X G0 aRa⟩;have aOb:∃ tk,mg "PAPER_FIGURES" = some (.int 2000 tk):=⟨_,aU8 X G0 aPv⟩;have aR2:=aU7 X G0 aRf;have aPu:=aU7 X G0 aQs;obtain⟨f4,_,_,_,_,_,_,U4,m4,k4⟩:=e4.at X G0;have b4:=U4.binds (ps:=["row"]) (fun _ _ _ _ _ _ us hl=>ln1 us hl fun _=>rfl);obtain⟨f5,_,_,_,_,_,_,U5,m5,k5⟩:=e5.at X G0;have b5:=U5.binds (ps:=["text"]) (fun _ _ _ _ _ _ us hl=>ln1 us hl fun _=>rfl);obtain⟨f22,_,_,_,_,_,_,U22,m22,k22⟩:=e22.at X G0;have b22:=U22.binds (ps:=["found","due"]) (fun _ _ _ _ _ _ us hl=>ln2 us hl fun _ _=>rfl);have Tx:PgTxt K mg C:=⟨⟨gC,hC,pC,sC⟩,nN,nT,nA,aU8 X G0 aC⟩;have aR7:∀ C,mg "Page" = some (.ref C)->PgK K C:=fun C' h=>by
  rw[aU8 X G0 aC] at h;cases h;exact⟨⟨gC,hC,pC,sC⟩,nN,nT,nA,aC,caC,cgC,ctC,cmC,fun c hc=>beq_iff_eq.mp (aS1.mp kcC c hc)⟩
 have UP:=KM (st:=rU) lP cP kP;have bP:=UP.binds (ps:=["self","names","tables","asks"]) fun _ _ _ _ _ _ us hl=>ln4 us hl fun _ _ _ _=>rfl;have MP:Mk K C fP:=⟨mC,aI,iI,kC⟩;refine⟨PySem.W.fnOf "law" "law" (defArgs rW) (defBody rW) (defScope rW) .none kV dc pm an cd ct,fun s v=>.of_eq rfl,fun base IB GB=>?_⟩;have aO2:=aJ9 IB GB aO3 aQa;have aQj:=jS (mg:=mg) IB GB aR0 aO3 aPg (jT (mg:=mg) IB GB aR0);have aPy:=jS (mg:=mg) IB GB aQd aO3 aOx (jT (mg:=mg) IB GB aQd);have aQ0:=jS (mg:=mg) IB GB aQe aO3 aOz (jT (mg:=mg) IB GB aQe);have aQc:=jS (mg:=mg) IB GB aQp aO3 aP6 (jT (mg:=mg) IB GB aQp);have aPe:=jS (mg:=mg) IB GB aPo aO3 aOn (jT (mg:=mg) IB GB aPo);have aPm:=jS (mg:=mg) IB GB aQ3 aO3 aOt (jT (mg:=mg) IB GB aQ3);have aQ1:=jS (mg:=mg) IB GB aQf aO3 aP0 (jT (mg:=mg) IB GB aQf);have aQk:=jS (mg:=mg) IB GB aR1 aO3 aPh (jT (mg:=mg) IB GB aR1);have aPf:=aCu aO3 aOo (aCv);have aPp:=aM6 (mg:=mg) IB GB aQ2 aO3 aQa aOu (aM7 (mg:=mg) IB GB aQ2 aQw aQx aQy);have aPz:=jS (mg:=mg) IB GB aO3 aO3 aOy (jT (mg:=mg) IB GB aO3);have aQb:=jS (mg:=mg) IB GB aQo aO3 aP5 (jT (mg:=mg) IB GB aQo);have aO6:=Cal.mk (dM l.prog w base e0 X G0 (fun _ _ U=>aG2 aO1 U) (fun _ _ _ _ _ _ us hl=>ln2 us hl fun _ _=>rfl));have aPi:=Cal.mk (dM l.prog w base e1 X G0 (fun _ _ U=>aG1 aO6 U) (fun _ _ _ _ _ _ us hl=>ln1 us hl fun _=>rfl));have aPj:=Cal.mk (dM l.prog w base e2 X G0 (fun _ _ U=>aG3 aO6 aO7 U) (fun _ _ _ _ _ _ us hl=>ln3 us hl fun _ _ _=>rfl));have aQh:=Cal.mk (dM l.prog w base e3 X G0 (fun _ _ U=>aGi aO1 aP3 aQn aOf U) (fun _ _ _ _ _ _ us hl=>ln1 us hl fun _=>rfl));have oP:=aFu (P:=l.prog) (w:=w) (base:=base) UP Tx;have aRe:=aGa aQh aO1 aPn aOf aQu MP oP bP U4 Tx;have aPx:CalR1 l.prog w K mg base "read_page" 4 hZ:=⟨_,_,_,aGr aRe m4 k4 b4 aRg MP oP bP U5 Tx,m5,k5,b5,Tx⟩;have aO8:=Cal.mk (dM l.prog w base e6 X G0 (fun _ _ U=>aG4  U) (fun _ _ _ _ _ _ us hl=>ln2 us hl fun _ _=>rfl));have aPw:=Cal.mk (dM l.prog w base e7 X G0 (fun _ _ U=>aG6  U) (fun _ _ _ _ _ _ us hl=>ln2 us hl fun _ _=>rfl));have aOr:=Cal.mk (dM l.prog w base e8 X G0 (fun _ _ U=>aFz aPw aR6 U) (fun _ _ _ _ _ _ us hl=>ln2 us hl fun _ _=>rfl));have aOd:=Cal.mk (dM l.prog w base e9 X G0 (fun _ _ U=>aFx aO8 aOr U) (fun _ _ _ _ _ _ us hl=>ln2 us hl fun _ _=>rfl));have aOj:=Cal.mk (dM l.prog w base e10 X G0 (fun _ _ U=>aFv aO8 aOd aO7 U) (fun _ _ _ _ _ _ us hl=>ln2 us hl fun _ _=>rfl));have aOl:=Cal.mk (dM l.prog w base e11 X G0 (fun _ _ U=>aG0 aO1 aO7 U) (fun _ _ _ _ _ _ us hl=>ln2 us hl fun _ _=>rfl));have aQ7:=Cal.mk (dM l.prog w base e12 X G0 (fun _ _ U=>aFy aOl aOh U) (fun _ _ _ _ _ _ us hl=>ln3 us hl fun _ _ _=>rfl));have aO9:=Cal.mk (dM l.prog w base e13 X G0 (fun _ _ U=>aG8 aQl U) (fun _ _ _ _ _ _ us hl=>ln1 us hl fun _=>rfl));have aQ9:=Cal.mk (dM l.prog w base e14 X G0 (fun _ _ U=>aGf aO7 U) (fun _ _ _ _ _ _ us hl=>ln1 us hl fun _=>rfl));have aPc:=Cal.mk (dM l.prog w base e15 X G0 (fun _ _ U=>aGm  U) (fun _ _ _ _ _ _ us hl=>ln4 us hl fun _ _ _ _=>rfl));have aP9:=Cal.mk (dM l.prog w base e16 X G0 (fun _ _ U=>aGe aQ9 aPc U) (fun _ _ _ _ _ _ us hl=>ln2 us hl fun _ _=>rfl));have aOs:=Cal.mk (dM l.prog w base e17 X G0 (fun _ _ U=>aGc  U) (fun _ _ _ _ _ _ us hl=>ln1 us hl fun _=>rfl));have aPk:=Cal.mk (dM l.prog w base e18 X G0 (fun _ _ U=>aGo  U) (fun _ _ _ _ _ _ us hl=>ln3 us hl fun _ _ _=>rfl));have aPl:=Cal.mk (dM l.prog w base e19 X G0 (fun _ _ U=>aGp aP9 aOs aPk aOh U) (fun _ _ _ _ _ _ us hl=>ln3 us hl fun _ _ _=>rfl));have aPd:=Cal.mk (dM l.prog w base e20 X G0 (fun _ _ U=>aGq aPl aRj U) (fun _ _ _ _ _ _ us hl=>ln3 us hl fun _ _ _=>rfl));have aP8:=Cal.mk (dM l.prog w base e21 X G0 (fun _ _ U=>aG9 aO9 aPd aO1 U) (fun _ _ _ _ _ _ us hl=>ln3 us hl fun _ _ _=>rfl));have aOp:Cal l.prog w K mg base "_law_alike" 5 ["found","due"] sJ false 3:=⟨_,_,OA aO0 aOh aOw aP7 aOe aQ6 aO1 aO7 aOf U22 m22 k22 b22 5,m22,k22,b22⟩;have aO4:=CalW.mk (dM l.prog w base e23 X G0 (fun _ _ U=>aFs aO2 aO1 U) (fun _ _ _ _ _ _ us hl=>ln1 us hl fun _=>rfl));have aOg:=CalW.mk (dM l.prog w base e24 X G0 (fun _ _ U=>aFk aO4 aO2 U) (fun _ _ _ _ _ _ us hl=>ln1 us hl fun _=>rfl));have aOc:=Cal.mk (dM l.prog w base e25 X G0 (fun _ _ U=>aGn aO1 aQm aOf aOw U) (fun _ _ _ _ _ _ us hl=>ln2 us hl fun _ _=>rfl));have aOk:=CalW.mk (dM l.prog w base e26 X G0 (fun _ _ U=>aFo aOc aO4 aO2 aOb U) (fun _ _ _ _ _ _ us hl=>ln1 us hl fun _=>rfl));have aPa:=Cal.mk (dM l.prog w base e27 X G0 (fun _ _ U=>aGg aOf aO1 aQu U) (fun _ _ _ _ _ _ us hl=>ln2 us hl fun _ _=>rfl));have aPr:=CalW.mk (dM l.prog w base e28 X G0 (fun _ _ U=>aFn aPa aO4 aO2 U) (fun _ _ _ _ _ _ us hl=>ln4 us hl fun _ _ _ _=>rfl));have aQ8:=Cal.mk (dM l.prog w base e29 X G0 (fun _ _ U=>aGd  U) (fun _ _ _ _ _ _ us hl=>ln1 us hl fun _=>rfl));have aPq:=CalW.mk (dM l.prog w base e30 X G0 (fun _ _ U=>aFm aQ8 aPr aO2 aR2 U) (fun _ _ _ _ _ _ us hl=>ln2 us hl fun _ _=>rfl));have aQi:=Cal.mk (dM l.prog w base e31 X G0 (fun _ _ U=>aGk aO0 aOe aO1 U) (fun _ _ _ _ _ _ us hl=>ln1 us hl fun _=>rfl));have aP4:=Cal.mk (dM l.prog w base e32 X G0 (fun _ _ U=>aGj aO0 aOw aP7 U) (fun _ _ _ _ _ _ us hl=>ln1 us hl fun _=>rfl));have aOm:=Cal.mk (dM l.prog w base e33 X G0 (fun _ _ U=>aGb aR6 U) (fun _ _ _ _ _ _ us hl=>ln2 us hl fun _ _=>rfl));have aPb:=Cal.mk (dM l.prog w base e34 X G0 (fun _ _ U=>aGh aQi aP4 aOm U) (fun _ _ _ _ _ _ us hl=>ln1 us hl fun _=>rfl));have aOv:=CalW.mk (dM l.prog w base e35 X G0 (fun _ _ U=>aFl aOc aPb aO4 aO2 aOb U) (fun _ _ _ _ _ _ us hl=>ln1 us hl fun _=>rfl));have aPs:=CalW.mk (dM l.prog w base e36 X G0 (fun _ _ U=>aFp  U) (fun _ _ _ _ _ _ us hl=>ln3 us hl fun _ _ _=>rfl));have aQ4:=CalW.mk (dM l.prog w base e37 X G0 (fun _ _ U=>aFq aOg aOk aPq aOv aPs U) (fun _ _ _ _ _ _ us hl=>ln3 us hl fun _ _ _=>rfl));have aPt:=CalW.mk (dM l.prog w base e38 X G0 (fun _ _ U=>aFr aQ4 aO2 aO1 U) (fun _ _ _ _ _ _ us hl=>ln3 us hl fun _ _ _=>rfl));have aOa:=CalX.mk (dM l.prog w base e39 X G0 (fun _ _ U=>aFt aO9 aPt aO1 aOe U) (fun _ _ _ _ _ _ us hl=>ln3 us hl fun _ _ _=>rfl));have aOq:=Cal.mk (dM l.prog w base e40 X G0 (fun _ _ U=>aFw aO1 U) (fun _ _ _ _ _ _ us hl=>ln2 us hl fun _ _=>rfl));have aP1:=Cal.mk (dM l.prog w base e41 X G0 (fun _ _ U=>aG5 aQj aPy aQ0 aQc aPe aPm aQ1 aQk aPf aO0 aPu U) (fun _ _ _ _ _ _ us hl=>ln1 us hl fun _=>rfl));have aP2:=Cal.mk (dM l.prog w base e42 X G0 (fun _ _ U=>aG7 aP1 aOa aPp aPz aQb aO0 U) (fun _ _ _ _ _ _ us hl=>ln3 us hl fun _ _ _=>rfl));exact aGl aPi aPj aPx aOj aQ7 aP8 aOp aOq aP2 aOa aR7 aO0 aOh aO1 U43
def walk{l:PySem.W.OpenLaw}{q:Program}{loose:List Str}{XP:(Str->Option Value)->Heap->Prop}{YP:World->Heap->Prop}{d:DefRec}{K:Params->PySem.W.Frag}(hn:l.most=some 63)(hdf:d.params.defaults=[])
  (hY:∀ (w:World) (h:Heap),YP w h->(K w.params).In h)
  (F:∀ (w:World) (mg:Str->Option Value) (fa:Addr) (h:Heap),(K w.params).In h->h.Ns mainGlobals mg->mg d.name=some (.ref fa) ->
   ∃ fd:FuncData,(∀ (s:Shared) (u:Value),BindsTo s fd ⟨[u],[]⟩ [("script",u)])/\∀ base:Heap,(K w.params).In base->base.Ns mainGlobals mg->FnOk l.prog w (K w.params) mg base CX0 8 fa fd ["script"] (spT (K w.params) sS false 3)):
  PySem.W.WalkO q loose XP YP l.row.toRowW d [] (fun f vs=>PySem.call f vs):=
 aDr ⟨rfl,by decide,by decide⟩ hn hdf hY F VF
set_option maxRecDepth 100000
set_option maxHeartbeats 0
noncomputable def kF(x:Str)(i:Nat)(m:Str)(t:Nat)(c:Addr):Obj:=⟨.type "function",none,.func (PySem.W.fnOf x x (defArgs (top i)) (defBody (top i)) (defScope (top i)) .none .none .none (.str m t) none (.ref c) .none),#[]⟩
noncomputable def kX(x:Str)(a b n t u v:Nat):Obj:=⟨.type "type",none,.cls ⟨x,[.ref b],[.ref a,.ref b,.type "ValueError",.type "Exception",.type "BaseException",.type "object"],n,x,true,[],[],false,none,false⟩,#[some (.ref t),none,some (.str x u),some (.str x v),some (.builtin "ValueError.__new__"),some (.bool true)]⟩
noncomputable def KF(P:Params):PySem.W.Frag:=
 (nat_lit 3,⟨.type "dict",none,.dict #[HD.kE P "__name__" 165 (.str "law_groupcost_k90_answers_written" 966),HD.kE P "__doc__" 166 (.none),HD.kE P "__package__" 167 (.none),HD.kE P "__loader__" 168 (.builtin "__main__.__loader__#opaque"),HD.kE P "__spec__" 169 (.none),HD.kE P "__annotations__" 170 (.ref 6),HD.kE P "__builtins__" 171 (.ref 4),HD.kE P "__file__" 173 (.str "/claim/cut.py" 172),HD.kE P "__cached__" 174 (.none),HD.kE P "CostError" 206 (.ref 24),HD.kE P "BadTable" 222 (.ref 37),HD.kE P "Unlike" 238 (.ref 49),HD.kE P "NotFalling" 254 (.ref 61),HD.kE P "NotRising" 270 (.ref 73),HD.kE P "NotUnder" 286 (.ref 85),HD.kE P "NotBase" 302 (.ref 97),HD.kE P "BadMaker" 318 (.ref 109),HD.kE P "BadAsk" 334 (.ref 121),HD.kE P "BadPaper" 350 (.ref 133),HD.kE P "BadText" 376 (.ref 152),HD.kE P "hands_in" 384 (.ref 159),HD.kE P "many_in" 391 (.ref 166),HD.kE P "group_of" 400 (.ref 173),HD.kE P "within" 408 (.ref 180),HD.kE P "row_gives" 416 (.ref 185),HD.kE P "must_be_alike" 424 (.ref 192),HD.kE P "added" 430 (.ref 197),HD.kE P "row_table" 436 (.ref 202),HD.kE P "MOST_HANDS" 440 (.int (6) 439),HD.kE P "check_hands" 447 (.ref 209),HD.kE P "check_weight" 454 (.ref 216),HD.kE P "check_covers" 464 (.ref 223),HD.kE P "from_covers" 470 (.ref 228),HD.kE P "check_cuts" 481 (.ref 235),HD.kE P "is_cut" 490 (.ref 242),HD.kE P "from_cuts" 496 (.ref 247),HD.kE P "from_steps" 502 (.ref 252),HD.kE P "is_number" 511 (.ref 259),HD.kE P "is_row" 517 (.ref 264),HD.kE P "is_order" 525 (.ref 271),HD.kE P "is_pair" 532 (.ref 278),HD.kE P "common_divisor" 545 (.ref 285),HD.kE P "is_fraction" 552 (.ref 292),HD.kE P "ASKS" 582 (.ref 293),HD.kE P "ANSWERS" 605 (.ref 301),HD.kE P "ask_forms" 612 (.ref 315),HD.kE P "answer_forms" 619 (.ref 322),HD.kE P "LETTERS" 623 (.str "abcdefghijklmnopqrstuvwxyz" 622),HD.kE P "FIGURES" 625 (.str "0123456789" 624),HD.kE P "MOST_LETTERS" 627 (.int (8) 626),HD.kE P "PAGE_FIGURES" 629 (.int (200) 628),HD.kE P "Page" 662 (.ref 339),HD.kE P "is_name" 668 (.ref 348),HD.kE P "number_in" 674 (.ref 353),HD.kE P "numbers_in" 680 (.ref 358),HD.kE P "hands_named" 686 (.ref 363),HD.kE P "table_named" 696 (.ref 370),HD.kE P "ask_part" 706 (.ref 377),HD.kE P "ask_of" 720 (.ref 384),HD.kE P "steps_more" 729 (.ref 391),HD.kE P "named_more" 735 (.ref 396),HD.kE P "more_of" 745 (.ref 403),HD.kE P "takes_table" 753 (.ref 410),HD.kE P "takes_more" 763 (.ref 417),HD.kE P "takes_ask" 772 (.ref 424),HD.kE P "takes_row" 781 (.ref 431),HD.kE P "begun_page" 787 (.ref 436),HD.kE P "read_page" 793 (.ref 441),HD.kE P "PAPER_FIGURES" 797 (.int (2000) 796),HD.kE P "named_words" 803 (.ref 446),HD.kE P "group_words" 811 (.ref 453),HD.kE P "fraction_word" 820 (.ref 460),HD.kE P "pair_words" 829 (.ref 467),HD.kE P "part_words" 835 (.ref 472),HD.kE P "parts_words" 847 (.ref 479),HD.kE P "take_word" 854 (.ref 486),HD.kE P "take_answer_word" 862 (.ref 493),HD.kE P "take_number" 870 (.ref 500),HD.kE P "take_many" 878 (.ref 507),HD.kE P "take_fraction" 887 (.ref 514),HD.kE P "take_hands" 900 (.ref 521),HD.kE P "take_group" 909 (.ref 528),HD.kE P "take_order" 918 (.ref 535),HD.kE P "take_pairs" 930 (.ref 542),HD.kE P "take_part" 936 (.ref 547),HD.kE P "take_parts" 942 (.ref 552),HD.kE P "answer_text" 955 (.ref 559),HD.kE P "read_answer" 965 (.ref 566),HD.kE P "_law_mixed" 976 (.ref 573),HD.kE P "_law_hands" 983 (.ref 580),HD.kE P "_law_names" 989 (.ref 585),HD.kE P "_law_group_row" 995 (.ref 590),HD.kE P "_law_number" 1005 (.ref 597),HD.kE P "_law_part" 1014 (.ref 604),HD.kE P "_law_fraction" 1023 (.ref 611),HD.kE P "_law_drawn_fraction" 1032 (.ref 618),HD.kE P "_law_alike" 1038 (.ref 623),HD.kE P "_law_of_none" 1045 (.ref 630),HD.kE P "_law_answer" 1051 (.ref 635),HD.kE P "_law_due" 1057 (.ref 640),HD.kE P "_law_bad_rows" 1063 (.ref 645),HD.kE P "_law_refused" 1074 (.ref 652),HD.kE P "law" 1091 (.ref 659)] 103,#[]⟩) ::
 (nat_lit 23,⟨.type "dict",none,.dict #[HD.kE P "__module__" 196 (.str "groupcost.errors" 187),HD.kE P "__firstlineno__" 200 (.int (2) 199),HD.kE P "__static_attributes__" 201 (.ref 22),HD.kE P "__weakref__" 203 (.ref 25),HD.kE P "__doc__" 204 (.none)] 3,#[]⟩) ::
 (nat_lit 24,⟨.type "type",none,.cls ⟨"CostError",[.type "ValueError"],[.ref 24,.type "ValueError",.type "Exception",.type "BaseException",.type "object"],23,"CostError",true,[],[.ref 37,.ref 49,.ref 61,.ref 73,.ref 85,.ref 97,.ref 109,.ref 121,.ref 133,.ref 152],false,none,false⟩,#[some (.ref 15),none,some (.str "CostError" 189),some (.str "CostError" 197),some (.builtin "ValueError.__new__"),some (.bool true)]⟩) ::
 (nat_lit 37,kX "BadTable" 37 24 36 28 207 215) ::
 (nat_lit 49,kX "Unlike" 49 24 48 40 223 231) ::
 (nat_lit 61,kX "NotFalling" 61 24 60 52 239 247) ::
 (nat_lit 73,kX "NotRising" 73 24 72 64 255 263) ::
 (nat_lit 85,kX "NotUnder" 85 24 84 76 271 279) ::
 (nat_lit 97,kX "NotBase" 97 24 96 88 287 295) ::
 (nat_lit 109,kX "BadMaker" 109 24 108 100 303 311) ::
 (nat_lit 121,kX "BadAsk" 121 24 120 112 319 327) ::
 (nat_lit 132,⟨.type "dict",none,.dict #[HD.kE P "__module__" 342 (.str "groupcost.errors" 187),HD.kE P "__firstlineno__" 346 (.int (20) 345),HD.kE P "__static_attributes__" 347 (.ref 131),HD.kE P "__doc__" 348 (.none)] 2,#[]⟩) ::
 (nat_lit 133,kX "BadPaper" 133 24 132 124 335 343) ::
 (nat_lit 152,kX "BadText" 152 24 151 136 351 359) ::
 (nat_lit 158,HD.kC "hands_in" 379 28 1 3 155 true 181 156 (.none) (.none) (.none) (.ref 157) 382) ::
 (nat_lit 159,kF "hands_in" 13 "groupcost.masks" 377 158) ::
 (nat_lit 172,HD.kC "group_of" 392 32 1 3 167 true 181 168 (.none) (.ref 169) (.ref 170) (.ref 171) 398) ::
 (nat_lit 173,kF "group_of" 15 "groupcost.masks" 377 172) ::
 (nat_lit 258,HD.kC "is_number" 505 87 1 3 253 true 181 254 (.none) (.ref 255) (.ref 256) (.ref 257) 509) ::
 (nat_lit 259,kF "is_number" 33 "groupcost.kinds" 503 258) ::
 (nat_lit 277,HD.kC "is_pair" 526 93 1 3 272 true 181 273 (.none) (.ref 274) (.ref 275) (.ref 276) 530) ::
 (nat_lit 278,kF "is_pair" 36 "groupcost.kinds" 503 277) ::
 (nat_lit 284,HD.kC "common_divisor" 535 96 2 3 279 true 181 280 (.none) (.ref 281) (.ref 282) (.ref 283) 543) ::
 (nat_lit 285,kF "common_divisor" 38 "groupcost.fractions" 533 284) ::
 (nat_lit 291,HD.kC "is_fraction" 546 104 1 3 286 true 181 287 (.none) (.ref 288) (.ref 289) (.ref 290) 550) ::
 (nat_lit 292,kF "is_fraction" 39 "groupcost.fractions" 533 291) ::
 (nat_lit 301,⟨.type "dict",none,.dict #[HD.kE P "falls" 583 (.ref 302),HD.kE P "cheapest" 585 (.ref 303),HD.kE P "best" 588 (.ref 304),HD.kE P "base" 590 (.ref 305),HD.kE P "common" 592 (.ref 306),HD.kE P "between" 594 (.ref 307),HD.kE P "fairest" 596 (.ref 308)] 7,#[]⟩) ::
 (nat_lit 302,⟨.type "tuple",none,.seq #[.str "word" 584] 0,#[]⟩) ::
 (nat_lit 303,⟨.type "tuple",none,.seq #[.str "group" 586,.str "number" 587] 0,#[]⟩) ::
 (nat_lit 304,⟨.type "tuple",none,.seq #[.str "number" 589] 0,#[]⟩) ::
 (nat_lit 305,⟨.type "tuple",none,.seq #[.str "word" 591] 0,#[]⟩) ::
 (nat_lit 306,⟨.type "tuple",none,.seq #[.str "number" 593] 0,#[]⟩) ::
 (nat_lit 307,⟨.type "tuple",none,.seq #[.str "word" 595] 0,#[]⟩) ::
 (nat_lit 308,⟨.type "tuple",none,.seq #[.str "fractions" 597] 0,#[]⟩) ::
 (nat_lit 321,HD.kC "answer_forms" 613 113 1 3 316 true 181 317 (.none) (.ref 318) (.ref 319) (.ref 320) 617) ::
 (nat_lit 322,kF "answer_forms" 44 "groupcost.forms" 553 321) ::
 (nat_lit 335,⟨.type "code",none,.fields #[.str "__init__" 642,.str "Page.__init__" 643,.str "/claim/cut.py" 644,.int (122) 0,.int (4) 0,.int (0) 0,.int (0) 0,.int (3) 0,.ref 330,.bool true,.int (181) 0,.ref 331,.none,.ref 332,.ref 333,.ref 334,.int (649) 0,.int (122) 0,.str "/claim/cut.py" 650],#[]⟩) ::
 (nat_lit 336,⟨.type "function",none,.func (PySem.W.fnOf "__init__" "Page.__init__" (L2.defArgs (L2.inClass (top 50) 0)) (L2.defBody (L2.inClass (top 50) 0)) (L2.defScope (L2.inClass (top 50) 0)) (.none) (.none) (.none) (.str "groupcost.reading" 620) (none) (.ref 335) (.none)),#[]⟩) ::
 (nat_lit 338,⟨.type "dict",none,.dict #[HD.kE P "__module__" 637 (.str "groupcost.reading" 620),HD.kE P "__firstlineno__" 641 (.int (120) 640),HD.kE P "__init__" 651 (.ref 336),HD.kE P "__static_attributes__" 655 (.ref 337),HD.kE P "__dict__" 657 (.ref 340),HD.kE P "__weakref__" 659 (.ref 341),HD.kE P "__doc__" 660 (.none)] 4,#[]⟩) ::
 (nat_lit 339,⟨.type "type",none,.cls ⟨"Page",[.type "object"],[.ref 339,.type "object"],338,"Page",true,[],[],false,none,false⟩,#[none,none,some (.str "Page" 630),some (.str "Page" 638),some (.builtin "object.__new__"),some (.bool true)]⟩) ::
 (nat_lit 347,HD.kC "is_name" 663 126 1 3 344 true 181 345 (.none) (.none) (.none) (.ref 346) 666) ::
 (nat_lit 348,kF "is_name" 51 "groupcost.reading" 620 347) ::
 (nat_lit 352,HD.kC "number_in" 669 128 2 3 349 true 181 350 (.none) (.none) (.none) (.ref 351) 672) ::
 (nat_lit 353,kF "number_in" 52 "groupcost.reading" 620 352) ::
 (nat_lit 362,HD.kC "hands_named" 681 138 2 3 359 true 181 360 (.none) (.none) (.none) (.ref 361) 684) ::
 (nat_lit 363,kF "hands_named" 54 "groupcost.reading" 620 362) ::
 (nat_lit 435,HD.kC "begun_page" 782 224 1 3 432 true 181 433 (.none) (.none) (.none) (.ref 434) 785) ::
 (nat_lit 436,kF "begun_page" 65 "groupcost.reading" 620 435) ::
 (nat_lit 440,HD.kC "read_page" 788 232 1 3 437 true 181 438 (.none) (.none) (.none) (.ref 439) 791) ::
 (nat_lit 441,kF "read_page" 66 "groupcost.reading" 620 440) ::
 (nat_lit 445,HD.kC "named_words" 798 250 4 3 442 true 181 443 (.none) (.none) (.none) (.ref 444) 801) ::
 (nat_lit 446,kF "named_words" 69 "groupcost.words" 794 445) ::
 (nat_lit 452,HD.kC "group_words" 804 252 2 3 447 true 181 448 (.none) (.ref 449) (.ref 450) (.ref 451) 809) ::
 (nat_lit 453,kF "group_words" 70 "groupcost.words" 794 452) ::
 (nat_lit 459,HD.kC "fraction_word" 812 254 1 3 454 true 181 455 (.none) (.ref 456) (.ref 457) (.ref 458) 818) ::
 (nat_lit 460,kF "fraction_word" 71 "groupcost.words" 794 459) ::
 (nat_lit 466,HD.kC "pair_words" 821 258 3 3 461 true 181 462 (.none) (.ref 463) (.ref 464) (.ref 465) 827) ::
 (nat_lit 467,kF "pair_words" 72 "groupcost.words" 794 466) ::
 (nat_lit 471,HD.kC "part_words" 830 262 3 3 468 true 181 469 (.none) (.none) (.none) (.ref 470) 833) ::
 (nat_lit 472,kF "part_words" 73 "groupcost.words" 794 471) ::
 (nat_lit 478,HD.kC "parts_words" 836 277 3 3 473 true 181 474 (.none) (.ref 475) (.ref 476) (.ref 477) 845) ::
 (nat_lit 479,kF "parts_words" 74 "groupcost.words" 794 478) ::
 (nat_lit 485,HD.kC "take_word" 848 282 1 3 480 true 181 481 (.none) (.ref 482) (.ref 483) (.ref 484) 852) ::
 (nat_lit 486,kF "take_word" 75 "groupcost.words" 794 485) ::
 (nat_lit 492,HD.kC "take_answer_word" 855 286 1 3 487 true 181 488 (.none) (.ref 489) (.ref 490) (.ref 491) 860) ::
 (nat_lit 493,kF "take_answer_word" 76 "groupcost.words" 794 492) ::
 (nat_lit 499,HD.kC "take_number" 863 291 1 3 494 true 181 495 (.none) (.ref 496) (.ref 497) (.ref 498) 868) ::
 (nat_lit 500,kF "take_number" 77 "groupcost.words" 794 499) ::
 (nat_lit 513,HD.kC "take_fraction" 879 301 1 3 508 true 181 509 (.none) (.ref 510) (.ref 511) (.ref 512) 885) ::
 (nat_lit 514,kF "take_fraction" 79 "groupcost.words" 794 513) ::
 (nat_lit 520,HD.kC "take_hands" 888 307 4 3 515 true 181 516 (.none) (.ref 517) (.ref 518) (.ref 519) 898) ::
 (nat_lit 521,kF "take_hands" 80 "groupcost.words" 794 520) ::
 (nat_lit 527,HD.kC "take_group" 901 319 2 3 522 true 181 523 (.none) (.ref 524) (.ref 525) (.ref 526) 907) ::
 (nat_lit 528,kF "take_group" 81 "groupcost.words" 794 527) ::
 (nat_lit 541,HD.kC "take_pairs" 919 329 3 3 536 true 181 537 (.none) (.ref 538) (.ref 539) (.ref 540) 928) ::
 (nat_lit 542,kF "take_pairs" 83 "groupcost.words" 794 541) ::
 (nat_lit 546,HD.kC "take_part" 931 339 3 3 543 true 181 544 (.none) (.none) (.none) (.ref 545) 934) ::
 (nat_lit 547,kF "take_part" 84 "groupcost.words" 794 546) ::
 (nat_lit 551,HD.kC "take_parts" 937 351 3 3 548 true 181 549 (.none) (.none) (.none) (.ref 550) 940) ::
 (nat_lit 552,kF "take_parts" 85 "groupcost.words" 794 551) ::
 (nat_lit 558,HD.kC "answer_text" 945 357 3 3 553 true 181 554 (.none) (.ref 555) (.ref 556) (.ref 557) 953) ::
 (nat_lit 559,kF "answer_text" 87 "groupcost.report" 943 558) ::
 (nat_lit 565,HD.kC "read_answer" 956 361 3 3 560 true 181 561 (.none) (.ref 562) (.ref 563) (.ref 564) 963) ::
 (nat_lit 566,kF "read_answer" 88 "groupcost.report" 943 565) ::
 (nat_lit 572,HD.kC "_law_mixed" 968 365 2 3 567 true 181 568 (.none) (.ref 569) (.ref 570) (.ref 571) 974) ::
 (nat_lit 573,kF "_law_mixed" 90 "law_groupcost_k90_answers_written" 966 572) ::
 (nat_lit 579,HD.kC "_law_hands" 977 370 1 3 574 true 181 575 (.none) (.ref 576) (.ref 577) (.ref 578) 981) ::
 (nat_lit 580,kF "_law_hands" 91 "law_groupcost_k90_answers_written" 966 579) ::
 (nat_lit 584,HD.kC "_law_names" 984 372 3 3 581 true 181 582 (.none) (.none) (.none) (.ref 583) 987) ::
 (nat_lit 585,kF "_law_names" 92 "law_groupcost_k90_answers_written" 966 584) ::
 (nat_lit 589,HD.kC "_law_group_row" 990 383 2 3 586 true 181 587 (.none) (.none) (.none) (.ref 588) 993) ::
 (nat_lit 590,kF "_law_group_row" 93 "law_groupcost_k90_answers_written" 966 589) ::
 (nat_lit 596,HD.kC "_law_number" 996 386 2 3 591 true 181 592 (.none) (.ref 593) (.ref 594) (.ref 595) 1003) ::
 (nat_lit 597,kF "_law_number" 94 "law_groupcost_k90_answers_written" 966 596) ::
 (nat_lit 603,HD.kC "_law_part" 1006 390 2 3 598 true 181 599 (.none) (.ref 600) (.ref 601) (.ref 602) 1012) ::
 (nat_lit 604,kF "_law_part" 95 "law_groupcost_k90_answers_written" 966 603) ::
 (nat_lit 610,HD.kC "_law_fraction" 1015 396 2 3 605 true 181 606 (.none) (.ref 607) (.ref 608) (.ref 609) 1021) ::
 (nat_lit 611,kF "_law_fraction" 96 "law_groupcost_k90_answers_written" 966 610) ::
 (nat_lit 617,HD.kC "_law_drawn_fraction" 1024 399 2 3 612 true 181 613 (.none) (.ref 614) (.ref 615) (.ref 616) 1030) ::
 (nat_lit 618,kF "_law_drawn_fraction" 97 "law_groupcost_k90_answers_written" 966 617) ::
 (nat_lit 622,HD.kC "_law_alike" 1033 402 2 3 619 true 181 620 (.none) (.none) (.none) (.ref 621) 1036) ::
 (nat_lit 623,kF "_law_alike" 98 "law_groupcost_k90_answers_written" 966 622) ::
 (nat_lit 629,HD.kC "_law_of_none" 1039 414 1 3 624 true 181 625 (.none) (.ref 626) (.ref 627) (.ref 628) 1043) ::
 (nat_lit 630,kF "_law_of_none" 99 "law_groupcost_k90_answers_written" 966 629) ::
 (nat_lit 634,HD.kC "_law_answer" 1046 422 2 3 631 true 181 632 (.none) (.none) (.none) (.ref 633) 1049) ::
 (nat_lit 635,kF "_law_answer" 100 "law_groupcost_k90_answers_written" 966 634) ::
 (nat_lit 639,HD.kC "_law_due" 1052 434 3 3 636 true 181 637 (.none) (.none) (.none) (.ref 638) 1055) ::
 (nat_lit 640,kF "_law_due" 101 "law_groupcost_k90_answers_written" 966 639) ::
 (nat_lit 644,HD.kC "_law_bad_rows" 1058 440 2 3 641 true 181 642 (.none) (.none) (.none) (.ref 643) 1061) ::
 (nat_lit 645,kF "_law_bad_rows" 102 "law_groupcost_k90_answers_written" 966 644) ::
 (nat_lit 651,HD.kC "_law_refused" 1064 458 3 3 646 true 181 647 (.none) (.ref 648) (.ref 649) (.ref 650) 1072) ::
 (nat_lit 652,kF "_law_refused" 103 "law_groupcost_k90_answers_written" 966 651) ::
 (nat_lit 658,HD.kC "law" 1075 465 1 3 653 true 181 654 (.none) (.ref 655) (.ref 656) (.ref 657) 1089) ::
 (nat_lit 659,kF "law" 104 "law_groupcost_k90_answers_written" 966 658)::[]
noncomputable def KA:List Nat:=[3,23,24,37,49,61,73,85,97,109,121,132,133,152,158,159,172,173,258,259,277,278,284,285,291,292,301,302,303,304,305,306,307,308,321,322,335,336,338,339,347,348,352,353,362,363,435,436,440,441,445,446,452,453,459,460,466,467,471,472,478,479,485,486,492,493,499,500,513,514,520,521,527,528,541,542,546,547,551,552,558,559,565,566,572,573,579,580,584,585,589,590,596,597,603,604,610,611,617,618,622,623,629,630,634,635,639,640,644,645,651,652,658,659]
def KE(P:Params):KA=(KF P).map (·.1):=by kernel_rfl
noncomputable abbrev qq:Program:=PySem.W.view PySem.Challenge.pw_groupcost_k90_answers_written [104]
noncomputable abbrev lo:List Str:=(["CostError","BadTable","Unlike","NotFalling","NotRising","NotUnder","NotBase","BadMaker","BadAsk","BadPaper","BadText","hands_in","many_in","group_of","within","row_gives","must_be_alike","added","row_table","MOST_HANDS","check_hands","check_weight","check_covers","from_covers","check_cuts","is_cut","from_cuts","from_steps","is_number","is_row","is_order","is_pair","common_divisor","is_fraction","ASKS","ANSWERS","ask_forms","answer_forms","LETTERS","FIGURES","MOST_LETTERS","PAGE_FIGURES","Page","is_name","number_in","numbers_in","hands_named","table_named","ask_part","ask_of","steps_more","named_more","more_of","takes_table","takes_more","takes_ask","takes_row","begun_page","read_page","PAPER_FIGURES","named_words","group_words","fraction_word","pair_words","part_words","parts_words","take_word","take_answer_word","take_number","take_many","take_fraction","take_hands","take_group","take_order","take_pairs","take_part","take_parts","answer_text","read_answer","_law_mixed","_law_hands","_law_names","_law_group_row","_law_number","_law_part","_law_fraction","_law_drawn_fraction","_law_alike","_law_of_none","_law_answer","_law_due","_law_bad_rows","_law_refused"]:List String).map Str.ofString
noncomputable abbrev Xt (s:Shared):Bool:=PySem.W.xlAt qq [] s&&PySem.W.recOk (PySem.W.RowW.records (PySem.W.OpenRow.toRowW PySem.Challenge.rw_groupcost_k90_answers_written.row)) s
def aDw(w:World):HD.Ev PySem.Challenge.pw_groupcost_k90_answers_written qq lo Xt (PySem.W.Hook.obs (PySem.W.kHook KF KA KE)) (PySem.W.Hook.val (PySem.W.kHook KF KA KE)) 11066 (w.withFollow "special-get-raises" false):=fun os=>by kernel_rfl
def aDx(w:World):HD.Ev PySem.Challenge.pw_groupcost_k90_answers_written qq lo Xt (PySem.W.Hook.obs (PySem.W.kHook KF KA KE)) (PySem.W.Hook.val (PySem.W.kHook KF KA KE)) 11066 (w.withFollow "special-get-raises" true):=fun os=>by kernel_rfl
def left:PySem.W.LeftO PySem.Challenge.pw_groupcost_k90_answers_written qq lo Xt (PySem.W.Hook.obs (PySem.W.kHook KF KA KE)) (PySem.W.Hook.val (PySem.W.kHook KF KA KE)) 11066:=
 HD.left_of (PySem.W.boot_open (by kernel_rfl) (by kernel_rfl) (fun s=>by kernel_rfl)) (PySem.W.byRow2 "special-get-raises" aDw aDx)
end My
open PySem PySem.W PyProof.Rows
set_option maxRecDepth 100000 in
set_option maxHeartbeats 0 in
theorem PySem.Challenge.cw_groupcost_k90_answers_written_holds : PySem.Challenge.rw_groupcost_k90_answers_written.Holds := by
 w_on
 refine holds_law (HD.said_of (by kernel_rfl)) fun said => ?_;refine holds_open (q := My.qq) (loose := My.lo) (Xt := My.Xt) (XP := XL My.qq []) (YP := Hook.says (kHook My.KF My.KA My.KE)) My.left (Hook.of (kHook My.KF My.KA My.KE)) (Hook.keeps (kHook My.KF My.KA My.KE)) (fun s e => xl_of s (aSc.mp e).1) XL.keeps (by rfl) (by rfl) (by rfl) (fun s e => recFacts_of (aSc.mp e).2) (by rfl) said (by decide +kernel) ⟨rfl, rfl, rfl, rfl, rfl, by decide +kernel⟩ ?hw ?hc
 case hw => w_witness2
 k_fill
 refine My.walk (l := PySem.Challenge.rw_groupcost_k90_answers_written) rfl rfl (fun w h Y => PySem.W.kIn_of Y) ?F
 case F =>
  intro w mg fa h KX G hmg;refine' My.all_mk KX G hmg ?e0 ?e1 ?e2 ?e3 ?e4 ?e5 ?e6 ?e7 ?e8 ?e9 ?e10 ?e11 ?e12 ?e13 ?e14 ?e15 ?e16 ?e17 ?e18 ?e19 ?e20 ?e21 ?e22 ?e23 ?e24 ?e25 ?e26 ?e27 ?e28 ?e29 ?e30 ?e31 ?e32 ?e33 ?e34 ?e35 ?e36 ?e37 ?e38 ?e39 ?e40 ?e41 ?e42 ?e43 ?aC ?aI ?iI ?lP ?cP ?kP ?gC ?hC ?pC ?sC ?mC ?kC ?nN ?nT ?nA ?caC ?cgC ?ctC ?cmC ?kcC ?aRp ?aRh ?aQ5 ?aRb ?aRn ?aQr ?aRq ?aQz ?aRm ?aRr ?aQq ?aRs ?aQt ?aRo ?aRk ?aRi ?aRl ?aRa ?aPv ?aRf ?aQs ?aO3 ?aR0 ?aQd ?aQe ?aQp ?aPo ?aQ3 ?aQf ?aR1 ?aQ2 ?aQo ?aQa ?aPg ?aOx ?aOz ?aP6 ?aOn ?aOt ?aP0 ?aPh ?aOo ?aQw ?aQx ?aQy ?aOu ?aOy ?aP5
  case aQq => exact ⟨301, (by k_is), [("falls", 302, 583), ("cheapest", 303, 585), ("best", 304, 588), ("base", 305, 590), ("common", 306, 592), ("between", 307, 594), ("fairest", 308, 596)], 7, (by kernel_rfl), ⟨302, 583, _, rfl, ⟨⟨.type "tuple", none, .seq #[.str "word" 584] 0, #[]⟩, _, _, (by kernel_rfl), rfl, rfl, (by rw [aUm]; show (1 : Nat) <= _; decide), .cons ⟨584, rfl⟩ (.nil)⟩, ⟨303, 585, _, rfl, ⟨⟨.type "tuple", none, .seq #[.str "group" 586, .str "number" 587] 0, #[]⟩, _, _, (by kernel_rfl), rfl, rfl, (by rw [aUm]; show (2 : Nat) <= _; decide), .cons ⟨586, rfl⟩ (.cons ⟨587, rfl⟩ (.nil))⟩, ⟨304, 588, _, rfl, ⟨⟨.type "tuple", none, .seq #[.str "number" 589] 0, #[]⟩, _, _, (by kernel_rfl), rfl, rfl, (by rw [aUm]; show (1 : Nat) <= _; decide), .cons ⟨589, rfl⟩ (.nil)⟩, ⟨305, 590, _, rfl, ⟨⟨.type "tuple", none, .seq #[.str "word" 591] 0, #[]⟩, _, _, (by kernel_rfl), rfl, rfl, (by rw [aUm]; show (1 : Nat) <= _; decide), .cons ⟨591, rfl⟩ (.nil)⟩, ⟨306, 592, _, rfl, ⟨⟨.type "tuple", none, .seq #[.str "number" 593] 0, #[]⟩, _, _, (by kernel_rfl), rfl, rfl, (by rw [aUm]; show (1 : Nat) <= _; decide), .cons ⟨593, rfl⟩ (.nil)⟩, ⟨307, 594, _, rfl, ⟨⟨.type "tuple", none, .seq #[.str "word" 595] 0, #[]⟩, _, _, (by kernel_rfl), rfl, rfl, (by rw [aUm]; show (1 : Nat) <= _; decide), .cons ⟨595, rfl⟩ (.nil)⟩, ⟨308, 596, _, rfl, ⟨⟨.type "tuple", none, .seq #[.str "fractions" 597] 0, #[]⟩, _, _, (by kernel_rfl), rfl, rfl, (by rw [aUm]; show (1 : Nat) <= _; decide), .cons ⟨597, rfl⟩ (.nil)⟩, rfl⟩⟩⟩⟩⟩⟩⟩, (by decide +kernel), (by rfl)⟩
  any_goals (show _ = _; first | k_is | kernel_rfl)
