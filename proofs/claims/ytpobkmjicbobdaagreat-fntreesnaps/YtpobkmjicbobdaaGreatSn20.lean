/- Walks. -/
import Derived.Test.YtpobkmjicbobdaaGreatSn19
namespace Go.Proofs.YtpobkmjicbobdaaGreat
set_option maxRecDepth 100000
set_option maxHeartbeats 40000000
open Go.RowKit Go.Shelf
variable {B:List af} {P:List (List ac)} {n:Nat} {vs:List Value} {w:World}
section
attribute [local go_sem] Oper.semAt_some
def eH (w:World) (vs:List Value) (P:List (List ac)):Prop:=vs.length=P.length∧∀(i:Nat) A,P[i]?=some A→∃s m d,vs[i]?=some (.slice s m d)∧aq w s m d A
theorem eH.one {s:Option Addr} {m d:Nat} {A:List ac} (h:aq w s m d A):eH w [.slice s m d] [A]:=by
 refine ⟨rfl,fun i B hB=>?_⟩;cases i with
 | zero=>simp at hB;subst hB;exact ⟨s,m,d,rfl,h⟩
 | succ i=>simp at hB
theorem eH.append {vs':List Value} {P':List (List ac)} (h:eH w vs P) (h':eH w vs' P'):eH w (vs++vs') (P++P'):=by
 refine ⟨by rw [List.length_append,List.length_append,h.1,h'.1],fun i A hA=>?_⟩;by_cases hi:i<P.length
 · rw [List.getElem?_append_left hi] at hA;rw [List.getElem?_append_left (by rw [h.1];exact hi)];exact h.2 i A hA
 · rw [List.getElem?_append_right (by omega)] at hA;rw [List.getElem?_append_right (by rw [h.1];omega),h.1];exact h'.2 _ A hA
theorem eH.map {α:Type} {f:α→Value} {g:α→List ac} (h:∀x,∃s m d,f x=.slice s m d∧aq w s m d (g x)) (L:List α):eH w (L.map f) (L.map g):=by
 refine ⟨by simp,fun i A hA=>?_⟩;rw [List.getElem?_map] at hA ⊢;cases hx:L[i]? with
 | none=>rw [hx] at hA;cases hA
 | some x =>
  rw [hx] at hA;simp at hA;subst hA;obtain ⟨s,m,d,e,hE⟩:=h x;exact ⟨s,m,d,by simp [e],hE⟩
theorem eH.keep {w':World} (h:eH w vs P) (hb:Bl w w'):eH w' vs P :=
 ⟨h.1,fun i A hA=>by obtain ⟨s,m,d,e,hE⟩:=h.2 i A hA;exact ⟨s,m,d,e,hE.keep hb⟩⟩
theorem od {α β:Type} (B:List α) (d:α) (f:α→β):(bK B.length 0).map (fun x=>f ((B[x.1]?).getD d))=B.reverse.map f:=by
 unfold bK;rw [List.drop_zero,List.map_reverse,List.map_reverse];congr 1
 apply List.ext_getElem
 · simp
 · intro i h1 h2;simp at h1;simp
theorem vZ {α β:Type} (B:List α) (d:α) (f:α→β) (h:B.length=n):(bK n 0).map (fun x=>f ((B[x.1]?).getD d))=B.reverse.map f:=by
 subst h;exact od B d f
theorem aw.heads {lo:Nat} {a:Option Addr} {c:Nat} (h:aw lo w a n c B) :
 ∃t:Nat→Option Addr × Nat × Nat,(∀b o,a=some ⟨b,o,none⟩→1≤n→b<w.heap.size∧∀i,i<n→w.cell? ⟨b,o+i*2,none⟩=some (.slice (t i).1 (t i).2.1 (t i).2.2)∧w.cell? ⟨b,o+i*2+1,none⟩=some (iT ((B[i]?).getD ([],0)).2)) ∧
  ∀i,i<n→aq w (t i).1 (t i).2.1 (t i).2.2 ((B[i]?).getD ([],0)).1:=by
 have hl:=h.length;by_cases hn:1≤n
 · obtain ⟨b,o,rfl,hb⟩:=h.form hn;have each:∀i,i<n→∃t:Option Addr × Nat × Nat,w.cell? ⟨b,o+i*2,none⟩=some (.slice t.1 t.2.1 t.2.2)∧w.cell? ⟨b,o+i*2+1,none⟩=some (iT ((B[i]?).getD ([],0)).2)∧aq w t.1 t.2.1 t.2.2 ((B[i]?).getD ([],0)).1:=by
    intro i hi;obtain ⟨_,s,m,d,c0,c1,hE⟩:=h.runs _ rfl i (by omega);refine ⟨(s,m,d),c0,?_,?_⟩
    · rw [List.getElem?_eq_getElem (by omega:i<B.length)];exact c1
    · rw [List.getElem?_eq_getElem (by omega:i<B.length)];exact hE.1
   obtain ⟨t,ht⟩:=Deep.choose_lt each;refine ⟨t,?_,fun i hi=>(ht i hi).2.2⟩;rintro b' o' e _;cases e;exact ⟨hb,fun i hi=>⟨(ht i hi).1,(ht i hi).2.1⟩⟩
 · exact ⟨fun _=>(none,0,0),fun b o e h1=>absurd h1 hn,fun i hi=>absurd hi (by omega)⟩
def ie (M:List ac) (V:List (List af)) (i:Nat):List (List ac):=M :: (V.take i).flatMap (fun B=>B.reverse.map (·.1))
theorem qr {M:List ac} {V:List (List af)} {i:Nat} (h:V[i]?=some B):ie M V (i+1)=ie M V i++B.reverse.map (·.1):=by
 unfold ie;rw [List.take_add_one,h];simp
theorem rK (M:List ac) (A B C:List af):ie M [A,B,C] 3=dg M A B C:=by
 unfold ie dg;simp
def yp (w0 w:World) (P:List (List ac)) (e:Ending) (w':World):Prop:=(∃g n c vs,e=.returned (sL g n c)∧w'.ownsRow w.heap.size 28 1 (sL g n c) n vs∧eH w0 vs P)∧Bl w w'
theorem vJ (lo:Nat) (q:Int) (am ak:Option Addr) (nm cm nk ck:Nat) (a0 a1 a2:Option Addr) (n0 c0 n1 c1 n2 c2:Nat) (M:List ac) (A B C:List af) (w0 w:World) (hw0:Bl w0 w) (hM:aq w0 am nm cm M) (h0:aw lo w0 a0 n0 c0 A) (h1:aw lo w0 a1 n1 c1 B) (h2:aw lo w0 a2 n2 c2 C) (s0:n0≤8) (s1:n1≤8) (s2:n2≤8) :
 CallsIn Fence.wide 4 Tryz.prog 94 #[.agg #[iT q,.slice am nm cm,.slice a0 n0 c0,.slice a1 n1 c1,.slice a2 n2 c2,.slice ak nk ck]] w (yp w0 w (dg M A B C)):=by
 have HW0:=bQ hw0;clear hw0;have HL:Hid (∀i,i<3→∃ai ni ci Bi,(∀w',(Instr.index 80 (.agg #[.slice a0 n0 c0,.slice a1 n1 c1,.slice a2 n2 c2]) (iT (i:Nat))).run Tryz.prog w'=.ok (.slice ai ni ci) w')∧aw lo w0 ai ni ci Bi∧ni≤8∧[A,B,C][i]?=some Bi):=by
  intro i hi;have:i=0∨i=1∨i=2:=by omega
  rcases this with rfl | rfl | rfl
  · exact ⟨a0,n0,c0,A,fun w'=>xT w' _ _ _ _ _ _ _ _ _,h0,s0,rfl⟩
  · exact ⟨a1,n1,c1,B,fun w'=>xS w' _ _ _ _ _ _ _ _ _,h1,s1,rfl⟩
  · exact ⟨a2,n2,c2,C,fun w'=>xR w' _ _ _ _ _ _ _ _ _,h2,s2,rfl⟩
 clear h0 h1 h2 s0 s1 s2;have HM:=bQ hM;clear hM;obtain ⟨i0,hi,hz0,hz1,hz2⟩:=info_parts Tryz.infoEntS;refine callsIn_of_wp_marks Tryz.func94 rfl trivial ?_ rfl;simp only [Tryz.ntmps94,List.size_toArray,List.length_cons,List.length_nil,Nat.reduceAdd,Nat.reduceSub,Array.replicate_succ,Array.replicate_zero,List.push_toArray,List.append_toArray,List.nil_append,List.cons_append];gi_wp2
 obtain ⟨W0,hW0⟩:=aI ((((w.alloc (.cells #[iT q,.slice am nm cm,.slice a0 n0 c0,.slice a1 n1 c1,.slice a2 n2 c2,.slice ak nk ck] 82)).alloc (.cells #[.slice am nm cm] 28)).alloc (.cells #[sL (w.heap.size+1) 1 1] 102)));have hB0:Bl w W0:=by rw [hW0];exact (((Below.refl _ w).alloc (Nat.le_refl _) _).alloc (by simp) _).alloc (by simp;omega) _
 have bA0:Boxed W0 (w.heap.size+1+1) 102 (sL (w.heap.size+1) 1 1):=by
  have:=Boxed.new ((w.alloc (.cells #[iT q,.slice am nm cm,.slice a0 n0 c0,.slice a1 n1 c1,.slice a2 n2 c2,.slice ak nk ck] 82)).alloc (.cells #[.slice am nm cm] 28)) 102 (sL (w.heap.size+1) 1 1);rw [World.size_alloc,World.size_alloc] at this;rw [hW0];exact this
 have hr0:W0.ownsRow w.heap.size 28 1 (sL (w.heap.size+1) 1 1) 1 [.slice am nm cm]:=by
  have:=(World.ownsRow_lit (base:=w.heap.size) (e:=28) (size:=1) (w.alloc (.cells #[iT q,.slice am nm cm,.slice a0 n0 c0,.slice a1 n1 c1,.slice a2 n2 c2,.slice ak nk ck] 82)) #[.slice am nm cm] 1 (by simp) (by unfold maxLen;omega) rfl).alloc (.cells #[sL (w.heap.size+1) 1 1] 102);rw [World.size_alloc] at this;rw [hW0];exact this
 rw [← hW0];clear hW0;refine wpIn_loop (fun a' W=>∃(i:Nat) (ds:List Nat) (u5 u14 u15 u16 u17 u25:Value) (v:Value) (vs:List Value),a'={ tmps:=#[.agg #[iT q,.slice am nm cm,.slice a0 n0 c0,.slice a1 n1 c1,.slice a2 n2 c2,.slice ak nk ck],.pointer (some ⟨w.heap.size,0,none⟩),nZ,.pointer (some ⟨w.heap.size+1+1,0,none⟩),undef,u5,undef,undef,.pointer (some ⟨w.heap.size,1,none⟩),.slice am nm cm,sL (w.heap.size+1) 1 1,.pointer (some ⟨w.heap.size,2,none⟩),.agg #[.slice a0 n0 c0,.slice a1 n1 c1,.slice a2 n2 c2],iT (i:Nat),u14,u15,u16,u17,undef,undef,undef,undef,undef,undef,undef,u25,undef],defers:=uu ds } ∧
  i≤3∧Boxed W (w.heap.size+1+1) 102 v∧W.ownsRow w.heap.size 28 1 v vs.length vs∧eH w0 vs (ie M [A,B,C] i)∧vs.length≤1+8*i∧1≤vs.length∧fG w.heap.size W ds∧Bl w W) (fun a' _=>3 - (intOf (a'.tmps.getD 13 undef)).toNat) ?_ ?_
 · exact ⟨0,[],undef,undef,undef,undef,undef,undef,_,[.slice am nm cm],rfl,by omega,bA0,hr0,eH.one HM.out,by simp,by simp,⟨List.nodup_nil,fun D hD=>by cases hD⟩,hB0⟩
 rintro a' W ⟨i,ds,u5,u14,u15,u16,u17,u25,v,vs,rfl,hi3,bA,hrow,hH,hvl,hv1,hmk,hB⟩;clear hB0 bA0 hr0;have HH:Hid (eH w0 vs (ie M [A,B,C] i)):=hH;have HMK:Hid (fG w.heap.size W ds):=hmk;have HB:Hid (Bl w W):=hB;have hsW:=hB.size;clear hH hmk hB;by_cases hlt:i<3
 · have hltI:(i:Int)<3:=by omega
   have wi:IntKind.i64.wrap ((i:Int)+1)=((i+1:Nat):Int):=by rw [IntWalk.i64_left];unfold wrap64;omega
   obtain ⟨ai,ni,ci,Bi,hidx,hRi,hni,hVi⟩:=HL.out i hlt;have HR:Hid (aw lo w0 ai ni ci Bi):=hRi;have HV:Hid ([A,B,C][i]?=some Bi):=hVi;clear hRi hVi;gi_wp2_with (refine ⟨trivial,?_⟩;gi_at_call 155;refine (ye _ _ _ _ _).mono ?_;rintro e w' ⟨rfl,rfl⟩)
   obtain ⟨t,ht1,ht2⟩:=HR.out.heads;have bP:=Boxed.new W 61 (.slice ai ni ci);have hB1:Bl w (W.alloc (.cells #[.slice ai ni ci] 61)):=HB.out.alloc hsW _;have hB01:=HW0.out.trans (hB1.mono HW0.out.size);have bA1:=bA.alloc (.cells #[.slice ai ni ci] 61);have hrow1:=hrow.alloc (.cells #[.slice ai ni ci] 61);have hmk1:=HMK.out.others (KeepsOthers.alloc W (.cells #[.slice ai ni ci] 61));have hmlt:∀D ∈ ds,D<W.heap.size:=fun D hD=>(Array.getElem?_eq_some_iff.1 (HMK.out.2 D hD).2).1
   have hbl:=bA.lt;have HT2:Hid (∀i,i<ni→aq w0 (t i).1 (t i).2.1 (t i).2.2 ((Bi[i]?).getD ([],0)).1):=ht2;have HMLT:Hid (∀D ∈ ds,D<W.heap.size):=hmlt;clear ht2;refine wpIn_rangeFunc_ownH rfl (by omega) (gf:=206) (lb:=#[.pointer (some ⟨W.heap.size,0,none⟩)]) rfl trivial (enters_of Tryz.func206 (by kernel_rfl) rfl)
    (sy (4 - 1) (by omega) W.heap.size (fun k=>k<w.heap.size∨k=W.heap.size) ai ni ci (fun i=>.slice (t i).1 (t i).2.1 (t i).2.2) (fun i=>iT ((Bi[i]?).getD ([],0)).2) _ (.inr rfl) bP.cell (fun h=>by obtain ⟨b,o,e,_⟩:=HR.out.form h;exact ⟨b,o,e⟩) HR.out.room HR.out.big (fun k hk=>by simp;omega) (fun b o e h1=>⟨.inl (Nat.lt_of_lt_of_le (ht1 b o e h1).1 HW0.out.size),fun i hi=>⟨cell_later hB01 ((ht1 b o e h1).2 i hi).1,cell_later hB01 ((ht1 b o e h1).2 i hi).2⟩⟩))
    b7.trans (qu (fun k hk=>by simp;omega)) (Below.refl _ _) (fun _=>rfl)
    (fun pre W'=>(∃v',Boxed W' (w.heap.size+1+1) 102 v'∧W'.ownsRow w.heap.size 28 1 v' (vs.length+pre.length) (vs++pre.map (fun x=>Value.slice (t x.1).1 (t x.1).2.1 (t x.1).2.2))∧True)∧(Boxed W' W.heap.size 61 (.slice ai ni ci)∧(Bl w W'∧fG w.heap.size W' ds)))
    (fun _ _ _=>False)
    (OwnFrom.and (Own.from (holdsRow_own w.heap.size (w.heap.size+1+1) 102 28 1 (fun pre:List (Fin ni)=>vs.length+pre.length) (fun pre=>vs++pre.map (fun x=>Value.slice (t x.1).1 (t x.1).2.1 (t x.1).2.2)) (fun _ _=>True)) _) (OwnFrom.and (Own.from (boxed_own _ _ _) _) (OwnFrom.and (ownFrom_below (Nat.le_refl _) (by simp;omega)) (vl (fun D hD=>by have:=hmlt D hD;simp;omega)))))
    (fun _ _ _ _ _ hs _ _=>hs)
    ⟨⟨v,bA1,by simpa using hrow1,trivial⟩,bP,hB1,hmk1⟩
    (fun x a' W'=>∃Bx,w.heap.size+1+1<Bx∧W'.cell? ⟨Bx,0,none⟩=some (.slice (t x.1).1 (t x.1).2.1 (t x.1).2.2)∧a'={ tmps:=#[.agg #[iT q,.slice am nm cm,.slice a0 n0 c0,.slice a1 n1 c1,.slice a2 n2 c2,.slice ak nk ck],.pointer (some ⟨w.heap.size,0,none⟩),nZ,.pointer (some ⟨w.heap.size+1+1,0,none⟩),undef,.slice ai ni ci,undef,.pointer (pT Bx),.pointer (some ⟨w.heap.size,1,none⟩),.slice am nm cm,sL (w.heap.size+1) 1 1,.pointer (some ⟨w.heap.size,2,none⟩),.agg #[.slice a0 n0 c0,.slice a1 n1 c1,.slice a2 n2 c2],iT (i:Nat),.bool true,.slice ai ni ci,.slice ai ni ci,.func (.func 206) #[] #[.pointer (some ⟨W.heap.size,0,none⟩)],iT (x.1:Nat),.agg #[.slice (t x.1).1 (t x.1).2.1 (t x.1).2.2,iT ((Bi[x.1]?).getD ([],0)).2],undef,undef,undef,undef,undef,u25,undef],defers:=[] })
    (fun x a' _ X Y row hs hg hr=>by obtain ⟨Bx,h1,h2,h3⟩:=hs;exact ⟨Bx,h1,cell_kept h2 hg (fun r e=>(hr r e).2),h3⟩)
    ?assign ?body ?done ?stop
   case assign =>
    rintro l pre x W2 K ⟨⟨v2,bA2,hrow2,_⟩,bP2,hB2,hmk2⟩ hK;have hlt2:=bA2.lt;gi_wp2
    exact hK _ _ ((KeepsOthers.alloc _ _).from _) (pw ((Below.refl _ W2).alloc hB2.size _) bP2 (bP2.alloc _)) ⟨⟨v2,bA2.alloc _,hrow2.alloc _,trivial⟩,bP2.alloc _,hB2.alloc hB2.size _,hmk2.others (KeepsOthers.alloc _ _)⟩ ⟨W2.heap.size,hlt2,by simp,rfl⟩
   case body =>
    rintro l pre x a' W2 hl _ ⟨⟨v2,bA2,hrow2,_⟩,bP2,hB2,hmk2⟩ ⟨Bx,hBx,cx,rfl⟩ hpl;have cA:=bA2.cell;have HMK2:Hid (fG w.heap.size W2 ds):=hmk2;have HB2:Hid (Bl w W2):=hB2;have hs2:=hB2.size;clear hmk2 hB2;gi_wp2_with (gi_at_builtin;refine wpListIn_append_own _ rfl _ _ 102 rfl w.heap.size 28 i0 nZ 1 24 Tryz.underlying102 hi hz0 hz1 hz2 rfl (by decide) _ _ _ rfl (hrow2.alloc _) ⟨W2.heap.size,0,none⟩ 1 1 [Value.slice (t x.1).1 (t x.1).2.1 (t x.1).2.2] rfl rfl (cell_one_new _ _ _) (by simp [Value.oneCell']) (by unfold maxLen;omega) (by omega) (by simp;omega) ?_;intro v' w1 hown' hgrow _;obtain ⟨g',cap',rfl⟩:=ownsRow_succ hown';obtain ⟨hv1,hv2,hr2,hk2,hb2⟩:=bA2.appended (by decide) hrow2 hs2 (by omega) hown' hgrow;have hc1:=hv1.cell;have hf1:=hv1.frozen)
    have bP3:Boxed (w1.setCell ⟨w.heap.size+1+1,0,none⟩ (sL g' (vs.length+pre.length+1) cap')) W.heap.size 61 (.slice ai ni ci):=((bP2.alloc _).kept hgrow (bP2.not_row (by decide) hrow2)).other (by omega) _;refine ⟨hk2.from _,pw hb2 bP2 bP3,⟨⟨_,hv2,?_,trivial⟩,bP3,HB2.out.trans hb2,HMK2.out.others hk2⟩⟩;rw [List.map_append,List.length_append,← List.append_assoc];exact hr2
   case done =>
    rintro D xs W2 hD rfl ⟨⟨v2,bA2,hrow2,_⟩,bP2,hB2,hmk2⟩ hK;gi_wp2
    have hmp:=vZ Bi ([],0) (·.1) HR.out.length;have hdl:(bK ni 0).length=ni:=by rw [km];rfl
    refine ⟨⟨i+1,D :: ds,_,_,_,_,_,_,v2,vs++(bK ni 0).map (fun x=>Value.slice (t x.1).1 (t x.1).2.1 (t x.1).2.2),rfl,by omega,bA2,?_,?_,?_,?_,?_,hB2⟩,?_⟩
    · rw [List.length_append,List.length_map];exact hrow2
    · rw [qr HV.out,← hmp];exact HH.out.append (eH.map (α:=Fin ni) (fun x=>⟨_,_,_,rfl,HT2.out x.1 x.2⟩) _)
    · rw [List.length_append,List.length_map,hdl];omega
    · rw [List.length_append];omega
    · simp at hD;refine ⟨List.nodup_cons.2 ⟨fun h=>by have:=HMLT.out D h;omega,hmk2.1⟩,fun D' hD'=>?_⟩;rcases List.mem_cons.1 hD' with rfl | h
      · exact ⟨by omega,hK⟩
      · exact hmk2.2 D' h
    · simp [intOf];omega
   case stop =>
    rintro D c pre W2 _ _ h _;exact h.elim
 · have hi:i=3:=by omega
   subst hi;obtain ⟨n',hn'⟩:∃n',vs.length=n'+1:=⟨vs.length - 1,by omega⟩;rw [hn'] at hrow;obtain ⟨g,c,rfl⟩:=ownsRow_succ hrow;have cA:=bA.cell;gi_wp2
   refine j9 ds W HMK.out (fun W' hb' hc'=>?_);refine ⟨_,results_tmp rfl _ _ _,⟨g,n'+1,c,vs,rfl,?_,?_⟩,HB.out.trans hb'⟩
   · refine ⟨hrow.1,?_⟩;rcases hrow.2 with hn | ⟨g1,cap1,cur1,e1,hb1,hgb,rest⟩
     · exact .inl hn
     · exact .inr ⟨g1,cap1,cur1,e1,hb1,hc' g1 _ hgb rfl,rest⟩
   · rw [← rK];exact HH.out
end
end Go.Proofs.YtpobkmjicbobdaaGreat
