/- Walks. -/
import Derived.Maps.Views
import Derived.Maps.OwnOps
import Derived.Test.YtpobkmjicbobdaaGreatBn18
namespace Go.Proofs.YtpobkmjicbobdaaGreat
set_option maxRecDepth 100000
set_option maxHeartbeats 40000000
open Go.Maps Go.RowKit Go.Shelf
variable {A C:List ag} {L M T:List ac} {P:List (List ac)} {q:Int} {w:World} {z:Nat}
section
attribute [local go_sem] Oper.semAt_some
structure qV (D:DataW Unit) (T:List ac):Prop where
 isMap:IsMap D
 val:∀k:ByteArray,D.atKey (.string k.data.toList) (.lit (.int .i64 0))=.lit (.int .i64 (mQ T k))
theorem wM:qV (.map []) []:=⟨isMap_empty,fun k=>by
 have:Maps.has (H:=Unit) (.map []) (.string k.data.toList)=false:=by simp [Maps.has]
 rw [atKey_of_not_has this]
 rfl⟩
theorem qV.put {D:DataW Unit} (h:qV D T) (e:ac):qV (D.put (.string e.1.data.toList) (.lit (.int .i64 e.2.1))) (e :: T):=by
 refine ⟨h.isMap.put _ _,fun k=>?_⟩;rw [rZ];by_cases hk:e.1=k
 · subst hk;rw [atKey_put_same (k:=.string e.1.data.toList) h.isMap trivial,if_pos rfl]
 · have hne:Lit.string k.data.toList≠Lit.string e.1.data.toList:=by
    intro e';apply hk;have h2:k.data.toList=e.1.data.toList:=by simpa using e'
    exact ByteArray.ext (Array.toList_inj.1 h2.symm)
   rw [atKey_put_other hne,if_neg hk];exact h.val k
def AN:ac:=(⟨#[]⟩,0,0,⟨#[]⟩,0)
def gW (L:List ac) (i:Nat):ac:=(L[i]?).getD AN
theorem vC {i:Nat} (h:i<L.length):gW L i=L[i]:=by unfold gW;rw [List.getElem?_eq_getElem h];rfl
def iZ (P:List (List ac)) (pre:List (Fin P.length)):List ac:=(pre.reverse.map (fun x=>(P[x.1]?).getD [])).flatten
theorem yl (P:List (List ac)):iZ P []=[]:=rfl
theorem vQ (P:List (List ac)) (pre:List (Fin P.length)) (x:Fin P.length):iZ P (pre++[x])=(P[x.1]?).getD []++iZ P pre:=by
 simp [iZ]
theorem r6 (P:List (List ac)):iZ P (cf P.length 0)=P.flatten:=by
 unfold iZ;have:=pm P [] id;simp only [id_eq,List.map_id] at this;rw [List.map_reverse,this,List.reverse_reverse]
theorem yj {pre:List (Fin P.length)} (h:pre <+: cf P.length 0):∃B,P.flatten=B++iZ P pre:=by
 obtain ⟨r,hr⟩:=h;refine ⟨iZ P r,?_⟩;rw [← r6,← hr];simp [iZ]
theorem ym (h:∀l ∈ P,l.length≤150):∀pre:List (Fin P.length),(iZ P pre).length≤150*pre.length:=by
 intro pre;unfold iZ;induction pre with
 | nil=>simp
 | cons x pre ih =>
  have hx:=h _ (List.getElem_mem x.2);rw [List.reverse_cons,List.map_append,List.flatten_append,List.length_append];simp only [List.map_cons,List.map_nil,List.flatten_cons,List.flatten_nil,List.append_nil,List.length_cons];rw [List.getElem?_eq_getElem x.2];simp only [Option.getD_some];omega
def jM (L T:List ac) (pre:List (Fin L.length)):List ac:=pre.reverse.map (fun x=>gW L x.1)++T
theorem yq (L T:List ac):jM L T []=T:=rfl
theorem vR (L T:List ac) (pre:List (Fin L.length)) (x:Fin L.length):jM L T (pre++[x])=gW L x.1 :: jM L T pre:=by simp [jM]
theorem r8 (L T:List ac):jM L T (cf L.length 0)=L++T:=by
 unfold jM;have:=pm L AN id;simp only [id_eq,List.map_id] at this;have h2:(cf L.length 0).map (fun x=>gW L x.1)=L.reverse:=this;rw [List.map_reverse,h2,List.reverse_reverse]
theorem yp {pre:List (Fin L.length)} (h:pre <+: cf L.length 0):∃B,L++T=B++jM L T pre:=by
 obtain ⟨r,hr⟩:=h;refine ⟨r.reverse.map (fun x=>gW L x.1),?_⟩;rw [← r8,← hr];simp [jM]
theorem yr (L T:List ac) (pre:List (Fin L.length)):(jM L T pre).length=pre.length+T.length:=by simp [jM]
theorem wX {β:Type} {K:Nat→Prop} {W:World} {B:Nat} (hK:∀k,K k→k<W.heap.size∧k<B):OwnFrom B (fun (_:β) W'=>bE K W W'):=fun _ X Y row hs hg hr =>
 ⟨hg.os.trans hs.os,hg.tape.trans hs.tape,hg.output.trans hs.output,Nat.le_trans hs.size hg.size,fun k hk=>by
  refine (hg.block k (Nat.lt_of_lt_of_le (hK k hk).1 hs.size) (fun e=>?_)).trans (hs.block k hk)
  have:=(hr k e.symm).1
  have:=(hK k hk).2
  omega⟩
theorem yI {β:Type} {B n:Nat}:OwnFrom B (fun (_:β) W'=>n≤W'.heap.size):=fun _ _ _ _ hs hg _=>Nat.le_trans hs hg.size
def kj (w:World) (q:Int) (z:Nat) (T:List ac) (W:World):Prop :=
 dr q T=true∧Boxed W (w.heap.size+1) 4 (.bool false)∧Boxed W (w.heap.size+1+1+1) 239 (.map (some (w.heap.size+1+1)))∧W.cell? ⟨w.heap.size,0,none⟩=some (iT q) ∧
  (∃D,qV D T∧W.ownsMap Tryz.prog 9 (plainElem (H:=Unit) Tryz.prog 3) (w.heap.size+1+1) T.length D)∧Bl w W∧z≤W.heap.size
theorem kj.own {B:Nat} (hB:w.heap.size+4≤B) {T:List ac} {X Y:World} {row:Option Nat} (h:kj w q z T X) (hg:X.grownBy Y row) (hr:∀r,row=some r→B≤r∧∃o:Obj,X.heap[r]?=some o∧o.isCells=false):kj w q z T Y:=by
 obtain ⟨h1,h2,h3,h4,⟨D,h5,h6⟩,h7,h8⟩:=h;refine ⟨h1,h2.kept hg (fun e=>?_),h3.kept hg (fun e=>?_),cell_kept h4 hg (fun r e=>(hr r e).2),⟨D,h5,h6.kept hg (fun e=>?_)⟩,h7.grown hg h7.size (fun k e=>?_),Nat.le_trans h8 hg.size⟩
 · have:=(hr _ e.symm).1;omega
 · have:=(hr _ e.symm).1;omega
 · have:=(hr _ e.symm).1;omega
 · have:=(hr k e).1;omega
theorem kj.alloc {X:World} (h:kj w q z T X) (o:Obj):kj w q z T (X.alloc o) :=
 kj.own (Nat.le_refl _) h (World.grownBy_alloc X o none) (fun r e=>by cases e)
theorem xp (lo:Nat) (q:Int) (am ak:Option Addr) (nm cm nk ck:Nat) (a0 a1 a2:Option Addr) (n0 c0 n1 c1 n2 c2:Nat) (M:List ac) (A B C:List ag) (w:World) (hM:aj w am nm cm M) (h0:az lo w a0 n0 c0 A) (h1:az lo w a1 n1 c1 B) (h2:az lo w a2 n2 c2 C) (s0:n0≤8) (s1:n1≤8) (s2:n2≤8) (hsm:∀l ∈ cU M A B C,l.length≤150) :
 CallsIn Fence.wide 8 Tryz.prog 198 #[.agg #[iT q,.slice am nm cm,.slice a0 n0 c0,.slice a1 n1 c1,.slice a2 n2 c2,.slice ak nk ck]] w fun e w'=>e=.returned (.bool (dr q (cU M A B C).flatten))∧Bl w w':=by
 have hpl:(cU M A B C).length≤25:=by
  have:=h0.length;have:=h1.length;have:=h2.length;simp [cU];omega
 obtain ⟨P,hP⟩:∃P,cU M A B C=P:=⟨_,rfl⟩;have CL:Hid (∀w',Bl w w'→CallsIn Fence.wide (8 - 1) Tryz.prog 94 #[.agg #[iT q,.slice am nm cm,.slice a0 n0 c0,.slice a1 n1 c1,.slice a2 n2 c2,.slice ak nk ck]] w' (vg w w' P)):=fun w' k=>by
  rw [← hP];exact callsIn_wide.2 (callsIn_wide.1 (qF lo q am ak nm cm nk ck a0 a1 a2 n0 c0 n1 c1 n2 c2 M A B C w w' k hM h0 h1 h2 s0 s1 s2))
 rw [hP] at hsm hpl ⊢;clear hM h0 h1 h2 s0 s1 s2 hP;have HSM:Hid (∀l ∈ P,l.length≤150):=hsm;clear hsm;have hmm:=@run_makeMap Tryz.prog;refine callsIn_of_wp_marks Tryz.func198 rfl trivial ?_ rfl;simp only [Tryz.ntmps198,List.size_toArray,List.length_cons,List.length_nil,Nat.reduceAdd,Nat.reduceSub,Array.replicate_succ,Array.replicate_zero,List.push_toArray,List.append_toArray,List.nil_append,List.cons_append];gi_wp2
 refine ⟨trivial,?_⟩;obtain ⟨Wm,hWm⟩:=aS (((((w.alloc (.cells #[iT q,.slice am nm cm,.slice a0 n0 c0,.slice a1 n1 c1,.slice a2 n2 c2,.slice ak nk ck] 82)).alloc (.cells #[.bool false] 4)).alloc (.map #[] 0)).alloc (.cells #[.map (some (w.heap.size+1+1))] 239)));have hBm:Bl w Wm:=by rw [hWm];exact ((((Below.refl _ w).alloc (Nat.le_refl _) _).alloc (by simp) _).alloc (by simp;omega) _).alloc (by simp;omega) _
 have hszm:Wm.heap.size=w.heap.size+4:=by rw [hWm];simp
 have cS:Wm.cell? ⟨w.heap.size,0,none⟩=some (iT q):=by
  rw [hWm];refine cell_later bZ ?_;refine cell_later bZ ?_;refine cell_later bZ ?_;simp
 have bR:Boxed Wm (w.heap.size+1) 4 (.bool false):=by
  have:=((Boxed.new (w.alloc (.cells #[iT q,.slice am nm cm,.slice a0 n0 c0,.slice a1 n1 c1,.slice a2 n2 c2,.slice ak nk ck] 82)) 4 (.bool false)).alloc (.map #[] 0)).alloc (.cells #[.map (some (w.heap.size+1+1))] 239);rw [World.size_alloc] at this;rw [hWm];exact this
 have bM:Boxed Wm (w.heap.size+1+1+1) 239 (.map (some (w.heap.size+1+1))):=by
  have:=Boxed.new (((w.alloc (.cells #[iT q,.slice am nm cm,.slice a0 n0 c0,.slice a1 n1 c1,.slice a2 n2 c2,.slice ak nk ck] 82)).alloc (.cells #[.bool false] 4)).alloc (.map #[] 0)) 239 (.map (some (w.heap.size+1+1)));rw [World.size_alloc,World.size_alloc,World.size_alloc] at this;rw [hWm];exact this
 have hm0:Wm.ownsMap Tryz.prog 9 (plainElem (H:=Unit) Tryz.prog 3) (w.heap.size+1+1) 0 (.map []):=by
  have:=(World.ownsMap_made ((w.alloc (.cells #[iT q,.slice am nm cm,.slice a0 n0 c0,.slice a1 n1 c1,.slice a2 n2 c2,.slice ak nk ck] 82)).alloc (.cells #[.bool false] 4)) Tryz.prog 9 (plainElem (H:=Unit) Tryz.prog 3)).alloc (.cells #[.map (some (w.heap.size+1+1))] 239);rw [World.size_alloc,World.size_alloc] at this;rw [hWm];exact this
 rw [← hWm];clear hWm;refine (CL.out Wm hBm).mono ?_;rintro e W1 ⟨⟨g,n,c,vs,rfl,hrow,hH⟩,hb1⟩;have hgm:=hrow.lt g rfl;have hvn:vs.length=n:=by have:=hrow.1;omega
 have hPn:P.length=n:=by rw [← hH.1];exact hvn
 have hrc:n≤c∧c≤maxLen:=cj hrow;gi_wp2_with (refine ⟨trivial,?_⟩;gi_at_call 235;refine (zQ _ _ _ _ _).mono ?_;rintro e w' ⟨rfl,rfl⟩)
 subst hPn;have each:∀i,i<P.length→∃t:Option Addr × Nat × Nat,vs[i]?=some (.slice t.1 t.2.1 t.2.2)∧aj w t.1 t.2.1 t.2.2 ((P[i]?).getD []):=by
  intro i hi;obtain ⟨s,m,d,e1,hE⟩:=hH.2 i _ (List.getElem?_eq_getElem hi);exact ⟨(s,m,d),e1,by rw [List.getElem?_eq_getElem hi];exact hE⟩
 obtain ⟨t,ht⟩:=Deep.choose_lt each;have HT:Hid (∀i,i<P.length→aj w (t i).1 (t i).2.1 (t i).2.2 ((P[i]?).getD [])):=fun i hi=>(ht i hi).2
 have htc:∀i,i<P.length→W1.cell? ⟨g,i,none⟩=some (.slice (t i).1 (t i).2.1 (t i).2.2):=fun i hi=>(hrow.cellAt i (by omega)).trans (ht i hi).1
 clear ht each hH;have k1a:Bl W1 (W1.alloc (.cells #[sL g P.length c] 102)):=bZ;have bP:=Boxed.new W1 102 (sL g P.length c);have i1:kj w q 0 [] W1:=⟨rfl,bR.kept (dE hb1) (by simp),bM.kept (dE hb1) (by simp),cell_later hb1 cS,⟨_,wM,hm0.kept (dE hb1) (by simp)⟩,hBm.trans (hb1.mono hBm.size),Nat.zero_le _⟩;obtain ⟨W0,hW0⟩:=aS (W1.alloc (.cells #[sL g P.length c] 102));have hsz0:W0.heap.size=W1.heap.size+1:=by rw [hW0];simp
 have i0:kj w q W0.heap.size [] W0:=by rw [hW0];obtain ⟨j1,j2,j3,j4,j5,j6,_⟩:=i1.alloc (.cells #[sL g P.length c] 102);exact ⟨j1,j2,j3,j4,j5,j6,Nat.le_refl _⟩
 have htc0:∀i,i<P.length→W0.cell? ⟨g,i,none⟩=some (.slice (t i).1 (t i).2.1 (t i).2.2):=fun i hi=>by rw [hW0];exact cell_later k1a (htc i hi)
 rw [← hW0] at bP ⊢;have hsz1:=hb1.size;have hz0:W1.heap.size<W0.heap.size:=by omega
 have hz1:w.heap.size+4≤W1.heap.size:=by omega
 have hz2:w.heap.size+4≤g:=by have:=hgm.1;omega
 have hz3:g<W1.heap.size:=hgm.2;clear hsz0 hszm hsz1 hgm hvn hBm;clear hW0 i1 htc k1a bR bM cS hm0 hb1 hrow;refine wpIn_rangeFunc_ownH rfl (by omega) (gf:=252) (lb:=#[.pointer (some ⟨W1.heap.size,0,none⟩)]) rfl trivial (enters_of Tryz.func252 (by kernel_rfl) rfl)
  (tI (8 - 1) (by omega) W1.heap.size (fun k=>k<W0.heap.size∧k≠w.heap.size+1+1) (pT g) P.length c (fun i=>.slice (t i).1 (t i).2.1 (t i).2.2) W0 ⟨by omega,by omega⟩ bP.cell (fun _=>⟨g,0,rfl⟩) hrc.1 hrc.2 (fun k hk=>hk.1) (fun b o e h1=>by cases e;exact ⟨⟨by omega,by omega⟩,fun i hi=>by rw [Nat.zero_add];exact htc0 i hi⟩))
  bE.trans (nh (fun k hk=>hk.1)) (Below.refl _ _) (fun _=>rfl)
  (fun pre W=>kj w q W0.heap.size (iZ P pre) W)
  (fun cd pre W=>(cd=.ret∧∀B,dr q (B++iZ P pre)=false)∧(Boxed W (w.heap.size+1) 4 (.bool false)∧Bl w W))
  (fun pre X Y row hs hg hr=>kj.own (by omega) hs hg hr)
  (fun cd=>OwnFrom.and (ownFrom_pure _ _) (OwnFrom.and (Own.from (boxed_own _ _ _) _) (ownFrom_below (Nat.le_refl _) (by omega))))
  (by rw [yl];exact i0)
  (fun x a' _=>a'={ tmps:=#[.agg #[iT q,.slice am nm cm,.slice a0 n0 c0,.slice a1 n1 c1,.slice a2 n2 c2,.slice ak nk ck],.pointer (some ⟨w.heap.size,0,none⟩),.pointer (some ⟨w.heap.size+1,0,none⟩),.pointer (some ⟨w.heap.size+1+1+1,0,none⟩),undef,.slice (t x.1).1 (t x.1).2.1 (t x.1).2.2,undef,undef,.map (some (w.heap.size+1+1)),.agg #[iT q,.slice am nm cm,.slice a0 n0 c0,.slice a1 n1 c1,.slice a2 n2 c2,.slice ak nk ck],sL g P.length c,.func (.func 252) #[] #[.pointer (some ⟨W1.heap.size,0,none⟩)],iT (x.1:Nat),.slice (t x.1).1 (t x.1).2.1 (t x.1).2.2,undef,undef,undef,undef,undef,undef,undef,undef,undef,undef,undef,undef,undef,undef,undef,undef,undef,undef,undef,undef,undef,undef,undef],defers:=[] })
  (fun _ _ _ _ _ _ hs _ _=>hs)
  ?assign ?body ?done ?stop
 case assign =>
  rintro l pre x W K hi hK;gi_wp2
  exact hK _ _ (KeepsFrom.refl _ _) (bE.refl _ _) hi rfl
 case body =>
  rintro l pre x a' W hl ⟨r,hr⟩ hI rfl hpl';have hE:=HT.out x.1 x.2;obtain ⟨s,m,d,hsmd⟩:∃s m d,t x.1=(s,m,d):=⟨_,_,_,rfl⟩;simp only [hsmd] at hE ⊢;obtain ⟨L,hL⟩:∃L,(P[x.1]?).getD []=L:=⟨_,rfl⟩;have hLsm:L.length≤150:=by rw [← hL,List.getElem?_eq_getElem x.2];exact HSM.out _ (List.getElem_mem x.2)
  rw [hL] at hE;have hTsm:=ym HSM.out pre;have HTN:Hid (iZ P (pre++[x])=L++iZ P pre):=by show _=_;rw [vQ,hL]
  clear hL;obtain ⟨T,hT⟩:∃T,iZ P pre=T:=⟨_,rfl⟩;rw [hT] at hI hTsm HTN;clear hT;have hm:=hE.length;subst hm;have HE:Hid (aj w s L.length d L):=hE;clear hE hsmd;gi_wp2_with (refine ⟨trivial,?_⟩;gi_at_call 191;refine (CallsIn.inRound l (zR _ _ _ _ _)).mono ?_;rintro e w' ⟨rfl,rfl⟩)
  obtain ⟨i1,i2,i3,i4,i5,i6,i7⟩:=hI;have hI:kj w q W0.heap.size T W:=⟨i1,i2,i3,i4,i5,i6,i7⟩;clear i1 i2 i3 i4 i5;have hsW:=i6.size;have bN:=Boxed.new W 28 (.slice s L.length d);have hr':(W.alloc (.cells #[.slice s L.length d] 28)).heap[l]?=some (.loop r):=(Below.heap_alloc W _ l (Array.getElem?_eq_some_iff.1 hr).1).trans hr;have kWi:Bl w (W.alloc (.cells #[.slice s L.length d] 28)):=i6.alloc hsW _;have hIi:=hI.alloc (.cells #[.slice s L.length d] 28);refine wpIn_rangeFunc_ownN (l₀:=l) (r₀:=r) rfl hr' (by omega) (gf:=228) (lb:=#[.pointer (some ⟨W.heap.size,0,none⟩)]) rfl trivial (enters_of Tryz.func228 (by kernel_rfl) rfl)
   ((tJ (8 - 1 - 1 - 1) (by omega) W.heap.size (fun k=>k<W.heap.size+1∧k≠w.heap.size+1+1) s L.length d (fun i=>.string (gW L i).1) (fun i=>iT (gW L i).2.1) (fun i=>iT (gW L i).2.2.1) (fun i=>.string (gW L i).2.2.2.1) (fun i=>iT (gW L i).2.2.2.2) _ ⟨by omega,by omega⟩ bN.cell (fun h=>by obtain ⟨b,o,e,_⟩:=HE.out.form h;exact ⟨b,o,e⟩) HE.out.room HE.out.big (fun k hk=>by simp;exact hk.1)
    (fun b o e h1=>by
     have hbw:=(HE.out.lies _ e (by omega)).1;simp only at hbw;refine ⟨⟨by omega,by omega⟩,fun i hi=>?_⟩;obtain ⟨g0,g1,g2,g3,g4⟩:=HE.out.cells _ e i hi;simp only [vC hi];exact ⟨cell_later kWi g0,cell_later kWi g1,cell_later kWi g2,cell_later kWi g3,cell_later kWi g4⟩)).inRound l)
   bE.trans (nh (fun k hk=>by simp;exact hk.1)) (Below.refl _ _) (fun _=>rfl)
   (fun pre' W'=>kj w q W0.heap.size (jM L T pre') W'∧(bE (fun k=>k<W0.heap.size∧k≠w.heap.size+1+1) W W'∧(KeepsFrom W0.heap.size W W'∧W.heap.size+1≤W'.heap.size)))
   (fun cd pre' W'=>(cd=.ret∧∀B,dr q (B++jM L T pre')=false)∧(Boxed W' (w.heap.size+1) 4 (.bool false)∧(Bl w W'∧KeepsFrom W0.heap.size W W')))
   (OwnFrom.and (fun pre' X Y row hs hg hr=>kj.own (by simp;omega) hs hg hr) (OwnFrom.and (wX (fun k hk=>⟨by omega,by simp;omega⟩)) (OwnFrom.and (ownFrom_keepsFrom (by simp)) yI)))
   (fun cd=>OwnFrom.and (ownFrom_pure _ _) (OwnFrom.and (Own.from (boxed_own _ _ _) _) (OwnFrom.and (ownFrom_below (Nat.le_refl _) (by simp;omega)) (ownFrom_keepsFrom (by simp)))))
   ⟨by rw [yq];exact hIi,bE.of ((Below.refl W.heap.size W).alloc (Nat.le_refl _) _) (fun k hk=>by omega),(KeepsOthers.alloc _ _).from _,by simp⟩
   (fun y a'' W'=>∃By,w.heap.size+3<By∧W'.cell? ⟨By,0,none⟩=some (.string (gW L y.1).1)∧W'.cell? ⟨By,1,none⟩=some (iT (gW L y.1).2.1)∧a''={ tmps:=#[.agg #[iT q,.slice am nm cm,.slice a0 n0 c0,.slice a1 n1 c1,.slice a2 n2 c2,.slice ak nk ck],.pointer (some ⟨w.heap.size,0,none⟩),.pointer (some ⟨w.heap.size+1,0,none⟩),.pointer (some ⟨w.heap.size+1+1+1,0,none⟩),undef,.slice s L.length d,undef,.pointer (pT By),.map (some (w.heap.size+1+1)),.agg #[iT q,.slice am nm cm,.slice a0 n0 c0,.slice a1 n1 c1,.slice a2 n2 c2,.slice ak nk ck],sL g P.length c,.func (.func 252) #[] #[.pointer (some ⟨W1.heap.size,0,none⟩)],iT (x.1:Nat),.slice s L.length d,.slice s L.length d,.func (.func 228) #[] #[.pointer (some ⟨W.heap.size,0,none⟩)],iT (y.1:Nat),.agg #[.string (gW L y.1).1,iT (gW L y.1).2.1,iT (gW L y.1).2.2.1,.string (gW L y.1).2.2.2.1,iT (gW L y.1).2.2.2.2],undef,undef,undef,undef,undef,undef,undef,undef,undef,undef,undef,undef,undef,undef,undef,undef,undef,undef,undef],defers:=[] })
   (fun y a'' _ X Y row hs hg hr=>by obtain ⟨By,h1,h2,h3,h4⟩:=hs;exact ⟨By,h1,cell_kept h2 hg (fun r e=>(hr r e).2),cell_kept h3 hg (fun r e=>(hr r e).2),h4⟩)
   ?assign2 ?body2 ?done2 ?stop2
  case assign2 =>
   rintro l2 pre' y W' K ⟨hJ,hkS,hkF,hz⟩ hK;gi_wp2
   refine hK _ _ ((KeepsOthers.alloc _ _).from _) (bE.of ((Below.refl W'.heap.size W').alloc (Nat.le_refl _) _) (fun k hk=>by omega)) ⟨hJ.alloc _,hkS.trans (bE.of ((Below.refl W'.heap.size W').alloc (Nat.le_refl _) _) (fun k hk=>by omega)),hkF.trans ((KeepsOthers.alloc _ _).from _),by simp;omega⟩ ⟨W'.heap.size,by omega,by simp,by simp,rfl⟩
  case body2 =>
   rintro l2 pre' y a'' W' _ _ ⟨⟨j1,j2,j3,j4,⟨D,j5,j6⟩,j7,j8⟩,hkS,hkF,hz⟩ ⟨By,hBy,cy0,cy1,rfl⟩ hpl2;have HTE:Hid (jM L T (pre'++[y])=gW L y.1 :: jM L T pre'):=vR L T pre' y;have hTl:=yr L T pre';obtain ⟨T',hT'⟩:∃T',jM L T pre'=T':=⟨_,rfl⟩;rw [hT'] at j1 j5 j6 HTE hTl;clear hT';have hew:ec (gW L y.1):=by rw [vC y.2];exact HE.out.ents _ (List.getElem_mem y.2)
   obtain ⟨e,he⟩:∃e,gW L y.1=e:=⟨_,rfl⟩;rw [he] at cy0 cy1 HTE hew ⊢;clear he;obtain ⟨ek,eq,ed,et,en⟩:=e;simp only at cy0 cy1;have hks:ek.size≤maxLen:=hew.1;have hkey:=Go.WideMaps.keyOf_string_mk (k:=9) Tryz.underlying9 (s:=ek) hks;have hqw:(Lit.int .i64 eq).wf=true:=hew.2.1;have HAT:Hid (D.atKey (.string ek.data.toList) (.lit (.int .i64 0))=.lit (.int .i64 (mQ T' ek))):=j5.val ek;have HNP:Hid (qV (D.put (.string ek.data.toList) (.lit (.int .i64 eq))) ((ek,eq,ed,et,en) :: T')):=j5.put (ek,eq,ed,et,en);have HST:Hid (mQ T' ek<eq→eq≤q→dr q ((ek,eq,ed,et,en) :: T')=true):=fun h1 h2=>uB j1 h1 h2
   have HNO:Hid (¬(mQ T' ek<eq∧eq≤q)→∀B,dr q (B++(ek,eq,ed,et,en) :: T')=false):=fun h B=>uA (e:=(ek,eq,ed,et,en)) h
   obtain ⟨c0',hc0⟩:∃c0',mQ T' ek=c0':=⟨_,rfl⟩;rw [hc0] at HAT HST HNO;clear hc0 j5 hew;have cR:=j2.cell;have fR:=j2.frozen;have cM:=j3.cell;have HJ7:Hid (Bl w W'):=j7;have HKS:Hid (bE (fun k=>k<W0.heap.size∧k≠w.heap.size+1+1) W W'):=hkS;have HKF:Hid (KeepsFrom W0.heap.size W W'):=hkF;have hs7:=j7.size;clear j7 hkS hkF;by_cases hc1:eq≤c0'
   · gi_wp2_with (gi_at_lookup;refine wpListIn_lookup_own_int _ rfl _ _ 239 rfl 9 3 .i64 (Maps.string_keyed Tryz.underlying9) Tryz.underlying239 Tryz.underlying3 (Tryz.zeroValue3 _) (w.heap.size+1+1) T'.length _ rfl j6 _ _ rfl hkey ?_;intro cc hat hwc;obtain rfl:c0'=cc:=by (have:=HAT.out.symm.trans hat;simpa using this))
     exact ⟨(KeepsOthers.setCell _ _ _).from _,⟨rfl,fun B=>by rw [HTE.out];exact HNO.out (by omega) B⟩,j2.set _,HJ7.out.setCell (p:=⟨w.heap.size+1,0,none⟩) (by simp) _,HKF.out.trans ((KeepsOthers.setCell _ _ _).from _)⟩
   · by_cases hc2:q<eq
     · gi_wp2_with (gi_at_lookup;refine wpListIn_lookup_own_int _ rfl _ _ 239 rfl 9 3 .i64 (Maps.string_keyed Tryz.underlying9) Tryz.underlying239 Tryz.underlying3 (Tryz.zeroValue3 _) (w.heap.size+1+1) T'.length _ rfl j6 _ _ rfl hkey ?_;intro cc hat hwc;obtain rfl:c0'=cc:=by (have:=HAT.out.symm.trans hat;simpa using this))
       exact ⟨(KeepsOthers.setCell _ _ _).from _,⟨rfl,fun B=>by rw [HTE.out];exact HNO.out (by omega) B⟩,j2.set _,HJ7.out.setCell (p:=⟨w.heap.size+1,0,none⟩) (by simp) _,HKF.out.trans ((KeepsOthers.setCell _ _ _).from _)⟩
     · gi_wp2_with (first
        | (gi_at_lookup;refine wpListIn_lookup_own_int _ rfl _ _ 239 rfl 9 3 .i64 (Maps.string_keyed Tryz.underlying9) Tryz.underlying239 Tryz.underlying3 (Tryz.zeroValue3 _) (w.heap.size+1+1) T'.length _ rfl j6 _ _ rfl hkey ?_;intro cc hat hwc;obtain rfl:c0'=cc:=by (have:=HAT.out.symm.trans hat;simpa using this))
        | (gi_at_mapUpdate;refine wpListIn_mapUpdate_own _ rfl _ _ _ 239 rfl 9 3 (Maps.string_keyed Tryz.underlying9) Tryz.underlying239 _ (w.heap.size+1+1) T'.length _ rfl j6 ?_ _ _ _ rfl rfl hkey _ [] (plainElem_int Tryz.underlying3 hqw) ?_;unfold maxLen;omega;intro w1 hown1 hgrow1))
       refine ⟨KeepsFrom.of_grownBy hgrow1 (fun j e=>by cases e;simp;omega),bE.grown hgrow1 (fun k hk=>⟨by omega,fun e=>hk.2 (by cases e;rfl)⟩),⟨?_,HKS.out.trans (bE.grown hgrow1 (fun k hk=>⟨by omega,fun e=>hk.2 (by cases e;rfl)⟩)),HKF.out.trans (KeepsFrom.of_grownBy hgrow1 (fun j e=>by cases e;omega)),Nat.le_trans hz hgrow1.size⟩⟩;rw [HTE.out];exact ⟨HST.out (by omega) (by omega),j2.kept hgrow1 (by simp),j3.kept hgrow1 (by simp),hgrow1.cell j4 (by simp;omega),⟨_,HNP.out,hown1⟩,HJ7.out.grown hgrow1 hs7 (fun k e=>by cases e;omega),Nat.le_trans j8 hgrow1.size⟩
  case done2 =>
   rintro ys' W' rfl ⟨hJ,hkS,hkF,hz⟩;rw [r8] at hJ;gi_wp2
   refine ⟨hkF,hkS,?_⟩;show kj w q W0.heap.size (iZ P (pre++[x])) W'
   rw [HTN.out];exact hJ
  case stop2 =>
   rintro cd pre' W' hpre ⟨⟨rfl,hno⟩,bR2,hB2,hkF⟩;gi_wp2
   obtain ⟨B0,hB0⟩:=yp (T:=T) hpre;exact ⟨hkF,⟨rfl,fun B=>by rw [HTN.out,hB0,← List.append_assoc];exact hno _⟩,bR2,hB2⟩
 case done =>
  rintro D zs W hD rfl ⟨j1,j2,j3,j4,j5,j6,j7⟩ hK;rw [r6] at j1;have cR:=j2.cell;have fR:=j2.frozen;gi_wp2
  have hK':=(KeepsOthers.setCell W ⟨w.heap.size+1,0,none⟩ (.bool true)).same D _ hK rfl;refine ⟨by simp,.inl ⟨_,_,rfl,run_takeDeferred hK',?_⟩⟩;have hc5:=cell_kept (j2.set (.bool true)).cell (grownBy_putObj' _ D (.deferred none)) (fun r e=>by cases e;exact ⟨_,hK',rfl⟩);refine ⟨.bool true,?_,by rw [j1],(j6.setCell (p:=⟨w.heap.size+1,0,none⟩) (by simp) _).trans (belowK_b (w:=w) (Nat.le_refl _) _ D _ _ (by omega) hK' rfl rfl)⟩;simp [results,Tryz.f198,go_sem,hc5]
 case stop =>
  rintro D cd pre W hD hpre ⟨⟨rfl,hno⟩,bR1,hB1⟩ hK;gi_wp2
  refine ⟨by simp,.inl ⟨_,_,rfl,run_takeDeferred hK,?_⟩⟩;have hc5:=cell_kept bR1.cell (grownBy_putObj' _ D (.deferred none)) (fun r e=>by cases e;exact ⟨_,hK,rfl⟩);obtain ⟨B0,hB0⟩:=yj hpre;refine ⟨.bool false,?_,by rw [hB0,hno],hB1.trans (belowK_b (w:=w) (Nat.le_refl _) W D _ _ (by omega) hK rfl rfl)⟩;simp [results,Tryz.f198,go_sem,hc5]
end
theorem yh {B:List ag} {S:List Int} (h:¬(0≤q∧q≤100000∧cu S q=true∧M.length≤60∧aR M=true∧bu A B C=true∧dr q (cU M A B C).flatten=true)):bc q M [A,B,C] S=false:=by
 rw [Bool.eq_false_iff];exact fun h'=>h ((jn q M A B C S).1 h')
theorem fU {B:List ag} (h:bu A B C=true):A.length≤8∧B.length≤8∧C.length≤8∧∀r,r ∈ A∨r ∈ B∨r ∈ C→r.1.length≤150:=by
 unfold bu sZ oy at h;simp only [Bool.and_eq_true,decide_eq_true_eq,Bool.not_eq_true'] at h;obtain ⟨⟨a1,a2⟩,⟨b1,b2,_⟩,⟨c1,c2,_⟩⟩:=h;refine ⟨by omega,by omega,by omega,?_⟩;rintro r (hr | hr | hr)
 · exact (bK (lD a2 r hr)).2.1
 · exact (bK (lD b2 r hr)).2.1
 · exact (bK (lD c2 r hr)).2.1
theorem tc {B:List ag} (hM:M.length≤60) (h:bu A B C=true):∀l ∈ cU M A B C,l.length≤150:=by
 have hs:=(fU h).2.2.2;intro l hl;unfold cU at hl;simp only [List.mem_cons,List.mem_append,List.mem_map,List.mem_reverse] at hl;rcases hl with rfl | ⟨r,hr,rfl⟩ | ⟨r,hr,rfl⟩ | ⟨r,hr,rfl⟩
 · omega
 · exact hs r (.inl hr)
 · exact hs r (.inr (.inl hr))
 · exact hs r (.inr (.inr hr))
theorem zl (lo:Nat) (q:Int) (am ak:Option Addr) (nm cm nk ck:Nat) (a0 a1 a2:Option Addr) (n0 c0 n1 c1 n2 c2:Nat) (M:List ac) (A B C:List ag) (S:List Int) (w:World) (hM:aj w am nm cm M) (hS:bG lo w ak nk ck S) (h0:az lo w a0 n0 c0 A) (h1:az lo w a1 n1 c1 B) (h2:az lo w a2 n2 c2 C) :
 Calls Tryz.prog 142 #[.agg #[iT q,.slice am nm cm,.slice a0 n0 c0,.slice a1 n1 c1,.slice a2 n2 c2,.slice ak nk ck]] w fun e w'=>e=.returned (.bool (bc q M [A,B,C] S))∧Bl w w':=by
 have HMN:Hid (M.length=nm):=hM.length;have HM:=b6 hM;have HS:=b6 hS;have H0:=b6 h0;have H1:=b6 h1;have H2:=b6 h2;have HN:Hid (¬(0≤q∧q≤100000∧cu S q=true∧M.length≤60∧aR M=true∧bu A B C=true∧dr q (cU M A B C).flatten=true)→bc q M [A,B,C] S=false):=yh;have HY:Hid (0≤q→q≤100000→cu S q=true→M.length≤60→aR M=true→bu A B C=true→dr q (cU M A B C).flatten=true→bc q M [A,B,C] S=true):=fun e1 e2 e3 e4 e5 e6 e7=>(jn q M A B C S).2 ⟨e1,e2,e3,e4,e5,e6,e7⟩
 clear hM hS h0 h1 h2;obtain ⟨Z,hZ⟩:∃Z,bc q M [A,B,C] S=Z:=⟨_,rfl⟩;rw [hZ] at HN HY ⊢;clear hZ;obtain ⟨W,hW⟩:=aS (w.alloc (.cells #[iT q,.slice am nm cm,.slice a0 n0 c0,.slice a1 n1 c1,.slice a2 n2 c2,.slice ak nk ck] 82));have kW:Bl w W:=by rw [hW];exact bZ
 obtain ⟨X,hX⟩:=aS w.heap.size;have x0:W.cell? ⟨X,0,none⟩=some (iT q):=by rw [hW,hX];simp
 have x1:W.cell? ⟨X,1,none⟩=some (.slice am nm cm):=by rw [hW,hX];simp
 have x2:W.cell? ⟨X,2,none⟩=some (.slice a0 n0 c0):=by rw [hW,hX];simp
 have x3:W.cell? ⟨X,3,none⟩=some (.slice a1 n1 c1):=by rw [hW,hX];simp
 have x4:W.cell? ⟨X,4,none⟩=some (.slice a2 n2 c2):=by rw [hW,hX];simp
 have x5:W.cell? ⟨X,5,none⟩=some (.slice ak nk ck):=by rw [hW,hX];simp
 have zX:=World.block_lt_of_cell? _ _ x0;have KW:Hid (Bl w W):=kW;go_enter Tryz.func142,Tryz.ntmps142
 go_upto_region 1 with fail
 rw [← hW,← hX];clear hW hX kW;by_cases e1:q<0
 · have HF:Hid (Z=false):=HN.out (fun h=>by have:=h.1;omega);go_wp2;go_ret;exact ⟨af HF.out.symm,KW.out⟩
 by_cases e2:100000<q
 · have HF:Hid (Z=false):=HN.out (fun h=>by have:=h.2.1;omega);go_wp2;go_ret;exact ⟨af HF.out.symm,KW.out⟩
 have e1':0≤q:=by omega
 have e2':q≤100000:=by omega
 obtain ⟨bS,hbS⟩:∃b,b=cu S q:=⟨_,rfl⟩;go_wp2_with fail
 refine (xi lo ak nk ck S q W (HS.out.keep KW.out)).mono ?_;rw [← hbS];rintro e w1 ⟨rfl,rfl⟩;cases bS with
 | false =>
  have HF:Hid (Z=false):=HN.out (fun h=>by have:=h.2.2.1;rw [← hbS] at this;cases this);clear hbS;go_wp2;go_ret;exact ⟨af HF.out.symm,KW.out⟩
 | true =>
 have HSV:Hid (cu S q=true):=hbS.symm;clear hbS;by_cases e3:(60:Int)<(nm:Int)
 · have HF:Hid (Z=false):=HN.out (fun h=>by have:=h.2.2.2.1;have:=HMN.out;omega);go_wp2;go_ret;exact ⟨af HF.out.symm,KW.out⟩
 have e3':(nm:Int)≤60:=by omega
 obtain ⟨bR,hbR⟩:∃b,b=aR M:=⟨_,rfl⟩;go_wp2_with fail
 refine (ml am nm cm M _ (HM.out.keep KW.out)).mono ?_;rw [← hbR];rintro e w2 ⟨rfl,hb2⟩;have x0:=cell_later hb2 x0;have x1:=cell_later hb2 x1;have x2:=cell_later hb2 x2;have x3:=cell_later hb2 x3;have x4:=cell_later hb2 x4;have x5:=cell_later hb2 x5;have zX:=World.block_lt_of_cell? _ _ x0;have K2:Hid (Bl w w2):=KW.out.trans (hb2.mono KW.out.size);clear hb2 KW;cases bR with
 | false =>
  have HF:Hid (Z=false):=HN.out (fun h=>by have:=h.2.2.2.2.1;rw [← hbR] at this;cases this);clear hbR;go_wp2;go_ret;exact ⟨af HF.out.symm,K2.out⟩
 | true =>
 have HRV:Hid (aR M=true):=hbR.symm;clear hbR;obtain ⟨bL,hbL⟩:∃b,b=bu A B C:=⟨_,rfl⟩;go_wp2_with fail
 refine (uQ lo q am ak nm cm nk ck a0 a1 a2 n0 c0 n1 c1 n2 c2 A B C w2 (H0.out.keep K2.out) (H1.out.keep K2.out) (H2.out.keep K2.out)).mono ?_;rw [← hbL];rintro e w3 ⟨rfl,hb3⟩;have x0:=cell_later hb3 x0;have x1:=cell_later hb3 x1;have x2:=cell_later hb3 x2;have x3:=cell_later hb3 x3;have x4:=cell_later hb3 x4;have x5:=cell_later hb3 x5;have zX:=World.block_lt_of_cell? _ _ x0;have K3:Hid (Bl w w3):=K2.out.trans (hb3.mono K2.out.size);clear hb3 K2;cases bL with
 | false =>
  have HF:Hid (Z=false):=HN.out (fun h=>by have:=h.2.2.2.2.2.1;rw [← hbL] at this;cases this);clear hbL;go_wp2;go_ret;exact ⟨af HF.out.symm,K3.out⟩
 | true =>
 have HLV:Hid (bu A B C=true):=hbL.symm;clear hbL;have HSL:Hid (∀l ∈ cU M A B C,l.length≤150):=tc (by have:=HMN.out;omega) HLV.out;have hs0:n0≤8:=by have:=H0.out.length;have:=(fU HLV.out).1;omega
 have hs1:n1≤8:=by have:=H1.out.length;have:=(fU HLV.out).2.1;omega
 have hs2:n2≤8:=by have:=H2.out.length;have:=(fU HLV.out).2.2.1;omega
 obtain ⟨bN,hbN⟩:∃b,b=dr q (cU M A B C).flatten:=⟨_,rfl⟩;have HZ:Hid (Z=bN):=by
  cases bN with
  | false=>exact HN.out (fun h=>by have:=h.2.2.2.2.2.2;rw [← hbN] at this;cases this)
  | true=>exact HY.out e1' e2' HSV.out (by have:=HMN.out;omega) HRV.out HLV.out hbN.symm
 go_wp2_with fail
 refine (callsIn_wide.1 (xp lo q am ak nm cm nk ck a0 a1 a2 n0 c0 n1 c1 n2 c2 M A B C w3 (HM.out.keep K3.out) (H0.out.keep K3.out) (H1.out.keep K3.out) (H2.out.keep K3.out) hs0 hs1 hs2 HSL.out)).mono ?_;rw [← hbN];clear hbN;rintro e w4 ⟨rfl,hb4⟩;have K4:Hid (Bl w w4):=K3.out.trans (hb4.mono K3.out.size);clear hb4 K3;go_wp2;go_ret;exact ⟨af HZ.out.symm,K4.out⟩
end Go.Proofs.YtpobkmjicbobdaaGreat
