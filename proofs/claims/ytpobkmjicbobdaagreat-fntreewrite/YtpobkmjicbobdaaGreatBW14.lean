/- Walks. -/
import Derived.Maps.Views
import Derived.Maps.OwnOps
import Derived.Test.YtpobkmjicbobdaaGreatBW13
import Derived.Laws.IdiomCopy
import Derived.Test.YtpobkmjicbobdaaGreatBW10
namespace Go.Proofs.YtpobkmjicbobdaaGreat
set_option maxRecDepth 100000
set_option maxHeartbeats 40000000
open Go.Maps Go.RowKit Go.Shelf
variable {A C:List af} {L M T:List ac} {P:List (List ac)} {b z:Nat} {q:Int} {u0 u1 u2 u3 u4 u5:Value} {w w':World}
section
attribute [local go_sem] Ic
structure uc (D:DataW Unit) (T:List ac):Prop where
 isMap:IsMap D
 val:∀k:ByteArray,D.atKey (.string k.data.toList) (.lit (.int .i64 0))=.lit (.int .i64 (pv T k))
theorem AG:uc (.map []) []:=⟨isMap_empty,fun k=>by
 have:Maps.has (H:=Unit) (.map []) (.string k.data.toList)=false:=by simp [Maps.has]
 rw [atKey_of_not_has this]
 rfl⟩
theorem uc.put {D:DataW Unit} (h:uc D T) (e:ac):uc (D.put (.string e.1.data.toList) (.lit (.int .i64 e.2.1))) (e :: T):=by
 refine ⟨h.isMap.put _ _,fun k=>?_⟩;rw [vh];by_cases hk:e.1=k
 · subst hk;rw [atKey_put_same (k:=.string e.1.data.toList) h.isMap trivial,if_pos rfl]
 · have d:Lit.string k.data.toList≠Lit.string e.1.data.toList:=by
    intro f;apply hk;have h2:k.data.toList=e.1.data.toList:=by simpa using f
    exact IP (II.1 h2.symm)
   rw [atKey_put_other d,if_neg hk];exact h.val k
def Fg:ac:=(⟨#[]⟩,0,0,⟨#[]⟩,0)
def iX (L:List ac) (i:Nat):ac:=(L[i]?).getD Fg
theorem zR {i:Nat} (h:i<L.length):iX L i=L[i]:=by unfold iX;rw [j' h];rfl
def j9 (P:List (List ac)) (pre:List (Fin P.length)):List ac:=(pre.reverse.map (fun x=>(P[x.1]?).getD [])).flatten
theorem Cc (P:List (List ac)):j9 P []=[]:=rfl
theorem Ah (P:List (List ac)) (pre:List (Fin P.length)) (x:Fin P.length):j9 P (pre++[x])=(P[x.1]?).getD []++j9 P pre:=by
 simp [j9]
theorem vj (P:List (List ac)):j9 P (cq P.length 0)=P.flatten:=by
 unfold j9;have:=rL P [] id;simp only [id_eq,List.map_id] at this;rw [List.map_reverse,this,List.reverse_reverse]
theorem Cb {pre:List (Fin P.length)} (h:pre <+: cq P.length 0):∃B,P.flatten=B++j9 P pre:=by
 obtain ⟨r,hr⟩:=h;refine ⟨j9 P r,?_⟩;rw [← vj,← hr];simp [j9]
theorem Cd (h:∀l ∈ P,l.length≤150):∀d:List (Fin P.length),(j9 P d).length≤150*d.length:=by
 intro d;unfold j9;induction d with
 | nil=>simp
 | cons x d e =>
  have hx:=h _ (Hj x.2);rw [List.reverse_cons,Iw,IJ,GO];simp only [IH,I9,Ip,List.flatten_nil,Iv,Hn];rw [j' x.2];simp only [Option.getD_some];omega
def mi (L T:List ac) (pre:List (Fin L.length)):List ac:=pre.reverse.map (fun x=>iX L x.1)++T
theorem Cf (L T:List ac):mi L T []=T:=rfl
theorem Ai (L T:List ac) (pre:List (Fin L.length)) (x:Fin L.length):mi L T (pre++[x])=iX L x.1 :: mi L T pre:=by simp [mi]
theorem vk (L T:List ac):mi L T (cq L.length 0)=L++T:=by
 unfold mi;have:=rL L Fg id;simp only [id_eq,List.map_id] at this;have h2:(cq L.length 0).map (fun x=>iX L x.1)=L.reverse:=this;rw [List.map_reverse,h2,List.reverse_reverse]
theorem Ce {pre:List (Fin L.length)} (h:pre <+: cq L.length 0):∃B,L++T=B++mi L T pre:=by
 obtain ⟨r,hr⟩:=h;refine ⟨r.reverse.map (fun x=>iX L x.1),?_⟩;rw [← vk,← hr];simp [mi]
theorem Cg (L T:List ac) (d:List (Fin L.length)):(mi L T d).length=d.length+T.length:=by simp [mi]
theorem AR {β:Type} {K:Nat→Prop} {W:World} {B:Nat} (hK:∀k,K k→k<W.heap.size∧k<B):OwnFrom B (fun (_:β) d=>bQ K W d):=fun _ X Y row hs hg hr =>
 ⟨hg.os.trans hs.os,hg.tape.trans hs.tape,hg.output.trans hs.output,GU hs.size hg.size,fun k hk=>by
  refine (hg.block k (E' (hK k hk).1 hs.size) (fun e=>?_)).trans (hs.block k hk)
  have:=(hr k e.symm).1
  have:=(hK k hk).2
  omega⟩
theorem Cw {β:Type} {B n:Nat}:OwnFrom B (fun (_:β) d=>n≤d.heap.size):=fun _ _ _ _ hs hg _=>GU hs hg.size
def mH (w:World) (q:Int) (z:Nat) (T:List ac) (W:World):Prop :=
 dP q T=true∧Boxed W (w.heap.size+1) 4 (.bool false)∧Boxed W (w.heap.size+1+1+1) 239 (.map (some (w.heap.size+1+1)))∧W.cell? ⟨w.heap.size,0,none⟩=some (iT q) ∧
  (∃D,uc D T∧W.ownsMap Tryz.prog 9 (plainElem (H:=Unit) Tryz.prog 3) (w.heap.size+1+1) T.length D)∧Bl w W∧z≤W.heap.size
theorem mH.own {B:Nat} (hB:w.heap.size+4≤B) {T:List ac} {X Y:World} {row:Option Nat} (h:mH w q z T X) (hg:X.grownBy Y row) (hr:∀r,row=some r→B≤r∧∃o:Obj,X.heap[r]?=some o∧o.isCells=false):mH w q z T Y:=by
 obtain ⟨h1,h2,h3,h4,⟨D,h5,h6⟩,h7,d⟩:=h;refine ⟨h1,h2.kept hg (fun e=>?_),h3.kept hg (fun e=>?_),cell_kept h4 hg (fun r e=>(hr r e).2),⟨D,h5,h6.kept hg (fun e=>?_)⟩,h7.grown hg h7.size (fun k e=>?_),GU d hg.size⟩
 · have:=(hr _ e.symm).1;omega
 · have:=(hr _ e.symm).1;omega
 · have:=(hr _ e.symm).1;omega
 · have:=(hr k e).1;omega
theorem mH.alloc {X:World} (h:mH w q z T X) (o:Obj):mH w q z T (X.alloc o) :=
 mH.own (GL _) h (World.grownBy_alloc X o none) (fun r e=>by cases e)
theorem A4 (lo:Nat) (q:Int) (am ak:Option Addr) (nm cm nk ck:Nat) (a0 a1 a2:Option Addr) (U c0 Z c1 n2 c2:Nat) (M:List ac) (A B C:List af) (w:World) (hM:ah w am nm cm M) (h0:aw lo w a0 U c0 A) (h1:aw lo w a1 Z c1 B) (h2:aw lo w a2 n2 c2 C) (s0:U≤8) (s1:Z≤8) (s2:n2≤8) (aq:∀l ∈ dq M A B C,l.length≤150) :
 CallsIn Fence.wide 8 Tryz.prog 198 #[.agg #[iT q,.slice am nm cm,.slice a0 U c0,.slice a1 Z c1,.slice a2 n2 c2,.slice ak nk ck]] w fun e w'=>e=.returned (.bool (dP q (dq M A B C).flatten))∧Bl w w':=by
 have bi:(dq M A B C).length≤25:=by
  have:=h0.length;have:=h1.length;have:=h2.length;simp [dq];omega
 obtain ⟨P,hP⟩:∃P,dq M A B C=P:=⟨_,rfl⟩;have CL:Eq (∀w',Bl w w'→CallsIn Fence.wide (8 - 1) Tryz.prog 94 #[.agg #[iT q,.slice am nm cm,.slice a0 U c0,.slice a1 Z c1,.slice a2 n2 c2,.slice ak nk ck]] w' (zi w w' P)):=fun w' k=>by
  rw [← hP];exact callsIn_wide.2 (callsIn_wide.1 (tJ lo q am ak nm cm nk ck a0 a1 a2 U c0 Z c1 n2 c2 M A B C w w' k hM h0 h1 h2 s0 s1 s2))
 rw [hP] at aq bi ⊢;clear hM h0 h1 h2 s0 s1 s2 hP;have aI:Eq (∀l ∈ P,l.length≤150):=aq;clear aq;have bX:=@run_makeMap Tryz.prog;refine callsIn_of_wp_marks Tryz.func198 rfl trivial ?_ rfl;simp only [Tryz.ntmps198,Ir,Hn,Io,Nat.reduceAdd,Nat.reduceSub,IA,IB,IM,IE,Ho,Ht];gi_wp2
 refine ⟨trivial,?_⟩;obtain ⟨Wm,N⟩:=aG (((((w.alloc (.cells #[iT q,.slice am nm cm,.slice a0 U c0,.slice a1 Z c1,.slice a2 n2 c2,.slice ak nk ck] 82)).alloc (.cells #[.bool false] 4)).alloc (.map #[] 0)).alloc (.cells #[.map (some (w.heap.size+1+1))] 239)));have aj:Bl w Wm:=by rw [N];exact ((((Below.refl _ w).alloc (GL _) _).alloc (by simp) _).alloc (by simp;omega) _).alloc (by simp;omega) _
 have aP:Wm.heap.size=w.heap.size+4:=by rw [N];simp
 have cS:Wm.cell? ⟨w.heap.size,0,none⟩=some (iT q):=by
  rw [N];refine cell_later bZ ?_;refine cell_later bZ ?_;refine cell_later bZ ?_;simp
 have bR:Boxed Wm (w.heap.size+1) 4 (.bool false):=by
  have:=((Boxed.new (w.alloc (.cells #[iT q,.slice am nm cm,.slice a0 U c0,.slice a1 Z c1,.slice a2 n2 c2,.slice ak nk ck] 82)) 4 (.bool false)).alloc (.map #[] 0)).alloc (.cells #[.map (some (w.heap.size+1+1))] 239);rw [GY] at this;rw [N];exact this
 have bM:Boxed Wm (w.heap.size+1+1+1) 239 (.map (some (w.heap.size+1+1))):=by
  have:=Boxed.new (((w.alloc (.cells #[iT q,.slice am nm cm,.slice a0 U c0,.slice a1 Z c1,.slice a2 n2 c2,.slice ak nk ck] 82)).alloc (.cells #[.bool false] 4)).alloc (.map #[] 0)) 239 (.map (some (w.heap.size+1+1)));rw [GY,GY,GY] at this;rw [N];exact this
 have aL:Wm.ownsMap Tryz.prog 9 (plainElem (H:=Unit) Tryz.prog 3) (w.heap.size+1+1) 0 (.map []):=by
  have:=(World.ownsMap_made ((w.alloc (.cells #[iT q,.slice am nm cm,.slice a0 U c0,.slice a1 Z c1,.slice a2 n2 c2,.slice ak nk ck] 82)).alloc (.cells #[.bool false] 4)) Tryz.prog 9 (plainElem (H:=Unit) Tryz.prog 3)).alloc (.cells #[.map (some (w.heap.size+1+1))] 239);rw [GY,GY] at this;rw [N];exact this
 rw [← N];clear N;refine (CL.o Wm aj).mono ?_;rintro e W1 ⟨⟨g,n,c,vs,rfl,hrow,hH⟩,O⟩;have ax:=hrow.lt g rfl;have b0:vs.length=n:=by have:=hrow.1;omega
 have bh:P.length=n:=by rw [← hH.1];exact b0
 have aS:n≤c∧c≤maxLen:=cC hrow;gi_wp2_with (refine ⟨trivial,?_⟩;gi_at_call 235;refine (D6 _ _ _ _ _).mono ?_;rintro e w' ⟨rfl,rfl⟩)
 subst bh;have each:∀i,i<P.length→∃t:Option Addr × Nat × Nat,vs[i]?=some (.slice t.1 t.2.1 t.2.2)∧ah w t.1 t.2.1 t.2.2 ((P[i]?).getD []):=by
  intro i hi;obtain ⟨s,m,d,e1,hE⟩:=hH.2 i _ (j' hi);exact ⟨(s,m,d),e1,by rw [j' hi];exact hE⟩
 obtain ⟨t,ht⟩:=Deep.choose_lt each;have HT:Eq (∀i,i<P.length→ah w (t i).1 (t i).2.1 (t i).2.2 ((P[i]?).getD [])):=fun i hi=>(ht i hi).2
 have aK:∀i,i<P.length→W1.cell? ⟨g,i,none⟩=some (.slice (t i).1 (t i).2.1 (t i).2.2):=fun i hi=>(hrow.cellAt i (by omega)).trans (ht i hi).1
 clear ht each hH;have aR:Bl W1 (W1.alloc (.cells #[sL g P.length c] 102)):=bZ;have bP:=Boxed.new W1 102 (sL g P.length c);have i1:mH w q 0 [] W1:=⟨rfl,bR.kept (d4 O) (by simp),bM.kept (d4 O) (by simp),cell_later O cS,⟨_,AG,aL.kept (d4 O) (by simp)⟩,aj.trans (O.mono aj.size),GQ _⟩;obtain ⟨W0,aa⟩:=aG (W1.alloc (.cells #[sL g P.length c] 102));have aU:W0.heap.size=W1.heap.size+1:=by rw [aa];simp
 have i0:mH w q W0.heap.size [] W0:=by rw [aa];obtain ⟨j1,j2,j3,j4,j5,j6,_⟩:=i1.alloc (.cells #[sL g P.length c] 102);exact ⟨j1,j2,j3,j4,j5,j6,GL _⟩
 have b1:∀i,i<P.length→W0.cell? ⟨g,i,none⟩=some (.slice (t i).1 (t i).2.1 (t i).2.2):=fun i hi=>by rw [aa];exact cell_later aR (aK i hi)
 rw [← aa] at bP ⊢;have aO:=O.size;have bI:W1.heap.size<W0.heap.size:=by omega
 have c6:w.heap.size+4≤W1.heap.size:=by omega
 have bO:w.heap.size+4≤g:=by have:=ax.1;omega
 have bH:g<W1.heap.size:=ax.2;clear aU aP aO ax b0 aj;clear aa i1 aK aR bR bM cS aL O hrow;refine wpIn_rangeFunc_ownH rfl (by omega) (gf:=252) (lb:=#[.pointer (some ⟨W1.heap.size,0,none⟩)]) rfl trivial (enters_of Tryz.func252 (by kernel_rfl) rfl)
  (xj (8 - 1) (by omega) W1.heap.size (fun k=>k<W0.heap.size∧k≠w.heap.size+1+1) (pT g) P.length c (fun i=>.slice (t i).1 (t i).2.1 (t i).2.2) W0 ⟨by omega,by omega⟩ bP.cell (fun _=>⟨g,0,rfl⟩) aS.1 aS.2 (fun k hk=>hk.1) (fun b o e h1=>by cases e;exact ⟨⟨by omega,by omega⟩,fun i hi=>by rw [GT];exact b1 i hi⟩))
  bQ.trans (pP (fun k hk=>hk.1)) (Below.refl _ _) (fun _=>rfl)
  (fun F W=>mH w q W0.heap.size (j9 P F) W)
  (fun cd F W=>(cd=.ret∧∀B,dP q (B++j9 P F)=false)∧(Boxed W (w.heap.size+1) 4 (.bool false)∧Bl w W))
  (fun F X Y row hs hg hr=>mH.own (by omega) hs hg hr)
  (fun cd=>OwnFrom.and (ownFrom_pure _ _) (OwnFrom.and (Own.from (boxed_own _ _ _) _) (ownFrom_below (GL _) (by omega))))
  (by rw [Cc];exact i0)
  (fun x a' _=>a'={ tmps:=#[.agg #[iT q,.slice am nm cm,.slice a0 U c0,.slice a1 Z c1,.slice a2 n2 c2,.slice ak nk ck],.pointer (some ⟨w.heap.size,0,none⟩),.pointer (some ⟨w.heap.size+1,0,none⟩),.pointer (some ⟨w.heap.size+1+1+1,0,none⟩),undef,.slice (t x.1).1 (t x.1).2.1 (t x.1).2.2,undef,undef,.map (some (w.heap.size+1+1)),.agg #[iT q,.slice am nm cm,.slice a0 U c0,.slice a1 Z c1,.slice a2 n2 c2,.slice ak nk ck],sL g P.length c,.func (.func 252) #[] #[.pointer (some ⟨W1.heap.size,0,none⟩)],iT (x.1:Nat),.slice (t x.1).1 (t x.1).2.1 (t x.1).2.2,undef,undef,undef,undef,undef,undef,undef,undef,undef,undef,undef,undef,undef,undef,undef,undef,undef,undef,undef,undef,undef,undef,undef],defers:=[] })
  (fun _ _ _ _ _ _ hs _ _=>hs)
  ?assign ?body ?done ?stop
 case assign =>
  rintro l F x W K hi hK;gi_wp2
  exact hK _ _ (KeepsFrom.refl _ _) (bQ.refl _ _) hi rfl
 case body =>
  rintro l F x a' W hl ⟨r,hr⟩ hI rfl bt;have hE:=HT.o x.1 x.2;obtain ⟨s,m,d,an⟩:∃s m d,t x.1=(s,m,d):=⟨_,_,_,rfl⟩;simp only [an] at hE ⊢;obtain ⟨L,hL⟩:∃L,(P[x.1]?).getD []=L:=⟨_,rfl⟩;have bA:L.length≤150:=by rw [← hL,j' x.2];exact aI.o _ (Hj x.2)
  rw [hL] at hE;have aT:=Cd aI.o F;have aF:Eq (j9 P (F++[x])=L++j9 P F):=by show _=_;rw [Ah,hL]
  clear hL;obtain ⟨T,hT⟩:∃T,j9 P F=T:=⟨_,rfl⟩;rw [hT] at hI aT aF;clear hT;have hm:=hE.length;subst hm;have HE:Eq (ah w s L.length d L):=hE;clear hE an;gi_wp2_with (refine ⟨trivial,?_⟩;gi_at_call 191;refine (CallsIn.inRound l (D7 _ _ _ _ _)).mono ?_;rintro e w' ⟨rfl,rfl⟩)
  obtain ⟨i1,i2,i3,i4,i5,i6,i7⟩:=hI;have hI:mH w q W0.heap.size T W:=⟨i1,i2,i3,i4,i5,i6,i7⟩;clear i1 i2 i3 i4 i5;have bd:=i6.size;have bN:=Boxed.new W 28 (.slice s L.length d);have b6:(W.alloc (.cells #[.slice s L.length d] 28)).heap[l]?=some (.loop r):=(Below.heap_alloc W _ l (Ii.1 hr).1).trans hr;have ab:Bl w (W.alloc (.cells #[.slice s L.length d] 28)):=i6.alloc bd _;have bl:=hI.alloc (.cells #[.slice s L.length d] 28);refine wpIn_rangeFunc_ownN (l₀:=l) (r₀:=r) rfl b6 (by omega) (gf:=228) (lb:=#[.pointer (some ⟨W.heap.size,0,none⟩)]) rfl trivial (enters_of Tryz.func228 (by kernel_rfl) rfl)
   ((xm (8 - 1 - 1 - 1) (by omega) W.heap.size (fun k=>k<W.heap.size+1∧k≠w.heap.size+1+1) s L.length d (fun i=>.string (iX L i).1) (fun i=>iT (iX L i).2.1) (fun i=>iT (iX L i).2.2.1) (fun i=>.string (iX L i).2.2.2.1) (fun i=>iT (iX L i).2.2.2.2) _ ⟨by omega,by omega⟩ bN.cell (fun h=>by obtain ⟨b,o,e,_⟩:=HE.o.form h;exact ⟨b,o,e⟩) HE.o.room HE.o.big (fun k hk=>by simp;exact hk.1)
    (fun b o e h1=>by
     have bj:=(HE.o.lies _ e (by omega)).1;simp only at bj;refine ⟨⟨by omega,by omega⟩,fun i hi=>?_⟩;obtain ⟨g0,g1,g2,g3,g4⟩:=HE.o.cells _ e i hi;simp only [zR hi];exact ⟨cell_later ab g0,cell_later ab g1,cell_later ab g2,cell_later ab g3,cell_later ab g4⟩)).inRound l)
   bQ.trans (pP (fun k hk=>by simp;exact hk.1)) (Below.refl _ _) (fun _=>rfl)
   (fun E I=>mH w q W0.heap.size (mi L T E) I∧(bQ (fun k=>k<W0.heap.size∧k≠w.heap.size+1+1) W I∧(KeepsFrom W0.heap.size W I∧W.heap.size+1≤I.heap.size)))
   (fun cd E I=>(cd=.ret∧∀B,dP q (B++mi L T E)=false)∧(Boxed I (w.heap.size+1) 4 (.bool false)∧(Bl w I∧KeepsFrom W0.heap.size W I)))
   (OwnFrom.and (fun E X Y row hs hg hr=>mH.own (by simp;omega) hs hg hr) (OwnFrom.and (AR (fun k hk=>⟨by omega,by simp;omega⟩)) (OwnFrom.and (ownFrom_keepsFrom (by simp)) Cw)))
   (fun cd=>OwnFrom.and (ownFrom_pure _ _) (OwnFrom.and (Own.from (boxed_own _ _ _) _) (OwnFrom.and (ownFrom_below (GL _) (by simp;omega)) (ownFrom_keepsFrom (by simp)))))
   ⟨by rw [Cf];exact bl,bQ.of ((Below.refl W.heap.size W).alloc (GL _) _) (fun k hk=>by omega),(KeepsOthers.alloc _ _).from _,by simp⟩
   (fun y aB I=>∃By,w.heap.size+3<By∧I.cell? ⟨By,0,none⟩=some (.string (iX L y.1).1)∧I.cell? ⟨By,1,none⟩=some (iT (iX L y.1).2.1)∧aB={ tmps:=#[.agg #[iT q,.slice am nm cm,.slice a0 U c0,.slice a1 Z c1,.slice a2 n2 c2,.slice ak nk ck],.pointer (some ⟨w.heap.size,0,none⟩),.pointer (some ⟨w.heap.size+1,0,none⟩),.pointer (some ⟨w.heap.size+1+1+1,0,none⟩),undef,.slice s L.length d,undef,.pointer (pT By),.map (some (w.heap.size+1+1)),.agg #[iT q,.slice am nm cm,.slice a0 U c0,.slice a1 Z c1,.slice a2 n2 c2,.slice ak nk ck],sL g P.length c,.func (.func 252) #[] #[.pointer (some ⟨W1.heap.size,0,none⟩)],iT (x.1:Nat),.slice s L.length d,.slice s L.length d,.func (.func 228) #[] #[.pointer (some ⟨W.heap.size,0,none⟩)],iT (y.1:Nat),.agg #[.string (iX L y.1).1,iT (iX L y.1).2.1,iT (iX L y.1).2.2.1,.string (iX L y.1).2.2.2.1,iT (iX L y.1).2.2.2.2],undef,undef,undef,undef,undef,undef,undef,undef,undef,undef,undef,undef,undef,undef,undef,undef,undef,undef,undef],defers:=[] })
   (fun y aB _ X Y row hs hg hr=>by obtain ⟨By,h1,h2,h3,h4⟩:=hs;exact ⟨By,h1,cell_kept h2 hg (fun r e=>(hr r e).2),cell_kept h3 hg (fun r e=>(hr r e).2),h4⟩)
   ?assign2 ?body2 ?done2 ?stop2
  case assign2 =>
   rintro l2 E y I K ⟨hJ,a4,J,hz⟩ hK;gi_wp2
   refine hK _ _ ((KeepsOthers.alloc _ _).from _) (bQ.of ((Below.refl I.heap.size I).alloc (GL _) _) (fun k hk=>by omega)) ⟨hJ.alloc _,a4.trans (bQ.of ((Below.refl I.heap.size I).alloc (GL _) _) (fun k hk=>by omega)),J.trans ((KeepsOthers.alloc _ _).from _),by simp;omega⟩ ⟨I.heap.size,by omega,by simp,by simp,rfl⟩
  case body2 =>
   rintro l2 E y aB I _ _ ⟨⟨j1,j2,j3,j4,⟨D,j5,j6⟩,j7,j8⟩,a4,J,hz⟩ ⟨By,bW,aM,aZ,rfl⟩ bB;have a9:Eq (mi L T (E++[y])=iX L y.1 :: mi L T E):=Ai L T E y;have b9:=Cg L T E;obtain ⟨T',aV⟩:∃T',mi L T E=T':=⟨_,rfl⟩;rw [aV] at j1 j5 j6 a9 b9;clear aV;have hew:d9 (iX L y.1):=by rw [zR y.2];exact HE.o.ents _ (Hj y.2)
   obtain ⟨e,he⟩:∃e,iX L y.1=e:=⟨_,rfl⟩;rw [he] at aM aZ a9 hew ⊢;clear he;obtain ⟨R,eq,ed,et,en⟩:=e;simp only at aM aZ;have bp:R.size≤maxLen:=hew.1;have Q:=Go.WideMaps.keyOf_string_mk (k:=9) Tryz.underlying9 (s:=R) bp;have bb:(Lit.int .i64 eq).wf=true:=hew.2.1;have al:Eq (D.atKey (.string R.data.toList) (.lit (.int .i64 0))=.lit (.int .i64 (pv T' R))):=j5.val R;have bg:Eq (uc (D.put (.string R.data.toList) (.lit (.int .i64 eq))) ((R,eq,ed,et,en) :: T')):=j5.put (R,eq,ed,et,en);have b2:Eq (pv T' R<eq→eq≤q→dP q ((R,eq,ed,et,en) :: T')=true):=fun h1 h2=>yu j1 h1 h2
   have au:Eq (¬(pv T' R<eq∧eq≤q)→∀B,dP q (B++(R,eq,ed,et,en) :: T')=false):=fun h B=>yt (e:=(R,eq,ed,et,en)) h
   obtain ⟨c0',aQ⟩:∃c0',pv T' R=c0':=⟨_,rfl⟩;rw [aQ] at al b2 au;clear aQ j5 hew;have cR:=j2.cell;have fR:=j2.frozen;have cM:=j3.cell;have ap:Eq (Bl w I):=j7;have ba:Eq (bQ (fun k=>k<W0.heap.size∧k≠w.heap.size+1+1) W I):=a4;have az:Eq (KeepsFrom W0.heap.size W I):=J;have bo:=j7.size;clear j7 a4 J;by_cases c9:eq≤c0'
   · gi_wp2_with (gi_at_lookup;refine wpListIn_lookup_own_int _ rfl _ _ 239 rfl 9 3 .i64 (Maps.string_keyed Tryz.underlying9) Tryz.underlying239 Tryz.underlying3 (Tryz.zeroValue3 _) (w.heap.size+1+1) T'.length _ rfl j6 _ _ rfl Q ?_;intro cc hat aW;obtain rfl:c0'=cc:=by (have:=al.o.symm.trans hat;simpa using this))
     exact ⟨(KeepsOthers.setCell _ _ _).from _,⟨rfl,fun B=>by rw [a9.o];exact au.o (by omega) B⟩,j2.set _,ap.o.setCell (p:=⟨w.heap.size+1,0,none⟩) (by simp) _,az.o.trans ((KeepsOthers.setCell _ _ _).from _)⟩
   · by_cases bL:q<eq
     · gi_wp2_with (gi_at_lookup;refine wpListIn_lookup_own_int _ rfl _ _ 239 rfl 9 3 .i64 (Maps.string_keyed Tryz.underlying9) Tryz.underlying239 Tryz.underlying3 (Tryz.zeroValue3 _) (w.heap.size+1+1) T'.length _ rfl j6 _ _ rfl Q ?_;intro cc hat aW;obtain rfl:c0'=cc:=by (have:=al.o.symm.trans hat;simpa using this))
       exact ⟨(KeepsOthers.setCell _ _ _).from _,⟨rfl,fun B=>by rw [a9.o];exact au.o (by omega) B⟩,j2.set _,ap.o.setCell (p:=⟨w.heap.size+1,0,none⟩) (by simp) _,az.o.trans ((KeepsOthers.setCell _ _ _).from _)⟩
     · gi_wp2_with (first
        | (gi_at_lookup;refine wpListIn_lookup_own_int _ rfl _ _ 239 rfl 9 3 .i64 (Maps.string_keyed Tryz.underlying9) Tryz.underlying239 Tryz.underlying3 (Tryz.zeroValue3 _) (w.heap.size+1+1) T'.length _ rfl j6 _ _ rfl Q ?_;intro cc hat aW;obtain rfl:c0'=cc:=by (have:=al.o.symm.trans hat;simpa using this))
        | (gi_at_mapUpdate;refine wpListIn_mapUpdate_own _ rfl _ _ _ 239 rfl 9 3 (Maps.string_keyed Tryz.underlying9) Tryz.underlying239 _ (w.heap.size+1+1) T'.length _ rfl j6 ?_ _ _ _ rfl rfl Q _ [] (plainElem_int Tryz.underlying3 bb) ?_;unfold maxLen;omega;intro w1 av u))
       refine ⟨KeepsFrom.of_grownBy u (fun j e=>by cases e;simp;omega),bQ.grown u (fun k hk=>⟨by omega,fun e=>hk.2 (by cases e;rfl)⟩),⟨?_,ba.o.trans (bQ.grown u (fun k hk=>⟨by omega,fun e=>hk.2 (by cases e;rfl)⟩)),az.o.trans (KeepsFrom.of_grownBy u (fun j e=>by cases e;omega)),GU hz u.size⟩⟩;rw [a9.o];exact ⟨b2.o (by omega) (by omega),j2.kept u (by simp),j3.kept u (by simp),u.cell j4 (by simp;omega),⟨_,bg.o,av⟩,ap.o.grown u bo (fun k e=>by cases e;omega),GU j8 u.size⟩
  case done2 =>
   rintro bT I rfl ⟨hJ,a4,J,hz⟩;rw [vk] at hJ;gi_wp2
   refine ⟨J,a4,?_⟩;show mH w q W0.heap.size (j9 P (F++[x])) I
   rw [aF.o];exact hJ
  case stop2 =>
   rintro cd E I ag ⟨⟨rfl,ar⟩,bk,be,J⟩;gi_wp2
   obtain ⟨B0,ay⟩:=Ce (T:=T) ag;exact ⟨J,⟨rfl,fun B=>by rw [aF.o,ay,← Hd];exact ar _⟩,bk,be⟩
 case done =>
  rintro D zs W hD rfl ⟨j1,j2,j3,j4,j5,j6,j7⟩ hK;rw [vj] at j1;have cR:=j2.cell;have fR:=j2.frozen;gi_wp2
  have aA:=(KeepsOthers.setCell W ⟨w.heap.size+1,0,none⟩ (.bool true)).same D _ hK rfl;refine ⟨by simp,.inl ⟨_,_,rfl,run_takeDeferred aA,?_⟩⟩;have aD:=cell_kept (j2.set (.bool true)).cell (grownBy_putObj' _ D (.deferred none)) (fun r e=>by cases e;exact ⟨_,aA,rfl⟩);refine ⟨.bool true,?_,by rw [j1],(j6.setCell (p:=⟨w.heap.size+1,0,none⟩) (by simp) _).trans (belowK_b (w:=w) (GL _) _ D _ _ (by omega) aA rfl rfl)⟩;simp [results,Tryz.f198,go_sem,aD]
 case stop =>
  rintro D cd F W hD ag ⟨⟨rfl,ar⟩,bc,b7⟩ hK;gi_wp2
  refine ⟨by simp,.inl ⟨_,_,rfl,run_takeDeferred hK,?_⟩⟩;have aD:=cell_kept bc.cell (grownBy_putObj' _ D (.deferred none)) (fun r e=>by cases e;exact ⟨_,hK,rfl⟩);obtain ⟨B0,ay⟩:=Cb ag;refine ⟨.bool false,?_,by rw [ay,ar],b7.trans (belowK_b (w:=w) (GL _) W D _ _ (by omega) hK rfl rfl)⟩;simp [results,Tryz.f198,go_sem,aD]
end
theorem Ca {B:List af} {S:List Int} (h:¬(0≤q∧q≤100000∧cG S q=true∧M.length≤60∧aI M=true∧bF A B C=true∧dP q (dq M A B C).flatten=true)):aP q M [A,B,C] S=false:=by
 rw [IL];exact fun h'=>h ((lj q M A B C S).1 h')
theorem ij {B:List af} (h:bF A B C=true):A.length≤8∧B.length≤8∧C.length≤8∧∀r,r ∈ A∨r ∈ B∨r ∈ C→r.1.length≤150:=by
 unfold bF vZ qH at h;simp only [G2,decide_eq_true_eq,Jh] at h;obtain ⟨⟨a1,a2⟩,⟨b1,b2,_⟩,⟨c1,d,_⟩⟩:=h;refine ⟨by omega,by omega,by omega,?_⟩;rintro r (hr | hr | hr)
 · exact (bE (nM a2 r hr)).2.1
 · exact (bE (nM b2 r hr)).2.1
 · exact (bE (nM d r hr)).2.1
theorem wh {B:List af} (hM:M.length≤60) (h:bF A B C=true):∀l ∈ dq M A B C,l.length≤150:=by
 have hs:=(ij h).2.2.2;intro l hl;unfold dq at hl;simp only [GZ,GX,Ib,Jf] at hl;rcases hl with rfl | ⟨r,hr,rfl⟩ | ⟨r,hr,rfl⟩ | ⟨r,hr,rfl⟩
 · omega
 · exact hs r (.inl hr)
 · exact hs r (.inr (.inl hr))
 · exact hs r (.inr (.inr hr))
theorem Dx (lo:Nat) (q:Int) (H Q:Option Addr) (t K O R:Nat) (a0 a1 a2:Option Addr) (N c0 U c1 n2 c2:Nat) (M:List ac) (A B C:List af) (S:List Int) (w:World) (hM:ah w H t K M) (hS:bJ lo w Q O R S) (h0:aw lo w a0 N c0 A) (h1:aw lo w a1 U c1 B) (h2:aw lo w a2 n2 c2 C) :
 Calls Tryz.prog 142 #[.agg #[iT q,.slice H t K,.slice a0 N c0,.slice a1 U c1,.slice a2 n2 c2,.slice Q O R]] w fun e w'=>e=.returned (.bool (aP q M [A,B,C] S))∧Bl w w':=by
 have I:Eq (M.length=t):=hM.length;have HM:=az hM;have HS:=az hS;have H0:=az h0;have H1:=az h1;have H2:=az h2;have F:Eq (¬(0≤q∧q≤100000∧cG S q=true∧M.length≤60∧aI M=true∧bF A B C=true∧dP q (dq M A B C).flatten=true)→aP q M [A,B,C] S=false):=Ca;have HY:Eq (0≤q→q≤100000→cG S q=true→M.length≤60→aI M=true→bF A B C=true→dP q (dq M A B C).flatten=true→aP q M [A,B,C] S=true):=fun e1 e2 e3 e4 e5 e6 e7=>(lj q M A B C S).2 ⟨e1,e2,e3,e4,e5,e6,e7⟩
 clear hM hS h0 h1 h2;obtain ⟨Z,hZ⟩:∃Z,aP q M [A,B,C] S=Z:=⟨_,rfl⟩;rw [hZ] at F HY ⊢;clear hZ;obtain ⟨W,x⟩:=aG (w.alloc (.cells #[iT q,.slice H t K,.slice a0 N c0,.slice a1 U c1,.slice a2 n2 c2,.slice Q O R] 82));have kW:Bl w W:=by rw [x];exact bZ
 obtain ⟨X,D⟩:=aG w.heap.size;have x0:W.cell? ⟨X,0,none⟩=some (iT q):=by rw [x,D];simp
 have x1:W.cell? ⟨X,1,none⟩=some (.slice H t K):=by rw [x,D];simp
 have x2:W.cell? ⟨X,2,none⟩=some (.slice a0 N c0):=by rw [x,D];simp
 have x3:W.cell? ⟨X,3,none⟩=some (.slice a1 U c1):=by rw [x,D];simp
 have x4:W.cell? ⟨X,4,none⟩=some (.slice a2 n2 c2):=by rw [x,D];simp
 have x5:W.cell? ⟨X,5,none⟩=some (.slice Q O R):=by rw [x,D];simp
 have zX:=GK _ _ x0;have u:Eq (Bl w W):=kW;go_enter Tryz.func142,Tryz.ntmps142
 go_upto_region 1 with fail
 rw [← x,← D];clear x D kW;by_cases e1:q<0
 · have n:Eq (Z=false):=F.o (fun h=>by have:=h.1;omega);go_wp2;go_ret;exact ⟨aj n.o.symm,u.o⟩
 by_cases e2:100000<q
 · have n:Eq (Z=false):=F.o (fun h=>by have:=h.2.1;omega);go_wp2;go_ret;exact ⟨aj n.o.symm,u.o⟩
 have an:0≤q:=by omega
 have a7:q≤100000:=by omega
 obtain ⟨bS,g⟩:∃b,b=cG S q:=⟨_,rfl⟩;go_wp2_with fail
 refine (AZ lo Q O R S q W (HS.o.keep u.o)).mono ?_;rw [← g];rintro e w1 ⟨rfl,rfl⟩;cases bS with
 | false =>
  have n:Eq (Z=false):=F.o (fun h=>by have:=h.2.2.1;rw [← g] at this;cases this);clear g;go_wp2;go_ret;exact ⟨aj n.o.symm,u.o⟩
 | true =>
 have a8:Eq (cG S q=true):=g.symm;clear g;by_cases e3:(60:Int)<(t:Int)
 · have n:Eq (Z=false):=F.o (fun h=>by have:=h.2.2.2.1;have:=I.o;omega);go_wp2;go_ret;exact ⟨aj n.o.symm,u.o⟩
 have aJ:(t:Int)≤60:=by omega
 obtain ⟨bR,r⟩:∃b,b=aI M:=⟨_,rfl⟩;go_wp2_with fail
 refine (oM H t K M _ (HM.o.keep u.o)).mono ?_;rw [← r];rintro e w2 ⟨rfl,d⟩;have x0:=cell_later d x0;have x1:=cell_later d x1;have x2:=cell_later d x2;have x3:=cell_later d x3;have x4:=cell_later d x4;have x5:=cell_later d x5;have zX:=GK _ _ x0;have J:Eq (Bl w w2):=u.o.trans (d.mono u.o.size);clear d u;cases bR with
 | false =>
  have n:Eq (Z=false):=F.o (fun h=>by have:=h.2.2.2.2.1;rw [← r] at this;cases this);clear r;go_wp2;go_ret;exact ⟨aj n.o.symm,J.o⟩
 | true =>
 have ae:Eq (aI M=true):=r.symm;clear r;obtain ⟨bL,m⟩:∃b,b=bF A B C:=⟨_,rfl⟩;go_wp2_with fail
 refine (yP lo q H Q t K O R a0 a1 a2 N c0 U c1 n2 c2 A B C w2 (H0.o.keep J.o) (H1.o.keep J.o) (H2.o.keep J.o)).mono ?_;rw [← m];rintro e w3 ⟨rfl,f⟩;have x0:=cell_later f x0;have x1:=cell_later f x1;have x2:=cell_later f x2;have x3:=cell_later f x3;have x4:=cell_later f x4;have x5:=cell_later f x5;have zX:=GK _ _ x0;have E:Eq (Bl w w3):=J.o.trans (f.mono J.o.size);clear f J;cases bL with
 | false =>
  have n:Eq (Z=false):=F.o (fun h=>by have:=h.2.2.2.2.2.1;rw [← m] at this;cases this);clear m;go_wp2;go_ret;exact ⟨aj n.o.symm,E.o⟩
 | true =>
 have s:Eq (bF A B C=true):=m.symm;clear m;have ai:Eq (∀l ∈ dq M A B C,l.length≤150):=wh (by have:=I.o;omega) s.o;have al:N≤8:=by have:=H0.o.length;have:=(ij s.o).1;omega
 have aa:U≤8:=by have:=H1.o.length;have:=(ij s.o).2.1;omega
 have ab:n2≤8:=by have:=H2.o.length;have:=(ij s.o).2.2.1;omega
 obtain ⟨bN,y⟩:∃b,b=dP q (dq M A B C).flatten:=⟨_,rfl⟩;have HZ:Eq (Z=bN):=by
  cases bN with
  | false=>exact F.o (fun h=>by have:=h.2.2.2.2.2.2;rw [← y] at this;cases this)
  | true=>exact HY.o an a7 a8.o (by have:=I.o;omega) ae.o s.o y.symm
 go_wp2_with fail
 refine (callsIn_wide.1 (A4 lo q H Q t K O R a0 a1 a2 N c0 U c1 n2 c2 M A B C w3 (HM.o.keep E.o) (H0.o.keep E.o) (H1.o.keep E.o) (H2.o.keep E.o) al aa ab ai.o)).mono ?_;rw [← y];clear y;rintro e w4 ⟨rfl,Y⟩;have K4:Eq (Bl w w4):=E.o.trans (Y.mono E.o.size);clear Y E;go_wp2;go_ret;exact ⟨aj HZ.o.symm,K4.o⟩
structure cu (w:World) (b:Nat) (u0 u1 u2 u3 u4 u5:Value):Prop where
 c0:w.cell? ⟨b,0,none⟩=some u0
 c1:w.cell? ⟨b,1,none⟩=some u1
 c2:w.cell? ⟨b,2,none⟩=some u2
 c3:w.cell? ⟨b,3,none⟩=some u3
 c4:w.cell? ⟨b,4,none⟩=some u4
 c5:w.cell? ⟨b,5,none⟩=some u5
 fz:∀o,w.frozen? ⟨b,o,none⟩=false
theorem cu.lt (h:cu w b u0 u1 u2 u3 u4 u5):b<w.heap.size:=GK w _ h.c0
theorem cu.all(h:cu w b u0 u1 u2 u3 u4 u5):w.cell? ⟨b,0,none⟩=some u0∧w.cell? ⟨b,1,none⟩=some u1∧w.cell? ⟨b,2,none⟩=some u2∧w.cell? ⟨b,3,none⟩=some u3∧w.cell? ⟨b,4,none⟩=some u4∧w.cell? ⟨b,5,none⟩=some u5∧(∀o,w.frozen? ⟨b,o,none⟩=false)∧b<w.heap.size:=⟨h.c0,h.c1,h.c2,h.c3,h.c4,h.c5,h.fz,h.lt⟩
theorem cu.new (w:World) (t:TypeId) (u0 u1 u2 u3 u4 u5:Value):cu (w.alloc (.cells #[u0,u1,u2,u3,u4,u5] t)) w.heap.size u0 u1 u2 u3 u4 u5:=⟨by simp,by simp,by simp,by simp,by simp,by simp,fun o=>by simp⟩
theorem cu.below {B:Nat} (h:cu w b u0 u1 u2 u3 u4 u5) (hb:Below B w w') (hB:b<B):cu w' b u0 u1 u2 u3 u4 u5 :=
 ⟨(hb.cell (p:=⟨b,0,none⟩) hB).trans h.c0,(hb.cell (p:=⟨b,1,none⟩) hB).trans h.c1,(hb.cell (p:=⟨b,2,none⟩) hB).trans h.c2,(hb.cell (p:=⟨b,3,none⟩) hB).trans h.c3,(hb.cell (p:=⟨b,4,none⟩) hB).trans h.c4,(hb.cell (p:=⟨b,5,none⟩) hB).trans h.c5,fun o=>(IT (hb.block b hB)).trans (h.fz o)⟩
theorem cu.keep (h:cu w b u0 u1 u2 u3 u4 u5) (hb:Bl w w'):cu w' b u0 u1 u2 u3 u4 u5:=h.below hb h.lt
theorem cu.alloc (h:cu w b u0 u1 u2 u3 u4 u5) (o:Obj):cu (w.alloc o) b u0 u1 u2 u3 u4 u5:=h.keep bZ
theorem cu.other (h:cu w b u0 u1 u2 u3 u4 u5) {b' o:Nat} (hp:b'≠b) (x:Value):cu (w.setCell ⟨b',o,none⟩ x) b u0 u1 u2 u3 u4 u5 :=
 ⟨(an x (fun e=>hp e.1.symm)).trans h.c0,(an x (fun e=>hp e.1.symm)).trans h.c1,(an x (fun e=>hp e.1.symm)).trans h.c2,(an x (fun e=>hp e.1.symm)).trans h.c3,(an x (fun e=>hp e.1.symm)).trans h.c4,(an x (fun e=>hp e.1.symm)).trans h.c5,fun o=>by rw [G8];exact h.fz o⟩
theorem cu.set0 (h:cu w b u0 u1 u2 u3 u4 u5) (x:Value):cu (w.setCell ⟨b,0,none⟩ x) b x u1 u2 u3 u4 u5 :=
 ⟨G3 _ _ _ (by rw [h.c0];rfl),(an x (by simp)).trans h.c1,(an x (by simp)).trans h.c2,(an x (by simp)).trans h.c3,(an x (by simp)).trans h.c4,(an x (by simp)).trans h.c5,fun o=>by rw [G8];exact h.fz o⟩
theorem cu.set1 (h:cu w b u0 u1 u2 u3 u4 u5) (x:Value):cu (w.setCell ⟨b,1,none⟩ x) b u0 x u2 u3 u4 u5 :=
 ⟨(an x (by simp)).trans h.c0,G3 _ _ _ (by rw [h.c1];rfl),(an x (by simp)).trans h.c2,(an x (by simp)).trans h.c3,(an x (by simp)).trans h.c4,(an x (by simp)).trans h.c5,fun o=>by rw [G8];exact h.fz o⟩
theorem cu.set2 (h:cu w b u0 u1 u2 u3 u4 u5) (x:Value):cu (w.setCell ⟨b,2,none⟩ x) b u0 u1 x u3 u4 u5 :=
 ⟨(an x (by simp)).trans h.c0,(an x (by simp)).trans h.c1,G3 _ _ _ (by rw [h.c2];rfl),(an x (by simp)).trans h.c3,(an x (by simp)).trans h.c4,(an x (by simp)).trans h.c5,fun o=>by rw [G8];exact h.fz o⟩
theorem cu.set3 (h:cu w b u0 u1 u2 u3 u4 u5) (x:Value):cu (w.setCell ⟨b,3,none⟩ x) b u0 u1 u2 x u4 u5 :=
 ⟨(an x (by simp)).trans h.c0,(an x (by simp)).trans h.c1,(an x (by simp)).trans h.c2,G3 _ _ _ (by rw [h.c3];rfl),(an x (by simp)).trans h.c4,(an x (by simp)).trans h.c5,fun o=>by rw [G8];exact h.fz o⟩
theorem cu.set4 (h:cu w b u0 u1 u2 u3 u4 u5) (x:Value):cu (w.setCell ⟨b,4,none⟩ x) b u0 u1 u2 u3 x u5 :=
 ⟨(an x (by simp)).trans h.c0,(an x (by simp)).trans h.c1,(an x (by simp)).trans h.c2,(an x (by simp)).trans h.c3,G3 _ _ _ (by rw [h.c4];rfl),(an x (by simp)).trans h.c5,fun o=>by rw [G8];exact h.fz o⟩
theorem cu.set5 (h:cu w b u0 u1 u2 u3 u4 u5) (x:Value):cu (w.setCell ⟨b,5,none⟩ x) b u0 u1 u2 u3 u4 x :=
 ⟨(an x (by simp)).trans h.c0,(an x (by simp)).trans h.c1,(an x (by simp)).trans h.c2,(an x (by simp)).trans h.c3,(an x (by simp)).trans h.c4,G3 _ _ _ (by rw [h.c5];rfl),fun o=>by rw [G8];exact h.fz o⟩
theorem jh (lo:Nat) (m:Int) (n x:Option Addr) (r s b o J u y:Nat) (M:List ac) (A B C:List af) (S:List Int) (a0 a1 a2:Option Addr) (F c0 I c1 n2 c2:Nat) (w:World) (hM:ah w n r s M) (hS:bJ lo w x u y S) (h0:aw lo w a0 F c0 A) (h1:aw lo w a1 I c1 B) (h2:aw lo w a2 n2 c2 C)
 (l0:w.cell? ⟨b,o,none⟩=some (.slice a0 F c0)) (l1:w.cell? ⟨b,o+1,none⟩=some (.slice a1 I c1)) (l2:w.cell? ⟨b,o+2,none⟩=some (.slice a2 n2 c2)) :
 Calls Tryz.prog 86 #[.agg #[iT m,.slice n r s,sO b o 3 J,.slice x u y]] w fun e w'=>e=.returned (.tuple #[.agg #[iT m,.slice n r s,.slice a0 F c0,.slice a1 I c1,.slice a2 n2 c2,.slice x u y],.bool (aP m M [A,B,C] S)])∧Bl w w':=by
 have Z:=GK _ _ l0;simp only at Z;obtain ⟨X,R⟩:=aG w.heap.size;obtain ⟨W,U⟩:=aG (((w.alloc (.cells #[iT m,.slice n r s,sO b o 3 J,.slice x u y] 31)).alloc (.cells #[iT 0,nZ,nZ,nZ,nZ,nZ] 82)).alloc (.cells #[iT m,.slice n r s,nZ,nZ,nZ,.slice x u y] 82));have Y:Bl w W:=by rw [U];exact (bZ.alloc (by simp) _).alloc (by simp;omega) _
 have xa:(w.alloc (.cells #[iT m,.slice n r s,sO b o 3 J,.slice x u y] 31)).cell? ⟨X,2,none⟩=some (sO b o 3 J):=by rw [R];simp
 have x2:W.cell? ⟨X,2,none⟩=some (sO b o 3 J):=by
  rw [U];exact cell_later bZ (cell_later bZ xa)
 have K:cu W (X+1) (iT 0) nZ nZ nZ nZ nZ:=by
  have:=(cu.new (w.alloc (.cells #[iT m,.slice n r s,sO b o 3 J,.slice x u y] 31)) 82 (iT 0) nZ nZ nZ nZ nZ).alloc (.cells #[iT m,.slice n r s,nZ,nZ,nZ,.slice x u y] 82);rw [GY] at this;rw [U,R];exact this
 have E:cu W (X+1+1) (iT m) (.slice n r s) nZ nZ nZ (.slice x u y):=by
  have:=cu.new ((w.alloc (.cells #[iT m,.slice n r s,sO b o 3 J,.slice x u y] 31)).alloc (.cells #[iT 0,nZ,nZ,nZ,nZ,nZ] 82)) 82 (iT m) (.slice n r s) nZ nZ nZ (.slice x u y);rw [GY,GY] at this;rw [U,R];exact this
 have k0:=cell_later Y l0;have k1:=cell_later Y l1;have k2:=cell_later Y l2;have a4:(Builtin.copy_ #[29,29] 3 #[.slice (some ⟨X+1+1,2,none⟩) 3 3,sO b o 3 J]).run Tryz.prog W.drew=.ok (goInt 3) (W.drew.setCells (X+1+1) 2 [.slice a0 F c0,.slice a1 I c1,.slice a2 n2 c2]):=by
  refine run_copy_cells (P:=Tryz.prog) W.drew 29 29 3 61 (X+1+1) 2 3 3 ⟨b,o,none⟩ 3 J [.slice a0 F c0,.slice a1 I c1,.slice a2 n2 c2] Tryz.underlying29 (by kernel_rfl) rfl ?_ ?_ ?_ ?_
  · intro j v H;rw [G6];match j,H with
    | 0,H=>simp at H;subst H;exact k0
    | 1,H=>simp at H;subst H;exact k1
    | 2,H=>simp at H;subst H;exact k2
  · intro j H;match j,H with
    | 0,_=>exact Ja.2 ⟨_,E.c2⟩
    | 1,_=>exact Ja.2 ⟨_,E.c3⟩
    | 2,_=>exact Ja.2 ⟨_,E.c4⟩
  · exact fun j _=>E.fz _
  · intro v hv;simp at hv;rcases hv with rfl | rfl | rfl <;> rfl
 have HM:=az hM;have HS:=az hS;have H0:=az h0;have H1:=az h1;have H2:=az h2;have KW:Eq (Bl w W):=Y;have HX:Eq (X=w.heap.size):=R;clear hM hS h0 h1 h2 Y l0 l1 l2 k0 k1 k2 xa;go_enter Tryz.func86,Tryz.ntmps86
 go_upto_region 4 with fail
 rw [← R,← U];clear R U;have zX:X<W.heap.size:=GK _ _ x2;have zS:=E.lt;go_region_with (fail)
 obtain ⟨N,O⟩:=aG (W.drew.setCells (X+1+1) 2 [.slice a0 F c0,.slice a1 I c1,.slice a2 n2 c2]);have D:N=((W.drew.setCell ⟨X+1+1,2,none⟩ (.slice a0 F c0)).setCell ⟨X+1+1,3,none⟩ (.slice a1 I c1)).setCell ⟨X+1+1,4,none⟩ (.slice a2 n2 c2):=by rw [O];rfl
 have f:cu N (X+1+1) (iT m) (.slice n r s) (.slice a0 F c0) (.slice a1 I c1) (.slice a2 n2 c2) (.slice x u y):=by
  have d:cu W.drew (X+1+1) (iT m) (.slice n r s) nZ nZ nZ (.slice x u y):=⟨E.c0,E.c1,E.c2,E.c3,E.c4,E.c5,E.fz⟩;rw [D];exact ((d.set2 _).set3 _).set4 _
 have a3:cu N (X+1) (iT 0) nZ nZ nZ nZ nZ:=by
  have d:cu W.drew (X+1) (iT 0) nZ nZ nZ nZ nZ:=⟨K.c0,K.c1,K.c2,K.c3,K.c4,K.c5,K.fz⟩;rw [D];exact ((d.other (by omega) _).other (by omega) _).other (by omega) _
 have Q:Eq (Bl w N):=by
  have hx:w.heap.size≤X+1+1:=by have:=HX.o;omega
  rw [D];exact ((KW.o.drew.setCell (p:=⟨X+1+1,2,none⟩) hx _).setCell (p:=⟨X+1+1,3,none⟩) hx _).setCell (p:=⟨X+1+1,4,none⟩) hx _
 rw [← O];clear O D a4 x2 E K zS zX KW Z;have g:Eq (cu N (X+1) (iT 0) nZ nZ nZ nZ nZ):=a3;have y0:=f.c0;have y1:=f.c1;have y2:=f.c2;have y3:=f.c3;have y4:=f.c4;have y5:=f.c5;have zS:=f.lt;have aD:Eq (cu N (X+1+1) (iT m) (.slice n r s) (.slice a0 F c0) (.slice a1 I c1) (.slice a2 n2 c2) (.slice x u y)):=f;clear a3 f;go_upto_region 5 with fail
 go_region_with (go_at_call 142;refine (Dx lo m n x r s u y a0 a1 a2 F c0 I c1 n2 c2 M A B C S _ (HM.o.keep Q.o.drew) (HS.o.keep Q.o.drew) (H0.o.keep Q.o.drew) (H1.o.keep Q.o.drew) (H2.o.keep Q.o.drew)).mono ?_;rintro e w5 ⟨rfl,a5⟩;have t:Bl N w5:=((Below.refl _ N).drew).trans a5;have ag:=cell_later t y0;have aC:=cell_later t y1;have ax:=cell_later t y2;have al:=cell_later t y3;have ap:=cell_later t y4;have aq:=cell_later t y5;have ae:=E' zS t.size;have r0:=(g.o.keep t).c0;have r1:=(g.o.keep t).c1;have r2:=(g.o.keep t).c2;have r3:=(g.o.keep t).c3;have r4:=(g.o.keep t).c4;have r5:=(g.o.keep t).c5;have rf:=(g.o.keep t).fz;have rz:=(g.o.keep t).lt)
 all_goals
  go_wp2;refine bodyPost_ret (v:=.tuple #[.agg #[iT m,.slice n r s,.slice a0 F c0,.slice a1 I c1,.slice a2 n2 c2,.slice x u y],.bool (aP m M [A,B,C] S)]) ?_ rfl ⟨rfl,?_⟩
  · have c:=((((((g.o.keep t).set0 (iT m)).set1 (.slice n r s)).set2 (.slice a0 F c0)).set3 (.slice a1 I c1)).set4 (.slice a2 n2 c2)).set5 (.slice x u y);simp [results,Tryz.results86,go_sem,c.all]
  · have hx:w.heap.size≤X+1:=by have:=HX.o;omega
    have K5:=Q.o.trans (t.mono Q.o.size);exact ((jY K5 hx _ _ _ _).setCell (p:=⟨X+1,4,none⟩) hx _).setCell (p:=⟨X+1,5,none⟩) hx _
theorem kM (t:Int) (g s r:Option Addr) (m u d n o y:Nat) (w:World) (hn:¬d=3) :
 Calls Tryz.prog 86 #[.agg #[iT t,.slice g m u,.slice s d n,.slice r o y]] w fun e w'=>e=.returned (.tuple #[.agg #[iT 0,nZ,nZ,nZ,nZ,nZ],.bool false])∧Bl w w':=by
 have x:¬(d:Int)=3:=by omega
 have E:((d:Int) == 3)=false:=by simpa using x
 obtain ⟨W,f⟩:=aG ((w.alloc (.cells #[iT t,.slice g m u,.slice s d n,.slice r o y] 31)).alloc (.cells #[iT 0,nZ,nZ,nZ,nZ,nZ] 82));have D:Bl w W:=by rw [f];exact bZ.alloc (by simp) _
 have B:cu W (w.heap.size+1) (iT 0) nZ nZ nZ nZ nZ:=by
  have:=cu.new (w.alloc (.cells #[iT t,.slice g m u,.slice s d n,.slice r o y] 31)) 82 (iT 0) nZ nZ nZ nZ nZ;rw [GY] at this;rw [f];exact this
 go_enter Tryz.func86,Tryz.ntmps86
 go_upto_region 2 with fail
 rw [← f];clear f;have F:=B.all;go_wp2;refine bodyPost_ret (v:=.tuple #[.agg #[iT 0,nZ,nZ,nZ,nZ,nZ],.bool false]) ?_ rfl ⟨rfl,?_⟩
 · have c:=(((((B.set0 (iT 0)).set1 nZ).set2 nZ).set3 nZ).set4 nZ).set5 nZ;simp [results,Tryz.results86,go_sem,c.all]
 · have hx:w.heap.size≤w.heap.size+1:=by omega
   exact ((jY D hx _ _ _ _).setCell (p:=⟨w.heap.size+1,4,none⟩) hx _).setCell (p:=⟨w.heap.size+1,5,none⟩) hx _
end Go.Proofs.YtpobkmjicbobdaaGreat
