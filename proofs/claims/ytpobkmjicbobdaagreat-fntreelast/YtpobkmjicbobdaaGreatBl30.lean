/- Walks. -/
import Derived.Test.YtpobkmjicbobdaaGreatBl29
namespace Go.Proofs.YtpobkmjicbobdaaGreat
set_option maxRecDepth 100000
set_option maxHeartbeats 40000000
open Go.RowKit
variable {M:List ac} {P R base c cap fuel g i len z:Nat} {a:Option Addr} {d m q:Int} {k t:ByteArray} {w w':World}
def pr (M:List ac):Prop:=∀l ∈ M,lO l.1∧lO l.2.2.2.1
theorem pr.snoc {l:ac} (h:pr M) (hk:lO l.1) (b:lO l.2.2.2.1):pr (M++[l]):=by
 intro x hx;rcases Dd.1 hx with h1 | h1
 · exact h x h1
 · rw [Df] at h1;subst h1;exact ⟨hk,b⟩
theorem rJ {n:Int} (h:iX k t q d n):dR (k,q,d,t,n) :=
 ⟨by have:=h.1.1;unfold maxLen;show k.size≤_;omega,h.2.2.1,h.2.2.2.1,by have:=h.2.1.1;unfold maxLen;show t.size≤_;omega,h.2.2.2.2⟩
def Cr (R:Nat) (a:Option Addr) (len cap P:Nat) (w:World) (e:Ending) (w':World):Prop :=
 ∃(g n c P':Nat) (M:List ac),e=.returned (sL g n c)∧af w' w.heap.size g n c M∧pr M∧n≤13∧aZ w' R a len cap P'∧P'≤P+200∧w.grownBy w' (some R)
theorem aZ.grownO (h:aZ w R a len cap P) (hg:w.grownBy w' (some g)) (hR:R≠g) (hB:∀b f,a=some ⟨b,f,none⟩→0<len→b≠g):aZ w' R a len cap P where
 c0:=(aj hg (x:=⟨R,0,none⟩) h.lt hR).trans h.c0
 c1:=(aj hg (x:=⟨R,1,none⟩) h.lt hR).trans h.c1
 f1:=(Eq (hg.block R h.lt (fun e=>hR (by cases e;rfl)))).trans h.f1
 few:=h.few
 two:=fun o=>(aj hg (x:=⟨R,o+2,none⟩) h.lt hR).trans (h.two o)
 bytes:=by
  rcases h.bytes with h0 | ⟨b,f,rfl,hb,n,hc⟩
  · exact Or.inl h0
  · by_cases h0:len=0
    · exact Or.inl h0
    · refine Or.inr ⟨b,f,rfl,hb,l' n hg.size,fun i hi=>?_⟩;obtain ⟨z,hz,r⟩:=hc i hi;exact ⟨z,hz,(aj hg (x:=⟨b,f+i,none⟩) n (hB b f rfl (by omega))).trans r⟩
theorem aZ.low (h:aZ w R a len cap P):∀b f,a=some ⟨b,f,none⟩→0<len→b<w.heap.size:=by
 intro b f e hl;rcases h.bytes with h0 | ⟨b',r,o,hb,n,hc⟩
 · omega
 · rw [e] at o;cases o;exact n
theorem yZ {n:Nat} {v:Int} (h:af w base g n c ((k,q,d,t,m) :: M)) (hv:(Lit.int .i64 v).wf=true):af (w.setCell ⟨g,1,none⟩ (iT v)) base g n c ((k,v,d,t,m) :: M):=by
 have hw:=h.ents (k,q,d,t,m) (by simp);exact ⟨(h.owns.stored 1 (iT v)).1,h.len,fun l hl=>by
  rcases Da.1 hl with rfl | h1
  · exact ⟨hw.1,hv,hw.2.2⟩
  · exact h.ents l (by simp [h1])⟩
theorem uE {n:Nat} {f r:ByteArray} {b e o:Int} (h:af w base g n c ((k,q,d,t,m) :: M)) (hv:dR (f,b,e,r,o)):af (((((w.setCell ⟨g,0,none⟩ (.string f)).setCell ⟨g,1,none⟩ (iT b)).setCell ⟨g,2,none⟩ (iT e)).setCell ⟨g,3,none⟩ (.string r)).setCell ⟨g,4,none⟩ (iT o)) base g n c ((f,b,e,r,o) :: M):=by
 have h0:=(h.owns.stored 0 (.string f)).1;have h1:=(h0.stored 1 (iT b)).1;have h2:=(h1.stored 2 (iT e)).1;have h3:=(h2.stored 3 (.string r)).1;have h4:=(h3.stored 4 (iT o)).1;exact ⟨h4,h.len,fun l hl=>by
  rcases Da.1 hl with rfl | hm
  · exact hv
  · exact h.ents l (by simp [hm])⟩
theorem tr (R P:Nat) (a:Option Addr) (len cap:Nat) (w:World) (h:aZ w R a len cap P) (hP:P<90000) :
 Calls Tryz.prog 95 #[.pointer (pT R)] w fun e w'=>Cr R a len cap P w e w':=by
 obtain ⟨i0,hi,bu,bb,be⟩:=info_parts Tryz.infoEnt;have am:CG (∀b T,a=some ⟨b,T,none⟩→0<len→b<w.heap.size):=h.low;have cn:=h.lt;obtain ⟨W0,aB⟩:∃W,W=w.alloc (.cells #[] 50):=⟨_,rfl⟩;have bq:CG (W0.ownsRow w.heap.size 50 5 (sL (w.heap.size) 0 0) 0 (aC [])):=by
  have:=Do (base:=w.heap.size) (e:=50) (size:=5) w #[] 0 (Cy _) (by simp) (by simp);show World.ownsRow _ _ _ _ _ _ _
  rw [aB];simpa [aC] using this
 have U:Bl w W0:=by rw [aB];exact bZ
 have R0:aZ W0 R a len cap P:=h.below U;have G0:w.grownBy W0 (some R):=aS U;clear h;go_enter Tryz.func95,Tryz.ntmps95
 go_wp2_with fail
 rw [← aB];clear aB U;refine (bX R P a len cap 5 _ R0 (by omega) (by omega)).mono ?_;rintro e w1 ⟨q,rfl,hq,ba,b0⟩;have bh:0≤q∧q<5:=⟨hq.1,hq.2 (by omega)⟩;obtain ⟨N,rfl⟩:=DL bh.1;have av:w1.ownsRow w.heap.size 50 5 (sL (w.heap.size) 0 0) 0 (aC []):=bq.o.kept b0 (.inr (by simp [Value.ownBlock];omega));have G1:=ae G0 b0;clear hq b0 bq R0 G0;have bL:IntKind.i64.wrap (1+(N:Int))=1+(N:Int):=by rw [Dg];unfold wrap64;omega
 have b7:CG (aZ w1 R a len cap (P+1)):=ba;have bn:CG (w1.ownsRow w.heap.size 50 5 (sL (w.heap.size) 0 0) 0 (aC [])):=av;have bg:CG (w.grownBy w1 (some R)):=G1;clear ba av G1;go_wp2;go_loopw [3,4] (fun vv iv wr=>∃(i n g c I:Nat) (M:List ac),iv=iT (i:Int)∧vv=sL g n c∧n+i=1+N∧I≤P+1+5*n∧aZ wr R a len cap I∧wr.ownsRow w.heap.size 50 5 (sL g n c) n (aC M)∧M.length=n∧(∀l ∈ M,dR l)∧pr M∧w.grownBy wr (some R)) (fun _ iv _=>(intOf iv).toNat)
 case atStart=>exact ⟨1+N,0,_,0,P+1,[],by simp,rfl,by omega,by omega,b7.o,bn.o,rfl,by simp,fun l hl=>by simp at hl,bg.o⟩
 case round =>
  clear b7 bn bg;obtain ⟨i,n,g,c,I,M,rfl,rfl,bR,bs,aq,hv,al,hw,an,hg⟩:=hrel;have a0:CG (aZ wr R a len cap I):=aq;have HV:CG (wr.ownsRow w.heap.size 50 5 (sL g n c) n (aC M)):=hv;have Z:CG (M.length=n):=al;have HW:CG (∀l ∈ M,dR l):=hw;have L:CG (pr M):=an;have HG:CG (w.grownBy wr (some R)):=hg;clear aq hv al hw an hg;by_cases bO:0<i
  · have aF:(i:Int) > 0:=by omega
    have cq:IntKind.i64.wrap ((i:Int) - 1)=(i:Int) - 1:=by rw [Dg];unfold wrap64;omega
    go_wp2_with fail
    refine (gP R I a len cap 0 _ a0.o (by omega) (by decide)).mono ?_;rintro e E ⟨B,A,f,d,nn,P2,rfl,D,ao,bC,a8⟩;have aa:CG (iX B A f d nn):=D;have ap:CG (E.ownsRow w.heap.size 50 5 (sL g n c) n (aC M)):=HV.o.kept a8 (.inr (by have:=(HV.o.lt g rfl).1;simp [Value.ownBlock];omega));have a4:CG (w.grownBy E (some R)):=ae HG.o a8;have ar:CG (aZ E R a len cap P2):=ao;have bk:=a4.o.size;clear D ao a8 HV HG a0;have aK:CG (∀j u,[Value.string B,iT f,iT d,.string A,iT nn][j]?=some u→(E.alloc (.cells #[.string B,iT f,iT d,.string A,iT nn] 50)).cell? ((⟨E.heap.size,0,none⟩:Addr).add j)=some u):=pf E B f d A nn;have ka:Bl E (E.alloc (.cells #[.string B,iT f,iT d,.string A,iT nn] 50)):=bZ;have aw:CG ((E.alloc (.cells #[.string B,iT f,iT d,.string A,iT nn] 50)).ownsRow w.heap.size 50 5 (sL g n c) n (aC M)):=vz ap.o ka;have a5:CG (w.grownBy (E.alloc (.cells #[.string B,iT f,iT d,.string A,iT nn] 50)) (some R)):=ae a4.o (aS ka);have ax:CG (aZ (E.alloc (.cells #[.string B,iT f,iT d,.string A,iT nn] 50)) R a len cap P2):=ar.o.below ka;have C:CG (w.heap.size≤g):=(aw.o.lt g rfl).1;have aP:CG (w.heap.size≤(E.alloc (.cells #[.string B,iT f,iT d,.string A,iT nn] 50)).heap.size):=a5.o.size;clear ka ap a4 ar;go_wp2_with (at_builtin;refine wpList_append_own _ rfl _ _ 28 rfl w.heap.size 50 i0 _ 5 56 Tryz.underlying28 hi bu bb be rfl (by decide) _ _ _ rfl aw.o ⟨E.heap.size,0,none⟩ 1 1 [.string B,iT f,iT d,.string A,iT nn] rfl rfl aK.o (by intro u hu;simp at hu;rcases hu with rfl | rfl | rfl | rfl | rfl <;> rfl) (by unfold maxLen;omega) (by omega) aP.o ?_;intro v2 w4 J X a3;obtain ⟨g2,c2,rfl⟩:=vA J a3)
    go_roundw
    case rel =>
     have ak:(E.alloc (.cells #[.string B,iT f,iT d,.string A,iT nn] 50)).grownBy w4 (some g):=X;have aO:(M++[((B,f,d,A,nn):ac)]).length=n+1:=by rw [CW,Z.o];rfl
     have aM:∀l ∈ M++[((B,f,d,A,nn):ac)],dR l:=by
      intro l hl;rcases Dd.1 hl with h | h
      · exact HW.o l h
      · rw [Df] at h;subst h;exact rJ aa.o
     have aN:pr (M++[((B,f,d,A,nn):ac)]):=L.o.snoc aa.o.1 aa.o.2.1;have aY:w4.ownsRow w.heap.size 50 5 (sL g2 (n+1) c2) (n+1) (aC (M++[((B,f,d,A,nn):ac)])):=by rw [aJ];exact J
     have aR:w.grownBy w4 (some R):=aG a5.o C.o ak;have aH:aZ w4 R a len cap P2:=ax.o.grownO ak (by have:=C.o;omega) (fun b T e hl=>by have h1:=am.o b T e hl;have:=C.o;omega);exact ⟨i - 1,n+1,g2,c2,P2,_,by rw [show ((i - 1:Nat):Int)=(i:Int) - 1 by omega],rfl,by omega,by omega,aH,aY,aO,aM,aN,aR⟩
    case measure=>simp [intOf];omega
  · have aF:¬(i:Int) > 0:=by omega
    have bJ:n≤5:=by omega
    have aL:1≤n:=by omega
    clear bR;go_wp2_with fail
    refine (bX R I a len cap 40 _ a0.o (by omega) (by omega)).mono ?_;rintro e O ⟨q,rfl,hq,bf,aT⟩;have ad:CG (aZ O R a len cap (I+1)):=bf;have F:CG (af O w.heap.size g n c M):=⟨HV.o.kept aT (.inr (by have:=(HV.o.lt g rfl).1;simp [Value.ownBlock];omega)),Z.o,HW.o⟩;have ag:CG (w.grownBy O (some R)):=ae HG.o aT;have bx:0≤q∧q<40:=⟨hq.1,hq.2 (by omega)⟩;have C:CG (w.heap.size≤g):=F.o.lt.1;clear hq bf aT a0 HV HG;by_cases z0:q=0
    · subst z0;have bE:CG (af (O.alloc (.cells #[] 50)) w.heap.size O.heap.size 0 0 []):=by
       have:=Do (base:=w.heap.size) (e:=50) (size:=5) O #[] 0 ag.o.size (by simp) (by simp);exact ⟨by simpa [aC] using this,rfl,by simp⟩
      have ka:Bl O (O.alloc (.cells #[] 50)):=bZ;have ax:CG (aZ (O.alloc (.cells #[] 50)) R a len cap (I+1)):=ad.o.below ka;have a5:CG (w.grownBy (O.alloc (.cells #[] 50)) (some R)):=ae ag.o (aS ka);clear ka;go_wp2;go_ret;exact ⟨_,0,0,I+1,[],rfl,bE.o,fun l hl=>by simp at hl,by omega,ax.o,by omega,a5.o⟩
    have bm:(q == 0)=false:=by simpa using z0
    obtain ⟨l0,M',hM⟩:∃l0 M',M=l0 :: M':=by
     cases M with
     | nil=>have:=Z.o;simp at this;omega
     | cons x r=>exact ⟨x,r,rfl⟩
    obtain ⟨U,q0,d0,t0,m0⟩:=l0;subst hM;have aA:CG (iX U t0 q0 d0 m0):=⟨(L.o (U,q0,d0,t0,m0) (by simp)).1,(L.o (U,q0,d0,t0,m0) (by simp)).2,(HW.o (U,q0,d0,t0,m0) (by simp)).2.1,(HW.o (U,q0,d0,t0,m0) (by simp)).2.2.1,(HW.o (U,q0,d0,t0,m0) (by simp)).2.2.2.2⟩;have aW:CG (pr M'):=fun l hl=>L.o l (by simp [hl])
    have a2:CG (∀b T,a=some ⟨b,T,none⟩→0<len→b≠g):=fun b T e hl=>by have h1:=am.o b T e hl;have:=C.o;omega
    have K:g≠R:=by have:=C.o;omega
    have br:R≠g:=by have:=C.o;omega
    by_cases z1:q=1
    · subst z1;go_wp2_with fail
      have kc:Bl O (O.alloc (.cells ((([1,-1]:List Int).map iT).toArray) 3)):=bZ;refine (dF Wf R (I+1) a len cap O.heap.size 0 2 2 _ (ad.o.below kc) (by omega) (by omega) (by omega) (by have:=ad.o.lt;omega) (by simp) (dl O 3 [1,-1] Wf ?_)).mono ?_
      · intro s hs;simp only [Da,Dr,or_false] at hs;rcases hs with rfl | rfl <;> (unfold Wf;decide)
      rintro e Y ⟨v,rfl,hv,ai,a9⟩;have ah:CG (af Y w.heap.size g n c ((U,q0,d0,t0,m0) :: M')):=(F.o.below kc).grown a9 (by simpa using K);have aI:CG (w.grownBy Y (some R)):=ae (ae ag.o (aS kc)) a9;have bd:CG (aZ Y R a len cap (I+1+1)):=ai;have aX:CG (af (Y.setCell ⟨g,1,none⟩ (iT v)) w.heap.size g n c ((U,v,d0,t0,m0) :: M')):=yZ ah.o hv;have aQ:CG (aZ (Y.setCell ⟨g,1,none⟩ (iT v)) R a len cap (I+1+1)):=ai.other K a2.o _ _;have aU:CG (w.grownBy (Y.setCell ⟨g,1,none⟩ (iT v)) (some R)):=aG aI.o C.o (aE _ _ _ _);have c1:Y.cell? ⟨g,1,none⟩=some (iT q0):=(ah.o.owns.cellAt 1 (by omega)).trans rfl;have f1:Y.frozen? ⟨g,1,none⟩=false:=ah.o.owns.frozenAt 1;have aV:=ah.o.lt.2;clear kc ai a9;go_wp2;go_ret;exact ⟨g,n,c,I+1+1,_,rfl,aX.o,fun l hl=>(by
       rcases Da.1 hl with rfl | h1
       · exact ⟨aA.o.1,aA.o.2.1⟩
       · exact aW.o l h1),by omega,aQ.o,by omega,aU.o⟩
    have bt:(q == 1)=false:=by simpa using z1
    by_cases z2:q=2
    · subst z2;have c0:O.cell? ⟨g,0,none⟩=some (.string U):=(F.o.owns.cellAt 0 (by omega)).trans rfl;have c1:O.cell? ⟨g,1,none⟩=some (iT q0):=(F.o.owns.cellAt 1 (by omega)).trans rfl;have c2:O.cell? ⟨g,2,none⟩=some (iT d0):=(F.o.owns.cellAt 2 (by omega)).trans rfl;have c3:O.cell? ⟨g,3,none⟩=some (.string t0):=(F.o.owns.cellAt 3 (by omega)).trans rfl;have c4:O.cell? ⟨g,4,none⟩=some (iT m0):=(F.o.owns.cellAt 4 (by omega)).trans rfl;have aV:=F.o.lt.2;go_wp2_with fail
      clear c0 c1 c2 c3 c4 aV;refine (eu R (I+1) a len cap U t0 q0 d0 m0 _ ad.o (by omega) aA.o).mono ?_;rintro e Y ⟨k6,t6,q6,d6,m6,P6,rfl,D,hR,cd,hg⟩;have bF:CG (iX k6 t6 q6 d6 m6):=D;have bd:CG (aZ Y R a len cap P6):=hR;have ah:CG (af Y w.heap.size g n c ((U,q0,d0,t0,m0) :: M')):=F.o.grown hg (by simpa using K);have aI:CG (w.grownBy Y (some R)):=ae ag.o hg;clear D hR hg;go_wp2_with fail
      refine (eu R (P6) a len cap k6 t6 q6 d6 m6 _ bd.o (by omega) bF.o).mono ?_;rintro e w7 ⟨k7,t7,q7,d7,m7,P7,rfl,D,hR,c6,hg⟩;have bG:CG (iX k7 t7 q7 d7 m7):=D;have aQ:CG (aZ w7 R a len cap P7):=hR;have aX:CG (af w7 w.heap.size g n c ((U,q0,d0,t0,m0) :: M')):=ah.o.grown hg (by simpa using K);have aU:CG (w.grownBy w7 (some R)):=ae aI.o hg;clear D hR hg;go_wp2_with fail
      refine (eu R (P7) a len cap k7 t7 q7 d7 m7 _ aQ.o (by omega) bG.o).mono ?_;rintro e w8 ⟨k8,t8,q8,d8,m8,P8,rfl,D,hR,cj,hg⟩;have b2:CG (iX k8 t8 q8 d8 m8):=D;have bK:CG (aZ w8 R a len cap P8):=hR;have H:CG (af w8 w.heap.size g n c ((U,q0,d0,t0,m0) :: M')):=aX.o.grown hg (by simpa using K);have bM:CG (w.grownBy w8 (some R)):=ae aU.o hg;clear D hR hg;have c0:w8.cell? ⟨g,0,none⟩=some (.string U):=(H.o.owns.cellAt 0 (by omega)).trans rfl;have c1:w8.cell? ⟨g,1,none⟩=some (iT q0):=(H.o.owns.cellAt 1 (by omega)).trans rfl;have c2:w8.cell? ⟨g,2,none⟩=some (iT d0):=(H.o.owns.cellAt 2 (by omega)).trans rfl;have c3:w8.cell? ⟨g,3,none⟩=some (.string t0):=(H.o.owns.cellAt 3 (by omega)).trans rfl;have c4:w8.cell? ⟨g,4,none⟩=some (iT m0):=(H.o.owns.cellAt 4 (by omega)).trans rfl;have f0:w8.frozen? ⟨g,0,none⟩=false:=H.o.owns.frozenAt 0;have f1:w8.frozen? ⟨g,1,none⟩=false:=H.o.owns.frozenAt 1;have f2:w8.frozen? ⟨g,2,none⟩=false:=H.o.owns.frozenAt 2;have f3:w8.frozen? ⟨g,3,none⟩=false:=H.o.owns.frozenAt 3;have f4:w8.frozen? ⟨g,4,none⟩=false:=H.o.owns.frozenAt 4;have aV:=H.o.lt.2;have bH:CG (af (((((w8.setCell ⟨g,0,none⟩ (.string k8)).setCell ⟨g,1,none⟩ (iT q8)).setCell ⟨g,2,none⟩ (iT d8)).setCell ⟨g,3,none⟩ (.string t8)).setCell ⟨g,4,none⟩ (iT m8)) w.heap.size g n c ((k8,q8,d8,t8,m8) :: M')):=uE H.o (rJ b2.o);have bT:CG (aZ (((((w8.setCell ⟨g,0,none⟩ (.string k8)).setCell ⟨g,1,none⟩ (iT q8)).setCell ⟨g,2,none⟩ (iT d8)).setCell ⟨g,3,none⟩ (.string t8)).setCell ⟨g,4,none⟩ (iT m8)) R a len cap P8):=((((bK.o.other K a2.o _ _).other K a2.o _ _).other K a2.o _ _).other K a2.o _ _).other K a2.o _ _;have bB:CG (w.grownBy (((((w8.setCell ⟨g,0,none⟩ (.string k8)).setCell ⟨g,1,none⟩ (iT q8)).setCell ⟨g,2,none⟩ (iT d8)).setCell ⟨g,3,none⟩ (.string t8)).setCell ⟨g,4,none⟩ (iT m8)) (some R)):=aG bM.o C.o (ae (ae (ae (ae (aE _ _ _ _) (aE _ _ _ _)) (aE _ _ _ _)) (aE _ _ _ _)) (aE _ _ _ _));go_wp2;go_ret;exact ⟨g,n,c,P8,_,rfl,bH.o,fun l hl=>(by
       rcases Da.1 hl with rfl | h1
       · exact ⟨b2.o.1,b2.o.2.1⟩
       · exact aW.o l h1),by omega,bT.o,by omega,bB.o⟩
    have bo:(q == 2)=false:=by simpa using z2
    by_cases z3:q=3
    · subst z3;have b9:=F.o.owns;have bp:CG (O.ownsRow w.heap.size 50 5 (sL g n c) n (aC ((U,q0,d0,t0,m0) :: M'))):=F.o.owns;have b6:CG (I≤P+26):=by show _≤_;omega
      clear b9;go_wp2;go_loopw [3] (fun vv wr=>∃(n g c I:Nat) (M:List ac),vv=sL g n c∧1≤n∧n≤13∧I≤P+27+6*n∧aZ wr R a len cap I∧wr.ownsRow w.heap.size 50 5 (sL g n c) n (aC M)∧M.length=n∧(∀l ∈ M,dR l)∧pr M∧w.grownBy wr (some R)) (fun vv _=>14 - BM vv)
      case atStart=>exact ⟨n,g,c,I+1,_,rfl,aL,by omega,by have:=b6.o;omega,ad.o,bp.o,Z.o,HW.o,L.o,ag.o⟩
      case round =>
       clear F ad ag bp Z HW L aA aW a2 C K br aL bJ b6 z0 z1 z2 bm bt bo bs aF bO bx bh bL;obtain ⟨n,g,c,I,M,rfl,aL,b5,bs,aq,hv,al,hw,an,hg⟩:=hrel;have b1:CG (wr.ownsRow w.heap.size 50 5 (sL g n c) n (aC M)):=hv;have Z:CG (M.length=n):=al;have HW:CG (∀l ∈ M,dR l):=hw;have L:CG (pr M):=an;have bl:CG (w.grownBy wr (some R)):=hg;clear hv al hw an hg;go_wp2_with fail
       refine (bX R I a len cap 2 _ aq (by omega) (by omega)).mono ?_;rintro e Y ⟨y,rfl,hy,ai,a9⟩;have cp:0≤y∧y<2:=⟨hy.1,hy.2 (by omega)⟩;have a0:CG (aZ Y R a len cap (I+1)):=ai;have HV:CG (Y.ownsRow w.heap.size 50 5 (sL g n c) n (aC M)):=b1.o.kept a9 (.inr (by have:=(b1.o.lt g rfl).1;simp [Value.ownBlock];omega));have HG:CG (w.grownBy Y (some R)):=ae bl.o a9;have bY:IntKind.i64.wrap (12+y)=12+y:=by rw [Dg];unfold wrap64;omega
       clear hy ai a9 b1 bl aq;by_cases bI:(n:Int)<12+y
       · go_wp2_with fail
         refine (gP R (I+1) a len cap 0 _ a0.o (by omega) (by decide)).mono ?_;rintro e E ⟨B,A,f,d,nn,P2,rfl,D,ao,bC,a8⟩;have aa:CG (iX B A f d nn):=D;have ap:CG (E.ownsRow w.heap.size 50 5 (sL g n c) n (aC M)):=HV.o.kept a8 (.inr (by have:=(HV.o.lt g rfl).1;simp [Value.ownBlock];omega));have a4:CG (w.grownBy E (some R)):=ae HG.o a8;have ar:CG (aZ E R a len cap P2):=ao;have bk:=a4.o.size;clear D ao a8 HV HG a0;have aK:CG (∀j u,[Value.string B,iT f,iT d,.string A,iT nn][j]?=some u→(E.alloc (.cells #[.string B,iT f,iT d,.string A,iT nn] 50)).cell? ((⟨E.heap.size,0,none⟩:Addr).add j)=some u):=pf E B f d A nn;have ka:Bl E (E.alloc (.cells #[.string B,iT f,iT d,.string A,iT nn] 50)):=bZ;have aw:CG ((E.alloc (.cells #[.string B,iT f,iT d,.string A,iT nn] 50)).ownsRow w.heap.size 50 5 (sL g n c) n (aC M)):=vz ap.o ka;have a5:CG (w.grownBy (E.alloc (.cells #[.string B,iT f,iT d,.string A,iT nn] 50)) (some R)):=ae a4.o (aS ka);have ax:CG (aZ (E.alloc (.cells #[.string B,iT f,iT d,.string A,iT nn] 50)) R a len cap P2):=ar.o.below ka;have C:CG (w.heap.size≤g):=(aw.o.lt g rfl).1;have aP:CG (w.heap.size≤(E.alloc (.cells #[.string B,iT f,iT d,.string A,iT nn] 50)).heap.size):=a5.o.size;clear ka ap a4 ar;go_wp2_with (at_builtin;refine wpList_append_own _ rfl _ _ 28 rfl w.heap.size 50 i0 _ 5 56 Tryz.underlying28 hi bu bb be rfl (by decide) _ _ _ rfl aw.o ⟨E.heap.size,0,none⟩ 1 1 [.string B,iT f,iT d,.string A,iT nn] rfl rfl aK.o (by intro u hu;simp at hu;rcases hu with rfl | rfl | rfl | rfl | rfl <;> rfl) (by unfold maxLen;omega) (by omega) aP.o ?_;intro v2 w4 J X a3;obtain ⟨g2,c2,rfl⟩:=vA J a3)
         go_roundw
         case rel =>
          have ak:(E.alloc (.cells #[.string B,iT f,iT d,.string A,iT nn] 50)).grownBy w4 (some g):=X;have aO:(M++[((B,f,d,A,nn):ac)]).length=n+1:=by rw [CW,Z.o];rfl
          have aM:∀l ∈ M++[((B,f,d,A,nn):ac)],dR l:=by
           intro l hl;rcases Dd.1 hl with h | h
           · exact HW.o l h
           · rw [Df] at h;subst h;exact rJ aa.o
          have aN:pr (M++[((B,f,d,A,nn):ac)]):=L.o.snoc aa.o.1 aa.o.2.1;have aY:w4.ownsRow w.heap.size 50 5 (sL g2 (n+1) c2) (n+1) (aC (M++[((B,f,d,A,nn):ac)])):=by rw [aJ];exact J
          have aR:w.grownBy w4 (some R):=aG a5.o C.o ak;have aH:aZ w4 R a len cap P2:=ax.o.grownO ak (by have:=C.o;omega) (fun b T e hl=>by have h1:=am.o b T e hl;have:=C.o;omega);exact ⟨n+1,g2,c2,P2,_,rfl,by omega,by omega,by omega,aH,aY,aO,aM,aN,aR⟩
         case measure=>simp [BM];omega
       · have ca:¬(n:Int)<12+y:=bI;have bN:CG (af Y w.heap.size g n c M):=⟨HV.o,Z.o,HW.o⟩;go_wp2;go_ret;exact ⟨g,n,c,I+1,M,rfl,bN.o,L.o,b5,a0.o,by omega,HG.o⟩
    have bW:(q == 3)=false:=by simpa using z3
    go_wp2;go_ret;exact ⟨g,n,c,I+1,_,rfl,F.o,L.o,by omega,ad.o,by omega,ag.o⟩
def qM (a:Option Addr) (len R:Nat):Prop:=len=0∨∀b off,a=some ⟨b,off,none⟩→b<R
theorem aZ.grown {row:Option Nat} (h:aZ w R a len cap P) (hg:w.grownBy w' row) (f:qM a len R) (hR:∀k,row=some k→R<k):aZ w' R a len cap P where
 c0:=hg.cell h.c0 (fun e=>by have:=hR _ e.symm;simp at this)
 c1:=hg.cell h.c1 (fun e=>by have:=hR _ e.symm;simp at this)
 f1:=(bn hg (x:=⟨R,1,none⟩) h.lt (fun e=>by have:=hR _ e.symm;simp at this)).trans h.f1
 few:=h.few
 two:=fun o=>(DJ (a:=⟨R,o+2,none⟩) (hg.block R h.lt (fun e=>by have:=hR _ e.symm;omega))).trans (h.two o)
 bytes:=by
  rcases h.bytes with e | ⟨b,n,ha,r,u,hc⟩
  · exact Or.inl e
  · rcases f with e | f
    · exact Or.inl e
    refine Or.inr ⟨b,n,ha,r,l' u hg.size,fun i hi=>?_⟩;obtain ⟨z,hz,s⟩:=hc i hi;have:=f b n ha;exact ⟨z,hz,hg.cell s (fun e=>by have:=hR _ e.symm;simp at this;omega)⟩
section
section
variable {P:Program} {ops:Array Oper} {Q:Exit→Act→World→Prop} {md:Region.Mode} {S:World→Prop} {z:Nat}
def dS (P:Program) (md:Region.Mode) (ops:Array Oper) (Q:Exit→Act→World→Prop) (S:World→Prop) (z:Nat):Nat→Array Bool→Act→World→Prop
 | 0,listed,a,w=>Region.ready md ops listed=[]∧Q .normal a w
 | fuel+1,listed,a,w =>
  (Region.ready md ops listed=[]→Q .normal a w) ∧
  ∀i ∈ Region.ready md ops listed,wpOp P ops Q i (fun a' w'=>((listed.setIfInBounds i true).getD z false=true∨S w')∧dS P md ops Q S z fuel (listed.setIfInBounds i true) a' w') a w
theorem nq:∀(fuel:Nat) (b:Array Bool) (a:Act) (w:World),dS P md ops Q S z fuel b a w→wpAny P md ops Q fuel b a w
 | 0,_,_,_,h=>h
 | fuel+1,_,_,_,h=>⟨h.1,fun i hi=>wpOp_mono (fun f w' e=>nq fuel _ f w' e.2) (h.2 i hi)⟩
def tV (md:Region.Mode) (ops:Array Oper) (listed:Array Bool) (i z:Nat) (D:List Nat):Prop :=
 z ∈ D∧i ∉ D∧∀d ∈ D,listed.getD d true=false∧∃o,ops[d]?=some o∧∃e ∈ o.after,Region.binds md e=true∧(e.on=i∨e.on ∈ D)
theorem lB {b:Array Bool} (h:b.getD i true=false):b.getD i false=false:=by
 rcases Nat.lt_or_ge i b.size with e | e
 · simp [e] at h ⊢;exact h
 · simp [Array.getElem?_eq_none e] at h
theorem tV.not_ready {listed:Array Bool} {D:List Nat} (h:tV md ops listed i z D) (hi:listed.getD i true=false) {d:Nat} (hd:d ∈ D):d ∉ Region.ready md ops listed:=fun hr=>by
 obtain ⟨_,o,ho,e,r,hb,b⟩:=h.2.2 d hd
 obtain ⟨_,s,n,f⟩:=mem_ready.1 hr
 rw [ho] at n
 cases n
 have h1:=f e r hb
 rcases b with b | b
 · rw [b,lB hi] at h1;cases h1
 · rw [lB (h.2.2 _ b).1] at h1;cases h1
theorem qO {B:Oper} {v:Value} {D:List Nat} (hi:ops[i]?=some B) (u:∀(j:Nat) (o:Oper) cs b,ops[j]?=some o→o.op≠.select cs b)
 (hQ:∀c a w,Q (.panic c) (a.put B.dst v) w→Q (.panic c) a w) :
 ∀(fuel:Nat) (f:Array Bool) (a:Act) (w:World),
  (∀j A,ops[j]?=some A→j≠i→f.getD j true=false→(∀e ∈ A.after,Region.binds md e=true→e.on≠i)→B.apart ops A=true) →
  tV md ops f i z D→i ∈ Region.ready md ops f→YieldsIf P ops S B v a→S w →
  dS P md ops Q S z fuel (f.setIfInBounds i true) (a.put B.dst v) w→dS P md ops Q S z (fuel+1) f a w:=by
 intro fuel;induction fuel with
 | zero =>
  intro f a w _ _ hr hy hS H;refine ⟨fun h=>(by rw [h] at hr;cases hr),fun j N=>?_⟩;by_cases n:j=i
  · subst n;exact hy.wpOp hi hS ⟨.inr hS,H⟩
  · have:=ready_mono N n;rw [H.1] at this;cases this
 | succ fuel Y =>
  intro f a w r hD hr hy hS H;refine ⟨fun h=>(by rw [h] at hr;cases hr),fun j N=>?_⟩;by_cases n:j=i
  · subst n;exact hy.wpOp hi hS ⟨.inr hS,H⟩
  · have h1:=H.2 j (ready_mono N n);obtain ⟨y,A,C,K⟩:=mem_ready.1 N;have x:=(mem_ready.1 hr).1;have F:∀e ∈ A.after,Region.binds md e=true→e.on≠i:=fun e he hb T=>by
     have h1:=K e he hb;rw [T,lB x] at h1;cases h1
    have h2:=wpOp_putIf C (r j A C n y F) (fun cs b=>u i B cs b hi) (fun cs b=>u j A cs b C) hQ hy h1;have s:∀k O,ops[k]?=some O→k≠i→(f.setIfInBounds j true).getD k true=false →
     (∀e ∈ O.after,Region.binds md e=true→e.on≠i)→B.apart ops O=true:=fun k O hk U L W=>by
     refine r k O hk U ?_ W;by_cases E:j=k
     · subst E;exact y
     · rw [getD_set_ne true E] at L;exact L
    have J:∀d ∈ D,j≠d:=fun d hd e=>hD.not_ready x hd (e ▸ N)
    have X:tV md ops (f.setIfInBounds j true) i z D:=⟨hD.1,hD.2.1,fun d hd=>⟨by rw [getD_set_ne true (J d hd)];exact (hD.2.2 d hd).1,(hD.2.2 d hd).2⟩⟩;have I:∀{w':World},(((f.setIfInBounds i true).setIfInBounds j true).getD z false=true∨S w')→S w':=fun {w'} h=>by
     rcases h with h | h
     · rw [getD_set_ne false (J z hD.1),getD_set_ne false (fun e:i=z=>hD.2.1 (by rw [e];exact hD.1)),lB (hD.2.2 z hD.1).1] at h;cases h
     · exact h
    refine wpOp_mono (fun Z w' h3=>⟨.inr (I h3.2.1),Y (f.setIfInBounds j true) Z w' s X (ready_mono hr (Ne.symm n)) h3.1 (I h3.2.1) ?_⟩) h2;rw [Array.setIfInBounds_comm _ _ n];exact h3.2.2
theorem ub {A:Oper} {v:Value} (hi:ops[i]?=some A) (u:∀(j:Nat) (o:Oper) cs b,ops[j]?=some o→o.op≠.select cs b)
 (hQ:∀c a w,Q (.panic c) (a.put A.dst v) w→Q (.panic c) a w) (hiz:i≠z) :
 ∀(fuel:Nat) (f:Array Bool) (a:Act) (w:World),
  (∀j y,ops[j]?=some y→j≠i→f.getD j true=false→(∀e ∈ y.after,Region.binds md e=true→e.on≠i)→A.apart ops y=true) →
  i ∈ Region.ready md ops f→YieldsIf P ops (fun _=>True) A v a→(f.getD z false=true∨S w) →
  dS P md ops Q S z fuel (f.setIfInBounds i true) (a.put A.dst v) w→dS P md ops Q S z (fuel+1) f a w:=by
 intro fuel;induction fuel with
 | zero =>
  intro f a w _ hr hy hS H;refine ⟨fun h=>(by rw [h] at hr;cases hr),fun j L=>?_⟩;by_cases n:j=i
  · subst n;exact hy.wpOp hi trivial ⟨by rw [getD_set_ne false hiz];exact hS,H⟩
  · have:=ready_mono L n;rw [H.1] at this;cases this
 | succ fuel U =>
  intro f a w r hr hy hS H;refine ⟨fun h=>(by rw [h] at hr;cases hr),fun j L=>?_⟩;by_cases n:j=i
  · subst n;exact hy.wpOp hi trivial ⟨by rw [getD_set_ne false hiz];exact hS,H⟩
  · have h1:=H.2 j (ready_mono L n);obtain ⟨x,y,B,I⟩:=mem_ready.1 L;have F:=(mem_ready.1 hr).1;have D:∀e ∈ y.after,Region.binds md e=true→e.on≠i:=fun e X hb N=>by
     have h1:=I e X hb;rw [N,lB F] at h1;cases h1
    have h2:=wpOp_putIf B (r j y B n x D) (fun cs b=>u i A cs b hi) (fun cs b=>u j y cs b B) hQ hy h1;have s:∀k K,ops[k]?=some K→k≠i→(f.setIfInBounds j true).getD k true=false →
     (∀e ∈ K.after,Region.binds md e=true→e.on≠i)→A.apart ops K=true:=fun k K hk O J T=>by
     refine r k K hk O ?_ T;by_cases C:j=k
     · subst C;exact x
     · rw [getD_set_ne true C] at J;exact J
    have E:∀{w':World},(((f.setIfInBounds i true).setIfInBounds j true).getD z false=true∨S w')→((f.setIfInBounds j true).getD z false=true∨S w'):=fun {w'} h=>by
     rw [Array.setIfInBounds_comm _ _ (Ne.symm n),getD_set_ne false hiz] at h;exact h
    refine wpOp_mono (fun W w' h3=>⟨E h3.2.1,U (f.setIfInBounds j true) W w' s (ready_mono hr (Ne.symm n)) h3.1 (E h3.2.1) ?_⟩) h2;rw [Array.setIfInBounds_comm _ _ n];exact h3.2.2
def zV (md:Region.Mode) (ops:Array Oper) (i:Nat):List Nat :=
 (List.range ops.size).foldl (fun acc j=>match ops[j]? with
  | some o=>if o.after.any (fun e=>Region.binds md e && (e.on == i || acc.contains e.on)) then acc++[j] else acc
  | none=>acc) []
def qP (md:Region.Mode) (ops:Array Oper) (listed:Array Bool) (i z:Nat) (D:List Nat):Bool :=
 D.contains z && !D.contains i && D.all fun d=>!listed.getD d true && match ops[d]? with
  | some o=>o.after.any (fun e=>Region.binds md e && (e.on == i || D.contains e.on))
  | none=>false
theorem yo {b:Array Bool} {D:List Nat} (h:qP md ops b i z D=true):tV md ops b i z D:=by
 unfold qP at h;simp only [Db,Dn,Bool.not_eq_true',List.contains_eq_mem,decide_eq_true_eq,decide_eq_false_iff_not] at h;refine ⟨h.1.1,h.1.2,fun d hd=>?_⟩;obtain ⟨h1,h2⟩:=h.2 d hd;refine ⟨h1,?_⟩;cases ho:ops[d]? with
 | none=>rw [ho] at h2;cases h2
 | some o =>
  rw [ho] at h2;obtain ⟨e,f,hb⟩:=Array.any_eq_true'.1 h2;simp only [Db,EG,beq_iff_eq,decide_eq_true_eq] at hb;exact ⟨o,rfl,e,f,hb.1,hb.2⟩
end
def qJ (P:Program) (md:Region.Mode) (l:List Oper) (Q:Exit→Act→World→Prop) (S:World→Prop) (z fuel:Nat) (w:World):Nat→Nat→Array Bool→Act→Prop
 | 0,_,listed,a=>dS P md l.toArray Q S z fuel listed a w
 | n+1,i,listed,a=>∃oi v,(l[i]?=some oi∧Region.noSelect l.toArray=true∧Region.free md l.toArray listed i=true∧(Region.ready md l.toArray listed).contains i=true∧qP md l.toArray listed i z (zV md l.toArray i)=true)∧(∀c a w,Q (.panic c) (a.put oi.dst v) w→Q (.panic c) a w)∧YieldsIf P l.toArray S oi v a∧qJ P md l Q S z fuel w n (i+1) (listed.setIfInBounds i true) (a.put oi.dst v)
theorem tz0 {P:Program} {md:Region.Mode} {l:List Oper} {Q:Exit→Act→World→Prop} {S:World→Prop} {b:Array Bool} {a:Act} (h:dS P md l.toArray Q S z fuel b a w):qJ P md l Q S z fuel w 0 i b a:=h
theorem Cu {P:Program} {md:Region.Mode} {l:List Oper} {Q:Exit→Act→World→Prop} {S:World→Prop} {n:Nat} {b:Array Bool} {a:Act} {e:Oper} {v:Value} (hi:l[i]?=some e) (hs:Region.noSelect l.toArray=true) (hf:Region.free md l.toArray b i=true) (hr:(Region.ready md l.toArray b).contains i=true) (hz:qP md l.toArray b i z (zV md l.toArray i)=true)
 (hQ:∀c a w,Q (.panic c) (a.put e.dst v) w→Q (.panic c) a w) (hy:YieldsIf P l.toArray S e v a) (h:qJ P md l Q S z fuel w n (i+1) (b.setIfInBounds i true) (a.put e.dst v)):qJ P md l Q S z fuel w (n+1) i b a:=⟨e,v,⟨hi,hs,hf,hr,hz⟩,hQ,hy,h⟩
theorem Ct {P:Program} {md:Region.Mode} {l:List Oper} {Q:Exit→Act→World→Prop} {S:World→Prop} {z fuel:Nat} {w:World} (hS:S w):∀(n i:Nat) (b:Array Bool) (a:Act),qJ P md l Q S z fuel w n i b a→dS P md l.toArray Q S z (fuel+n) b a w
 | 0,_,_,_,h=>h
 | n+1,_,_,_,⟨_,_,⟨hi,hs,hf,hr,hz⟩,hQ,hy,h⟩=>qO (by simpa using hi) (Region.noSelect_spec hs) hQ _ _ _ _ (Region.free_spec (by simpa using hi) hf) (yo hz) (by simpa using hr) hy hS (Ct hS n _ _ _ h)
theorem sa {P:Program} {md:Region.Mode} {l:List Oper} {Q:Exit→Act→World→Prop} {S:World→Prop} (i n:Nat) {b:Array Bool} {a:Act} {g:Prop} (hS:S w) (h:g)
 (e:g→qJ P md l Q S z fuel w n i b a:=by
  (intro hg;repeat (first | exact tz0 hg | ((refine Cu (v:=?_) rfl (by kernel_rfl) (by kernel_rfl) (by kernel_rfl) (by kernel_rfl) (fun _ _ _ h=>h) (Or.inl ⟨by rfl,?_⟩) ?_;rotate_left;· (intro w f;(try dsimp only at f);go_simp;try with_reducible rfl));try simp only [Act.put,En,ED,Eb]) | (refine Cu (v:=undef) rfl (by kernel_rfl) (by kernel_rfl) (by kernel_rfl) (by kernel_rfl) (fun _ _ _ h=>h) (Or.inr ⟨by rfl,rfl⟩) ?_;try simp only [Act.put,En,ED,Eb])))):dS P md l.toArray Q S z (fuel+n) b a w:=Ct hS n i b a (e h)
theorem Cg {P:Program} {md:Region.Mode} {l:List Oper} {Q:Exit→Act→World→Prop} {S:World→Prop} (i:Nat) {b:Array Bool} {a:Act} {oi:Oper} {v:Value} (hS:S w) (h:dS P md l.toArray Q S z fuel (b.setIfInBounds i true) (a.put oi.dst v) w)
 (hi:l[i]?=some oi:=by exact rfl) (hy:YieldsIf P l.toArray (fun _=>True) oi v a:=by (refine Or.inl ⟨by rfl,?_⟩;intro w _;go_simp;try with_reducible rfl)) (hs:Region.noSelect l.toArray=true:=by kernel_rfl) (hf:Region.free md l.toArray b i=true:=by kernel_rfl) (hr:(Region.ready md l.toArray b).contains i=true:=by kernel_rfl) (hiz:i≠z:=by decide)
 (hQ:∀c a w,Q (.panic c) (a.put oi.dst v) w→Q (.panic c) a w:=by exact fun _ _ _ h=>h):dS P md l.toArray Q S z (fuel+1) b a w:=ub (by simpa using hi) (Region.noSelect_spec hs) hQ hiz _ _ _ _ (Region.free_spec (by simpa using hi) hf) (by simpa using hr) hy (.inr hS) h
def jM (P:Program) (md:Region.Mode) (ops:Array Oper) (Q:Exit→Act→World→Prop) (S:World→Prop) (z fuel:Nat) (listed:Array Bool) (a:Act) (w:World) (rs:List Nat):Prop :=
 ∀i ∈ rs,wpOp P ops Q i (fun a' w'=>((listed.setIfInBounds i true).getD z false=true∨S w')∧dS P md ops Q S z fuel (listed.setIfInBounds i true) a' w') a w
theorem Aa {P:Program} {md:Region.Mode} {ops:Array Oper} {Q:Exit→Act→World→Prop} {S:World→Prop} {b:Array Bool} {a:Act}:jM P md ops Q S z fuel b a w []:=fun _ h=>by cases h
theorem BV {P:Program} {l:List Oper} {Q:Exit→Act→World→Prop} {md:Region.Mode} {S:World→Prop} {b:Array Bool} {a:Act} {o:Oper} {n:List Nat} (ho:l[i]?=some o)
 (h:∀e:Act→World→Prop,CN (∀a w,S w→(S w→dS P md l.toArray Q S z fuel (b.setIfInBounds i true) a w)→e a w)→if Region.wanted o (yielded l.toArray a.tmps)=true then Oper.wp P o a w e Q else e (a.put o.dst undef) w)
 (hs:jM P md l.toArray Q S z fuel b a w n):jM P md l.toArray Q S z fuel b a w (i :: n):=fun j f=>by
 rcases Da.1 f with rfl | f
 · exact wpOp_step (by simpa using ho) (fun e hK=>h e (fun a w hS r=>hK a w ⟨.inr hS,r hS⟩))
 · exact hs j f
theorem yS {P:Program} {l:List Oper} {Q:Exit→Act→World→Prop} {md:Region.Mode} {S:World→Prop} {b:Array Bool} {a:Act} {e:List Nat} (hr:Region.ready md l.toArray b=e) (f:e≠[]) (h:jM P md l.toArray Q S z fuel b a w e):dS P md l.toArray Q S z (fuel+1) b a w :=
 ⟨fun h0=>absurd (hr ▸ h0) f,hr ▸ h⟩
theorem pz {P:Program} {l:List Oper} {Q:Exit→Act→World→Prop} {md:Region.Mode} {S:World→Prop} (i:Nat) {o:Oper} {fuel:Nat} {b:Array Bool} {a:Act} {w:World}
 (h:∀e:Act→World→Prop,CN (∀a w,S w→(S w→dS P md l.toArray Q S z fuel (b.setIfInBounds i true) a w)→e a w)→if Region.wanted o (yielded l.toArray a.tmps)=true then Oper.wp P o a w e Q else e (a.put o.dst undef) w)
 (ho:l[i]?=some o:=by exact rfl) (hr:Region.ready md l.toArray b=[i]:=by kernel_rfl):dS P md l.toArray Q S z (fuel+1) b a w:=yS hr (by simp) (BV ho h Aa)
theorem Bh {P:Program} {l:List Oper} {Q:Exit→Act→World→Prop} {md:Region.Mode} {S:World→Prop} (i:Nat) {o:Oper} {fuel:Nat} {b:Array Bool} {a:Act} {w:World}
 (h:∀e:Act→World→Prop,CN (∀a w,dS P md l.toArray Q S z fuel (b.setIfInBounds i true) a w→e a w)→if Region.wanted o (yielded l.toArray a.tmps)=true then Oper.wp P o a w e Q else e (a.put o.dst undef) w)
 (ho:l[i]?=some o:=by exact rfl) (hr:Region.ready md l.toArray b=[i]:=by kernel_rfl) (hz:(b.setIfInBounds i true).getD z false=true:=by kernel_rfl):dS P md l.toArray Q S z (fuel+1) b a w :=
 yS hr (by simp) (fun j f=>by
  rcases Da.1 f with rfl | f
  · exact wpOp_step (by simpa using ho) (fun e hK=>h e (fun a w n=>hK a w ⟨.inl hz,n⟩))
  · cases f)
theorem Bw {P:Program} {ops:Array Oper} {Q:Exit→Act→World→Prop} {id:Nat} {a:Act} {R S:World→Prop} (z:Nat) (H:CG (∀w',R w'→S w')) (k:R w.drew) (h:S w.drew→dS P .any ops Q S z ops.size (Array.replicate ops.size false) a w.drew) (hm:P.follows .mixedOrders=true:=by kernel_rfl):(Code.region id ops true).wp P Q a w:=wp_region_any hm (nq _ _ _ _ (h (H.o _ k)))
theorem dZ {P:Program} {md:Region.Mode} {l:List Oper} {Q:Exit→Act→World→Prop} {S:World→Prop} {z fuel:Nat} {b:Array Bool} {a:Act} (h:Q .normal a w) (hr:Region.ready md l.toArray b=[]:=by kernel_rfl):dS P md l.toArray Q S z fuel b a w:=by
 cases fuel with
 | zero=>exact ⟨hr,h⟩
 | succ n=>exact ⟨fun _=>h,by rw [hr];simp⟩
end
end Go.Proofs.YtpobkmjicbobdaaGreat
