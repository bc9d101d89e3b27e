/- Walks. -/
import Derived.Test.YtpobkmjicbobdaaGreatBn35
namespace Go.Proofs.YtpobkmjicbobdaaGreat
set_option maxRecDepth 100000
set_option maxHeartbeats 40000000
open Go.RowKit
variable {M:List ac} {P R b base c cap g len:Nat} {a:Option Addr} {d m q:Int} {k t:ByteArray} {row:Option Nat} {u:Value} {w w':World}
def pH (M:List ac):Prop:=∀l ∈ M,lI l.1∧lI l.2.2.2.1
theorem pH.snoc {l:ac} (h:pH M) (hk:lI l.1) (ht:lI l.2.2.2.1):pH (M++[l]):=by
 intro x hx;rcases List.mem_append.1 hx with h1 | h1
 · exact h x h1
 · rw [List.mem_singleton] at h1;subst h1;exact ⟨hk,ht⟩
theorem rG {n:Int} (h:iO k t q d n):ec (k,q,d,t,n) :=
 ⟨by have:=h.1.1;unfold maxLen;show k.size≤_;omega,h.2.2.1,h.2.2.2.1,by have:=h.2.1.1;unfold maxLen;show t.size≤_;omega,h.2.2.2.2⟩
def Co (R:Nat) (a:Option Addr) (len cap P:Nat) (w:World) (e:Ending) (w':World):Prop :=
 ∃(g n c P':Nat) (M:List ac),e=.returned (sL g n c)∧ay w' w.heap.size g n c M∧pH M∧n≤13∧aW w' R a len cap P'∧P'≤P+200∧w.grownBy w' (some R)
theorem aW.grownO (h:aW w R a len cap P) (hg:w.grownBy w' (some g)) (hR:R≠g) (hB:∀b off,a=some ⟨b,off,none⟩→0<len→b≠g):aW w' R a len cap P where
 c0:=(ah hg (x:=⟨R,0,none⟩) h.lt hR).trans h.c0
 c1:=(ah hg (x:=⟨R,1,none⟩) h.lt hR).trans h.c1
 f1:=(World.frozen?_of_block (hg.block R h.lt (fun e=>hR (by cases e;rfl)))).trans h.f1
 few:=h.few
 two:=fun o=>(ah hg (x:=⟨R,o+2,none⟩) h.lt hR).trans (h.two o)
 bytes:=by
  rcases h.bytes with h0 | ⟨b,off,rfl,hb,hbw,hc⟩
  · exact Or.inl h0
  · by_cases h0:len=0
    · exact Or.inl h0
    · refine Or.inr ⟨b,off,rfl,hb,Nat.lt_of_lt_of_le hbw hg.size,fun i hi=>?_⟩;obtain ⟨z,hz,hzc⟩:=hc i hi;exact ⟨z,hz,(ah hg (x:=⟨b,off+i,none⟩) hbw (hB b off rfl (by omega))).trans hzc⟩
theorem aW.low (h:aW w R a len cap P):∀b off,a=some ⟨b,off,none⟩→0<len→b<w.heap.size:=by
 intro b off e hl;rcases h.bytes with h0 | ⟨b',off',e',hb,hbw,hc⟩
 · omega
 · rw [e] at e';cases e';exact hbw
theorem yR {n:Nat} {v:Int} (h:ay w base g n c ((k,q,d,t,m) :: M)) (hv:(Lit.int .i64 v).wf=true):ay (w.setCell ⟨g,1,none⟩ (iT v)) base g n c ((k,v,d,t,m) :: M):=by
 have hw:=h.ents (k,q,d,t,m) (by simp);exact ⟨(h.owns.stored 1 (iT v)).1,h.len,fun l hl=>by
  rcases List.mem_cons.1 hl with rfl | h1
  · exact ⟨hw.1,hv,hw.2.2⟩
  · exact h.ents l (by simp [h1])⟩
theorem uw {n:Nat} {k' t':ByteArray} {q' d' m':Int} (h:ay w base g n c ((k,q,d,t,m) :: M)) (hv:ec (k',q',d',t',m')):ay (((((w.setCell ⟨g,0,none⟩ (.string k')).setCell ⟨g,1,none⟩ (iT q')).setCell ⟨g,2,none⟩ (iT d')).setCell ⟨g,3,none⟩ (.string t')).setCell ⟨g,4,none⟩ (iT m')) base g n c ((k',q',d',t',m') :: M):=by
 have h0:=(h.owns.stored 0 (.string k')).1;have h1:=(h0.stored 1 (iT q')).1;have h2:=(h1.stored 2 (iT d')).1;have h3:=(h2.stored 3 (.string t')).1;have h4:=(h3.stored 4 (iT m')).1;exact ⟨h4,h.len,fun l hl=>by
  rcases List.mem_cons.1 hl with rfl | hm
  · exact hv
  · exact h.ents l (by simp [hm])⟩
theorem tk (R P:Nat) (a:Option Addr) (len cap:Nat) (w:World) (h:aW w R a len cap P) (hP:P<90000) :
 Calls Tryz.prog 95 #[.pointer (pT R)] w fun e w'=>Co R a len cap P w e w':=by
 obtain ⟨i0,hi,hz0,hz1,hz2⟩:=info_parts Tryz.infoEnt;have HLOW:Hid (∀b off,a=some ⟨b,off,none⟩→0<len→b<w.heap.size):=h.low;have hRw:=h.lt;obtain ⟨W0,hW0⟩:∃W,W=w.alloc (.cells #[] 50):=⟨_,rfl⟩;have HE0:Hid (W0.ownsRow w.heap.size 50 5 (sL (w.heap.size) 0 0) 0 (aE [])):=by
  have:=World.ownsRow_lit (base:=w.heap.size) (e:=50) (size:=5) w #[] 0 (Nat.le_refl _) (by simp) (by simp);show World.ownsRow _ _ _ _ _ _ _
  rw [hW0];simpa [aE] using this
 have k0:Bl w W0:=by rw [hW0];exact bZ
 have R0:aW W0 R a len cap P:=h.below k0;have G0:w.grownBy W0 (some R):=aL k0;clear h;go_enter Tryz.func95,Tryz.ntmps95
 go_wp2_with fail
 rw [← hW0];clear hW0 k0;refine (cF R P a len cap 5 _ R0 (by omega) (by omega)).mono ?_;rintro e w1 ⟨q,rfl,hq,hR1,hg1⟩;have hq5:0≤q∧q<5:=⟨hq.1,hq.2 (by omega)⟩;obtain ⟨N,rfl⟩:=Int.eq_ofNat_of_zero_le hq5.1;have hrow1:w1.ownsRow w.heap.size 50 5 (sL (w.heap.size) 0 0) 0 (aE []):=HE0.out.kept hg1 (.inr (by simp [Value.ownBlock];omega));have G1:=ae G0 hg1;clear hq hg1 HE0 R0 G0;have hw1:IntKind.i64.wrap (1+(N:Int))=1+(N:Int):=by rw [IntWalk.i64_left];unfold wrap64;omega
 have HR1:Hid (aW w1 R a len cap (P+1)):=hR1;have HV1:Hid (w1.ownsRow w.heap.size 50 5 (sL (w.heap.size) 0 0) 0 (aE [])):=hrow1;have HG1:Hid (w.grownBy w1 (some R)):=G1;clear hR1 hrow1 G1;go_wp2;go_loopw [3,4] (fun vv iv wr=>∃(i n g c P':Nat) (M:List ac),iv=iT (i:Int)∧vv=sL g n c∧n+i=1+N∧P'≤P+1+5*n∧aW wr R a len cap P'∧wr.ownsRow w.heap.size 50 5 (sL g n c) n (aE M)∧M.length=n∧(∀l ∈ M,ec l)∧pH M∧w.grownBy wr (some R)) (fun _ iv _=>(intOf iv).toNat)
 case atStart=>exact ⟨1+N,0,_,0,P+1,[],by simp,rfl,by omega,by omega,HR1.out,HV1.out,rfl,by simp,fun l hl=>by simp at hl,HG1.out⟩
 case round =>
  clear HR1 HV1 HG1;obtain ⟨i,n,g,c,P',M,rfl,rfl,hni,hP',hRW,hv,hml,hw,hfl,hg⟩:=hrel;have HRW:Hid (aW wr R a len cap P'):=hRW;have HV:Hid (wr.ownsRow w.heap.size 50 5 (sL g n c) n (aE M)):=hv;have HML:Hid (M.length=n):=hml;have HW:Hid (∀l ∈ M,ec l):=hw;have HFL:Hid (pH M):=hfl;have HG:Hid (w.grownBy wr (some R)):=hg;clear hRW hv hml hw hfl hg;by_cases hlt:0<i
  · have hltI:(i:Int) > 0:=by omega
    have hwi:IntKind.i64.wrap ((i:Int) - 1)=(i:Int) - 1:=by rw [IntWalk.i64_left];unfold wrap64;omega
    go_wp2_with fail
    refine (gP R P' a len cap 0 _ HRW.out (by omega) (by decide)).mono ?_;rintro e w2 ⟨kk,tt,qq,d,nn,P2,rfl,hEF,hR2,hP2,hg2⟩;have HEF:Hid (iO kk tt qq d nn):=hEF;have HV2:Hid (w2.ownsRow w.heap.size 50 5 (sL g n c) n (aE M)):=HV.out.kept hg2 (.inr (by have:=(HV.out.lt g rfl).1;simp [Value.ownBlock];omega));have HG2:Hid (w.grownBy w2 (some R)):=ae HG.out hg2;have HR2:Hid (aW w2 R a len cap P2):=hR2;have hz2':=HG2.out.size;clear hEF hR2 hg2 HV HG HRW;have HCN:Hid (∀j u,[Value.string kk,iT qq,iT d,.string tt,iT nn][j]?=some u→(w2.alloc (.cells #[.string kk,iT qq,iT d,.string tt,iT nn] 50)).cell? ((⟨w2.heap.size,0,none⟩:Addr).add j)=some u):=pr w2 kk qq d tt nn;have ka:Bl w2 (w2.alloc (.cells #[.string kk,iT qq,iT d,.string tt,iT nn] 50)):=bZ;have HVA:Hid ((w2.alloc (.cells #[.string kk,iT qq,iT d,.string tt,iT nn] 50)).ownsRow w.heap.size 50 5 (sL g n c) n (aE M)):=vk HV2.out ka;have HGA:Hid (w.grownBy (w2.alloc (.cells #[.string kk,iT qq,iT d,.string tt,iT nn] 50)) (some R)):=ae HG2.out (aL ka);have HRA:Hid (aW (w2.alloc (.cells #[.string kk,iT qq,iT d,.string tt,iT nn] 50)) R a len cap P2):=HR2.out.below ka;have HGL:Hid (w.heap.size≤g):=(HVA.out.lt g rfl).1;have HZA:Hid (w.heap.size≤(w2.alloc (.cells #[.string kk,iT qq,iT d,.string tt,iT nn] 50)).heap.size):=HGA.out.size;clear ka HV2 HG2 HR2;go_wp2_with (at_builtin;refine wpList_append_own _ rfl _ _ 28 rfl w.heap.size 50 i0 _ 5 56 Tryz.underlying28 hi hz0 hz1 hz2 rfl (by decide) _ _ _ rfl HVA.out ⟨w2.heap.size,0,none⟩ 1 1 [.string kk,iT qq,iT d,.string tt,iT nn] rfl rfl HCN.out (by intro u hu;simp at hu;rcases hu with rfl | rfl | rfl | rfl | rfl <;> rfl) (by unfold maxLen;omega) (by omega) HZA.out ?_;intro v2 w4 hown2 hgrow2 hnil2;obtain ⟨g2,c2,rfl⟩:=vl hown2 hnil2)
    go_roundw
    case rel =>
     have hg':(w2.alloc (.cells #[.string kk,iT qq,iT d,.string tt,iT nn] 50)).grownBy w4 (some g):=hgrow2;have hML:(M++[((kk,qq,d,tt,nn):ac)]).length=n+1:=by rw [List.length_append,HML.out];rfl
     have hEW:∀l ∈ M++[((kk,qq,d,tt,nn):ac)],ec l:=by
      intro l hl;rcases List.mem_append.1 hl with h | h
      · exact HW.out l h
      · rw [List.mem_singleton] at h;subst h;exact rG HEF.out
     have hFL:pH (M++[((kk,qq,d,tt,nn):ac)]):=HFL.out.snoc HEF.out.1 HEF.out.2.1;have hO4:w4.ownsRow w.heap.size 50 5 (sL g2 (n+1) c2) (n+1) (aE (M++[((kk,qq,d,tt,nn):ac)])):=by rw [aU];exact hown2
     have hG4:w.grownBy w4 (some R):=aH HGA.out HGL.out hg';have hR4:aW w4 R a len cap P2:=HRA.out.grownO hg' (by have:=HGL.out;omega) (fun b off e hl=>by have h1:=HLOW.out b off e hl;have:=HGL.out;omega);exact ⟨i - 1,n+1,g2,c2,P2,_,by rw [show ((i - 1:Nat):Int)=(i:Int) - 1 by omega],rfl,by omega,by omega,hR4,hO4,hML,hEW,hFL,hG4⟩
    case measure=>simp [intOf];omega
  · have hltI:¬(i:Int) > 0:=by omega
    have hnb:n≤5:=by omega
    have hn1:1≤n:=by omega
    clear hni;go_wp2_with fail
    refine (cF R P' a len cap 40 _ HRW.out (by omega) (by omega)).mono ?_;rintro e w5 ⟨q,rfl,hq,hR5,hg5⟩;have HR5:Hid (aW w5 R a len cap (P'+1)):=hR5;have HO5:Hid (ay w5 w.heap.size g n c M):=⟨HV.out.kept hg5 (.inr (by have:=(HV.out.lt g rfl).1;simp [Value.ownBlock];omega)),HML.out,HW.out⟩;have HG5:Hid (w.grownBy w5 (some R)):=ae HG.out hg5;have hq40:0≤q∧q<40:=⟨hq.1,hq.2 (by omega)⟩;have HGL:Hid (w.heap.size≤g):=HO5.out.lt.1;clear hq hR5 hg5 HRW HV HG;by_cases z0:q=0
    · subst z0;have HE5:Hid (ay (w5.alloc (.cells #[] 50)) w.heap.size w5.heap.size 0 0 []):=by
       have:=World.ownsRow_lit (base:=w.heap.size) (e:=50) (size:=5) w5 #[] 0 HG5.out.size (by simp) (by simp);exact ⟨by simpa [aE] using this,rfl,by simp⟩
      have ka:Bl w5 (w5.alloc (.cells #[] 50)):=bZ;have HRA:Hid (aW (w5.alloc (.cells #[] 50)) R a len cap (P'+1)):=HR5.out.below ka;have HGA:Hid (w.grownBy (w5.alloc (.cells #[] 50)) (some R)):=ae HG5.out (aL ka);clear ka;go_wp2;go_ret;exact ⟨_,0,0,P'+1,[],rfl,HE5.out,fun l hl=>by simp at hl,by omega,HRA.out,by omega,HGA.out⟩
    have hz0b:(q == 0)=false:=by simpa using z0
    obtain ⟨l0,M',hM⟩:∃l0 M',M=l0 :: M':=by
     cases M with
     | nil=>have:=HML.out;simp at this;omega
     | cons x r=>exact ⟨x,r,rfl⟩
    obtain ⟨k0,q0,d0,t0,m0⟩:=l0;subst hM;have HF0:Hid (iO k0 t0 q0 d0 m0):=⟨(HFL.out (k0,q0,d0,t0,m0) (by simp)).1,(HFL.out (k0,q0,d0,t0,m0) (by simp)).2,(HW.out (k0,q0,d0,t0,m0) (by simp)).2.1,(HW.out (k0,q0,d0,t0,m0) (by simp)).2.2.1,(HW.out (k0,q0,d0,t0,m0) (by simp)).2.2.2.2⟩;have HFM:Hid (pH M'):=fun l hl=>HFL.out l (by simp [hl])
    have HRB:Hid (∀b off,a=some ⟨b,off,none⟩→0<len→b≠g):=fun b off e hl=>by have h1:=HLOW.out b off e hl;have:=HGL.out;omega
    have hRg:g≠R:=by have:=HGL.out;omega
    have hRg':R≠g:=by have:=HGL.out;omega
    by_cases z1:q=1
    · subst z1;go_wp2_with fail
      have kc:Bl w5 (w5.alloc (.cells ((([1,-1]:List Int).map iT).toArray) 3)):=bZ;refine (dX Wf R (P'+1) a len cap w5.heap.size 0 2 2 _ (HR5.out.below kc) (by omega) (by omega) (by omega) (by have:=HR5.out.lt;omega) (by simp) (dR w5 3 [1,-1] Wf ?_)).mono ?_
      · intro s hs;simp only [List.mem_cons,List.not_mem_nil,or_false] at hs;rcases hs with rfl | rfl <;> (unfold Wf;decide)
      rintro e w6 ⟨v,rfl,hv,hR6,hg6⟩;have HO6:Hid (ay w6 w.heap.size g n c ((k0,q0,d0,t0,m0) :: M')):=(HO5.out.below kc).grown hg6 (by simpa using hRg);have HG6:Hid (w.grownBy w6 (some R)):=ae (ae HG5.out (aL kc)) hg6;have HR6:Hid (aW w6 R a len cap (P'+1+1)):=hR6;have HO7:Hid (ay (w6.setCell ⟨g,1,none⟩ (iT v)) w.heap.size g n c ((k0,v,d0,t0,m0) :: M')):=yR HO6.out hv;have HR7:Hid (aW (w6.setCell ⟨g,1,none⟩ (iT v)) R a len cap (P'+1+1)):=hR6.other hRg HRB.out _ _;have HG7:Hid (w.grownBy (w6.setCell ⟨g,1,none⟩ (iT v)) (some R)):=aH HG6.out HGL.out (aC _ _ _ _);have c1:w6.cell? ⟨g,1,none⟩=some (iT q0):=(HO6.out.owns.cellAt 1 (by omega)).trans rfl;have f1:w6.frozen? ⟨g,1,none⟩=false:=HO6.out.owns.frozenAt 1;have hgl:=HO6.out.lt.2;clear kc hR6 hg6;go_wp2;go_ret;exact ⟨g,n,c,P'+1+1,_,rfl,HO7.out,fun l hl=>(by
       rcases List.mem_cons.1 hl with rfl | h1
       · exact ⟨HF0.out.1,HF0.out.2.1⟩
       · exact HFM.out l h1),by omega,HR7.out,by omega,HG7.out⟩
    have hz1b:(q == 1)=false:=by simpa using z1
    by_cases z2:q=2
    · subst z2;have c0:w5.cell? ⟨g,0,none⟩=some (.string k0):=(HO5.out.owns.cellAt 0 (by omega)).trans rfl;have c1:w5.cell? ⟨g,1,none⟩=some (iT q0):=(HO5.out.owns.cellAt 1 (by omega)).trans rfl;have c2:w5.cell? ⟨g,2,none⟩=some (iT d0):=(HO5.out.owns.cellAt 2 (by omega)).trans rfl;have c3:w5.cell? ⟨g,3,none⟩=some (.string t0):=(HO5.out.owns.cellAt 3 (by omega)).trans rfl;have c4:w5.cell? ⟨g,4,none⟩=some (iT m0):=(HO5.out.owns.cellAt 4 (by omega)).trans rfl;have hgl:=HO5.out.lt.2;go_wp2_with fail
      clear c0 c1 c2 c3 c4 hgl;refine (ep R (P'+1) a len cap k0 t0 q0 d0 m0 _ HR5.out (by omega) HF0.out).mono ?_;rintro e w6 ⟨k6,t6,q6,d6,m6,P6,rfl,hEF,hR,hPP6,hg⟩;have HF6:Hid (iO k6 t6 q6 d6 m6):=hEF;have HR6:Hid (aW w6 R a len cap P6):=hR;have HO6:Hid (ay w6 w.heap.size g n c ((k0,q0,d0,t0,m0) :: M')):=HO5.out.grown hg (by simpa using hRg);have HG6:Hid (w.grownBy w6 (some R)):=ae HG5.out hg;clear hEF hR hg;go_wp2_with fail
      refine (ep R (P6) a len cap k6 t6 q6 d6 m6 _ HR6.out (by omega) HF6.out).mono ?_;rintro e w7 ⟨k7,t7,q7,d7,m7,P7,rfl,hEF,hR,hPP7,hg⟩;have HF7:Hid (iO k7 t7 q7 d7 m7):=hEF;have HR7:Hid (aW w7 R a len cap P7):=hR;have HO7:Hid (ay w7 w.heap.size g n c ((k0,q0,d0,t0,m0) :: M')):=HO6.out.grown hg (by simpa using hRg);have HG7:Hid (w.grownBy w7 (some R)):=ae HG6.out hg;clear hEF hR hg;go_wp2_with fail
      refine (ep R (P7) a len cap k7 t7 q7 d7 m7 _ HR7.out (by omega) HF7.out).mono ?_;rintro e w8 ⟨k8,t8,q8,d8,m8,P8,rfl,hEF,hR,hPP8,hg⟩;have HF8:Hid (iO k8 t8 q8 d8 m8):=hEF;have HR8:Hid (aW w8 R a len cap P8):=hR;have HO8:Hid (ay w8 w.heap.size g n c ((k0,q0,d0,t0,m0) :: M')):=HO7.out.grown hg (by simpa using hRg);have HG8:Hid (w.grownBy w8 (some R)):=ae HG7.out hg;clear hEF hR hg;have c0:w8.cell? ⟨g,0,none⟩=some (.string k0):=(HO8.out.owns.cellAt 0 (by omega)).trans rfl;have c1:w8.cell? ⟨g,1,none⟩=some (iT q0):=(HO8.out.owns.cellAt 1 (by omega)).trans rfl;have c2:w8.cell? ⟨g,2,none⟩=some (iT d0):=(HO8.out.owns.cellAt 2 (by omega)).trans rfl;have c3:w8.cell? ⟨g,3,none⟩=some (.string t0):=(HO8.out.owns.cellAt 3 (by omega)).trans rfl;have c4:w8.cell? ⟨g,4,none⟩=some (iT m0):=(HO8.out.owns.cellAt 4 (by omega)).trans rfl;have f0:w8.frozen? ⟨g,0,none⟩=false:=HO8.out.owns.frozenAt 0;have f1:w8.frozen? ⟨g,1,none⟩=false:=HO8.out.owns.frozenAt 1;have f2:w8.frozen? ⟨g,2,none⟩=false:=HO8.out.owns.frozenAt 2;have f3:w8.frozen? ⟨g,3,none⟩=false:=HO8.out.owns.frozenAt 3;have f4:w8.frozen? ⟨g,4,none⟩=false:=HO8.out.owns.frozenAt 4;have hgl:=HO8.out.lt.2;have HO9:Hid (ay (((((w8.setCell ⟨g,0,none⟩ (.string k8)).setCell ⟨g,1,none⟩ (iT q8)).setCell ⟨g,2,none⟩ (iT d8)).setCell ⟨g,3,none⟩ (.string t8)).setCell ⟨g,4,none⟩ (iT m8)) w.heap.size g n c ((k8,q8,d8,t8,m8) :: M')):=uw HO8.out (rG HF8.out);have HR9:Hid (aW (((((w8.setCell ⟨g,0,none⟩ (.string k8)).setCell ⟨g,1,none⟩ (iT q8)).setCell ⟨g,2,none⟩ (iT d8)).setCell ⟨g,3,none⟩ (.string t8)).setCell ⟨g,4,none⟩ (iT m8)) R a len cap P8):=((((HR8.out.other hRg HRB.out _ _).other hRg HRB.out _ _).other hRg HRB.out _ _).other hRg HRB.out _ _).other hRg HRB.out _ _;have HG9:Hid (w.grownBy (((((w8.setCell ⟨g,0,none⟩ (.string k8)).setCell ⟨g,1,none⟩ (iT q8)).setCell ⟨g,2,none⟩ (iT d8)).setCell ⟨g,3,none⟩ (.string t8)).setCell ⟨g,4,none⟩ (iT m8)) (some R)):=aH HG8.out HGL.out (ae (ae (ae (ae (aC _ _ _ _) (aC _ _ _ _)) (aC _ _ _ _)) (aC _ _ _ _)) (aC _ _ _ _));go_wp2;go_ret;exact ⟨g,n,c,P8,_,rfl,HO9.out,fun l hl=>(by
       rcases List.mem_cons.1 hl with rfl | h1
       · exact ⟨HF8.out.1,HF8.out.2.1⟩
       · exact HFM.out l h1),by omega,HR9.out,by omega,HG9.out⟩
    have hz2b:(q == 2)=false:=by simpa using z2
    by_cases z3:q=3
    · subst z3;have HO5r:=HO5.out.owns;have HV5:Hid (w5.ownsRow w.heap.size 50 5 (sL g n c) n (aE ((k0,q0,d0,t0,m0) :: M'))):=HO5.out.owns;have HP6:Hid (P'≤P+26):=by show _≤_;omega
      clear HO5r;go_wp2;go_loopw [3] (fun vv wr=>∃(n g c P':Nat) (M:List ac),vv=sL g n c∧1≤n∧n≤13∧P'≤P+27+6*n∧aW wr R a len cap P'∧wr.ownsRow w.heap.size 50 5 (sL g n c) n (aE M)∧M.length=n∧(∀l ∈ M,ec l)∧pH M∧w.grownBy wr (some R)) (fun vv _=>14 - Bv vv)
      case atStart=>exact ⟨n,g,c,P'+1,_,rfl,hn1,by omega,by have:=HP6.out;omega,HR5.out,HV5.out,HML.out,HW.out,HFL.out,HG5.out⟩
      case round =>
       clear HO5 HR5 HG5 HV5 HML HW HFL HF0 HFM HRB HGL hRg hRg' hn1 hnb HP6 z0 z1 z2 hz0b hz1b hz2b hP' hltI hlt hq40 hq5 hw1;obtain ⟨n,g,c,P',M,rfl,hn1,hn13,hP',hRW,hv,hml,hw,hfl,hg⟩:=hrel;have HV0:Hid (wr.ownsRow w.heap.size 50 5 (sL g n c) n (aE M)):=hv;have HML:Hid (M.length=n):=hml;have HW:Hid (∀l ∈ M,ec l):=hw;have HFL:Hid (pH M):=hfl;have HG0:Hid (w.grownBy wr (some R)):=hg;clear hv hml hw hfl hg;go_wp2_with fail
       refine (cF R P' a len cap 2 _ hRW (by omega) (by omega)).mono ?_;rintro e w6 ⟨y,rfl,hy,hR6,hg6⟩;have hy2:0≤y∧y<2:=⟨hy.1,hy.2 (by omega)⟩;have HRW:Hid (aW w6 R a len cap (P'+1)):=hR6;have HV:Hid (w6.ownsRow w.heap.size 50 5 (sL g n c) n (aE M)):=HV0.out.kept hg6 (.inr (by have:=(HV0.out.lt g rfl).1;simp [Value.ownBlock];omega));have HG:Hid (w.grownBy w6 (some R)):=ae HG0.out hg6;have hw12:IntKind.i64.wrap (12+y)=12+y:=by rw [IntWalk.i64_left];unfold wrap64;omega
       clear hy hR6 hg6 HV0 HG0 hRW;by_cases hgo:(n:Int)<12+y
       · go_wp2_with fail
         refine (gP R (P'+1) a len cap 0 _ HRW.out (by omega) (by decide)).mono ?_;rintro e w2 ⟨kk,tt,qq,d,nn,P2,rfl,hEF,hR2,hP2,hg2⟩;have HEF:Hid (iO kk tt qq d nn):=hEF;have HV2:Hid (w2.ownsRow w.heap.size 50 5 (sL g n c) n (aE M)):=HV.out.kept hg2 (.inr (by have:=(HV.out.lt g rfl).1;simp [Value.ownBlock];omega));have HG2:Hid (w.grownBy w2 (some R)):=ae HG.out hg2;have HR2:Hid (aW w2 R a len cap P2):=hR2;have hz2':=HG2.out.size;clear hEF hR2 hg2 HV HG HRW;have HCN:Hid (∀j u,[Value.string kk,iT qq,iT d,.string tt,iT nn][j]?=some u→(w2.alloc (.cells #[.string kk,iT qq,iT d,.string tt,iT nn] 50)).cell? ((⟨w2.heap.size,0,none⟩:Addr).add j)=some u):=pr w2 kk qq d tt nn;have ka:Bl w2 (w2.alloc (.cells #[.string kk,iT qq,iT d,.string tt,iT nn] 50)):=bZ;have HVA:Hid ((w2.alloc (.cells #[.string kk,iT qq,iT d,.string tt,iT nn] 50)).ownsRow w.heap.size 50 5 (sL g n c) n (aE M)):=vk HV2.out ka;have HGA:Hid (w.grownBy (w2.alloc (.cells #[.string kk,iT qq,iT d,.string tt,iT nn] 50)) (some R)):=ae HG2.out (aL ka);have HRA:Hid (aW (w2.alloc (.cells #[.string kk,iT qq,iT d,.string tt,iT nn] 50)) R a len cap P2):=HR2.out.below ka;have HGL:Hid (w.heap.size≤g):=(HVA.out.lt g rfl).1;have HZA:Hid (w.heap.size≤(w2.alloc (.cells #[.string kk,iT qq,iT d,.string tt,iT nn] 50)).heap.size):=HGA.out.size;clear ka HV2 HG2 HR2;go_wp2_with (at_builtin;refine wpList_append_own _ rfl _ _ 28 rfl w.heap.size 50 i0 _ 5 56 Tryz.underlying28 hi hz0 hz1 hz2 rfl (by decide) _ _ _ rfl HVA.out ⟨w2.heap.size,0,none⟩ 1 1 [.string kk,iT qq,iT d,.string tt,iT nn] rfl rfl HCN.out (by intro u hu;simp at hu;rcases hu with rfl | rfl | rfl | rfl | rfl <;> rfl) (by unfold maxLen;omega) (by omega) HZA.out ?_;intro v2 w4 hown2 hgrow2 hnil2;obtain ⟨g2,c2,rfl⟩:=vl hown2 hnil2)
         go_roundw
         case rel =>
          have hg':(w2.alloc (.cells #[.string kk,iT qq,iT d,.string tt,iT nn] 50)).grownBy w4 (some g):=hgrow2;have hML:(M++[((kk,qq,d,tt,nn):ac)]).length=n+1:=by rw [List.length_append,HML.out];rfl
          have hEW:∀l ∈ M++[((kk,qq,d,tt,nn):ac)],ec l:=by
           intro l hl;rcases List.mem_append.1 hl with h | h
           · exact HW.out l h
           · rw [List.mem_singleton] at h;subst h;exact rG HEF.out
          have hFL:pH (M++[((kk,qq,d,tt,nn):ac)]):=HFL.out.snoc HEF.out.1 HEF.out.2.1;have hO4:w4.ownsRow w.heap.size 50 5 (sL g2 (n+1) c2) (n+1) (aE (M++[((kk,qq,d,tt,nn):ac)])):=by rw [aU];exact hown2
          have hG4:w.grownBy w4 (some R):=aH HGA.out HGL.out hg';have hR4:aW w4 R a len cap P2:=HRA.out.grownO hg' (by have:=HGL.out;omega) (fun b off e hl=>by have h1:=HLOW.out b off e hl;have:=HGL.out;omega);exact ⟨n+1,g2,c2,P2,_,rfl,by omega,by omega,by omega,hR4,hO4,hML,hEW,hFL,hG4⟩
         case measure=>simp [Bv];omega
       · have hgo':¬(n:Int)<12+y:=hgo;have HOE:Hid (ay w6 w.heap.size g n c M):=⟨HV.out,HML.out,HW.out⟩;go_wp2;go_ret;exact ⟨g,n,c,P'+1,M,rfl,HOE.out,HFL.out,hn13,HRW.out,by omega,HG.out⟩
    have hz3b:(q == 3)=false:=by simpa using z3
    go_wp2;go_ret;exact ⟨g,n,c,P'+1,_,rfl,HO5.out,HFL.out,by omega,HR5.out,by omega,HG5.out⟩
def pK (a:Option Addr) (len R:Nat):Prop:=len=0∨∀b off,a=some ⟨b,off,none⟩→b<R
structure fO (w:World) (b:Nat) (u v:Value):Prop where
 c0:w.cell? ⟨b,0,none⟩=some u
 c1:w.cell? ⟨b,1,none⟩=some v
 f0:w.frozen? ⟨b,0,none⟩=false
 f1:w.frozen? ⟨b,1,none⟩=false
theorem fO.lt {v:Value} (h:fO w b u v):b<w.heap.size:=World.block_lt_of_cell? w _ h.c0
theorem fO.new (w:World) (t:TypeId) (u v:Value):fO (w.alloc (.cells #[u,v] t)) w.heap.size u v:=⟨by simp,by simp,by simp,by simp⟩
theorem fO.grown {v:Value} (h:fO w b u v) (hg:w.grownBy w' row) (hne:some b≠row):fO w' b u v :=
 ⟨hg.cell h.c0 hne,hg.cell h.c1 hne,(aV hg (x:=⟨b,0,none⟩) h.lt hne).trans h.f0,(aV hg (x:=⟨b,1,none⟩) h.lt hne).trans h.f1⟩
theorem fO.gR {v:Value} (h:fO w b u v) (hg:w.grownBy w' (some R)) (hR:R<b):fO w' b u v:=h.grown hg (fun e=>by cases e;omega)
theorem fO.below {v:Value} (h:fO w b u v) (hb:Bl w w'):fO w' b u v:=h.grown (aL (R:=none) hb) (by simp)
theorem fO.alloc {v:Value} (h:fO w b u v) (o:Obj):fO (w.alloc o) b u v:=h.below bZ
theorem fO.other {v:Value} (h:fO w b u v) {p:Addr} (hp:p.block≠b) (x:Value):fO (w.setCell p x) b u v :=
 h.grown (row:=some p.block) ⟨rfl,rfl,rfl,by simp [World.setCell],fun k _ hk=>Below.heap_setCell _ _ _ _ (fun e=>hk (by rw [e]))⟩ (fun e=>hp (by cases e;rfl))
theorem fO.set1 {v:Value} (h:fO w b u v) (x:Value):fO (w.setCell ⟨b,1,none⟩ x) b u x :=
 ⟨by rw [World.cell?_setCell_other _ _ _ _ (by simp)];exact h.c0,World.cell?_setCell_same' _ _ _ (by rw [h.c1];rfl),by rw [World.frozen?_setCell];exact h.f0,by rw [World.frozen?_setCell];exact h.f1⟩
theorem fO.set0 {v:Value} (h:fO w b u v) (x:Value):fO (w.setCell ⟨b,0,none⟩ x) b x v :=
 ⟨World.cell?_setCell_same' _ _ _ (by rw [h.c0];rfl),by rw [World.cell?_setCell_other _ _ _ _ (by simp)];exact h.c1,by rw [World.frozen?_setCell];exact h.f0,by rw [World.frozen?_setCell];exact h.f1⟩
theorem aW.grown (h:aW w R a len cap P) (hg:w.grownBy w' row) (hlow:pK a len R) (hR:∀k,row=some k→R<k):aW w' R a len cap P where
 c0:=hg.cell h.c0 (fun e=>by have:=hR _ e.symm;simp at this)
 c1:=hg.cell h.c1 (fun e=>by have:=hR _ e.symm;simp at this)
 f1:=(aV hg (x:=⟨R,1,none⟩) h.lt (fun e=>by have:=hR _ e.symm;simp at this)).trans h.f1
 few:=h.few
 two:=fun o=>(World.cell?_of_block (a:=⟨R,o+2,none⟩) (hg.block R h.lt (fun e=>by have:=hR _ e.symm;omega))).trans (h.two o)
 bytes:=by
  rcases h.bytes with e | ⟨b,off,ha,hb1,hb2,hc⟩
  · exact Or.inl e
  · rcases hlow with e | hlow
    · exact Or.inl e
    refine Or.inr ⟨b,off,ha,hb1,Nat.lt_of_lt_of_le hb2 hg.size,fun i hi=>?_⟩;obtain ⟨z,hz,hcc⟩:=hc i hi;have:=hlow b off ha;exact ⟨z,hz,hg.cell hcc (fun e=>by have:=hR _ e.symm;simp at this;omega)⟩
end Go.Proofs.YtpobkmjicbobdaaGreat
