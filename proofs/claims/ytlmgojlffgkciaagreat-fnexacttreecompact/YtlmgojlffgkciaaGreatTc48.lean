/-
  The program's compact: what it makes of a tree, by walks of its Go text.
-/
import Derived.Test.YtlmgojlffgkciaaGreatTc47
namespace Go.Proofs.YtlmgojlffgkciaaGreat
open Go.RowKit
set_option maxRecDepth 100000
set_option maxHeartbeats 16000000
def wU (q:Int) (am:Option Addr) (nm cm e2 n2 c2:Nat) (ak:Option Addr) (nk ck:Nat) (LF RR:List ae) (OK:Bool) (w:World) (e:Ending) (w':World):Prop:=∃al nl cl a5 n5 c5,e=.returned (.tuple #[.agg #[iT q,.slice am nm cm,.slice al nl cl,.slice a5 n5 c5,sL e2 n2 c2,.slice ak nk ck],.bool OK])∧(OK=true→aj 0 w' al nl cl LF∧aj 0 w' a5 n5 c5 RR)∧Bl w w'
theorem rh (q:Int) (am:Option Addr) (nm cm e0 n0 c0 e1 n1 c1 e2 n2 c2:Nat) (ak:Option Addr) (nk ck:Nat) (pk:Int) (bt ot nt ct:Nat) (T LF B C:List ae) (S:List Int) (w:World) (hTk:aj 0 w (some ⟨bt,ot,none⟩) nt ct T) (hnt1:1≤nt) (hnt:nt≤100) (hN:aj 0 w (pT e1) n1 c1 B) (hnn:n1≤100) (hC:aj 0 w (pT e2) n2 c2 C) (hn2:n2≤100) (hS:aT 0 w ak nk ck S) (hnk:nk≤1048576) (hok:fD T B) (hNr:∀r ∈ B,cW r.1 r.2=true) (hap:bl C=true) (hCr:∀r ∈ C,cW r.1 r.2=true) (hsum:(aH (cf T B)).flatten.length≤100000)
 (hCT:∀w',Bl w w'→Calls Tryz.prog 102 #[.agg #[iT q,.slice am nm cm,sL e0 n0 c0,sL e1 n1 c1,sL e2 n2 c2,.slice ak nk ck],iT 0,iT pk] w' fun e w''=>∃al nl cl,e=.returned (.tuple #[sO bt ot nt ct,.slice al nl cl])∧aj 0 w'' al nl cl LF∧Bl w' w'') :
 Calls Tryz.prog 66 #[.agg #[iT q,.slice am nm cm,sL e0 n0 c0,sL e1 n1 c1,sL e2 n2 c2,.slice ak nk ck],iT 0,iT pk] w (wU q am nm cm e2 n2 c2 ak nk ck LF (dw T B C S 1) (ku T B C S 1) w):=by
 obtain ⟨i0,hi,hz0,hz1,hz2⟩:=info_parts Tryz.infoEntS;obtain ⟨X,hX⟩:=ay w.heap.size;obtain ⟨W,hW⟩:=ay ((w.alloc (.cells #[iT q,.slice am nm cm,sL e0 n0 c0,sL e1 n1 c1,sL e2 n2 c2,.slice ak nk ck] 67)).alloc (.cells #[iT 0,nZ,nZ,nZ,nZ,nZ] 67));have kW:Bl w W:=by rw [hW];exact bZ.alloc (by simp) _
 have bX:bn W X (iT q) (.slice am nm cm) (sL e0 n0 c0) (sL e1 n1 c1) (sL e2 n2 c2) (.slice ak nk ck):=by rw [hW,hX];exact (bn.new _ _ _ _ _ _ _ _).alloc _
 have bb:aw W X 67 6∧aw W (X+1) 67 6:=by
  have h1:=cZ w #[iT q,.slice am nm cm,sL e0 n0 c0,sL e1 n1 c1,sL e2 n2 c2,.slice ak nk ck] 67;have h2:=cZ (w.alloc (.cells #[iT q,.slice am nm cm,sL e0 n0 c0,sL e1 n1 c1,sL e2 n2 c2,.slice ak nk ck] 67)) #[iT 0,nZ,nZ,nZ,nZ,nZ] 67;rw [World.size_alloc] at h2;rw [hW,hX];exact ⟨h1.below bZ,h2⟩
 have br:bn W (X+1) (iT 0) nZ nZ nZ nZ nZ:=by
  have:=bn.new (w.alloc (.cells #[iT q,.slice am nm cm,sL e0 n0 c0,sL e1 n1 c1,sL e2 n2 c2,.slice ak nk ck] 67)) 67 (iT 0) nZ nZ nZ nZ nZ;rw [World.size_alloc] at this;rw [hW,hX];exact this
 have HX:Hid (X=w.heap.size):=hX;have K0:Hid (Bl w W):=kW;have HBX:Hid (∀w',Bl W w'→bn w' X (iT q) (.slice am nm cm) (sL e0 n0 c0) (sL e1 n1 c1) (sL e2 n2 c2) (.slice ak nk ck)∧m8 w' X):=fun w' k=>⟨bX.keep k,eY (bb.1.below k) (bX.keep k)⟩
 have HBR:Hid (∀w',Bl W w'→bn w' (X+1) (iT 0) nZ nZ nZ nZ nZ∧m8 w' (X+1)):=fun w' k=>⟨br.keep k,eY (bb.2.below k) (br.keep k)⟩
 have HBB:Hid (∀w',Bl W w'→aw w' X 67 6∧aw w' (X+1) 67 6):=fun w' k=>⟨bb.1.below k,bb.2.below k⟩
 obtain ⟨OK,hOK⟩:=ay (ku T B C S 1);obtain ⟨RR,hRR⟩:=ay (dw T B C S 1);rw [← hOK,← hRR];obtain ⟨SQ,hSQ⟩:=ay (qN T B C S 1);obtain ⟨low,hlow⟩:=ay (gF T);obtain ⟨high,hhigh⟩:=ay (eD T);obtain ⟨lo2,hlo2⟩:=ay (gF (cf T B));obtain ⟨hi2,hhi2⟩:=ay (eD (cf T B));obtain ⟨BR,hBR⟩:=ay (iq T B C 1);obtain ⟨PT,hPT⟩:=ay (aH T);obtain ⟨nT,hnT⟩:=ay PT.flatten.length;obtain ⟨AL,hAL⟩:=ay (aQ (aH (cf T B)).flatten);obtain ⟨nF,hnF⟩:=ay AL.length;have hallL:(aH (cf T B)).flatten.length=nF:=by rw [hnF,hAL,dF]
 have hnT2:nT≤100000:=by
  have h1:(aH (cf T B)).flatten.length=(aH T).flatten.length+(aH (AB T B)).flatten.length:=by unfold cf;rw [jU,List.length_append]
  rw [hnT,hPT];omega
 have hnF2:nF≤100000:=by omega
 have hnT1:1≤nT:=by rw [hnT,hPT,← dF];exact ju hok.t0 hok.tok
 have hnF1:1≤nF:=by rw [← hallL,← dF];exact ju hok.all0 hok.all
 have HSQL:Hid (SQ.length≤100000):=by
  show _≤_
  rw [hSQ];unfold qN;have h1:=fM (aQ (aH (cf T B)).flatten) S (iq T B C 1);rw [dF] at h1;omega
 have CLs:Hid (∀w',Bl w w'→Calls Tryz.prog 103 #[sO bt ot nt ct] w' (ja nt T w')):=fun w' k=>gP _ nt ct T w' (hTk.keep k) (by omega)
 have CM1:Hid (∀pa pc w',bW w' pa nt pc PT→Calls Tryz.prog 69 #[.slice pa nt pc] w' fun e w''=>∃g,e=.returned (sL g nT nT)∧af w'' (pT g) nT nT (aQ PT.flatten)∧g<w''.heap.size∧Bl w' w''):=fun pa pc w' h=>qZ pa nt pc PT nT w' h hnT (by omega) (by omega) (by rw [hPT];exact ij hok.tok)
 have CR1:Hid (∀g w',af w' (pT g) nT nT (aQ PT.flatten)→Calls Tryz.prog 104 #[sL g nT nT] w' fun e w''=>e=.returned (.agg #[.string low,.string high])∧Bl w' w''):=fun g w' h=>by
  have h1:=jR hok.t0 hok.tok;have:=eU g 0 nT nT _ w' h hnT1;rw [hPT,h1.1,h1.2,← hlow,← hhigh] at this;exact this
 have CMe:Hid (∀w',Bl w w'→Calls Tryz.prog 90 #[sL e1 n1 c1,.agg #[.string low,.string high]] w' fun e w''=>∃i j:Nat,e=.returned (.tuple #[iT i,iT j])∧fi B low high i j∧Bl w' w''):=fun w' k=>jt 0 _ n1 c1 B low high w' (hN.keep k) (by omega) hok.ap hNr
 have HOKM:Hid (∀i j,fi B low high i j→i≤j∧j≤n1∧aQ (aH ((B.drop i).take (j - i))++[aQ PT.flatten]).flatten=AL∧RR=B.take i++bw SQ++B.drop j∧OK=(cV (bw SQ) && decide (RR.length≤8))∧(∀e ∈ (aH ((B.drop i).take (j - i))++[aQ PT.flatten]).flatten,rU e)):=fun i j hm=>by
  have hm2:=hm.2.1;have hml:=hN.length;rw [hlow,hhigh] at hm;refine ⟨(hok.cut hm).1,by omega,?_,?_,?_,?_⟩
  · rw [hAL,hPT];exact hok.merged hm
  · rw [hRR,hSQ];exact hok.runs C S 1 hm
  · rw [hOK,hRR,hSQ];unfold ku;rw [hok.fits (fun r hr=>(aO (hNr r hr)).2.1) C S 1 hm]
  · intro e he;rw [List.flatten_append] at he;rcases List.mem_append.1 he with h | h
    · exact ij (T:=B) hok.nok e (by
       obtain ⟨Z,hZ,h1⟩:=List.mem_flatten.1 h;obtain ⟨r,hr,rfl⟩:=List.mem_map.1 hZ;exact List.mem_flatten.2 ⟨r.1,List.mem_map.2 ⟨r,List.mem_of_mem_drop (List.mem_of_mem_take hr),rfl⟩,h1⟩)
    · simp only [List.flatten_cons,List.flatten_nil,List.append_nil] at h;rw [hPT] at h;exact ij hok.tok e ((bJ _).2.subset h)
 have HTK:=bc hTk;have HN:=bc hN;have HNL:Hid (B.length=n1):=hN.length;have HC:=bc hC;have HSI:=bc hS;have HALR:Hid (az AL=true):=by rw [hAL];exact hok.right
 have CR8g:Hid (∀g w',af w' (pT g) nF nF AL→Calls Tryz.prog 104 #[sL g nF nF] w' fun e w''=>e=.returned (.agg #[.string lo2,.string hi2])∧Bl w' w''):=fun g w' h=>by
  have h1:=jR hok.all0 hok.all;have:=eU g 0 nF nF _ w' h hnF1;rw [hAL,h1.1,h1.2,← hlo2,← hhi2] at this;exact this
 have CB8g:Hid (∀w',Bl w w'→Calls Tryz.prog 106 #[.agg #[iT q,.slice am nm cm,sL e0 n0 c0,sL e1 n1 c1,sL e2 n2 c2,.slice ak nk ck],iT 1,.agg #[.string lo2,.string hi2]] w' fun e w''=>e=.returned (.bool BR)∧Bl w' w''):=fun w' k=>by
  refine (oY q am nm cm (pT e0) n0 c0 (pT e1) n1 c1 (pT e2) n2 c2 ak nk ck C lo2 hi2 1 w' (hC.keep k) (by omega) hap hCr).mono ?_;rintro e w'' ⟨i,j,hm,rfl,hb⟩;rw [hlo2,hhi2] at hm;rw [hok.bare (fun r hr=>⟨(aO (hCr r hr)).2.2.1,(aO (hCr r hr)).1⟩) hm 1,← hBR];exact ⟨rfl,hb⟩
 have HSQE:Hid (SQ=bC AL S BR):=by show _=_;rw [hSQ,hAL,hBR];rfl
 have hncI:((nt:Int) == 0)=false:=by simpa using (show ¬(nt:Int)=0 by omega)
 have hncJ:¬(nt:Int)=0:=by omega
 have hroomN:=hN.room;have HPE:Hid (PT=aH T):=hPT;have HNF:Hid (nF=AL.length):=hnF;have CTK:=bc hCT;clear kW br bb hTk hN hC hS hok hNr hap hCr hsum hOK hRR hSQ hlow hhigh hlo2 hhi2 hBR hPT hnT hAL hnF hallL hCT;have x0:=bX.c0;have x1:=bX.c1;have x2:=bX.c2;have x3:=bX.c3;have x4:=bX.c4;have x5:=bX.c5;have xf:=bX.fz;have xz:=bX.lt;clear bX;go_enter Tryz.func66,Tryz.ntmps66
 go_wp2_with fail
 rw [← hX,← hW];clear hX hW x0 x1 x2 x3 x4 x5 xf xz;refine (CTK.out _ K0.out).mono ?_;rintro e w1 ⟨al,nl,cl,rfl,hL1,hb1⟩;have KW1:Hid (Bl W w1):=hb1;have K1:Hid (Bl w w1):=K0.out.trans (hb1.mono K0.out.size);have HL1:Hid (aj 0 w1 al nl cl LF):=hL1;have bX1:=(HBX.out _ hb1).1;have x0:=bX1.c0;have x1:=bX1.c1;have x2:=bX1.c2;have x3:=bX1.c3;have x4:=bX1.c4;have x5:=bX1.c5;have xf:=bX1.fz;have xz:=bX1.lt;clear hb1 hL1 bX1 CTK;go_wp2_with fail
 clear x0 x1 x2 x3 x4 x5 xf xz;refine (CLs.out _ K1.out).mono ?_;rintro e w2 hl2;obtain ⟨pa,pc,rfl,hp2,hb2⟩:=gK hl2;have KW2:Hid (Bl w1 w2):=hb2;rw [← HPE.out] at hp2;have HP2:Hid (bW w2 pa nt pc PT):=hp2;clear hl2 hp2 hb2 CLs;go_wp2_with fail
 refine (CM1.out _ _ _ HP2.out).mono ?_;rintro e w3 ⟨g3,rfl,hE3,hg3,hb3⟩;have KW3:Hid (Bl w1 w3):=KW2.out.trans (hb3.mono KW2.out.size);have HE3:Hid (af w3 (pT g3) nT nT (aQ PT.flatten)):=hE3;clear hE3 hg3 hb3 CM1 HP2 KW2;go_wp2_with fail
 refine (CR1.out _ _ HE3.out).mono ?_;rintro e w4 ⟨rfl,hb4⟩;have KW4:Hid (Bl w1 w4):=KW3.out.trans (hb4.mono KW3.out.size);have HE4:Hid (af w4 (pT g3) nT nT (aQ PT.flatten)):=HE3.out.keep hb4;clear hb4 CR1 HE3 KW3;go_wp2_with fail
 refine (CMe.out _ (K1.out.trans (KW4.out.mono K1.out.size))).mono ?_;rintro e w5 ⟨ii,jj,rfl,hm5,hb5⟩;obtain ⟨hij,hjn,hmg,hrr,hokd,hsm⟩:=HOKM.out ii jj hm5;have KW5:Hid (Bl w1 w5):=KW4.out.trans (hb5.mono KW4.out.size);have HE5:Hid (af w5 (pT g3) nT nT (aQ PT.flatten)):=HE4.out.keep hb5;have HMG:Hid (aQ (aH ((B.drop ii).take (jj - ii))++[aQ PT.flatten]).flatten=AL):=hmg;have HRR:Hid (RR=B.take ii++bw SQ++B.drop jj):=hrr;have HOKD:Hid (OK=(cV (bw SQ) && decide (RR.length≤8))):=hokd;have HOKE:Hid (OK=true→cV (bw SQ)=true∧RR.length≤8):=fun h=>by rw [hokd] at h;simpa using h
 have HSMX:Hid (∀e ∈ (aH ((B.drop ii).take (jj - ii))++[aQ PT.flatten]).flatten,rU e):=hsm;clear hmg hrr hokd hsm hm5 hb5 CMe HOKM HE4 KW4;obtain ⟨oi,hoi⟩:=ay (if c1=ii then 0 else ii*2);obtain ⟨oj,hoj⟩:=ay (if c1=jj then 0 else jj*2);obtain ⟨nI,hnI⟩:=ay (jj - ii);obtain ⟨cI,hcI⟩:=ay (c1 - ii);obtain ⟨nJ,hnJ⟩:=ay (n1 - jj);obtain ⟨cJ,hcJ⟩:=ay (c1 - jj);have HOJ:Hid (oj=(if c1=jj then 0 else jj*2)∧nJ=n1 - jj∧cJ=c1 - jj):=⟨hoj,hnJ,hcJ⟩;have hPI:aj 0 w5 (some ⟨e1,oi,none⟩) nI cI ((B.drop ii).take (jj - ii)):=by
  have:=dp (HN.out.keep (K1.out.trans (KW5.out.mono K1.out.size))) (i:=ii) (j:=jj) hij hjn;rw [hoi,hnI,hcI];exact this
 have hnI2:nI≤100:=by omega
 have hnJ2:nJ≤100:=by omega
 have hii:ii≤100:=by omega
 have CL5:=gP _ nI cI _ w5 hPI (by omega);have hiI:(ii:Int)≤(jj:Int):=by omega
 have hjI:(jj:Int)≤(c1:Int):=by omega
 have hjI2:(jj:Int)≤(n1:Int):=by omega
 have hiI2:(ii:Int)≤(c1:Int):=by omega
 have hnnI:(n1:Int)≤(c1:Int):=by omega
 have hi0:(0:Int)≤(ii:Int):=by omega
 have hj0:(0:Int)≤(jj:Int):=by omega
 have hav1:(if c1=ii then some (⟨e1,0,none⟩:Addr) else some ⟨e1,ii*2,none⟩)=some ⟨e1,oi,none⟩:=by rw [hoi];split <;> rfl
 have hav2:(if c1=jj then some (⟨e1,0,none⟩:Addr) else some ⟨e1,jj*2,none⟩)=some ⟨e1,oj,none⟩:=by rw [hoj];split <;> rfl
 have hx1:jj - ii=nI:=hnI.symm;have hx2:c1 - ii=cI:=hcI.symm;have hx3:n1 - jj=nJ:=hnJ.symm;have hx4:c1 - jj=cJ:=hcJ.symm;clear hoi hoj hnI hcI hnJ hcJ hPI;go_wp2_with fail
 refine CL5.mono ?_;rintro e w6 ⟨v6,vs6,rfl,hr6,hd6,hb6⟩;have KW6:Hid (Bl w1 w6):=KW5.out.trans (hb6.mono KW5.out.size);have ka:Bl w6 (w6.alloc (.cells #[sL g3 nT nT] 28)):=bZ;have hcn:=dx w6 (sL g3 nT nT) 28;have HCN:=bc hcn;have HA6:Hid ((w6.alloc (.cells #[sL g3 nT nT] 28)).ownsRow w5.heap.size 28 1 v6 nI vs6):=bi hr6 ka;have KA6:Hid (Bl w5 (w6.alloc (.cells #[sL g3 nT nT] 28))):=hb6.trans (ka.mono hb6.size);have HD6:Hid (jJ w5 (vs6++[sL g3 nT nT]) (aH ((B.drop ii).take (jj - ii))++[aQ PT.flatten])):=hd6.snoc HE5.out;clear hr6 hd6 hb6 ka hcn CL5;go_wp2_with (at_builtin;refine wpList_append_own _ rfl _ _ 85 rfl w5.heap.size 28 i0 _ 1 24 Tryz.underlying85 hi hz0 hz1 hz2 rfl (by decide) _ _ _ rfl HA6.out ⟨w6.heap.size,0,none⟩ 1 1 [sL g3 nT nT] rfl rfl HCN.out (by intro u hu;simp at hu;subst hu;rfl) (by unfold maxLen;omega) (by omega) KA6.out.size ?_;intro v7 w7 hown7 hgrow7 hnil7)
 have KB7:Bl w5 w7:=KA6.out.grown hgrow7 KA6.out.size (fun k e=>(HA6.out.lt k e).1);obtain ⟨a7,c7,rfl,hp7⟩:=jo hown7 (HD6.out.keep KB7);have KW7:Hid (Bl w1 w7):=KW5.out.trans (KB7.mono KW5.out.size);have HF7:Hid ((aH ((B.drop ii).take (jj - ii))++[aQ PT.flatten]).flatten.length=nF):=by show _=_;rw [← dF,HMG.out,HNF.out]
 have CM7:=qZ _ (nI+1) c7 _ nF w7 hp7 HF7.out.symm (by omega) (by omega) HSMX.out;rw [HMG.out] at CM7;clear hown7 hgrow7 hnil7 KB7 hp7 HA6 KA6 HD6 HCN HE5 KW6;go_wp2_with fail
 refine CM7.mono ?_;rintro e W8 ⟨g8,rfl,hE8,hg8,hb8⟩;have KWL:Hid (Bl w1 W8):=KW7.out.trans (hb8.mono KW7.out.size);have KW8:Hid (Bl W W8):=KW1.out.trans (KWL.out.mono KW1.out.size);have KL8:Hid (Bl w W8):=K0.out.trans (KW8.out.mono K0.out.size);have CR8:Hid (∀w',Bl W8 w'→Calls Tryz.prog 104 #[sL g8 nF nF] w' fun e w''=>e=.returned (.agg #[.string lo2,.string hi2])∧Bl w' w''):=fun w' k=>CR8g.out g8 w' (hE8.keep k)
 have CB8:Hid (∀w',Bl W8 w'→Calls Tryz.prog 106 #[.agg #[iT q,.slice am nm cm,sL e0 n0 c0,sL e1 n1 c1,sL e2 n2 c2,.slice ak nk ck],iT 1,.agg #[.string lo2,.string hi2]] w' fun e w''=>e=.returned (.bool BR)∧Bl w' w''):=fun w' k=>CB8g.out w' (KL8.out.trans (k.mono KL8.out.size))
 have CQ8:Hid (∀w',Bl W8 w'→Calls Tryz.prog 99 #[sL g8 nF nF,.slice ak nk ck,.bool BR] w' fun e w''=>∃ar n' c',e=.returned (.slice ar n' c')∧d7 w'' w'.heap.size ar n' c' SQ∧Bl w' w''):=fun w' k=>by
  rw [HSQE.out];exact callsIn_wide.1 (mQ 0 _ nF nF AL ak nk ck S BR w' (hE8.keep k) (HSI.out.keep (KL8.out.trans (k.mono KL8.out.size))) (by omega) hnk)
 have CU8:Hid (∀base ar n' c' w',d7 w' base ar n' c' SQ→Calls Tryz.prog 105 #[.slice ar n' c'] w' (rQ (bw SQ) w')):=fun base ar n' c' w' h=>mS base ar n' c' SQ w' h (by have:=h.len;have:=HSQL.out;omega) (by rw [HSQE.out];exact fZ HALR.out S BR)
 have hS8:∀w',Bl W8 w'→(fun w'=>w'.cell? ⟨X,0,none⟩=some (iT q)∧w'.cell? ⟨X,1,none⟩=some (.slice am nm cm)∧w'.cell? ⟨X,2,none⟩=some (sL e0 n0 c0)∧w'.cell? ⟨X,3,none⟩=some (sL e1 n1 c1)∧w'.cell? ⟨X,4,none⟩=some (sL e2 n2 c2)∧w'.cell? ⟨X,5,none⟩=some (.slice ak nk ck)∧X<w'.heap.size) w':=fun w' k=>by
  have h:=(HBX.out _ (KW8.out.trans (k.mono KW8.out.size))).1;exact ⟨h.c0,h.c1,h.c2,h.c3,h.c4,h.c5,h.lt⟩
 have k0:Bl W8 W8.drew:=(Below.refl _ W8).drew;clear hE8 hg8 hb8 CM7 KW7 CR8g CB8g;go_upto_region 8 with fail
 refine vC hS8 k0 fun aa=>?_
 generalize W8.drew=wd at k0 aa ⊢;refine aL 0 7 aa ?_;refine aS 7 fun K hK=>?_
 go_simp;refine (CR8.out _ k0).mono ?_;rintro e wA ⟨rfl,hbA⟩;have kA:Bl W8 wA:=k0.trans (hbA.mono k0.size);clear hbA;go_wp2_with fail
 refine hK.out _ _ (hS8 _ kA) fun aa=>?_
 (try go_frame);refine aS 8 fun K hK=>?_
 go_simp;refine (CB8.out _ kA).mono ?_;rintro e wB ⟨rfl,hbB⟩;have kB:Bl W8 wB:=kA.trans (hbB.mono kA.size);clear hbB;go_wp2_with fail
 refine hK.out _ _ (hS8 _ kB) fun aa=>?_
 (try go_frame);refine aS 9 fun K hK=>?_
 go_simp;refine (CQ8.out _ kB).mono ?_;rintro e wC ⟨ar,nr,cr,rfl,hoC,hbC⟩;have kC:Bl W8 wC:=kB.trans (hbC.mono kB.size);have HOC:Hid (d7 wC wB.heap.size ar nr cr SQ):=hoC;clear hbC hoC;go_wp2_with fail
 refine hK.out _ _ (hS8 _ kC) fun aa=>?_
 (try go_frame);refine aS 10 fun K hK=>?_
 go_simp;refine (CU8.out _ _ _ _ _ HOC.out).mono ?_;rintro e wD ⟨vP,okc,np,rfl,hokc,hVy,hVn,hbD⟩;have kD:Bl W8 wD:=kC.trans (hbD.mono kC.size);have HPC:Hid (∃aP nP cP PC,vP=.slice aP nP cP∧aj 0 wD aP nP cP PC∧(aP=none→cP=0)∧(∀x,aP=some x→x.spot=none)∧nP≤100000∧(okc=true→PC=bw SQ)):=by
  cases okc with
  | true =>
   obtain ⟨a,c,e1,h1,h2,h3⟩:=(hVy rfl).rowIn;refine ⟨a,np,c,_,e1,h1,h2,h3,?_,fun _=>rfl⟩;have h4:=(hVy rfl).len;have h5:=lO SQ SQ.length;have h6:=HSQL.out;have h7:(bw SQ).length≤SQ.length:=h5;omega
  | false =>
   obtain ⟨a,c,e1,h1,h2,h3⟩:=(jM 0 wD).rowIn;exact ⟨a,0,c,[],(hVn rfl).trans e1,h1,h2,h3,by omega,fun h=>by cases h⟩
 have HOKC:Hid (okc=cV (bw SQ)):=hokc;clear hVy hVn hbD hokc;go_wp2_with fail
 refine hK.out _ _ (hS8 _ kD) fun aa=>?_
 (try go_frame);refine aL 11 5 aa ?_;refine dN ?_;obtain ⟨aP,nP,cP,PC,rfl,hP,hP0,hP1,hnP,hPC⟩:=HPC.out;have KWD:Hid (Bl W wD):=KW8.out.trans (kD.mono KW8.out.size);have KLD:Hid (Bl w wD):=K0.out.trans (KWD.out.mono K0.out.size);have HP:Hid (aj 0 wD aP nP cP PC):=hP;have HP0:Hid ((aP=none→cP=0)∧(∀x,aP=some x→x.spot=none)∧(okc=true→PC=bw SQ)):=⟨hP0,hP1,hPC⟩;have HLD:Hid (aj 0 wD al nl cl LF):=HL1.out.keep (KWL.out.trans (kD.mono KWL.out.size));have bD:=(HBX.out _ KWD.out).1;have tD:=(HBX.out _ KWD.out).2;have yD:=(HBR.out _ KWD.out).1;have x0:=bD.c0;have x1:=bD.c1;have x2:=bD.c2;have x3:=bD.c3;have x4:=bD.c4;have x5:=bD.c5;have xf:=bD.fz;have xz:=bD.lt;obtain ⟨w9,hw9⟩:=ay (wD.setCell ⟨X,2,none⟩ (.slice al nl cl));clear aa HPC HOC kA kB kC kD k0 hS8 CR8 CB8 CQ8 CU8 hP hP0 hP1 hPC HL1;go_upto_region 10 with fail
 rw [← hw9];clear x0 x1 x2 x3 x4 x5 xf xz;have b9:bn w9 X (iT q) (.slice am nm cm) (.slice al nl cl) (sL e1 n1 c1) (sL e2 n2 c2) (.slice ak nk ck):=by rw [hw9];exact bD.set2 _
 have y9:bn w9 (X+1) (iT 0) nZ nZ nZ nZ nZ:=by rw [hw9];exact yD.other (by omega) _
 have hc9:∀b,b≠X→∀o,w9.cell? ⟨b,o,none⟩=wD.cell? ⟨b,o,none⟩:=by rw [hw9];exact d8 _ _ _ _
 have hs9:wD.heap.size≤w9.heap.size:=by rw [hw9];simp [World.setCell]
 have K9:Hid (Bl w w9):=by rw [hw9];exact KLD.out.setCell (p:=⟨X,2,none⟩) (by have:=HX.out;show _≤X;omega) _
 have HL9:Hid (aj 0 w9 al nl cl LF):=HLD.out.apartX tD hs9 hc9;have hP9:aj 0 w9 aP nP cP PC:=HP.out.apartX tD hs9 hc9;have hN9:=HN.out.keep K9.out;have BB9:Hid (aw w9 X 67 6∧aw w9 (X+1) 67 6):=by have h1:=HBB.out _ KWD.out;rw [hw9];exact ⟨h1.1.setCell _,h1.2.setCell _⟩
 clear hw9 bD tD yD HLD HP hc9 hs9;have h10:aj 0 w9 (pT e1) ii c1 (B.take ii):=by
  have:=dp hN9 (i:=0) (j:=ii) (by omega) (by omega);have e0:(if c1=0 then 0 else 0*2)=0:=by split <;> rfl
  rw [e0] at this;simpa using this
 have h12:aj 0 w9 (some ⟨e1,oj,none⟩) nJ cJ (B.drop jj):=by
  have:=dp hN9 (i:=jj) (j:=n1) (by omega) (by omega);rw [List.take_of_length_le (by rw [List.length_drop,HNL.out];omega)] at this;rw [HOJ.out.1,HOJ.out.2.1,HOJ.out.2.2];exact this
 obtain ⟨xs1,d1,r1⟩:=h10.raw;obtain ⟨xs2,d2,r2⟩:=vS hP9 HP0.out.1 HP0.out.2.1;obtain ⟨xs3,d3,r3⟩:=h12.raw;have HDN:Hid (dq (·<w9.heap.size) w9 (xs1++xs2++xs3) (B.take ii++PC++B.drop jj)):=(d1.denP.app d2.denP).app d3.denP;have HRW:Hid (gl w9 (sL e1 ii c1) ii xs1∧gl w9 (.slice aP nP cP) nP xs2∧gl w9 (sO e1 oj nJ cJ) nJ xs3):=⟨r1,r2,r3⟩;clear hN9 hP9 h10 h12 d1 d2 d3 r1 r2 r3;have HB9:Hid (∀w',Bl w9 w'→bn w' X (iT q) (.slice am nm cm) (.slice al nl cl) (sL e1 n1 c1) (sL e2 n2 c2) (.slice ak nk ck)∧bn w' (X+1) (iT 0) nZ nZ nZ nZ nZ):=fun w' k=>⟨b9.keep k,y9.keep k⟩
 have hS9:∀w',bn w' X (iT q) (.slice am nm cm) (.slice al nl cl) (sL e1 n1 c1) (sL e2 n2 c2) (.slice ak nk ck)→(fun w'=>w'.cell? ⟨X,0,none⟩=some (iT q)∧w'.cell? ⟨X,1,none⟩=some (.slice am nm cm)∧w'.cell? ⟨X,2,none⟩=some (.slice al nl cl)∧w'.cell? ⟨X,3,none⟩=some (sL e1 n1 c1)∧w'.cell? ⟨X,4,none⟩=some (sL e2 n2 c2)∧w'.cell? ⟨X,5,none⟩=some (.slice ak nk ck)∧X<w'.heap.size) w':=fun w' h=>⟨h.c0,h.c1,h.c2,h.c3,h.c4,h.c5,h.lt⟩
 have k9:Bl w9 w9.drew:=(Below.refl _ w9).drew;clear b9 y9;obtain ⟨n5,hn5⟩:=ay (ii+nP+nJ);have HN5:Hid (n5=ii+nP+nJ):=hn5;clear hn5;have wNX:IntKind.i64.wrap 1=1:=by decide
 refine wp_region_held_drew (S:=(fun w'=>X<w'.heap.size)) (by kernel_rfl) ((HB9.out _ k9).1.lt) (fun aa=>?_);generalize w9.drew=wd9 at k9 aa ⊢;refine aL 0 9 aa ?_;refine aL 11 1 aa ?_;refine aS 9 fun K hK=>?_
 go_simp;have kc:Bl wd9 (wd9.alloc (.cells #[sL e1 ii c1,.slice aP nP cP,sO e1 oj nJ cJ] 64)):=bZ;have m1:Bl w9 (wd9.alloc (.cells #[sL e1 ii c1,.slice aP nP cP,sO e1 oj nJ cJ] 64)):=k9.trans (kc.mono k9.size);have hq:=jA wd9 (sL e1 ii c1) (.slice aP nP cP) (sO e1 oj nJ cJ) 64;generalize wd9.heap.size=gb at hq ⊢;generalize wd9.alloc (.cells #[sL e1 ii c1,.slice aP nP cP,sO e1 oj nJ cJ] 64)=wb at m1 hq ⊢;clear kc;refine hK.out _ _ ((HB9.out _ m1).1.lt) fun aa=>?_
 (try go_frame);refine aS 10 fun K hK=>?_
 go_simp;refine (wM gb wb _ _ _ _ _ _ xs1 xs2 xs3 (HRW.out.1.keep m1) (HRW.out.2.1.keep m1) (HRW.out.2.2.keep m1) hq.1 hq.2.1 hq.2.2 (by omega)).mono ?_;rintro e wE ⟨v5,rfl,hrow,hbE⟩;have m2:Bl w9 wE:=m1.trans (hbE.mono m1.size);rw [← HN5.out] at hrow;obtain ⟨a5,c5,rfl,h5⟩:=fe hrow (HDN.out.low m2).den;have H5:Hid (aj 0 wE a5 n5 c5 (B.take ii++PC++B.drop jj)):=h5;clear hrow h5 hbE hq;go_wp2_with fail
 refine hK.out _ _ ((HB9.out _ m2).1.lt) fun aa=>?_
 (try go_frame);refine aL 12 1 aa ?_;refine aS 13 fun K hK=>?_
 have bE:=(HB9.out _ m2).1;have x0:=bE.c0;have x1:=bE.c1;have x2:=bE.c2;have x3:=bE.c3;have x4:=bE.c4;have x5:=bE.c5;have xf:=bE.fz;have xz:=bE.lt;have b11:=bE.set3 (.slice a5 n5 c5);go_simp;refine hK.out _ _ (b11.lt) fun aa=>?_
 (try go_frame);refine dN ?_;have yE:=(HB9.out _ m2).2;obtain ⟨wF,hwF⟩:=ay (wE.setCell ⟨X,3,none⟩ (.slice a5 n5 c5));have yF:bn wF (X+1) (iT 0) nZ nZ nZ nZ nZ:=by rw [hwF];exact yE.other (by omega) _
 have bF:bn wF X (iT q) (.slice am nm cm) (.slice al nl cl) (.slice a5 n5 c5) (sL e2 n2 c2) (.slice ak nk ck):=by rw [hwF];exact b11
 have hcF:∀b,b≠X→∀o,wF.cell? ⟨b,o,none⟩=wE.cell? ⟨b,o,none⟩:=by rw [hwF];exact d8 _ _ _ _
 have hsF:wE.heap.size≤wF.heap.size:=by rw [hwF];simp [World.setCell]
 have KE:Bl w wE:=K9.out.trans (m2.mono K9.out.size);have KF:Hid (Bl w wF):=by rw [hwF];exact KE.setCell (p:=⟨X,3,none⟩) (by have:=HX.out;show _≤X;omega) _
 have tE:m8 wE X:=eY (BB9.out.1.below m2) bE;have HLF:Hid (aj 0 wF al nl cl LF):=(HL9.out.keep m2).apartX tE hsF hcF;have HNF:Hid (aj 0 wF a5 n5 c5 (B.take ii++PC++B.drop jj)):=H5.out.apartX tE hsF hcF;have HTF:Hid (m8 wF (X+1)):=eY (show aw wF (X+1) 67 6 by rw [hwF];exact (BB9.out.2.below m2).setCell _) yF;rw [← hwF];clear hwF aa k9 m1 m2 hS9 b11 bE yE hcF hsF KE tE x0 x1 x2 x3 x4 x5 xf xz H5 HL9 HB9 HRW HDN K9;have x0:=bF.c0;have x1:=bF.c1;have x2:=bF.c2;have x3:=bF.c3;have x4:=bF.c4;have x5:=bF.c5;have xf:=bF.fz;have xz:=bF.lt;go_upto_region 11 with fail
 clear x0 x1 x2 x3 x4 x5 xf xz;have k0:bn wF.drew X (iT q) (.slice am nm cm) (.slice al nl cl) (.slice a5 n5 c5) (sL e2 n2 c2) (.slice ak nk ck):=bF.keep (Below.refl _ wF).drew;have R6:Hid (bn wF.drew (X+1) (iT 0) nZ nZ nZ nZ nZ):=yF.keep (Below.refl _ wF).drew;have K6:Hid (Bl w wF.drew):=KF.out.drew;have HL6:Hid (aj 0 wF.drew al nl cl LF):=HLF.out.keep (Below.refl _ wF).drew;have HN6:Hid (aj 0 wF.drew a5 n5 c5 (B.take ii++PC++B.drop jj)):=HNF.out.keep (Below.refl _ wF).drew;have HT6:Hid (m8 wF.drew (X+1)):=HTF.out;clear bF yF KF HLF HNF HTF;have HMK:Hid (∀w',bn w' X (iT q) (.slice am nm cm) (.slice al nl cl) (.slice a5 n5 c5) (sL e2 n2 c2) (.slice ak nk ck)→(fun w'=>w'.cell? ⟨X,0,none⟩=some (iT q)∧w'.cell? ⟨X,1,none⟩=some (.slice am nm cm)∧w'.cell? ⟨X,2,none⟩=some (.slice al nl cl)∧w'.cell? ⟨X,3,none⟩=some (.slice a5 n5 c5)∧w'.cell? ⟨X,4,none⟩=some (sL e2 n2 c2)∧w'.cell? ⟨X,5,none⟩=some (.slice ak nk ck)∧X<w'.heap.size) w'):=fun w' h=>⟨h.c0,h.c1,h.c2,h.c3,h.c4,h.c5,h.lt⟩
 have hlen5:=HN6.out.length;have HFIN:Hid (∀w',aj 0 w' al nl cl LF→aj 0 w' a5 n5 c5 (B.take ii++PC++B.drop jj)→(OK=true→aj 0 w' al nl cl LF∧aj 0 w' a5 n5 c5 RR)):=fun w' h1 h2 hok=>⟨h1,by
  have hf:okc=true:=by rw [HOKC.out];exact (HOKE.out hok).1
  rw [HP0.out.2.2 hf] at h2;rw [HRR.out];exact h2⟩
 have HOKV:Hid (OK=(okc && decide (n5≤8))):=by
  show _=_
  rw [HOKD.out,HOKC.out];cases hf:cV (bw SQ) with
  | false=>rfl
  | true =>
   have h1:=HP0.out.2.2 (HOKC.out.trans hf);rw [Bool.true_and,Bool.true_and,← hlen5,h1,← HRR.out]
 clear hlen5;cases okc with
 | false =>
  have HOK:Hid (OK=false):=HOKV.out;refine dM HMK k0 fun aa=>?_
  generalize wF.drew=wg at k0 aa R6 K6 HL6 HN6 HT6 ⊢;refine aL 0 11 aa ?_;refine aS 11 fun K hK=>?_
  have r0:=R6.out.c0;have r1:=R6.out.c1;have r2:=R6.out.c2;have r3:=R6.out.c3;have r4:=R6.out.c4;have r5:=R6.out.c5;have rf:=R6.out.fz;have rz:=R6.out.lt;have hxx:X+1≠X:=by omega
  go_simp;have k1:=((((((k0.other (b':=X+1) (o:=0) hxx (iT q)).other (b':=X+1) (o:=1) hxx (.slice am nm cm)).other (b':=X+1) (o:=2) hxx (.slice al nl cl)).other (b':=X+1) (o:=3) hxx (.slice a5 n5 c5)).other (b':=X+1) (o:=4) hxx (sL e2 n2 c2)).other (b':=X+1) (o:=5) hxx (.slice ak nk ck));refine hK.out _ _ (HMK.out _ k1) fun aa=>?_
  (try go_frame);refine aL 12 1 aa ?_;refine dN ?_;clear k1 hxx aa r0 r1 r2 r3 r4 r5 rf rz;go_wp2;refine bodyPost_ret (v:=.tuple #[.agg #[iT q,.slice am nm cm,.slice al nl cl,.slice a5 n5 c5,sL e2 n2 c2,.slice ak nk ck],.bool false]) ?_ rfl (show wU _ _ _ _ _ _ _ _ _ _ _ _ _ _ _ _ from ⟨al,nl,cl,a5,n5,c5,?_,?_,?_⟩)
  · have e:=((((((R6.out.set0 (iT q)).set1 (.slice am nm cm)).set2 (.slice al nl cl)).set3 (.slice a5 n5 c5)).set4 (sL e2 n2 c2)).set5 (.slice ak nk ck));simp [results,Tryz.results66,go_sem,e.c0,e.c1,e.c2,e.c3,e.c4,e.c5]
  · rw [HOK.out]
  · exact HFIN.out _ ((HL6.out.apartX HT6.out (Nat.le_of_eq (dW wg (X+1) (iT q) (.slice am nm cm) (.slice al nl cl) (.slice a5 n5 c5) (sL e2 n2 c2) (.slice ak nk ck)).symm) (dG wg (X+1) (iT q) (.slice am nm cm) (.slice al nl cl) (.slice a5 n5 c5) (sL e2 n2 c2) (.slice ak nk ck)))) ((HN6.out.apartX HT6.out (Nat.le_of_eq (dW wg (X+1) (iT q) (.slice am nm cm) (.slice al nl cl) (.slice a5 n5 c5) (sL e2 n2 c2) (.slice ak nk ck)).symm) (dG wg (X+1) (iT q) (.slice am nm cm) (.slice al nl cl) (.slice a5 n5 c5) (sL e2 n2 c2) (.slice ak nk ck))))
  · have hx:w.heap.size≤X+1:=by have:=HX.out;omega
    exact ((((((K6.out).setCell (p:=⟨X+1,0,none⟩) hx _).setCell (p:=⟨X+1,1,none⟩) hx _).setCell (p:=⟨X+1,2,none⟩) hx _).setCell (p:=⟨X+1,3,none⟩) hx _).setCell (p:=⟨X+1,4,none⟩) hx _).setCell (p:=⟨X+1,5,none⟩) hx _
 | true =>
  by_cases h8:n5≤8
  · have HOK:Hid (OK=true):=by show _=_;rw [HOKV.out];simpa using h8
    have h8I:(n5:Int)≤8:=by omega
    refine dM HMK k0 fun aa=>?_
    generalize wF.drew=wg at k0 aa R6 K6 HL6 HN6 HT6 ⊢;refine aL 0 11 aa ?_;refine aS 11 fun K hK=>?_
    have r0:=R6.out.c0;have r1:=R6.out.c1;have r2:=R6.out.c2;have r3:=R6.out.c3;have r4:=R6.out.c4;have r5:=R6.out.c5;have rf:=R6.out.fz;have rz:=R6.out.lt;have hxx:X+1≠X:=by omega
    go_simp;have k1:=((((((k0.other (b':=X+1) (o:=0) hxx (iT q)).other (b':=X+1) (o:=1) hxx (.slice am nm cm)).other (b':=X+1) (o:=2) hxx (.slice al nl cl)).other (b':=X+1) (o:=3) hxx (.slice a5 n5 c5)).other (b':=X+1) (o:=4) hxx (sL e2 n2 c2)).other (b':=X+1) (o:=5) hxx (.slice ak nk ck));refine hK.out _ _ (HMK.out _ k1) fun aa=>?_
    (try go_frame);refine aL 12 1 aa ?_;refine dN ?_;clear k1 hxx aa r0 r1 r2 r3 r4 r5 rf rz;go_wp2;refine bodyPost_ret (v:=.tuple #[.agg #[iT q,.slice am nm cm,.slice al nl cl,.slice a5 n5 c5,sL e2 n2 c2,.slice ak nk ck],.bool true]) ?_ rfl (show wU _ _ _ _ _ _ _ _ _ _ _ _ _ _ _ _ from ⟨al,nl,cl,a5,n5,c5,?_,?_,?_⟩)
    · have e:=((((((R6.out.set0 (iT q)).set1 (.slice am nm cm)).set2 (.slice al nl cl)).set3 (.slice a5 n5 c5)).set4 (sL e2 n2 c2)).set5 (.slice ak nk ck));simp [results,Tryz.results66,go_sem,e.c0,e.c1,e.c2,e.c3,e.c4,e.c5]
    · rw [HOK.out]
    · exact HFIN.out _ ((HL6.out.apartX HT6.out (Nat.le_of_eq (dW wg (X+1) (iT q) (.slice am nm cm) (.slice al nl cl) (.slice a5 n5 c5) (sL e2 n2 c2) (.slice ak nk ck)).symm) (dG wg (X+1) (iT q) (.slice am nm cm) (.slice al nl cl) (.slice a5 n5 c5) (sL e2 n2 c2) (.slice ak nk ck)))) ((HN6.out.apartX HT6.out (Nat.le_of_eq (dW wg (X+1) (iT q) (.slice am nm cm) (.slice al nl cl) (.slice a5 n5 c5) (sL e2 n2 c2) (.slice ak nk ck)).symm) (dG wg (X+1) (iT q) (.slice am nm cm) (.slice al nl cl) (.slice a5 n5 c5) (sL e2 n2 c2) (.slice ak nk ck))))
    · have hx:w.heap.size≤X+1:=by have:=HX.out;omega
      exact ((((((K6.out).setCell (p:=⟨X+1,0,none⟩) hx _).setCell (p:=⟨X+1,1,none⟩) hx _).setCell (p:=⟨X+1,2,none⟩) hx _).setCell (p:=⟨X+1,3,none⟩) hx _).setCell (p:=⟨X+1,4,none⟩) hx _).setCell (p:=⟨X+1,5,none⟩) hx _
  · have HOK:Hid (OK=false):=by show _=_;rw [HOKV.out];simpa using h8
    have h8I:¬(n5:Int)≤8:=by omega
    refine dM HMK k0 fun aa=>?_
    generalize wF.drew=wg at k0 aa R6 K6 HL6 HN6 HT6 ⊢;refine aL 0 11 aa ?_;refine aS 11 fun K hK=>?_
    have r0:=R6.out.c0;have r1:=R6.out.c1;have r2:=R6.out.c2;have r3:=R6.out.c3;have r4:=R6.out.c4;have r5:=R6.out.c5;have rf:=R6.out.fz;have rz:=R6.out.lt;have hxx:X+1≠X:=by omega
    go_simp;have k1:=((((((k0.other (b':=X+1) (o:=0) hxx (iT q)).other (b':=X+1) (o:=1) hxx (.slice am nm cm)).other (b':=X+1) (o:=2) hxx (.slice al nl cl)).other (b':=X+1) (o:=3) hxx (.slice a5 n5 c5)).other (b':=X+1) (o:=4) hxx (sL e2 n2 c2)).other (b':=X+1) (o:=5) hxx (.slice ak nk ck));refine hK.out _ _ (HMK.out _ k1) fun aa=>?_
    (try go_frame);refine aL 12 1 aa ?_;refine dN ?_;clear k1 hxx aa r0 r1 r2 r3 r4 r5 rf rz;go_wp2;refine bodyPost_ret (v:=.tuple #[.agg #[iT q,.slice am nm cm,.slice al nl cl,.slice a5 n5 c5,sL e2 n2 c2,.slice ak nk ck],.bool false]) ?_ rfl (show wU _ _ _ _ _ _ _ _ _ _ _ _ _ _ _ _ from ⟨al,nl,cl,a5,n5,c5,?_,?_,?_⟩)
    · have e:=((((((R6.out.set0 (iT q)).set1 (.slice am nm cm)).set2 (.slice al nl cl)).set3 (.slice a5 n5 c5)).set4 (sL e2 n2 c2)).set5 (.slice ak nk ck));simp [results,Tryz.results66,go_sem,e.c0,e.c1,e.c2,e.c3,e.c4,e.c5]
    · rw [HOK.out]
    · exact HFIN.out _ ((HL6.out.apartX HT6.out (Nat.le_of_eq (dW wg (X+1) (iT q) (.slice am nm cm) (.slice al nl cl) (.slice a5 n5 c5) (sL e2 n2 c2) (.slice ak nk ck)).symm) (dG wg (X+1) (iT q) (.slice am nm cm) (.slice al nl cl) (.slice a5 n5 c5) (sL e2 n2 c2) (.slice ak nk ck)))) ((HN6.out.apartX HT6.out (Nat.le_of_eq (dW wg (X+1) (iT q) (.slice am nm cm) (.slice al nl cl) (.slice a5 n5 c5) (sL e2 n2 c2) (.slice ak nk ck)).symm) (dG wg (X+1) (iT q) (.slice am nm cm) (.slice al nl cl) (.slice a5 n5 c5) (sL e2 n2 c2) (.slice ak nk ck))))
    · have hx:w.heap.size≤X+1:=by have:=HX.out;omega
      exact ((((((K6.out).setCell (p:=⟨X+1,0,none⟩) hx _).setCell (p:=⟨X+1,1,none⟩) hx _).setCell (p:=⟨X+1,2,none⟩) hx _).setCell (p:=⟨X+1,3,none⟩) hx _).setCell (p:=⟨X+1,4,none⟩) hx _).setCell (p:=⟨X+1,5,none⟩) hx _
def wT (q:Int) (am:Option Addr) (nm cm e0 n0 c0:Nat) (ak:Option Addr) (nk ck:Nat) (LF RR:List ae) (OK:Bool) (w:World) (e:Ending) (w':World):Prop:=∃al nl cl a5 n5 c5,e=.returned (.tuple #[.agg #[iT q,.slice am nm cm,sL e0 n0 c0,.slice al nl cl,.slice a5 n5 c5,.slice ak nk ck],.bool OK])∧(OK=true→aj 0 w' al nl cl LF∧aj 0 w' a5 n5 c5 RR)∧Bl w w'
theorem rg (q:Int) (am:Option Addr) (nm cm e0 n0 c0 e1 n1 c1 e2 n2 c2:Nat) (ak:Option Addr) (nk ck:Nat) (pk:Int) (bt ot nt ct:Nat) (T LF C:List ae) (S:List Int) (w:World) (hTk:aj 0 w (some ⟨bt,ot,none⟩) nt ct T) (hnt1:1≤nt) (hnt:nt≤100) (hN:aj 0 w (pT e2) n2 c2 C) (hnn:n2≤100) (hC:aj 0 w (pT e2) n2 c2 C) (hS:aT 0 w ak nk ck S) (hnk:nk≤1048576) (hok:fD T C) (hNr:∀r ∈ C,cW r.1 r.2=true) (hap:bl C=true) (hCr:∀r ∈ C,cW r.1 r.2=true) (hsum:(aH (cf T C)).flatten.length≤100000)
 (hCT:∀w',Bl w w'→Calls Tryz.prog 102 #[.agg #[iT q,.slice am nm cm,sL e0 n0 c0,sL e1 n1 c1,sL e2 n2 c2,.slice ak nk ck],iT 1,iT pk] w' fun e w''=>∃al nl cl,e=.returned (.tuple #[sO bt ot nt ct,.slice al nl cl])∧aj 0 w'' al nl cl LF∧Bl w' w'') :
 Calls Tryz.prog 66 #[.agg #[iT q,.slice am nm cm,sL e0 n0 c0,sL e1 n1 c1,sL e2 n2 c2,.slice ak nk ck],iT 1,iT pk] w (wT q am nm cm e0 n0 c0 ak nk ck LF (dw T C C S 2) (ku T C C S 2) w):=by
 obtain ⟨i0,hi,hz0,hz1,hz2⟩:=info_parts Tryz.infoEntS;obtain ⟨X,hX⟩:=ay w.heap.size;obtain ⟨W,hW⟩:=ay ((w.alloc (.cells #[iT q,.slice am nm cm,sL e0 n0 c0,sL e1 n1 c1,sL e2 n2 c2,.slice ak nk ck] 67)).alloc (.cells #[iT 0,nZ,nZ,nZ,nZ,nZ] 67));have kW:Bl w W:=by rw [hW];exact bZ.alloc (by simp) _
 have bX:bn W X (iT q) (.slice am nm cm) (sL e0 n0 c0) (sL e1 n1 c1) (sL e2 n2 c2) (.slice ak nk ck):=by rw [hW,hX];exact (bn.new _ _ _ _ _ _ _ _).alloc _
 have bb:aw W X 67 6∧aw W (X+1) 67 6:=by
  have h1:=cZ w #[iT q,.slice am nm cm,sL e0 n0 c0,sL e1 n1 c1,sL e2 n2 c2,.slice ak nk ck] 67;have h2:=cZ (w.alloc (.cells #[iT q,.slice am nm cm,sL e0 n0 c0,sL e1 n1 c1,sL e2 n2 c2,.slice ak nk ck] 67)) #[iT 0,nZ,nZ,nZ,nZ,nZ] 67;rw [World.size_alloc] at h2;rw [hW,hX];exact ⟨h1.below bZ,h2⟩
 have br:bn W (X+1) (iT 0) nZ nZ nZ nZ nZ:=by
  have:=bn.new (w.alloc (.cells #[iT q,.slice am nm cm,sL e0 n0 c0,sL e1 n1 c1,sL e2 n2 c2,.slice ak nk ck] 67)) 67 (iT 0) nZ nZ nZ nZ nZ;rw [World.size_alloc] at this;rw [hW,hX];exact this
 have HX:Hid (X=w.heap.size):=hX;have K0:Hid (Bl w W):=kW;have HBX:Hid (∀w',Bl W w'→bn w' X (iT q) (.slice am nm cm) (sL e0 n0 c0) (sL e1 n1 c1) (sL e2 n2 c2) (.slice ak nk ck)∧m8 w' X):=fun w' k=>⟨bX.keep k,eY (bb.1.below k) (bX.keep k)⟩
 have HBR:Hid (∀w',Bl W w'→bn w' (X+1) (iT 0) nZ nZ nZ nZ nZ∧m8 w' (X+1)):=fun w' k=>⟨br.keep k,eY (bb.2.below k) (br.keep k)⟩
 have HBB:Hid (∀w',Bl W w'→aw w' X 67 6∧aw w' (X+1) 67 6):=fun w' k=>⟨bb.1.below k,bb.2.below k⟩
 obtain ⟨OK,hOK⟩:=ay (ku T C C S 2);obtain ⟨RR,hRR⟩:=ay (dw T C C S 2);rw [← hOK,← hRR];obtain ⟨SQ,hSQ⟩:=ay (qN T C C S 2);obtain ⟨low,hlow⟩:=ay (gF T);obtain ⟨high,hhigh⟩:=ay (eD T);obtain ⟨lo2,hlo2⟩:=ay (gF (cf T C));obtain ⟨hi2,hhi2⟩:=ay (eD (cf T C));obtain ⟨BR,hBR⟩:=ay (iq T C C 2);obtain ⟨PT,hPT⟩:=ay (aH T);obtain ⟨nT,hnT⟩:=ay PT.flatten.length;obtain ⟨AL,hAL⟩:=ay (aQ (aH (cf T C)).flatten);obtain ⟨nF,hnF⟩:=ay AL.length;have hallL:(aH (cf T C)).flatten.length=nF:=by rw [hnF,hAL,dF]
 have hnT2:nT≤100000:=by
  have h1:(aH (cf T C)).flatten.length=(aH T).flatten.length+(aH (AB T C)).flatten.length:=by unfold cf;rw [jU,List.length_append]
  rw [hnT,hPT];omega
 have hnF2:nF≤100000:=by omega
 have hnT1:1≤nT:=by rw [hnT,hPT,← dF];exact ju hok.t0 hok.tok
 have hnF1:1≤nF:=by rw [← hallL,← dF];exact ju hok.all0 hok.all
 have HSQL:Hid (SQ.length≤100000):=by
  show _≤_
  rw [hSQ];unfold qN;have h1:=fM (aQ (aH (cf T C)).flatten) S (iq T C C 2);rw [dF] at h1;omega
 have CLs:Hid (∀w',Bl w w'→Calls Tryz.prog 103 #[sO bt ot nt ct] w' (ja nt T w')):=fun w' k=>gP _ nt ct T w' (hTk.keep k) (by omega)
 have CM1:Hid (∀pa pc w',bW w' pa nt pc PT→Calls Tryz.prog 69 #[.slice pa nt pc] w' fun e w''=>∃g,e=.returned (sL g nT nT)∧af w'' (pT g) nT nT (aQ PT.flatten)∧g<w''.heap.size∧Bl w' w''):=fun pa pc w' h=>qZ pa nt pc PT nT w' h hnT (by omega) (by omega) (by rw [hPT];exact ij hok.tok)
 have CR1:Hid (∀g w',af w' (pT g) nT nT (aQ PT.flatten)→Calls Tryz.prog 104 #[sL g nT nT] w' fun e w''=>e=.returned (.agg #[.string low,.string high])∧Bl w' w''):=fun g w' h=>by
  have h1:=jR hok.t0 hok.tok;have:=eU g 0 nT nT _ w' h hnT1;rw [hPT,h1.1,h1.2,← hlow,← hhigh] at this;exact this
 have CMe:Hid (∀w',Bl w w'→Calls Tryz.prog 90 #[sL e2 n2 c2,.agg #[.string low,.string high]] w' fun e w''=>∃i j:Nat,e=.returned (.tuple #[iT i,iT j])∧fi C low high i j∧Bl w' w''):=fun w' k=>jt 0 _ n2 c2 C low high w' (hN.keep k) (by omega) hok.ap hNr
 have HOKM:Hid (∀i j,fi C low high i j→i≤j∧j≤n2∧aQ (aH ((C.drop i).take (j - i))++[aQ PT.flatten]).flatten=AL∧RR=C.take i++bw SQ++C.drop j∧OK=(cV (bw SQ) && decide (RR.length≤8))∧(∀e ∈ (aH ((C.drop i).take (j - i))++[aQ PT.flatten]).flatten,rU e)):=fun i j hm=>by
  have hm2:=hm.2.1;have hml:=hN.length;rw [hlow,hhigh] at hm;refine ⟨(hok.cut hm).1,by omega,?_,?_,?_,?_⟩
  · rw [hAL,hPT];exact hok.merged hm
  · rw [hRR,hSQ];exact hok.runs C S 2 hm
  · rw [hOK,hRR,hSQ];unfold ku;rw [hok.fits (fun r hr=>(aO (hNr r hr)).2.1) C S 2 hm]
  · intro e he;rw [List.flatten_append] at he;rcases List.mem_append.1 he with h | h
    · exact ij (T:=C) hok.nok e (by
       obtain ⟨Z,hZ,h1⟩:=List.mem_flatten.1 h;obtain ⟨r,hr,rfl⟩:=List.mem_map.1 hZ;exact List.mem_flatten.2 ⟨r.1,List.mem_map.2 ⟨r,List.mem_of_mem_drop (List.mem_of_mem_take hr),rfl⟩,h1⟩)
    · simp only [List.flatten_cons,List.flatten_nil,List.append_nil] at h;rw [hPT] at h;exact ij hok.tok e ((bJ _).2.subset h)
 have HTK:=bc hTk;have HN:=bc hN;have HNL:Hid (C.length=n2):=hN.length;have HC:=bc hC;have HSI:=bc hS;have HALR:Hid (az AL=true):=by rw [hAL];exact hok.right
 have CR8g:Hid (∀g w',af w' (pT g) nF nF AL→Calls Tryz.prog 104 #[sL g nF nF] w' fun e w''=>e=.returned (.agg #[.string lo2,.string hi2])∧Bl w' w''):=fun g w' h=>by
  have h1:=jR hok.all0 hok.all;have:=eU g 0 nF nF _ w' h hnF1;rw [hAL,h1.1,h1.2,← hlo2,← hhi2] at this;exact this
 have CB8g:Hid (∀w',Bl w w'→Calls Tryz.prog 106 #[.agg #[iT q,.slice am nm cm,sL e0 n0 c0,sL e1 n1 c1,sL e2 n2 c2,.slice ak nk ck],iT 2,.agg #[.string lo2,.string hi2]] w' fun e w''=>e=.returned (.bool BR)∧Bl w' w''):=fun w' k=>by
  refine (oY q am nm cm (pT e0) n0 c0 (pT e1) n1 c1 (pT e2) n2 c2 ak nk ck C lo2 hi2 2 w' (hC.keep k) (by omega) hap hCr).mono ?_;rintro e w'' ⟨i,j,hm,rfl,hb⟩;rw [hlo2,hhi2] at hm;rw [hok.bare (fun r hr=>⟨(aO (hCr r hr)).2.2.1,(aO (hCr r hr)).1⟩) hm 2,← hBR];exact ⟨rfl,hb⟩
 have HSQE:Hid (SQ=bC AL S BR):=by show _=_;rw [hSQ,hAL,hBR];rfl
 have hncI:((nt:Int) == 0)=false:=by simpa using (show ¬(nt:Int)=0 by omega)
 have hncJ:¬(nt:Int)=0:=by omega
 have hroomN:=hN.room;have HPE:Hid (PT=aH T):=hPT;have HNF:Hid (nF=AL.length):=hnF;have CTK:=bc hCT;clear kW br bb hTk hN hC hS hok hNr hap hCr hsum hOK hRR hSQ hlow hhigh hlo2 hhi2 hBR hPT hnT hAL hnF hallL hCT;have x0:=bX.c0;have x1:=bX.c1;have x2:=bX.c2;have x3:=bX.c3;have x4:=bX.c4;have x5:=bX.c5;have xf:=bX.fz;have xz:=bX.lt;clear bX;go_enter Tryz.func66,Tryz.ntmps66
 go_wp2_with fail
 rw [← hX,← hW];clear hX hW x0 x1 x2 x3 x4 x5 xf xz;refine (CTK.out _ K0.out).mono ?_;rintro e w1 ⟨al,nl,cl,rfl,hL1,hb1⟩;have KW1:Hid (Bl W w1):=hb1;have K1:Hid (Bl w w1):=K0.out.trans (hb1.mono K0.out.size);have HL1:Hid (aj 0 w1 al nl cl LF):=hL1;have bX1:=(HBX.out _ hb1).1;have x0:=bX1.c0;have x1:=bX1.c1;have x2:=bX1.c2;have x3:=bX1.c3;have x4:=bX1.c4;have x5:=bX1.c5;have xf:=bX1.fz;have xz:=bX1.lt;clear hb1 hL1 bX1 CTK;go_wp2_with fail
 clear x0 x1 x2 x3 x4 x5 xf xz;refine (CLs.out _ K1.out).mono ?_;rintro e w2 hl2;obtain ⟨pa,pc,rfl,hp2,hb2⟩:=gK hl2;have KW2:Hid (Bl w1 w2):=hb2;rw [← HPE.out] at hp2;have HP2:Hid (bW w2 pa nt pc PT):=hp2;clear hl2 hp2 hb2 CLs;go_wp2_with fail
 refine (CM1.out _ _ _ HP2.out).mono ?_;rintro e w3 ⟨g3,rfl,hE3,hg3,hb3⟩;have KW3:Hid (Bl w1 w3):=KW2.out.trans (hb3.mono KW2.out.size);have HE3:Hid (af w3 (pT g3) nT nT (aQ PT.flatten)):=hE3;clear hE3 hg3 hb3 CM1 HP2 KW2;go_wp2_with fail
 refine (CR1.out _ _ HE3.out).mono ?_;rintro e w4 ⟨rfl,hb4⟩;have KW4:Hid (Bl w1 w4):=KW3.out.trans (hb4.mono KW3.out.size);have HE4:Hid (af w4 (pT g3) nT nT (aQ PT.flatten)):=HE3.out.keep hb4;clear hb4 CR1 HE3 KW3;go_wp2_with fail
 refine (CMe.out _ (K1.out.trans (KW4.out.mono K1.out.size))).mono ?_;rintro e w5 ⟨ii,jj,rfl,hm5,hb5⟩;obtain ⟨hij,hjn,hmg,hrr,hokd,hsm⟩:=HOKM.out ii jj hm5;have KW5:Hid (Bl w1 w5):=KW4.out.trans (hb5.mono KW4.out.size);have HE5:Hid (af w5 (pT g3) nT nT (aQ PT.flatten)):=HE4.out.keep hb5;have HMG:Hid (aQ (aH ((C.drop ii).take (jj - ii))++[aQ PT.flatten]).flatten=AL):=hmg;have HRR:Hid (RR=C.take ii++bw SQ++C.drop jj):=hrr;have HOKD:Hid (OK=(cV (bw SQ) && decide (RR.length≤8))):=hokd;have HOKE:Hid (OK=true→cV (bw SQ)=true∧RR.length≤8):=fun h=>by rw [hokd] at h;simpa using h
 have HSMX:Hid (∀e ∈ (aH ((C.drop ii).take (jj - ii))++[aQ PT.flatten]).flatten,rU e):=hsm;clear hmg hrr hokd hsm hm5 hb5 CMe HOKM HE4 KW4;obtain ⟨oi,hoi⟩:=ay (if c2=ii then 0 else ii*2);obtain ⟨oj,hoj⟩:=ay (if c2=jj then 0 else jj*2);obtain ⟨nI,hnI⟩:=ay (jj - ii);obtain ⟨cI,hcI⟩:=ay (c2 - ii);obtain ⟨nJ,hnJ⟩:=ay (n2 - jj);obtain ⟨cJ,hcJ⟩:=ay (c2 - jj);have HOJ:Hid (oj=(if c2=jj then 0 else jj*2)∧nJ=n2 - jj∧cJ=c2 - jj):=⟨hoj,hnJ,hcJ⟩;have hPI:aj 0 w5 (some ⟨e2,oi,none⟩) nI cI ((C.drop ii).take (jj - ii)):=by
  have:=dp (HN.out.keep (K1.out.trans (KW5.out.mono K1.out.size))) (i:=ii) (j:=jj) hij hjn;rw [hoi,hnI,hcI];exact this
 have hnI2:nI≤100:=by omega
 have hnJ2:nJ≤100:=by omega
 have hii:ii≤100:=by omega
 have CL5:=gP _ nI cI _ w5 hPI (by omega);have hiI:(ii:Int)≤(jj:Int):=by omega
 have hjI:(jj:Int)≤(c2:Int):=by omega
 have hjI2:(jj:Int)≤(n2:Int):=by omega
 have hiI2:(ii:Int)≤(c2:Int):=by omega
 have hnnI:(n2:Int)≤(c2:Int):=by omega
 have hi0:(0:Int)≤(ii:Int):=by omega
 have hj0:(0:Int)≤(jj:Int):=by omega
 have hav1:(if c2=ii then some (⟨e2,0,none⟩:Addr) else some ⟨e2,ii*2,none⟩)=some ⟨e2,oi,none⟩:=by rw [hoi];split <;> rfl
 have hav2:(if c2=jj then some (⟨e2,0,none⟩:Addr) else some ⟨e2,jj*2,none⟩)=some ⟨e2,oj,none⟩:=by rw [hoj];split <;> rfl
 have hx1:jj - ii=nI:=hnI.symm;have hx2:c2 - ii=cI:=hcI.symm;have hx3:n2 - jj=nJ:=hnJ.symm;have hx4:c2 - jj=cJ:=hcJ.symm;clear hoi hoj hnI hcI hnJ hcJ hPI;go_wp2_with fail
 refine CL5.mono ?_;rintro e w6 ⟨v6,vs6,rfl,hr6,hd6,hb6⟩;have KW6:Hid (Bl w1 w6):=KW5.out.trans (hb6.mono KW5.out.size);have ka:Bl w6 (w6.alloc (.cells #[sL g3 nT nT] 28)):=bZ;have hcn:=dx w6 (sL g3 nT nT) 28;have HCN:=bc hcn;have HA6:Hid ((w6.alloc (.cells #[sL g3 nT nT] 28)).ownsRow w5.heap.size 28 1 v6 nI vs6):=bi hr6 ka;have KA6:Hid (Bl w5 (w6.alloc (.cells #[sL g3 nT nT] 28))):=hb6.trans (ka.mono hb6.size);have HD6:Hid (jJ w5 (vs6++[sL g3 nT nT]) (aH ((C.drop ii).take (jj - ii))++[aQ PT.flatten])):=hd6.snoc HE5.out;clear hr6 hd6 hb6 ka hcn CL5;go_wp2_with (at_builtin;refine wpList_append_own _ rfl _ _ 85 rfl w5.heap.size 28 i0 _ 1 24 Tryz.underlying85 hi hz0 hz1 hz2 rfl (by decide) _ _ _ rfl HA6.out ⟨w6.heap.size,0,none⟩ 1 1 [sL g3 nT nT] rfl rfl HCN.out (by intro u hu;simp at hu;subst hu;rfl) (by unfold maxLen;omega) (by omega) KA6.out.size ?_;intro v7 w7 hown7 hgrow7 hnil7)
 have KB7:Bl w5 w7:=KA6.out.grown hgrow7 KA6.out.size (fun k e=>(HA6.out.lt k e).1);obtain ⟨a7,c7,rfl,hp7⟩:=jo hown7 (HD6.out.keep KB7);have KW7:Hid (Bl w1 w7):=KW5.out.trans (KB7.mono KW5.out.size);have HF7:Hid ((aH ((C.drop ii).take (jj - ii))++[aQ PT.flatten]).flatten.length=nF):=by show _=_;rw [← dF,HMG.out,HNF.out]
 have CM7:=qZ _ (nI+1) c7 _ nF w7 hp7 HF7.out.symm (by omega) (by omega) HSMX.out;rw [HMG.out] at CM7;clear hown7 hgrow7 hnil7 KB7 hp7 HA6 KA6 HD6 HCN HE5 KW6;go_wp2_with fail
 refine CM7.mono ?_;rintro e W8 ⟨g8,rfl,hE8,hg8,hb8⟩;have KWL:Hid (Bl w1 W8):=KW7.out.trans (hb8.mono KW7.out.size);have KW8:Hid (Bl W W8):=KW1.out.trans (KWL.out.mono KW1.out.size);have KL8:Hid (Bl w W8):=K0.out.trans (KW8.out.mono K0.out.size);have CR8:Hid (∀w',Bl W8 w'→Calls Tryz.prog 104 #[sL g8 nF nF] w' fun e w''=>e=.returned (.agg #[.string lo2,.string hi2])∧Bl w' w''):=fun w' k=>CR8g.out g8 w' (hE8.keep k)
 have CB8:Hid (∀w',Bl W8 w'→Calls Tryz.prog 106 #[.agg #[iT q,.slice am nm cm,sL e0 n0 c0,sL e1 n1 c1,sL e2 n2 c2,.slice ak nk ck],iT 2,.agg #[.string lo2,.string hi2]] w' fun e w''=>e=.returned (.bool BR)∧Bl w' w''):=fun w' k=>CB8g.out w' (KL8.out.trans (k.mono KL8.out.size))
 have CQ8:Hid (∀w',Bl W8 w'→Calls Tryz.prog 99 #[sL g8 nF nF,.slice ak nk ck,.bool BR] w' fun e w''=>∃ar n' c',e=.returned (.slice ar n' c')∧d7 w'' w'.heap.size ar n' c' SQ∧Bl w' w''):=fun w' k=>by
  rw [HSQE.out];exact callsIn_wide.1 (mQ 0 _ nF nF AL ak nk ck S BR w' (hE8.keep k) (HSI.out.keep (KL8.out.trans (k.mono KL8.out.size))) (by omega) hnk)
 have CU8:Hid (∀base ar n' c' w',d7 w' base ar n' c' SQ→Calls Tryz.prog 105 #[.slice ar n' c'] w' (rQ (bw SQ) w')):=fun base ar n' c' w' h=>mS base ar n' c' SQ w' h (by have:=h.len;have:=HSQL.out;omega) (by rw [HSQE.out];exact fZ HALR.out S BR)
 have hS8:∀w',Bl W8 w'→(fun w'=>w'.cell? ⟨X,0,none⟩=some (iT q)∧w'.cell? ⟨X,1,none⟩=some (.slice am nm cm)∧w'.cell? ⟨X,2,none⟩=some (sL e0 n0 c0)∧w'.cell? ⟨X,3,none⟩=some (sL e1 n1 c1)∧w'.cell? ⟨X,4,none⟩=some (sL e2 n2 c2)∧w'.cell? ⟨X,5,none⟩=some (.slice ak nk ck)∧X<w'.heap.size) w':=fun w' k=>by
  have h:=(HBX.out _ (KW8.out.trans (k.mono KW8.out.size))).1;exact ⟨h.c0,h.c1,h.c2,h.c3,h.c4,h.c5,h.lt⟩
 have k0:Bl W8 W8.drew:=(Below.refl _ W8).drew;clear hE8 hg8 hb8 CM7 KW7 CR8g CB8g;go_upto_region 8 with fail
 refine vC hS8 k0 fun aa=>?_
 generalize W8.drew=wd at k0 aa ⊢;refine aL 0 7 aa ?_;refine aS 7 fun K hK=>?_
 go_simp;refine (CR8.out _ k0).mono ?_;rintro e wA ⟨rfl,hbA⟩;have kA:Bl W8 wA:=k0.trans (hbA.mono k0.size);clear hbA;go_wp2_with fail
 refine hK.out _ _ (hS8 _ kA) fun aa=>?_
 (try go_frame);refine aS 8 fun K hK=>?_
 go_simp;refine (CB8.out _ kA).mono ?_;rintro e wB ⟨rfl,hbB⟩;have kB:Bl W8 wB:=kA.trans (hbB.mono kA.size);clear hbB;go_wp2_with fail
 refine hK.out _ _ (hS8 _ kB) fun aa=>?_
 (try go_frame);refine aS 9 fun K hK=>?_
 go_simp;refine (CQ8.out _ kB).mono ?_;rintro e wC ⟨ar,nr,cr,rfl,hoC,hbC⟩;have kC:Bl W8 wC:=kB.trans (hbC.mono kB.size);have HOC:Hid (d7 wC wB.heap.size ar nr cr SQ):=hoC;clear hbC hoC;go_wp2_with fail
 refine hK.out _ _ (hS8 _ kC) fun aa=>?_
 (try go_frame);refine aS 10 fun K hK=>?_
 go_simp;refine (CU8.out _ _ _ _ _ HOC.out).mono ?_;rintro e wD ⟨vP,okc,np,rfl,hokc,hVy,hVn,hbD⟩;have kD:Bl W8 wD:=kC.trans (hbD.mono kC.size);have HPC:Hid (∃aP nP cP PC,vP=.slice aP nP cP∧aj 0 wD aP nP cP PC∧(aP=none→cP=0)∧(∀x,aP=some x→x.spot=none)∧nP≤100000∧(okc=true→PC=bw SQ)):=by
  cases okc with
  | true =>
   obtain ⟨a,c,e1,h1,h2,h3⟩:=(hVy rfl).rowIn;refine ⟨a,np,c,_,e1,h1,h2,h3,?_,fun _=>rfl⟩;have h4:=(hVy rfl).len;have h5:=lO SQ SQ.length;have h6:=HSQL.out;have h7:(bw SQ).length≤SQ.length:=h5;omega
  | false =>
   obtain ⟨a,c,e1,h1,h2,h3⟩:=(jM 0 wD).rowIn;exact ⟨a,0,c,[],(hVn rfl).trans e1,h1,h2,h3,by omega,fun h=>by cases h⟩
 have HOKC:Hid (okc=cV (bw SQ)):=hokc;clear hVy hVn hbD hokc;go_wp2_with fail
 refine hK.out _ _ (hS8 _ kD) fun aa=>?_
 (try go_frame);refine aL 11 5 aa ?_;refine dN ?_;obtain ⟨aP,nP,cP,PC,rfl,hP,hP0,hP1,hnP,hPC⟩:=HPC.out;have KWD:Hid (Bl W wD):=KW8.out.trans (kD.mono KW8.out.size);have KLD:Hid (Bl w wD):=K0.out.trans (KWD.out.mono K0.out.size);have HP:Hid (aj 0 wD aP nP cP PC):=hP;have HP0:Hid ((aP=none→cP=0)∧(∀x,aP=some x→x.spot=none)∧(okc=true→PC=bw SQ)):=⟨hP0,hP1,hPC⟩;have HLD:Hid (aj 0 wD al nl cl LF):=HL1.out.keep (KWL.out.trans (kD.mono KWL.out.size));have bD:=(HBX.out _ KWD.out).1;have tD:=(HBX.out _ KWD.out).2;have yD:=(HBR.out _ KWD.out).1;have x0:=bD.c0;have x1:=bD.c1;have x2:=bD.c2;have x3:=bD.c3;have x4:=bD.c4;have x5:=bD.c5;have xf:=bD.fz;have xz:=bD.lt;obtain ⟨w9,hw9⟩:=ay (wD.setCell ⟨X,3,none⟩ (.slice al nl cl));clear aa HPC HOC kA kB kC kD k0 hS8 CR8 CB8 CQ8 CU8 hP hP0 hP1 hPC HL1;go_upto_region 10 with fail
 rw [← hw9];clear x0 x1 x2 x3 x4 x5 xf xz;have b9:bn w9 X (iT q) (.slice am nm cm) (sL e0 n0 c0) (.slice al nl cl) (sL e2 n2 c2) (.slice ak nk ck):=by rw [hw9];exact bD.set3 _
 have y9:bn w9 (X+1) (iT 0) nZ nZ nZ nZ nZ:=by rw [hw9];exact yD.other (by omega) _
 have hc9:∀b,b≠X→∀o,w9.cell? ⟨b,o,none⟩=wD.cell? ⟨b,o,none⟩:=by rw [hw9];exact d8 _ _ _ _
 have hs9:wD.heap.size≤w9.heap.size:=by rw [hw9];simp [World.setCell]
 have K9:Hid (Bl w w9):=by rw [hw9];exact KLD.out.setCell (p:=⟨X,3,none⟩) (by have:=HX.out;show _≤X;omega) _
 have HL9:Hid (aj 0 w9 al nl cl LF):=HLD.out.apartX tD hs9 hc9;have hP9:aj 0 w9 aP nP cP PC:=HP.out.apartX tD hs9 hc9;have hN9:=HN.out.keep K9.out;have BB9:Hid (aw w9 X 67 6∧aw w9 (X+1) 67 6):=by have h1:=HBB.out _ KWD.out;rw [hw9];exact ⟨h1.1.setCell _,h1.2.setCell _⟩
 clear hw9 bD tD yD HLD HP hc9 hs9;have h10:aj 0 w9 (pT e2) ii c2 (C.take ii):=by
  have:=dp hN9 (i:=0) (j:=ii) (by omega) (by omega);have e0:(if c2=0 then 0 else 0*2)=0:=by split <;> rfl
  rw [e0] at this;simpa using this
 have h12:aj 0 w9 (some ⟨e2,oj,none⟩) nJ cJ (C.drop jj):=by
  have:=dp hN9 (i:=jj) (j:=n2) (by omega) (by omega);rw [List.take_of_length_le (by rw [List.length_drop,HNL.out];omega)] at this;rw [HOJ.out.1,HOJ.out.2.1,HOJ.out.2.2];exact this
 obtain ⟨xs1,d1,r1⟩:=h10.raw;obtain ⟨xs2,d2,r2⟩:=vS hP9 HP0.out.1 HP0.out.2.1;obtain ⟨xs3,d3,r3⟩:=h12.raw;have HDN:Hid (dq (·<w9.heap.size) w9 (xs1++xs2++xs3) (C.take ii++PC++C.drop jj)):=(d1.denP.app d2.denP).app d3.denP;have HRW:Hid (gl w9 (sL e2 ii c2) ii xs1∧gl w9 (.slice aP nP cP) nP xs2∧gl w9 (sO e2 oj nJ cJ) nJ xs3):=⟨r1,r2,r3⟩;clear hN9 hP9 h10 h12 d1 d2 d3 r1 r2 r3;have HB9:Hid (∀w',Bl w9 w'→bn w' X (iT q) (.slice am nm cm) (sL e0 n0 c0) (.slice al nl cl) (sL e2 n2 c2) (.slice ak nk ck)∧bn w' (X+1) (iT 0) nZ nZ nZ nZ nZ):=fun w' k=>⟨b9.keep k,y9.keep k⟩
 have hS9:∀w',bn w' X (iT q) (.slice am nm cm) (sL e0 n0 c0) (.slice al nl cl) (sL e2 n2 c2) (.slice ak nk ck)→(fun w'=>w'.cell? ⟨X,0,none⟩=some (iT q)∧w'.cell? ⟨X,1,none⟩=some (.slice am nm cm)∧w'.cell? ⟨X,2,none⟩=some (sL e0 n0 c0)∧w'.cell? ⟨X,3,none⟩=some (.slice al nl cl)∧w'.cell? ⟨X,4,none⟩=some (sL e2 n2 c2)∧w'.cell? ⟨X,5,none⟩=some (.slice ak nk ck)∧X<w'.heap.size) w':=fun w' h=>⟨h.c0,h.c1,h.c2,h.c3,h.c4,h.c5,h.lt⟩
 have k9:Bl w9 w9.drew:=(Below.refl _ w9).drew;clear b9 y9;obtain ⟨n5,hn5⟩:=ay (ii+nP+nJ);have HN5:Hid (n5=ii+nP+nJ):=hn5;clear hn5;have wNX:IntKind.i64.wrap 2=2:=by decide
 refine wp_region_held_drew (S:=(fun w'=>X<w'.heap.size)) (by kernel_rfl) ((HB9.out _ k9).1.lt) (fun aa=>?_);generalize w9.drew=wd9 at k9 aa ⊢;refine aL 0 9 aa ?_;refine aL 11 1 aa ?_;refine aS 9 fun K hK=>?_
 go_simp;have kc:Bl wd9 (wd9.alloc (.cells #[sL e2 ii c2,.slice aP nP cP,sO e2 oj nJ cJ] 64)):=bZ;have m1:Bl w9 (wd9.alloc (.cells #[sL e2 ii c2,.slice aP nP cP,sO e2 oj nJ cJ] 64)):=k9.trans (kc.mono k9.size);have hq:=jA wd9 (sL e2 ii c2) (.slice aP nP cP) (sO e2 oj nJ cJ) 64;generalize wd9.heap.size=gb at hq ⊢;generalize wd9.alloc (.cells #[sL e2 ii c2,.slice aP nP cP,sO e2 oj nJ cJ] 64)=wb at m1 hq ⊢;clear kc;refine hK.out _ _ ((HB9.out _ m1).1.lt) fun aa=>?_
 (try go_frame);refine aS 10 fun K hK=>?_
 go_simp;refine (wM gb wb _ _ _ _ _ _ xs1 xs2 xs3 (HRW.out.1.keep m1) (HRW.out.2.1.keep m1) (HRW.out.2.2.keep m1) hq.1 hq.2.1 hq.2.2 (by omega)).mono ?_;rintro e wE ⟨v5,rfl,hrow,hbE⟩;have m2:Bl w9 wE:=m1.trans (hbE.mono m1.size);rw [← HN5.out] at hrow;obtain ⟨a5,c5,rfl,h5⟩:=fe hrow (HDN.out.low m2).den;have H5:Hid (aj 0 wE a5 n5 c5 (C.take ii++PC++C.drop jj)):=h5;clear hrow h5 hbE hq;go_wp2_with fail
 refine hK.out _ _ ((HB9.out _ m2).1.lt) fun aa=>?_
 (try go_frame);refine aL 12 1 aa ?_;refine aS 13 fun K hK=>?_
 have bE:=(HB9.out _ m2).1;have x0:=bE.c0;have x1:=bE.c1;have x2:=bE.c2;have x3:=bE.c3;have x4:=bE.c4;have x5:=bE.c5;have xf:=bE.fz;have xz:=bE.lt;have b11:=bE.set4 (.slice a5 n5 c5);go_simp;refine hK.out _ _ (b11.lt) fun aa=>?_
 (try go_frame);refine dN ?_;have yE:=(HB9.out _ m2).2;obtain ⟨wF,hwF⟩:=ay (wE.setCell ⟨X,4,none⟩ (.slice a5 n5 c5));have yF:bn wF (X+1) (iT 0) nZ nZ nZ nZ nZ:=by rw [hwF];exact yE.other (by omega) _
 have bF:bn wF X (iT q) (.slice am nm cm) (sL e0 n0 c0) (.slice al nl cl) (.slice a5 n5 c5) (.slice ak nk ck):=by rw [hwF];exact b11
 have hcF:∀b,b≠X→∀o,wF.cell? ⟨b,o,none⟩=wE.cell? ⟨b,o,none⟩:=by rw [hwF];exact d8 _ _ _ _
 have hsF:wE.heap.size≤wF.heap.size:=by rw [hwF];simp [World.setCell]
 have KE:Bl w wE:=K9.out.trans (m2.mono K9.out.size);have KF:Hid (Bl w wF):=by rw [hwF];exact KE.setCell (p:=⟨X,4,none⟩) (by have:=HX.out;show _≤X;omega) _
 have tE:m8 wE X:=eY (BB9.out.1.below m2) bE;have HLF:Hid (aj 0 wF al nl cl LF):=(HL9.out.keep m2).apartX tE hsF hcF;have HNF:Hid (aj 0 wF a5 n5 c5 (C.take ii++PC++C.drop jj)):=H5.out.apartX tE hsF hcF;have HTF:Hid (m8 wF (X+1)):=eY (show aw wF (X+1) 67 6 by rw [hwF];exact (BB9.out.2.below m2).setCell _) yF;rw [← hwF];clear hwF aa k9 m1 m2 hS9 b11 bE yE hcF hsF KE tE x0 x1 x2 x3 x4 x5 xf xz H5 HL9 HB9 HRW HDN K9;have x0:=bF.c0;have x1:=bF.c1;have x2:=bF.c2;have x3:=bF.c3;have x4:=bF.c4;have x5:=bF.c5;have xf:=bF.fz;have xz:=bF.lt;go_upto_region 11 with fail
 clear x0 x1 x2 x3 x4 x5 xf xz;have k0:bn wF.drew X (iT q) (.slice am nm cm) (sL e0 n0 c0) (.slice al nl cl) (.slice a5 n5 c5) (.slice ak nk ck):=bF.keep (Below.refl _ wF).drew;have R6:Hid (bn wF.drew (X+1) (iT 0) nZ nZ nZ nZ nZ):=yF.keep (Below.refl _ wF).drew;have K6:Hid (Bl w wF.drew):=KF.out.drew;have HL6:Hid (aj 0 wF.drew al nl cl LF):=HLF.out.keep (Below.refl _ wF).drew;have HN6:Hid (aj 0 wF.drew a5 n5 c5 (C.take ii++PC++C.drop jj)):=HNF.out.keep (Below.refl _ wF).drew;have HT6:Hid (m8 wF.drew (X+1)):=HTF.out;clear bF yF KF HLF HNF HTF;have HMK:Hid (∀w',bn w' X (iT q) (.slice am nm cm) (sL e0 n0 c0) (.slice al nl cl) (.slice a5 n5 c5) (.slice ak nk ck)→(fun w'=>w'.cell? ⟨X,0,none⟩=some (iT q)∧w'.cell? ⟨X,1,none⟩=some (.slice am nm cm)∧w'.cell? ⟨X,2,none⟩=some (sL e0 n0 c0)∧w'.cell? ⟨X,3,none⟩=some (.slice al nl cl)∧w'.cell? ⟨X,4,none⟩=some (.slice a5 n5 c5)∧w'.cell? ⟨X,5,none⟩=some (.slice ak nk ck)∧X<w'.heap.size) w'):=fun w' h=>⟨h.c0,h.c1,h.c2,h.c3,h.c4,h.c5,h.lt⟩
 have hlen5:=HN6.out.length;have HFIN:Hid (∀w',aj 0 w' al nl cl LF→aj 0 w' a5 n5 c5 (C.take ii++PC++C.drop jj)→(OK=true→aj 0 w' al nl cl LF∧aj 0 w' a5 n5 c5 RR)):=fun w' h1 h2 hok=>⟨h1,by
  have hf:okc=true:=by rw [HOKC.out];exact (HOKE.out hok).1
  rw [HP0.out.2.2 hf] at h2;rw [HRR.out];exact h2⟩
 have HOKV:Hid (OK=(okc && decide (n5≤8))):=by
  show _=_
  rw [HOKD.out,HOKC.out];cases hf:cV (bw SQ) with
  | false=>rfl
  | true =>
   have h1:=HP0.out.2.2 (HOKC.out.trans hf);rw [Bool.true_and,Bool.true_and,← hlen5,h1,← HRR.out]
 clear hlen5;cases okc with
 | false =>
  have HOK:Hid (OK=false):=HOKV.out;refine dM HMK k0 fun aa=>?_
  generalize wF.drew=wg at k0 aa R6 K6 HL6 HN6 HT6 ⊢;refine aL 0 11 aa ?_;refine aS 11 fun K hK=>?_
  have r0:=R6.out.c0;have r1:=R6.out.c1;have r2:=R6.out.c2;have r3:=R6.out.c3;have r4:=R6.out.c4;have r5:=R6.out.c5;have rf:=R6.out.fz;have rz:=R6.out.lt;have hxx:X+1≠X:=by omega
  go_simp;have k1:=((((((k0.other (b':=X+1) (o:=0) hxx (iT q)).other (b':=X+1) (o:=1) hxx (.slice am nm cm)).other (b':=X+1) (o:=2) hxx (sL e0 n0 c0)).other (b':=X+1) (o:=3) hxx (.slice al nl cl)).other (b':=X+1) (o:=4) hxx (.slice a5 n5 c5)).other (b':=X+1) (o:=5) hxx (.slice ak nk ck));refine hK.out _ _ (HMK.out _ k1) fun aa=>?_
  (try go_frame);refine aL 12 1 aa ?_;refine dN ?_;clear k1 hxx aa r0 r1 r2 r3 r4 r5 rf rz;go_wp2;refine bodyPost_ret (v:=.tuple #[.agg #[iT q,.slice am nm cm,sL e0 n0 c0,.slice al nl cl,.slice a5 n5 c5,.slice ak nk ck],.bool false]) ?_ rfl (show wT _ _ _ _ _ _ _ _ _ _ _ _ _ _ _ _ from ⟨al,nl,cl,a5,n5,c5,?_,?_,?_⟩)
  · have e:=((((((R6.out.set0 (iT q)).set1 (.slice am nm cm)).set2 (sL e0 n0 c0)).set3 (.slice al nl cl)).set4 (.slice a5 n5 c5)).set5 (.slice ak nk ck));simp [results,Tryz.results66,go_sem,e.c0,e.c1,e.c2,e.c3,e.c4,e.c5]
  · rw [HOK.out]
  · exact HFIN.out _ ((HL6.out.apartX HT6.out (Nat.le_of_eq (dW wg (X+1) (iT q) (.slice am nm cm) (sL e0 n0 c0) (.slice al nl cl) (.slice a5 n5 c5) (.slice ak nk ck)).symm) (dG wg (X+1) (iT q) (.slice am nm cm) (sL e0 n0 c0) (.slice al nl cl) (.slice a5 n5 c5) (.slice ak nk ck)))) ((HN6.out.apartX HT6.out (Nat.le_of_eq (dW wg (X+1) (iT q) (.slice am nm cm) (sL e0 n0 c0) (.slice al nl cl) (.slice a5 n5 c5) (.slice ak nk ck)).symm) (dG wg (X+1) (iT q) (.slice am nm cm) (sL e0 n0 c0) (.slice al nl cl) (.slice a5 n5 c5) (.slice ak nk ck))))
  · have hx:w.heap.size≤X+1:=by have:=HX.out;omega
    exact ((((((K6.out).setCell (p:=⟨X+1,0,none⟩) hx _).setCell (p:=⟨X+1,1,none⟩) hx _).setCell (p:=⟨X+1,2,none⟩) hx _).setCell (p:=⟨X+1,3,none⟩) hx _).setCell (p:=⟨X+1,4,none⟩) hx _).setCell (p:=⟨X+1,5,none⟩) hx _
 | true =>
  by_cases h8:n5≤8
  · have HOK:Hid (OK=true):=by show _=_;rw [HOKV.out];simpa using h8
    have h8I:(n5:Int)≤8:=by omega
    refine dM HMK k0 fun aa=>?_
    generalize wF.drew=wg at k0 aa R6 K6 HL6 HN6 HT6 ⊢;refine aL 0 11 aa ?_;refine aS 11 fun K hK=>?_
    have r0:=R6.out.c0;have r1:=R6.out.c1;have r2:=R6.out.c2;have r3:=R6.out.c3;have r4:=R6.out.c4;have r5:=R6.out.c5;have rf:=R6.out.fz;have rz:=R6.out.lt;have hxx:X+1≠X:=by omega
    go_simp;have k1:=((((((k0.other (b':=X+1) (o:=0) hxx (iT q)).other (b':=X+1) (o:=1) hxx (.slice am nm cm)).other (b':=X+1) (o:=2) hxx (sL e0 n0 c0)).other (b':=X+1) (o:=3) hxx (.slice al nl cl)).other (b':=X+1) (o:=4) hxx (.slice a5 n5 c5)).other (b':=X+1) (o:=5) hxx (.slice ak nk ck));refine hK.out _ _ (HMK.out _ k1) fun aa=>?_
    (try go_frame);refine aL 12 1 aa ?_;refine dN ?_;clear k1 hxx aa r0 r1 r2 r3 r4 r5 rf rz;go_wp2;refine bodyPost_ret (v:=.tuple #[.agg #[iT q,.slice am nm cm,sL e0 n0 c0,.slice al nl cl,.slice a5 n5 c5,.slice ak nk ck],.bool true]) ?_ rfl (show wT _ _ _ _ _ _ _ _ _ _ _ _ _ _ _ _ from ⟨al,nl,cl,a5,n5,c5,?_,?_,?_⟩)
    · have e:=((((((R6.out.set0 (iT q)).set1 (.slice am nm cm)).set2 (sL e0 n0 c0)).set3 (.slice al nl cl)).set4 (.slice a5 n5 c5)).set5 (.slice ak nk ck));simp [results,Tryz.results66,go_sem,e.c0,e.c1,e.c2,e.c3,e.c4,e.c5]
    · rw [HOK.out]
    · exact HFIN.out _ ((HL6.out.apartX HT6.out (Nat.le_of_eq (dW wg (X+1) (iT q) (.slice am nm cm) (sL e0 n0 c0) (.slice al nl cl) (.slice a5 n5 c5) (.slice ak nk ck)).symm) (dG wg (X+1) (iT q) (.slice am nm cm) (sL e0 n0 c0) (.slice al nl cl) (.slice a5 n5 c5) (.slice ak nk ck)))) ((HN6.out.apartX HT6.out (Nat.le_of_eq (dW wg (X+1) (iT q) (.slice am nm cm) (sL e0 n0 c0) (.slice al nl cl) (.slice a5 n5 c5) (.slice ak nk ck)).symm) (dG wg (X+1) (iT q) (.slice am nm cm) (sL e0 n0 c0) (.slice al nl cl) (.slice a5 n5 c5) (.slice ak nk ck))))
    · have hx:w.heap.size≤X+1:=by have:=HX.out;omega
      exact ((((((K6.out).setCell (p:=⟨X+1,0,none⟩) hx _).setCell (p:=⟨X+1,1,none⟩) hx _).setCell (p:=⟨X+1,2,none⟩) hx _).setCell (p:=⟨X+1,3,none⟩) hx _).setCell (p:=⟨X+1,4,none⟩) hx _).setCell (p:=⟨X+1,5,none⟩) hx _
  · have HOK:Hid (OK=false):=by show _=_;rw [HOKV.out];simpa using h8
    have h8I:¬(n5:Int)≤8:=by omega
    refine dM HMK k0 fun aa=>?_
    generalize wF.drew=wg at k0 aa R6 K6 HL6 HN6 HT6 ⊢;refine aL 0 11 aa ?_;refine aS 11 fun K hK=>?_
    have r0:=R6.out.c0;have r1:=R6.out.c1;have r2:=R6.out.c2;have r3:=R6.out.c3;have r4:=R6.out.c4;have r5:=R6.out.c5;have rf:=R6.out.fz;have rz:=R6.out.lt;have hxx:X+1≠X:=by omega
    go_simp;have k1:=((((((k0.other (b':=X+1) (o:=0) hxx (iT q)).other (b':=X+1) (o:=1) hxx (.slice am nm cm)).other (b':=X+1) (o:=2) hxx (sL e0 n0 c0)).other (b':=X+1) (o:=3) hxx (.slice al nl cl)).other (b':=X+1) (o:=4) hxx (.slice a5 n5 c5)).other (b':=X+1) (o:=5) hxx (.slice ak nk ck));refine hK.out _ _ (HMK.out _ k1) fun aa=>?_
    (try go_frame);refine aL 12 1 aa ?_;refine dN ?_;clear k1 hxx aa r0 r1 r2 r3 r4 r5 rf rz;go_wp2;refine bodyPost_ret (v:=.tuple #[.agg #[iT q,.slice am nm cm,sL e0 n0 c0,.slice al nl cl,.slice a5 n5 c5,.slice ak nk ck],.bool false]) ?_ rfl (show wT _ _ _ _ _ _ _ _ _ _ _ _ _ _ _ _ from ⟨al,nl,cl,a5,n5,c5,?_,?_,?_⟩)
    · have e:=((((((R6.out.set0 (iT q)).set1 (.slice am nm cm)).set2 (sL e0 n0 c0)).set3 (.slice al nl cl)).set4 (.slice a5 n5 c5)).set5 (.slice ak nk ck));simp [results,Tryz.results66,go_sem,e.c0,e.c1,e.c2,e.c3,e.c4,e.c5]
    · rw [HOK.out]
    · exact HFIN.out _ ((HL6.out.apartX HT6.out (Nat.le_of_eq (dW wg (X+1) (iT q) (.slice am nm cm) (sL e0 n0 c0) (.slice al nl cl) (.slice a5 n5 c5) (.slice ak nk ck)).symm) (dG wg (X+1) (iT q) (.slice am nm cm) (sL e0 n0 c0) (.slice al nl cl) (.slice a5 n5 c5) (.slice ak nk ck)))) ((HN6.out.apartX HT6.out (Nat.le_of_eq (dW wg (X+1) (iT q) (.slice am nm cm) (sL e0 n0 c0) (.slice al nl cl) (.slice a5 n5 c5) (.slice ak nk ck)).symm) (dG wg (X+1) (iT q) (.slice am nm cm) (sL e0 n0 c0) (.slice al nl cl) (.slice a5 n5 c5) (.slice ak nk ck))))
    · have hx:w.heap.size≤X+1:=by have:=HX.out;omega
      exact ((((((K6.out).setCell (p:=⟨X+1,0,none⟩) hx _).setCell (p:=⟨X+1,1,none⟩) hx _).setCell (p:=⟨X+1,2,none⟩) hx _).setCell (p:=⟨X+1,3,none⟩) hx _).setCell (p:=⟨X+1,4,none⟩) hx _).setCell (p:=⟨X+1,5,none⟩) hx _
end Go.Proofs.YtlmgojlffgkciaaGreat
