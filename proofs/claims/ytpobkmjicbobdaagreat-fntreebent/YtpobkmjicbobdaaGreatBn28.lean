/- Walks. -/
import Derived.Test.YtpobkmjicbobdaaGreatBn27
namespace Go.Proofs.YtpobkmjicbobdaaGreat
set_option maxRecDepth 100000
set_option maxHeartbeats 40000000
open Go.RowKit
theorem Ar (lo lw:Nat) (q:Int) (aM:Option Addr) (nm cm bv cv:Nat) (aK:Option Addr) (ns cs:Nat) (M:List ac) (A B C:List ag) (S:List Int) (bt ot nt ct:Nat) (T:List ag) (gr:Nat) (w:World) (hT:bf lo w aM nm cm (pT bv) 3 cv aK ns cs M [A,B,C] S) (hnm:nm≤1048576) (hns:ns≤1048576) (hSz:∀Z ∈ [A,B,C],Z.length≤100∧∀r ∈ Z,1≤r.1.length∧r.1.length≤10000) (hTk:az 0 w (some ⟨bt,ot,none⟩) nt ct T) (hnt:nt≤100) (hgb:w.heap[gr]?=some (.cells #[] 63 (0,0))) (hlw:lw≤gr) (hok:fK T B) (hsum:(bn (dx T B)).flatten.length≤100000) :
 Calls Tryz.prog 119 #[.agg #[iT q,.slice aM nm cm,sL bv 3 cv,.slice aK ns cs],iT 0,sO bt ot nt ct,sL gr 0 0] w (jH lw q (.agg #[iT q,.slice aM nm cm,sL bv 3 cv,.slice aK ns cs]) M [] (d4 T B C S 1) C S (uy T B C S 1) w):=by
 obtain ⟨j0,hj,hy0,hy1,hy2⟩:=info_parts Tryz.infoRun;obtain ⟨X,hX⟩:=aS w.heap.size;obtain ⟨W,hW⟩:=aS ((w.alloc (.cells #[iT q,.slice aM nm cm,sL bv 3 cv,.slice aK ns cs] 31)).alloc (.cells #[iT 0,nZ,nZ,nZ] 31));have kW:Bl w W:=by rw [hW];exact bZ.alloc (by simp) _
 have bx:ar W X (iT q) (.slice aM nm cm) (sL bv 3 cv) (.slice aK ns cs):=by rw [hW,hX];exact (ar.new _ _ _ _ _ _).alloc _
 have br:ar W (X+1) (iT 0) nZ nZ nZ∧an W (X+1) 31 4:=by
  have:=ar.new (w.alloc (.cells #[iT q,.slice aM nm cm,sL bv 3 cv,.slice aK ns cs] 31)) 31 (iT 0) nZ nZ nZ;rw [World.size_alloc] at this;rw [hW,hX];have h2:=bU (w.alloc (.cells #[iT q,.slice aM nm cm,sL bv 3 cv,.slice aK ns cs] 31)) #[iT 0,nZ,nZ,nZ] 31;rw [World.size_alloc] at h2;exact ⟨this,h2⟩
 have HX:Hid (X=w.heap.size):=hX;have K0:Hid (Bl w W):=kW;have HBR:Hid (∀w',Bl W w'→ar w' (X+1) (iT 0) nZ nZ nZ∧x8 w' (X+1)):=fun w' k=>⟨br.1.keep k,fA (br.2.below k) (br.1.keep k)⟩
 have HBX:Hid (∀w',Bl W w'→ar w' X (iT q) (.slice aM nm cm) (sL bv 3 cv) (.slice aK ns cs)):=fun w' k=>bx.keep k
 have HBL:Hid (∀w',Bl W w'→an w' (X+1) 31 4):=fun w' k=>br.2.below k
 have hrt:=List.getElem?_eq_getElem (l:=T) (i:=0) (by have:=hok.t0;omega);obtain ⟨r0,hr0⟩:∃r0,T[0]?=some r0:=⟨_,hrt⟩;obtain ⟨low,hlow⟩:=aS (ig T);obtain ⟨high,hhigh⟩:=aS (eZ T);have hlo':low=fb (bj r0.1) T:=by rw [hlow];unfold ig;rw [hr0]
 have hhi':high=dc (aT r0.1) T:=by rw [hhigh];unfold eZ;rw [hr0]
 obtain ⟨nx,hnx,cnx,hN⟩:∃aN nN cN,w.cell? ⟨bv,1,none⟩=some (.slice aN nN cN)∧az 0 w aN nN cN B:=by
  obtain ⟨s,n,c,h1,h2⟩:=hT.levels.levels _ rfl 1 (by simp);exact ⟨s,n,c,by simpa using h1,h2.mono (Nat.zero_le _)⟩
 obtain ⟨hcN,hN⟩:=hN;obtain ⟨a2,n2,c2,hc2,hC⟩:∃aN nN cN,w.cell? ⟨bv,2,none⟩=some (.slice aN nN cN)∧az 0 w aN nN cN C:=by
  obtain ⟨s,n,c,h1,h2⟩:=hT.levels.levels _ rfl 2 (by simp);exact ⟨s,n,c,by simpa using h1,h2.mono (Nat.zero_le _)⟩
 have hNz:=hSz B (by simp);have hCz:=hSz C (by simp);have hNl:=hN.length;have hCl:=hC.length;have HLN:Hid (w.cell? ⟨bv,1,none⟩=some (.slice nx hnx cnx)):=hcN;have CR:Hid (∀w',Bl w w'→Calls Tryz.prog 176 #[sO bt ot nt ct] w' fun e w''=>e=.returned (.tuple #[.string low,.string high])∧Bl w' w''):=fun w' k=>by
  rw [hlo',hhi'];exact lS bt ot nt ct T r0 w' (hTk.keep k) hr0 (fun r hr=>(hok.tok r hr).2) (by omega)
 have CP:Hid (∀w',Bl w w'→Calls Tryz.prog 177 #[.slice nx hnx cnx,.string low,.string high] w' fun e w''=>∃g1 n1 c1 g2 n2 c2,e=.returned (.tuple #[sL g1 n1 c1,sL g2 n2 c2])∧az 0 w'' (pT g1) n1 c1 (Av T B)∧az 0 w'' (pT g2) n2 c2 (offR T B)∧Bl w' w''):=fun w' k=>by
  unfold Av offR;rw [← hlow,← hhigh];exact nT nx hnx cnx B low high w' (hN.keep k) (fun r hr=>(hNz.2 r hr).1) (by omega)
 have HTI:=b6 hT;have HTK:=b6 hTk;have HRR:Hid (w.heap[gr]?=some (.cells #[] 63 (0,0))∧lw≤gr):=⟨hgb,hlw⟩;have HC2:Hid (w.cell? ⟨bv,2,none⟩=some (.slice a2 n2 c2)∧az 0 w a2 n2 c2 C):=⟨hc2,hC⟩;have HOK:=b6 hok;have HR0:Hid (T[0]?=some r0):=hr0;have HSM:=b6 hsum;have HZN:Hid (B.length≤100∧∀r ∈ B,1≤r.1.length∧r.1.length≤10000):=hNz;have HZC:Hid (n2≤1000∧∀r ∈ C,1≤r.1.length):=⟨by omega,fun r hr=>(hCz.2 r hr).1⟩;have HSZ:=b6 hSz;obtain ⟨OK,hOK⟩:=aS (uy T B C S 1);have HOKE:Hid (OK=uy T B C S 1):=hOK;rw [← hOK];have l0:=cell_later kW HLN.out;have lz:=World.block_lt_of_cell? _ _ l0;simp only at lz;clear kW hrt hlow hhigh hlo' hhi' hT hTk hgb hlw hc2 hC hok hr0 hsum hNz hCz hSz hcN hN br hNl hCl hOK l0 lz;go_enter Tryz.func119,Tryz.ntmps119
 go_wp2_with fail
 rw [← hX,← hW];clear hX hW;refine (CR.out _ K0.out).mono ?_;rintro e w1 ⟨rfl,hb1⟩;have KW1:Hid (Bl W w1):=hb1;have K1:Hid (Bl w w1):=K0.out.trans (hb1.mono K0.out.size);have x2:=(bx.keep hb1).c2;have xz:=(bx.keep hb1).lt;have l0:=cell_later K1.out HLN.out;have lz:=World.block_lt_of_cell? _ _ l0;simp only at lz;clear hb1 bx;go_wp2_with fail
 clear x2 xz l0 lz;refine (CP.out _ K1.out).mono ?_;rintro e w2 ⟨gI,nI,cI,gO,nO,cO,rfl,hI,hO,hb2⟩;have KW2:Hid (Bl W w2):=KW1.out.trans (hb2.mono KW1.out.size);have K2:Hid (Bl w w2):=K1.out.trans (hb2.mono K1.out.size);have HOF:Hid (az 0 w2 (pT gO) nO cO (offR T B)):=hO;have hIl:=hI.length;have hnI:nI≤100:=by have h1:=HZN.out.1;have h2:=(jW T B).length_le;omega
 obtain ⟨xsT,dT,rT⟩:=(HTK.out.keep K2.out).raw;obtain ⟨xsI,dI,rI⟩:=hI.raw;have HDA:Hid (dK (·<w2.heap.size) w2 (xsT++xsI) (dx T B)):=dT.denP.app dI.denP;have HRT:Hid (my w2 (sO bt ot nt ct) nt xsT):=rT;have HRI:Hid (my w2 (sL gI nI cI) nI xsI):=rI;have ka:Bl w2 (w2.alloc (.cells #[] 63)):=bZ;have KA:Hid (Bl w2 (w2.alloc (.cells #[] 63))):=ka;have R1:Hid ((w2.alloc (.cells #[] 63)).ownsRow w2.heap.size 63 2 (sL (w2.heap.size) 0 0) 0 []):=by
  have:=World.ownsRow_lit (base:=w2.heap.size) (e:=63) (size:=2) w2 #[] 0 (Nat.le_refl _) (by simp) (by simp);show World.ownsRow _ _ _ _ _ _ _
  simpa using this
 have HNW:Hid (∀j u,xsT[j]?=some u→(w2.alloc (.cells #[] 63)).cell? ((⟨bt,ot,none⟩:Addr).add j)=some u):=fun j u hu=>by
  rcases (rT.keep ka).2.2 with ⟨h,_⟩ | ⟨b,o,c,h,hc⟩
  · cases h
  · cases h;rw [Go.WideShapes.add_plain];exact hc j u hu
 clear hI hO hb2 dT dI rT rI ka CR CP hIl;go_wp2_with (first
  | (at_builtin;refine wpList_append_own _ rfl _ _ 61 rfl w2.heap.size 63 j0 _ 2 32 Tryz.underlying61 hj hy0 hy1 hy2 rfl (by decide) _ _ _ rfl HO3.out ⟨gI,0,none⟩ nI cI xsI rfl HRI.out.1 HNI.out HRI.out.2.1 (by unfold maxLen;omega) (by omega) (by have:=K3.out.size;omega) ?_;intro v4 W4 hown4 hgrow4 hnil4;obtain ⟨gA,cA,rfl⟩:=aG hown4 hnil4)
  | (at_builtin;refine wpList_append_own _ rfl _ _ 61 rfl w2.heap.size 63 j0 _ 2 32 Tryz.underlying61 hj hy0 hy1 hy2 rfl (by decide) _ _ _ rfl R1.out ⟨bt,ot,none⟩ nt ct xsT rfl HRT.out.1 HNW.out HRT.out.2.1 (by unfold maxLen;omega) (by omega) (by simp) ?_;intro v3 w3 hown3 hgrow3 hnil3;obtain ⟨g3a,c3a,rfl⟩:=aG hown3 hnil3;have HO3:Hid (w3.ownsRow w2.heap.size 63 2 (sL g3a nt c3a) nt xsT):=(by show World.ownsRow _ _ _ _ _ _ _;simpa using hown3);have K3:Hid (Bl w2 w3):=KA.out.grown hgrow3 KA.out.size (fun k e=>(R1.out.lt k e).1);have HNI:=ld (HRI.out.keep K3.out);clear hown3 hgrow3 hnil3))
 have k4:Bl w2 W4:=K3.out.grown hgrow4 K3.out.size (fun k e=>(HO3.out.lt k e).1);have K4:Hid (Bl w2 W4):=k4;have KW4:Hid (Bl W W4):=KW2.out.trans (k4.mono KW2.out.size);have KL4:Hid (Bl w W4):=K2.out.trans (k4.mono K2.out.size);obtain ⟨na,hna⟩:=aS (nt+nI);have hna2:na≤1000:=by omega
 obtain ⟨aA,cA',eA,hRA⟩:=iJ hown4 (HDA.out.low k4).den;cases eA;rw [← hna] at hRA ⊢;obtain ⟨P,hP⟩:=aS (bn (dx T B));obtain ⟨nF,hnF⟩:=aS P.flatten.length;obtain ⟨BR,hBR⟩:=aS (jK T B C 1);obtain ⟨SQ,hSQ⟩:=aS (ss T B C S 1);have hF1:nF≤100000:=by rw [hnF,hP];exact HSM.out
 have hall0:(dx T B)[0]?=some r0:=by unfold dx;rw [List.getElem?_append_left (by have:=HOK.out.t0;omega)];exact HR0.out
 have CL:Hid (∀w',Bl W4 w'→Calls Tryz.prog 178 #[sL gA na cA] w' (pD na (dx T B) w')):=fun w' k=>p9 _ na cA (dx T B) w' (hRA.keep k) (by omega)
 have CM:Hid (∀pa pc w',cK w' pa na pc P→Calls Tryz.prog 109 #[.slice pa na pc] w' fun e w''=>∃g cg,e=.returned (sL g nF cg)∧ay w'' w'.heap.size g nF cg (bk P.flatten)∧Bl w' w''):=fun pa pc w' h=>by
  rw [hnF];exact p8 pa na pc P w' h (by omega)
 have CB:Hid (∀w',Bl W4 w'→Calls Tryz.prog 179 #[.agg #[iT q,.slice aM nm cm,sL bv 3 cv,.slice aK ns cs],iT 1,sL gA na cA] w' fun e w''=>e=.returned (.bool BR)∧Bl w' w''):=fun w' k=>by
  have kk:=KL4.out.trans (k.mono KL4.out.size);have:=sH q aM nm cm bv 0 cv aK ns cs a2 n2 c2 C 1 gA 0 na cA (dx T B) r0 w' (by simpa using cell_later kk HC2.out.1) (HC2.out.2.keep kk) HZC.out.1 HZC.out.2 (hRA.keep k) hall0 (fun r hr=>(HOK.out.all r hr).2) hna2;have e:BR=(decide ((1:Int)=2) || decide ((C.filter (dW (fb (bj r0.1) (dx T B)) (dc (aT r0.1) (dx T B)))).length=0)):=by
   rw [hBR];unfold jK ig eZ;simp only [hall0]
  rw [e];exact this
 have CQ:Hid (∀al cg w',Bl W4 w'→aj w' al nF cg (bk P.flatten)→Calls Tryz.prog 174 #[.slice al nF cg,.slice aK ns cs,.bool BR] w' fun e w''=>∃g n' c',e=.returned (sL g n' c')∧ay w'' w'.heap.size g n' c' SQ∧Bl w' w''):=fun al cg w' k h=>by
  have e:SQ=bI (bk P.flatten) S BR:=by rw [hSQ,hP,hBR];rfl
  rw [e];exact jO lo al nF cg (bk P.flatten) _ ns cs S BR w' h (HTI.out.snaps.keep (KL4.out.trans (k.mono KL4.out.size))) (by omega)
 have HSQ:Hid (SQ=ss T B C S 1):=hSQ;have HPE:Hid (P=bn (dx T B)):=hP;have HSQL:Hid (SQ.length≤100000):=by
  rw [hSQ];have h1:=ja (bk (bn (dx T B)).flatten) S (jK T B C 1);have h2:=jq (bn (dx T B)).flatten;have h3:=HSM.out;show (ss T B C S 1).length≤_
  unfold ss;omega
 have hS4:∀w',Bl W4 w'→(w'.cell? ⟨X,0,none⟩=some (iT q)∧w'.cell? ⟨X,1,none⟩=some (.slice aM nm cm)∧w'.cell? ⟨X,2,none⟩=some (sL bv 3 cv)∧w'.cell? ⟨X,3,none⟩=some (.slice aK ns cs)∧X<w'.heap.size):=fun w' k=>by
  have b:=HBX.out w' (KW4.out.trans (k.mono KW4.out.size));exact ⟨b.c0,b.c1,b.c2,b.c3,b.lt⟩
 have k0:Bl W4 W4.drew:=(Below.refl _ W4).drew;clear hown4 hgrow4 hnil4 k4 hna hRA hP hnF hBR hSQ hF1 hall0 hna2 HDA HRT HRI HNI HNW HO3 R1 KA K3 hnI;go_upto_region 5 with fail
 go_cut [16] (fun s wx=>∃gD nD cD,s=sL gD nD cD∧aj wx (pT gD) nD cD SQ∧gD<wx.heap.size∧Bl W4 wx)
 case first =>
  refine zI hS4 k0 fun aa=>?_
  generalize W4.drew=wd at k0 aa ⊢;refine aO 0 1 aa ?_;refine aO 3 5 aa ?_;refine aI 1 fun K hK=>?_
  go_simp;refine (CL.out _ k0).mono ?_;rintro e wA hlA;obtain ⟨pa,pc,rfl,hpA,hbA⟩:=mL hlA;rw [← HPE.out] at hpA;have kA:Bl W4 wA:=k0.trans (hbA.mono k0.size);have HPA:Hid (cK wA pa na pc P):=hpA;clear hlA hpA hbA;go_wp2_with fail
  refine hK.out _ _ (hS4 _ kA) fun aa=>?_
  (try go_frame);refine aI 2 fun K hK=>?_
  go_simp;refine (CM.out pa pc _ HPA.out).mono ?_;rintro e wB ⟨gB,cB,rfl,hoB,hbB⟩;have kB:Bl W4 wB:=kA.trans (hbB.mono kA.size);have HOB:Hid (aj wB (pT gB) nF cB (bk P.flatten)):=hoB.entsAt;clear hoB;go_wp2_with fail
  refine hK.out _ _ (hS4 _ kB) fun aa=>?_
  (try go_frame);refine aI 8 fun K hK=>?_
  go_simp;refine (CB.out _ kB).mono ?_;rintro e wC ⟨rfl,hbC⟩;have kC:Bl W4 wC:=kB.trans (hbC.mono kB.size);go_wp2_with fail
  refine hK.out _ _ (hS4 _ kC) fun aa=>?_
  (try go_frame);refine aI 9 fun K hK=>?_
  go_simp;refine (CQ.out _ _ _ kC (HOB.out.keep hbC)).mono ?_;rintro e wD ⟨gD,nD,cD,rfl,hoD,hbD⟩;have kD:Bl W4 wD:=kC.trans (hbD.mono kC.size);have HOD:Hid (aj wD (pT gD) nD cD SQ):=hoD.entsAt;have HGD:Hid (gD<wD.heap.size):=hoD.lt.2;clear hoD;go_wp2_with fail
  refine hK.out _ _ (hS4 _ kD) fun aa=>?_
  (try go_frame);refine aO 10 1 aa ?_;refine dN ?_;go_wp2_with fail
  go_meet
  exact ⟨_,_,_,rfl,HOD.out,HGD.out,kD⟩
 case rest =>
  obtain ⟨gD,nD,cD,rfl,hD,hgD,k5⟩:=hcut;clear k0 CL CM CB CQ hS4;have hnD:=hD.length;have hsq:=HSQL.out;have CUT:=sF gD nD cD SQ wc hD hgD (by omega);rw [show (eP SQ nD).1=du SQ by unfold du;rw [hnD]] at CUT;have K5:Hid (Bl w2 wc):=K4.out.trans (k5.mono K4.out.size);clear hD hgD k5 hnD hsq;go_wp2_with fail
  refine CUT.mono ?_;rintro e w6 ⟨g6,m6,c6,rfl,hG6,hb6⟩;have K6:Hid (Bl w2 w6):=K5.out.trans (hb6.mono K5.out.size);have hm6:(du SQ).length=m6:=hG6.1;have hl6:=rL SQ SQ.length;have hl6':m6≤100000:=by have:=HSQL.out;have h9:(du SQ).length≤SQ.length:=hl6;omega
  have hOl:=HOF.out.length;have hnO:nO≤100:=by have h1:=HZN.out.1;have h2:(offR T B).length≤B.length:=List.length_filter_le _ _;omega
  have CO:=p7 gO 0 nO cO (offR T B) g6 0 m6 c6 (du SQ) w6 (HOF.out.keep K6.out) (hG6.runsIn.mono (Nat.zero_le _)) hG6.lt.2 (fun r hr=>(HZN.out.2 r (List.mem_filter.1 hr).1).1) (fun r hr=>ms hr) (by omega) (by omega);have HN7:Hid ((dq (offR T B) (du SQ)).length≤200000):=by show _≤_;rw [mc];omega
  clear CUT hG6 hb6 hm6 hl6 hl6' hOl hnO;go_wp2_with fail
  refine CO.mono ?_;rintro e w7 ⟨g7,n7,c7,xs7,rfl,hr7,hd7,hb7⟩;have K7:Hid (Bl w2 w7):=K6.out.trans (hb7.mono K6.out.size);obtain ⟨a7,c7',e7,hR7⟩:=iJ hr7 (hd7.low hb7).den;cases e7;rw [HSQ.out] at hR7;have HR7:Hid (az 0 w7 (pT g7) n7 c7 (d4 T B C S 1)):=hR7;have hn7:n7≤1048576:=by have h1:=hR7.length;have h2:=HN7.out;rw [HSQ.out] at h2;omega
  have CF:=sE _ n7 c7 _ w7 hR7 hn7;have eok:(gy (dq (offR T B) (du (ss T B C S 1))) && decide (n7≤8))=OK:=by
   rw [HOKE.out,← hR7.length];rfl
  rw [eok] at CF;clear CO hr7 hd7 hb7 hR7 hn7 eok;go_wp2_with fail
  refine CF.mono ?_;rintro e w8 ⟨rfl,hb8⟩;have K8:Hid (Bl w2 w8):=K7.out.trans (hb8.mono K7.out.size);have KW8:Hid (Bl W w8):=KW2.out.trans (K8.out.mono KW2.out.size);have KL8:Hid (Bl w w8):=K2.out.trans (K8.out.mono K2.out.size);have HR8:Hid (az 0 w8 (pT g7) n7 c7 (d4 T B C S 1)):=HR7.out.keep hb8;have b8:=HBX.out w8 KW8.out;have y8:=(HBR.out w8 KW8.out).1;have x0:=b8.c0;have x1:=b8.c1;have x2:=b8.c2;have x3:=b8.c3;have xz:=b8.lt;clear CF hb8 HR7 K7 K6 K5 K4 KW4 KL4 HN7 HSQ HSQL b8;cases OK with
  | false =>
   have r0:=y8.c0;have r1:=y8.c1;have r2:=y8.c2;have r3:=y8.c3;have rf:=y8.fz;have rz:=y8.lt;have HY8:Hid (ar w8 (X+1) (iT 0) nZ nZ nZ):=y8;clear y8;go_wp2;refine bodyPost_ret (v:=.tuple #[.agg #[iT q,.slice aM nm cm,sL bv 3 cv,.slice aK ns cs],.bool false]) ?_ rfl (show jH _ _ _ _ _ _ _ _ _ _ _ _ from ⟨aM,nm,cm,some ⟨bv,0,none⟩,3,cv,aK,ns,cs,rfl,?_,fun _=>rfl,fun h=>by cases h⟩)
   · have e:=(((HY8.out.set0 (iT q)).set1 (.slice aM nm cm)).set2 (sL bv 3 cv)).set3 (.slice aK ns cs);simp [results,Tryz.results119,go_sem,e.c0,e.c1,e.c2,e.c3]
   · have hx:w.heap.size≤X+1:=by have:=HX.out;omega
     exact gG KL8.out hx _ _ _ _
  | true =>
   have CC:=gZ lo q aM (pT bv) aK nm cm 3 cv ns cs M [A,B,C] S w8 (HTI.out.keep KL8.out) hnm hns (by omega) HSZ.out;go_wp2_with fail
   refine CC.mono ?_;rintro e w9 ⟨g1,c1,G,c,g3,c3,rfl,hC9,hb9⟩;clear CC x0 x1 x2 x3 xz;obtain ⟨gA',dA',gB',dB',gC',dC',hrow,rA,rB,rC,_,_⟩:=hC9.split;have hGl:=hrow.lt G rfl;have HGl:Hid (w8.heap.size≤G):=hGl.1;have hXl:X+1<w8.heap.size:=y8.lt;have HXl:Hid (X+1<w8.heap.size):=hXl;have ME:Hid (tQ w8.heap.size w9 g1 nm c1 G c g3 ns c3 gC' C.length dC' [sL gA' A.length dA',sL gB' B.length dB',sL gC' C.length dC'] M C S):=⟨hC9.mem,rC,hC9.slen,hC9.swf,hC9.sn,hrow⟩;have KL9:Hid (Bl w w9):=KL8.out.trans (hb9.mono KL8.out.size);have K9:Hid (Bl w8 w9):=hb9;obtain ⟨Y,hY⟩:=aS w9.heap.size;obtain ⟨wY,hwY⟩:=aS (w9.alloc (.cells #[iT q,sL g1 nm c1,sL G 3 c,sL g3 ns c3] 31));have kY:Bl w9 wY:=by rw [hwY];exact bZ
   have bY:ar wY Y (iT q) (sL g1 nm c1) (sL G 3 c) (sL g3 ns c3):=by rw [hwY,hY];exact ar.new _ _ _ _ _ _
   have HMY:Hid (tQ w8.heap.size wY g1 nm c1 G c g3 ns c3 gC' C.length dC' [sL gA' A.length dA',sL gB' B.length dB',sL gC' C.length dC'] M C S):=ME.out.below kY;have KY:Hid (Bl w8 wY):=K9.out.trans (kY.mono K9.out.size);have hGY:G≠Y:=by rw [hY];have:=hGl.2;omega
   have hXG:X+1≠G:=by have:=hGl.1;omega
   have HXG:Hid (X+1≠G):=hXG;have y9:=(y8.keep hb9).keep kY;have hXY:X+1≠Y:=by have:=(y8.keep hb9).lt;rw [hY];omega
   clear hC9 rA rB rC hrow hb9 hGl hXl K9 KL9 ME y8;go_upto_region 10 with fail
   rw [← hY,← hwY];clear hY hwY kY;obtain ⟨w10,hw10⟩:=aS (wY.setCell ⟨G,0,none⟩ (sL gr 0 0));obtain ⟨w11,hw11⟩:=aS (w10.setCell ⟨G,1,none⟩ (sL g7 n7 c7));have bY10:ar w10 Y (iT q) (sL g1 nm c1) (sL G 3 c) (sL g3 ns c3):=by rw [hw10];exact bY.other hGY _
   have bY11:ar w11 Y (iT q) (sL g1 nm c1) (sL G 3 c) (sL g3 ns c3):=by rw [hw11];exact bY10.other hGY _
   have y11:ar w11 (X+1) (iT 0) nZ nZ nZ:=by rw [hw11,hw10];exact (y9.other HXG.out.symm _).other HXG.out.symm _
   have HM10:Hid (tQ w8.heap.size w10 g1 nm c1 G c g3 ns c3 gC' C.length dC' [sL gr 0 0,sL gB' B.length dB',sL gC' C.length dC'] M C S):=by rw [hw10];exact HMY.out.setG _ _
   have HM11:Hid (tQ w8.heap.size w11 g1 nm c1 G c g3 ns c3 gC' C.length dC' [sL gr 0 0,sL g7 n7 c7,sL gC' C.length dC'] M C S):=by rw [hw11];exact HM10.out.setG _ _
   have K11:Hid (Bl w8 w11):=by rw [hw11,hw10];exact (KY.out.setCell (p:=⟨G,0,none⟩) HGl.out _).setCell (p:=⟨G,1,none⟩) HGl.out _
   have KL11:Hid (Bl w w11):=KL8.out.trans (K11.out.mono KL8.out.size);have hG0:=(HMY.out.row.lt G rfl).2;have hG10:=(HM10.out.row.lt G rfl).2;have HQN:Hid (w10.cell? ⟨G,1,none⟩=some (sL gB' B.length dB')):=HM10.out.row.cellAt 1 (by omega);have HY11:Hid (ar w11 (X+1) (iT 0) nZ nZ nZ):=y11;have u2:=bY.c2;have uz:=bY.lt;have q0:wY.cell? ⟨G,0,none⟩=some (sL gA' A.length dA'):=HMY.out.row.cellAt 0 (by omega);have gf:=fun o=>HMY.out.row.frozenAt o
   have gf1:Hid (∀o,w10.frozen? ⟨G,o,none⟩=false):=fun o=>HM10.out.row.frozenAt o
   clear bY y9 HMY HM10;go_upto_region 11 with fail
   rw [← hw10];clear hw10 u2 uz q0 gf;have u2:=bY10.c2;have uz:=bY10.lt;have gf:=gf1.out;have q0:=HQN.out;clear bY10 gf1;go_upto_region 12 with fail
   rw [← hw11];clear hw11 u2 uz q0 gf hG10;have u0:=bY11.c0;have u1:=bY11.c1;have u2:=bY11.c2;have u3:=bY11.c3;have uz:=bY11.lt;have r0:=y11.c0;have r1:=y11.c1;have r2:=y11.c2;have r3:=y11.c3;have rf:=y11.fz;have rz:=y11.lt;clear bY11 y11;go_wp2;refine bodyPost_ret (v:=.tuple #[.agg #[iT q,sL g1 nm c1,sL G 3 c,sL g3 ns c3],.bool true]) ?_ rfl ?_
   · have e:=(((HY11.out.set0 (iT q)).set1 (sL g1 nm c1)).set2 (sL G 3 c)).set3 (sL g3 ns c3);simp [results,Tryz.results119,go_sem,e.c0,e.c1,e.c2,e.c3]
   · have hx:w.heap.size≤X+1:=by have:=HX.out;omega
     have hfin:=gG KL11.out hx (iT q) (sL g1 nm c1) (sL G 3 c) (sL g3 ns c3);have hxb:=HXl.out;have hM:=(((HM11.out.setX hxb 0 (iT q)).setX hxb 1 (sL g1 nm c1)).setX hxb 2 (sL G 3 c)).setX hxb 3 (sL g3 ns c3);have hh:=qK w11 (X+1) (iT q) (sL g1 nm c1) (sL G 3 c) (sL g3 ns c3);have hs4:=qJ w11 (X+1) (iT q) (sL g1 nm c1) (sL G 3 c) (sL g3 ns c3);have hs8:=K11.out.size;have hT8:x8 w8 (X+1):=(HBR.out w8 KW8.out).2;have hGl:=HGl.out;have hgr:gr<w8.heap.size:=Nat.lt_of_lt_of_le (Array.getElem?_eq_some_iff.1 HRR.out.1).1 KL8.out.size;obtain ⟨_,kG⟩:=aJ hM.row;obtain ⟨sz3,k3⟩:=aJ hM.sn;generalize ((((w11.setCell ⟨X+1,0,none⟩ (iT q)).setCell ⟨X+1,1,none⟩ (sL g1 nm c1)).setCell ⟨X+1,2,none⟩ (sL G 3 c)).setCell ⟨X+1,3,none⟩ (sL g3 ns c3))=wf at hfin hM hh hs4 kG k3 ⊢;have hlow:lw≤w8.heap.size:=by have:=HRR.out.2;omega
     have hend:∀{a n d g} {Z:List ag},az 0 w8 a n d Z→(w8.heap.size≤g∨∀o,w8.cell? ⟨g,o,none⟩=none)→de (fun b=>b≠g∧b≠G) wf a n d Z:=fun {a n d g Z} h h2=>qm h hT8 (by omega) (fun b hb hn=>(hh b hn).trans (K11.out.block b hb)) h2 hGl
     exact ⟨some ⟨g1,0,none⟩,nm,c1,some ⟨G,0,none⟩,3,c,some ⟨g3,0,none⟩,ns,c3,rfl,hfin,(fun h=>by cases h),fun _=>⟨G,gr,0,g7,n7,c7,gC',C.length,dC',rfl,rfl,(dV.some hM.mem).mono hlow,ew hM.row hlow,nY ((hfin.block gr (Array.getElem?_eq_some_iff.1 HRR.out.1).1).trans HRR.out.1) HRR.out.2,hend HR8.out (.inr (fun o=>by have h1:=(KL8.out.block gr (Array.getElem?_eq_some_iff.1 HRR.out.1).1).trans HRR.out.1;simp [World.cell?,h1])),hM.lev.toP ⟨by have:=hM.lev.lt.1;omega,fun e=>by obtain ⟨_,_,xsZ,h3,_⟩:=hM.lev;obtain ⟨_,kZ⟩:=aJ h3;rw [e] at kZ;exact absurd (kZ.kind kG) (by decide)⟩ (fun b sz hb kb=>⟨by omega,fun e=>by rw [e] at kb;exact absurd (kb.kind kG) (by decide)⟩),(eH hM.sn hM.slen hM.swf).lower hlow,fun x e _=>by cases e;exact ⟨sz3,k3⟩⟩⟩
theorem Aq (lo lw:Nat) (q:Int) (aM:Option Addr) (nm cm bv cv:Nat) (aK:Option Addr) (ns cs:Nat) (M:List ac) (A B C:List ag) (S:List Int) (bt ot nt ct:Nat) (T:List ag) (gr nr cr:Nat) (R:List ag) (w:World) (hT:bf lo w aM nm cm (pT bv) 3 cv aK ns cs M [A,B,C] S) (hnm:nm≤1048576) (hns:ns≤1048576) (hSz:∀Z ∈ [A,B,C],Z.length≤100∧∀r ∈ Z,1≤r.1.length∧r.1.length≤10000) (hTk:az 0 w (some ⟨bt,ot,none⟩) nt ct T) (hnt:nt≤100) (hR:az 0 w (pT gr) nr cr R) (hlw:lw≤w.heap.size) (hok:fK T C) (hsum:(bn (dx T C)).flatten.length≤100000) :
 Calls Tryz.prog 119 #[.agg #[iT q,.slice aM nm cm,sL bv 3 cv,.slice aK ns cs],iT 1,sO bt ot nt ct,sL gr nr cr] w (jH lw q (.agg #[iT q,.slice aM nm cm,sL bv 3 cv,.slice aK ns cs]) M A R (d4 T C C S 2) S (uy T C C S 2) w):=by
 obtain ⟨j0,hj,hy0,hy1,hy2⟩:=info_parts Tryz.infoRun;obtain ⟨X,hX⟩:=aS w.heap.size;obtain ⟨W,hW⟩:=aS ((w.alloc (.cells #[iT q,.slice aM nm cm,sL bv 3 cv,.slice aK ns cs] 31)).alloc (.cells #[iT 0,nZ,nZ,nZ] 31));have kW:Bl w W:=by rw [hW];exact bZ.alloc (by simp) _
 have bx:ar W X (iT q) (.slice aM nm cm) (sL bv 3 cv) (.slice aK ns cs):=by rw [hW,hX];exact (ar.new _ _ _ _ _ _).alloc _
 have br:ar W (X+1) (iT 0) nZ nZ nZ∧an W (X+1) 31 4:=by
  have:=ar.new (w.alloc (.cells #[iT q,.slice aM nm cm,sL bv 3 cv,.slice aK ns cs] 31)) 31 (iT 0) nZ nZ nZ;rw [World.size_alloc] at this;rw [hW,hX];have h2:=bU (w.alloc (.cells #[iT q,.slice aM nm cm,sL bv 3 cv,.slice aK ns cs] 31)) #[iT 0,nZ,nZ,nZ] 31;rw [World.size_alloc] at h2;exact ⟨this,h2⟩
 have HX:Hid (X=w.heap.size):=hX;have K0:Hid (Bl w W):=kW;have HBR:Hid (∀w',Bl W w'→ar w' (X+1) (iT 0) nZ nZ nZ∧x8 w' (X+1)):=fun w' k=>⟨br.1.keep k,fA (br.2.below k) (br.1.keep k)⟩
 have HBX:Hid (∀w',Bl W w'→ar w' X (iT q) (.slice aM nm cm) (sL bv 3 cv) (.slice aK ns cs)):=fun w' k=>bx.keep k
 have HBL:Hid (∀w',Bl W w'→an w' (X+1) 31 4):=fun w' k=>br.2.below k
 have hrt:=List.getElem?_eq_getElem (l:=T) (i:=0) (by have:=hok.t0;omega);obtain ⟨r0,hr0⟩:∃r0,T[0]?=some r0:=⟨_,hrt⟩;obtain ⟨low,hlow⟩:=aS (ig T);obtain ⟨high,hhigh⟩:=aS (eZ T);have hlo':low=fb (bj r0.1) T:=by rw [hlow];unfold ig;rw [hr0]
 have hhi':high=dc (aT r0.1) T:=by rw [hhigh];unfold eZ;rw [hr0]
 obtain ⟨nx,hnx,cnx,hN⟩:∃aN nN cN,w.cell? ⟨bv,2,none⟩=some (.slice aN nN cN)∧az 0 w aN nN cN C:=by
  obtain ⟨s,n,c,h1,h2⟩:=hT.levels.levels _ rfl 2 (by simp);exact ⟨s,n,c,by simpa using h1,h2.mono (Nat.zero_le _)⟩
 obtain ⟨hcN,hN⟩:=hN;obtain ⟨a2,n2,c2,hc2,hC⟩:∃aN nN cN,w.cell? ⟨bv,2,none⟩=some (.slice aN nN cN)∧az 0 w aN nN cN C:=by
  obtain ⟨s,n,c,h1,h2⟩:=hT.levels.levels _ rfl 2 (by simp);exact ⟨s,n,c,by simpa using h1,h2.mono (Nat.zero_le _)⟩
 have hNz:=hSz C (by simp);have hCz:=hSz C (by simp);have hNl:=hN.length;have hCl:=hC.length;have HLN:Hid (w.cell? ⟨bv,2,none⟩=some (.slice nx hnx cnx)):=hcN;have CR:Hid (∀w',Bl w w'→Calls Tryz.prog 176 #[sO bt ot nt ct] w' fun e w''=>e=.returned (.tuple #[.string low,.string high])∧Bl w' w''):=fun w' k=>by
  rw [hlo',hhi'];exact lS bt ot nt ct T r0 w' (hTk.keep k) hr0 (fun r hr=>(hok.tok r hr).2) (by omega)
 have CP:Hid (∀w',Bl w w'→Calls Tryz.prog 177 #[.slice nx hnx cnx,.string low,.string high] w' fun e w''=>∃g1 n1 c1 g2 n2 c2,e=.returned (.tuple #[sL g1 n1 c1,sL g2 n2 c2])∧az 0 w'' (pT g1) n1 c1 (Av T C)∧az 0 w'' (pT g2) n2 c2 (offR T C)∧Bl w' w''):=fun w' k=>by
  unfold Av offR;rw [← hlow,← hhigh];exact nT nx hnx cnx C low high w' (hN.keep k) (fun r hr=>(hNz.2 r hr).1) (by omega)
 have HTI:=b6 hT;have HTK:=b6 hTk;have HRR:Hid (az 0 w (pT gr) nr cr R∧lw≤w.heap.size):=⟨hR,hlw⟩;have HC2:Hid (w.cell? ⟨bv,2,none⟩=some (.slice a2 n2 c2)∧az 0 w a2 n2 c2 C):=⟨hc2,hC⟩;have HOK:=b6 hok;have HR0:Hid (T[0]?=some r0):=hr0;have HSM:=b6 hsum;have HZN:Hid (C.length≤100∧∀r ∈ C,1≤r.1.length∧r.1.length≤10000):=hNz;have HZC:Hid (n2≤1000∧∀r ∈ C,1≤r.1.length):=⟨by omega,fun r hr=>(hCz.2 r hr).1⟩;have HSZ:=b6 hSz;obtain ⟨OK,hOK⟩:=aS (uy T C C S 2);have HOKE:Hid (OK=uy T C C S 2):=hOK;rw [← hOK];have l0:=cell_later kW HLN.out;have lz:=World.block_lt_of_cell? _ _ l0;simp only at lz;clear kW hrt hlow hhigh hlo' hhi' hT hTk hR hlw hc2 hC hok hr0 hsum hNz hCz hSz hcN hN br hNl hCl hOK l0 lz;go_enter Tryz.func119,Tryz.ntmps119
 go_wp2_with fail
 rw [← hX,← hW];clear hX hW;refine (CR.out _ K0.out).mono ?_;rintro e w1 ⟨rfl,hb1⟩;have KW1:Hid (Bl W w1):=hb1;have K1:Hid (Bl w w1):=K0.out.trans (hb1.mono K0.out.size);have x2:=(bx.keep hb1).c2;have xz:=(bx.keep hb1).lt;have l0:=cell_later K1.out HLN.out;have lz:=World.block_lt_of_cell? _ _ l0;simp only at lz;clear hb1 bx;go_wp2_with fail
 clear x2 xz l0 lz;refine (CP.out _ K1.out).mono ?_;rintro e w2 ⟨gI,nI,cI,gO,nO,cO,rfl,hI,hO,hb2⟩;have KW2:Hid (Bl W w2):=KW1.out.trans (hb2.mono KW1.out.size);have K2:Hid (Bl w w2):=K1.out.trans (hb2.mono K1.out.size);have HOF:Hid (az 0 w2 (pT gO) nO cO (offR T C)):=hO;have hIl:=hI.length;have hnI:nI≤100:=by have h1:=HZN.out.1;have h2:=(jW T C).length_le;omega
 obtain ⟨xsT,dT,rT⟩:=(HTK.out.keep K2.out).raw;obtain ⟨xsI,dI,rI⟩:=hI.raw;have HDA:Hid (dK (·<w2.heap.size) w2 (xsT++xsI) (dx T C)):=dT.denP.app dI.denP;have HRT:Hid (my w2 (sO bt ot nt ct) nt xsT):=rT;have HRI:Hid (my w2 (sL gI nI cI) nI xsI):=rI;have ka:Bl w2 (w2.alloc (.cells #[] 63)):=bZ;have KA:Hid (Bl w2 (w2.alloc (.cells #[] 63))):=ka;have R1:Hid ((w2.alloc (.cells #[] 63)).ownsRow w2.heap.size 63 2 (sL (w2.heap.size) 0 0) 0 []):=by
  have:=World.ownsRow_lit (base:=w2.heap.size) (e:=63) (size:=2) w2 #[] 0 (Nat.le_refl _) (by simp) (by simp);show World.ownsRow _ _ _ _ _ _ _
  simpa using this
 have HNW:Hid (∀j u,xsT[j]?=some u→(w2.alloc (.cells #[] 63)).cell? ((⟨bt,ot,none⟩:Addr).add j)=some u):=fun j u hu=>by
  rcases (rT.keep ka).2.2 with ⟨h,_⟩ | ⟨b,o,c,h,hc⟩
  · cases h
  · cases h;rw [Go.WideShapes.add_plain];exact hc j u hu
 clear hI hO hb2 dT dI rT rI ka CR CP hIl;go_wp2_with (first
  | (at_builtin;refine wpList_append_own _ rfl _ _ 61 rfl w2.heap.size 63 j0 _ 2 32 Tryz.underlying61 hj hy0 hy1 hy2 rfl (by decide) _ _ _ rfl HO3.out ⟨gI,0,none⟩ nI cI xsI rfl HRI.out.1 HNI.out HRI.out.2.1 (by unfold maxLen;omega) (by omega) (by have:=K3.out.size;omega) ?_;intro v4 W4 hown4 hgrow4 hnil4;obtain ⟨gA,cA,rfl⟩:=aG hown4 hnil4)
  | (at_builtin;refine wpList_append_own _ rfl _ _ 61 rfl w2.heap.size 63 j0 _ 2 32 Tryz.underlying61 hj hy0 hy1 hy2 rfl (by decide) _ _ _ rfl R1.out ⟨bt,ot,none⟩ nt ct xsT rfl HRT.out.1 HNW.out HRT.out.2.1 (by unfold maxLen;omega) (by omega) (by simp) ?_;intro v3 w3 hown3 hgrow3 hnil3;obtain ⟨g3a,c3a,rfl⟩:=aG hown3 hnil3;have HO3:Hid (w3.ownsRow w2.heap.size 63 2 (sL g3a nt c3a) nt xsT):=(by show World.ownsRow _ _ _ _ _ _ _;simpa using hown3);have K3:Hid (Bl w2 w3):=KA.out.grown hgrow3 KA.out.size (fun k e=>(R1.out.lt k e).1);have HNI:=ld (HRI.out.keep K3.out);clear hown3 hgrow3 hnil3))
 have k4:Bl w2 W4:=K3.out.grown hgrow4 K3.out.size (fun k e=>(HO3.out.lt k e).1);have K4:Hid (Bl w2 W4):=k4;have KW4:Hid (Bl W W4):=KW2.out.trans (k4.mono KW2.out.size);have KL4:Hid (Bl w W4):=K2.out.trans (k4.mono K2.out.size);obtain ⟨na,hna⟩:=aS (nt+nI);have hna2:na≤1000:=by omega
 obtain ⟨aA,cA',eA,hRA⟩:=iJ hown4 (HDA.out.low k4).den;cases eA;rw [← hna] at hRA ⊢;obtain ⟨P,hP⟩:=aS (bn (dx T C));obtain ⟨nF,hnF⟩:=aS P.flatten.length;obtain ⟨BR,hBR⟩:=aS (jK T C C 2);obtain ⟨SQ,hSQ⟩:=aS (ss T C C S 2);have hF1:nF≤100000:=by rw [hnF,hP];exact HSM.out
 have hall0:(dx T C)[0]?=some r0:=by unfold dx;rw [List.getElem?_append_left (by have:=HOK.out.t0;omega)];exact HR0.out
 have CL:Hid (∀w',Bl W4 w'→Calls Tryz.prog 178 #[sL gA na cA] w' (pD na (dx T C) w')):=fun w' k=>p9 _ na cA (dx T C) w' (hRA.keep k) (by omega)
 have CM:Hid (∀pa pc w',cK w' pa na pc P→Calls Tryz.prog 109 #[.slice pa na pc] w' fun e w''=>∃g cg,e=.returned (sL g nF cg)∧ay w'' w'.heap.size g nF cg (bk P.flatten)∧Bl w' w''):=fun pa pc w' h=>by
  rw [hnF];exact p8 pa na pc P w' h (by omega)
 have CB:Hid (∀w',Bl W4 w'→Calls Tryz.prog 179 #[.agg #[iT q,.slice aM nm cm,sL bv 3 cv,.slice aK ns cs],iT 2,sL gA na cA] w' fun e w''=>e=.returned (.bool BR)∧Bl w' w''):=fun w' k=>by
  have kk:=KL4.out.trans (k.mono KL4.out.size);have:=sH q aM nm cm bv 0 cv aK ns cs a2 n2 c2 C 2 gA 0 na cA (dx T C) r0 w' (by simpa using cell_later kk HC2.out.1) (HC2.out.2.keep kk) HZC.out.1 HZC.out.2 (hRA.keep k) hall0 (fun r hr=>(HOK.out.all r hr).2) hna2;have e:BR=(decide ((2:Int)=2) || decide ((C.filter (dW (fb (bj r0.1) (dx T C)) (dc (aT r0.1) (dx T C)))).length=0)):=by
   rw [hBR];unfold jK ig eZ;simp only [hall0]
  rw [e];exact this
 have CQ:Hid (∀al cg w',Bl W4 w'→aj w' al nF cg (bk P.flatten)→Calls Tryz.prog 174 #[.slice al nF cg,.slice aK ns cs,.bool BR] w' fun e w''=>∃g n' c',e=.returned (sL g n' c')∧ay w'' w'.heap.size g n' c' SQ∧Bl w' w''):=fun al cg w' k h=>by
  have e:SQ=bI (bk P.flatten) S BR:=by rw [hSQ,hP,hBR];rfl
  rw [e];exact jO lo al nF cg (bk P.flatten) _ ns cs S BR w' h (HTI.out.snaps.keep (KL4.out.trans (k.mono KL4.out.size))) (by omega)
 have HSQ:Hid (SQ=ss T C C S 2):=hSQ;have HPE:Hid (P=bn (dx T C)):=hP;have HSQL:Hid (SQ.length≤100000):=by
  rw [hSQ];have h1:=ja (bk (bn (dx T C)).flatten) S (jK T C C 2);have h2:=jq (bn (dx T C)).flatten;have h3:=HSM.out;show (ss T C C S 2).length≤_
  unfold ss;omega
 have hS4:∀w',Bl W4 w'→(w'.cell? ⟨X,0,none⟩=some (iT q)∧w'.cell? ⟨X,1,none⟩=some (.slice aM nm cm)∧w'.cell? ⟨X,2,none⟩=some (sL bv 3 cv)∧w'.cell? ⟨X,3,none⟩=some (.slice aK ns cs)∧X<w'.heap.size):=fun w' k=>by
  have b:=HBX.out w' (KW4.out.trans (k.mono KW4.out.size));exact ⟨b.c0,b.c1,b.c2,b.c3,b.lt⟩
 have k0:Bl W4 W4.drew:=(Below.refl _ W4).drew;clear hown4 hgrow4 hnil4 k4 hna hRA hP hnF hBR hSQ hF1 hall0 hna2 HDA HRT HRI HNI HNW HO3 R1 KA K3 hnI;go_upto_region 5 with fail
 go_cut [16] (fun s wx=>∃gD nD cD,s=sL gD nD cD∧aj wx (pT gD) nD cD SQ∧gD<wx.heap.size∧Bl W4 wx)
 case first =>
  refine zI hS4 k0 fun aa=>?_
  generalize W4.drew=wd at k0 aa ⊢;refine aO 0 1 aa ?_;refine aO 3 5 aa ?_;refine aI 1 fun K hK=>?_
  go_simp;refine (CL.out _ k0).mono ?_;rintro e wA hlA;obtain ⟨pa,pc,rfl,hpA,hbA⟩:=mL hlA;rw [← HPE.out] at hpA;have kA:Bl W4 wA:=k0.trans (hbA.mono k0.size);have HPA:Hid (cK wA pa na pc P):=hpA;clear hlA hpA hbA;go_wp2_with fail
  refine hK.out _ _ (hS4 _ kA) fun aa=>?_
  (try go_frame);refine aI 2 fun K hK=>?_
  go_simp;refine (CM.out pa pc _ HPA.out).mono ?_;rintro e wB ⟨gB,cB,rfl,hoB,hbB⟩;have kB:Bl W4 wB:=kA.trans (hbB.mono kA.size);have HOB:Hid (aj wB (pT gB) nF cB (bk P.flatten)):=hoB.entsAt;clear hoB;go_wp2_with fail
  refine hK.out _ _ (hS4 _ kB) fun aa=>?_
  (try go_frame);refine aI 8 fun K hK=>?_
  go_simp;refine (CB.out _ kB).mono ?_;rintro e wC ⟨rfl,hbC⟩;have kC:Bl W4 wC:=kB.trans (hbC.mono kB.size);go_wp2_with fail
  refine hK.out _ _ (hS4 _ kC) fun aa=>?_
  (try go_frame);refine aI 9 fun K hK=>?_
  go_simp;refine (CQ.out _ _ _ kC (HOB.out.keep hbC)).mono ?_;rintro e wD ⟨gD,nD,cD,rfl,hoD,hbD⟩;have kD:Bl W4 wD:=kC.trans (hbD.mono kC.size);have HOD:Hid (aj wD (pT gD) nD cD SQ):=hoD.entsAt;have HGD:Hid (gD<wD.heap.size):=hoD.lt.2;clear hoD;go_wp2_with fail
  refine hK.out _ _ (hS4 _ kD) fun aa=>?_
  (try go_frame);refine aO 10 1 aa ?_;refine dN ?_;go_wp2_with fail
  go_meet
  exact ⟨_,_,_,rfl,HOD.out,HGD.out,kD⟩
 case rest =>
  obtain ⟨gD,nD,cD,rfl,hD,hgD,k5⟩:=hcut;clear k0 CL CM CB CQ hS4;have hnD:=hD.length;have hsq:=HSQL.out;have CUT:=sF gD nD cD SQ wc hD hgD (by omega);rw [show (eP SQ nD).1=du SQ by unfold du;rw [hnD]] at CUT;have K5:Hid (Bl w2 wc):=K4.out.trans (k5.mono K4.out.size);clear hD hgD k5 hnD hsq;go_wp2_with fail
  refine CUT.mono ?_;rintro e w6 ⟨g6,m6,c6,rfl,hG6,hb6⟩;have K6:Hid (Bl w2 w6):=K5.out.trans (hb6.mono K5.out.size);have hm6:(du SQ).length=m6:=hG6.1;have hl6:=rL SQ SQ.length;have hl6':m6≤100000:=by have:=HSQL.out;have h9:(du SQ).length≤SQ.length:=hl6;omega
  have hOl:=HOF.out.length;have hnO:nO≤100:=by have h1:=HZN.out.1;have h2:(offR T C).length≤C.length:=List.length_filter_le _ _;omega
  have CO:=p7 gO 0 nO cO (offR T C) g6 0 m6 c6 (du SQ) w6 (HOF.out.keep K6.out) (hG6.runsIn.mono (Nat.zero_le _)) hG6.lt.2 (fun r hr=>(HZN.out.2 r (List.mem_filter.1 hr).1).1) (fun r hr=>ms hr) (by omega) (by omega);have HN7:Hid ((dq (offR T C) (du SQ)).length≤200000):=by show _≤_;rw [mc];omega
  clear CUT hG6 hb6 hm6 hl6 hl6' hOl hnO;go_wp2_with fail
  refine CO.mono ?_;rintro e w7 ⟨g7,n7,c7,xs7,rfl,hr7,hd7,hb7⟩;have K7:Hid (Bl w2 w7):=K6.out.trans (hb7.mono K6.out.size);obtain ⟨a7,c7',e7,hR7⟩:=iJ hr7 (hd7.low hb7).den;cases e7;rw [HSQ.out] at hR7;have HR7:Hid (az 0 w7 (pT g7) n7 c7 (d4 T C C S 2)):=hR7;have hn7:n7≤1048576:=by have h1:=hR7.length;have h2:=HN7.out;rw [HSQ.out] at h2;omega
  have CF:=sE _ n7 c7 _ w7 hR7 hn7;have eok:(gy (dq (offR T C) (du (ss T C C S 2))) && decide (n7≤8))=OK:=by
   rw [HOKE.out,← hR7.length];rfl
  rw [eok] at CF;clear CO hr7 hd7 hb7 hR7 hn7 eok;go_wp2_with fail
  refine CF.mono ?_;rintro e w8 ⟨rfl,hb8⟩;have K8:Hid (Bl w2 w8):=K7.out.trans (hb8.mono K7.out.size);have KW8:Hid (Bl W w8):=KW2.out.trans (K8.out.mono KW2.out.size);have KL8:Hid (Bl w w8):=K2.out.trans (K8.out.mono K2.out.size);have HR8:Hid (az 0 w8 (pT g7) n7 c7 (d4 T C C S 2)):=HR7.out.keep hb8;have b8:=HBX.out w8 KW8.out;have y8:=(HBR.out w8 KW8.out).1;have x0:=b8.c0;have x1:=b8.c1;have x2:=b8.c2;have x3:=b8.c3;have xz:=b8.lt;clear CF hb8 HR7 K7 K6 K5 K4 KW4 KL4 HN7 HSQ HSQL b8;cases OK with
  | false =>
   have r0:=y8.c0;have r1:=y8.c1;have r2:=y8.c2;have r3:=y8.c3;have rf:=y8.fz;have rz:=y8.lt;have HY8:Hid (ar w8 (X+1) (iT 0) nZ nZ nZ):=y8;clear y8;go_wp2;refine bodyPost_ret (v:=.tuple #[.agg #[iT q,.slice aM nm cm,sL bv 3 cv,.slice aK ns cs],.bool false]) ?_ rfl (show jH _ _ _ _ _ _ _ _ _ _ _ _ from ⟨aM,nm,cm,some ⟨bv,0,none⟩,3,cv,aK,ns,cs,rfl,?_,fun _=>rfl,fun h=>by cases h⟩)
   · have e:=(((HY8.out.set0 (iT q)).set1 (.slice aM nm cm)).set2 (sL bv 3 cv)).set3 (.slice aK ns cs);simp [results,Tryz.results119,go_sem,e.c0,e.c1,e.c2,e.c3]
   · have hx:w.heap.size≤X+1:=by have:=HX.out;omega
     exact gG KL8.out hx _ _ _ _
  | true =>
   have CC:=gZ lo q aM (pT bv) aK nm cm 3 cv ns cs M [A,B,C] S w8 (HTI.out.keep KL8.out) hnm hns (by omega) HSZ.out;go_wp2_with fail
   refine CC.mono ?_;rintro e w9 ⟨g1,c1,G,c,g3,c3,rfl,hC9,hb9⟩;clear CC x0 x1 x2 x3 xz;obtain ⟨gA',dA',gB',dB',gC',dC',hrow,rA,rB,rC,_,_⟩:=hC9.split;have hGl:=hrow.lt G rfl;have HGl:Hid (w8.heap.size≤G):=hGl.1;have hXl:X+1<w8.heap.size:=y8.lt;have HXl:Hid (X+1<w8.heap.size):=hXl;have ME:Hid (tQ w8.heap.size w9 g1 nm c1 G c g3 ns c3 gA' A.length dA' [sL gA' A.length dA',sL gB' B.length dB',sL gC' C.length dC'] M A S):=⟨hC9.mem,rA,hC9.slen,hC9.swf,hC9.sn,hrow⟩;have KL9:Hid (Bl w w9):=KL8.out.trans (hb9.mono KL8.out.size);have K9:Hid (Bl w8 w9):=hb9;obtain ⟨Y,hY⟩:=aS w9.heap.size;obtain ⟨wY,hwY⟩:=aS (w9.alloc (.cells #[iT q,sL g1 nm c1,sL G 3 c,sL g3 ns c3] 31));have kY:Bl w9 wY:=by rw [hwY];exact bZ
   have bY:ar wY Y (iT q) (sL g1 nm c1) (sL G 3 c) (sL g3 ns c3):=by rw [hwY,hY];exact ar.new _ _ _ _ _ _
   have HMY:Hid (tQ w8.heap.size wY g1 nm c1 G c g3 ns c3 gA' A.length dA' [sL gA' A.length dA',sL gB' B.length dB',sL gC' C.length dC'] M A S):=ME.out.below kY;have KY:Hid (Bl w8 wY):=K9.out.trans (kY.mono K9.out.size);have hGY:G≠Y:=by rw [hY];have:=hGl.2;omega
   have hXG:X+1≠G:=by have:=hGl.1;omega
   have HXG:Hid (X+1≠G):=hXG;have y9:=(y8.keep hb9).keep kY;have hXY:X+1≠Y:=by have:=(y8.keep hb9).lt;rw [hY];omega
   clear hC9 rA rB rC hrow hb9 hGl hXl K9 KL9 ME y8;go_upto_region 10 with fail
   rw [← hY,← hwY];clear hY hwY kY;obtain ⟨w10,hw10⟩:=aS (wY.setCell ⟨G,1,none⟩ (sL gr nr cr));obtain ⟨w11,hw11⟩:=aS (w10.setCell ⟨G,2,none⟩ (sL g7 n7 c7));have bY10:ar w10 Y (iT q) (sL g1 nm c1) (sL G 3 c) (sL g3 ns c3):=by rw [hw10];exact bY.other hGY _
   have bY11:ar w11 Y (iT q) (sL g1 nm c1) (sL G 3 c) (sL g3 ns c3):=by rw [hw11];exact bY10.other hGY _
   have y11:ar w11 (X+1) (iT 0) nZ nZ nZ:=by rw [hw11,hw10];exact (y9.other HXG.out.symm _).other HXG.out.symm _
   have HM10:Hid (tQ w8.heap.size w10 g1 nm c1 G c g3 ns c3 gA' A.length dA' [sL gA' A.length dA',sL gr nr cr,sL gC' C.length dC'] M A S):=by rw [hw10];exact HMY.out.setG _ _
   have HM11:Hid (tQ w8.heap.size w11 g1 nm c1 G c g3 ns c3 gA' A.length dA' [sL gA' A.length dA',sL gr nr cr,sL g7 n7 c7] M A S):=by rw [hw11];exact HM10.out.setG _ _
   have K11:Hid (Bl w8 w11):=by rw [hw11,hw10];exact (KY.out.setCell (p:=⟨G,1,none⟩) HGl.out _).setCell (p:=⟨G,2,none⟩) HGl.out _
   have KL11:Hid (Bl w w11):=KL8.out.trans (K11.out.mono KL8.out.size);have hG0:=(HMY.out.row.lt G rfl).2;have hG10:=(HM10.out.row.lt G rfl).2;have HQN:Hid (w10.cell? ⟨G,2,none⟩=some (sL gC' C.length dC')):=HM10.out.row.cellAt 2 (by omega);have HY11:Hid (ar w11 (X+1) (iT 0) nZ nZ nZ):=y11;have u2:=bY.c2;have uz:=bY.lt;have q0:wY.cell? ⟨G,1,none⟩=some (sL gB' B.length dB'):=HMY.out.row.cellAt 1 (by omega);have gf:=fun o=>HMY.out.row.frozenAt o
   have gf1:Hid (∀o,w10.frozen? ⟨G,o,none⟩=false):=fun o=>HM10.out.row.frozenAt o
   clear bY y9 HMY HM10;go_upto_region 11 with fail
   rw [← hw10];clear hw10 u2 uz q0 gf;have u2:=bY10.c2;have uz:=bY10.lt;have gf:=gf1.out;have q0:=HQN.out;clear bY10 gf1;go_upto_region 12 with fail
   rw [← hw11];clear hw11 u2 uz q0 gf hG10;have u0:=bY11.c0;have u1:=bY11.c1;have u2:=bY11.c2;have u3:=bY11.c3;have uz:=bY11.lt;have r0:=y11.c0;have r1:=y11.c1;have r2:=y11.c2;have r3:=y11.c3;have rf:=y11.fz;have rz:=y11.lt;clear bY11 y11;go_wp2;refine bodyPost_ret (v:=.tuple #[.agg #[iT q,sL g1 nm c1,sL G 3 c,sL g3 ns c3],.bool true]) ?_ rfl ?_
   · have e:=(((HY11.out.set0 (iT q)).set1 (sL g1 nm c1)).set2 (sL G 3 c)).set3 (sL g3 ns c3);simp [results,Tryz.results119,go_sem,e.c0,e.c1,e.c2,e.c3]
   · have hx:w.heap.size≤X+1:=by have:=HX.out;omega
     have hfin:=gG KL11.out hx (iT q) (sL g1 nm c1) (sL G 3 c) (sL g3 ns c3);have hxb:=HXl.out;have hM:=(((HM11.out.setX hxb 0 (iT q)).setX hxb 1 (sL g1 nm c1)).setX hxb 2 (sL G 3 c)).setX hxb 3 (sL g3 ns c3);have hh:=qK w11 (X+1) (iT q) (sL g1 nm c1) (sL G 3 c) (sL g3 ns c3);have hs4:=qJ w11 (X+1) (iT q) (sL g1 nm c1) (sL G 3 c) (sL g3 ns c3);have hs8:=K11.out.size;have hT8:x8 w8 (X+1):=(HBR.out w8 KW8.out).2;have hGl:=HGl.out;have hgA:=HM11.out.lev.lt.1;obtain ⟨_,kG⟩:=aJ hM.row;obtain ⟨sz3,k3⟩:=aJ hM.sn;generalize ((((w11.setCell ⟨X+1,0,none⟩ (iT q)).setCell ⟨X+1,1,none⟩ (sL g1 nm c1)).setCell ⟨X+1,2,none⟩ (sL G 3 c)).setCell ⟨X+1,3,none⟩ (sL g3 ns c3))=wf at hfin hM hh hs4 kG k3 ⊢;have hlow:lw≤w8.heap.size:=Nat.le_trans HRR.out.2 KL8.out.size;have hend:∀{a n d g} {Z:List ag},az 0 w8 a n d Z→(w8.heap.size≤g∨∀o,w8.cell? ⟨g,o,none⟩=none)→de (fun b=>b≠g∧b≠G) wf a n d Z:=fun {a n d g Z} h h2=>qm h hT8 (by omega) (fun b hb hn=>(hh b hn).trans (K11.out.block b hb)) h2 hGl
     exact ⟨some ⟨g1,0,none⟩,nm,c1,some ⟨G,0,none⟩,3,c,some ⟨g3,0,none⟩,ns,c3,rfl,hfin,(fun h=>by cases h),fun _=>⟨G,gA',dA',gr,nr,cr,g7,n7,c7,rfl,rfl,(dV.some hM.mem).mono hlow,ew hM.row hlow,hM.lev.mono hlow,hend (HRR.out.1.keep KL8.out) (.inl hgA),hend HR8.out (.inl hgA),(eH hM.sn hM.slen hM.swf).lower hlow,fun x e _=>by cases e;exact ⟨sz3,k3⟩⟩⟩
end Go.Proofs.YtpobkmjicbobdaaGreat
