/-
  The document's l5Merge: runs of a right tree merged into the next level, by a walk of its Go text.
-/
import Derived.Deep.LoopGhost
import Derived.Test.YtlmgojlffgkciaaGreatTc36
namespace Go.Proofs.YtlmgojlffgkciaaGreat
open Go.RowKit
set_option maxRecDepth 100000
set_option maxHeartbeats 16000000
theorem uw (lo:Nat) (q:Int) (b1 nm cm bv cv b3 ns cs:Nat) (M:List ac) (A B C:List ae) (S:List Int) (bt ot nt ct:Nat) (T:List ae) (ar:Option Addr) (nr cr:Nat) (R:List ae) (w:World) (hT:aM lo w (pT b1) nm cm (pT bv) 3 cv (pT b3) ns cs M [A,B,C] S) (hnm:nm≤1048576) (hns:ns≤1048576) (hSz:∀Z ∈ [A,B,C],Z.length≤100∧∀r ∈ Z,1≤r.1.length∧r.1.length≤10000) (hTk:aj 0 w (some ⟨bt,ot,none⟩) nt ct T) (hnt:nt≤100) (hR:aj 0 w ar nr cr R) (hok:fD T B) (hsum:(aH (cf T B)).flatten.length≤100000) :
 Calls Tryz.prog 101 #[.agg #[iT q,sL b1 nm cm,sL bv 3 cv,sL b3 ns cs],iT 0,sO bt ot nt ct,.slice ar nr cr] w (jb b3 q nm ns M (if ku T B C S 1=true then [R,dw T B C S 1,C] else [A,B,C]) S (ku T B C S 1) w):=by
 obtain ⟨j0,hj,hy0,hy1,hy2⟩:=info_parts Tryz.infoRun;obtain ⟨X,hX⟩:=ay w.heap.size;obtain ⟨W,hW⟩:=ay ((w.alloc (.cells #[iT q,sL b1 nm cm,sL bv 3 cv,sL b3 ns cs] 31)).alloc (.cells #[iT 0,nZ,nZ,nZ] 31));have kW:Bl w W:=by rw [hW];exact bZ.alloc (by simp) _
 have bx:aF W X (iT q) (sL b1 nm cm) (sL bv 3 cv) (sL b3 ns cs):=by rw [hW,hX];exact (aF.new _ _ _ _ _ _).alloc _
 have br:aF W (X+1) (iT 0) nZ nZ nZ∧aw W (X+1) 31 4:=by
  have:=aF.new (w.alloc (.cells #[iT q,sL b1 nm cm,sL bv 3 cv,sL b3 ns cs] 31)) 31 (iT 0) nZ nZ nZ;rw [World.size_alloc] at this;rw [hW,hX];have h2:=cZ (w.alloc (.cells #[iT q,sL b1 nm cm,sL bv 3 cv,sL b3 ns cs] 31)) #[iT 0,nZ,nZ,nZ] 31;rw [World.size_alloc] at h2;exact ⟨this,h2⟩
 have HX:Hid (X=w.heap.size):=hX;have K0:Hid (Bl w W):=kW;have HBR:Hid (∀w',Bl W w'→aF w' (X+1) (iT 0) nZ nZ nZ∧m8 w' (X+1)):=fun w' k=>⟨br.1.keep k,iz (br.2.below k) (br.1.keep k)⟩
 have HBX:Hid (∀w',Bl W w'→aF w' X (iT q) (sL b1 nm cm) (sL bv 3 cv) (sL b3 ns cs)):=fun w' k=>bx.keep k
 have HBL:Hid (∀w',Bl W w'→aw w' (X+1) 31 4):=fun w' k=>br.2.below k
 have hrt:=List.getElem?_eq_getElem (l:=T) (i:=0) (by have:=hok.t0;omega);obtain ⟨r0,hr0⟩:∃r0,T[0]?=some r0:=⟨_,hrt⟩;obtain ⟨low,hlow⟩:=ay (gF T);obtain ⟨high,hhigh⟩:=ay (eD T);have hlo':low=eW (aY r0.1) T:=by rw [hlow];unfold gF;rw [hr0]
 have hhi':high=dh (aR r0.1) T:=by rw [hhigh];unfold eD;rw [hr0]
 obtain ⟨nx,hnx,cnx,hN⟩:∃aN nN cN,w.cell? ⟨bv,1,none⟩=some (.slice aN nN cN)∧aj 0 w aN nN cN B:=by
  obtain ⟨s,n,c,h1,h2⟩:=hT.levels.levels _ rfl 1 (by simp);exact ⟨s,n,c,by simpa using h1,h2.mono (Nat.zero_le _)⟩
 obtain ⟨hcN,hN⟩:=hN;obtain ⟨a2,n2,c2,hc2,hC⟩:∃aN nN cN,w.cell? ⟨bv,2,none⟩=some (.slice aN nN cN)∧aj 0 w aN nN cN C:=by
  obtain ⟨s,n,c,h1,h2⟩:=hT.levels.levels _ rfl 2 (by simp);exact ⟨s,n,c,by simpa using h1,h2.mono (Nat.zero_le _)⟩
 have hNz:=hSz B (by simp);have hCz:=hSz C (by simp);have hNl:=hN.length;have hCl:=hC.length;have HLN:Hid (w.cell? ⟨bv,1,none⟩=some (.slice nx hnx cnx)):=hcN;have CR:Hid (∀w',Bl w w'→Calls Tryz.prog 152 #[sO bt ot nt ct] w' fun e w''=>e=.returned (.tuple #[.string low,.string high])∧Bl w' w''):=fun w' k=>by
  rw [hlo',hhi'];exact l8 bt ot nt ct T r0 w' (hTk.keep k) hr0 (fun r hr=>(hok.tok r hr).2) (by omega)
 have CP:Hid (∀w',Bl w w'→Calls Tryz.prog 153 #[.slice nx hnx cnx,.string low,.string high] w' fun e w''=>∃g1 n1 c1 g2 n2 c2,e=.returned (.tuple #[sL g1 n1 c1,sL g2 n2 c2])∧aj 0 w'' (pT g1) n1 c1 (AB T B)∧aj 0 w'' (pT g2) n2 c2 (ki T B)∧Bl w' w''):=fun w' k=>by
  unfold AB ki;rw [← hlow,← hhigh];exact og nx hnx cnx B low high w' (hN.keep k) (fun r hr=>(hNz.2 r hr).1) (by omega)
 have HTI:=bc hT;have HTK:=bc hTk;have HRR:=bc hR;have HC2:Hid (w.cell? ⟨bv,2,none⟩=some (.slice a2 n2 c2)∧aj 0 w a2 n2 c2 C):=⟨hc2,hC⟩;have HOK:=bc hok;have HR0:Hid (T[0]?=some r0):=hr0;have HSM:=bc hsum;have HZN:Hid (B.length≤100∧∀r ∈ B,1≤r.1.length∧r.1.length≤10000):=hNz;have HZC:Hid (n2≤1000∧∀r ∈ C,1≤r.1.length):=⟨by omega,fun r hr=>(hCz.2 r hr).1⟩;have HSZ:=bc hSz;obtain ⟨OK,hOK⟩:=ay (ku T B C S 1);have HOKE:Hid (OK=ku T B C S 1):=hOK;rw [← hOK];obtain ⟨V',hV'⟩:=ay ((if OK=true then [R,dw T B C S 1,C] else [A,B,C]));have HV:Hid (V'=(if OK=true then [R,dw T B C S 1,C] else [A,B,C])):=hV';rw [← hV'];clear hV';have l0:=cell_later kW HLN.out;have lz:=World.block_lt_of_cell? _ _ l0;simp only at lz;clear kW hrt hlow hhigh hlo' hhi' hT hTk hR hc2 hC hok hr0 hsum hNz hCz hSz hcN hN br hNl hCl hOK l0 lz;go_enter Tryz.func101,Tryz.ntmps101
 go_wp2_with fail
 rw [← hX,← hW];clear hX hW;refine (CR.out _ K0.out).mono ?_;rintro e w1 ⟨rfl,hb1⟩;have KW1:Hid (Bl W w1):=hb1;have K1:Hid (Bl w w1):=K0.out.trans (hb1.mono K0.out.size);have x2:=(bx.keep hb1).c2;have xz:=(bx.keep hb1).lt;have l0:=cell_later K1.out HLN.out;have lz:=World.block_lt_of_cell? _ _ l0;simp only at lz;clear hb1 bx;go_wp2_with fail
 clear x2 xz l0 lz;refine (CP.out _ K1.out).mono ?_;rintro e w2 ⟨gI,nI,cI,gO,nO,cO,rfl,hI,hO,hb2⟩;have KW2:Hid (Bl W w2):=KW1.out.trans (hb2.mono KW1.out.size);have K2:Hid (Bl w w2):=K1.out.trans (hb2.mono K1.out.size);have HOF:Hid (aj 0 w2 (pT gO) nO cO (ki T B)):=hO;have hIl:=hI.length;have hnI:nI≤100:=by have h1:=HZN.out.1;have h2:=(ms T B).length_le;omega
 obtain ⟨xsT,dT,rT⟩:=(HTK.out.keep K2.out).raw;obtain ⟨xsI,dI,rI⟩:=hI.raw;have HDA:Hid (dq (·<w2.heap.size) w2 (xsT++xsI) (cf T B)):=dT.denP.app dI.denP;have HRT:Hid (gl w2 (sO bt ot nt ct) nt xsT):=rT;have HRI:Hid (gl w2 (sL gI nI cI) nI xsI):=rI;have ka:Bl w2 (w2.alloc (.cells #[] 102)):=bZ;have KA:Hid (Bl w2 (w2.alloc (.cells #[] 102))):=ka;have R1:Hid ((w2.alloc (.cells #[] 102)).ownsRow w2.heap.size 102 2 (sL (w2.heap.size) 0 0) 0 []):=by
  have:=World.ownsRow_lit (base:=w2.heap.size) (e:=102) (size:=2) w2 #[] 0 (Nat.le_refl _) (by simp) (by simp);show World.ownsRow _ _ _ _ _ _ _
  simpa using this
 have HNW:Hid (∀j u,xsT[j]?=some u→(w2.alloc (.cells #[] 102)).cell? ((⟨bt,ot,none⟩:Addr).add j)=some u):=fun j u hu=>by
  rcases (rT.keep ka).2.2 with ⟨h,_⟩ | ⟨b,o,c,h,hc⟩
  · cases h
  · cases h;rw [Go.WideShapes.add_plain];exact hc j u hu
 clear hI hO hb2 dT dI rT rI ka CR CP hIl;go_wp2_with (first
  | (at_builtin;refine wpList_append_own _ rfl _ _ 64 rfl w2.heap.size 102 j0 _ 2 32 Tryz.underlying64 hj hy0 hy1 hy2 rfl (by decide) _ _ _ rfl HO3.out ⟨gI,0,none⟩ nI cI xsI rfl HRI.out.1 HNI.out HRI.out.2.1 (by unfold maxLen;omega) (by omega) (by have:=K3.out.size;omega) ?_;intro v4 W4 hown4 hgrow4 hnil4;obtain ⟨gA,cA,rfl⟩:=aU hown4 hnil4)
  | (at_builtin;refine wpList_append_own _ rfl _ _ 64 rfl w2.heap.size 102 j0 _ 2 32 Tryz.underlying64 hj hy0 hy1 hy2 rfl (by decide) _ _ _ rfl R1.out ⟨bt,ot,none⟩ nt ct xsT rfl HRT.out.1 HNW.out HRT.out.2.1 (by unfold maxLen;omega) (by omega) (by simp) ?_;intro v3 w3 hown3 hgrow3 hnil3;obtain ⟨g3a,c3a,rfl⟩:=aU hown3 hnil3;have HO3:Hid (w3.ownsRow w2.heap.size 102 2 (sL g3a nt c3a) nt xsT):=(by show World.ownsRow _ _ _ _ _ _ _;simpa using hown3);have K3:Hid (Bl w2 w3):=KA.out.grown hgrow3 KA.out.size (fun k e=>(R1.out.lt k e).1);have HNI:=lD (HRI.out.keep K3.out);clear hown3 hgrow3 hnil3))
 have k4:Bl w2 W4:=K3.out.grown hgrow4 K3.out.size (fun k e=>(HO3.out.lt k e).1);have K4:Hid (Bl w2 W4):=k4;have KW4:Hid (Bl W W4):=KW2.out.trans (k4.mono KW2.out.size);have KL4:Hid (Bl w W4):=K2.out.trans (k4.mono K2.out.size);obtain ⟨na,hna⟩:=ay (nt+nI);have hna2:na≤1000:=by omega
 obtain ⟨aA,cA',eA,hRA⟩:=fe hown4 (HDA.out.low k4).den;cases eA;rw [← hna] at hRA ⊢;obtain ⟨P,hP⟩:=ay (aH (cf T B));obtain ⟨nF,hnF⟩:=ay P.flatten.length;obtain ⟨BR,hBR⟩:=ay (iq T B C 1);obtain ⟨SQ,hSQ⟩:=ay (qN T B C S 1);have hF1:nF≤100000:=by rw [hnF,hP];exact HSM.out
 have hall0:(cf T B)[0]?=some r0:=by unfold cf;rw [List.getElem?_append_left (by have:=HOK.out.t0;omega)];exact HR0.out
 have CL:Hid (∀w',Bl W4 w'→Calls Tryz.prog 154 #[sL gA na cA] w' (ja na (cf T B) w')):=fun w' k=>pU _ na cA (cf T B) w' (hRA.keep k) (by omega)
 have CM:Hid (∀pa pc w',bW w' pa na pc P→Calls Tryz.prog 67 #[.slice pa na pc] w' fun e w''=>∃g cg,e=.returned (sL g nF cg)∧aE w'' w'.heap.size g nF cg (aQ P.flatten)∧Bl w' w''):=fun pa pc w' h=>by
  rw [hnF];exact pR pa na pc P w' h (by omega)
 have CB:Hid (∀w',Bl W4 w'→Calls Tryz.prog 155 #[.agg #[iT q,sL b1 nm cm,sL bv 3 cv,sL b3 ns cs],iT 1,sL gA na cA] w' fun e w''=>e=.returned (.bool BR)∧Bl w' w''):=fun w' k=>by
  have kk:=KL4.out.trans (k.mono KL4.out.size);have:=sC q (pT b1) nm cm bv 0 cv (pT b3) ns cs a2 n2 c2 C 1 gA 0 na cA (cf T B) r0 w' (by simpa using cell_later kk HC2.out.1) (HC2.out.2.keep kk) HZC.out.1 HZC.out.2 (hRA.keep k) hall0 (fun r hr=>(HOK.out.all r hr).2) hna2;have e:BR=(decide ((1:Int)=2) || decide ((C.filter (dV (eW (aY r0.1) (cf T B)) (dh (aR r0.1) (cf T B)))).length=0)):=by
   rw [hBR];unfold iq gF eD;simp only [hall0]
  rw [e];exact this
 have CQ:Hid (∀al cg w',Bl W4 w'→af w' al nF cg (aQ P.flatten)→Calls Tryz.prog 97 #[.slice al nF cg,sL b3 ns cs,.bool BR] w' fun e w''=>∃g n' c',e=.returned (sL g n' c')∧aE w'' w'.heap.size g n' c' SQ∧Bl w' w''):=fun al cg w' k h=>by
  have e:SQ=bC (aQ P.flatten) S BR:=by rw [hSQ,hP,hBR];rfl
  rw [e];exact nY lo al nF cg (aQ P.flatten) _ ns cs S BR w' h (HTI.out.snaps.keep (KL4.out.trans (k.mono KL4.out.size))) (by omega)
 have HSQ:Hid (SQ=qN T B C S 1):=hSQ;have HPE:Hid (P=aH (cf T B)):=hP;have HSQL:Hid (SQ.length≤100000):=by
  rw [hSQ];have h1:=fM (aQ (aH (cf T B)).flatten) S (iq T B C 1);have h2:=dF (aH (cf T B)).flatten;have h3:=HSM.out;show (qN T B C S 1).length≤_
  unfold qN;omega
 have hS4:∀w',Bl W4 w'→(w'.cell? ⟨X,0,none⟩=some (iT q)∧w'.cell? ⟨X,1,none⟩=some (sL b1 nm cm)∧w'.cell? ⟨X,2,none⟩=some (sL bv 3 cv)∧w'.cell? ⟨X,3,none⟩=some (sL b3 ns cs)∧X<w'.heap.size):=fun w' k=>by
  have b:=HBX.out w' (KW4.out.trans (k.mono KW4.out.size));exact ⟨b.c0,b.c1,b.c2,b.c3,b.lt⟩
 have k0:Bl W4 W4.drew:=(Below.refl _ W4).drew;clear hown4 hgrow4 hnil4 k4 hna hRA hP hnF hBR hSQ hF1 hall0 hna2 HDA HRT HRI HNI HNW HO3 R1 KA K3 hnI;go_upto_region 5 with fail
 go_cut [16] (fun s wx=>∃gD nD cD,s=sL gD nD cD∧af wx (pT gD) nD cD SQ∧gD<wx.heap.size∧Bl W4 wx)
 case first =>
  refine vC hS4 k0 fun aa=>?_
  generalize W4.drew=wd at k0 aa ⊢;refine aL 0 1 aa ?_;refine aL 3 5 aa ?_;refine aS 1 fun K hK=>?_
  go_simp;refine (CL.out _ k0).mono ?_;rintro e wA hlA;obtain ⟨pa,pc,rfl,hpA,hbA⟩:=gK hlA;rw [← HPE.out] at hpA;have kA:Bl W4 wA:=k0.trans (hbA.mono k0.size);have HPA:Hid (bW wA pa na pc P):=hpA;clear hlA hpA hbA;go_wp2_with fail
  refine hK.out _ _ (hS4 _ kA) fun aa=>?_
  (try go_frame);refine aS 2 fun K hK=>?_
  go_simp;refine (CM.out pa pc _ HPA.out).mono ?_;rintro e wB ⟨gB,cB,rfl,hoB,hbB⟩;have kB:Bl W4 wB:=kA.trans (hbB.mono kA.size);have HOB:Hid (af wB (pT gB) nF cB (aQ P.flatten)):=hoB.entsAt;clear hoB;go_wp2_with fail
  refine hK.out _ _ (hS4 _ kB) fun aa=>?_
  (try go_frame);refine aS 8 fun K hK=>?_
  go_simp;refine (CB.out _ kB).mono ?_;rintro e wC ⟨rfl,hbC⟩;have kC:Bl W4 wC:=kB.trans (hbC.mono kB.size);go_wp2_with fail
  refine hK.out _ _ (hS4 _ kC) fun aa=>?_
  (try go_frame);refine aS 9 fun K hK=>?_
  go_simp;refine (CQ.out _ _ _ kC (HOB.out.keep hbC)).mono ?_;rintro e wD ⟨gD,nD,cD,rfl,hoD,hbD⟩;have kD:Bl W4 wD:=kC.trans (hbD.mono kC.size);have HOD:Hid (af wD (pT gD) nD cD SQ):=hoD.entsAt;have HGD:Hid (gD<wD.heap.size):=hoD.lt.2;clear hoD;go_wp2_with fail
  refine hK.out _ _ (hS4 _ kD) fun aa=>?_
  (try go_frame);refine aL 10 1 aa ?_;refine dN ?_;go_wp2_with fail
  go_meet
  exact ⟨_,_,_,rfl,HOD.out,HGD.out,kD⟩
 case rest =>
  obtain ⟨gD,nD,cD,rfl,hD,hgD,k5⟩:=hcut;clear k0 CL CM CB CQ hS4;have hnD:=hD.length;have hsq:=HSQL.out;have CUT:=sy gD nD cD SQ wc hD hgD (by omega);rw [show (dU SQ nD).1=bw SQ by unfold bw;rw [hnD]] at CUT;have K5:Hid (Bl w2 wc):=K4.out.trans (k5.mono K4.out.size);clear hD hgD k5 hnD hsq;go_wp2_with fail
  refine CUT.mono ?_;rintro e w6 ⟨g6,m6,c6,rfl,hG6,hb6⟩;have K6:Hid (Bl w2 w6):=K5.out.trans (hb6.mono K5.out.size);have hm6:(bw SQ).length=m6:=hG6.1;have hl6:=lO SQ SQ.length;have hl6':m6≤100000:=by have:=HSQL.out;have h9:(bw SQ).length≤SQ.length:=hl6;omega
  have hOl:=HOF.out.length;have hnO:nO≤100:=by have h1:=HZN.out.1;have h2:(ki T B).length≤B.length:=List.length_filter_le _ _;omega
  have CO:=pQ gO 0 nO cO (ki T B) g6 0 m6 c6 (bw SQ) w6 (HOF.out.keep K6.out) (hG6.runsIn.mono (Nat.zero_le _)) hG6.lt.2 (fun r hr=>(HZN.out.2 r (List.mem_filter.1 hr).1).1) (fun r hr=>rF hr) (by omega) (by omega);have HN7:Hid ((dr (ki T B) (bw SQ)).length≤200000):=by show _≤_;rw [mi];omega
  clear CUT hG6 hb6 hm6 hl6 hl6' hOl hnO;go_wp2_with fail
  refine CO.mono ?_;rintro e w7 ⟨g7,n7,c7,xs7,rfl,hr7,hd7,hb7⟩;have K7:Hid (Bl w2 w7):=K6.out.trans (hb7.mono K6.out.size);obtain ⟨a7,c7',e7,hR7⟩:=fe hr7 (hd7.low hb7).den;cases e7;rw [HSQ.out] at hR7;have HR7:Hid (aj 0 w7 (pT g7) n7 c7 (dw T B C S 1)):=hR7;have hn7:n7≤1048576:=by have h1:=hR7.length;have h2:=HN7.out;rw [HSQ.out] at h2;omega
  have CF:=su _ n7 c7 _ w7 hR7 hn7;have eok:(cV (dr (ki T B) (bw (qN T B C S 1))) && decide (n7≤8))=OK:=by
   rw [HOKE.out,← hR7.length];rfl
  rw [eok] at CF;clear CO hr7 hd7 hb7 hR7 hn7 eok;go_wp2_with fail
  refine CF.mono ?_;rintro e w8 ⟨rfl,hb8⟩;have K8:Hid (Bl w2 w8):=K7.out.trans (hb8.mono K7.out.size);have KW8:Hid (Bl W w8):=KW2.out.trans (K8.out.mono KW2.out.size);have KL8:Hid (Bl w w8):=K2.out.trans (K8.out.mono K2.out.size);have HR8:Hid (aj 0 w8 (pT g7) n7 c7 (dw T B C S 1)):=HR7.out.keep hb8;have b8:=HBX.out w8 KW8.out;have y8:=(HBR.out w8 KW8.out).1;have x0:=b8.c0;have x1:=b8.c1;have x2:=b8.c2;have x3:=b8.c3;have xz:=b8.lt;clear CF hb8 HR7 K7 K6 K5 K4 KW4 KL4 HN7 HSQ HSQL b8;cases OK with
  | false =>
   have r0:=y8.c0;have r1:=y8.c1;have r2:=y8.c2;have r3:=y8.c3;have rf:=y8.fz;have rz:=y8.lt;have HY8:Hid (aF w8 (X+1) (iT 0) nZ nZ nZ):=y8;clear y8;go_wp2;refine bodyPost_ret (v:=.tuple #[.agg #[iT q,sL b1 nm cm,sL bv 3 cv,sL b3 ns cs],.bool false]) ?_ rfl (show jb _ _ _ _ _ _ _ _ _ _ _ from ⟨b1,cm,bv,cv,b3,cs,rfl,.inl rfl,?_,?_⟩)
   · have e:=(((HY8.out.set0 (iT q)).set1 (sL b1 nm cm)).set2 (sL bv 3 cv)).set3 (sL b3 ns cs);simp [results,Tryz.results101,go_sem,e.c0,e.c1,e.c2,e.c3]
   · have hx:w.heap.size≤X+1:=by have:=HX.out;omega
     rw [HV.out];simp only [Bool.false_eq_true,if_false];exact (HTI.out.keep (li KL8.out hx _ _ _ _)).lowR (Nat.zero_le _)
   · have hx:w.heap.size≤X+1:=by have:=HX.out;omega
     exact li KL8.out hx _ _ _ _
  | true =>
   have CC:=lp lo q b1 nm cm (pT bv) 3 cv b3 ns cs M [A,B,C] S w8 (HTI.out.keep KL8.out) hnm hns (by omega) HSZ.out;go_wp2_with fail
   refine CC.mono ?_;rintro e w9 ⟨g1,c1,G,c,g3,c3,rfl,hC9,hb9⟩;clear CC x0 x1 x2 x3 xz;obtain ⟨gA',dA',gB',dB',gC',dC',hrow,rA,rB,rC,_,_⟩:=hC9.split;have hcc:=b6 hrow;have HCC:Hid (3≤c∧c≤maxLen):=hcc;have hGl:=hrow.lt G rfl;have HGl:Hid (w8.heap.size≤G):=hGl.1;have hXl:X+1<w8.heap.size:=y8.lt;have HXl:Hid (X+1<w8.heap.size):=hXl;obtain ⟨sz,kG⟩:=cY hrow;have ME:Hid (fS w8.heap.size w9 g1 nm c1 G c g3 ns c3 gC' C.length dC' M C S):=⟨hC9.mem,rC,hC9.slen,hC9.swf,hC9.sn,sz,kG⟩;have q0:w9.cell? ⟨G,0,none⟩=some (sL gA' A.length dA'):=by simpa [Go.WideShapes.add_plain] using hrow.cells (g:=G) rfl 0 _ rfl
   have q1:w9.cell? ⟨G,1,none⟩=some (sL gB' B.length dB'):=by simpa [Go.WideShapes.add_plain] using hrow.cells (g:=G) rfl 1 _ rfl
   have q2:w9.cell? ⟨G,2,none⟩=some (sL gC' C.length dC'):=by simpa [Go.WideShapes.add_plain] using hrow.cells (g:=G) rfl 2 _ rfl
   have HG3:Hid (w.heap.size≤g3):=Nat.le_trans KL8.out.size (hC9.sn.lt g3 rfl).1;have KL9:Hid (Bl w w9):=KL8.out.trans (hb9.mono KL8.out.size);have K9:Hid (Bl w8 w9):=hb9;obtain ⟨Y,hY⟩:=ay w9.heap.size;obtain ⟨wY,hwY⟩:=ay (w9.alloc (.cells #[iT q,sL g1 nm c1,sL G 3 c,sL g3 ns c3] 31));have kY:Bl w9 wY:=by rw [hwY];exact bZ
   have bY:aF wY Y (iT q) (sL g1 nm c1) (sL G 3 c) (sL g3 ns c3):=by rw [hwY,hY];exact aF.new _ _ _ _ _ _
   have HMY:Hid (fS w8.heap.size wY g1 nm c1 G c g3 ns c3 gC' C.length dC' M C S):=ME.out.below kY;have HQ:Hid (wY.cell? ⟨G,0,none⟩=some (sL gA' A.length dA')∧wY.cell? ⟨G,1,none⟩=some (sL gB' B.length dB')∧wY.cell? ⟨G,2,none⟩=some (sL gC' C.length dC')):=⟨cell_later kY q0,cell_later kY q1,cell_later kY q2⟩;have KLY:Hid (Bl w wY):=KL9.out.trans (kY.mono KL9.out.size);have KY:Hid (Bl w8 wY):=K9.out.trans (kY.mono K9.out.size);have hGY:G≠Y:=by rw [hY];have:=hGl.2;omega
   have HGK:Hid (aw wY G 64 sz):=kG.below kY;have hXG:X+1≠G:=by have:=hGl.1;omega
   have HXG:Hid (X+1≠G):=hXG;have y9:=(y8.keep hb9).keep kY;have hXY:X+1≠Y:=by have:=(y8.keep hb9).lt;rw [hY];omega
   clear hC9 rA rB rC hrow hcc hb9 q0 q1 q2 kG hGl hXl K9 KL9 ME y8;go_upto_region 10 with fail
   rw [← hY,← hwY];clear hY hwY kY;obtain ⟨w10,hw10⟩:=ay (wY.setCell ⟨G,0,none⟩ (.slice ar nr cr));obtain ⟨w11,hw11⟩:=ay (w10.setCell ⟨G,1,none⟩ (sL g7 n7 c7));have bY10:aF w10 Y (iT q) (sL g1 nm c1) (sL G 3 c) (sL g3 ns c3):=by rw [hw10];exact bY.other hGY _
   have bY11:aF w11 Y (iT q) (sL g1 nm c1) (sL G 3 c) (sL g3 ns c3):=by rw [hw11];exact bY10.other hGY _
   have y10:aF w10 (X+1) (iT 0) nZ nZ nZ:=by rw [hw10];exact y9.other hXG.symm _
   have y11:aF w11 (X+1) (iT 0) nZ nZ nZ:=by rw [hw11];exact y10.other hXG.symm _
   have G10:aw w10 G 64 sz:=by rw [hw10];exact HGK.out.setCell _
   have hG0:=HGK.out.lt;have hG10:=G10.lt;have HM11:Hid (fS w8.heap.size w11 g1 nm c1 G c g3 ns c3 gC' C.length dC' M C S):=by rw [hw11,hw10];exact (HMY.out.setG _ _).setG _ _
   have K11:Hid (Bl w8 w11):=by rw [hw11,hw10];exact (KY.out.setCell (p:=⟨G,0,none⟩) HGl.out _).setCell (p:=⟨G,1,none⟩) HGl.out _
   have KL11:Hid (Bl w w11):=KL8.out.trans (K11.out.mono KL8.out.size);have HQ11:Hid (w11.cell? ⟨G,0,none⟩=some (.slice ar nr cr)∧w11.cell? ⟨G,1,none⟩=some (sL g7 n7 c7)∧w11.cell? ⟨G,2,none⟩=some (sL gC' C.length dC')):=by
    obtain ⟨t0,t1,t2⟩:=HQ.out;rw [hw11,hw10];refine ⟨?_,?_,?_⟩
    · rw [World.cell?_setCell_other _ _ _ _ (fun e=>by simp at e)];exact World.cell?_setCell_same _ _ _ t0
    · exact World.cell?_setCell_same _ _ _ (by rw [World.cell?_setCell_other _ _ _ _ (fun e=>by simp at e)];exact t1)
    · rw [World.cell?_setCell_other _ _ _ _ (fun e=>by simp at e),World.cell?_setCell_other _ _ _ _ (fun e=>by simp at e)];exact t2
   have HQN:Hid (w10.cell? ⟨G,1,none⟩=some (sL gB' B.length dB')):=by
    rw [hw10,World.cell?_setCell_other _ _ _ _ (fun e=>by simp at e)];exact HQ.out.2.1
   have HY11:Hid (aF w11 (X+1) (iT 0) nZ nZ nZ):=y11;have HT11:Hid (m8 w11 (X+1)):=by
    have hb8:aw w8 (X+1) 31 4:=HBL.out w8 KW8.out;have hbY:aw w11 (X+1) 31 4:=hb8.same (K11.out.block _ HXl.out);exact iz hbY y11
   have u2:=bY.c2;have uz:=bY.lt;have q0:=HQ.out.1;have gf:=HGK.out.frozen;clear bY y9 y10 HQ HMY HGK;go_upto_region 11 with fail
   rw [← hw10];clear hw10 u2 uz q0 gf;have u2:=bY10.c2;have uz:=bY10.lt;have gf:=G10.frozen;have q0:=HQN.out;clear bY10;go_upto_region 12 with fail
   rw [← hw11];clear hw11 u2 uz q0 gf G10 hG10;have u0:=bY11.c0;have u1:=bY11.c1;have u2:=bY11.c2;have u3:=bY11.c3;have uz:=bY11.lt;have r0:=y11.c0;have r1:=y11.c1;have r2:=y11.c2;have r3:=y11.c3;have rf:=y11.fz;have rz:=y11.lt;clear bY11 y11;go_wp2;refine bodyPost_ret (v:=.tuple #[.agg #[iT q,sL g1 nm c1,sL G 3 c,sL g3 ns c3],.bool true]) ?_ rfl (show jb _ _ _ _ _ _ _ _ _ _ _ from ⟨g1,c1,G,c,g3,c3,rfl,.inr HG3.out,?_,?_⟩)
   · have e:=(((HY11.out.set0 (iT q)).set1 (sL g1 nm c1)).set2 (sL G 3 c)).set3 (sL g3 ns c3);simp [results,Tryz.results101,go_sem,e.c0,e.c1,e.c2,e.c3]
   · rw [HV.out];simp only [if_true];have hxb:=HXl.out;have hM:=(((HM11.out.setX hxb 0 (iT q)).setX hxb 1 (sL g1 nm c1)).setX hxb 2 (sL G 3 c)).setX hxb 3 (sL g3 ns c3);refine hM.treeIn ?_;obtain ⟨t0,t1,t2⟩:=HQ11.out;have hc4:=fx w11 (X+1) (iT q) (sL g1 nm c1) (sL G 3 c) (sL g3 ns c3);have hs4:=jZ w11 (X+1) (iT q) (sL g1 nm c1) (sL G 3 c) (sL g3 ns c3);have hR:=(HRR.out.keep KL11.out).apartX HT11.out (Nat.le_of_eq hs4.symm) hc4;have hU:=(HR8.out.keep K11.out).apartX HT11.out (Nat.le_of_eq hs4.symm) hc4;have hD:=hM.lev.runsIn.mono (Nat.zero_le _);have gx:=HXG.out.symm;exact js HCC.out.1 HCC.out.2 (by rw [hc4 _ gx];exact t0) (by rw [hc4 _ gx];exact t1) (by rw [hc4 _ gx];exact t2) hR hU hD
   · have hx:w.heap.size≤X+1:=by have:=HX.out;omega
     exact li KL11.out hx _ _ _ _
theorem uu (lo:Nat) (q:Int) (b1 nm cm bv cv b3 ns cs:Nat) (M:List ac) (A B C:List ae) (S:List Int) (bt ot nt ct:Nat) (T:List ae) (ar:Option Addr) (nr cr:Nat) (R:List ae) (w:World) (hT:aM lo w (pT b1) nm cm (pT bv) 3 cv (pT b3) ns cs M [A,B,C] S) (hnm:nm≤1048576) (hns:ns≤1048576) (hSz:∀Z ∈ [A,B,C],Z.length≤100∧∀r ∈ Z,1≤r.1.length∧r.1.length≤10000) (hTk:aj 0 w (some ⟨bt,ot,none⟩) nt ct T) (hnt:nt≤100) (hR:aj 0 w ar nr cr R) (hok:fD T C) (hsum:(aH (cf T C)).flatten.length≤100000) :
 Calls Tryz.prog 101 #[.agg #[iT q,sL b1 nm cm,sL bv 3 cv,sL b3 ns cs],iT 1,sO bt ot nt ct,.slice ar nr cr] w (jb b3 q nm ns M (if ku T C C S 2=true then [A,R,dw T C C S 2] else [A,B,C]) S (ku T C C S 2) w):=by
 obtain ⟨j0,hj,hy0,hy1,hy2⟩:=info_parts Tryz.infoRun;obtain ⟨X,hX⟩:=ay w.heap.size;obtain ⟨W,hW⟩:=ay ((w.alloc (.cells #[iT q,sL b1 nm cm,sL bv 3 cv,sL b3 ns cs] 31)).alloc (.cells #[iT 0,nZ,nZ,nZ] 31));have kW:Bl w W:=by rw [hW];exact bZ.alloc (by simp) _
 have bx:aF W X (iT q) (sL b1 nm cm) (sL bv 3 cv) (sL b3 ns cs):=by rw [hW,hX];exact (aF.new _ _ _ _ _ _).alloc _
 have br:aF W (X+1) (iT 0) nZ nZ nZ∧aw W (X+1) 31 4:=by
  have:=aF.new (w.alloc (.cells #[iT q,sL b1 nm cm,sL bv 3 cv,sL b3 ns cs] 31)) 31 (iT 0) nZ nZ nZ;rw [World.size_alloc] at this;rw [hW,hX];have h2:=cZ (w.alloc (.cells #[iT q,sL b1 nm cm,sL bv 3 cv,sL b3 ns cs] 31)) #[iT 0,nZ,nZ,nZ] 31;rw [World.size_alloc] at h2;exact ⟨this,h2⟩
 have HX:Hid (X=w.heap.size):=hX;have K0:Hid (Bl w W):=kW;have HBR:Hid (∀w',Bl W w'→aF w' (X+1) (iT 0) nZ nZ nZ∧m8 w' (X+1)):=fun w' k=>⟨br.1.keep k,iz (br.2.below k) (br.1.keep k)⟩
 have HBX:Hid (∀w',Bl W w'→aF w' X (iT q) (sL b1 nm cm) (sL bv 3 cv) (sL b3 ns cs)):=fun w' k=>bx.keep k
 have HBL:Hid (∀w',Bl W w'→aw w' (X+1) 31 4):=fun w' k=>br.2.below k
 have hrt:=List.getElem?_eq_getElem (l:=T) (i:=0) (by have:=hok.t0;omega);obtain ⟨r0,hr0⟩:∃r0,T[0]?=some r0:=⟨_,hrt⟩;obtain ⟨low,hlow⟩:=ay (gF T);obtain ⟨high,hhigh⟩:=ay (eD T);have hlo':low=eW (aY r0.1) T:=by rw [hlow];unfold gF;rw [hr0]
 have hhi':high=dh (aR r0.1) T:=by rw [hhigh];unfold eD;rw [hr0]
 obtain ⟨nx,hnx,cnx,hN⟩:∃aN nN cN,w.cell? ⟨bv,2,none⟩=some (.slice aN nN cN)∧aj 0 w aN nN cN C:=by
  obtain ⟨s,n,c,h1,h2⟩:=hT.levels.levels _ rfl 2 (by simp);exact ⟨s,n,c,by simpa using h1,h2.mono (Nat.zero_le _)⟩
 obtain ⟨hcN,hN⟩:=hN;obtain ⟨a2,n2,c2,hc2,hC⟩:∃aN nN cN,w.cell? ⟨bv,2,none⟩=some (.slice aN nN cN)∧aj 0 w aN nN cN C:=by
  obtain ⟨s,n,c,h1,h2⟩:=hT.levels.levels _ rfl 2 (by simp);exact ⟨s,n,c,by simpa using h1,h2.mono (Nat.zero_le _)⟩
 have hNz:=hSz C (by simp);have hCz:=hSz C (by simp);have hNl:=hN.length;have hCl:=hC.length;have HLN:Hid (w.cell? ⟨bv,2,none⟩=some (.slice nx hnx cnx)):=hcN;have CR:Hid (∀w',Bl w w'→Calls Tryz.prog 152 #[sO bt ot nt ct] w' fun e w''=>e=.returned (.tuple #[.string low,.string high])∧Bl w' w''):=fun w' k=>by
  rw [hlo',hhi'];exact l8 bt ot nt ct T r0 w' (hTk.keep k) hr0 (fun r hr=>(hok.tok r hr).2) (by omega)
 have CP:Hid (∀w',Bl w w'→Calls Tryz.prog 153 #[.slice nx hnx cnx,.string low,.string high] w' fun e w''=>∃g1 n1 c1 g2 n2 c2,e=.returned (.tuple #[sL g1 n1 c1,sL g2 n2 c2])∧aj 0 w'' (pT g1) n1 c1 (AB T C)∧aj 0 w'' (pT g2) n2 c2 (ki T C)∧Bl w' w''):=fun w' k=>by
  unfold AB ki;rw [← hlow,← hhigh];exact og nx hnx cnx C low high w' (hN.keep k) (fun r hr=>(hNz.2 r hr).1) (by omega)
 have HTI:=bc hT;have HTK:=bc hTk;have HRR:=bc hR;have HC2:Hid (w.cell? ⟨bv,2,none⟩=some (.slice a2 n2 c2)∧aj 0 w a2 n2 c2 C):=⟨hc2,hC⟩;have HOK:=bc hok;have HR0:Hid (T[0]?=some r0):=hr0;have HSM:=bc hsum;have HZN:Hid (C.length≤100∧∀r ∈ C,1≤r.1.length∧r.1.length≤10000):=hNz;have HZC:Hid (n2≤1000∧∀r ∈ C,1≤r.1.length):=⟨by omega,fun r hr=>(hCz.2 r hr).1⟩;have HSZ:=bc hSz;obtain ⟨OK,hOK⟩:=ay (ku T C C S 2);have HOKE:Hid (OK=ku T C C S 2):=hOK;rw [← hOK];obtain ⟨V',hV'⟩:=ay ((if OK=true then [A,R,dw T C C S 2] else [A,B,C]));have HV:Hid (V'=(if OK=true then [A,R,dw T C C S 2] else [A,B,C])):=hV';rw [← hV'];clear hV';have l0:=cell_later kW HLN.out;have lz:=World.block_lt_of_cell? _ _ l0;simp only at lz;clear kW hrt hlow hhigh hlo' hhi' hT hTk hR hc2 hC hok hr0 hsum hNz hCz hSz hcN hN br hNl hCl hOK l0 lz;go_enter Tryz.func101,Tryz.ntmps101
 go_wp2_with fail
 rw [← hX,← hW];clear hX hW;refine (CR.out _ K0.out).mono ?_;rintro e w1 ⟨rfl,hb1⟩;have KW1:Hid (Bl W w1):=hb1;have K1:Hid (Bl w w1):=K0.out.trans (hb1.mono K0.out.size);have x2:=(bx.keep hb1).c2;have xz:=(bx.keep hb1).lt;have l0:=cell_later K1.out HLN.out;have lz:=World.block_lt_of_cell? _ _ l0;simp only at lz;clear hb1 bx;go_wp2_with fail
 clear x2 xz l0 lz;refine (CP.out _ K1.out).mono ?_;rintro e w2 ⟨gI,nI,cI,gO,nO,cO,rfl,hI,hO,hb2⟩;have KW2:Hid (Bl W w2):=KW1.out.trans (hb2.mono KW1.out.size);have K2:Hid (Bl w w2):=K1.out.trans (hb2.mono K1.out.size);have HOF:Hid (aj 0 w2 (pT gO) nO cO (ki T C)):=hO;have hIl:=hI.length;have hnI:nI≤100:=by have h1:=HZN.out.1;have h2:=(ms T C).length_le;omega
 obtain ⟨xsT,dT,rT⟩:=(HTK.out.keep K2.out).raw;obtain ⟨xsI,dI,rI⟩:=hI.raw;have HDA:Hid (dq (·<w2.heap.size) w2 (xsT++xsI) (cf T C)):=dT.denP.app dI.denP;have HRT:Hid (gl w2 (sO bt ot nt ct) nt xsT):=rT;have HRI:Hid (gl w2 (sL gI nI cI) nI xsI):=rI;have ka:Bl w2 (w2.alloc (.cells #[] 102)):=bZ;have KA:Hid (Bl w2 (w2.alloc (.cells #[] 102))):=ka;have R1:Hid ((w2.alloc (.cells #[] 102)).ownsRow w2.heap.size 102 2 (sL (w2.heap.size) 0 0) 0 []):=by
  have:=World.ownsRow_lit (base:=w2.heap.size) (e:=102) (size:=2) w2 #[] 0 (Nat.le_refl _) (by simp) (by simp);show World.ownsRow _ _ _ _ _ _ _
  simpa using this
 have HNW:Hid (∀j u,xsT[j]?=some u→(w2.alloc (.cells #[] 102)).cell? ((⟨bt,ot,none⟩:Addr).add j)=some u):=fun j u hu=>by
  rcases (rT.keep ka).2.2 with ⟨h,_⟩ | ⟨b,o,c,h,hc⟩
  · cases h
  · cases h;rw [Go.WideShapes.add_plain];exact hc j u hu
 clear hI hO hb2 dT dI rT rI ka CR CP hIl;go_wp2_with (first
  | (at_builtin;refine wpList_append_own _ rfl _ _ 64 rfl w2.heap.size 102 j0 _ 2 32 Tryz.underlying64 hj hy0 hy1 hy2 rfl (by decide) _ _ _ rfl HO3.out ⟨gI,0,none⟩ nI cI xsI rfl HRI.out.1 HNI.out HRI.out.2.1 (by unfold maxLen;omega) (by omega) (by have:=K3.out.size;omega) ?_;intro v4 W4 hown4 hgrow4 hnil4;obtain ⟨gA,cA,rfl⟩:=aU hown4 hnil4)
  | (at_builtin;refine wpList_append_own _ rfl _ _ 64 rfl w2.heap.size 102 j0 _ 2 32 Tryz.underlying64 hj hy0 hy1 hy2 rfl (by decide) _ _ _ rfl R1.out ⟨bt,ot,none⟩ nt ct xsT rfl HRT.out.1 HNW.out HRT.out.2.1 (by unfold maxLen;omega) (by omega) (by simp) ?_;intro v3 w3 hown3 hgrow3 hnil3;obtain ⟨g3a,c3a,rfl⟩:=aU hown3 hnil3;have HO3:Hid (w3.ownsRow w2.heap.size 102 2 (sL g3a nt c3a) nt xsT):=(by show World.ownsRow _ _ _ _ _ _ _;simpa using hown3);have K3:Hid (Bl w2 w3):=KA.out.grown hgrow3 KA.out.size (fun k e=>(R1.out.lt k e).1);have HNI:=lD (HRI.out.keep K3.out);clear hown3 hgrow3 hnil3))
 have k4:Bl w2 W4:=K3.out.grown hgrow4 K3.out.size (fun k e=>(HO3.out.lt k e).1);have K4:Hid (Bl w2 W4):=k4;have KW4:Hid (Bl W W4):=KW2.out.trans (k4.mono KW2.out.size);have KL4:Hid (Bl w W4):=K2.out.trans (k4.mono K2.out.size);obtain ⟨na,hna⟩:=ay (nt+nI);have hna2:na≤1000:=by omega
 obtain ⟨aA,cA',eA,hRA⟩:=fe hown4 (HDA.out.low k4).den;cases eA;rw [← hna] at hRA ⊢;obtain ⟨P,hP⟩:=ay (aH (cf T C));obtain ⟨nF,hnF⟩:=ay P.flatten.length;obtain ⟨BR,hBR⟩:=ay (iq T C C 2);obtain ⟨SQ,hSQ⟩:=ay (qN T C C S 2);have hF1:nF≤100000:=by rw [hnF,hP];exact HSM.out
 have hall0:(cf T C)[0]?=some r0:=by unfold cf;rw [List.getElem?_append_left (by have:=HOK.out.t0;omega)];exact HR0.out
 have CL:Hid (∀w',Bl W4 w'→Calls Tryz.prog 154 #[sL gA na cA] w' (ja na (cf T C) w')):=fun w' k=>pU _ na cA (cf T C) w' (hRA.keep k) (by omega)
 have CM:Hid (∀pa pc w',bW w' pa na pc P→Calls Tryz.prog 67 #[.slice pa na pc] w' fun e w''=>∃g cg,e=.returned (sL g nF cg)∧aE w'' w'.heap.size g nF cg (aQ P.flatten)∧Bl w' w''):=fun pa pc w' h=>by
  rw [hnF];exact pR pa na pc P w' h (by omega)
 have CB:Hid (∀w',Bl W4 w'→Calls Tryz.prog 155 #[.agg #[iT q,sL b1 nm cm,sL bv 3 cv,sL b3 ns cs],iT 2,sL gA na cA] w' fun e w''=>e=.returned (.bool BR)∧Bl w' w''):=fun w' k=>by
  have kk:=KL4.out.trans (k.mono KL4.out.size);have:=sC q (pT b1) nm cm bv 0 cv (pT b3) ns cs a2 n2 c2 C 2 gA 0 na cA (cf T C) r0 w' (by simpa using cell_later kk HC2.out.1) (HC2.out.2.keep kk) HZC.out.1 HZC.out.2 (hRA.keep k) hall0 (fun r hr=>(HOK.out.all r hr).2) hna2;have e:BR=(decide ((2:Int)=2) || decide ((C.filter (dV (eW (aY r0.1) (cf T C)) (dh (aR r0.1) (cf T C)))).length=0)):=by
   rw [hBR];unfold iq gF eD;simp only [hall0]
  rw [e];exact this
 have CQ:Hid (∀al cg w',Bl W4 w'→af w' al nF cg (aQ P.flatten)→Calls Tryz.prog 97 #[.slice al nF cg,sL b3 ns cs,.bool BR] w' fun e w''=>∃g n' c',e=.returned (sL g n' c')∧aE w'' w'.heap.size g n' c' SQ∧Bl w' w''):=fun al cg w' k h=>by
  have e:SQ=bC (aQ P.flatten) S BR:=by rw [hSQ,hP,hBR];rfl
  rw [e];exact nY lo al nF cg (aQ P.flatten) _ ns cs S BR w' h (HTI.out.snaps.keep (KL4.out.trans (k.mono KL4.out.size))) (by omega)
 have HSQ:Hid (SQ=qN T C C S 2):=hSQ;have HPE:Hid (P=aH (cf T C)):=hP;have HSQL:Hid (SQ.length≤100000):=by
  rw [hSQ];have h1:=fM (aQ (aH (cf T C)).flatten) S (iq T C C 2);have h2:=dF (aH (cf T C)).flatten;have h3:=HSM.out;show (qN T C C S 2).length≤_
  unfold qN;omega
 have hS4:∀w',Bl W4 w'→(w'.cell? ⟨X,0,none⟩=some (iT q)∧w'.cell? ⟨X,1,none⟩=some (sL b1 nm cm)∧w'.cell? ⟨X,2,none⟩=some (sL bv 3 cv)∧w'.cell? ⟨X,3,none⟩=some (sL b3 ns cs)∧X<w'.heap.size):=fun w' k=>by
  have b:=HBX.out w' (KW4.out.trans (k.mono KW4.out.size));exact ⟨b.c0,b.c1,b.c2,b.c3,b.lt⟩
 have k0:Bl W4 W4.drew:=(Below.refl _ W4).drew;clear hown4 hgrow4 hnil4 k4 hna hRA hP hnF hBR hSQ hF1 hall0 hna2 HDA HRT HRI HNI HNW HO3 R1 KA K3 hnI;go_upto_region 5 with fail
 go_cut [16] (fun s wx=>∃gD nD cD,s=sL gD nD cD∧af wx (pT gD) nD cD SQ∧gD<wx.heap.size∧Bl W4 wx)
 case first =>
  refine vC hS4 k0 fun aa=>?_
  generalize W4.drew=wd at k0 aa ⊢;refine aL 0 1 aa ?_;refine aL 3 5 aa ?_;refine aS 1 fun K hK=>?_
  go_simp;refine (CL.out _ k0).mono ?_;rintro e wA hlA;obtain ⟨pa,pc,rfl,hpA,hbA⟩:=gK hlA;rw [← HPE.out] at hpA;have kA:Bl W4 wA:=k0.trans (hbA.mono k0.size);have HPA:Hid (bW wA pa na pc P):=hpA;clear hlA hpA hbA;go_wp2_with fail
  refine hK.out _ _ (hS4 _ kA) fun aa=>?_
  (try go_frame);refine aS 2 fun K hK=>?_
  go_simp;refine (CM.out pa pc _ HPA.out).mono ?_;rintro e wB ⟨gB,cB,rfl,hoB,hbB⟩;have kB:Bl W4 wB:=kA.trans (hbB.mono kA.size);have HOB:Hid (af wB (pT gB) nF cB (aQ P.flatten)):=hoB.entsAt;clear hoB;go_wp2_with fail
  refine hK.out _ _ (hS4 _ kB) fun aa=>?_
  (try go_frame);refine aS 8 fun K hK=>?_
  go_simp;refine (CB.out _ kB).mono ?_;rintro e wC ⟨rfl,hbC⟩;have kC:Bl W4 wC:=kB.trans (hbC.mono kB.size);go_wp2_with fail
  refine hK.out _ _ (hS4 _ kC) fun aa=>?_
  (try go_frame);refine aS 9 fun K hK=>?_
  go_simp;refine (CQ.out _ _ _ kC (HOB.out.keep hbC)).mono ?_;rintro e wD ⟨gD,nD,cD,rfl,hoD,hbD⟩;have kD:Bl W4 wD:=kC.trans (hbD.mono kC.size);have HOD:Hid (af wD (pT gD) nD cD SQ):=hoD.entsAt;have HGD:Hid (gD<wD.heap.size):=hoD.lt.2;clear hoD;go_wp2_with fail
  refine hK.out _ _ (hS4 _ kD) fun aa=>?_
  (try go_frame);refine aL 10 1 aa ?_;refine dN ?_;go_wp2_with fail
  go_meet
  exact ⟨_,_,_,rfl,HOD.out,HGD.out,kD⟩
 case rest =>
  obtain ⟨gD,nD,cD,rfl,hD,hgD,k5⟩:=hcut;clear k0 CL CM CB CQ hS4;have hnD:=hD.length;have hsq:=HSQL.out;have CUT:=sy gD nD cD SQ wc hD hgD (by omega);rw [show (dU SQ nD).1=bw SQ by unfold bw;rw [hnD]] at CUT;have K5:Hid (Bl w2 wc):=K4.out.trans (k5.mono K4.out.size);clear hD hgD k5 hnD hsq;go_wp2_with fail
  refine CUT.mono ?_;rintro e w6 ⟨g6,m6,c6,rfl,hG6,hb6⟩;have K6:Hid (Bl w2 w6):=K5.out.trans (hb6.mono K5.out.size);have hm6:(bw SQ).length=m6:=hG6.1;have hl6:=lO SQ SQ.length;have hl6':m6≤100000:=by have:=HSQL.out;have h9:(bw SQ).length≤SQ.length:=hl6;omega
  have hOl:=HOF.out.length;have hnO:nO≤100:=by have h1:=HZN.out.1;have h2:(ki T C).length≤C.length:=List.length_filter_le _ _;omega
  have CO:=pQ gO 0 nO cO (ki T C) g6 0 m6 c6 (bw SQ) w6 (HOF.out.keep K6.out) (hG6.runsIn.mono (Nat.zero_le _)) hG6.lt.2 (fun r hr=>(HZN.out.2 r (List.mem_filter.1 hr).1).1) (fun r hr=>rF hr) (by omega) (by omega);have HN7:Hid ((dr (ki T C) (bw SQ)).length≤200000):=by show _≤_;rw [mi];omega
  clear CUT hG6 hb6 hm6 hl6 hl6' hOl hnO;go_wp2_with fail
  refine CO.mono ?_;rintro e w7 ⟨g7,n7,c7,xs7,rfl,hr7,hd7,hb7⟩;have K7:Hid (Bl w2 w7):=K6.out.trans (hb7.mono K6.out.size);obtain ⟨a7,c7',e7,hR7⟩:=fe hr7 (hd7.low hb7).den;cases e7;rw [HSQ.out] at hR7;have HR7:Hid (aj 0 w7 (pT g7) n7 c7 (dw T C C S 2)):=hR7;have hn7:n7≤1048576:=by have h1:=hR7.length;have h2:=HN7.out;rw [HSQ.out] at h2;omega
  have CF:=su _ n7 c7 _ w7 hR7 hn7;have eok:(cV (dr (ki T C) (bw (qN T C C S 2))) && decide (n7≤8))=OK:=by
   rw [HOKE.out,← hR7.length];rfl
  rw [eok] at CF;clear CO hr7 hd7 hb7 hR7 hn7 eok;go_wp2_with fail
  refine CF.mono ?_;rintro e w8 ⟨rfl,hb8⟩;have K8:Hid (Bl w2 w8):=K7.out.trans (hb8.mono K7.out.size);have KW8:Hid (Bl W w8):=KW2.out.trans (K8.out.mono KW2.out.size);have KL8:Hid (Bl w w8):=K2.out.trans (K8.out.mono K2.out.size);have HR8:Hid (aj 0 w8 (pT g7) n7 c7 (dw T C C S 2)):=HR7.out.keep hb8;have b8:=HBX.out w8 KW8.out;have y8:=(HBR.out w8 KW8.out).1;have x0:=b8.c0;have x1:=b8.c1;have x2:=b8.c2;have x3:=b8.c3;have xz:=b8.lt;clear CF hb8 HR7 K7 K6 K5 K4 KW4 KL4 HN7 HSQ HSQL b8;cases OK with
  | false =>
   have r0:=y8.c0;have r1:=y8.c1;have r2:=y8.c2;have r3:=y8.c3;have rf:=y8.fz;have rz:=y8.lt;have HY8:Hid (aF w8 (X+1) (iT 0) nZ nZ nZ):=y8;clear y8;go_wp2;refine bodyPost_ret (v:=.tuple #[.agg #[iT q,sL b1 nm cm,sL bv 3 cv,sL b3 ns cs],.bool false]) ?_ rfl (show jb _ _ _ _ _ _ _ _ _ _ _ from ⟨b1,cm,bv,cv,b3,cs,rfl,.inl rfl,?_,?_⟩)
   · have e:=(((HY8.out.set0 (iT q)).set1 (sL b1 nm cm)).set2 (sL bv 3 cv)).set3 (sL b3 ns cs);simp [results,Tryz.results101,go_sem,e.c0,e.c1,e.c2,e.c3]
   · have hx:w.heap.size≤X+1:=by have:=HX.out;omega
     rw [HV.out];simp only [Bool.false_eq_true,if_false];exact (HTI.out.keep (li KL8.out hx _ _ _ _)).lowR (Nat.zero_le _)
   · have hx:w.heap.size≤X+1:=by have:=HX.out;omega
     exact li KL8.out hx _ _ _ _
  | true =>
   have CC:=lp lo q b1 nm cm (pT bv) 3 cv b3 ns cs M [A,B,C] S w8 (HTI.out.keep KL8.out) hnm hns (by omega) HSZ.out;go_wp2_with fail
   refine CC.mono ?_;rintro e w9 ⟨g1,c1,G,c,g3,c3,rfl,hC9,hb9⟩;clear CC x0 x1 x2 x3 xz;obtain ⟨gA',dA',gB',dB',gC',dC',hrow,rA,rB,rC,_,_⟩:=hC9.split;have hcc:=b6 hrow;have HCC:Hid (3≤c∧c≤maxLen):=hcc;have hGl:=hrow.lt G rfl;have HGl:Hid (w8.heap.size≤G):=hGl.1;have hXl:X+1<w8.heap.size:=y8.lt;have HXl:Hid (X+1<w8.heap.size):=hXl;obtain ⟨sz,kG⟩:=cY hrow;have ME:Hid (fS w8.heap.size w9 g1 nm c1 G c g3 ns c3 gA' A.length dA' M A S):=⟨hC9.mem,rA,hC9.slen,hC9.swf,hC9.sn,sz,kG⟩;have q0:w9.cell? ⟨G,0,none⟩=some (sL gA' A.length dA'):=by simpa [Go.WideShapes.add_plain] using hrow.cells (g:=G) rfl 0 _ rfl
   have q1:w9.cell? ⟨G,1,none⟩=some (sL gB' B.length dB'):=by simpa [Go.WideShapes.add_plain] using hrow.cells (g:=G) rfl 1 _ rfl
   have q2:w9.cell? ⟨G,2,none⟩=some (sL gC' C.length dC'):=by simpa [Go.WideShapes.add_plain] using hrow.cells (g:=G) rfl 2 _ rfl
   have HG3:Hid (w.heap.size≤g3):=Nat.le_trans KL8.out.size (hC9.sn.lt g3 rfl).1;have KL9:Hid (Bl w w9):=KL8.out.trans (hb9.mono KL8.out.size);have K9:Hid (Bl w8 w9):=hb9;obtain ⟨Y,hY⟩:=ay w9.heap.size;obtain ⟨wY,hwY⟩:=ay (w9.alloc (.cells #[iT q,sL g1 nm c1,sL G 3 c,sL g3 ns c3] 31));have kY:Bl w9 wY:=by rw [hwY];exact bZ
   have bY:aF wY Y (iT q) (sL g1 nm c1) (sL G 3 c) (sL g3 ns c3):=by rw [hwY,hY];exact aF.new _ _ _ _ _ _
   have HMY:Hid (fS w8.heap.size wY g1 nm c1 G c g3 ns c3 gA' A.length dA' M A S):=ME.out.below kY;have HQ:Hid (wY.cell? ⟨G,0,none⟩=some (sL gA' A.length dA')∧wY.cell? ⟨G,1,none⟩=some (sL gB' B.length dB')∧wY.cell? ⟨G,2,none⟩=some (sL gC' C.length dC')):=⟨cell_later kY q0,cell_later kY q1,cell_later kY q2⟩;have KLY:Hid (Bl w wY):=KL9.out.trans (kY.mono KL9.out.size);have KY:Hid (Bl w8 wY):=K9.out.trans (kY.mono K9.out.size);have hGY:G≠Y:=by rw [hY];have:=hGl.2;omega
   have HGK:Hid (aw wY G 64 sz):=kG.below kY;have hXG:X+1≠G:=by have:=hGl.1;omega
   have HXG:Hid (X+1≠G):=hXG;have y9:=(y8.keep hb9).keep kY;have hXY:X+1≠Y:=by have:=(y8.keep hb9).lt;rw [hY];omega
   clear hC9 rA rB rC hrow hcc hb9 q0 q1 q2 kG hGl hXl K9 KL9 ME y8;go_upto_region 10 with fail
   rw [← hY,← hwY];clear hY hwY kY;obtain ⟨w10,hw10⟩:=ay (wY.setCell ⟨G,1,none⟩ (.slice ar nr cr));obtain ⟨w11,hw11⟩:=ay (w10.setCell ⟨G,2,none⟩ (sL g7 n7 c7));have bY10:aF w10 Y (iT q) (sL g1 nm c1) (sL G 3 c) (sL g3 ns c3):=by rw [hw10];exact bY.other hGY _
   have bY11:aF w11 Y (iT q) (sL g1 nm c1) (sL G 3 c) (sL g3 ns c3):=by rw [hw11];exact bY10.other hGY _
   have y10:aF w10 (X+1) (iT 0) nZ nZ nZ:=by rw [hw10];exact y9.other hXG.symm _
   have y11:aF w11 (X+1) (iT 0) nZ nZ nZ:=by rw [hw11];exact y10.other hXG.symm _
   have G10:aw w10 G 64 sz:=by rw [hw10];exact HGK.out.setCell _
   have hG0:=HGK.out.lt;have hG10:=G10.lt;have HM11:Hid (fS w8.heap.size w11 g1 nm c1 G c g3 ns c3 gA' A.length dA' M A S):=by rw [hw11,hw10];exact (HMY.out.setG _ _).setG _ _
   have K11:Hid (Bl w8 w11):=by rw [hw11,hw10];exact (KY.out.setCell (p:=⟨G,1,none⟩) HGl.out _).setCell (p:=⟨G,2,none⟩) HGl.out _
   have KL11:Hid (Bl w w11):=KL8.out.trans (K11.out.mono KL8.out.size);have HQ11:Hid (w11.cell? ⟨G,1,none⟩=some (.slice ar nr cr)∧w11.cell? ⟨G,2,none⟩=some (sL g7 n7 c7)∧w11.cell? ⟨G,0,none⟩=some (sL gA' A.length dA')):=by
    obtain ⟨t0,t1,t2⟩:=HQ.out;rw [hw11,hw10];refine ⟨?_,?_,?_⟩
    · rw [World.cell?_setCell_other _ _ _ _ (fun e=>by simp at e)];exact World.cell?_setCell_same _ _ _ t1
    · exact World.cell?_setCell_same _ _ _ (by rw [World.cell?_setCell_other _ _ _ _ (fun e=>by simp at e)];exact t2)
    · rw [World.cell?_setCell_other _ _ _ _ (fun e=>by simp at e),World.cell?_setCell_other _ _ _ _ (fun e=>by simp at e)];exact t0
   have HQN:Hid (w10.cell? ⟨G,2,none⟩=some (sL gC' C.length dC')):=by
    rw [hw10,World.cell?_setCell_other _ _ _ _ (fun e=>by simp at e)];exact HQ.out.2.2
   have HY11:Hid (aF w11 (X+1) (iT 0) nZ nZ nZ):=y11;have HT11:Hid (m8 w11 (X+1)):=by
    have hb8:aw w8 (X+1) 31 4:=HBL.out w8 KW8.out;have hbY:aw w11 (X+1) 31 4:=hb8.same (K11.out.block _ HXl.out);exact iz hbY y11
   have u2:=bY.c2;have uz:=bY.lt;have q0:=HQ.out.2.1;have gf:=HGK.out.frozen;clear bY y9 y10 HQ HMY HGK;go_upto_region 11 with fail
   rw [← hw10];clear hw10 u2 uz q0 gf;have u2:=bY10.c2;have uz:=bY10.lt;have gf:=G10.frozen;have q0:=HQN.out;clear bY10;go_upto_region 12 with fail
   rw [← hw11];clear hw11 u2 uz q0 gf G10 hG10;have u0:=bY11.c0;have u1:=bY11.c1;have u2:=bY11.c2;have u3:=bY11.c3;have uz:=bY11.lt;have r0:=y11.c0;have r1:=y11.c1;have r2:=y11.c2;have r3:=y11.c3;have rf:=y11.fz;have rz:=y11.lt;clear bY11 y11;go_wp2;refine bodyPost_ret (v:=.tuple #[.agg #[iT q,sL g1 nm c1,sL G 3 c,sL g3 ns c3],.bool true]) ?_ rfl (show jb _ _ _ _ _ _ _ _ _ _ _ from ⟨g1,c1,G,c,g3,c3,rfl,.inr HG3.out,?_,?_⟩)
   · have e:=(((HY11.out.set0 (iT q)).set1 (sL g1 nm c1)).set2 (sL G 3 c)).set3 (sL g3 ns c3);simp [results,Tryz.results101,go_sem,e.c0,e.c1,e.c2,e.c3]
   · rw [HV.out];simp only [if_true];have hxb:=HXl.out;have hM:=(((HM11.out.setX hxb 0 (iT q)).setX hxb 1 (sL g1 nm c1)).setX hxb 2 (sL G 3 c)).setX hxb 3 (sL g3 ns c3);refine hM.treeIn ?_;obtain ⟨t0,t1,t2⟩:=HQ11.out;have hc4:=fx w11 (X+1) (iT q) (sL g1 nm c1) (sL G 3 c) (sL g3 ns c3);have hs4:=jZ w11 (X+1) (iT q) (sL g1 nm c1) (sL G 3 c) (sL g3 ns c3);have hR:=(HRR.out.keep KL11.out).apartX HT11.out (Nat.le_of_eq hs4.symm) hc4;have hU:=(HR8.out.keep K11.out).apartX HT11.out (Nat.le_of_eq hs4.symm) hc4;have hD:=hM.lev.runsIn.mono (Nat.zero_le _);have gx:=HXG.out.symm;exact js HCC.out.1 HCC.out.2 (by rw [hc4 _ gx];exact t2) (by rw [hc4 _ gx];exact t0) (by rw [hc4 _ gx];exact t1) hD hR hU
   · have hx:w.heap.size≤X+1:=by have:=HX.out;omega
     exact li KL11.out hx _ _ _ _
end Go.Proofs.YtlmgojlffgkciaaGreat
