/- Walks. -/
import Derived.Test.YtpobkmjicbobdaaGreatBc20
namespace Go.Proofs.YtpobkmjicbobdaaGreat
set_option maxRecDepth 100000
set_option maxHeartbeats 40000000
open Go.RowKit
theorem Du (lo lw:Nat) (q:Int) (aM:Option Addr) (m cm O cv:Nat) (aK:Option Addr) (f cs:Nat) (M:List ae) (A B C:List aj) (S:List Int) (bt ot nt ct:Nat) (T:List aj) (gr:Nat) (w:World) (hT:cj lo w aM m cm (pT O) 3 cv aK f cs M [A,B,C] S) (dA:m≤1048576) (e5:f≤1048576) (aV:∀Z ∈ [A,B,C],Z.length≤100∧∀r ∈ Z,1≤r.1.length∧r.1.length≤10000) (bK:az 0 w (some ⟨bt,ot,none⟩) nt ct T) (fy:nt≤100) (cx:w.heap[gr]?=some (.cells #[] 63 (0,0))) (dg:lw≤gr) (aO:gJ T B) (b9:(bG (dQ T B)).flatten.length≤100000) :
 Calls Tryz.prog 119 #[.agg #[iT q,.slice aM m cm,sL O 3 cv,.slice aK f cs],iT 0,sO bt ot nt ct,sL gr 0 0] w (lj lw q (.agg #[iT q,.slice aM m cm,sL O 3 cv,.slice aK f cs]) M [] (dX T B C S 1) C S (wT T B C S 1) w):=by
 obtain ⟨j0,hj,cH,da,ca⟩:=info_parts Tryz.infoRun;obtain ⟨X,hX⟩:=aG w.heap.size;obtain ⟨W,hW⟩:=aG ((w.alloc (.cells #[iT q,.slice aM m cm,sL O 3 cv,.slice aK f cs] 31)).alloc (.cells #[iT 0,nZ,nZ,nZ] 31));have kW:Bl w W:=by rw [hW];exact bZ.alloc (by simp) _
 have bx:aE W X (iT q) (.slice aM m cm) (sL O 3 cv) (.slice aK f cs):=by rw [hW,hX];exact (aE.new _ _ _ _ _ _).alloc _
 have br:aE W (X+1) (iT 0) nZ nZ nZ∧ay W (X+1) 31 4:=by
  have:=aE.new (w.alloc (.cells #[iT q,.slice aM m cm,sL O 3 cv,.slice aK f cs] 31)) 31 (iT 0) nZ nZ nZ;rw [FP] at this;rw [hW,hX];have h2:=cP (w.alloc (.cells #[iT q,.slice aM m cm,sL O 3 cv,.slice aK f cs] 31)) #[iT 0,nZ,nZ,nZ] 31;rw [FP] at h2;exact ⟨this,h2⟩
 have HX:Eq (X=w.heap.size):=hX;have K0:Eq (Bl w W):=kW;have cJ:Eq (∀w',Bl W w'→aE w' (X+1) (iT 0) nZ nZ nZ∧AN w' (X+1)):=fun w' k=>⟨br.1.keep k,gq (br.2.below k) (br.1.keep k)⟩
 have cn:Eq (∀w',Bl W w'→aE w' X (iT q) (.slice aM m cm) (sL O 3 cv) (.slice aK f cs)):=fun w' k=>bx.keep k
 have fA:Eq (∀w',Bl W w'→ay w' (X+1) 31 4):=fun w' k=>br.2.below k
 have cf:=j' (l:=T) (i:=0) (by have:=aO.t0;omega);obtain ⟨r0,aF⟩:∃r0,T[0]?=some r0:=⟨_,cf⟩;obtain ⟨low,E⟩:=aG (iP T);obtain ⟨ai,a8⟩:=aG (fC T);have b4:low=fG (bn r0.1) T:=by rw [E];unfold iP;rw [aF]
 have b5:ai=dw (aU r0.1) T:=by rw [a8];unfold fC;rw [aF]
 obtain ⟨nx,bB,bp,hN⟩:∃aN nN cN,w.cell? ⟨O,1,none⟩=some (.slice aN nN cN)∧az 0 w aN nN cN B:=by
  obtain ⟨s,n,c,h1,h2⟩:=hT.levels.levels _ rfl 1 (by simp);exact ⟨s,n,c,by simpa using h1,h2.mono (FB _)⟩
 obtain ⟨db,hN⟩:=hN;obtain ⟨a2,n2,c2,dd,hC⟩:∃aN nN cN,w.cell? ⟨O,2,none⟩=some (.slice aN nN cN)∧az 0 w aN nN cN C:=by
  obtain ⟨s,n,c,h1,h2⟩:=hT.levels.levels _ rfl 2 (by simp);exact ⟨s,n,c,by simpa using h1,h2.mono (FB _)⟩
 have bq:=aV B (by simp);have ch:=aV C (by simp);have ex:=hN.length;have eb:=hC.length;have dh:Eq (w.cell? ⟨O,1,none⟩=some (.slice nx bB bp)):=db;have CR:Eq (∀w',Bl w w'→Calls Tryz.prog 176 #[sO bt ot nt ct] w' fun e y=>e=.returned (.tuple #[.string low,.string ai])∧Bl w' y):=fun w' k=>by
  rw [b4,b5];exact mL bt ot nt ct T r0 w' (bK.keep k) aF (fun r hr=>(aO.tok r hr).2) (by omega)
 have CP:Eq (∀w',Bl w w'→Calls Tryz.prog 177 #[.slice nx bB bp,.string low,.string ai] w' fun e y=>∃J n1 c1 g2 n2 c2,e=.returned (.tuple #[sL J n1 c1,sL g2 n2 c2])∧az 0 y (pT J) n1 c1 (Dz T B)∧az 0 y (pT g2) n2 c2 (offR T B)∧Bl w' y):=fun w' k=>by
  unfold Dz offR;rw [← E,← a8];exact pq nx bB bp B low ai w' (hN.keep k) (fun r hr=>(bq.2 r hr).1) (by omega)
 have de:=bT hT;have ec:=bT bK;have a5:Eq (w.heap[gr]?=some (.cells #[] 63 (0,0))∧lw≤gr):=⟨cx,dg⟩;have cQ:Eq (w.cell? ⟨O,2,none⟩=some (.slice a2 n2 c2)∧az 0 w a2 n2 c2 C):=⟨dd,hC⟩;have d2:=bT aO;have e4:Eq (T[0]?=some r0):=aF;have ce:=bT b9;have bC:Eq (B.length≤100∧∀r ∈ B,1≤r.1.length∧r.1.length≤10000):=bq;have di:Eq (n2≤1000∧∀r ∈ C,1≤r.1.length):=⟨by omega,fun r hr=>(ch.2 r hr).1⟩;have dZ:=bT aV;obtain ⟨OK,bc⟩:=aG (wT T B C S 1);have df:Eq (OK=wT T B C S 1):=bc;rw [← bc];have l0:=cell_later kW dh.o;have lz:=Fu _ _ l0;simp only at lz;clear kW cf E a8 b4 b5 hT bK cx dg dd hC aO aF b9 bq ch aV db hN br ex eb bc l0 lz;go_enter Tryz.func119,Tryz.ntmps119
 go_wp2_with fail
 rw [← hX,← hW];clear hX hW;refine (CR.o _ K0.o).mono ?_;rintro e w1 ⟨rfl,av⟩;have cp:Eq (Bl W w1):=av;have K1:Eq (Bl w w1):=K0.o.trans (av.mono K0.o.size);have x2:=(bx.keep av).c2;have xz:=(bx.keep av).lt;have l0:=cell_later K1.o dh.o;have lz:=Fu _ _ l0;simp only at lz;clear av bx;go_wp2_with fail
 clear x2 xz l0 lz;refine (CP.o _ K1.o).mono ?_;rintro e t ⟨gI,nI,cI,gO,nO,cO,rfl,hI,hO,bP⟩;have aX:Eq (Bl W t):=cp.o.trans (bP.mono cp.o.size);have K2:Eq (Bl w t):=K1.o.trans (bP.mono K1.o.size);have ci:Eq (az 0 t (pT gO) nO cO (offR T B)):=hO;have dC:=hI.length;have dP:nI≤100:=by have h1:=bC.o.1;have h2:=(lG T B).length_le;omega
 obtain ⟨ax,dT,rT⟩:=(ec.o.keep K2.o).raw;obtain ⟨bm,dI,rI⟩:=hI.raw;have cG:Eq (eC (·<t.heap.size) t (ax++bm) (dQ T B)):=dT.denP.app dI.denP;have bf:Eq (oO t (sO bt ot nt ct) nt ax):=rT;have aW:Eq (oO t (sL gI nI cI) nI bm):=rI;have ka:Bl t (t.alloc (.cells #[] 63)):=bZ;have KA:Eq (Bl t (t.alloc (.cells #[] 63))):=ka;have R1:Eq ((t.alloc (.cells #[] 63)).ownsRow t.heap.size 63 2 (sL (t.heap.size) 0 0) 0 []):=by
  have:=F6 (base:=t.heap.size) (e:=63) (size:=2) t #[] 0 (Fv _) (by simp) (by simp);show World.ownsRow _ _ _ _ _ _ _
  simpa using this
 have cl:Eq (∀j u,ax[j]?=some u→(t.alloc (.cells #[] 63)).cell? ((⟨bt,ot,none⟩:Addr).add j)=some u):=fun j u hu=>by
  rcases (rT.keep ka).2.2 with ⟨h,_⟩ | ⟨b,o,c,h,hc⟩
  · cases h
  · cases h;rw [FO];exact hc j u hu
 clear hI hO bP dT dI rT rI ka CR CP dC;go_wp2_with (first
  | (at_builtin;refine wpList_append_own _ rfl _ _ 61 rfl t.heap.size 63 j0 _ 2 32 Tryz.underlying61 hj cH da ca rfl (by decide) _ _ _ rfl bI.o ⟨gI,0,none⟩ nI cI bm rfl aW.o.1 c8.o aW.o.2.1 (by unfold maxLen;omega) (by omega) (by have:=K3.o.size;omega) ?_;intro v4 W4 aa af ar;obtain ⟨gA,cA,rfl⟩:=aH aa ar)
  | (at_builtin;refine wpList_append_own _ rfl _ _ 61 rfl t.heap.size 63 j0 _ 2 32 Tryz.underlying61 hj cH da ca rfl (by decide) _ _ _ rfl R1.o ⟨bt,ot,none⟩ nt ct ax rfl bf.o.1 cl.o bf.o.2.1 (by unfold maxLen;omega) (by omega) (by simp) ?_;intro v3 w3 a6 ak aJ;obtain ⟨dD,dH,rfl⟩:=aH a6 aJ;have bI:Eq (w3.ownsRow t.heap.size 63 2 (sL dD nt dH) nt ax):=(by show World.ownsRow _ _ _ _ _ _ _;simpa using a6);have K3:Eq (Bl t w3):=KA.o.grown ak KA.o.size (fun k e=>(R1.o.lt k e).1);have c8:=mh (aW.o.keep K3.o);clear a6 ak aJ))
 have k4:Bl t W4:=K3.o.grown af K3.o.size (fun k e=>(bI.o.lt k e).1);have K4:Eq (Bl t W4):=k4;have bd:Eq (Bl W W4):=aX.o.trans (k4.mono aX.o.size);have aI:Eq (Bl w W4):=K2.o.trans (k4.mono K2.o.size);obtain ⟨na,c5⟩:=aG (nt+nI);have b6:na≤1000:=by omega
 obtain ⟨aA,fr,eA,aT⟩:=jr aa (cG.o.low k4).den;cases eA;rw [← c5] at aT ⊢;obtain ⟨P,hP⟩:=aG (bG (dQ T B));obtain ⟨nF,bz⟩:=aG P.flatten.length;obtain ⟨BR,bN⟩:=aG (ln T B C 1);obtain ⟨SQ,b1⟩:=aG (um T B C S 1);have e0:nF≤100000:=by rw [bz,hP];exact ce.o
 have a3:(dQ T B)[0]?=some r0:=by unfold dQ;rw [FE (by have:=d2.o.t0;omega)];exact e4.o
 have CL:Eq (∀w',Bl W4 w'→Calls Tryz.prog 178 #[sL gA na cA] w' (qO na (dQ T B) w')):=fun w' k=>rD _ na cA (dQ T B) w' (aT.keep k) (by omega)
 have CM:Eq (∀pa pc w',cy w' pa na pc P→Calls Tryz.prog 109 #[.slice pa na pc] w' fun e y=>∃g cg,e=.returned (sL g nF cg)∧ag y w'.heap.size g nF cg (bD P.flatten)∧Bl w' y):=fun pa pc w' h=>by
  rw [bz];exact mM pa na pc P w' h (by omega)
 have CB:Eq (∀w',Bl W4 w'→Calls Tryz.prog 179 #[.agg #[iT q,.slice aM m cm,sL O 3 cv,.slice aK f cs],iT 1,sL gA na cA] w' fun e y=>e=.returned (.bool BR)∧Bl w' y):=fun w' k=>by
  have kk:=aI.o.trans (k.mono aI.o.size);have:=ux q aM m cm O 0 cv aK f cs a2 n2 c2 C 1 gA 0 na cA (dQ T B) r0 w' (by simpa using cell_later kk cQ.o.1) (cQ.o.2.keep kk) di.o.1 di.o.2 (aT.keep k) a3 (fun r hr=>(d2.o.all r hr).2) b6;have e:BR=(decide ((1:Int)=2) || decide ((C.filter (eD (fG (bn r0.1) (dQ T B)) (dw (aU r0.1) (dQ T B)))).length=0)):=by
   rw [bN];unfold ln iP fC;simp only [a3]
  rw [e];exact this
 have CQ:Eq (∀al cg w',Bl W4 w'→ah w' al nF cg (bD P.flatten)→Calls Tryz.prog 174 #[.slice al nF cg,.slice aK f cs,.bool BR] w' fun e y=>∃g n' c',e=.returned (sL g n' c')∧ag y w'.heap.size g n' c' SQ∧Bl w' y):=fun al cg w' k h=>by
  have e:SQ=bU (bD P.flatten) S BR:=by rw [b1,hP,bN];rfl
  rw [e];exact lq lo al nF cg (bD P.flatten) _ f cs S BR w' h (de.o.snaps.keep (aI.o.trans (k.mono aI.o.size))) (by omega)
 have bs:Eq (SQ=um T B C S 1):=b1;have eg:Eq (P=bG (dQ T B)):=hP;have aD:Eq (SQ.length≤100000):=by
  rw [b1];have h1:=jH (bD (bG (dQ T B)).flatten) S (ln T B C 1);have h2:=kf (bG (dQ T B)).flatten;have h3:=ce.o;show (um T B C S 1).length≤_
  unfold um;omega
 have ap:∀w',Bl W4 w'→(w'.cell? ⟨X,0,none⟩=some (iT q)∧w'.cell? ⟨X,1,none⟩=some (.slice aM m cm)∧w'.cell? ⟨X,2,none⟩=some (sL O 3 cv)∧w'.cell? ⟨X,3,none⟩=some (.slice aK f cs)∧X<w'.heap.size):=fun w' k=>by
  have b:=cn.o w' (bd.o.trans (k.mono bd.o.size));exact ⟨b.c0,b.c1,b.c2,b.c3,b.lt⟩
 have k0:Bl W4 W4.drew:=(Below.refl _ W4).drew;clear aa af ar k4 c5 aT hP bz bN b1 e0 a3 b6 cG bf aW c8 cl bI R1 KA K3 dP;go_upto_region 5 with fail
 go_cut [16] (fun s wx=>∃gD nD cD,s=sL gD nD cD∧ah wx (pT gD) nD cD SQ∧gD<wx.heap.size∧Bl W4 wx)
 case first =>
  refine Co ap k0 fun ac=>?_
  generalize W4.drew=wd at k0 ac ⊢;refine aP 0 1 ac ?_;refine aP 3 5 ac ?_;refine aQ 1 fun K hK=>?_
  go_simp;refine (CL.o _ k0).mono ?_;rintro e wA cw;obtain ⟨pa,pc,rfl,bL,cZ⟩:=om cw;rw [← eg.o] at bL;have kA:Bl W4 wA:=k0.trans (cZ.mono k0.size);have dW:Eq (cy wA pa na pc P):=bL;clear cw bL cZ;go_wp2_with fail
  refine hK.o _ _ (ap _ kA) fun ac=>?_
  (try go_frame);refine aQ 2 fun K hK=>?_
  go_simp;refine (CM.o pa pc _ dW.o).mono ?_;rintro e wB ⟨gB,cB,rfl,ck,dR⟩;have kB:Bl W4 wB:=kA.trans (dR.mono kA.size);have e2:Eq (ah wB (pT gB) nF cB (bD P.flatten)):=ck.entsAt;clear ck;go_wp2_with fail
  refine hK.o _ _ (ap _ kB) fun ac=>?_
  (try go_frame);refine aQ 8 fun K hK=>?_
  go_simp;refine (CB.o _ kB).mono ?_;rintro e wC ⟨rfl,cX⟩;have kC:Bl W4 wC:=kB.trans (cX.mono kB.size);go_wp2_with fail
  refine hK.o _ _ (ap _ kC) fun ac=>?_
  (try go_frame);refine aQ 9 fun K hK=>?_
  go_simp;refine (CQ.o _ _ _ kC (e2.o.keep cX)).mono ?_;rintro e wD ⟨gD,nD,cD,rfl,bi,dK⟩;have kD:Bl W4 wD:=kC.trans (dK.mono kC.size);have eh:Eq (ah wD (pT gD) nD cD SQ):=bi.entsAt;have e6:Eq (gD<wD.heap.size):=bi.lt.2;clear bi;go_wp2_with fail
  refine hK.o _ _ (ap _ kD) fun ac=>?_
  (try go_frame);refine aP 10 1 ac ?_;refine dN ?_;go_wp2_with fail
  go_meet
  exact ⟨_,_,_,rfl,eh.o,e6.o,kD⟩
 case rest =>
  obtain ⟨gD,nD,cD,rfl,hD,cM,k5⟩:=hcut;clear k0 CL CM CB CQ ap;have d6:=hD.length;have dV:=aD.o;have bF:=uv gD nD cD SQ wc hD cM (by omega);rw [show (fl SQ nD).1=dM SQ by unfold dM;rw [d6]] at bF;have K5:Eq (Bl t wc):=K4.o.trans (k5.mono K4.o.size);clear hD cM k5 d6 dV;go_wp2_with fail
  refine bF.mono ?_;rintro e w6 ⟨g6,m6,c6,rfl,b2,d0⟩;have K6:Eq (Bl t w6):=K5.o.trans (d0.mono K5.o.size);have ee:(dM SQ).length=m6:=b2.1;have cL:=tR SQ SQ.length;have c9:m6≤100000:=by have:=aD.o;have h9:(dM SQ).length≤SQ.length:=cL;omega
  have ez:=ci.o.length;have dB:nO≤100:=by have h1:=bC.o.1;have h2:(offR T B).length≤B.length:=Hw _ _;omega
  have CO:=ry gO 0 nO cO (offR T B) g6 0 m6 c6 (dM SQ) w6 (ci.o.keep K6.o) (b2.runsIn.mono (FB _)) b2.lt.2 (fun r hr=>(bC.o.2 r (Hj.1 hr).1).1) (fun r hr=>nH hr) (by omega) (by omega);have d8:Eq ((dJ (offR T B) (dM SQ)).length≤200000):=by show _≤_;rw [mV];omega
  clear bF b2 d0 ee cL c9 ez dB;go_wp2_with fail
  refine CO.mono ?_;rintro e w7 ⟨g7,n7,c7,fv,rfl,cb,co,bJ⟩;have K7:Eq (Bl t w7):=K6.o.trans (bJ.mono K6.o.size);obtain ⟨a7,fu,e7,ao⟩:=jr cb (co.low bJ).den;cases e7;rw [bs.o] at ao;have cq:Eq (az 0 w7 (pT g7) n7 c7 (dX T B C S 1)):=ao;have d7:n7≤1048576:=by have h1:=ao.length;have h2:=d8.o;rw [bs.o] at h2;omega
  have CF:=uu _ n7 c7 _ w7 ao d7;have cV:(ik (dJ (offR T B) (dM (um T B C S 1))) && decide (n7≤8))=OK:=by
   rw [df.o,← ao.length];rfl
  rw [cV] at CF;clear CO cb co bJ ao d7 cV;go_wp2_with fail
  refine CF.mono ?_;rintro e D ⟨rfl,bO⟩;have K8:Eq (Bl t D):=K7.o.trans (bO.mono K7.o.size);have bE:Eq (Bl W D):=aX.o.trans (K8.o.mono aX.o.size);have R:Eq (Bl w D):=K2.o.trans (K8.o.mono K2.o.size);have el:Eq (az 0 D (pT g7) n7 c7 (dX T B C S 1)):=cq.o.keep bO;have b8:=cn.o D bE.o;have y8:=(cJ.o D bE.o).1;have x0:=b8.all;clear CF bO cq K7 K6 K5 K4 bd aI d8 bs aD b8;cases OK with
  | false =>
   have r0:=y8.all;have ep:Eq (aE D (X+1) (iT 0) nZ nZ nZ):=y8;clear y8;go_wp2;refine bodyPost_ret (v:=.tuple #[.agg #[iT q,.slice aM m cm,sL O 3 cv,.slice aK f cs],.bool false]) ?_ rfl (show lj _ _ _ _ _ _ _ _ _ _ _ _ from ⟨aM,m,cm,some ⟨O,0,none⟩,3,cv,aK,f,cs,rfl,?_,fun _=>rfl,fun h=>by cases h⟩)
   · have e:=(((ep.o.set0 (iT q)).set1 (.slice aM m cm)).set2 (sL O 3 cv)).set3 (.slice aK f cs);simp [results,Tryz.results119,go_sem,e.all]
   · have hx:w.heap.size≤X+1:=by have:=HX.o;omega
     exact tk R.o hx _ _ _ _
  | true =>
   have CC:=iK lo q aM (pT O) aK m cm 3 cv f cs M [A,B,C] S D (de.o.keep R.o) dA e5 (by omega) dZ.o;go_wp2_with fail
   refine CC.mono ?_;rintro e w9 ⟨J,c1,G,c,U,c3,rfl,an,aw⟩;clear CC x0;obtain ⟨bj,bM,aY,b0,N,I,hrow,rA,rB,rC,_,_⟩:=an.split;have am:=hrow.lt G rfl;have be:Eq (D.heap.size≤G):=am.1;have cW:X+1<D.heap.size:=y8.lt;have eo:Eq (X+1<D.heap.size):=cW;have ME:Eq (vL D.heap.size w9 J m c1 G c U f c3 N C.length I [sL bj A.length bM,sL aY B.length b0,sL N C.length I] M C S):=⟨an.mem,rC,an.slen,an.swf,an.sn,hrow⟩;have ek:Eq (Bl w w9):=R.o.trans (aw.mono R.o.size);have K9:Eq (Bl D w9):=aw;obtain ⟨Y,hY⟩:=aG w9.heap.size;obtain ⟨wY,aZ⟩:=aG (w9.alloc (.cells #[iT q,sL J m c1,sL G 3 c,sL U f c3] 31));have kY:Bl w9 wY:=by rw [aZ];exact bZ
   have bY:aE wY Y (iT q) (sL J m c1) (sL G 3 c) (sL U f c3):=by rw [aZ,hY];exact aE.new _ _ _ _ _ _
   have au:Eq (vL D.heap.size wY J m c1 G c U f c3 N C.length I [sL bj A.length bM,sL aY B.length b0,sL N C.length I] M C S):=ME.o.below kY;have KY:Eq (Bl D wY):=K9.o.trans (kY.mono K9.o.size);have dc:G≠Y:=by rw [hY];have:=am.2;omega
   have e1:X+1≠G:=by have:=am.1;omega
   have cz:Eq (X+1≠G):=e1;have y9:=(y8.keep aw).keep kY;have fm:X+1≠Y:=by have:=(y8.keep aw).lt;rw [hY];omega
   clear an rA rB rC hrow aw am cW K9 ek ME y8;go_upto_region 10 with fail
   rw [← hY,← aZ];clear hY aZ kY;obtain ⟨aC,F⟩:=aG (wY.setCell ⟨G,0,none⟩ (sL gr 0 0));obtain ⟨L,H⟩:=aG (aC.setCell ⟨G,1,none⟩ (sL g7 n7 c7));have ad:aE aC Y (iT q) (sL J m c1) (sL G 3 c) (sL U f c3):=by rw [F];exact bY.other dc _
   have b3:aE L Y (iT q) (sL J m c1) (sL G 3 c) (sL U f c3):=by rw [H];exact ad.other dc _
   have bA:aE L (X+1) (iT 0) nZ nZ nZ:=by rw [H,F];exact (y9.other cz.o.symm _).other cz.o.symm _
   have Q:Eq (vL D.heap.size aC J m c1 G c U f c3 N C.length I [sL gr 0 0,sL aY B.length b0,sL N C.length I] M C S):=by rw [F];exact au.o.setG _ _
   have dj:Eq (vL D.heap.size L J m c1 G c U f c3 N C.length I [sL gr 0 0,sL g7 n7 c7,sL N C.length I] M C S):=by rw [H];exact Q.o.setG _ _
   have bu:Eq (Bl D L):=by rw [H,F];exact (KY.o.setCell (p:=⟨G,0,none⟩) be.o _).setCell (p:=⟨G,1,none⟩) be.o _
   have cY:Eq (Bl w L):=R.o.trans (bu.o.mono R.o.size);have fs:=(au.o.row.lt G rfl).2;have d3:=(Q.o.row.lt G rfl).2;have dY:Eq (aC.cell? ⟨G,1,none⟩=some (sL aY B.length b0)):=Q.o.row.cellAt 1 (by omega);have d1:Eq (aE L (X+1) (iT 0) nZ nZ nZ):=bA;have u2:=bY.c2;have uz:=bY.lt;have q0:wY.cell? ⟨G,0,none⟩=some (sL bj A.length bM):=au.o.row.cellAt 0 (by omega);have gf:=fun o=>au.o.row.frozenAt o
   have cC:Eq (∀o,aC.frozen? ⟨G,o,none⟩=false):=fun o=>Q.o.row.frozenAt o
   clear bY y9 au Q;go_upto_region 11 with fail
   rw [← F];clear F u2 uz q0 gf;have u2:=ad.c2;have uz:=ad.lt;have gf:=cC.o;have q0:=dY.o;clear ad cC;go_upto_region 12 with fail
   rw [← H];clear H u2 uz q0 gf d3;have u0:=b3.all;have r0:=bA.all;clear b3 bA;go_wp2;refine bodyPost_ret (v:=.tuple #[.agg #[iT q,sL J m c1,sL G 3 c,sL U f c3],.bool true]) ?_ rfl ?_
   · have e:=(((d1.o.set0 (iT q)).set1 (sL J m c1)).set2 (sL G 3 c)).set3 (sL U f c3);simp [results,Tryz.results119,go_sem,e.all]
   · have hx:w.heap.size≤X+1:=by have:=HX.o;omega
     have aB:=tk cY.o hx (iT q) (sL J m c1) (sL G 3 c) (sL U f c3);have aR:=eo.o;have hM:=(((dj.o.setX aR 0 (iT q)).setX aR 1 (sL J m c1)).setX aR 2 (sL G 3 c)).setX aR 3 (sL U f c3);have hh:=sH L (X+1) (iT q) (sL J m c1) (sL G 3 c) (sL U f c3);have dE:=sF L (X+1) (iT q) (sL J m c1) (sL G 3 c) (sL U f c3);have fw:=bu.o.size;have ev:AN D (X+1):=(cJ.o D bE.o).2;have am:=be.o;have fo:gr<D.heap.size:=u' (Gm.1 a5.o.1).1 R.o.size;obtain ⟨_,kG⟩:=aS hM.row;obtain ⟨ey,k3⟩:=aS hM.sn;generalize ((((L.setCell ⟨X+1,0,none⟩ (iT q)).setCell ⟨X+1,1,none⟩ (sL J m c1)).setCell ⟨X+1,2,none⟩ (sL G 3 c)).setCell ⟨X+1,3,none⟩ (sL U f c3))=wf at aB hM hh dE kG k3 ⊢;have E:lw≤D.heap.size:=by have:=a5.o.2;omega
     have d4:∀{a n d g} {Z:List aj},az 0 D a n d Z→(D.heap.size≤g∨∀o,D.cell? ⟨g,o,none⟩=none)→dx (fun b=>b≠g∧b≠G) wf a n d Z:=fun {a n d g Z} h h2=>rO h ev (by omega) (fun b hb hn=>(hh b hn).trans (bu.o.block b hb)) h2 am
     exact ⟨some ⟨J,0,none⟩,m,c1,some ⟨G,0,none⟩,3,c,some ⟨U,0,none⟩,f,c3,rfl,aB,(fun h=>by cases h),fun _=>⟨G,gr,0,g7,n7,c7,N,C.length,I,rfl,rfl,(cT.some hM.mem).mono E,eV hM.row E,pv ((aB.block gr (Gm.1 a5.o.1).1).trans a5.o.1) a5.o.2,d4 el.o (.inr (fun o=>by have h1:=(R.o.block gr (Gm.1 a5.o.1).1).trans a5.o.1;simp [World.cell?,h1])),hM.lev.toP ⟨by have:=hM.lev.lt.1;omega,fun e=>by obtain ⟨_,_,fj,h3,_⟩:=hM.lev;obtain ⟨_,kZ⟩:=aS h3;rw [e] at kZ;exact absurd (kZ.kind kG) (by decide)⟩ (fun b sz hb kb=>⟨by omega,fun e=>by rw [e] at kb;exact absurd (kb.kind kG) (by decide)⟩),(jm hM.sn hM.slen hM.swf).lower E,fun x e _=>by cases e;exact ⟨ey,k3⟩⟩⟩
theorem Dt (lo lw:Nat) (q:Int) (aM:Option Addr) (m cm O cv:Nat) (aK:Option Addr) (f cs:Nat) (M:List ae) (A B C:List aj) (S:List Int) (bt ot nt ct:Nat) (T:List aj) (gr nr cr:Nat) (R:List aj) (w:World) (hT:cj lo w aM m cm (pT O) 3 cv aK f cs M [A,B,C] S) (dE:m≤1048576) (ea:f≤1048576) (aV:∀Z ∈ [A,B,C],Z.length≤100∧∀r ∈ Z,1≤r.1.length∧r.1.length≤10000) (bN:az 0 w (some ⟨bt,ot,none⟩) nt ct T) (fy:nt≤100) (hR:az 0 w (pT gr) nr cr R) (dl:lw≤w.heap.size) (aL:gJ T C) (b7:(bG (dQ T C)).flatten.length≤100000) :
 Calls Tryz.prog 119 #[.agg #[iT q,.slice aM m cm,sL O 3 cv,.slice aK f cs],iT 1,sO bt ot nt ct,sL gr nr cr] w (lj lw q (.agg #[iT q,.slice aM m cm,sL O 3 cv,.slice aK f cs]) M A R (dX T C C S 2) S (wT T C C S 2) w):=by
 obtain ⟨j0,hj,cR,df,ce⟩:=info_parts Tryz.infoRun;obtain ⟨X,hX⟩:=aG w.heap.size;obtain ⟨W,hW⟩:=aG ((w.alloc (.cells #[iT q,.slice aM m cm,sL O 3 cv,.slice aK f cs] 31)).alloc (.cells #[iT 0,nZ,nZ,nZ] 31));have kW:Bl w W:=by rw [hW];exact bZ.alloc (by simp) _
 have bx:aE W X (iT q) (.slice aM m cm) (sL O 3 cv) (.slice aK f cs):=by rw [hW,hX];exact (aE.new _ _ _ _ _ _).alloc _
 have br:aE W (X+1) (iT 0) nZ nZ nZ∧ay W (X+1) 31 4:=by
  have:=aE.new (w.alloc (.cells #[iT q,.slice aM m cm,sL O 3 cv,.slice aK f cs] 31)) 31 (iT 0) nZ nZ nZ;rw [FP] at this;rw [hW,hX];have h2:=cP (w.alloc (.cells #[iT q,.slice aM m cm,sL O 3 cv,.slice aK f cs] 31)) #[iT 0,nZ,nZ,nZ] 31;rw [FP] at h2;exact ⟨this,h2⟩
 have HX:Eq (X=w.heap.size):=hX;have K0:Eq (Bl w W):=kW;have cS:Eq (∀w',Bl W w'→aE w' (X+1) (iT 0) nZ nZ nZ∧AN w' (X+1)):=fun w' k=>⟨br.1.keep k,gq (br.2.below k) (br.1.keep k)⟩
 have cw:Eq (∀w',Bl W w'→aE w' X (iT q) (.slice aM m cm) (sL O 3 cv) (.slice aK f cs)):=fun w' k=>bx.keep k
 have fA:Eq (∀w',Bl W w'→ay w' (X+1) 31 4):=fun w' k=>br.2.below k
 have cn:=j' (l:=T) (i:=0) (by have:=aL.t0;omega);obtain ⟨r0,aD⟩:∃r0,T[0]?=some r0:=⟨_,cn⟩;obtain ⟨low,D⟩:=aG (iP T);obtain ⟨ai,a8⟩:=aG (fC T);have b3:low=fG (bn r0.1) T:=by rw [D];unfold iP;rw [aD]
 have b4:ai=dw (aU r0.1) T:=by rw [a8];unfold fC;rw [aD]
 obtain ⟨nx,bC,bq,hN⟩:∃aN nN cN,w.cell? ⟨O,2,none⟩=some (.slice aN nN cN)∧az 0 w aN nN cN C:=by
  obtain ⟨s,n,c,h1,h2⟩:=hT.levels.levels _ rfl 2 (by simp);exact ⟨s,n,c,by simpa using h1,h2.mono (FB _)⟩
 obtain ⟨dg,hN⟩:=hN;obtain ⟨a2,n2,c2,di,hC⟩:∃aN nN cN,w.cell? ⟨O,2,none⟩=some (.slice aN nN cN)∧az 0 w aN nN cN C:=by
  obtain ⟨s,n,c,h1,h2⟩:=hT.levels.levels _ rfl 2 (by simp);exact ⟨s,n,c,by simpa using h1,h2.mono (FB _)⟩
 have bs:=aV C (by simp);have co:=aV C (by simp);have eB:=hN.length;have ef:=hC.length;have dm:Eq (w.cell? ⟨O,2,none⟩=some (.slice nx bC bq)):=dg;have CR:Eq (∀w',Bl w w'→Calls Tryz.prog 176 #[sO bt ot nt ct] w' fun e y=>e=.returned (.tuple #[.string low,.string ai])∧Bl w' y):=fun w' k=>by
  rw [b3,b4];exact mL bt ot nt ct T r0 w' (bN.keep k) aD (fun r hr=>(aL.tok r hr).2) (by omega)
 have CP:Eq (∀w',Bl w w'→Calls Tryz.prog 177 #[.slice nx bC bq,.string low,.string ai] w' fun e y=>∃J n1 c1 g2 n2 c2,e=.returned (.tuple #[sL J n1 c1,sL g2 n2 c2])∧az 0 y (pT J) n1 c1 (Dz T C)∧az 0 y (pT g2) n2 c2 (offR T C)∧Bl w' y):=fun w' k=>by
  unfold Dz offR;rw [← D,← a8];exact pq nx bC bq C low ai w' (hN.keep k) (fun r hr=>(bs.2 r hr).1) (by omega)
 have dj:=bT hT;have eg:=bT bN;have ci:Eq (az 0 w (pT gr) nr cr R∧lw≤w.heap.size):=⟨hR,dl⟩;have cY:Eq (w.cell? ⟨O,2,none⟩=some (.slice a2 n2 c2)∧az 0 w a2 n2 c2 C):=⟨di,hC⟩;have d8:=bT aL;have e9:Eq (T[0]?=some r0):=aD;have cl:=bT b7;have bE:Eq (C.length≤100∧∀r ∈ C,1≤r.1.length∧r.1.length≤10000):=bs;have dn:Eq (n2≤1000∧∀r ∈ C,1≤r.1.length):=⟨by omega,fun r hr=>(co.2 r hr).1⟩;have e3:=bT aV;obtain ⟨OK,be⟩:=aG (wT T C C S 2);have dk:Eq (OK=wT T C C S 2):=be;rw [← be];have l0:=cell_later kW dm.o;have lz:=Fu _ _ l0;simp only at lz;clear kW cn D a8 b3 b4 hT bN hR dl di hC aL aD b7 bs co aV dg hN br eB ef be l0 lz;go_enter Tryz.func119,Tryz.ntmps119
 go_wp2_with fail
 rw [← hX,← hW];clear hX hW;refine (CR.o _ K0.o).mono ?_;rintro e w1 ⟨rfl,av⟩;have cz:Eq (Bl W w1):=av;have K1:Eq (Bl w w1):=K0.o.trans (av.mono K0.o.size);have x2:=(bx.keep av).c2;have xz:=(bx.keep av).lt;have l0:=cell_later K1.o dm.o;have lz:=Fu _ _ l0;simp only at lz;clear av bx;go_wp2_with fail
 clear x2 xz l0 lz;refine (CP.o _ K1.o).mono ?_;rintro e t ⟨gI,nI,cI,gO,nO,cO,rfl,hI,hO,bS⟩;have aY:Eq (Bl W t):=cz.o.trans (bS.mono cz.o.size);have K2:Eq (Bl w t):=K1.o.trans (bS.mono K1.o.size);have cp:Eq (az 0 t (pT gO) nO cO (offR T C)):=hO;have dG:=hI.length;have dV:nI≤100:=by have h1:=bE.o.1;have h2:=(lG T C).length_le;omega
 obtain ⟨ax,dT,rT⟩:=(eg.o.keep K2.o).raw;obtain ⟨bo,dI,rI⟩:=hI.raw;have cQ:Eq (eC (·<t.heap.size) t (ax++bo) (dQ T C)):=dT.denP.app dI.denP;have bh:Eq (oO t (sO bt ot nt ct) nt ax):=rT;have aX:Eq (oO t (sL gI nI cI) nI bo):=rI;have ka:Bl t (t.alloc (.cells #[] 63)):=bZ;have KA:Eq (Bl t (t.alloc (.cells #[] 63))):=ka;have R1:Eq ((t.alloc (.cells #[] 63)).ownsRow t.heap.size 63 2 (sL (t.heap.size) 0 0) 0 []):=by
  have:=F6 (base:=t.heap.size) (e:=63) (size:=2) t #[] 0 (Fv _) (by simp) (by simp);show World.ownsRow _ _ _ _ _ _ _
  simpa using this
 have cu:Eq (∀j u,ax[j]?=some u→(t.alloc (.cells #[] 63)).cell? ((⟨bt,ot,none⟩:Addr).add j)=some u):=fun j u hu=>by
  rcases (rT.keep ka).2.2 with ⟨h,_⟩ | ⟨b,o,c,h,hc⟩
  · cases h
  · cases h;rw [FO];exact hc j u hu
 clear hI hO bS dT dI rT rI ka CR CP dG;go_wp2_with (first
  | (at_builtin;refine wpList_append_own _ rfl _ _ 61 rfl t.heap.size 63 j0 _ 2 32 Tryz.underlying61 hj cR df ce rfl (by decide) _ _ _ rfl bL.o ⟨gI,0,none⟩ nI cI bo rfl aX.o.1 cc.o aX.o.2.1 (by unfold maxLen;omega) (by omega) (by have:=K3.o.size;omega) ?_;intro v4 W4 aa af ar;obtain ⟨gA,cA,rfl⟩:=aH aa ar)
  | (at_builtin;refine wpList_append_own _ rfl _ _ 61 rfl t.heap.size 63 j0 _ 2 32 Tryz.underlying61 hj cR df ce rfl (by decide) _ _ _ rfl R1.o ⟨bt,ot,none⟩ nt ct ax rfl bh.o.1 cu.o bh.o.2.1 (by unfold maxLen;omega) (by omega) (by simp) ?_;intro v3 w3 a6 ak aI;obtain ⟨dH,dP,rfl⟩:=aH a6 aI;have bL:Eq (w3.ownsRow t.heap.size 63 2 (sL dH nt dP) nt ax):=(by show World.ownsRow _ _ _ _ _ _ _;simpa using a6);have K3:Eq (Bl t w3):=KA.o.grown ak KA.o.size (fun k e=>(R1.o.lt k e).1);have cc:=mh (aX.o.keep K3.o);clear a6 ak aI))
 have k4:Bl t W4:=K3.o.grown af K3.o.size (fun k e=>(bL.o.lt k e).1);have K4:Eq (Bl t W4):=k4;have bf:Eq (Bl W W4):=aY.o.trans (k4.mono aY.o.size);have aF:Eq (Bl w W4):=K2.o.trans (k4.mono K2.o.size);obtain ⟨na,cb⟩:=aG (nt+nI);have b5:na≤1000:=by omega
 obtain ⟨aA,fq,eA,aT⟩:=jr aa (cQ.o.low k4).den;cases eA;rw [← cb] at aT ⊢;obtain ⟨P,hP⟩:=aG (bG (dQ T C));obtain ⟨nF,bA⟩:=aG P.flatten.length;obtain ⟨BR,bQ⟩:=aG (ln T C C 2);obtain ⟨SQ,b0⟩:=aG (um T C C S 2);have e4:nF≤100000:=by rw [bA,hP];exact cl.o
 have a4:(dQ T C)[0]?=some r0:=by unfold dQ;rw [FE (by have:=d8.o.t0;omega)];exact e9.o
 have CL:Eq (∀w',Bl W4 w'→Calls Tryz.prog 178 #[sL gA na cA] w' (qO na (dQ T C) w')):=fun w' k=>rD _ na cA (dQ T C) w' (aT.keep k) (by omega)
 have CM:Eq (∀pa pc w',cy w' pa na pc P→Calls Tryz.prog 109 #[.slice pa na pc] w' fun e y=>∃g cg,e=.returned (sL g nF cg)∧ag y w'.heap.size g nF cg (bD P.flatten)∧Bl w' y):=fun pa pc w' h=>by
  rw [bA];exact mM pa na pc P w' h (by omega)
 have CB:Eq (∀w',Bl W4 w'→Calls Tryz.prog 179 #[.agg #[iT q,.slice aM m cm,sL O 3 cv,.slice aK f cs],iT 2,sL gA na cA] w' fun e y=>e=.returned (.bool BR)∧Bl w' y):=fun w' k=>by
  have kk:=aF.o.trans (k.mono aF.o.size);have:=ux q aM m cm O 0 cv aK f cs a2 n2 c2 C 2 gA 0 na cA (dQ T C) r0 w' (by simpa using cell_later kk cY.o.1) (cY.o.2.keep kk) dn.o.1 dn.o.2 (aT.keep k) a4 (fun r hr=>(d8.o.all r hr).2) b5;have e:BR=(decide ((2:Int)=2) || decide ((C.filter (eD (fG (bn r0.1) (dQ T C)) (dw (aU r0.1) (dQ T C)))).length=0)):=by
   rw [bQ];unfold ln iP fC;simp only [a4]
  rw [e];exact this
 have CQ:Eq (∀al cg w',Bl W4 w'→ah w' al nF cg (bD P.flatten)→Calls Tryz.prog 174 #[.slice al nF cg,.slice aK f cs,.bool BR] w' fun e y=>∃g n' c',e=.returned (sL g n' c')∧ag y w'.heap.size g n' c' SQ∧Bl w' y):=fun al cg w' k h=>by
  have e:SQ=bU (bD P.flatten) S BR:=by rw [b0,hP,bQ];rfl
  rw [e];exact lq lo al nF cg (bD P.flatten) _ f cs S BR w' h (dj.o.snaps.keep (aF.o.trans (k.mono aF.o.size))) (by omega)
 have bu:Eq (SQ=um T C C S 2):=b0;have ek:Eq (P=bG (dQ T C)):=hP;have aC:Eq (SQ.length≤100000):=by
  rw [b0];have h1:=jH (bD (bG (dQ T C)).flatten) S (ln T C C 2);have h2:=kf (bG (dQ T C)).flatten;have h3:=cl.o;show (um T C C S 2).length≤_
  unfold um;omega
 have ap:∀w',Bl W4 w'→(w'.cell? ⟨X,0,none⟩=some (iT q)∧w'.cell? ⟨X,1,none⟩=some (.slice aM m cm)∧w'.cell? ⟨X,2,none⟩=some (sL O 3 cv)∧w'.cell? ⟨X,3,none⟩=some (.slice aK f cs)∧X<w'.heap.size):=fun w' k=>by
  have b:=cw.o w' (bf.o.trans (k.mono bf.o.size));exact ⟨b.c0,b.c1,b.c2,b.c3,b.lt⟩
 have k0:Bl W4 W4.drew:=(Below.refl _ W4).drew;clear aa af ar k4 cb aT hP bA bQ b0 e4 a4 b5 cQ bh aX cc cu bL R1 KA K3 dV;go_upto_region 5 with fail
 go_cut [16] (fun s wx=>∃gD nD cD,s=sL gD nD cD∧ah wx (pT gD) nD cD SQ∧gD<wx.heap.size∧Bl W4 wx)
 case first =>
  refine Co ap k0 fun ac=>?_
  generalize W4.drew=wd at k0 ac ⊢;refine aP 0 1 ac ?_;refine aP 3 5 ac ?_;refine aQ 1 fun K hK=>?_
  go_simp;refine (CL.o _ k0).mono ?_;rintro e wA cG;obtain ⟨pa,pc,rfl,bO,d5⟩:=om cG;rw [← ek.o] at bO;have kA:Bl W4 wA:=k0.trans (d5.mono k0.size);have e1:Eq (cy wA pa na pc P):=bO;clear cG bO d5;go_wp2_with fail
  refine hK.o _ _ (ap _ kA) fun ac=>?_
  (try go_frame);refine aQ 2 fun K hK=>?_
  go_simp;refine (CM.o pa pc _ e1.o).mono ?_;rintro e wB ⟨gB,cB,rfl,cq,dW⟩;have kB:Bl W4 wB:=kA.trans (dW.mono kA.size);have e6:Eq (ah wB (pT gB) nF cB (bD P.flatten)):=cq.entsAt;clear cq;go_wp2_with fail
  refine hK.o _ _ (ap _ kB) fun ac=>?_
  (try go_frame);refine aQ 8 fun K hK=>?_
  go_simp;refine (CB.o _ kB).mono ?_;rintro e wC ⟨rfl,d3⟩;have kC:Bl W4 wC:=kB.trans (d3.mono kB.size);go_wp2_with fail
  refine hK.o _ _ (ap _ kC) fun ac=>?_
  (try go_frame);refine aQ 9 fun K hK=>?_
  go_simp;refine (CQ.o _ _ _ kC (e6.o.keep d3)).mono ?_;rintro e wD ⟨gD,nD,cD,rfl,bk,dR⟩;have kD:Bl W4 wD:=kC.trans (dR.mono kC.size);have el:Eq (ah wD (pT gD) nD cD SQ):=bk.entsAt;have eb:Eq (gD<wD.heap.size):=bk.lt.2;clear bk;go_wp2_with fail
  refine hK.o _ _ (ap _ kD) fun ac=>?_
  (try go_frame);refine aP 10 1 ac ?_;refine dN ?_;go_wp2_with fail
  go_meet
  exact ⟨_,_,_,rfl,el.o,eb.o,kD⟩
 case rest =>
  obtain ⟨gD,nD,cD,rfl,hD,cX,k5⟩:=hcut;clear k0 CL CM CB CQ ap;have db:=hD.length;have e0:=aC.o;have bI:=uv gD nD cD SQ wc hD cX (by omega);rw [show (fl SQ nD).1=dM SQ by unfold dM;rw [db]] at bI;have K5:Eq (Bl t wc):=K4.o.trans (k5.mono K4.o.size);clear hD cX k5 db e0;go_wp2_with fail
  refine bI.mono ?_;rintro e w6 ⟨g6,m6,c6,rfl,b1,d6⟩;have K6:Eq (Bl t w6):=K5.o.trans (d6.mono K5.o.size);have ei:(dM SQ).length=m6:=b1.1;have cW:=tR SQ SQ.length;have cd:m6≤100000:=by have:=aC.o;have h9:(dM SQ).length≤SQ.length:=cW;omega
  have eF:=cp.o.length;have dF:nO≤100:=by have h1:=bE.o.1;have h2:(offR T C).length≤C.length:=Hw _ _;omega
  have CO:=ry gO 0 nO cO (offR T C) g6 0 m6 c6 (dM SQ) w6 (cp.o.keep K6.o) (b1.runsIn.mono (FB _)) b1.lt.2 (fun r hr=>(bE.o.2 r (Hj.1 hr).1).1) (fun r hr=>nH hr) (by omega) (by omega);have dd:Eq ((dJ (offR T C) (dM SQ)).length≤200000):=by show _≤_;rw [mV];omega
  clear bI b1 d6 ei cW cd eF dF;go_wp2_with fail
  refine CO.mono ?_;rintro e w7 ⟨g7,n7,c7,fu,rfl,cf,cx,bM⟩;have K7:Eq (Bl t w7):=K6.o.trans (bM.mono K6.o.size);obtain ⟨a7,ft,e7,ao⟩:=jr cf (cx.low bM).den;cases e7;rw [bu.o] at ao;have cC:Eq (az 0 w7 (pT g7) n7 c7 (dX T C C S 2)):=ao;have dc:n7≤1048576:=by have h1:=ao.length;have h2:=dd.o;rw [bu.o] at h2;omega
  have CF:=uu _ n7 c7 _ w7 ao dc;have d1:(ik (dJ (offR T C) (dM (um T C C S 2))) && decide (n7≤8))=OK:=by
   rw [dk.o,← ao.length];rfl
  rw [d1] at CF;clear CO cf cx bM ao dc d1;go_wp2_with fail
  refine CF.mono ?_;rintro e E ⟨rfl,bR⟩;have K8:Eq (Bl t E):=K7.o.trans (bR.mono K7.o.size);have bF:Eq (Bl W E):=aY.o.trans (K8.o.mono aY.o.size);have U:Eq (Bl w E):=K2.o.trans (K8.o.mono K2.o.size);have ep:Eq (az 0 E (pT g7) n7 c7 (dX T C C S 2)):=cC.o.keep bR;have b8:=cw.o E bF.o;have y8:=(cS.o E bF.o).1;have x0:=b8.all;clear CF bR cC K7 K6 K5 K4 bf aF dd bu aC b8;cases OK with
  | false =>
   have r0:=y8.all;have et:Eq (aE E (X+1) (iT 0) nZ nZ nZ):=y8;clear y8;go_wp2;refine bodyPost_ret (v:=.tuple #[.agg #[iT q,.slice aM m cm,sL O 3 cv,.slice aK f cs],.bool false]) ?_ rfl (show lj _ _ _ _ _ _ _ _ _ _ _ _ from ⟨aM,m,cm,some ⟨O,0,none⟩,3,cv,aK,f,cs,rfl,?_,fun _=>rfl,fun h=>by cases h⟩)
   · have e:=(((et.o.set0 (iT q)).set1 (.slice aM m cm)).set2 (sL O 3 cv)).set3 (.slice aK f cs);simp [results,Tryz.results119,go_sem,e.all]
   · have hx:w.heap.size≤X+1:=by have:=HX.o;omega
     exact tk U.o hx _ _ _ _
  | true =>
   have CC:=iK lo q aM (pT O) aK m cm 3 cv f cs M [A,B,C] S E (dj.o.keep U.o) dE ea (by omega) e3.o;go_wp2_with fail
   refine CC.mono ?_;rintro e w9 ⟨J,c1,G,c,g3,c3,rfl,an,aw⟩;clear CC x0;obtain ⟨I,N,bH,bV,aW,aO,hrow,rA,rB,rC,_,_⟩:=an.split;have am:=hrow.lt G rfl;have bg:Eq (E.heap.size≤G):=am.1;have d2:X+1<E.heap.size:=y8.lt;have es:Eq (X+1<E.heap.size):=d2;have ME:Eq (vL E.heap.size w9 J m c1 G c g3 f c3 I A.length N [sL I A.length N,sL bH B.length bV,sL aW C.length aO] M A S):=⟨an.mem,rA,an.slen,an.swf,an.sn,hrow⟩;have eo:Eq (Bl w w9):=U.o.trans (aw.mono U.o.size);have K9:Eq (Bl E w9):=aw;obtain ⟨Y,hY⟩:=aG w9.heap.size;obtain ⟨wY,aZ⟩:=aG (w9.alloc (.cells #[iT q,sL J m c1,sL G 3 c,sL g3 f c3] 31));have kY:Bl w9 wY:=by rw [aZ];exact bZ
   have bY:aE wY Y (iT q) (sL J m c1) (sL G 3 c) (sL g3 f c3):=by rw [aZ,hY];exact aE.new _ _ _ _ _ _
   have au:Eq (vL E.heap.size wY J m c1 G c g3 f c3 I A.length N [sL I A.length N,sL bH B.length bV,sL aW C.length aO] M A S):=ME.o.below kY;have KY:Eq (Bl E wY):=K9.o.trans (kY.mono K9.o.size);have dh:G≠Y:=by rw [hY];have:=am.2;omega
   have e5:X+1≠G:=by have:=am.1;omega
   have cH:Eq (X+1≠G):=e5;have y9:=(y8.keep aw).keep kY;have fk:X+1≠Y:=by have:=(y8.keep aw).lt;rw [hY];omega
   clear an rA rB rC hrow aw am d2 K9 eo ME y8;go_upto_region 10 with fail
   rw [← hY,← aZ];clear hY aZ kY;obtain ⟨aB,F⟩:=aG (wY.setCell ⟨G,1,none⟩ (sL gr nr cr));obtain ⟨L,H⟩:=aG (aB.setCell ⟨G,2,none⟩ (sL g7 n7 c7));have ad:aE aB Y (iT q) (sL J m c1) (sL G 3 c) (sL g3 f c3):=by rw [F];exact bY.other dh _
   have b2:aE L Y (iT q) (sL J m c1) (sL G 3 c) (sL g3 f c3):=by rw [H];exact ad.other dh _
   have bB:aE L (X+1) (iT 0) nZ nZ nZ:=by rw [H,F];exact (y9.other cH.o.symm _).other cH.o.symm _
   have Q:Eq (vL E.heap.size aB J m c1 G c g3 f c3 I A.length N [sL I A.length N,sL gr nr cr,sL aW C.length aO] M A S):=by rw [F];exact au.o.setG _ _
   have bc:Eq (vL E.heap.size L J m c1 G c g3 f c3 I A.length N [sL I A.length N,sL gr nr cr,sL g7 n7 c7] M A S):=by rw [H];exact Q.o.setG _ _
   have bw:Eq (Bl E L):=by rw [H,F];exact (KY.o.setCell (p:=⟨G,1,none⟩) bg.o _).setCell (p:=⟨G,2,none⟩) bg.o _
   have d4:Eq (Bl w L):=U.o.trans (bw.o.mono U.o.size);have fr:=(au.o.row.lt G rfl).2;have d9:=(Q.o.row.lt G rfl).2;have e2:Eq (aB.cell? ⟨G,2,none⟩=some (sL aW C.length aO)):=Q.o.row.cellAt 2 (by omega);have d7:Eq (aE L (X+1) (iT 0) nZ nZ nZ):=bB;have u2:=bY.c2;have uz:=bY.lt;have q0:wY.cell? ⟨G,1,none⟩=some (sL bH B.length bV):=au.o.row.cellAt 1 (by omega);have gf:=fun o=>au.o.row.frozenAt o
   have cJ:Eq (∀o,aB.frozen? ⟨G,o,none⟩=false):=fun o=>Q.o.row.frozenAt o
   clear bY y9 au Q;go_upto_region 11 with fail
   rw [← F];clear F u2 uz q0 gf;have u2:=ad.c2;have uz:=ad.lt;have gf:=cJ.o;have q0:=e2.o;clear ad cJ;go_upto_region 12 with fail
   rw [← H];clear H u2 uz q0 gf d9;have u0:=b2.all;have r0:=bB.all;clear b2 bB;go_wp2;refine bodyPost_ret (v:=.tuple #[.agg #[iT q,sL J m c1,sL G 3 c,sL g3 f c3],.bool true]) ?_ rfl ?_
   · have e:=(((d7.o.set0 (iT q)).set1 (sL J m c1)).set2 (sL G 3 c)).set3 (sL g3 f c3);simp [results,Tryz.results119,go_sem,e.all]
   · have hx:w.heap.size≤X+1:=by have:=HX.o;omega
     have b9:=tk d4.o hx (iT q) (sL J m c1) (sL G 3 c) (sL g3 f c3);have aR:=es.o;have hM:=(((bc.o.setX aR 0 (iT q)).setX aR 1 (sL J m c1)).setX aR 2 (sL G 3 c)).setX aR 3 (sL g3 f c3);have hh:=sH L (X+1) (iT q) (sL J m c1) (sL G 3 c) (sL g3 f c3);have dK:=sF L (X+1) (iT q) (sL J m c1) (sL G 3 c) (sL g3 f c3);have fv:=bw.o.size;have ey:AN E (X+1):=(cS.o E bF.o).2;have am:=bg.o;have cL:=bc.o.lev.lt.1;obtain ⟨_,kG⟩:=aS hM.row;obtain ⟨eE,k3⟩:=aS hM.sn;generalize ((((L.setCell ⟨X+1,0,none⟩ (iT q)).setCell ⟨X+1,1,none⟩ (sL J m c1)).setCell ⟨X+1,2,none⟩ (sL G 3 c)).setCell ⟨X+1,3,none⟩ (sL g3 f c3))=wf at b9 hM hh dK kG k3 ⊢;have D:lw≤E.heap.size:=FK ci.o.2 U.o.size;have ba:∀{a n d g} {Z:List aj},az 0 E a n d Z→(E.heap.size≤g∨∀o,E.cell? ⟨g,o,none⟩=none)→dx (fun b=>b≠g∧b≠G) wf a n d Z:=fun {a n d g Z} h h2=>rO h ey (by omega) (fun b hb hn=>(hh b hn).trans (bw.o.block b hb)) h2 am
     exact ⟨some ⟨J,0,none⟩,m,c1,some ⟨G,0,none⟩,3,c,some ⟨g3,0,none⟩,f,c3,rfl,b9,(fun h=>by cases h),fun _=>⟨G,I,N,gr,nr,cr,g7,n7,c7,rfl,rfl,(cT.some hM.mem).mono D,eV hM.row D,hM.lev.mono D,ba (ci.o.1.keep U.o) (.inl cL),ba ep.o (.inl cL),(jm hM.sn hM.slen hM.swf).lower D,fun x e _=>by cases e;exact ⟨eE,k3⟩⟩⟩
theorem ls {d:Nat} {w:World} {b n c i j:Nat} {B:List aj} (h:az d w (pT b) n c B) (f:i≤j) (m:j≤n):az d w (some ⟨b,if c=i then 0 else i*2,none⟩) (j - i) (c - i) ((B.drop i).take (j - i)) where
 length:=by rw [FC,FN,h.length];omega
 room:=by have:=h.room;omega
 big:=by have:=h.big;omega
 nil:=fun e=>by cases e
 lies:=fun x e hp=>by
  have h1:=h.lies _ rfl (by omega)
  cases e
  exact h1
 runs:=fun x e t g=>by
  rw [FC,FN,h.length] at g
  have hc:¬c=i:=by have:=h.room;omega
  have hl:i+t<B.length:=by rw [h.length];omega
  have h1:=h.runs _ rfl (i+t) hl
  cases e
  rw [Gn,Gr,if_neg hc]
  simp only [FG] at h1
  rw [show i*2+t*2=(i+t)*2 by omega]
  exact h1
end Go.Proofs.YtpobkmjicbobdaaGreat
