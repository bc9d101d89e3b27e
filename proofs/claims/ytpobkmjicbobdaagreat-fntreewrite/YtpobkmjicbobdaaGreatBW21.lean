/- Walks. -/
import Derived.Test.YtpobkmjicbobdaaGreatBW20
namespace Go.Proofs.YtpobkmjicbobdaaGreat
set_option maxRecDepth 100000
set_option maxHeartbeats 40000000
open Go.RowKit
theorem EK (lo lw:Nat) (q:Int) (aM:Option Addr) (m cm I cv:Nat) (aK:Option Addr) (f cs:Nat) (M:List ac) (A B C:List af) (S:List Int) (bt ot nt ct:Nat) (T:List af) (gr:Nat) (w:World) (hT:aZ lo w aM m cm (pT I) 3 cv aK f cs M [A,B,C] S) (dJ:m≤1048576) (hns:f≤1048576) (b2:∀Z ∈ [A,B,C],Z.length≤100∧∀r ∈ Z,1≤r.1.length∧r.1.length≤10000) (bP:aw 0 w (some ⟨bt,ot,none⟩) nt ct T) (fv:nt≤100) (cH:w.heap[gr]?=some (.cells #[] 63 (0,0))) (cf:lw≤gr) (aP:gX T B) (be:(bG (dW T B)).flatten.length≤100000) :
 Calls Tryz.prog 119 #[.agg #[iT q,.slice aM m cm,sL I 3 cv,.slice aK f cs],iT 0,sO bt ot nt ct,sL gr 0 0] w (mJ lw q (.agg #[iT q,.slice aM m cm,sL I 3 cv,.slice aK f cs]) M [] (ef T B C S 1) C S (yr T B C S 1) w):=by
 obtain ⟨j0,hj,d9,cL,cU⟩:=info_parts Tryz.infoRun;obtain ⟨X,hX⟩:=aG w.heap.size;obtain ⟨W,hW⟩:=aG ((w.alloc (.cells #[iT q,.slice aM m cm,sL I 3 cv,.slice aK f cs] 31)).alloc (.cells #[iT 0,nZ,nZ,nZ] 31));have kW:Bl w W:=by rw [hW];exact bZ.alloc (by simp) _
 have bx:ay W X (iT q) (.slice aM m cm) (sL I 3 cv) (.slice aK f cs):=by rw [hW,hX];exact (ay.new _ _ _ _ _ _).alloc _
 have br:ay W (X+1) (iT 0) nZ nZ nZ∧aq W (X+1) 31 4:=by
  have:=ay.new (w.alloc (.cells #[iT q,.slice aM m cm,sL I 3 cv,.slice aK f cs] 31)) 31 (iT 0) nZ nZ nZ;rw [GY] at this;rw [hW,hX];have h2:=cX (w.alloc (.cells #[iT q,.slice aM m cm,sL I 3 cv,.slice aK f cs] 31)) #[iT 0,nZ,nZ,nZ] 31;rw [GY] at h2;exact ⟨this,h2⟩
 have HX:Eq (X=w.heap.size):=hX;have K0:Eq (Bl w W):=kW;have cJ:Eq (∀w',Bl W w'→ay w' (X+1) (iT 0) nZ nZ nZ∧BW w' (X+1)):=fun w' k=>⟨br.1.keep k,gN (br.2.below k) (br.1.keep k)⟩
 have d8:Eq (∀w',Bl W w'→ay w' X (iT q) (.slice aM m cm) (sL I 3 cv) (.slice aK f cs)):=fun w' k=>bx.keep k
 have fh:Eq (∀w',Bl W w'→aq w' (X+1) 31 4):=fun w' k=>br.2.below k
 have cS:=j' (l:=T) (i:=0) (by have:=aP.t0;omega);obtain ⟨r0,aH⟩:∃r0,T[0]?=some r0:=⟨_,cS⟩;obtain ⟨low,E⟩:=aG (jf T);obtain ⟨aj,a4⟩:=aG (fM T);have bb:low=fS (bj r0.1) T:=by rw [E];unfold jf;rw [aH]
 have bd:aj=dG (aT r0.1) T:=by rw [a4];unfold fM;rw [aH]
 obtain ⟨nx,bl,bq,hN⟩:∃aN nN cN,w.cell? ⟨I,1,none⟩=some (.slice aN nN cN)∧aw 0 w aN nN cN B:=by
  obtain ⟨s,n,c,h1,h2⟩:=hT.levels.levels _ rfl 1 (by simp);exact ⟨s,n,c,by simpa using h1,h2.mono (GQ _)⟩
 obtain ⟨d5,hN⟩:=hN;obtain ⟨a2,n2,c2,cW,hC⟩:∃aN nN cN,w.cell? ⟨I,2,none⟩=some (.slice aN nN cN)∧aw 0 w aN nN cN C:=by
  obtain ⟨s,n,c,h1,h2⟩:=hT.levels.levels _ rfl 2 (by simp);exact ⟨s,n,c,by simpa using h1,h2.mono (GQ _)⟩
 have bC:=b2 B (by simp);have de:=b2 C (by simp);have eu:=hN.length;have ev:=hC.length;have cY:Eq (w.cell? ⟨I,1,none⟩=some (.slice nx bl bq)):=d5;have CR:Eq (∀w',Bl w w'→Calls Tryz.prog 176 #[sO bt ot nt ct] w' fun e t=>e=.returned (.tuple #[.string low,.string aj])∧Bl w' t):=fun w' k=>by
  rw [bb,bd];exact ol bt ot nt ct T r0 w' (bP.keep k) aH (fun r hr=>(aP.tok r hr).2) (by omega)
 have CP:Eq (∀w',Bl w w'→Calls Tryz.prog 177 #[.slice nx bl bq,.string low,.string aj] w' fun e t=>∃L n1 c1 g2 n2 c2,e=.returned (.tuple #[sL L n1 c1,sL g2 n2 c2])∧aw 0 t (pT L) n1 c1 (EP T B)∧aw 0 t (pT g2) n2 c2 (offR T B)∧Bl w' t):=fun w' k=>by
  unfold EP offR;rw [← E,← a4];exact qp nx bl bq B low aj w' (hN.keep k) (fun r hr=>(bC.2 r hr).1) (by omega)
 have ce:=az hT;have dD:=az bP;have a8:Eq (w.heap[gr]?=some (.cells #[] 63 (0,0))∧lw≤gr):=⟨cH,cf⟩;have cn:Eq (w.cell? ⟨I,2,none⟩=some (.slice a2 n2 c2)∧aw 0 w a2 n2 c2 C):=⟨cW,hC⟩;have cq:=az aP;have ea:Eq (T[0]?=some r0):=aH;have cM:=az be;have bE:Eq (B.length≤100∧∀r ∈ B,1≤r.1.length∧r.1.length≤10000):=bC;have d3:Eq (n2≤1000∧∀r ∈ C,1≤r.1.length):=⟨by omega,fun r hr=>(de.2 r hr).1⟩;have e0:=az b2;obtain ⟨OK,bf⟩:=aG (yr T B C S 1);have cx:Eq (OK=yr T B C S 1):=bf;rw [← bf];have l0:=cell_later kW cY.o;have lz:=GK _ _ l0;simp only at lz;clear kW cS E a4 bb bd hT bP cH cf cW hC aP aH be bC de b2 d5 hN br eu ev bf l0 lz;go_enter Tryz.func119,Tryz.ntmps119
 go_wp2_with fail
 rw [← hX,← hW];clear hX hW;refine (CR.o _ K0.o).mono ?_;rintro e w1 ⟨rfl,aJ⟩;have cy:Eq (Bl W w1):=aJ;have K1:Eq (Bl w w1):=K0.o.trans (aJ.mono K0.o.size);have x2:=(bx.keep aJ).c2;have xz:=(bx.keep aJ).lt;have l0:=cell_later K1.o cY.o;have lz:=GK _ _ l0;simp only at lz;clear aJ bx;go_wp2_with fail
 clear x2 xz l0 lz;refine (CP.o _ K1.o).mono ?_;rintro e y ⟨gI,nI,cI,gO,nO,cO,rfl,hI,hO,bm⟩;have aY:Eq (Bl W y):=cy.o.trans (bm.mono cy.o.size);have K2:Eq (Bl w y):=K1.o.trans (bm.mono K1.o.size);have cd:Eq (aw 0 y (pT gO) nO cO (offR T B)):=hO;have e9:=hI.length;have dQ:nI≤100:=by have h1:=bE.o.1;have h2:=(mv T B).length_le;omega
 obtain ⟨au,dT,rT⟩:=(dD.o.keep K2.o).raw;obtain ⟨bo,dI,rI⟩:=hI.raw;have c8:Eq (ee (·<y.heap.size) y (au++bo) (dW T B)):=dT.denP.app dI.denP;have bk:Eq (pE y (sO bt ot nt ct) nt au):=rT;have aW:Eq (pE y (sL gI nI cI) nI bo):=rI;have ka:Bl y (y.alloc (.cells #[] 63)):=bZ;have KA:Eq (Bl y (y.alloc (.cells #[] 63))):=ka;have R1:Eq ((y.alloc (.cells #[] 63)).ownsRow y.heap.size 63 2 (sL (y.heap.size) 0 0) 0 []):=by
  have:=Hi (base:=y.heap.size) (e:=63) (size:=2) y #[] 0 (GL _) (by simp) (by simp);show World.ownsRow _ _ _ _ _ _ _
  simpa using this
 have ca:Eq (∀j u,au[j]?=some u→(y.alloc (.cells #[] 63)).cell? ((⟨bt,ot,none⟩:Addr).add j)=some u):=fun j u hu=>by
  rcases (rT.keep ka).2.2 with ⟨h,_⟩ | ⟨b,o,c,h,hc⟩
  · cases h
  · cases h;rw [G6];exact hc j u hu
 clear hI hO bm dT dI rT rI ka CR CP e9;go_wp2_with (first
  | (at_builtin;refine wpList_append_own _ rfl _ _ 61 rfl y.heap.size 63 j0 _ 2 32 Tryz.underlying61 hj d9 cL cU rfl (by decide) _ _ _ rfl bA.o ⟨gI,0,none⟩ nI cI bo rfl aW.o.1 dh.o aW.o.2.1 (by unfold maxLen;omega) (by omega) (by have:=K3.o.size;omega) ?_;intro v4 W4 ab ak aI;obtain ⟨gA,cA,rfl⟩:=aO ab aI)
  | (at_builtin;refine wpList_append_own _ rfl _ _ 61 rfl y.heap.size 63 j0 _ 2 32 Tryz.underlying61 hj d9 cL cU rfl (by decide) _ _ _ rfl R1.o ⟨bt,ot,none⟩ nt ct au rfl bk.o.1 ca.o bk.o.2.1 (by unfold maxLen;omega) (by omega) (by simp) ?_;intro v3 w3 a3 ai aF;obtain ⟨el,ek,rfl⟩:=aO a3 aF;have bA:Eq (w3.ownsRow y.heap.size 63 2 (sL el nt ek) nt au):=(by show World.ownsRow _ _ _ _ _ _ _;simpa using a3);have K3:Eq (Bl y w3):=KA.o.grown ai KA.o.size (fun k e=>(R1.o.lt k e).1);have dh:=mX (aW.o.keep K3.o);clear a3 ai aF))
 have k4:Bl y W4:=K3.o.grown ak K3.o.size (fun k e=>(bA.o.lt k e).1);have K4:Eq (Bl y W4):=k4;have bg:Eq (Bl W W4):=aY.o.trans (k4.mono aY.o.size);have aD:Eq (Bl w W4):=K2.o.trans (k4.mono K2.o.size);obtain ⟨na,cj⟩:=aG (nt+nI);have b6:na≤1000:=by omega
 obtain ⟨aA,fy,eA,b3⟩:=jM ab (c8.o.low k4).den;cases eA;rw [← cj] at b3 ⊢;obtain ⟨P,hP⟩:=aG (bG (dW T B));obtain ⟨nF,bI⟩:=aG P.flatten.length;obtain ⟨BR,bD⟩:=aG (mc T B C 1);obtain ⟨U,b1⟩:=aG (vu T B C S 1);have eo:nF≤100000:=by rw [bI,hP];exact cM.o
 have a5:(dW T B)[0]?=some r0:=by unfold dW;rw [GW (by have:=cq.o.t0;omega)];exact ea.o
 have CL:Eq (∀w',Bl W4 w'→Calls Tryz.prog 178 #[sL gA na cA] w' (ss na (dW T B) w')):=fun w' k=>tc _ na cA (dW T B) w' (b3.keep k) (by omega)
 have CM:Eq (∀pa pc w',cZ w' pa na pc P→Calls Tryz.prog 109 #[.slice pa na pc] w' fun e t=>∃g cg,e=.returned (sL g nF cg)∧ag t w'.heap.size g nF cg (aS P.flatten)∧Bl w' t):=fun pa pc w' h=>by
  rw [bI];exact s9 pa na pc P w' h (by omega)
 have CB:Eq (∀w',Bl W4 w'→Calls Tryz.prog 179 #[.agg #[iT q,.slice aM m cm,sL I 3 cv,.slice aK f cs],iT 1,sL gA na cA] w' fun e t=>e=.returned (.bool BR)∧Bl w' t):=fun w' k=>by
  have kk:=aD.o.trans (k.mono aD.o.size);have:=vC q aM m cm I 0 cv aK f cs a2 n2 c2 C 1 gA 0 na cA (dW T B) r0 w' (by simpa using cell_later kk cn.o.1) (cn.o.2.keep kk) d3.o.1 d3.o.2 (b3.keep k) a5 (fun r hr=>(cq.o.all r hr).2) b6;have e:BR=(decide ((1:Int)=2) || decide ((C.filter (eG (fS (bj r0.1) (dW T B)) (dG (aT r0.1) (dW T B)))).length=0)):=by
   rw [bD];unfold mc jf fM;simp only [a5]
  rw [e];exact this
 have CQ:Eq (∀al cg w',Bl W4 w'→ah w' al nF cg (aS P.flatten)→Calls Tryz.prog 174 #[.slice al nF cg,.slice aK f cs,.bool BR] w' fun e t=>∃g n' c',e=.returned (sL g n' c')∧ag t w'.heap.size g n' c' U∧Bl w' t):=fun al cg w' k h=>by
  have e:U=bT (aS P.flatten) S BR:=by rw [b1,hP,bD];rfl
  rw [e];exact mj lo al nF cg (aS P.flatten) _ f cs S BR w' h (ce.o.snaps.keep (aD.o.trans (k.mono aD.o.size))) (by omega)
 have bN:Eq (U=vu T B C S 1):=b1;have e1:Eq (P=bG (dW T B)):=hP;have aE:Eq (U.length≤100000):=by
  rw [b1];have h1:=kj (aS (bG (dW T B)).flatten) S (mc T B C 1);have h2:=i8 (bG (dW T B)).flatten;have h3:=cM.o;show (vu T B C S 1).length≤_
  unfold vu;omega
 have an:∀w',Bl W4 w'→(w'.cell? ⟨X,0,none⟩=some (iT q)∧w'.cell? ⟨X,1,none⟩=some (.slice aM m cm)∧w'.cell? ⟨X,2,none⟩=some (sL I 3 cv)∧w'.cell? ⟨X,3,none⟩=some (.slice aK f cs)∧X<w'.heap.size):=fun w' k=>by
  have b:=d8.o w' (bg.o.trans (k.mono bg.o.size));exact ⟨b.c0,b.c1,b.c2,b.c3,b.lt⟩
 have k0:Bl W4 W4.drew:=(Below.refl _ W4).drew;clear ab ak aI k4 cj b3 hP bI bD b1 eo a5 b6 c8 bk aW dh ca bA R1 KA K3 dQ;go_upto_region 5 with fail
 go_cut [16] (fun s wx=>∃gD nD cD,s=sL gD nD cD∧ah wx (pT gD) nD cD U∧gD<wx.heap.size∧Bl W4 wx)
 case first =>
  refine DS an k0 fun aa=>?_
  generalize W4.drew=wd at k0 aa ⊢;refine aR 0 1 aa ?_;refine aR 3 5 aa ?_;refine aV 1 fun K hK=>?_
  go_simp;refine (CL.o _ k0).mono ?_;rintro e wA cR;obtain ⟨pa,pc,rfl,bL,cl⟩:=pm cR;rw [← e1.o] at bL;have kA:Bl W4 wA:=k0.trans (cl.mono k0.size);have ex:Eq (cZ wA pa na pc P):=bL;clear cR bL cl;go_wp2_with fail
  refine hK.o _ _ (an _ kA) fun aa=>?_
  (try go_frame);refine aV 2 fun K hK=>?_
  go_simp;refine (CM.o pa pc _ ex.o).mono ?_;rintro e wB ⟨gB,cB,rfl,ch,ec⟩;have kB:Bl W4 wB:=kA.trans (ec.mono kA.size);have dV:Eq (ah wB (pT gB) nF cB (aS P.flatten)):=ch.entsAt;clear ch;go_wp2_with fail
  refine hK.o _ _ (an _ kB) fun aa=>?_
  (try go_frame);refine aV 8 fun K hK=>?_
  go_simp;refine (CB.o _ kB).mono ?_;rintro e wC ⟨rfl,d7⟩;have kC:Bl W4 wC:=kB.trans (d7.mono kB.size);go_wp2_with fail
  refine hK.o _ _ (an _ kC) fun aa=>?_
  (try go_frame);refine aV 9 fun K hK=>?_
  go_simp;refine (CQ.o _ _ _ kC (dV.o.keep d7)).mono ?_;rintro e wD ⟨gD,nD,cD,rfl,bu,dZ⟩;have kD:Bl W4 wD:=kC.trans (dZ.mono kC.size);have ep:Eq (ah wD (pT gD) nD cD U):=bu.entsAt;have ez:Eq (gD<wD.heap.size):=bu.lt.2;clear bu;go_wp2_with fail
  refine hK.o _ _ (an _ kD) fun aa=>?_
  (try go_frame);refine aR 10 1 aa ?_;refine dN ?_;go_wp2_with fail
  go_meet
  exact ⟨_,_,_,rfl,ep.o,ez.o,kD⟩
 case rest =>
  obtain ⟨gD,nD,cD,rfl,hD,cu,k5⟩:=hcut;clear k0 CL CM CB CQ an;have d0:=hD.length;have dM:=aE.o;have bw:=vB gD nD cD U wc hD cu (by omega);rw [show (fs U nD).1=dR U by unfold dR;rw [d0]] at bw;have K5:Eq (Bl y wc):=K4.o.trans (k5.mono K4.o.size);clear hD cu k5 d0 dM;go_wp2_with fail
  refine bw.mono ?_;rintro e w6 ⟨g6,m6,c6,rfl,b5,d2⟩;have K6:Eq (Bl y w6):=K5.o.trans (d2.mono K5.o.size);have em:(dR U).length=m6:=b5.1;have cz:=uU U U.length;have d6:m6≤100000:=by have:=aE.o;have h9:(dR U).length≤U.length:=cz;omega
  have dS:=cd.o.length;have e4:nO≤100:=by have h1:=bE.o.1;have h2:(offR T B).length≤B.length:=Jl _ _;omega
  have CO:=s8 gO 0 nO cO (offR T B) g6 0 m6 c6 (dR U) w6 (cd.o.keep K6.o) (b5.runsIn.mono (GQ _)) b5.lt.2 (fun r hr=>(bE.o.2 r (ID.1 hr).1).1) (fun r hr=>oT hr) (by omega) (by omega);have cp:Eq ((dO (offR T B) (dR U)).length≤200000):=by show _≤_;rw [oD];omega
  clear bw b5 d2 em cz d6 dS e4;go_wp2_with fail
  refine CO.mono ?_;rintro e w7 ⟨g7,n7,c7,ft,rfl,ci,df,bS⟩;have K7:Eq (Bl y w7):=K6.o.trans (bS.mono K6.o.size);obtain ⟨a7,fq,e7,ap⟩:=jM ci (df.low bS).den;cases e7;rw [bN.o] at ap;have cV:Eq (aw 0 w7 (pT g7) n7 c7 (ef T B C S 1)):=ap;have dk:n7≤1048576:=by have h1:=ap.length;have h2:=cp.o;rw [bN.o] at h2;omega
  have CF:=vA _ n7 c7 _ w7 ap dk;have dd:(iD (dO (offR T B) (dR (vu T B C S 1))) && decide (n7≤8))=OK:=by
   rw [cx.o,← ap.length];rfl
  rw [dd] at CF;clear CO ci df bS ap dk dd;go_wp2_with fail
  refine CF.mono ?_;rintro e D ⟨rfl,bJ⟩;have K8:Eq (Bl y D):=K7.o.trans (bJ.mono K7.o.size);have bH:Eq (Bl W D):=aY.o.trans (K8.o.mono aY.o.size);have R:Eq (Bl w D):=K2.o.trans (K8.o.mono K2.o.size);have eB:Eq (aw 0 D (pT g7) n7 c7 (ef T B C S 1)):=cV.o.keep bJ;have b8:=d8.o D bH.o;have y8:=(cJ.o D bH.o).1;have x0:=b8.all;clear CF bJ cV K7 K6 K5 K4 bg aD cp bN aE b8;cases OK with
  | false =>
   have r0:=y8.all;have eh:Eq (ay D (X+1) (iT 0) nZ nZ nZ):=y8;clear y8;go_wp2;refine bodyPost_ret (v:=.tuple #[.agg #[iT q,.slice aM m cm,sL I 3 cv,.slice aK f cs],.bool false]) ?_ rfl (show mJ _ _ _ _ _ _ _ _ _ _ _ _ from ⟨aM,m,cm,some ⟨I,0,none⟩,3,cv,aK,f,cs,rfl,?_,fun _=>rfl,fun h=>by cases h⟩)
   · have e:=(((eh.o.set0 (iT q)).set1 (.slice aM m cm)).set2 (sL I 3 cv)).set3 (.slice aK f cs);simp [results,Tryz.results119,go_sem,e.all]
   · have hx:w.heap.size≤X+1:=by have:=HX.o;omega
     exact jY R.o hx _ _ _ _
  | true =>
   have CC:=io lo q aM (pT I) aK m cm 3 cv f cs M [A,B,C] S D (ce.o.keep R.o) dJ hns (by omega) e0.o;go_wp2_with fail
   refine CC.mono ?_;rintro e w9 ⟨L,c1,G,c,g3,c3,rfl,am,ar⟩;clear CC x0;obtain ⟨bs,bF,aU,b4,O,N,hrow,rA,rB,rC,_,_⟩:=am.split;have ao:=hrow.lt G rfl;have bQ:Eq (D.heap.size≤G):=ao.1;have cT:X+1<D.heap.size:=y8.lt;have e2:Eq (X+1<D.heap.size):=cT;have ME:Eq (xD D.heap.size w9 L m c1 G c g3 f c3 O C.length N [sL bs A.length bF,sL aU B.length b4,sL O C.length N] M C S):=⟨am.mem,rC,am.slen,am.swf,am.sn,hrow⟩;have dX:Eq (Bl w w9):=R.o.trans (ar.mono R.o.size);have K9:Eq (Bl D w9):=ar;obtain ⟨Y,hY⟩:=aG w9.heap.size;obtain ⟨wY,b0⟩:=aG (w9.alloc (.cells #[iT q,sL L m c1,sL G 3 c,sL g3 f c3] 31));have kY:Bl w9 wY:=by rw [b0];exact bZ
   have bY:ay wY Y (iT q) (sL L m c1) (sL G 3 c) (sL g3 f c3):=by rw [b0,hY];exact ay.new _ _ _ _ _ _
   have aC:Eq (xD D.heap.size wY L m c1 G c g3 f c3 O C.length N [sL bs A.length bF,sL aU B.length b4,sL O C.length N] M C S):=ME.o.below kY;have KY:Eq (Bl D wY):=K9.o.trans (kY.mono K9.o.size);have dc:G≠Y:=by rw [hY];have:=ao.2;omega
   have dP:X+1≠G:=by have:=ao.1;omega
   have dg:Eq (X+1≠G):=dP;have y9:=(y8.keep ar).keep kY;have fi:X+1≠Y:=by have:=(y8.keep ar).lt;rw [hY];omega
   clear am rA rB rC hrow ar ao cT K9 dX ME y8;go_upto_region 10 with fail
   rw [← hY,← b0];clear hY b0 kY;obtain ⟨aB,H⟩:=aG (wY.setCell ⟨G,0,none⟩ (sL gr 0 0));obtain ⟨J,F⟩:=aG (aB.setCell ⟨G,1,none⟩ (sL g7 n7 c7));have ae:ay aB Y (iT q) (sL L m c1) (sL G 3 c) (sL g3 f c3):=by rw [H];exact bY.other dc _
   have bc:ay J Y (iT q) (sL L m c1) (sL G 3 c) (sL g3 f c3):=by rw [F];exact ae.other dc _
   have bK:ay J (X+1) (iT 0) nZ nZ nZ:=by rw [F,H];exact (y9.other dg.o.symm _).other dg.o.symm _
   have Q:Eq (xD D.heap.size aB L m c1 G c g3 f c3 O C.length N [sL gr 0 0,sL aU B.length b4,sL O C.length N] M C S):=by rw [H];exact aC.o.setG _ _
   have cC:Eq (xD D.heap.size J L m c1 G c g3 f c3 O C.length N [sL gr 0 0,sL g7 n7 c7,sL O C.length N] M C S):=by rw [F];exact Q.o.setG _ _
   have bp:Eq (Bl D J):=by rw [F,H];exact (KY.o.setCell (p:=⟨G,0,none⟩) bQ.o _).setCell (p:=⟨G,1,none⟩) bQ.o _
   have cG:Eq (Bl w J):=R.o.trans (bp.o.mono R.o.size);have fm:=(aC.o.row.lt G rfl).2;have di:=(Q.o.row.lt G rfl).2;have eg:Eq (aB.cell? ⟨G,1,none⟩=some (sL aU B.length b4)):=Q.o.row.cellAt 1 (by omega);have d4:Eq (ay J (X+1) (iT 0) nZ nZ nZ):=bK;have u2:=bY.c2;have uz:=bY.lt;have q0:wY.cell? ⟨G,0,none⟩=some (sL bs A.length bF):=aC.o.row.cellAt 0 (by omega);have gf:=fun o=>aC.o.row.frozenAt o
   have ck:Eq (∀o,aB.frozen? ⟨G,o,none⟩=false):=fun o=>Q.o.row.frozenAt o
   clear bY y9 aC Q;go_upto_region 11 with fail
   rw [← H];clear H u2 uz q0 gf;have u2:=ae.c2;have uz:=ae.lt;have gf:=ck.o;have q0:=eg.o;clear ae ck;go_upto_region 12 with fail
   rw [← F];clear F u2 uz q0 gf di;have u0:=bc.all;have r0:=bK.all;clear bc bK;go_wp2;refine bodyPost_ret (v:=.tuple #[.agg #[iT q,sL L m c1,sL G 3 c,sL g3 f c3],.bool true]) ?_ rfl ?_
   · have e:=(((d4.o.set0 (iT q)).set1 (sL L m c1)).set2 (sL G 3 c)).set3 (sL g3 f c3);simp [results,Tryz.results119,go_sem,e.all]
   · have hx:w.heap.size≤X+1:=by have:=HX.o;omega
     have ax:=jY cG.o hx (iT q) (sL L m c1) (sL G 3 c) (sL g3 f c3);have aX:=e2.o;have hM:=(((cC.o.setX aX 0 (iT q)).setX aX 1 (sL L m c1)).setX aX 2 (sL G 3 c)).setX aX 3 (sL g3 f c3);have hh:=tO J (X+1) (iT q) (sL L m c1) (sL G 3 c) (sL g3 f c3);have en:=tN J (X+1) (iT q) (sL L m c1) (sL G 3 c) (sL g3 f c3);have fg:=bp.o.size;have et:BW D (X+1):=(cJ.o D bH.o).2;have ao:=bQ.o;have fz:gr<D.heap.size:=E' (Ii.1 a8.o.1).1 R.o.size;obtain ⟨_,kG⟩:=aQ hM.row;obtain ⟨dY,k3⟩:=aQ hM.sn;generalize ((((J.setCell ⟨X+1,0,none⟩ (iT q)).setCell ⟨X+1,1,none⟩ (sL L m c1)).setCell ⟨X+1,2,none⟩ (sL G 3 c)).setCell ⟨X+1,3,none⟩ (sL g3 f c3))=wf at ax hM hh en kG k3 ⊢;have E:lw≤D.heap.size:=by have:=a8.o.2;omega
     have cr:∀{a n d g} {Z:List af},aw 0 D a n d Z→(D.heap.size≤g∨∀o,D.cell? ⟨g,o,none⟩=none)→dH (fun b=>b≠g∧b≠G) wf a n d Z:=fun {a n d g Z} h h2=>tj h et (by omega) (fun b hb hn=>(hh b hn).trans (bp.o.block b hb)) h2 ao
     exact ⟨some ⟨L,0,none⟩,m,c1,some ⟨G,0,none⟩,3,c,some ⟨g3,0,none⟩,f,c3,rfl,ax,(fun h=>by cases h),fun _=>⟨G,gr,0,g7,n7,c7,O,C.length,N,rfl,rfl,(cE.some hM.mem).mono E,eN hM.row E,qv ((ax.block gr (Ii.1 a8.o.1).1).trans a8.o.1) a8.o.2,cr eB.o (.inr (fun o=>by have h1:=(R.o.block gr (Ii.1 a8.o.1).1).trans a8.o.1;simp [World.cell?,h1])),hM.lev.toP ⟨by have:=hM.lev.lt.1;omega,fun e=>by obtain ⟨_,_,fo,h3,_⟩:=hM.lev;obtain ⟨_,kZ⟩:=aQ h3;rw [e] at kZ;exact absurd (kZ.kind kG) (by decide)⟩ (fun b sz hb kb=>⟨by omega,fun e=>by rw [e] at kb;exact absurd (kb.kind kG) (by decide)⟩),(jF hM.sn hM.slen hM.swf).lower E,fun x e _=>by cases e;exact ⟨dY,k3⟩⟩⟩
theorem EJ (lo lw:Nat) (q:Int) (aM:Option Addr) (m cm I cv:Nat) (aK:Option Addr) (f cs:Nat) (M:List ac) (A B C:List af) (S:List Int) (bt ot nt ct:Nat) (T:List af) (gr nr cr:Nat) (R:List af) (w:World) (hT:aZ lo w aM m cm (pT I) 3 cv aK f cs M [A,B,C] S) (dP:m≤1048576) (hns:f≤1048576) (b1:∀Z ∈ [A,B,C],Z.length≤100∧∀r ∈ Z,1≤r.1.length∧r.1.length≤10000) (bU:aw 0 w (some ⟨bt,ot,none⟩) nt ct T) (fv:nt≤100) (hR:aw 0 w (pT gr) nr cr R) (cl:lw≤w.heap.size) (aL:gX T C) (bg:(bG (dW T C)).flatten.length≤100000) :
 Calls Tryz.prog 119 #[.agg #[iT q,.slice aM m cm,sL I 3 cv,.slice aK f cs],iT 1,sO bt ot nt ct,sL gr nr cr] w (mJ lw q (.agg #[iT q,.slice aM m cm,sL I 3 cv,.slice aK f cs]) M A R (ef T C C S 2) S (yr T C C S 2) w):=by
 obtain ⟨j0,hj,dd,cS,d0⟩:=info_parts Tryz.infoRun;obtain ⟨X,hX⟩:=aG w.heap.size;obtain ⟨W,hW⟩:=aG ((w.alloc (.cells #[iT q,.slice aM m cm,sL I 3 cv,.slice aK f cs] 31)).alloc (.cells #[iT 0,nZ,nZ,nZ] 31));have kW:Bl w W:=by rw [hW];exact bZ.alloc (by simp) _
 have bx:ay W X (iT q) (.slice aM m cm) (sL I 3 cv) (.slice aK f cs):=by rw [hW,hX];exact (ay.new _ _ _ _ _ _).alloc _
 have br:ay W (X+1) (iT 0) nZ nZ nZ∧aq W (X+1) 31 4:=by
  have:=ay.new (w.alloc (.cells #[iT q,.slice aM m cm,sL I 3 cv,.slice aK f cs] 31)) 31 (iT 0) nZ nZ nZ;rw [GY] at this;rw [hW,hX];have h2:=cX (w.alloc (.cells #[iT q,.slice aM m cm,sL I 3 cv,.slice aK f cs] 31)) #[iT 0,nZ,nZ,nZ] 31;rw [GY] at h2;exact ⟨this,h2⟩
 have HX:Eq (X=w.heap.size):=hX;have K0:Eq (Bl w W):=kW;have cP:Eq (∀w',Bl W w'→ay w' (X+1) (iT 0) nZ nZ nZ∧BW w' (X+1)):=fun w' k=>⟨br.1.keep k,gN (br.2.below k) (br.1.keep k)⟩
 have dc:Eq (∀w',Bl W w'→ay w' X (iT q) (.slice aM m cm) (sL I 3 cv) (.slice aK f cs)):=fun w' k=>bx.keep k
 have fi:Eq (∀w',Bl W w'→aq w' (X+1) 31 4):=fun w' k=>br.2.below k
 have cW:=j' (l:=T) (i:=0) (by have:=aL.t0;omega);obtain ⟨r0,aF⟩:∃r0,T[0]?=some r0:=⟨_,cW⟩;obtain ⟨low,D⟩:=aG (jf T);obtain ⟨aj,a5⟩:=aG (fM T);have bd:low=fS (bj r0.1) T:=by rw [D];unfold jf;rw [aF]
 have bf:aj=dG (aT r0.1) T:=by rw [a5];unfold fM;rw [aF]
 obtain ⟨nx,bn,bw,hN⟩:∃aN nN cN,w.cell? ⟨I,2,none⟩=some (.slice aN nN cN)∧aw 0 w aN nN cN C:=by
  obtain ⟨s,n,c,h1,h2⟩:=hT.levels.levels _ rfl 2 (by simp);exact ⟨s,n,c,by simpa using h1,h2.mono (GQ _)⟩
 obtain ⟨d9,hN⟩:=hN;obtain ⟨a2,n2,c2,d2,hC⟩:∃aN nN cN,w.cell? ⟨I,2,none⟩=some (.slice aN nN cN)∧aw 0 w aN nN cN C:=by
  obtain ⟨s,n,c,h1,h2⟩:=hT.levels.levels _ rfl 2 (by simp);exact ⟨s,n,c,by simpa using h1,h2.mono (GQ _)⟩
 have bF:=b1 C (by simp);have di:=b1 C (by simp);have ex:=hN.length;have ey:=hC.length;have d3:Eq (w.cell? ⟨I,2,none⟩=some (.slice nx bn bw)):=d9;have CR:Eq (∀w',Bl w w'→Calls Tryz.prog 176 #[sO bt ot nt ct] w' fun e t=>e=.returned (.tuple #[.string low,.string aj])∧Bl w' t):=fun w' k=>by
  rw [bd,bf];exact ol bt ot nt ct T r0 w' (bU.keep k) aF (fun r hr=>(aL.tok r hr).2) (by omega)
 have CP:Eq (∀w',Bl w w'→Calls Tryz.prog 177 #[.slice nx bn bw,.string low,.string aj] w' fun e t=>∃N n1 c1 g2 n2 c2,e=.returned (.tuple #[sL N n1 c1,sL g2 n2 c2])∧aw 0 t (pT N) n1 c1 (EP T C)∧aw 0 t (pT g2) n2 c2 (offR T C)∧Bl w' t):=fun w' k=>by
  unfold EP offR;rw [← D,← a5];exact qp nx bn bw C low aj w' (hN.keep k) (fun r hr=>(bF.2 r hr).1) (by omega)
 have ck:=az hT;have dK:=az bU;have cM:Eq (aw 0 w (pT gr) nr cr R∧lw≤w.heap.size):=⟨hR,cl⟩;have cw:Eq (w.cell? ⟨I,2,none⟩=some (.slice a2 n2 c2)∧aw 0 w a2 n2 c2 C):=⟨d2,hC⟩;have cz:=az aL;have eg:Eq (T[0]?=some r0):=aF;have cT:=az bg;have bI:Eq (C.length≤100∧∀r ∈ C,1≤r.1.length∧r.1.length≤10000):=bF;have d7:Eq (n2≤1000∧∀r ∈ C,1≤r.1.length):=⟨by omega,fun r hr=>(di.2 r hr).1⟩;have e4:=az b1;obtain ⟨OK,bh⟩:=aG (yr T C C S 2);have cG:Eq (OK=yr T C C S 2):=bh;rw [← bh];have l0:=cell_later kW d3.o;have lz:=GK _ _ l0;simp only at lz;clear kW cW D a5 bd bf hT bU hR cl d2 hC aL aF bg bF di b1 d9 hN br ex ey bh l0 lz;go_enter Tryz.func119,Tryz.ntmps119
 go_wp2_with fail
 rw [← hX,← hW];clear hX hW;refine (CR.o _ K0.o).mono ?_;rintro e w1 ⟨rfl,aI⟩;have cH:Eq (Bl W w1):=aI;have K1:Eq (Bl w w1):=K0.o.trans (aI.mono K0.o.size);have x2:=(bx.keep aI).c2;have xz:=(bx.keep aI).lt;have l0:=cell_later K1.o d3.o;have lz:=GK _ _ l0;simp only at lz;clear aI bx;go_wp2_with fail
 clear x2 xz l0 lz;refine (CP.o _ K1.o).mono ?_;rintro e y ⟨gI,nI,cI,gO,nO,cO,rfl,hI,hO,bo⟩;have aW:Eq (Bl W y):=cH.o.trans (bo.mono cH.o.size);have K2:Eq (Bl w y):=K1.o.trans (bo.mono K1.o.size);have cj:Eq (aw 0 y (pT gO) nO cO (offR T C)):=hO;have ed:=hI.length;have dX:nI≤100:=by have h1:=bI.o.1;have h2:=(mv T C).length_le;omega
 obtain ⟨au,dT,rT⟩:=(dK.o.keep K2.o).raw;obtain ⟨bs,dI,rI⟩:=hI.raw;have cd:Eq (ee (·<y.heap.size) y (au++bs) (dW T C)):=dT.denP.app dI.denP;have bm:Eq (pE y (sO bt ot nt ct) nt au):=rT;have aP:Eq (pE y (sL gI nI cI) nI bs):=rI;have ka:Bl y (y.alloc (.cells #[] 63)):=bZ;have KA:Eq (Bl y (y.alloc (.cells #[] 63))):=ka;have R1:Eq ((y.alloc (.cells #[] 63)).ownsRow y.heap.size 63 2 (sL (y.heap.size) 0 0) 0 []):=by
  have:=Hi (base:=y.heap.size) (e:=63) (size:=2) y #[] 0 (GL _) (by simp) (by simp);show World.ownsRow _ _ _ _ _ _ _
  simpa using this
 have cf:Eq (∀j u,au[j]?=some u→(y.alloc (.cells #[] 63)).cell? ((⟨bt,ot,none⟩:Addr).add j)=some u):=fun j u hu=>by
  rcases (rT.keep ka).2.2 with ⟨h,_⟩ | ⟨b,o,c,h,hc⟩
  · cases h
  · cases h;rw [G6];exact hc j u hu
 clear hI hO bo dT dI rT rI ka CR CP ed;go_wp2_with (first
  | (at_builtin;refine wpList_append_own _ rfl _ _ 61 rfl y.heap.size 63 j0 _ 2 32 Tryz.underlying61 hj dd cS d0 rfl (by decide) _ _ _ rfl bC.o ⟨gI,0,none⟩ nI cI bs rfl aP.o.1 dl.o aP.o.2.1 (by unfold maxLen;omega) (by omega) (by have:=K3.o.size;omega) ?_;intro v4 W4 ab ak aH;obtain ⟨gA,cA,rfl⟩:=aO ab aH)
  | (at_builtin;refine wpList_append_own _ rfl _ _ 61 rfl y.heap.size 63 j0 _ 2 32 Tryz.underlying61 hj dd cS d0 rfl (by decide) _ _ _ rfl R1.o ⟨bt,ot,none⟩ nt ct au rfl bm.o.1 cf.o bm.o.2.1 (by unfold maxLen;omega) (by omega) (by simp) ?_;intro v3 w3 a4 ai aE;obtain ⟨eo,en,rfl⟩:=aO a4 aE;have bC:Eq (w3.ownsRow y.heap.size 63 2 (sL eo nt en) nt au):=(by show World.ownsRow _ _ _ _ _ _ _;simpa using a4);have K3:Eq (Bl y w3):=KA.o.grown ai KA.o.size (fun k e=>(R1.o.lt k e).1);have dl:=mX (aP.o.keep K3.o);clear a4 ai aE))
 have k4:Bl y W4:=K3.o.grown ak K3.o.size (fun k e=>(bC.o.lt k e).1);have K4:Eq (Bl y W4):=k4;have bi:Eq (Bl W W4):=aW.o.trans (k4.mono aW.o.size);have aC:Eq (Bl w W4):=K2.o.trans (k4.mono K2.o.size);obtain ⟨na,cp⟩:=aG (nt+nI);have b5:na≤1000:=by omega
 obtain ⟨aA,fz,eA,b3⟩:=jM ab (cd.o.low k4).den;cases eA;rw [← cp] at b3 ⊢;obtain ⟨P,hP⟩:=aG (bG (dW T C));obtain ⟨nF,bK⟩:=aG P.flatten.length;obtain ⟨BR,bH⟩:=aG (mc T C C 2);obtain ⟨SQ,b0⟩:=aG (vu T C C S 2);have es:nF≤100000:=by rw [bK,hP];exact cT.o
 have a6:(dW T C)[0]?=some r0:=by unfold dW;rw [GW (by have:=cz.o.t0;omega)];exact eg.o
 have CL:Eq (∀w',Bl W4 w'→Calls Tryz.prog 178 #[sL gA na cA] w' (ss na (dW T C) w')):=fun w' k=>tc _ na cA (dW T C) w' (b3.keep k) (by omega)
 have CM:Eq (∀pa pc w',cZ w' pa na pc P→Calls Tryz.prog 109 #[.slice pa na pc] w' fun e t=>∃g cg,e=.returned (sL g nF cg)∧ag t w'.heap.size g nF cg (aS P.flatten)∧Bl w' t):=fun pa pc w' h=>by
  rw [bK];exact s9 pa na pc P w' h (by omega)
 have CB:Eq (∀w',Bl W4 w'→Calls Tryz.prog 179 #[.agg #[iT q,.slice aM m cm,sL I 3 cv,.slice aK f cs],iT 2,sL gA na cA] w' fun e t=>e=.returned (.bool BR)∧Bl w' t):=fun w' k=>by
  have kk:=aC.o.trans (k.mono aC.o.size);have:=vC q aM m cm I 0 cv aK f cs a2 n2 c2 C 2 gA 0 na cA (dW T C) r0 w' (by simpa using cell_later kk cw.o.1) (cw.o.2.keep kk) d7.o.1 d7.o.2 (b3.keep k) a6 (fun r hr=>(cz.o.all r hr).2) b5;have e:BR=(decide ((2:Int)=2) || decide ((C.filter (eG (fS (bj r0.1) (dW T C)) (dG (aT r0.1) (dW T C)))).length=0)):=by
   rw [bH];unfold mc jf fM;simp only [a6]
  rw [e];exact this
 have CQ:Eq (∀al cg w',Bl W4 w'→ah w' al nF cg (aS P.flatten)→Calls Tryz.prog 174 #[.slice al nF cg,.slice aK f cs,.bool BR] w' fun e t=>∃g n' c',e=.returned (sL g n' c')∧ag t w'.heap.size g n' c' SQ∧Bl w' t):=fun al cg w' k h=>by
  have e:SQ=bT (aS P.flatten) S BR:=by rw [b0,hP,bH];rfl
  rw [e];exact mj lo al nF cg (aS P.flatten) _ f cs S BR w' h (ck.o.snaps.keep (aC.o.trans (k.mono aC.o.size))) (by omega)
 have bR:Eq (SQ=vu T C C S 2):=b0;have e5:Eq (P=bG (dW T C)):=hP;have aD:Eq (SQ.length≤100000):=by
  rw [b0];have h1:=kj (aS (bG (dW T C)).flatten) S (mc T C C 2);have h2:=i8 (bG (dW T C)).flatten;have h3:=cT.o;show (vu T C C S 2).length≤_
  unfold vu;omega
 have an:∀w',Bl W4 w'→(w'.cell? ⟨X,0,none⟩=some (iT q)∧w'.cell? ⟨X,1,none⟩=some (.slice aM m cm)∧w'.cell? ⟨X,2,none⟩=some (sL I 3 cv)∧w'.cell? ⟨X,3,none⟩=some (.slice aK f cs)∧X<w'.heap.size):=fun w' k=>by
  have b:=dc.o w' (bi.o.trans (k.mono bi.o.size));exact ⟨b.c0,b.c1,b.c2,b.c3,b.lt⟩
 have k0:Bl W4 W4.drew:=(Below.refl _ W4).drew;clear ab ak aH k4 cp b3 hP bK bH b0 es a6 b5 cd bm aP dl cf bC R1 KA K3 dX;go_upto_region 5 with fail
 go_cut [16] (fun s wx=>∃gD nD cD,s=sL gD nD cD∧ah wx (pT gD) nD cD SQ∧gD<wx.heap.size∧Bl W4 wx)
 case first =>
  refine DS an k0 fun aa=>?_
  generalize W4.drew=wd at k0 aa ⊢;refine aR 0 1 aa ?_;refine aR 3 5 aa ?_;refine aV 1 fun K hK=>?_
  go_simp;refine (CL.o _ k0).mono ?_;rintro e wA cV;obtain ⟨pa,pc,rfl,bN,cu⟩:=pm cV;rw [← e5.o] at bN;have kA:Bl W4 wA:=k0.trans (cu.mono k0.size);have eB:Eq (cZ wA pa na pc P):=bN;clear cV bN cu;go_wp2_with fail
  refine hK.o _ _ (an _ kA) fun aa=>?_
  (try go_frame);refine aV 2 fun K hK=>?_
  go_simp;refine (CM.o pa pc _ eB.o).mono ?_;rintro e wB ⟨gB,cB,rfl,cn,ei⟩;have kB:Bl W4 wB:=kA.trans (ei.mono kA.size);have e0:Eq (ah wB (pT gB) nF cB (aS P.flatten)):=cn.entsAt;clear cn;go_wp2_with fail
  refine hK.o _ _ (an _ kB) fun aa=>?_
  (try go_frame);refine aV 8 fun K hK=>?_
  go_simp;refine (CB.o _ kB).mono ?_;rintro e wC ⟨rfl,db⟩;have kC:Bl W4 wC:=kB.trans (db.mono kB.size);go_wp2_with fail
  refine hK.o _ _ (an _ kC) fun aa=>?_
  (try go_frame);refine aV 9 fun K hK=>?_
  go_simp;refine (CQ.o _ _ _ kC (e0.o.keep db)).mono ?_;rintro e wD ⟨gD,nD,cD,rfl,bz,e3⟩;have kD:Bl W4 wD:=kC.trans (e3.mono kC.size);have et:Eq (ah wD (pT gD) nD cD SQ):=bz.entsAt;have eD:Eq (gD<wD.heap.size):=bz.lt.2;clear bz;go_wp2_with fail
  refine hK.o _ _ (an _ kD) fun aa=>?_
  (try go_frame);refine aR 10 1 aa ?_;refine dN ?_;go_wp2_with fail
  go_meet
  exact ⟨_,_,_,rfl,et.o,eD.o,kD⟩
 case rest =>
  obtain ⟨gD,nD,cD,rfl,hD,cC,k5⟩:=hcut;clear k0 CL CM CB CQ an;have d4:=hD.length;have dU:=aD.o;have bA:=vB gD nD cD SQ wc hD cC (by omega);rw [show (fs SQ nD).1=dR SQ by unfold dR;rw [d4]] at bA;have K5:Eq (Bl y wc):=K4.o.trans (k5.mono K4.o.size);clear hD cC k5 d4 dU;go_wp2_with fail
  refine bA.mono ?_;rintro e w6 ⟨g6,m6,c6,rfl,b4,d6⟩;have K6:Eq (Bl y w6):=K5.o.trans (d6.mono K5.o.size);have ep:(dR SQ).length=m6:=b4.1;have cJ:=uU SQ SQ.length;have da:m6≤100000:=by have:=aD.o;have h9:(dR SQ).length≤SQ.length:=cJ;omega
  have dY:=cj.o.length;have e9:nO≤100:=by have h1:=bI.o.1;have h2:(offR T C).length≤C.length:=Jl _ _;omega
  have CO:=s8 gO 0 nO cO (offR T C) g6 0 m6 c6 (dR SQ) w6 (cj.o.keep K6.o) (b4.runsIn.mono (GQ _)) b4.lt.2 (fun r hr=>(bI.o.2 r (ID.1 hr).1).1) (fun r hr=>oT hr) (by omega) (by omega);have cy:Eq ((dO (offR T C) (dR SQ)).length≤200000):=by show _≤_;rw [oD];omega
  clear bA b4 d6 ep cJ da dY e9;go_wp2_with fail
  refine CO.mono ?_;rintro e w7 ⟨g7,n7,c7,ft,rfl,co,dj,bX⟩;have K7:Eq (Bl y w7):=K6.o.trans (bX.mono K6.o.size);obtain ⟨a7,fp,e7,ap⟩:=jM co (dj.low bX).den;cases e7;rw [bR.o] at ap;have d1:Eq (aw 0 w7 (pT g7) n7 c7 (ef T C C S 2)):=ap;have dp:n7≤1048576:=by have h1:=ap.length;have h2:=cy.o;rw [bR.o] at h2;omega
  have CF:=vA _ n7 c7 _ w7 ap dp;have dh:(iD (dO (offR T C) (dR (vu T C C S 2))) && decide (n7≤8))=OK:=by
   rw [cG.o,← ap.length];rfl
  rw [dh] at CF;clear CO co dj bX ap dp dh;go_wp2_with fail
  refine CF.mono ?_;rintro e E ⟨rfl,bL⟩;have K8:Eq (Bl y E):=K7.o.trans (bL.mono K7.o.size);have bJ:Eq (Bl W E):=aW.o.trans (K8.o.mono aW.o.size);have U:Eq (Bl w E):=K2.o.trans (K8.o.mono K2.o.size);have eE:Eq (aw 0 E (pT g7) n7 c7 (ef T C C S 2)):=d1.o.keep bL;have b8:=dc.o E bJ.o;have y8:=(cP.o E bJ.o).1;have x0:=b8.all;clear CF bL d1 K7 K6 K5 K4 bi aC cy bR aD b8;cases OK with
  | false =>
   have r0:=y8.all;have ek:Eq (ay E (X+1) (iT 0) nZ nZ nZ):=y8;clear y8;go_wp2;refine bodyPost_ret (v:=.tuple #[.agg #[iT q,.slice aM m cm,sL I 3 cv,.slice aK f cs],.bool false]) ?_ rfl (show mJ _ _ _ _ _ _ _ _ _ _ _ _ from ⟨aM,m,cm,some ⟨I,0,none⟩,3,cv,aK,f,cs,rfl,?_,fun _=>rfl,fun h=>by cases h⟩)
   · have e:=(((ek.o.set0 (iT q)).set1 (.slice aM m cm)).set2 (sL I 3 cv)).set3 (.slice aK f cs);simp [results,Tryz.results119,go_sem,e.all]
   · have hx:w.heap.size≤X+1:=by have:=HX.o;omega
     exact jY U.o hx _ _ _ _
  | true =>
   have CC:=io lo q aM (pT I) aK m cm 3 cv f cs M [A,B,C] S E (ck.o.keep U.o) dP hns (by omega) e4.o;go_wp2_with fail
   refine CC.mono ?_;rintro e w9 ⟨N,c1,G,c,g3,c3,rfl,am,ar⟩;clear CC x0;obtain ⟨L,O,bp,bQ,b2,aX,hrow,rA,rB,rC,_,_⟩:=am.split;have ao:=hrow.lt G rfl;have bV:Eq (E.heap.size≤G):=ao.1;have cY:X+1<E.heap.size:=y8.lt;have e6:Eq (X+1<E.heap.size):=cY;have ME:Eq (xD E.heap.size w9 N m c1 G c g3 f c3 L A.length O [sL L A.length O,sL bp B.length bQ,sL b2 C.length aX] M A S):=⟨am.mem,rA,am.slen,am.swf,am.sn,hrow⟩;have e1:Eq (Bl w w9):=U.o.trans (ar.mono U.o.size);have K9:Eq (Bl E w9):=ar;obtain ⟨Y,hY⟩:=aG w9.heap.size;obtain ⟨wY,aY⟩:=aG (w9.alloc (.cells #[iT q,sL N m c1,sL G 3 c,sL g3 f c3] 31));have kY:Bl w9 wY:=by rw [aY];exact bZ
   have bY:ay wY Y (iT q) (sL N m c1) (sL G 3 c) (sL g3 f c3):=by rw [aY,hY];exact ay.new _ _ _ _ _ _
   have aB:Eq (xD E.heap.size wY N m c1 G c g3 f c3 L A.length O [sL L A.length O,sL bp B.length bQ,sL b2 C.length aX] M A S):=ME.o.below kY;have KY:Eq (Bl E wY):=K9.o.trans (kY.mono K9.o.size);have dg:G≠Y:=by rw [hY];have:=ao.2;omega
   have dV:X+1≠G:=by have:=ao.1;omega
   have dk:Eq (X+1≠G):=dV;have y9:=(y8.keep ar).keep kY;have fj:X+1≠Y:=by have:=(y8.keep ar).lt;rw [hY];omega
   clear am rA rB rC hrow ar ao cY K9 e1 ME y8;go_upto_region 10 with fail
   rw [← hY,← aY];clear hY aY kY;obtain ⟨ax,H⟩:=aG (wY.setCell ⟨G,1,none⟩ (sL gr nr cr));obtain ⟨J,F⟩:=aG (ax.setCell ⟨G,2,none⟩ (sL g7 n7 c7));have ae:ay ax Y (iT q) (sL N m c1) (sL G 3 c) (sL g3 f c3):=by rw [H];exact bY.other dg _
   have be:ay J Y (iT q) (sL N m c1) (sL G 3 c) (sL g3 f c3):=by rw [F];exact ae.other dg _
   have bM:ay J (X+1) (iT 0) nZ nZ nZ:=by rw [F,H];exact (y9.other dk.o.symm _).other dk.o.symm _
   have Q:Eq (xD E.heap.size ax N m c1 G c g3 f c3 L A.length O [sL L A.length O,sL gr nr cr,sL b2 C.length aX] M A S):=by rw [H];exact aB.o.setG _ _
   have bb:Eq (xD E.heap.size J N m c1 G c g3 f c3 L A.length O [sL L A.length O,sL gr nr cr,sL g7 n7 c7] M A S):=by rw [F];exact Q.o.setG _ _
   have bu:Eq (Bl E J):=by rw [F,H];exact (KY.o.setCell (p:=⟨G,1,none⟩) bV.o _).setCell (p:=⟨G,2,none⟩) bV.o _
   have cL:Eq (Bl w J):=U.o.trans (bu.o.mono U.o.size);have fm:=(aB.o.row.lt G rfl).2;have dm:=(Q.o.row.lt G rfl).2;have ej:Eq (ax.cell? ⟨G,2,none⟩=some (sL b2 C.length aX)):=Q.o.row.cellAt 2 (by omega);have d8:Eq (ay J (X+1) (iT 0) nZ nZ nZ):=bM;have u2:=bY.c2;have uz:=bY.lt;have q0:wY.cell? ⟨G,1,none⟩=some (sL bp B.length bQ):=aB.o.row.cellAt 1 (by omega);have gf:=fun o=>aB.o.row.frozenAt o
   have cq:Eq (∀o,ax.frozen? ⟨G,o,none⟩=false):=fun o=>Q.o.row.frozenAt o
   clear bY y9 aB Q;go_upto_region 11 with fail
   rw [← H];clear H u2 uz q0 gf;have u2:=ae.c2;have uz:=ae.lt;have gf:=cq.o;have q0:=ej.o;clear ae cq;go_upto_region 12 with fail
   rw [← F];clear F u2 uz q0 gf dm;have u0:=be.all;have r0:=bM.all;clear be bM;go_wp2;refine bodyPost_ret (v:=.tuple #[.agg #[iT q,sL N m c1,sL G 3 c,sL g3 f c3],.bool true]) ?_ rfl ?_
   · have e:=(((d8.o.set0 (iT q)).set1 (sL N m c1)).set2 (sL G 3 c)).set3 (sL g3 f c3);simp [results,Tryz.results119,go_sem,e.all]
   · have hx:w.heap.size≤X+1:=by have:=HX.o;omega
     have ba:=jY cL.o hx (iT q) (sL N m c1) (sL G 3 c) (sL g3 f c3);have aU:=e6.o;have hM:=(((bb.o.setX aU 0 (iT q)).setX aU 1 (sL N m c1)).setX aU 2 (sL G 3 c)).setX aU 3 (sL g3 f c3);have hh:=tO J (X+1) (iT q) (sL N m c1) (sL G 3 c) (sL g3 f c3);have er:=tN J (X+1) (iT q) (sL N m c1) (sL G 3 c) (sL g3 f c3);have fh:=bu.o.size;have ew:BW E (X+1):=(cP.o E bJ.o).2;have ao:=bV.o;have cc:=bb.o.lev.lt.1;obtain ⟨_,kG⟩:=aQ hM.row;obtain ⟨e2,k3⟩:=aQ hM.sn;generalize ((((J.setCell ⟨X+1,0,none⟩ (iT q)).setCell ⟨X+1,1,none⟩ (sL N m c1)).setCell ⟨X+1,2,none⟩ (sL G 3 c)).setCell ⟨X+1,3,none⟩ (sL g3 f c3))=wf at ba hM hh er kG k3 ⊢;have D:lw≤E.heap.size:=GU cM.o.2 U.o.size;have b9:∀{a n d g} {Z:List af},aw 0 E a n d Z→(E.heap.size≤g∨∀o,E.cell? ⟨g,o,none⟩=none)→dH (fun b=>b≠g∧b≠G) wf a n d Z:=fun {a n d g Z} h h2=>tj h ew (by omega) (fun b hb hn=>(hh b hn).trans (bu.o.block b hb)) h2 ao
     exact ⟨some ⟨N,0,none⟩,m,c1,some ⟨G,0,none⟩,3,c,some ⟨g3,0,none⟩,f,c3,rfl,ba,(fun h=>by cases h),fun _=>⟨G,L,O,gr,nr,cr,g7,n7,c7,rfl,rfl,(cE.some hM.mem).mono D,eN hM.row D,hM.lev.mono D,b9 (cM.o.1.keep U.o) (.inl cc),b9 eE.o (.inl cc),(jF hM.sn hM.slen hM.swf).lower D,fun x e _=>by cases e;exact ⟨e2,k3⟩⟩⟩
theorem ml {lo:Nat} {w:World} {b n c i j:Nat} {B:List af} (h:aw lo w (pT b) n c B) (f:i≤j) (g:j≤n):aw lo w (some ⟨b,if c=i then 0 else i*2,none⟩) (j - i) (c - i) ((B.drop i).take (j - i)) where
 length:=by rw [GS,G7,h.length];omega
 room:=by have:=h.room;omega
 big:=by have:=h.big;omega
 nil:=fun e=>by cases e
 lies:=fun x e hp=>by
  have h1:=h.lies _ rfl (by omega)
  cases e
  exact h1
 runs:=fun x e t d=>by
  rw [GS,G7,h.length] at d
  have hc:¬c=i:=by have:=h.room;omega
  have hl:i+t<B.length:=by rw [h.length];omega
  have h1:=h.runs _ rfl (i+t) hl
  cases e
  rw [If,Ij,if_neg hc]
  simp only [GT] at h1
  rw [show i*2+t*2=(i+t)*2 by omega]
  exact h1
end Go.Proofs.YtpobkmjicbobdaaGreat
