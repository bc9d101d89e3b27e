/- Walks. -/
import Derived.Test.YtpobkmjicbobdaaGreatBD20
namespace Go.Proofs.YtpobkmjicbobdaaGreat
set_option maxRecDepth 100000
set_option maxHeartbeats 40000000
open Go.RowKit
theorem Ei (lo lw:Nat) (q:Int) (aM:Option Addr) (m cm I cv:Nat) (aK:Option Addr) (f cs:Nat) (M:List ac) (A B C:List af) (S:List Int) (bt ot nt ct:Nat) (T:List af) (gr:Nat) (w:World) (hT:bn lo w aM m cm (pT I) 3 cv aK f cs M [A,B,C] S) (dK:m≤1048576) (hns:f≤1048576) (b0:∀Z ∈ [A,B,C],Z.length≤100∧∀r ∈ Z,1≤r.1.length∧r.1.length≤10000) (bP:aw 0 w (some ⟨bt,ot,none⟩) nt ct T) (fv:nt≤100) (cG:w.heap[gr]?=some (.cells #[] 63 (0,0))) (cf:lw≤gr) (aT:gN T B) (bc:(bE (dQ T B)).flatten.length≤100000) :
 Calls Tryz.prog 119 #[.agg #[iT q,.slice aM m cm,sL I 3 cv,.slice aK f cs],iT 0,sO bt ot nt ct,sL gr 0 0] w (mj lw q (.agg #[iT q,.slice aM m cm,sL I 3 cv,.slice aK f cs]) M [] (dX T B C S 1) C S (xO T B C S 1) w):=by
 obtain ⟨j0,hj,d8,cL,cT⟩:=info_parts Tryz.infoRun;obtain ⟨X,hX⟩:=aF w.heap.size;obtain ⟨W,hW⟩:=aF ((w.alloc (.cells #[iT q,.slice aM m cm,sL I 3 cv,.slice aK f cs] 31)).alloc (.cells #[iT 0,nZ,nZ,nZ] 31));have kW:Bl w W:=by rw [hW];exact bZ.alloc (by simp) _
 have bx:ay W X (iT q) (.slice aM m cm) (sL I 3 cv) (.slice aK f cs):=by rw [hW,hX];exact (ay.new _ _ _ _ _ _).alloc _
 have br:ay W (X+1) (iT 0) nZ nZ nZ∧aq W (X+1) 31 4:=by
  have:=ay.new (w.alloc (.cells #[iT q,.slice aM m cm,sL I 3 cv,.slice aK f cs] 31)) 31 (iT 0) nZ nZ nZ;rw [Gu] at this;rw [hW,hX];have h2:=cU (w.alloc (.cells #[iT q,.slice aM m cm,sL I 3 cv,.slice aK f cs] 31)) #[iT 0,nZ,nZ,nZ] 31;rw [Gu] at h2;exact ⟨this,h2⟩
 have HX:Eq (X=w.heap.size):=hX;have K0:Eq (Bl w W):=kW;have cH:Eq (∀w',Bl W w'→ay w' (X+1) (iT 0) nZ nZ nZ∧Bq w' (X+1)):=fun w' k=>⟨br.1.keep k,gE (br.2.below k) (br.1.keep k)⟩
 have d7:Eq (∀w',Bl W w'→ay w' X (iT q) (.slice aM m cm) (sL I 3 cv) (.slice aK f cs)):=fun w' k=>bx.keep k
 have fi:Eq (∀w',Bl W w'→aq w' (X+1) 31 4):=fun w' k=>br.2.below k
 have cR:=j' (l:=T) (i:=0) (by have:=aT.t0;omega);obtain ⟨r0,aH⟩:∃r0,T[0]?=some r0:=⟨_,cR⟩;obtain ⟨low,E⟩:=aF (iR T);obtain ⟨ai,a4⟩:=aF (fE T);have b9:low=fJ (bh r0.1) T:=by rw [E];unfold iR;rw [aH]
 have bb:ai=dw (aQ r0.1) T:=by rw [a4];unfold fE;rw [aH]
 obtain ⟨nx,bj,bp,hN⟩:∃aN nN cN,w.cell? ⟨I,1,none⟩=some (.slice aN nN cN)∧aw 0 w aN nN cN B:=by
  obtain ⟨s,n,c,h1,h2⟩:=hT.levels.levels _ rfl 1 (by simp);exact ⟨s,n,c,by simpa using h1,h2.mono (Gl _)⟩
 obtain ⟨d4,hN⟩:=hN;obtain ⟨a2,n2,c2,cW,hC⟩:∃aN nN cN,w.cell? ⟨I,2,none⟩=some (.slice aN nN cN)∧aw 0 w aN nN cN C:=by
  obtain ⟨s,n,c,h1,h2⟩:=hT.levels.levels _ rfl 2 (by simp);exact ⟨s,n,c,by simpa using h1,h2.mono (Gl _)⟩
 have bB:=b0 B (by simp);have dd:=b0 C (by simp);have ev:=hN.length;have ex:=hC.length;have cY:Eq (w.cell? ⟨I,1,none⟩=some (.slice nx bj bp)):=d4;have CR:Eq (∀w',Bl w w'→Calls Tryz.prog 176 #[sO bt ot nt ct] w' fun e t=>e=.returned (.tuple #[.string low,.string ai])∧Bl w' t):=fun w' k=>by
  rw [b9,bb];exact ng bt ot nt ct T r0 w' (bP.keep k) aH (fun r hr=>(aT.tok r hr).2) (by omega)
 have CP:Eq (∀w',Bl w w'→Calls Tryz.prog 177 #[.slice nx bj bp,.string low,.string ai] w' fun e t=>∃L n1 c1 g2 n2 c2,e=.returned (.tuple #[sL L n1 c1,sL g2 n2 c2])∧aw 0 t (pT L) n1 c1 (En T B)∧aw 0 t (pT g2) n2 c2 (offR T B)∧Bl w' t):=fun w' k=>by
  unfold En offR;rw [← E,← a4];exact pI nx bj bp B low ai w' (hN.keep k) (fun r hr=>(bB.2 r hr).1) (by omega)
 have ce:=az hT;have dF:=az bP;have a8:Eq (w.heap[gr]?=some (.cells #[] 63 (0,0))∧lw≤gr):=⟨cG,cf⟩;have cn:Eq (w.cell? ⟨I,2,none⟩=some (.slice a2 n2 c2)∧aw 0 w a2 n2 c2 C):=⟨cW,hC⟩;have cq:=az aT;have ec:Eq (T[0]?=some r0):=aH;have cM:=az bc;have bD:Eq (B.length≤100∧∀r ∈ B,1≤r.1.length∧r.1.length≤10000):=bB;have d2:Eq (n2≤1000∧∀r ∈ C,1≤r.1.length):=⟨by omega,fun r hr=>(dd.2 r hr).1⟩;have e2:=az b0;obtain ⟨OK,bd⟩:=aF (xO T B C S 1);have cx:Eq (OK=xO T B C S 1):=bd;rw [← bd];have l0:=cell_later kW cY.o;have lz:=Gf _ _ l0;simp only at lz;clear kW cR E a4 b9 bb hT bP cG cf cW hC aT aH bc bB dd b0 d4 hN br ev ex bd l0 lz;go_enter Tryz.func119,Tryz.ntmps119
 go_wp2_with fail
 rw [← hX,← hW];clear hX hW;refine (CR.o _ K0.o).mono ?_;rintro e w1 ⟨rfl,aJ⟩;have cy:Eq (Bl W w1):=aJ;have K1:Eq (Bl w w1):=K0.o.trans (aJ.mono K0.o.size);have x2:=(bx.keep aJ).c2;have xz:=(bx.keep aJ).lt;have l0:=cell_later K1.o cY.o;have lz:=Gf _ _ l0;simp only at lz;clear aJ bx;go_wp2_with fail
 clear x2 xz l0 lz;refine (CP.o _ K1.o).mono ?_;rintro e y ⟨gI,nI,cI,gO,nO,cO,rfl,hI,hO,bk⟩;have aX:Eq (Bl W y):=cy.o.trans (bk.mono cy.o.size);have K2:Eq (Bl w y):=K1.o.trans (bk.mono K1.o.size);have cd:Eq (aw 0 y (pT gO) nO cO (offR T B)):=hO;have eb:=hI.length;have dS:nI≤100:=by have h1:=bD.o.1;have h2:=(lW T B).length_le;omega
 obtain ⟨au,dT,rT⟩:=(dF.o.keep K2.o).raw;obtain ⟨bm,dI,rI⟩:=hI.raw;have c8:Eq (dW (·<y.heap.size) y (au++bm) (dQ T B)):=dT.denP.app dI.denP;have bi:Eq (pd y (sO bt ot nt ct) nt au):=rT;have aV:Eq (pd y (sL gI nI cI) nI bm):=rI;have ka:Bl y (y.alloc (.cells #[] 63)):=bZ;have KA:Eq (Bl y (y.alloc (.cells #[] 63))):=ka;have R1:Eq ((y.alloc (.cells #[] 63)).ownsRow y.heap.size 63 2 (sL (y.heap.size) 0 0) 0 []):=by
  have:=GP (base:=y.heap.size) (e:=63) (size:=2) y #[] 0 (Gg _) (by simp) (by simp);show World.ownsRow _ _ _ _ _ _ _
  simpa using this
 have ca:Eq (∀j u,au[j]?=some u→(y.alloc (.cells #[] 63)).cell? ((⟨bt,ot,none⟩:Addr).add j)=some u):=fun j u hu=>by
  rcases (rT.keep ka).2.2 with ⟨h,_⟩ | ⟨b,o,c,h,hc⟩
  · cases h
  · cases h;rw [Gv];exact hc j u hu
 clear hI hO bk dT dI rT rI ka CR CP eb;go_wp2_with (first
  | (at_builtin;refine wpList_append_own _ rfl _ _ 61 rfl y.heap.size 63 j0 _ 2 32 Tryz.underlying61 hj d8 cL cT rfl (by decide) _ _ _ rfl bz.o ⟨gI,0,none⟩ nI cI bm rfl aV.o.1 dh.o aV.o.2.1 (by unfold maxLen;omega) (by omega) (by have:=K3.o.size;omega) ?_;intro v4 W4 ab ak aI;obtain ⟨gA,cA,rfl⟩:=aL ab aI)
  | (at_builtin;refine wpList_append_own _ rfl _ _ 61 rfl y.heap.size 63 j0 _ 2 32 Tryz.underlying61 hj d8 cL cT rfl (by decide) _ _ _ rfl R1.o ⟨bt,ot,none⟩ nt ct au rfl bi.o.1 ca.o bi.o.2.1 (by unfold maxLen;omega) (by omega) (by simp) ?_;intro v3 w3 a3 ag aG;obtain ⟨el,ek,rfl⟩:=aL a3 aG;have bz:Eq (w3.ownsRow y.heap.size 63 2 (sL el nt ek) nt au):=(by show World.ownsRow _ _ _ _ _ _ _;simpa using a3);have K3:Eq (Bl y w3):=KA.o.grown ag KA.o.size (fun k e=>(R1.o.lt k e).1);have dh:=mA (aV.o.keep K3.o);clear a3 ag aG))
 have k4:Bl y W4:=K3.o.grown ak K3.o.size (fun k e=>(bz.o.lt k e).1);have K4:Eq (Bl y W4):=k4;have be:Eq (Bl W W4):=aX.o.trans (k4.mono aX.o.size);have aD:Eq (Bl w W4):=K2.o.trans (k4.mono K2.o.size);obtain ⟨na,cj⟩:=aF (nt+nI);have b4:na≤1000:=by omega
 obtain ⟨aA,fy,eA,b1⟩:=jt ab (c8.o.low k4).den;cases eA;rw [← cj] at b1 ⊢;obtain ⟨P,hP⟩:=aF (bE (dQ T B));obtain ⟨nF,bI⟩:=aF P.flatten.length;obtain ⟨BR,bC⟩:=aF (lK T B C 1);obtain ⟨U,aZ⟩:=aF (uO T B C S 1);have eo:nF≤100000:=by rw [bI,hP];exact cM.o
 have a5:(dQ T B)[0]?=some r0:=by unfold dQ;rw [Gt (by have:=cq.o.t0;omega)];exact ec.o
 have CL:Eq (∀w',Bl W4 w'→Calls Tryz.prog 178 #[sL gA na cA] w' (ru na (dQ T B) w')):=fun w' k=>sj _ na cA (dQ T B) w' (b1.keep k) (by omega)
 have CM:Eq (∀pa pc w',df w' pa na pc P→Calls Tryz.prog 109 #[.slice pa na pc] w' fun e t=>∃g cg,e=.returned (sL g nF cg)∧ah t w'.heap.size g nF cg (bG P.flatten)∧Bl w' t):=fun pa pc w' h=>by
  rw [bI];exact sf pa na pc P w' h (by omega)
 have CB:Eq (∀w',Bl W4 w'→Calls Tryz.prog 179 #[.agg #[iT q,.slice aM m cm,sL I 3 cv,.slice aK f cs],iT 1,sL gA na cA] w' fun e t=>e=.returned (.bool BR)∧Bl w' t):=fun w' k=>by
  have kk:=aD.o.trans (k.mono aD.o.size);have:=uU q aM m cm I 0 cv aK f cs a2 n2 c2 C 1 gA 0 na cA (dQ T B) r0 w' (by simpa using cell_later kk cn.o.1) (cn.o.2.keep kk) d2.o.1 d2.o.2 (b1.keep k) a5 (fun r hr=>(cq.o.all r hr).2) b4;have e:BR=(decide ((1:Int)=2) || decide ((C.filter (ep (fJ (bh r0.1) (dQ T B)) (dw (aQ r0.1) (dQ T B)))).length=0)):=by
   rw [bC];unfold lK iR fE;simp only [a5]
  rw [e];exact this
 have CQ:Eq (∀al cg w',Bl W4 w'→aj w' al nF cg (bG P.flatten)→Calls Tryz.prog 174 #[.slice al nF cg,.slice aK f cs,.bool BR] w' fun e t=>∃g n' c',e=.returned (sL g n' c')∧ah t w'.heap.size g n' c' U∧Bl w' t):=fun al cg w' k h=>by
  have e:U=bU (bG P.flatten) S BR:=by rw [aZ,hP,bC];rfl
  rw [e];exact lN lo al nF cg (bG P.flatten) _ f cs S BR w' h (ce.o.snaps.keep (aD.o.trans (k.mono aD.o.size))) (by omega)
 have bN:Eq (U=uO T B C S 1):=aZ;have e3:Eq (P=bE (dQ T B)):=hP;have aE:Eq (U.length≤100000):=by
  rw [aZ];have h1:=jJ (bG (bE (dQ T B)).flatten) S (lK T B C 1);have h2:=kL (bE (dQ T B)).flatten;have h3:=cM.o;show (uO T B C S 1).length≤_
  unfold uO;omega
 have an:∀w',Bl W4 w'→(w'.cell? ⟨X,0,none⟩=some (iT q)∧w'.cell? ⟨X,1,none⟩=some (.slice aM m cm)∧w'.cell? ⟨X,2,none⟩=some (sL I 3 cv)∧w'.cell? ⟨X,3,none⟩=some (.slice aK f cs)∧X<w'.heap.size):=fun w' k=>by
  have b:=d7.o w' (be.o.trans (k.mono be.o.size));exact ⟨b.c0,b.c1,b.c2,b.c3,b.lt⟩
 have k0:Bl W4 W4.drew:=(Below.refl _ W4).drew;clear ab ak aI k4 cj b1 hP bI bC aZ eo a5 b4 c8 bi aV dh ca bz R1 KA K3 dS;go_upto_region 5 with fail
 go_cut [16] (fun s wx=>∃gD nD cD,s=sL gD nD cD∧aj wx (pT gD) nD cD U∧gD<wx.heap.size∧Bl W4 wx)
 case first =>
  refine Dt an k0 fun aa=>?_
  generalize W4.drew=wd at k0 aa ⊢;refine aO 0 1 aa ?_;refine aO 3 5 aa ?_;refine aS 1 fun K hK=>?_
  go_simp;refine (CL.o _ k0).mono ?_;rintro e wA cQ;obtain ⟨pa,pc,rfl,bL,cl⟩:=oS cQ;rw [← e3.o] at bL;have kA:Bl W4 wA:=k0.trans (cl.mono k0.size);have ez:Eq (df wA pa na pc P):=bL;clear cQ bL cl;go_wp2_with fail
  refine hK.o _ _ (an _ kA) fun aa=>?_
  (try go_frame);refine aS 2 fun K hK=>?_
  go_simp;refine (CM.o pa pc _ ez.o).mono ?_;rintro e wB ⟨gB,cB,rfl,ch,ee⟩;have kB:Bl W4 wB:=kA.trans (ee.mono kA.size);have dY:Eq (aj wB (pT gB) nF cB (bG P.flatten)):=ch.entsAt;clear ch;go_wp2_with fail
  refine hK.o _ _ (an _ kB) fun aa=>?_
  (try go_frame);refine aS 8 fun K hK=>?_
  go_simp;refine (CB.o _ kB).mono ?_;rintro e wC ⟨rfl,d6⟩;have kC:Bl W4 wC:=kB.trans (d6.mono kB.size);go_wp2_with fail
  refine hK.o _ _ (an _ kC) fun aa=>?_
  (try go_frame);refine aS 9 fun K hK=>?_
  go_simp;refine (CQ.o _ _ _ kC (dY.o.keep d6)).mono ?_;rintro e wD ⟨gD,nD,cD,rfl,bs,e1⟩;have kD:Bl W4 wD:=kC.trans (e1.mono kC.size);have er:Eq (aj wD (pT gD) nD cD U):=bs.entsAt;have eC:Eq (gD<wD.heap.size):=bs.lt.2;clear bs;go_wp2_with fail
  refine hK.o _ _ (an _ kD) fun aa=>?_
  (try go_frame);refine aO 10 1 aa ?_;refine dN ?_;go_wp2_with fail
  go_meet
  exact ⟨_,_,_,rfl,er.o,eC.o,kD⟩
 case rest =>
  obtain ⟨gD,nD,cD,rfl,hD,cu,k5⟩:=hcut;clear k0 CL CM CB CQ an;have cZ:=hD.length;have dP:=aE.o;have bu:=uT gD nD cD U wc hD cu (by omega);rw [show (fh U nD).1=dL U by unfold dL;rw [cZ]] at bu;have K5:Eq (Bl y wc):=K4.o.trans (k5.mono K4.o.size);clear hD cu k5 cZ dP;go_wp2_with fail
  refine bu.mono ?_;rintro e w6 ⟨g6,m6,c6,rfl,b3,d1⟩;have K6:Eq (Bl y w6):=K5.o.trans (d1.mono K5.o.size);have em:(dL U).length=m6:=b3.1;have cz:=us U U.length;have d5:m6≤100000:=by have:=aE.o;have h9:(dL U).length≤U.length:=cz;omega
  have dU:=cd.o.length;have e6:nO≤100:=by have h1:=bD.o.1;have h2:(offR T B).length≤B.length:=IP _ _;omega
  have CO:=se gO 0 nO cO (offR T B) g6 0 m6 c6 (dL U) w6 (cd.o.keep K6.o) (b3.runsIn.mono (Gl _)) b3.lt.2 (fun r hr=>(bD.o.2 r (Iy.1 hr).1).1) (fun r hr=>oc hr) (by omega) (by omega);have cp:Eq ((dH (offR T B) (dL U)).length≤200000):=by show _≤_;rw [nL];omega
  clear bu b3 d1 em cz d5 dU e6;go_wp2_with fail
  refine CO.mono ?_;rintro e w7 ⟨g7,n7,c7,ft,rfl,ci,de,bS⟩;have K7:Eq (Bl y w7):=K6.o.trans (bS.mono K6.o.size);obtain ⟨a7,fr,e7,ap⟩:=jt ci (de.low bS).den;cases e7;rw [bN.o] at ap;have cV:Eq (aw 0 w7 (pT g7) n7 c7 (dX T B C S 1)):=ap;have dk:n7≤1048576:=by have h1:=ap.length;have h2:=cp.o;rw [bN.o] at h2;omega
  have CF:=uS _ n7 c7 _ w7 ap dk;have dc:(ip (dH (offR T B) (dL (uO T B C S 1))) && decide (n7≤8))=OK:=by
   rw [cx.o,← ap.length];rfl
  rw [dc] at CF;clear CO ci de bS ap dk dc;go_wp2_with fail
  refine CF.mono ?_;rintro e D ⟨rfl,bJ⟩;have K8:Eq (Bl y D):=K7.o.trans (bJ.mono K7.o.size);have bH:Eq (Bl W D):=aX.o.trans (K8.o.mono aX.o.size);have R:Eq (Bl w D):=K2.o.trans (K8.o.mono K2.o.size);have eD:Eq (aw 0 D (pT g7) n7 c7 (dX T B C S 1)):=cV.o.keep bJ;have b8:=d7.o D bH.o;have y8:=(cH.o D bH.o).1;have x0:=b8.all;clear CF bJ cV K7 K6 K5 K4 be aD cp bN aE b8;cases OK with
  | false =>
   have r0:=y8.all;have eh:Eq (ay D (X+1) (iT 0) nZ nZ nZ):=y8;clear y8;go_wp2;refine bodyPost_ret (v:=.tuple #[.agg #[iT q,.slice aM m cm,sL I 3 cv,.slice aK f cs],.bool false]) ?_ rfl (show mj _ _ _ _ _ _ _ _ _ _ _ _ from ⟨aM,m,cm,some ⟨I,0,none⟩,3,cv,aK,f,cs,rfl,?_,fun _=>rfl,fun h=>by cases h⟩)
   · have e:=(((eh.o.set0 (iT q)).set1 (.slice aM m cm)).set2 (sL I 3 cv)).set3 (.slice aK f cs);simp [results,Tryz.results119,go_sem,e.all]
   · have hx:w.heap.size≤X+1:=by have:=HX.o;omega
     exact lD R.o hx _ _ _ _
  | true =>
   have CC:=iL lo q aM (pT I) aK m cm 3 cv f cs M [A,B,C] S D (ce.o.keep R.o) dK hns (by omega) e2.o;go_wp2_with fail
   refine CC.mono ?_;rintro e w9 ⟨L,c1,G,c,g3,c3,rfl,am,ar⟩;clear CC x0;obtain ⟨bq,bF,aU,b2,O,N,hrow,rA,rB,rC,_,_⟩:=am.split;have ao:=hrow.lt G rfl;have bQ:Eq (D.heap.size≤G):=ao.1;have cS:X+1<D.heap.size:=y8.lt;have e4:Eq (X+1<D.heap.size):=cS;have ME:Eq (wP D.heap.size w9 L m c1 G c g3 f c3 O C.length N [sL bq A.length bF,sL aU B.length b2,sL O C.length N] M C S):=⟨am.mem,rC,am.slen,am.swf,am.sn,hrow⟩;have dZ:Eq (Bl w w9):=R.o.trans (ar.mono R.o.size);have K9:Eq (Bl D w9):=ar;obtain ⟨Y,hY⟩:=aF w9.heap.size;obtain ⟨wY,aY⟩:=aF (w9.alloc (.cells #[iT q,sL L m c1,sL G 3 c,sL g3 f c3] 31));have kY:Bl w9 wY:=by rw [aY];exact bZ
   have bY:ay wY Y (iT q) (sL L m c1) (sL G 3 c) (sL g3 f c3):=by rw [aY,hY];exact ay.new _ _ _ _ _ _
   have aC:Eq (wP D.heap.size wY L m c1 G c g3 f c3 O C.length N [sL bq A.length bF,sL aU B.length b2,sL O C.length N] M C S):=ME.o.below kY;have KY:Eq (Bl D wY):=K9.o.trans (kY.mono K9.o.size);have db:G≠Y:=by rw [hY];have:=ao.2;omega
   have dR:X+1≠G:=by have:=ao.1;omega
   have dg:Eq (X+1≠G):=dR;have y9:=(y8.keep ar).keep kY;have fj:X+1≠Y:=by have:=(y8.keep ar).lt;rw [hY];omega
   clear am rA rB rC hrow ar ao cS K9 dZ ME y8;go_upto_region 10 with fail
   rw [← hY,← aY];clear hY aY kY;obtain ⟨aB,H⟩:=aF (wY.setCell ⟨G,0,none⟩ (sL gr 0 0));obtain ⟨J,F⟩:=aF (aB.setCell ⟨G,1,none⟩ (sL g7 n7 c7));have ae:ay aB Y (iT q) (sL L m c1) (sL G 3 c) (sL g3 f c3):=by rw [H];exact bY.other db _
   have ba:ay J Y (iT q) (sL L m c1) (sL G 3 c) (sL g3 f c3):=by rw [F];exact ae.other db _
   have bK:ay J (X+1) (iT 0) nZ nZ nZ:=by rw [F,H];exact (y9.other dg.o.symm _).other dg.o.symm _
   have Q:Eq (wP D.heap.size aB L m c1 G c g3 f c3 O C.length N [sL gr 0 0,sL aU B.length b2,sL O C.length N] M C S):=by rw [H];exact aC.o.setG _ _
   have cC:Eq (wP D.heap.size J L m c1 G c g3 f c3 O C.length N [sL gr 0 0,sL g7 n7 c7,sL O C.length N] M C S):=by rw [F];exact Q.o.setG _ _
   have bo:Eq (Bl D J):=by rw [F,H];exact (KY.o.setCell (p:=⟨G,0,none⟩) bQ.o _).setCell (p:=⟨G,1,none⟩) bQ.o _
   have cF:Eq (Bl w J):=R.o.trans (bo.o.mono R.o.size);have fn:=(aC.o.row.lt G rfl).2;have di:=(Q.o.row.lt G rfl).2;have eg:Eq (aB.cell? ⟨G,1,none⟩=some (sL aU B.length b2)):=Q.o.row.cellAt 1 (by omega);have d3:Eq (ay J (X+1) (iT 0) nZ nZ nZ):=bK;have u2:=bY.c2;have uz:=bY.lt;have q0:wY.cell? ⟨G,0,none⟩=some (sL bq A.length bF):=aC.o.row.cellAt 0 (by omega);have gf:=fun o=>aC.o.row.frozenAt o
   have ck:Eq (∀o,aB.frozen? ⟨G,o,none⟩=false):=fun o=>Q.o.row.frozenAt o
   clear bY y9 aC Q;go_upto_region 11 with fail
   rw [← H];clear H u2 uz q0 gf;have u2:=ae.c2;have uz:=ae.lt;have gf:=ck.o;have q0:=eg.o;clear ae ck;go_upto_region 12 with fail
   rw [← F];clear F u2 uz q0 gf di;have u0:=ba.all;have r0:=bK.all;clear ba bK;go_wp2;refine bodyPost_ret (v:=.tuple #[.agg #[iT q,sL L m c1,sL G 3 c,sL g3 f c3],.bool true]) ?_ rfl ?_
   · have e:=(((d3.o.set0 (iT q)).set1 (sL L m c1)).set2 (sL G 3 c)).set3 (sL g3 f c3);simp [results,Tryz.results119,go_sem,e.all]
   · have hx:w.heap.size≤X+1:=by have:=HX.o;omega
     have ax:=lD cF.o hx (iT q) (sL L m c1) (sL G 3 c) (sL g3 f c3);have aW:=e4.o;have hM:=(((cC.o.setX aW 0 (iT q)).setX aW 1 (sL L m c1)).setX aW 2 (sL G 3 c)).setX aW 3 (sL g3 f c3);have hh:=th J (X+1) (iT q) (sL L m c1) (sL G 3 c) (sL g3 f c3);have en:=tg J (X+1) (iT q) (sL L m c1) (sL G 3 c) (sL g3 f c3);have fg:=bo.o.size;have eu:Bq D (X+1):=(cH.o D bH.o).2;have ao:=bQ.o;have fz:gr<D.heap.size:=E' (Hi.1 a8.o.1).1 R.o.size;obtain ⟨_,kG⟩:=aP hM.row;obtain ⟨e0,k3⟩:=aP hM.sn;generalize ((((J.setCell ⟨X+1,0,none⟩ (iT q)).setCell ⟨X+1,1,none⟩ (sL L m c1)).setCell ⟨X+1,2,none⟩ (sL G 3 c)).setCell ⟨X+1,3,none⟩ (sL g3 f c3))=wf at ax hM hh en kG k3 ⊢;have E:lw≤D.heap.size:=by have:=a8.o.2;omega
     have cr:∀{a n d g} {Z:List af},aw 0 D a n d Z→(D.heap.size≤g∨∀o,D.cell? ⟨g,o,none⟩=none)→dx (fun b=>b≠g∧b≠G) wf a n d Z:=fun {a n d g Z} h h2=>sF h eu (by omega) (fun b hb hn=>(hh b hn).trans (bo.o.block b hb)) h2 ao
     exact ⟨some ⟨L,0,none⟩,m,c1,some ⟨G,0,none⟩,3,c,some ⟨g3,0,none⟩,f,c3,rfl,ax,(fun h=>by cases h),fun _=>⟨G,gr,0,g7,n7,c7,O,C.length,N,rfl,rfl,(cX.some hM.mem).mono E,ew hM.row E,pO ((ax.block gr (Hi.1 a8.o.1).1).trans a8.o.1) a8.o.2,cr eD.o (.inr (fun o=>by have h1:=(R.o.block gr (Hi.1 a8.o.1).1).trans a8.o.1;simp [World.cell?,h1])),hM.lev.toP ⟨by have:=hM.lev.lt.1;omega,fun e=>by obtain ⟨_,_,fp,h3,_⟩:=hM.lev;obtain ⟨_,kZ⟩:=aP h3;rw [e] at kZ;exact absurd (kZ.kind kG) (by decide)⟩ (fun b sz hb kb=>⟨by omega,fun e=>by rw [e] at kb;exact absurd (kb.kind kG) (by decide)⟩),(im hM.sn hM.slen hM.swf).lower E,fun x e _=>by cases e;exact ⟨e0,k3⟩⟩⟩
theorem Eh (lo lw:Nat) (q:Int) (aM:Option Addr) (m cm I cv:Nat) (aK:Option Addr) (f cs:Nat) (M:List ac) (A B C:List af) (S:List Int) (bt ot nt ct:Nat) (T:List af) (gr nr cr:Nat) (R:List af) (w:World) (hT:bn lo w aM m cm (pT I) 3 cv aK f cs M [A,B,C] S) (dR:m≤1048576) (hns:f≤1048576) (aZ:∀Z ∈ [A,B,C],Z.length≤100∧∀r ∈ Z,1≤r.1.length∧r.1.length≤10000) (bT:aw 0 w (some ⟨bt,ot,none⟩) nt ct T) (fv:nt≤100) (hR:aw 0 w (pT gr) nr cr R) (cl:lw≤w.heap.size) (aR:gN T C) (be:(bE (dQ T C)).flatten.length≤100000) :
 Calls Tryz.prog 119 #[.agg #[iT q,.slice aM m cm,sL I 3 cv,.slice aK f cs],iT 1,sO bt ot nt ct,sL gr nr cr] w (mj lw q (.agg #[iT q,.slice aM m cm,sL I 3 cv,.slice aK f cs]) M A R (dX T C C S 2) S (xO T C C S 2) w):=by
 obtain ⟨j0,hj,dc,cR,cZ⟩:=info_parts Tryz.infoRun;obtain ⟨X,hX⟩:=aF w.heap.size;obtain ⟨W,hW⟩:=aF ((w.alloc (.cells #[iT q,.slice aM m cm,sL I 3 cv,.slice aK f cs] 31)).alloc (.cells #[iT 0,nZ,nZ,nZ] 31));have kW:Bl w W:=by rw [hW];exact bZ.alloc (by simp) _
 have bx:ay W X (iT q) (.slice aM m cm) (sL I 3 cv) (.slice aK f cs):=by rw [hW,hX];exact (ay.new _ _ _ _ _ _).alloc _
 have br:ay W (X+1) (iT 0) nZ nZ nZ∧aq W (X+1) 31 4:=by
  have:=ay.new (w.alloc (.cells #[iT q,.slice aM m cm,sL I 3 cv,.slice aK f cs] 31)) 31 (iT 0) nZ nZ nZ;rw [Gu] at this;rw [hW,hX];have h2:=cU (w.alloc (.cells #[iT q,.slice aM m cm,sL I 3 cv,.slice aK f cs] 31)) #[iT 0,nZ,nZ,nZ] 31;rw [Gu] at h2;exact ⟨this,h2⟩
 have HX:Eq (X=w.heap.size):=hX;have K0:Eq (Bl w W):=kW;have cP:Eq (∀w',Bl W w'→ay w' (X+1) (iT 0) nZ nZ nZ∧Bq w' (X+1)):=fun w' k=>⟨br.1.keep k,gE (br.2.below k) (br.1.keep k)⟩
 have db:Eq (∀w',Bl W w'→ay w' X (iT q) (.slice aM m cm) (sL I 3 cv) (.slice aK f cs)):=fun w' k=>bx.keep k
 have fj:Eq (∀w',Bl W w'→aq w' (X+1) 31 4):=fun w' k=>br.2.below k
 have cW:=j' (l:=T) (i:=0) (by have:=aR.t0;omega);obtain ⟨r0,aG⟩:∃r0,T[0]?=some r0:=⟨_,cW⟩;obtain ⟨low,D⟩:=aF (iR T);obtain ⟨ai,a5⟩:=aF (fE T);have bb:low=fJ (bh r0.1) T:=by rw [D];unfold iR;rw [aG]
 have bd:ai=dw (aQ r0.1) T:=by rw [a5];unfold fE;rw [aG]
 obtain ⟨nx,bl,bu,hN⟩:∃aN nN cN,w.cell? ⟨I,2,none⟩=some (.slice aN nN cN)∧aw 0 w aN nN cN C:=by
  obtain ⟨s,n,c,h1,h2⟩:=hT.levels.levels _ rfl 2 (by simp);exact ⟨s,n,c,by simpa using h1,h2.mono (Gl _)⟩
 obtain ⟨d8,hN⟩:=hN;obtain ⟨a2,n2,c2,d1,hC⟩:∃aN nN cN,w.cell? ⟨I,2,none⟩=some (.slice aN nN cN)∧aw 0 w aN nN cN C:=by
  obtain ⟨s,n,c,h1,h2⟩:=hT.levels.levels _ rfl 2 (by simp);exact ⟨s,n,c,by simpa using h1,h2.mono (Gl _)⟩
 have bF:=aZ C (by simp);have di:=aZ C (by simp);have ez:=hN.length;have eB:=hC.length;have d2:Eq (w.cell? ⟨I,2,none⟩=some (.slice nx bl bu)):=d8;have CR:Eq (∀w',Bl w w'→Calls Tryz.prog 176 #[sO bt ot nt ct] w' fun e t=>e=.returned (.tuple #[.string low,.string ai])∧Bl w' t):=fun w' k=>by
  rw [bb,bd];exact ng bt ot nt ct T r0 w' (bT.keep k) aG (fun r hr=>(aR.tok r hr).2) (by omega)
 have CP:Eq (∀w',Bl w w'→Calls Tryz.prog 177 #[.slice nx bl bu,.string low,.string ai] w' fun e t=>∃N n1 c1 g2 n2 c2,e=.returned (.tuple #[sL N n1 c1,sL g2 n2 c2])∧aw 0 t (pT N) n1 c1 (En T C)∧aw 0 t (pT g2) n2 c2 (offR T C)∧Bl w' t):=fun w' k=>by
  unfold En offR;rw [← D,← a5];exact pI nx bl bu C low ai w' (hN.keep k) (fun r hr=>(bF.2 r hr).1) (by omega)
 have ck:=az hT;have dM:=az bT;have cM:Eq (aw 0 w (pT gr) nr cr R∧lw≤w.heap.size):=⟨hR,cl⟩;have cw:Eq (w.cell? ⟨I,2,none⟩=some (.slice a2 n2 c2)∧aw 0 w a2 n2 c2 C):=⟨d1,hC⟩;have cz:=az aR;have eg:Eq (T[0]?=some r0):=aG;have cS:=az be;have bI:Eq (C.length≤100∧∀r ∈ C,1≤r.1.length∧r.1.length≤10000):=bF;have d6:Eq (n2≤1000∧∀r ∈ C,1≤r.1.length):=⟨by omega,fun r hr=>(di.2 r hr).1⟩;have e6:=az aZ;obtain ⟨OK,bf⟩:=aF (xO T C C S 2);have cF:Eq (OK=xO T C C S 2):=bf;rw [← bf];have l0:=cell_later kW d2.o;have lz:=Gf _ _ l0;simp only at lz;clear kW cW D a5 bb bd hT bT hR cl d1 hC aR aG be bF di aZ d8 hN br ez eB bf l0 lz;go_enter Tryz.func119,Tryz.ntmps119
 go_wp2_with fail
 rw [← hX,← hW];clear hX hW;refine (CR.o _ K0.o).mono ?_;rintro e w1 ⟨rfl,aI⟩;have cG:Eq (Bl W w1):=aI;have K1:Eq (Bl w w1):=K0.o.trans (aI.mono K0.o.size);have x2:=(bx.keep aI).c2;have xz:=(bx.keep aI).lt;have l0:=cell_later K1.o d2.o;have lz:=Gf _ _ l0;simp only at lz;clear aI bx;go_wp2_with fail
 clear x2 xz l0 lz;refine (CP.o _ K1.o).mono ?_;rintro e y ⟨gI,nI,cI,gO,nO,cO,rfl,hI,hO,bm⟩;have aV:Eq (Bl W y):=cG.o.trans (bm.mono cG.o.size);have K2:Eq (Bl w y):=K1.o.trans (bm.mono K1.o.size);have cj:Eq (aw 0 y (pT gO) nO cO (offR T C)):=hO;have ef:=hI.length;have dZ:nI≤100:=by have h1:=bI.o.1;have h2:=(lW T C).length_le;omega
 obtain ⟨au,dT,rT⟩:=(dM.o.keep K2.o).raw;obtain ⟨bq,dI,rI⟩:=hI.raw;have cd:Eq (dW (·<y.heap.size) y (au++bq) (dQ T C)):=dT.denP.app dI.denP;have bk:Eq (pd y (sO bt ot nt ct) nt au):=rT;have aT:Eq (pd y (sL gI nI cI) nI bq):=rI;have ka:Bl y (y.alloc (.cells #[] 63)):=bZ;have KA:Eq (Bl y (y.alloc (.cells #[] 63))):=ka;have R1:Eq ((y.alloc (.cells #[] 63)).ownsRow y.heap.size 63 2 (sL (y.heap.size) 0 0) 0 []):=by
  have:=GP (base:=y.heap.size) (e:=63) (size:=2) y #[] 0 (Gg _) (by simp) (by simp);show World.ownsRow _ _ _ _ _ _ _
  simpa using this
 have cf:Eq (∀j u,au[j]?=some u→(y.alloc (.cells #[] 63)).cell? ((⟨bt,ot,none⟩:Addr).add j)=some u):=fun j u hu=>by
  rcases (rT.keep ka).2.2 with ⟨h,_⟩ | ⟨b,o,c,h,hc⟩
  · cases h
  · cases h;rw [Gv];exact hc j u hu
 clear hI hO bm dT dI rT rI ka CR CP ef;go_wp2_with (first
  | (at_builtin;refine wpList_append_own _ rfl _ _ 61 rfl y.heap.size 63 j0 _ 2 32 Tryz.underlying61 hj dc cR cZ rfl (by decide) _ _ _ rfl bB.o ⟨gI,0,none⟩ nI cI bq rfl aT.o.1 dl.o aT.o.2.1 (by unfold maxLen;omega) (by omega) (by have:=K3.o.size;omega) ?_;intro v4 W4 ab ak aH;obtain ⟨gA,cA,rfl⟩:=aL ab aH)
  | (at_builtin;refine wpList_append_own _ rfl _ _ 61 rfl y.heap.size 63 j0 _ 2 32 Tryz.underlying61 hj dc cR cZ rfl (by decide) _ _ _ rfl R1.o ⟨bt,ot,none⟩ nt ct au rfl bk.o.1 cf.o bk.o.2.1 (by unfold maxLen;omega) (by omega) (by simp) ?_;intro v3 w3 a4 ag aE;obtain ⟨eo,en,rfl⟩:=aL a4 aE;have bB:Eq (w3.ownsRow y.heap.size 63 2 (sL eo nt en) nt au):=(by show World.ownsRow _ _ _ _ _ _ _;simpa using a4);have K3:Eq (Bl y w3):=KA.o.grown ag KA.o.size (fun k e=>(R1.o.lt k e).1);have dl:=mA (aT.o.keep K3.o);clear a4 ag aE))
 have k4:Bl y W4:=K3.o.grown ak K3.o.size (fun k e=>(bB.o.lt k e).1);have K4:Eq (Bl y W4):=k4;have bg:Eq (Bl W W4):=aV.o.trans (k4.mono aV.o.size);have aC:Eq (Bl w W4):=K2.o.trans (k4.mono K2.o.size);obtain ⟨na,cp⟩:=aF (nt+nI);have b3:na≤1000:=by omega
 obtain ⟨aA,fz,eA,b1⟩:=jt ab (cd.o.low k4).den;cases eA;rw [← cp] at b1 ⊢;obtain ⟨P,hP⟩:=aF (bE (dQ T C));obtain ⟨nF,bK⟩:=aF P.flatten.length;obtain ⟨BR,bH⟩:=aF (lK T C C 2);obtain ⟨SQ,aY⟩:=aF (uO T C C S 2);have et:nF≤100000:=by rw [bK,hP];exact cS.o
 have a6:(dQ T C)[0]?=some r0:=by unfold dQ;rw [Gt (by have:=cz.o.t0;omega)];exact eg.o
 have CL:Eq (∀w',Bl W4 w'→Calls Tryz.prog 178 #[sL gA na cA] w' (ru na (dQ T C) w')):=fun w' k=>sj _ na cA (dQ T C) w' (b1.keep k) (by omega)
 have CM:Eq (∀pa pc w',df w' pa na pc P→Calls Tryz.prog 109 #[.slice pa na pc] w' fun e t=>∃g cg,e=.returned (sL g nF cg)∧ah t w'.heap.size g nF cg (bG P.flatten)∧Bl w' t):=fun pa pc w' h=>by
  rw [bK];exact sf pa na pc P w' h (by omega)
 have CB:Eq (∀w',Bl W4 w'→Calls Tryz.prog 179 #[.agg #[iT q,.slice aM m cm,sL I 3 cv,.slice aK f cs],iT 2,sL gA na cA] w' fun e t=>e=.returned (.bool BR)∧Bl w' t):=fun w' k=>by
  have kk:=aC.o.trans (k.mono aC.o.size);have:=uU q aM m cm I 0 cv aK f cs a2 n2 c2 C 2 gA 0 na cA (dQ T C) r0 w' (by simpa using cell_later kk cw.o.1) (cw.o.2.keep kk) d6.o.1 d6.o.2 (b1.keep k) a6 (fun r hr=>(cz.o.all r hr).2) b3;have e:BR=(decide ((2:Int)=2) || decide ((C.filter (ep (fJ (bh r0.1) (dQ T C)) (dw (aQ r0.1) (dQ T C)))).length=0)):=by
   rw [bH];unfold lK iR fE;simp only [a6]
  rw [e];exact this
 have CQ:Eq (∀al cg w',Bl W4 w'→aj w' al nF cg (bG P.flatten)→Calls Tryz.prog 174 #[.slice al nF cg,.slice aK f cs,.bool BR] w' fun e t=>∃g n' c',e=.returned (sL g n' c')∧ah t w'.heap.size g n' c' SQ∧Bl w' t):=fun al cg w' k h=>by
  have e:SQ=bU (bG P.flatten) S BR:=by rw [aY,hP,bH];rfl
  rw [e];exact lN lo al nF cg (bG P.flatten) _ f cs S BR w' h (ck.o.snaps.keep (aC.o.trans (k.mono aC.o.size))) (by omega)
 have bR:Eq (SQ=uO T C C S 2):=aY;have e8:Eq (P=bE (dQ T C)):=hP;have aD:Eq (SQ.length≤100000):=by
  rw [aY];have h1:=jJ (bG (bE (dQ T C)).flatten) S (lK T C C 2);have h2:=kL (bE (dQ T C)).flatten;have h3:=cS.o;show (uO T C C S 2).length≤_
  unfold uO;omega
 have an:∀w',Bl W4 w'→(w'.cell? ⟨X,0,none⟩=some (iT q)∧w'.cell? ⟨X,1,none⟩=some (.slice aM m cm)∧w'.cell? ⟨X,2,none⟩=some (sL I 3 cv)∧w'.cell? ⟨X,3,none⟩=some (.slice aK f cs)∧X<w'.heap.size):=fun w' k=>by
  have b:=db.o w' (bg.o.trans (k.mono bg.o.size));exact ⟨b.c0,b.c1,b.c2,b.c3,b.lt⟩
 have k0:Bl W4 W4.drew:=(Below.refl _ W4).drew;clear ab ak aH k4 cp b1 hP bK bH aY et a6 b3 cd bk aT dl cf bB R1 KA K3 dZ;go_upto_region 5 with fail
 go_cut [16] (fun s wx=>∃gD nD cD,s=sL gD nD cD∧aj wx (pT gD) nD cD SQ∧gD<wx.heap.size∧Bl W4 wx)
 case first =>
  refine Dt an k0 fun aa=>?_
  generalize W4.drew=wd at k0 aa ⊢;refine aO 0 1 aa ?_;refine aO 3 5 aa ?_;refine aS 1 fun K hK=>?_
  go_simp;refine (CL.o _ k0).mono ?_;rintro e wA cV;obtain ⟨pa,pc,rfl,bN,cu⟩:=oS cV;rw [← e8.o] at bN;have kA:Bl W4 wA:=k0.trans (cu.mono k0.size);have eD:Eq (df wA pa na pc P):=bN;clear cV bN cu;go_wp2_with fail
  refine hK.o _ _ (an _ kA) fun aa=>?_
  (try go_frame);refine aS 2 fun K hK=>?_
  go_simp;refine (CM.o pa pc _ eD.o).mono ?_;rintro e wB ⟨gB,cB,rfl,cn,ei⟩;have kB:Bl W4 wB:=kA.trans (ei.mono kA.size);have e2:Eq (aj wB (pT gB) nF cB (bG P.flatten)):=cn.entsAt;clear cn;go_wp2_with fail
  refine hK.o _ _ (an _ kB) fun aa=>?_
  (try go_frame);refine aS 8 fun K hK=>?_
  go_simp;refine (CB.o _ kB).mono ?_;rintro e wC ⟨rfl,da⟩;have kC:Bl W4 wC:=kB.trans (da.mono kB.size);go_wp2_with fail
  refine hK.o _ _ (an _ kC) fun aa=>?_
  (try go_frame);refine aS 9 fun K hK=>?_
  go_simp;refine (CQ.o _ _ _ kC (e2.o.keep da)).mono ?_;rintro e wD ⟨gD,nD,cD,rfl,bw,e5⟩;have kD:Bl W4 wD:=kC.trans (e5.mono kC.size);have eu:Eq (aj wD (pT gD) nD cD SQ):=bw.entsAt;have eF:Eq (gD<wD.heap.size):=bw.lt.2;clear bw;go_wp2_with fail
  refine hK.o _ _ (an _ kD) fun aa=>?_
  (try go_frame);refine aO 10 1 aa ?_;refine dN ?_;go_wp2_with fail
  go_meet
  exact ⟨_,_,_,rfl,eu.o,eF.o,kD⟩
 case rest =>
  obtain ⟨gD,nD,cD,rfl,hD,cC,k5⟩:=hcut;clear k0 CL CM CB CQ an;have d3:=hD.length;have dV:=aD.o;have bz:=uT gD nD cD SQ wc hD cC (by omega);rw [show (fh SQ nD).1=dL SQ by unfold dL;rw [d3]] at bz;have K5:Eq (Bl y wc):=K4.o.trans (k5.mono K4.o.size);clear hD cC k5 d3 dV;go_wp2_with fail
  refine bz.mono ?_;rintro e w6 ⟨g6,m6,c6,rfl,b2,d5⟩;have K6:Eq (Bl y w6):=K5.o.trans (d5.mono K5.o.size);have er:(dL SQ).length=m6:=b2.1;have cH:=us SQ SQ.length;have d9:m6≤100000:=by have:=aD.o;have h9:(dL SQ).length≤SQ.length:=cH;omega
  have e0:=cj.o.length;have eb:nO≤100:=by have h1:=bI.o.1;have h2:(offR T C).length≤C.length:=IP _ _;omega
  have CO:=se gO 0 nO cO (offR T C) g6 0 m6 c6 (dL SQ) w6 (cj.o.keep K6.o) (b2.runsIn.mono (Gl _)) b2.lt.2 (fun r hr=>(bI.o.2 r (Iy.1 hr).1).1) (fun r hr=>oc hr) (by omega) (by omega);have cy:Eq ((dH (offR T C) (dL SQ)).length≤200000):=by show _≤_;rw [nL];omega
  clear bz b2 d5 er cH d9 e0 eb;go_wp2_with fail
  refine CO.mono ?_;rintro e w7 ⟨g7,n7,c7,ft,rfl,co,dj,bX⟩;have K7:Eq (Bl y w7):=K6.o.trans (bX.mono K6.o.size);obtain ⟨a7,fq,e7,ap⟩:=jt co (dj.low bX).den;cases e7;rw [bR.o] at ap;have d0:Eq (aw 0 w7 (pT g7) n7 c7 (dX T C C S 2)):=ap;have dp:n7≤1048576:=by have h1:=ap.length;have h2:=cy.o;rw [bR.o] at h2;omega
  have CF:=uS _ n7 c7 _ w7 ap dp;have dh:(ip (dH (offR T C) (dL (uO T C C S 2))) && decide (n7≤8))=OK:=by
   rw [cF.o,← ap.length];rfl
  rw [dh] at CF;clear CO co dj bX ap dp dh;go_wp2_with fail
  refine CF.mono ?_;rintro e E ⟨rfl,bL⟩;have K8:Eq (Bl y E):=K7.o.trans (bL.mono K7.o.size);have bJ:Eq (Bl W E):=aV.o.trans (K8.o.mono aV.o.size);have U:Eq (Bl w E):=K2.o.trans (K8.o.mono K2.o.size);have eG:Eq (aw 0 E (pT g7) n7 c7 (dX T C C S 2)):=d0.o.keep bL;have b8:=db.o E bJ.o;have y8:=(cP.o E bJ.o).1;have x0:=b8.all;clear CF bL d0 K7 K6 K5 K4 bg aC cy bR aD b8;cases OK with
  | false =>
   have r0:=y8.all;have ek:Eq (ay E (X+1) (iT 0) nZ nZ nZ):=y8;clear y8;go_wp2;refine bodyPost_ret (v:=.tuple #[.agg #[iT q,.slice aM m cm,sL I 3 cv,.slice aK f cs],.bool false]) ?_ rfl (show mj _ _ _ _ _ _ _ _ _ _ _ _ from ⟨aM,m,cm,some ⟨I,0,none⟩,3,cv,aK,f,cs,rfl,?_,fun _=>rfl,fun h=>by cases h⟩)
   · have e:=(((ek.o.set0 (iT q)).set1 (.slice aM m cm)).set2 (sL I 3 cv)).set3 (.slice aK f cs);simp [results,Tryz.results119,go_sem,e.all]
   · have hx:w.heap.size≤X+1:=by have:=HX.o;omega
     exact lD U.o hx _ _ _ _
  | true =>
   have CC:=iL lo q aM (pT I) aK m cm 3 cv f cs M [A,B,C] S E (ck.o.keep U.o) dR hns (by omega) e6.o;go_wp2_with fail
   refine CC.mono ?_;rintro e w9 ⟨N,c1,G,c,g3,c3,rfl,am,ar⟩;clear CC x0;obtain ⟨L,O,bo,bQ,b0,aW,hrow,rA,rB,rC,_,_⟩:=am.split;have ao:=hrow.lt G rfl;have bV:Eq (E.heap.size≤G):=ao.1;have cY:X+1<E.heap.size:=y8.lt;have e9:Eq (X+1<E.heap.size):=cY;have ME:Eq (wP E.heap.size w9 N m c1 G c g3 f c3 L A.length O [sL L A.length O,sL bo B.length bQ,sL b0 C.length aW] M A S):=⟨am.mem,rA,am.slen,am.swf,am.sn,hrow⟩;have e3:Eq (Bl w w9):=U.o.trans (ar.mono U.o.size);have K9:Eq (Bl E w9):=ar;obtain ⟨Y,hY⟩:=aF w9.heap.size;obtain ⟨wY,aX⟩:=aF (w9.alloc (.cells #[iT q,sL N m c1,sL G 3 c,sL g3 f c3] 31));have kY:Bl w9 wY:=by rw [aX];exact bZ
   have bY:ay wY Y (iT q) (sL N m c1) (sL G 3 c) (sL g3 f c3):=by rw [aX,hY];exact ay.new _ _ _ _ _ _
   have aB:Eq (wP E.heap.size wY N m c1 G c g3 f c3 L A.length O [sL L A.length O,sL bo B.length bQ,sL b0 C.length aW] M A S):=ME.o.below kY;have KY:Eq (Bl E wY):=K9.o.trans (kY.mono K9.o.size);have dg:G≠Y:=by rw [hY];have:=ao.2;omega
   have dY:X+1≠G:=by have:=ao.1;omega
   have dk:Eq (X+1≠G):=dY;have y9:=(y8.keep ar).keep kY;have fk:X+1≠Y:=by have:=(y8.keep ar).lt;rw [hY];omega
   clear am rA rB rC hrow ar ao cY K9 e3 ME y8;go_upto_region 10 with fail
   rw [← hY,← aX];clear hY aX kY;obtain ⟨ax,H⟩:=aF (wY.setCell ⟨G,1,none⟩ (sL gr nr cr));obtain ⟨J,F⟩:=aF (ax.setCell ⟨G,2,none⟩ (sL g7 n7 c7));have ae:ay ax Y (iT q) (sL N m c1) (sL G 3 c) (sL g3 f c3):=by rw [H];exact bY.other dg _
   have bc:ay J Y (iT q) (sL N m c1) (sL G 3 c) (sL g3 f c3):=by rw [F];exact ae.other dg _
   have bM:ay J (X+1) (iT 0) nZ nZ nZ:=by rw [F,H];exact (y9.other dk.o.symm _).other dk.o.symm _
   have Q:Eq (wP E.heap.size ax N m c1 G c g3 f c3 L A.length O [sL L A.length O,sL gr nr cr,sL b0 C.length aW] M A S):=by rw [H];exact aB.o.setG _ _
   have b9:Eq (wP E.heap.size J N m c1 G c g3 f c3 L A.length O [sL L A.length O,sL gr nr cr,sL g7 n7 c7] M A S):=by rw [F];exact Q.o.setG _ _
   have bs:Eq (Bl E J):=by rw [F,H];exact (KY.o.setCell (p:=⟨G,1,none⟩) bV.o _).setCell (p:=⟨G,2,none⟩) bV.o _
   have cL:Eq (Bl w J):=U.o.trans (bs.o.mono U.o.size);have fn:=(aB.o.row.lt G rfl).2;have dm:=(Q.o.row.lt G rfl).2;have ej:Eq (ax.cell? ⟨G,2,none⟩=some (sL b0 C.length aW)):=Q.o.row.cellAt 2 (by omega);have d7:Eq (ay J (X+1) (iT 0) nZ nZ nZ):=bM;have u2:=bY.c2;have uz:=bY.lt;have q0:wY.cell? ⟨G,1,none⟩=some (sL bo B.length bQ):=aB.o.row.cellAt 1 (by omega);have gf:=fun o=>aB.o.row.frozenAt o
   have cq:Eq (∀o,ax.frozen? ⟨G,o,none⟩=false):=fun o=>Q.o.row.frozenAt o
   clear bY y9 aB Q;go_upto_region 11 with fail
   rw [← H];clear H u2 uz q0 gf;have u2:=ae.c2;have uz:=ae.lt;have gf:=cq.o;have q0:=ej.o;clear ae cq;go_upto_region 12 with fail
   rw [← F];clear F u2 uz q0 gf dm;have u0:=bc.all;have r0:=bM.all;clear bc bM;go_wp2;refine bodyPost_ret (v:=.tuple #[.agg #[iT q,sL N m c1,sL G 3 c,sL g3 f c3],.bool true]) ?_ rfl ?_
   · have e:=(((d7.o.set0 (iT q)).set1 (sL N m c1)).set2 (sL G 3 c)).set3 (sL g3 f c3);simp [results,Tryz.results119,go_sem,e.all]
   · have hx:w.heap.size≤X+1:=by have:=HX.o;omega
     have b7:=lD cL.o hx (iT q) (sL N m c1) (sL G 3 c) (sL g3 f c3);have aU:=e9.o;have hM:=(((b9.o.setX aU 0 (iT q)).setX aU 1 (sL N m c1)).setX aU 2 (sL G 3 c)).setX aU 3 (sL g3 f c3);have hh:=th J (X+1) (iT q) (sL N m c1) (sL G 3 c) (sL g3 f c3);have es:=tg J (X+1) (iT q) (sL N m c1) (sL G 3 c) (sL g3 f c3);have fi:=bs.o.size;have ey:Bq E (X+1):=(cP.o E bJ.o).2;have ao:=bV.o;have cc:=b9.o.lev.lt.1;obtain ⟨_,kG⟩:=aP hM.row;obtain ⟨e4,k3⟩:=aP hM.sn;generalize ((((J.setCell ⟨X+1,0,none⟩ (iT q)).setCell ⟨X+1,1,none⟩ (sL N m c1)).setCell ⟨X+1,2,none⟩ (sL G 3 c)).setCell ⟨X+1,3,none⟩ (sL g3 f c3))=wf at b7 hM hh es kG k3 ⊢;have D:lw≤E.heap.size:=Gq cM.o.2 U.o.size;have b6:∀{a n d g} {Z:List af},aw 0 E a n d Z→(E.heap.size≤g∨∀o,E.cell? ⟨g,o,none⟩=none)→dx (fun b=>b≠g∧b≠G) wf a n d Z:=fun {a n d g Z} h h2=>sF h ey (by omega) (fun b hb hn=>(hh b hn).trans (bs.o.block b hb)) h2 ao
     exact ⟨some ⟨N,0,none⟩,m,c1,some ⟨G,0,none⟩,3,c,some ⟨g3,0,none⟩,f,c3,rfl,b7,(fun h=>by cases h),fun _=>⟨G,L,O,gr,nr,cr,g7,n7,c7,rfl,rfl,(cX.some hM.mem).mono D,ew hM.row D,hM.lev.mono D,b6 (cM.o.1.keep U.o) (.inl cc),b6 eG.o (.inl cc),(im hM.sn hM.slen hM.swf).lower D,fun x e _=>by cases e;exact ⟨e4,k3⟩⟩⟩
theorem lO {lo:Nat} {w:World} {b n c i j:Nat} {B:List af} (h:aw lo w (pT b) n c B) (f:i≤j) (g:j≤n):aw lo w (some ⟨b,if c=i then 0 else i*2,none⟩) (j - i) (c - i) ((B.drop i).take (j - i)) where
 length:=by rw [Gn,Gy,h.length];omega
 room:=by have:=h.room;omega
 big:=by have:=h.big;omega
 nil:=fun e=>by cases e
 lies:=fun x e hp=>by
  have h1:=h.lies _ rfl (by omega)
  cases e
  exact h1
 runs:=fun x e t d=>by
  rw [Gn,Gy,h.length] at d
  have hc:¬c=i:=by have:=h.room;omega
  have hl:i+t<B.length:=by rw [h.length];omega
  have h1:=h.runs _ rfl (i+t) hl
  cases e
  rw [Hf,Hj,if_neg hc]
  simp only [Gp] at h1
  rw [show i*2+t*2=(i+t)*2 by omega]
  exact h1
end Go.Proofs.YtpobkmjicbobdaaGreat
