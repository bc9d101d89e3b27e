/- Walks. -/
import Derived.Test.YtpobkmjicbobdaaGreatBl23
namespace Go.Proofs.YtpobkmjicbobdaaGreat
set_option maxRecDepth 100000
set_option maxHeartbeats 40000000
open Go.RowKit
theorem Ax (lo lw:Nat) (q:Int) (aM:Option Addr) (m cm L cv:Nat) (U:Option Addr) (f cs:Nat) (M:List ac) (A B C:List an) (S:List Int) (bt ot nt ct:Nat) (T:List an) (gr:Nat) (w:World) (hT:b6 lo w aM m cm (pT L) 3 cv U f cs M [A,B,C] S) (dF:m≤1048576) (eF:f≤1048576) (b0:∀Z ∈ [A,B,C],Z.length≤100∧∀r ∈ Z,1≤r.1.length∧r.1.length≤10000) (bu:ay 0 w (some ⟨bt,ot,none⟩) nt ct T) (fj:nt≤100) (cl:w.heap[gr]?=some (.cells #[] 63 (0,0))) (cK:lw≤gr) (aU:fT T B) (b7:(bj (dz T B)).flatten.length≤100000) :
 Calls Tryz.prog 119 #[.agg #[iT q,.slice aM m cm,sL L 3 cv,.slice U f cs],iT 0,sO bt ot nt ct,sL gr 0 0] w (jO lw q (.agg #[iT q,.slice aM m cm,sL L 3 cv,.slice U f cs]) M [] (dG T B C S 1) C S (uG T B C S 1) w):=by
 obtain ⟨j0,hj,cn,co,dc⟩:=info_parts Tryz.infoRun;obtain ⟨X,hX⟩:=aH w.heap.size;obtain ⟨W,hW⟩:=aH ((w.alloc (.cells #[iT q,.slice aM m cm,sL L 3 cv,.slice U f cs] 31)).alloc (.cells #[iT 0,nZ,nZ,nZ] 31));have kW:Bl w W:=by rw [hW];exact bZ.alloc (by simp) _
 have bx:az W X (iT q) (.slice aM m cm) (sL L 3 cv) (.slice U f cs):=by rw [hW,hX];exact (az.new _ _ _ _ _ _).alloc _
 have br:az W (X+1) (iT 0) nZ nZ nZ∧au W (X+1) 31 4:=by
  have:=az.new (w.alloc (.cells #[iT q,.slice aM m cm,sL L 3 cv,.slice U f cs] 31)) 31 (iT 0) nZ nZ nZ;rw [Dc] at this;rw [hW,hX];have h2:=cy (w.alloc (.cells #[iT q,.slice aM m cm,sL L 3 cv,.slice U f cs] 31)) #[iT 0,nZ,nZ,nZ] 31;rw [Dc] at h2;exact ⟨this,h2⟩
 have HX:CG (X=w.heap.size):=hX;have K0:CG (Bl w W):=kW;have d0:CG (∀w',Bl W w'→az w' (X+1) (iT 0) nZ nZ nZ∧yl w' (X+1)):=fun w' k=>⟨br.1.keep k,fJ (br.2.below k) (br.1.keep k)⟩
 have cj:CG (∀w',Bl W w'→az w' X (iT q) (.slice aM m cm) (sL L 3 cv) (.slice U f cs)):=fun w' k=>bx.keep k
 have ft:CG (∀w',Bl W w'→au w' (X+1) 31 4):=fun w' k=>br.2.below k
 have da:=j' (l:=T) (i:=0) (by have:=aU.t0;omega);obtain ⟨r0,aG⟩:∃r0,T[0]?=some r0:=⟨_,da⟩;obtain ⟨low,E⟩:=aH (ik T);obtain ⟨ae,ad⟩:=aH (fc T);have ba:low=fh (bd r0.1) T:=by rw [E];unfold ik;rw [aG]
 have b9:ae=cW (aT r0.1) T:=by rw [ad];unfold fc;rw [aG]
 obtain ⟨nx,bT,bP,hN⟩:∃aN nN cN,w.cell? ⟨L,1,none⟩=some (.slice aN nN cN)∧ay 0 w aN nN cN B:=by
  obtain ⟨s,n,c,h1,h2⟩:=hT.levels.levels _ rfl 1 (by simp);exact ⟨s,n,c,by simpa using h1,h2.mono (C3 _)⟩
 obtain ⟨d1,hN⟩:=hN;obtain ⟨a2,n2,c2,cu,hC⟩:∃aN nN cN,w.cell? ⟨L,2,none⟩=some (.slice aN nN cN)∧ay 0 w aN nN cN C:=by
  obtain ⟨s,n,c,h1,h2⟩:=hT.levels.levels _ rfl 2 (by simp);exact ⟨s,n,c,by simpa using h1,h2.mono (C3 _)⟩
 have bC:=b0 B (by simp);have cL:=b0 C (by simp);have ee:=hN.length;have e5:=hC.length;have d5:CG (w.cell? ⟨L,1,none⟩=some (.slice nx bT bP)):=d1;have CR:CG (∀w',Bl w w'→Calls Tryz.prog 176 #[sO bt ot nt ct] w' fun e y=>e=.returned (.tuple #[.string low,.string ae])∧Bl w' y):=fun w' k=>by
  rw [ba,b9];exact lU bt ot nt ct T r0 w' (bu.keep k) aG (fun r hr=>(aU.tok r hr).2) (by omega)
 have CP:CG (∀w',Bl w w'→Calls Tryz.prog 177 #[.slice nx bT bP,.string low,.string ae] w' fun e y=>∃O n1 c1 g2 n2 c2,e=.returned (.tuple #[sL O n1 c1,sL g2 n2 c2])∧ay 0 y (pT O) n1 c1 (AC T B)∧ay 0 y (pT g2) n2 c2 (offR T B)∧Bl w' y):=fun w' k=>by
  unfold AC offR;rw [← E,← ad];exact nR nx bT bP B low ae w' (hN.keep k) (fun r hr=>(bC.2 r hr).1) (by omega)
 have cP:=bO hT;have eB:=bO bu;have a4:CG (w.heap[gr]?=some (.cells #[] 63 (0,0))∧lw≤gr):=⟨cl,cK⟩;have cq:CG (w.cell? ⟨L,2,none⟩=some (.slice a2 n2 c2)∧ay 0 w a2 n2 c2 C):=⟨cu,hC⟩;have de:=bO aU;have ed:CG (T[0]?=some r0):=aG;have cp:=bO b7;have bM:CG (B.length≤100∧∀r ∈ B,1≤r.1.length∧r.1.length≤10000):=bC;have cZ:CG (n2≤1000∧∀r ∈ C,1≤r.1.length):=⟨by omega,fun r hr=>(cL.2 r hr).1⟩;have ef:=bO b0;obtain ⟨OK,bz⟩:=aH (uG T B C S 1);have dj:CG (OK=uG T B C S 1):=bz;rw [← bz];have l0:=cell_later kW d5.o;have lz:=Cz _ _ l0;simp only at lz;clear kW da E ad ba b9 hT bu cl cK cu hC aU aG b7 bC cL b0 d1 hN br ee e5 bz l0 lz;go_enter Tryz.func119,Tryz.ntmps119
 go_wp2_with fail
 rw [← hX,← hW];clear hX hW;refine (CR.o _ K0.o).mono ?_;rintro e w1 ⟨rfl,aJ⟩;have ci:CG (Bl W w1):=aJ;have K1:CG (Bl w w1):=K0.o.trans (aJ.mono K0.o.size);have x2:=(bx.keep aJ).c2;have xz:=(bx.keep aJ).lt;have l0:=cell_later K1.o d5.o;have lz:=Cz _ _ l0;simp only at lz;clear aJ bx;go_wp2_with fail
 clear x2 xz l0 lz;refine (CP.o _ K1.o).mono ?_;rintro e t ⟨gI,nI,cI,gO,nO,cO,rfl,hI,hO,bJ⟩;have aZ:CG (Bl W t):=ci.o.trans (bJ.mono ci.o.size);have K2:CG (Bl w t):=K1.o.trans (bJ.mono K1.o.size);have di:CG (ay 0 t (pT gO) nO cO (offR T B)):=hO;have em:=hI.length;have dV:nI≤100:=by have h1:=bM.o.1;have h2:=(kj T B).length_le;omega
 obtain ⟨aw,dT,rT⟩:=(eB.o.keep K2.o).raw;obtain ⟨bI,dI,rI⟩:=hI.raw;have ce:CG (dW (·<t.heap.size) t (aw++bI) (dz T B)):=dT.denP.app dI.denP;have bU:CG (mQ t (sO bt ot nt ct) nt aw):=rT;have b2:CG (mQ t (sL gI nI cI) nI bI):=rI;have ka:Bl t (t.alloc (.cells #[] 63)):=bZ;have KA:CG (Bl t (t.alloc (.cells #[] 63))):=ka;have R1:CG ((t.alloc (.cells #[] 63)).ownsRow t.heap.size 63 2 (sL (t.heap.size) 0 0) 0 []):=by
  have:=Do (base:=t.heap.size) (e:=63) (size:=2) t #[] 0 (Cy _) (by simp) (by simp);show World.ownsRow _ _ _ _ _ _ _
  simpa using this
 have c8:CG (∀j u,aw[j]?=some u→(t.alloc (.cells #[] 63)).cell? ((⟨bt,ot,none⟩:Addr).add j)=some u):=fun j u hu=>by
  rcases (rT.keep ka).2.2 with ⟨h,_⟩ | ⟨b,o,c,h,hc⟩
  · cases h
  · cases h;rw [De];exact hc j u hu
 clear hI hO bJ dT dI rT rI ka CR CP em;go_wp2_with (first
  | (at_builtin;refine wpList_append_own _ rfl _ _ 61 rfl t.heap.size 63 j0 _ 2 32 Tryz.underlying61 hj cn co dc rfl (by decide) _ _ _ rfl bg.o ⟨gI,0,none⟩ nI cI bI rfl b2.o.1 cM.o b2.o.2.1 (by unfold maxLen;omega) (by omega) (by have:=K3.o.size;omega) ?_;intro v4 W4 a5 ah ax;obtain ⟨gA,cA,rfl⟩:=aF a5 ax)
  | (at_builtin;refine wpList_append_own _ rfl _ _ 61 rfl t.heap.size 63 j0 _ 2 32 Tryz.underlying61 hj cn co dc rfl (by decide) _ _ _ rfl R1.o ⟨bt,ot,none⟩ nt ct aw rfl bU.o.1 c8.o bU.o.2.1 (by unfold maxLen;omega) (by omega) (by simp) ?_;intro v3 w3 ab aj aI;obtain ⟨dH,ex,rfl⟩:=aF ab aI;have bg:CG (w3.ownsRow t.heap.size 63 2 (sL dH nt ex) nt aw):=(by show World.ownsRow _ _ _ _ _ _ _;simpa using ab);have K3:CG (Bl t w3):=KA.o.grown aj KA.o.size (fun k e=>(R1.o.lt k e).1);have cM:=lm (b2.o.keep K3.o);clear ab aj aI))
 have k4:Bl t W4:=K3.o.grown ah K3.o.size (fun k e=>(bg.o.lt k e).1);have K4:CG (Bl t W4):=k4;have bs:CG (Bl W W4):=aZ.o.trans (k4.mono aZ.o.size);have aD:CG (Bl w W4):=K2.o.trans (k4.mono K2.o.size);obtain ⟨na,cJ⟩:=aH (nt+nI);have be:na≤1000:=by omega
 obtain ⟨aA,fl,eA,aV⟩:=iL a5 (ce.o.low k4).den;cases eA;rw [← cJ] at aV ⊢;obtain ⟨P,hP⟩:=aH (bj (dz T B));obtain ⟨nF,bS⟩:=aH P.flatten.length;obtain ⟨BR,bD⟩:=aH (jR T B C 1);obtain ⟨SQ,aX⟩:=aH (sy T B C S 1);have e4:nF≤100000:=by rw [bS,hP];exact cp.o
 have a3:(dz T B)[0]?=some r0:=by unfold dz;rw [C7 (by have:=de.o.t0;omega)];exact ed.o
 have CL:CG (∀w',Bl W4 w'→Calls Tryz.prog 178 #[sL gA na cA] w' (pn na (dz T B) w')):=fun w' k=>pO _ na cA (dz T B) w' (aV.keep k) (by omega)
 have CM:CG (∀pa pc w',cY w' pa na pc P→Calls Tryz.prog 109 #[.slice pa na pc] w' fun e y=>∃g cg,e=.returned (sL g nF cg)∧af y w'.heap.size g nF cg (bF P.flatten)∧Bl w' y):=fun pa pc w' h=>by
  rw [bS];exact pN pa na pc P w' h (by omega)
 have CB:CG (∀w',Bl W4 w'→Calls Tryz.prog 179 #[.agg #[iT q,.slice aM m cm,sL L 3 cv,.slice U f cs],iT 1,sL gA na cA] w' fun e y=>e=.returned (.bool BR)∧Bl w' y):=fun w' k=>by
  have kk:=aD.o.trans (k.mono aD.o.size);have:=sK q aM m cm L 0 cv U f cs a2 n2 c2 C 1 gA 0 na cA (dz T B) r0 w' (by simpa using cell_later kk cq.o.1) (cq.o.2.keep kk) cZ.o.1 cZ.o.2 (aV.keep k) a3 (fun r hr=>(de.o.all r hr).2) be;have e:BR=(decide ((1:Int)=2) || decide ((C.filter (dX (fh (bd r0.1) (dz T B)) (cW (aT r0.1) (dz T B)))).length=0)):=by
   rw [bD];unfold jR ik fc;simp only [a3]
  rw [e];exact this
 have CQ:CG (∀al cg w',Bl W4 w'→ag w' al nF cg (bF P.flatten)→Calls Tryz.prog 174 #[.slice al nF cg,.slice U f cs,.bool BR] w' fun e y=>∃g n' c',e=.returned (sL g n' c')∧af y w'.heap.size g n' c' SQ∧Bl w' y):=fun al cg w' k h=>by
  have e:SQ=bG (bF P.flatten) S BR:=by rw [aX,hP,bD];rfl
  rw [e];exact jT lo al nF cg (bF P.flatten) _ f cs S BR w' h (cP.o.snaps.keep (aD.o.trans (k.mono aD.o.size))) (by omega)
 have bK:CG (SQ=sy T B C S 1):=aX;have dR:CG (P=bj (dz T B)):=hP;have aq:CG (SQ.length≤100000):=by
  rw [aX];have h1:=jb (bF (bj (dz T B)).flatten) S (jR T B C 1);have h2:=ju (bj (dz T B)).flatten;have h3:=cp.o;show (sy T B C S 1).length≤_
  unfold sy;omega
 have am:∀w',Bl W4 w'→(w'.cell? ⟨X,0,none⟩=some (iT q)∧w'.cell? ⟨X,1,none⟩=some (.slice aM m cm)∧w'.cell? ⟨X,2,none⟩=some (sL L 3 cv)∧w'.cell? ⟨X,3,none⟩=some (.slice U f cs)∧X<w'.heap.size):=fun w' k=>by
  have b:=cj.o w' (bs.o.trans (k.mono bs.o.size));exact ⟨b.c0,b.c1,b.c2,b.c3,b.lt⟩
 have k0:Bl W4 W4.drew:=(Below.refl _ W4).drew;clear a5 ah ax k4 cJ aV hP bS bD aX e4 a3 be ce bU b2 cM c8 bg R1 KA K3 dV;go_upto_region 5 with fail
 go_cut [16] (fun s wx=>∃gD nD cD,s=sL gD nD cD∧ag wx (pT gD) nD cD SQ∧gD<wx.heap.size∧Bl W4 wx)
 case first =>
  refine zL am k0 fun aa=>?_
  generalize W4.drew=wd at k0 aa ⊢;refine aP 0 1 aa ?_;refine aP 3 5 aa ?_;refine aR 1 fun K hK=>?_
  go_simp;refine (CL.o _ k0).mono ?_;rintro e wA cw;obtain ⟨pa,pc,rfl,bL,cG⟩:=mG cw;rw [← dR.o] at bL;have kA:Bl W4 wA:=k0.trans (cG.mono k0.size);have dJ:CG (cY wA pa na pc P):=bL;clear cw bL cG;go_wp2_with fail
  refine hK.o _ _ (am _ kA) fun aa=>?_
  (try go_frame);refine aR 2 fun K hK=>?_
  go_simp;refine (CM.o pa pc _ dJ.o).mono ?_;rintro e wB ⟨gB,cB,rfl,cx,dL⟩;have kB:Bl W4 wB:=kA.trans (dL.mono kA.size);have el:CG (ag wB (pT gB) nF cB (bF P.flatten)):=cx.entsAt;clear cx;go_wp2_with fail
  refine hK.o _ _ (am _ kB) fun aa=>?_
  (try go_frame);refine aR 8 fun K hK=>?_
  go_simp;refine (CB.o _ kB).mono ?_;rintro e wC ⟨rfl,cb⟩;have kC:Bl W4 wC:=kB.trans (cb.mono kB.size);go_wp2_with fail
  refine hK.o _ _ (am _ kC) fun aa=>?_
  (try go_frame);refine aR 9 fun K hK=>?_
  go_simp;refine (CQ.o _ _ _ kC (el.o.keep cb)).mono ?_;rintro e wD ⟨gD,nD,cD,rfl,bw,e1⟩;have kD:Bl W4 wD:=kC.trans (e1.mono kC.size);have es:CG (ag wD (pT gD) nD cD SQ):=bw.entsAt;have er:CG (gD<wD.heap.size):=bw.lt.2;clear bw;go_wp2_with fail
  refine hK.o _ _ (am _ kD) fun aa=>?_
  (try go_frame);refine aP 10 1 aa ?_;refine dN ?_;go_wp2_with fail
  go_meet
  exact ⟨_,_,_,rfl,es.o,er.o,kD⟩
 case rest =>
  obtain ⟨gD,nD,cD,rfl,hD,cc,k5⟩:=hcut;clear k0 CL CM CB CQ am;have cf:=hD.length;have ej:=aq.o;have bo:=sI gD nD cD SQ wc hD cc (by omega);rw [show (eU SQ nD).1=dw SQ by unfold dw;rw [cf]] at bo;have K5:CG (Bl t wc):=K4.o.trans (k5.mono K4.o.size);clear hD cc k5 cf ej;go_wp2_with fail
  refine bo.mono ?_;rintro e w6 ⟨g6,m6,c6,rfl,aW,c9⟩;have K6:CG (Bl t w6):=K5.o.trans (c9.mono K5.o.size);have e2:(dw SQ).length=m6:=aW.1;have d9:=rO SQ SQ.length;have dd:m6≤100000:=by have:=aq.o;have h9:(dw SQ).length≤SQ.length:=d9;omega
  have e9:=di.o.length;have eo:nO≤100:=by have h1:=bM.o.1;have h2:(offR T B).length≤B.length:=ER _ _;omega
  have CO:=pL gO 0 nO cO (offR T B) g6 0 m6 c6 (dw SQ) w6 (di.o.keep K6.o) (aW.runsIn.mono (C3 _)) aW.lt.2 (fun r hr=>(bM.o.2 r (EH.1 hr).1).1) (fun r hr=>mn hr) (by omega) (by omega);have d8:CG ((dq (offR T B) (dw SQ)).length≤200000):=by show _≤_;rw [l9];omega
  clear bo aW c9 e2 d9 dd e9 eo;go_wp2_with fail
  refine CO.mono ?_;rintro e w7 ⟨g7,n7,c7,fu,rfl,dl,d2,bN⟩;have K7:CG (Bl t w7):=K6.o.trans (bN.mono K6.o.size);obtain ⟨a7,fB,e7,ao⟩:=iL dl (d2.low bN).den;cases e7;rw [bK.o] at ao;have d4:CG (ay 0 w7 (pT g7) n7 c7 (dG T B C S 1)):=ao;have ck:n7≤1048576:=by have h1:=ao.length;have h2:=d8.o;rw [bK.o] at h2;omega
  have CF:=sH _ n7 c7 _ w7 ao ck;have ca:(gy (dq (offR T B) (dw (sy T B C S 1))) && decide (n7≤8))=OK:=by
   rw [dj.o,← ao.length];rfl
  rw [ca] at CF;clear CO dl d2 bN ao ck ca;go_wp2_with fail
  refine CF.mono ?_;rintro e D ⟨rfl,bi⟩;have K8:CG (Bl t D):=K7.o.trans (bi.mono K7.o.size);have bn:CG (Bl W D):=aZ.o.trans (K8.o.mono aZ.o.size);have R:CG (Bl w D):=K2.o.trans (K8.o.mono K2.o.size);have dO:CG (ay 0 D (pT g7) n7 c7 (dG T B C S 1)):=d4.o.keep bi;have b8:=cj.o D bn.o;have y8:=(d0.o D bn.o).1;have x0:=b8.all;clear CF bi d4 K7 K6 K5 K4 bs aD d8 bK aq b8;cases OK with
  | false =>
   have r0:=y8.all;have dS:CG (az D (X+1) (iT 0) nZ nZ nZ):=y8;clear y8;go_wp2;refine bodyPost_ret (v:=.tuple #[.agg #[iT q,.slice aM m cm,sL L 3 cv,.slice U f cs],.bool false]) ?_ rfl (show jO _ _ _ _ _ _ _ _ _ _ _ _ from ⟨aM,m,cm,some ⟨L,0,none⟩,3,cv,U,f,cs,rfl,?_,fun _=>rfl,fun h=>by cases h⟩)
   · have e:=(((dS.o.set0 (iT q)).set1 (.slice aM m cm)).set2 (sL L 3 cv)).set3 (.slice U f cs);simp [results,Tryz.results119,go_sem,e.all]
   · have hx:w.heap.size≤X+1:=by have:=HX.o;omega
     exact qX R.o hx _ _ _ _
  | true =>
   have CC:=ib lo q aM (pT L) U m cm 3 cv f cs M [A,B,C] S D (cP.o.keep R.o) dF eF (by omega) ef.o;go_wp2_with fail
   refine CC.mono ?_;rintro e w9 ⟨O,c1,G,c,g3,c3,rfl,ap,ar⟩;clear CC x0;obtain ⟨bH,bk,b3,aS,I,N,aB,rA,rB,rC,_,_⟩:=ap.split;have ak:=aB.lt G rfl;have bq:CG (D.heap.size≤G):=ak.1;have ch:X+1<D.heap.size:=y8.lt;have dY:CG (X+1<D.heap.size):=ch;have ME:CG (tX D.heap.size w9 O m c1 G c g3 f c3 I C.length N [sL bH A.length bk,sL b3 B.length aS,sL I C.length N] M C S):=⟨ap.mem,rC,ap.slen,ap.swf,ap.sn,aB⟩;have e8:CG (Bl w w9):=R.o.trans (ar.mono R.o.size);have K9:CG (Bl D w9):=ar;obtain ⟨Y,hY⟩:=aH w9.heap.size;obtain ⟨wY,b1⟩:=aH (w9.alloc (.cells #[iT q,sL O m c1,sL G 3 c,sL g3 f c3] 31));have kY:Bl w9 wY:=by rw [b1];exact bZ
   have bY:az wY Y (iT q) (sL O m c1) (sL G 3 c) (sL g3 f c3):=by rw [b1,hY];exact az.new _ _ _ _ _ _
   have av:CG (tX D.heap.size wY O m c1 G c g3 f c3 I C.length N [sL bH A.length bk,sL b3 B.length aS,sL I C.length N] M C S):=ME.o.below kY;have KY:CG (Bl D wY):=K9.o.trans (kY.mono K9.o.size);have cU:G≠Y:=by rw [hY];have:=ak.2;omega
   have dZ:X+1≠G:=by have:=ak.1;omega
   have cz:CG (X+1≠G):=dZ;have y9:=(y8.keep ar).keep kY;have fm:X+1≠Y:=by have:=(y8.keep ar).lt;rw [hY];omega
   clear ap rA rB rC aB ar ak ch K9 e8 ME y8;go_upto_region 10 with fail
   rw [← hY,← b1];clear hY b1 kY;obtain ⟨aL,H⟩:=aH (wY.setCell ⟨G,0,none⟩ (sL gr 0 0));obtain ⟨J,F⟩:=aH (aL.setCell ⟨G,1,none⟩ (sL g7 n7 c7));have ai:az aL Y (iT q) (sL O m c1) (sL G 3 c) (sL g3 f c3):=by rw [H];exact bY.other cU _
   have b4:az J Y (iT q) (sL O m c1) (sL G 3 c) (sL g3 f c3):=by rw [F];exact ai.other cU _
   have bm:az J (X+1) (iT 0) nZ nZ nZ:=by rw [F,H];exact (y9.other cz.o.symm _).other cz.o.symm _
   have Q:CG (tX D.heap.size aL O m c1 G c g3 f c3 I C.length N [sL gr 0 0,sL b3 B.length aS,sL I C.length N] M C S):=by rw [H];exact av.o.setG _ _
   have cV:CG (tX D.heap.size J O m c1 G c g3 f c3 I C.length N [sL gr 0 0,sL g7 n7 c7,sL I C.length N] M C S):=by rw [F];exact Q.o.setG _ _
   have bB:CG (Bl D J):=by rw [F,H];exact (KY.o.setCell (p:=⟨G,0,none⟩) bq.o _).setCell (p:=⟨G,1,none⟩) bq.o _
   have dn:CG (Bl w J):=R.o.trans (bB.o.mono R.o.size);have fk:=(av.o.row.lt G rfl).2;have cr:=(Q.o.row.lt G rfl).2;have ei:CG (aL.cell? ⟨G,1,none⟩=some (sL b3 B.length aS)):=Q.o.row.cellAt 1 (by omega);have cS:CG (az J (X+1) (iT 0) nZ nZ nZ):=bm;have u2:=bY.c2;have uz:=bY.lt;have q0:wY.cell? ⟨G,0,none⟩=some (sL bH A.length bk):=av.o.row.cellAt 0 (by omega);have gf:=fun o=>av.o.row.frozenAt o
   have dh:CG (∀o,aL.frozen? ⟨G,o,none⟩=false):=fun o=>Q.o.row.frozenAt o
   clear bY y9 av Q;go_upto_region 11 with fail
   rw [← H];clear H u2 uz q0 gf;have u2:=ai.c2;have uz:=ai.lt;have gf:=dh.o;have q0:=ei.o;clear ai dh;go_upto_region 12 with fail
   rw [← F];clear F u2 uz q0 gf cr;have u0:=b4.all;have r0:=bm.all;clear b4 bm;go_wp2;refine bodyPost_ret (v:=.tuple #[.agg #[iT q,sL O m c1,sL G 3 c,sL g3 f c3],.bool true]) ?_ rfl ?_
   · have e:=(((cS.o.set0 (iT q)).set1 (sL O m c1)).set2 (sL G 3 c)).set3 (sL g3 f c3);simp [results,Tryz.results119,go_sem,e.all]
   · have hx:w.heap.size≤X+1:=by have:=HX.o;omega
     have aC:=qX dn.o hx (iT q) (sL O m c1) (sL G 3 c) (sL g3 f c3);have aY:=dY.o;have hM:=(((cV.o.setX aY 0 (iT q)).setX aY 1 (sL O m c1)).setX aY 2 (sL G 3 c)).setX aY 3 (sL g3 f c3);have hh:=qA J (X+1) (iT q) (sL O m c1) (sL G 3 c) (sL g3 f c3);have dQ:=qy J (X+1) (iT q) (sL O m c1) (sL G 3 c) (sL g3 f c3);have fo:=bB.o.size;have dM:yl D (X+1):=(d0.o D bn.o).2;have ak:=bq.o;have fy:gr<D.heap.size:=l' (DM.1 a4.o.1).1 R.o.size;obtain ⟨_,kG⟩:=aO hM.row;obtain ⟨eu,k3⟩:=aO hM.sn;generalize ((((J.setCell ⟨X+1,0,none⟩ (iT q)).setCell ⟨X+1,1,none⟩ (sL O m c1)).setCell ⟨X+1,2,none⟩ (sL G 3 c)).setCell ⟨X+1,3,none⟩ (sL g3 f c3))=wf at aC hM hh dQ kG k3 ⊢;have E:lw≤D.heap.size:=by have:=a4.o.2;omega
     have d7:∀{a n d g} {Z:List an},ay 0 D a n d Z→(D.heap.size≤g∨∀o,D.cell? ⟨g,o,none⟩=none)→cX (fun b=>b≠g∧b≠G) wf a n d Z:=fun {a n d g Z} h h2=>pY h dM (by omega) (fun b hb hn=>(hh b hn).trans (bB.o.block b hb)) h2 ak
     exact ⟨some ⟨O,0,none⟩,m,c1,some ⟨G,0,none⟩,3,c,some ⟨g3,0,none⟩,f,c3,rfl,aC,(fun h=>by cases h),fun _=>⟨G,gr,0,g7,n7,c7,I,C.length,N,rfl,rfl,(cH.some hM.mem).mono E,eC hM.row E,nW ((aC.block gr (DM.1 a4.o.1).1).trans a4.o.1) a4.o.2,d7 dO.o (.inr (fun o=>by have h1:=(R.o.block gr (DM.1 a4.o.1).1).trans a4.o.1;simp [World.cell?,h1])),hM.lev.toP ⟨by have:=hM.lev.lt.1;omega,fun e=>by obtain ⟨_,_,fr,h3,_⟩:=hM.lev;obtain ⟨_,kZ⟩:=aO h3;rw [e] at kZ;exact absurd (kZ.kind kG) (by decide)⟩ (fun b sz hb kb=>⟨by omega,fun e=>by rw [e] at kb;exact absurd (kb.kind kG) (by decide)⟩),(iH hM.sn hM.slen hM.swf).lower E,fun x e _=>by cases e;exact ⟨eu,k3⟩⟩⟩
theorem Aw (lo lw:Nat) (q:Int) (aM:Option Addr) (m cm L cv:Nat) (aK:Option Addr) (f cs:Nat) (M:List ac) (A B C:List an) (S:List Int) (bt ot nt ct:Nat) (T:List an) (gr nr cr:Nat) (R:List an) (w:World) (hT:b6 lo w aM m cm (pT L) 3 cv aK f cs M [A,B,C] S) (dL:m≤1048576) (eI:f≤1048576) (aZ:∀Z ∈ [A,B,C],Z.length≤100∧∀r ∈ Z,1≤r.1.length∧r.1.length≤10000) (bA:ay 0 w (some ⟨bt,ot,none⟩) nt ct T) (fk:nt≤100) (hR:ay 0 w (pT gr) nr cr R) (cS:lw≤w.heap.size) (aQ:fT T C) (b5:(bj (dz T C)).flatten.length≤100000) :
 Calls Tryz.prog 119 #[.agg #[iT q,.slice aM m cm,sL L 3 cv,.slice aK f cs],iT 1,sO bt ot nt ct,sL gr nr cr] w (jO lw q (.agg #[iT q,.slice aM m cm,sL L 3 cv,.slice aK f cs]) M A R (dG T C C S 2) S (uG T C C S 2) w):=by
 obtain ⟨j0,hj,cq,cw,dg⟩:=info_parts Tryz.infoRun;obtain ⟨X,hX⟩:=aH w.heap.size;obtain ⟨W,hW⟩:=aH ((w.alloc (.cells #[iT q,.slice aM m cm,sL L 3 cv,.slice aK f cs] 31)).alloc (.cells #[iT 0,nZ,nZ,nZ] 31));have kW:Bl w W:=by rw [hW];exact bZ.alloc (by simp) _
 have bx:az W X (iT q) (.slice aM m cm) (sL L 3 cv) (.slice aK f cs):=by rw [hW,hX];exact (az.new _ _ _ _ _ _).alloc _
 have br:az W (X+1) (iT 0) nZ nZ nZ∧au W (X+1) 31 4:=by
  have:=az.new (w.alloc (.cells #[iT q,.slice aM m cm,sL L 3 cv,.slice aK f cs] 31)) 31 (iT 0) nZ nZ nZ;rw [Dc] at this;rw [hW,hX];have h2:=cy (w.alloc (.cells #[iT q,.slice aM m cm,sL L 3 cv,.slice aK f cs] 31)) #[iT 0,nZ,nZ,nZ] 31;rw [Dc] at h2;exact ⟨this,h2⟩
 have HX:CG (X=w.heap.size):=hX;have K0:CG (Bl w W):=kW;have d5:CG (∀w',Bl W w'→az w' (X+1) (iT 0) nZ nZ nZ∧yl w' (X+1)):=fun w' k=>⟨br.1.keep k,fJ (br.2.below k) (br.1.keep k)⟩
 have co:CG (∀w',Bl W w'→az w' X (iT q) (.slice aM m cm) (sL L 3 cv) (.slice aK f cs)):=fun w' k=>bx.keep k
 have fu:CG (∀w',Bl W w'→au w' (X+1) 31 4):=fun w' k=>br.2.below k
 have de:=j' (l:=T) (i:=0) (by have:=aQ.t0;omega);obtain ⟨r0,aE⟩:∃r0,T[0]?=some r0:=⟨_,de⟩;obtain ⟨low,D⟩:=aH (ik T);obtain ⟨ae,ad⟩:=aH (fc T);have ba:low=fh (bd r0.1) T:=by rw [D];unfold ik;rw [aE]
 have b7:ae=cW (aT r0.1) T:=by rw [ad];unfold fc;rw [aE]
 obtain ⟨nx,bX,bT,hN⟩:∃aN nN cN,w.cell? ⟨L,2,none⟩=some (.slice aN nN cN)∧ay 0 w aN nN cN C:=by
  obtain ⟨s,n,c,h1,h2⟩:=hT.levels.levels _ rfl 2 (by simp);exact ⟨s,n,c,by simpa using h1,h2.mono (C3 _)⟩
 obtain ⟨d6,hN⟩:=hN;obtain ⟨a2,n2,c2,cF,hC⟩:∃aN nN cN,w.cell? ⟨L,2,none⟩=some (.slice aN nN cN)∧ay 0 w aN nN cN C:=by
  obtain ⟨s,n,c,h1,h2⟩:=hT.levels.levels _ rfl 2 (by simp);exact ⟨s,n,c,by simpa using h1,h2.mono (C3 _)⟩
 have bH:=aZ C (by simp);have cT:=aZ C (by simp);have ei:=hN.length;have ea:=hC.length;have da:CG (w.cell? ⟨L,2,none⟩=some (.slice nx bX bT)):=d6;have CR:CG (∀w',Bl w w'→Calls Tryz.prog 176 #[sO bt ot nt ct] w' fun e y=>e=.returned (.tuple #[.string low,.string ae])∧Bl w' y):=fun w' k=>by
  rw [ba,b7];exact lU bt ot nt ct T r0 w' (bA.keep k) aE (fun r hr=>(aQ.tok r hr).2) (by omega)
 have CP:CG (∀w',Bl w w'→Calls Tryz.prog 177 #[.slice nx bX bT,.string low,.string ae] w' fun e y=>∃O n1 c1 g2 n2 c2,e=.returned (.tuple #[sL O n1 c1,sL g2 n2 c2])∧ay 0 y (pT O) n1 c1 (AC T C)∧ay 0 y (pT g2) n2 c2 (offR T C)∧Bl w' y):=fun w' k=>by
  unfold AC offR;rw [← D,← ad];exact nR nx bX bT C low ae w' (hN.keep k) (fun r hr=>(bH.2 r hr).1) (by omega)
 have cV:=bO hT;have eF:=bO bA;have cu:CG (ay 0 w (pT gr) nr cr R∧lw≤w.heap.size):=⟨hR,cS⟩;have cz:CG (w.cell? ⟨L,2,none⟩=some (.slice a2 n2 c2)∧ay 0 w a2 n2 c2 C):=⟨cF,hC⟩;have di:=bO aQ;have eh:CG (T[0]?=some r0):=aE;have cx:=bO b5;have bQ:CG (C.length≤100∧∀r ∈ C,1≤r.1.length∧r.1.length≤10000):=bH;have d4:CG (n2≤1000∧∀r ∈ C,1≤r.1.length):=⟨by omega,fun r hr=>(cT.2 r hr).1⟩;have ej:=bO aZ;obtain ⟨OK,bC⟩:=aH (uG T C C S 2);have dn:CG (OK=uG T C C S 2):=bC;rw [← bC];have l0:=cell_later kW da.o;have lz:=Cz _ _ l0;simp only at lz;clear kW de D ad ba b7 hT bA hR cS cF hC aQ aE b5 bH cT aZ d6 hN br ei ea bC l0 lz;go_enter Tryz.func119,Tryz.ntmps119
 go_wp2_with fail
 rw [← hX,← hW];clear hX hW;refine (CR.o _ K0.o).mono ?_;rintro e w1 ⟨rfl,aI⟩;have cn:CG (Bl W w1):=aI;have K1:CG (Bl w w1):=K0.o.trans (aI.mono K0.o.size);have x2:=(bx.keep aI).c2;have xz:=(bx.keep aI).lt;have l0:=cell_later K1.o da.o;have lz:=Cz _ _ l0;simp only at lz;clear aI bx;go_wp2_with fail
 clear x2 xz l0 lz;refine (CP.o _ K1.o).mono ?_;rintro e t ⟨gI,nI,cI,gO,nO,cO,rfl,hI,hO,bL⟩;have aY:CG (Bl W t):=cn.o.trans (bL.mono cn.o.size);have K2:CG (Bl w t):=K1.o.trans (bL.mono K1.o.size);have dm:CG (ay 0 t (pT gO) nO cO (offR T C)):=hO;have ep:=hI.length;have e1:nI≤100:=by have h1:=bQ.o.1;have h2:=(kj T C).length_le;omega
 obtain ⟨aw,dT,rT⟩:=(eF.o.keep K2.o).raw;obtain ⟨bK,dI,rI⟩:=hI.raw;have cj:CG (dW (·<t.heap.size) t (aw++bK) (dz T C)):=dT.denP.app dI.denP;have c4:CG (mQ t (sO bt ot nt ct) nt aw):=rT;have b2:CG (mQ t (sL gI nI cI) nI bK):=rI;have ka:Bl t (t.alloc (.cells #[] 63)):=bZ;have KA:CG (Bl t (t.alloc (.cells #[] 63))):=ka;have R1:CG ((t.alloc (.cells #[] 63)).ownsRow t.heap.size 63 2 (sL (t.heap.size) 0 0) 0 []):=by
  have:=Do (base:=t.heap.size) (e:=63) (size:=2) t #[] 0 (Cy _) (by simp) (by simp);show World.ownsRow _ _ _ _ _ _ _
  simpa using this
 have cc:CG (∀j u,aw[j]?=some u→(t.alloc (.cells #[] 63)).cell? ((⟨bt,ot,none⟩:Addr).add j)=some u):=fun j u hu=>by
  rcases (rT.keep ka).2.2 with ⟨h,_⟩ | ⟨b,o,c,h,hc⟩
  · cases h
  · cases h;rw [De];exact hc j u hu
 clear hI hO bL dT dI rT rI ka CR CP ep;go_wp2_with (first
  | (at_builtin;refine wpList_append_own _ rfl _ _ 61 rfl t.heap.size 63 j0 _ 2 32 Tryz.underlying61 hj cq cw dg rfl (by decide) _ _ _ rfl bk.o ⟨gI,0,none⟩ nI cI bK rfl b2.o.1 cU.o b2.o.2.1 (by unfold maxLen;omega) (by omega) (by have:=K3.o.size;omega) ?_;intro v4 W4 a5 ah ax;obtain ⟨gA,cA,rfl⟩:=aF a5 ax)
  | (at_builtin;refine wpList_append_own _ rfl _ _ 61 rfl t.heap.size 63 j0 _ 2 32 Tryz.underlying61 hj cq cw dg rfl (by decide) _ _ _ rfl R1.o ⟨bt,ot,none⟩ nt ct aw rfl c4.o.1 cc.o c4.o.2.1 (by unfold maxLen;omega) (by omega) (by simp) ?_;intro v3 w3 ab aj aG;obtain ⟨dM,eB,rfl⟩:=aF ab aG;have bk:CG (w3.ownsRow t.heap.size 63 2 (sL dM nt eB) nt aw):=(by show World.ownsRow _ _ _ _ _ _ _;simpa using ab);have K3:CG (Bl t w3):=KA.o.grown aj KA.o.size (fun k e=>(R1.o.lt k e).1);have cU:=lm (b2.o.keep K3.o);clear ab aj aG))
 have k4:Bl t W4:=K3.o.grown ah K3.o.size (fun k e=>(bk.o.lt k e).1);have K4:CG (Bl t W4):=k4;have bz:CG (Bl W W4):=aY.o.trans (k4.mono aY.o.size);have aC:CG (Bl w W4):=K2.o.trans (k4.mono K2.o.size);obtain ⟨na,cR⟩:=aH (nt+nI);have bg:na≤1000:=by omega
 obtain ⟨aA,fm,eA,aU⟩:=iL a5 (cj.o.low k4).den;cases eA;rw [← cR] at aU ⊢;obtain ⟨P,hP⟩:=aH (bj (dz T C));obtain ⟨nF,bW⟩:=aH P.flatten.length;obtain ⟨BR,bI⟩:=aH (jR T C C 2);obtain ⟨SQ,aW⟩:=aH (sy T C C S 2);have e9:nF≤100000:=by rw [bW,hP];exact cx.o
 have a4:(dz T C)[0]?=some r0:=by unfold dz;rw [C7 (by have:=di.o.t0;omega)];exact eh.o
 have CL:CG (∀w',Bl W4 w'→Calls Tryz.prog 178 #[sL gA na cA] w' (pn na (dz T C) w')):=fun w' k=>pO _ na cA (dz T C) w' (aU.keep k) (by omega)
 have CM:CG (∀pa pc w',cY w' pa na pc P→Calls Tryz.prog 109 #[.slice pa na pc] w' fun e y=>∃g cg,e=.returned (sL g nF cg)∧af y w'.heap.size g nF cg (bF P.flatten)∧Bl w' y):=fun pa pc w' h=>by
  rw [bW];exact pN pa na pc P w' h (by omega)
 have CB:CG (∀w',Bl W4 w'→Calls Tryz.prog 179 #[.agg #[iT q,.slice aM m cm,sL L 3 cv,.slice aK f cs],iT 2,sL gA na cA] w' fun e y=>e=.returned (.bool BR)∧Bl w' y):=fun w' k=>by
  have kk:=aC.o.trans (k.mono aC.o.size);have:=sK q aM m cm L 0 cv aK f cs a2 n2 c2 C 2 gA 0 na cA (dz T C) r0 w' (by simpa using cell_later kk cz.o.1) (cz.o.2.keep kk) d4.o.1 d4.o.2 (aU.keep k) a4 (fun r hr=>(di.o.all r hr).2) bg;have e:BR=(decide ((2:Int)=2) || decide ((C.filter (dX (fh (bd r0.1) (dz T C)) (cW (aT r0.1) (dz T C)))).length=0)):=by
   rw [bI];unfold jR ik fc;simp only [a4]
  rw [e];exact this
 have CQ:CG (∀al cg w',Bl W4 w'→ag w' al nF cg (bF P.flatten)→Calls Tryz.prog 174 #[.slice al nF cg,.slice aK f cs,.bool BR] w' fun e y=>∃g n' c',e=.returned (sL g n' c')∧af y w'.heap.size g n' c' SQ∧Bl w' y):=fun al cg w' k h=>by
  have e:SQ=bG (bF P.flatten) S BR:=by rw [aW,hP,bI];rfl
  rw [e];exact jT lo al nF cg (bF P.flatten) _ f cs S BR w' h (cV.o.snaps.keep (aC.o.trans (k.mono aC.o.size))) (by omega)
 have bN:CG (SQ=sy T C C S 2):=aW;have dY:CG (P=bj (dz T C)):=hP;have aq:CG (SQ.length≤100000):=by
  rw [aW];have h1:=jb (bF (bj (dz T C)).flatten) S (jR T C C 2);have h2:=ju (bj (dz T C)).flatten;have h3:=cx.o;show (sy T C C S 2).length≤_
  unfold sy;omega
 have am:∀w',Bl W4 w'→(w'.cell? ⟨X,0,none⟩=some (iT q)∧w'.cell? ⟨X,1,none⟩=some (.slice aM m cm)∧w'.cell? ⟨X,2,none⟩=some (sL L 3 cv)∧w'.cell? ⟨X,3,none⟩=some (.slice aK f cs)∧X<w'.heap.size):=fun w' k=>by
  have b:=co.o w' (bz.o.trans (k.mono bz.o.size));exact ⟨b.c0,b.c1,b.c2,b.c3,b.lt⟩
 have k0:Bl W4 W4.drew:=(Below.refl _ W4).drew;clear a5 ah ax k4 cR aU hP bW bI aW e9 a4 bg cj c4 b2 cU cc bk R1 KA K3 e1;go_upto_region 5 with fail
 go_cut [16] (fun s wx=>∃gD nD cD,s=sL gD nD cD∧ag wx (pT gD) nD cD SQ∧gD<wx.heap.size∧Bl W4 wx)
 case first =>
  refine zL am k0 fun aa=>?_
  generalize W4.drew=wd at k0 aa ⊢;refine aP 0 1 aa ?_;refine aP 3 5 aa ?_;refine aR 1 fun K hK=>?_
  go_simp;refine (CL.o _ k0).mono ?_;rintro e wA cG;obtain ⟨pa,pc,rfl,bP,cQ⟩:=mG cG;rw [← dY.o] at bP;have kA:Bl W4 wA:=k0.trans (cQ.mono k0.size);have dO:CG (cY wA pa na pc P):=bP;clear cG bP cQ;go_wp2_with fail
  refine hK.o _ _ (am _ kA) fun aa=>?_
  (try go_frame);refine aR 2 fun K hK=>?_
  go_simp;refine (CM.o pa pc _ dO.o).mono ?_;rintro e wB ⟨gB,cB,rfl,cJ,dQ⟩;have kB:Bl W4 wB:=kA.trans (dQ.mono kA.size);have eo:CG (ag wB (pT gB) nF cB (bF P.flatten)):=cJ.entsAt;clear cJ;go_wp2_with fail
  refine hK.o _ _ (am _ kB) fun aa=>?_
  (try go_frame);refine aR 8 fun K hK=>?_
  go_simp;refine (CB.o _ kB).mono ?_;rintro e wC ⟨rfl,cf⟩;have kC:Bl W4 wC:=kB.trans (cf.mono kB.size);go_wp2_with fail
  refine hK.o _ _ (am _ kC) fun aa=>?_
  (try go_frame);refine aR 9 fun K hK=>?_
  go_simp;refine (CQ.o _ _ _ kC (eo.o.keep cf)).mono ?_;rintro e wD ⟨gD,nD,cD,rfl,bB,e5⟩;have kD:Bl W4 wD:=kC.trans (e5.mono kC.size);have ev:CG (ag wD (pT gD) nD cD SQ):=bB.entsAt;have eu:CG (gD<wD.heap.size):=bB.lt.2;clear bB;go_wp2_with fail
  refine hK.o _ _ (am _ kD) fun aa=>?_
  (try go_frame);refine aP 10 1 aa ?_;refine dN ?_;go_wp2_with fail
  go_meet
  exact ⟨_,_,_,rfl,ev.o,eu.o,kD⟩
 case rest =>
  obtain ⟨gD,nD,cD,rfl,hD,ch,k5⟩:=hcut;clear k0 CL CM CB CQ am;have ck:=hD.length;have em:=aq.o;have bs:=sI gD nD cD SQ wc hD ch (by omega);rw [show (eU SQ nD).1=dw SQ by unfold dw;rw [ck]] at bs;have K5:CG (Bl t wc):=K4.o.trans (k5.mono K4.o.size);clear hD ch k5 ck em;go_wp2_with fail
  refine bs.mono ?_;rintro e w6 ⟨g6,m6,c6,rfl,aV,cd⟩;have K6:CG (Bl t w6):=K5.o.trans (cd.mono K5.o.size);have e6:(dw SQ).length=m6:=aV.1;have dd:=rO SQ SQ.length;have dh:m6≤100000:=by have:=aq.o;have h9:(dw SQ).length≤SQ.length:=dd;omega
  have ed:=dm.o.length;have es:nO≤100:=by have h1:=bQ.o.1;have h2:(offR T C).length≤C.length:=ER _ _;omega
  have CO:=pL gO 0 nO cO (offR T C) g6 0 m6 c6 (dw SQ) w6 (dm.o.keep K6.o) (aV.runsIn.mono (C3 _)) aV.lt.2 (fun r hr=>(bQ.o.2 r (EH.1 hr).1).1) (fun r hr=>mn hr) (by omega) (by omega);have dc:CG ((dq (offR T C) (dw SQ)).length≤200000):=by show _≤_;rw [l9];omega
  clear bs aV cd e6 dd dh ed es;go_wp2_with fail
  refine CO.mono ?_;rintro e w7 ⟨g7,n7,c7,fw,rfl,dr,d7,bS⟩;have K7:CG (Bl t w7):=K6.o.trans (bS.mono K6.o.size);obtain ⟨a7,fB,e7,ao⟩:=iL dr (d7.low bS).den;cases e7;rw [bN.o] at ao;have d9:CG (ay 0 w7 (pT g7) n7 c7 (dG T C C S 2)):=ao;have cp:n7≤1048576:=by have h1:=ao.length;have h2:=dc.o;rw [bN.o] at h2;omega
  have CF:=sH _ n7 c7 _ w7 ao cp;have ce:(gy (dq (offR T C) (dw (sy T C C S 2))) && decide (n7≤8))=OK:=by
   rw [dn.o,← ao.length];rfl
  rw [ce] at CF;clear CO dr d7 bS ao cp ce;go_wp2_with fail
  refine CF.mono ?_;rintro e E ⟨rfl,bn⟩;have K8:CG (Bl t E):=K7.o.trans (bn.mono K7.o.size);have bq:CG (Bl W E):=aY.o.trans (K8.o.mono aY.o.size);have U:CG (Bl w E):=K2.o.trans (K8.o.mono K2.o.size);have dS:CG (ay 0 E (pT g7) n7 c7 (dG T C C S 2)):=d9.o.keep bn;have b8:=co.o E bq.o;have y8:=(d5.o E bq.o).1;have x0:=b8.all;clear CF bn d9 K7 K6 K5 K4 bz aC dc bN aq b8;cases OK with
  | false =>
   have r0:=y8.all;have dZ:CG (az E (X+1) (iT 0) nZ nZ nZ):=y8;clear y8;go_wp2;refine bodyPost_ret (v:=.tuple #[.agg #[iT q,.slice aM m cm,sL L 3 cv,.slice aK f cs],.bool false]) ?_ rfl (show jO _ _ _ _ _ _ _ _ _ _ _ _ from ⟨aM,m,cm,some ⟨L,0,none⟩,3,cv,aK,f,cs,rfl,?_,fun _=>rfl,fun h=>by cases h⟩)
   · have e:=(((dZ.o.set0 (iT q)).set1 (.slice aM m cm)).set2 (sL L 3 cv)).set3 (.slice aK f cs);simp [results,Tryz.results119,go_sem,e.all]
   · have hx:w.heap.size≤X+1:=by have:=HX.o;omega
     exact qX U.o hx _ _ _ _
  | true =>
   have CC:=ib lo q aM (pT L) aK m cm 3 cv f cs M [A,B,C] S E (cV.o.keep U.o) dL eI (by omega) ej.o;go_wp2_with fail
   refine CC.mono ?_;rintro e w9 ⟨O,c1,G,c,g3,c3,rfl,ap,ar⟩;clear CC x0;obtain ⟨N,I,bM,bl,aS,b1,aB,rA,rB,rC,_,_⟩:=ap.split;have ak:=aB.lt G rfl;have bw:CG (E.heap.size≤G):=ak.1;have cl:X+1<E.heap.size:=y8.lt;have e2:CG (X+1<E.heap.size):=cl;have ME:CG (tX E.heap.size w9 O m c1 G c g3 f c3 N A.length I [sL N A.length I,sL bM B.length bl,sL aS C.length b1] M A S):=⟨ap.mem,rA,ap.slen,ap.swf,ap.sn,aB⟩;have ec:CG (Bl w w9):=U.o.trans (ar.mono U.o.size);have K9:CG (Bl E w9):=ar;obtain ⟨Y,hY⟩:=aH w9.heap.size;obtain ⟨wY,b0⟩:=aH (w9.alloc (.cells #[iT q,sL O m c1,sL G 3 c,sL g3 f c3] 31));have kY:Bl w9 wY:=by rw [b0];exact bZ
   have bY:az wY Y (iT q) (sL O m c1) (sL G 3 c) (sL g3 f c3):=by rw [b0,hY];exact az.new _ _ _ _ _ _
   have av:CG (tX E.heap.size wY O m c1 G c g3 f c3 N A.length I [sL N A.length I,sL bM B.length bl,sL aS C.length b1] M A S):=ME.o.below kY;have KY:CG (Bl E wY):=K9.o.trans (kY.mono K9.o.size);have d3:G≠Y:=by rw [hY];have:=ak.2;omega
   have e3:X+1≠G:=by have:=ak.1;omega
   have cL:CG (X+1≠G):=e3;have y9:=(y8.keep ar).keep kY;have fn:X+1≠Y:=by have:=(y8.keep ar).lt;rw [hY];omega
   clear ap rA rB rC aB ar ak cl K9 ec ME y8;go_upto_region 10 with fail
   rw [← hY,← b0];clear hY b0 kY;obtain ⟨aJ,H⟩:=aH (wY.setCell ⟨G,1,none⟩ (sL gr nr cr));obtain ⟨J,F⟩:=aH (aJ.setCell ⟨G,2,none⟩ (sL g7 n7 c7));have ai:az aJ Y (iT q) (sL O m c1) (sL G 3 c) (sL g3 f c3):=by rw [H];exact bY.other d3 _
   have b3:az J Y (iT q) (sL O m c1) (sL G 3 c) (sL g3 f c3):=by rw [F];exact ai.other d3 _
   have bp:az J (X+1) (iT 0) nZ nZ nZ:=by rw [F,H];exact (y9.other cL.o.symm _).other cL.o.symm _
   have Q:CG (tX E.heap.size aJ O m c1 G c g3 f c3 N A.length I [sL N A.length I,sL gr nr cr,sL aS C.length b1] M A S):=by rw [H];exact av.o.setG _ _
   have bb:CG (tX E.heap.size J O m c1 G c g3 f c3 N A.length I [sL N A.length I,sL gr nr cr,sL g7 n7 c7] M A S):=by rw [F];exact Q.o.setG _ _
   have bE:CG (Bl E J):=by rw [F,H];exact (KY.o.setCell (p:=⟨G,1,none⟩) bw.o _).setCell (p:=⟨G,2,none⟩) bw.o _
   have dt:CG (Bl w J):=U.o.trans (bE.o.mono U.o.size);have fl:=(av.o.row.lt G rfl).2;have cC:=(Q.o.row.lt G rfl).2;have el:CG (aJ.cell? ⟨G,2,none⟩=some (sL aS C.length b1)):=Q.o.row.cellAt 2 (by omega);have d1:CG (az J (X+1) (iT 0) nZ nZ nZ):=bp;have u2:=bY.c2;have uz:=bY.lt;have q0:wY.cell? ⟨G,1,none⟩=some (sL bM B.length bl):=av.o.row.cellAt 1 (by omega);have gf:=fun o=>av.o.row.frozenAt o
   have dl:CG (∀o,aJ.frozen? ⟨G,o,none⟩=false):=fun o=>Q.o.row.frozenAt o
   clear bY y9 av Q;go_upto_region 11 with fail
   rw [← H];clear H u2 uz q0 gf;have u2:=ai.c2;have uz:=ai.lt;have gf:=dl.o;have q0:=el.o;clear ai dl;go_upto_region 12 with fail
   rw [← F];clear F u2 uz q0 gf cC;have u0:=b3.all;have r0:=bp.all;clear b3 bp;go_wp2;refine bodyPost_ret (v:=.tuple #[.agg #[iT q,sL O m c1,sL G 3 c,sL g3 f c3],.bool true]) ?_ rfl ?_
   · have e:=(((d1.o.set0 (iT q)).set1 (sL O m c1)).set2 (sL G 3 c)).set3 (sL g3 f c3);simp [results,Tryz.results119,go_sem,e.all]
   · have hx:w.heap.size≤X+1:=by have:=HX.o;omega
     have b9:=qX dt.o hx (iT q) (sL O m c1) (sL G 3 c) (sL g3 f c3);have aX:=e2.o;have hM:=(((bb.o.setX aX 0 (iT q)).setX aX 1 (sL O m c1)).setX aX 2 (sL G 3 c)).setX aX 3 (sL g3 f c3);have hh:=qA J (X+1) (iT q) (sL O m c1) (sL G 3 c) (sL g3 f c3);have dV:=qy J (X+1) (iT q) (sL O m c1) (sL G 3 c) (sL g3 f c3);have fq:=bE.o.size;have dR:yl E (X+1):=(d5.o E bq.o).2;have ak:=bw.o;have cK:=bb.o.lev.lt.1;obtain ⟨_,kG⟩:=aO hM.row;obtain ⟨ex,k3⟩:=aO hM.sn;generalize ((((J.setCell ⟨X+1,0,none⟩ (iT q)).setCell ⟨X+1,1,none⟩ (sL O m c1)).setCell ⟨X+1,2,none⟩ (sL G 3 c)).setCell ⟨X+1,3,none⟩ (sL g3 f c3))=wf at b9 hM hh dV kG k3 ⊢;have D:lw≤E.heap.size:=C8 cu.o.2 U.o.size;have bc:∀{a n d g} {Z:List an},ay 0 E a n d Z→(E.heap.size≤g∨∀o,E.cell? ⟨g,o,none⟩=none)→cX (fun b=>b≠g∧b≠G) wf a n d Z:=fun {a n d g Z} h h2=>pY h dR (by omega) (fun b hb hn=>(hh b hn).trans (bE.o.block b hb)) h2 ak
     exact ⟨some ⟨O,0,none⟩,m,c1,some ⟨G,0,none⟩,3,c,some ⟨g3,0,none⟩,f,c3,rfl,b9,(fun h=>by cases h),fun _=>⟨G,N,I,gr,nr,cr,g7,n7,c7,rfl,rfl,(cH.some hM.mem).mono D,eC hM.row D,hM.lev.mono D,bc (cu.o.1.keep U.o) (.inl cK),bc dS.o (.inl cK),(iH hM.sn hM.slen hM.swf).lower D,fun x e _=>by cases e;exact ⟨ex,k3⟩⟩⟩
end Go.Proofs.YtpobkmjicbobdaaGreat
