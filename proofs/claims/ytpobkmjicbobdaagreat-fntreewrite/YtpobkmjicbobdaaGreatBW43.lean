/- Walks. -/
import Derived.Test.YtpobkmjicbobdaaGreatBW42
namespace Go.Proofs.YtpobkmjicbobdaaGreat
set_option maxRecDepth 100000
set_option maxHeartbeats 40000000
open Go.RowKit
variable {K M:List ac} {S:List Int} {V:List (List af)} {Z k:Nat} {e:ac} {key:ByteArray} {q:Int} {w:World}
def sT (K:List ac) (key:ByteArray) (c:dE) (k:Nat):dE:=((K.take k).filter (fun e=>decide (e.1=key))).foldl sS c
theorem E2 {c:dE} (h:K[k]?=some e) (hk:e.1=key):sT K key c (k+1)=sS (sT K key c k) e:=by
 unfold sT;rw [Hc,h,Hw,I6];simp [hk]
theorem FM {c:dE} (h:K[k]?=some e) (hk:¬e.1=key):sT K key c (k+1)=sT K key c k:=by
 unfold sT;rw [Hc,h,Hw,I6];simp [hk]
theorem EX {c:dE} (hc:c.2.1.size≤281474976710656) (b:e.2.2.2.1.size≤281474976710656):(sS c e).2.1.size≤281474976710656:=jO hc b
theorem D4 {c:dE} (hc:c.2.1.size≤281474976710656) (hK:e9 K) (k:Nat):(sT K key c k).2.1.size≤281474976710656:=by
 unfold sT;have hl:∀e ∈ (K.take k).filter (fun e=>decide (e.1=key)),e.2.2.2.1.size≤281474976710656:=fun e b=>(hK e (Hq (ID.1 b).1)).2
 generalize (K.take k).filter (fun e=>decide (e.1=key))=L at hl;induction L generalizing c with
 | nil=>exact hc
 | cons x L d=>exact d (EX hc (hl x Ha)) (fun e b=>hl e (He _ b))
theorem Ec (h:aP q M V S=true):∀e ∈ jP q M V S,e.2.2.2.1.size≤281474976710656:=fun e b=>by
 obtain ⟨A,B,C,rfl⟩:=dX h
 have hs:=mf h
 unfold jP at b
 rw [if_pos h] at b
 exact (zl hs.2.1 hs.2.2 e ((parts_flat M A B C).mem_iff.1 ((bu _).2.mem_iff.1 b))).2
theorem vf (h:aP q M V S=true) (hw:bX q M K=true):aP (q+K.length) (aS (M++dh q K)) V S=true:=by
 obtain ⟨A,B,C,rfl⟩:=dX h;have h2:=me h hw;rwa [oR (aL h).2.2.2.1] at h2
theorem EB (h:aP q M V S=true) {t:Int} (b:t ∈ S++[q]):t≤q:=by
 rcases GX.1 b with h1 | h1
 · have:=(fI.1 (aL h).2.2.2.2.2.2.1).2.1 t h1;omega
 · rw [G5] at h1;omega
structure sX (w:World) (Z:Nat) (c:dE):Prop where
 c0:w.cell? ⟨Z,0,none⟩=some (.bool c.1)
 c1:w.cell? ⟨Z,1,none⟩=some (.string c.2.1)
 c2:w.cell? ⟨Z,2,none⟩=some (iT c.2.2)
 fz:∀o,w.frozen? ⟨Z,o,none⟩=false
theorem sX.lt {c:dE} (h:sX w Z c):Z<w.heap.size:=GK _ _ h.c0
theorem sX.all {c:dE}(h:sX w Z c):w.cell? ⟨Z,0,none⟩=some (.bool c.1)∧w.cell? ⟨Z,1,none⟩=some (.string c.2.1)∧w.cell? ⟨Z,2,none⟩=some (iT c.2.2)∧(∀o,w.frozen? ⟨Z,o,none⟩=false)∧Z<w.heap.size:=⟨h.c0,h.c1,h.c2,h.fz,h.lt⟩
theorem sX.keep {w':World} {c:dE} (h:sX w Z c) (k:Bl w w'):sX w' Z c :=
 ⟨cell_later k h.c0,cell_later k h.c1,cell_later k h.c2,fun o=>(IT (a:=⟨Z,o,none⟩) (k.block Z h.lt)).trans (h.fz o)⟩
theorem sX.new (w:World) (b:Bool) (t:ByteArray) (n:Int):sX (w.alloc (.cells #[.bool b,.string t,iT n] 57)) w.heap.size (b,t,n):=by
 refine ⟨?_,?_,?_,fun o=>?_⟩ <;> simp
theorem sX.put {c:dE} (h:sX w Z c) (b:Bool) (t:ByteArray) (n:Int):sX (((w.setCell ⟨Z,0,none⟩ (.bool b)).setCell ⟨Z,1,none⟩ (.string t)).setCell ⟨Z,2,none⟩ (iT n)) Z (b,t,n):=by
 have e0:=h.c0;have e1:=h.c1;have e2:=h.c2;have ne:∀i j:Nat,i≠j→(⟨Z,i,none⟩:Addr)≠⟨Z,j,none⟩:=fun i j d e=>d (by cases e;rfl)
 refine ⟨?_,?_,?_,fun o=>?_⟩
 · rw [GM _ _ _ _ (by simp),GM _ _ _ _ (by simp)];exact G3 _ _ _ (by rw [e0];rfl)
 · rw [GM _ _ _ _ (by simp)];exact G3 _ _ _ (by rw [GM _ _ _ _ (by simp),e1];rfl)
 · exact G3 _ _ _ (by rw [GM _ _ _ _ (by simp),GM _ _ _ _ (by simp),e2];rfl)
 · rw [G8,G8,G8];exact h.fz o
theorem pu (a:Option Addr) (len bI:Nat) (w:World) (h:lT w a len bI) :
 Calls Tryz.prog 11 #[.slice a len bI] w fun e w'=>e=.returned (.bool true)∧Bl w w':=by
 have H:=az h;have hm:=GU h.1 h.2.1;unfold maxLen at hm;clear h;by_cases hbig:1048576<len
 · go_enter Tryz.func11,Tryz.ntmps11
   go_wp2;go_ret;exact ⟨rfl,Below.refl _ _⟩
 go_enter Tryz.func11,Tryz.ntmps11
 go_wp2_with fail
 refine (pC a len bI w H.o).mono ?_;rintro e w1 ⟨q,am,J,R,av,L,N,T,O,cs,M,V,S,g,nb,C,K,rfl,hX,hE,cR,hF,bL⟩;obtain ⟨gm,rfl⟩:=hX.2.2.2.2;obtain ⟨X,bz⟩:=aG w1.heap.size;obtain ⟨W,hW⟩:=aG (w1.alloc (.cells #[iT q,sL gm J R,.slice av L N,.slice T O cs] 31));have kW:Bl w1 W:=by rw [hW];exact bZ
 have BX:Eq (ay W X (iT q) (sL gm J R) (.slice av L N) (.slice T O cs)):=by rw [hW,bz];exact ay.new _ _ _ _ _ _
 have KW:Eq (Bl w W):=bL.trans (kW.mono bL.size);have bJ:=hX.keep kW;have HX:Eq (BQ W q (pT gm) J R av L N T O cs M V S):=bJ;have hT:=bJ.2.1;have b6:ah W (pT g) nb C K:=hE.keep kW;have HE:Eq (ah W (pT g) nb C K):=b6;have hK:e9 K:=Bq hF;have bO:Eq (e9 K):=hK;have aX:Eq (K.length=nb∧nb≤13):=⟨hE.length,cR⟩;obtain ⟨TB,af⟩:∃b,b=aP q M V S:=⟨_,rfl⟩;have da:∃q2 M2 m x OK,(TB=false→OK=false∧q2=0∧M2=[]∧m=[]∧x=[])∧(TB=true→OK=false→gy q2 M2 m x q M V S=true)∧(OK=true→TB=true∧aP q M V S=true∧bX q M K=true∧q2=q+K.length∧M2=aS (M++dh q K)∧m=V∧x=S) ∧
  (∀w',Bl W w'→Calls Tryz.prog 31 #[.agg #[iT q,sL gm J R,.slice av L N,.slice T O cs],sL g nb C] w' (FO (TB=true) q2 M2 m x OK w')) ∧
  (∀w',Bl W w'→Calls Tryz.prog 32 #[.agg #[iT q,sL gm J R,.slice av L N,.slice T O cs],sL g nb C] w' (Fa q2 M2 m x OK w')):=by
  cases s:aP q M V S with
  | true =>
   refine ⟨Fr q M K,Fs q M K,V,S,bX q M K,(fun h=>by rw [af,s] at h;cases h),(fun _ h=>?_),(fun h=>⟨by rw [af,s],rfl,h,by unfold Fr;rw [if_pos h],by unfold Fs;rw [if_pos h],rfl,rfl⟩),fun w' k=>(yO q _ J R av L N T O cs M V S _ nb C K w' (hT.keep k) (b6.keep k) (by omega) hK s).mono (fun e ab h=>h.tupD hT.snaps.wfs (fun _ hv=>by have:=(iZ s).2.2.2.2.2;rw [hv] at this;simp at this)),fun w' k=>(xP q _ J R av L N T O cs M V S _ nb C K w' (hT.keep k) (b6.keep k) (by omega) s).mono (fun e ab h=>h.tupT)⟩;unfold Fr Fs;rw [h];exact iS q M V S
  | false =>
   refine ⟨0,[],[],[],false,(fun _=>⟨rfl,rfl,rfl,rfl,rfl⟩),(fun h=>by rw [af,s] at h;cases h),(fun h=>by cases h),fun w' k=>(wI q _ J R av L N T O cs M V S _ nb C w' (hT.keep k) s).mono (fun e ab h=>h.tupD (fun z hz=>by cases hz) (fun h=>by rw [af,s] at h;cases h)),fun w' k=>(vw 0 q _ av T J R L N O cs M V S _ nb C w' (hT.keep k) s).mono (fun e ab h=>(Bw h).tupT)⟩
 obtain ⟨q2,M2,m,x,OK,c5,c4,bf,cw,bT⟩:=da;have CI:Eq (∀w',Bl W w'→Calls Tryz.prog 31 #[.agg #[iT q,sL gm J R,.slice av L N,.slice T O cs],sL g nb C] w' (FO (TB=true) q2 M2 m x OK w')):=cw;have CS:Eq (∀w',Bl W w'→Calls Tryz.prog 32 #[.agg #[iT q,sL gm J R,.slice av L N,.slice T O cs],sL g nb C] w' (Fa q2 M2 m x OK w')):=bT;have cj:Eq (TB=false→OK=false∧q2=0∧M2=[]∧m=[]∧x=[]):=c5;have cd:Eq (TB=true→OK=false→gy q2 M2 m x q M V S=true):=c4;have bb:Eq (OK=true→TB=true∧aP q M V S=true∧bX q M K=true∧q2=q+K.length∧M2=aS (M++dh q K)∧m=V∧x=S):=bf;have CJ:Eq (∀w',Bl W w'→Calls Tryz.prog 26 #[.agg #[iT q,sL gm J R,.slice av L N,.slice T O cs]] w' fun e ab=>e=.returned (.bool TB)∧Bl w' ab):=fun w' k=>by rw [af];exact qU 0 q _ _ _ _ _ _ _ _ _ M V S w' (hT.keep k)
 have CT:Eq (∀w',Bl W w'→Calls Tryz.prog 27 #[.agg #[iT q,sL gm J R,.slice av L N,.slice T O cs]] w' fun e ab=>e=.returned (.bool TB)∧Bl w' ab):=fun w' k=>by rw [af];exact iq 0 q _ _ _ _ _ _ _ _ _ M V S w' (hT.keep k)
 have d3:(OK != OK)=false:=by cases OK <;> rfl
 have cN:(TB != TB)=false:=by cases TB <;> rfl
 have A:=BX.o;have x0:=A.all;clear A;clear bL kW hT b6 hE hF hK hX bJ af c5 c4 bf cw bT;go_upto_region 4 with fail
 rw [← hW];try rw [← bz]
 clear hW bz;go_wp2_with fail
 clear x0;refine (CI.o _ (Below.refl _ _)).mono ?_;rintro e w2 ⟨a1,n1,k1,a2,n2,k2,a3,n3,k3,rfl,hT2,hsn,bn⟩;obtain ⟨Y,hY⟩:=aG w2.heap.size;obtain ⟨w3,aU⟩:=aG (w2.alloc (.cells #[iT q2,.slice a1 n1 k1,.slice a2 n2 k2,.slice a3 n3 k3] 31));have kk:Bl w2 w3:=by rw [aU];exact bZ
 have K3:Eq (Bl W w3):=bn.trans (kk.mono bn.size);have T3:Eq (aZ 0 w3 a1 n1 k1 a2 n2 k2 a3 n3 k3 M2 m x):=hT2.keep kk;have BY:Eq (ay w3 Y (iT q2) (.slice a1 n1 k1) (.slice a2 n2 k2) (.slice a3 n3 k3)):=by rw [aU,hY];exact ay.new _ _ _ _ _ _
 have co:Eq (TB=true→(∃b,a1=some ⟨b,0,none⟩)∧∃b,a2=some ⟨b,0,none⟩∧ig w3 b m):=fun h=>by
  obtain ⟨h1,b,h2,h3⟩:=hsn h;exact ⟨h1,b,h2,h3.keep kk⟩
 clear bn CI kk hT2 hsn;have A:=BX.o.keep K3.o;have x0:=A.all;clear A;go_upto_region 5 with fail
 rw [← aU];try rw [← hY]
 clear aU hY;go_wp2_with fail
 clear x0;refine (CS.o _ K3.o).mono ?_;rintro e w4 ⟨b1,m1,l1,b2,m2,l2,b3,m3,l3,rfl,c8,bt⟩;obtain ⟨Z,hZ⟩:=aG w4.heap.size;obtain ⟨w5,aQ⟩:=aG (w4.alloc (.cells #[iT q2,.slice b1 m1 l1,.slice b2 m2 l2,.slice b3 m3 l3] 31));have kk:Bl w4 w5:=by rw [aQ];exact bZ
 have aD:Bl w3 w5:=bt.trans (kk.mono bt.size);have ce:Eq (Bl w3 w5):=aD;have K5:Eq (Bl W w5):=K3.o.trans (aD.mono K3.o.size);have T5:Eq (aZ 0 w5 a1 n1 k1 a2 n2 k2 a3 n3 k3 M2 m x):=T3.o.keep aD;have U5:Eq (aZ 0 w5 b1 m1 l1 b2 m2 l2 b3 m3 l3 M2 m x):=c8.keep kk;have aW:Eq (ay w5 Y (iT q2) (.slice a1 n1 k1) (.slice a2 n2 k2) (.slice a3 n3 k3)):=BY.o.keep aD;have bN:Eq (ay w5 Z (iT q2) (.slice b1 m1 l1) (.slice b2 m2 l2) (.slice b3 m3 l3)):=by rw [aQ,hZ];exact ay.new _ _ _ _ _ _
 clear bt CS K3 T3 BY kk aD c8;go_upto_region 6 with fail
 rw [← aQ];try rw [← hZ]
 clear aQ hZ;have B:Eq (∀w',Bl w5 w'→(fun w':World=>w'.cell? ⟨X,0,none⟩=some (iT q)∧w'.cell? ⟨X,1,none⟩=some (sL gm J R)∧w'.cell? ⟨X,2,none⟩=some (.slice av L N)∧w'.cell? ⟨X,3,none⟩=some (.slice T O cs)∧w'.cell? ⟨Y,0,none⟩=some (iT q2)∧w'.cell? ⟨Y,1,none⟩=some (.slice a1 n1 k1)∧w'.cell? ⟨Y,2,none⟩=some (.slice a2 n2 k2)∧w'.cell? ⟨Y,3,none⟩=some (.slice a3 n3 k3)∧w'.cell? ⟨Z,0,none⟩=some (iT q2)∧w'.cell? ⟨Z,1,none⟩=some (.slice b1 m1 l1)∧w'.cell? ⟨Z,2,none⟩=some (.slice b2 m2 l2)∧w'.cell? ⟨Z,3,none⟩=some (.slice b3 m3 l3)∧X<w'.heap.size∧Y<w'.heap.size∧Z<w'.heap.size) w'):=fun w' k=>by
  have b:=BX.o.keep (K5.o.trans (k.mono K5.o.size));have y:=aW.o.keep k;have z:=bN.o.keep k;exact ⟨b.c0,b.c1,b.c2,b.c3,y.c0,y.c1,y.c2,y.c3,z.c0,z.c1,z.c2,z.c3,b.lt,y.lt,z.lt⟩
 have d:=(Below.refl w5.heap.size w5).drew;refine eJ B d fun u=>?_
 generalize w5.drew=wd at u d ⊢;refine aR 0 6 u ?_;refine aV 6 fun K hK=>?_
 go_simp;refine (jH q2 q2 0 0 _ _ _ _ _ _ _ _ _ _ _ _ _ _ _ _ _ _ M2 m x M2 m x _ (T5.o.keep d) (U5.o.keep d)).mono ?_;rintro e w6 ⟨rfl,cq⟩;rw [iS];have d:=d.trans (cq.mono d.size);clear cq;go_wp2_with fail
 refine hK.o _ _ (B.o _ d) (fun u=>?_);clear hK K;(try go_frame);refine aR 7 4 u ?_;refine aR 12 1 u ?_;refine aV 11 fun K hK=>?_
 go_simp;refine (CJ.o _ (K5.o.trans (d.mono K5.o.size))).mono ?_;rintro e w7 ⟨rfl,cA⟩;have d:=d.trans (cA.mono d.size);clear cA;go_wp2_with fail
 refine hK.o _ _ (B.o _ d) (fun u=>?_);clear hK K;(try go_frame);refine aV 13 fun K hK=>?_
 go_simp;refine (CT.o _ (K5.o.trans (d.mono K5.o.size))).mono ?_;rintro e w8 ⟨rfl,ci⟩;have d:=d.trans (ci.mono d.size);clear ci;go_wp2_with fail
 refine hK.o _ _ (B.o _ d) (fun u=>?_);clear hK K;(try go_frame);refine aR 14 2 u ?_;refine dN ?_;have bu:Eq (Bl w5 w8):=d;have K8:Eq (Bl W w8):=K5.o.trans (d.mono K5.o.size);clear u B d U5 bN CJ;have A:=BX.o.keep K8.o;have x0:=A.all;clear A;go_wp2_with fail
 clear x0;refine (CT.o _ K8.o).mono ?_;rintro e w9 ⟨rfl,bl⟩;have ae:Eq (Bl w5 w9):=bu.o.trans (bl.mono bu.o.size);have K9:Eq (Bl W w9):=K8.o.trans (bl.mono K8.o.size);clear bl bu K8 CT;have yb:=aW.o.keep ae.o;have y0:=yb.all;clear yb;cases TB with
 | false =>
  obtain ⟨rfl,rfl,rfl,rfl,rfl⟩:=cj.o rfl;go_wp2_with fail
  clear y0;refine (jH 0 0 0 0 _ _ _ _ _ _ _ _ _ none none none 0 0 0 0 0 0 [] [] [] [] [] [] _ (T5.o.keep ae.o) (mh 0 _)).mono ?_;rintro e aY ⟨rfl,I⟩;rw [iS];go_wp2;go_ret;exact ⟨rfl,KW.o.trans ((K9.o.trans (I.mono K9.o.size)).mono KW.o.size)⟩
 | true =>
  cases OK with
  | false =>
   have HS:Eq (gy q2 M2 m x q M V S=true):=cd.o rfl rfl;have A:=BX.o.keep K9.o;have x0:=A.all;clear A;go_wp2_with fail
   clear x0 y0;refine (jH q2 q 0 0 _ _ _ _ _ _ _ _ _ _ _ _ _ _ _ _ _ _ M2 m x M V S _ (T5.o.keep ae.o) (HX.o.2.1.keep K9.o)).mono ?_;rintro e aY ⟨rfl,I⟩;rw [HS.o];go_wp2;go_ret;exact ⟨rfl,KW.o.trans ((K9.o.trans (I.mono K9.o.size)).mono KW.o.size)⟩
  | true =>
   obtain ⟨_,s,hwo,rfl,rfl,rfl,rfl⟩:=bb.o rfl;obtain ⟨⟨c1,rfl⟩,c2,rfl,cC⟩:=co.o rfl;have b8:=vf s hwo;have bR:Eq (aP q M m x=true):=s;have b5:Eq (aP (q+K.length) (aS (M++dh q K)) m x=true):=b8;obtain ⟨bW,cz⟩:=vd s hwo;have d7:Eq (∀key,b7 (aS (M++dh q K)) m key (q+K.length)=sT K key (b7 M m key q) nb):=fun key=>by
    rw [bW key];unfold sT;rw [GV (by have:=aX.o;omega)]
   have cP:Eq (∀key t,t ∈ x++[q]→b7 (aS (M++dh q K)) m key t=b7 M m key t):=fun key t ht=>cz key t (EB s ht)
   have bq:=(iZ s).2.2.2.2.2;obtain ⟨bv,rfl⟩:=HX.o.2.2.1.some (by intro hv;rw [hv] at bq;simp at bq);have bU:Eq (ig W bv m):=HX.o.2.2.1.nn;have cB:Eq (ig w9 c2 m):=(cC.keep ce.o).keep ae.o;have TY:Eq (aZ 0 w9 (pT c1) n1 k1 (pT c2) n2 k2 a3 n3 k3 (aS (M++dh q K)) m x):=T5.o.keep ae.o;have bP:Eq (aZ 0 w9 (pT gm) J R (pT bv) L N T O cs M m x):=HX.o.2.1.keep K9.o;have bh:Eq (ig w9 bv m):=bU.o.keep K9.o;have cf:Eq (ay w9 X (iT q) (sL gm J R) (sL bv L N) (.slice T O cs)):=BX.o.keep K9.o;have bS:Eq (ay w9 Y (iT (q+K.length)) (sL c1 n1 k1) (sL c2 n2 k2) (.slice a3 n3 k3)):=aW.o.keep ae.o;have bQ:Eq (ah w9 (pT g) nb C K):=HE.o.keep K9.o;have HQ:Eq (0≤q∧q≤100000):=⟨(aL s).1,(aL s).2.1⟩;have bx:Eq (Bl w w9):=KW.o.trans (K9.o.mono KW.o.size);have cT:Eq (∀key,(b7 M m key q).2.1.size≤281474976710656):=fun key=>by
    rw [← Ee s key q];exact ze (Ec s)
   clear s hwo cC b8 bW cz bq T5 aW HE HX bU co cj cd bb BX KW K9 K5 ce ae d3 cN;-- all entries of the tree that was written
   go_wp2_with fail
   clear y0;have bs:=mf b5.o;refine (pp 0 _ _ _ _ _ _ _ _ _ _ _ m x w9 TY.o (fun _=>by omega) (fun _=>bs.2.1) (fun _=>bs.2.2)).mono ?_;rintro e aY ⟨⟨al,nl,rfl,hO⟩,I⟩;have bw:=hO.entsAt;have cY:=bw.length;have cU:=xw (q:=q+K.length) (M:=aS (M++dh q K)) (V:=m) (S:=x);clear hO;go_wp2_with fail
   refine (pV al nl nl _ aY bw (by omega)).mono ?_;rintro e f ⟨gk,mk,ck,ks,rfl,aH,hmk,bd⟩;have ch:Eq (mk≤100002):=by show _≤_;omega
   have U:Eq (Bl w9 f):=I.trans (bd.mono I.size);have cx:Eq (f.ownsRow aY.heap.size 9 1 (sL gk mk ck) mk (ks.map .string)):=aH;have cu:Eq (ks.length=mk):=by have:=aH.1;rw [Id] at this;show _=_;omega
   clear I bd aH hmk bw cY cU bs;have aI:Eq (ay f X (iT q) (sL gm J R) (sL bv L N) (.slice T O cs)):=cf.o.keep U.o;have ai:Eq (ay f Y (iT (q+K.length)) (sL c1 n1 k1) (sL c2 n2 k2) (.slice a3 n3 k3)):=bS.o.keep U.o;have TX:Eq (aZ 0 f (pT gm) J R (pT bv) L N T O cs M m x):=bP.o.keep U.o;have TW:Eq (aZ 0 f (pT c1) n1 k1 (pT c2) n2 k2 a3 n3 k3 (aS (M++dh q K)) m x):=TY.o.keep U.o;have NX:Eq (ig f bv m):=bh.o.keep U.o;have NW:Eq (ig f c2 m):=cB.o.keep U.o;have cy:Eq (ah f (pT g) nb C K):=bQ.o.keep U.o;have KK:Eq (Bl w f):=bx.o.trans (U.o.mono bx.o.size);clear cf bS bP TY bh cB bQ bx U;go_wp2;go_loopw [10] (fun iv wr=>∃i:Nat,iv=iT (i:Int)∧i≤mk∧Bl f wr) (fun iv _=>mk - (intOf iv).toNat)
   case atStart=>exact ⟨0,rfl,by omega,Below.refl _ _⟩
   case round =>
    obtain ⟨i,rfl,hi,hk⟩:=hrel;have KR:Eq (Bl f wr):=hk;clear hk;by_cases dA:i<mk
    · have c9:(i:Int)<(mk:Int):=by omega
      have dB:IntKind.i64.wrap ((i:Int)+1)=(i:Int)+1:=by have:=ch.o;rw [G4];unfold wrap64;omega
      obtain ⟨key,ba⟩:∃key,ks[i]?=some key:=⟨_,j' (by have:=cu.o;omega)⟩;have bo:Eq (∀w',Bl f w'→w'.cell? ⟨gk,i,none⟩=some (.string key)∧gk<w'.heap.size):=fun w' k=>by
       have r:=(b9 cx.o k).cellAt i (by have:=cu.o;omega);rw [Iy,ba] at r;exact ⟨r,E' (cx.o.lt gk rfl).2 k.size⟩
      clear ba;obtain ⟨c0,aT⟩:=aG (b7 M m key q);have cp:Eq (c0.2.1.size≤281474976710656):=by rw [aT];exact cT.o key
      have ca:Eq (b7 (aS (M++dh q K)) m key (q+K.length)=sT K key c0 nb):=by rw [aT];exact d7.o key
      have CX:Eq (∀w',Bl f w'→Calls Tryz.prog 39 #[.agg #[iT q,sL gm J R,sL bv L N,.slice T O cs],.string key,iT q] w' (u9 c0 w')):=fun w' k=>by
       rw [aT];exact lM q gm J R bv L N T O cs M m x key q w' (TX.o.keep k) bR.o (NX.o.keep k)
      have CW:Eq (∀w',Bl f w'→Calls Tryz.prog 39 #[.agg #[iT (q+K.length),sL c1 n1 k1,sL c2 n2 k2,.slice a3 n3 k3],.string key,iT (q+K.length)] w' (u9 (sT K key c0 nb) w')):=fun w' k=>by
       rw [← ca.o];exact lM _ c1 n1 k1 c2 n2 k2 a3 n3 k3 _ m x key _ w' (TW.o.keep k) b5.o (NW.o.keep k)
      clear aT ca;obtain ⟨C,ct,cn,c6⟩:∃C ct cn,c0=(C,ct,cn):=⟨_,_,_,rfl⟩;have bk:Eq (c0=(C,ct,cn)):=c6;clear c6;rename World=>wo
      have B:Eq (∀w',Bl f w'→(fun w':World=>w'.cell? ⟨X,0,none⟩=some (iT q)∧w'.cell? ⟨X,1,none⟩=some (sL gm J R)∧w'.cell? ⟨X,2,none⟩=some (sL bv L N)∧w'.cell? ⟨X,3,none⟩=some (.slice T O cs)∧w'.cell? ⟨gk,i,none⟩=some (.string key)∧X<w'.heap.size∧gk<w'.heap.size) w'):=fun w' k=>by
       have b:=aI.o.keep k;have r:=bo.o w' k;exact ⟨b.c0,b.c1,b.c2,b.c3,r.1,b.lt,r.2⟩
      go_upto_region 16 with fail
      go_cut [11] (fun v wz=>∃Q,v=.pointer (pT Q)∧sX wz Q (C,ct,cn)∧wo.heap.size≤Q∧Bl wo wz)
      case first =>
       have n:=(Below.refl wo.heap.size wo).drew;have d:=KR.o.trans (n.mono KR.o.size);refine eJ B d fun u=>?_
       generalize wo.drew=wd at u n d ⊢;refine aR 0 7 u ?_;refine mK 7 8 (fun K hK=>?_) (fun K hK=>?_)
       · go_simp;refine (CX.o _ d).mono ?_;rintro e wb a5;obtain ⟨rfl,F⟩:=a5.as bk.o;have n:=n.trans (F.mono n.size);have d:=d.trans (F.mono d.size);clear F a5;go_wp2_with fail
         refine hK.o _ _ (B.o _ d) (fun u=>?_);clear hK K;(try go_frame);refine aV 8 fun K hK=>?_
         go_simp;have ka:Bl wb (wb.alloc (.cells #[.bool false,.string ⟨#[]⟩,iT 0] 57)):=bZ;have D:wo.heap.size≤wb.heap.size:=n.size;have hQ:f.heap.size≤wb.heap.size:=d.size;have n:=n.trans (ka.mono n.size);have d:=d.trans (ka.mono d.size);have hC:=sX.new wb false ⟨#[]⟩ 0;clear ka;generalize wb.heap.size=Q at hC hQ D ⊢;generalize wb.alloc (.cells #[.bool false,.string ⟨#[]⟩,iT 0] 57)=wa at d n hC ⊢;refine hK.o _ _ (B.o _ d) (fun u=>?_);clear hK K;(try go_frame);refine aV 9 fun K hK=>?_
         have y0:=hC.all;go_simp;have d:=((d.setCell (p:=⟨Q,0,none⟩) hQ (.bool C)).setCell (p:=⟨Q,1,none⟩) hQ (.string ct)).setCell (p:=⟨Q,2,none⟩) hQ (iT cn);have n:=((n.setCell (p:=⟨Q,0,none⟩) D (.bool C)).setCell (p:=⟨Q,1,none⟩) D (.string ct)).setCell (p:=⟨Q,2,none⟩) D (iT cn);have hC:=hC.put C ct cn;refine hK.o _ _ (B.o _ d) (fun u=>?_);clear hK K y0;(try go_frame);refine dN ?_;clear u;go_wp2;go_meet
         exact ⟨Q,rfl,hC,D,n⟩
       · go_simp;have ka:Bl wd (wd.alloc (.cells #[.bool false,.string ⟨#[]⟩,iT 0] 57)):=bZ;have D:wo.heap.size≤wd.heap.size:=n.size;have hQ:f.heap.size≤wd.heap.size:=d.size;have n:=n.trans (ka.mono n.size);have d:=d.trans (ka.mono d.size);have hC:=sX.new wd false ⟨#[]⟩ 0;clear ka;generalize wd.heap.size=Q at hC hQ D ⊢;generalize wd.alloc (.cells #[.bool false,.string ⟨#[]⟩,iT 0] 57)=wa at d n hC ⊢;refine hK.o _ _ (B.o _ d) (fun u=>?_);clear hK K;(try go_frame);refine aV 7 fun K hK=>?_
         go_simp;refine (CX.o _ d).mono ?_;rintro e wb a5;obtain ⟨rfl,F⟩:=a5.as bk.o;have n:=n.trans (F.mono n.size);have d:=d.trans (F.mono d.size);have hC:=hC.keep F;clear F a5;go_wp2_with fail
         refine hK.o _ _ (B.o _ d) (fun u=>?_);clear hK K;(try go_frame);refine aV 9 fun K hK=>?_
         have y0:=hC.all;go_simp;have d:=((d.setCell (p:=⟨Q,0,none⟩) hQ (.bool C)).setCell (p:=⟨Q,1,none⟩) hQ (.string ct)).setCell (p:=⟨Q,2,none⟩) hQ (iT cn);have n:=((n.setCell (p:=⟨Q,0,none⟩) D (.bool C)).setCell (p:=⟨Q,1,none⟩) D (.string ct)).setCell (p:=⟨Q,2,none⟩) D (iT cn);have hC:=hC.put C ct cn;refine hK.o _ _ (B.o _ d) (fun u=>?_);clear hK K y0;(try go_frame);refine dN ?_;clear u;go_wp2;go_meet
         exact ⟨Q,rfl,hC,D,n⟩
      case rest =>
       obtain ⟨Q,rfl,hC,hQ,ao⟩:=hcut;have HC:Eq (sX wc Q (sT K key c0 0)):=by rw [show sT K key c0 0=(C,ct,cn) from bk.o];exact hC
       have au:Eq (wo.heap.size≤Q∧f.heap.size≤Q):=⟨hQ,GU KR.o.size hQ⟩;have aB:Eq (Bl wo wc):=ao;clear hC hQ ao B CX;go_wp2;go_loopw [12] (fun kv wr=>∃k:Nat,kv=iT (k:Int)∧k≤nb∧sX wr Q (sT K key c0 k)∧Bl wo wr) (fun kv _=>nb - (intOf kv).toNat)
       case atStart=>exact ⟨0,rfl,by omega,HC.o,aB.o⟩
       case round =>
        clear HC aB;obtain ⟨k,rfl,hk,hC,ao⟩:=hrel;have HC:Eq (sX wr Q (sT K key c0 k)):=hC;have aB:Eq (Bl wo wr):=ao;have KW:Eq (Bl f wr):=KR.o.trans (ao.mono KR.o.size);clear hC ao;by_cases dz:k<nb
        · have bV:(k:Int)<(nb:Int):=by omega
          have dG:IntKind.i64.wrap ((k:Int)+1)=(k:Int)+1:=by have:=aX.o;rw [G4];unfold wrap64;omega
          obtain ⟨⟨ek,eq,ed,et,en⟩,he⟩:∃e,K[k]?=some e:=⟨_,j' (by have:=aX.o;omega)⟩;have bE:Eq (K[k]?=some (ek,eq,ed,et,en)):=he;have bH:Eq (∀w',Bl f w'→w'.cell? ⟨g,k*5,none⟩=some (.string ek)∧w'.cell? ⟨g,k*5+1,none⟩=some (iT eq)∧w'.cell? ⟨g,k*5+2,none⟩=some (iT ed)∧w'.cell? ⟨g,k*5+3,none⟩=some (.string et)∧w'.cell? ⟨g,k*5+4,none⟩=some (iT en)∧g<w'.heap.size):=fun w' kk=>by
           have cZ:=(F'.1 he).1;have cL:=(F'.1 he).2;obtain ⟨e0,e1,e2,e3,e4⟩:=(cy.o.keep kk).cells _ rfl k cZ;simp only [GT,cL] at e0 e1 e2 e3 e4;exact ⟨e0,e1,e2,e3,e4,GK _ _ e0⟩
          clear he;have E:Eq (∀w',Bl f w'→(fun w':World=>w'.cell? ⟨g,k*5,none⟩=some (.string ek)∧w'.cell? ⟨g,k*5+1,none⟩=some (iT eq)∧w'.cell? ⟨g,k*5+2,none⟩=some (iT ed)∧w'.cell? ⟨g,k*5+3,none⟩=some (.string et)∧w'.cell? ⟨g,k*5+4,none⟩=some (iT en)∧w'.cell? ⟨gk,i,none⟩=some (.string key)∧g<w'.heap.size∧gk<w'.heap.size) w'):=fun w' kk=>by
           have h1:=bH.o w' kk;have h2:=bo.o w' kk;exact ⟨h1.1,h1.2.1,h1.2.2.1,h1.2.2.2.1,h1.2.2.2.2.1,h2.1,h1.2.2.2.2.2,h2.2⟩
          go_upto_region 20 with fail
          have n:=(Below.refl wr.heap.size wr).drew;have d:=KW.o.trans (n.mono KW.o.size);have hC:=HC.o.keep n;have kb:=aB.o.trans (n.mono aB.o.size);refine eJ E d fun u=>?_
          generalize wr.drew=wd at u d hC kb ⊢;clear n;by_cases bp:ek=key
          · subst bp;refine aR 0 10 u ?_;refine dN ?_;clear u;obtain ⟨A,xt,xn,a4⟩:∃A xt xn,sT K ek c0 k=(A,xt,xn):=⟨_,_,_,rfl⟩;rw [a4] at hC;have bj:Eq (sT K ek c0 (k+1)=fh A xt xn ed et en):=by rw [E2 bE.o rfl,a4];rfl
            have bY:Eq (xt.size≤281474976710656∧et.size≤281474976710656):=⟨by have:=D4 (key:=ek) cp.o bO.o k;rw [a4] at this;exact this,(bO.o _ (GP bE.o)).2⟩;clear a4;go_upto_region 21 with fail
            have n:=(Below.refl wd.heap.size wd).drew;have d:=d.trans (n.mono d.size);have kb:=kb.trans (n.mono kb.size);have hC:=hC.keep n;refine eJ E d fun u=>?_
            generalize wd.drew=we at u d hC kb ⊢;clear n;refine aR 1 4 u ?_;refine aV 0 fun K hK=>?_
            have y0:=hC.all;go_simp;refine hK.o _ _ (E.o _ d) (fun u=>?_);clear hK K y0;(try go_frame);refine aV 5 fun K hK=>?_
            go_simp;refine (A7 A xt ek et xn eq ed en _ bY.o.1 bY.o.2).mono ?_;rintro e wf ⟨rfl,aO⟩;obtain ⟨db,dt,dn,bC⟩:∃db dt dn,fh A xt xn ed et en=(db,dt,dn):=⟨_,_,_,rfl⟩;have cV:Eq (fh A xt xn ed et en=(db,dt,dn)):=bC;rw [bC];unfold f5;have d:=d.trans (aO.mono d.size);have kb:=kb.trans (aO.mono kb.size);have hC:=hC.keep aO;clear aO bC;go_wp2_with fail
            refine hK.o _ _ (E.o _ d) (fun u=>?_);clear hK K;(try go_frame);refine aV 6 fun K hK=>?_
            have y0:=hC.all;go_simp;have d:=((d.setCell (p:=⟨Q,0,none⟩) au.o.2 (.bool db)).setCell (p:=⟨Q,1,none⟩) au.o.2 (.string dt)).setCell (p:=⟨Q,2,none⟩) au.o.2 (iT dn);have kb:=((kb.setCell (p:=⟨Q,0,none⟩) au.o.1 (.bool db)).setCell (p:=⟨Q,1,none⟩) au.o.1 (.string dt)).setCell (p:=⟨Q,2,none⟩) au.o.1 (iT dn);have d5:Eq (sX _ Q (db,dt,dn)):=hC.put db dt dn;have bB:Eq (Bl wo _):=kb;refine hK.o _ _ (E.o _ d) (fun u=>?_);clear hK K y0 hC kb d;(try go_frame);refine dN ?_;clear u E bH;go_wp2;go_roundw
            case rel=>exact ⟨k+1,by rw [show ((k+1:Nat):Int)=(k:Int)+1 by omega],by omega,by rw [bj.o,cV.o];exact d5.o,bB.o⟩
            case measure=>simp [intOf];omega
          · have dx:(ek.toList == key.toList)=false:=by rw [beq_eq_false_iff_ne];intro e;rw [Hk,Hk] at e;exact bp (IP (II.1 e))
            refine aR 0 10 u ?_;refine dN ?_;have cM:Eq (sX wd Q (sT K key c0 (k+1))):=by rw [FM bE.o bp];exact hC
            have bB:Eq (Bl wo wd):=kb;clear u E bH hC kb d;go_wp2;go_roundw
            case rel=>exact ⟨k+1,by rw [show ((k+1:Nat):Int)=(k:Int)+1 by omega],by omega,cM.o,bB.o⟩
            case measure=>simp [intOf];omega
        · have bV:¬(k:Int)<(nb:Int):=by omega
          obtain rfl:k=nb:=by omega
          obtain ⟨A,xt,xn,a4⟩:∃A xt xn,sT K key c0 k=(A,xt,xn):=⟨_,_,_,rfl⟩;have bj:Eq (sT K key c0 k=(A,xt,xn)):=a4;have cS:Eq (sX wr Q (A,xt,xn)):=by rw [← a4];exact HC.o
          clear a4 HC;have E:Eq (∀w',Bl wr w'→(fun w':World=>w'.cell? ⟨Y,0,none⟩=some (iT (q+K.length))∧w'.cell? ⟨Y,1,none⟩=some (sL c1 n1 k1)∧w'.cell? ⟨Y,2,none⟩=some (sL c2 n2 k2)∧w'.cell? ⟨Y,3,none⟩=some (.slice a3 n3 k3)∧w'.cell? ⟨gk,i,none⟩=some (.string key)∧w'.cell? ⟨Q,0,none⟩=some (.bool A)∧w'.cell? ⟨Q,1,none⟩=some (.string xt)∧w'.cell? ⟨Q,2,none⟩=some (iT xn)∧Y<w'.heap.size∧gk<w'.heap.size∧Q<w'.heap.size) w'):=fun w' kk=>by
           have h0:=KW.o.trans (kk.mono KW.o.size);have y:=ai.o.keep h0;have h2:=bo.o w' h0;have c:=cS.o.keep kk;exact ⟨y.c0,y.c1,y.c2,y.c3,h2.1,c.c0,c.c1,c.c2,y.lt,h2.2,c.lt⟩
          go_upto_region 22 with fail
          have n:=(Below.refl wr.heap.size wr).drew;refine eJ E n fun u=>?_
          generalize wr.drew=wd at u n ⊢;refine aR 0 7 u ?_;refine aR 8 1 u ?_;refine aV 7 fun K hK=>?_
          go_simp;refine (CW.o _ (KW.o.trans (n.mono KW.o.size))).mono ?_;rintro e we a5;obtain ⟨rfl,cD⟩:=a5.as bj.o;have n:=n.trans (cD.mono n.size);clear cD a5;go_wp2_with fail
          refine hK.o _ _ (E.o _ n) (fun u=>?_);clear hK K;(try go_frame);refine aR 9 1 u ?_;refine dN ?_;have KE:Eq (Bl f we):=KW.o.trans (n.mono KW.o.size);clear u E n;go_wp2;go_roundw
          case rel=>exact ⟨i+1,by rw [show ((i+1:Nat):Int)=(i:Int)+1 by omega],by omega,KE.o⟩
          case measure=>simp [intOf];omega
    · have c9:¬(i:Int)<(mk:Int):=by omega
      have yb:=ai.o.keep KR.o;have y0:=yb.all;clear yb;have bD:=qU 0 (q+K.length) _ _ _ _ _ _ _ _ _ (aS (M++dh q K)) m x wr (TW.o.keep KR.o);rw [b5.o] at bD;go_wp2_with fail
      clear y0;refine bD.mono ?_;rintro e wa ⟨rfl,c7⟩;have KA:Eq (Bl f wa):=KR.o.trans (c7.mono KR.o.size);clear c7 bD;have yb:=ai.o.keep KA.o;have y0:=yb.all;have A:=aI.o.keep KA.o;have x0:=A.all;clear yb A;go_wp2_with fail
      clear x0 y0;refine (FW q _ _ _ _ _ _ _ _ _ M m x (q+K.length) _ _ _ _ _ _ _ _ _ (aS (M++dh q K)) m x wa (TX.o.keep KA.o) bR.o (NX.o.keep KA.o) (TW.o.keep KA.o) b5.o (NW.o.keep KA.o) cP.o).mono ?_;rintro e wb ⟨rfl,F⟩;have KB:Eq (Bl f wb):=KA.o.trans (F.mono KA.o.size);clear F;have dC:IntKind.i64.wrap (q+(nb:Int))=q+(K.length:Int):=by have:=HQ.o;have:=aX.o;rw [G4];unfold wrap64;omega
      have yb:=ai.o.keep KB.o;have y0:=yb.all;have A:=aI.o.keep KB.o;have x0:=A.all;clear yb A;go_wp2;go_ret;exact ⟨rfl,KK.o.trans (KB.o.mono KK.o.size)⟩
end Go.Proofs.YtpobkmjicbobdaaGreat
