/- Walks. -/
import Derived.Test.YtpobkmjicbobdaaGreatBD42
namespace Go.Proofs.YtpobkmjicbobdaaGreat
set_option maxRecDepth 100000
set_option maxHeartbeats 40000000
open Go.RowKit
variable {S:List Int} {q:Int}
def Fo (P:Prop) (q2:Int) (M2:List ac) (V2:List (List af)) (S2:List Int) (ok:Bool) (w:World) (e:Ending) (w':World):Prop:=∃a1 n1 k1 a2 n2 k2 a3 n3 k3,e=.returned (.tuple #[.agg #[iT q2,.slice a1 n1 k1,.slice a2 n2 k2,.slice a3 n3 k3],.bool ok])∧bn 0 w' a1 n1 k1 a2 n2 k2 a3 n3 k3 M2 V2 S2∧(P→(∃b,a1=some ⟨b,0,none⟩)∧∃b,a2=some ⟨b,0,none⟩∧jC w' b V2)∧Bl w w'
theorem pf.tupD {P:Prop} {M:List ac} {V:List (List af)} {b:Bool} {w w':World} {e:Ending} (h:pf q M V S b w e w') (hw:∀z ∈ S,(Lit.int .i64 z).wf=true) (hV:P→V≠[]):Fo P q M V S b w e w':=by
 obtain ⟨d,g,s,f,r,n,t,o,m,rfl,hR,hb⟩:=h;exact ⟨_,_,_,_,_,_,_,_,_,rfl,hR.treeIn hw,fun hp=>xD hR (hV hp),hb⟩
theorem vK (q:Int) (d:Option Addr) (f r:Nat) (o:Option Addr) (e m:Nat) (n:Option Addr) (g cs:Nat) (M:List ac) (V:List (List af)) (S:List Int) (s:Int) (w:World) (t:bn 0 w d f r o e m n g cs M V S) (b:aT q M V S=false) :
 Calls Tryz.prog 37 #[.agg #[iT q,.slice d f r,.slice o e m,.slice n g cs],iT s] w (pf 0 [] [] [] false w) :=
 mn q _ _ _ _ _ _ _ _ _ s 0 [] [] [] false w (fun u k2 _=>(Bw 0 q _ _ _ _ _ _ _ _ _ _ M V S u (t.keep k2) b).mono (fun _ _ h=>AG h))
theorem Du {x:Int} (h:bX S q=true) (hx:x ∈ S):(bT S x).length+1=S.length:=by
 have h1:=List.idxOf_lt_length_iff.2 hx;rw [← qQ (x:=x) h,Gj,Gn,Gy];omega
theorem pz (a:Option Addr) (len ap:Nat) (w:World) (h:lA w a len ap) :
 Calls Tryz.prog 9 #[.slice a len ap] w fun e w'=>e=.returned (.bool true)∧Bl w w':=by
 have H:=az h;have hm:=Gq h.1 h.2.1;unfold maxLen at hm;clear h;by_cases hbig:1048576<len
 · go_enter Tryz.func9,Tryz.ntmps9
   go_wp2;go_ret;exact ⟨rfl,Below.refl _ _⟩
 go_enter Tryz.func9,Tryz.ntmps9
 go_wp2_with fail
 refine (qR a len ap w H.o).mono ?_;rintro e w1 ⟨q,am,F,J,D,I,K,ak,ns,cs,M,V,S,sq,rfl,hX,ar⟩;obtain ⟨b8,aG,ae,⟨gk,rfl⟩,⟨gm,rfl⟩⟩:=hX;obtain ⟨X,ai⟩:=aF w1.heap.size;obtain ⟨W,hW⟩:=aF (w1.alloc (.cells #[iT q,sL gm F J,.slice D I K,sL gk ns cs] 31));have kW:Bl w1 W:=by rw [hW];exact bZ
 have BX:Eq (ay W X (iT q) (sL gm F J) (.slice D I K) (sL gk ns cs)):=by rw [hW,ai];exact ay.new _ _ _ _ _ _
 have KW:Eq (Bl w W):=ar.trans (kW.mono ar.size);have hT:bn 0 W (pT gm) F J D I K (pT gk) ns cs M V S:=aG.keep kW;have HT:Eq (bn 0 W (pT gm) F J D I K (pT gk) ns cs M V S):=hT;have aD:Eq (pe W D V):=fun i B hB=>by
  obtain ⟨b,e,n,c,e1,h1⟩:=ae i B hB;exact ⟨b,e,n,c,e1,cell_later kW h1⟩
 obtain ⟨TB,E⟩:∃b,b=aT q M V S:=⟨_,rfl⟩;have bk:∃q2 g f y x,(x=true→TB=true∧q2=q∧g=M∧f=V∧y=bT S sq∧sq ∈ S)∧(x=false→f7 q2 g f y q M V S=true∨TB=false) ∧
  (∀w',Bl W w'→Calls Tryz.prog 37 #[.agg #[iT q,sL gm F J,.slice D I K,sL gk ns cs],iT sq] w' (Fo (TB=true) q2 g f y x w')) ∧
  (∀w',Bl W w'→Calls Tryz.prog 45 #[.agg #[iT q,sL gm F J,.slice D I K,sL gk ns cs],iT sq] w' (EK q2 g f y x w')):=by
  cases d:aT q M V S with
  | true =>
   have bf:∀z ∈ bT S sq,(Lit.int .i64 z).wf=true:=fun z hz=>hT.snaps.wfs z (mM hz)
   refine ⟨q,M,V,bT S sq,decide (sq ∈ S),fun h=>⟨by rw [E,d],rfl,rfl,rfl,rfl,by simpa using h⟩,fun h=>.inl ?_,fun w' k=>(AF q _ F J D I K gk ns cs M V S sq w' (hT.keep k) d).mono (fun e U h=>h.tupD bf (fun _ hv=>by have:=(iK d).2.2.2.2.2;rw [hv] at this;simp at this)),fun w' k=>(zW q _ F J D I K _ ns cs M V S sq w' (hT.keep k) d).mono (fun e U h=>h.tupT)⟩;rw [tr (by simpa using h)];exact lH q M V S
  | false =>
   rw [d] at E;exact ⟨0,[],[],[],false,(fun h=>by cases h),(fun _=>.inr E),fun w' k=>(vK q _ F J D I K _ ns cs M V S sq w' (hT.keep k) d).mono (fun e U h=>h.tupD (fun z hz=>by cases hz) (fun h=>by rw [E] at h;cases h)),fun w' k=>(xm 0 q _ D _ F J I K ns cs M V S sq w' (hT.keep k) d).mono (fun e U h=>(AZ h).tupT)⟩
 obtain ⟨q2,g,f,y,x,a0,aH,aM,aL⟩:=bk;have CI:Eq (∀w',Bl W w'→Calls Tryz.prog 37 #[.agg #[iT q,sL gm F J,.slice D I K,sL gk ns cs],iT sq] w' (Fo (TB=true) q2 g f y x w')):=aM;have CS:Eq (∀w',Bl W w'→Calls Tryz.prog 45 #[.agg #[iT q,sL gm F J,.slice D I K,sL gk ns cs],iT sq] w' (EK q2 g f y x w')):=aL;have aI:Eq (x=false→f7 q2 g f y q M V S=true∨TB=false):=aH;have ad:Eq (x=true→aT q M V S=true∧TB=true∧q2=q∧g=M∧f=V∧y=bT S sq∧sq ∈ S):=fun h=>⟨by rw [← E];exact (a0 h).1,a0 h⟩
 have CT:Eq (∀w',Bl W w'→Calls Tryz.prog 27 #[.agg #[iT q,sL gm F J,.slice D I K,sL gk ns cs]] w' fun e U=>e=.returned (.bool TB)∧Bl w' U):=fun w' k=>by
  rw [E];exact je 0 q _ D _ F J I K ns cs M V S w' (hT.keep k)
 have bz:(x == x)=true:=by cases x <;> rfl
 have bC:(x != x)=false:=by cases x <;> rfl
 have u:=BX.o;have x0:=u.all;clear u;clear ar kW hT aG ae E a0 aH aM aL b8;go_upto_region 4 with fail
 rw [← hW];try rw [← ai]
 clear hW ai;go_wp2_with fail
 clear x0;refine (CI.o _ (Below.refl _ _)).mono ?_;rintro e w2 ⟨a1,n1,k1,a2,n2,k2,a3,T,k3,rfl,hT2,hsn,aj⟩;obtain ⟨Y,hY⟩:=aF w2.heap.size;obtain ⟨w3,a8⟩:=aF (w2.alloc (.cells #[iT q2,.slice a1 n1 k1,.slice a2 n2 k2,.slice a3 T k3] 31));have kk:Bl w2 w3:=by rw [a8];exact bZ
 have K3:Eq (Bl W w3):=aj.trans (kk.mono aj.size);have T3:Eq (bn 0 w3 a1 n1 k1 a2 n2 k2 a3 T k3 g f y):=hT2.keep kk;have BY:Eq (ay w3 Y (iT q2) (.slice a1 n1 k1) (.slice a2 n2 k2) (.slice a3 T k3)):=by rw [a8,hY];exact ay.new _ _ _ _ _ _
 have aJ:Eq (TB=true→(∃b,a1=some ⟨b,0,none⟩)∧∃b,a2=some ⟨b,0,none⟩∧jC w3 b f):=fun h=>by
  obtain ⟨h1,b,h2,h3⟩:=hsn h;exact ⟨h1,b,h2,h3.keep kk⟩
 clear aj CI kk hT2 hsn;have u:=BX.o.keep K3.o;have x0:=u.all;clear u;go_upto_region 5 with fail
 rw [← a8];try rw [← hY]
 clear a8 hY;go_wp2_with fail
 clear x0;refine (CS.o _ K3.o).mono ?_;rintro e w4 ⟨b1,m1,l1,b2,m2,l2,b3,m3,l3,rfl,aP,aq⟩;obtain ⟨Z,hZ⟩:=aF w4.heap.size;obtain ⟨w5,a7⟩:=aF (w4.alloc (.cells #[iT q2,.slice b1 m1 l1,.slice b2 m2 l2,.slice b3 m3 l3] 31));have kk:Bl w4 w5:=by rw [a7];exact bZ
 have a4:Bl w3 w5:=aq.trans (kk.mono aq.size);have aA:Eq (Bl w3 w5):=a4;have K5:Eq (Bl W w5):=K3.o.trans (a4.mono K3.o.size);have T5:Eq (bn 0 w5 a1 n1 k1 a2 n2 k2 a3 T k3 g f y):=T3.o.keep a4;have U5:Eq (bn 0 w5 b1 m1 l1 b2 m2 l2 b3 m3 l3 g f y):=aP.keep kk;have O:Eq (ay w5 Y (iT q2) (.slice a1 n1 k1) (.slice a2 n2 k2) (.slice a3 T k3)):=BY.o.keep a4;have aE:Eq (ay w5 Z (iT q2) (.slice b1 m1 l1) (.slice b2 m2 l2) (.slice b3 m3 l3)):=by rw [a7,hZ];exact ay.new _ _ _ _ _ _
 clear aq CS K3 T3 BY kk a4 aP;have r:=O.o;have y0:=r.all;clear r;have zb:=aE.o;have z0:=zb.all;clear zb;go_upto_region 6 with fail
 rw [← a7];try rw [← hZ]
 clear a7 hZ;go_wp2_with fail
 clear y0 z0;refine (mF q2 q2 0 0 _ _ _ _ _ _ _ _ _ _ _ _ _ _ _ _ _ _ g f y g f y _ T5.o U5.o).mono ?_;rintro e w6 ⟨rfl,ao⟩;rw [lH];have a6:Eq (Bl w5 w6):=ao;have K6:Eq (Bl W w6):=K5.o.trans (ao.mono K5.o.size);clear ao U5 aE;cases x with
 | false =>
  have u:=BX.o.keep K6.o;have x0:=u.all;clear u;have r:=O.o.keep a6.o;have y0:=r.all;clear r;obtain ⟨sm,ag⟩:∃b,b=f7 q2 g f y q M V S:=⟨_,rfl⟩;have b0:Eq (sm=true∨TB=false):=by rw [ag];exact aI.o rfl
  go_wp2_with fail
  clear x0 y0;refine (mF q2 q 0 0 _ _ _ _ _ _ _ _ _ _ _ _ _ _ _ _ _ _ g f y M V S _ (T5.o.keep a6.o) (HT.o.keep K6.o)).mono ?_;rintro e w7 ⟨rfl,Q⟩;rw [← ag];have R:Eq (Bl W w7):=K6.o.trans (Q.mono K6.o.size);clear Q ag;cases sm with
  | true =>
   go_wp2;go_ret;exact ⟨rfl,KW.o.trans (R.o.mono KW.o.size)⟩
  | false =>
   obtain rfl:TB=false:=by
    rcases b0.o with h | h
    · cases h
    · exact h
   have u:=BX.o.keep R.o;have x0:=u.all;clear u;go_wp2_with fail
   clear x0;refine (CT.o _ R.o).mono ?_;rintro e w8 ⟨rfl,N⟩;have K8:Eq (Bl W w8):=R.o.trans (N.mono R.o.size);clear N;go_wp2;go_ret;exact ⟨rfl,KW.o.trans (K8.o.mono KW.o.size)⟩
 | true =>
  obtain ⟨d,af,rfl,rfl,rfl,rfl,ab⟩:=ad.o rfl;obtain ⟨⟨c1,rfl⟩,c2,rfl,aS⟩:=aJ.o af;have an:=(iK d).2.2.2.2.2;obtain ⟨bv,rfl⟩:=aD.o.some (by intro hv;rw [hv] at an;simp at an);have bc:Eq (jC w5 c2 f):=aS.keep aA.o;have bb:Eq (aT q2 g f S=true):=d;have aN:Eq (aT q2 g f (bT S sq)=true):=by
   obtain ⟨A,B,C,rfl⟩:=gH d;exact sc d sq
  have b4:=Du (aV d).2.2.2.2.2.2.1 ab;have hsl:=HT.o.snaps.length;have bH:=T5.o.snaps.length;have bg:=(iK d).2.2.2.2.1;have bG:T+1=ns:=by omega
  have hns:ns≤4:=by omega
  clear d aS aJ ad aI CT af ab an aA b4 hsl bg;go_wp2;go_loopw [9] (fun iv wr=>∃i:Nat,iv=iT (i:Int)∧i≤T∧Bl w6 wr) (fun iv _=>T - (intOf iv).toNat)
  case atStart=>exact ⟨0,rfl,by omega,Below.refl _ _⟩
  case round =>
   obtain ⟨i,rfl,hi,hk⟩:=hrel;have m:Eq (Bl w5 wr):=a6.o.trans (hk.mono a6.o.size);have KR:Eq (Bl W wr):=K6.o.trans (hk.mono K6.o.size);have aO:Eq (Bl w6 wr):=hk;clear hk;by_cases bF:i<T
   · have aQ:(i:Int)<(T:Int):=by omega
     have bI:IntKind.i64.wrap ((i:Int)+1)=(i:Int)+1:=by rw [GB];unfold wrap64;omega
     have aR:i<(bT S sq).length:=by omega
     obtain ⟨g3,o3,rfl,bd⟩:=(T5.o.keep m.o).snaps.form (by omega);obtain ⟨s,hs⟩:=aF ((bT S sq)[i]);have hc:=(T5.o.keep m.o).snaps.cells ⟨g3,o3,none⟩ rfl i aR;rw [← hs] at hc;have ba:=Gf _ _ hc;simp only at ba;have bE:(s == sq)=false:=by
      have h1:s ∈ bT S sq:=by rw [hs];exact GQ aR
      have h2:=(Iy.1 h1).2;simpa using h2
     clear hs bd;have r:=O.o.keep m.o;have y0:=r.all;clear r;go_wp2;clear y0;go_roundw
     case rel=>exact ⟨i+1,by rw [show ((i+1:Nat):Int)=(i:Int)+1 by omega],by omega,aO.o⟩
     case measure=>simp [intOf];omega
   · have aQ:¬(i:Int)<(T:Int):=by omega
     have r:=O.o.keep m.o;have y0:=r.all;clear r;go_wp2_with fail
     clear y0;have al:=yi 0 q2 _ _ _ _ _ _ _ _ _ g f (bT S sq) wr (T5.o.keep m.o);rw [aN.o] at al;refine al.mono ?_;rintro e w7 ⟨rfl,Q⟩;have L:Eq (Bl w5 w7):=m.o.trans (Q.mono m.o.size);have R:Eq (Bl W w7):=KR.o.trans (Q.mono KR.o.size);clear Q al m KR aO;have u:=BX.o.keep R.o;have x0:=u.all;clear u;have r:=O.o.keep L.o;have y0:=r.all;clear r;go_wp2_with fail
     clear x0 y0;refine (Fv q2 _ _ _ _ _ _ _ _ _ g f (bT S sq) q2 _ _ _ _ _ _ _ _ _ g f S w7 (T5.o.keep L.o) aN.o (bc.o.keep L.o) (HT.o.keep R.o) bb.o (aD.o.nn.keep R.o) (fun key t _=>rfl)).mono ?_;rintro e w8 ⟨rfl,N⟩;have b5:Eq (Bl w5 w8):=L.o.trans (N.mono L.o.size);have K8:Eq (Bl W w8):=R.o.trans (N.mono R.o.size);clear N L R;have bD:IntKind.i64.wrap ((ns:Int) - 1)=(T:Int):=by rw [GB];unfold wrap64;omega
     have u:=BX.o.keep K8.o;have x0:=u.all;clear u;have r:=O.o.keep b5.o;have y0:=r.all;clear r;go_wp2;go_ret;exact ⟨rfl,KW.o.trans (K8.o.mono KW.o.size)⟩
end Go.Proofs.YtpobkmjicbobdaaGreat
