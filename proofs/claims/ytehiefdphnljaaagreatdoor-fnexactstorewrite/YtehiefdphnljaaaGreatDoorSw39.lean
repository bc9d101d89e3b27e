/- Walks. -/
import Derived.Test.YtehiefdphnljaaaGreatDoorSw38
namespace Go.Proofs.YtehiefdphnljaaaGreatDoor
set_option maxRecDepth 100000
set_option maxHeartbeats 40000000
open Go.RowKit
variable {b:Nat} {u0 u1 u10 u11 u12 u2 u3 u4 u5 u6 u7 u8 u9:Value} {w:World}
theorem sE (ab:Option Addr) (nb cb:Nat) (w:World) :
 Calls Tryz.prog 25 #[.slice ab nb cb] w fun e w'=>∃b:Nat,e=.returned (.func (.func 50) #[] #[.pointer (pT b)])∧w'.cell? ⟨b,0,none⟩=some (.slice ab nb cb)∧Bl w w':=by
 go_enter Tryz.func25,Tryz.ntmps25
 go_wp2;go_ret;exact ⟨w.heap.size,rfl,by simp,bZ⟩
def Ci (q:Int) (a0:Option Addr) (n0 c0:Nat) (a1:Option Addr) (n1 c1:Nat) (a2:Option Addr) (n2 c2:Nat) (ak:Option Addr) (nk ck:Nat) (M K:List ae) (w:World) (e:Ending) (w':World):Prop :=
 ∃q2 bm mm em b0 m0 e0 b1 m1 e1 b2 m2 e2 bk mk ek,∃r d:Nat,∃T,e=.returned (.tuple #[.agg #[iT q2,.slice bm mm em,.slice b0 m0 e0,.slice b1 m1 e1,.slice b2 m2 e2,.slice bk mk ek],sL r 1 1,.bool (bi q M K)])∧w'.cell? ⟨r,0,none⟩=some (.func (.func 92) #[] #[.pointer (pT d)])∧w'.cell? ⟨d,0,none⟩=some (.string T)∧Bl w w'∧T.size≤4000∧(bi q M K=true→(∃g n,(.agg #[iT q2,.slice bm mm em,.slice b0 m0 e0,.slice b1 m1 e1,.slice b2 m2 e2,.slice bk mk ek]:Value)=.agg #[iT (q+K.length),sL g n n,.slice a0 n0 c0,.slice a1 n1 c1,.slice a2 n2 c2,.slice ak nk ck]∧aE w' w.heap.size g n n (bg (M++cU q K)))∧T=aW (cU q K))
theorem sF (b:Nat) (q:Int) (am:Option Addr) (nm cm:Nat) (a0:Option Addr) (n0 c0:Nat) (a1:Option Addr) (n1 c1:Nat) (a2:Option Addr) (n2 c2:Nat) (ak:Option Addr) (nk ck:Nat) (M:List ae) (A B C:List aq) (S:List Int) (ab:Option Addr) (nb cb:Nat) (K:List ae) (w:World) (hSh:xv w am nm cm a0 n0 c0 a1 n1 c1 a2 n2 c2 ak nk ck M A B C S) (hK:an w ab nb cb K) (hb:w.cell? ⟨b,0,none⟩=some (.slice ab nb cb)) (hnb:nb≤1048576) (hnm:nm≤1048576) (hM:fj M) (hq0:0≤q) (hq1:q≤100000) (hTB:kQ w.heap.size w) :
 Calls Tryz.prog 50 #[.agg #[iT q,.slice am nm cm,.slice a0 n0 c0,.slice a1 n1 c1,.slice a2 n2 c2,.slice ak nk ck],.pointer (pT b)] w (Ci q a0 n0 c0 a1 n1 c1 a2 n2 c2 ak nk ck M K w):=by
 obtain ⟨X,hX⟩:=aw w.heap.size;obtain ⟨W,hW⟩:=aw ((w.alloc (.cells #[iT q,.slice am nm cm,.slice a0 n0 c0,.slice a1 n1 c1,.slice a2 n2 c2,.slice ak nk ck] 86)).alloc (.cells #[iT 0,nZ,nZ,nZ,nZ,nZ] 86));have kW:Bl w W:=by rw [hW];exact bZ.alloc (by simp) _
 have bx:aR W X (iT q) (.slice am nm cm) (.slice a0 n0 c0) (.slice a1 n1 c1) (.slice a2 n2 c2) (.slice ak nk ck):=by rw [hW,hX];exact (aR.new _ _ _ _ _ _ _ _).alloc _
 have br:aR W (X+1) (iT 0) nZ nZ nZ nZ nZ:=by
  have:=aR.new (w.alloc (.cells #[iT q,.slice am nm cm,.slice a0 n0 c0,.slice a1 n1 c1,.slice a2 n2 c2,.slice ak nk ck] 86)) 86 (iT 0) nZ nZ nZ nZ nZ;rw [World.size_alloc] at this;rw [hW,hX];exact this
 have HXW:=ar hX;have HKW:=ar kW;have HBX:=ar bx;have HBR:=ar br;have HK:=ar hK;have HTB:=ar hTB;have HBC:=ar hb;have CW:Hid (Calls Tryz.prog 51 #[.agg #[iT q,.slice am nm cm,.slice a0 n0 c0,.slice a1 n1 c1,.slice a2 n2 c2,.slice ak nk ck],.slice ab nb cb] W (BA q a0 n0 c0 a1 n1 c1 a2 n2 c2 ak nk ck M K W)):=vP q am nm cm a0 n0 c0 a1 n1 c1 a2 n2 c2 ak nk ck M A B C S ab nb cb K W (hSh.keep kW) (hK.keep kW) hnb hnm hM hq0 hq1;have CT:Hid (∀w',Bl w w'→Calls Tryz.prog 52 #[.slice ab nb cb,iT q] w' (iX q K nb w')):=fun w' k=>o8 ab nb cb K q w' (hK.keep k) hnb hq0 hq1
 have yb:=cell_later kW hb;have yz:=World.block_lt_of_cell? _ _ yb;clear hSh hK hTB hb hnb hnm hM hq0 hq1 kW br;go_enter Tryz.func50,Tryz.ntmps50
 go_upto_region 1 with fail
 rw [← hX,← hW];clear hX hW;have x0:=bx.all;clear bx;go_wp2_with fail
 refine CW.out.mono ?_;rintro e w1 hwr;clear x0 yb yz CW;have hex:∃q2 bm mm em b0 m0 e0 b1 m1 e1 b2 m2 e2 bk mk ek,e=.returned (.tuple #[.agg #[iT q2,.slice bm mm em,.slice b0 m0 e0,.slice b1 m1 e1,.slice b2 m2 e2,.slice bk mk ek],.bool (bi q M K)])∧Bl W w1∧(bi q M K=true→(∃g n,(.agg #[iT q2,.slice bm mm em,.slice b0 m0 e0,.slice b1 m1 e1,.slice b2 m2 e2,.slice bk mk ek]:Value)=.agg #[iT (q+K.length),sL g n n,.slice a0 n0 c0,.slice a1 n1 c1,.slice a2 n2 c2,.slice ak nk ck]∧aE w1 W.heap.size g n n (bg (M++cU q K)))):=by
  cases hwo:bi q M K with
  | true =>
   obtain ⟨g,n,he,hO,hb1⟩:=hwr.1 hwo;exact ⟨_,_,_,_,_,_,_,_,_,_,_,_,_,_,_,_,he,hb1,fun _=>⟨g,n,rfl,hO⟩⟩
  | false =>
   obtain ⟨q2,bm,mm,em,b0,m0,e0,b1,m1,e1,b2,m2,e2,bk,mk,ek,he,hb1⟩:=hwr.2 hwo;exact ⟨_,_,_,_,_,_,_,_,_,_,_,_,_,_,_,_,he,hb1,fun h=>by cases h⟩
 obtain ⟨q2,bm,mm,em,b0,m0,e0,b1,m1,e1,b2,m2,e2,bk,mk,ek,rfl,hb1,hY⟩:=hex;have KB1:=ar hb1;have HY1:=ar hY;clear hwr hb1 hY;go_upto_region 2 with fail
 obtain ⟨Y,hYd⟩:=aw w1.heap.size;obtain ⟨w2,hw2⟩:=aw (w1.alloc (.cells #[iT q2,.slice bm mm em,.slice b0 m0 e0,.slice b1 m1 e1,.slice b2 m2 e2,.slice bk mk ek] 86));have k2:Bl w1 w2:=by rw [hw2];exact bZ
 have HBY:Hid (aR w2 Y (iT q2) (.slice bm mm em) (.slice b0 m0 e0) (.slice b1 m1 e1) (.slice b2 m2 e2) (.slice bk mk ek)):=by rw [hw2,hYd];exact aR.new _ _ _ _ _ _ _ _
 have HYN:Hid (X+1<Y):=by have h2:=(HBR.out.keep KB1.out).lt;show _<_;omega
 have KB2:Hid (Bl W w2):=KB1.out.trans (k2.mono KB1.out.size);have K2:Hid (Bl w w2):=HKW.out.trans (KB2.out.mono HKW.out.size);have HY2:Hid (bi q M K=true→(∃g n,(.agg #[iT q2,.slice bm mm em,.slice b0 m0 e0,.slice b1 m1 e1,.slice b2 m2 e2,.slice bk mk ek]:Value)=.agg #[iT (q+K.length),sL g n n,.slice a0 n0 c0,.slice a1 n1 c1,.slice a2 n2 c2,.slice ak nk ck]∧aE w2 W.heap.size g n n (bg (M++cU q K)))):=fun h=>by
  obtain ⟨g,n,h1,h2⟩:=HY1.out h;exact ⟨g,n,h1,h2.below k2⟩
 rw [← hw2];try rw [← hYd]
 clear hw2 hYd k2 HY1 KB1;have CT2:=CT.out w2 K2.out;have bx2:=HBX.out.keep KB2.out;have x0:=bx2.c0;have xz:=bx2.lt;have yb:=cell_later K2.out HBC.out;have yz:=World.block_lt_of_cell? _ _ yb;clear bx2;go_wp2_with fail
 refine CT2.mono ?_;rintro e w3 hst;clear x0 xz yb yz CT2;obtain ⟨a5,n5,c5,L5,ok,rfl,hO5,_,_,hy5,hno5,hb3⟩:=mJ hst HK.out.length;have HL5:Hid (bi q M K=true→L5=cU q K):=fun h=>by
  unfold bi at h;simp only [Bool.and_eq_true,decide_eq_true_eq] at h;cases ok with
  | true=>exact (hy5 rfl).2.1
  | false =>
   rcases hno5 rfl with h1 | h1
   · rw [h1] at h;exact absurd h.2.2.2 (by decide)
   · have:=HK.out.length;omega
 have KB3:Hid (Bl W w3):=KB2.out.trans (hb3.mono KB2.out.size);have K3:Hid (Bl w w3):=HKW.out.trans (KB3.out.mono HKW.out.size);have HE3:=ar hO5.entsAt;have HBY3:=ar (HBY.out.keep hb3);have HY3:Hid (bi q M K=true→(∃g n,(.agg #[iT q2,.slice bm mm em,.slice b0 m0 e0,.slice b1 m1 e1,.slice b2 m2 e2,.slice bk mk ek]:Value)=.agg #[iT (q+K.length),sL g n n,.slice a0 n0 c0,.slice a1 n1 c1,.slice a2 n2 c2,.slice ak nk ck]∧aE w3 W.heap.size g n n (bg (M++cU q K)))):=fun h=>by
  obtain ⟨g,n,h1,h2⟩:=HY2.out h;exact ⟨g,n,h1,h2.below hb3⟩
 clear hst hO5 hy5 hno5 hb3 CT HY2 HBY KB2 K2;have HMK:Hid (∀w',Bl w3 w'→(w'.cell? ⟨Y,0,none⟩=some (iT q2)∧w'.cell? ⟨Y,1,none⟩=some (.slice bm mm em)∧w'.cell? ⟨Y,2,none⟩=some (.slice b0 m0 e0)∧w'.cell? ⟨Y,3,none⟩=some (.slice b1 m1 e1)∧w'.cell? ⟨Y,4,none⟩=some (.slice b2 m2 e2)∧w'.cell? ⟨Y,5,none⟩=some (.slice bk mk ek)∧Y<w'.heap.size)):=fun w' k=>by
  have b:=HBY3.out.keep k;exact ⟨b.c0,b.c1,b.c2,b.c3,b.c4,b.c5,b.lt⟩
 have k0:Bl w3 w3.drew:=(Below.refl _ w3).drew;have CF:=jr a5 n5 c5 L5 w3.drew (HE3.out.keep k0) (HTB.out _ (K3.out.trans (k0.mono K3.out.size)));go_upto_region 3 with fail
 refine dC HMK k0 fun aa=>?_
 refine aK 0 2 aa ?_;refine aK 5 1 aa ?_;refine aP 2 fun K hK=>?_
 go_simp;refine CF.mono ?_;rintro e w4 ⟨rfl,hb4⟩;have k4:Bl w3 w4:=k0.trans (hb4.mono k0.size);go_wp2_with fail
 refine hK.out _ _ (HMK.out _ k4) (fun aa=>?_);clear hK K;(try go_frame);refine aP 3 fun K hK=>?_
 go_simp;refine (pU (aW L5) w4).mono ?_;rintro e w5 ⟨d,rfl,hd,hb5⟩;have k5:Bl w3 w5:=k4.trans (hb5.mono k4.size);go_wp2_with fail
 refine hK.out _ _ (HMK.out _ k5) (fun aa=>?_);clear hK K;(try go_frame);have HDC5:=ar hd;have K5:=ar k5;have KB5:Hid (Bl W w5):=KB3.out.trans (k5.mono KB3.out.size);have HR5:=ar (HBR.out.keep KB5.out);have hYX:X+1≠Y:=Nat.ne_of_lt HYN.out;have HDX:Hid (d≠X+1):=fun e=>by
  have h1:=HDC5.out;rw [e,HR5.out.c0] at h1;cases h1
 have FIN:Hid (∀wz r,Bl w wz→wz.cell? ⟨r,0,none⟩=some (.func (.func 92) #[] #[.pointer (pT d)])→wz.cell? ⟨d,0,none⟩=some (.string (aW L5))→(∀g n,aE w5 W.heap.size g n n (bg (M++cU q K))→aE wz W.heap.size g n n (bg (M++cU q K)))→Ci q a0 n0 c0 a1 n1 c1 a2 n2 c2 ak nk ck M K w (.returned (.tuple #[.agg #[iT q2,.slice bm mm em,.slice b0 m0 e0,.slice b1 m1 e1,.slice b2 m2 e2,.slice bk mk ek],sL r 1 1,.bool (bi q M K)])) wz):=fun wz r h1 h2 h3 h4=>by
  refine ⟨_,_,_,_,_,_,_,_,_,_,_,_,_,_,_,_,r,d,aW L5,rfl,h2,h3,h1,lT L5,fun h=>⟨?_,by rw [HL5.out h]⟩⟩;obtain ⟨g,n,h5,h6⟩:=HY3.out h;exact ⟨g,n,h5,(h4 g n (h6.below K5.out)).mono HKW.out.size⟩
 refine uv 4 6 (fun K hK=>?_) (fun K hK=>?_)
 · go_simp;obtain ⟨u,hu⟩:=aw (w5.alloc (.cells #[.func (.func 92) #[] #[.pointer (pT d)]] 99));obtain ⟨r,hr⟩:=aw w5.heap.size;have ku:Bl w5 u:=by rw [hu];exact bZ
   have hrc:u.cell? ⟨r,0,none⟩=some (.func (.func 92) #[] #[.pointer (pT d)]):=by rw [hu,hr];simp
   have hrX:X+1≠r:=by have h1:=HR5.out.lt;omega
   have HRX:=ar hrX;rw [← hu,← hr];clear hu hr hrX;have HRC:=ar hrc;have HKU:=ar ku;have KU:Hid (Bl w u):=HKW.out.trans ((KB5.out.trans (ku.mono KB5.out.size)).mono HKW.out.size);have HR6:=ar (HR5.out.keep ku);refine hK.out _ _ (HMK.out _ (K5.out.trans (ku.mono K5.out.size))) (fun aa=>?_);clear hK K ku hrc;(try go_frame);refine aP 6 fun K hK=>?_
   obtain ⟨wf,hwf⟩:=aw ((((((u.setCell ⟨X+1,0,none⟩ (iT q2)).setCell ⟨X+1,1,none⟩ (.slice bm mm em)).setCell ⟨X+1,2,none⟩ (.slice b0 m0 e0)).setCell ⟨X+1,3,none⟩ (.slice b1 m1 e1)).setCell ⟨X+1,4,none⟩ (.slice b2 m2 e2)).setCell ⟨X+1,5,none⟩ (.slice bk mk ek));have HRF:Hid (aR wf (X+1) (iT q2) (.slice bm mm em) (.slice b0 m0 e0) (.slice b1 m1 e1) (.slice b2 m2 e2) (.slice bk mk ek)):=by rw [hwf];exact HR6.out.sets (iT q2) (.slice bm mm em) (.slice b0 m0 e0) (.slice b1 m1 e1) (.slice b2 m2 e2) (.slice bk mk ek)
   have HYF:Hid (aR wf Y (iT q2) (.slice bm mm em) (.slice b0 m0 e0) (.slice b1 m1 e1) (.slice b2 m2 e2) (.slice bk mk ek)):=by rw [hwf];exact ((((((HBY3.out.keep (K5.out.trans (HKU.out.mono K5.out.size))).other hYX _).other hYX _).other hYX _).other hYX _).other hYX _).other hYX _
   have HCF:Hid (∀c o,c≠X+1→wf.cell? ⟨c,o,none⟩=u.cell? ⟨c,o,none⟩):=fun c o h=>by
    have ne:∀k,(⟨X+1,k,none⟩:Addr)≠⟨c,o,none⟩:=fun k e=>h (congrArg Addr.block e).symm
    rw [hwf];simp only [World.cell?_setCell_other _ _ _ _ (ne _)]
   have KF:Hid (Bl w wf):=by rw [hwf];exact jP KU.out (by have:=HXW.out;omega) (iT q2) (.slice bm mm em) (.slice b0 m0 e0) (.slice b1 m1 e1) (.slice b2 m2 e2) (.slice bk mk ek)
   have KOF:Hid (aI (X+1) (X+1+1) u wf):=by rw [hwf];exact (((((jG _ _ _ _).trans (jG _ _ _ _)).trans (jG _ _ _ _)).trans (jG _ _ _ _)).trans (jG _ _ _ _)).trans (jG _ _ _ _)
   have r0:=HR6.out.all;go_simp;rw [← hwf];have yf:=HYF.out;refine hK.out _ _ ⟨yf.c0,yf.c1,yf.c2,yf.c3,yf.c4,yf.c5,yf.lt⟩ (fun aa=>?_);clear hK K yf r0 hwf;(try go_frame);refine aK 7 2 aa ?_;refine dN ?_;clear aa HMK;go_wp2;refine bodyPost_ret (v:=.tuple #[.agg #[iT q2,.slice bm mm em,.slice b0 m0 e0,.slice b1 m1 e1,.slice b2 m2 e2,.slice bk mk ek],sL r 1 1,.bool (bi q M K)]) ?_ rfl (FIN.out wf r KF.out ((HCF.out r 0 HRX.out.symm).trans HRC.out) ((HCF.out d 0 HDX.out).trans (cell_later HKU.out HDC5.out)) (fun g n h=>KOF.out.own (h.below HKU.out) (.inr (by have h3:=HBR.out.lt;have h4:=h.lt.1;omega))));have e:=HRF.out;simp [results,Tryz.results50,go_sem,e.all]
 · have KU:Hid (Bl w w5):=HKW.out.trans (KB5.out.mono HKW.out.size);obtain ⟨w6,hwf⟩:=aw ((((((w5.setCell ⟨X+1,0,none⟩ (iT q2)).setCell ⟨X+1,1,none⟩ (.slice bm mm em)).setCell ⟨X+1,2,none⟩ (.slice b0 m0 e0)).setCell ⟨X+1,3,none⟩ (.slice b1 m1 e1)).setCell ⟨X+1,4,none⟩ (.slice b2 m2 e2)).setCell ⟨X+1,5,none⟩ (.slice bk mk ek));have HRF:Hid (aR w6 (X+1) (iT q2) (.slice bm mm em) (.slice b0 m0 e0) (.slice b1 m1 e1) (.slice b2 m2 e2) (.slice bk mk ek)):=by rw [hwf];exact HR5.out.sets (iT q2) (.slice bm mm em) (.slice b0 m0 e0) (.slice b1 m1 e1) (.slice b2 m2 e2) (.slice bk mk ek)
   have HYF:Hid (aR w6 Y (iT q2) (.slice bm mm em) (.slice b0 m0 e0) (.slice b1 m1 e1) (.slice b2 m2 e2) (.slice bk mk ek)):=by rw [hwf];exact ((((((HBY3.out.keep K5.out).other hYX _).other hYX _).other hYX _).other hYX _).other hYX _).other hYX _
   have HCF:Hid (∀c o,c≠X+1→w6.cell? ⟨c,o,none⟩=w5.cell? ⟨c,o,none⟩):=fun c o h=>by
    have ne:∀k,(⟨X+1,k,none⟩:Addr)≠⟨c,o,none⟩:=fun k e=>h (congrArg Addr.block e).symm
    rw [hwf];simp only [World.cell?_setCell_other _ _ _ _ (ne _)]
   have KF:Hid (Bl w w6):=by rw [hwf];exact jP KU.out (by have:=HXW.out;omega) (iT q2) (.slice bm mm em) (.slice b0 m0 e0) (.slice b1 m1 e1) (.slice b2 m2 e2) (.slice bk mk ek)
   have KOF:Hid (aI (X+1) (X+1+1) w5 w6):=by rw [hwf];exact (((((jG _ _ _ _).trans (jG _ _ _ _)).trans (jG _ _ _ _)).trans (jG _ _ _ _)).trans (jG _ _ _ _)).trans (jG _ _ _ _)
   have r0:=HR5.out.all;go_simp;rw [← hwf];have yf:=HYF.out;refine hK.out _ _ ⟨yf.c0,yf.c1,yf.c2,yf.c3,yf.c4,yf.c5,yf.lt⟩ (fun aa=>?_);clear hK K yf r0 hwf;(try go_frame);refine aP 4 fun K hK=>?_
   go_simp;obtain ⟨u,hu⟩:=aw (w6.alloc (.cells #[.func (.func 92) #[] #[.pointer (pT d)]] 99));obtain ⟨r,hr⟩:=aw w6.heap.size;have ku:Bl w6 u:=by rw [hu];exact bZ
   have hrc:u.cell? ⟨r,0,none⟩=some (.func (.func 92) #[] #[.pointer (pT d)]):=by rw [hu,hr];simp
   rw [← hu,← hr];clear hu hr;have HRC:=ar hrc;have HKU:=ar ku;have yu:=HYF.out.keep ku;refine hK.out _ _ ⟨yu.c0,yu.c1,yu.c2,yu.c3,yu.c4,yu.c5,yu.lt⟩ (fun aa=>?_);clear hK K ku hrc yu;(try go_frame);refine aK 7 2 aa ?_;refine dN ?_;clear aa HMK;go_wp2;refine bodyPost_ret (v:=.tuple #[.agg #[iT q2,.slice bm mm em,.slice b0 m0 e0,.slice b1 m1 e1,.slice b2 m2 e2,.slice bk mk ek],sL r 1 1,.bool (bi q M K)]) ?_ rfl (FIN.out u r (KF.out.trans (HKU.out.mono KF.out.size)) HRC.out (cell_later HKU.out ((HCF.out d 0 HDX.out).trans HDC5.out)) (fun g n h=>(KOF.out.own h (.inr (by have h3:=HBR.out.lt;have h4:=h.lt.1;omega))).below HKU.out));have e:=(HRF.out.keep HKU.out);simp [results,Tryz.results50,go_sem,e.all]
structure aH (w:World) (b:Nat) (u0 u1 u2 u3 u4 u5 u6 u7 u8 u9 u10 u11 u12:Value):Prop where
 c0:w.cell? ⟨b,0,none⟩=some u0
 c1:w.cell? ⟨b,1,none⟩=some u1
 c2:w.cell? ⟨b,2,none⟩=some u2
 c3:w.cell? ⟨b,3,none⟩=some u3
 c4:w.cell? ⟨b,4,none⟩=some u4
 c5:w.cell? ⟨b,5,none⟩=some u5
 c6:w.cell? ⟨b,6,none⟩=some u6
 c7:w.cell? ⟨b,7,none⟩=some u7
 c8:w.cell? ⟨b,8,none⟩=some u8
 c9:w.cell? ⟨b,9,none⟩=some u9
 c10:w.cell? ⟨b,10,none⟩=some u10
 c11:w.cell? ⟨b,11,none⟩=some u11
 c12:w.cell? ⟨b,12,none⟩=some u12
 fz:∀o,w.frozen? ⟨b,o,none⟩=false
theorem aH.lt (h:aH w b u0 u1 u2 u3 u4 u5 u6 u7 u8 u9 u10 u11 u12):b<w.heap.size:=World.block_lt_of_cell? w _ h.c0
theorem aH.all(h:aH w b u0 u1 u2 u3 u4 u5 u6 u7 u8 u9 u10 u11 u12):w.cell? ⟨b,0,none⟩=some u0∧w.cell? ⟨b,1,none⟩=some u1∧w.cell? ⟨b,2,none⟩=some u2∧w.cell? ⟨b,3,none⟩=some u3∧w.cell? ⟨b,4,none⟩=some u4∧w.cell? ⟨b,5,none⟩=some u5∧w.cell? ⟨b,6,none⟩=some u6∧w.cell? ⟨b,7,none⟩=some u7∧w.cell? ⟨b,8,none⟩=some u8∧w.cell? ⟨b,9,none⟩=some u9∧w.cell? ⟨b,10,none⟩=some u10∧w.cell? ⟨b,11,none⟩=some u11∧w.cell? ⟨b,12,none⟩=some u12∧(∀o,w.frozen? ⟨b,o,none⟩=false)∧b<w.heap.size:=⟨h.c0,h.c1,h.c2,h.c3,h.c4,h.c5,h.c6,h.c7,h.c8,h.c9,h.c10,h.c11,h.c12,h.fz,h.lt⟩
theorem aH.new (w:World) (t:TypeId) (u0 u1 u2 u3 u4 u5 u6 u7 u8 u9 u10 u11 u12:Value):aH (w.alloc (.cells #[u0,u1,u2,u3,u4,u5,u6,u7,u8,u9,u10,u11,u12] t)) w.heap.size u0 u1 u2 u3 u4 u5 u6 u7 u8 u9 u10 u11 u12:=⟨by simp,by simp,by simp,by simp,by simp,by simp,by simp,by simp,by simp,by simp,by simp,by simp,by simp,fun o=>by simp⟩
theorem aH.keep {w':World} (h:aH w b u0 u1 u2 u3 u4 u5 u6 u7 u8 u9 u10 u11 u12) (hb:Bl w w'):aH w' b u0 u1 u2 u3 u4 u5 u6 u7 u8 u9 u10 u11 u12 :=
 ⟨cell_later hb h.c0,cell_later hb h.c1,cell_later hb h.c2,cell_later hb h.c3,cell_later hb h.c4,cell_later hb h.c5,cell_later hb h.c6,cell_later hb h.c7,cell_later hb h.c8,cell_later hb h.c9,cell_later hb h.c10,cell_later hb h.c11,cell_later hb h.c12,fun o=>(hb.frozen (p:=⟨b,o,none⟩) h.lt).trans (h.fz o)⟩
theorem aH.alloc (h:aH w b u0 u1 u2 u3 u4 u5 u6 u7 u8 u9 u10 u11 u12) (o:Obj):aH (w.alloc o) b u0 u1 u2 u3 u4 u5 u6 u7 u8 u9 u10 u11 u12:=h.keep bZ
theorem aH.set0 (h:aH w b u0 u1 u2 u3 u4 u5 u6 u7 u8 u9 u10 u11 u12) (x:Value):aH (w.setCell ⟨b,0,none⟩ x) b x u1 u2 u3 u4 u5 u6 u7 u8 u9 u10 u11 u12 :=
 ⟨World.cell?_setCell_same' _ _ _ (by rw [h.c0];rfl),(ac x (by simp)).trans h.c1,(ac x (by simp)).trans h.c2,(ac x (by simp)).trans h.c3,(ac x (by simp)).trans h.c4,(ac x (by simp)).trans h.c5,(ac x (by simp)).trans h.c6,(ac x (by simp)).trans h.c7,(ac x (by simp)).trans h.c8,(ac x (by simp)).trans h.c9,(ac x (by simp)).trans h.c10,(ac x (by simp)).trans h.c11,(ac x (by simp)).trans h.c12,fun o=>by rw [World.frozen?_setCell];exact h.fz o⟩
theorem aH.set1 (h:aH w b u0 u1 u2 u3 u4 u5 u6 u7 u8 u9 u10 u11 u12) (x:Value):aH (w.setCell ⟨b,1,none⟩ x) b u0 x u2 u3 u4 u5 u6 u7 u8 u9 u10 u11 u12 :=
 ⟨(ac x (by simp)).trans h.c0,World.cell?_setCell_same' _ _ _ (by rw [h.c1];rfl),(ac x (by simp)).trans h.c2,(ac x (by simp)).trans h.c3,(ac x (by simp)).trans h.c4,(ac x (by simp)).trans h.c5,(ac x (by simp)).trans h.c6,(ac x (by simp)).trans h.c7,(ac x (by simp)).trans h.c8,(ac x (by simp)).trans h.c9,(ac x (by simp)).trans h.c10,(ac x (by simp)).trans h.c11,(ac x (by simp)).trans h.c12,fun o=>by rw [World.frozen?_setCell];exact h.fz o⟩
theorem aH.set2 (h:aH w b u0 u1 u2 u3 u4 u5 u6 u7 u8 u9 u10 u11 u12) (x:Value):aH (w.setCell ⟨b,2,none⟩ x) b u0 u1 x u3 u4 u5 u6 u7 u8 u9 u10 u11 u12 :=
 ⟨(ac x (by simp)).trans h.c0,(ac x (by simp)).trans h.c1,World.cell?_setCell_same' _ _ _ (by rw [h.c2];rfl),(ac x (by simp)).trans h.c3,(ac x (by simp)).trans h.c4,(ac x (by simp)).trans h.c5,(ac x (by simp)).trans h.c6,(ac x (by simp)).trans h.c7,(ac x (by simp)).trans h.c8,(ac x (by simp)).trans h.c9,(ac x (by simp)).trans h.c10,(ac x (by simp)).trans h.c11,(ac x (by simp)).trans h.c12,fun o=>by rw [World.frozen?_setCell];exact h.fz o⟩
theorem aH.set3 (h:aH w b u0 u1 u2 u3 u4 u5 u6 u7 u8 u9 u10 u11 u12) (x:Value):aH (w.setCell ⟨b,3,none⟩ x) b u0 u1 u2 x u4 u5 u6 u7 u8 u9 u10 u11 u12 :=
 ⟨(ac x (by simp)).trans h.c0,(ac x (by simp)).trans h.c1,(ac x (by simp)).trans h.c2,World.cell?_setCell_same' _ _ _ (by rw [h.c3];rfl),(ac x (by simp)).trans h.c4,(ac x (by simp)).trans h.c5,(ac x (by simp)).trans h.c6,(ac x (by simp)).trans h.c7,(ac x (by simp)).trans h.c8,(ac x (by simp)).trans h.c9,(ac x (by simp)).trans h.c10,(ac x (by simp)).trans h.c11,(ac x (by simp)).trans h.c12,fun o=>by rw [World.frozen?_setCell];exact h.fz o⟩
theorem aH.set4 (h:aH w b u0 u1 u2 u3 u4 u5 u6 u7 u8 u9 u10 u11 u12) (x:Value):aH (w.setCell ⟨b,4,none⟩ x) b u0 u1 u2 u3 x u5 u6 u7 u8 u9 u10 u11 u12 :=
 ⟨(ac x (by simp)).trans h.c0,(ac x (by simp)).trans h.c1,(ac x (by simp)).trans h.c2,(ac x (by simp)).trans h.c3,World.cell?_setCell_same' _ _ _ (by rw [h.c4];rfl),(ac x (by simp)).trans h.c5,(ac x (by simp)).trans h.c6,(ac x (by simp)).trans h.c7,(ac x (by simp)).trans h.c8,(ac x (by simp)).trans h.c9,(ac x (by simp)).trans h.c10,(ac x (by simp)).trans h.c11,(ac x (by simp)).trans h.c12,fun o=>by rw [World.frozen?_setCell];exact h.fz o⟩
theorem aH.set5 (h:aH w b u0 u1 u2 u3 u4 u5 u6 u7 u8 u9 u10 u11 u12) (x:Value):aH (w.setCell ⟨b,5,none⟩ x) b u0 u1 u2 u3 u4 x u6 u7 u8 u9 u10 u11 u12 :=
 ⟨(ac x (by simp)).trans h.c0,(ac x (by simp)).trans h.c1,(ac x (by simp)).trans h.c2,(ac x (by simp)).trans h.c3,(ac x (by simp)).trans h.c4,World.cell?_setCell_same' _ _ _ (by rw [h.c5];rfl),(ac x (by simp)).trans h.c6,(ac x (by simp)).trans h.c7,(ac x (by simp)).trans h.c8,(ac x (by simp)).trans h.c9,(ac x (by simp)).trans h.c10,(ac x (by simp)).trans h.c11,(ac x (by simp)).trans h.c12,fun o=>by rw [World.frozen?_setCell];exact h.fz o⟩
theorem aH.set6 (h:aH w b u0 u1 u2 u3 u4 u5 u6 u7 u8 u9 u10 u11 u12) (x:Value):aH (w.setCell ⟨b,6,none⟩ x) b u0 u1 u2 u3 u4 u5 x u7 u8 u9 u10 u11 u12 :=
 ⟨(ac x (by simp)).trans h.c0,(ac x (by simp)).trans h.c1,(ac x (by simp)).trans h.c2,(ac x (by simp)).trans h.c3,(ac x (by simp)).trans h.c4,(ac x (by simp)).trans h.c5,World.cell?_setCell_same' _ _ _ (by rw [h.c6];rfl),(ac x (by simp)).trans h.c7,(ac x (by simp)).trans h.c8,(ac x (by simp)).trans h.c9,(ac x (by simp)).trans h.c10,(ac x (by simp)).trans h.c11,(ac x (by simp)).trans h.c12,fun o=>by rw [World.frozen?_setCell];exact h.fz o⟩
theorem aH.set7 (h:aH w b u0 u1 u2 u3 u4 u5 u6 u7 u8 u9 u10 u11 u12) (x:Value):aH (w.setCell ⟨b,7,none⟩ x) b u0 u1 u2 u3 u4 u5 u6 x u8 u9 u10 u11 u12 :=
 ⟨(ac x (by simp)).trans h.c0,(ac x (by simp)).trans h.c1,(ac x (by simp)).trans h.c2,(ac x (by simp)).trans h.c3,(ac x (by simp)).trans h.c4,(ac x (by simp)).trans h.c5,(ac x (by simp)).trans h.c6,World.cell?_setCell_same' _ _ _ (by rw [h.c7];rfl),(ac x (by simp)).trans h.c8,(ac x (by simp)).trans h.c9,(ac x (by simp)).trans h.c10,(ac x (by simp)).trans h.c11,(ac x (by simp)).trans h.c12,fun o=>by rw [World.frozen?_setCell];exact h.fz o⟩
theorem aH.set8 (h:aH w b u0 u1 u2 u3 u4 u5 u6 u7 u8 u9 u10 u11 u12) (x:Value):aH (w.setCell ⟨b,8,none⟩ x) b u0 u1 u2 u3 u4 u5 u6 u7 x u9 u10 u11 u12 :=
 ⟨(ac x (by simp)).trans h.c0,(ac x (by simp)).trans h.c1,(ac x (by simp)).trans h.c2,(ac x (by simp)).trans h.c3,(ac x (by simp)).trans h.c4,(ac x (by simp)).trans h.c5,(ac x (by simp)).trans h.c6,(ac x (by simp)).trans h.c7,World.cell?_setCell_same' _ _ _ (by rw [h.c8];rfl),(ac x (by simp)).trans h.c9,(ac x (by simp)).trans h.c10,(ac x (by simp)).trans h.c11,(ac x (by simp)).trans h.c12,fun o=>by rw [World.frozen?_setCell];exact h.fz o⟩
theorem aH.set9 (h:aH w b u0 u1 u2 u3 u4 u5 u6 u7 u8 u9 u10 u11 u12) (x:Value):aH (w.setCell ⟨b,9,none⟩ x) b u0 u1 u2 u3 u4 u5 u6 u7 u8 x u10 u11 u12 :=
 ⟨(ac x (by simp)).trans h.c0,(ac x (by simp)).trans h.c1,(ac x (by simp)).trans h.c2,(ac x (by simp)).trans h.c3,(ac x (by simp)).trans h.c4,(ac x (by simp)).trans h.c5,(ac x (by simp)).trans h.c6,(ac x (by simp)).trans h.c7,(ac x (by simp)).trans h.c8,World.cell?_setCell_same' _ _ _ (by rw [h.c9];rfl),(ac x (by simp)).trans h.c10,(ac x (by simp)).trans h.c11,(ac x (by simp)).trans h.c12,fun o=>by rw [World.frozen?_setCell];exact h.fz o⟩
theorem aH.set10 (h:aH w b u0 u1 u2 u3 u4 u5 u6 u7 u8 u9 u10 u11 u12) (x:Value):aH (w.setCell ⟨b,10,none⟩ x) b u0 u1 u2 u3 u4 u5 u6 u7 u8 u9 x u11 u12 :=
 ⟨(ac x (by simp)).trans h.c0,(ac x (by simp)).trans h.c1,(ac x (by simp)).trans h.c2,(ac x (by simp)).trans h.c3,(ac x (by simp)).trans h.c4,(ac x (by simp)).trans h.c5,(ac x (by simp)).trans h.c6,(ac x (by simp)).trans h.c7,(ac x (by simp)).trans h.c8,(ac x (by simp)).trans h.c9,World.cell?_setCell_same' _ _ _ (by rw [h.c10];rfl),(ac x (by simp)).trans h.c11,(ac x (by simp)).trans h.c12,fun o=>by rw [World.frozen?_setCell];exact h.fz o⟩
theorem aH.set11 (h:aH w b u0 u1 u2 u3 u4 u5 u6 u7 u8 u9 u10 u11 u12) (x:Value):aH (w.setCell ⟨b,11,none⟩ x) b u0 u1 u2 u3 u4 u5 u6 u7 u8 u9 u10 x u12 :=
 ⟨(ac x (by simp)).trans h.c0,(ac x (by simp)).trans h.c1,(ac x (by simp)).trans h.c2,(ac x (by simp)).trans h.c3,(ac x (by simp)).trans h.c4,(ac x (by simp)).trans h.c5,(ac x (by simp)).trans h.c6,(ac x (by simp)).trans h.c7,(ac x (by simp)).trans h.c8,(ac x (by simp)).trans h.c9,(ac x (by simp)).trans h.c10,World.cell?_setCell_same' _ _ _ (by rw [h.c11];rfl),(ac x (by simp)).trans h.c12,fun o=>by rw [World.frozen?_setCell];exact h.fz o⟩
theorem aH.set12 (h:aH w b u0 u1 u2 u3 u4 u5 u6 u7 u8 u9 u10 u11 u12) (x:Value):aH (w.setCell ⟨b,12,none⟩ x) b u0 u1 u2 u3 u4 u5 u6 u7 u8 u9 u10 u11 x :=
 ⟨(ac x (by simp)).trans h.c0,(ac x (by simp)).trans h.c1,(ac x (by simp)).trans h.c2,(ac x (by simp)).trans h.c3,(ac x (by simp)).trans h.c4,(ac x (by simp)).trans h.c5,(ac x (by simp)).trans h.c6,(ac x (by simp)).trans h.c7,(ac x (by simp)).trans h.c8,(ac x (by simp)).trans h.c9,(ac x (by simp)).trans h.c10,(ac x (by simp)).trans h.c11,World.cell?_setCell_same' _ _ _ (by rw [h.c12];rfl),fun o=>by rw [World.frozen?_setCell];exact h.fz o⟩
theorem aH.sets (h:aH w b u0 u1 u2 u3 u4 u5 u6 u7 u8 u9 u10 u11 u12) (x0 x1 x2 x3 x4 x5 x6 x7 x8 x9 x10 x11 x12:Value):aH (((((((((((((w.setCell ⟨b,0,none⟩ x0).setCell ⟨b,1,none⟩ x1).setCell ⟨b,2,none⟩ x2).setCell ⟨b,3,none⟩ x3).setCell ⟨b,4,none⟩ x4).setCell ⟨b,5,none⟩ x5).setCell ⟨b,6,none⟩ x6).setCell ⟨b,7,none⟩ x7).setCell ⟨b,8,none⟩ x8).setCell ⟨b,9,none⟩ x9).setCell ⟨b,10,none⟩ x10).setCell ⟨b,11,none⟩ x11).setCell ⟨b,12,none⟩ x12) b x0 x1 x2 x3 x4 x5 x6 x7 x8 x9 x10 x11 x12:=(((((((((((((h.set0 x0).set1 x1).set2 x2).set3 x3).set4 x4).set5 x5).set6 x6).set7 x7).set8 x8).set9 x9).set10 x10).set11 x11).set12 x12)
theorem cn {B:Nat} {a:World} (h:Below B a w) (hB:B≤b) (x0 x1 x2 x3 x4 x5 x6 x7 x8 x9 x10 x11 x12:Value):Below B a (((((((((((((w.setCell ⟨b,0,none⟩ x0).setCell ⟨b,1,none⟩ x1).setCell ⟨b,2,none⟩ x2).setCell ⟨b,3,none⟩ x3).setCell ⟨b,4,none⟩ x4).setCell ⟨b,5,none⟩ x5).setCell ⟨b,6,none⟩ x6).setCell ⟨b,7,none⟩ x7).setCell ⟨b,8,none⟩ x8).setCell ⟨b,9,none⟩ x9).setCell ⟨b,10,none⟩ x10).setCell ⟨b,11,none⟩ x11).setCell ⟨b,12,none⟩ x12):=((((((((((mf h hB x0 x1 x2 x3).setCell (p:=⟨b,4,none⟩) hB x4).setCell (p:=⟨b,5,none⟩) hB x5).setCell (p:=⟨b,6,none⟩) hB x6).setCell (p:=⟨b,7,none⟩) hB x7).setCell (p:=⟨b,8,none⟩) hB x8).setCell (p:=⟨b,9,none⟩) hB x9).setCell (p:=⟨b,10,none⟩) hB x10).setCell (p:=⟨b,11,none⟩) hB x11).setCell (p:=⟨b,12,none⟩) hB x12)
theorem cE {b' o:Nat} (h:b'≠b) (x0 x1 x2 x3 x4 x5 x6 x7 x8 x9 x10 x11 x12:Value):(((((((((((((w.setCell ⟨b,0,none⟩ x0).setCell ⟨b,1,none⟩ x1).setCell ⟨b,2,none⟩ x2).setCell ⟨b,3,none⟩ x3).setCell ⟨b,4,none⟩ x4).setCell ⟨b,5,none⟩ x5).setCell ⟨b,6,none⟩ x6).setCell ⟨b,7,none⟩ x7).setCell ⟨b,8,none⟩ x8).setCell ⟨b,9,none⟩ x9).setCell ⟨b,10,none⟩ x10).setCell ⟨b,11,none⟩ x11).setCell ⟨b,12,none⟩ x12).cell? ⟨b',o,none⟩=w.cell? ⟨b',o,none⟩:=by
 iterate 13 rw [ac _ (fun e=>h e.1)]
theorem eH (w:World) (b:Nat) (x0 x1 x2 x3 x4 x5 x6 x7 x8 x9 x10 x11 x12:Value):(((((((((((((w.setCell ⟨b,0,none⟩ x0).setCell ⟨b,1,none⟩ x1).setCell ⟨b,2,none⟩ x2).setCell ⟨b,3,none⟩ x3).setCell ⟨b,4,none⟩ x4).setCell ⟨b,5,none⟩ x5).setCell ⟨b,6,none⟩ x6).setCell ⟨b,7,none⟩ x7).setCell ⟨b,8,none⟩ x8).setCell ⟨b,9,none⟩ x9).setCell ⟨b,10,none⟩ x10).setCell ⟨b,11,none⟩ x11).setCell ⟨b,12,none⟩ x12).heap.size=w.heap.size:=by simp [World.setCell]
theorem lW {a:Option Addr} {len cap:Nat} {L:List ae} (h:an w a len cap L) (hx:∀x,a=some x→0<len→x.block≠b) (x0 x1 x2 x3 x4 x5 x6 x7 x8 x9 x10 x11 x12:Value):an (((((((((((((w.setCell ⟨b,0,none⟩ x0).setCell ⟨b,1,none⟩ x1).setCell ⟨b,2,none⟩ x2).setCell ⟨b,3,none⟩ x3).setCell ⟨b,4,none⟩ x4).setCell ⟨b,5,none⟩ x5).setCell ⟨b,6,none⟩ x6).setCell ⟨b,7,none⟩ x7).setCell ⟨b,8,none⟩ x8).setCell ⟨b,9,none⟩ x9).setCell ⟨b,10,none⟩ x10).setCell ⟨b,11,none⟩ x11).setCell ⟨b,12,none⟩ x12) a len cap L:=(((((((((((((h.setCell ⟨b,0,none⟩ x0 hx).setCell ⟨b,1,none⟩ x1 hx).setCell ⟨b,2,none⟩ x2 hx).setCell ⟨b,3,none⟩ x3 hx).setCell ⟨b,4,none⟩ x4 hx).setCell ⟨b,5,none⟩ x5 hx).setCell ⟨b,6,none⟩ x6 hx).setCell ⟨b,7,none⟩ x7 hx).setCell ⟨b,8,none⟩ x8 hx).setCell ⟨b,9,none⟩ x9 hx).setCell ⟨b,10,none⟩ x10 hx).setCell ⟨b,11,none⟩ x11 hx).setCell ⟨b,12,none⟩ x12 hx)
end Go.Proofs.YtehiefdphnljaaaGreatDoor
