/- Walks. -/
import Derived.Test.YtehiefdphnljaaaGreatDoorSw49
import Derived.Test.YtehiefdphnljaaaGreatDoorSw45
namespace Go.Proofs.YtehiefdphnljaaaGreatDoor
set_option maxRecDepth 100000
set_option maxHeartbeats 40000000
open Go.RowKit
def BD (lo:Nat) (up:Bool) (q:Int) (a1 av ak dv:Option Addr) (nm c1 nv cv ns cs nd cd:Nat) (M:List ae) (V:List (List aq)) (S:List Int) (lg:ByteArray) (sf sd:Int) (U:List (List aq)) (K:List ae) (w:World) (e:Ending) (w':World):Prop :=
 (dl up q M K lg=true→∃bm mm cm,e=.returned (.tuple #[.agg #[.bool true,iT (q+K.length),.slice bm mm cm,.slice av nv cv,.slice ak ns cs,.string (lg++aW (cU q K)),iT sf,.slice dv nd cd,iT sd],.bool true])∧aX lo w' bm mm cm av nv cv ak ns cs ((cU q K).foldl dq M) V S∧au lo w' dv nd cd U∧Bl w w') ∧
 (dl up q M K lg=false→e=.returned (.tuple #[.agg #[.bool up,iT q,.slice a1 nm c1,.slice av nv cv,.slice ak ns cs,.string lg,iT sf,.slice dv nd cd,iT sd],.bool false])∧Bl w w')
theorem mM (lo:Nat) (up:Bool) (q:Int) (a1 av ak dv:Option Addr) (nm c1 nv cv ns cs nd cd:Nat) (M:List ae) (V:List (List aq)) (S:List Int) (lg:ByteArray) (sf sd:Int) (U:List (List aq)) (ab:Option Addr) (nb cb:Nat) (K:List ae) (w:World) (hT:aX lo w a1 nm c1 av nv cv ak ns cs M V S) (hU:au lo w dv nd cd U) (hlo:lo≤w.heap.size) (hO:dB w lo a1 nm c1 M) (hK:an w ab nb cb K) (hnb:nb≤1048576) (hnm:nm≤60) (hq0:0≤q) (hq1:q≤100000) (hlg:lg.size≤1048576) :
 Calls Tryz.prog 19 #[.agg #[.bool up,iT q,.slice a1 nm c1,.slice av nv cv,.slice ak ns cs,.string lg,iT sf,.slice dv nd cd,iT sd],.slice ab nb cb] w (BD lo up q a1 av ak dv nm c1 nv cv ns cs nd cd M V S lg sf sd U K w):=by
 obtain ⟨X,hX⟩:=aw w.heap.size;obtain ⟨W,hW⟩:=aw ((w.alloc (.cells #[.bool up,iT q,.slice a1 nm c1,.slice av nv cv,.slice ak ns cs,.string lg,iT sf,.slice dv nd cd,iT sd] 40)).alloc (.cells #[.bool false,iT 0,nZ,nZ,nZ,.string ⟨#[]⟩,iT 0,nZ,iT 0] 40));have kW:Bl w W:=by rw [hW];exact bZ.alloc (by simp) _
 have bx:aC W X (.bool up) (iT q) (.slice a1 nm c1) (.slice av nv cv) (.slice ak ns cs) (.string lg) (iT sf) (.slice dv nd cd) (iT sd):=by rw [hW,hX];exact (aC.new _ _ _ _ _ _ _ _ _ _ _).alloc _
 have br:aC W (X+1) (.bool false) (iT 0) nZ nZ nZ (.string ⟨#[]⟩) (iT 0) nZ (iT 0):=by
  have:=aC.new (w.alloc (.cells #[.bool up,iT q,.slice a1 nm c1,.slice av nv cv,.slice ak ns cs,.string lg,iT sf,.slice dv nd cd,iT sd] 40)) 40 (.bool false) (iT 0) nZ nZ nZ (.string ⟨#[]⟩) (iT 0) nZ (iT 0);rw [World.size_alloc] at this;rw [hW,hX];exact this
 have HXW:=ar hX;have HKW:=ar kW;have HBX:=ar bx;have HBR:=ar br;have HT:=ar hT;have HU:=ar hU;have HO:=ar hO;have HK:=ar hK;have CT:Hid (Calls Tryz.prog 40 #[.slice ab nb cb,iT q] W (iu q K nb W)):=oC ab nb cb K q W (hK.keep kW) hnb hq0 hq1;have CW:Hid (∀w',Bl w w'→Calls Tryz.prog 41 #[.agg #[iT q,.slice a1 nm c1,.slice av nv cv,.slice ak ns cs],.slice ab nb cb] w' (BB q a1 nm c1 av nv cv ak ns cs M K w')):=fun w' k=>sT lo q a1 nm c1 av nv cv ak ns cs M V S ab nb cb K w' (hT.keep k) (Nat.le_trans hlo k.size) (hO.below k) (hK.keep k) hnb hnm hq0 hq1
 have HKL:Hid (K.length=nb):=hK.length;have HLO:=ar hlo;clear hT hU hO hK hlo hnb hnm hq0 hq1 kW br;go_enter Tryz.func19,Tryz.ntmps19
 go_upto_region 1 with fail
 rw [← hX,← hW];clear hX hW;have x1:=bx.c1;have xz:=bx.lt;go_wp2_with fail
 refine CT.out.mono ?_;rintro e w1 hst;obtain ⟨hst,hb1⟩:=mI hst;have hex:∃a m c L,e=.returned (.tuple #[.slice a m c,.bool (decide (bX q K=true∧1≤nb∧nb≤12))])∧an w1 a m c L∧(bX q K=true∧1≤nb∧nb≤12→L=cU q K):=by
  rcases hst with ⟨h1,h2,h3,g,c,rfl,hD⟩ | ⟨h1,a,m,c,L,rfl,hL⟩
  · exact ⟨_,_,_,_,by rw [decide_eq_true ⟨h1,h2,h3⟩],hD.entsAt,fun _=>rfl⟩
  · have hn:¬(bX q K=true∧1≤nb∧nb≤12):=by
     rintro ⟨h2,h3,h4⟩;rcases h1 with h1 | h1 | h1
     · rw [h2] at h1;cases h1
     · omega
     · omega
    exact ⟨a,m,c,L,by rw [decide_eq_false hn],hL,fun h=>absurd h hn⟩
 obtain ⟨al,ml,cl,LL,rfl,hLL,hLE⟩:=hex;generalize decide (bX q K=true∧1≤nb∧nb≤12)=okS;have HLL:=ar hLL;have HLE:=ar hLE;have HB1L:Hid (X+1<w1.heap.size):=(HBR.out.keep hb1).lt;have HT0:=ar HT.out;have HU0:=ar HU.out;have KB1:=ar hb1;have K1:Hid (Bl w w1):=HKW.out.trans (hb1.mono HKW.out.size);have bx1:=bx.keep hb1;clear hst hb1 hLL hLE CT bx x1 xz;have x1:=bx1.all;go_wp2_with fail
 refine (CW.out w1 K1.out).mono ?_;rintro e w2 hwr;clear x1;have hex:∃Q bm mm cm,e=.returned (.tuple #[.agg #[iT Q,.slice bm mm cm,.slice av nv cv,.slice ak ns cs],.bool (bi q M K)])∧(bi q M K=true→Q=q+K.length∧cT w1.heap.size w2 bm mm cm ((cU q K).foldl dq M))∧Bl w1 w2:=by
  cases hwo:bi q M K with
  | true =>
   obtain ⟨am,n,c,he,h1,h2⟩:=hwr.1 hwo;exact ⟨_,am,n,c,he,fun _=>⟨rfl,h1⟩,h2⟩
  | false =>
   obtain ⟨he,h2⟩:=hwr.2 hwo;exact ⟨_,_,_,_,he,(fun h=>by cases h),h2⟩
 obtain ⟨Q,bm,mm,cm,rfl,hQ,hb2⟩:=hex;obtain ⟨O,hO⟩:=aw (bi q M K);have HO:=ar hO;rw [← hO] at hQ ⊢;clear hO;have HQ:=ar hQ;have K2:Hid (Bl w w2):=K1.out.trans (hb2.mono K1.out.size);have KB2:Hid (Bl W w2):=KB1.out.trans (hb2.mono KB1.out.size);have HL2:=ar (HLL.out.keep hb2);clear hwr hQ hb2 bx1 CW HLL;go_upto_region 3 with fail
 obtain ⟨Y,hY⟩:=aw w2.heap.size;obtain ⟨w3,hw3⟩:=aw (w2.alloc (.cells #[iT Q,.slice bm mm cm,.slice av nv cv,.slice ak ns cs] 36));have k3:Bl w2 w3:=by rw [hw3];exact bZ
 have HY3:Hid (bf w3 Y (iT Q) (.slice bm mm cm) (.slice av nv cv) (.slice ak ns cs)):=by rw [hw3,hY];exact bf.new _ _ _ _ _ _
 have KB3:Hid (Bl W w3):=KB2.out.trans (k3.mono KB2.out.size);have K23:=ar k3;have HYN:Hid (Y≠X∧Y≠X+1∧w2.heap.size≤Y):=by have h2:=(HBR.out.keep KB2.out).lt;show _∧_;omega
 rw [← hw3];try rw [← hY]
 clear hw3 hY;have HMK:Hid (∀w',Bl w3 w'→(w'.cell? ⟨X,5,none⟩=some (.string lg)∧X<w'.heap.size)):=fun w' k=>by
  have b:=(HBX.out.keep KB3.out).keep k;exact ⟨b.c5,b.lt⟩
 have k0:Bl w3 w3.drew:=(Below.refl _ w3).drew;have CF:Hid (Calls Tryz.prog 42 #[.slice al ml cl] w3.drew fun e w'=>e=.returned (.string (aW LL))∧Below w3.drew.heap.size w3.drew w'):=kX al ml cl LL w3.drew ((HL2.out.keep k3).keep k0);have hcat:¬9223372036854775807<lg.size+(aW LL).size:=by have:=lT LL;omega
 clear k3;refine dC HMK k0 fun aa=>?_
 refine aK 0 4 aa ?_;refine aP 4 fun K hK=>?_
 go_simp;refine CF.out.mono ?_;rintro e w4 ⟨rfl,hb4⟩;have k4:Bl w3 w4:=k0.trans (hb4.mono k0.size);go_wp2_with fail
 refine hK.out _ _ (HMK.out _ k4) (fun aa=>?_);clear hK K;(try go_frame);refine aK 5 2 aa ?_;refine dN ?_;have KB4:Hid (Bl W w4):=KB3.out.trans (k4.mono KB3.out.size);have K4:Hid (Bl w w4):=HKW.out.trans (KB4.out.mono HKW.out.size);have HY4:=ar (HY3.out.keep k4);have HX4:=ar (HBX.out.keep KB4.out);have HR4:=ar (HBR.out.keep KB4.out);have HQ4:Hid (O=true→Q=q+K.length∧cT w1.heap.size w4 bm mm cm ((cU q K).foldl dq M)):=fun h=>⟨(HQ.out h).1,(HQ.out h).2.same ((aM.of_below (K23.out.mono (Nat.le_refl _))).trans (aM.of_below k4))⟩
 have HU4:=ar (HU.out.keep K4.out);have HT4:=ar (HT.out.keep K4.out);have HZ1:=ar KB1.out.size;obtain ⟨G,hG⟩:=aw (lg++aW LL);have HG:=ar hG;try rw [← hG]
 clear hG HQ HMK aa k0 k4 hb4 CF HY3 HL2 KB2 KB3 K23 K1 K2 KB1 HBX HBR HT HU hcat;cases up with
 | false =>
  have g0:=HX4.out.all;have u0:=HR4.out.all;obtain ⟨wf,hwf⟩:=aw (((((((((w4.setCell ⟨X+1,0,none⟩ (.bool false)).setCell ⟨X+1,1,none⟩ (iT q)).setCell ⟨X+1,2,none⟩ (.slice a1 nm c1)).setCell ⟨X+1,3,none⟩ (.slice av nv cv)).setCell ⟨X+1,4,none⟩ (.slice ak ns cs)).setCell ⟨X+1,5,none⟩ (.string lg)).setCell ⟨X+1,6,none⟩ (iT sf)).setCell ⟨X+1,7,none⟩ (.slice dv nd cd)).setCell ⟨X+1,8,none⟩ (iT sd));have HRF:Hid (aC wf (X+1) (.bool false) (iT q) (.slice a1 nm c1) (.slice av nv cv) (.slice ak ns cs) (.string lg) (iT sf) (.slice dv nd cd) (iT sd)):=by rw [hwf];exact HR4.out.sets (.bool false) (iT q) (.slice a1 nm c1) (.slice av nv cv) (.slice ak ns cs) (.string lg) (iT sf) (.slice dv nd cd) (iT sd)
  have KF:Hid (Bl w wf):=by rw [hwf];exact cq K4.out (by have:=HXW.out;omega) (.bool false) (iT q) (.slice a1 nm c1) (.slice av nv cv) (.slice ak ns cs) (.string lg) (iT sf) (.slice dv nd cd) (iT sd)
  have SF:Hid (∀{lo},X+1<lo→aM lo w4 wf):=fun h=>by rw [hwf];exact dH w4 (X+1) (.bool false) (iT q) (.slice a1 nm c1) (.slice av nv cv) (.slice ak ns cs) (.string lg) (iT sf) (.slice dv nd cd) (iT sd) h
  have HWF:=ar hwf;clear hwf;go_wp2;rw [← HWF.out];refine bodyPost_ret (v:=.tuple #[.agg #[.bool false,iT q,.slice a1 nm c1,.slice av nv cv,.slice ak ns cs,.string lg,iT sf,.slice dv nd cd,iT sd],.bool false]) ?_ rfl (show BD lo false q a1 av ak dv nm c1 nv cv ns cs nd cd M V S lg sf sd U K w _ _ from ⟨fun h=>absurd h ?_,fun _=>⟨rfl,KF.out⟩⟩)
  · have e:=HRF.out;simp [results,Tryz.results19,go_sem,e.all]
  · rw [se];decide
 | true =>
  cases O with
  | false =>
   have g0:=HX4.out.all;have u0:=HR4.out.all;obtain ⟨wf,hwf⟩:=aw (((((((((w4.setCell ⟨X+1,0,none⟩ (.bool true)).setCell ⟨X+1,1,none⟩ (iT q)).setCell ⟨X+1,2,none⟩ (.slice a1 nm c1)).setCell ⟨X+1,3,none⟩ (.slice av nv cv)).setCell ⟨X+1,4,none⟩ (.slice ak ns cs)).setCell ⟨X+1,5,none⟩ (.string lg)).setCell ⟨X+1,6,none⟩ (iT sf)).setCell ⟨X+1,7,none⟩ (.slice dv nd cd)).setCell ⟨X+1,8,none⟩ (iT sd));have HRF:Hid (aC wf (X+1) (.bool true) (iT q) (.slice a1 nm c1) (.slice av nv cv) (.slice ak ns cs) (.string lg) (iT sf) (.slice dv nd cd) (iT sd)):=by rw [hwf];exact HR4.out.sets (.bool true) (iT q) (.slice a1 nm c1) (.slice av nv cv) (.slice ak ns cs) (.string lg) (iT sf) (.slice dv nd cd) (iT sd)
   have KF:Hid (Bl w wf):=by rw [hwf];exact cq K4.out (by have:=HXW.out;omega) (.bool true) (iT q) (.slice a1 nm c1) (.slice av nv cv) (.slice ak ns cs) (.string lg) (iT sf) (.slice dv nd cd) (iT sd)
   have SF:Hid (∀{lo},X+1<lo→aM lo w4 wf):=fun h=>by rw [hwf];exact dH w4 (X+1) (.bool true) (iT q) (.slice a1 nm c1) (.slice av nv cv) (.slice ak ns cs) (.string lg) (iT sf) (.slice dv nd cd) (iT sd) h
   have HWF:=ar hwf;clear hwf;go_wp2;rw [← HWF.out];refine bodyPost_ret (v:=.tuple #[.agg #[.bool true,iT q,.slice a1 nm c1,.slice av nv cv,.slice ak ns cs,.string lg,iT sf,.slice dv nd cd,iT sd],.bool false]) ?_ rfl (show BD lo true q a1 av ak dv nm c1 nv cv ns cs nd cd M V S lg sf sd U K w _ _ from ⟨fun h=>absurd h ?_,fun _=>⟨rfl,KF.out⟩⟩)
   · have e:=HRF.out;simp [results,Tryz.results19,go_sem,e.all]
   · rw [sa HO.out.symm];decide
  | true =>
   have hst:=lF HO.out.symm;obtain rfl:LL=cU q K:=HLE.out ⟨hst.1,by have:=HKL.out;omega,by have:=HKL.out;omega⟩;obtain ⟨rfl,hEN⟩:=HQ4.out rfl;have HEN:=ar hEN;by_cases h12:(lg++aW (cU q K)).size≤12000
   · have h12I:¬(G.size:Int) > 12000:=by rw [HG.out];omega
     have HYES:Hid (dl true q M K lg=true):=pr HO.out.symm h12;clear HQ4 hEN h12 hst;have g0:=HX4.out.all;have y0:=HY4.out.all;go_upto_region 8 with fail
     obtain ⟨w5,hw5⟩:=aw (((((w4.setCell ⟨X,1,none⟩ (iT (q+K.length))).setCell ⟨X,2,none⟩ (.slice bm mm cm)).setCell ⟨X,3,none⟩ (.slice av nv cv)).setCell ⟨X,4,none⟩ (.slice ak ns cs)).setCell ⟨X,5,none⟩ (.string G));have hne:X≠X+1:=by omega
     have hx:w.heap.size≤X:=by have:=HXW.out;omega
     have HX5:Hid (aC w5 X (.bool true) (iT (q+K.length)) (.slice bm mm cm) (.slice av nv cv) (.slice ak ns cs) (.string G) (iT sf) (.slice dv nd cd) (iT sd)):=by rw [hw5];exact ((((HX4.out.set1 _).set2 _).set3 _).set4 _).set5 _
     have HR5:Hid (aC w5 (X+1) (.bool false) (iT 0) nZ nZ nZ (.string ⟨#[]⟩) (iT 0) nZ (iT 0)):=by rw [hw5];exact ((((HR4.out.other hne _).other hne _).other hne _).other hne _).other hne _
     have K5:Hid (Bl w w5):=by rw [hw5];exact ((((K4.out.setCell (p:=⟨X,1,none⟩) hx _).setCell (p:=⟨X,2,none⟩) hx _).setCell (p:=⟨X,3,none⟩) hx _).setCell (p:=⟨X,4,none⟩) hx _).setCell (p:=⟨X,5,none⟩) hx _
     have HWZ:Hid (X+1<w1.heap.size):=HB1L.out;have S5:Hid (aM w1.heap.size w4 w5):=by
      have h:X<w1.heap.size:=by have:=HWZ.out;omega
      rw [hw5];exact ((((aM.of_set _ _ h).trans (aM.of_set _ _ h)).trans (aM.of_set _ _ h)).trans (aM.of_set _ _ h)).trans (aM.of_set _ _ h)
     rw [← hw5];clear hw5 hne hx g0 y0;have g0:=HX5.out.all;have u0:=HR5.out.all;obtain ⟨wf,hwf⟩:=aw (((((((((w5.setCell ⟨X+1,0,none⟩ (.bool true)).setCell ⟨X+1,1,none⟩ (iT (q+K.length))).setCell ⟨X+1,2,none⟩ (.slice bm mm cm)).setCell ⟨X+1,3,none⟩ (.slice av nv cv)).setCell ⟨X+1,4,none⟩ (.slice ak ns cs)).setCell ⟨X+1,5,none⟩ (.string G)).setCell ⟨X+1,6,none⟩ (iT sf)).setCell ⟨X+1,7,none⟩ (.slice dv nd cd)).setCell ⟨X+1,8,none⟩ (iT sd));have HRF:Hid (aC wf (X+1) (.bool true) (iT (q+K.length)) (.slice bm mm cm) (.slice av nv cv) (.slice ak ns cs) (.string G) (iT sf) (.slice dv nd cd) (iT sd)):=by rw [hwf];exact HR5.out.sets (.bool true) (iT (q+K.length)) (.slice bm mm cm) (.slice av nv cv) (.slice ak ns cs) (.string G) (iT sf) (.slice dv nd cd) (iT sd)
     have KF:Hid (Bl w wf):=by rw [hwf];exact cq K5.out (by have:=HXW.out;omega) (.bool true) (iT (q+K.length)) (.slice bm mm cm) (.slice av nv cv) (.slice ak ns cs) (.string G) (iT sf) (.slice dv nd cd) (iT sd)
     have SF:Hid (∀{lo},X+1<lo→aM lo w5 wf):=fun h=>by rw [hwf];exact dH w5 (X+1) (.bool true) (iT (q+K.length)) (.slice bm mm cm) (.slice av nv cv) (.slice ak ns cs) (.string G) (iT sf) (.slice dv nd cd) (iT sd) h
     have HWF:=ar hwf;clear hwf;go_wp2;rw [← HWF.out];refine bodyPost_ret (v:=.tuple #[.agg #[.bool true,iT (q+K.length),.slice bm mm cm,.slice av nv cv,.slice ak ns cs,.string G,iT sf,.slice dv nd cd,iT sd],.bool true]) ?_ rfl (show BD lo true q a1 av ak dv nm c1 nv cv ns cs nd cd M V S lg sf sd U K w _ _ from ⟨fun _=>⟨bm,mm,cm,by rw [HG.out],⟨?_,(HT0.out.keep KF.out).levels,(HT0.out.keep KF.out).snaps⟩,HU0.out.keep KF.out,KF.out⟩,fun h=>by rw [HYES.out] at h;cases h⟩)
     · have e:=HRF.out;simp [results,Tryz.results19,go_sem,e.all]
     · exact ((HEN.out.same S5.out).same (SF.out HWZ.out)).mono (Nat.le_trans HLO.out (Nat.le_of_lt (Nat.lt_of_le_of_lt (by have:=HXW.out;omega) HWZ.out)))
   · have h12I:(G.size:Int) > 12000:=by rw [HG.out];omega
     have HNO:Hid (dl true q M K lg=false):=sc h12;clear HQ4 hEN h12 hst;have g0:=HX4.out.all;have u0:=HR4.out.all;obtain ⟨wf,hwf⟩:=aw (((((((((w4.setCell ⟨X+1,0,none⟩ (.bool true)).setCell ⟨X+1,1,none⟩ (iT q)).setCell ⟨X+1,2,none⟩ (.slice a1 nm c1)).setCell ⟨X+1,3,none⟩ (.slice av nv cv)).setCell ⟨X+1,4,none⟩ (.slice ak ns cs)).setCell ⟨X+1,5,none⟩ (.string lg)).setCell ⟨X+1,6,none⟩ (iT sf)).setCell ⟨X+1,7,none⟩ (.slice dv nd cd)).setCell ⟨X+1,8,none⟩ (iT sd));have HRF:Hid (aC wf (X+1) (.bool true) (iT q) (.slice a1 nm c1) (.slice av nv cv) (.slice ak ns cs) (.string lg) (iT sf) (.slice dv nd cd) (iT sd)):=by rw [hwf];exact HR4.out.sets (.bool true) (iT q) (.slice a1 nm c1) (.slice av nv cv) (.slice ak ns cs) (.string lg) (iT sf) (.slice dv nd cd) (iT sd)
     have KF:Hid (Bl w wf):=by rw [hwf];exact cq K4.out (by have:=HXW.out;omega) (.bool true) (iT q) (.slice a1 nm c1) (.slice av nv cv) (.slice ak ns cs) (.string lg) (iT sf) (.slice dv nd cd) (iT sd)
     have SF:Hid (∀{lo},X+1<lo→aM lo w4 wf):=fun h=>by rw [hwf];exact dH w4 (X+1) (.bool true) (iT q) (.slice a1 nm c1) (.slice av nv cv) (.slice ak ns cs) (.string lg) (iT sf) (.slice dv nd cd) (iT sd) h
     have HWF:=ar hwf;clear hwf;go_wp2;rw [← HWF.out];refine bodyPost_ret (v:=.tuple #[.agg #[.bool true,iT q,.slice a1 nm c1,.slice av nv cv,.slice ak ns cs,.string lg,iT sf,.slice dv nd cd,iT sd],.bool false]) ?_ rfl (show BD lo true q a1 av ak dv nm c1 nv cv ns cs nd cd M V S lg sf sd U K w _ _ from ⟨fun h=>absurd h ?_,fun _=>⟨rfl,KF.out⟩⟩)
     · have e:=HRF.out;simp [results,Tryz.results19,go_sem,e.all]
     · rw [HNO.out];decide
def sy (up:Bool) (q:Int) (M:List ae) (V:List (List aq)) (S:List Int) (lg:ByteArray) (sf sd:Int) (U:List (List aq)) (b:Bool) (w:World) (e:Ending) (w':World):Prop :=
 ∃am nm cm av nv cv ak ns cs d nd cd,e=.returned (.tuple #[.agg #[.bool up,iT q,.slice am nm cm,.slice av nv cv,.slice ak ns cs,.string lg,iT sf,.slice d nd cd,iT sd],.bool b])∧bU 0 w' am nm cm av nv cv ak ns cs d nd cd M V S U∧Bl w w'
def BC (up:Bool) (q:Int) (M:List ae) (V:List (List aq)) (S:List Int) (lg:ByteArray) (sf sd:Int) (U:List (List aq)) (P:List (List ae)) (k:Nat) (K:List ae) (w:World) (e:Ending) (w':World):Prop:=Cj (lI up q M V S lg sf sd U P k) up (sy false 0 [] [] [] ⟨#[]⟩ 0 0 [] false w e w') (∃zq zM zl,Bz (dl true q M K lg) q M K lg zq zM zl∧sy true zq zM V S zl sf sd U (dl true q M K lg) w e w') (sy false 0 [] [] [] lg sf sd U false w e w')
theorem fK (ab:Option Addr) (nb cb:Nat) (K:List ae) (up:Bool) (q:Int) (b1 b3:Nat) (av dv:Option Addr) (nm cm nv cv ns cs nd cd:Nat) (M:List ae) (V:List (List aq)) (S:List Int) (lg:ByteArray) (sf sd:Int) (U:List (List aq)) (P:List (List ae)) (k:Nat) (w:World) (hT:aX 0 w (pT b1) nm cm av nv cv (pT b3) ns cs M V S) (hU:au 0 w dv nd cd U) (hlg:lg.size≤1048576) (hw:ce lg.data.toList P k) (hK:an w ab nb cb K) (hnb:nb≤1048576) :
 Calls Tryz.prog 6 #[.agg #[.bool up,iT q,sL b1 nm cm,.slice av nv cv,sL b3 ns cs,.string lg,iT sf,.slice dv nd cd,iT sd],.slice ab nb cb] w (BC up q M V S lg sf sd U P k K w):=by
 obtain ⟨X,hX⟩:=aw w.heap.size;obtain ⟨W,hW⟩:=aw ((w.alloc (.cells #[.bool up,iT q,sL b1 nm cm,.slice av nv cv,sL b3 ns cs,.string lg,iT sf,.slice dv nd cd,iT sd] 40)).alloc (.cells #[.bool false,iT 0,nZ,nZ,nZ,.string ⟨#[]⟩,iT 0,nZ,iT 0] 40));have kW:Bl w W:=by rw [hW];exact bZ.alloc (by simp) _
 have bx:aC W X (.bool up) (iT q) (sL b1 nm cm) (.slice av nv cv) (sL b3 ns cs) (.string lg) (iT sf) (.slice dv nd cd) (iT sd):=by rw [hW,hX];exact (aC.new _ _ _ _ _ _ _ _ _ _ _).alloc _
 have br:aC W (X+1) (.bool false) (iT 0) nZ nZ nZ (.string ⟨#[]⟩) (iT 0) nZ (iT 0):=by
  have:=aC.new (w.alloc (.cells #[.bool up,iT q,sL b1 nm cm,.slice av nv cv,sL b3 ns cs,.string lg,iT sf,.slice dv nd cd,iT sd] 40)) 40 (.bool false) (iT 0) nZ nZ nZ (.string ⟨#[]⟩) (iT 0) nZ (iT 0);rw [World.size_alloc] at this;rw [hW,hX];exact this
 have HXW:=ar hX;have HKW:=ar kW;have HBX:=ar bx;have HBR:=ar br;have HT:=ar (hT.keep kW);have HU:=ar (hU.keep kW);have HNM:Hid (M.length=nm∧V.length=nv∧S.length=ns∧U.length=nd):=⟨hT.mem.1.length,hT.levels.length,hT.snaps.length,hU.length⟩;have HSW:Hid (∀z ∈ S,(Lit.int .i64 z).wf=true):=hT.snaps.wfs;have HW:=ar hw;have HK:=ar hK;have CS:=qP up q (pT b1) av (pT b3) dv nm cm nv cv ns cs nd cd M V S lg sf sd U W HT.out HU.out hlg;have x0:=bx.all;clear kW bx br hT hU hw hK;go_enter Tryz.func6,Tryz.ntmps6
 go_upto_region 1 with fail
 rw [← hX,← hW];clear hX hW;go_wp2_with fail
 refine CS.mono ?_;rintro e w1 ⟨b,rfl,hb,hb1⟩;have hb:=hb P k HW.out;have HB:=ar hb;have KB1:=ar hb1;have K1:Hid (Bl w w1):=HKW.out.trans (hb1.mono HKW.out.size);have b1':=HBX.out.keep hb1;have r1:=HBR.out.keep hb1;have HX1:=ar b1';have HR1:=ar r1;have hx1:w.heap.size≤X+1:=by have:=HXW.out;omega
 have HX1L:=ar hx1;clear hb hb1 CS x0 hx1;cases b with
 | false =>
  have u0:=r1.all;obtain ⟨w3,hw3⟩:=aw (((((((((w1.setCell ⟨X+1,0,none⟩ (.bool false)).setCell ⟨X+1,1,none⟩ (iT 0)).setCell ⟨X+1,2,none⟩ nZ).setCell ⟨X+1,3,none⟩ nZ).setCell ⟨X+1,4,none⟩ nZ).setCell ⟨X+1,5,none⟩ (.string ⟨#[]⟩)).setCell ⟨X+1,6,none⟩ (iT 0)).setCell ⟨X+1,7,none⟩ nZ).setCell ⟨X+1,8,none⟩ (iT 0));have HR3:Hid (aC w3 (X+1) (.bool false) (iT 0) nZ nZ nZ (.string ⟨#[]⟩) (iT 0) nZ (iT 0)):=by rw [hw3];exact r1.sets (.bool false) (iT 0) nZ nZ nZ (.string ⟨#[]⟩) (iT 0) nZ (iT 0)
  have K3:Hid (Bl w w3):=by rw [hw3];exact cq K1.out HX1L.out (.bool false) (iT 0) nZ nZ nZ (.string ⟨#[]⟩) (iT 0) nZ (iT 0)
  have HW3:=ar hw3;clear hw3 b1' r1;go_wp2;rw [← HW3.out];refine bodyPost_ret (v:=.tuple #[.agg #[.bool false,iT 0,nZ,nZ,nZ,.string ⟨#[]⟩,iT 0,nZ,iT 0],.bool false]) ?_ rfl ?_
  · have e:=HR3.out;simp [results,Tryz.results6,go_sem,e.all]
  · have h:=HB.out.symm;have d:sy false 0 [] [] [] ⟨#[]⟩ 0 0 [] false w (.returned (.tuple #[.agg #[.bool false,iT 0,nZ,nZ,nZ,.string ⟨#[]⟩,iT 0,nZ,iT 0],.bool false])) w3:=⟨none,0,0,none,0,0,none,0,0,none,0,0,rfl,⟨gm 0 w3,(gm 0 w3).levels⟩,K3.out⟩;refine ⟨?_,?_,?_⟩
    · exact fun _=>d
    · exact fun h'=>by rw [h] at h';exact Bool.noConfusion h'
    · exact fun h'=>by rw [h] at h';exact Bool.noConfusion h'
 | true =>
  have hD:=uq HB.out.symm;have HD:=ar hD;have hUS:=jM hD.1;have HUS:=ar hUS;have hnd:nd≤100:=by have:=HNM.out.2.2.2;omega
  have HZ1:Hid (X+1<w1.heap.size):=HR1.out.lt;cases up with
  | true =>
   have hV0:=xY HB.out.symm;have hVS:=(jM hV0.1).2;have hnm:nm≤1048576:=by have:=(bH hV0.1).2.2.1;have:=HNM.out.1;omega
   have hns:ns≤1048576:=by have:=yB hV0.1;have:=HNM.out.2.2.1;omega
   have hnv:nv≤100:=by have:=(jM hV0.1).1;have:=HNM.out.2.1;omega
   have CC:=jd 0 true q b1 b3 av dv nm cm nv cv ns cs nd cd M V S lg sf sd U w1 (HT.out.keep KB1.out) (HU.out.keep KB1.out) hnm hns hnv hVS hnd HUS.out.2;have x9:=HX1.out;have y0:=x9.all;clear x9 b1' r1;go_wp2_with fail
   refine CC.mono ?_;rintro e w2 ⟨hcu,_⟩;obtain ⟨g1,c1,G,c,g3,c3,H,cH,rfl,hT2,hU2,hb2,hO2⟩:=hcu rfl;have K2:Hid (Bl w w2):=K1.out.trans (hb2.mono K1.out.size);have KB2:Hid (Bl W w2):=KB1.out.trans (hb2.mono KB1.out.size);have HX2:=ar (HX1.out.keep hb2);have HR2:=ar (HR1.out.keep hb2);clear y0;obtain ⟨hq0,hq1,hm60,_⟩:=bH hV0.1;have CW:=mM w1.heap.size true q (pT g1) (pT G) (pT g3) (pT H) nm c1 nv c ns c3 nd cH M V S lg sf sd U ab nb cb K w2 hT2 hU2 hb2.size (.some hO2) (HK.out.keep K2.out) hnb (by have:=HNM.out.1;omega) hq0 hq1 hlg;have CC2:Hid (∀w',Bl w1 w'→Calls Tryz.prog 20 #[.agg #[.bool true,iT q,sL b1 nm cm,.slice av nv cv,sL b3 ns cs,.string lg,iT sf,.slice dv nd cd,iT sd]] w' (BY true q nm nv ns M V S lg sf sd nd U w')):=fun w' kk=>jd 0 true q b1 b3 av dv nm cm nv cv ns cs nd cd M V S lg sf sd U w' ((HT.out.keep KB1.out).keep kk) ((HU.out.keep KB1.out).keep kk) hnm hns hnv hVS hnd HUS.out.2
   have HKB2:=ar hb2;clear hcu hU2 hb2 CC hT2 hO2 hV0 hVS hnm hns hnv hq0 hq1 hm60;go_wp2_with fail
   refine CW.mono ?_;rintro e w3 hwr;clear CW;cases hd:dl true q M K lg with
   | true =>
    obtain ⟨bm,mm,cm',rfl,hT3,hU3,hb3⟩:=hwr.1 hd;have K3:Hid (Bl w w3):=K2.out.trans (hb3.mono K2.out.size);have HX3:=ar (HX2.out.keep hb3);have HR3:=ar (HR2.out.keep hb3);have HKB3:Hid (Bl w1 w3):=HKB2.out.trans (hb3.mono HKB2.out.size);go_upto_region 4 with fail
    obtain ⟨Y,hY⟩:=aw w3.heap.size;obtain ⟨w4,hw4⟩:=aw (w3.alloc (.cells #[.bool true,iT (q+K.length),.slice bm mm cm',sL G nv c,sL g3 ns c3,.string (lg++aW (cU q K)),iT sf,sL H nd cH,iT sd] 40));have k4:Bl w3 w4:=by rw [hw4];exact bZ
    have HY4:Hid (aC w4 Y (.bool true) (iT (q+K.length)) (.slice bm mm cm') (sL G nv c) (sL g3 ns c3) (.string (lg++aW (cU q K))) (iT sf) (sL H nd cH) (iT sd)):=by rw [hw4,hY];exact aC.new _ _ _ _ _ _ _ _ _ _ _
    have K4:Hid (Bl w w4):=K3.out.trans (k4.mono K3.out.size);have HX4:=ar (HX3.out.keep k4);have HR4:=ar (HR3.out.keep k4);have HKB4:Hid (Bl w1 w4):=HKB3.out.trans (k4.mono HKB3.out.size);have HT4:=ar (hT3.keep k4);have HU4:=ar (hU3.keep k4);rw [← hw4];try rw [← hY]
    clear hw4 hY k4 hb3 hT3 hU3 hwr K3 HX3 HR3 HKB3;have y0:=HY4.out.all;have u0:=HR4.out.all;obtain ⟨wf,hwf⟩:=aw (((((((((w4.setCell ⟨X+1,0,none⟩ (.bool true)).setCell ⟨X+1,1,none⟩ (iT (q+K.length))).setCell ⟨X+1,2,none⟩ (.slice bm mm cm')).setCell ⟨X+1,3,none⟩ (sL G nv c)).setCell ⟨X+1,4,none⟩ (sL g3 ns c3)).setCell ⟨X+1,5,none⟩ (.string (lg++aW (cU q K)))).setCell ⟨X+1,6,none⟩ (iT sf)).setCell ⟨X+1,7,none⟩ (sL H nd cH)).setCell ⟨X+1,8,none⟩ (iT sd));have HRF:Hid (aC wf (X+1) (.bool true) (iT (q+K.length)) (.slice bm mm cm') (sL G nv c) (sL g3 ns c3) (.string (lg++aW (cU q K))) (iT sf) (sL H nd cH) (iT sd)):=by rw [hwf];exact HR4.out.sets (.bool true) (iT (q+K.length)) (.slice bm mm cm') (sL G nv c) (sL g3 ns c3) (.string (lg++aW (cU q K))) (iT sf) (sL H nd cH) (iT sd)
    have KF:Hid (Bl w wf):=by rw [hwf];exact cq K4.out HX1L.out (.bool true) (iT (q+K.length)) (.slice bm mm cm') (sL G nv c) (sL g3 ns c3) (.string (lg++aW (cU q K))) (iT sf) (sL H nd cH) (iT sd)
    have SF:Hid (∀{lo},X+1<lo→aM lo w4 wf):=fun h=>by rw [hwf];exact dH w4 (X+1) (.bool true) (iT (q+K.length)) (.slice bm mm cm') (sL G nv c) (sL g3 ns c3) (.string (lg++aW (cU q K))) (iT sf) (sL H nd cH) (iT sd) h
    have HWF:=ar hwf;clear hwf;go_wp2;rw [← HWF.out];refine bodyPost_ret (v:=.tuple #[.agg #[.bool true,iT (q+K.length),.slice bm mm cm',sL G nv c,sL g3 ns c3,.string (lg++aW (cU q K)),iT sf,sL H nd cH,iT sd],.bool true]) ?_ rfl ?_
    · have e:=HRF.out;simp [results,Tryz.results6,go_sem,e.all]
    · have hz:=HZ1.out;have t:=ot HT4.out (SF.out hz);have u:=au.mono (HU4.out.same (SF.out hz)) (Nat.zero_le _);have h:=HB.out.symm;have d:sy true (q+K.length) ((cU q K).foldl dq M) V S (lg++aW (cU q K)) sf sd U true w (.returned (.tuple #[.agg #[.bool true,iT (q+K.length),.slice bm mm cm',sL G nv c,sL g3 ns c3,.string (lg++aW (cU q K)),iT sf,sL H nd cH,iT sd],.bool true])) wf:=⟨bm,mm,cm',(pT G),nv,c,(pT g3),ns,c3,(pT H),nd,cH,rfl,⟨t,u⟩,KF.out⟩;refine ⟨?_,?_,?_⟩
      · exact fun h'=>by rw [h] at h';exact Bool.noConfusion h'
      · exact fun _ _=>by rw [hd];exact ⟨_,_,_,⟨fun _=>⟨rfl,rfl,rfl⟩,fun h'=>Bool.noConfusion h'⟩,d⟩
      · exact fun _ h'=>Bool.noConfusion h'
   | false =>
    obtain ⟨rfl,hb3⟩:=hwr.2 hd;have K3:Hid (Bl w w3):=K2.out.trans (hb3.mono K2.out.size);have HX3:=ar (HX2.out.keep hb3);have HR3:=ar (HR2.out.keep hb3);have HKB3:Hid (Bl w1 w3):=HKB2.out.trans (hb3.mono HKB2.out.size);go_upto_region 4 with fail
    obtain ⟨Y,hY⟩:=aw w3.heap.size;obtain ⟨w4,hw4⟩:=aw (w3.alloc (.cells #[.bool true,iT q,sL g1 nm c1,sL G nv c,sL g3 ns c3,.string lg,iT sf,sL H nd cH,iT sd] 40));have k4:Bl w3 w4:=by rw [hw4];exact bZ
    have HY4:Hid (aC w4 Y (.bool true) (iT q) (sL g1 nm c1) (sL G nv c) (sL g3 ns c3) (.string lg) (iT sf) (sL H nd cH) (iT sd)):=by rw [hw4,hY];exact aC.new _ _ _ _ _ _ _ _ _ _ _
    have K4:Hid (Bl w w4):=K3.out.trans (k4.mono K3.out.size);have HX4:=ar (HX3.out.keep k4);have HR4:=ar (HR3.out.keep k4);have HKB4:Hid (Bl w1 w4):=HKB3.out.trans (k4.mono HKB3.out.size);rw [← hw4];try rw [← hY]
    clear hw4 hY k4 hb3 hwr K3 HX3 HR3 HKB3;have x0:=HX4.out.all;have CD:=CC2.out w4 HKB4.out;go_wp2_with fail
    refine CD.mono ?_;rintro e w5 ⟨hcv,_⟩;obtain ⟨h1,d1,I,d2,h3,d3,J,d4,rfl,hT5,hU5,hb5,_⟩:=hcv rfl;have K5:Hid (Bl w w5):=K4.out.trans (hb5.mono K4.out.size);have HR5:=ar (HR4.out.keep hb5);have HZ4:Hid (X+1<w4.heap.size):=HR4.out.lt;have HT5:=ar hT5;have HU5:=ar hU5;clear hT5 hU5 hcv;clear hb5 CD x0;have u0:=HR5.out.all;obtain ⟨wf,hwf⟩:=aw (((((((((w5.setCell ⟨X+1,0,none⟩ (.bool true)).setCell ⟨X+1,1,none⟩ (iT q)).setCell ⟨X+1,2,none⟩ (sL h1 nm d1)).setCell ⟨X+1,3,none⟩ (sL I nv d2)).setCell ⟨X+1,4,none⟩ (sL h3 ns d3)).setCell ⟨X+1,5,none⟩ (.string lg)).setCell ⟨X+1,6,none⟩ (iT sf)).setCell ⟨X+1,7,none⟩ (sL J nd d4)).setCell ⟨X+1,8,none⟩ (iT sd));have HRF:Hid (aC wf (X+1) (.bool true) (iT q) (sL h1 nm d1) (sL I nv d2) (sL h3 ns d3) (.string lg) (iT sf) (sL J nd d4) (iT sd)):=by rw [hwf];exact HR5.out.sets (.bool true) (iT q) (sL h1 nm d1) (sL I nv d2) (sL h3 ns d3) (.string lg) (iT sf) (sL J nd d4) (iT sd)
    have KF:Hid (Bl w wf):=by rw [hwf];exact cq K5.out HX1L.out (.bool true) (iT q) (sL h1 nm d1) (sL I nv d2) (sL h3 ns d3) (.string lg) (iT sf) (sL J nd d4) (iT sd)
    have SF:Hid (∀{lo},X+1<lo→aM lo w5 wf):=fun h=>by rw [hwf];exact dH w5 (X+1) (.bool true) (iT q) (sL h1 nm d1) (sL I nv d2) (sL h3 ns d3) (.string lg) (iT sf) (sL J nd d4) (iT sd) h
    have HWF:=ar hwf;clear hwf;go_wp2;rw [← HWF.out];refine bodyPost_ret (v:=.tuple #[.agg #[.bool true,iT q,sL h1 nm d1,sL I nv d2,sL h3 ns d3,.string lg,iT sf,sL J nd d4,iT sd],.bool false]) ?_ rfl ?_
    · have e:=HRF.out;simp [results,Tryz.results6,go_sem,e.all]
    · have hz:=HZ1.out;have t:=ot HT5.out (SF.out HZ4.out);have u:=au.mono (HU5.out.same (SF.out HZ4.out)) (Nat.zero_le _);have h:=HB.out.symm;have d:sy true q M V S lg sf sd U false w (.returned (.tuple #[.agg #[.bool true,iT q,sL h1 nm d1,sL I nv d2,sL h3 ns d3,.string lg,iT sf,sL J nd d4,iT sd],.bool false])) wf:=⟨(pT h1),nm,d1,(pT I),nv,d2,(pT h3),ns,d3,(pT J),nd,d4,rfl,⟨t,u⟩,KF.out⟩;refine ⟨?_,?_,?_⟩
      · exact fun h'=>by rw [h] at h';exact Bool.noConfusion h'
      · exact fun _ _=>by rw [hd];exact ⟨_,_,_,⟨fun h'=>Bool.noConfusion h',fun _=>⟨rfl,rfl,rfl⟩⟩,d⟩
      · exact fun _ h'=>Bool.noConfusion h'
  | false =>
   obtain ⟨⟨d1,d2,d3,d4⟩,d5⟩:=Aq HB.out.symm;have hVS:∀B ∈ V,B.length≤100∧∀r ∈ B,1≤r.1.length∧r.1.length≤10000:=by rw [d3];intro B hB;cases hB
   have hnm:nm≤1048576:=by have:=HNM.out.1;rw [d2] at this;simp only [List.length_nil] at this;omega
   have hns:ns≤1048576:=by have:=HNM.out.2.2.1;rw [d4] at this;simp only [List.length_nil] at this;omega
   have hnv:nv≤100:=by have:=HNM.out.2.1;rw [d3] at this;simp only [List.length_nil] at this;omega
   clear d1 d2 d3 d4 d5;have CC:=jd 0 false q b1 b3 av dv nm cm nv cv ns cs nd cd M V S lg sf sd U w1 (HT.out.keep KB1.out) (HU.out.keep KB1.out) hnm hns hnv hVS hnd HUS.out.2;have x9:=HX1.out;have y0:=x9.all;clear x9 b1' r1;go_wp2_with fail
   refine CC.mono ?_;rintro e w2 ⟨_,hcu⟩;obtain ⟨H,cH,rfl,hU2,hb2⟩:=hcu rfl;have K2:Hid (Bl w w2):=K1.out.trans (hb2.mono K1.out.size);have HX2:=ar (HX1.out.keep hb2);have HR2:=ar (HR1.out.keep hb2);clear y0;have CW:=mM 0 false 0 none none none (pT H) 0 0 0 0 0 0 nd cH [] [] [] lg sf sd U ab nb cb K w2 (gm 0 w2) (hU2.mono (Nat.zero_le _)) (Nat.zero_le _) (dB.none _ _) (HK.out.keep K2.out) hnb (by omega) (by omega) (by omega) hlg;have CC2:Hid (∀w',Bl w1 w'→Calls Tryz.prog 20 #[.agg #[.bool false,iT q,sL b1 nm cm,.slice av nv cv,sL b3 ns cs,.string lg,iT sf,.slice dv nd cd,iT sd]] w' (BY false q nm nv ns M V S lg sf sd nd U w')):=fun w' kk=>jd 0 false q b1 b3 av dv nm cm nv cv ns cs nd cd M V S lg sf sd U w' ((HT.out.keep KB1.out).keep kk) ((HU.out.keep KB1.out).keep kk) hnm hns hnv hVS hnd HUS.out.2
   have HKB2:=ar hb2;clear hcu hU2 hb2 CC hVS hnm hns hnv;go_wp2_with fail
   refine CW.mono ?_;rintro e w3 hwr;clear CW;obtain ⟨rfl,hb3⟩:=hwr.2 se;have K3:Hid (Bl w w3):=K2.out.trans (hb3.mono K2.out.size);have HX3:=ar (HX2.out.keep hb3);have HR3:=ar (HR2.out.keep hb3);have HKB3:Hid (Bl w1 w3):=HKB2.out.trans (hb3.mono HKB2.out.size);go_upto_region 4 with fail
   obtain ⟨Y,hY⟩:=aw w3.heap.size;obtain ⟨w4,hw4⟩:=aw (w3.alloc (.cells #[.bool false,iT 0,nZ,nZ,nZ,.string lg,iT sf,sL H nd cH,iT sd] 40));have k4:Bl w3 w4:=by rw [hw4];exact bZ
   have HY4:Hid (aC w4 Y (.bool false) (iT 0) nZ nZ nZ (.string lg) (iT sf) (sL H nd cH) (iT sd)):=by rw [hw4,hY];exact aC.new _ _ _ _ _ _ _ _ _ _ _
   have K4:Hid (Bl w w4):=K3.out.trans (k4.mono K3.out.size);have HX4:=ar (HX3.out.keep k4);have HR4:=ar (HR3.out.keep k4);have HKB4:Hid (Bl w1 w4):=HKB3.out.trans (k4.mono HKB3.out.size);rw [← hw4];try rw [← hY]
   clear hw4 hY k4 hb3 hwr K3 HX3 HR3 HKB3;have x0:=HX4.out.all;have CD:=CC2.out w4 HKB4.out;go_wp2_with fail
   refine CD.mono ?_;rintro e w5 ⟨_,hcv⟩;obtain ⟨J,d4,rfl,hU5,hb5⟩:=hcv rfl;have K5:Hid (Bl w w5):=K4.out.trans (hb5.mono K4.out.size);have HR5:=ar (HR4.out.keep hb5);have HZ4:Hid (X+1<w4.heap.size):=HR4.out.lt;have HU5:=ar hU5;clear hU5 hcv;clear hb5 CD x0;have u0:=HR5.out.all;obtain ⟨wf,hwf⟩:=aw (((((((((w5.setCell ⟨X+1,0,none⟩ (.bool false)).setCell ⟨X+1,1,none⟩ (iT 0)).setCell ⟨X+1,2,none⟩ nZ).setCell ⟨X+1,3,none⟩ nZ).setCell ⟨X+1,4,none⟩ nZ).setCell ⟨X+1,5,none⟩ (.string lg)).setCell ⟨X+1,6,none⟩ (iT sf)).setCell ⟨X+1,7,none⟩ (sL J nd d4)).setCell ⟨X+1,8,none⟩ (iT sd));have HRF:Hid (aC wf (X+1) (.bool false) (iT 0) nZ nZ nZ (.string lg) (iT sf) (sL J nd d4) (iT sd)):=by rw [hwf];exact HR5.out.sets (.bool false) (iT 0) nZ nZ nZ (.string lg) (iT sf) (sL J nd d4) (iT sd)
   have KF:Hid (Bl w wf):=by rw [hwf];exact cq K5.out HX1L.out (.bool false) (iT 0) nZ nZ nZ (.string lg) (iT sf) (sL J nd d4) (iT sd)
   have SF:Hid (∀{lo},X+1<lo→aM lo w5 wf):=fun h=>by rw [hwf];exact dH w5 (X+1) (.bool false) (iT 0) nZ nZ nZ (.string lg) (iT sf) (sL J nd d4) (iT sd) h
   have HWF:=ar hwf;clear hwf;go_wp2;rw [← HWF.out];refine bodyPost_ret (v:=.tuple #[.agg #[.bool false,iT 0,nZ,nZ,nZ,.string lg,iT sf,sL J nd d4,iT sd],.bool false]) ?_ rfl ?_
   · have e:=HRF.out;simp [results,Tryz.results6,go_sem,e.all]
   · have hz:=HZ1.out;have t:=gm 0 wf;have u:=au.mono (HU5.out.same (SF.out HZ4.out)) (Nat.zero_le _);have h:=HB.out.symm;have d:sy false 0 [] [] [] lg sf sd U false w (.returned (.tuple #[.agg #[.bool false,iT 0,nZ,nZ,nZ,.string lg,iT sf,sL J nd d4,iT sd],.bool false])) wf:=⟨none,0,0,none,0,0,none,0,0,(pT J),nd,d4,rfl,⟨t,u⟩,KF.out⟩;refine ⟨?_,?_,?_⟩
     · exact fun h'=>by rw [h] at h';exact Bool.noConfusion h'
     · exact fun _ h'=>Bool.noConfusion h'
     · exact fun _ _=>d
end Go.Proofs.YtehiefdphnljaaaGreatDoor
