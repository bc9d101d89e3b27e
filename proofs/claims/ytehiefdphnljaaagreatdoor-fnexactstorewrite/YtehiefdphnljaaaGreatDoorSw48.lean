/- Walks. -/
import Derived.Test.YtehiefdphnljaaaGreatDoorSw47
namespace Go.Proofs.YtehiefdphnljaaaGreatDoor
set_option maxRecDepth 100000
set_option maxHeartbeats 40000000
open Go.RowKit
def BV (q:Int) (nm nv ns:Nat) (M:List ae) (V:List (List aq)) (S:List Int) (lg:ByteArray) (sf sd:Int) (nd:Nat) (U:List (List aq)) (w:World) (e:Ending) (w':World):Prop :=
 ∃g1 c1 G c g3 c3 H cH,e=.returned (.agg #[.bool true,iT q,sL g1 nm c1,sL G nv c,sL g3 ns c3,.string lg,iT sf,sL H nd cH,iT sd])∧aX w.heap.size w' (pT g1) nm c1 (pT G) nv c (pT g3) ns c3 M V S∧au w.heap.size w' (pT H) nd cH U∧Bl w w'∧aE w' w.heap.size g1 nm c1 M
def BW (lg:ByteArray) (sf sd:Int) (nd:Nat) (U:List (List aq)) (w:World) (e:Ending) (w':World):Prop :=
 ∃H cH,e=.returned (.agg #[.bool false,iT 0,nZ,nZ,nZ,.string lg,iT sf,sL H nd cH,iT sd])∧au w.heap.size w' (pT H) nd cH U∧Bl w w'
def BY (up:Bool) (q:Int) (nm nv ns:Nat) (M:List ae) (V:List (List aq)) (S:List Int) (lg:ByteArray) (sf sd:Int) (nd:Nat) (U:List (List aq)) (w:World) (e:Ending) (w':World):Prop :=
 (up=true→BV q nm nv ns M V S lg sf sd nd U w e w')∧(up=false→BW lg sf sd nd U w e w')
theorem jd (lo:Nat) (up:Bool) (q:Int) (b1 b3:Nat) (av dv:Option Addr) (nm cm nv cv ns cs nd cd:Nat) (M:List ae) (V:List (List aq)) (S:List Int) (lg:ByteArray) (sf sd:Int) (U:List (List aq)) (w:World) (hT:aX lo w (pT b1) nm cm av nv cv (pT b3) ns cs M V S) (hU:au lo w dv nd cd U) (hnm:nm≤1048576) (hns:ns≤1048576) (hnv:nv≤100) (hV:∀B ∈ V,B.length≤100∧∀r ∈ B,1≤r.1.length∧r.1.length≤10000) (hnd:nd≤100) (hS:∀B ∈ U,B.length≤100∧∀r ∈ B,1≤r.1.length∧r.1.length≤10000) :
 Calls Tryz.prog 20 #[.agg #[.bool up,iT q,sL b1 nm cm,.slice av nv cv,sL b3 ns cs,.string lg,iT sf,.slice dv nd cd,iT sd]] w (BY up q nm nv ns M V S lg sf sd nd U w):=by
 obtain ⟨X,hX⟩:=aw w.heap.size;obtain ⟨W,hW⟩:=aw (((w.alloc (.cells #[.bool up,iT q,sL b1 nm cm,.slice av nv cv,sL b3 ns cs,.string lg,iT sf,.slice dv nd cd,iT sd] 40)).alloc (.cells #[.bool false,iT 0,nZ,nZ,nZ,.string ⟨#[]⟩,iT 0,nZ,iT 0] 40)).alloc (.cells #[.bool up,iT q,sL b1 nm cm,.slice av nv cv,sL b3 ns cs,.string lg,iT sf,.slice dv nd cd,iT sd] 40));have kW:Bl w W:=by rw [hW];exact (bZ.alloc (by simp) _).alloc (by simp;omega) _
 have bx:aC W X (.bool up) (iT q) (sL b1 nm cm) (.slice av nv cv) (sL b3 ns cs) (.string lg) (iT sf) (.slice dv nd cd) (iT sd):=by rw [hW,hX];exact ((aC.new _ _ _ _ _ _ _ _ _ _ _).alloc _).alloc _
 have br:aC W (X+1) (.bool false) (iT 0) nZ nZ nZ (.string ⟨#[]⟩) (iT 0) nZ (iT 0):=by
  have:=(aC.new (w.alloc (.cells #[.bool up,iT q,sL b1 nm cm,.slice av nv cv,sL b3 ns cs,.string lg,iT sf,.slice dv nd cd,iT sd] 40)) 40 (.bool false) (iT 0) nZ nZ nZ (.string ⟨#[]⟩) (iT 0) nZ (iT 0)).alloc (.cells #[.bool up,iT q,sL b1 nm cm,.slice av nv cv,sL b3 ns cs,.string lg,iT sf,.slice dv nd cd,iT sd] 40);rw [World.size_alloc] at this;rw [hW,hX];exact this
 have bo:aC W (X+1+1) (.bool up) (iT q) (sL b1 nm cm) (.slice av nv cv) (sL b3 ns cs) (.string lg) (iT sf) (.slice dv nd cd) (iT sd):=by
  have:=aC.new ((w.alloc (.cells #[.bool up,iT q,sL b1 nm cm,.slice av nv cv,sL b3 ns cs,.string lg,iT sf,.slice dv nd cd,iT sd] 40)).alloc (.cells #[.bool false,iT 0,nZ,nZ,nZ,.string ⟨#[]⟩,iT 0,nZ,iT 0] 40)) 40 (.bool up) (iT q) (sL b1 nm cm) (.slice av nv cv) (sL b3 ns cs) (.string lg) (iT sf) (.slice dv nd cd) (iT sd);rw [World.size_alloc,World.size_alloc] at this;rw [hW,hX];exact this
 have hsz:W.heap.size=X+1+1+1:=by rw [hW,hX];simp
 have HXW:=ar hX;have HSZ:=ar hsz;have HKW:=ar kW;have HBX:=ar bx;have HBR:=ar br;have HBO:=ar bo;have HU:=ar hU;have CC:=yw lo q b1 nm cm av nv cv b3 ns cs M V S W (hT.keep kW) hnm hns hnv hV;have x0:=bx.all;clear kW bx br bo hsz hT hU;go_enter Tryz.func20,Tryz.ntmps20
 go_upto_region 2 with fail
 rw [← hX,← hW];clear hX hW;go_wp2_with fail
 refine CC.mono ?_;rintro e w1 ⟨g1,c1,G,c,g3,c3,rfl,hC,hb1⟩;have HT1:=ar hC.treeIn;have HO1:=ar hC.mem;have HB1:=ar hb1;have K1:Hid (Bl w w1):=HKW.out.trans (hb1.mono HKW.out.size);have o1:=HBO.out.keep hb1;clear hC hb1 CC x0;have hne1:X+1+1≠X:=by omega
 have hne2:X+1+1≠X+1:=by omega
 have HN:=ar (And.intro hne1 hne2);have xx:=HBX.out.keep HB1.out;have xr:=HBR.out.keep HB1.out;have o1':=o1.all;have xz:=xx.lt;go_upto_region 3 with fail
 obtain ⟨w2,hw2⟩:=aw ((((w1.setCell ⟨X+1+1,1,none⟩ (iT q)).setCell ⟨X+1+1,2,none⟩ (sL g1 nm c1)).setCell ⟨X+1+1,3,none⟩ (sL G nv c)).setCell ⟨X+1+1,4,none⟩ (sL g3 ns c3));have hPW:X+1+1<W.heap.size:=by have:=HSZ.out;omega
 have hwP:w.heap.size≤X+1+1:=by have:=HXW.out;omega
 have HPW:=ar hPW;have HWP:=ar hwP;have HT2:Hid (aX W.heap.size w2 (pT g1) nm c1 (pT G) nv c (pT g3) ns c3 M V S):=by rw [hw2];exact HT1.out.same ((((aM.of_set _ _ hPW).trans (aM.of_set _ _ hPW)).trans (aM.of_set _ _ hPW)).trans (aM.of_set _ _ hPW))
 have HO2:Hid (aC w2 (X+1+1) (.bool up) (iT q) (sL g1 nm c1) (sL G nv c) (sL g3 ns c3) (.string lg) (iT sf) (.slice dv nd cd) (iT sd)):=by rw [hw2];exact (((o1.set1 _).set2 _).set3 _).set4 _
 have HX2:Hid (aC w2 X (.bool up) (iT q) (sL b1 nm cm) (.slice av nv cv) (sL b3 ns cs) (.string lg) (iT sf) (.slice dv nd cd) (iT sd)):=by rw [hw2];exact (((xx.other HN.out.1 _).other HN.out.1 _).other HN.out.1 _).other HN.out.1 _
 have HR2:Hid (aC w2 (X+1) (.bool false) (iT 0) nZ nZ nZ (.string ⟨#[]⟩) (iT 0) nZ (iT 0)):=by rw [hw2];exact (((xr.other HN.out.2 _).other HN.out.2 _).other HN.out.2 _).other HN.out.2 _
 have K2:Hid (Bl w w2):=by rw [hw2];exact (((K1.out.setCell (p:=⟨X+1+1,1,none⟩) hwP _).setCell (p:=⟨X+1+1,2,none⟩) hwP _).setCell (p:=⟨X+1+1,3,none⟩) hwP _).setCell (p:=⟨X+1+1,4,none⟩) hwP _
 have hgX:X+1+1<g1:=by have h1:=HO1.out.lt.1;have h2:=HSZ.out;omega
 have HGX:=ar hgX;have HOM2:Hid (aE w2 W.heap.size g1 nm c1 M):=by rw [hw2];exact (((HO1.out.setCell (p:=⟨X+1+1,1,none⟩) (Nat.ne_of_lt hgX) _).setCell (p:=⟨X+1+1,2,none⟩) (Nat.ne_of_lt hgX) _).setCell (p:=⟨X+1+1,3,none⟩) (Nat.ne_of_lt hgX) _).setCell (p:=⟨X+1+1,4,none⟩) (Nat.ne_of_lt hgX) _
 clear hgX HO1;have kw2:W.heap.size≤w2.heap.size:=by rw [hw2];simpa [World.setCell] using HB1.out.size
 have KW2:=ar kw2;clear kw2;rw [← hw2];clear hw2 o1 xx xr hne1 hne2 hPW hwP o1' xz HT1 HB1 K1 HBX HBR HBO;cases up with
 | true =>
  have CL:=eO lo dv nd cd U w2 (HU.out.keep K2.out) hnd hS;have xx:=HX2.out;have xo:=HO2.out;have y7:=xx.c7;have y0:=xx.c0;have yz:=xx.lt;have oz:=xo.lt;clear xx xo;go_wp2_with fail
  refine CL.mono ?_;rintro e w4 ⟨H,cH,rfl,hL,hb4⟩;have HL4:=ar hL.levelsIn;have o4:=HO2.out.keep hb4;have r4:=HR2.out.keep hb4;have K4:Hid (Bl w w4):=K2.out.trans (hb4.mono K2.out.size);have HT4:=ar (HT2.out.keep hb4);have HOM4:=ar (HOM2.out.below hb4);have o7:=o4.c7;have of':=o4.fz;have oz:=o4.lt;have HZ4:Hid (X+1+1<w2.heap.size):=HO2.out.lt;have HWq:Hid (W.heap.size≤w2.heap.size):=KW2.out;clear hb4 hL CL y7 y0 yz;go_upto_region 6 with fail
  obtain ⟨w5,hw5⟩:=aw (w4.setCell ⟨X+1+1,7,none⟩ (sL H nd cH));have HO5:Hid (aC w5 (X+1+1) (.bool true) (iT q) (sL g1 nm c1) (sL G nv c) (sL g3 ns c3) (.string lg) (iT sf) (sL H nd cH) (iT sd)):=by rw [hw5];exact o4.set7 _
  have HR5:Hid (aC w5 (X+1) (.bool false) (iT 0) nZ nZ nZ (.string ⟨#[]⟩) (iT 0) nZ (iT 0)):=by rw [hw5];exact r4.other HN.out.2 _
  have K5:Hid (Bl w w5):=by rw [hw5];exact K4.out.setCell (p:=⟨X+1+1,7,none⟩) HWP.out _
  have HL5:Hid (au w2.heap.size w5 (pT H) nd cH U):=by rw [hw5];exact HL4.out.same (aM.of_set _ _ HZ4.out)
  have HT5:Hid (aX W.heap.size w5 (pT g1) nm c1 (pT G) nv c (pT g3) ns c3 M V S):=by rw [hw5];exact HT4.out.same (aM.of_set _ _ HPW.out)
  have HOM5:Hid (aE w5 W.heap.size g1 nm c1 M):=by rw [hw5];exact HOM4.out.setCell (p:=⟨X+1+1,7,none⟩) (Nat.ne_of_lt HGX.out) _
  rw [← hw5];clear hw5 o4 r4 o7 of' oz K4 HL4;have o5:=HO5.out;have r5:=HR5.out;have p0:=o5.all;have u0:=r5.all;have hlt:X+1<w2.heap.size:=by have:=HZ4.out;omega
  have HLT:=ar hlt;obtain ⟨w6,hw6⟩:=aw (((((((((w5.setCell ⟨X+1,0,none⟩ (.bool true)).setCell ⟨X+1,1,none⟩ (iT q)).setCell ⟨X+1,2,none⟩ (sL g1 nm c1)).setCell ⟨X+1,3,none⟩ (sL G nv c)).setCell ⟨X+1,4,none⟩ (sL g3 ns c3)).setCell ⟨X+1,5,none⟩ (.string lg)).setCell ⟨X+1,6,none⟩ (iT sf)).setCell ⟨X+1,7,none⟩ (sL H nd cH)).setCell ⟨X+1,8,none⟩ (iT sd));have HR6:Hid (aC w6 (X+1) (.bool true) (iT q) (sL g1 nm c1) (sL G nv c) (sL g3 ns c3) (.string lg) (iT sf) (sL H nd cH) (iT sd)):=by rw [hw6];exact r5.sets (.bool true) (iT q) (sL g1 nm c1) (sL G nv c) (sL g3 ns c3) (.string lg) (iT sf) (sL H nd cH) (iT sd)
  have K6:Hid (Bl w w6):=by rw [hw6];exact cq K5.out (by have:=HXW.out;omega) (.bool true) (iT q) (sL g1 nm c1) (sL G nv c) (sL g3 ns c3) (.string lg) (iT sf) (sL H nd cH) (iT sd)
  have HL6:Hid (au w2.heap.size w6 (pT H) nd cH U):=by rw [hw6];exact HL5.out.same (dH w5 (X+1) (.bool true) (iT q) (sL g1 nm c1) (sL G nv c) (sL g3 ns c3) (.string lg) (iT sf) (sL H nd cH) (iT sd) HLT.out)
  have HT6:Hid (aX W.heap.size w6 (pT g1) nm c1 (pT G) nv c (pT g3) ns c3 M V S):=by rw [hw6];exact HT5.out.same (dH w5 (X+1) (.bool true) (iT q) (sL g1 nm c1) (sL G nv c) (sL g3 ns c3) (.string lg) (iT sf) (sL H nd cH) (iT sd) (by have:=HPW.out;omega))
  have HOM6:Hid (aE w6 W.heap.size g1 nm c1 M):=by rw [hw6];exact (dz w5 (X+1) (.bool true) (iT q) (sL g1 nm c1) (sL G nv c) (sL g3 ns c3) (.string lg) (iT sf) (sL H nd cH) (iT sd)).own HOM5.out (.inr (by have:=HGX.out;omega))
  have HW6:=ar hw6;clear hw6 o5 r5 hlt;go_wp2;rw [← HW6.out];refine bodyPost_ret (v:=.agg #[.bool true,iT q,sL g1 nm c1,sL G nv c,sL g3 ns c3,.string lg,iT sf,sL H nd cH,iT sd]) ?_ rfl ?_
  · have e:=HR6.out;simp [results,Tryz.results20,go_sem,e.all]
  · have t:=HT6.out;exact ⟨fun _=>⟨g1,c1,G,c,g3,c3,H,cH,rfl,⟨t.mem.mono HKW.out.size,t.levels.mono HKW.out.size,t.snaps.lower HKW.out.size⟩,HL6.out.mono (by have h1:=HKW.out.size;have h2:=HWq.out;omega),K6.out,HOM6.out.mono HKW.out.size⟩,fun h=>by cases h⟩
 | false =>
  have xx:=HX2.out;have xo:=HO2.out;have y0:=xx.c0;have yz:=xx.lt;have o1:=xo.all;go_upto_region 5 with fail
  obtain ⟨w3,hw3⟩:=aw ((((w2.setCell ⟨X+1+1,1,none⟩ (iT 0)).setCell ⟨X+1+1,2,none⟩ nZ).setCell ⟨X+1+1,3,none⟩ nZ).setCell ⟨X+1+1,4,none⟩ nZ);have HO3:Hid (aC w3 (X+1+1) (.bool false) (iT 0) nZ nZ nZ (.string lg) (iT sf) (.slice dv nd cd) (iT sd)):=by rw [hw3];exact (((xo.set1 _).set2 _).set3 _).set4 _
  have HX3:Hid (aC w3 X (.bool false) (iT q) (sL b1 nm cm) (.slice av nv cv) (sL b3 ns cs) (.string lg) (iT sf) (.slice dv nd cd) (iT sd)):=by rw [hw3];exact (((xx.other HN.out.1 _).other HN.out.1 _).other HN.out.1 _).other HN.out.1 _
  have HR3:Hid (aC w3 (X+1) (.bool false) (iT 0) nZ nZ nZ (.string ⟨#[]⟩) (iT 0) nZ (iT 0)):=by rw [hw3];exact (((HR2.out.other HN.out.2 _).other HN.out.2 _).other HN.out.2 _).other HN.out.2 _
  have K3:Hid (Bl w w3):=by rw [hw3];exact (((K2.out.setCell (p:=⟨X+1+1,1,none⟩) HWP.out _).setCell (p:=⟨X+1+1,2,none⟩) HWP.out _).setCell (p:=⟨X+1+1,3,none⟩) HWP.out _).setCell (p:=⟨X+1+1,4,none⟩) HWP.out _
  have kw3:W.heap.size≤w3.heap.size:=by rw [hw3];simpa [World.setCell] using KW2.out
  have KW3:=ar kw3;clear kw3;rw [← hw3];clear hw3 xx xo y0 yz o1;have CL:=eO lo dv nd cd U w3 (HU.out.keep K3.out) hnd hS;have xx:=HX3.out;have xo:=HO3.out;have y7:=xx.c7;have y0:=xx.c0;have yz:=xx.lt;have oz:=xo.lt;clear xx xo;go_wp2_with fail
  refine CL.mono ?_;rintro e w4 ⟨H,cH,rfl,hL,hb4⟩;have HL4:=ar hL.levelsIn;have o4:=HO3.out.keep hb4;have r4:=HR3.out.keep hb4;have K4:Hid (Bl w w4):=K3.out.trans (hb4.mono K3.out.size);have o7:=o4.c7;have of':=o4.fz;have oz:=o4.lt;have HZ4:Hid (X+1+1<w3.heap.size):=HO3.out.lt;have HWq:Hid (W.heap.size≤w3.heap.size):=KW3.out;clear hb4 hL CL y7 y0 yz;go_upto_region 6 with fail
  obtain ⟨w5,hw5⟩:=aw (w4.setCell ⟨X+1+1,7,none⟩ (sL H nd cH));have HO5:Hid (aC w5 (X+1+1) (.bool false) (iT 0) nZ nZ nZ (.string lg) (iT sf) (sL H nd cH) (iT sd)):=by rw [hw5];exact o4.set7 _
  have HR5:Hid (aC w5 (X+1) (.bool false) (iT 0) nZ nZ nZ (.string ⟨#[]⟩) (iT 0) nZ (iT 0)):=by rw [hw5];exact r4.other HN.out.2 _
  have K5:Hid (Bl w w5):=by rw [hw5];exact K4.out.setCell (p:=⟨X+1+1,7,none⟩) HWP.out _
  have HL5:Hid (au w3.heap.size w5 (pT H) nd cH U):=by rw [hw5];exact HL4.out.same (aM.of_set _ _ HZ4.out)
  rw [← hw5];clear hw5 o4 r4 o7 of' oz K4 HL4;have o5:=HO5.out;have r5:=HR5.out;have p0:=o5.all;have u0:=r5.all;have hlt:X+1<w3.heap.size:=by have:=HZ4.out;omega
  have HLT:=ar hlt;obtain ⟨w6,hw6⟩:=aw (((((((((w5.setCell ⟨X+1,0,none⟩ (.bool false)).setCell ⟨X+1,1,none⟩ (iT 0)).setCell ⟨X+1,2,none⟩ nZ).setCell ⟨X+1,3,none⟩ nZ).setCell ⟨X+1,4,none⟩ nZ).setCell ⟨X+1,5,none⟩ (.string lg)).setCell ⟨X+1,6,none⟩ (iT sf)).setCell ⟨X+1,7,none⟩ (sL H nd cH)).setCell ⟨X+1,8,none⟩ (iT sd));have HR6:Hid (aC w6 (X+1) (.bool false) (iT 0) nZ nZ nZ (.string lg) (iT sf) (sL H nd cH) (iT sd)):=by rw [hw6];exact r5.sets (.bool false) (iT 0) nZ nZ nZ (.string lg) (iT sf) (sL H nd cH) (iT sd)
  have K6:Hid (Bl w w6):=by rw [hw6];exact cq K5.out (by have:=HXW.out;omega) (.bool false) (iT 0) nZ nZ nZ (.string lg) (iT sf) (sL H nd cH) (iT sd)
  have HL6:Hid (au w3.heap.size w6 (pT H) nd cH U):=by rw [hw6];exact HL5.out.same (dH w5 (X+1) (.bool false) (iT 0) nZ nZ nZ (.string lg) (iT sf) (sL H nd cH) (iT sd) HLT.out)
  have HW6:=ar hw6;clear hw6 o5 r5 hlt;go_wp2;rw [← HW6.out];refine bodyPost_ret (v:=.agg #[.bool false,iT 0,nZ,nZ,nZ,.string lg,iT sf,sL H nd cH,iT sd]) ?_ rfl ?_
  · have e:=HR6.out;simp [results,Tryz.results20,go_sem,e.all]
  · exact ⟨(fun h=>by cases h),fun _=>⟨H,cH,rfl,HL6.out.mono (by have h1:=HKW.out.size;have h2:=HWq.out;omega),K6.out⟩⟩
theorem oC (a:Option Addr) (n c:Nat) (K:List ae) (q:Int) (w:World) (hK:an w a n c K) (hn:n≤1048576) (hq0:0≤q) (hq1:q≤100000) :
 Calls Tryz.prog 40 #[.slice a n c,iT q] w fun e w'=>iu q K n w e w':=by
 have HK:=ar hK;have HKL:Hid (K.length=n):=hK.length;clear hK;obtain ⟨i0,hi,hz0,hz1,hz2⟩:=info_parts Tryz.infoEnt;have HE0:Hid ((w.alloc (.cells #[] 59)).ownsRow w.heap.size 59 5 (sL (w.heap.size) 0 0) 0 (aG (cU q (K.take 0)))):=by
  have:=World.ownsRow_lit (base:=w.heap.size) (e:=59) (size:=5) w #[] 0 (Nat.le_refl _) (by simp) (by simp);show World.ownsRow _ _ _ _ _ _ _
  simpa [cU,aG] using this
 have hB0:Bl w (w.alloc (.cells #[] 59)):=bZ;go_enter Tryz.func40,Tryz.ntmps40
 go_wp2;go_loopw [6,7] (fun vv iv wr=>∃i:Nat,i≤n∧iv=iT i∧(∃g c',vv=sL g i c')∧wr.ownsRow w.heap.size 59 5 vv i (aG (cU q (K.take i)))∧(∀l ∈ cU q (K.take i),dt l)∧(∀j,j<i→jw q K j=true)∧Bl w wr) (fun _ iv _=>n - (intOf iv).toNat)
 case atStart=>exact ⟨0,Nat.zero_le _,rfl,⟨_,_,rfl⟩,HE0.out,(by simp [cU]),(fun j hj=>absurd hj (Nat.not_lt_zero _)),hB0⟩
 case round =>
  clear HE0 hB0;obtain ⟨i,hin,rfl,⟨gv,cv,rfl⟩,hv,hw,hst,hb⟩:=hrel;have HV:Hid (wr.ownsRow w.heap.size 59 5 (sL gv i cv) i (aG (cU q (K.take i)))):=hv;have HW:Hid (∀l ∈ cU q (K.take i),dt l):=hw;have HST:Hid (∀j,j<i→jw q K j=true):=hst;have HB:Hid (Bl w wr):=hb;have hbz:=hb.size;clear hv hw hst;by_cases hlt:i<n
  · have hltI:(i:Int)<(n:Int):=by omega
    obtain ⟨b,off,rfl,hbb⟩:=HK.out.form (by omega);obtain ⟨s,q0,d,t,m,hg,hlw,g0,g1,g2,g3,g4⟩:=HK.out.ent hb hbb i hlt;have HG:Hid (K[i]?=some (s,q0,d,t,m)):=hg;have HLW:Hid (dt (s,q0,d,t,m)):=hlw;have hbr:b<wr.heap.size:=Nat.lt_of_lt_of_le hbb hb.size;clear hg hlw hb;by_cases h0:q0=0
    · subst h0;have e1:IntKind.i64.wrap (q+1)=q+1:=by rw [IntWalk.i64_left];unfold wrap64;omega
      have e2:IntKind.i64.wrap (q+1+(i:Int))=q+1+(i:Int):=by rw [IntWalk.i64_left];unfold wrap64;omega
      obtain ⟨Q,hQ⟩:∃Q:Int,Q=q+1+(i:Int):=⟨_,rfl⟩;have HQ:Hid (Q=q+1+(i:Int)):=hQ;obtain ⟨wq,hwq⟩:=aw (wr.alloc (.cells #[.string s,iT (q+1+(i:Int)),iT d,.string t,iT m] 59));obtain ⟨Bx,hBx⟩:=aw wr.heap.size;have kq:Bl wr wq:=by rw [hwq];exact bZ
      have b5:wq.cell? ⟨Bx,0,none⟩=some (.string s)∧wq.cell? ⟨Bx,1,none⟩=some (iT Q)∧wq.cell? ⟨Bx,2,none⟩=some (iT d)∧wq.cell? ⟨Bx,3,none⟩=some (.string t)∧wq.cell? ⟨Bx,4,none⟩=some (iT m)∧Bx<wq.heap.size:=by
       rw [hwq,hBx,hQ];refine ⟨?_,?_,?_,?_,?_,?_⟩ <;> simp
      have B5:Hid (wq.cell? ⟨Bx,0,none⟩=some (.string s)∧wq.cell? ⟨Bx,1,none⟩=some (iT Q)∧wq.cell? ⟨Bx,2,none⟩=some (iT d)∧wq.cell? ⟨Bx,3,none⟩=some (.string t)∧wq.cell? ⟨Bx,4,none⟩=some (iT m)∧Bx<wq.heap.size):=b5;obtain ⟨O,hO⟩:=aw (cV s Q d t m);have CE:Hid (Calls Tryz.prog 74 #[.agg #[.string s,iT Q,iT d,.string t,iT m]] wq fun e w'=>e=.returned (.bool O)∧Bl wq w'):=by rw [hO];exact jY s t Q d m wq HLW.out.1 HLW.out.2.2.2.1
      have HOA:Hid (jw q K i=O):=by
       show jw q K i=O
       rw [AY HG.out rfl,hO,hQ]
      have HBQ:Hid (Bl w wq):=HB.out.trans (kq.mono HB.out.size);have HVQ:Hid (wq.ownsRow w.heap.size 59 5 (sL gv i cv) i (aG (cU q (K.take i)))):=fd HV.out kq;have HWE:Hid (dt (s,Q,d,t,m)):=⟨HLW.out.1,(by rw [hQ];exact WalkArith.wf_i64 (by omega):(Lit.int .i64 Q).wf=true),HLW.out.2.2⟩;clear kq b5 hO;go_upto_region 9 with fail
      rw [← hwq];try rw [← hBx]
      try rw [← hQ]
      clear hwq hBx hQ;obtain ⟨y0,y1,y2,y3,y4,yz⟩:=B5.out;go_wp2_with fail
      clear y0 y1 y2 y3 y4 yz g0 g1 g2 g3 g4;refine CE.out.mono ?_;rintro e w1 ⟨rfl,hb1⟩;have HB1:Hid (Bl w w1):=HBQ.out.trans (hb1.mono HBQ.out.size);have HV1:Hid (w1.ownsRow w.heap.size 59 5 (sL gv i cv) i (aG (cU q (K.take i)))):=fd HVQ.out hb1;obtain ⟨y0,y1,y2,y3,y4,yz⟩:=B5.out;have y0:=cell_later hb1 y0;have y1:=cell_later hb1 y1;have y2:=cell_later hb1 y2;have y3:=cell_later hb1 y3;have y4:=cell_later hb1 y4;have yz:=Nat.lt_of_lt_of_le yz hb1.size;have hb1z:=HB1.out.size;clear hb1;cases O with
      | false =>
       have HNO:Hid (bX q K=false):=jW (i:=i) (by rw [HKL.out];exact hlt) HOA.out;go_wp2;exact bodyPost_ret (v:=.tuple #[sL gv i cv,.bool false]) (by simp [results,Tryz.results40,go_sem]) rfl (show iu q K _ w _ _ from ⟨_,_,rfl,(fun h=>by rw [HNO.out] at h;cases h),fun _=>⟨rfl,_,_,_,cU q (K.take i),rfl,aE.entsAt ⟨HV1.out,by rw [fW,List.length_take,HKL.out];omega,HW.out⟩⟩,HB1.out⟩)
      | true =>
       have hcn:∀j u,[Value.string s,iT Q,iT d,.string t,iT m][j]?=some u→(w1.alloc (.cells #[.string s,iT Q,iT d,.string t,iT m] 59)).cell? ((⟨w1.heap.size,0,none⟩:Addr).add j)=some u:=jB w1 s Q d t m;have HCN:=ar hcn;have ka:Bl w1 (w1.alloc (.cells #[.string s,iT Q,iT d,.string t,iT m] 59)):=bZ;have HVA:Hid ((w1.alloc (.cells #[.string s,iT Q,iT d,.string t,iT m] 59)).ownsRow w.heap.size 59 5 (sL gv i cv) i (aG (cU q (K.take i)))):=fd HV1.out ka;have HBA:Hid (Bl w (w1.alloc (.cells #[.string s,iT Q,iT d,.string t,iT m] 59))):=HB1.out.trans (ka.mono HB1.out.size);clear hcn ka;go_wp2_with (at_builtin;refine wpList_append_own _ rfl _ _ 33 rfl w.heap.size 59 i0 _ 5 56 Tryz.underlying33 hi hz0 hz1 hz2 rfl (by decide) _ _ _ rfl HVA.out ⟨w1.heap.size,0,none⟩ 1 1 [.string s,iT Q,iT d,.string t,iT m] rfl rfl HCN.out (by intro u hu;simp at hu;rcases hu with rfl | rfl | rfl | rfl | rfl <;> rfl) (by unfold maxLen;omega) (by omega) HBA.out.size ?_;intro v2 w2 hown2 hgrow2 hnil2;obtain ⟨g2,c2,rfl⟩:=bw hown2 hnil2)
       go_roundw
       case rel =>
        have e3:cU q (K.take (i+1))=cU q (K.take i)++[(s,Q,d,t,m)]:=by
         rw [qN HG.out,HQ.out];rfl
        refine ⟨i+1,by omega,by go_num,⟨_,_,rfl⟩,?_,?_,?_,?_⟩
        · rw [e3,bE];exact hown2
        · rw [e3];intro l hl;rcases List.mem_append.1 hl with h | h
          · exact HW.out l h
          · rw [List.mem_singleton] at h;subst h;exact HWE.out
        · intro j hj;by_cases hji:j<i
          · exact HST.out j hji
          · rw [show j=i by omega];exact HOA.out
        · exact HBA.out.grown hgrow2 HBA.out.size (fun k e=>(HVA.out.lt k e).1)
       case measure=>simp [intOf];omega
    · have HNO:Hid (bX q K=false):=jW (i:=i) (by rw [HKL.out];exact hlt) (xZ HG.out h0);have h0b:(q0 == 0)=false:=by simpa using h0
      have h0d:decide (q0=0)=false:=decide_eq_false h0;have HVN:Hid ((wr.alloc (.cells #[.string s,iT q0,iT d,.string t,iT m] 59)).ownsRow w.heap.size 59 5 (sL gv i cv) i (aG (cU q (K.take i)))):=fd HV.out bZ;have HBN:Hid (Bl w (wr.alloc (.cells #[.string s,iT q0,iT d,.string t,iT m] 59))):=HB.out.alloc HB.out.size _;go_wp2;exact bodyPost_ret (v:=.tuple #[sL gv i cv,.bool false]) (by simp [results,Tryz.results40,go_sem]) rfl (show iu q K _ w _ _ from ⟨_,_,rfl,(fun h=>by rw [HNO.out] at h;cases h),fun _=>⟨rfl,_,_,_,cU q (K.take i),rfl,aE.entsAt ⟨HVN.out,by rw [fW,List.length_take,HKL.out];omega,HW.out⟩⟩,HBN.out⟩)
  · have hltI:¬(i:Int)<(n:Int):=by omega
    obtain rfl:i=n:=by omega
    have HYES:Hid (bX q K=true):=ox HKL.out HST.out;have HFIN:=HV.out;rw [List.take_of_length_le (by rw [HKL.out];omega)] at HFIN;have hwl:=HW.out;rw [List.take_of_length_le (by rw [HKL.out];omega)] at hwl;have hsl:(cU q K).length=i:=by rw [fW,HKL.out]
    have HRES:Hid (aE wr w.heap.size gv i cv (cU q K)):=⟨HFIN,hsl,hwl⟩;clear HFIN hwl hsl;by_cases h1:1≤i
    · have h1I:(i:Int) ≥ 1:=by omega
      by_cases h12:i≤12
      · have h12I:(i:Int)≤12:=by omega
        go_wp2;exact bodyPost_ret (v:=.tuple #[sL gv i cv,.bool true]) (by simp [results,Tryz.results40,go_sem]) rfl (show iu q K _ w _ _ from ⟨_,_,rfl,(fun _=>⟨⟨gv,cv,rfl,HRES.out⟩,by simp [h1,h12]⟩),(fun h=>by rw [HYES.out] at h;cases h),HB.out⟩)
      · have h12I:¬(i:Int)≤12:=by omega
        go_wp2;exact bodyPost_ret (v:=.tuple #[sL gv i cv,.bool false]) (by simp [results,Tryz.results40,go_sem]) rfl (show iu q K _ w _ _ from ⟨_,_,rfl,(fun _=>⟨⟨gv,cv,rfl,HRES.out⟩,by simp [h1,h12]⟩),(fun h=>by rw [HYES.out] at h;cases h),HB.out⟩)
    · have h1I:¬(i:Int) ≥ 1:=by omega
      go_wp2;exact bodyPost_ret (v:=.tuple #[sL gv i cv,.bool false]) (by simp [results,Tryz.results40,go_sem]) rfl (show iu q K _ w _ _ from ⟨_,_,rfl,(fun _=>⟨⟨gv,cv,rfl,HRES.out⟩,by simp [h1]⟩),(fun h=>by rw [HYES.out] at h;cases h),HB.out⟩)
end Go.Proofs.YtehiefdphnljaaaGreatDoor
