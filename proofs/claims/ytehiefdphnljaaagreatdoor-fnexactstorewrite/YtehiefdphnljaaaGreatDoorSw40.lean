/- Walks. -/
import Derived.Test.YtehiefdphnljaaaGreatDoorSw39
namespace Go.Proofs.YtehiefdphnljaaaGreatDoor
set_option maxRecDepth 100000
set_option maxHeartbeats 40000000
open Go.RowKit
variable {K M:List ae} {q:Int}
theorem An (fv:Value) (a0 a1 a2:Option Addr) (n0 c0 n1 c1 n2 c2:Nat) (lg:ByteArray) (sf sd:Int) (w:World) :
 Calls Tryz.prog 48 #[.agg #[.bool false,iT 0,nZ,nZ,nZ,nZ,nZ,.string lg,iT sf,.slice a0 n0 c0,.slice a1 n1 c1,.slice a2 n2 c2,iT sd],fv] w fun e w'=>e=.returned (.tuple #[.agg #[.bool false,iT 0,nZ,nZ,nZ,nZ,nZ,.string lg,iT sf,.slice a0 n0 c0,.slice a1 n1 c1,.slice a2 n2 c2,iT sd],.bool false])∧Bl w w':=by
 obtain ⟨X,hX⟩:=aw w.heap.size;obtain ⟨W,hW⟩:=aw ((w.alloc (.cells #[.bool false,iT 0,nZ,nZ,nZ,nZ,nZ,.string lg,iT sf,.slice a0 n0 c0,.slice a1 n1 c1,.slice a2 n2 c2,iT sd] 90)).alloc (.cells #[.bool false,iT 0,nZ,nZ,nZ,nZ,nZ,.string ⟨#[]⟩,iT 0,nZ,nZ,nZ,iT 0] 90));have kW:Bl w W:=by rw [hW];exact bZ.alloc (by simp) _
 have bx:aH W X (.bool false) (iT 0) nZ nZ nZ nZ nZ (.string lg) (iT sf) (.slice a0 n0 c0) (.slice a1 n1 c1) (.slice a2 n2 c2) (iT sd):=by rw [hW,hX];exact (aH.new _ _ _ _ _ _ _ _ _ _ _ _ _ _ _).alloc _
 have br:aH W (X+1) (.bool false) (iT 0) nZ nZ nZ nZ nZ (.string ⟨#[]⟩) (iT 0) nZ nZ nZ (iT 0):=by
  have:=aH.new (w.alloc (.cells #[.bool false,iT 0,nZ,nZ,nZ,nZ,nZ,.string lg,iT sf,.slice a0 n0 c0,.slice a1 n1 c1,.slice a2 n2 c2,iT sd] 90)) 90 (.bool false) (iT 0) nZ nZ nZ nZ nZ (.string ⟨#[]⟩) (iT 0) nZ nZ nZ (iT 0);rw [World.size_alloc] at this;rw [hW,hX];exact this
 have HXW:=ar hX;have HKW:=ar kW;have HBX:=ar bx;have HBR:=ar br;have x0:=bx.all;clear kW bx br;go_enter Tryz.func48,Tryz.ntmps48
 go_upto_region 1 with fail
 rw [← hX,← hW];clear hX hW;have r9:=HBR.out;have u0:=r9.all;obtain ⟨wf,hwf⟩:=aw (((((((((((((W.setCell ⟨X+1,0,none⟩ (.bool false)).setCell ⟨X+1,1,none⟩ (iT 0)).setCell ⟨X+1,2,none⟩ nZ).setCell ⟨X+1,3,none⟩ nZ).setCell ⟨X+1,4,none⟩ nZ).setCell ⟨X+1,5,none⟩ nZ).setCell ⟨X+1,6,none⟩ nZ).setCell ⟨X+1,7,none⟩ (.string lg)).setCell ⟨X+1,8,none⟩ (iT sf)).setCell ⟨X+1,9,none⟩ (.slice a0 n0 c0)).setCell ⟨X+1,10,none⟩ (.slice a1 n1 c1)).setCell ⟨X+1,11,none⟩ (.slice a2 n2 c2)).setCell ⟨X+1,12,none⟩ (iT sd));have HRF:Hid (aH wf (X+1) (.bool false) (iT 0) nZ nZ nZ nZ nZ (.string lg) (iT sf) (.slice a0 n0 c0) (.slice a1 n1 c1) (.slice a2 n2 c2) (iT sd)):=by rw [hwf];exact r9.sets (.bool false) (iT 0) nZ nZ nZ nZ nZ (.string lg) (iT sf) (.slice a0 n0 c0) (.slice a1 n1 c1) (.slice a2 n2 c2) (iT sd)
 have KF:Hid (Bl w wf):=by rw [hwf];exact cn HKW.out (by have:=HXW.out;omega) (.bool false) (iT 0) nZ nZ nZ nZ nZ (.string lg) (iT sf) (.slice a0 n0 c0) (.slice a1 n1 c1) (.slice a2 n2 c2) (iT sd)
 have HWF:=ar hwf;clear hwf r9;go_wp2;rw [← HWF.out];refine bodyPost_ret (v:=.tuple #[.agg #[.bool false,iT 0,nZ,nZ,nZ,nZ,nZ,.string lg,iT sf,.slice a0 n0 c0,.slice a1 n1 c1,.slice a2 n2 c2,iT sd],.bool false]) ?_ rfl ⟨rfl,KF.out⟩
 · have e:=HRF.out;simp [results,Tryz.results48,go_sem,e.all]
def BM (q:Int) (am b0 b1 b2 ak a0 a1 a2:Option Addr) (nm cm m0 e0 m1 e1 m2 e2 ns cs n0 c0 n1 c1 n2 c2:Nat) (lg:ByteArray) (sf sd:Int) (M K:List ae) (w:World) (e:Ending) (w':World):Prop :=
 (dl true q M K lg=true→∃g n,e=.returned (.tuple #[.agg #[.bool true,iT (q+K.length),sL g n n,.slice b0 m0 e0,.slice b1 m1 e1,.slice b2 m2 e2,.slice ak ns cs,.string (lg++aW (cU q K)),iT sf,.slice a0 n0 c0,.slice a1 n1 c1,.slice a2 n2 c2,iT sd],.bool true])∧an w' (pT g) n n (bg (M++cU q K))∧Bl w w') ∧
 (dl true q M K lg=false→e=.returned (.tuple #[.agg #[.bool true,iT q,.slice am nm cm,.slice b0 m0 e0,.slice b1 m1 e1,.slice b2 m2 e2,.slice ak ns cs,.string lg,iT sf,.slice a0 n0 c0,.slice a1 n1 c1,.slice a2 n2 c2,iT sd],.bool false])∧Bl w w')
theorem Bu (b:Nat) (q:Int) (am b0 b1 b2 ak a0 a1 a2:Option Addr) (nm cm m0 e0 m1 e1 m2 e2 ns cs n0 c0 n1 c1 n2 c2:Nat) (lg:ByteArray) (sf sd:Int) (M:List ae) (A B C:List aq) (S:List Int) (ab:Option Addr) (nb cb:Nat) (K:List ae) (w:World) (hSh:xv w am nm cm b0 m0 e0 b1 m1 e1 b2 m2 e2 ak ns cs M A B C S) (hK:an w ab nb cb K) (hb:w.cell? ⟨b,0,none⟩=some (.slice ab nb cb)) (hnb:nb≤1048576) (hnm:nm≤1048576) (hM:fj M) (hq0:0≤q) (hq1:q≤100000) (hTB:kQ w.heap.size w) (hlg:lg.size≤1048576) :
 Calls Tryz.prog 48 #[.agg #[.bool true,iT q,.slice am nm cm,.slice b0 m0 e0,.slice b1 m1 e1,.slice b2 m2 e2,.slice ak ns cs,.string lg,iT sf,.slice a0 n0 c0,.slice a1 n1 c1,.slice a2 n2 c2,iT sd],.func (.func 50) #[] #[.pointer (pT b)]] w (BM q am b0 b1 b2 ak a0 a1 a2 nm cm m0 e0 m1 e1 m2 e2 ns cs n0 c0 n1 c1 n2 c2 lg sf sd M K w):=by
 obtain ⟨X,hX⟩:=aw w.heap.size;obtain ⟨W,hW⟩:=aw ((w.alloc (.cells #[.bool true,iT q,.slice am nm cm,.slice b0 m0 e0,.slice b1 m1 e1,.slice b2 m2 e2,.slice ak ns cs,.string lg,iT sf,.slice a0 n0 c0,.slice a1 n1 c1,.slice a2 n2 c2,iT sd] 90)).alloc (.cells #[.bool false,iT 0,nZ,nZ,nZ,nZ,nZ,.string ⟨#[]⟩,iT 0,nZ,nZ,nZ,iT 0] 90));have kW:Bl w W:=by rw [hW];exact bZ.alloc (by simp) _
 have bx:aH W X (.bool true) (iT q) (.slice am nm cm) (.slice b0 m0 e0) (.slice b1 m1 e1) (.slice b2 m2 e2) (.slice ak ns cs) (.string lg) (iT sf) (.slice a0 n0 c0) (.slice a1 n1 c1) (.slice a2 n2 c2) (iT sd):=by rw [hW,hX];exact (aH.new _ _ _ _ _ _ _ _ _ _ _ _ _ _ _).alloc _
 have br:aH W (X+1) (.bool false) (iT 0) nZ nZ nZ nZ nZ (.string ⟨#[]⟩) (iT 0) nZ nZ nZ (iT 0):=by
  have:=aH.new (w.alloc (.cells #[.bool true,iT q,.slice am nm cm,.slice b0 m0 e0,.slice b1 m1 e1,.slice b2 m2 e2,.slice ak ns cs,.string lg,iT sf,.slice a0 n0 c0,.slice a1 n1 c1,.slice a2 n2 c2,iT sd] 90)) 90 (.bool false) (iT 0) nZ nZ nZ nZ nZ (.string ⟨#[]⟩) (iT 0) nZ nZ nZ (iT 0);rw [World.size_alloc] at this;rw [hW,hX];exact this
 have HXW:=ar hX;have HKW:=ar kW;have HBX:=ar bx;have HBR:=ar br;have CS:=sF b q am nm cm b0 m0 e0 b1 m1 e1 b2 m2 e2 ak ns cs M A B C S ab nb cb K W (hSh.keep kW) (hK.keep kW) (cell_later kW hb) hnb hnm hM hq0 hq1 (fun x hx=>hTB x (kW.trans (hx.mono kW.size)));have x0:=bx.all;clear kW bx br hSh hK hb hnb hnm hM hq0 hq1 hTB;go_enter Tryz.func48,Tryz.ntmps48
 go_upto_region 1 with fail
 rw [← hX,← hW];clear hX hW;go_wp2_with fail
 refine CS.mono ?_;rintro e w1 ⟨q2,tm,tn,tc,t0,i0,j0,t1,i1,j1,t2,i2,j2,tk,ik,jk,r,d,T,rfl,hr,hd,hb1,hTs,hyes⟩;obtain ⟨O,hO⟩:=aw (bi q M K);have HO:=ar hO;rw [← hO] at hyes ⊢;clear hO;have HRC:=ar hr;have HDC:=ar hd;have HB1:=ar hb1;have HY1:=ar hyes;clear CS hr hd hb1 hyes x0;go_upto_region 4 with fail
 obtain ⟨Y,hY⟩:=aw w1.heap.size;obtain ⟨w2,hw2⟩:=aw (w1.alloc (.cells #[iT q2,.slice tm tn tc,.slice t0 i0 j0,.slice t1 i1 j1,.slice t2 i2 j2,.slice tk ik jk] 86));have k2:Bl w1 w2:=by rw [hw2];exact bZ
 have HY2:Hid (aR w2 Y (iT q2) (.slice tm tn tc) (.slice t0 i0 j0) (.slice t1 i1 j1) (.slice t2 i2 j2) (.slice tk ik jk)):=by rw [hw2,hY];exact aR.new _ _ _ _ _ _ _ _
 have KB2:Hid (Bl W w2):=HB1.out.trans (k2.mono HB1.out.size);have HR2:=ar (cell_later k2 HRC.out);have HD2:=ar (cell_later k2 HDC.out);have HK12:=ar k2;rw [← hw2];try rw [← hY]
 clear hw2 hY k2 HRC HDC HB1;have x2:=HBX.out.keep KB2.out;have y7:=x2.all;have CA:=ui r d T lg sf a0 a1 a2 n0 c0 n1 c1 n2 c2 sd w2 (by omega) HD2.out HR2.out;obtain ⟨G,hG⟩:=aw (lg++T);have HG:=ar hG;rw [← hG] at CA;clear x2 hG;go_wp2_with fail
 refine CA.mono ?_;rintro e w3 ⟨rfl,hb3⟩;have KB3:Hid (Bl W w3):=KB2.out.trans (hb3.mono KB2.out.size);have HY3:=ar (HY2.out.keep hb3);have HK13:=ar (HK12.out.trans (hb3.mono HK12.out.size));clear CA hb3 KB2 HY2 HR2 HD2 HK12 y7;go_upto_region 5 with fail
 obtain ⟨Z,hZ⟩:=aw w3.heap.size;obtain ⟨w4,hw4⟩:=aw (w3.alloc (.cells #[.string G,iT sf,.slice a0 n0 c0,.slice a1 n1 c1,.slice a2 n2 c2,iT sd] 88));have k4:Bl w3 w4:=by rw [hw4];exact bZ
 have HZ4:Hid (aR w4 Z (.string G) (iT sf) (.slice a0 n0 c0) (.slice a1 n1 c1) (.slice a2 n2 c2) (iT sd)):=by rw [hw4,hZ];exact aR.new _ _ _ _ _ _ _ _
 have HY4:=ar (HY3.out.keep k4);have KB4:Hid (Bl W w4):=KB3.out.trans (k4.mono KB3.out.size);have K4:Hid (Bl w w4):=HKW.out.trans (KB4.out.mono HKW.out.size);have HX4:=ar (HBX.out.keep KB4.out);have HR4:=ar (HBR.out.keep KB4.out);have HY9:Hid (O=true→(∃g n,(.agg #[iT q2,.slice tm tn tc,.slice t0 i0 j0,.slice t1 i1 j1,.slice t2 i2 j2,.slice tk ik jk]:Value)=.agg #[iT (q+K.length),sL g n n,.slice b0 m0 e0,.slice b1 m1 e1,.slice b2 m2 e2,.slice ak ns cs]∧aE w4 W.heap.size g n n (bg (M++cU q K)))∧T=aW (cU q K)):=fun h=>by
  obtain ⟨⟨g,n,h1,h2⟩,h3⟩:=HY1.out h;exact ⟨⟨g,n,h1,(h2.below HK13.out).below k4⟩,h3⟩
 rw [← hw4];try rw [← hZ]
 clear hw4 hZ k4 HY3 KB3 HY1 HK13;have y4:=HY4.out;have z4:=HZ4.out;have x4:=HX4.out;have g0:=x4.all;have p0:=y4.all;have s0:=z4.all;clear y4 z4 x4;cases O with
 | false =>
  have r9:=HR4.out;have u0:=r9.all;obtain ⟨wf,hwf⟩:=aw (((((((((((((w4.setCell ⟨X+1,0,none⟩ (.bool true)).setCell ⟨X+1,1,none⟩ (iT q)).setCell ⟨X+1,2,none⟩ (.slice am nm cm)).setCell ⟨X+1,3,none⟩ (.slice b0 m0 e0)).setCell ⟨X+1,4,none⟩ (.slice b1 m1 e1)).setCell ⟨X+1,5,none⟩ (.slice b2 m2 e2)).setCell ⟨X+1,6,none⟩ (.slice ak ns cs)).setCell ⟨X+1,7,none⟩ (.string lg)).setCell ⟨X+1,8,none⟩ (iT sf)).setCell ⟨X+1,9,none⟩ (.slice a0 n0 c0)).setCell ⟨X+1,10,none⟩ (.slice a1 n1 c1)).setCell ⟨X+1,11,none⟩ (.slice a2 n2 c2)).setCell ⟨X+1,12,none⟩ (iT sd));have HRF:Hid (aH wf (X+1) (.bool true) (iT q) (.slice am nm cm) (.slice b0 m0 e0) (.slice b1 m1 e1) (.slice b2 m2 e2) (.slice ak ns cs) (.string lg) (iT sf) (.slice a0 n0 c0) (.slice a1 n1 c1) (.slice a2 n2 c2) (iT sd)):=by rw [hwf];exact r9.sets (.bool true) (iT q) (.slice am nm cm) (.slice b0 m0 e0) (.slice b1 m1 e1) (.slice b2 m2 e2) (.slice ak ns cs) (.string lg) (iT sf) (.slice a0 n0 c0) (.slice a1 n1 c1) (.slice a2 n2 c2) (iT sd)
  have KF:Hid (Bl w wf):=by rw [hwf];exact cn K4.out (by have:=HXW.out;omega) (.bool true) (iT q) (.slice am nm cm) (.slice b0 m0 e0) (.slice b1 m1 e1) (.slice b2 m2 e2) (.slice ak ns cs) (.string lg) (iT sf) (.slice a0 n0 c0) (.slice a1 n1 c1) (.slice a2 n2 c2) (iT sd)
  have HWF:=ar hwf;clear hwf r9;go_wp2;rw [← HWF.out];refine bodyPost_ret (v:=.tuple #[.agg #[.bool true,iT q,.slice am nm cm,.slice b0 m0 e0,.slice b1 m1 e1,.slice b2 m2 e2,.slice ak ns cs,.string lg,iT sf,.slice a0 n0 c0,.slice a1 n1 c1,.slice a2 n2 c2,iT sd],.bool false]) ?_ rfl (show BM q am b0 b1 b2 ak a0 a1 a2 nm cm m0 e0 m1 e1 m2 e2 ns cs n0 c0 n1 c1 n2 c2 lg sf sd M K w _ _ from ⟨fun h=>absurd h ?_,fun _=>⟨rfl,KF.out⟩⟩)
  · have e:=HRF.out;simp [results,Tryz.results48,go_sem,e.all]
  · rw [sa HO.out.symm];decide
 | true =>
  obtain ⟨⟨g,n,he,hSh⟩,rfl⟩:=HY9.out rfl;cases he;have HSH:=ar hSh;have HWZ:Hid (X+1<W.heap.size):=HBR.out.lt;by_cases h12:(lg++aW (cU q K)).size≤12000
  · have h12I:¬(G.size:Int) > 12000:=by rw [HG.out];omega
    have HYES:Hid (dl true q M K lg=true):=pr HO.out.symm h12;clear HY9 hSh h12;have r9:=HR4.out;have u0:=r9.all;obtain ⟨wf,hwf⟩:=aw (((((((((((((w4.setCell ⟨X+1,0,none⟩ (.bool true)).setCell ⟨X+1,1,none⟩ (iT (q+K.length))).setCell ⟨X+1,2,none⟩ (sL g tn tn)).setCell ⟨X+1,3,none⟩ (.slice b0 m0 e0)).setCell ⟨X+1,4,none⟩ (.slice b1 m1 e1)).setCell ⟨X+1,5,none⟩ (.slice b2 m2 e2)).setCell ⟨X+1,6,none⟩ (.slice ak ns cs)).setCell ⟨X+1,7,none⟩ (.string G)).setCell ⟨X+1,8,none⟩ (iT sf)).setCell ⟨X+1,9,none⟩ (.slice a0 n0 c0)).setCell ⟨X+1,10,none⟩ (.slice a1 n1 c1)).setCell ⟨X+1,11,none⟩ (.slice a2 n2 c2)).setCell ⟨X+1,12,none⟩ (iT sd));have HRF:Hid (aH wf (X+1) (.bool true) (iT (q+K.length)) (sL g tn tn) (.slice b0 m0 e0) (.slice b1 m1 e1) (.slice b2 m2 e2) (.slice ak ns cs) (.string G) (iT sf) (.slice a0 n0 c0) (.slice a1 n1 c1) (.slice a2 n2 c2) (iT sd)):=by rw [hwf];exact r9.sets (.bool true) (iT (q+K.length)) (sL g tn tn) (.slice b0 m0 e0) (.slice b1 m1 e1) (.slice b2 m2 e2) (.slice ak ns cs) (.string G) (iT sf) (.slice a0 n0 c0) (.slice a1 n1 c1) (.slice a2 n2 c2) (iT sd)
    have KF:Hid (Bl w wf):=by rw [hwf];exact cn K4.out (by have:=HXW.out;omega) (.bool true) (iT (q+K.length)) (sL g tn tn) (.slice b0 m0 e0) (.slice b1 m1 e1) (.slice b2 m2 e2) (.slice ak ns cs) (.string G) (iT sf) (.slice a0 n0 c0) (.slice a1 n1 c1) (.slice a2 n2 c2) (iT sd)
    have HWF:=ar hwf;clear hwf r9;go_wp2;rw [← HWF.out];refine bodyPost_ret (v:=.tuple #[.agg #[.bool true,iT (q+K.length),sL g tn tn,.slice b0 m0 e0,.slice b1 m1 e1,.slice b2 m2 e2,.slice ak ns cs,.string G,iT sf,.slice a0 n0 c0,.slice a1 n1 c1,.slice a2 n2 c2,iT sd],.bool true]) ?_ rfl (show BM q am b0 b1 b2 ak a0 a1 a2 nm cm m0 e0 m1 e1 m2 e2 ns cs n0 c0 n1 c1 n2 c2 lg sf sd M K w _ _ from ⟨fun _=>⟨g,tn,by rw [HG.out],?_,KF.out⟩,fun h=>by rw [HYES.out] at h;cases h⟩)
    · have e:=HRF.out;simp [results,Tryz.results48,go_sem,e.all]
    · rw [HWF.out];exact lW HSH.out.entsAt (fun x e _=>by cases e;have h1:=HSH.out.lt.1;have h2:=HWZ.out;show g≠_;omega) (.bool true) (iT (q+K.length)) (sL g tn tn) (.slice b0 m0 e0) (.slice b1 m1 e1) (.slice b2 m2 e2) (.slice ak ns cs) (.string G) (iT sf) (.slice a0 n0 c0) (.slice a1 n1 c1) (.slice a2 n2 c2) (iT sd)
  · have h12I:(G.size:Int) > 12000:=by rw [HG.out];omega
    have HNO:Hid (dl true q M K lg=false):=sc h12;clear HY9 hSh h12;have r9:=HR4.out;have u0:=r9.all;obtain ⟨wf,hwf⟩:=aw (((((((((((((w4.setCell ⟨X+1,0,none⟩ (.bool true)).setCell ⟨X+1,1,none⟩ (iT q)).setCell ⟨X+1,2,none⟩ (.slice am nm cm)).setCell ⟨X+1,3,none⟩ (.slice b0 m0 e0)).setCell ⟨X+1,4,none⟩ (.slice b1 m1 e1)).setCell ⟨X+1,5,none⟩ (.slice b2 m2 e2)).setCell ⟨X+1,6,none⟩ (.slice ak ns cs)).setCell ⟨X+1,7,none⟩ (.string lg)).setCell ⟨X+1,8,none⟩ (iT sf)).setCell ⟨X+1,9,none⟩ (.slice a0 n0 c0)).setCell ⟨X+1,10,none⟩ (.slice a1 n1 c1)).setCell ⟨X+1,11,none⟩ (.slice a2 n2 c2)).setCell ⟨X+1,12,none⟩ (iT sd));have HRF:Hid (aH wf (X+1) (.bool true) (iT q) (.slice am nm cm) (.slice b0 m0 e0) (.slice b1 m1 e1) (.slice b2 m2 e2) (.slice ak ns cs) (.string lg) (iT sf) (.slice a0 n0 c0) (.slice a1 n1 c1) (.slice a2 n2 c2) (iT sd)):=by rw [hwf];exact r9.sets (.bool true) (iT q) (.slice am nm cm) (.slice b0 m0 e0) (.slice b1 m1 e1) (.slice b2 m2 e2) (.slice ak ns cs) (.string lg) (iT sf) (.slice a0 n0 c0) (.slice a1 n1 c1) (.slice a2 n2 c2) (iT sd)
    have KF:Hid (Bl w wf):=by rw [hwf];exact cn K4.out (by have:=HXW.out;omega) (.bool true) (iT q) (.slice am nm cm) (.slice b0 m0 e0) (.slice b1 m1 e1) (.slice b2 m2 e2) (.slice ak ns cs) (.string lg) (iT sf) (.slice a0 n0 c0) (.slice a1 n1 c1) (.slice a2 n2 c2) (iT sd)
    have HWF:=ar hwf;clear hwf r9;go_wp2;rw [← HWF.out];refine bodyPost_ret (v:=.tuple #[.agg #[.bool true,iT q,.slice am nm cm,.slice b0 m0 e0,.slice b1 m1 e1,.slice b2 m2 e2,.slice ak ns cs,.string lg,iT sf,.slice a0 n0 c0,.slice a1 n1 c1,.slice a2 n2 c2,iT sd],.bool false]) ?_ rfl (show BM q am b0 b1 b2 ak a0 a1 a2 nm cm m0 e0 m1 e1 m2 e2 ns cs n0 c0 n1 c1 n2 c2 lg sf sd M K w _ _ from ⟨fun h=>absurd h ?_,fun _=>⟨rfl,KF.out⟩⟩)
    · have e:=HRF.out;simp [results,Tryz.results48,go_sem,e.all]
    · rw [HNO.out];decide
theorem qV (h:bz M=true):bg M=M :=
 (qL (pJ h) (gu M).1 (gu M).2.symm).symm
theorem lz (h:bz M=true) (D:List ae):D.foldl dq M=bg (M++D):=by
 have e:=qV h;unfold bg at e ⊢;rw [List.foldl_append,e]
theorem sV (h:fj M):fj (bg M):=fun e he=>h e ((gu M).2.mem_iff.1 he)
def Bz (O:Bool) (q:Int) (M K:List ae) (lg:ByteArray) (zq:Int) (zM:List ae) (zl:ByteArray):Prop :=
 (O=true→zq=q+K.length∧zM=(cU q K).foldl dq M∧zl=lg++aW (cU q K))∧(O=false→zq=q∧zM=M∧zl=lg)
theorem qy (O:Bool) (q:Int) (M K:List ae) (lg:ByteArray):∃zq zM zl,Bz O q M K lg zq zM zl:=by
 cases O with
 | true=>exact ⟨_,_,_,fun _=>⟨rfl,rfl,rfl⟩,fun h=>by cases h⟩
 | false=>exact ⟨_,_,_,(fun h=>by cases h),fun _=>⟨rfl,rfl,rfl⟩⟩
theorem sS (h:bX q K=true):fj (cU q K):=fun x hx=>by
 obtain ⟨j,hj,rfl⟩:=List.getElem_of_mem hx
 exact jO (oy h (List.getElem?_eq_getElem hj))
theorem rU (hr:bz M=true) (h:bi q M K=true):fj ((cU q K).foldl dq M):=by
 rw [lz hr];refine sV fun e he=>?_
 rcases List.mem_append.1 he with h1 | h1
 · exact ra hr e h1
 · exact sS (lF h).1 e h1
theorem pk (hr:bz M=true) (h:bi q M K=true):((cU q K).foldl dq M).length≤60:=by
 rw [lz hr,vr,List.length_append,fW];unfold bi at h;simp only [Bool.and_eq_true,decide_eq_true_eq] at h;omega
theorem pV (t:ByteArray) (w:World) :
 Calls Tryz.prog 117 #[.string t] w fun e w'=>∃b:Nat,e=.returned (.func (.func 143) #[] #[.pointer (pT b)])∧w'.cell? ⟨b,0,none⟩=some (.string t)∧Bl w w':=by
 go_enter Tryz.func117,Tryz.ntmps117
 go_wp2;go_ret;exact ⟨w.heap.size,rfl,by simp,bZ⟩
theorem yU (b:Nat) (t lg:ByteArray) (sf:Value) (d0 d1 d2:Option Addr) (m0 e0 m1 e1 m2 e2:Nat) (sd:Int) (w:World) (hb:w.cell? ⟨b,0,none⟩=some (.string t)) :
 Calls Tryz.prog 143 #[.agg #[.string lg,sf,.slice d0 m0 e0,.slice d1 m1 e1,.slice d2 m2 e2,iT sd],.pointer (pT b)] w fun e w'=>e=.returned (.agg #[.string t,iT (t.size:Int),.slice d0 m0 e0,.slice d1 m1 e1,.slice d2 m2 e2,iT sd])∧Bl w w':=by
 obtain ⟨X,hX⟩:=aw w.heap.size;obtain ⟨W,hW⟩:=aw ((w.alloc (.cells #[.string lg,sf,.slice d0 m0 e0,.slice d1 m1 e1,.slice d2 m2 e2,iT sd] 88)).alloc (.cells #[.string ⟨#[]⟩,iT 0,nZ,nZ,nZ,iT 0] 88));have kW:Bl w W:=by rw [hW];exact bZ.alloc (by simp) _
 have bx:aR W X (.string lg) sf (.slice d0 m0 e0) (.slice d1 m1 e1) (.slice d2 m2 e2) (iT sd):=by rw [hW,hX];exact (aR.new _ _ _ _ _ _ _ _).alloc _
 have br:aR W (X+1) (.string ⟨#[]⟩) (iT 0) nZ nZ nZ (iT 0):=by
  have:=aR.new (w.alloc (.cells #[.string lg,sf,.slice d0 m0 e0,.slice d1 m1 e1,.slice d2 m2 e2,iT sd] 88)) 88 (.string ⟨#[]⟩) (iT 0) nZ nZ nZ (iT 0);rw [World.size_alloc] at this;rw [hW,hX];exact this
 have hbW:=cell_later kW hb;have hbz:=World.block_lt_of_cell? _ _ hb;simp only at hbz;have HXW:=ar hX;have HBX:=ar bx;have HBR:=ar br;have HKW:=ar kW;have HMK:Hid (∀w',(Bl W w'∧True)→(w'.cell? ⟨b,0,none⟩=some (.string t)∧X<w'.heap.size)):=fun w' k=>⟨cell_later k.1 hbW,Nat.lt_of_lt_of_le bx.lt k.1.size⟩
 clear kW bx br;go_enter Tryz.func143,Tryz.ntmps143
 go_upto_region 1 with fail
 rw [← hX,← hW];clear hX hW;refine dC HMK ⟨(Below.refl _ W).drew,trivial⟩ fun aa=>?_
 refine aK 0 4 aa ?_;have k0:Bl W W.drew:=(Below.refl _ W).drew;have bx:=HBX.out.keep k0;have br:=HBR.out.keep k0;have HKD:Hid (Bl w W.drew):=HKW.out.drew;generalize W.drew=wd at aa bx br HKD ⊢;have c0:=bx.c0;have c1:=bx.c1;have cf:=bx.fz;have cz:=bx.lt;have hbX:X≠b:=by have:=HXW.out;omega
 have HS1:Hid ((wd.setCell ⟨X,0,none⟩ (.string t)).cell? ⟨b,0,none⟩=some (.string t)∧X<(wd.setCell ⟨X,0,none⟩ (.string t)).heap.size):=⟨by rw [World.cell?_setCell_other _ _ _ _ (fun e=>hbX (congrArg Addr.block e))];exact aa.1,by simpa [World.setCell] using cz⟩;have HS2:Hid (((wd.setCell ⟨X,0,none⟩ (.string t)).setCell ⟨X,1,none⟩ (iT (t.size:Int))).cell? ⟨b,0,none⟩=some (.string t)∧X<((wd.setCell ⟨X,0,none⟩ (.string t)).setCell ⟨X,1,none⟩ (iT (t.size:Int))).heap.size):=⟨by rw [World.cell?_setCell_other _ _ _ _ (fun e=>hbX (congrArg Addr.block e))];exact HS1.out.1,by simpa [World.setCell] using cz⟩;have HBZ:=ar ((bx.set0 (.string t)).set1 (iT (t.size:Int)));have HRZ:=ar ((br.other (b':=X) (o:=0) (by omega) (.string t)).other (b':=X) (o:=1) (by omega) (iT (t.size:Int)));have hx:w.heap.size≤X:=by have:=HXW.out;omega
 have HKZ:=ar ((HKD.out.setCell (p:=⟨X,0,none⟩) hx (.string t)).setCell (p:=⟨X,1,none⟩) hx (iT (t.size:Int)));clear bx br HMK HBX HBR;refine aP 4 fun K hK=>?_
 go_simp;refine hK.out _ _ HS1.out fun aa=>?_
 (try go_frame);refine aK 5 1 aa ?_;refine aP 6 fun K hK=>?_
 go_simp;refine hK.out _ _ HS2.out fun aa=>?_
 (try go_frame);refine dN ?_;have b0:=HBZ.out.all;have r0:=HRZ.out.all;clear HS1 HS2 c0 c1 cf cz aa;generalize (wd.setCell ⟨X,0,none⟩ (.string t)).setCell ⟨X,1,none⟩ (iT (t.size:Int))=wz at *;go_wp2;refine bodyPost_ret (v:=.agg #[.string t,iT (t.size:Int),.slice d0 m0 e0,.slice d1 m1 e1,.slice d2 m2 e2,iT sd]) ?_ rfl ⟨rfl,?_⟩
 · have e:=(((((HRZ.out.set0 (.string t)).set1 (iT (t.size:Int))).set2 (.slice d0 m0 e0)).set3 (.slice d1 m1 e1)).set4 (.slice d2 m2 e2)).set5 (iT sd);simp [results,Tryz.results143,go_sem,e.all]
 · have hx1:w.heap.size≤X+1:=by omega
   exact ((mf HKZ.out hx1 _ _ _ _).setCell (p:=⟨X+1,4,none⟩) hx1 _).setCell (p:=⟨X+1,5,none⟩) hx1 _
theorem xt (r b:Nat) (t lg:ByteArray) (sf:Value) (d0 d1 d2:Option Addr) (m0 e0 m1 e1 m2 e2:Nat) (sd:Int) (w:World) (hb:w.cell? ⟨b,0,none⟩=some (.string t)) (hr:w.cell? ⟨r,0,none⟩=some (.func (.func 143) #[] #[.pointer (pT b)])) :
 Calls Tryz.prog 87 #[.agg #[.string lg,sf,.slice d0 m0 e0,.slice d1 m1 e1,.slice d2 m2 e2,iT sd],sL r 1 1] w fun e w'=>e=.returned (.agg #[.string t,iT (t.size:Int),.slice d0 m0 e0,.slice d1 m1 e1,.slice d2 m2 e2,iT sd])∧Bl w w':=by
 obtain ⟨X,hX⟩:=aw w.heap.size;obtain ⟨W,hW⟩:=aw ((w.alloc (.cells #[.string lg,sf,.slice d0 m0 e0,.slice d1 m1 e1,.slice d2 m2 e2,iT sd] 88)).alloc (.cells #[.string ⟨#[]⟩,iT 0,nZ,nZ,nZ,iT 0] 88));have kW:Bl w W:=by rw [hW];exact bZ.alloc (by simp) _
 have bx:aR W X (.string lg) sf (.slice d0 m0 e0) (.slice d1 m1 e1) (.slice d2 m2 e2) (iT sd):=by rw [hW,hX];exact (aR.new _ _ _ _ _ _ _ _).alloc _
 have br:aR W (X+1) (.string ⟨#[]⟩) (iT 0) nZ nZ nZ (iT 0):=by
  have:=aR.new (w.alloc (.cells #[.string lg,sf,.slice d0 m0 e0,.slice d1 m1 e1,.slice d2 m2 e2,iT sd] 88)) 88 (.string ⟨#[]⟩) (iT 0) nZ nZ nZ (iT 0);rw [World.size_alloc] at this;rw [hW,hX];exact this
 have HRW:=ar hr;have HBW:=ar hb;have HXW:=ar hX;have HBX:=ar bx;have HBR:=ar br;have HKW:=ar kW;clear kW bx br hb hr;go_enter Tryz.func87,Tryz.ntmps87
 go_upto_region 1 with fail
 rw [← hX,← hW];clear hX hW;go_wp2;go_loopw [9] (fun iv wr=>Bl w wr∧aR wr (X+1) (.string ⟨#[]⟩) (iT 0) nZ nZ nZ (iT 0)∧((iv=iT 0∧aR wr X (.string lg) sf (.slice d0 m0 e0) (.slice d1 m1 e1) (.slice d2 m2 e2) (iT sd))∨(iv=iT 1∧aR wr X (.string t) (iT (t.size:Int)) (.slice d0 m0 e0) (.slice d1 m1 e1) (.slice d2 m2 e2) (iT sd)))) (fun iv _=>1 - (intOf iv).toNat)
 case atStart=>exact ⟨HKW.out,HBR.out,Or.inl ⟨rfl,HBX.out⟩⟩
 case round =>
  obtain ⟨hk,hbr,hcase⟩:=hrel;have HK:=ar hk;have HR:=ar hbr;clear HBX HBR HKW;rcases hcase with ⟨rfl,hbx⟩ | ⟨rfl,hbx⟩
  · have HX1:=ar hbx;have c0:=hbx.all;have cr:=cell_later hk HRW.out;have CS:=yU b t lg sf d0 d1 d2 m0 e0 m1 e1 m2 e2 sd wr (cell_later hk HBW.out);clear hk hbr hbx;go_wp2_with fail
    refine CS.mono ?_;rintro e w2 ⟨rfl,hb2⟩;have HX2:=ar (HX1.out.keep hb2);have HR2:=ar (HR.out.keep hb2);have HK2:Hid (Bl w w2):=HK.out.trans (hb2.mono HK.out.size);have x:=HX2.out;have a0:=x.all;clear hb2 x c0 cr CS HX1 HR HK;go_wp2;go_roundw
    case rel =>
     have hx:w.heap.size≤X:=by have:=HXW.out;omega
     refine ⟨?_,?_,Or.inr ⟨by first | rfl | go_num,?_⟩⟩
     · exact ((mf HK2.out hx _ _ _ _).setCell (p:=⟨X,4,none⟩) hx _).setCell (p:=⟨X,5,none⟩) hx _
     · have hne:X≠X+1:=by omega
       exact (((((HR2.out.other hne _).other hne _).other hne _).other hne _).other hne _).other hne _
     · exact (((((HX2.out.set0 _).set1 _).set2 _).set3 _).set4 _).set5 _
    case measure=>simp [intOf]
  · have HX1:=ar hbx;have c0:=hbx.all;have r0:=hbr.all;clear hk hbr hbx;go_wp2;refine bodyPost_ret (v:=.agg #[.string t,iT (t.size:Int),.slice d0 m0 e0,.slice d1 m1 e1,.slice d2 m2 e2,iT sd]) ?_ rfl ⟨rfl,?_⟩
    · have e:=(((((HR.out.set0 (.string t)).set1 (iT (t.size:Int))).set2 (.slice d0 m0 e0)).set3 (.slice d1 m1 e1)).set4 (.slice d2 m2 e2)).set5 (iT sd);simp [results,Tryz.results87,go_sem,e.all]
    · have hx1:w.heap.size≤X+1:=by have:=HXW.out;omega
      exact ((mf HK.out hx1 _ _ _ _).setCell (p:=⟨X+1,4,none⟩) hx1 _).setCell (p:=⟨X+1,5,none⟩) hx1 _
def OpE (lg:ByteArray) (sd:Int) (d0 d1 d2:Value) (w:World) (e:Ending) (w':World):Prop:=∃(P:List (List ae)) (k g N:Nat) (T:ByteArray),ce lg.data.toList P k∧N=(P.map (aS sd)).flatten.length∧T=⟨(fu (bD sd P)).toArray⟩∧e=.returned (.agg #[.bool true,iT (bh sd P),sL g N N,d0,d1,d2,nZ,.string T,iT (T.size:Int),d0,d1,d2,iT sd])∧an w' (pT g) N N (bg (P.map (aS sd)).flatten)∧Bl w w'
theorem zf (t0 t1 t2 t3 t4 t5:Value) (lg:ByteArray) (sf sd:Int) (d0 d1 d2:Option Addr) (m0 e0 m1 e1 m2 e2:Nat) (w:World) (hlg:lg.size≤1048576) (hE:iy w.heap.size w) (hT:kQ w.heap.size w) :
 Calls Tryz.prog 81 #[.agg #[.bool false,t0,t1,t2,t3,t4,t5,.string lg,iT sf,.slice d0 m0 e0,.slice d1 m1 e1,.slice d2 m2 e2,iT sd]] w (OpE lg sd (.slice d0 m0 e0) (.slice d1 m1 e1) (.slice d2 m2 e2) w):=by
 obtain ⟨X,hX⟩:=aw w.heap.size;obtain ⟨W,hW⟩:=aw ((w.alloc (.cells #[.bool false,t0,t1,t2,t3,t4,t5,.string lg,iT sf,.slice d0 m0 e0,.slice d1 m1 e1,.slice d2 m2 e2,iT sd] 90)).alloc (.cells #[.bool false,iT 0,nZ,nZ,nZ,nZ,nZ,.string ⟨#[]⟩,iT 0,nZ,nZ,nZ,iT 0] 90));have kW:Bl w W:=by rw [hW];exact bZ.alloc (by simp) _
 have bx:aH W X (.bool false) t0 t1 t2 t3 t4 t5 (.string lg) (iT sf) (.slice d0 m0 e0) (.slice d1 m1 e1) (.slice d2 m2 e2) (iT sd):=by rw [hW,hX];exact (aH.new _ _ _ _ _ _ _ _ _ _ _ _ _ _ _).alloc _
 have br:aH W (X+1) (.bool false) (iT 0) nZ nZ nZ nZ nZ (.string ⟨#[]⟩) (iT 0) nZ nZ nZ (iT 0):=by
  have:=aH.new (w.alloc (.cells #[.bool false,t0,t1,t2,t3,t4,t5,.string lg,iT sf,.slice d0 m0 e0,.slice d1 m1 e1,.slice d2 m2 e2,iT sd] 90)) 90 (.bool false) (iT 0) nZ nZ nZ nZ nZ (.string ⟨#[]⟩) (iT 0) nZ nZ nZ (iT 0);rw [World.size_alloc] at this;rw [hW,hX];exact this
 have HXW:=ar hX;have HBX:=ar bx;have HBR:=ar br;have HKW:=ar kW;have CR:=kB lg sf sd d0 d1 d2 m0 e0 m1 e1 m2 e2 W hlg (fun w' kk=>hE w' (kW.trans (kk.mono kW.size))) (fun w' kk=>hT w' (kW.trans (kk.mono kW.size)));have c0:=bx.all;clear kW bx br hE hT;go_enter Tryz.func81,Tryz.ntmps81
 go_upto_region 1 with fail
 rw [← hX,← hW];clear hX hW;go_wp2_with fail
 refine CR.mono ?_;rintro e w1 ⟨P,k,g,N,hwh,hN,rfl,hEn,hb1⟩;have HWH:=ar hwh;have HN:=ar hN;have HE1:=ar hEn;have HB1:=ar hb1;clear hwh hN hEn hb1 CR c0;go_upto_region 4 with fail
 obtain ⟨T,hTT⟩:∃T:ByteArray,T=⟨(fu (bD sd P)).toArray⟩:=⟨_,rfl⟩;have HTT:=ar hTT;obtain ⟨LQ,hLQ⟩:=aw (bh sd P);have HLQ:=ar hLQ;rw [← hTT,← hLQ];obtain ⟨w2,hw2⟩:=aw (w1.alloc (.cells #[iT LQ,sL g N N,.slice d0 m0 e0,.slice d1 m1 e1,.slice d2 m2 e2,nZ] 86));obtain ⟨Y,hY⟩:=aw w1.heap.size;have k2:Bl w1 w2:=by rw [hw2];exact bZ
 have HK2:Hid (Bl W w2):=HB1.out.trans (k2.mono HB1.out.size);have by2:aR w2 Y (iT LQ) (sL g N N) (.slice d0 m0 e0) (.slice d1 m1 e1) (.slice d2 m2 e2) nZ:=by rw [hw2,hY];exact aR.new _ _ _ _ _ _ _ _
 have HBY:=ar by2;have HE2:=ar (HE1.out.keep k2);have hyx:Y≠X+1:=by
  have h1:=HBR.out.lt;have h2:=HB1.out.size;omega
 have HYX:=ar hyx;have HXL:=ar (HBX.out.keep HK2.out);have HRL:=ar (HBR.out.keep HK2.out);have HMK:Hid (∀w',Bl w2 w'→(w'.cell? ⟨Y,0,none⟩=some (iT LQ)∧w'.cell? ⟨Y,1,none⟩=some (sL g N N)∧w'.cell? ⟨Y,2,none⟩=some (.slice d0 m0 e0)∧w'.cell? ⟨Y,3,none⟩=some (.slice d1 m1 e1)∧w'.cell? ⟨Y,4,none⟩=some (.slice d2 m2 e2)∧w'.cell? ⟨Y,5,none⟩=some nZ∧w'.cell? ⟨X,7,none⟩=some (.string lg)∧w'.cell? ⟨X,8,none⟩=some (iT sf)∧w'.cell? ⟨X,9,none⟩=some (.slice d0 m0 e0)∧w'.cell? ⟨X,10,none⟩=some (.slice d1 m1 e1)∧w'.cell? ⟨X,11,none⟩=some (.slice d2 m2 e2)∧w'.cell? ⟨X,12,none⟩=some (iT sd)∧Y<w'.heap.size∧X<w'.heap.size)):=fun w' k=>⟨cell_later k by2.c0,cell_later k by2.c1,cell_later k by2.c2,cell_later k by2.c3,cell_later k by2.c4,cell_later k by2.c5,cell_later k HXL.out.c7,cell_later k HXL.out.c8,cell_later k HXL.out.c9,cell_later k HXL.out.c10,cell_later k HXL.out.c11,cell_later k HXL.out.c12,Nat.lt_of_lt_of_le by2.lt k.size,Nat.lt_of_lt_of_le HXL.out.lt k.size⟩
 rw [← hw2,← hY];have k0:Bl w2 w2.drew:=(Below.refl _ w2).drew;clear hw2 hY k2 by2 hyx hTT hLQ HE1;refine dC HMK k0 fun aa=>?_
 generalize w2.drew=wd at k0 aa ⊢;refine aK 0 4 aa ?_;refine aP 4 fun K hK=>?_
 go_simp;refine (pV T wd).mono ?_;rintro e w3 ⟨b,rfl,hcb,hb3⟩;have K3:Hid (Bl w2 w3):=k0.trans (hb3.mono k0.size);have HCB:=ar hcb;clear hcb hb3;go_wp2_with fail
 refine hK.out _ _ (HMK.out _ K3.out) fun aa=>?_
 (try go_frame);refine aP 5 fun K hK=>?_
 go_simp;have k4:Bl w3 (w3.alloc (.cells #[.func (.func 143) #[] #[.pointer (pT b)]] 99)):=bZ;have K4:=ar (K3.out.trans (k4.mono K3.out.size));have HCR:Hid ((w3.alloc (.cells #[.func (.func 143) #[] #[.pointer (pT b)]] 99)).cell? ⟨w3.heap.size,0,none⟩=some (.func (.func 143) #[] #[.pointer (pT b)])):=by show _=_;simp
 have HCB4:=ar (cell_later k4 HCB.out);refine hK.out _ _ (HMK.out _ K4.out) fun aa=>?_
 (try go_frame);generalize w3.alloc (.cells #[.func (.func 143) #[] #[.pointer (pT b)]] 99)=w4 at k4 K4 HCR HCB4 aa ⊢;generalize w3.heap.size=r at HCR ⊢;clear k4 HCB;refine aP 6 fun K hK=>?_
 go_simp;refine (xt r b T lg (iT sf) d0 d1 d2 m0 e0 m1 e1 m2 e2 sd w4 HCB4.out HCR.out).mono ?_;rintro e w5 ⟨rfl,hb5⟩;have K5:Hid (Bl w2 w5):=K4.out.trans (hb5.mono K4.out.size);clear hb5;go_wp2_with fail
 refine hK.out _ _ (HMK.out _ K5.out) fun aa=>?_
 (try go_frame);refine aK 7 1 aa ?_;have hr:=HRL.out.keep K5.out;have r0:=hr.c0;have r1:=hr.c1;have r2:=hr.c2;have r3:=hr.c3;have r4:=hr.c4;have r5:=hr.c5;have r6:=hr.c6;have r7:=hr.c7;have r8:=hr.c8;have r9:=hr.c9;have r10:=hr.c10;have r11:=hr.c11;have r12:=hr.c12;have rf:=hr.fz;have rz:=hr.lt;refine aP 8 fun K hK=>?_
 go_simp;have hne:X≠X+1:=by omega
 have hyx:=HYX.out;have HE5:=ar (HE2.out.keep K5.out);have hxg:∀x,(some ⟨g,0,none⟩:Option Addr)=some x→0<N→x.block≠X+1:=by
  intro x ex hN0 hx;cases ex;have hx':g=X+1:=hx;subst hx';obtain ⟨es,eq,ed,et,en,_,_,e0',_⟩:=HE5.out.ent (Below.refl _ w5) hr.lt 0 hN0;have e1:w5.cell? ⟨X+1,0,none⟩=some (.string es):=by simpa using e0'
  rw [r0] at e1;cases e1
 obtain ⟨wz,hwz⟩:=aw ((((((((((((((w5.setCell ⟨X+1,0,none⟩ (.bool true)).setCell ⟨X+1,1,none⟩ (iT LQ)).setCell ⟨X+1,2,none⟩ (sL g N N)).setCell ⟨X+1,3,none⟩ (.slice d0 m0 e0)).setCell ⟨X+1,4,none⟩ (.slice d1 m1 e1)).setCell ⟨X+1,5,none⟩ (.slice d2 m2 e2)).setCell ⟨X+1,6,none⟩ nZ).setCell ⟨X+1,7,none⟩ (.string T)).setCell ⟨X+1,8,none⟩ (iT (T.size:Int))).setCell ⟨X+1,9,none⟩ (.slice d0 m0 e0)).setCell ⟨X+1,10,none⟩ (.slice d1 m1 e1)).setCell ⟨X+1,11,none⟩ (.slice d2 m2 e2)).setCell ⟨X+1,12,none⟩ (iT sd)));have HEZ:Hid (an wz (pT g) N N (bg (P.map (aS sd)).flatten)):=by
  rw [hwz];exact lW HE5.out hxg (.bool true) (iT LQ) (sL g N N) (.slice d0 m0 e0) (.slice d1 m1 e1) (.slice d2 m2 e2) nZ (.string T) (iT (T.size:Int)) (.slice d0 m0 e0) (.slice d1 m1 e1) (.slice d2 m2 e2) (iT sd)
 have HRZ:Hid (aH wz (X+1) (.bool true) (iT LQ) (sL g N N) (.slice d0 m0 e0) (.slice d1 m1 e1) (.slice d2 m2 e2) nZ (.string T) (iT (T.size:Int)) (.slice d0 m0 e0) (.slice d1 m1 e1) (.slice d2 m2 e2) (iT sd)):=by rw [hwz];exact hr.sets (.bool true) (iT LQ) (sL g N N) (.slice d0 m0 e0) (.slice d1 m1 e1) (.slice d2 m2 e2) nZ (.string T) (iT (T.size:Int)) (.slice d0 m0 e0) (.slice d1 m1 e1) (.slice d2 m2 e2) (iT sd)
 have HKZ:Hid (Bl w wz):=by
  rw [hwz];exact cn (HKW.out.trans (K5.out.mono (Nat.le_refl _) |> fun k=>(HK2.out.trans (k.mono HK2.out.size)).mono HKW.out.size)) (by have:=HXW.out;omega) (.bool true) (iT LQ) (sL g N N) (.slice d0 m0 e0) (.slice d1 m1 e1) (.slice d2 m2 e2) nZ (.string T) (iT (T.size:Int)) (.slice d0 m0 e0) (.slice d1 m1 e1) (.slice d2 m2 e2) (iT sd)
 have hcY:∀o,wz.cell? ⟨Y,o,none⟩=w5.cell? ⟨Y,o,none⟩:=fun o=>by rw [hwz];exact cE hyx (.bool true) (iT LQ) (sL g N N) (.slice d0 m0 e0) (.slice d1 m1 e1) (.slice d2 m2 e2) nZ (.string T) (iT (T.size:Int)) (.slice d0 m0 e0) (.slice d1 m1 e1) (.slice d2 m2 e2) (iT sd)
 have hcX:∀o,wz.cell? ⟨X,o,none⟩=w5.cell? ⟨X,o,none⟩:=fun o=>by rw [hwz];exact cE hne (.bool true) (iT LQ) (sL g N N) (.slice d0 m0 e0) (.slice d1 m1 e1) (.slice d2 m2 e2) nZ (.string T) (iT (T.size:Int)) (.slice d0 m0 e0) (.slice d1 m1 e1) (.slice d2 m2 e2) (iT sd)
 have hsz:wz.heap.size=w5.heap.size:=by rw [hwz];exact eH w5 (X+1) (.bool true) (iT LQ) (sL g N N) (.slice d0 m0 e0) (.slice d1 m1 e1) (.slice d2 m2 e2) nZ (.string T) (iT (T.size:Int)) (.slice d0 m0 e0) (.slice d1 m1 e1) (.slice d2 m2 e2) (iT sd)
 have hS:=HMK.out _ K5.out;rw [← hcY,← hcY,← hcY,← hcY,← hcY,← hcY,← hcX,← hcX,← hcX,← hcX,← hcX,← hcX,← hsz] at hS;rw [← hwz];clear hwz hcY hcX hsz r0 r1 r2 r3 r4 r5 r6 r7 r8 r9 r10 r11 r12 rf rz hr hne hyx hxg;refine hK.out _ _ hS fun aa=>?_
 (try go_frame);refine dN ?_;go_wp2;refine bodyPost_ret (v:=.agg #[.bool true,iT LQ,sL g N N,.slice d0 m0 e0,.slice d1 m1 e1,.slice d2 m2 e2,nZ,.string T,iT (T.size:Int),.slice d0 m0 e0,.slice d1 m1 e1,.slice d2 m2 e2,iT sd]) ?_ rfl ?_
 · have e:=HRZ.out;simp [results,Tryz.results81,go_sem,e.all]
 · exact ⟨P,k,g,N,T,HWH.out,HN.out,HTT.out,by rw [HLQ.out],HEZ.out,HKZ.out⟩
end Go.Proofs.YtehiefdphnljaaaGreatDoor
