/-
  What the program's StoreFall answers, by a walk of its Go text.
-/
import Derived.Test.YtgpcinihgofmfaaGreatDoorStXImFall
namespace Go.Proofs.YtgpcinihgofmfaaGreatDoor
open Go.RowKit
set_option maxRecDepth 100000
set_option maxHeartbeats 8000000
theorem iX (up:Bool) (q:Int) (am av ak dv:Option Addr) (nm cm nv cv ns cs nd cd:Nat) (lg:ByteArray) (sf sd:Int) (keep:Int) (u:Bool) (z:Int) (M:List ae) (V:List (List aj)) (S:List Int) (T:ByteArray) (f d:Int) (U:List (List aj)) (w:World) (HW:∀w',Bl w w'→Calls Tryz.prog 32 #[.agg #[.bool up,iT q,.slice am nm cm,.slice av nv cv,.slice ak ns cs,.string lg,iT sf,.slice dv nd cd,iT sd],iT keep,.func (.func 33) #[] #[]] w' (gU u z M V S T f d U w')) :
 Calls Tryz.prog 14 #[.agg #[.bool up,iT q,.slice am nm cm,.slice av nv cv,.slice ak ns cs,.string lg,iT sf,.slice dv nd cd,iT sd],iT keep] w (gU u z M V S T f d U w):=by
 obtain ⟨X,hX⟩:=aw w.heap.size;obtain ⟨W,hW⟩:=aw ((w.alloc (.cells #[.bool up,iT q,.slice am nm cm,.slice av nv cv,.slice ak ns cs,.string lg,iT sf,.slice dv nd cd,iT sd] 39)).alloc (.cells #[.bool false,iT 0,nZ,nZ,nZ,.string ⟨#[]⟩,iT 0,nZ,iT 0] 39));have kW:Bl w W:=by rw [hW];exact bZ.alloc (by simp) _
 have bx:aA W X (.bool up) (iT q) (.slice am nm cm) (.slice av nv cv) (.slice ak ns cs) (.string lg) (iT sf) (.slice dv nd cd) (iT sd):=by rw [hW,hX];exact (aA.new _ _ _ _ _ _ _ _ _ _ _).alloc _
 have br:aA W (X+1) (.bool false) (iT 0) nZ nZ nZ (.string ⟨#[]⟩) (iT 0) nZ (iT 0):=by
  have:=aA.new (w.alloc (.cells #[.bool up,iT q,.slice am nm cm,.slice av nv cv,.slice ak ns cs,.string lg,iT sf,.slice dv nd cd,iT sd] 39)) 39 (.bool false) (iT 0) nZ nZ nZ (.string ⟨#[]⟩) (iT 0) nZ (iT 0);rw [World.size_alloc] at this;rw [hW,hX];exact this
 have HXW:=ar hX;have HKW:=ar kW;have HBX:=ar bx;have HBR:=ar br;have CW:=HW W kW;have x0:=bx.c0;have x1:=bx.c1;have x2:=bx.c2;have x3:=bx.c3;have x4:=bx.c4;have x5:=bx.c5;have x6:=bx.c6;have x7:=bx.c7;have x8:=bx.c8;have xz:=bx.lt;have hx1:w.heap.size≤X+1:=by have:=HXW.out;omega
 have HX1L:=ar hx1;clear kW bx br HW hx1;go_enter Tryz.func14,Tryz.ntmps14
 go_upto_region 1 with fail
 rw [← hX,← hW];clear hX hW;go_wp2_with fail
 refine CW.mono ?_;rintro e w1 ⟨rm,rn,rv,rnv,rk,rns,rd,rnd,rx,rfl,hR1,hb1⟩;have HR1:=ar hR1;have KB1:=ar hb1;have K1:Hid (Bl w w1):=HKW.out.trans (hb1.mono HKW.out.size);have HB1:=ar (HBR.out.keep hb1);have HLO:Hid (X+1+1≤W.heap.size∧w.heap.size≤W.heap.size):=⟨HBR.out.lt,HKW.out.size⟩;clear hR1 hb1 CW x0 x1 x2 x3 x4 x5 x6 x7 x8 xz;have r9:=HB1.out;have u0:=r9.c0;have u1:=r9.c1;have u2:=r9.c2;have u3:=r9.c3;have u4:=r9.c4;have u5:=r9.c5;have u6:=r9.c6;have u7:=r9.c7;have u8:=r9.c8;have uf:=r9.fz;have uz:=r9.lt;obtain ⟨wf,hwf⟩:=aw (((((((((w1.setCell ⟨X+1,0,none⟩ (.bool u)).setCell ⟨X+1,1,none⟩ (iT z)).setCell ⟨X+1,2,none⟩ (.slice rm rn rn)).setCell ⟨X+1,3,none⟩ (.slice rv rnv rnv)).setCell ⟨X+1,4,none⟩ (.slice rk rns rns)).setCell ⟨X+1,5,none⟩ (.string T)).setCell ⟨X+1,6,none⟩ (iT f)).setCell ⟨X+1,7,none⟩ (.slice rd rnd rnd)).setCell ⟨X+1,8,none⟩ (iT d));have HRF:Hid (aA wf (X+1) (.bool u) (iT z) (.slice rm rn rn) (.slice rv rnv rnv) (.slice rk rns rns) (.string T) (iT f) (.slice rd rnd rnd) (iT d)):=by rw [hwf];exact r9.sets (.bool u) (iT z) (.slice rm rn rn) (.slice rv rnv rnv) (.slice rk rns rns) (.string T) (iT f) (.slice rd rnd rnd) (iT d)
 have KF:Hid (Bl w wf):=by rw [hwf];exact bh K1.out HX1L.out (.bool u) (iT z) (.slice rm rn rn) (.slice rv rnv rnv) (.slice rk rns rns) (.string T) (iT f) (.slice rd rnd rnd) (iT d)
 have KO:Hid (aG (X+1) (X+1+1) w1 wf):=by rw [hwf];exact bY w1 (X+1) (.bool u) (iT z) (.slice rm rn rn) (.slice rv rnv rnv) (.slice rk rns rns) (.string T) (iT f) (.slice rd rnd rnd) (iT d)
 have HWF:=ar hwf;clear hwf r9;go_wp2;rw [← HWF.out];refine bodyPost_ret (v:=.agg #[.bool u,iT z,.slice rm rn rn,.slice rv rnv rnv,.slice rk rns rns,.string T,iT f,.slice rd rnd rnd,iT d]) ?_ rfl ?_
 · have e:=HRF.out;simp [results,Tryz.results14,go_sem,e.c0,e.c1,e.c2,e.c3,e.c4,e.c5,e.c6,e.c7,e.c8]
 · exact ⟨rm,rn,rv,rnv,rk,rns,rd,rnd,rx,rfl,(HR1.out.keepO KO.out HLO.out.1).widen HLO.out.2 KO.out.size,KF.out⟩
end Go.Proofs.YtgpcinihgofmfaaGreatDoor
