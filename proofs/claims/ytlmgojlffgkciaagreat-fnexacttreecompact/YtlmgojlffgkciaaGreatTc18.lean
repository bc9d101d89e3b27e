/-
  The laws' copy of a tree, by a walk of its Go text; boxes of four cells.
-/
import Derived.Test.YtlmgojlffgkciaaGreatTc17
namespace Go.Proofs.YtlmgojlffgkciaaGreat
open Go.RowKit
structure aF (w:World) (b:Nat) (u0 u1 u2 u3:Value):Prop where
 c0:w.cell? ⟨b,0,none⟩=some u0
 c1:w.cell? ⟨b,1,none⟩=some u1
 c2:w.cell? ⟨b,2,none⟩=some u2
 c3:w.cell? ⟨b,3,none⟩=some u3
 fz:∀o,w.frozen? ⟨b,o,none⟩=false
theorem aF.lt {w:World} {b:Nat} {u0 u1 u2 u3:Value} (h:aF w b u0 u1 u2 u3):b<w.heap.size:=World.block_lt_of_cell? w _ h.c0
theorem aF.new (w:World) (t:TypeId) (u0 u1 u2 u3:Value):aF (w.alloc (.cells #[u0,u1,u2,u3] t)) w.heap.size u0 u1 u2 u3:=⟨by simp,by simp,by simp,by simp,fun o=>by simp⟩
theorem aF.below {B:Nat} {w w':World} {b:Nat} {u0 u1 u2 u3:Value} (h:aF w b u0 u1 u2 u3) (hb:Below B w w') (hB:b<B):aF w' b u0 u1 u2 u3 :=
 ⟨(hb.cell (p:=⟨b,0,none⟩) hB).trans h.c0,(hb.cell (p:=⟨b,1,none⟩) hB).trans h.c1,(hb.cell (p:=⟨b,2,none⟩) hB).trans h.c2,(hb.cell (p:=⟨b,3,none⟩) hB).trans h.c3,fun o=>(hb.frozen (p:=⟨b,o,none⟩) hB).trans (h.fz o)⟩
theorem aF.keep {w w':World} {b:Nat} {u0 u1 u2 u3:Value} (h:aF w b u0 u1 u2 u3) (hb:Bl w w'):aF w' b u0 u1 u2 u3:=h.below hb h.lt
theorem aF.alloc {w:World} {b:Nat} {u0 u1 u2 u3:Value} (h:aF w b u0 u1 u2 u3) (o:Obj):aF (w.alloc o) b u0 u1 u2 u3:=h.keep bZ
theorem au {w:World} {b o b' o':Nat} (x:Value) (h:¬(b=b'∧o=o')):(w.setCell ⟨b',o',none⟩ x).cell? ⟨b,o,none⟩=w.cell? ⟨b,o,none⟩ :=
 World.cell?_setCell_other _ _ _ _ (fun e=>h (by cases e;exact ⟨rfl,rfl⟩))
theorem aF.other {w:World} {b:Nat} {u0 u1 u2 u3:Value} (h:aF w b u0 u1 u2 u3) {b' o:Nat} (hp:b'≠b) (x:Value):aF (w.setCell ⟨b',o,none⟩ x) b u0 u1 u2 u3 :=
 ⟨(au x (fun e=>hp e.1.symm)).trans h.c0,(au x (fun e=>hp e.1.symm)).trans h.c1,(au x (fun e=>hp e.1.symm)).trans h.c2,(au x (fun e=>hp e.1.symm)).trans h.c3,fun o=>by rw [World.frozen?_setCell];exact h.fz o⟩
theorem aF.set0 {w:World} {b:Nat} {u0 u1 u2 u3:Value} (h:aF w b u0 u1 u2 u3) (x:Value):aF (w.setCell ⟨b,0,none⟩ x) b x u1 u2 u3 :=
 ⟨World.cell?_setCell_same' _ _ _ (by rw [h.c0];rfl),(au x (by simp)).trans h.c1,(au x (by simp)).trans h.c2,(au x (by simp)).trans h.c3,fun o=>by rw [World.frozen?_setCell];exact h.fz o⟩
theorem aF.set1 {w:World} {b:Nat} {u0 u1 u2 u3:Value} (h:aF w b u0 u1 u2 u3) (x:Value):aF (w.setCell ⟨b,1,none⟩ x) b u0 x u2 u3 :=
 ⟨(au x (by simp)).trans h.c0,World.cell?_setCell_same' _ _ _ (by rw [h.c1];rfl),(au x (by simp)).trans h.c2,(au x (by simp)).trans h.c3,fun o=>by rw [World.frozen?_setCell];exact h.fz o⟩
theorem aF.set2 {w:World} {b:Nat} {u0 u1 u2 u3:Value} (h:aF w b u0 u1 u2 u3) (x:Value):aF (w.setCell ⟨b,2,none⟩ x) b u0 u1 x u3 :=
 ⟨(au x (by simp)).trans h.c0,(au x (by simp)).trans h.c1,World.cell?_setCell_same' _ _ _ (by rw [h.c2];rfl),(au x (by simp)).trans h.c3,fun o=>by rw [World.frozen?_setCell];exact h.fz o⟩
theorem aF.set3 {w:World} {b:Nat} {u0 u1 u2 u3:Value} (h:aF w b u0 u1 u2 u3) (x:Value):aF (w.setCell ⟨b,3,none⟩ x) b u0 u1 u2 x :=
 ⟨(au x (by simp)).trans h.c0,(au x (by simp)).trans h.c1,(au x (by simp)).trans h.c2,World.cell?_setCell_same' _ _ _ (by rw [h.c3];rfl),fun o=>by rw [World.frozen?_setCell];exact h.fz o⟩
def ToR (q:Int) (nm nv ns:Nat) (M:List ac) (V:List (List ae)) (S:List Int) (w:World) (e:Ending) (w':World):Prop :=
 ∃b1 b2 b3:Nat,e=.returned (.agg #[iT q,sL b1 nm nm,sL b2 nv nv,sL b3 ns ns])∧aM w.heap.size w' (pT b1) nm nm (pT b2) nv nv (pT b3) ns ns M V S∧Bl w w'
set_option maxHeartbeats 1600000 in
theorem uh (q:Int) (lo:Nat) (am av ak:Option Addr) (nm cm nv cv ns cs:Nat) (M:List ac) (V:List (List ae)) (S:List Int) (w:World) (h:aM lo w am nm cm av nv cv ak ns cs M V S) (hs:rO M V S) :
 Calls Tryz.prog 12 #[.agg #[iT q,.slice am nm cm,.slice av nv cv,.slice ak ns cs]] w (ToR q nm nv ns M V S w):=by
 obtain ⟨X,hX⟩:=ay w.heap.size;obtain ⟨W,hW⟩:=ay (((w.alloc (.cells #[iT q,.slice am nm cm,.slice av nv cv,.slice ak ns cs] 26)).alloc (.cells #[iT 0,nZ,nZ,nZ] 31)).alloc (.cells #[iT q,nZ,nZ,nZ] 31));have kW:Bl w W:=by rw [hW];exact (bZ.alloc (by simp) _).alloc (by simp;omega) _
 have bp:aF W X (iT q) (.slice am nm cm) (.slice av nv cv) (.slice ak ns cs):=by rw [hW,hX];exact ((aF.new _ _ _ _ _ _).alloc _).alloc _
 have br:aF W (X+1) (iT 0) nZ nZ nZ:=by
  have:=(aF.new (w.alloc (.cells #[iT q,.slice am nm cm,.slice av nv cv,.slice ak ns cs] 26)) 31 (iT 0) nZ nZ nZ).alloc (.cells #[iT q,nZ,nZ,nZ] 31);rw [World.size_alloc] at this;rw [hW,hX];exact this
 have bo:aF W (X+1+1) (iT q) nZ nZ nZ:=by
  have:=aF.new ((w.alloc (.cells #[iT q,.slice am nm cm,.slice av nv cv,.slice ak ns cs] 26)).alloc (.cells #[iT 0,nZ,nZ,nZ] 31)) 31 (iT q) nZ nZ nZ;rw [World.size_alloc,World.size_alloc] at this;rw [hW,hX];exact this
 have hsz:W.heap.size=X+1+1+1:=by rw [hW,hX];simp
 have H:=bc h;have HS:=bc hs;have hnm:nm≤1048576:=by have:=h.mem.1.length;have:=hs.1;omega
 have hns:ns≤1048576:=by have:=h.snaps.length;have:=hs.2.2;omega
 have HX:Hid (X=w.heap.size):=hX;have HK:Hid (Bl w W):=kW;clear h hs kW;go_enter Tryz.func12,Tryz.ntmps12
 go_wp2_with fail
 rw [← hX,← hW];clear hX hW;refine (nL _ _ _ M _ (H.out.keep HK.out).mem.1 hnm).mono ?_;rintro e w1 ⟨rfl,hE1,_,hb1⟩;obtain ⟨b1,hbe1⟩:=ay W.heap.size;rw [← hbe1] at hE1 ⊢;obtain ⟨W1,hW1⟩:=ay (w1.setCell ⟨X+1+1,1,none⟩ (sL b1 nm nm));have bo1:aF W1 (X+1+1) (iT q) (sL b1 nm nm) nZ nZ:=by rw [hW1];exact (bo.keep hb1).set1 _
 have bp1:aF W1 X (iT q) (.slice am nm cm) (.slice av nv cv) (.slice ak ns cs):=by rw [hW1];exact (bp.keep hb1).other (by omega) _
 have br1:aF W1 (X+1) (iT 0) nZ nZ nZ:=by rw [hW1];exact (br.keep hb1).other (by omega) _
 have K1:Hid (Bl w W1):=by rw [hW1];exact (HK.out.trans (hb1.mono HK.out.size)).setCell (p:=⟨X+1+1,1,none⟩) (by show w.heap.size≤X+1+1;have:=HX.out;omega) _
 have S1:Hid (bz (X+3) W W1):=by rw [hW1];exact (bz.of_below hb1).trans (bz.of_set _ _ (by show X+1+1<X+3;omega))
 have hsz1:X+3≤W1.heap.size:=by have:=S1.out.1;omega
 have E1:Hid (cQ (X+3) W1 (pT b1) nm nm M):=by rw [hW1];exact cQ.same ⟨hE1,fun x e _=>by cases e;show X+3≤b1;omega⟩ (bz.of_set _ _ (by show X+1+1<X+3;omega))
 have vo:=(bo.keep hb1).c1;have vf:=(bo.keep hb1).fz;have vp:=(bp.keep hb1).c2;have vz:=(bo.keep hb1).lt;have vz':X<w1.heap.size:=by omega
 clear hb1 bo bp br hE1 hbe1;go_wp2_with fail
 rw [← hW1];clear hW1 vo vf vp vz vz';refine (rZ lo _ _ _ V _ (H.out.keep K1.out).levels HS.out.2.1).mono ?_;rintro e w2 ⟨rfl,hE2,_,hb2⟩;obtain ⟨b2,hbe2⟩:=ay W1.heap.size;rw [← hbe2] at hE2 ⊢;obtain ⟨W2,hW2⟩:=ay (w2.setCell ⟨X+1+1,2,none⟩ (sL b2 nv nv));have bo2:aF W2 (X+1+1) (iT q) (sL b1 nm nm) (sL b2 nv nv) nZ:=by rw [hW2];exact (bo1.keep hb2).set2 _
 have bp2:aF W2 X (iT q) (.slice am nm cm) (.slice av nv cv) (.slice ak ns cs):=by rw [hW2];exact (bp1.keep hb2).other (by omega) _
 have br2:aF W2 (X+1) (iT 0) nZ nZ nZ:=by rw [hW2];exact (br1.keep hb2).other (by omega) _
 have K2:Hid (Bl w W2):=by rw [hW2];exact (K1.out.trans (hb2.mono K1.out.size)).setCell (p:=⟨X+1+1,2,none⟩) (by show w.heap.size≤X+1+1;have:=HX.out;omega) _
 have S2:Hid (bz (X+3) W1 W2):=by rw [hW2];exact (bz.of_below hb2).trans (bz.of_set _ _ (by show X+1+1<X+3;omega))
 have hsz2:X+3≤W2.heap.size:=by have:=S2.out.1;omega
 have E2:Hid (aX (X+3) W2 (pT b2) nv nv V):=by rw [hW2];exact aX.same (hE2.mono (by omega)) (bz.of_set _ _ (by show X+1+1<X+3;omega))
 have E1:Hid (cQ (X+3) W2 (pT b1) nm nm M):=E1.out.same S2.out;have vo:=(bo1.keep hb2).c2;have vf:=(bo1.keep hb2).fz;have vp:=(bp1.keep hb2).c3;have vz:=(bo1.keep hb2).lt;have vz':X<w2.heap.size:=by omega
 clear hb2 bo1 bp1 br1 hE2 hbe2;go_wp2_with fail
 rw [← hW2];clear hW2 vo vf vp vz vz';refine (uk lo _ _ _ S _ (H.out.keep K2.out).snaps hns).mono ?_;rintro e w3 ⟨rfl,hE3,_,hb3⟩;obtain ⟨b3,hbe3⟩:=ay W2.heap.size;rw [← hbe3] at hE3 ⊢;obtain ⟨W3,hW3⟩:=ay (w3.setCell ⟨X+1+1,3,none⟩ (sL b3 ns ns));have bo3:aF W3 (X+1+1) (iT q) (sL b1 nm nm) (sL b2 nv nv) (sL b3 ns ns):=by rw [hW3];exact (bo2.keep hb3).set3 _
 have bp3:aF W3 X (iT q) (.slice am nm cm) (.slice av nv cv) (.slice ak ns cs):=by rw [hW3];exact (bp2.keep hb3).other (by omega) _
 have br3:aF W3 (X+1) (iT 0) nZ nZ nZ:=by rw [hW3];exact (br2.keep hb3).other (by omega) _
 have K3:Hid (Bl w W3):=by rw [hW3];exact (K2.out.trans (hb3.mono K2.out.size)).setCell (p:=⟨X+1+1,3,none⟩) (by show w.heap.size≤X+1+1;have:=HX.out;omega) _
 have S3:Hid (bz (X+3) W2 W3):=by rw [hW3];exact (bz.of_below hb3).trans (bz.of_set _ _ (by show X+1+1<X+3;omega))
 have hsz3:X+3≤W3.heap.size:=by have:=S3.out.1;omega
 have E3:Hid (aT (X+3) W3 (pT b3) ns ns S):=by rw [hW3];exact aT.same (hE3.lower (by omega)) (bz.of_set _ _ (by show X+1+1<X+3;omega))
 have E1:Hid (cQ (X+3) W3 (pT b1) nm nm M):=E1.out.same S3.out;have E2:Hid (aX (X+3) W3 (pT b2) nv nv V):=E2.out.same S3.out;have vo:=(bo2.keep hb3).c3;have vo0:=(bo2.keep hb3).c0;have vo1:=(bo2.keep hb3).c1;have vo2:=(bo2.keep hb3).c2;have vf:=(bo2.keep hb3).fz;have vr0:=(br2.keep hb3).c0;have vr1:=(br2.keep hb3).c1;have vr2:=(br2.keep hb3).c2;have vr3:=(br2.keep hb3).c3;have vrf:=(br2.keep hb3).fz;have vz:=(bo2.keep hb3).lt;have vz':X+1<w3.heap.size:=by omega
 clear hb3 bo2 bp2 br2 hE3 hbe3;go_wp2;rw [← hW3];refine bodyPost_ret (v:=.agg #[iT q,sL b1 nm nm,sL b2 nv nv,sL b3 ns ns]) ?_ rfl ⟨b1,b2,b3,rfl,?_,?_⟩
 · have c0:=(((br3.set0 (iT q)).set1 (sL b1 nm nm)).set2 (sL b2 nv nv)).set3 (sL b3 ns ns);simp [results,Tryz.results12,go_sem,c0.c0,c0.c1,c0.c2,c0.c3]
 · have hm:bz (X+3) W3 ((((W3.setCell ⟨X+1,0,none⟩ (iT q)).setCell ⟨X+1,1,none⟩ (sL b1 nm nm)).setCell ⟨X+1,2,none⟩ (sL b2 nv nv)).setCell ⟨X+1,3,none⟩ (sL b3 ns ns)):=(((bz.of_set _ _ (by show X+1<X+3;omega)).trans (bz.of_set _ _ (by show X+1<X+3;omega))).trans (bz.of_set _ _ (by show X+1<X+3;omega))).trans (bz.of_set _ _ (by show X+1<X+3;omega));have hx:=HX.out;exact ⟨(E1.out.same hm).mono (by omega),(E2.out.same hm).mono (by omega),(E3.out.same hm).lower (by omega)⟩
 · have hx:w.heap.size≤X+1:=by have:=HX.out;omega
   exact li K3.out hx _ _ _ _
end Go.Proofs.YtlmgojlffgkciaaGreat
