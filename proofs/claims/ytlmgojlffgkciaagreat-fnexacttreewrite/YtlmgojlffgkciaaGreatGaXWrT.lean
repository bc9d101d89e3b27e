/-
  The document's TreeWrite: what it answers, by a walk of its Go text.
-/
import Derived.Test.YtlmgojlffgkciaaGreatGaXWrS
namespace Go.Proofs.YtlmgojlffgkciaaGreat
open Go.RowKit
set_option maxRecDepth 100000
set_option maxHeartbeats 8000000
theorem specTreeWriteG (lo : Nat) (q : Int) (b1 nm cm : Nat) (av : Option Addr) (cv b3 ns cs : Nat) (M : List EntD) (V : List (List RunD)) (S : List Int) (ab : Option Addr) (nb cb : Nat) (q2 : Int) (M2 : List EntD) (V2 : List (List RunD)) (S2 : List Int) (ok : Bool) (w : World) (hT : TreeIn lo w (some ⟨b1, 0, none⟩) nm cm av 3 cv (some ⟨b3, 0, none⟩) ns cs M V S) (htb : treeB q M V S = true)
    (hC : ∀ (base g1 c1 G c g3 c3 : Nat) (w' : World), CopyG base w' g1 nm c1 G 3 c g3 ns c3 M V S → base ≤ w'.heap.size → Below w.heap.size w w' → Calls Tryz.prog 56 #[.agg #[.int .i64 q, .slice (some ⟨g1, 0, none⟩) nm c1, .slice (some ⟨G, 0, none⟩) 3 c, .slice (some ⟨g3, 0, none⟩) ns c3], .slice ab nb cb] w' (DocRL base q2 M2 V2 S2 ok w')) :
    Calls Tryz.prog 23 #[.agg #[.int .i64 q, .slice (some ⟨b1, 0, none⟩) nm cm, .slice av 3 cv, .slice (some ⟨b3, 0, none⟩) ns cs], .slice ab nb cb] w (DocR q2 M2 V2 S2 ok w) := by
  have hsl := hT.snaps.length
  have hns : ns ≤ 4 := by
    have h1 := (tree_parts htb).2.2.2.2.2.2.1
    unfold snapsB at h1
    rw [Bool.and_eq_true] at h1
    have h2 := of_decide_eq_true h1.1
    omega
  have hnm : nm ≤ 60 := by have h1 := (tree_parts htb).2.2.1; have h2 := hT.mem.1.length; omega
  obtain ⟨A, B, C, hV3⟩ := three_of htb
  have hnv : 3 ≤ 100 := by have h1 := hT.levels.length; rw [hV3] at h1; have h2 : ([A, B, C] : List (List RunD)).length = 3 := rfl; omega
  have hlv : ∀ B ∈ V, B.length ≤ 100 ∧ ∀ r ∈ B, 1 ≤ r.1.length ∧ r.1.length ≤ 10000 := by
    have h8 : levelsB V q = true := (tree_parts htb).2.2.2.2.2.2.2.1
    rw [hV3] at h8 ⊢
    unfold levelsB at h8
    simp only [Bool.and_eq_true] at h8
    intro Z hZm
    simp only [List.mem_cons, List.not_mem_nil, or_false] at hZm
    rcases hZm with rfl | rfl | rfl
    · exact runs_small h8.1 (by omega)
    · exact runs_small h8.2.1 (by omega)
    · exact runs_small h8.2.2 (by omega)
  have CO : Hid (∀ w', Below w.heap.size w w' → Calls Tryz.prog 37 #[.agg #[.int .i64 q, .slice (some ⟨b1, 0, none⟩) nm cm, .slice av 3 cv, .slice (some ⟨b3, 0, none⟩) ns cs]] w' fun e w'' => e = .returned (.bool true) ∧ Below w'.heap.size w' w'') := fun w' k => by
    have := specTreeOk lo q _ _ _ _ _ _ _ _ _ M V S w' (hT.keep k)
    rw [htb] at this
    exact this
  have CC : Hid (∀ w', Below w.heap.size w w' → Calls Tryz.prog 38 #[.agg #[.int .i64 q, .slice (some ⟨b1, 0, none⟩) nm cm, .slice av 3 cv, .slice (some ⟨b3, 0, none⟩) ns cs]] w' fun e w'' => ∃ g1 c1 G c g3 c3, e = .returned (.agg #[.int .i64 q, .slice (some ⟨g1, 0, none⟩) nm c1, .slice (some ⟨G, 0, none⟩) 3 c, .slice (some ⟨g3, 0, none⟩) ns c3]) ∧ CopyG w'.heap.size w'' g1 nm c1 G 3 c g3 ns c3 M V S ∧ Below w'.heap.size w' w'') := fun w' k => specCopy lo q b1 nm cm av 3 cv b3 ns cs M V S w' (hT.keep k) (by omega) (by omega) (by omega) hlv
  obtain ⟨X, hX⟩ : ∃ X, X = w.heap.size := ⟨_, rfl⟩
  obtain ⟨W, hW⟩ : ∃ W, W = (w.alloc (.cells #[.int .i64 q, .slice (some ⟨b1, 0, none⟩) nm cm, .slice av 3 cv, .slice (some ⟨b3, 0, none⟩) ns cs] 31)).alloc (.cells #[.int .i64 0, .slice none 0 0, .slice none 0 0, .slice none 0 0] 31) := ⟨_, rfl⟩
  have kW : Below w.heap.size w W := by rw [hW]; exact ((Below.refl _ _).alloc (Nat.le_refl _) _).alloc (by simp) _
  have bx : Box4 W X (.int .i64 q) (.slice (some ⟨b1, 0, none⟩) nm cm) (.slice av 3 cv) (.slice (some ⟨b3, 0, none⟩) ns cs) := by rw [hW, hX]; exact (Box4.new _ _ _ _ _ _).alloc _
  have br : Box4 W (X + 1) (.int .i64 0) (.slice none 0 0) (.slice none 0 0) (.slice none 0 0) := by
    have := Box4.new (w.alloc (.cells #[.int .i64 q, .slice (some ⟨b1, 0, none⟩) nm cm, .slice av 3 cv, .slice (some ⟨b3, 0, none⟩) ns cs] 31)) 31 (.int .i64 0) (.slice none 0 0) (.slice none 0 0) (.slice none 0 0)
    rw [World.size_alloc] at this
    rw [hW, hX]
    exact this
  have HX : Hid (X = w.heap.size) := hX
  have K0 : Hid (Below w.heap.size w W) := kW
  have HIN : Hid (IntsIn lo w (some ⟨b3, 0, none⟩) ns cs S) := hT.snaps
  have HSL : Hid (S.length = ns) := hsl
  have HSW : Hid (∀ z ∈ S, (Lit.int .i64 z).wf = true) := hT.snaps.wfs
  clear kW hlv htb hV3
  go_enter Tryz.func23, Tryz.ntmps23
  go_wp2_with fail
  rw [← hX, ← hW]
  clear hX hW
  refine (CO.out _ K0.out).mono ?_
  rintro e w1 ⟨rfl, hb1⟩
  have K1 : Hid (Below w.heap.size w w1) := K0.out.trans (hb1.mono K0.out.size)
  have bx1 := bx.keep hb1
  have br1 := br.keep hb1
  have x0 := bx1.c0
  have x1 := bx1.c1
  have x2 := bx1.c2
  have x3 := bx1.c3
  have xf := bx1.fz
  have xz := bx1.lt
  clear hb1 bx br
  go_wp2_with fail
  clear x0 x1 x2 x3 xf xz
  refine (CC.out _ K1.out).mono ?_
  rintro e w2 ⟨g1, c1, G, c, g3, c3, rfl, hC2, hb2⟩
  have HXB : Hid (X + 1 < w1.heap.size) := br1.lt
  have K2 : Hid (Below w.heap.size w w2) := K1.out.trans (hb2.mono K1.out.size)
  have CT := hC w1.heap.size g1 c1 G c g3 c3 w2 hC2 hb2.size K2.out
  have br2 := br1.keep hb2
  clear hb2 hC2 bx1 br1 hC CC CO
  go_wp2_with fail
  refine CT.mono ?_
  rintro e w3 ⟨dm, dn, dcm, dv, dnv, dcv, dk, dns, dcs, rfl, hD3, hb3⟩
  have K3 : Hid (Below w.heap.size w w3) := K2.out.trans (hb3.mono K2.out.size)
  have HD3 : Hid (TreeIn w1.heap.size w3 dm dn dcm dv dnv dcv dk dns dcs M2 V2 S2) := hD3
  have br3 := br2.keep hb3
  have HR3 : Hid (Box4 w3 (X + 1) (.int .i64 0) (.slice none 0 0) (.slice none 0 0) (.slice none 0 0)) := br3
  have r0 := br3.c0
  have r1 := br3.c1
  have r2 := br3.c2
  have r3 := br3.c3
  have rf := br3.fz
  have rz := br3.lt
  clear hb3 hD3 br2 br3 CT
  go_wp2
  refine bodyPost_ret (v := .tuple #[.agg #[.int .i64 q2, .slice dm dn dcm, .slice dv dnv dcv, .slice dk dns dcs], .bool ok]) ?_ rfl ⟨_, _, _, _, _, _, _, _, _, rfl, ?_, ?_⟩
  · have e := (((HR3.out.set0 (.int .i64 q2)).set1 (.slice dm dn dcm)).set2 (.slice dv dnv dcv)).set3 (.slice dk dns dcs)
    simp [results, Tryz.results23, go_sem, e.c0, e.c1, e.c2, e.c3]
  · have hxl := HXB.out
    exact ((HD3.out.same ((((Same.of_set _ _ hxl).trans (Same.of_set _ _ hxl)).trans (Same.of_set _ _ hxl)).trans (Same.of_set _ _ hxl)))).lowR (Nat.zero_le _)
  · have hx : w.heap.size ≤ X + 1 := by have := HX.out; omega
    exact (((K3.out.setCell (p := ⟨X + 1, 0, none⟩) hx _).setCell (p := ⟨X + 1, 1, none⟩) hx _).setCell (p := ⟨X + 1, 2, none⟩) hx _).setCell (p := ⟨X + 1, 3, none⟩) hx _
theorem specWriteNo (lo : Nat) (q : Int) (am av ak : Option Addr) (nm cm nv cv ns cs : Nat) (M : List EntD) (V : List (List RunD)) (S : List Int) (ab : Option Addr) (nb cb : Nat) (w : World) (hT : TreeIn lo w am nm cm av nv cv ak ns cs M V S) (htb : treeB q M V S = false) :
    Calls Tryz.prog 23 #[.agg #[.int .i64 q, .slice am nm cm, .slice av nv cv, .slice ak ns cs], .slice ab nb cb] w (NoneR w) := by
  obtain ⟨X, hX⟩ : ∃ X, X = w.heap.size := ⟨_, rfl⟩
  obtain ⟨W, hW⟩ : ∃ W, W = (w.alloc (.cells #[.int .i64 q, .slice am nm cm, .slice av nv cv, .slice ak ns cs] 31)).alloc (.cells #[.int .i64 0, .slice none 0 0, .slice none 0 0, .slice none 0 0] 31) := ⟨_, rfl⟩
  have kW : Below w.heap.size w W := by rw [hW]; exact ((Below.refl _ _).alloc (Nat.le_refl _) _).alloc (by simp) _
  have br : Box4 W (X + 1) (.int .i64 0) (.slice none 0 0) (.slice none 0 0) (.slice none 0 0) := by
    have := Box4.new (w.alloc (.cells #[.int .i64 q, .slice am nm cm, .slice av nv cv, .slice ak ns cs] 31)) 31 (.int .i64 0) (.slice none 0 0) (.slice none 0 0) (.slice none 0 0)
    rw [World.size_alloc] at this
    rw [hW, hX]
    exact this
  have HX : Hid (X = w.heap.size) := hX
  have K0 : Hid (Below w.heap.size w W) := kW
  have CO : Hid (∀ w', Below w.heap.size w w' → Calls Tryz.prog 37 #[.agg #[.int .i64 q, .slice am nm cm, .slice av nv cv, .slice ak ns cs]] w' fun e w'' => e = .returned (.bool false) ∧ Below w'.heap.size w' w'') := fun w' k => by
    have := specTreeOk lo q _ _ _ _ _ _ _ _ _ M V S w' (hT.keep k)
    rw [htb] at this
    exact this
  clear hT kW htb
  go_enter Tryz.func23, Tryz.ntmps23
  go_wp2_with fail
  rw [← hX, ← hW]
  clear hX hW
  refine (CO.out _ K0.out).mono ?_
  rintro e w1 ⟨rfl, hb1⟩
  have K1 : Hid (Below w.heap.size w w1) := K0.out.trans (hb1.mono K0.out.size)
  have br1 := br.keep hb1
  have r0 := br1.c0
  have r1 := br1.c1
  have r2 := br1.c2
  have r3 := br1.c3
  have rf := br1.fz
  have rz := br1.lt
  clear hb1 br
  go_wp2
  refine bodyPost_ret (v := .tuple #[.agg #[.int .i64 0, .slice none 0 0, .slice none 0 0, .slice none 0 0], .bool false]) ?_ rfl ⟨rfl, ?_⟩
  · have e := (((br1.set0 (.int .i64 0)).set1 (.slice none 0 0)).set2 (.slice none 0 0)).set3 (.slice none 0 0)
    simp [results, Tryz.results23, go_sem, e.c0, e.c1, e.c2, e.c3]
  · have hx : w.heap.size ≤ X + 1 := by have := HX.out; omega
    exact (((K1.out.setCell (p := ⟨X + 1, 0, none⟩) hx _).setCell (p := ⟨X + 1, 1, none⟩) hx _).setCell (p := ⟨X + 1, 2, none⟩) hx _).setCell (p := ⟨X + 1, 3, none⟩) hx _
end Go.Proofs.YtlmgojlffgkciaaGreat
