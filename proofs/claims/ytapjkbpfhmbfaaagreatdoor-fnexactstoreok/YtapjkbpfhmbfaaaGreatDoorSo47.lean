/-
  The laws' own size, copy and equality of stores, by walks of their Go text.
  What the store's last texts stand on.
-/
import Derived.Test.YtapjkbpfhmbfaaaGreatDoorSo43
import Derived.Test.YtapjkbpfhmbfaaaGreatDoorSo45
import Derived.Test.YtapjkbpfhmbfaaaGreatDoorSo46
namespace Go.Proofs.YtapjkbpfhmbfaaaGreatDoor
set_option maxRecDepth 100000
set_option maxHeartbeats 4000000
open Go.RowKit Go.Joins Go.ChangeShapes Go.WideShapes
theorem eqDisk_opt (lo1 lo2 : Nat) (lg : ByteArray) (sf sd : Int) (d d' : Option Addr) (nd cd cd' : Nat) (U : List (List RunD)) (w : World) (h1 : LevelsIn lo1 w d nd cd U) (h2 : LevelsIn lo2 w d' nd cd' U) :
    Calls Tryz.prog 46 #[.agg #[.string lg, .int .i64 sf, .slice d nd cd, .int .i64 sd], .agg #[.string lg, .int .i64 sf, .slice d' nd cd', .int .i64 sd]] w fun e w' => e = .returned (.bool true) ∧ Below w.heap.size w w' := by
  obtain ⟨W, hW⟩ : ∃ W, W = (w.alloc (.cells #[.string lg, .int .i64 sf, .slice d nd cd, .int .i64 sd] 38)).alloc (.cells #[.string lg, .int .i64 sf, .slice d' nd cd', .int .i64 sd] 38) := ⟨_, rfl⟩
  have hB : Below w.heap.size w W := by rw [hW]; exact ((Below.refl _ _).alloc (Nat.le_refl _) _).alloc (by simp) _
  have x3 : W.cell? ⟨w.heap.size, 3, none⟩ = some (.int .i64 sd) := by rw [hW]; simp
  have y3 : W.cell? ⟨w.heap.size + 1, 3, none⟩ = some (.int .i64 sd) := by rw [hW]; simp
  have H1 : Hid (LevelsIn lo1 W d nd cd U) := h1.keep hB
  have H2 : Hid (LevelsIn lo2 W d' nd cd' U) := h2.keep hB
  have HB : Hid (Below w.heap.size w W) := hB
  clear h1 h2 hB
  go_enter Tryz.func46, Tryz.ntmps46
  go_wp2_with fail
  rw [← hW]
  clear hW
  refine (eqRunSS_opt lo1 lo2 _ _ _ _ _ U _ H1.out H2.out).mono ?_
  rintro e w1 ⟨rfl, hb1⟩
  have x3 := cell_later hb1 x3
  have y3 := cell_later hb1 y3
  have z1 := World.block_lt_of_cell? _ _ x3
  have z2 := World.block_lt_of_cell? _ _ y3
  simp only at z1 z2
  have K1 : Hid (Below W.heap.size W w1) := hb1
  clear hb1
  go_wp2
  go_ret
  exact ⟨rfl, HB.out.trans (K1.out.mono HB.out.size)⟩
theorem szDisk_any (lo : Nat) (lg : ByteArray) (sf sd : Int) (d : Option Addr) (nd cd : Nat) (U : List (List RunD)) (left : Int) (w : World) (h : LevelsIn lo w d nd cd U) (hl : lg.size ≤ maxLen) (h0 : 0 ≤ left) (h1 : left ≤ 1048576) :
    Calls Tryz.prog 37 #[.agg #[.string lg, .int .i64 sf, .slice d nd cd, .int .i64 sd], .int .i64 left] w fun e w' => ∃ r : Int, e = .returned (.int .i64 r) ∧ (r = -1 ∨ (0 ≤ r ∧ r ≤ left ∧ SmallV U)) ∧ Below w.heap.size w w' := by
  unfold maxLen at hl
  obtain ⟨W, hW⟩ : ∃ W, W = w.alloc (.cells #[.string lg, .int .i64 sf, .slice d nd cd, .int .i64 sd] 28) := ⟨_, rfl⟩
  have hB : Below w.heap.size w W := by rw [hW]; exact (Below.refl _ _).alloc (Nat.le_refl _) _
  have H1 : Hid (LevelsIn lo W d nd cd U) := h.keep hB
  have HB : Hid (Below w.heap.size w W) := hB
  clear h hB
  have wl : IntKind.i64.wrap (left - (lg.size : Int)) = left - (lg.size : Int) := by rw [IntWalk.i64_left]; unfold wrap64; omega
  go_enter Tryz.func37, Tryz.ntmps37
  by_cases hs : left - (lg.size : Int) < 0
  · go_wp2
    go_ret
    rw [← hW]
    exact ⟨-1, rfl, Or.inl rfl, HB.out⟩
  go_wp2_with fail
  rw [← hW]
  clear hW
  refine (szRunSS_any lo _ _ _ U _ _ H1.out (by omega) (by omega)).mono ?_
  rintro e w2 ⟨r2, rfl, hr2, hb2⟩
  have K2 : Hid (Below W.heap.size W w2) := hb2
  clear hb2
  rcases hr2 with rfl | ⟨a2, b2, c2⟩
  · go_wp2
    go_ret
    exact ⟨-1, rfl, Or.inl rfl, HB.out.trans (K2.out.mono HB.out.size)⟩
  · have C2 : Hid (SmallV U) := c2
    clear c2
    go_wp2
    go_ret
    exact ⟨r2, rfl, Or.inr ⟨a2, by omega, C2.out⟩, HB.out.trans (K2.out.mono HB.out.size)⟩
def SmallS (M : List EntD) (V : List (List RunD)) (S : List Int) (U : List (List RunD)) : Prop := SmallT M V S ∧ SmallV U
theorem szStore_any (lo : Nat) (up : Bool) (q : Int) (m : Option Addr) (nm cm : Nat) (v : Option Addr) (nv cv : Nat) (k : Option Addr) (ns cs : Nat) (lg : ByteArray) (sf : Int) (d : Option Addr) (nd cd : Nat) (sd : Int) (M : List EntD) (V : List (List RunD)) (S : List Int) (U : List (List RunD)) (left : Int) (w : World) (h : StoreIn lo w m nm cm v nv cv k ns cs d nd cd M V S U) (hl : lg.size ≤ maxLen) (h0 : 0 ≤ left) (h1 : left ≤ 1048576) :
    Calls Tryz.prog 11 #[.agg #[.bool up, .int .i64 q, .slice m nm cm, .slice v nv cv, .slice k ns cs, .string lg, .int .i64 sf, .slice d nd cd, .int .i64 sd], .int .i64 left] w fun e w' => ∃ r : Int, e = .returned (.int .i64 r) ∧ (r = -1 ∨ (0 ≤ r ∧ r ≤ left ∧ SmallS M V S U)) ∧ Below w.heap.size w w' := by
  obtain ⟨W, hW⟩ : ∃ W, W = w.alloc (.cells #[.bool up, .int .i64 q, .slice m nm cm, .slice v nv cv, .slice k ns cs, .string lg, .int .i64 sf, .slice d nd cd, .int .i64 sd] 30) := ⟨_, rfl⟩
  have hB : Below w.heap.size w W := by rw [hW]; exact (Below.refl _ _).alloc (Nat.le_refl _) _
  have bx : Box9 W w.heap.size (.bool up) (.int .i64 q) (.slice m nm cm) (.slice v nv cv) (.slice k ns cs) (.string lg) (.int .i64 sf) (.slice d nd cd) (.int .i64 sd) := by rw [hW]; exact Box9.new _ _ _ _ _ _ _ _ _ _ _
  have H1 : Hid (StoreIn lo W m nm cm v nv cv k ns cs d nd cd M V S U) := h.keep hB
  have HB : Hid (Below w.heap.size w W) := hB
  have HX : Hid (Box9 W w.heap.size (.bool up) (.int .i64 q) (.slice m nm cm) (.slice v nv cv) (.slice k ns cs) (.string lg) (.int .i64 sf) (.slice d nd cd) (.int .i64 sd)) := bx
  clear h hB bx
  go_enter Tryz.func11, Tryz.ntmps11
  go_wp2_with fail
  rw [← hW]
  clear hW
  refine (szTree_any _ lo _ _ _ _ _ _ _ _ _ M V S _ _ H1.out.tree h0 h1).mono ?_
  rintro e w1 ⟨r1, rfl, hr1, hb1⟩
  have x5 := (HX.out.keep hb1).c5
  have x6 := (HX.out.keep hb1).c6
  have x7 := (HX.out.keep hb1).c7
  have x8 := (HX.out.keep hb1).c8
  have xz := (HX.out.keep hb1).lt
  have K1 : Hid (Below W.heap.size W w1) := hb1
  clear hb1
  rcases hr1 with rfl | ⟨a1, b1, c1⟩
  · go_wp2
    go_ret
    exact ⟨-1, rfl, Or.inl rfl, HB.out.trans (K1.out.mono HB.out.size)⟩
  have C1 : Hid (SmallT M V S) := c1
  clear c1
  go_wp2_with fail
  refine (szDisk_any lo lg sf sd d nd cd U _ _ (H1.out.keep K1.out).disk hl a1 (by omega)).mono ?_
  rintro e w2 ⟨r2, rfl, hr2, hb2⟩
  have K2 : Hid (Below W.heap.size W w2) := K1.out.trans (hb2.mono K1.out.size)
  clear hb2 K1
  rcases hr2 with rfl | ⟨a2, b2, c2⟩
  · go_wp2
    go_ret
    exact ⟨-1, rfl, Or.inl rfl, HB.out.trans (K2.out.mono HB.out.size)⟩
  · have C2 : Hid (SmallV U) := c2
    clear c2
    go_wp2
    go_ret
    exact ⟨r2, rfl, Or.inr ⟨a2, by omega, C1.out, C2.out⟩, HB.out.trans (K2.out.mono HB.out.size)⟩
theorem eqStore_opt (lo1 lo2 : Nat) (up : Bool) (q : Int) (m : Option Addr) (nm cm : Nat) (v : Option Addr) (nv cv : Nat) (k : Option Addr) (ns cs : Nat) (lg : ByteArray) (sf : Int) (d : Option Addr) (nd cd : Nat) (sd : Int) (M : List EntD) (V : List (List RunD)) (S : List Int) (U : List (List RunD)) (m' : Option Addr) (cm' : Nat) (v' : Option Addr) (cv' : Nat) (k' : Option Addr) (cs' : Nat) (d' : Option Addr) (cd' : Nat) (w : World) (h1 : StoreIn lo1 w m nm cm v nv cv k ns cs d nd cd M V S U) (h2 : StoreIn lo2 w m' nm cm' v' nv cv' k' ns cs' d' nd cd' M V S U) :
    Calls Tryz.prog 15 #[.agg #[.bool up, .int .i64 q, .slice m nm cm, .slice v nv cv, .slice k ns cs, .string lg, .int .i64 sf, .slice d nd cd, .int .i64 sd], .agg #[.bool up, .int .i64 q, .slice m' nm cm', .slice v' nv cv', .slice k' ns cs', .string lg, .int .i64 sf, .slice d' nd cd', .int .i64 sd]] w fun e w' => e = .returned (.bool true) ∧ Below w.heap.size w w' := by
  obtain ⟨W, hW⟩ : ∃ W, W = (w.alloc (.cells #[.bool up, .int .i64 q, .slice m nm cm, .slice v nv cv, .slice k ns cs, .string lg, .int .i64 sf, .slice d nd cd, .int .i64 sd] 40)).alloc (.cells #[.bool up, .int .i64 q, .slice m' nm cm', .slice v' nv cv', .slice k' ns cs', .string lg, .int .i64 sf, .slice d' nd cd', .int .i64 sd] 40) := ⟨_, rfl⟩
  have hB : Below w.heap.size w W := by rw [hW]; exact ((Below.refl _ _).alloc (Nat.le_refl _) _).alloc (by simp) _
  have bx : Box9 W w.heap.size (.bool up) (.int .i64 q) (.slice m nm cm) (.slice v nv cv) (.slice k ns cs) (.string lg) (.int .i64 sf) (.slice d nd cd) (.int .i64 sd) := by rw [hW]; exact (Box9.new _ _ _ _ _ _ _ _ _ _ _).alloc _
  have bu : Box9 W (w.heap.size + 1) (.bool up) (.int .i64 q) (.slice m' nm cm') (.slice v' nv cv') (.slice k' ns cs') (.string lg) (.int .i64 sf) (.slice d' nd cd') (.int .i64 sd) := by
    have := Box9.new (w.alloc (.cells #[.bool up, .int .i64 q, .slice m nm cm, .slice v nv cv, .slice k ns cs, .string lg, .int .i64 sf, .slice d nd cd, .int .i64 sd] 40)) 40 (.bool up) (.int .i64 q) (.slice m' nm cm') (.slice v' nv cv') (.slice k' ns cs') (.string lg) (.int .i64 sf) (.slice d' nd cd') (.int .i64 sd)
    rw [World.size_alloc] at this
    rw [hW]
    exact this
  have H1 : Hid (StoreIn lo1 W m nm cm v nv cv k ns cs d nd cd M V S U) := h1.keep hB
  have H2 : Hid (StoreIn lo2 W m' nm cm' v' nv cv' k' ns cs' d' nd cd' M V S U) := h2.keep hB
  have HB : Hid (Below w.heap.size w W) := hB
  have HX : Hid (Box9 W w.heap.size (.bool up) (.int .i64 q) (.slice m nm cm) (.slice v nv cv) (.slice k ns cs) (.string lg) (.int .i64 sf) (.slice d nd cd) (.int .i64 sd)) := bx
  have HU : Hid (Box9 W (w.heap.size + 1) (.bool up) (.int .i64 q) (.slice m' nm cm') (.slice v' nv cv') (.slice k' ns cs') (.string lg) (.int .i64 sf) (.slice d' nd cd') (.int .i64 sd)) := bu
  clear h1 h2 hB bx bu
  go_enter Tryz.func15, Tryz.ntmps15
  go_wp2_with fail
  rw [← hW]
  clear hW
  refine (eqTree_opt q lo1 lo2 _ _ _ _ _ _ _ _ _ _ _ _ _ _ _ M V S _ H1.out.tree H2.out.tree).mono ?_
  rintro e w1 ⟨rfl, hb1⟩
  have x5 := (HX.out.keep hb1).c5
  have x6 := (HX.out.keep hb1).c6
  have x7 := (HX.out.keep hb1).c7
  have x8 := (HX.out.keep hb1).c8
  have xz := (HX.out.keep hb1).lt
  have y5 := (HU.out.keep hb1).c5
  have y6 := (HU.out.keep hb1).c6
  have y7 := (HU.out.keep hb1).c7
  have y8 := (HU.out.keep hb1).c8
  have yz := (HU.out.keep hb1).lt
  have K1 : Hid (Below W.heap.size W w1) := hb1
  clear hb1
  go_wp2_with fail
  refine (eqDisk_opt lo1 lo2 lg sf sd _ _ _ _ _ U _ (H1.out.keep K1.out).disk (H2.out.keep K1.out).disk).mono ?_
  rintro e w2 ⟨rfl, hb2⟩
  have K2 : Hid (Below W.heap.size W w2) := K1.out.trans (hb2.mono K1.out.size)
  clear hb2 K1
  go_wp2
  go_ret
  exact ⟨rfl, HB.out.trans (K2.out.mono HB.out.size)⟩
def ToDR (lg : ByteArray) (sf sd : Int) (nd : Nat) (U : List (List RunD)) (w : World) (e : Ending) (w' : World) : Prop :=
  ∃ b : Nat, e = .returned (.agg #[.string lg, .int .i64 sf, .slice (some ⟨b, 0, none⟩) nd nd, .int .i64 sd]) ∧ LevelsIn w.heap.size w' (some ⟨b, 0, none⟩) nd nd U ∧ Below w.heap.size w w'
theorem toDisk_any (lo : Nat) (lg : ByteArray) (sf sd : Int) (d : Option Addr) (nd cd : Nat) (U : List (List RunD)) (w : World) (h : LevelsIn lo w d nd cd U) (hs : SmallV U) :
    Calls Tryz.prog 43 #[.agg #[.string lg, .int .i64 sf, .slice d nd cd, .int .i64 sd]] w (ToDR lg sf sd nd U w) := by
  obtain ⟨X, hX⟩ : ∃ X, X = w.heap.size := ⟨_, rfl⟩
  obtain ⟨W, hW⟩ : ∃ W, W = ((w.alloc (.cells #[.string lg, .int .i64 sf, .slice d nd cd, .int .i64 sd] 28)).alloc (.cells #[.string ⟨#[]⟩, .int .i64 0, .slice none 0 0, .int .i64 0] 38)).alloc (.cells #[.string lg, .int .i64 sf, .slice none 0 0, .int .i64 0] 38) := ⟨_, rfl⟩
  have kW : Below w.heap.size w W := by rw [hW]; exact (((Below.refl _ _).alloc (Nat.le_refl _) _).alloc (by simp) _).alloc (by simp; omega) _
  have bp : Box4 W X (.string lg) (.int .i64 sf) (.slice d nd cd) (.int .i64 sd) := by rw [hW, hX]; exact ((Box4.new _ _ _ _ _ _).alloc _).alloc _
  have br : Box4 W (X + 1) (.string ⟨#[]⟩) (.int .i64 0) (.slice none 0 0) (.int .i64 0) := by
    have := (Box4.new (w.alloc (.cells #[.string lg, .int .i64 sf, .slice d nd cd, .int .i64 sd] 28)) 38 (.string ⟨#[]⟩) (.int .i64 0) (.slice none 0 0) (.int .i64 0)).alloc (.cells #[.string lg, .int .i64 sf, .slice none 0 0, .int .i64 0] 38)
    rw [World.size_alloc] at this
    rw [hW, hX]
    exact this
  have bo : Box4 W (X + 1 + 1) (.string lg) (.int .i64 sf) (.slice none 0 0) (.int .i64 0) := by
    have := Box4.new ((w.alloc (.cells #[.string lg, .int .i64 sf, .slice d nd cd, .int .i64 sd] 28)).alloc (.cells #[.string ⟨#[]⟩, .int .i64 0, .slice none 0 0, .int .i64 0] 38)) 38 (.string lg) (.int .i64 sf) (.slice none 0 0) (.int .i64 0)
    rw [World.size_alloc, World.size_alloc] at this
    rw [hW, hX]
    exact this
  have hsz : W.heap.size = X + 1 + 1 + 1 := by rw [hW, hX]; simp
  have H : Hid (LevelsIn lo w d nd cd U) := h
  have HS : Hid (SmallV U) := hs
  have HX : Hid (X = w.heap.size) := hX
  have HK : Hid (Below w.heap.size w W) := kW
  clear h hs kW
  go_enter Tryz.func43, Tryz.ntmps43
  go_wp2_with fail
  rw [← hX, ← hW]
  clear hX hW
  refine (toRunSS_any lo _ _ _ U _ (H.out.keep HK.out) HS.out).mono ?_
  rintro e w2 ⟨rfl, hE2, _, hb2⟩
  obtain ⟨b2, hbe2⟩ : ∃ b2, b2 = W.heap.size := ⟨_, rfl⟩
  rw [← hbe2] at hE2 ⊢
  have vo := (bo.keep hb2).c2
  have vo0 := (bo.keep hb2).c0
  have vo1 := (bo.keep hb2).c1
  have vo3 := (bo.keep hb2).c3
  have vf := (bo.keep hb2).fz
  have vp := (bp.keep hb2).c3
  have vz := (bo.keep hb2).lt
  have vz' : X < w2.heap.size := by omega
  have vr0 := (br.keep hb2).c0
  have vr1 := (br.keep hb2).c1
  have vr2 := (br.keep hb2).c2
  have vr3 := (br.keep hb2).c3
  have vrf := (br.keep hb2).fz
  have vz1 : X + 1 < w2.heap.size := by omega
  obtain ⟨W3, hW3⟩ : ∃ W3, W3 = (w2.setCell ⟨X + 1 + 1, 2, none⟩ (.slice (some ⟨b2, 0, none⟩) nd nd)).setCell ⟨X + 1 + 1, 3, none⟩ (.int .i64 sd) := ⟨_, rfl⟩
  have br3 : Box4 W3 (X + 1) (.string ⟨#[]⟩) (.int .i64 0) (.slice none 0 0) (.int .i64 0) := by rw [hW3]; exact ((br.keep hb2).other (by omega) _).other (by omega) _
  have hx : w.heap.size ≤ X + 1 + 1 := by have := HX.out; omega
  have K3 : Hid (Below w.heap.size w W3) := by rw [hW3]; exact ((HK.out.trans (hb2.mono HK.out.size)).setCell (p := ⟨X + 1 + 1, 2, none⟩) hx _).setCell (p := ⟨X + 1 + 1, 3, none⟩) hx _
  have E3 : Hid (LevelsIn (X + 3) W3 (some ⟨b2, 0, none⟩) nd nd U) := by rw [hW3]; exact (LevelsIn.same (hE2.mono (by omega)) (Same.of_set _ _ (by show X + 1 + 1 < X + 3; omega))).same (Same.of_set _ _ (by show X + 1 + 1 < X + 3; omega))
  clear hb2 bo bp br hE2 hbe2 hx hsz
  go_wp2
  rw [← hW3]
  refine bodyPost_ret (v := .agg #[.string lg, .int .i64 sf, .slice (some ⟨b2, 0, none⟩) nd nd, .int .i64 sd]) ?_ rfl ⟨b2, rfl, ?_, ?_⟩
  · have c0 := (((br3.set0 (.string lg)).set1 (.int .i64 sf)).set2 (.slice (some ⟨b2, 0, none⟩) nd nd)).set3 (.int .i64 sd)
    simp [results, Tryz.results43, go_sem, c0.c0, c0.c1, c0.c2, c0.c3]
  · have hm : Same (X + 3) W3 ((((W3.setCell ⟨X + 1, 0, none⟩ (.string lg)).setCell ⟨X + 1, 1, none⟩ (.int .i64 sf)).setCell ⟨X + 1, 2, none⟩ (.slice (some ⟨b2, 0, none⟩) nd nd)).setCell ⟨X + 1, 3, none⟩ (.int .i64 sd)) := (((Same.of_set _ _ (by show X + 1 < X + 3; omega)).trans (Same.of_set _ _ (by show X + 1 < X + 3; omega))).trans (Same.of_set _ _ (by show X + 1 < X + 3; omega))).trans (Same.of_set _ _ (by show X + 1 < X + 3; omega))
    have hx := HX.out
    exact (E3.out.same hm).mono (by omega)
  · have hx : w.heap.size ≤ X + 1 := by have := HX.out; omega
    exact (((K3.out.setCell (p := ⟨X + 1, 0, none⟩) hx _).setCell (p := ⟨X + 1, 1, none⟩) hx _).setCell (p := ⟨X + 1, 2, none⟩) hx _).setCell (p := ⟨X + 1, 3, none⟩) hx _
def ToSR (up : Bool) (q : Int) (nm nv ns : Nat) (lg : ByteArray) (sf : Int) (nd : Nat) (sd : Int) (M : List EntD) (V : List (List RunD)) (S : List Int) (U : List (List RunD)) (w : World) (e : Ending) (w' : World) : Prop :=
  ∃ b1 b2 b3 b4 : Nat, e = .returned (.agg #[.bool up, .int .i64 q, .slice (some ⟨b1, 0, none⟩) nm nm, .slice (some ⟨b2, 0, none⟩) nv nv, .slice (some ⟨b3, 0, none⟩) ns ns, .string lg, .int .i64 sf, .slice (some ⟨b4, 0, none⟩) nd nd, .int .i64 sd]) ∧ StoreIn w.heap.size w' (some ⟨b1, 0, none⟩) nm nm (some ⟨b2, 0, none⟩) nv nv (some ⟨b3, 0, none⟩) ns ns (some ⟨b4, 0, none⟩) nd nd M V S U ∧ Below w.heap.size w w'
theorem toStore_any (lo : Nat) (up : Bool) (q : Int) (m : Option Addr) (nm cm : Nat) (v : Option Addr) (nv cv : Nat) (k : Option Addr) (ns cs : Nat) (lg : ByteArray) (sf : Int) (d : Option Addr) (nd cd : Nat) (sd : Int) (M : List EntD) (V : List (List RunD)) (S : List Int) (U : List (List RunD)) (w : World) (h : StoreIn lo w m nm cm v nv cv k ns cs d nd cd M V S U) (hs : SmallS M V S U) :
    Calls Tryz.prog 13 #[.agg #[.bool up, .int .i64 q, .slice m nm cm, .slice v nv cv, .slice k ns cs, .string lg, .int .i64 sf, .slice d nd cd, .int .i64 sd]] w (ToSR up q nm nv ns lg sf nd sd M V S U w) := by
  obtain ⟨X, hX⟩ : ∃ X, X = w.heap.size := ⟨_, rfl⟩
  obtain ⟨W, hW⟩ : ∃ W, W = ((w.alloc (.cells #[.bool up, .int .i64 q, .slice m nm cm, .slice v nv cv, .slice k ns cs, .string lg, .int .i64 sf, .slice d nd cd, .int .i64 sd] 30)).alloc (.cells #[.bool false, .int .i64 0, .slice none 0 0, .slice none 0 0, .slice none 0 0, .string ⟨#[]⟩, .int .i64 0, .slice none 0 0, .int .i64 0] 40)).alloc (.cells #[.bool up, .int .i64 0, .slice none 0 0, .slice none 0 0, .slice none 0 0, .string ⟨#[]⟩, .int .i64 0, .slice none 0 0, .int .i64 0] 40) := ⟨_, rfl⟩
  have kW : Below w.heap.size w W := by rw [hW]; exact (((Below.refl _ _).alloc (Nat.le_refl _) _).alloc (by simp) _).alloc (by simp; omega) _
  have bp : Box9 W X (.bool up) (.int .i64 q) (.slice m nm cm) (.slice v nv cv) (.slice k ns cs) (.string lg) (.int .i64 sf) (.slice d nd cd) (.int .i64 sd) := by rw [hW, hX]; exact ((Box9.new _ _ _ _ _ _ _ _ _ _ _).alloc _).alloc _
  have br : Box9 W (X + 1) (.bool false) (.int .i64 0) (.slice none 0 0) (.slice none 0 0) (.slice none 0 0) (.string ⟨#[]⟩) (.int .i64 0) (.slice none 0 0) (.int .i64 0) := by
    have := (Box9.new (w.alloc (.cells #[.bool up, .int .i64 q, .slice m nm cm, .slice v nv cv, .slice k ns cs, .string lg, .int .i64 sf, .slice d nd cd, .int .i64 sd] 30)) 40 (.bool false) (.int .i64 0) (.slice none 0 0) (.slice none 0 0) (.slice none 0 0) (.string ⟨#[]⟩) (.int .i64 0) (.slice none 0 0) (.int .i64 0)).alloc (.cells #[.bool up, .int .i64 0, .slice none 0 0, .slice none 0 0, .slice none 0 0, .string ⟨#[]⟩, .int .i64 0, .slice none 0 0, .int .i64 0] 40)
    rw [World.size_alloc] at this
    rw [hW, hX]
    exact this
  have bo : Box9 W (X + 1 + 1) (.bool up) (.int .i64 0) (.slice none 0 0) (.slice none 0 0) (.slice none 0 0) (.string ⟨#[]⟩) (.int .i64 0) (.slice none 0 0) (.int .i64 0) := by
    have := Box9.new ((w.alloc (.cells #[.bool up, .int .i64 q, .slice m nm cm, .slice v nv cv, .slice k ns cs, .string lg, .int .i64 sf, .slice d nd cd, .int .i64 sd] 30)).alloc (.cells #[.bool false, .int .i64 0, .slice none 0 0, .slice none 0 0, .slice none 0 0, .string ⟨#[]⟩, .int .i64 0, .slice none 0 0, .int .i64 0] 40)) 40 (.bool up) (.int .i64 0) (.slice none 0 0) (.slice none 0 0) (.slice none 0 0) (.string ⟨#[]⟩) (.int .i64 0) (.slice none 0 0) (.int .i64 0)
    rw [World.size_alloc, World.size_alloc] at this
    rw [hW, hX]
    exact this
  have hsz : W.heap.size = X + 1 + 1 + 1 := by rw [hW, hX]; simp
  have H : Hid (StoreIn lo w m nm cm v nv cv k ns cs d nd cd M V S U) := h
  have HS : Hid (SmallS M V S U) := hs
  have HX : Hid (X = w.heap.size) := hX
  have HK : Hid (Below w.heap.size w W) := kW
  clear h hs kW
  go_enter Tryz.func13, Tryz.ntmps13
  go_wp2_with fail
  rw [← hX, ← hW]
  clear hX hW
  refine (toTree_any q lo _ _ _ _ _ _ _ _ _ M V S _ (H.out.keep HK.out).tree HS.out.1).mono ?_
  rintro e w1 ⟨b1, b2, b3, rfl, hT1, hb1⟩
  obtain ⟨W1, hW1⟩ : ∃ W1, W1 = ((((w1.setCell ⟨X + 1 + 1, 1, none⟩ (.int .i64 q)).setCell ⟨X + 1 + 1, 2, none⟩ (.slice (some ⟨b1, 0, none⟩) nm nm)).setCell ⟨X + 1 + 1, 3, none⟩ (.slice (some ⟨b2, 0, none⟩) nv nv)).setCell ⟨X + 1 + 1, 4, none⟩ (.slice (some ⟨b3, 0, none⟩) ns ns)) := ⟨_, rfl⟩
  have hx : w.heap.size ≤ X + 1 + 1 := by have := HX.out; omega
  have bo1 : Box9 W1 (X + 1 + 1) (.bool up) (.int .i64 q) (.slice (some ⟨b1, 0, none⟩) nm nm) (.slice (some ⟨b2, 0, none⟩) nv nv) (.slice (some ⟨b3, 0, none⟩) ns ns) (.string ⟨#[]⟩) (.int .i64 0) (.slice none 0 0) (.int .i64 0) := by rw [hW1]; exact (((((bo.keep hb1).set1 (.int .i64 q)).set2 (.slice (some ⟨b1, 0, none⟩) nm nm)).set3 (.slice (some ⟨b2, 0, none⟩) nv nv)).set4 (.slice (some ⟨b3, 0, none⟩) ns ns))
  have bp1 : Box9 W1 X (.bool up) (.int .i64 q) (.slice m nm cm) (.slice v nv cv) (.slice k ns cs) (.string lg) (.int .i64 sf) (.slice d nd cd) (.int .i64 sd) := by rw [hW1]; exact (((((bp.keep hb1).other (by omega) _).other (by omega) _).other (by omega) _).other (by omega) _)
  have br1 : Box9 W1 (X + 1) (.bool false) (.int .i64 0) (.slice none 0 0) (.slice none 0 0) (.slice none 0 0) (.string ⟨#[]⟩) (.int .i64 0) (.slice none 0 0) (.int .i64 0) := by rw [hW1]; exact (((((br.keep hb1).other (by omega) _).other (by omega) _).other (by omega) _).other (by omega) _)
  have K1 : Hid (Below w.heap.size w W1) := by rw [hW1]; exact (((((HK.out.trans (hb1.mono HK.out.size)).setCell (p := ⟨X + 1 + 1, 1, none⟩) hx _).setCell (p := ⟨X + 1 + 1, 2, none⟩) hx _).setCell (p := ⟨X + 1 + 1, 3, none⟩) hx _).setCell (p := ⟨X + 1 + 1, 4, none⟩) hx _)
  have S1 : Same (X + 3) w1 W1 := by rw [hW1]; exact ((((Same.of_set _ _ (by show X + 1 + 1 < X + 3; omega)).trans (Same.of_set _ _ (by show X + 1 + 1 < X + 3; omega))).trans (Same.of_set _ _ (by show X + 1 + 1 < X + 3; omega))).trans (Same.of_set _ _ (by show X + 1 + 1 < X + 3; omega)))
  have hsz1 : X + 3 ≤ W1.heap.size := by have := S1.1; have := hb1.size; omega
  have T1 : Hid (TreeIn (X + 3) W1 (some ⟨b1, 0, none⟩) nm nm (some ⟨b2, 0, none⟩) nv nv (some ⟨b3, 0, none⟩) ns ns M V S) := TreeIn.same ⟨hT1.mem.mono (by omega), hT1.levels.mono (by omega), hT1.snaps.lower (by omega)⟩ S1
  have vo1 := (bo.keep hb1).c1
  have vo2 := (bo.keep hb1).c2
  have vo3 := (bo.keep hb1).c3
  have vo4 := (bo.keep hb1).c4
  have vf := (bo.keep hb1).fz
  have vz := (bo.keep hb1).lt
  have vp5 := (bp.keep hb1).c5
  have vp6 := (bp.keep hb1).c6
  have vp7 := (bp.keep hb1).c7
  have vp8 := (bp.keep hb1).c8
  have vz' : X < w1.heap.size := by omega
  clear hb1 bo bp br hT1 S1 hsz
  go_wp2_with fail
  rw [← hW1]
  clear hW1 vo1 vo2 vo3 vo4 vf vz vp5 vp6 vp7 vp8 vz'
  refine (toDisk_any lo lg sf sd _ _ _ U _ (H.out.keep K1.out).disk HS.out.2).mono ?_
  rintro e w2 ⟨b4, rfl, hU2, hb2⟩
  obtain ⟨W2, hW2⟩ : ∃ W2, W2 = ((((w2.setCell ⟨X + 1 + 1, 5, none⟩ (.string lg)).setCell ⟨X + 1 + 1, 6, none⟩ (.int .i64 sf)).setCell ⟨X + 1 + 1, 7, none⟩ (.slice (some ⟨b4, 0, none⟩) nd nd)).setCell ⟨X + 1 + 1, 8, none⟩ (.int .i64 sd)) := ⟨_, rfl⟩
  have br2 : Box9 W2 (X + 1) (.bool false) (.int .i64 0) (.slice none 0 0) (.slice none 0 0) (.slice none 0 0) (.string ⟨#[]⟩) (.int .i64 0) (.slice none 0 0) (.int .i64 0) := by rw [hW2]; exact (((((br1.keep hb2).other (by omega) _).other (by omega) _).other (by omega) _).other (by omega) _)
  have K2 : Hid (Below w.heap.size w W2) := by rw [hW2]; exact (((((K1.out.trans (hb2.mono K1.out.size)).setCell (p := ⟨X + 1 + 1, 5, none⟩) hx _).setCell (p := ⟨X + 1 + 1, 6, none⟩) hx _).setCell (p := ⟨X + 1 + 1, 7, none⟩) hx _).setCell (p := ⟨X + 1 + 1, 8, none⟩) hx _)
  have S2 : Same (X + 3) w2 W2 := by rw [hW2]; exact ((((Same.of_set _ _ (by show X + 1 + 1 < X + 3; omega)).trans (Same.of_set _ _ (by show X + 1 + 1 < X + 3; omega))).trans (Same.of_set _ _ (by show X + 1 + 1 < X + 3; omega))).trans (Same.of_set _ _ (by show X + 1 + 1 < X + 3; omega)))
  have U2 : Hid (LevelsIn (X + 3) W2 (some ⟨b4, 0, none⟩) nd nd U) := (hU2.mono (by omega)).same S2
  have T2 : Hid (TreeIn (X + 3) W2 (some ⟨b1, 0, none⟩) nm nm (some ⟨b2, 0, none⟩) nv nv (some ⟨b3, 0, none⟩) ns ns M V S) := (T1.out.keep hb2).same S2
  have vo0 := (bo1.keep hb2).c0
  have vo1 := (bo1.keep hb2).c1
  have vo2 := (bo1.keep hb2).c2
  have vo3 := (bo1.keep hb2).c3
  have vo4 := (bo1.keep hb2).c4
  have vo5 := (bo1.keep hb2).c5
  have vo6 := (bo1.keep hb2).c6
  have vo7 := (bo1.keep hb2).c7
  have vo8 := (bo1.keep hb2).c8
  have vf := (bo1.keep hb2).fz
  have vz := (bo1.keep hb2).lt
  have vr0 := (br1.keep hb2).c0
  have vr1 := (br1.keep hb2).c1
  have vr2 := (br1.keep hb2).c2
  have vr3 := (br1.keep hb2).c3
  have vr4 := (br1.keep hb2).c4
  have vr5 := (br1.keep hb2).c5
  have vr6 := (br1.keep hb2).c6
  have vr7 := (br1.keep hb2).c7
  have vr8 := (br1.keep hb2).c8
  have vrf := (br1.keep hb2).fz
  have vrz := (br1.keep hb2).lt
  clear hb2 bo1 bp1 br1 hU2 S2 hx
  go_wp2
  rw [← hW2]
  refine bodyPost_ret (v := .agg #[.bool up, .int .i64 q, .slice (some ⟨b1, 0, none⟩) nm nm, .slice (some ⟨b2, 0, none⟩) nv nv, .slice (some ⟨b3, 0, none⟩) ns ns, .string lg, .int .i64 sf, .slice (some ⟨b4, 0, none⟩) nd nd, .int .i64 sd]) ?_ rfl ⟨b1, b2, b3, b4, rfl, ?_, ?_⟩
  · have c := (((((((((br2.set0 (.bool up)).set1 (.int .i64 q)).set2 (.slice (some ⟨b1, 0, none⟩) nm nm)).set3 (.slice (some ⟨b2, 0, none⟩) nv nv)).set4 (.slice (some ⟨b3, 0, none⟩) ns ns)).set5 (.string lg)).set6 (.int .i64 sf)).set7 (.slice (some ⟨b4, 0, none⟩) nd nd)).set8 (.int .i64 sd))
    simp [results, Tryz.results13, go_sem, c.c0, c.c1, c.c2, c.c3, c.c4, c.c5, c.c6, c.c7, c.c8]
  · have hm : Same (X + 3) W2 (((((((((W2.setCell ⟨X + 1, 0, none⟩ (.bool up)).setCell ⟨X + 1, 1, none⟩ (.int .i64 q)).setCell ⟨X + 1, 2, none⟩ (.slice (some ⟨b1, 0, none⟩) nm nm)).setCell ⟨X + 1, 3, none⟩ (.slice (some ⟨b2, 0, none⟩) nv nv)).setCell ⟨X + 1, 4, none⟩ (.slice (some ⟨b3, 0, none⟩) ns ns)).setCell ⟨X + 1, 5, none⟩ (.string lg)).setCell ⟨X + 1, 6, none⟩ (.int .i64 sf)).setCell ⟨X + 1, 7, none⟩ (.slice (some ⟨b4, 0, none⟩) nd nd)).setCell ⟨X + 1, 8, none⟩ (.int .i64 sd)) := (((((((((Same.of_set _ _ (by show X + 1 < X + 3; omega)).trans (Same.of_set _ _ (by show X + 1 < X + 3; omega))).trans (Same.of_set _ _ (by show X + 1 < X + 3; omega))).trans (Same.of_set _ _ (by show X + 1 < X + 3; omega))).trans (Same.of_set _ _ (by show X + 1 < X + 3; omega))).trans (Same.of_set _ _ (by show X + 1 < X + 3; omega))).trans (Same.of_set _ _ (by show X + 1 < X + 3; omega))).trans (Same.of_set _ _ (by show X + 1 < X + 3; omega))).trans (Same.of_set _ _ (by show X + 1 < X + 3; omega)))
    have hx := HX.out
    have t := T2.out.same hm
    exact ⟨⟨t.mem.mono (by omega), t.levels.mono (by omega), t.snaps.lower (by omega)⟩, (U2.out.same hm).mono (by omega)⟩
  · have hx : w.heap.size ≤ X + 1 := by have := HX.out; omega
    exact (((((((((K2.out.setCell (p := ⟨X + 1, 0, none⟩) hx _).setCell (p := ⟨X + 1, 1, none⟩) hx _).setCell (p := ⟨X + 1, 2, none⟩) hx _).setCell (p := ⟨X + 1, 3, none⟩) hx _).setCell (p := ⟨X + 1, 4, none⟩) hx _).setCell (p := ⟨X + 1, 5, none⟩) hx _).setCell (p := ⟨X + 1, 6, none⟩) hx _).setCell (p := ⟨X + 1, 7, none⟩) hx _).setCell (p := ⟨X + 1, 8, none⟩) hx _)
end Go.Proofs.YtapjkbpfhmbfaaaGreatDoor

namespace Go.Proofs.YtapjkbpfhmbfaaaGreatDoor
theorem soBase : True := trivial
end Go.Proofs.YtapjkbpfhmbfaaaGreatDoor
