/-
  What the program's and the document's EntryLess answer at every two entries, by walks of their Go text; and what the library's strings.Compare, cmp.Compare and cmp.Or answer to them.
  What the program's order of entries leaves behind: blocks of its own alone; and that it is an order.
  Rows of entries as the library's sorts see them. No function of the program is walked here.
  Contracts of the library's slices package at this program, laid by the kit's own command.
  Rows that are appended to, and a step law for append in a region that draws its order; no statement of the program stands here.
-/
import Derived.Test.YthhiahjafhkbbaaGreatBn01
import Derived.Test.YthhiahjafhkbbaaGreatBn02
import Derived.Deep.RegionHeld3
import Derived.Deep.DeepCutAuto
import Derived.WalkSpells
import Derived.Lib.Walk
import Derived.WalkLawsBesides
import Derived.Sort.Grow
import Derived.Sort.Statements
import Derived.Shelf.SlSortCmp.InsertionK
import Derived.Test.YthhiahjafhkbbaaGreatBn05
import Derived.Ground.SlsfProg
import Derived.Test.YthhiahjafhkbbaaGreatProg
import Derived.Test.YthhiahjafhkbbaaGreatBn03
import Derived.Deep.RegionLaw
namespace Go.Proofs.YthhiahjafhkbbaaGreat
open Go.RowKit
theorem cell_new0 (W : World) (x y : Value) (t b : Nat) (hb : b = W.heap.size) : (W.alloc (.cells #[x, y] t)).drew.cell? ⟨b, 0, none⟩ = some x := by subst hb; simp
theorem cell_new1 (W : World) (x y : Value) (t b : Nat) (hb : b = W.heap.size) : (W.alloc (.cells #[x, y] t)).drew.cell? ⟨b, 1, none⟩ = some y := by subst hb; simp
set_option maxRecDepth 100000 in
set_option maxHeartbeats 400000 in
theorem strCompare (a b : ByteArray) (w : World) :
    Calls Tryz.prog 144 #[.string a, .string b] w fun e w' => e = .returned (.int .i64 (Lib.compareBytes a.data.toList b.data.toList)) ∧ w' = w := by
  go_enter Tryz.func144, Tryz.ntmps144
  go_wp2
  rw [run_callFunc_extern Tryz.func176 (by kernel_rfl) (by kernel_rfl) (by kernel_rfl) (e := Extern.BytealgCompare.compare) (by kernel_rfl), Lib.run_compareString]
  simp only [Result.andThen]
  rw [Oper.upon_value]
  go_wp2
  go_ret
  exact ⟨rfl, rfl⟩

set_option maxRecDepth 100000 in
set_option maxHeartbeats 400000 in
theorem intCompare (x y : Int) (w : World) :
    Calls Tryz.prog 93 #[.int .i64 x, .int .i64 y] w fun e w' => e = .returned (.int .i64 (Lib.compareInt x y)) ∧ w' = w := by
  by_cases h1 : x < y
  · go_enter Tryz.func93, Tryz.ntmps93
    go_wp2
    go_ret
    exact ⟨by simp [Lib.compareInt, h1], rfl⟩
  · by_cases h2 : x > y
    · have h2' : y < x := h2
      go_enter Tryz.func93, Tryz.ntmps93
      go_wp2
      go_ret
      exact ⟨by simp [Lib.compareInt, h1, h2], rfl⟩
    · have h3 : x = y := by omega
      subst h3
      go_enter Tryz.func93, Tryz.ntmps93
      go_wp2
      go_ret
      exact ⟨by simp [Lib.compareInt], rfl⟩
set_option maxRecDepth 100000 in
set_option maxHeartbeats 400000 in
theorem cmpOr (x y : Int) (b c : Nat) (w : World) (g0 : w.cell? ⟨b, 0, none⟩ = some (.int .i64 x)) (g1 : w.cell? ⟨b, 1, none⟩ = some (.int .i64 y)) :
    Calls Tryz.prog 143 #[.slice (some ⟨b, 0, none⟩) 2 c] w fun e w' => e = .returned (.int .i64 (if x = 0 then y else x)) ∧ w' = w := by
  go_enter Tryz.func143, Tryz.ntmps143
  go_wp2
  go_loop [8] (fun i => (i = .int .i64 0) ∨ (i = .int .i64 1 ∧ x = 0) ∨ (i = .int .i64 2 ∧ x = 0 ∧ y = 0)) (fun i => 2 - (intOf i).toNat)
  case atStart => exact Or.inl rfl
  case round =>
    rcases hrel with rfl | ⟨rfl, rfl⟩ | ⟨rfl, rfl, rfl⟩
    · by_cases h0 : x = 0
      · subst h0
        go_wp2
        go_round
        case rel => exact Or.inr (Or.inl ⟨by go_num, trivial⟩)
        case measure => simp [intOf]
      · have h0' : (x != 0) = true := by simpa using h0
        go_wp2
        go_ret
        exact ⟨rfl, rfl⟩
    · by_cases h0 : y = 0
      · subst h0
        go_wp2
        go_round
        case rel => exact Or.inr (Or.inr ⟨by go_num, trivial, trivial⟩)
        case measure => simp [intOf]
      · have h0' : (y != 0) = true := by simpa using h0
        go_wp2
        go_ret
        exact ⟨rfl, rfl⟩
    · go_wp2
      go_ret
      exact ⟨rfl, rfl⟩

/-- How two entries are held against each other. -/
def ordI (ka : ByteArray) (qa : Int) (kb : ByteArray) (qb : Int) : Int := if Lib.compareBytes ka.data.toList kb.data.toList = 0 then Lib.compareInt qb qa else Lib.compareBytes ka.data.toList kb.data.toList

set_option maxRecDepth 100000 in
set_option maxHeartbeats 1000000 in
theorem implOrder (ka ta kb tb : ByteArray) (qa da na qb db nb : Int) (w : World) :
    Calls Tryz.prog 115 #[.agg #[.string ka, .int .i64 qa, .int .i64 da, .string ta, .int .i64 na], .agg #[.string kb, .int .i64 qb, .int .i64 db, .string tb, .int .i64 nb]] w fun e w' => e = .returned (.int .i64 (ordI ka qa kb qb)) ∧ Below w.heap.size w w' := by
  obtain ⟨C, hC⟩ : ∃ C, C = Lib.compareBytes ka.data.toList kb.data.toList := ⟨_, rfl⟩
  obtain ⟨D, hD⟩ : ∃ D, D = Lib.compareInt qb qa := ⟨_, rfl⟩
  have c1 : ∀ w, Calls Tryz.prog 144 #[.string ka, .string kb] w fun e w' => e = .returned (.int .i64 C) ∧ w' = w := by rw [hC]; exact strCompare ka kb
  have c2 : ∀ w, Calls Tryz.prog 93 #[.int .i64 qb, .int .i64 qa] w fun e w' => e = .returned (.int .i64 D) ∧ w' = w := by rw [hD]; exact intCompare qb qa
  obtain ⟨O, hO⟩ : ∃ O, O = if C = 0 then D else C := ⟨_, rfl⟩
  have c3 : ∀ b c w, w.cell? ⟨b, 0, none⟩ = some (.int .i64 C) → w.cell? ⟨b, 1, none⟩ = some (.int .i64 D) → Calls Tryz.prog 143 #[.slice (some ⟨b, 0, none⟩) 2 c] w fun e w' => e = .returned (.int .i64 O) ∧ w' = w := by
    rw [hO]
    exact fun b c w g0 g1 => cmpOr C D b c w g0 g1
  unfold ordI
  rw [← hC, ← hD, ← hO]
  clear hC hD hO
  go_enter Tryz.func115, Tryz.ntmps115
  go_wp2_with fail
  obtain ⟨X, hX⟩ : ∃ X, X = w.heap.size := ⟨_, rfl⟩
  obtain ⟨W, hW⟩ : ∃ W, W = (w.alloc (.cells #[.string ka, .int .i64 qa, .int .i64 da, .string ta, .int .i64 na] 30)).alloc (.cells #[.string kb, .int .i64 qb, .int .i64 db, .string tb, .int .i64 nb] 30) := ⟨_, rfl⟩
  have x0 : W.cell? ⟨X, 0, none⟩ = some (.string ka) := by rw [hW, hX]; simp
  have x1 : W.cell? ⟨X, 1, none⟩ = some (.int .i64 qa) := by rw [hW, hX]; simp
  have y0 : W.cell? ⟨X + 1, 0, none⟩ = some (.string kb) := by rw [hW, hX]; simp
  have y1 : W.cell? ⟨X + 1, 1, none⟩ = some (.int .i64 qb) := by rw [hW, hX]; simp
  have kW : Below w.heap.size w W := by rw [hW]; exact ((Below.refl _ _).alloc (Nat.le_refl _) _).alloc (by simp) _
  rw [← hW, ← hX]
  clear hW hX
  have HKW : Hid (Below w.heap.size w W) := kW
  clear kW
  have k0 : Below W.heap.size W W.drew := (Below.refl _ W).drew
  have HMK : Hid (∀ w', Below W.heap.size W w' → (w'.cell? ⟨X, 0, none⟩ = some (.string ka) ∧ w'.cell? ⟨X, 1, none⟩ = some (.int .i64 qa) ∧ w'.cell? ⟨X + 1, 0, none⟩ = some (.string kb) ∧ w'.cell? ⟨X + 1, 1, none⟩ = some (.int .i64 qb) ∧ Below W.heap.size W w')) := fun w' k => ⟨cell_later k x0, cell_later k x1, cell_later k y0, cell_later k y1, k⟩
  go_region_held3 (fun w' => w'.cell? ⟨X, 0, none⟩ = some (.string ka) ∧ w'.cell? ⟨X, 1, none⟩ = some (.int .i64 qa) ∧ w'.cell? ⟨X + 1, 0, none⟩ = some (.string kb) ∧ w'.cell? ⟨X + 1, 1, none⟩ = some (.int .i64 qb) ∧ Below W.heap.size W w') (first | exact HMK.out _ k0 | exact HMK.out _ ((Below.refl _ W).alloc (Nat.le_refl _) _).drew | exact HMK.out _ (k0.alloc (Nat.le_refl _) _)) (first
    | (go_at_call 144; refine (c1 _).mono ?_; rintro e w' ⟨rfl, rfl⟩)
    | (go_at_call 93; refine (c2 _).mono ?_; rintro e w' ⟨rfl, rfl⟩)
    | (go_at_call 143; refine (c3 _ _ _ (cell_new0 _ _ _ _ _ (by simp)) (cell_new1 _ _ _ _ _ (by simp))).mono ?_; rintro e w' ⟨rfl, rfl⟩))
  go_wp2
  go_ret
  exact ⟨rfl, HKW.out.trans (((Below.refl _ W).alloc (Nat.le_refl _) _).drew.mono HKW.out.size)⟩

theorem order_less (ka kb : ByteArray) (qa qb : Int) : decide (ordI ka qa kb qb < 0) = lessB ka qa kb qb := by
  unfold lessB ordI Lib.compareInt
  rcases cmp_cases ka.data.toList kb.data.toList with ⟨h, h1, h2⟩ | ⟨h, h1, h2⟩ | ⟨h, h1, h2⟩
  · rw [h, h1]; rfl
  · have : ka = kb := by
      apply ByteArray.ext
      exact Array.toList_inj.1 h2
    subst this
    rw [h, h1]
    by_cases g : qb < qa
    · simp [g]
    · by_cases g' : qb > qa <;> simp [g, g']
  · have : ¬ ka = kb := fun e => h2 (by rw [e])
    rw [h, h1]
    simp [this]

set_option maxRecDepth 100000 in
set_option maxHeartbeats 1000000 in
theorem implLess (ka ta kb tb : ByteArray) (qa da na qb db nb : Int) (w : World) :
    Calls Tryz.prog 77 #[.agg #[.string ka, .int .i64 qa, .int .i64 da, .string ta, .int .i64 na], .agg #[.string kb, .int .i64 qb, .int .i64 db, .string tb, .int .i64 nb]] w fun e w' => e = .returned (.bool (lessB ka qa kb qb)) ∧ Below w.heap.size w w' := by
  go_enter Tryz.func77, Tryz.ntmps77
  go_wp2_with fail
  refine (implOrder _ _ _ _ _ _ _ _ _ _ _).mono ?_
  rintro e w1 ⟨rfl, hb1⟩
  go_wp2
  go_ret
  exact ⟨ret_bool (order_less ka kb qa qb), (((Below.refl _ _).alloc (Nat.le_refl _) _).alloc (by simp) _).trans (hb1.mono (by simp; omega))⟩

theorem less_self (a : List UInt8) : Op.bytesLess a a = false := by
  rcases cmp_cases a a with ⟨_, _, h⟩ | ⟨_, h, _⟩ | ⟨_, h, _⟩
  · exact absurd rfl h
  · exact h
  · exact h

set_option maxRecDepth 100000 in
set_option maxHeartbeats 1000000 in
theorem specLess (ka ta kb tb : ByteArray) (qa da na qb db nb : Int) (w : World) :
    Calls Tryz.prog 86 #[.agg #[.string ka, .int .i64 qa, .int .i64 da, .string ta, .int .i64 na], .agg #[.string kb, .int .i64 qb, .int .i64 db, .string tb, .int .i64 nb]] w fun e w' => e = .returned (.bool (lessB ka qa kb qb)) ∧ Below w.heap.size w w' := by
  by_cases he : ka = kb
  · subst he
    have hl : Op.bytesLess ka.toList ka.toList = false := less_self _
    by_cases hq : qb < qa
    · go_enter Tryz.func86, Tryz.ntmps86
      go_wp2
      go_ret
      refine ⟨ret_bool ?_, ((Below.refl _ _).alloc (Nat.le_refl _) _).alloc (by simp) _⟩
      unfold lessB
      rw [less_self]
      simp [hq]
    · go_enter Tryz.func86, Tryz.ntmps86
      go_wp2
      go_ret
      refine ⟨ret_bool ?_, ((Below.refl _ _).alloc (Nat.le_refl _) _).alloc (by simp) _⟩
      unfold lessB
      rw [less_self]
      simp [hq]
  · have hne : ¬ ka.toList = kb.toList := by
      rw [ByteArray.toList_eq, ByteArray.toList_eq]
      intro h
      exact he (ByteArray.ext (Array.toList_inj.1 h))
    cases hl : Op.bytesLess ka.toList kb.toList with
    | true =>
      go_enter Tryz.func86, Tryz.ntmps86
      go_wp2
      go_ret
      refine ⟨ret_bool ?_, ((Below.refl _ _).alloc (Nat.le_refl _) _).alloc (by simp) _⟩
      unfold lessB
      rw [ByteArray.toList_eq, ByteArray.toList_eq] at hl
      simp [hl]
    | false =>
      go_enter Tryz.func86, Tryz.ntmps86
      go_wp2
      go_ret
      refine ⟨ret_bool ?_, ((Below.refl _ _).alloc (Nat.le_refl _) _).alloc (by simp) _⟩
      unfold lessB
      rw [ByteArray.toList_eq, ByteArray.toList_eq] at hl
      simp [hl, he]
end Go.Proofs.YthhiahjafhkbbaaGreat

namespace Go.Proofs.YthhiahjafhkbbaaGreat
open Go.RowKit Go.Sort

theorem alloc_grow (w : World) (o : Obj) : w.alloc o = grow w #[o] := by
  unfold World.alloc grow
  simp
set_option maxRecDepth 100000 in
set_option maxHeartbeats 1000000 in
theorem implOrderX (ka ta kb tb : ByteArray) (qa da na qb db nb : Int) (w : World) :
    Calls Tryz.prog 115 #[.agg #[.string ka, .int .i64 qa, .int .i64 da, .string ta, .int .i64 na], .agg #[.string kb, .int .i64 qb, .int .i64 db, .string tb, .int .i64 nb]] w fun e w' => e = .returned (.int .i64 (ordI ka qa kb qb)) ∧ ∃ q os', w' = grow (w.drewN q) os' := by
  obtain ⟨C, hC⟩ : ∃ C, C = Lib.compareBytes ka.data.toList kb.data.toList := ⟨_, rfl⟩
  obtain ⟨D, hD⟩ : ∃ D, D = Lib.compareInt qb qa := ⟨_, rfl⟩
  have c1 : ∀ w, Calls Tryz.prog 144 #[.string ka, .string kb] w fun e w' => e = .returned (.int .i64 C) ∧ w' = w := by rw [hC]; exact strCompare ka kb
  have c2 : ∀ w, Calls Tryz.prog 93 #[.int .i64 qb, .int .i64 qa] w fun e w' => e = .returned (.int .i64 D) ∧ w' = w := by rw [hD]; exact intCompare qb qa
  obtain ⟨O, hO⟩ : ∃ O, O = if C = 0 then D else C := ⟨_, rfl⟩
  have c3 : ∀ b c w, w.cell? ⟨b, 0, none⟩ = some (.int .i64 C) → w.cell? ⟨b, 1, none⟩ = some (.int .i64 D) → Calls Tryz.prog 143 #[.slice (some ⟨b, 0, none⟩) 2 c] w fun e w' => e = .returned (.int .i64 O) ∧ w' = w := by
    rw [hO]
    exact fun b c w g0 g1 => cmpOr C D b c w g0 g1
  unfold ordI
  rw [← hC, ← hD, ← hO]
  clear hC hD hO
  go_enter Tryz.func115, Tryz.ntmps115
  go_wp2_with fail
  obtain ⟨X, hX⟩ : ∃ X, X = w.heap.size := ⟨_, rfl⟩
  obtain ⟨W, hW⟩ : ∃ W, W = (w.alloc (.cells #[.string ka, .int .i64 qa, .int .i64 da, .string ta, .int .i64 na] 30)).alloc (.cells #[.string kb, .int .i64 qb, .int .i64 db, .string tb, .int .i64 nb] 30) := ⟨_, rfl⟩
  have x0 : W.cell? ⟨X, 0, none⟩ = some (.string ka) := by rw [hW, hX]; simp
  have x1 : W.cell? ⟨X, 1, none⟩ = some (.int .i64 qa) := by rw [hW, hX]; simp
  have y0 : W.cell? ⟨X + 1, 0, none⟩ = some (.string kb) := by rw [hW, hX]; simp
  have y1 : W.cell? ⟨X + 1, 1, none⟩ = some (.int .i64 qb) := by rw [hW, hX]; simp
  have HWW : Hid (W = (w.alloc (.cells #[.string ka, .int .i64 qa, .int .i64 da, .string ta, .int .i64 na] 30)).alloc (.cells #[.string kb, .int .i64 qb, .int .i64 db, .string tb, .int .i64 nb] 30)) := hW
  rw [← hW, ← hX]
  clear hW hX
  have k0 : Below W.heap.size W W.drew := (Below.refl _ W).drew
  have HMK : Hid (∀ w', Below W.heap.size W w' → (w'.cell? ⟨X, 0, none⟩ = some (.string ka) ∧ w'.cell? ⟨X, 1, none⟩ = some (.int .i64 qa) ∧ w'.cell? ⟨X + 1, 0, none⟩ = some (.string kb) ∧ w'.cell? ⟨X + 1, 1, none⟩ = some (.int .i64 qb) ∧ Below W.heap.size W w')) := fun w' k => ⟨cell_later k x0, cell_later k x1, cell_later k y0, cell_later k y1, k⟩
  go_region_held3 (fun w' => w'.cell? ⟨X, 0, none⟩ = some (.string ka) ∧ w'.cell? ⟨X, 1, none⟩ = some (.int .i64 qa) ∧ w'.cell? ⟨X + 1, 0, none⟩ = some (.string kb) ∧ w'.cell? ⟨X + 1, 1, none⟩ = some (.int .i64 qb) ∧ Below W.heap.size W w') (first | exact HMK.out _ k0 | exact HMK.out _ ((Below.refl _ W).alloc (Nat.le_refl _) _).drew | exact HMK.out _ (k0.alloc (Nat.le_refl _) _)) (first
    | (go_at_call 144; refine (c1 _).mono ?_; rintro e w' ⟨rfl, rfl⟩)
    | (go_at_call 93; refine (c2 _).mono ?_; rintro e w' ⟨rfl, rfl⟩)
    | (go_at_call 143; refine (c3 _ _ _ (cell_new0 _ _ _ _ _ (by simp)) (cell_new1 _ _ _ _ _ (by simp))).mono ?_; rintro e w' ⟨rfl, rfl⟩))
  go_wp2
  go_ret
  refine ⟨rfl, 1, #[.cells #[.string ka, .int .i64 qa, .int .i64 da, .string ta, .int .i64 na] 30, .cells #[.string kb, .int .i64 qb, .int .i64 db, .string tb, .int .i64 nb] 30, .cells #[.int .i64 C, .int .i64 D] 3], ?_⟩
  rw [HWW.out]
  rw [alloc_grow, alloc_grow, alloc_grow, grow_grow, grow_grow]
  rfl

theorem ltOf_less (x y : EntD) : ltOf (fun x y : EntD => ordI x.1 x.2.1 y.1 y.2.1) x y = lessB x.1 x.2.1 y.1 y.2.1 := order_less _ _ _ _
theorem less_same {ka kb : ByteArray} {qa qb : Int} (h1 : lessB ka qa kb qb = false) (h2 : lessB kb qb ka qa = false) : ka = kb ∧ qa = qb := by
  have h := lessB_one ka kb qa qb
  rw [h1, h2] at h
  simp at h
  exact h
theorem less_swo : SWO (ltOf (fun x y : EntD => ordI x.1 x.2.1 y.1 y.2.1)) where
  irrefl x := by rw [ltOf_less]; exact lessB_self _ _
  trans x y z h1 h2 := by rw [ltOf_less] at *; exact lessB_trans h1 h2
  ntrans x y z h1 h2 := by
    rw [ltOf_less] at *
    cases h3 : lessB x.1 x.2.1 z.1 z.2.1 with
    | false => rfl
    | true =>
      cases h4 : lessB y.1 y.2.1 x.1 x.2.1 with
      | true => rw [lessB_trans h4 h3] at h2; cases h2
      | false =>
        obtain ⟨e1, e2⟩ := less_same h1 h4
        rw [e1, e2, h2] at h3
        cases h3
end Go.Proofs.YthhiahjafhkbbaaGreat

namespace Go.Proofs.YthhiahjafhkbbaaGreat
open Go.RowKit Go.Sort

theorem five (i : Nat) (j : Nat) (hj : j < 5) : (i * 5 + j) / 5 = i ∧ (i * 5 + j) % 5 = j := by omega
theorem ent_five (x : EntD) : (entCells x)[0]! = .string x.1 ∧ (entCells x)[1]! = .int .i64 x.2.1 ∧ (entCells x)[2]! = .int .i64 x.2.2.1 ∧ (entCells x)[3]! = .string x.2.2.2.1 ∧ (entCells x)[4]! = .int .i64 x.2.2.2.2 := ⟨rfl, rfl, rfl, rfl, rfl⟩
theorem holds_ents {w : World} {base g n c : Nat} {L : List EntD} (hO : OwnE w base g n c L) : HoldsK entCells 5 w g 0 L.toArray := by
  intro t ht
  rw [size_flatK] at ht
  have hl := hO.len
  have hlt : t / 5 < L.length := by simp at ht; omega
  refine ⟨?_, by rw [Nat.zero_add]; exact hO.owns.frozenAt _⟩
  rw [get_flatK _ _ _ _ ht]
  obtain ⟨c0, c1, c2, c3, c4⟩ := hO.entsAt.cells _ rfl (t / 5) hlt
  have e : (L.toArray)[t / 5]! = L[t / 5] := by simp [hlt]
  rw [e]
  obtain ⟨z0, z1, z2, z3, z4⟩ := ent_five L[t / 5]
  have hm : t % 5 < 5 := Nat.mod_lt _ (by omega)
  have ht5 : t = t / 5 * 5 + t % 5 := by omega
  rcases (show t % 5 = 0 ∨ t % 5 = 1 ∨ t % 5 = 2 ∨ t % 5 = 3 ∨ t % 5 = 4 by omega) with h | h | h | h | h
  · rw [h, z0]; rw [show (0 : Nat) + t = 0 + t / 5 * 5 by omega]; exact c0
  · rw [h, z1]; rw [show (0 : Nat) + t = 0 + t / 5 * 5 + 1 by omega]; exact c1
  · rw [h, z2]; rw [show (0 : Nat) + t = 0 + t / 5 * 5 + 2 by omega]; exact c2
  · rw [h, z3]; rw [show (0 : Nat) + t = 0 + t / 5 * 5 + 3 by omega]; exact c3
  · rw [h, z4]; rw [show (0 : Nat) + t = 0 + t / 5 * 5 + 4 by omega]; exact c4
theorem ents_holds {w : World} {g : Nat} {D : Array EntD} (h : HoldsK entCells 5 w g 0 D) (i : Nat) (hi : i < D.toList.length) : EntCells w g (0 + i * 5) D.toList[i] := by
  have hi' : i < D.size := by simpa using hi
  have e : D[i]! = D.toList[i] := by simp [hi']
  have key : ∀ j, j < 5 → w.cell? ⟨g, 0 + i * 5 + j, none⟩ = some ((entCells D.toList[i])[j]!) := fun j hj => by
    have hlt : i * 5 + j < D.size * 5 := by omega
    have := (h (i * 5 + j) (by rw [size_flatK]; exact hlt)).1
    rw [get_flatK _ _ _ _ hlt, (five i j hj).1, (five i j hj).2, e] at this
    rw [Nat.add_assoc]
    exact this
  obtain ⟨z0, z1, z2, z3, z4⟩ := ent_five D.toList[i]
  exact ⟨by rw [← z0]; exact key 0 (by omega), by rw [← z1]; exact key 1 (by omega), by rw [← z2]; exact key 2 (by omega), by rw [← z3]; exact key 3 (by omega), by rw [← z4]; exact key 4 (by omega)⟩
theorem grown_sorted {w : World} {g n : Nat} {os : Array Obj} (d : Array EntD) : w.grownBy (sortWorldK entCells 5 w g 0 n d os) (some g) := by
  unfold sortWorldK putRowK
  refine ⟨rfl, rfl, rfl, by simp, fun k hk hne => ?_⟩
  rw [heap_grow_old _ _ (by simpa using hk)]
  have : g ≠ k := fun e => hne (by rw [e])
  simp [putRow, mapBlock, Sort.ahead, Array.getElem?_modify, this]
end Go.Proofs.YthhiahjafhkbbaaGreat

namespace Go.Proofs.YthhiahjafhkbbaaGreat
open Go.Shelf
def Tryz.insL_ren : Go.Shelf.Ren := ⟨fun | 20 => 124 | n => n, fun | 24 => 30 | 22 => 23 | 3 => 3 | 25 => 83 | 4 => 4 | 0 => 0 | n => n, fun | n => n⟩
theorem Tryz.insL : Go.Proofs.SlLaysF0.n20 Tryz.prog Tryz.insL_ren := {
  mixed := by kernel_rfl
  f20 := ⟨Tryz.f124.name, by decide, Tryz.func124.trans (congrArg some (by kernel_rfl))⟩
  t0 := Tryz.underlying0
  a0 := Tryz.isAgg0
  z0 := Tryz.sizeOf0
  v0 := Tryz.zeroValue0
  t3 := Tryz.underlying3
  a3 := Tryz.isAgg3
  z3 := Tryz.sizeOf3
  v3 := Tryz.zeroValue3
  t4 := Tryz.underlying4
  a4 := Tryz.isAgg4
  z4 := Tryz.sizeOf4
  v4 := Tryz.zeroValue4
  t22 := Tryz.underlying23
  a22 := Tryz.isAgg23
  z22 := Tryz.sizeOf23
  v22 := Tryz.zeroValue23
  t25 := Tryz.underlying83
  a25 := Tryz.isAgg83
  z25 := Tryz.sizeOf83
  v25 := Tryz.zeroValue83 }
end Go.Proofs.YthhiahjafhkbbaaGreat

namespace Go.Proofs.YthhiahjafhkbbaaGreat
open Go.RowKit

theorem grown_frozen {w w' : World} {row : Option Nat} (hg : w.grownBy w' row) {x : Addr} (hx : x.block < w.heap.size) (hn : some x.block ≠ row) : w'.frozen? x = w.frozen? x := World.frozen?_of_block (hg.block x.block hx hn)

theorem row_form {w : World} {base e size k : Nat} {v : Value} {xs : List Value} (h : w.ownsRow base e size v k xs) (hne : ¬ v = .slice none 0 0) : ∃ g cap, v = .slice (some ⟨g, 0, none⟩) k cap := by
  rcases h.2 with ⟨h', _⟩ | ⟨g, cap, _, h', _⟩
  · exact absurd h' hne
  · exact ⟨g, cap, h'⟩
/-- 'append' onto a row of the call's own, in a region that draws. -/
theorem step_append_own {P : Program} {ops : Array Oper} {o : Oper} {a : Act} {w : World} {K : Act → World → Prop} {Q : Exit → Act → World → Prop} {E : Prop}
    (hg : o.guard = none) (s x : Operand) (t : TypeId) (hop : o.op = Op.call { callee := Callee.builtin Builtin.append, args := #[s, x], argTypes := #[t, t] })
    (base : Nat) (e : TypeId) (i : TypeInfo) (z : Value) (size bytes : Nat) (h1 : P.underlying t = some (.slice e)) (h2 : P.info? e = some i) (h3 : i.zero = some z) (h4 : i.size = size) (h5 : i.bytes = bytes) (h6 : z.cells.size = size) (h7 : 0 < size)
    (v : Value) (n : Nat) (olds : List Value) (hs : a.eval s = v) (hown : w.ownsRow base e size v n olds)
    (ad : Addr) (m c : Nat) (news : List Value) (hx : a.eval x = .slice (some ad) m c) (hn : news.length = m * size) (hc : ∀ j u, news[j]? = some u → w.cell? (ad.add j) = some u) (h1c : ∀ u ∈ news, u.oneCell' = true)
    (b1 : n + m ≤ maxLen) (b2 : (n + m) * bytes ≤ 140737488355328) (b3 : base ≤ w.heap.size)
    (hK : ∀ v' w', w'.ownsRow base e size v' (n + m) (olds ++ news) → w.grownBy w' v.ownBlock → (v' = .slice none 0 0 ↔ v = .slice none 0 0 ∧ m = 0) → K (a.put o.dst v') w') :
    if Region.wanted o (yielded ops a.tmps) = true then Oper.wp P o a w K Q else E := by
  have hw : Region.wanted o (yielded ops a.tmps) = true := by simp [Region.wanted, hg]
  rw [if_pos hw]
  obtain ⟨v', w', hrun, r1, r2, r3⟩ := run_append_own (P := P) w base t o.type e i z size bytes h1 h2 h3 h4 h5 h6 h7 v n olds hown ad m c news hn hc h1c b1 b2 b3
  unfold Oper.wp
  simp [execOp, hop, resolve, invoke, builtin, hs, hx, hrun, Result.andThen]
  exact hK v' w' r1 r2 r3

end Go.Proofs.YthhiahjafhkbbaaGreat
