/-
  What the program's order of entries leaves behind: blocks of its own alone; and that it is an order.
  Rows of entries as the library's sorts see them. No function of the program is walked here.
  Contracts of the library's slices package at this program, laid by the kit's own command.
  What the program's CellDo makes of every cell and every entry, kind by kind, by walks of its Go text.
-/
import Derived.Test.YtlmgojlffgkciaaGreatCb02
import Derived.Test.YtlmgojlffgkciaaGreatCb00
import Derived.Sort.Grow
import Derived.Sort.Statements
import Derived.Shelf.SlSortCmp.InsertionK
import Derived.Test.YtlmgojlffgkciaaGreatCb09
import Derived.Ground.SlsfProg
import Derived.Test.YtlmgojlffgkciaaGreatProg
import Derived.Test.YtlmgojlffgkciaaGreatCb03
import Derived.Deep.RegionHeld3
import Derived.Deep.DeepCutAuto
namespace Go.Proofs.YtlmgojlffgkciaaGreat
open Go.RowKit Go.Sort

theorem alloc_grow (w : World) (o : Obj) : w.alloc o = grow w #[o] := by
  unfold World.alloc grow
  simp
set_option maxRecDepth 100000 in
set_option maxHeartbeats 1000000 in
theorem implOrderX (ka ta kb tb : ByteArray) (qa da na qb db nb : Int) (w : World) :
    Calls Tryz.prog 145 #[.agg #[.string ka, .int .i64 qa, .int .i64 da, .string ta, .int .i64 na], .agg #[.string kb, .int .i64 qb, .int .i64 db, .string tb, .int .i64 nb]] w fun e w' => e = .returned (.int .i64 (ordI ka qa kb qb)) ∧ ∃ q os', w' = grow (w.drewN q) os' := by
  obtain ⟨C, hC⟩ : ∃ C, C = Lib.compareBytes ka.data.toList kb.data.toList := ⟨_, rfl⟩
  obtain ⟨D, hD⟩ : ∃ D, D = Lib.compareInt qb qa := ⟨_, rfl⟩
  have c1 : ∀ w, Calls Tryz.prog 183 #[.string ka, .string kb] w fun e w' => e = .returned (.int .i64 C) ∧ w' = w := by rw [hC]; exact strCompare ka kb
  have c2 : ∀ w, Calls Tryz.prog 174 #[.int .i64 qb, .int .i64 qa] w fun e w' => e = .returned (.int .i64 D) ∧ w' = w := by rw [hD]; exact intCompare qb qa
  obtain ⟨O, hO⟩ : ∃ O, O = if C = 0 then D else C := ⟨_, rfl⟩
  have c3 : ∀ b c w, w.cell? ⟨b, 0, none⟩ = some (.int .i64 C) → w.cell? ⟨b, 1, none⟩ = some (.int .i64 D) → Calls Tryz.prog 182 #[.slice (some ⟨b, 0, none⟩) 2 c] w fun e w' => e = .returned (.int .i64 O) ∧ w' = w := by
    rw [hO]
    exact fun b c w g0 g1 => cmpOr C D b c w g0 g1
  unfold ordI
  rw [← hC, ← hD, ← hO]
  clear hC hD hO
  go_enter Tryz.func145, Tryz.ntmps145
  go_wp2_with fail
  obtain ⟨X, hX⟩ : ∃ X, X = w.heap.size := ⟨_, rfl⟩
  obtain ⟨W, hW⟩ : ∃ W, W = (w.alloc (.cells #[.string ka, .int .i64 qa, .int .i64 da, .string ta, .int .i64 na] 78)).alloc (.cells #[.string kb, .int .i64 qb, .int .i64 db, .string tb, .int .i64 nb] 78) := ⟨_, rfl⟩
  have x0 : W.cell? ⟨X, 0, none⟩ = some (.string ka) := by rw [hW, hX]; simp
  have x1 : W.cell? ⟨X, 1, none⟩ = some (.int .i64 qa) := by rw [hW, hX]; simp
  have y0 : W.cell? ⟨X + 1, 0, none⟩ = some (.string kb) := by rw [hW, hX]; simp
  have y1 : W.cell? ⟨X + 1, 1, none⟩ = some (.int .i64 qb) := by rw [hW, hX]; simp
  have HWW : Hid (W = (w.alloc (.cells #[.string ka, .int .i64 qa, .int .i64 da, .string ta, .int .i64 na] 78)).alloc (.cells #[.string kb, .int .i64 qb, .int .i64 db, .string tb, .int .i64 nb] 78)) := hW
  rw [← hW, ← hX]
  clear hW hX
  have k0 : Below W.heap.size W W.drew := (Below.refl _ W).drew
  have HMK : Hid (∀ w', Below W.heap.size W w' → (w'.cell? ⟨X, 0, none⟩ = some (.string ka) ∧ w'.cell? ⟨X, 1, none⟩ = some (.int .i64 qa) ∧ w'.cell? ⟨X + 1, 0, none⟩ = some (.string kb) ∧ w'.cell? ⟨X + 1, 1, none⟩ = some (.int .i64 qb) ∧ Below W.heap.size W w')) := fun w' k => ⟨cell_later k x0, cell_later k x1, cell_later k y0, cell_later k y1, k⟩
  go_region_held3 (fun w' => w'.cell? ⟨X, 0, none⟩ = some (.string ka) ∧ w'.cell? ⟨X, 1, none⟩ = some (.int .i64 qa) ∧ w'.cell? ⟨X + 1, 0, none⟩ = some (.string kb) ∧ w'.cell? ⟨X + 1, 1, none⟩ = some (.int .i64 qb) ∧ Below W.heap.size W w') (first | exact HMK.out _ k0 | exact HMK.out _ ((Below.refl _ W).alloc (Nat.le_refl _) _).drew | exact HMK.out _ (k0.alloc (Nat.le_refl _) _)) (first
    | (go_at_call 183; refine (c1 _).mono ?_; rintro e w' ⟨rfl, rfl⟩)
    | (go_at_call 174; refine (c2 _).mono ?_; rintro e w' ⟨rfl, rfl⟩)
    | (go_at_call 182; refine (c3 _ _ _ (cell_new0 _ _ _ _ _ (by simp)) (cell_new1 _ _ _ _ _ (by simp))).mono ?_; rintro e w' ⟨rfl, rfl⟩))
  go_wp2
  go_ret
  refine ⟨rfl, 1, #[.cells #[.string ka, .int .i64 qa, .int .i64 da, .string ta, .int .i64 na] 78, .cells #[.string kb, .int .i64 qb, .int .i64 db, .string tb, .int .i64 nb] 78, .cells #[.int .i64 C, .int .i64 D] 3], ?_⟩
  rw [HWW.out]
  rw [alloc_grow, alloc_grow, alloc_grow, grow_grow, grow_grow]
  rfl

theorem ltOf_less (x y : EntD) : ltOf (fun x y : EntD => ordI x.1 x.2.1 y.1 y.2.1) x y = lessB x.1 x.2.1 y.1 y.2.1 := order_less _ _ _ _
theorem less_same {ka kb : ByteArray} {qa qb : Int} (h1 : lessB ka qa kb qb = false) (h2 : lessB kb qb ka qa = false) : ka = kb ∧ qa = qb := by
  have h := lessB_one ka kb qa qb
  rw [h1, h2] at h
  simp at h
  exact h
theorem less_swo : SWO (ltOf (fun x y : EntD => ordI x.1 x.2.1 y.1 y.2.1)) where
  irrefl x := by rw [ltOf_less]; exact lessB_self _ _
  trans x y z h1 h2 := by rw [ltOf_less] at *; exact lessB_trans h1 h2
  ntrans x y z h1 h2 := by
    rw [ltOf_less] at *
    cases h3 : lessB x.1 x.2.1 z.1 z.2.1 with
    | false => rfl
    | true =>
      cases h4 : lessB y.1 y.2.1 x.1 x.2.1 with
      | true => rw [lessB_trans h4 h3] at h2; cases h2
      | false =>
        obtain ⟨e1, e2⟩ := less_same h1 h4
        rw [e1, e2, h2] at h3
        cases h3
end Go.Proofs.YtlmgojlffgkciaaGreat

namespace Go.Proofs.YtlmgojlffgkciaaGreat
open Go.RowKit Go.Sort

theorem five (i : Nat) (j : Nat) (hj : j < 5) : (i * 5 + j) / 5 = i ∧ (i * 5 + j) % 5 = j := by omega
theorem ent_five (x : EntD) : (entCells x)[0]! = .string x.1 ∧ (entCells x)[1]! = .int .i64 x.2.1 ∧ (entCells x)[2]! = .int .i64 x.2.2.1 ∧ (entCells x)[3]! = .string x.2.2.2.1 ∧ (entCells x)[4]! = .int .i64 x.2.2.2.2 := ⟨rfl, rfl, rfl, rfl, rfl⟩
theorem holds_ents {w : World} {base g n c : Nat} {L : List EntD} (hO : OwnE w base g n c L) : HoldsK entCells 5 w g 0 L.toArray := by
  intro t ht
  rw [size_flatK] at ht
  have hl := hO.len
  have hlt : t / 5 < L.length := by simp at ht; omega
  refine ⟨?_, by rw [Nat.zero_add]; exact hO.owns.frozenAt _⟩
  rw [get_flatK _ _ _ _ ht]
  obtain ⟨c0, c1, c2, c3, c4⟩ := hO.entsAt.cells _ rfl (t / 5) hlt
  have e : (L.toArray)[t / 5]! = L[t / 5] := by simp [hlt]
  rw [e]
  obtain ⟨z0, z1, z2, z3, z4⟩ := ent_five L[t / 5]
  have hm : t % 5 < 5 := Nat.mod_lt _ (by omega)
  have ht5 : t = t / 5 * 5 + t % 5 := by omega
  rcases (show t % 5 = 0 ∨ t % 5 = 1 ∨ t % 5 = 2 ∨ t % 5 = 3 ∨ t % 5 = 4 by omega) with h | h | h | h | h
  · rw [h, z0]; rw [show (0 : Nat) + t = 0 + t / 5 * 5 by omega]; exact c0
  · rw [h, z1]; rw [show (0 : Nat) + t = 0 + t / 5 * 5 + 1 by omega]; exact c1
  · rw [h, z2]; rw [show (0 : Nat) + t = 0 + t / 5 * 5 + 2 by omega]; exact c2
  · rw [h, z3]; rw [show (0 : Nat) + t = 0 + t / 5 * 5 + 3 by omega]; exact c3
  · rw [h, z4]; rw [show (0 : Nat) + t = 0 + t / 5 * 5 + 4 by omega]; exact c4
theorem ents_holds {w : World} {g : Nat} {D : Array EntD} (h : HoldsK entCells 5 w g 0 D) (i : Nat) (hi : i < D.toList.length) : EntCells w g (0 + i * 5) D.toList[i] := by
  have hi' : i < D.size := by simpa using hi
  have e : D[i]! = D.toList[i] := by simp [hi']
  have key : ∀ j, j < 5 → w.cell? ⟨g, 0 + i * 5 + j, none⟩ = some ((entCells D.toList[i])[j]!) := fun j hj => by
    have hlt : i * 5 + j < D.size * 5 := by omega
    have := (h (i * 5 + j) (by rw [size_flatK]; exact hlt)).1
    rw [get_flatK _ _ _ _ hlt, (five i j hj).1, (five i j hj).2, e] at this
    rw [Nat.add_assoc]
    exact this
  obtain ⟨z0, z1, z2, z3, z4⟩ := ent_five D.toList[i]
  exact ⟨by rw [← z0]; exact key 0 (by omega), by rw [← z1]; exact key 1 (by omega), by rw [← z2]; exact key 2 (by omega), by rw [← z3]; exact key 3 (by omega), by rw [← z4]; exact key 4 (by omega)⟩
theorem grown_sorted {w : World} {g n : Nat} {os : Array Obj} (d : Array EntD) : w.grownBy (sortWorldK entCells 5 w g 0 n d os) (some g) := by
  unfold sortWorldK putRowK
  refine ⟨rfl, rfl, rfl, by simp, fun k hk hne => ?_⟩
  rw [heap_grow_old _ _ (by simpa using hk)]
  have : g ≠ k := fun e => hne (by rw [e])
  simp [putRow, mapBlock, Sort.ahead, Array.getElem?_modify, this]
end Go.Proofs.YtlmgojlffgkciaaGreat

namespace Go.Proofs.YtlmgojlffgkciaaGreat
open Go.Shelf
def Tryz.insL_ren : Go.Shelf.Ren := ⟨fun | 20 => 195 | n => n, fun | 24 => 78 | 22 => 28 | 3 => 3 | 25 => 159 | 4 => 4 | 0 => 0 | n => n, fun | n => n⟩
theorem Tryz.insL : Go.Proofs.SlLaysF0.n20 Tryz.prog Tryz.insL_ren := {
  mixed := by kernel_rfl
  f20 := ⟨Tryz.f195.name, by decide, Tryz.func195.trans (congrArg some (by kernel_rfl))⟩
  t0 := Tryz.underlying0
  a0 := Tryz.isAgg0
  z0 := Tryz.sizeOf0
  v0 := Tryz.zeroValue0
  t3 := Tryz.underlying3
  a3 := Tryz.isAgg3
  z3 := Tryz.sizeOf3
  v3 := Tryz.zeroValue3
  t4 := Tryz.underlying4
  a4 := Tryz.isAgg4
  z4 := Tryz.sizeOf4
  v4 := Tryz.zeroValue4
  t22 := Tryz.underlying28
  a22 := Tryz.isAgg28
  z22 := Tryz.sizeOf28
  v22 := Tryz.zeroValue28
  t25 := Tryz.underlying159
  a25 := Tryz.isAgg159
  z25 := Tryz.sizeOf159
  v25 := Tryz.zeroValue159 }
end Go.Proofs.YtlmgojlffgkciaaGreat

namespace Go.Proofs.YtlmgojlffgkciaaGreat
open Go.RowKit

attribute [local go_sem] Oper.semAt_some

/-- A cell as the program has it. -/
def cellV (c : CellD) : Value := .agg #[.bool c.1, .string c.2.1, .int .i64 c.2.2]
def cellN (b : Bool) (t : ByteArray) (n : Int) (d : Int) (t' : ByteArray) (n' : Int) : CellD :=
  if d = 1 then (true, t', n') else if d = 2 then (false, ⟨#[]⟩, 0) else if d = 3 then (true, t, wrap64 (n + n')) else (b, t, n)
theorem cellN_1 {b : Bool} {t t' : ByteArray} {n n' : Int} : cellN b t n 1 t' n' = (true, t', n') := by simp [cellN]
theorem cellN_2 {b : Bool} {t t' : ByteArray} {n n' : Int} : cellN b t n 2 t' n' = (false, ⟨#[]⟩, 0) := by simp [cellN]
theorem cellN_3 {b : Bool} {t t' : ByteArray} {n n' : Int} : cellN b t n 3 t' n' = (true, t, wrap64 (n + n')) := by simp [cellN]
theorem cellN_0 {b : Bool} {t t' : ByteArray} {n d n' : Int} (h1 : ¬ d = 1) (h2 : ¬ d = 2) (h3 : ¬ d = 3) : cellN b t n d t' n' = (b, t, n) := by simp [cellN, h1, h2, h3]
theorem cellV_ret {c c' : CellD} (h : c = c') : Ending.returned (cellV c) = .returned (cellV c') := by rw [h]

set_option maxRecDepth 100000 in
set_option maxHeartbeats 400000 in
theorem do_putKind (b : Bool) (t k t' : ByteArray) (n q d n' : Int) (w : World) :
    Calls Tryz.prog 261 #[.agg #[], .agg #[.bool b, .string t, .int .i64 n], .agg #[.string k, .int .i64 q, .int .i64 d, .string t', .int .i64 n']] w fun e w' => e = .returned (cellV (true, t', n')) ∧ Below w.heap.size w w' := by
  go_enter Tryz.func261, Tryz.ntmps261
  go_wp2
  refine bodyPost_ret (v := .agg #[.bool true, .string t', .int .i64 n']) (by simp [results, Tryz.results261, go_sem]) rfl ⟨rfl, ?_⟩
  exact (((((Below.refl _ _).alloc (Nat.le_refl _) _).alloc (by simp) _).alloc (by simp; omega) _).alloc (by simp; omega) _)

set_option maxRecDepth 100000 in
set_option maxHeartbeats 400000 in
theorem do_delKind (b : Bool) (t k t' : ByteArray) (n q d n' : Int) (w : World) :
    Calls Tryz.prog 263 #[.agg #[], .agg #[.bool b, .string t, .int .i64 n], .agg #[.string k, .int .i64 q, .int .i64 d, .string t', .int .i64 n']] w fun e w' => e = .returned (cellV (false, ⟨#[]⟩, 0)) ∧ Below w.heap.size w w' := by
  go_enter Tryz.func263, Tryz.ntmps263
  go_wp2
  refine bodyPost_ret (v := .agg #[.bool false, .string ⟨#[]⟩, .int .i64 0]) (by simp [results, Tryz.results263, go_sem]) rfl ⟨rfl, ?_⟩
  exact (((((Below.refl _ _).alloc (Nat.le_refl _) _).alloc (by simp) _).alloc (by simp; omega) _).alloc (by simp; omega) _)

set_option maxRecDepth 100000 in
set_option maxHeartbeats 400000 in
theorem do_addKind (b : Bool) (t k t' : ByteArray) (n q d n' : Int) (w : World) :
    Calls Tryz.prog 265 #[.agg #[], .agg #[.bool b, .string t, .int .i64 n], .agg #[.string k, .int .i64 q, .int .i64 d, .string t', .int .i64 n']] w fun e w' => e = .returned (cellV (true, t, wrap64 (n + n'))) ∧ Below w.heap.size w w' := by
  go_enter Tryz.func265, Tryz.ntmps265
  go_wp2
  refine bodyPost_ret (v := .agg #[.bool true, .string t, .int .i64 (wrap64 (n + n'))]) (by simp [results, Tryz.results265, go_sem]) rfl ⟨rfl, ?_⟩
  exact (((((Below.refl _ _).alloc (Nat.le_refl _) _).alloc (by simp) _).alloc (by simp; omega) _).alloc (by simp; omega) _)

set_option maxRecDepth 100000 in
set_option maxHeartbeats 400000 in
theorem do_noKind (b : Bool) (t k t' : ByteArray) (n q d n' : Int) (w : World) :
    Calls Tryz.prog 267 #[.agg #[], .agg #[.bool b, .string t, .int .i64 n], .agg #[.string k, .int .i64 q, .int .i64 d, .string t', .int .i64 n']] w fun e w' => e = .returned (cellV (b, t, n)) ∧ Below w.heap.size w w' := by
  go_enter Tryz.func267, Tryz.ntmps267
  go_wp2
  refine bodyPost_ret (v := .agg #[.bool b, .string t, .int .i64 n]) (by simp [results, Tryz.results267, go_sem]) rfl ⟨rfl, ?_⟩
  exact (((((Below.refl _ _).alloc (Nat.le_refl _) _).alloc (by simp) _).alloc (by simp; omega) _).alloc (by simp; omega) _)

end Go.Proofs.YtlmgojlffgkciaaGreat
