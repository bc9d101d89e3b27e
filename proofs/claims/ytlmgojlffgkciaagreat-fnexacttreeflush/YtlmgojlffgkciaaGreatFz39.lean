/-
  The library's slices.Sort at numbers at this program, laid by the kit's own command.
  A contract of the library's slices package at this program, laid by the kit's own command.
  Whether no time that is kept tells two entries apart, by a walk of the program's areOneClass.
-/
import Derived.Ground.SlgmProg
import Derived.Shelf.SortM.Plain
import Derived.Shelf.SortM.SortNone
import Derived.Test.YtlmgojlffgkciaaGreatProg
import Derived.Ground.Names2Prog
import Derived.Shelf.Slices.SearchI
import Derived.Shelf.Slices.Empties
import Derived.Test.YtlmgojlffgkciaaGreatFz33
import Derived.Test.YtlmgojlffgkciaaGreatFz02
namespace Go.Proofs.YtlmgojlffgkciaaGreat
open Go.Shelf
def Tryz.laysSlM5_f94_ren : Go.Shelf.Ren := ⟨fun | 5 => 212 | 8 => 181 | 7 => 223 | 19 => 208 | 20 => 209 | 10 => 228 | 11 => 229 | 12 => 230 | 13 => 231 | 14 => 232 | 15 => 233 | 16 => 224 | 17 => 234 | 18 => 235 | 30 => 236 | 31 => 217 | 32 => 218 | 33 => 237 | 34 => 238 | 35 => 197 | 40 => 239 | n => n, fun | 23 => 24 | 25 => 3 | 3 => 3 | 32 => 197 | 22 => 24 | 0 => 0 | 44 => 235 | 46 => 237 | 4 => 4 | 36 => 229 | 35 => 228 | 41 => 198 | 5 => 5 | 9 => 9 | 53 => 241 | 57 => 245 | 63 => 249 | 64 => 106 | n => n, fun | n => n⟩
theorem Tryz.laysSlM5_f94 : Go.Proofs.SlLaysM.n5 Tryz.prog Tryz.laysSlM5_f94_ren := {
  mixed := by kernel_rfl
  f5 := ⟨Tryz.f212.name, by decide, Tryz.func212.trans (congrArg some (by kernel_rfl))⟩
  f7 := ⟨Tryz.f223.name, by decide, Tryz.func223.trans (congrArg some (by kernel_rfl))⟩
  f8 := Tryz.func181.trans (congrArg some (by kernel_rfl))
  f10 := ⟨Tryz.f228.name, by decide, Tryz.func228.trans (congrArg some (by kernel_rfl))⟩
  f11 := ⟨Tryz.f229.name, by decide, Tryz.func229.trans (congrArg some (by kernel_rfl))⟩
  f12 := ⟨Tryz.f230.name, by decide, Tryz.func230.trans (congrArg some (by kernel_rfl))⟩
  f13 := ⟨Tryz.f231.name, by decide, Tryz.func231.trans (congrArg some (by kernel_rfl))⟩
  f14 := ⟨Tryz.f232.name, by decide, Tryz.func232.trans (congrArg some (by kernel_rfl))⟩
  f15 := ⟨Tryz.f233.name, by decide, Tryz.func233.trans (congrArg some (by kernel_rfl))⟩
  f16 := ⟨Tryz.f224.name, by decide, Tryz.func224.trans (congrArg some (by kernel_rfl))⟩
  f17 := ⟨Tryz.f234.name, by decide, Tryz.func234.trans (congrArg some (by kernel_rfl))⟩
  f18 := ⟨Tryz.f235.name, by decide, Tryz.func235.trans (congrArg some (by kernel_rfl))⟩
  f19 := Tryz.func208.trans (congrArg some (by kernel_rfl))
  f20 := Tryz.func209.trans (congrArg some (by kernel_rfl))
  f30 := ⟨Tryz.f236.name, by decide, Tryz.func236.trans (congrArg some (by kernel_rfl))⟩
  f31 := Tryz.func217.trans (congrArg some (by kernel_rfl))
  f32 := Tryz.func218.trans (congrArg some (by kernel_rfl))
  f33 := ⟨Tryz.f237.name, by decide, Tryz.func237.trans (congrArg some (by kernel_rfl))⟩
  f34 := ⟨Tryz.f238.name, by decide, Tryz.func238.trans (congrArg some (by kernel_rfl))⟩
  f35 := ⟨Tryz.f197.name, by decide, Tryz.func197.trans (congrArg some (by kernel_rfl))⟩
  f40 := ⟨Tryz.f239.name, by decide, Tryz.func239.trans (congrArg some (by kernel_rfl))⟩
  t0 := Tryz.underlying0
  a0 := Tryz.isAgg0
  z0 := Tryz.sizeOf0
  v0 := Tryz.zeroValue0
  t3 := Tryz.underlying3
  a3 := Tryz.isAgg3
  z3 := Tryz.sizeOf3
  v3 := Tryz.zeroValue3
  t4 := Tryz.underlying4
  a4 := Tryz.isAgg4
  z4 := Tryz.sizeOf4
  v4 := Tryz.zeroValue4
  t5 := Tryz.underlying5
  a5 := Tryz.isAgg5
  z5 := Tryz.sizeOf5
  v5 := Tryz.zeroValue5
  t9 := Tryz.underlying9
  a9 := Tryz.isAgg9
  z9 := Tryz.sizeOf9
  v9 := Tryz.zeroValue9
  t22 := Tryz.underlying24
  a22 := Tryz.isAgg24
  z22 := Tryz.sizeOf24
  v22 := Tryz.zeroValue24
  t23 := Tryz.underlying24
  a23 := Tryz.isAgg24
  z23 := Tryz.sizeOf24
  v23 := Tryz.zeroValue24
  t25 := Tryz.underlying3
  a25 := Tryz.isAgg3
  z25 := Tryz.sizeOf3
  v25 := Tryz.zeroValue3
  t32 := Tryz.underlying197
  a32 := Tryz.isAgg197
  z32 := Tryz.sizeOf197
  v32 := Tryz.zeroValue197
  t35 := Tryz.underlying228
  a35 := Tryz.isAgg228
  z35 := Tryz.sizeOf228
  v35 := Tryz.zeroValue228
  t36 := Tryz.underlying229
  a36 := Tryz.isAgg229
  z36 := Tryz.sizeOf229
  v36 := Tryz.zeroValue229
  t41 := Tryz.underlying198
  a41 := Tryz.isAgg198
  z41 := Tryz.sizeOf198
  v41 := Tryz.zeroValue198
  t44 := Tryz.underlying235
  a44 := Tryz.isAgg235
  z44 := Tryz.sizeOf235
  v44 := Tryz.zeroValue235
  t46 := Tryz.underlying237
  a46 := Tryz.isAgg237
  z46 := Tryz.sizeOf237
  v46 := Tryz.zeroValue237
  t53 := Tryz.underlying241
  a53 := Tryz.isAgg241
  z53 := Tryz.sizeOf241
  v53 := Tryz.zeroValue241
  t57 := Tryz.underlying245
  a57 := Tryz.isAgg245
  z57 := Tryz.sizeOf245
  v57 := Tryz.zeroValue245
  t63 := Tryz.underlying249
  a63 := Tryz.isAgg249
  z63 := Tryz.sizeOf249
  v63 := Tryz.zeroValue249
  t64 := Tryz.underlying106
  a64 := Tryz.isAgg106
  z64 := Tryz.sizeOf106
  v64 := Tryz.zeroValue106 }
open Go.Sort Go.RowKit in
theorem Tryz.slices_Sort_int (blk off cap : Nat) (zs : List Int) (w : World) (hH : Holds (Value.int .i64) w blk off zs.toArray) (hblk : blk < w.heap.size) (hsz : zs.length < 4611686018427387904) :
    Calls Tryz.prog 212 #[.slice (some ⟨blk, off, none⟩) zs.length cap] w fun e w' =>
      e = .returned (.tuple #[]) ∧ ∃ n os, w' = grow (putRow (Value.int .i64) (Sort.ahead w n) blk off (zs.mergeSort fun x y => decide (x ≤ y)).toArray) os := AnyM.slices_Sort_int Tryz.laysSlM5_f94 blk off cap zs w hH hblk hsz
open Go.RowKit Go.Sort in
theorem Tryz.slices_Sort_int_none (p : Option Addr) (cap : Nat) (w : World) :
    Calls Tryz.prog 212 #[.slice p 0 cap] w fun e w' => e = .returned (.tuple #[]) ∧ w' = w := AnyM.slices_Sort_int_none Tryz.laysSlM5_f94 p cap w
end Go.Proofs.YtlmgojlffgkciaaGreat

namespace Go.Proofs.YtlmgojlffgkciaaGreat
open Go.Shelf
def Tryz.lays25_ren : Go.Shelf.Ren := ⟨fun | 25 => 214 | 31 => 224 | 32 => 225 | 37 => 197 | n => n, fun | 22 => 24 | 3 => 3 | 4 => 4 | 40 => 197 | 0 => 0 | n => n, fun | n => n⟩
theorem Tryz.lays25 : Go.Proofs.Lays2.n25 Tryz.prog Tryz.lays25_ren := {
  mixed := by kernel_rfl
  f25 := Tryz.func214.trans (congrArg some (by kernel_rfl))
  f31 := Tryz.func224.trans (congrArg some (by kernel_rfl))
  f32 := Tryz.func225.trans (congrArg some (by kernel_rfl))
  f37 := Tryz.func197.trans (congrArg some (by kernel_rfl))
  t0 := Tryz.underlying0
  a0 := Tryz.isAgg0
  z0 := Tryz.sizeOf0
  v0 := Tryz.zeroValue0
  t3 := Tryz.underlying3
  a3 := Tryz.isAgg3
  z3 := Tryz.sizeOf3
  v3 := Tryz.zeroValue3
  t4 := Tryz.underlying4
  a4 := Tryz.isAgg4
  z4 := Tryz.sizeOf4
  v4 := Tryz.zeroValue4
  t22 := Tryz.underlying24
  a22 := Tryz.isAgg24
  z22 := Tryz.sizeOf24
  v22 := Tryz.zeroValue24
  t40 := Tryz.underlying197
  a40 := Tryz.isAgg197
  z40 := Tryz.sizeOf197
  v40 := Tryz.zeroValue197 }
end Go.Proofs.YtlmgojlffgkciaaGreat

namespace Go.Proofs.YtlmgojlffgkciaaGreat
open Go.RowKit
set_option maxRecDepth 100000
set_option maxHeartbeats 2000000
theorem apart_count {o p : Int} : ∀ (K : List Int), K.Pairwise (· ≤ ·) → (K.countP (· < o) = K.length → apartB K o p = false) ∧ (∀ k, K[K.countP (· < o)]? = some k → apartB K o p = decide (k < p)) := by
  intro K
  induction K with
  | nil => intro _; exact ⟨fun _ => rfl, fun k h => by simp at h⟩
  | cons x R ih =>
    intro h
    obtain ⟨hx, hR⟩ := List.pairwise_cons.1 h
    obtain ⟨i1, i2⟩ := ih hR
    by_cases hxo : x < o
    · have e1 : apartB (x :: R) o p = apartB R o p := by
        unfold apartB
        rw [List.any_cons]
        have : decide (o ≤ x) = false := by simp; omega
        rw [this]; simp
      have e2 : (x :: R).countP (· < o) = R.countP (· < o) + 1 := by rw [List.countP_cons_of_pos (by simpa using hxo)]
      rw [e1, e2]
      exact ⟨fun h => i1 (by simpa using h), fun k h => i2 k (by simpa using h)⟩
    · have e2 : (x :: R).countP (· < o) = 0 := by
        rw [List.countP_eq_zero]
        intro y hy
        rcases List.mem_cons.1 hy with rfl | hy
        · simpa using hxo
        · have := hx y hy; simp; omega
      rw [e2]
      refine ⟨fun h => by simp at h, fun k h => ?_⟩
      simp at h
      subst h
      unfold apartB
      by_cases hxp : x < p
      · simp [hxp]; left; omega
      · simp [hxp]
        intro y hy _
        have := hx y hy
        omega
theorem apart_perm {K S : List Int} (h : K.Perm S) (o p : Int) : apartB K o p = apartB S o p := by
  unfold apartB
  rw [Bool.eq_iff_iff, List.any_eq_true, List.any_eq_true]
  exact ⟨fun ⟨x, hx, hp⟩ => ⟨x, h.mem_iff.1 hx, hp⟩, fun ⟨x, hx, hp⟩ => ⟨x, h.mem_iff.2 hx, hp⟩⟩
theorem searchInt (lo : Nat) (a : Option Addr) (n c : Nat) (K : List Int) (x : Int) (w : World) (h : IntsIn lo w a n c K) (hs : K.Pairwise (· ≤ ·)) (hn : n ≤ 1048576) :
    Calls Tryz.prog 214 #[.slice a n c, .int .i64 x] w fun e w' => e = .returned (.tuple #[.int .i64 (K.countP (· < x) : Nat), .bool (K.contains x)]) ∧ ∃ q, w' = w.drewN q := by
  by_cases h0 : n = 0
  · subst h0
    have hk : K = [] := List.length_eq_zero_iff.1 h.length
    subst hk
    refine (Any.slices_BinarySearch_int_empty Tryz.lays25 a c x w).mono ?_
    rintro e w' ⟨rfl, rfl⟩
    exact ⟨rfl, 0, rfl⟩
  · obtain ⟨b, off, rfl, hbb⟩ := h.form (by omega)
    have hln := h.length
    have hb := h.big
    have hr := h.room
    unfold maxLen at hb
    have ht : K.take n = K := List.take_of_length_le (by omega)
    have hh := Any.slices_BinarySearch_int Tryz.lays25 b off n c K x w (by omega) (by omega) (fun j hj => by rw [h.cells _ rfl j hj]; simp [List.getD, hj]) (by rw [ht]; exact hs)
    rw [ht] at hh
    exact hh
theorem implOne (lo : Nat) (a : Option Addr) (n c : Nat) (K : List Int) (s t s' t' : ByteArray) (q d m q' d' m' : Int) (w : World) (h : IntsIn lo w a n c K) (hs : K.Pairwise (· ≤ ·)) (hn : n ≤ 1048576) :
    Calls Tryz.prog 188 #[.agg #[.string s, .int .i64 q, .int .i64 d, .string t, .int .i64 m], .agg #[.string s', .int .i64 q', .int .i64 d', .string t', .int .i64 m'], .slice a n c] w fun e w' => e = .returned (.bool (decide (s = s') && !apartB K q' q)) ∧ Below w.heap.size w w' := by
  obtain ⟨v, hv⟩ : ∃ v, v = K.countP (· < q') := ⟨_, rfl⟩
  obtain ⟨A, hA⟩ : ∃ A, A = apartB K q' q := ⟨_, rfl⟩
  obtain ⟨B, hB⟩ : ∃ B, B = K.contains q' := ⟨_, rfl⟩
  have hc := apart_count (o := q') (p := q) K hs
  rw [← hv, ← hA] at hc
  have HS : Hid (∀ w', Below w.heap.size w w' → Calls Tryz.prog 214 #[.slice a n c, .int .i64 q'] w' fun e w'' => e = .returned (.tuple #[.int .i64 (v : Nat), .bool B]) ∧ ∃ q, w'' = w'.drewN q) := by rw [hv, hB]; exact fun w' hb => searchInt lo a n c K q' w' (h.keep hb) hs hn
  have hvn : v ≤ n := by rw [hv, ← h.length]; exact List.countP_le_length
  have hln := h.length
  have HC : Hid ((v = n → A = false) ∧ ∀ k, K[v]? = some k → A = decide (k < q)) := by rw [hln] at hc; exact hc
  have H : Hid (IntsIn lo w a n c K) := h
  have hbc := h.big
  have hbr := h.room
  unfold maxLen at hbc
  rw [← hA]
  obtain ⟨X, hX⟩ : ∃ X, X = w.heap.size := ⟨_, rfl⟩
  obtain ⟨W, hW⟩ : ∃ W, W = (w.alloc (.cells #[.string s, .int .i64 q, .int .i64 d, .string t, .int .i64 m] 78)).alloc (.cells #[.string s', .int .i64 q', .int .i64 d', .string t', .int .i64 m'] 78) := ⟨_, rfl⟩
  have kW : Below w.heap.size w W := by rw [hW]; exact ((Below.refl _ _).alloc (Nat.le_refl _) _).alloc (by simp) _
  have x0 : W.cell? ⟨X, 0, none⟩ = some (.string s) := by rw [hW, hX]; simp
  have x1 : W.cell? ⟨X, 1, none⟩ = some (.int .i64 q) := by rw [hW, hX]; simp
  have y0 : W.cell? ⟨X + 1, 0, none⟩ = some (.string s') := by rw [hW, hX]; simp
  have hXW : X + 1 < W.heap.size := by rw [hW, hX]; simp
  clear h hs hv hA hB hc hln
  go_enter Tryz.func188, Tryz.ntmps188
  go_wp2_with fail
  rw [← hW, ← hX]
  clear hW
  refine (HS.out _ kW).mono ?_
  rintro e w1 ⟨rfl, p, hw1⟩
  have z0 : w1.cell? ⟨X, 0, none⟩ = some (.string s) := by rw [hw1]; exact x0
  have z1 : w1.cell? ⟨X, 1, none⟩ = some (.int .i64 q) := by rw [hw1]; exact x1
  have z2 : w1.cell? ⟨X + 1, 0, none⟩ = some (.string s') := by rw [hw1]; exact y0
  have hXw : X + 1 < w1.heap.size := by rw [hw1]; exact hXW
  have hXw' : X < w1.heap.size := by omega
  have KW : Hid (Below w.heap.size w w1) := by rw [hw1]; exact ⟨kW.os, kW.tape, kW.output, kW.size, kW.block⟩
  clear hw1 x0 x1 y0 hXW kW HS hX
  by_cases hss : s = s'
  · subst hss
    have e1 : (s.toList == s.toList) = true := by simp
    by_cases hvv : v = n
    · have hvI : (v : Int) = (n : Int) := by omega
      have HAF : Hid (A = false) := HC.out.1 hvv
      subst hvv
      clear HC
      have k0 : Below w1.heap.size w1 w1.drew := (Below.refl _ w1).drew
      have HMK : Hid (∀ w', Below w1.heap.size w1 w' → (w'.cell? ⟨X, 0, none⟩ = some (.string s) ∧ w'.cell? ⟨X, 1, none⟩ = some (.int .i64 q) ∧ w'.cell? ⟨X + 1, 0, none⟩ = some (.string s) ∧ Below w1.heap.size w1 w')) := fun w' kk => ⟨cell_later kk z0, cell_later kk z1, cell_later kk z2, kk⟩
      go_wp2
      refine wp_region_held_drew (S := (fun w' => w'.cell? ⟨X, 0, none⟩ = some (.string s) ∧ w'.cell? ⟨X, 1, none⟩ = some (.int .i64 q) ∧ w'.cell? ⟨X + 1, 0, none⟩ = some (.string s) ∧ Below w1.heap.size w1 w')) (by kernel_rfl) (HMK.out _ k0) (fun hHeld => ?_)
      refine tkL 0 hHeld ?_; try go_frame
      refine tkL 1 hHeld ?_; try go_frame
      refine tkL 2 hHeld ?_; try go_frame
      refine tkL 3 hHeld ?_; try go_frame
      refine tkL 4 hHeld ?_; try go_frame
      refine tkL 5 hHeld ?_; try go_frame
      refine tkL 6 hHeld ?_; try go_frame
      refine tkL 7 hHeld ?_; try go_frame
      refine tkL 8 hHeld ?_; try go_frame
      refine tkL 9 hHeld ?_; try go_frame
      refine tkL 10 hHeld ?_; try go_frame
      refine tkN 11 hHeld ?_; try go_frame
      refine tkN 12 hHeld ?_; try go_frame
      refine tkN 13 hHeld ?_; try go_frame
      refine tkN 14 hHeld ?_; try go_frame
      refine tkN 15 hHeld ?_; try go_frame
      refine tkN 16 hHeld ?_; try go_frame
      refine tkN 17 hHeld ?_; try go_frame
      refine tkL 18 hHeld ?_; try go_frame
      refine tkL 19 hHeld ?_; try go_frame
      refine tkL 20 hHeld ?_; try go_frame
      refine wpAnyH_done (by kernel_rfl) ?_ _
      go_wp2
      go_ret
      exact ⟨by rw [HAF.out]; simp, KW.out.trans (k0.mono KW.out.size)⟩
    · obtain ⟨b, off, rfl, hbb⟩ := H.out.form (by omega)
      obtain ⟨k, hk, _, hck⟩ := H.out.num KW.out v (by omega)
      have HAK : Hid (A = decide (k < q)) := HC.out.2 k hk
      have hvI : ¬ (v : Int) = (n : Int) := by omega
      have hvD : decide ((v : Int) = (n : Int)) = false := by simp; omega
      have hvB : ((v : Int) == (n : Int)) = false := by simp; omega
      have hvL : (v : Int) < (n : Int) := by omega
      have hbw : b < w1.heap.size := Nat.lt_of_lt_of_le hbb KW.out.size
      clear HC hk hbb hvv
      by_cases hkq : q ≤ k
      · have HKD : Hid (A = false) := by show A = false; rw [HAK.out]; simp; omega
        have k0 : Below w1.heap.size w1 w1.drew := (Below.refl _ w1).drew
        have HMK : Hid (∀ w', Below w1.heap.size w1 w' → (w'.cell? ⟨X, 0, none⟩ = some (.string s) ∧ w'.cell? ⟨X, 1, none⟩ = some (.int .i64 q) ∧ w'.cell? ⟨X + 1, 0, none⟩ = some (.string s) ∧ w'.cell? ⟨b, off + v, none⟩ = some (.int .i64 k) ∧ Below w1.heap.size w1 w')) := fun w' kk => ⟨cell_later kk z0, cell_later kk z1, cell_later kk z2, cell_later kk hck, kk⟩
        go_wp2
        refine wp_region_held_drew (S := (fun w' => w'.cell? ⟨X, 0, none⟩ = some (.string s) ∧ w'.cell? ⟨X, 1, none⟩ = some (.int .i64 q) ∧ w'.cell? ⟨X + 1, 0, none⟩ = some (.string s) ∧ w'.cell? ⟨b, off + v, none⟩ = some (.int .i64 k) ∧ Below w1.heap.size w1 w')) (by kernel_rfl) (HMK.out _ k0) (fun hHeld => ?_)
        refine tkL 0 hHeld ?_; try go_frame
        refine tkL 1 hHeld ?_; try go_frame
        refine tkL 2 hHeld ?_; try go_frame
        refine tkL 3 hHeld ?_; try go_frame
        refine tkL 4 hHeld ?_; try go_frame
        refine tkL 5 hHeld ?_; try go_frame
        refine tkL 6 hHeld ?_; try go_frame
        refine tkL 7 hHeld ?_; try go_frame
        refine tkL 8 hHeld ?_; try go_frame
        refine tkL 9 hHeld ?_; try go_frame
        refine tkL 10 hHeld ?_; try go_frame
        refine tkL 11 hHeld ?_; try go_frame
        refine tkL 12 hHeld ?_; try go_frame
        refine tkL 13 hHeld ?_; try go_frame
        refine tkL 14 hHeld ?_; try go_frame
        refine tkL 15 hHeld ?_; try go_frame
        refine tkL 16 hHeld ?_; try go_frame
        refine tkL 17 hHeld ?_; try go_frame
        refine tkL 18 hHeld ?_; try go_frame
        refine tkL 19 hHeld ?_; try go_frame
        refine tkL 20 hHeld ?_; try go_frame
        refine wpAnyH_done (by kernel_rfl) ?_ _
        go_wp2
        go_ret
        exact ⟨by rw [HKD.out]; simp, KW.out.trans (k0.mono KW.out.size)⟩
      · have HKD : Hid (A = true) := by show A = true; rw [HAK.out]; simp; omega
        have k0 : Below w1.heap.size w1 w1.drew := (Below.refl _ w1).drew
        have HMK : Hid (∀ w', Below w1.heap.size w1 w' → (w'.cell? ⟨X, 0, none⟩ = some (.string s) ∧ w'.cell? ⟨X, 1, none⟩ = some (.int .i64 q) ∧ w'.cell? ⟨X + 1, 0, none⟩ = some (.string s) ∧ w'.cell? ⟨b, off + v, none⟩ = some (.int .i64 k) ∧ Below w1.heap.size w1 w')) := fun w' kk => ⟨cell_later kk z0, cell_later kk z1, cell_later kk z2, cell_later kk hck, kk⟩
        go_wp2
        refine wp_region_held_drew (S := (fun w' => w'.cell? ⟨X, 0, none⟩ = some (.string s) ∧ w'.cell? ⟨X, 1, none⟩ = some (.int .i64 q) ∧ w'.cell? ⟨X + 1, 0, none⟩ = some (.string s) ∧ w'.cell? ⟨b, off + v, none⟩ = some (.int .i64 k) ∧ Below w1.heap.size w1 w')) (by kernel_rfl) (HMK.out _ k0) (fun hHeld => ?_)
        refine tkL 0 hHeld ?_; try go_frame
        refine tkL 1 hHeld ?_; try go_frame
        refine tkL 2 hHeld ?_; try go_frame
        refine tkL 3 hHeld ?_; try go_frame
        refine tkL 4 hHeld ?_; try go_frame
        refine tkL 5 hHeld ?_; try go_frame
        refine tkL 6 hHeld ?_; try go_frame
        refine tkL 7 hHeld ?_; try go_frame
        refine tkL 8 hHeld ?_; try go_frame
        refine tkL 9 hHeld ?_; try go_frame
        refine tkL 10 hHeld ?_; try go_frame
        refine tkL 11 hHeld ?_; try go_frame
        refine tkL 12 hHeld ?_; try go_frame
        refine tkL 13 hHeld ?_; try go_frame
        refine tkL 14 hHeld ?_; try go_frame
        refine tkL 15 hHeld ?_; try go_frame
        refine tkL 16 hHeld ?_; try go_frame
        refine tkL 17 hHeld ?_; try go_frame
        refine tkL 18 hHeld ?_; try go_frame
        refine tkL 19 hHeld ?_; try go_frame
        refine tkL 20 hHeld ?_; try go_frame
        refine wpAnyH_done (by kernel_rfl) ?_ _
        go_wp2
        go_ret
        exact ⟨by rw [HKD.out]; simp; omega, KW.out.trans (k0.mono KW.out.size)⟩
  · have hne : ¬ s.toList = s'.toList := by
      rw [ByteArray.toList_eq, ByteArray.toList_eq]
      intro h
      exact hss (ByteArray.ext (Array.toList_inj.1 h))
    have hne' : (s.toList == s'.toList) = false := by simpa using hne
    have HD : Hid (decide (s = s') = false) := by simpa [Hid] using hss
    clear hss HC H
    have k0 : Below w1.heap.size w1 w1.drew := (Below.refl _ w1).drew
    have HMK : Hid (∀ w', Below w1.heap.size w1 w' → (w'.cell? ⟨X, 0, none⟩ = some (.string s) ∧ w'.cell? ⟨X, 1, none⟩ = some (.int .i64 q) ∧ w'.cell? ⟨X + 1, 0, none⟩ = some (.string s') ∧ Below w1.heap.size w1 w')) := fun w' kk => ⟨cell_later kk z0, cell_later kk z1, cell_later kk z2, kk⟩
    go_wp2
    refine wp_region_held_drew (S := (fun w' => w'.cell? ⟨X, 0, none⟩ = some (.string s) ∧ w'.cell? ⟨X, 1, none⟩ = some (.int .i64 q) ∧ w'.cell? ⟨X + 1, 0, none⟩ = some (.string s') ∧ Below w1.heap.size w1 w')) (by kernel_rfl) (HMK.out _ k0) (fun hHeld => ?_)
    refine tkL 0 hHeld ?_; try go_frame
    refine tkL 1 hHeld ?_; try go_frame
    refine tkL 2 hHeld ?_; try go_frame
    refine tkL 3 hHeld ?_; try go_frame
    refine tkL 4 hHeld ?_; try go_frame
    refine tkL 5 hHeld ?_; try go_frame
    refine tkN 6 hHeld ?_; try go_frame
    refine tkN 7 hHeld ?_; try go_frame
    refine tkN 8 hHeld ?_; try go_frame
    refine tkN 9 hHeld ?_; try go_frame
    refine tkN 10 hHeld ?_; try go_frame
    refine tkN 11 hHeld ?_; try go_frame
    refine tkN 12 hHeld ?_; try go_frame
    refine tkN 13 hHeld ?_; try go_frame
    refine tkN 14 hHeld ?_; try go_frame
    refine tkN 15 hHeld ?_; try go_frame
    refine tkN 16 hHeld ?_; try go_frame
    refine tkN 17 hHeld ?_; try go_frame
    refine tkN 18 hHeld ?_; try go_frame
    refine tkL 19 hHeld ?_; try go_frame
    refine tkL 20 hHeld ?_; try go_frame
    refine wpAnyH_done (by kernel_rfl) ?_ _
    go_wp2
    go_ret
    exact ⟨by rw [HD.out]; rfl, KW.out.trans (k0.mono KW.out.size)⟩
end Go.Proofs.YtlmgojlffgkciaaGreat
