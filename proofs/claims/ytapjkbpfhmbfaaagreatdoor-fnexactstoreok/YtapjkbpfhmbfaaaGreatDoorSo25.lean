/-
  slices.Backward at lists of entries and at runs: what it yields, for every loop body that keeps what it reads, by walks of its Go text.
  Plain: when times that are kept are right, and when entries are within a time; no statement of the program stands here.
  What the program's and the document's KeyMask answer at every text, by walks of their Go text.
  What the document's l4Mask and the program's maskOf answer of every list of entries, by walks of their Go text.
-/
import Derived.Test.YtapjkbpfhmbfaaaGreatDoorSo24
import Derived.Test.YtapjkbpfhmbfaaaGreatDoorSo00
import Derived.Deep.RegionWith
import Derived.Deep.QuietTactic
import Derived.BigQuiet
import Derived.WalkSpells
import Derived.WalkLawsBesides
import Derived.Test.YtapjkbpfhmbfaaaGreatDoorSo01
import Derived.Deep.LoopGhost
import Derived.Test.YtapjkbpfhmbfaaaGreatDoorSo02
namespace Go.Proofs.YtapjkbpfhmbfaaaGreatDoor
set_option maxRecDepth 100000
set_option maxHeartbeats 2000000
open Go.RowKit Go.Shelf
attribute [local go_sem] Oper.semAt_some
def LieL (K : Nat → Prop) (w : World) (a : Option Addr) (len : Nat) (u0 : Nat → Value) : Prop := ∀ b o, a = some ⟨b, o, none⟩ → 1 ≤ len → K b ∧ ∀ i, i < len → w.cell? ⟨b, o + i, none⟩ = some (u0 i)
theorem backL1_in (n l Bp : Nat) (K : Nat → Prop) (hn : 1 ≤ n) (a : Option Addr) (len cap : Nat) (u0 : Nat → Value) (J Jx : List (Fin len) → World → Prop) (W : World)
    (hY : ∀ pre (x : Fin len) W1, J pre W1 → pre.length < len → YieldAt Fence.wide (n - 1) Tryz.prog l #[.int .i64 (x.1 : Nat), u0 x.1] W1 fun e W' =>
      (e = .returned (.bool true) ∧ J (pre ++ [x]) W' ∧ KeepS K W1 W') ∨ (e = .returned (.bool false) ∧ Jx (pre ++ [x]) W'))
    (hKB : K Bp) (hp0 : W.cell? ⟨Bp, 0, none⟩ = some (.slice a len cap)) (hs : 1 ≤ len → ∃ b o, a = some ⟨b, o, none⟩) (hroom : len ≤ cap) (hbig : cap ≤ maxLen) (hKs : ∀ k, K k → k < W.heap.size)
    (hV : LieL K W a len u0) (h0 : J [] W) :
    CallsIn Fence.wide n Tryz.prog 240 #[.func (.yield l) #[] #[], .pointer (some ⟨Bp, 0, none⟩)] W fun e W' => (∃ v, e = .returned v) ∧
      ((∃ ys, ys = downTo len 0 ∧ J ys W') ∨ (∃ pre, pre <+: downTo len 0 ∧ Jx pre W')) := by
  unfold maxLen at hbig
  have HKS : Hid (∀ k, K k → k < W.heap.size) := hKs
  clear hKs
  refine callsIn_of_wp Tryz.func240 rfl trivial ?_ rfl
  simp only [Tryz.ntmps240, List.size_toArray, List.length_cons, List.length_nil, Nat.reduceAdd, Nat.reduceSub, Array.replicate_succ, Array.replicate_zero, List.push_toArray, List.append_toArray, List.nil_append, List.cons_append]
  have wl : IntKind.i64.wrap ((len : Int) - 1) = (len : Int) - 1 := by rw [IntWalk.i64_left]; unfold wrap64; omega
  gi_wp2
  gi_loopw [3] (fun iv wr => ∃ k : Nat, k ≤ len ∧ iv = .int .i64 ((k : Int) - 1) ∧ J (downTo len k) wr ∧ KeepS K W wr) (fun iv _ => (intOf iv + 1).toNat)
  case atStart => exact ⟨len, Nat.le_refl _, rfl, by rw [down_all]; exact h0, KeepS.refl _ _⟩
  case round =>
    obtain ⟨k, hk, rfl, hJs, hb⟩ := hrel
    have HB : Hid (KeepS K W wr) := hb
    have hcc := (hb.cell (p := ⟨Bp, 0, none⟩) hKB).trans hp0
    have hszw := hb.size
    have hBw : Bp < wr.heap.size := Nat.lt_of_lt_of_le (HKS.out Bp hKB) hszw
    cases k with
    | zero =>
      gi_wp2
      go_end0
      exact ⟨⟨_, rfl⟩, .inl ⟨_, rfl, hJs⟩⟩
    | succ j =>
      have hj : ((j + 1 : Nat) : Int) - 1 = (j : Int) := by omega
      rw [hj]
      have hjI : (j : Int) < (len : Int) := by omega
      have hjN : j < len := by omega
      have hj0 : (0 : Int) ≤ (j : Int) := by omega
      have wj : IntKind.i64.wrap ((j : Int) - 1) = (j : Int) - 1 := by rw [IntWalk.i64_left]; unfold wrap64; omega
      obtain ⟨b, o, rfl⟩ := hs (by omega)
      obtain ⟨hKb, hVe⟩ := hV b o rfl (by omega)
      have hbW : b < wr.heap.size := Nat.lt_of_lt_of_le (HKS.out b hKb) hszw
      have g0 := hVe j hjN
      have c0 := (HB.out.cell (p := ⟨b, o + j, none⟩) hKb).trans g0
      clear g0
      obtain ⟨fn, tmps, assign, body, hy, hR⟩ := hY _ ⟨j, hjN⟩ _ hJs (by rw [down_len]; omega)
      simp only at hy
      clear hb hV hVe
      gi_wp2
      refine hR.mono ?_
      rintro e W3 (⟨rfl, hJ3, hk3⟩ | ⟨rfl, hJx3⟩)
      · gi_wp2
        go_roundw
        case rel => exact ⟨j, by omega, by go_num, by rw [down_step hjN]; exact hJ3, HB.out.trans hk3⟩
        case measure => simp [intOf]
      · gi_wp2
        refine bodyPost_ret (results_none rfl _ _ _) rfl ?_
        exact ⟨⟨_, rfl⟩, .inr ⟨_, by rw [← down_step hjN]; exact down_pre _ _, hJx3⟩⟩
theorem backL_in (n : Nat) (a : Option Addr) (len cap : Nat) (w : World) :
    CallsIn Fence.wide n Tryz.prog 195 #[.slice a len cap] w fun e w' => e = .returned (.func (.func 240) #[] #[.pointer (some ⟨w.heap.size, 0, none⟩)]) ∧
      w' = w.alloc (.cells #[.slice a len cap] 103) := by
  refine callsIn_of_wp Tryz.func195 rfl trivial ?_ rfl
  simp only [Tryz.ntmps195, List.size_toArray, List.length_cons, List.length_nil, Nat.reduceAdd, Nat.reduceSub, Array.replicate_succ, Array.replicate_zero, List.push_toArray, List.append_toArray, List.nil_append, List.cons_append]
  gi_wp2
  go_ret
  exact ⟨rfl, rfl⟩
theorem backL_stops (n : Nat) (hn : 1 ≤ n) (Bp : Nat) (K : Nat → Prop) (a : Option Addr) (len cap : Nat) (u0 : Nat → Value) (w : World)
    (hKB : K Bp) (hp0 : w.cell? ⟨Bp, 0, none⟩ = some (.slice a len cap)) (hs : 1 ≤ len → ∃ b o, a = some ⟨b, o, none⟩) (hroom : len ≤ cap) (hbig : cap ≤ maxLen) (hKs : ∀ k, K k → k < w.heap.size)
    (hV : LieL K w a len u0) :
    SeqStopsK Fence.wide n Tryz.prog 240 #[.pointer (some ⟨Bp, 0, none⟩)] (fun x : Fin len => #[Value.int .i64 (x.1 : Nat), u0 x.1]) (KeepS K) (fun ys => ys = downTo len 0) (fun pre => pre <+: downTo len 0) len w :=
  fun l J Jx W hW _ _ hY h0 => backL1_in n l Bp K hn a len cap u0 J Jx W hY hKB (cell_later hW hp0) hs hroom hbig (fun k hk => Nat.lt_of_lt_of_le (hKs k hk) hW.size) (fun b o e h1 => ⟨(hV b o e h1).1, fun i hi => by exact cell_later hW ((hV b o e h1).2 i hi)⟩) h0
def LieR (K : Nat → Prop) (w : World) (a : Option Addr) (len : Nat) (u0 u1 : Nat → Value) : Prop := ∀ b o, a = some ⟨b, o, none⟩ → 1 ≤ len → K b ∧ ∀ i, i < len → w.cell? ⟨b, o + i * 2, none⟩ = some (u0 i) ∧ w.cell? ⟨b, o + i * 2 + 1, none⟩ = some (u1 i)
theorem backR1_in (n l Bp : Nat) (K : Nat → Prop) (hn : 1 ≤ n) (a : Option Addr) (len cap : Nat) (u0 u1 : Nat → Value) (J Jx : List (Fin len) → World → Prop) (W : World)
    (hY : ∀ pre (x : Fin len) W1, J pre W1 → pre.length < len → YieldAt Fence.wide (n - 1) Tryz.prog l #[.int .i64 (x.1 : Nat), .agg #[u0 x.1, u1 x.1]] W1 fun e W' =>
      (e = .returned (.bool true) ∧ J (pre ++ [x]) W' ∧ KeepS K W1 W') ∨ (e = .returned (.bool false) ∧ Jx (pre ++ [x]) W'))
    (hKB : K Bp) (hp0 : W.cell? ⟨Bp, 0, none⟩ = some (.slice a len cap)) (hs : 1 ≤ len → ∃ b o, a = some ⟨b, o, none⟩) (hroom : len ≤ cap) (hbig : cap ≤ maxLen) (hKs : ∀ k, K k → k < W.heap.size)
    (hV : LieR K W a len u0 u1) (h0 : J [] W) :
    CallsIn Fence.wide n Tryz.prog 267 #[.func (.yield l) #[] #[], .pointer (some ⟨Bp, 0, none⟩)] W fun e W' => (∃ v, e = .returned v) ∧
      ((∃ ys, ys = downTo len 0 ∧ J ys W') ∨ (∃ pre, pre <+: downTo len 0 ∧ Jx pre W')) := by
  unfold maxLen at hbig
  have HKS : Hid (∀ k, K k → k < W.heap.size) := hKs
  clear hKs
  refine callsIn_of_wp Tryz.func267 rfl trivial ?_ rfl
  simp only [Tryz.ntmps267, List.size_toArray, List.length_cons, List.length_nil, Nat.reduceAdd, Nat.reduceSub, Array.replicate_succ, Array.replicate_zero, List.push_toArray, List.append_toArray, List.nil_append, List.cons_append]
  have wl : IntKind.i64.wrap ((len : Int) - 1) = (len : Int) - 1 := by rw [IntWalk.i64_left]; unfold wrap64; omega
  gi_wp2
  gi_loopw [3] (fun iv wr => ∃ k : Nat, k ≤ len ∧ iv = .int .i64 ((k : Int) - 1) ∧ J (downTo len k) wr ∧ KeepS K W wr) (fun iv _ => (intOf iv + 1).toNat)
  case atStart => exact ⟨len, Nat.le_refl _, rfl, by rw [down_all]; exact h0, KeepS.refl _ _⟩
  case round =>
    obtain ⟨k, hk, rfl, hJs, hb⟩ := hrel
    have HB : Hid (KeepS K W wr) := hb
    have hcc := (hb.cell (p := ⟨Bp, 0, none⟩) hKB).trans hp0
    have hszw := hb.size
    have hBw : Bp < wr.heap.size := Nat.lt_of_lt_of_le (HKS.out Bp hKB) hszw
    cases k with
    | zero =>
      gi_wp2
      go_end0
      exact ⟨⟨_, rfl⟩, .inl ⟨_, rfl, hJs⟩⟩
    | succ j =>
      have hj : ((j + 1 : Nat) : Int) - 1 = (j : Int) := by omega
      rw [hj]
      have hjI : (j : Int) < (len : Int) := by omega
      have hjN : j < len := by omega
      have hj0 : (0 : Int) ≤ (j : Int) := by omega
      have wj : IntKind.i64.wrap ((j : Int) - 1) = (j : Int) - 1 := by rw [IntWalk.i64_left]; unfold wrap64; omega
      obtain ⟨b, o, rfl⟩ := hs (by omega)
      obtain ⟨hKb, hVe⟩ := hV b o rfl (by omega)
      have hbW : b < wr.heap.size := Nat.lt_of_lt_of_le (HKS.out b hKb) hszw
      obtain ⟨g0, g1⟩ := hVe j hjN
      have c0 := (HB.out.cell (p := ⟨b, o + j * 2, none⟩) hKb).trans g0
      have c1 := (HB.out.cell (p := ⟨b, o + j * 2 + 1, none⟩) hKb).trans g1
      clear g0 g1
      obtain ⟨fn, tmps, assign, body, hy, hR⟩ := hY _ ⟨j, hjN⟩ _ hJs (by rw [down_len]; omega)
      simp only at hy
      clear hb hV hVe
      gi_wp2
      refine hR.mono ?_
      rintro e W3 (⟨rfl, hJ3, hk3⟩ | ⟨rfl, hJx3⟩)
      · gi_wp2
        go_roundw
        case rel => exact ⟨j, by omega, by go_num, by rw [down_step hjN]; exact hJ3, HB.out.trans hk3⟩
        case measure => simp [intOf]
      · gi_wp2
        refine bodyPost_ret (results_none rfl _ _ _) rfl ?_
        exact ⟨⟨_, rfl⟩, .inr ⟨_, by rw [← down_step hjN]; exact down_pre _ _, hJx3⟩⟩
theorem backR_in (n : Nat) (a : Option Addr) (len cap : Nat) (w : World) :
    CallsIn Fence.wide n Tryz.prog 241 #[.slice a len cap] w fun e w' => e = .returned (.func (.func 267) #[] #[.pointer (some ⟨w.heap.size, 0, none⟩)]) ∧
      w' = w.alloc (.cells #[.slice a len cap] 64) := by
  refine callsIn_of_wp Tryz.func241 rfl trivial ?_ rfl
  simp only [Tryz.ntmps241, List.size_toArray, List.length_cons, List.length_nil, Nat.reduceAdd, Nat.reduceSub, Array.replicate_succ, Array.replicate_zero, List.push_toArray, List.append_toArray, List.nil_append, List.cons_append]
  gi_wp2
  go_ret
  exact ⟨rfl, rfl⟩
theorem backR_stops (n : Nat) (hn : 1 ≤ n) (Bp : Nat) (K : Nat → Prop) (a : Option Addr) (len cap : Nat) (u0 u1 : Nat → Value) (w : World)
    (hKB : K Bp) (hp0 : w.cell? ⟨Bp, 0, none⟩ = some (.slice a len cap)) (hs : 1 ≤ len → ∃ b o, a = some ⟨b, o, none⟩) (hroom : len ≤ cap) (hbig : cap ≤ maxLen) (hKs : ∀ k, K k → k < w.heap.size)
    (hV : LieR K w a len u0 u1) :
    SeqStopsK Fence.wide n Tryz.prog 267 #[.pointer (some ⟨Bp, 0, none⟩)] (fun x : Fin len => #[Value.int .i64 (x.1 : Nat), .agg #[u0 x.1, u1 x.1]]) (KeepS K) (fun ys => ys = downTo len 0) (fun pre => pre <+: downTo len 0) len w :=
  fun l J Jx W hW _ _ hY h0 => backR1_in n l Bp K hn a len cap u0 u1 J Jx W hY hKB (cell_later hW hp0) hs hroom hbig (fun k hk => Nat.lt_of_lt_of_le (hKs k hk) hW.size) (fun b o e h1 => ⟨(hV b o e h1).1, fun i hi => by obtain ⟨g0, g1⟩ := (hV b o e h1).2 i hi; exact ⟨cell_later hW g0, cell_later hW g1⟩⟩) h0
end Go.Proofs.YtapjkbpfhmbfaaaGreatDoor

namespace Go.Proofs.YtapjkbpfhmbfaaaGreatDoor
open Go.RowKit
def withinB (M : List EntD) (q : Int) : Bool := M.all (fun e => decide (e.2.1 ≤ q))
theorem within_snoc {M : List EntD} {q : Int} {k : Nat} {e : EntD} (h : withinB (M.take k) q = true) (hk : M[k]? = some e) (he : e.2.1 ≤ q) : withinB (M.take (k + 1)) q = true := by
  unfold withinB at h ⊢
  rw [List.take_add_one, hk]
  simp only [Option.toList, List.all_append, h, List.all_cons, List.all_nil, Bool.and_true, Bool.true_and]
  exact decide_eq_true he
theorem within_no {M : List EntD} {q : Int} {k : Nat} {e : EntD} (hk : M[k]? = some e) (he : ¬ e.2.1 ≤ q) : withinB M q = false := by
  unfold withinB
  rw [Bool.eq_false_iff]
  intro h
  rw [List.all_eq_true] at h
  exact he (of_decide_eq_true (h e (List.mem_of_getElem? hk)))
def snapAt (S : List Int) (q : Int) (i : Nat) : Bool :=
  match S[i]? with
  | none => true
  | some s => decide (0 ≤ s) && (decide (s ≤ q) && (match i with | 0 => true | j + 1 => match S[j]? with | none => true | some p => decide (p < s)))
def SnapsTo (S : List Int) (q : Int) (k : Nat) : Prop := ∀ j, j < k → snapAt S q j = true
def snapsB (S : List Int) (q : Int) : Bool := decide (S.length ≤ 4) && (List.range S.length).all (snapAt S q)
theorem snaps_many {S : List Int} {q : Int} (h : 4 < S.length) : snapsB S q = false := by
  unfold snapsB
  rw [decide_eq_false (by omega)]
  rfl
theorem snaps_no {S : List Int} {q : Int} {k : Nat} (hk : k < S.length) (h : snapAt S q k = false) : snapsB S q = false := by
  unfold snapsB
  rw [Bool.and_eq_false_iff]
  right
  rw [Bool.eq_false_iff]
  intro h1
  rw [List.all_eq_true] at h1
  rw [h1 k (List.mem_range.2 hk)] at h
  cases h
theorem snaps_all {S : List Int} {q : Int} (h : SnapsTo S q S.length) : snapsB S q = decide (S.length ≤ 4) := by
  unfold snapsB
  have : (List.range S.length).all (snapAt S q) = true := by
    rw [List.all_eq_true]
    intro j hj
    exact h j (List.mem_range.1 hj)
  rw [this, Bool.and_true]
theorem snaps_snoc {S : List Int} {q : Int} {k : Nat} (h : SnapsTo S q k) (hk : snapAt S q k = true) : SnapsTo S q (k + 1) := by
  intro j hj
  by_cases e : j = k
  · subst e; exact hk
  · exact h j (by omega)
theorem snap_zero {S : List Int} {q s : Int} (h : S[0]? = some s) : snapAt S q 0 = (decide (0 ≤ s) && decide (s ≤ q)) := by
  unfold snapAt
  rw [h]
  simp
theorem snap_succ {S : List Int} {q s p : Int} {j : Nat} (h : S[j + 1]? = some s) (hp : S[j]? = some p) : snapAt S q (j + 1) = (decide (0 ≤ s) && (decide (s ≤ q) && decide (p < s))) := by
  unfold snapAt
  simp only [h, hp]
theorem snap_low {S : List Int} {q s : Int} {k : Nat} (h : S[k]? = some s) (hs : s < 0) : snapAt S q k = false := by
  unfold snapAt
  rw [h]
  simp only
  rw [decide_eq_false (by omega)]
  rfl
theorem snap_high {S : List Int} {q s : Int} {k : Nat} (h : S[k]? = some s) (hs : q < s) : snapAt S q k = false := by
  unfold snapAt
  rw [h]
  simp only
  rw [decide_eq_false (p := s ≤ q) (by omega)]
  simp
end Go.Proofs.YtapjkbpfhmbfaaaGreatDoor

namespace Go.Proofs.YtapjkbpfhmbfaaaGreatDoor
open Go.RowKit
set_option maxHeartbeats 400000 in
theorem specBit (n : Nat) (w : World) (hn : n ≤ 16) :
    Calls Tryz.prog 266 #[.int .i64 n] w fun e w' => e = .returned (.int .i64 ((2 ^ n : Nat) : Int)) ∧ w' = w := by
  go_enter Tryz.func266, Tryz.ntmps266
  go_wp2
  go_loop [3, 4] (fun o i => ∃ k p : Nat, k ≤ n ∧ i = .int .i64 k ∧ o = .int .i64 p ∧ p = 2 ^ k) (fun _ i => n - (intOf i).toNat)
  case atStart => exact ⟨0, 1, Nat.zero_le _, rfl, rfl, rfl⟩
  case round =>
    obtain ⟨k, p, hk, rfl, rfl, hp⟩ := hrel
    have HP : Hid (p = 2 ^ k) := hp
    have hp2 : p ≤ 65536 := by rw [hp]; exact Nat.pow_le_pow_right (n := 2) (by omega) (by omega : k ≤ 16)
    clear hp
    by_cases hlt : k < n
    · go_wp2
      go_round
      case rel => exact ⟨k + 1, p * 2, by omega, by go_num, by go_num, by rw [HP.out, Nat.pow_succ]⟩
      case measure => simp [intOf]; omega
    · go_wp2
      go_ret
      have : k = n := by omega
      subst this
      exact ⟨ret_int (by have := HP.out; subst this; simp), rfl⟩
set_option maxHeartbeats 1000000 in
theorem specOr (a b : Nat) (w : World) (ha : a < 65536) (hb : b < 65536) :
    Calls Tryz.prog 234 #[.int .i64 a, .int .i64 b] w fun e w' => e = .returned (.int .i64 ((a ||| b : Nat) : Int)) ∧ w' = w := by
  obtain ⟨c, hc⟩ : ∃ c, c = a ||| b := ⟨_, rfl⟩
  have hcs : c < 65536 := by rw [hc]; exact or_small ha hb
  have HST : Hid (∀ i, c / 2 ^ i = c / 2 ^ (i + 1) * 2 + (if a / 2 ^ i % 2 = 1 ∨ b / 2 ^ i % 2 = 1 then 1 else 0)) := by rw [hc]; exact or_step a b
  rw [← hc]
  clear hc
  go_enter Tryz.func234, Tryz.ntmps234
  go_wp2
  go_loop [5, 6] (fun o i => ∃ (k p : Nat) (x : Int), k ≤ 16 ∧ x = (k : Int) - 1 ∧ i = .int .i64 x ∧ o = .int .i64 p ∧ p = c / 2 ^ k) (fun _ i => (intOf i + 1).toNat)
  case atStart => exact ⟨16, 0, 15, Nat.le_refl _, rfl, rfl, rfl, (Nat.div_eq_of_lt hcs).symm⟩
  case round =>
    obtain ⟨k, p, x, hk, hx, rfl, rfl, hp⟩ := hrel
    cases k with
    | zero =>
      have hp' : p = c := by simpa using hp
      subst hp'
      have hx' : x = -1 := by omega
      subst hx'
      clear hx hp
      go_wp2
      go_ret
      exact ⟨rfl, rfl⟩
    | succ j =>
      obtain ⟨z, hz⟩ : ∃ z : Nat, z = 2 ^ j := ⟨_, rfl⟩
      have hz1 : 0 < z := by rw [hz]; exact Nat.two_pow_pos j
      have hp2 : p ≤ 65536 := by rw [hp]; exact Nat.le_trans (Nat.div_le_self _ _) (by omega)
      have HB : Hid (∀ w, Calls Tryz.prog 266 #[.int .i64 j] w fun e w' => e = .returned (.int .i64 (z : Int)) ∧ w' = w) := by rw [hz]; exact fun w => specBit j w (by omega)
      have hst := HST.out j
      rw [← hp, ← hz] at hst
      have HS : Hid (c / z = p * 2 + (if a / z % 2 = 1 ∨ b / z % 2 = 1 then 1 else 0)) := hst
      have HZ : Hid (z = 2 ^ j) := hz
      clear hst hp hz
      have hx' : x = (j : Int) := by omega
      subst hx'
      clear hx
      obtain ⟨qa, hqa⟩ : ∃ q : Nat, q = a / z := ⟨_, rfl⟩
      obtain ⟨qb, hqb⟩ : ∃ q : Nat, q = b / z := ⟨_, rfl⟩
      have eA : (a : Int) / (z : Int) = (qa : Int) := by rw [hqa]; simp
      have eB : (b : Int) / (z : Int) = (qb : Int) := by rw [hqb]; simp
      have la : qa < 65536 := by rw [hqa]; exact Nat.lt_of_le_of_lt (Nat.div_le_self _ _) ha
      have lb : qb < 65536 := by rw [hqb]; exact Nat.lt_of_le_of_lt (Nat.div_le_self _ _) hb
      rw [← hqa, ← hqb] at HS
      clear hqa hqb
      by_cases h1 : qa % 2 = 1
      · have h1' : (qa : Int) % 2 = 1 := by omega
        go_wp2_with (go_at_call 266; refine (HB.out _).mono ?_; rintro e w' ⟨rfl, rfl⟩)
        exact ⟨⟨j, p * 2 + 1, (j : Int) - 1, by omega, rfl, rfl, by simp, by rw [← HZ.out, HS.out, if_pos (Or.inl h1)]⟩, by simp [intOf]⟩
      · have h1' : ¬ (qa : Int) % 2 = 1 := by omega
        by_cases h2 : qb % 2 = 1
        · have h2' : (qb : Int) % 2 = 1 := by omega
          go_wp2_with (go_at_call 266; refine (HB.out _).mono ?_; rintro e w' ⟨rfl, rfl⟩)
          exact ⟨⟨j, p * 2 + 1, (j : Int) - 1, by omega, rfl, rfl, by simp, by rw [← HZ.out, HS.out, if_pos (Or.inr h2)]⟩, by simp [intOf]⟩
        · have h2' : ((qb : Int) % 2 == 1) = false := by rw [beq_eq_false_iff_ne]; omega
          have h1b : ((qa : Int) % 2 == 1) = false := by rw [beq_eq_false_iff_ne]; omega
          go_wp2_with (go_at_call 266; refine (HB.out _).mono ?_; rintro e w' ⟨rfl, rfl⟩)
          exact ⟨⟨j, p * 2, (j : Int) - 1, by omega, rfl, rfl, by simp, by rw [← HZ.out, HS.out, if_neg (fun g => g.elim h1 h2)]; rfl⟩, by simp [intOf]⟩
set_option maxHeartbeats 1000000 in
theorem specMask (s : ByteArray) (w : World) (hs : s.size ≤ maxLen) :
    Calls Tryz.prog 235 #[.string s] w fun e w' => e = .returned (.int .i64 ((maskK s : Nat) : Int)) ∧ w' = w := by
  unfold maxLen at hs
  go_enter Tryz.func235, Tryz.ntmps235
  go_wp2
  go_loop [3, 4] (fun o i => ∃ k h : Nat, k ≤ s.size ∧ i = .int .i64 k ∧ o = .int .i64 h ∧ h < 65521 ∧ hashN (s.data.toList.take k) = h) (fun _ i => s.size - (intOf i).toNat)
  case atStart => exact ⟨0, 7, Nat.zero_le _, rfl, rfl, by omega, rfl⟩
  case round =>
    obtain ⟨k, h, hk, rfl, rfl, hh, hh2⟩ := hrel
    have HH : Hid (hashN (s.data.toList.take k) = h) := hh2
    clear hh2
    by_cases hlt : k < s.size
    · have HC : Hid (hashN (s.data.toList.take (k + 1)) = (31 * h + (s[k]).toNat) % 65521) := by
        show hashN (s.data.toList.take (k + 1)) = (31 * h + (s[k]).toNat) % 65521
        rw [hash_step s k hlt, HH.out]; rfl
      have hc : (s[k]).toNat < 256 := (s[k]).toNat_lt
      go_wp2
      go_round
      case rel => exact ⟨k + 1, (31 * h + (s[k]).toNat) % 65521, by omega, by go_num, by go_num, by omega, HC.out⟩
      case measure => simp [intOf]; omega
    · have hke : k = s.size := by omega
      have HE : Hid (maskK s = 2 ^ (h % 16) ||| 2 ^ (h / 16 % 16)) := by
        show maskK s = _
        have := HH.out
        rw [List.take_of_length_le (by simp [hke])] at this
        unfold maskK markN
        rw [this]
      obtain ⟨x, hx⟩ : ∃ x, x = h % 16 := ⟨_, rfl⟩
      obtain ⟨y, hy⟩ : ∃ y, y = h / 16 % 16 := ⟨_, rfl⟩
      rw [← hx, ← hy] at HE
      have hx1 : x < 16 := by omega
      have hy1 : y < 16 := by omega
      have ex : (h : Int) % 16 = (x : Int) := by omega
      have ey : (h : Int) / 16 % 16 = (y : Int) := by omega
      obtain ⟨px, hpx⟩ : ∃ p : Nat, p = 2 ^ x := ⟨_, rfl⟩
      obtain ⟨py, hpy⟩ : ∃ p : Nat, p = 2 ^ y := ⟨_, rfl⟩
      have CX : Hid (∀ w, Calls Tryz.prog 266 #[.int .i64 x] w fun e w' => e = .returned (.int .i64 (px : Int)) ∧ w' = w) := by rw [hpx]; exact fun w => specBit x w (by omega)
      have CY : Hid (∀ w, Calls Tryz.prog 266 #[.int .i64 y] w fun e w' => e = .returned (.int .i64 (py : Int)) ∧ w' = w) := by rw [hpy]; exact fun w => specBit y w (by omega)
      have hpx1 : px < 65536 := by rw [hpx]; exact pow_small hx1
      have hpy1 : py < 65536 := by rw [hpy]; exact pow_small hy1
      rw [← hpx, ← hpy] at HE
      clear hx hy hpx hpy
      have COR : Hid (∀ w, Calls Tryz.prog 234 #[.int .i64 px, .int .i64 py] w fun e w' => e = .returned (.int .i64 ((px ||| py : Nat) : Int)) ∧ w' = w) := fun w => specOr px py w hpx1 hpy1
      go_wp2_with fail
      refine (CX.out _).mono ?_
      rintro e w' ⟨rfl, rfl⟩
      go_wp2_with fail
      refine (CY.out _).mono ?_
      rintro e w' ⟨rfl, rfl⟩
      go_wp2_with fail
      refine (COR.out _).mono ?_
      rintro e w' ⟨rfl, rfl⟩
      go_wp2
      go_ret
      exact ⟨ret_int (by rw [HE.out]), rfl⟩
theorem bits_or (a b : Nat) (ha : a < 65536) (hb : b < 65536) : bits .or .i64 (a : Int) (b : Int) = ((a ||| b : Nat) : Int) := by
  have hc := or_small ha hb
  have e : (BitVec.ofInt 64 (a : Int) ||| BitVec.ofInt 64 (b : Int)).toNat = a ||| b := by
    simp [BitVec.toNat_or]
    rw [Nat.mod_eq_of_lt (by omega), Nat.mod_eq_of_lt (by omega)]
  have e2 : IntKind.i64.wrap (((a ||| b : Nat)) : Int) = ((a ||| b : Nat) : Int) := by
    rw [IntWalk.i64_left]
    generalize a ||| b = y at hc
    unfold wrap64; omega
  show IntKind.i64.wrap ((BitVec.ofInt 64 (a : Int) ||| BitVec.ofInt 64 (b : Int)).toNat : Int) = _
  rw [e, e2]
theorem pow_wrap (x : Nat) (hx : x < 16) : wrap64 (2 ^ x) = ((2 ^ x : Nat) : Int) := by
  have hp := pow_small hx
  have : (2 ^ x : Int) = ((2 ^ x : Nat) : Int) := by simp
  rw [this]
  generalize 2 ^ x = y at hp
  unfold wrap64; omega
set_option maxHeartbeats 1000000 in
theorem implMask (s : ByteArray) (w : World) (hs : s.size ≤ maxLen) :
    Calls Tryz.prog 259 #[.string s] w fun e w' => e = .returned (.int .i64 ((maskK s : Nat) : Int)) ∧ Below w.heap.size w w' := by
  unfold maxLen at hs
  go_enter Tryz.func259, Tryz.ntmps259
  go_wp2
  go_loop [3, 7] (fun o i => ∃ k h : Nat, k ≤ s.size ∧ i = .int .i64 k ∧ o = .int .i64 h ∧ h < 65521 ∧ hashN (s.data.toList.take k) = h) (fun _ i => s.size - (intOf i).toNat)
  case atStart => exact ⟨0, 7, Nat.zero_le _, rfl, rfl, by omega, rfl⟩
  case round =>
    obtain ⟨k, h, hk, rfl, rfl, hh, hh2⟩ := hrel
    have HH : Hid (hashN (s.data.toList.take k) = h) := hh2
    clear hh2
    by_cases hlt : k < s.size
    · have HC : Hid (hashN (s.data.toList.take (k + 1)) = (31 * h + (s[k]).toNat) % 65521) := by
        show hashN (s.data.toList.take (k + 1)) = (31 * h + (s[k]).toNat) % 65521
        rw [hash_step s k hlt, HH.out]; rfl
      have hc : (s[k]).toNat < 256 := (s[k]).toNat_lt
      go_wp2
      go_round
      case rel => exact ⟨k + 1, (31 * h + (s[k]).toNat) % 65521, by omega, by go_num, by go_num, by omega, HC.out⟩
      case measure => simp [intOf]; omega
    · have hke : k = s.size := by omega
      have HE : Hid (maskK s = 2 ^ (h % 16) ||| 2 ^ (h / 16 % 16)) := by
        show maskK s = _
        have := HH.out
        rw [List.take_of_length_le (by simp [hke])] at this
        unfold maskK markN
        rw [this]
      obtain ⟨x, hx⟩ : ∃ x, x = h % 16 := ⟨_, rfl⟩
      obtain ⟨y, hy⟩ : ∃ y, y = h / 16 % 16 := ⟨_, rfl⟩
      rw [← hx, ← hy] at HE
      have hx1 : x < 16 := by omega
      have hy1 : y < 16 := by omega
      have ex : (h : Int) % 16 = (x : Int) := by omega
      have ey : (h : Int) / 16 % 16 = (y : Int) := by omega
      clear hx hy
      go_wp2_with fail
      go_quiet (fail)
      go_wp2
      go_ret
      refine ⟨ret_int ?_, below_drewN (Below.refl _ _) _⟩
      rw [pow_wrap x hx1, pow_wrap y hy1, bits_or _ _ (pow_small hx1) (pow_small hy1), HE.out]
end Go.Proofs.YtapjkbpfhmbfaaaGreatDoor

namespace Go.Proofs.YtapjkbpfhmbfaaaGreatDoor
open Go.RowKit
set_option maxHeartbeats 800000 in
theorem specMaskL (a : Option Addr) (len cap : Nat) (L : List EntD) (w : World) (hL : EntsAt w a len cap L) :
    Calls Tryz.prog 186 #[.slice a len cap] w fun e w' => e = .returned (.int .i64 ((maskL L : Nat) : Int)) ∧ Below w.heap.size w w' := by
  have HLEN : Hid (L.length = len) := hL.length
  have hbl := hL.room
  have hbc := hL.big
  unfold maxLen at hbc
  have HL : Hid (EntsAt w a len cap L) := hL
  clear hL
  go_enter Tryz.func186, Tryz.ntmps186
  go_wp2
  go_loopw [3, 4] (fun m i wr => ∃ k p : Nat, k ≤ len ∧ i = .int .i64 k ∧ m = .int .i64 p ∧ p < 65536 ∧ Below w.heap.size w wr ∧ p = maskL (L.take k)) (fun _ i _ => len - (intOf i).toNat)
  case atStart => exact ⟨0, 0, Nat.zero_le _, rfl, rfl, by omega, Below.refl _ _, rfl⟩
  case round =>
    obtain ⟨k, p, hk, rfl, rfl, hp, hb, hm⟩ := hrel
    have HM : Hid (p = maskL (L.take k)) := hm
    clear hm
    by_cases hlt : k < len
    · obtain ⟨b, off, rfl, hbb⟩ := HL.out.form (by omega)
      obtain ⟨s, q, d, t, n, hg, hlw, g0, g1, g2, g3, g4⟩ := HL.out.ent hb hbb k hlt
      have HG : Hid (L[k]? = some (s, q, d, t, n)) := hg
      have hs := hlw.1
      simp only at hs
      clear hg hlw
      obtain ⟨z, hz⟩ : ∃ z, z = maskK s := ⟨_, rfl⟩
      have hz1 : z < 65536 := by rw [hz]; exact maskK_lt s
      have CK : Hid (∀ w, Calls Tryz.prog 235 #[.string s] w fun e w' => e = .returned (.int .i64 (z : Int)) ∧ w' = w) := by rw [hz]; exact fun w => specMask s w hs
      have CO : Hid (∀ w, Calls Tryz.prog 234 #[.int .i64 p, .int .i64 z] w fun e w' => e = .returned (.int .i64 ((p ||| z : Nat) : Int)) ∧ w' = w) := fun w => specOr p z w hp hz1
      have HN : Hid (p ||| z = maskL (L.take (k + 1))) := by
        show p ||| z = maskL (L.take (k + 1))
        rw [maskL_snoc HG.out, ← HM.out, hz]
      clear hz
      go_wp2_with (first | (go_at_call 235; refine (CK.out _).mono ?_; rintro e w1 ⟨rfl, rfl⟩) | (go_at_call 234; refine (CO.out _).mono ?_; rintro e w2 ⟨rfl, rfl⟩))
      go_roundw
      case rel => exact ⟨k + 1, p ||| z, by omega, by go_num, rfl, or_small hp hz1, hb, HN.out⟩
      case measure => simp [intOf]; omega
    · go_wp2
      go_ret
      refine ⟨ret_int ?_, hb⟩
      have := HM.out
      rw [List.take_of_length_le (by rw [HLEN.out]; omega)] at this
      rw [this]
set_option maxHeartbeats 800000 in
theorem implMaskL (a : Option Addr) (len cap : Nat) (L : List EntD) (w : World) (hL : EntsAt w a len cap L) :
    Calls Tryz.prog 216 #[.slice a len cap] w fun e w' => e = .returned (.int .i64 ((maskL L : Nat) : Int)) ∧ Below w.heap.size w w' := by
  have HLEN : Hid (L.length = len) := hL.length
  have hbl := hL.room
  have hbc := hL.big
  unfold maxLen at hbc
  have HL : Hid (EntsAt w a len cap L) := hL
  clear hL
  go_enter Tryz.func216, Tryz.ntmps216
  go_wp2
  go_loopw [3, 8] (fun m i wr => ∃ k p : Nat, k ≤ len ∧ i = .int .i64 k ∧ m = .int .i64 p ∧ p < 65536 ∧ Below w.heap.size w wr ∧ p = maskL (L.take k)) (fun _ i _ => len - (intOf i).toNat)
  case atStart => exact ⟨0, 0, Nat.zero_le _, rfl, rfl, by omega, Below.refl _ _, rfl⟩
  case round =>
    obtain ⟨k, p, hk, rfl, rfl, hp, hb, hm⟩ := hrel
    have HM : Hid (p = maskL (L.take k)) := hm
    clear hm
    by_cases hlt : k < len
    · obtain ⟨b, off, rfl, hbb⟩ := HL.out.form (by omega)
      obtain ⟨s, q, d, t, n, hg, hlw, g0, g1, g2, g3, g4⟩ := HL.out.ent hb hbb k hlt
      have HG : Hid (L[k]? = some (s, q, d, t, n)) := hg
      have hs := hlw.1
      simp only at hs
      clear hg hlw
      obtain ⟨z, hz⟩ : ∃ z, z = maskK s := ⟨_, rfl⟩
      have hz1 : z < 65536 := by rw [hz]; exact maskK_lt s
      have CK : Hid (∀ w, Calls Tryz.prog 259 #[.string s] w fun e w' => e = .returned (.int .i64 (z : Int)) ∧ Below w.heap.size w w') := by rw [hz]; exact fun w => implMask s w hs
      have HN : Hid (p ||| z = maskL (L.take (k + 1))) := by
        show p ||| z = maskL (L.take (k + 1))
        rw [maskL_snoc HG.out, ← HM.out, hz]
      have hor := bits_or p z hp hz1
      clear hz
      go_wp2_with (go_at_call 259; refine (CK.out _).mono ?_; rintro e w1 ⟨rfl, hb1⟩; obtain ⟨hc1, hf1⟩ := bcell hb1)
      go_roundw
      case rel => exact ⟨k + 1, p ||| z, by omega, by go_num, by rw [← hor], or_small hp hz1, (hb.alloc (by have := hb.size; omega) _).trans (hb1.mono (by have := hb.size; simp; omega)), HN.out⟩
      case measure => simp [intOf]; omega
    · go_wp2
      go_ret
      refine ⟨ret_int ?_, hb⟩
      have := HM.out
      rw [List.take_of_length_le (by rw [HLEN.out]; omega)] at this
      rw [this]
end Go.Proofs.YtapjkbpfhmbfaaaGreatDoor
