/-
  What a loop body over a function leaves as it was; no statement of the program stands here.
  slices.Backward at entries: what it yields, for every loop body that keeps what it reads, by walks of its Go text.
  slices.Backward at lists of entries and at runs: what it yields, for every loop body that keeps what it reads, by walks of its Go text.
-/
import Derived.RangeFuncNested
import Derived.RangeFuncBound
import Derived.RangeFuncCalls
import Derived.RangeFuncLeaves
import Derived.RangeFuncBox
import Derived.Shelf.Abstract
import Derived.Shelf.RegionOpen
import Derived.WalkKit
import Derived.OwnWalkIn
import Derived.TacticsInMore
import Derived.LoopNIn
import Derived.LoopIn
import Derived.Test.YtlmgojlffgkciaaGreatCe01
import Derived.Test.YtlmgojlffgkciaaGreatCe02
namespace Go.Proofs.YtlmgojlffgkciaaGreat
open Go.RowKit Go.Shelf
structure KeepS (K : Nat → Prop) (w w' : World) : Prop where
  os : w'.os = w.os
  tape : w'.tape = w.tape
  output : w'.output = w.output
  size : w.heap.size ≤ w'.heap.size
  block : ∀ k, K k → w'.heap[k]? = w.heap[k]?
theorem KeepS.of {K : Nat → Prop} {n₀ : Nat} {w w' : World} (h : Below n₀ w w') (hK : ∀ k, K k → k < n₀) : KeepS K w w' := ⟨h.os, h.tape, h.output, h.size, fun k hk => h.block k (hK k hk)⟩
theorem KeepS.refl (K : Nat → Prop) (w : World) : KeepS K w w := ⟨rfl, rfl, rfl, Nat.le_refl _, fun _ _ => rfl⟩
theorem KeepS.trans {K : Nat → Prop} {a b c : World} (h : KeepS K a b) (k : KeepS K b c) : KeepS K a c :=
  ⟨k.os.trans h.os, k.tape.trans h.tape, k.output.trans h.output, Nat.le_trans h.size k.size, fun i hi => (k.block i hi).trans (h.block i hi)⟩
theorem KeepS.cell {K : Nat → Prop} {w w' : World} (h : KeepS K w w') {p : Addr} (hp : K p.block) : w'.cell? p = w.cell? p := World.cell?_of_block (w := w) (h.block p.block hp)
theorem KeepS.grown {K : Nat → Prop} {w w' : World} {row : Option Nat} (hg : w.grownBy w' row) (hK : ∀ k, K k → k < w.heap.size ∧ some k ≠ row) : KeepS K w w' := ⟨hg.os, hg.tape, hg.output, hg.size, fun k hk => hg.block k (hK k hk).1 (hK k hk).2⟩
theorem keepS_b {K : Nat → Prop} {w : World} (hK : ∀ k, K k → k < w.heap.size) (W : World) (l : Nat) (o o' : Obj) (hl : w.heap.size ≤ l) (h : W.heap[l]? = some o) (hc : o.isCells = false) (hw : o.isWalk = false) : KeepS K W (W.putObj l o') :=
  KeepS.of (belowK_b (n₀ := w.heap.size) (w := w) (Nat.le_refl _) W l o o' hl h hc hw) hK
end Go.Proofs.YtlmgojlffgkciaaGreat

namespace Go.Proofs.YtlmgojlffgkciaaGreat
set_option maxRecDepth 100000
set_option maxHeartbeats 2000000
open Go.RowKit Go.Shelf
attribute [local go_sem] Oper.semAt_some
def downTo (n k : Nat) : List (Fin n) := ((List.finRange n).drop k).reverse
theorem down_all (n : Nat) : downTo n n = [] := by simp [downTo]
theorem down_step {n k : Nat} (h : k < n) : downTo n k = downTo n (k + 1) ++ [⟨k, h⟩] := by
  unfold downTo
  rw [List.drop_eq_getElem_cons (by simpa using h)]
  simp
theorem down_pre (n k : Nat) : downTo n k <+: downTo n 0 := by
  unfold downTo
  rw [List.drop_zero]
  exact List.reverse_prefix.2 (List.drop_suffix _ _)
theorem down_len (n k : Nat) : (downTo n k).length = n - k := by simp [downTo]
def LieE (K : Nat → Prop) (w : World) (a : Option Addr) (len : Nat) (u0 u1 u2 u3 u4 : Nat → Value) : Prop := ∀ b o, a = some ⟨b, o, none⟩ → 1 ≤ len → K b ∧ ∀ i, i < len → w.cell? ⟨b, o + i * 5, none⟩ = some (u0 i) ∧ w.cell? ⟨b, o + i * 5 + 1, none⟩ = some (u1 i) ∧ w.cell? ⟨b, o + i * 5 + 2, none⟩ = some (u2 i) ∧ w.cell? ⟨b, o + i * 5 + 3, none⟩ = some (u3 i) ∧ w.cell? ⟨b, o + i * 5 + 4, none⟩ = some (u4 i)
theorem backE1_in (n l Bp : Nat) (K : Nat → Prop) (hn : 1 ≤ n) (a : Option Addr) (len cap : Nat) (u0 u1 u2 u3 u4 : Nat → Value) (J Jx : List (Fin len) → World → Prop) (W : World)
    (hY : ∀ pre (x : Fin len) W1, J pre W1 → pre.length < len → YieldAt Fence.wide (n - 1) Tryz.prog l #[.int .i64 (x.1 : Nat), .agg #[u0 x.1, u1 x.1, u2 x.1, u3 x.1, u4 x.1]] W1 fun e W' =>
      (e = .returned (.bool true) ∧ J (pre ++ [x]) W' ∧ KeepS K W1 W') ∨ (e = .returned (.bool false) ∧ Jx (pre ++ [x]) W'))
    (hKB : K Bp) (hp0 : W.cell? ⟨Bp, 0, none⟩ = some (.slice a len cap)) (hs : 1 ≤ len → ∃ b o, a = some ⟨b, o, none⟩) (hroom : len ≤ cap) (hbig : cap ≤ maxLen) (hKs : ∀ k, K k → k < W.heap.size)
    (hV : LieE K W a len u0 u1 u2 u3 u4) (h0 : J [] W) :
    CallsIn Fence.wide n Tryz.prog 190 #[.func (.yield l) #[] #[], .pointer (some ⟨Bp, 0, none⟩)] W fun e W' => (∃ v, e = .returned v) ∧
      ((∃ ys, ys = downTo len 0 ∧ J ys W') ∨ (∃ pre, pre <+: downTo len 0 ∧ Jx pre W')) := by
  unfold maxLen at hbig
  have HKS : Hid (∀ k, K k → k < W.heap.size) := hKs
  clear hKs
  refine callsIn_of_wp Tryz.func190 rfl trivial ?_ rfl
  simp only [Tryz.ntmps190, List.size_toArray, List.length_cons, List.length_nil, Nat.reduceAdd, Nat.reduceSub, Array.replicate_succ, Array.replicate_zero, List.push_toArray, List.append_toArray, List.nil_append, List.cons_append]
  have wl : IntKind.i64.wrap ((len : Int) - 1) = (len : Int) - 1 := by rw [IntWalk.i64_left]; unfold wrap64; omega
  gi_wp2
  gi_loopw [3] (fun iv wr => ∃ k : Nat, k ≤ len ∧ iv = .int .i64 ((k : Int) - 1) ∧ J (downTo len k) wr ∧ KeepS K W wr) (fun iv _ => (intOf iv + 1).toNat)
  case atStart => exact ⟨len, Nat.le_refl _, rfl, by rw [down_all]; exact h0, KeepS.refl _ _⟩
  case round =>
    obtain ⟨k, hk, rfl, hJs, hb⟩ := hrel
    have HB : Hid (KeepS K W wr) := hb
    have hcc := (hb.cell (p := ⟨Bp, 0, none⟩) hKB).trans hp0
    have hszw := hb.size
    have hBw : Bp < wr.heap.size := Nat.lt_of_lt_of_le (HKS.out Bp hKB) hszw
    cases k with
    | zero =>
      gi_wp2
      go_end0
      exact ⟨⟨_, rfl⟩, .inl ⟨_, rfl, hJs⟩⟩
    | succ j =>
      have hj : ((j + 1 : Nat) : Int) - 1 = (j : Int) := by omega
      rw [hj]
      have hjI : (j : Int) < (len : Int) := by omega
      have hjN : j < len := by omega
      have hj0 : (0 : Int) ≤ (j : Int) := by omega
      have wj : IntKind.i64.wrap ((j : Int) - 1) = (j : Int) - 1 := by rw [IntWalk.i64_left]; unfold wrap64; omega
      obtain ⟨b, o, rfl⟩ := hs (by omega)
      obtain ⟨hKb, hVe⟩ := hV b o rfl (by omega)
      have hbW : b < wr.heap.size := Nat.lt_of_lt_of_le (HKS.out b hKb) hszw
      obtain ⟨g0, g1, g2, g3, g4⟩ := hVe j hjN
      have c0 := (HB.out.cell (p := ⟨b, o + j * 5, none⟩) hKb).trans g0
      have c1 := (HB.out.cell (p := ⟨b, o + j * 5 + 1, none⟩) hKb).trans g1
      have c2 := (HB.out.cell (p := ⟨b, o + j * 5 + 2, none⟩) hKb).trans g2
      have c3 := (HB.out.cell (p := ⟨b, o + j * 5 + 3, none⟩) hKb).trans g3
      have c4 := (HB.out.cell (p := ⟨b, o + j * 5 + 4, none⟩) hKb).trans g4
      clear g0 g1 g2 g3 g4
      obtain ⟨fn, tmps, assign, body, hy, hR⟩ := hY _ ⟨j, hjN⟩ _ hJs (by rw [down_len]; omega)
      simp only at hy
      clear hb hV hVe
      gi_wp2
      refine hR.mono ?_
      rintro e W3 (⟨rfl, hJ3, hk3⟩ | ⟨rfl, hJx3⟩)
      · gi_wp2
        go_roundw
        case rel => exact ⟨j, by omega, by go_num, by rw [down_step hjN]; exact hJ3, HB.out.trans hk3⟩
        case measure => simp [intOf]
      · gi_wp2
        refine bodyPost_ret (results_none rfl _ _ _) rfl ?_
        exact ⟨⟨_, rfl⟩, .inr ⟨_, by rw [← down_step hjN]; exact down_pre _ _, hJx3⟩⟩
theorem backE_in (n : Nat) (a : Option Addr) (len cap : Nat) (w : World) :
    CallsIn Fence.wide n Tryz.prog 149 #[.slice a len cap] w fun e w' => e = .returned (.func (.func 190) #[] #[.pointer (some ⟨w.heap.size, 0, none⟩)]) ∧
      w' = w.alloc (.cells #[.slice a len cap] 28) := by
  refine callsIn_of_wp Tryz.func149 rfl trivial ?_ rfl
  simp only [Tryz.ntmps149, List.size_toArray, List.length_cons, List.length_nil, Nat.reduceAdd, Nat.reduceSub, Array.replicate_succ, Array.replicate_zero, List.push_toArray, List.append_toArray, List.nil_append, List.cons_append]
  gi_wp2
  go_ret
  exact ⟨rfl, rfl⟩
theorem backE_stops (n : Nat) (hn : 1 ≤ n) (Bp : Nat) (K : Nat → Prop) (a : Option Addr) (len cap : Nat) (u0 u1 u2 u3 u4 : Nat → Value) (w : World)
    (hKB : K Bp) (hp0 : w.cell? ⟨Bp, 0, none⟩ = some (.slice a len cap)) (hs : 1 ≤ len → ∃ b o, a = some ⟨b, o, none⟩) (hroom : len ≤ cap) (hbig : cap ≤ maxLen) (hKs : ∀ k, K k → k < w.heap.size)
    (hV : LieE K w a len u0 u1 u2 u3 u4) :
    SeqStopsK Fence.wide n Tryz.prog 190 #[.pointer (some ⟨Bp, 0, none⟩)] (fun x : Fin len => #[Value.int .i64 (x.1 : Nat), .agg #[u0 x.1, u1 x.1, u2 x.1, u3 x.1, u4 x.1]]) (KeepS K) (fun ys => ys = downTo len 0) (fun pre => pre <+: downTo len 0) len w :=
  fun l J Jx W hW _ _ hY h0 => backE1_in n l Bp K hn a len cap u0 u1 u2 u3 u4 J Jx W hY hKB (cell_later hW hp0) hs hroom hbig (fun k hk => Nat.lt_of_lt_of_le (hKs k hk) hW.size) (fun b o e h1 => ⟨(hV b o e h1).1, fun i hi => by obtain ⟨g0, g1, g2, g3, g4⟩ := (hV b o e h1).2 i hi; exact ⟨cell_later hW g0, cell_later hW g1, cell_later hW g2, cell_later hW g3, cell_later hW g4⟩⟩) h0
end Go.Proofs.YtlmgojlffgkciaaGreat

namespace Go.Proofs.YtlmgojlffgkciaaGreat
set_option maxRecDepth 100000
set_option maxHeartbeats 2000000
open Go.RowKit Go.Shelf
attribute [local go_sem] Oper.semAt_some
def LieL (K : Nat → Prop) (w : World) (a : Option Addr) (len : Nat) (u0 : Nat → Value) : Prop := ∀ b o, a = some ⟨b, o, none⟩ → 1 ≤ len → K b ∧ ∀ i, i < len → w.cell? ⟨b, o + i, none⟩ = some (u0 i)
theorem backL1_in (n l Bp : Nat) (K : Nat → Prop) (hn : 1 ≤ n) (a : Option Addr) (len cap : Nat) (u0 : Nat → Value) (J Jx : List (Fin len) → World → Prop) (W : World)
    (hY : ∀ pre (x : Fin len) W1, J pre W1 → pre.length < len → YieldAt Fence.wide (n - 1) Tryz.prog l #[.int .i64 (x.1 : Nat), u0 x.1] W1 fun e W' =>
      (e = .returned (.bool true) ∧ J (pre ++ [x]) W' ∧ KeepS K W1 W') ∨ (e = .returned (.bool false) ∧ Jx (pre ++ [x]) W'))
    (hKB : K Bp) (hp0 : W.cell? ⟨Bp, 0, none⟩ = some (.slice a len cap)) (hs : 1 ≤ len → ∃ b o, a = some ⟨b, o, none⟩) (hroom : len ≤ cap) (hbig : cap ≤ maxLen) (hKs : ∀ k, K k → k < W.heap.size)
    (hV : LieL K W a len u0) (h0 : J [] W) :
    CallsIn Fence.wide n Tryz.prog 194 #[.func (.yield l) #[] #[], .pointer (some ⟨Bp, 0, none⟩)] W fun e W' => (∃ v, e = .returned v) ∧
      ((∃ ys, ys = downTo len 0 ∧ J ys W') ∨ (∃ pre, pre <+: downTo len 0 ∧ Jx pre W')) := by
  unfold maxLen at hbig
  have HKS : Hid (∀ k, K k → k < W.heap.size) := hKs
  clear hKs
  refine callsIn_of_wp Tryz.func194 rfl trivial ?_ rfl
  simp only [Tryz.ntmps194, List.size_toArray, List.length_cons, List.length_nil, Nat.reduceAdd, Nat.reduceSub, Array.replicate_succ, Array.replicate_zero, List.push_toArray, List.append_toArray, List.nil_append, List.cons_append]
  have wl : IntKind.i64.wrap ((len : Int) - 1) = (len : Int) - 1 := by rw [IntWalk.i64_left]; unfold wrap64; omega
  gi_wp2
  gi_loopw [3] (fun iv wr => ∃ k : Nat, k ≤ len ∧ iv = .int .i64 ((k : Int) - 1) ∧ J (downTo len k) wr ∧ KeepS K W wr) (fun iv _ => (intOf iv + 1).toNat)
  case atStart => exact ⟨len, Nat.le_refl _, rfl, by rw [down_all]; exact h0, KeepS.refl _ _⟩
  case round =>
    obtain ⟨k, hk, rfl, hJs, hb⟩ := hrel
    have HB : Hid (KeepS K W wr) := hb
    have hcc := (hb.cell (p := ⟨Bp, 0, none⟩) hKB).trans hp0
    have hszw := hb.size
    have hBw : Bp < wr.heap.size := Nat.lt_of_lt_of_le (HKS.out Bp hKB) hszw
    cases k with
    | zero =>
      gi_wp2
      go_end0
      exact ⟨⟨_, rfl⟩, .inl ⟨_, rfl, hJs⟩⟩
    | succ j =>
      have hj : ((j + 1 : Nat) : Int) - 1 = (j : Int) := by omega
      rw [hj]
      have hjI : (j : Int) < (len : Int) := by omega
      have hjN : j < len := by omega
      have hj0 : (0 : Int) ≤ (j : Int) := by omega
      have wj : IntKind.i64.wrap ((j : Int) - 1) = (j : Int) - 1 := by rw [IntWalk.i64_left]; unfold wrap64; omega
      obtain ⟨b, o, rfl⟩ := hs (by omega)
      obtain ⟨hKb, hVe⟩ := hV b o rfl (by omega)
      have hbW : b < wr.heap.size := Nat.lt_of_lt_of_le (HKS.out b hKb) hszw
      have g0 := hVe j hjN
      have c0 := (HB.out.cell (p := ⟨b, o + j, none⟩) hKb).trans g0
      clear g0
      obtain ⟨fn, tmps, assign, body, hy, hR⟩ := hY _ ⟨j, hjN⟩ _ hJs (by rw [down_len]; omega)
      simp only at hy
      clear hb hV hVe
      gi_wp2
      refine hR.mono ?_
      rintro e W3 (⟨rfl, hJ3, hk3⟩ | ⟨rfl, hJx3⟩)
      · gi_wp2
        go_roundw
        case rel => exact ⟨j, by omega, by go_num, by rw [down_step hjN]; exact hJ3, HB.out.trans hk3⟩
        case measure => simp [intOf]
      · gi_wp2
        refine bodyPost_ret (results_none rfl _ _ _) rfl ?_
        exact ⟨⟨_, rfl⟩, .inr ⟨_, by rw [← down_step hjN]; exact down_pre _ _, hJx3⟩⟩
theorem backL_in (n : Nat) (a : Option Addr) (len cap : Nat) (w : World) :
    CallsIn Fence.wide n Tryz.prog 171 #[.slice a len cap] w fun e w' => e = .returned (.func (.func 194) #[] #[.pointer (some ⟨w.heap.size, 0, none⟩)]) ∧
      w' = w.alloc (.cells #[.slice a len cap] 85) := by
  refine callsIn_of_wp Tryz.func171 rfl trivial ?_ rfl
  simp only [Tryz.ntmps171, List.size_toArray, List.length_cons, List.length_nil, Nat.reduceAdd, Nat.reduceSub, Array.replicate_succ, Array.replicate_zero, List.push_toArray, List.append_toArray, List.nil_append, List.cons_append]
  gi_wp2
  go_ret
  exact ⟨rfl, rfl⟩
theorem backL_stops (n : Nat) (hn : 1 ≤ n) (Bp : Nat) (K : Nat → Prop) (a : Option Addr) (len cap : Nat) (u0 : Nat → Value) (w : World)
    (hKB : K Bp) (hp0 : w.cell? ⟨Bp, 0, none⟩ = some (.slice a len cap)) (hs : 1 ≤ len → ∃ b o, a = some ⟨b, o, none⟩) (hroom : len ≤ cap) (hbig : cap ≤ maxLen) (hKs : ∀ k, K k → k < w.heap.size)
    (hV : LieL K w a len u0) :
    SeqStopsK Fence.wide n Tryz.prog 194 #[.pointer (some ⟨Bp, 0, none⟩)] (fun x : Fin len => #[Value.int .i64 (x.1 : Nat), u0 x.1]) (KeepS K) (fun ys => ys = downTo len 0) (fun pre => pre <+: downTo len 0) len w :=
  fun l J Jx W hW _ _ hY h0 => backL1_in n l Bp K hn a len cap u0 J Jx W hY hKB (cell_later hW hp0) hs hroom hbig (fun k hk => Nat.lt_of_lt_of_le (hKs k hk) hW.size) (fun b o e h1 => ⟨(hV b o e h1).1, fun i hi => by exact cell_later hW ((hV b o e h1).2 i hi)⟩) h0
def LieR (K : Nat → Prop) (w : World) (a : Option Addr) (len : Nat) (u0 u1 : Nat → Value) : Prop := ∀ b o, a = some ⟨b, o, none⟩ → 1 ≤ len → K b ∧ ∀ i, i < len → w.cell? ⟨b, o + i * 2, none⟩ = some (u0 i) ∧ w.cell? ⟨b, o + i * 2 + 1, none⟩ = some (u1 i)
theorem backR1_in (n l Bp : Nat) (K : Nat → Prop) (hn : 1 ≤ n) (a : Option Addr) (len cap : Nat) (u0 u1 : Nat → Value) (J Jx : List (Fin len) → World → Prop) (W : World)
    (hY : ∀ pre (x : Fin len) W1, J pre W1 → pre.length < len → YieldAt Fence.wide (n - 1) Tryz.prog l #[.int .i64 (x.1 : Nat), .agg #[u0 x.1, u1 x.1]] W1 fun e W' =>
      (e = .returned (.bool true) ∧ J (pre ++ [x]) W' ∧ KeepS K W1 W') ∨ (e = .returned (.bool false) ∧ Jx (pre ++ [x]) W'))
    (hKB : K Bp) (hp0 : W.cell? ⟨Bp, 0, none⟩ = some (.slice a len cap)) (hs : 1 ≤ len → ∃ b o, a = some ⟨b, o, none⟩) (hroom : len ≤ cap) (hbig : cap ≤ maxLen) (hKs : ∀ k, K k → k < W.heap.size)
    (hV : LieR K W a len u0 u1) (h0 : J [] W) :
    CallsIn Fence.wide n Tryz.prog 164 #[.func (.yield l) #[] #[], .pointer (some ⟨Bp, 0, none⟩)] W fun e W' => (∃ v, e = .returned v) ∧
      ((∃ ys, ys = downTo len 0 ∧ J ys W') ∨ (∃ pre, pre <+: downTo len 0 ∧ Jx pre W')) := by
  unfold maxLen at hbig
  have HKS : Hid (∀ k, K k → k < W.heap.size) := hKs
  clear hKs
  refine callsIn_of_wp Tryz.func164 rfl trivial ?_ rfl
  simp only [Tryz.ntmps164, List.size_toArray, List.length_cons, List.length_nil, Nat.reduceAdd, Nat.reduceSub, Array.replicate_succ, Array.replicate_zero, List.push_toArray, List.append_toArray, List.nil_append, List.cons_append]
  have wl : IntKind.i64.wrap ((len : Int) - 1) = (len : Int) - 1 := by rw [IntWalk.i64_left]; unfold wrap64; omega
  gi_wp2
  gi_loopw [3] (fun iv wr => ∃ k : Nat, k ≤ len ∧ iv = .int .i64 ((k : Int) - 1) ∧ J (downTo len k) wr ∧ KeepS K W wr) (fun iv _ => (intOf iv + 1).toNat)
  case atStart => exact ⟨len, Nat.le_refl _, rfl, by rw [down_all]; exact h0, KeepS.refl _ _⟩
  case round =>
    obtain ⟨k, hk, rfl, hJs, hb⟩ := hrel
    have HB : Hid (KeepS K W wr) := hb
    have hcc := (hb.cell (p := ⟨Bp, 0, none⟩) hKB).trans hp0
    have hszw := hb.size
    have hBw : Bp < wr.heap.size := Nat.lt_of_lt_of_le (HKS.out Bp hKB) hszw
    cases k with
    | zero =>
      gi_wp2
      go_end0
      exact ⟨⟨_, rfl⟩, .inl ⟨_, rfl, hJs⟩⟩
    | succ j =>
      have hj : ((j + 1 : Nat) : Int) - 1 = (j : Int) := by omega
      rw [hj]
      have hjI : (j : Int) < (len : Int) := by omega
      have hjN : j < len := by omega
      have hj0 : (0 : Int) ≤ (j : Int) := by omega
      have wj : IntKind.i64.wrap ((j : Int) - 1) = (j : Int) - 1 := by rw [IntWalk.i64_left]; unfold wrap64; omega
      obtain ⟨b, o, rfl⟩ := hs (by omega)
      obtain ⟨hKb, hVe⟩ := hV b o rfl (by omega)
      have hbW : b < wr.heap.size := Nat.lt_of_lt_of_le (HKS.out b hKb) hszw
      obtain ⟨g0, g1⟩ := hVe j hjN
      have c0 := (HB.out.cell (p := ⟨b, o + j * 2, none⟩) hKb).trans g0
      have c1 := (HB.out.cell (p := ⟨b, o + j * 2 + 1, none⟩) hKb).trans g1
      clear g0 g1
      obtain ⟨fn, tmps, assign, body, hy, hR⟩ := hY _ ⟨j, hjN⟩ _ hJs (by rw [down_len]; omega)
      simp only at hy
      clear hb hV hVe
      gi_wp2
      refine hR.mono ?_
      rintro e W3 (⟨rfl, hJ3, hk3⟩ | ⟨rfl, hJx3⟩)
      · gi_wp2
        go_roundw
        case rel => exact ⟨j, by omega, by go_num, by rw [down_step hjN]; exact hJ3, HB.out.trans hk3⟩
        case measure => simp [intOf]
      · gi_wp2
        refine bodyPost_ret (results_none rfl _ _ _) rfl ?_
        exact ⟨⟨_, rfl⟩, .inr ⟨_, by rw [← down_step hjN]; exact down_pre _ _, hJx3⟩⟩
theorem backR_in (n : Nat) (a : Option Addr) (len cap : Nat) (w : World) :
    CallsIn Fence.wide n Tryz.prog 112 #[.slice a len cap] w fun e w' => e = .returned (.func (.func 164) #[] #[.pointer (some ⟨w.heap.size, 0, none⟩)]) ∧
      w' = w.alloc (.cells #[.slice a len cap] 64) := by
  refine callsIn_of_wp Tryz.func112 rfl trivial ?_ rfl
  simp only [Tryz.ntmps112, List.size_toArray, List.length_cons, List.length_nil, Nat.reduceAdd, Nat.reduceSub, Array.replicate_succ, Array.replicate_zero, List.push_toArray, List.append_toArray, List.nil_append, List.cons_append]
  gi_wp2
  go_ret
  exact ⟨rfl, rfl⟩
theorem backR_stops (n : Nat) (hn : 1 ≤ n) (Bp : Nat) (K : Nat → Prop) (a : Option Addr) (len cap : Nat) (u0 u1 : Nat → Value) (w : World)
    (hKB : K Bp) (hp0 : w.cell? ⟨Bp, 0, none⟩ = some (.slice a len cap)) (hs : 1 ≤ len → ∃ b o, a = some ⟨b, o, none⟩) (hroom : len ≤ cap) (hbig : cap ≤ maxLen) (hKs : ∀ k, K k → k < w.heap.size)
    (hV : LieR K w a len u0 u1) :
    SeqStopsK Fence.wide n Tryz.prog 164 #[.pointer (some ⟨Bp, 0, none⟩)] (fun x : Fin len => #[Value.int .i64 (x.1 : Nat), .agg #[u0 x.1, u1 x.1]]) (KeepS K) (fun ys => ys = downTo len 0) (fun pre => pre <+: downTo len 0) len w :=
  fun l J Jx W hW _ _ hY h0 => backR1_in n l Bp K hn a len cap u0 u1 J Jx W hY hKB (cell_later hW hp0) hs hroom hbig (fun k hk => Nat.lt_of_lt_of_le (hKs k hk) hW.size) (fun b o e h1 => ⟨(hV b o e h1).1, fun i hi => by obtain ⟨g0, g1⟩ := (hV b o e h1).2 i hi; exact ⟨cell_later hW g0, cell_later hW g1⟩⟩) h0
end Go.Proofs.YtlmgojlffgkciaaGreat
