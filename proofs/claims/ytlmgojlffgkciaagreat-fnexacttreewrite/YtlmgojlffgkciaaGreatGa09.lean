/-
  slices.Backward at lists of entries and at runs: what it yields, for every loop body that keeps what it reads, by walks of its Go text.
  The marks that loops over functions leave in a frame, and leaving with them; no statement of the program stands here.
  Plain: when times that are kept are right, and when entries are within a time; no statement of the program stands here.
  What the program's and the document's KeyOk answer at every text, by walks of their Go text.
  What the document's EntryOk answers at every entry, by a walk of its Go text.
  What the program's and the document's EntryLess answer at every two entries, by walks of their Go text; and what the library's strings.Compare, cmp.Compare and cmp.Or answer to them.
-/
import Derived.Test.YtlmgojlffgkciaaGreatGa01
import Derived.Test.YtlmgojlffgkciaaGreatGa08
import Derived.Maps.OwnIn
import Derived.Test.YtlmgojlffgkciaaGreatGa00
import Derived.WalkKit
import Derived.WalkSpells
import Derived.WalkLawsBesides
import Derived.Test.YtlmgojlffgkciaaGreatProg
import Derived.Deep.RegionHeld3
import Derived.Deep.DeepCutAuto
import Derived.Lib.Walk
namespace Go.Proofs.YtlmgojlffgkciaaGreat
set_option maxRecDepth 100000
set_option maxHeartbeats 2000000
open Go.RowKit Go.Shelf
attribute [local go_sem] Oper.semAt_some
def LieL (K : Nat → Prop) (w : World) (a : Option Addr) (len : Nat) (u0 : Nat → Value) : Prop := ∀ b o, a = some ⟨b, o, none⟩ → 1 ≤ len → K b ∧ ∀ i, i < len → w.cell? ⟨b, o + i, none⟩ = some (u0 i)
theorem backL1_in (n l Bp : Nat) (K : Nat → Prop) (hn : 1 ≤ n) (a : Option Addr) (len cap : Nat) (u0 : Nat → Value) (J Jx : List (Fin len) → World → Prop) (W : World)
    (hY : ∀ pre (x : Fin len) W1, J pre W1 → pre.length < len → YieldAt Fence.wide (n - 1) Tryz.prog l #[.int .i64 (x.1 : Nat), u0 x.1] W1 fun e W' =>
      (e = .returned (.bool true) ∧ J (pre ++ [x]) W' ∧ KeepS K W1 W') ∨ (e = .returned (.bool false) ∧ Jx (pre ++ [x]) W'))
    (hKB : K Bp) (hp0 : W.cell? ⟨Bp, 0, none⟩ = some (.slice a len cap)) (hs : 1 ≤ len → ∃ b o, a = some ⟨b, o, none⟩) (hroom : len ≤ cap) (hbig : cap ≤ maxLen) (hKs : ∀ k, K k → k < W.heap.size)
    (hV : LieL K W a len u0) (h0 : J [] W) :
    CallsIn Fence.wide n Tryz.prog 194 #[.func (.yield l) #[] #[], .pointer (some ⟨Bp, 0, none⟩)] W fun e W' => (∃ v, e = .returned v) ∧
      ((∃ ys, ys = downTo len 0 ∧ J ys W') ∨ (∃ pre, pre <+: downTo len 0 ∧ Jx pre W')) := by
  unfold maxLen at hbig
  have HKS : Hid (∀ k, K k → k < W.heap.size) := hKs
  clear hKs
  refine callsIn_of_wp Tryz.func194 rfl trivial ?_ rfl
  simp only [Tryz.ntmps194, List.size_toArray, List.length_cons, List.length_nil, Nat.reduceAdd, Nat.reduceSub, Array.replicate_succ, Array.replicate_zero, List.push_toArray, List.append_toArray, List.nil_append, List.cons_append]
  have wl : IntKind.i64.wrap ((len : Int) - 1) = (len : Int) - 1 := by rw [IntWalk.i64_left]; unfold wrap64; omega
  gi_wp2
  gi_loopw [3] (fun iv wr => ∃ k : Nat, k ≤ len ∧ iv = .int .i64 ((k : Int) - 1) ∧ J (downTo len k) wr ∧ KeepS K W wr) (fun iv _ => (intOf iv + 1).toNat)
  case atStart => exact ⟨len, Nat.le_refl _, rfl, by rw [down_all]; exact h0, KeepS.refl _ _⟩
  case round =>
    obtain ⟨k, hk, rfl, hJs, hb⟩ := hrel
    have HB : Hid (KeepS K W wr) := hb
    have hcc := (hb.cell (p := ⟨Bp, 0, none⟩) hKB).trans hp0
    have hszw := hb.size
    have hBw : Bp < wr.heap.size := Nat.lt_of_lt_of_le (HKS.out Bp hKB) hszw
    cases k with
    | zero =>
      gi_wp2
      go_end0
      exact ⟨⟨_, rfl⟩, .inl ⟨_, rfl, hJs⟩⟩
    | succ j =>
      have hj : ((j + 1 : Nat) : Int) - 1 = (j : Int) := by omega
      rw [hj]
      have hjI : (j : Int) < (len : Int) := by omega
      have hjN : j < len := by omega
      have hj0 : (0 : Int) ≤ (j : Int) := by omega
      have wj : IntKind.i64.wrap ((j : Int) - 1) = (j : Int) - 1 := by rw [IntWalk.i64_left]; unfold wrap64; omega
      obtain ⟨b, o, rfl⟩ := hs (by omega)
      obtain ⟨hKb, hVe⟩ := hV b o rfl (by omega)
      have hbW : b < wr.heap.size := Nat.lt_of_lt_of_le (HKS.out b hKb) hszw
      have g0 := hVe j hjN
      have c0 := (HB.out.cell (p := ⟨b, o + j, none⟩) hKb).trans g0
      clear g0
      obtain ⟨fn, tmps, assign, body, hy, hR⟩ := hY _ ⟨j, hjN⟩ _ hJs (by rw [down_len]; omega)
      simp only at hy
      clear hb hV hVe
      gi_wp2
      refine hR.mono ?_
      rintro e W3 (⟨rfl, hJ3, hk3⟩ | ⟨rfl, hJx3⟩)
      · gi_wp2
        go_roundw
        case rel => exact ⟨j, by omega, by go_num, by rw [down_step hjN]; exact hJ3, HB.out.trans hk3⟩
        case measure => simp [intOf]
      · gi_wp2
        refine bodyPost_ret (results_none rfl _ _ _) rfl ?_
        exact ⟨⟨_, rfl⟩, .inr ⟨_, by rw [← down_step hjN]; exact down_pre _ _, hJx3⟩⟩
theorem backL_in (n : Nat) (a : Option Addr) (len cap : Nat) (w : World) :
    CallsIn Fence.wide n Tryz.prog 171 #[.slice a len cap] w fun e w' => e = .returned (.func (.func 194) #[] #[.pointer (some ⟨w.heap.size, 0, none⟩)]) ∧
      w' = w.alloc (.cells #[.slice a len cap] 85) := by
  refine callsIn_of_wp Tryz.func171 rfl trivial ?_ rfl
  simp only [Tryz.ntmps171, List.size_toArray, List.length_cons, List.length_nil, Nat.reduceAdd, Nat.reduceSub, Array.replicate_succ, Array.replicate_zero, List.push_toArray, List.append_toArray, List.nil_append, List.cons_append]
  gi_wp2
  go_ret
  exact ⟨rfl, rfl⟩
theorem backL_stops (n : Nat) (hn : 1 ≤ n) (Bp : Nat) (K : Nat → Prop) (a : Option Addr) (len cap : Nat) (u0 : Nat → Value) (w : World)
    (hKB : K Bp) (hp0 : w.cell? ⟨Bp, 0, none⟩ = some (.slice a len cap)) (hs : 1 ≤ len → ∃ b o, a = some ⟨b, o, none⟩) (hroom : len ≤ cap) (hbig : cap ≤ maxLen) (hKs : ∀ k, K k → k < w.heap.size)
    (hV : LieL K w a len u0) :
    SeqStopsK Fence.wide n Tryz.prog 194 #[.pointer (some ⟨Bp, 0, none⟩)] (fun x : Fin len => #[Value.int .i64 (x.1 : Nat), u0 x.1]) (KeepS K) (fun ys => ys = downTo len 0) (fun pre => pre <+: downTo len 0) len w :=
  fun l J Jx W hW _ _ hY h0 => backL1_in n l Bp K hn a len cap u0 J Jx W hY hKB (cell_later hW hp0) hs hroom hbig (fun k hk => Nat.lt_of_lt_of_le (hKs k hk) hW.size) (fun b o e h1 => ⟨(hV b o e h1).1, fun i hi => by exact cell_later hW ((hV b o e h1).2 i hi)⟩) h0
def LieR (K : Nat → Prop) (w : World) (a : Option Addr) (len : Nat) (u0 u1 : Nat → Value) : Prop := ∀ b o, a = some ⟨b, o, none⟩ → 1 ≤ len → K b ∧ ∀ i, i < len → w.cell? ⟨b, o + i * 2, none⟩ = some (u0 i) ∧ w.cell? ⟨b, o + i * 2 + 1, none⟩ = some (u1 i)
theorem backR1_in (n l Bp : Nat) (K : Nat → Prop) (hn : 1 ≤ n) (a : Option Addr) (len cap : Nat) (u0 u1 : Nat → Value) (J Jx : List (Fin len) → World → Prop) (W : World)
    (hY : ∀ pre (x : Fin len) W1, J pre W1 → pre.length < len → YieldAt Fence.wide (n - 1) Tryz.prog l #[.int .i64 (x.1 : Nat), .agg #[u0 x.1, u1 x.1]] W1 fun e W' =>
      (e = .returned (.bool true) ∧ J (pre ++ [x]) W' ∧ KeepS K W1 W') ∨ (e = .returned (.bool false) ∧ Jx (pre ++ [x]) W'))
    (hKB : K Bp) (hp0 : W.cell? ⟨Bp, 0, none⟩ = some (.slice a len cap)) (hs : 1 ≤ len → ∃ b o, a = some ⟨b, o, none⟩) (hroom : len ≤ cap) (hbig : cap ≤ maxLen) (hKs : ∀ k, K k → k < W.heap.size)
    (hV : LieR K W a len u0 u1) (h0 : J [] W) :
    CallsIn Fence.wide n Tryz.prog 164 #[.func (.yield l) #[] #[], .pointer (some ⟨Bp, 0, none⟩)] W fun e W' => (∃ v, e = .returned v) ∧
      ((∃ ys, ys = downTo len 0 ∧ J ys W') ∨ (∃ pre, pre <+: downTo len 0 ∧ Jx pre W')) := by
  unfold maxLen at hbig
  have HKS : Hid (∀ k, K k → k < W.heap.size) := hKs
  clear hKs
  refine callsIn_of_wp Tryz.func164 rfl trivial ?_ rfl
  simp only [Tryz.ntmps164, List.size_toArray, List.length_cons, List.length_nil, Nat.reduceAdd, Nat.reduceSub, Array.replicate_succ, Array.replicate_zero, List.push_toArray, List.append_toArray, List.nil_append, List.cons_append]
  have wl : IntKind.i64.wrap ((len : Int) - 1) = (len : Int) - 1 := by rw [IntWalk.i64_left]; unfold wrap64; omega
  gi_wp2
  gi_loopw [3] (fun iv wr => ∃ k : Nat, k ≤ len ∧ iv = .int .i64 ((k : Int) - 1) ∧ J (downTo len k) wr ∧ KeepS K W wr) (fun iv _ => (intOf iv + 1).toNat)
  case atStart => exact ⟨len, Nat.le_refl _, rfl, by rw [down_all]; exact h0, KeepS.refl _ _⟩
  case round =>
    obtain ⟨k, hk, rfl, hJs, hb⟩ := hrel
    have HB : Hid (KeepS K W wr) := hb
    have hcc := (hb.cell (p := ⟨Bp, 0, none⟩) hKB).trans hp0
    have hszw := hb.size
    have hBw : Bp < wr.heap.size := Nat.lt_of_lt_of_le (HKS.out Bp hKB) hszw
    cases k with
    | zero =>
      gi_wp2
      go_end0
      exact ⟨⟨_, rfl⟩, .inl ⟨_, rfl, hJs⟩⟩
    | succ j =>
      have hj : ((j + 1 : Nat) : Int) - 1 = (j : Int) := by omega
      rw [hj]
      have hjI : (j : Int) < (len : Int) := by omega
      have hjN : j < len := by omega
      have hj0 : (0 : Int) ≤ (j : Int) := by omega
      have wj : IntKind.i64.wrap ((j : Int) - 1) = (j : Int) - 1 := by rw [IntWalk.i64_left]; unfold wrap64; omega
      obtain ⟨b, o, rfl⟩ := hs (by omega)
      obtain ⟨hKb, hVe⟩ := hV b o rfl (by omega)
      have hbW : b < wr.heap.size := Nat.lt_of_lt_of_le (HKS.out b hKb) hszw
      obtain ⟨g0, g1⟩ := hVe j hjN
      have c0 := (HB.out.cell (p := ⟨b, o + j * 2, none⟩) hKb).trans g0
      have c1 := (HB.out.cell (p := ⟨b, o + j * 2 + 1, none⟩) hKb).trans g1
      clear g0 g1
      obtain ⟨fn, tmps, assign, body, hy, hR⟩ := hY _ ⟨j, hjN⟩ _ hJs (by rw [down_len]; omega)
      simp only at hy
      clear hb hV hVe
      gi_wp2
      refine hR.mono ?_
      rintro e W3 (⟨rfl, hJ3, hk3⟩ | ⟨rfl, hJx3⟩)
      · gi_wp2
        go_roundw
        case rel => exact ⟨j, by omega, by go_num, by rw [down_step hjN]; exact hJ3, HB.out.trans hk3⟩
        case measure => simp [intOf]
      · gi_wp2
        refine bodyPost_ret (results_none rfl _ _ _) rfl ?_
        exact ⟨⟨_, rfl⟩, .inr ⟨_, by rw [← down_step hjN]; exact down_pre _ _, hJx3⟩⟩
theorem backR_in (n : Nat) (a : Option Addr) (len cap : Nat) (w : World) :
    CallsIn Fence.wide n Tryz.prog 112 #[.slice a len cap] w fun e w' => e = .returned (.func (.func 164) #[] #[.pointer (some ⟨w.heap.size, 0, none⟩)]) ∧
      w' = w.alloc (.cells #[.slice a len cap] 64) := by
  refine callsIn_of_wp Tryz.func112 rfl trivial ?_ rfl
  simp only [Tryz.ntmps112, List.size_toArray, List.length_cons, List.length_nil, Nat.reduceAdd, Nat.reduceSub, Array.replicate_succ, Array.replicate_zero, List.push_toArray, List.append_toArray, List.nil_append, List.cons_append]
  gi_wp2
  go_ret
  exact ⟨rfl, rfl⟩
theorem backR_stops (n : Nat) (hn : 1 ≤ n) (Bp : Nat) (K : Nat → Prop) (a : Option Addr) (len cap : Nat) (u0 u1 : Nat → Value) (w : World)
    (hKB : K Bp) (hp0 : w.cell? ⟨Bp, 0, none⟩ = some (.slice a len cap)) (hs : 1 ≤ len → ∃ b o, a = some ⟨b, o, none⟩) (hroom : len ≤ cap) (hbig : cap ≤ maxLen) (hKs : ∀ k, K k → k < w.heap.size)
    (hV : LieR K w a len u0 u1) :
    SeqStopsK Fence.wide n Tryz.prog 164 #[.pointer (some ⟨Bp, 0, none⟩)] (fun x : Fin len => #[Value.int .i64 (x.1 : Nat), .agg #[u0 x.1, u1 x.1]]) (KeepS K) (fun ys => ys = downTo len 0) (fun pre => pre <+: downTo len 0) len w :=
  fun l J Jx W hW _ _ hY h0 => backR1_in n l Bp K hn a len cap u0 u1 J Jx W hY hKB (cell_later hW hp0) hs hroom hbig (fun k hk => Nat.lt_of_lt_of_le (hKs k hk) hW.size) (fun b o e h1 => ⟨(hV b o e h1).1, fun i hi => by obtain ⟨g0, g1⟩ := (hV b o e h1).2 i hi; exact ⟨cell_later hW g0, cell_later hW g1⟩⟩) h0
end Go.Proofs.YtlmgojlffgkciaaGreat

namespace Go.Proofs.YtlmgojlffgkciaaGreat
open Go.RowKit Go.Shelf
def marksOf (ds : List Nat) : List Deferred := ds.map (fun D => { target := .collected D, args := #[] })
def MarksAt (base : Nat) (w : World) (ds : List Nat) : Prop := ds.Nodup ∧ ∀ D ∈ ds, base ≤ D ∧ w.heap[D]? = some (.deferred (some []))
theorem leaves_marks {F : Fence} {n base : Nat} {P : Program} {fn : Func} {tmps : Array Value} {R : Ending → World → Prop} : ∀ (ds : List Nat) (W : World), MarksAt base W ds →
    (∀ W', Below base W W' → (∀ (k : Nat) (o : Obj), W.heap[k]? = some o → o.isCells = true → W'.heap[k]? = some o) → LeavesInM F n P fn tmps R [] .returning W') → LeavesInM F n P fn tmps R (marksOf ds) .returning W
  | [], W, _, h => h W (Below.refl _ _) (fun _ _ h _ => h)
  | D :: ds, W, hm, h => by
    obtain ⟨hnd, hD⟩ := hm
    rw [List.nodup_cons] at hnd
    have hk := (hD D (List.mem_cons_self ..)).2
    have hb := (hD D (List.mem_cons_self ..)).1
    have hB : Below base W (W.putObj D (.deferred none)) := ⟨rfl, rfl, rfl, by simp [World.putObj], fun k hk => World.putObj_heap_other (by omega)⟩
    refine ⟨by simp, .inl ⟨D, _, rfl, run_takeDeferred hk, ?_⟩⟩
    refine leaves_marks ds (W.putObj D (.deferred none)) ⟨hnd.2, fun D' hD' => ⟨(hD D' (List.mem_cons_of_mem _ hD')).1, ?_⟩⟩ (fun W' hb' hc' => h W' (hB.trans hb') (fun k o ho hc => hc' k o ?_ hc))
    · have hne : D' ≠ D := fun e => hnd.1 (e ▸ hD')
      exact (World.putObj_heap_other hne).trans (hD D' (List.mem_cons_of_mem _ hD')).2
    · have hne : k ≠ D := fun e => by subst e; rw [hk] at ho; cases ho; cases hc
      exact (World.putObj_heap_other hne).trans ho
theorem keepS_box {n₀ B : Nat} {W W' : World} {t : TypeId} {v : Value} (h : Below n₀ W W') (hv : Boxed W B t v) (hv' : Boxed W' B t v) : KeepS (fun k => k < n₀ ∨ k = B) W W' :=
  ⟨h.os, h.tape, h.output, h.size, fun k hk => by
    rcases hk with hk | rfl
    · exact h.block k hk
    · exact (show W'.heap[k]? = _ from hv').trans (show W.heap[k]? = _ from hv).symm⟩
theorem marks_own {β : Type} {base : Nat} {ds : List Nat} {B : Nat} (hB : ∀ D ∈ ds, D < B) : OwnFrom B (fun (_ : β) W => MarksAt base W ds) := fun _ X Y row hs hg hr =>
  ⟨hs.1, fun D hD => ⟨(hs.2 D hD).1, by
    have h0 := (hs.2 D hD).2
    refine (hg.block D (Array.getElem?_eq_some_iff.1 h0).1 (fun e => ?_)).trans h0
    have := (hr D e.symm).1
    have := hB D hD
    omega⟩⟩
theorem MarksAt.others {base : Nat} {w w' : World} {ds : List Nat} (h : MarksAt base w ds) (hk : KeepsOthers w w') : MarksAt base w' ds := ⟨h.1, fun D hD => ⟨(h.2 D hD).1, hk.same D _ (h.2 D hD).2 rfl⟩⟩
end Go.Proofs.YtlmgojlffgkciaaGreat

namespace Go.Proofs.YtlmgojlffgkciaaGreat
open Go.RowKit
def withinB (M : List EntD) (q : Int) : Bool := M.all (fun e => decide (e.2.1 ≤ q))
theorem within_snoc {M : List EntD} {q : Int} {k : Nat} {e : EntD} (h : withinB (M.take k) q = true) (hk : M[k]? = some e) (he : e.2.1 ≤ q) : withinB (M.take (k + 1)) q = true := by
  unfold withinB at h ⊢
  rw [List.take_add_one, hk]
  simp only [Option.toList, List.all_append, h, List.all_cons, List.all_nil, Bool.and_true, Bool.true_and]
  exact decide_eq_true he
theorem within_no {M : List EntD} {q : Int} {k : Nat} {e : EntD} (hk : M[k]? = some e) (he : ¬ e.2.1 ≤ q) : withinB M q = false := by
  unfold withinB
  rw [Bool.eq_false_iff]
  intro h
  rw [List.all_eq_true] at h
  exact he (of_decide_eq_true (h e (List.mem_of_getElem? hk)))
def snapAt (S : List Int) (q : Int) (i : Nat) : Bool :=
  match S[i]? with
  | none => true
  | some s => decide (0 ≤ s) && (decide (s ≤ q) && (match i with | 0 => true | j + 1 => match S[j]? with | none => true | some p => decide (p < s)))
def SnapsTo (S : List Int) (q : Int) (k : Nat) : Prop := ∀ j, j < k → snapAt S q j = true
def snapsB (S : List Int) (q : Int) : Bool := decide (S.length ≤ 4) && (List.range S.length).all (snapAt S q)
theorem snaps_many {S : List Int} {q : Int} (h : 4 < S.length) : snapsB S q = false := by
  unfold snapsB
  rw [decide_eq_false (by omega)]
  rfl
theorem snaps_no {S : List Int} {q : Int} {k : Nat} (hk : k < S.length) (h : snapAt S q k = false) : snapsB S q = false := by
  unfold snapsB
  rw [Bool.and_eq_false_iff]
  right
  rw [Bool.eq_false_iff]
  intro h1
  rw [List.all_eq_true] at h1
  rw [h1 k (List.mem_range.2 hk)] at h
  cases h
theorem snaps_all {S : List Int} {q : Int} (h : SnapsTo S q S.length) : snapsB S q = decide (S.length ≤ 4) := by
  unfold snapsB
  have : (List.range S.length).all (snapAt S q) = true := by
    rw [List.all_eq_true]
    intro j hj
    exact h j (List.mem_range.1 hj)
  rw [this, Bool.and_true]
theorem snaps_snoc {S : List Int} {q : Int} {k : Nat} (h : SnapsTo S q k) (hk : snapAt S q k = true) : SnapsTo S q (k + 1) := by
  intro j hj
  by_cases e : j = k
  · subst e; exact hk
  · exact h j (by omega)
theorem snap_zero {S : List Int} {q s : Int} (h : S[0]? = some s) : snapAt S q 0 = (decide (0 ≤ s) && decide (s ≤ q)) := by
  unfold snapAt
  rw [h]
  simp
theorem snap_succ {S : List Int} {q s p : Int} {j : Nat} (h : S[j + 1]? = some s) (hp : S[j]? = some p) : snapAt S q (j + 1) = (decide (0 ≤ s) && (decide (s ≤ q) && decide (p < s))) := by
  unfold snapAt
  simp only [h, hp]
theorem snap_low {S : List Int} {q s : Int} {k : Nat} (h : S[k]? = some s) (hs : s < 0) : snapAt S q k = false := by
  unfold snapAt
  rw [h]
  simp only
  rw [decide_eq_false (by omega)]
  rfl
theorem snap_high {S : List Int} {q s : Int} {k : Nat} (h : S[k]? = some s) (hs : q < s) : snapAt S q k = false := by
  unfold snapAt
  rw [h]
  simp only
  rw [decide_eq_false (p := s ≤ q) (by omega)]
  simp
end Go.Proofs.YtlmgojlffgkciaaGreat

namespace Go.Proofs.YtlmgojlffgkciaaGreat
open Go.RowKit
set_option maxHeartbeats 400000 in
theorem specKey (s : ByteArray) (w : World) (hs : s.size ≤ maxLen) :
    Calls Tryz.prog 165 #[.string s] w fun e w' => e = .returned (.bool (keyB s)) ∧ w' = w := by
  unfold maxLen at hs
  go_enter Tryz.func165, Tryz.ntmps165
  go_wp2
  go_loop [3] (fun i => ∃ k : Nat, k ≤ s.size ∧ i = .int .i64 k ∧ (s.data.toList.take k).all keyC = true) (fun i => s.size - (intOf i).toNat)
  case atStart => exact ⟨0, Nat.zero_le _, rfl, rfl⟩
  case round =>
    obtain ⟨k, hk, rfl, hall⟩ := hrel
    have HA : Hid ((s.data.toList.take k).all keyC = true) := hall
    clear hall
    by_cases hlt : k < s.size
    · cases hb : keyC s[k] with
      | true =>
        have h3 := keyC_true hb
        have HB : Hid (keyC s[k] = true) := hb
        clear hb
        rcases h3 with ⟨h31, h32⟩ | ⟨h31, h32⟩
        · go_wp2
          go_round
          case rel => exact ⟨k + 1, by omega, by go_num, key_take_snoc s k hlt HA.out HB.out⟩
          case measure => simp [intOf]; omega
        · go_wp2
          go_round
          case rel => exact ⟨k + 1, by omega, by go_num, key_take_snoc s k hlt HA.out HB.out⟩
          case measure => simp [intOf]; omega
      | false =>
        have h3 := keyC_false hb
        have HB : Hid (keyC s[k] = false) := hb
        clear hb
        rcases h3 with h3 | ⟨h3, h4⟩ | h3
        · go_wp2
          go_ret
          exact ⟨ret_bool (key_false_of s k hlt HB.out).symm, rfl⟩
        · go_wp2
          go_ret
          exact ⟨ret_bool (key_false_of s k hlt HB.out).symm, rfl⟩
        · go_wp2
          go_ret
          exact ⟨ret_bool (key_false_of s k hlt HB.out).symm, rfl⟩
    · go_wp2
      all_goals
        go_ret
        refine ⟨ret_bool ?_, rfl⟩
        rw [keyB_of_all s k (by omega) HA.out]
        first | exact sz8_yes _ (by omega) | exact sz8_no _ (by omega)
set_option maxHeartbeats 400000 in
theorem isKey_yes (b : Int) (w : World) (h : (97 ≤ b ∧ b ≤ 122) ∨ (47 ≤ b ∧ b ≤ 57)) : Calls Tryz.prog 198 #[.int .u8 b] w fun e w' => e = .returned (.bool true) ∧ w' = w := by
  rcases h with ⟨h1, h2⟩ | ⟨h1, h2⟩
  · go_enter Tryz.func198, Tryz.ntmps198
    go_wp2
    all_goals
      go_ret
      exact ⟨rfl, rfl⟩
  · by_cases h3 : b = 47
    · subst h3
      go_enter Tryz.func198, Tryz.ntmps198
      go_wp2
      all_goals
        go_ret
        exact ⟨rfl, rfl⟩
    · have h4 : 48 ≤ b := by omega
      go_enter Tryz.func198, Tryz.ntmps198
      go_wp2
      all_goals
        go_ret
        exact ⟨rfl, rfl⟩
set_option maxHeartbeats 400000 in
theorem isKey_no (b : Int) (w : World) (h : b < 47 ∨ (57 < b ∧ b < 97) ∨ 122 < b) : Calls Tryz.prog 198 #[.int .u8 b] w fun e w' => e = .returned (.bool false) ∧ w' = w := by
  have hd : (b == 47) = false := by rw [beq_eq_false_iff_ne]; omega
  have hd' : ¬ b = 47 := by omega
  rcases h with h | ⟨h, h'⟩ | h
  · go_enter Tryz.func198, Tryz.ntmps198
    go_wp2
    all_goals
      go_ret
      exact ⟨ret_bool (by first | rfl | (simp; omega) | simp), rfl⟩
  · go_enter Tryz.func198, Tryz.ntmps198
    go_wp2
    all_goals
      go_ret
      exact ⟨ret_bool (by first | rfl | (simp; omega) | simp), rfl⟩
  · go_enter Tryz.func198, Tryz.ntmps198
    go_wp2
    all_goals
      go_ret
      exact ⟨ret_bool (by first | rfl | (simp; omega) | simp), rfl⟩
set_option maxHeartbeats 400000 in
theorem implKey (s : ByteArray) (w : World) (hs : s.size ≤ maxLen) :
    Calls Tryz.prog 175 #[.string s] w fun e w' => e = .returned (.bool (keyB s)) ∧ w' = w := by
  unfold maxLen at hs
  by_cases h1 : s.size < 1
  · go_enter Tryz.func175, Tryz.ntmps175
    go_wp2
    go_ret
    exact ⟨ret_bool (keyB_small s h1).symm, rfl⟩
  by_cases h4 : 8 < s.size
  · go_enter Tryz.func175, Tryz.ntmps175
    go_wp2
    go_ret
    exact ⟨ret_bool (keyB_big s h4).symm, rfl⟩
  go_enter Tryz.func175, Tryz.ntmps175
  go_wp2
  go_loop [14] (fun i => ∃ k : Nat, k ≤ s.size ∧ i = .int .i64 k ∧ (s.data.toList.take k).all keyC = true) (fun i => s.size - (intOf i).toNat)
  case atStart => exact ⟨0, Nat.zero_le _, rfl, rfl⟩
  case round =>
    obtain ⟨k, hk, rfl, hall⟩ := hrel
    have HA : Hid ((s.data.toList.take k).all keyC = true) := hall
    clear hall
    by_cases hlt : k < s.size
    · cases hb : keyC s[k] with
      | true =>
        have h3 := keyC_true hb
        have H3 : Hid ((97 ≤ ((s[k]).toNat : Int) ∧ ((s[k]).toNat : Int) ≤ 122) ∨ (47 ≤ ((s[k]).toNat : Int) ∧ ((s[k]).toNat : Int) ≤ 57)) := h3
        have HB : Hid (keyC s[k] = true) := hb
        clear hb h3
        go_wp2_with (go_at_call 198; refine (isKey_yes _ _ H3.out).mono ?_; rintro e w' ⟨rfl, rfl⟩)
        go_round
        case rel => exact ⟨k + 1, by omega, by go_num, key_take_snoc s k hlt HA.out HB.out⟩
        case measure => simp [intOf]; omega
      | false =>
        have h3 := keyC_false hb
        have H3 : Hid (((s[k]).toNat : Int) < 47 ∨ (57 < ((s[k]).toNat : Int) ∧ ((s[k]).toNat : Int) < 97) ∨ 122 < ((s[k]).toNat : Int)) := h3
        have HB : Hid (keyC s[k] = false) := hb
        clear hb h3
        go_wp2_with (go_at_call 198; refine (isKey_no _ _ H3.out).mono ?_; rintro e w' ⟨rfl, rfl⟩)
        go_ret
        exact ⟨ret_bool (key_false_of s k hlt HB.out).symm, rfl⟩
    · go_wp2
      go_ret
      exact ⟨ret_bool (keyB_all s (by omega) (by omega) k (by omega) HA.out).symm, rfl⟩
end Go.Proofs.YtlmgojlffgkciaaGreat

namespace Go.Proofs.YtlmgojlffgkciaaGreat
open Go.RowKit
set_option maxHeartbeats 400000 in
theorem specEnt (k t : ByteArray) (q d n : Int) (w : World) (hs : k.size ≤ maxLen) (ht : t.size ≤ maxLen) :
    Calls Tryz.prog 114 #[.agg #[.string k, .int .i64 q, .int .i64 d, .string t, .int .i64 n]] w fun e w' => e = .returned (.bool (entB k q d t n)) ∧ Below w.heap.size w w' := by
  have ht' := ht
  unfold maxLen at ht'
  cases hk : keyB k with
  | false =>
    go_enter Tryz.func114, Tryz.ntmps114
    go_wp2_with (first | (go_at_call 165; refine (specKey _ _ hs).mono ?_; rintro e w' ⟨rfl, rfl⟩) | go_in)
    go_ret
    exact ⟨ret_bool (entB_key hk).symm, (Below.refl _ _).alloc (Nat.le_refl _) _⟩
  | true =>
    by_cases h1 : q < 1
    · go_enter Tryz.func114, Tryz.ntmps114
      go_wp2_with (first | (go_at_call 165; refine (specKey _ _ hs).mono ?_; rintro e w' ⟨rfl, rfl⟩) | go_in)
      go_ret
      exact ⟨ret_bool (entB_q1 h1).symm, (Below.refl _ _).alloc (Nat.le_refl _) _⟩
    by_cases h2 : 100000 < q
    · go_enter Tryz.func114, Tryz.ntmps114
      go_wp2_with (first | (go_at_call 165; refine (specKey _ _ hs).mono ?_; rintro e w' ⟨rfl, rfl⟩) | go_in)
      go_ret
      exact ⟨ret_bool (entB_q2 h2).symm, (Below.refl _ _).alloc (Nat.le_refl _) _⟩
    by_cases h3 : n < -1000000
    · go_enter Tryz.func114, Tryz.ntmps114
      go_wp2_with (first | (go_at_call 165; refine (specKey _ _ hs).mono ?_; rintro e w' ⟨rfl, rfl⟩) | go_in)
      go_ret
      exact ⟨ret_bool (entB_n1 h3).symm, (Below.refl _ _).alloc (Nat.le_refl _) _⟩
    by_cases h4 : 1000000 < n
    · go_enter Tryz.func114, Tryz.ntmps114
      go_wp2_with (first | (go_at_call 165; refine (specKey _ _ hs).mono ?_; rintro e w' ⟨rfl, rfl⟩) | go_in)
      go_ret
      exact ⟨ret_bool (entB_n2 h4).symm, (Below.refl _ _).alloc (Nat.le_refl _) _⟩
    by_cases h5 : 60 < t.size
    · go_enter Tryz.func114, Tryz.ntmps114
      go_wp2_with (first | (go_at_call 165; refine (specKey _ _ hs).mono ?_; rintro e w' ⟨rfl, rfl⟩) | go_in)
      go_ret
      exact ⟨ret_bool (entB_t h5).symm, (Below.refl _ _).alloc (Nat.le_refl _) _⟩
    by_cases d1 : d = 1
    · subst d1
      go_enter Tryz.func114, Tryz.ntmps114
      go_wp2_with (first | (go_at_call 165; refine (specKey _ _ hs).mono ?_; rintro e w' ⟨rfl, rfl⟩) | go_in)
      go_ret
      refine ⟨ret_bool ?_, (Below.refl _ _).alloc (Nat.le_refl _) _⟩
      rw [entB_rest hk (by omega) (by omega) (by omega) (by omega) (by omega)]
      exact kindB_1.symm
    by_cases d2 : d = 2
    · subst d2
      by_cases t0 : t = ByteArray.empty
      · subst t0
        by_cases n0 : n = 0
        · subst n0
          go_enter Tryz.func114, Tryz.ntmps114
          go_wp2_with (first | (go_at_call 165; refine (specKey _ _ hs).mono ?_; rintro e w' ⟨rfl, rfl⟩) | go_in)
          go_ret
          refine ⟨ret_bool ?_, (Below.refl _ _).alloc (Nat.le_refl _) _⟩
          rw [entB_rest hk (by omega) (by omega) (by omega) (by omega) (by omega)]
          rw [kindB_2]; rfl
        · have n1 : (n == 0) = false := by simpa using n0
          go_enter Tryz.func114, Tryz.ntmps114
          go_wp2_with (first | (go_at_call 165; refine (specKey _ _ hs).mono ?_; rintro e w' ⟨rfl, rfl⟩) | go_in)
          go_ret
          refine ⟨ret_bool ?_, (Below.refl _ _).alloc (Nat.le_refl _) _⟩
          rw [entB_rest hk (by omega) (by omega) (by omega) (by omega) (by omega)]
          rw [kindB_2]; simp [n0]
      · have t1 := size_pos_of_ne t0
        have t2 := toList_ne t0
        go_enter Tryz.func114, Tryz.ntmps114
        go_wp2_with (first | (go_at_call 165; refine (specKey _ _ hs).mono ?_; rintro e w' ⟨rfl, rfl⟩) | go_in)
        go_ret
        refine ⟨ret_bool ?_, (Below.refl _ _).alloc (Nat.le_refl _) _⟩
        rw [entB_rest hk (by omega) (by omega) (by omega) (by omega) (by omega)]
        rw [kindB_2]; simp [t1]
    by_cases d3 : d = 3
    · subst d3
      by_cases t0 : t = ByteArray.empty
      · subst t0
        go_enter Tryz.func114, Tryz.ntmps114
        go_wp2_with (first | (go_at_call 165; refine (specKey _ _ hs).mono ?_; rintro e w' ⟨rfl, rfl⟩) | go_in)
        go_ret
        refine ⟨ret_bool ?_, (Below.refl _ _).alloc (Nat.le_refl _) _⟩
        rw [entB_rest hk (by omega) (by omega) (by omega) (by omega) (by omega)]
        rw [kindB_3]; rfl
      · have t1 := size_pos_of_ne t0
        have t2 := toList_ne t0
        go_enter Tryz.func114, Tryz.ntmps114
        go_wp2_with (first | (go_at_call 165; refine (specKey _ _ hs).mono ?_; rintro e w' ⟨rfl, rfl⟩) | go_in)
        go_ret
        refine ⟨ret_bool ?_, (Below.refl _ _).alloc (Nat.le_refl _) _⟩
        rw [entB_rest hk (by omega) (by omega) (by omega) (by omega) (by omega)]
        rw [kindB_3]; simp [t1, t2]
    have e1 : (d == 1) = false := by simpa using d1
    have e2 : (d == 2) = false := by simpa using d2
    have e3 : (d == 3) = false := by simpa using d3
    go_enter Tryz.func114, Tryz.ntmps114
    go_wp2_with (first | (go_at_call 165; refine (specKey _ _ hs).mono ?_; rintro e w' ⟨rfl, rfl⟩) | go_in)
    go_ret
    refine ⟨ret_bool ?_, (Below.refl _ _).alloc (Nat.le_refl _) _⟩
    rw [entB_rest hk (by omega) (by omega) (by omega) (by omega) (by omega)]
    exact (kindB_0 d1 d2 d3).symm
end Go.Proofs.YtlmgojlffgkciaaGreat

namespace Go.Proofs.YtlmgojlffgkciaaGreat
open Go.RowKit
set_option maxRecDepth 100000
set_option maxHeartbeats 1000000
theorem cell_new0 (W : World) (x y : Value) (t b : Nat) (hb : b = W.heap.size) : (W.alloc (.cells #[x, y] t)).drew.cell? ⟨b, 0, none⟩ = some x := by subst hb; simp
theorem cell_new1 (W : World) (x y : Value) (t b : Nat) (hb : b = W.heap.size) : (W.alloc (.cells #[x, y] t)).drew.cell? ⟨b, 1, none⟩ = some y := by subst hb; simp
theorem strCompare (a b : ByteArray) (w : World) :
    Calls Tryz.prog 183 #[.string a, .string b] w fun e w' => e = .returned (.int .i64 (Lib.compareBytes a.data.toList b.data.toList)) ∧ w' = w := by
  go_enter Tryz.func183, Tryz.ntmps183
  go_wp2
  rw [run_callFunc_extern Tryz.func221 (by kernel_rfl) (by kernel_rfl) (by kernel_rfl) (e := Extern.BytealgCompare.compare) (by kernel_rfl), Lib.run_compareString]
  simp only [Result.andThen]
  rw [Oper.upon_value]
  go_wp2
  go_ret
  exact ⟨rfl, rfl⟩
theorem intCompare (x y : Int) (w : World) :
    Calls Tryz.prog 174 #[.int .i64 x, .int .i64 y] w fun e w' => e = .returned (.int .i64 (Lib.compareInt x y)) ∧ w' = w := by
  by_cases h1 : x < y
  · go_enter Tryz.func174, Tryz.ntmps174
    go_wp2
    go_ret
    exact ⟨by simp [Lib.compareInt, h1], rfl⟩
  · by_cases h2 : x > y
    · have h2' : y < x := h2
      go_enter Tryz.func174, Tryz.ntmps174
      go_wp2
      go_ret
      exact ⟨by simp [Lib.compareInt, h1, h2], rfl⟩
    · have h3 : x = y := by omega
      subst h3
      go_enter Tryz.func174, Tryz.ntmps174
      go_wp2
      go_ret
      exact ⟨by simp [Lib.compareInt], rfl⟩
theorem cmpOr (x y : Int) (b c : Nat) (w : World) (g0 : w.cell? ⟨b, 0, none⟩ = some (.int .i64 x)) (g1 : w.cell? ⟨b, 1, none⟩ = some (.int .i64 y)) :
    Calls Tryz.prog 182 #[.slice (some ⟨b, 0, none⟩) 2 c] w fun e w' => e = .returned (.int .i64 (if x = 0 then y else x)) ∧ w' = w := by
  go_enter Tryz.func182, Tryz.ntmps182
  go_wp2
  go_loop [8] (fun i => (i = .int .i64 0) ∨ (i = .int .i64 1 ∧ x = 0) ∨ (i = .int .i64 2 ∧ x = 0 ∧ y = 0)) (fun i => 2 - (intOf i).toNat)
  case atStart => exact Or.inl rfl
  case round =>
    rcases hrel with rfl | ⟨rfl, rfl⟩ | ⟨rfl, rfl, rfl⟩
    · by_cases h0 : x = 0
      · subst h0
        go_wp2
        go_round
        case rel => exact Or.inr (Or.inl ⟨by go_num, trivial⟩)
        case measure => simp [intOf]
      · have h0' : (x != 0) = true := by simpa using h0
        go_wp2
        go_ret
        exact ⟨rfl, rfl⟩
    · by_cases h0 : y = 0
      · subst h0
        go_wp2
        go_round
        case rel => exact Or.inr (Or.inr ⟨by go_num, trivial, trivial⟩)
        case measure => simp [intOf]
      · have h0' : (y != 0) = true := by simpa using h0
        go_wp2
        go_ret
        exact ⟨rfl, rfl⟩
    · go_wp2
      go_ret
      exact ⟨rfl, rfl⟩
def ordI (ka : ByteArray) (qa : Int) (kb : ByteArray) (qb : Int) : Int := if Lib.compareBytes ka.data.toList kb.data.toList = 0 then Lib.compareInt qb qa else Lib.compareBytes ka.data.toList kb.data.toList
theorem implOrder (ka ta kb tb : ByteArray) (qa da na qb db nb : Int) (w : World) :
    Calls Tryz.prog 145 #[.agg #[.string ka, .int .i64 qa, .int .i64 da, .string ta, .int .i64 na], .agg #[.string kb, .int .i64 qb, .int .i64 db, .string tb, .int .i64 nb]] w fun e w' => e = .returned (.int .i64 (ordI ka qa kb qb)) ∧ Below w.heap.size w w' := by
  obtain ⟨C, hC⟩ : ∃ C, C = Lib.compareBytes ka.data.toList kb.data.toList := ⟨_, rfl⟩
  obtain ⟨D, hD⟩ : ∃ D, D = Lib.compareInt qb qa := ⟨_, rfl⟩
  have c1 : ∀ w, Calls Tryz.prog 183 #[.string ka, .string kb] w fun e w' => e = .returned (.int .i64 C) ∧ w' = w := by rw [hC]; exact strCompare ka kb
  have c2 : ∀ w, Calls Tryz.prog 174 #[.int .i64 qb, .int .i64 qa] w fun e w' => e = .returned (.int .i64 D) ∧ w' = w := by rw [hD]; exact intCompare qb qa
  obtain ⟨O, hO⟩ : ∃ O, O = if C = 0 then D else C := ⟨_, rfl⟩
  have c3 : ∀ b c w, w.cell? ⟨b, 0, none⟩ = some (.int .i64 C) → w.cell? ⟨b, 1, none⟩ = some (.int .i64 D) → Calls Tryz.prog 182 #[.slice (some ⟨b, 0, none⟩) 2 c] w fun e w' => e = .returned (.int .i64 O) ∧ w' = w := by
    rw [hO]
    exact fun b c w g0 g1 => cmpOr C D b c w g0 g1
  unfold ordI
  rw [← hC, ← hD, ← hO]
  clear hC hD hO
  go_enter Tryz.func145, Tryz.ntmps145
  go_wp2_with fail
  obtain ⟨X, hX⟩ : ∃ X, X = w.heap.size := ⟨_, rfl⟩
  obtain ⟨W, hW⟩ : ∃ W, W = (w.alloc (.cells #[.string ka, .int .i64 qa, .int .i64 da, .string ta, .int .i64 na] 78)).alloc (.cells #[.string kb, .int .i64 qb, .int .i64 db, .string tb, .int .i64 nb] 78) := ⟨_, rfl⟩
  have x0 : W.cell? ⟨X, 0, none⟩ = some (.string ka) := by rw [hW, hX]; simp
  have x1 : W.cell? ⟨X, 1, none⟩ = some (.int .i64 qa) := by rw [hW, hX]; simp
  have y0 : W.cell? ⟨X + 1, 0, none⟩ = some (.string kb) := by rw [hW, hX]; simp
  have y1 : W.cell? ⟨X + 1, 1, none⟩ = some (.int .i64 qb) := by rw [hW, hX]; simp
  have kW : Below w.heap.size w W := by rw [hW]; exact ((Below.refl _ _).alloc (Nat.le_refl _) _).alloc (by simp) _
  rw [← hW, ← hX]
  clear hW hX
  have HKW : Hid (Below w.heap.size w W) := kW
  clear kW
  have k0 : Below W.heap.size W W.drew := (Below.refl _ W).drew
  have HMK : Hid (∀ w', Below W.heap.size W w' → (w'.cell? ⟨X, 0, none⟩ = some (.string ka) ∧ w'.cell? ⟨X, 1, none⟩ = some (.int .i64 qa) ∧ w'.cell? ⟨X + 1, 0, none⟩ = some (.string kb) ∧ w'.cell? ⟨X + 1, 1, none⟩ = some (.int .i64 qb) ∧ Below W.heap.size W w')) := fun w' k => ⟨cell_later k x0, cell_later k x1, cell_later k y0, cell_later k y1, k⟩
  go_region_held3 (fun w' => w'.cell? ⟨X, 0, none⟩ = some (.string ka) ∧ w'.cell? ⟨X, 1, none⟩ = some (.int .i64 qa) ∧ w'.cell? ⟨X + 1, 0, none⟩ = some (.string kb) ∧ w'.cell? ⟨X + 1, 1, none⟩ = some (.int .i64 qb) ∧ Below W.heap.size W w') (first | exact HMK.out _ k0 | exact HMK.out _ ((Below.refl _ W).alloc (Nat.le_refl _) _).drew | exact HMK.out _ (k0.alloc (Nat.le_refl _) _)) (first
    | (go_at_call 183; refine (c1 _).mono ?_; rintro e w' ⟨rfl, rfl⟩)
    | (go_at_call 174; refine (c2 _).mono ?_; rintro e w' ⟨rfl, rfl⟩)
    | (go_at_call 182; refine (c3 _ _ _ (cell_new0 _ _ _ _ _ (by simp)) (cell_new1 _ _ _ _ _ (by simp))).mono ?_; rintro e w' ⟨rfl, rfl⟩))
  go_wp2
  go_ret
  exact ⟨rfl, HKW.out.trans (((Below.refl _ W).alloc (Nat.le_refl _) _).drew.mono HKW.out.size)⟩
theorem order_less (ka kb : ByteArray) (qa qb : Int) : decide (ordI ka qa kb qb < 0) = lessB ka qa kb qb := by
  unfold lessB ordI Lib.compareInt
  rcases cmp_cases ka.data.toList kb.data.toList with ⟨h, h1, h2⟩ | ⟨h, h1, h2⟩ | ⟨h, h1, h2⟩
  · rw [h, h1]; rfl
  · have : ka = kb := by
      apply ByteArray.ext
      exact Array.toList_inj.1 h2
    subst this
    rw [h, h1]
    by_cases g : qb < qa
    · simp [g]
    · by_cases g' : qb > qa <;> simp [g, g']
  · have : ¬ ka = kb := fun e => h2 (by rw [e])
    rw [h, h1]
    simp [this]
theorem implLess (ka ta kb tb : ByteArray) (qa da na qb db nb : Int) (w : World) :
    Calls Tryz.prog 160 #[.agg #[.string ka, .int .i64 qa, .int .i64 da, .string ta, .int .i64 na], .agg #[.string kb, .int .i64 qb, .int .i64 db, .string tb, .int .i64 nb]] w fun e w' => e = .returned (.bool (lessB ka qa kb qb)) ∧ Below w.heap.size w w' := by
  go_enter Tryz.func160, Tryz.ntmps160
  go_wp2_with fail
  refine (implOrder _ _ _ _ _ _ _ _ _ _ _).mono ?_
  rintro e w1 ⟨rfl, hb1⟩
  go_wp2
  go_ret
  exact ⟨ret_bool (order_less ka kb qa qb), (((Below.refl _ _).alloc (Nat.le_refl _) _).alloc (by simp) _).trans (hb1.mono (by simp; omega))⟩
theorem less_self (a : List UInt8) : Op.bytesLess a a = false := by
  rcases cmp_cases a a with ⟨_, _, h⟩ | ⟨_, h, _⟩ | ⟨_, h, _⟩
  · exact absurd rfl h
  · exact h
  · exact h
theorem specLess (ka ta kb tb : ByteArray) (qa da na qb db nb : Int) (w : World) :
    Calls Tryz.prog 115 #[.agg #[.string ka, .int .i64 qa, .int .i64 da, .string ta, .int .i64 na], .agg #[.string kb, .int .i64 qb, .int .i64 db, .string tb, .int .i64 nb]] w fun e w' => e = .returned (.bool (lessB ka qa kb qb)) ∧ Below w.heap.size w w' := by
  by_cases he : ka = kb
  · subst he
    have hl : Op.bytesLess ka.toList ka.toList = false := less_self _
    by_cases hq : qb < qa
    · go_enter Tryz.func115, Tryz.ntmps115
      go_wp2
      go_ret
      refine ⟨ret_bool ?_, ((Below.refl _ _).alloc (Nat.le_refl _) _).alloc (by simp) _⟩
      unfold lessB
      rw [less_self]
      simp [hq]
    · go_enter Tryz.func115, Tryz.ntmps115
      go_wp2
      go_ret
      refine ⟨ret_bool ?_, ((Below.refl _ _).alloc (Nat.le_refl _) _).alloc (by simp) _⟩
      unfold lessB
      rw [less_self]
      simp [hq]
  · have hne : ¬ ka.toList = kb.toList := by
      rw [ByteArray.toList_eq, ByteArray.toList_eq]
      intro h
      exact he (ByteArray.ext (Array.toList_inj.1 h))
    cases hl : Op.bytesLess ka.toList kb.toList with
    | true =>
      go_enter Tryz.func115, Tryz.ntmps115
      go_wp2
      go_ret
      refine ⟨ret_bool ?_, ((Below.refl _ _).alloc (Nat.le_refl _) _).alloc (by simp) _⟩
      unfold lessB
      rw [ByteArray.toList_eq, ByteArray.toList_eq] at hl
      simp [hl]
    | false =>
      go_enter Tryz.func115, Tryz.ntmps115
      go_wp2
      go_ret
      refine ⟨ret_bool ?_, ((Below.refl _ _).alloc (Nat.le_refl _) _).alloc (by simp) _⟩
      unfold lessB
      rw [ByteArray.toList_eq, ByteArray.toList_eq] at hl
      simp [hl, he]
end Go.Proofs.YtlmgojlffgkciaaGreat
