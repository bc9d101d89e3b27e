/-
  The program's iterator over the legs of a currency (legsOf): what it yields, for every loop body that keeps what lay ahead of it, by walks of its Go text.
-/
import Derived.Test.YtfblpbihpmhgjaaDoorBp26
import Derived.Test.YtfblpbihpmhgjaaDoorBp12
import Derived.RangeFuncNested
import Derived.RangeFuncBound
import Derived.RangeFuncCalls
import Derived.RangeFuncLeaves
import Derived.RangeFuncBox
import Derived.Shelf.Abstract
import Derived.Shelf.RegionOpen
import Derived.WalkKit
import Derived.OwnWalkIn
import Derived.TacticsInMore
import Derived.LoopNIn
import Derived.LoopIn
namespace Go.Proofs.YtfblpbihpmhgjaaDoor
open Go.RowKit Go.Shelf

attribute [local go_sem] Oper.semAt_some

/-- A leg as a value. -/
abbrev legV (l : LegD) : Value := .agg #[.string l.1, .int .i64 l.2.1, .int .i64 l.2.2]

theorem grown_of_below {A B : World} (h : Below A.heap.size A B) : A.grownBy B none := ⟨h.os, h.tape, h.output, h.size, fun k hk _ => h.block k hk⟩

/-- Below block number n₀ the world w' is as w was, but for block M. -/
structure ButM (M n₀ : Nat) (w w' : World) : Prop where
  os : w'.os = w.os
  tape : w'.tape = w.tape
  output : w'.output = w.output
  size : w.heap.size ≤ w'.heap.size
  block : ∀ k, k < n₀ → k ≠ M → w'.heap[k]? = w.heap[k]?

theorem ButM.of {M n₀ : Nat} {w w' : World} (h : Below n₀ w w') : ButM M n₀ w w' := ⟨h.os, h.tape, h.output, h.size, fun k hk _ => h.block k hk⟩
theorem ButM.trans {M n₀ : Nat} {a b c : World} (h : ButM M n₀ a b) (k : ButM M n₀ b c) : ButM M n₀ a c :=
  ⟨k.os.trans h.os, k.tape.trans h.tape, k.output.trans h.output, Nat.le_trans h.size k.size, fun i hi hM => (k.block i hi hM).trans (h.block i hi hM)⟩
theorem ButM.cell {M n₀ : Nat} {w w' : World} (h : ButM M n₀ w w') {p : Addr} (hp : p.block < n₀) (hM : p.block ≠ M) : w'.cell? p = w.cell? p := World.cell?_of_block (w := w) (h.block p.block hp hM)
theorem ButM.grown {M n₀ : Nat} {w w' : World} (hg : w.grownBy w' (some M)) (hn : n₀ ≤ w.heap.size) : ButM M n₀ w w' := ⟨hg.os, hg.tape, hg.output, hg.size, fun k hk hM => hg.block k (by omega) (fun e => hM (by cases e; rfl))⟩
theorem butM_b {M n₀ : Nat} {w : World} (hn : n₀ ≤ w.heap.size) (W : World) (l : Nat) (o o' : Obj) (hl : w.heap.size ≤ l) (h : W.heap[l]? = some o) (hc : o.isCells = false) (hw : o.isWalk = false) : ButM M n₀ W (W.putObj l o') :=
  ButM.of (belowK_b hn W l o o' hl h hc hw)

set_option maxRecDepth 100000 in
set_option maxHeartbeats 1000000 in
theorem legs1_in (n l Bp Bc M n₀ : Nat) (hn : 1 ≤ n) (id cur : Int) (a : Option Addr) (len cap : Nat) (L : List LegD) (J Jx : List LegY → World → Prop)
    (W : World) (hJ : AbidesFrom W.heap.size J)
    (hY : ∀ pre x W1, J pre W1 → pre.length < (yieldsOf id L cur).length → YieldAt Fence.wide (n - 1) Tryd.prog l #[legV x.1] W1 fun e W' =>
      (e = .returned (.bool true) ∧ J (pre ++ [x]) W' ∧ ButM M n₀ W1 W') ∨ (e = .returned (.bool false) ∧ Jx (pre ++ [x]) W'))
    (hn₀ : n₀ ≤ W.heap.size) (hBc : Bc < n₀) (hBM : Bc ≠ M) (hp0 : W.cell? ⟨Bp, 0, none⟩ = some (.int .i64 id)) (hp1 : W.cell? ⟨Bp, 1, none⟩ = some (.slice a len cap)) (hc0 : W.cell? ⟨Bc, 0, none⟩ = some (.int .i64 cur))
    (hL : LegsAt W a len cap L) (hlow : ∀ x, a = some x → 0 < len → x.block < n₀ ∧ x.block ≠ M) (h0 : J [] W) :
    CallsIn Fence.wide n Tryd.prog 187 #[.func (.yield l) #[] #[], .pointer (some ⟨Bp, 0, none⟩), .pointer (some ⟨Bc, 0, none⟩)] W fun e W' => (∃ v, e = .returned v) ∧
      ((∃ ys, ys = yieldsOf id L cur ∧ J ys W') ∨ (∃ pre, pre <+: yieldsOf id L cur ∧ Jx pre W')) := by
  have HL : Hid (LegsAt W a len cap L) := hL
  have hr := hL.room
  have hbg := hL.big
  unfold maxLen at hbg
  have HLEN : Hid (L.length = len) := hL.length
  clear hL
  cases hpb : postB id L with
  | false =>
    have hsel : yieldsOf id L cur = [] := by simp [yieldsOf, hpb]
    rw [hsel]
    clear hY hsel
    refine callsIn_of_wp Tryd.func187 rfl trivial ?_ rfl
    simp only [Tryd.ntmps187, List.size_toArray, List.length_cons, List.length_nil, Nat.reduceAdd, Nat.reduceSub, Array.replicate_succ, Array.replicate_zero, List.push_toArray, List.append_toArray, List.nil_append, List.cons_append]
    gi_wp2_with (refine ⟨trivial, ?_⟩; gi_at_call 31; refine (callsIn_wide.2 (implPostOk _ _ _ _ L _ HL.out)).mono ?_; rintro e W1 ⟨rfl, hb1⟩)
    refine bodyPost_ret (results_none rfl _ _ _) rfl ?_
    exact ⟨⟨_, rfl⟩, .inl ⟨[], rfl, hJ [] W W1 none h0 (grown_of_below hb1) (by simp)⟩⟩
  | true =>
    have hsel : yieldsOf id L cur = selY cur L := by simp [yieldsOf, hpb]
    rw [hsel] at hY ⊢
    have hall := postB_legs hpb
    have HALL : Hid (∀ l ∈ L, legB l = true) := hall
    have h1l : 1 ≤ len := by
      rw [← HLEN.out]
      simp [postB] at hpb
      exact hpb.2.2.1
    obtain ⟨b, off, rfl, hbW⟩ := HL.out.form h1l
    obtain ⟨hblow, hbM⟩ : b < n₀ ∧ b ≠ M := hlow _ rfl (by omega)
    clear hsel hall hlow
    refine callsIn_of_wp Tryd.func187 rfl trivial ?_ rfl
    simp only [Tryd.ntmps187, List.size_toArray, List.length_cons, List.length_nil, Nat.reduceAdd, Nat.reduceSub, Array.replicate_succ, Array.replicate_zero, List.push_toArray, List.append_toArray, List.nil_append, List.cons_append]
    gi_wp2_with (refine ⟨trivial, ?_⟩; gi_at_call 31; refine (callsIn_wide.2 (implPostOk _ _ _ _ L _ HL.out)).mono ?_; rintro e W1 ⟨rfl, hb1⟩; have hp1' := cell_later hb1 hp1)
    have hJ1 : J [] W1 := hJ [] W W1 none h0 (grown_of_below hb1) (by simp)
    gi_loopw [12] (fun i wr => ∃ k : Nat, k ≤ len ∧ i = .int .i64 k ∧ J (selY cur (L.take k)) wr ∧ ButM M n₀ W wr) (fun i _ => len - (intOf i).toNat)
    case atStart => exact ⟨0, Nat.zero_le _, rfl, hJ1, ButM.of (hb1.mono hn₀)⟩
    case round =>
      obtain ⟨k, hk, rfl, hJs, hb⟩ := hrel
      clear hJ1 hb1 hp1'
      have hcc := (hb.cell (p := ⟨Bc, 0, none⟩) hBc hBM).trans hc0
      have hszw := hb.size
      have hBcw : Bc < wr.heap.size := by omega
      by_cases hlt : k < len
      · obtain ⟨s, c, m, hg, hlw, g0, g1, g2⟩ := (LegsAt.moved HL.out hb.size (fun x e _ o => by cases e; exact hb.cell (p := ⟨b, o, none⟩) hblow hbM)).leg (Below.refl wr.heap.size wr) (Nat.lt_of_lt_of_le hbW hb.size) k hlt
        have hlb : legB (s, c, m) = true := HALL.out _ (List.mem_of_getElem? hg)
        have HG : Hid (L[k]? = some (s, c, m)) := hg
        have HLB : Hid (legB (s, c, m) = true) := hlb
        clear hg hlw hlb
        have hltI : (k : Int) < (len : Int) := by omega
        have hJa : J (selY cur (L.take k)) (wr.alloc (.cells #[.string s, .int .i64 c, .int .i64 m] 69)) := hJ _ _ _ none hJs (World.grownBy_alloc _ _ none) (by simp)
        by_cases hcur : c = cur
        · subst hcur
          obtain ⟨fn, tmps, assign, body, hy, hR⟩ := hY _ ⟨(s, c, m), HLB.out⟩ _ hJa (selY_lt HG.out HLB.out rfl)
          simp only [legV] at hy
          gi_wp2
          refine hR.mono ?_
          rintro e W3 (⟨rfl, hJ3, hk3⟩ | ⟨rfl, hJx3⟩)
          · gi_wp2
            go_roundw
            case rel => exact ⟨k + 1, by omega, by go_num, by rw [selY_take_yes HG.out HLB.out rfl]; exact hJ3, (hb.trans (ButM.of ((Below.refl _ _).alloc (by omega) _))).trans hk3⟩
            case measure => simp [intOf]; omega
          · gi_wp2
            refine bodyPost_ret (results_none rfl _ _ _) rfl ?_
            exact ⟨⟨_, rfl⟩, .inr ⟨_, by rw [← selY_take_yes HG.out HLB.out rfl]; exact selY_prefix _ _ _, hJx3⟩⟩
        · have hceq : (c == cur) = false := by simpa using hcur
          gi_wp2
          refine ⟨fun _ h => (by cases h), ?_⟩
          gi_wp2
          go_roundw
          case rel => exact ⟨k + 1, by omega, by go_num, by rw [selY_take_no HG.out hcur]; exact hJa, hb.trans (ButM.of ((Below.refl _ _).alloc (by omega) _))⟩
          case measure => simp [intOf]; omega
      · gi_wp2
        go_end0
        exact ⟨⟨_, rfl⟩, .inl ⟨_, by rw [List.take_of_length_le (by rw [HLEN.out]; omega)], hJs⟩⟩

set_option maxHeartbeats 1000000 in
/-- **legsOf**: the posting and the currency are boxed; the function value captures the boxes. -/
theorem legsOf_in (n : Nat) (id cur : Int) (a : Option Addr) (len cap : Nat) (w : World) :
    CallsIn Fence.wide n Tryd.prog 180 #[.agg #[.int .i64 id, .slice a len cap], .int .i64 cur] w fun e w' => e = .returned (.func (.func 187) #[] #[.pointer (some ⟨w.heap.size, 0, none⟩), .pointer (some ⟨w.heap.size + 1, 0, none⟩)]) ∧
      w' = (w.alloc (.cells #[.int .i64 id, .slice a len cap] 29)).alloc (.cells #[.int .i64 cur] 3) := by
  refine callsIn_of_wp Tryd.func180 rfl trivial ?_ rfl
  simp only [Tryd.ntmps180, List.size_toArray, List.length_cons, List.length_nil, Nat.reduceAdd, Nat.reduceSub, Array.replicate_succ, Array.replicate_zero, List.push_toArray, List.append_toArray, List.nil_append, List.cons_append]
  gi_wp2
  go_ret
  exact ⟨rfl, rfl⟩

/-- What legsOf hands back stops as a range wants it: all legs of the currency in their order, or a beginning of them. -/
theorem legs_stops (n : Nat) (hn : 1 ≤ n) (Bp Bc M n₀ : Nat) (id cur : Int) (a : Option Addr) (len cap : Nat) (L : List LegD) (w : World) (hn₀ : n₀ ≤ w.heap.size) (hBc : Bc < n₀) (hBM : Bc ≠ M)
    (hp0 : w.cell? ⟨Bp, 0, none⟩ = some (.int .i64 id)) (hp1 : w.cell? ⟨Bp, 1, none⟩ = some (.slice a len cap)) (hc0 : w.cell? ⟨Bc, 0, none⟩ = some (.int .i64 cur)) (hL : LegsAt w a len cap L) (hlow : ∀ x, a = some x → 0 < len → x.block < n₀ ∧ x.block ≠ M) :
    SeqStopsK Fence.wide n Tryd.prog 187 #[.pointer (some ⟨Bp, 0, none⟩), .pointer (some ⟨Bc, 0, none⟩)] (fun x : LegY => #[legV x.1]) (ButM M n₀) (fun ys => ys = yieldsOf id L cur) (fun pre => pre <+: yieldsOf id L cur) (yieldsOf id L cur).length w :=
  fun l J Jx W hW hJ _ hY h0 => legs1_in n l Bp Bc M n₀ hn id cur a len cap L J Jx W hJ hY (Nat.le_trans hn₀ hW.size) hBc hBM (cell_later hW hp0) (cell_later hW hp1) (cell_later hW hc0) (hL.keep hW) hlow h0

end Go.Proofs.YtfblpbihpmhgjaaDoor
