/-
  How a list of numbers lies in memory, what that keeps, and how one that came in is opened.
  The document's l4Apart: whether a time that is kept lies between two entries; by a walk of its Go text.
-/
import Derived.Test.YthhiahjafhkbbaaGreatBn02
import Derived.Deep.SlicePairs
import Derived.OpenShut
namespace Go.Proofs.YthhiahjafhkbbaaGreat
open Go.RowKit Go.Joins Go.ChangeShapes Go.WideShapes

theorem Tryz.infoInt : (Tryz.prog.info? 3).map (fun i => (i.zero, i.size, i.bytes)) = some (some (.int .i64 0), 1, 8) := by kernel_rfl
/-- All cells of blocks from lo on are as they were. -/
def Same (lo : Nat) (w w' : World) : Prop := w.heap.size ≤ w'.heap.size ∧ ∀ b o, lo ≤ b → b < w.heap.size → w'.cell? ⟨b, o, none⟩ = w.cell? ⟨b, o, none⟩
theorem Same.of_below {lo : Nat} {w w' : World} (hb : Below w.heap.size w w') : Same lo w w' := ⟨hb.size, fun b o _ h => hb.cell (p := ⟨b, o, none⟩) h⟩
theorem Same.of_set {lo : Nat} {w : World} (p : Addr) (u : Value) (h : p.block < lo) : Same lo w (w.setCell p u) :=
  ⟨by simp [World.setCell], fun b o hb _ => World.cell?_of_block (by rw [Below.heap_setCell _ _ _ _ (by simp only; omega)])⟩
theorem Same.trans {lo : Nat} {w w' w'' : World} (h : Same lo w w') (h' : Same lo w' w'') : Same lo w w'' :=
  ⟨Nat.le_trans h.1 h'.1, fun b o hb hl => (h'.2 b o hb (Nat.lt_of_lt_of_le hl h.1)).trans (h.2 b o hb hl)⟩

/-- The slice at a holds the numbers S. -/
structure IntsIn (lo : Nat) (w : World) (a : Option Addr) (len cap : Nat) (S : List Int) : Prop where
  length : S.length = len
  room : len ≤ cap
  big : cap ≤ maxLen
  wfs : ∀ q ∈ S, (Lit.int .i64 q).wf = true
  nil : a = none → len = 0
  lies : ∀ x, a = some x → 0 < len → x.block < w.heap.size ∧ x.spot = none ∧ lo ≤ x.block
  cells : ∀ x, a = some x → ∀ i (h : i < S.length), w.cell? ⟨x.block, x.off + i, none⟩ = some (.int .i64 S[i])
theorem IntsIn.same {lo : Nat} {w w' : World} {a : Option Addr} {len cap : Nat} {S : List Int} (h : IntsIn lo w a len cap S) (hs : Same lo w w') : IntsIn lo w' a len cap S where
  length := h.length
  room := h.room
  big := h.big
  wfs := h.wfs
  nil := h.nil
  lies := fun x e hp => ⟨Nat.lt_of_lt_of_le (h.lies x e hp).1 hs.1, (h.lies x e hp).2⟩
  cells := fun x e i hi => by
    obtain ⟨hx, _, hlo⟩ := h.lies x e (by have := h.length; omega)
    exact (hs.2 _ _ hlo hx).trans (h.cells x e i hi)
theorem IntsIn.keep {lo : Nat} {w w' : World} {a : Option Addr} {len cap : Nat} {S : List Int} (h : IntsIn lo w a len cap S) (hb : Below w.heap.size w w') : IntsIn lo w' a len cap S := h.same (Same.of_below hb)
theorem IntsIn.lower {lo lo' : Nat} {w : World} {a : Option Addr} {len cap : Nat} {S : List Int} (h : IntsIn lo w a len cap S) (hl : lo' ≤ lo) : IntsIn lo' w a len cap S :=
  ⟨h.length, h.room, h.big, h.wfs, h.nil, fun x e hp => ⟨(h.lies x e hp).1, (h.lies x e hp).2.1, Nat.le_trans hl (h.lies x e hp).2.2⟩, h.cells⟩
theorem IntsIn.form {lo : Nat} {w : World} {a : Option Addr} {len cap : Nat} {S : List Int} (h : IntsIn lo w a len cap S) (hl : 1 ≤ len) : ∃ b off, a = some ⟨b, off, none⟩ ∧ b < w.heap.size := by
  cases a with
  | none => have := h.nil rfl; omega
  | some x =>
    obtain ⟨b, off, spot⟩ := x
    obtain ⟨h1, h2, _⟩ := h.lies _ rfl (by omega)
    simp only at h1 h2
    subst h2
    exact ⟨b, off, rfl, h1⟩
theorem IntsIn.num {lo : Nat} {w wr : World} {b off len cap : Nat} {S : List Int} (h : IntsIn lo w (some ⟨b, off, none⟩) len cap S) (hb : Below w.heap.size w wr) (k : Nat) (hk : k < len) :
    ∃ q, S[k]? = some q ∧ (Lit.int .i64 q).wf = true ∧ wr.cell? ⟨b, off + k, none⟩ = some (.int .i64 q) := by
  have hk' : k < S.length := by rw [h.length]; exact hk
  exact ⟨S[k], List.getElem?_eq_getElem hk', h.wfs _ (List.getElem_mem hk'), (h.keep hb).cells _ rfl k hk'⟩

theorem plain_at {a : Addr} (h : a.spot = none) (j : Nat) : a.add j = ⟨a.block, a.off + j, none⟩ := by
  obtain ⟨b, o, sp⟩ := a
  simp only at h
  subst h
  exact add_plain _ _ _

set_option maxRecDepth 100000 in
/-- Numbers that came in. -/
theorem open_ints {H : Type} {enc : TypeId × Value → H} {W : World} {base n0 : Nat} {v : Value} {x : DataW H × List MemPlace} {held : Bool}
    (hf : DataW.trod enc Tryz.prog W base (fun _ => true) held n0 24 [v] = some x) :
    ∃ (a : Option Addr) (len cap : Nat) (S : List Int), v = .slice a len cap ∧ IntsIn 0 W a len cap S := by
  have r5 : Tryz.prog.cellsOf 3 = 1 := by kernel_rfl
  rcases Deep.open_slice Tryz.underlying24 hf with ⟨hcs, _⟩ | ⟨a, len, cap, mm, n, D, Pl, hcs, hb, hl, hm, hmm, _, hx⟩
  · simp at hcs
    subst hcs
    exact ⟨none, 0, 0, [], rfl, ⟨rfl, Nat.le_refl _, Nat.zero_le _, by simp, fun _ => rfl, (fun x e => by cases e), (fun x e => by cases e)⟩⟩
  · simp at hcs
    subst hcs
    simp at hmm
    rw [r5] at hx
    have each : ∀ i, i < mm → ∃ q : Int, (Lit.int .i64 q).wf = true ∧ W.cell? (a.add i) = some (.int .i64 q) := by
      intro i hi
      obtain ⟨cs', g1, g2⟩ := hx i hi
      obtain ⟨_, hlen, hcell⟩ := World.cells?_some g1
      match cs', hlen with
      | [u0], _ =>
        have k0 := hcell 0 (by omega)
        rw [Deep.add_add] at k0
        obtain ⟨q, e0, _, wq⟩ := DataW.trod_int Tryz.underlying3 g2
        simp at e0
        subst e0
        exact ⟨q, wq, by simpa using k0⟩
    obtain ⟨f, hf'⟩ := Deep.choose_lt each
    have spot : 0 < len → a.spot = none := fun hp => by
      obtain ⟨_, c0⟩ := hf' 0 (by omega)
      simpa [Addr.add] using World.cell?_spot c0
    refine ⟨some a, len, cap, (List.range len).map f, rfl, ⟨by simp, hl, hm, ?_, (fun e => by cases e), ?_, ?_⟩⟩
    · intro q hq
      obtain ⟨i, hi, rfl⟩ := List.mem_map.1 hq
      exact (hf' i (by have := List.mem_range.1 hi; omega)).1
    · rintro x e hp
      cases e
      refine ⟨?_, spot hp, Nat.zero_le _⟩
      obtain ⟨_, c0⟩ := hf' 0 (by omega)
      have := World.block_lt_of_cell? _ _ c0
      simpa [Addr.add] using this
    · rintro x e i hi
      cases e
      simp at hi
      obtain ⟨_, g0⟩ := hf' i (by omega)
      rw [plain_at (spot (by omega))] at g0
      simp only [List.getElem_map, List.getElem_range]
      exact g0
end Go.Proofs.YthhiahjafhkbbaaGreat

namespace Go.Proofs.YthhiahjafhkbbaaGreat
open Go.RowKit

/-- A time that is kept lies between two. -/
def apartB (S : List Int) (o n : Int) : Bool := S.any (fun s => decide (o ≤ s) && decide (s < n))
theorem apart_take {S : List Int} {o n : Int} {k : Nat} {s : Int} (h : S[k]? = some s) : apartB (S.take (k + 1)) o n = (apartB (S.take k) o n || (decide (o ≤ s) && decide (s < n))) := by
  simp [apartB, List.take_add_one, h, List.any_append]
theorem apart_more {S : List Int} {o n : Int} {k : Nat} (h : apartB (S.take k) o n = true) : apartB S o n = true := by
  unfold apartB at *
  rw [List.any_eq_true] at *
  obtain ⟨x, hx, hp⟩ := h
  exact ⟨x, List.mem_of_mem_take hx, hp⟩

set_option maxRecDepth 100000 in
set_option maxHeartbeats 1000000 in
theorem specApart (lo : Nat) (a : Option Addr) (n c : Nat) (S : List Int) (o p : Int) (w : World) (h : IntsIn lo w a n c S) :
    Calls Tryz.prog 88 #[.slice a n c, .int .i64 o, .int .i64 p] w fun e w' => e = .returned (.bool (apartB S o p)) ∧ Below w.heap.size w w' := by
  have hr := h.room
  have hbg := h.big
  unfold maxLen at hbg
  have H : Hid (IntsIn lo w a n c S) := h
  clear h
  go_enter Tryz.func88, Tryz.ntmps88
  go_wp2
  go_loopw [7] (fun i wr => ∃ k : Nat, k ≤ n ∧ i = .int .i64 k ∧ apartB (S.take k) o p = false ∧ Below w.heap.size w wr) (fun i _ => n - (intOf i).toNat)
  case atStart => exact ⟨0, Nat.zero_le _, rfl, rfl, Below.refl _ _⟩
  case round =>
    obtain ⟨k, hk, rfl, hno, hb⟩ := hrel
    have HNO : Hid (apartB (S.take k) o p = false) := hno
    clear hno
    by_cases hlt : k < n
    · have hltI : (k : Int) < (n : Int) := by omega
      obtain ⟨b, off, rfl, hbb⟩ := H.out.form (by omega)
      obtain ⟨s, hs, hw, hc⟩ := H.out.num hb k hlt
      have HS : Hid (S[k]? = some s) := hs
      have hbr : b < wr.heap.size := Nat.lt_of_lt_of_le hbb hb.size
      clear hs hw
      by_cases h1 : o ≤ s
      · by_cases h2 : s < p
        · go_wp2
          go_ret
          have hyes : apartB S o p = true := apart_more (k := k + 1) (by rw [apart_take HS.out]; simp [h1, h2])
          exact ⟨by rw [hyes]; rfl, hb⟩
        · go_wp2
          go_roundw
          case rel => exact ⟨k + 1, by omega, by go_num, by rw [apart_take HS.out, HNO.out]; simp [h2], hb⟩
          case measure => simp [intOf]; omega
      · go_wp2
        go_roundw
        case rel => exact ⟨k + 1, by omega, by go_num, by rw [apart_take HS.out, HNO.out]; simp [h1], hb⟩
        case measure => simp [intOf]; omega
    · have hltI : ¬ (k : Int) < (n : Int) := by omega
      have hall : S.take k = S := List.take_of_length_le (by have := H.out.length; omega)
      have HALL : Hid (apartB S o p = false) := by have := HNO.out; rw [hall] at this; exact this
      clear hall
      go_wp2
      go_ret
      exact ⟨by rw [HALL.out]; rfl, hb⟩
end Go.Proofs.YthhiahjafhkbbaaGreat
