/-
  The laws' own helpers over numbers: copied, compared, marked; by walks of their Go text.
-/
import Derived.Test.YthhiahjafhkbbaaGreatBn07
import Derived.Test.YthhiahjafhkbbaaGreatBn05
import Derived.Deep.QuietTactic
import Derived.BigQuiet
namespace Go.Proofs.YthhiahjafhkbbaaGreat
open Go.RowKit

open Go.Joins Go.ChangeShapes Go.WideShapes in
set_option maxRecDepth 100000 in
theorem open_intlist {H : Type} {enc : TypeId × Value → H} {W : World} {b0 base : Nat} {v : Value} {d : DataW H} {p : List MemPlace} {held : Bool}
    (hv : Value.okWide Tryz.prog W .any b0 24 v) (h : DataW.Trod enc Tryz.prog W base (fun _ => true) held 24 v d p) :
    ∃ (a : Option Addr) (len cap : Nat) (S : List Int), v = .slice a len cap ∧ IntsIn 0 W a len cap S := by
  obtain ⟨a1, len1, cap1, rfl⟩ := okWide_slice Tryz.underlying24 hv
  obtain ⟨fuel, hf⟩ := h
  exact open_ints hf
set_option maxRecDepth 100000 in
theorem open_bool' {H : Type} {enc : TypeId × Value → H} {W : World} {b0 base : Nat} {v : Value} {d : DataW H} {p : List MemPlace} {held : Bool}
    (hv : Value.okWide Tryz.prog W .any b0 4 v) (h : DataW.Trod enc Tryz.prog W base (fun _ => true) held 4 v d p) : ∃ b : Bool, v = .bool b ∧ True := by
  obtain ⟨b, rfl⟩ := Go.WideShapes.okWide_bool Tryz.underlying4 hv
  exact ⟨b, rfl, trivial⟩

/-- Numbers in a row of a call's own. -/
structure OwnN (w : World) (base g n c : Nat) (S : List Int) : Prop where
  owns : w.ownsRow base 3 1 (.slice (some ⟨g, 0, none⟩) n c) n (S.map (Value.int .i64))
  len : S.length = n
  wfs : ∀ q ∈ S, (Lit.int .i64 q).wf = true
theorem OwnN.lt {w : World} {base g n c : Nat} {S : List Int} (h : OwnN w base g n c S) : base ≤ g ∧ g < w.heap.size := h.owns.lt g rfl
theorem OwnN.grown {w w' : World} {base g n c : Nat} {S : List Int} {row : Option Nat} (h : OwnN w base g n c S) (hg : w.grownBy w' row) (hne : some g ≠ row) : OwnN w' base g n c S :=
  ⟨h.owns.kept hg (.inr (by simpa [Value.ownBlock] using hne)), h.len, h.wfs⟩
theorem OwnN.below {w w' : World} {base g n c : Nat} {S : List Int} (h : OwnN w base g n c S) (hb : Below w.heap.size w w') : OwnN w' base g n c S := h.grown (row := none) ⟨hb.os, hb.tape, hb.output, hb.size, fun k hk _ => hb.block k hk⟩ (by simp)
theorem OwnN.ints {w : World} {base g n c : Nat} {S : List Int} (h : OwnN w base g n c S) : IntsIn base w (some ⟨g, 0, none⟩) n c S := by
  rcases h.owns.2 with ⟨hv, h0⟩ | ⟨g', cap, cur, hv, hb, hgb, r1, r2, r3, r4⟩
  · cases hv
  · have hl := h.lt
    simp only [Value.slice.injEq, Option.some.injEq, Addr.mk.injEq, and_true, true_and] at hv
    obtain ⟨rfl, rfl⟩ := hv
    refine ⟨h.len, r1, r2, h.wfs, (fun e => by cases e), fun x e hp => ?_, fun x e i hi => ?_⟩
    · cases e
      exact ⟨hl.2, rfl, hl.1⟩
    · cases e
      have := h.owns.cellAt i (by have := h.len; omega)
      rw [List.getElem?_map, List.getElem?_eq_getElem hi] at this
      simpa using this
theorem ownN_of {w : World} {base g n c : Nat} {xs : List Value} {S : List Int} (h : w.ownsRow base 3 1 (.slice (some ⟨g, 0, none⟩) n c) n xs) (hn : S.length = n) (hw : ∀ q ∈ S, (Lit.int .i64 q).wf = true)
    (hh : ∀ (j : Nat) (q : Int), S[j]? = some q → xs[j]? = some (Value.int .i64 q)) : OwnN w base g n c S := by
  have e : xs = S.map (Value.int .i64) := by
    apply List.ext_getElem?
    intro j
    rw [List.getElem?_map]
    by_cases hj : j < S.length
    · rw [hh j _ (List.getElem?_eq_getElem hj), List.getElem?_eq_getElem hj]; rfl
    · rw [List.getElem?_eq_none (by have := h.1; omega), List.getElem?_eq_none (by omega)]; rfl
  exact ⟨by rw [← e]; exact h, hn, hw⟩
set_option maxHeartbeats 1600000 in
theorem toIntS_own (lo : Nat) (a : Option Addr) (len cap : Nat) (S : List Int) (w : World) (hP : IntsIn lo w a len cap S) (hbig : len ≤ 1048576) :
    Calls Tryz.prog 57 #[.slice a len cap] w fun e w' => e = .returned (.slice (some ⟨w.heap.size, 0, none⟩) len len) ∧ OwnN w' w.heap.size w.heap.size len len S ∧ w.heap.size < w'.heap.size ∧ Below w.heap.size w w' := by
  have HLEN : Hid (S.length = len) := hP.length
  have HWF : Hid (∀ q ∈ S, (Lit.int .i64 q).wf = true) := hP.wfs
  have HL : Hid (IntsIn lo w a len cap S) := hP
  clear hP
  obtain ⟨i0, hi, hz0, hz1, hz2⟩ := info_parts Tryz.infoInt
  go_enter Tryz.func57, Tryz.ntmps57
  go_wp2_with (at_make; refine wpList_make_full _ rfl _ _ 24 rfl w.heap.size 3 i0 _ 1 Tryz.underlying24 hi hz0 hz1 .i64 .i64 _ _ len rfl rfl (by simp) (by simp) (by rw [hz2]; omega) (by unfold maxLen; omega) (Nat.le_refl _) ?_; intro w1 hown hgrow)
  have hb1 : Below w.heap.size w w1 := (Below.refl _ _).grown hgrow (Nat.le_refl _) (by simp)
  go_loopw [4] (fun i wr => ∃ (k : Nat) (xs : List Value), k ≤ len ∧ i = .int .i64 k ∧ wr.ownsRow w.heap.size 3 1 (.slice (some ⟨w.heap.size, 0, none⟩) len len) len xs ∧ Below w.heap.size w wr ∧ (∀ j q, j < k → S[j]? = some q → xs[j]? = some (Value.int .i64 q))) (fun i _ => len - (intOf i).toNat)
  case atStart => exact ⟨0, _, Nat.zero_le _, rfl, hown, hb1, fun j l h => absurd h (Nat.not_lt_zero _)⟩
  case round =>
    obtain ⟨k, xs, hk, rfl, ho, hb, hrow⟩ := hrel
    have HROW : Hid (∀ j q, j < k → S[j]? = some q → xs[j]? = some (Value.int .i64 q)) := hrow
    clear hrow hown hgrow
    by_cases hlt : k < len
    · obtain ⟨b, off, rfl, hbb⟩ := HL.out.form (by omega)
      obtain ⟨q, hg, _, g0⟩ := HL.out.num hb k hlt
      have HG : Hid (S[k]? = some q) := hg
      have hbk : b < wr.heap.size := Nat.lt_of_lt_of_le hbb hb.size
      have hzr : w.heap.size < wr.heap.size := (ho.lt _ rfl).2
      clear hg
      have hxl := ho.1
      have HX : Hid (xs.length = len * 1) := hxl
      clear hxl
      have c0 : ∃ v, wr.cell? ⟨w.heap.size, k, none⟩ = some v := ⟨_, (ho.cellAt _ (by omega)).trans (List.getElem?_eq_getElem (by rw [HX.out]; omega))⟩
      obtain ⟨v0, c0⟩ := c0
      have f0 : wr.frozen? ⟨w.heap.size, k, none⟩ = false := ho.frozenAt _
      have HO : Hid (wr.ownsRow w.heap.size 3 1 (.slice (some ⟨w.heap.size, 0, none⟩) len len) len xs) := ho
      clear ho
      go_wp2
      go_roundw
      case rel =>
        have t0 := HO.out.stored k (.int .i64 q)
        refine ⟨k + 1, _, by omega, by go_num, t0.1, hb.setCell (p := ⟨w.heap.size, _, none⟩) (Nat.le_refl _) _, ?_⟩
        intro j p hj hp
        by_cases hjk : j = k
        · subst hjk
          rw [HG.out] at hp
          cases hp
          rw [List.getElem?_set_self (by rw [HX.out]; omega)]
        · rw [List.getElem?_set_ne (by omega)]
          exact HROW.out j p (by omega) hp
      case measure => simp [intOf]; omega
    · go_wp2
      go_ret
      exact ⟨rfl, ownN_of ho HLEN.out HWF.out (fun j p hp => HROW.out j p (by have := (List.getElem?_eq_some_iff.1 hp).1; rw [HLEN.out] at this; omega) hp), (ho.lt _ rfl).2, hb⟩
set_option maxHeartbeats 1600000 in
theorem eqIntS_opt (lo1 lo2 : Nat) (a1 a2 : Option Addr) (len cap1 cap2 : Nat) (S : List Int) (w : World) (h1 : IntsIn lo1 w a1 len cap1 S) (h2 : IntsIn lo2 w a2 len cap2 S) :
    Calls Tryz.prog 61 #[.slice a1 len cap1, .slice a2 len cap2] w fun e w' => e = .returned (.bool true) ∧ Below w.heap.size w w' := by
  have hbl := h1.room
  have hbc := h1.big
  unfold maxLen at hbc
  have H1 : Hid (IntsIn lo1 w a1 len cap1 S) := h1
  have H2 : Hid (IntsIn lo2 w a2 len cap2 S) := h2
  clear h1 h2
  go_enter Tryz.func61, Tryz.ntmps61
  go_wp2
  go_loopw [5] (fun i wr => ∃ k : Nat, k ≤ len ∧ i = .int .i64 k ∧ Below w.heap.size w wr) (fun i _ => len - (intOf i).toNat)
  case atStart => exact ⟨0, Nat.zero_le _, rfl, Below.refl _ _⟩
  case round =>
    obtain ⟨k, hk, rfl, hb⟩ := hrel
    by_cases hlt : k < len
    · obtain ⟨b1, o1, rfl, hb1⟩ := H1.out.form (by omega)
      obtain ⟨b2, o2, rfl, hb2⟩ := H2.out.form (by omega)
      obtain ⟨q, hg, _, g0⟩ := H1.out.num hb k hlt
      obtain ⟨q', hg', _, q0⟩ := H2.out.num hb k hlt
      rw [hg] at hg'
      cases hg'
      have hb1' : b1 < wr.heap.size := Nat.lt_of_lt_of_le hb1 hb.size
      have hb2' : b2 < wr.heap.size := Nat.lt_of_lt_of_le hb2 hb.size
      clear hg
      have hltI : (k : Int) < (len : Int) := by omega
      go_wp2_with fail
      go_quiet (fail)
      go_wp2
      go_roundw
      case rel => exact ⟨k + 1, by omega, by go_num, below_drewN hb _⟩
      case measure => simp [intOf]; omega
    · go_wp2
      go_ret
      exact ⟨rfl, hb⟩


set_option maxRecDepth 100000 in
set_option maxHeartbeats 1600000 in
theorem markI_any (base g n c k : Nat) (S : List Int) (w : World) (hO : OwnN w base g n c S) (hn : k + n ≤ 1000000000) :
    Calls Tryz.prog 63 #[.slice (some ⟨g, 0, none⟩) n c, .int .i64 k] w fun e w' => e = .returned (.int .i64 ((k + n : Nat) : Int)) ∧ w.grownBy w' (some g) := by
  have HO0 : Hid (w.ownsRow base 3 1 (.slice (some ⟨g, 0, none⟩) n c) n (S.map (Value.int .i64))) := hO.owns
  clear hO
  go_enter Tryz.func63, Tryz.ntmps63
  go_wp2
  go_loopw [1, 5] (fun kv iv wr => ∃ (j : Nat) (xs : List Value), j ≤ n ∧ iv = .int .i64 j ∧ kv = .int .i64 ((k + j : Nat) : Int) ∧ wr.ownsRow base 3 1 (.slice (some ⟨g, 0, none⟩) n c) n xs ∧ w.grownBy wr (some g)) (fun _ iv _ => n - (intOf iv).toNat)
  case atStart => exact ⟨0, _, Nat.zero_le _, rfl, rfl, HO0.out, ⟨rfl, rfl, rfl, Nat.le_refl _, fun _ _ _ => rfl⟩⟩
  case round =>
    obtain ⟨j, xs, hj, rfl, rfl, ho, hg⟩ := hrel
    have hbr := (ho.lt g rfl).2
    have HG : Hid (w.grownBy wr (some g)) := hg
    clear hg
    obtain ⟨K, hK⟩ : ∃ K, K = k + j := ⟨_, rfl⟩
    rw [← hK]
    have HK : Hid (K = k + j) := hK
    have hK2 : K + 1 ≤ 1000000001 := by omega
    clear hK
    by_cases hlt : j < n
    · have hltI : (j : Int) < (n : Int) := by omega
      have c0 : ∃ v, wr.cell? ⟨g, j, none⟩ = some v := ⟨_, (ho.cellAt _ (by omega)).trans (List.getElem?_eq_getElem (by rw [ho.1]; omega))⟩
      obtain ⟨v0, c0⟩ := c0
      have f0 : wr.frozen? ⟨g, j, none⟩ = false := ho.frozenAt _
      have HO : Hid (wr.ownsRow base 3 1 (.slice (some ⟨g, 0, none⟩) n c) n xs) := ho
      clear ho
      go_wp2
      go_roundw
      case rel =>
        have t0 := HO.out.stored j (.int .i64 K)
        exact ⟨j + 1, _, by omega, by go_num, by have := HK.out; go_num, t0.1, HG.out.trans t0.2⟩
      case measure => simp [intOf]; omega
    · have hltI : ¬ (j : Int) < (n : Int) := by omega
      have HKN : Hid (K = k + n) := by have := HK.out; show K = k + n; omega
      go_wp2
      go_ret
      exact ⟨by rw [HKN.out]; first | rfl | simp, HG.out⟩
end Go.Proofs.YthhiahjafhkbbaaGreat
