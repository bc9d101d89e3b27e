/-
  What the document's l9Cut makes of every text, by a walk of its Go text.
-/
import Derived.Test.YtcabinakcmpkeaaDoorNumS
import Derived.Laws.AppendOwn
namespace Go.Proofs.YtcabinakcmpkeaaDoor
open Go.RowKit

def strs (A : List (List UInt8)) : List Value := A.map fun l => Value.string ⟨l.toArray⟩
theorem strs_len (A : List (List UInt8)) : (strs A).length = A.length := by simp [strs]
theorem strs_snoc (A : List (List UInt8)) (l : List UInt8) : strs (A ++ [l]) = strs A ++ [.string ⟨l.toArray⟩] := by simp [strs]
theorem Tryd.infoStrC : (Tryd.prog.info? 9).map (fun i => (i.zero, i.size, i.bytes)) = some (some (.string ByteArray.empty), 1, 16) := by kernel_rfl

/-- Ahead of sign i: what is cut off, and from where the next piece goes. -/
structure CutI (c : UInt8) (l : List UInt8) (i fr : Nat) (A : List (List UInt8)) : Prop where
  le : fr ≤ i
  ok : cutL c l = A ++ cutL c (l.drop fr)
  no : c ∉ (l.drop fr).take (i - fr)
theorem CutI.hit {c : UInt8} {l : List UInt8} {i fr : Nat} {A : List (List UInt8)} (h : CutI c l i fr A) (hi : l[i]? = some c) : CutI c l (i + 1) (i + 1) (A ++ [(l.drop fr).take (i - fr)]) := by
  refine ⟨Nat.le_refl _, ?_, by simp⟩
  have e : l.drop fr = (l.drop fr).take (i - fr) ++ c :: l.drop (i + 1) := by
    have h1 : (l.drop fr).drop (i - fr) = c :: l.drop (i + 1) := by
      rw [List.drop_drop, show fr + (i - fr) = i by have := h.le; omega]
      obtain ⟨h2, h3⟩ := List.getElem?_eq_some_iff.1 hi
      rw [List.drop_eq_getElem_cons h2, h3]
    rw [← h1, List.take_append_drop]
  rw [h.ok, e, cut_hit c _ _ h.no, ← e]
  simp
theorem CutI.miss {c x : UInt8} {l : List UInt8} {i fr : Nat} {A : List (List UInt8)} (h : CutI c l i fr A) (hi : l[i]? = some x) (hx : x ≠ c) : CutI c l (i + 1) fr A := by
  refine ⟨by have := h.le; omega, h.ok, ?_⟩
  have e : (l.drop fr).take (i + 1 - fr) = (l.drop fr).take (i - fr) ++ [x] := by
    rw [show i + 1 - fr = i - fr + 1 by have := h.le; omega, List.take_add_one]
    congr 1
    rw [List.getElem?_drop, show fr + (i - fr) = i by have := h.le; omega, hi]
    rfl
  rw [e]
  simp only [List.mem_append, List.mem_cons, List.not_mem_nil, or_false, not_or]
  exact ⟨h.no, fun e => hx e.symm⟩
theorem CutI.fin {c : UInt8} {l : List UInt8} {fr : Nat} {A : List (List UInt8)} (h : CutI c l l.length fr A) : cutL c l = A ++ [(l.drop fr).take (l.length - fr)] := by
  have e : (l.drop fr).take (l.length - fr) = l.drop fr := List.take_of_length_le (by simp)
  have h1 := h.no
  rw [e] at h1
  rw [h.ok, cut_end c _ h1, e]

theorem str_selfC (s : ByteArray) : (⟨s.data.toList.toArray⟩ : ByteArray) = s := by apply ByteArray.ext; simp
/-- Ahead of sign i, in memory. -/
structure CutM (N : Nat) (w : World) (s : ByteArray) (c : UInt8) (i fr : Nat) (v : Value) (wr : World) (A : List (List UInt8)) : Prop where
  le : i ≤ s.size + 1
  few : A.length ≤ i
  own : wr.ownsRow N 9 1 v A.length (strs A)
  bel : Below N w wr
  inn : i ≤ s.size → CutI c s.data.toList i fr A
  out : i = s.size + 1 → A = cutL c s.data.toList
def CutX (N : Nat) (w : World) (s : ByteArray) (c : UInt8) (o f i : Value) (wr : World) : Prop := ∃ (i' fr : Nat) (A : List (List UInt8)), i = .int .i64 i' ∧ f = .int .i64 fr ∧ fr ≤ s.size + 1 ∧ CutM N w s c i' fr o wr A

set_option maxHeartbeats 4000000 in
set_option maxRecDepth 100000 in
theorem specCutW (s : ByteArray) (c : UInt8) (w : World) (hs : s.size ≤ 1048576) :
    Calls Tryd.prog 41 #[.string s, .int .u8 c.toNat] w fun e w' => ∃ v, e = .returned v ∧ w'.ownsRow w.heap.size 9 1 v (cutL c s.data.toList).length (strs (cutL c s.data.toList)) ∧ Below w.heap.size w w' := by
  obtain ⟨i0, hi, hz0, hz1, hz2⟩ := info_parts Tryd.infoStrC
  have hO0 : (w.alloc (.cells #[] 9)).ownsRow w.heap.size 9 1 (.slice (some ⟨w.heap.size, 0, none⟩) 0 0) 0 [] := World.ownsRow_made w #[] 0 (Nat.le_refl _) (by unfold maxLen; omega) rfl
  have hk0 : Below w.heap.size w (w.alloc (.cells #[] 9)) := (Below.refl _ _).alloc (Nat.le_refl _) _
  have HUL : Hid (s.data.toList.length = s.size) := by show _ = _; rw [Array.length_toList]; rfl
  go_enter Tryd.func41, Tryd.ntmps41
  go_wp2
  go_loopw [5, 6, 7] (fun o f i wr => CutX w.heap.size w s c o f i wr) (fun _ _ i _ => s.size + 1 - (intOf i).toNat)
  case atStart => exact ⟨0, 0, [], rfl, rfl, Nat.zero_le _, ⟨Nat.zero_le _, Nat.le_refl _, hO0, hk0, fun _ => ⟨Nat.le_refl _, by simp, by simp⟩, fun h => by omega⟩⟩
  case round =>
    obtain ⟨i, fr, A, rfl, rfl, hfr, hM⟩ := hrel
    have HM : Hid (CutM w.heap.size w s c i fr u5 wr A) := hM
    have HO : Hid (wr.ownsRow w.heap.size 9 1 u5 A.length (strs A)) := hM.own
    have hb := hM.bel
    have hle := hM.le
    have hfew := hM.few
    clear hM hO0 hk0
    by_cases hin : i ≤ s.size
    · have hinI : (i : Int) ≤ (s.size : Int) := by omega
      have hfi : fr ≤ i := (HM.out.inn hin).le
      by_cases hend : i = s.size
      · have heb : ((i : Int) == (s.size : Int)) = true := by simpa using (show (i : Int) = (s.size : Int) by omega)
        have hed : decide ((i : Int) = (s.size : Int)) = true := decide_eq_true (by omega)
        have HEND : Hid (i = s.size) := hend
        have hfI : (fr : Int) ≤ (i : Int) := by omega
        clear hend
        go_wp2_with (at_builtin; refine wpList_append_own _ rfl _ _ 62 rfl w.heap.size 9 i0 _ 1 16 Tryd.underlying62 hi hz0 hz1 hz2 rfl (by decide) _ _ _ rfl (HO.out.alloc _) ⟨wr.heap.size, 0, none⟩ 1 1 [Value.string (s.extract fr i)] rfl rfl (by intro j u' hj; match j, hj with | 0, hj => simp at hj; subst hj; simp [Addr.add]) (by intro u' hu'; simp at hu'; subst hu'; rfl) (by unfold maxLen; omega) (by omega) (by have := hb.size; simp; omega) ?_)
        intro v2 w2 hown hgrow _
        have hb2 : Below w.heap.size w w2 := (hb.alloc hb.size _).grown hgrow (by have := hb.size; simp; omega) (fun k hk => (HO.out.lt k hk).1)
        have hown2 : w2.ownsRow w.heap.size 9 1 v2 (A ++ [(s.data.toList.drop fr).take (i - fr)]).length (strs (A ++ [(s.data.toList.drop fr).take (i - fr)])) := by
          rw [strs_snoc, ← bytes_cut, List.length_append, str_selfC]
          exact hown
        have HO2 : Hid (w2.ownsRow w.heap.size 9 1 v2 (A ++ [(s.data.toList.drop fr).take (i - fr)]).length (strs (A ++ [(s.data.toList.drop fr).take (i - fr)]))) := hown2
        clear hown hown2 hgrow
        go_wp2
        go_roundw
        case rel =>
          refine ⟨i + 1, i + 1, _, by go_num, by go_num, by omega, ⟨by omega, by simp; omega, HO2.out, hb2, fun h => by have := HEND.out; omega, fun _ => ?_⟩⟩
          have h1 := HM.out.inn hin
          have h2 : CutI c s.data.toList s.data.toList.length fr A := by rw [HUL.out, ← HEND.out]; exact h1
          rw [h2.fin, HUL.out, ← HEND.out]
        case measure => simp [intOf]; omega
      · have hlt : i < s.size := by omega
        have hltI : (i : Int) < (s.size : Int) := by omega
        have hnb : ((i : Int) == (s.size : Int)) = false := by rw [beq_eq_false_iff_ne]; omega
        have hni : ¬ (i : Int) = (s.size : Int) := by omega
        obtain ⟨x, hx⟩ : ∃ x, x = s[i] := ⟨_, rfl⟩
        have HGX : Hid (s.data.toList[i]? = some x) := by
          rw [hx]
          show _ = some (s.data[i])
          rw [Array.getElem?_toList]
          exact Array.getElem?_eq_getElem hlt
        by_cases hxc : x = c
        · have hq : ((s[i]).toNat : Int) = (c.toNat : Int) := by rw [← hx, hxc]
          have hqb : (((s[i]).toNat : Int) == (c.toNat : Int)) = true := by simpa using hq
          have HXC : Hid (x = c) := hxc
          have hfI : (fr : Int) ≤ (i : Int) := by omega
          clear hx hxc hq hend
          go_wp2_with (at_builtin; refine wpList_append_own _ rfl _ _ 62 rfl w.heap.size 9 i0 _ 1 16 Tryd.underlying62 hi hz0 hz1 hz2 rfl (by decide) _ _ _ rfl (HO.out.alloc _) ⟨wr.heap.size, 0, none⟩ 1 1 [Value.string (s.extract fr i)] rfl rfl (by intro j u' hj; match j, hj with | 0, hj => simp at hj; subst hj; simp [Addr.add]) (by intro u' hu'; simp at hu'; subst hu'; rfl) (by unfold maxLen; omega) (by omega) (by have := hb.size; simp; omega) ?_)
          intro v2 w2 hown hgrow _
          have hb2 : Below w.heap.size w w2 := (hb.alloc hb.size _).grown hgrow (by have := hb.size; simp; omega) (fun k hk => (HO.out.lt k hk).1)
          have hown2 : w2.ownsRow w.heap.size 9 1 v2 (A ++ [(s.data.toList.drop fr).take (i - fr)]).length (strs (A ++ [(s.data.toList.drop fr).take (i - fr)])) := by
            rw [strs_snoc, ← bytes_cut, List.length_append, str_selfC]
            exact hown
          have HO2 : Hid (w2.ownsRow w.heap.size 9 1 v2 (A ++ [(s.data.toList.drop fr).take (i - fr)]).length (strs (A ++ [(s.data.toList.drop fr).take (i - fr)]))) := hown2
          clear hown hown2 hgrow
          go_wp2
          go_roundw
          case rel =>
            refine ⟨i + 1, i + 1, _, by go_num, by go_num, by omega, ⟨by omega, by simp; omega, HO2.out, hb2, fun _ => (HM.out.inn hin).hit (by rw [HGX.out, HXC.out]), fun h => by omega⟩⟩
          case measure => simp [intOf]; omega
        · have hq : ¬ ((s[i]).toNat : Int) = (c.toNat : Int) := by
            rw [← hx]
            intro e
            exact hxc (UInt8.toNat_inj.1 (by omega))
          have hqb : (((s[i]).toNat : Int) == (c.toNat : Int)) = false := by simpa using hq
          clear hx hend
          go_wp2
          go_roundw
          case rel => exact ⟨i + 1, fr, A, by go_num, rfl, by omega, ⟨by omega, by omega, HO.out, hb, fun _ => (HM.out.inn hin).miss HGX.out hxc, fun h => by omega⟩⟩
          case measure => simp [intOf]; omega
    · have hout : i = s.size + 1 := by omega
      have hA := HM.out.out hout
      have HO3 : Hid (wr.ownsRow w.heap.size 9 1 u5 (cutL c s.data.toList).length (strs (cutL c s.data.toList))) := by show World.ownsRow _ _ _ _ _ _ _; rw [← hA]; exact HO.out
      have hnI : ¬ (i : Int) ≤ (s.size : Int) := by omega
      clear hA hout
      go_wp2
      go_ret
      exact ⟨_, rfl, HO3.out, hb⟩

end Go.Proofs.YtcabinakcmpkeaaDoor
