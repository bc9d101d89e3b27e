/-
  What the document's l4Find and RunFind answer at every run, by walks of their Go text.
  Texts of right entries are small: plain facts.
-/
import Derived.Deep.DeepAppendWide
import Derived.Test.YtlmgojlffgkciaaGreatCe12
import Derived.Test.YtlmgojlffgkciaaGreatCe08
import Derived.Test.YtlmgojlffgkciaaGreatCe00
namespace Go.Proofs.YtlmgojlffgkciaaGreat
open Go.RowKit
set_option maxRecDepth 100000
set_option maxHeartbeats 2000000
theorem specFindL (a : Option Addr) (len cap : Nat) (L : List EntD) (key : ByteArray) (seq : Int) (w : World) (hL : EntsAt w a len cap L) (hlen : len ≤ 1048576) :
    Calls Tryz.prog 86 #[.slice a len cap, .string key, .int .i64 seq] w fun e w' => ∃ g n c, e = .returned (.slice (some ⟨g, 0, none⟩) n c) ∧ OwnE w' w.heap.size g n c (findL L key seq) ∧ Below w.heap.size w w' := by
  have HLEN : Hid (L.length = len) := hL.length
  have HENTS : Hid (∀ l ∈ L, EntW l) := hL.ents
  have hbl := hL.room
  have hbc := hL.big
  unfold maxLen at hbc
  have HL : Hid (EntsAt w a len cap L) := hL
  clear hL
  obtain ⟨i0, hi, hz0, hz1, hz2⟩ := info_parts Tryz.infoEnt
  have hO0 : (w.alloc (.cells #[] 78)).ownsRow w.heap.size 78 5 (.slice (some ⟨w.heap.size, 0, none⟩) 0 0) 0 (flatE (findL (L.take 0) key seq)) := by
    have := World.ownsRow_lit (base := w.heap.size) (e := 78) (size := 5) w #[] 0 (by simp) (by simp) (by simp)
    simpa [flatE, findL] using this
  have hB0 : Below w.heap.size w (w.alloc (.cells #[] 78)) := (Below.refl _ _).alloc (Nat.le_refl _) _
  go_enter Tryz.func86, Tryz.ntmps86
  go_wp2
  go_loopw [7, 8] (fun o i wr => ∃ (k g n c : Nat), k ≤ len ∧ n ≤ k ∧ i = .int .i64 k ∧ o = .slice (some ⟨g, 0, none⟩) n c ∧ wr.ownsRow w.heap.size 78 5 (.slice (some ⟨g, 0, none⟩) n c) n (flatE (findL (L.take k) key seq)) ∧ Below w.heap.size w wr) (fun _ i _ => len - (intOf i).toNat)
  case atStart => exact ⟨0, w.heap.size, 0, 0, Nat.zero_le _, Nat.zero_le _, rfl, rfl, hO0, hB0⟩
  case round =>
    obtain ⟨k, g, n', c, hk, hnk, rfl, rfl, hrow, hb⟩ := hrel
    have HROW : Hid (wr.ownsRow w.heap.size 78 5 (.slice (some ⟨g, 0, none⟩) n' c) n' (flatE (findL (L.take k) key seq))) := hrow
    clear hrow hO0 hB0
    by_cases hlt : k < len
    · obtain ⟨b, off, rfl, hbb⟩ := HL.out.form (by omega)
      obtain ⟨s, q, d, t, n, hg, hlw, g0, g1, g2, g3, g4⟩ := HL.out.ent hb hbb k hlt
      have HG : Hid (L[k]? = some (s, q, d, t, n)) := hg
      clear hg hlw
      have hbr : b < wr.heap.size := Nat.lt_of_lt_of_le hbb hb.size
      by_cases hks : s = key
      · subst hks
        by_cases hq : q ≤ seq
        · have HF : Hid (findL (L.take (k + 1)) s seq = findL (L.take k) s seq ++ [(s, q, d, t, n)]) := find_snoc_yes HG.out rfl hq
          go_wp2_with (at_builtin; refine wpList_append_own _ rfl _ _ 28 rfl w.heap.size 78 i0 _ 5 56 Tryz.underlying28 hi hz0 hz1 hz2 rfl (by decide) _ _ _ rfl (HROW.out.alloc _) ⟨wr.heap.size, 0, none⟩ 1 1 (entCells (s, q, d, t, n)) rfl rfl ?c1 ?c2 ?c3 ?c4 ?c5 ?_)
          case c1 =>
            intro j u hj
            match j, hj with
            | 0, hj => simp [entCells] at hj; subst hj; simp [Addr.add]
            | 1, hj => simp [entCells] at hj; subst hj; simp [Addr.add]
            | 2, hj => simp [entCells] at hj; subst hj; simp [Addr.add]
            | 3, hj => simp [entCells] at hj; subst hj; simp [Addr.add]
            | 4, hj => simp [entCells] at hj; subst hj; simp [Addr.add]
            | j + 5, hj => simp [entCells] at hj
          case c2 => intro u hu; simp [entCells] at hu; rcases hu with rfl | rfl | rfl | rfl | rfl <;> rfl
          case c3 => unfold maxLen; omega
          case c4 => omega
          case c5 => have := hb.size; simp; omega
          intro v' w2 hown' hgrow hnil
          obtain ⟨g2, cap2, rfl⟩ : ∃ g cap, v' = .slice (some ⟨g, 0, none⟩) (n' + 1) cap := by
            rcases hown'.2 with ⟨hv, h0⟩ | ⟨g, cap, cur, hv, _⟩
            · omega
            · exact ⟨g, cap, hv⟩
          have hb2 : Below w.heap.size w w2 := (hb.alloc hb.size _).grown hgrow (by have := hb.size; simp; omega) (fun q hq => (HROW.out.lt q hq).1)
          have hown2 : w2.ownsRow w.heap.size 78 5 (.slice (some ⟨g2, 0, none⟩) (n' + 1) cap2) (n' + 1) (flatE (findL (L.take (k + 1)) s seq)) := by
            rw [HF.out, flatE_append]
            exact hown'
          clear hown' hgrow hnil
          go_wp2
          go_roundw
          case rel => exact ⟨k + 1, g2, n' + 1, cap2, by omega, by omega, by go_num, rfl, hown2, hb2⟩
          case measure => simp [intOf]; omega
        · have HF : Hid (findL (L.take (k + 1)) s seq = findL (L.take k) s seq) := find_snoc_no HG.out (by simp; omega)
          go_wp2
          go_roundw
          case rel => exact ⟨k + 1, g, n', c, by omega, by omega, by go_num, rfl, by rw [HF.out]; exact HROW.out, hb⟩
          case measure => simp [intOf]; omega
      · have HF : Hid (findL (L.take (k + 1)) key seq = findL (L.take k) key seq) := find_snoc_no HG.out (fun h => hks h.1)
        have hne : ¬ s.toList = key.toList := by
          rw [ByteArray.toList_eq, ByteArray.toList_eq]
          intro h
          exact hks (ByteArray.ext (Array.toList_inj.1 h))
        have hne' : (s.toList == key.toList) = false := by simpa using hne
        clear hks
        go_wp2
        go_roundw
        case rel => exact ⟨k + 1, g, n', c, by omega, by omega, by go_num, rfl, by rw [HF.out]; exact HROW.out, hb⟩
        case measure => simp [intOf]; omega
    · have HF : Hid (findL (L.take k) key seq = findL L key seq) := by show findL (L.take k) key seq = _; rw [List.take_of_length_le (by rw [HLEN.out]; omega)]
      go_wp2
      go_ret
      refine ⟨g, n', c, rfl, ⟨by rw [← HF.out]; exact HROW.out, ?_, fun l hl => HENTS.out l (find_mem hl)⟩, hb⟩
      have := HROW.out.1
      rw [flatE_len, HF.out] at this
      omega
def foundL (L : List EntD) (m : Int) (key : ByteArray) (seq : Int) : List EntD := if runB L m = true then findL L key seq else []
theorem found_no {L : List EntD} {m : Int} {key : ByteArray} {seq : Int} (h : runB L m = false) : foundL L m key seq = [] := by simp [foundL, h]
theorem found_yes {L : List EntD} {m : Int} {key : ByteArray} {seq : Int} (h : runB L m = true) : foundL L m key seq = findL L key seq := by simp [foundL, h]
end Go.Proofs.YtlmgojlffgkciaaGreat

namespace Go.Proofs.YtlmgojlffgkciaaGreat
open Go.RowKit
theorem entB_sizes {k t : ByteArray} {q d n : Int} (h : entB k q d t n = true) : k.size ≤ 281474976710656 ∧ t.size ≤ 281474976710656 := by
  simp [entB, keyB] at h
  omega
theorem right_sizes {L : List EntD} (h : rightB L = true) (i k : Nat) : ∀ e ∈ (L.drop i).take k, e.1.size ≤ 281474976710656 ∧ e.2.2.2.1.size ≤ 281474976710656 := by
  intro e he
  obtain ⟨p, hp, rfl⟩ := List.getElem_of_mem (List.mem_of_mem_drop (List.mem_of_mem_take he))
  exact entB_sizes (right_ent h (List.getElem?_eq_getElem hp))
theorem right_small {L : List EntD} (h : rightB L = true) : ∀ e ∈ L, e.1.size ≤ 281474976710656 ∧ e.2.2.2.1.size ≤ 281474976710656 := fun e he => by
  obtain ⟨j, hj, rfl⟩ := List.getElem_of_mem he
  exact entB_sizes (right_ent h (List.getElem?_eq_getElem hj))
end Go.Proofs.YtlmgojlffgkciaaGreat
