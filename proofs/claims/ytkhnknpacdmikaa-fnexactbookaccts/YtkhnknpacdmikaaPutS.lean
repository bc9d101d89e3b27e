/-
  What the document's l2Put makes of a row of names and a name, by a walk of its Go text.
-/
import Derived.Test.YtkhnknpacdmikaaAcctQ
import Derived.Test.YtkhnknpacdmikaaInsI
import Derived.Test.YtkhnknpacdmikaaTallyM
import Derived.Deep.DeepCutAuto
import Derived.OwnWalk
import Derived.Laws.AppendOwn
namespace Go.Proofs.Ytkhnknpacdmikaa
open Go.RowKit

theorem Try.infoStr : (Try.prog.info? 9).map (fun i => (i.zero, i.size, i.bytes)) = some (some (.string ⟨#[]⟩), 1, 16) := by kernel_rfl

theorem str_cell {w : World} {base n c g : Nat} {A : List ByteArray} (h : w.ownsRow base 9 1 (.slice (some ⟨g, 0, none⟩) n c) n (A.map .string)) {k : Nat} {x : ByteArray} (hk : A[k]? = some x) : w.cell? ⟨g, k, none⟩ = some (.string x) := by
  have := h.cells (g := g) rfl k (.string x) (by rw [List.getElem?_map, hk]; rfl)
  have ea : (⟨g, 0, none⟩ : Addr).add k = ⟨g, k, none⟩ := by unfold Addr.add; split <;> simp_all
  rw [ea] at this
  exact this

/-- A row of names in memory of its own since w. -/
def RowS (w w' : World) (v : Value) (A : List ByteArray) : Prop := ∃ g cap, v = .slice (some ⟨g, 0, none⟩) A.length cap ∧ w'.ownsRow w.heap.size 9 1 v A.length (A.map .string) ∧ Below w.heap.size w w'

theorem put_fin {w w3 : World} {A : List ByteArray} {s : ByteArray} {N : Nat} {v : Value} {xs : List Value} (hown : w3.ownsRow w.heap.size 9 1 v N xs) (hb : Below w.heap.size w w3) (hx : xs = (putL A s).map .string) (h0 : 0 < N) : RowS w w3 v (putL A s) := by
  subst hx
  have hl : N = (putL A s).length := by have := hown.1; simpa using this.symm
  subst hl
  rcases hown.2 with ⟨_, h0'⟩ | ⟨g, cap, cur, hv, _⟩
  · omega
  · exact ⟨g, cap, hv, hown, hb⟩
theorem drop_cells {w : World} {base n c g : Nat} {A : List ByteArray} (h : w.ownsRow base 9 1 (.slice (some ⟨g, 0, none⟩) n c) n (A.map .string)) (k : Nat) : ∀ j u, ((A.drop k).map Value.string)[j]? = some u → w.cell? ((⟨g, k, none⟩ : Addr).add j) = some u := by
  intro j u hu
  rw [List.getElem?_map, List.getElem?_drop] at hu
  obtain ⟨x, hx, rfl⟩ := Option.map_eq_some_iff.1 hu
  have ea : (⟨g, k, none⟩ : Addr).add j = ⟨g, k + j, none⟩ := by unfold Addr.add; split <;> simp_all
  rw [ea]
  exact str_cell h hx
theorem one_strs (A : List ByteArray) : ∀ u ∈ A.map Value.string, u.oneCell' = true := by
  intro u hu
  obtain ⟨x, _, rfl⟩ := List.mem_map.1 hu
  rfl

set_option maxRecDepth 100000 in
set_option maxHeartbeats 2000000 in
theorem l2Put_any (base n c g0 : Nat) (A : List ByteArray) (s : ByteArray) (w : World) (hown : w.ownsRow base 9 1 (.slice (some ⟨g0, 0, none⟩) n c) n (A.map .string)) (hn : n ≤ 1000) :
    Calls Try.prog 91 #[.slice (some ⟨g0, 0, none⟩) n c, .string s] w fun e w' => ∃ v, e = .returned v ∧ RowS w w' v (putL A s) := by
  obtain ⟨i0, hi, hz0, hz1, hz2⟩ := info_parts Try.infoStr
  have HLEN : Hid (A.length = n) := by show A.length = n; have := hown.1; simpa using this
  have HO : Hid (w.ownsRow base 9 1 (.slice (some ⟨g0, 0, none⟩) n c) n (A.map .string)) := hown
  have hnc : n ≤ c ∧ c ≤ maxLen ∧ g0 < w.heap.size := by
    rcases strs_form hown with ⟨h, _⟩ | ⟨g, cur, h, _, hg, h1, h2, _⟩
    · cases h
    · cases h; exact ⟨h1, h2, (Array.getElem?_eq_some_iff.1 hg).1⟩
  obtain ⟨hnc1, hnc2, hg0⟩ := hnc
  unfold maxLen at hnc2
  clear hown
  have hB0 : Below w.heap.size w (w.alloc (.cells #[] 9)) := (Below.refl _ _).alloc (Nat.le_refl _) _
  have hO0 : (w.alloc (.cells #[] 9)).ownsRow w.heap.size 9 1 (.slice (some ⟨w.heap.size, 0, none⟩) 0 0) 0 [] := World.ownsRow_made w #[] 0 (Nat.le_refl _) (by unfold maxLen; omega) rfl
  go_enter Try.func91, Try.ntmps91
  go_wp2
  go_loopw [5, 6] (fun o i wr => ∃ (k g cap : Nat), k ≤ n ∧ i = .int .i64 k ∧ o = .slice (some ⟨g, 0, none⟩) k cap ∧ wr.ownsRow w.heap.size 9 1 (.slice (some ⟨g, 0, none⟩) k cap) k ((A.take k).map .string) ∧ Below w.heap.size w wr ∧ (∀ t, t < k → ∀ x, A[t]? = some x → ltS x s = true)) (fun _ i _ => n - (intOf i).toNat)
  case atStart => exact ⟨0, w.heap.size, 0, Nat.zero_le _, rfl, rfl, hO0, hB0, fun t ht => by omega⟩
  case round =>
    obtain ⟨k, g, cap, hk, rfl, rfl, hrow, hb, hlt⟩ := hrel
    have HROW : Hid (wr.ownsRow w.heap.size 9 1 (.slice (some ⟨g, 0, none⟩) k cap) k ((A.take k).map .string)) := hrow
    have HLT : Hid (∀ t, t < k → ∀ x, A[t]? = some x → ltS x s = true) := hlt
    have hg0r : g0 < wr.heap.size := Nat.lt_of_lt_of_le hg0 hb.size
    clear hrow hlt
    by_cases hkn : k < n
    · have hkA : k < A.length := by rw [HLEN.out]; exact hkn
      obtain ⟨x, hx⟩ : ∃ x, x = A[k] := ⟨_, rfl⟩
      have hgx : A[k]? = some x := by rw [hx]; exact List.getElem?_eq_getElem hkA
      have hcx : wr.cell? ⟨g0, k, none⟩ = some (.string x) := cell_later hb (str_cell HO.out hgx)
      have HGX : Hid (A[k]? = some x) := hgx
      clear hx hgx hkA
      have hrl : ltS x s = Op.bytesLess x.toList s.toList := by unfold ltS; rw [ByteArray.toList_eq, ByteArray.toList_eq]
      cases hls : Op.bytesLess x.toList s.toList with
      | true =>
        have HLS : Hid (ltS x s = true) := hrl.trans hls
        clear hrl
        go_wp2_with (at_builtin; refine wpList_append_own _ rfl _ _ 45 rfl w.heap.size 9 i0 (.string ⟨#[]⟩) 1 16 Try.underlying45 hi hz0 hz1 hz2 rfl (by decide) _ _ _ rfl (HROW.out.alloc _) ⟨wr.heap.size, 0, none⟩ 1 1 [.string x] rfl rfl ?c1 ?c2 ?c3 ?c4 ?c5 ?_)
        case c1 =>
          intro j u hj
          match j, hj with
          | 0, hj => simp at hj; subst hj; simp [Addr.add]
        case c2 => intro u hu; simp at hu; subst hu; rfl
        case c3 => unfold maxLen; omega
        case c4 => omega
        case c5 => have := hb.size; simp; omega
        intro v' w2 hown' hgrow hnil
        obtain ⟨g2, cap2, rfl⟩ : ∃ g cap, v' = .slice (some ⟨g, 0, none⟩) (k + 1) cap := by
          rcases hown'.2 with ⟨hv, h0⟩ | ⟨g, cap, cur, hv, _⟩
          · omega
          · exact ⟨g, cap, hv⟩
        have hb2 : Below w.heap.size w w2 := (hb.alloc hb.size _).grown hgrow (by have := hb.size; simp; omega) (fun q hq => (HROW.out.lt q hq).1)
        have hown2 : w2.ownsRow w.heap.size 9 1 (.slice (some ⟨g2, 0, none⟩) (k + 1) cap2) (k + 1) ((A.take (k + 1)).map .string) := by
          rw [List.take_add_one, HGX.out]
          simpa using hown'
        clear hown' hgrow hnil hcx
        go_wp2
        go_roundw
        case rel => exact ⟨k + 1, g2, cap2, by omega, by go_num, rfl, hown2, hb2, fun t ht y hy => by
          by_cases h : t < k
          · exact HLT.out t h y hy
          · have : t = k := by omega
            subst this
            rw [HGX.out] at hy
            cases hy
            exact HLS.out⟩
        case measure => simp [intOf]; omega
      | false =>
        have HLS : Hid (ltS x s = false) := hrl.trans hls
        clear hrl
        go_upto_region 7 with (at_builtin; refine wpList_append_own _ rfl _ _ 45 rfl w.heap.size 9 i0 (.string ⟨#[]⟩) 1 16 Try.underlying45 hi hz0 hz1 hz2 rfl (by decide) _ _ _ rfl (HROW.out.alloc _) ⟨wr.heap.size, 0, none⟩ 1 1 [.string s] rfl rfl ?c1 ?c2 ?c3 ?c4 ?c5 ?_)
        case c1 =>
          intro j u hj
          match j, hj with
          | 0, hj => simp at hj; subst hj; simp [Addr.add]
        case c2 => intro u hu; simp at hu; subst hu; rfl
        case c3 => unfold maxLen; omega
        case c4 => omega
        case c5 => have := hb.size; simp; omega
        intro v' w2 hown' hgrow hnil
        obtain ⟨g2, cap2, rfl⟩ : ∃ g cap, v' = .slice (some ⟨g, 0, none⟩) (k + 1) cap := by
          rcases hown'.2 with ⟨hv, h0⟩ | ⟨g, cap, cur, hv, _⟩
          · omega
          · exact ⟨g, cap, hv⟩
        have hb2 : Below w.heap.size w w2 := (hb.alloc hb.size _).grown hgrow (by have := hb.size; simp; omega) (fun q hq => (HROW.out.lt q hq).1)
        have HO2 : Hid (w2.ownsRow w.heap.size 9 1 (.slice (some ⟨g2, 0, none⟩) (k + 1) cap2) (k + 1) ((A.take k ++ [s]).map .string)) := by
          show w2.ownsRow _ _ _ _ _ _
          rw [List.map_append]
          simpa using hown'
        have hg02 : g0 < w2.heap.size := Nat.lt_of_lt_of_le hg0 hb2.size
        have hb2' : Below w.heap.size w w2 := hb2
        clear hown' hgrow hnil
        have hcx2 : w2.cell? ⟨g0, k, none⟩ = some (.string x) := cell_later hb2 (str_cell HO.out HGX.out)
        by_cases hxs : x = s
        · subst hxs
          go_upto_region 9 with fail
          have HO2k : Hid (w2.ownsRow base 9 1 (.slice (some ⟨g0, 0, none⟩) n c) n (A.map .string)) := HO.out.kept (row := none) (grown_of_belowT hb2) own_none
          have HPUT : Hid ((putL A x).map Value.string = (A.take k).map .string ++ .string x :: (A.drop (k + 1)).map .string) := by
            show (putL A x).map Value.string = _
            rw [putL_cut A x k (by rw [HLEN.out]; exact hk) HLT.out (fun y hy => by rw [HGX.out] at hy; cases hy; exact HLS.out), if_pos HGX.out]
            simp
          have HKN : Hid (k + 1 ≤ n ∧ n ≤ c) := ⟨by omega, by omega⟩
          by_cases hck : c = k + 1
          · have hnK : n = k + 1 := by have := HKN.out; omega
            have HDR : Hid (A.drop (k + 1) = []) := List.drop_of_length_le (by rw [HLEN.out]; omega)
            subst hck
            subst hnK
            go_wp2_with (at_builtin; refine wpList_append_own _ rfl _ _ 45 rfl w.heap.size 9 i0 (.string ⟨#[]⟩) 1 16 Try.underlying45 hi hz0 hz1 hz2 rfl (by decide) _ _ _ rfl HO2.out ⟨g0, 0, none⟩ 0 0 [] rfl rfl ?d1 ?d2 ?d3 ?d4 ?d5 ?_)
            case d1 => intro j u hj; simp at hj
            case d2 => intro u hu; simp at hu
            case d3 => unfold maxLen; omega
            case d4 => omega
            case d5 => exact hb2.size
            intro v3 w3 hown3 hgrow3 _
            have hb3 : Below w.heap.size w w3 := hb2.grown hgrow3 hb2.size (fun q hq => (HO2.out.lt q hq).1)
            go_wp2
            go_ret
            exact ⟨v3, rfl, put_fin hown3 hb3 (by rw [HPUT.out, HDR.out]; simp) (by omega)⟩
          · have hck' : ¬ (c : Int) = ((k + 1 : Nat) : Int) := by omega
            go_wp2_with (at_builtin; refine wpList_append_own _ rfl _ _ 45 rfl w.heap.size 9 i0 (.string ⟨#[]⟩) 1 16 Try.underlying45 hi hz0 hz1 hz2 rfl (by decide) _ _ _ rfl HO2.out ⟨g0, k + 1, none⟩ (n - (k + 1)) (c - (k + 1)) ((A.drop (k + 1)).map Value.string) rfl ?d0 ?d1 ?d2 ?d3 ?d4 ?d5 ?_)
            case d0 => rw [List.length_map, List.length_drop, HLEN.out]; omega
            case d1 => exact drop_cells HO2k.out _
            case d2 => exact one_strs _
            case d3 => unfold maxLen; omega
            case d4 => omega
            case d5 => exact hb2.size
            intro v3 w3 hown3 hgrow3 _
            have hb3 : Below w.heap.size w w3 := hb2.grown hgrow3 hb2.size (fun q hq => (HO2.out.lt q hq).1)
            go_wp2
            go_ret
            exact ⟨v3, rfl, put_fin hown3 hb3 (by rw [HPUT.out]; simp) (by omega)⟩
        · have hne : ¬ x.toList = s.toList := by rw [ByteArray.toList_eq, ByteArray.toList_eq]; exact fun h => hxs (ByteArray.ext (Array.toList_inj.1 h))
          have hbe : (x.toList == s.toList) = false := by simpa using hne
          go_upto_region 9 with fail
          have HO2k : Hid (w2.ownsRow base 9 1 (.slice (some ⟨g0, 0, none⟩) n c) n (A.map .string)) := HO.out.kept (row := none) (grown_of_belowT hb2) own_none
          have HPUT : Hid ((putL A s).map Value.string = (A.take k).map .string ++ .string s :: (A.drop (k)).map .string) := by
            show (putL A s).map Value.string = _
            rw [putL_cut A s k (by rw [HLEN.out]; exact hk) HLT.out (fun y hy => by rw [HGX.out] at hy; cases hy; exact HLS.out), if_neg (by rw [HGX.out]; intro e; cases e; exact hxs rfl)]
            simp
          have HKN : Hid (k ≤ n ∧ n ≤ c) := ⟨by omega, by omega⟩
          by_cases hck : c = k
          · have hnK : n = k := by have := HKN.out; omega
            have HDR : Hid (A.drop (k) = []) := List.drop_of_length_le (by rw [HLEN.out]; omega)
            subst hck
            subst hnK
            go_wp2_with (at_builtin; refine wpList_append_own _ rfl _ _ 45 rfl w.heap.size 9 i0 (.string ⟨#[]⟩) 1 16 Try.underlying45 hi hz0 hz1 hz2 rfl (by decide) _ _ _ rfl HO2.out ⟨g0, 0, none⟩ 0 0 [] rfl rfl ?d1 ?d2 ?d3 ?d4 ?d5 ?_)
            case d1 => intro j u hj; simp at hj
            case d2 => intro u hu; simp at hu
            case d3 => unfold maxLen; omega
            case d4 => omega
            case d5 => exact hb2.size
            intro v3 w3 hown3 hgrow3 _
            have hb3 : Below w.heap.size w w3 := hb2.grown hgrow3 hb2.size (fun q hq => (HO2.out.lt q hq).1)
            go_wp2
            go_ret
            exact ⟨v3, rfl, put_fin hown3 hb3 (by rw [HPUT.out, HDR.out]; simp) (by omega)⟩
          · have hck' : ¬ (c : Int) = ((k : Nat) : Int) := by omega
            go_wp2_with (at_builtin; refine wpList_append_own _ rfl _ _ 45 rfl w.heap.size 9 i0 (.string ⟨#[]⟩) 1 16 Try.underlying45 hi hz0 hz1 hz2 rfl (by decide) _ _ _ rfl HO2.out ⟨g0, k, none⟩ (n - k) (c - (k)) ((A.drop (k)).map Value.string) rfl ?d0 ?d1 ?d2 ?d3 ?d4 ?d5 ?_)
            case d0 => rw [List.length_map, List.length_drop, HLEN.out]; omega
            case d1 => exact drop_cells HO2k.out _
            case d2 => exact one_strs _
            case d3 => unfold maxLen; omega
            case d4 => omega
            case d5 => exact hb2.size
            intro v3 w3 hown3 hgrow3 _
            have hb3 : Below w.heap.size w w3 := hb2.grown hgrow3 hb2.size (fun q hq => (HO2.out.lt q hq).1)
            go_wp2
            go_ret
            exact ⟨v3, rfl, put_fin hown3 hb3 (by rw [HPUT.out]; simp) (by omega)⟩
    · have hkn' : k = n := by omega
      subst hkn'
      clear hkn
      go_upto_region 7 with (at_builtin; refine wpList_append_own _ rfl _ _ 45 rfl w.heap.size 9 i0 (.string ⟨#[]⟩) 1 16 Try.underlying45 hi hz0 hz1 hz2 rfl (by decide) _ _ _ rfl (HROW.out.alloc _) ⟨wr.heap.size, 0, none⟩ 1 1 [.string s] rfl rfl ?c1 ?c2 ?c3 ?c4 ?c5 ?_)
      case c1 =>
        intro j u hj
        match j, hj with
        | 0, hj => simp at hj; subst hj; simp [Addr.add]
      case c2 => intro u hu; simp at hu; subst hu; rfl
      case c3 => unfold maxLen; omega
      case c4 => omega
      case c5 => have := hb.size; simp; omega
      intro v' w2 hown' hgrow hnil
      obtain ⟨g2, cap2, rfl⟩ : ∃ g cap, v' = .slice (some ⟨g, 0, none⟩) (k + 1) cap := by
        rcases hown'.2 with ⟨hv, h0⟩ | ⟨g, cap, cur, hv, _⟩
        · omega
        · exact ⟨g, cap, hv⟩
      have hb2 : Below w.heap.size w w2 := (hb.alloc hb.size _).grown hgrow (by have := hb.size; simp; omega) (fun q hq => (HROW.out.lt q hq).1)
      have HO2 : Hid (w2.ownsRow w.heap.size 9 1 (.slice (some ⟨g2, 0, none⟩) (k + 1) cap2) (k + 1) ((A.take k ++ [s]).map .string)) := by
        show w2.ownsRow _ _ _ _ _ _
        rw [List.map_append]
        simpa using hown'
      have hg02 : g0 < w2.heap.size := Nat.lt_of_lt_of_le hg0 hb2.size
      clear hown' hgrow hnil
      go_upto_region 9 with fail
      have HO2k : Hid (w2.ownsRow base 9 1 (.slice (some ⟨g0, 0, none⟩) k c) k (A.map .string)) := HO.out.kept (row := none) (grown_of_belowT hb2) own_none
      have HPUT : Hid ((putL A s).map Value.string = (A.take k).map .string ++ .string s :: (A.drop (k)).map .string) := by
        show (putL A s).map Value.string = _
        rw [putL_cut A s k (by rw [HLEN.out]; exact hk) HLT.out (fun y hy => by rw [List.getElem?_eq_none (by rw [HLEN.out]; omega)] at hy; cases hy), if_neg (by rw [List.getElem?_eq_none (by rw [HLEN.out]; omega)]; simp)]
        simp
      have HKN : Hid (k ≤ k ∧ k ≤ c) := ⟨by omega, by omega⟩
      by_cases hck : c = k
      · have hnK : k = k := by have := HKN.out; omega
        have HDR : Hid (A.drop (k) = []) := List.drop_of_length_le (by rw [HLEN.out]; omega)
        subst hck
        clear hnK
        go_wp2_with (at_builtin; refine wpList_append_own _ rfl _ _ 45 rfl w.heap.size 9 i0 (.string ⟨#[]⟩) 1 16 Try.underlying45 hi hz0 hz1 hz2 rfl (by decide) _ _ _ rfl HO2.out ⟨g0, 0, none⟩ 0 0 [] rfl rfl ?d1 ?d2 ?d3 ?d4 ?d5 ?_)
        case d1 => intro j u hj; simp at hj
        case d2 => intro u hu; simp at hu
        case d3 => unfold maxLen; omega
        case d4 => omega
        case d5 => exact hb2.size
        intro v3 w3 hown3 hgrow3 _
        have hb3 : Below w.heap.size w w3 := hb2.grown hgrow3 hb2.size (fun q hq => (HO2.out.lt q hq).1)
        go_wp2
        go_ret
        exact ⟨v3, rfl, put_fin hown3 hb3 (by rw [HPUT.out, HDR.out]; simp) (by omega)⟩
      · have hck' : ¬ (c : Int) = ((k : Nat) : Int) := by omega
        go_wp2_with (at_builtin; refine wpList_append_own _ rfl _ _ 45 rfl w.heap.size 9 i0 (.string ⟨#[]⟩) 1 16 Try.underlying45 hi hz0 hz1 hz2 rfl (by decide) _ _ _ rfl HO2.out ⟨g0, k, none⟩ 0 (c - (k)) ((A.drop (k)).map Value.string) rfl ?d0 ?d1 ?d2 ?d3 ?d4 ?d5 ?_)
        case d0 => rw [List.length_map, List.length_drop, HLEN.out]; omega
        case d1 => exact drop_cells HO2k.out _
        case d2 => exact one_strs _
        case d3 => unfold maxLen; omega
        case d4 => omega
        case d5 => exact hb2.size
        intro v3 w3 hown3 hgrow3 _
        have hb3 : Below w.heap.size w w3 := hb2.grown hgrow3 hb2.size (fun q hq => (HO2.out.lt q hq).1)
        go_wp2
        go_ret
        exact ⟨v3, rfl, put_fin hown3 hb3 (by rw [HPUT.out]; simp) (by omega)⟩
end Go.Proofs.Ytkhnknpacdmikaa
