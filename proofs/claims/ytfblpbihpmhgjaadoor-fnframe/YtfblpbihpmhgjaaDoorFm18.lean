/-
  The program's reader of a log: its next entry, by a walk of its Go text.
  The document's word at a place of a text, by a walk of its Go text.
  Whether a text stands at the head of another, by a walk of the library's Go text.
-/
import Derived.Test.YtfblpbihpmhgjaaDoorFm16
import Derived.Test.YtfblpbihpmhgjaaDoorFm17
namespace Go.Proofs.YtfblpbihpmhgjaaDoor
open Go.RowKit Go.Shelf

theorem pieceP_len (n : Int) (l : List UInt8) : (pieceP n l).1.length ≤ l.length := by
  rw [pieceP]
  split
  · simp
  · simp only [List.length_take]; omega
theorem ent_w {k t : ByteArray} {q d n : Int} (h1 : k.size ≤ 1048576) (h2 : (Lit.int .i64 q).wf = true) (h3 : (Lit.int .i64 d).wf = true) (h4 : t.size ≤ 1048576) (h5 : (Lit.int .i64 n).wf = true) : EntW (k, q, d, t, n) :=
  ⟨by unfold maxLen; show k.size ≤ _; omega, h2, h3, by unfold maxLen; show t.size ≤ _; omega, h5⟩
theorem wf_range {z : Int} (h : (Lit.int .i64 z).wf = true) : -9223372036854775808 ≤ z ∧ z ≤ 9223372036854775807 := by
  have e1 : IntKind.i64.min = -9223372036854775808 := by decide
  have e2 : IntKind.i64.max = 9223372036854775807 := by decide
  simp [Lit.wf] at h
  omega
theorem LrAt.other {w : World} {X E o : Nat} {t : ByteArray} {k : Nat} {u : Value} (h : LrAt w X t k) (hn : E ≠ X) : LrAt (w.setCell ⟨E, o, none⟩ u) X t k :=
  ⟨(World.cell?_of_block (Below.heap_setCell _ _ _ _ (Ne.symm hn))).trans h.c0, (World.cell?_of_block (Below.heap_setCell _ _ _ _ (Ne.symm hn))).trans h.c1, fun o' => by rw [World.frozen?_setCell]; exact h.fz o', h.le⟩
theorem gStore {a w : World} {X E o : Nat} {u : Value} (h : a.grownBy w (some X)) (hE : a.heap.size ≤ E) : a.grownBy (w.setCell ⟨E, o, none⟩ u) (some X) :=
  ⟨h.os, h.tape, h.output, by simpa [World.setCell] using h.size, fun k hk hn => (Below.heap_setCell _ _ _ _ (fun e => by have e' : k = E := e; omega)).trans (h.block k hk hn)⟩

set_option maxHeartbeats 2000000 in
set_option maxRecDepth 100000 in
theorem entry_any (B X k : Nat) (t : ByteArray) (w : World) (h : LrAt w X t k) (ht : t.size ≤ 1048576) (hB : B ≤ X) (hE : ErrB B w) :
    Calls Tryd.prog 105 #[.pointer (some ⟨X, 0, none⟩)] w fun e w' => ∃ (kk tt : ByteArray) (q d n : Int) (j : Nat), e = .returned (.agg #[.string kk, .int .i64 q, .int .i64 d, .string tt, .int .i64 n]) ∧ ((kk, q, d, tt, n), t.data.toList.drop j) = entP (t.data.toList.drop k) ∧ EntW (kk, q, d, tt, n) ∧ LrAt w' X t j ∧ w.grownBy w' (some X) := by
  have HL : Hid (LrAt w X t k) := h
  have HE : Hid (ErrB B w) := hE
  have hX := h.lt
  clear h hE
  go_enter Tryd.func105, Tryd.ntmps105
  obtain ⟨W0, hW0⟩ : ∃ W, W = w.alloc (.cells #[.string ⟨#[]⟩, .int .i64 0, .int .i64 0, .string ⟨#[]⟩, .int .i64 0] 85) := ⟨_, rfl⟩
  have k0 : Below w.heap.size w W0 := by rw [hW0]; exact (Below.refl _ _).alloc (Nat.le_refl _) _
  have A0 : Box5 W0 w.heap.size (.string ⟨#[]⟩) (.int .i64 0) (.int .i64 0) (.string ⟨#[]⟩) (.int .i64 0) := by rw [hW0]; exact Box5.new _ _ _ _ _ _ _
  have L0 := HL.out.below k0
  have G0 : w.grownBy W0 (some X) := gOf k0 _
  go_wp2_with fail
  rw [← hW0]
  clear hW0 k0
  obtain ⟨A, hA⟩ : ∃ A, A = w.heap.size := ⟨_, rfl⟩
  have hAX : X < A := by omega
  have HA : Hid (A = w.heap.size) := hA
  rw [← hA] at A0
  simp only [← hA]
  clear hA
  refine (word_any X k t _ L0 ht).mono ?_
  rintro e w1 ⟨s, j1, rfl, hs, L1, g1⟩
  have HS : Hid ((s.data.toList, t.data.toList.drop j1) = wordP (t.data.toList.drop k)) := hs
  have A1 := A0.grown g1 (by omega)
  have G1 := gTr G0 g1
  clear hs g1 L0 A0 G0
  obtain ⟨W1, hW1⟩ : ∃ W, W = w1.alloc (.cells #[.string s, .int .i64 0, .int .i64 0, .string ⟨#[]⟩, .int .i64 0] 85) := ⟨_, rfl⟩
  have k1 : Below w1.heap.size w1 W1 := by rw [hW1]; exact (Below.refl _ _).alloc (Nat.le_refl _) _
  have E1 : Box5 W1 w1.heap.size (.string s) (.int .i64 0) (.int .i64 0) (.string ⟨#[]⟩) (.int .i64 0) := by rw [hW1]; exact Box5.new _ _ _ _ _ _ _
  have M1 := L1.below k1
  have B1 := A1.below k1
  have H1 := gTr G1 (gOf k1 _)
  have hAE : A < w1.heap.size := A1.lt
  go_wp2_with fail
  rw [← hW1]
  obtain ⟨E, hE⟩ : ∃ E, E = w1.heap.size := ⟨_, rfl⟩
  rw [← hE] at E1 hAE
  simp only [← hE]
  clear hE hW1 k1 L1 A1 G1
  have RE1 : ErrB B W1 := fun w' kk => HE.out w' ((low_of_grown H1 hB hX).trans kk)
  refine (number_any B X j1 t _ M1 ht hB RE1).mono ?_
  rintro e w2 ⟨q, j2, rfl, hq, hwq, L2, g2⟩
  have HS2 : Hid ((q, t.data.toList.drop j2) = numP (t.data.toList.drop j1)) := hq
  have A2 := B1.grown g2 (by omega)
  have F2 := E1.grown g2 (by omega)
  have G2 := gTr H1 g2
  clear hq g2 M1 B1 E1 H1 RE1
  have f0 := F2.c1
  have f1 : w2.frozen? ⟨E, 1, none⟩ = false := F2.fr 1
  have hEl := F2.lt
  go_wp2_with fail
  obtain ⟨W2, hW2⟩ : ∃ W, W = w2.setCell ⟨E, 1, none⟩ (.int .i64 q) := ⟨_, rfl⟩
  have E2 : Box5 W2 E (.string s) (.int .i64 q) (.int .i64 0) (.string ⟨#[]⟩) (.int .i64 0) := by rw [hW2]; exact F2.set1 _
  have M2 : LrAt W2 X t j2 := by rw [hW2]; exact L2.other (by omega)
  have B2 : Box5 W2 A (.string ⟨#[]⟩) (.int .i64 0) (.int .i64 0) (.string ⟨#[]⟩) (.int .i64 0) := by rw [hW2]; exact A2.other (by omega) _ _
  have H2 : w.grownBy W2 (some X) := by rw [hW2]; exact gStore G2 (by have := HA.out; omega)
  rw [← hW2]
  clear hW2 F2 L2 A2 G2 f0 f1 hEl
  have RE2 : ErrB B W2 := fun w' kk => HE.out w' ((low_of_grown H2 hB hX).trans kk)
  refine (number_any B X j2 t _ M2 ht hB RE2).mono ?_
  rintro e w3 ⟨d, j3, rfl, hd, hwd, L3, g3⟩
  have HS3 : Hid ((d, t.data.toList.drop j3) = numP (t.data.toList.drop j2)) := hd
  have A3 := B2.grown g3 (by omega)
  have F3 := E2.grown g3 (by omega)
  have G3 := gTr H2 g3
  clear hd g3 M2 B2 E2 H2 RE2
  have f0 := F3.c2
  have f1 : w3.frozen? ⟨E, 2, none⟩ = false := F3.fr 2
  have hEl := F3.lt
  go_wp2_with fail
  obtain ⟨W3, hW3⟩ : ∃ W, W = w3.setCell ⟨E, 2, none⟩ (.int .i64 d) := ⟨_, rfl⟩
  have E3 : Box5 W3 E (.string s) (.int .i64 q) (.int .i64 d) (.string ⟨#[]⟩) (.int .i64 0) := by rw [hW3]; exact F3.set2 _
  have M3 : LrAt W3 X t j3 := by rw [hW3]; exact L3.other (by omega)
  have B3 : Box5 W3 A (.string ⟨#[]⟩) (.int .i64 0) (.int .i64 0) (.string ⟨#[]⟩) (.int .i64 0) := by rw [hW3]; exact A3.other (by omega) _ _
  have H3 : w.grownBy W3 (some X) := by rw [hW3]; exact gStore G3 (by have := HA.out; omega)
  rw [← hW3]
  clear hW3 F3 L3 A3 G3 f0 f1 hEl
  have RE3 : ErrB B W3 := fun w' kk => HE.out w' ((low_of_grown H3 hB hX).trans kk)
  refine (number_any B X j3 t _ M3 ht hB RE3).mono ?_
  rintro e w4 ⟨m, j4, rfl, hm, hwm, L4, g4⟩
  have HS4 : Hid ((m, t.data.toList.drop j4) = numP (t.data.toList.drop j3)) := hm
  have A4 := B3.grown g4 (by omega)
  have F4 := E3.grown g4 (by omega)
  have G4 := gTr H3 g4
  clear hm g4 M3 B3 E3 H3 RE3
  have f0 := F4.c4
  have f1 : w4.frozen? ⟨E, 4, none⟩ = false := F4.fr 4
  have hEl := F4.lt
  go_wp2_with fail
  obtain ⟨W4, hW4⟩ : ∃ W, W = w4.setCell ⟨E, 4, none⟩ (.int .i64 m) := ⟨_, rfl⟩
  have E4 : Box5 W4 E (.string s) (.int .i64 q) (.int .i64 d) (.string ⟨#[]⟩) (.int .i64 m) := by rw [hW4]; exact F4.set4 _
  have M4 : LrAt W4 X t j4 := by rw [hW4]; exact L4.other (by omega)
  have B4 : Box5 W4 A (.string ⟨#[]⟩) (.int .i64 0) (.int .i64 0) (.string ⟨#[]⟩) (.int .i64 0) := by rw [hW4]; exact A4.other (by omega) _ _
  have H4 : w.grownBy W4 (some X) := by rw [hW4]; exact gStore G4 (by have := HA.out; omega)
  rw [← hW4]
  clear hW4 F4 L4 A4 G4 f0 f1 hEl
  have RE4 : ErrB B W4 := fun w' kk => HE.out w' ((low_of_grown H4 hB hX).trans kk)
  refine (number_any B X j4 t _ M4 ht hB RE4).mono ?_
  rintro e w5 ⟨z, j5, rfl, hz, hwz, L5, g5⟩
  have HS5 : Hid ((z, t.data.toList.drop j5) = numP (t.data.toList.drop j4)) := hz
  have A5 := B4.grown g5 (by omega)
  have F5 := E4.grown g5 (by omega)
  have G5 := gTr H4 g5
  clear hz g5 M4 B4 E4 H4 RE4
  have hzr : -9223372036854775808 ≤ z ∧ z ≤ 9223372036854775807 := wf_range hwz
  go_wp2_with fail
  refine (piece_any X j5 t z _ L5 ht hzr.1 hzr.2).mono ?_
  rintro e w6 ⟨u, j6, rfl, hu, L6, g6⟩
  have HS6 : Hid ((u.data.toList, t.data.toList.drop j6) = pieceP z (t.data.toList.drop j5)) := hu
  have A6 := A5.grown g6 (by omega)
  have F6 := F5.grown g6 (by omega)
  have G6 := gTr G5 g6
  clear hu g6 A5 F5 G5 L5
  have f0 := F6.c0
  have f1 := F6.c1
  have f2 := F6.c2
  have f3 := F6.c3
  have f4 := F6.c4
  have a0 := A6.c0
  have a1 := A6.c1
  have a2 := A6.c2
  have a3 := A6.c3
  have a4 := A6.c4
  have b0 : w6.frozen? ⟨A, 0, none⟩ = false := A6.fr 0
  have b1 : w6.frozen? ⟨A, 1, none⟩ = false := A6.fr 1
  have b2 : w6.frozen? ⟨A, 2, none⟩ = false := A6.fr 2
  have b3 : w6.frozen? ⟨A, 3, none⟩ = false := A6.fr 3
  have b4 : w6.frozen? ⟨A, 4, none⟩ = false := A6.fr 4
  have ff : w6.frozen? ⟨E, 3, none⟩ = false := F6.fr 3
  have hEl := F6.lt
  have hAl := A6.lt
  have hne : E ≠ A := by omega
  have hne' : A ≠ E := by omega
  have HF : Hid (((s, q, d, u, m), t.data.toList.drop j6) = entP (t.data.toList.drop k)) := by
    show _ = _
    simp only [entP, ← HS.out, ← HS2.out, ← HS3.out, ← HS4.out, ← HS5.out, ← HS6.out]
  have HL6 : Hid (LrAt (((((((w6.setCell ⟨E, 3, none⟩ (.string u)).setCell ⟨A, 0, none⟩ (.string s)).setCell ⟨A, 1, none⟩ (.int .i64 q)).setCell ⟨A, 2, none⟩ (.int .i64 d)).setCell ⟨A, 3, none⟩ (.string u)).setCell ⟨A, 4, none⟩ (.int .i64 m))) X t j6) := (((((L6.other (by omega)).other (by omega)).other (by omega)).other (by omega)).other (by omega)).other (by omega)
  have HG6 : Hid (w.grownBy (((((((w6.setCell ⟨E, 3, none⟩ (.string u)).setCell ⟨A, 0, none⟩ (.string s)).setCell ⟨A, 1, none⟩ (.int .i64 q)).setCell ⟨A, 2, none⟩ (.int .i64 d)).setCell ⟨A, 3, none⟩ (.string u)).setCell ⟨A, 4, none⟩ (.int .i64 m))) (some X)) := gStore (gStore (gStore (gStore (gStore (gStore G6 (by have := HA.out; omega)) (by have := HA.out; omega)) (by have := HA.out; omega)) (by have := HA.out; omega)) (by have := HA.out; omega)) (by have := HA.out; omega)
  have HWF : Hid (EntW (s, q, d, u, m)) := by
    have e1 := wordP_len (t.data.toList.drop k)
    rw [← HS.out] at e1
    have e2 := pieceP_len z (t.data.toList.drop j5)
    rw [← HS6.out] at e2
    simp only [List.length_drop, bytes_len] at e1 e2
    exact ent_w (by omega) hwq hwd (by omega) hwm
  clear A6 F6 G6 L6
  go_wp2
  exact bodyPost_ret (v := .agg #[.string s, .int .i64 q, .int .i64 d, .string u, .int .i64 m]) (by simp [results, Tryd.results105, go_sem, a0, a1, a2, a3, a4]) rfl ⟨s, u, q, d, m, j6, rfl, HF.out, HWF.out, HL6.out, HG6.out⟩

end Go.Proofs.YtfblpbihpmhgjaaDoor

namespace Go.Proofs.YtfblpbihpmhgjaaDoor
open Go.RowKit

theorem ext_toList (t : ByteArray) (k j : Nat) : (t.extract k j).data.toList = (t.data.toList.drop k).take (j - k) := by rw [ByteArray.data_extract, Array.toList_extract, List.extract_eq_take_drop]
theorem List.drop_drop_sub {l : List UInt8} {k j : Nat} (h : k ≤ j) : (l.drop k).drop (j - k) = l.drop j := by rw [List.drop_drop]; congr 1; omega
set_option maxHeartbeats 1000000 in
set_option maxRecDepth 100000 in
theorem specWord (t : ByteArray) (k : Nat) (w : World) (hk : k ≤ t.size) (ht : t.size ≤ 1048576) :
    Calls Tryd.prog 131 #[.string t, .int .i64 (k : Int)] w fun e w' => ((∃ j, k ≤ j ∧ j < t.size ∧ t.data.toList.drop k = (t.extract k j).data.toList ++ 32 :: t.data.toList.drop (j + 1) ∧ (32 : UInt8) ∉ (t.extract k j).data.toList ∧ e = .returned (.tuple #[.string (t.extract k j), .int .i64 ((j : Int) + 1)])) ∨ ((32 : UInt8) ∉ t.data.toList.drop k ∧ e = .returned (.tuple #[.string ⟨#[]⟩, .int .i64 (-1)]))) ∧ Below w.heap.size w w' := by
  go_enter Tryd.func131, Tryd.ntmps131
  go_wp2
  go_loopw [6] (fun i wr => ∃ j : Nat, k ≤ j ∧ j ≤ t.size ∧ i = .int .i64 (j : Int) ∧ (32 : UInt8) ∉ (t.extract k j).data.toList ∧ Below w.heap.size w wr) (fun i _ => t.size - (intOf i).toNat)
  case atStart => exact ⟨k, Nat.le_refl _, hk, rfl, by rw [ext_toList]; simp, Below.refl _ _⟩
  case round =>
    obtain ⟨j, hkj, hjt, rfl, hno, hb⟩ := hrel
    have HNO : Hid ((32 : UInt8) ∉ (t.extract k j).data.toList) := hno
    clear hno
    by_cases hlt : j < t.size
    · have hltI : (j : Int) < (t.size : Int) := by omega
      obtain ⟨x, hx⟩ : ∃ x, x = t[j] := ⟨_, rfl⟩
      by_cases hxc : x = 32
      · have hq : ((t[j]).toNat : Int) = 32 := by rw [← hx, hxc]; rfl
        have hqb : (((t[j]).toNat : Int) == 32) = true := by simpa using hq
        have HR : Hid (t.data.toList.drop k = (t.extract k j).data.toList ++ 32 :: t.data.toList.drop (j + 1)) := by
          show _ = _
          rw [ext_toList, ← hxc, hx, ← drop_at t j hlt, ← List.drop_drop_sub hkj]
          exact (List.take_append_drop _ _).symm
        have hkI : (k : Int) ≤ (j : Int) := by omega
        have hjI : (j : Int) ≤ (t.size : Int) := by omega
        clear hx hxc hq
        go_wp2
        exact bodyPost_ret (v := .tuple #[.string (t.extract k j), .int .i64 ((j : Int) + 1)]) (by simp [results, Tryd.results131, go_sem]) rfl ⟨Or.inl ⟨j, hkj, hlt, HR.out, HNO.out, rfl⟩, hb⟩
      · have hq : ¬ ((t[j]).toNat : Int) = 32 := by
          rw [← hx]
          intro e
          apply hxc
          apply UInt8.toNat_inj.1
          show x.toNat = 32
          omega
        have hqb : (((t[j]).toNat : Int) == 32) = false := by rw [beq_eq_false_iff_ne]; exact hq
        have HN2 : Hid ((32 : UInt8) ∉ (t.extract k (j + 1)).data.toList) := by
          show _ ∉ _
          have := HNO.out
          rw [ext_toList] at this ⊢
          rw [show j + 1 - k = (j - k) + 1 by omega, List.take_add_one, List.mem_append]
          rintro (h | h)
          · exact this h
          · rw [List.getElem?_drop, show k + (j - k) = j by omega] at h
            have hg : t.data.toList[j]? = some x := by
              rw [hx, Array.getElem?_toList]
              exact Array.getElem?_eq_getElem hlt
            rw [hg] at h
            simp at h
            exact hxc h.symm
        clear hx hxc hq
        go_wp2
        go_roundw
        case rel => exact ⟨j + 1, by omega, by omega, by go_num, HN2.out, hb⟩
        case measure => simp [intOf]; omega
    · have hje : j = t.size := by omega
      have HN3 : Hid ((32 : UInt8) ∉ t.data.toList.drop k) := by
        have := HNO.out
        rw [ext_toList, hje, List.take_of_length_le (by rw [List.length_drop, bytes_len]; omega)] at this
        exact this
      clear hje
      go_wp2
      exact bodyPost_ret (v := .tuple #[.string ⟨#[]⟩, .int .i64 (-1)]) (by simp [results, Tryd.results131, go_sem]) rfl ⟨Or.inr ⟨HN3.out, rfl⟩, hb⟩

end Go.Proofs.YtfblpbihpmhgjaaDoor

namespace Go.Proofs.YtfblpbihpmhgjaaDoor
open Go.RowKit

theorem head_iff {s p : ByteArray} : ((s.extract 0 p.size).toList == p.toList) = true ↔ p.data.toList <+: s.data.toList := by
  have e1 : (s.extract 0 p.size).data.toList = s.data.toList.take p.size := by rw [ext_toList]; simp
  rw [beq_iff_eq, ByteArray.toList_eq, ByteArray.toList_eq, e1]
  constructor
  · intro e
    rw [← e]
    exact List.take_prefix _ _
  · rintro ⟨r, hr⟩
    rw [← hr]
    have : p.data.toList.length = p.size := bytes_len p
    rw [List.take_append_of_le_length (by omega), List.take_of_length_le (by omega)]
theorem head_no {s p : ByteArray} (h : s.size < p.size) : ¬ p.data.toList <+: s.data.toList := fun hp => by
  have := hp.length_le
  rw [bytes_len, bytes_len] at this
  omega
def HeadE (s p : ByteArray) (e : Ending) : Prop := ∃ b, e = .returned (.bool b) ∧ (b = true ↔ p.data.toList <+: s.data.toList)

set_option maxHeartbeats 1000000 in
set_option maxRecDepth 100000 in
theorem hasPrefix_in (s p : ByteArray) (w : World) :
    Calls Tryd.prog 135 #[.string s, .string p] w fun e w' => HeadE s p e ∧ Below w.heap.size w w' := by
  by_cases hlt : s.size < p.size
  · have hI : ¬ (p.size : Int) ≤ (s.size : Int) := by omega
    have hd : decide ((p.size : Int) ≤ (s.size : Int)) = false := decide_eq_false hI
    go_enter Tryd.func135, Tryd.ntmps135
    go_wp2
    go_ret
    exact ⟨⟨false, rfl, Iff.intro (fun h => by simp at h) (fun h => absurd h (head_no hlt))⟩, Below.refl _ _⟩
  · have hI : (p.size : Int) ≤ (s.size : Int) := by omega
    go_enter Tryd.func135, Tryd.ntmps135
    go_wp2
    go_ret
    exact ⟨⟨_, rfl, head_iff⟩, Below.refl _ _⟩

set_option maxHeartbeats 400000 in
theorem hasPrefix_any (s p : ByteArray) (w : World) :
    Calls Tryd.prog 106 #[.string s, .string p] w fun e w' => HeadE s p e ∧ Below w.heap.size w w' := by
  go_enter Tryd.func106, Tryd.ntmps106
  go_wp2_with fail
  refine (hasPrefix_in s p _).mono ?_
  rintro e w1 ⟨⟨b, rfl, hb⟩, hk⟩
  have HB : Hid (b = true ↔ p.data.toList <+: s.data.toList) := hb
  clear hb
  go_wp2
  go_ret
  exact ⟨⟨b, rfl, HB.out⟩, hk⟩

end Go.Proofs.YtfblpbihpmhgjaaDoor
