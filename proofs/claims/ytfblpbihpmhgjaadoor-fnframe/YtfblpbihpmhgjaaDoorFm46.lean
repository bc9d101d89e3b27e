/-
  The document's l5Stamp at any entries, and its draw of a batch that was done, by walks of its Go text.
-/
import Derived.Test.YtfblpbihpmhgjaaDoorFm45
import Derived.Test.YtfblpbihpmhgjaaDoorFm19
namespace Go.Proofs.YtfblpbihpmhgjaaDoor
open Go.RowKit

/-- What is answered of entries that are given times. -/
def StpD (n : Nat) (w : World) (e : Ending) (w' : World) : Prop :=
  ∃ (g i c : Nat) (M : List EntD) (b : Bool), e = .returned (.tuple #[.slice (some ⟨g, 0, none⟩) i c, .bool b]) ∧ OwnE w' w.heap.size g i c M ∧ FewL M ∧ i ≤ n ∧ Below w.heap.size w w'

set_option maxRecDepth 100000 in
set_option maxHeartbeats 8000000 in
theorem stamp_any (a : Option Addr) (n c : Nat) (K : List EntD) (q : Int) (w : World) (hK : EntsAt w a n c K) (hn : n ≤ 100) (hF : FewL K) (hq0 : 0 ≤ q) (hq1 : q ≤ 100000) :
    Calls Tryd.prog 80 #[.slice a n c, .int .i64 q] w fun e w' => StpD n w e w' := by
  have HK : Hid (EntsAt w a n c K) := hK
  have HKF : Hid (FewL K) := hF
  clear hK hF
  obtain ⟨i0, hi, hz0, hz1, hz2⟩ := info_parts Tryd.infoEnt
  have HE0 : Hid ((w.alloc (.cells #[] 85)).ownsRow w.heap.size 85 5 (.slice (some ⟨w.heap.size, 0, none⟩) 0 0) 0 (flatE [])) := by
    have := World.ownsRow_lit (base := w.heap.size) (e := 85) (size := 5) w #[] 0 (Nat.le_refl _) (by simp) (by simp)
    show World.ownsRow _ _ _ _ _ _ _
    simpa [flatE] using this
  have hB0 : Below w.heap.size w (w.alloc (.cells #[] 85)) := (Below.refl _ _).alloc (Nat.le_refl _) _
  go_enter Tryd.func80, Tryd.ntmps80
  go_wp2
  go_loopw [6, 7] (fun vv iv wr => ∃ (i : Nat) (M : List EntD), i ≤ n ∧ iv = .int .i64 i ∧ (∃ g c', vv = .slice (some ⟨g, 0, none⟩) i c' ∧ OwnE wr w.heap.size g i c' M) ∧ FewL M ∧ Below w.heap.size w wr) (fun _ iv _ => n - (intOf iv).toNat)
  case atStart => exact ⟨0, [], Nat.zero_le _, rfl, ⟨_, _, rfl, HE0.out, rfl, by simp⟩, fun l hl => by simp at hl, hB0⟩
  case round =>
    clear HE0 hB0
    obtain ⟨i, M, hin, rfl, ⟨gv, cv, rfl, hO⟩, hfl, hb⟩ := hrel
    have HO : Hid (OwnE wr w.heap.size gv i cv M) := hO
    have HFL : Hid (FewL M) := hfl
    have HB : Hid (Below w.heap.size w wr) := hb
    have hbz := hb.size
    clear hO hfl
    by_cases hlt : i < n
    · have hltI : (i : Int) < (n : Int) := by omega
      obtain ⟨b, off, rfl, hbb⟩ := HK.out.form (by omega)
      obtain ⟨s, q0, d, t, m, hg, hlw, g0, g1, g2, g3, g4⟩ := HK.out.ent hb hbb i hlt
      have HLF : Hid (Few s ∧ Few t) := HKF.out (s, q0, d, t, m) (List.mem_of_getElem? hg)
      have HLW : Hid (EntW (s, q0, d, t, m)) := hlw
      have hbr : b < wr.heap.size := Nat.lt_of_lt_of_le hbb hb.size
      clear hg hlw hb
      by_cases h0 : q0 = 0
      · subst h0
        have e1 : IntKind.i64.wrap (q + 1) = q + 1 := by rw [IntWalk.i64_left]; unfold wrap64; omega
        have e2 : IntKind.i64.wrap (q + 1 + (i : Int)) = q + 1 + (i : Int) := by rw [IntWalk.i64_left]; unfold wrap64; omega
        obtain ⟨Q, hQ⟩ : ∃ Q : Int, Q = q + 1 + (i : Int) := ⟨_, rfl⟩
        obtain ⟨wq, hwq⟩ : ∃ wq, wq = wr.alloc (.cells #[.string s, .int .i64 (q + 1 + (i : Int)), .int .i64 d, .string t, .int .i64 m] 85) := ⟨_, rfl⟩
        obtain ⟨Bx, hBx⟩ : ∃ Bx, Bx = wr.heap.size := ⟨_, rfl⟩
        have kq : Below wr.heap.size wr wq := by rw [hwq]; exact (Below.refl _ _).alloc (Nat.le_refl _) _
        have b5 : Box5 wq Bx (.string s) (.int .i64 Q) (.int .i64 d) (.string t) (.int .i64 m) := by
          rw [hwq, hBx, hQ]
          exact Box5.new _ _ _ _ _ _ _
        have CE : Hid (∃ O, Calls Tryd.prog 97 #[.agg #[.string s, .int .i64 Q, .int .i64 d, .string t, .int .i64 m]] wq fun e w' => e = .returned (.bool O) ∧ Below wq.heap.size wq w') := ⟨_, specEnt s t Q d m wq HLW.out.1 HLW.out.2.2.2.1⟩
        have HBQ : Hid (Below w.heap.size w wq) := HB.out.trans (kq.mono HB.out.size)
        have HOQ : Hid (OwnE wq w.heap.size gv i cv M) := HO.out.below kq
        have HWE : Hid (EntW (s, Q, d, t, m)) := ⟨HLW.out.1, (by rw [hQ]; exact WalkArith.wf_i64 (by omega) : (Lit.int .i64 Q).wf = true), HLW.out.2.2⟩
        clear kq
        go_upto_region 9 with fail
        rw [← hwq]
        try rw [← hBx]
        try rw [← hQ]
        clear hwq hBx hQ
        have B5 : Hid (Box5 wq Bx (.string s) (.int .i64 Q) (.int .i64 d) (.string t) (.int .i64 m)) := b5
        have y0 := b5.c0
        have y1 := b5.c1
        have y2 := b5.c2
        have y3 := b5.c3
        have y4 := b5.c4
        have yz := b5.lt
        clear b5
        go_wp2_with fail
        clear y0 y1 y2 y3 y4 yz g0 g1 g2 g3 g4
        obtain ⟨O, CO⟩ := CE.out
        refine CO.mono ?_
        rintro e w1 ⟨rfl, hb1⟩
        have HB1 : Hid (Below w.heap.size w w1) := HBQ.out.trans (hb1.mono HBQ.out.size)
        have HO1 : Hid (OwnE w1 w.heap.size gv i cv M) := HOQ.out.below hb1
        have b6 := B5.out.below hb1
        have y0 := b6.c0
        have y1 := b6.c1
        have y2 := b6.c2
        have y3 := b6.c3
        have y4 := b6.c4
        have yz := b6.lt
        have hb1z := HB1.out.size
        clear hb1 b6 CO CE
        cases O with
        | false =>
          go_wp2
          exact bodyPost_ret (v := .tuple #[.slice (some ⟨gv, 0, none⟩) i cv, .bool false]) (by simp [results, Tryd.results80, go_sem]) rfl ⟨gv, i, cv, M, false, rfl, HO1.out, HFL.out, by omega, HB1.out⟩
        | true =>
          have HCN : Hid (∀ j u, [Value.string s, .int .i64 Q, .int .i64 d, .string t, .int .i64 m][j]? = some u → (w1.alloc (.cells #[.string s, .int .i64 Q, .int .i64 d, .string t, .int .i64 m] 85)).cell? ((⟨w1.heap.size, 0, none⟩ : Addr).add j) = some u) := cellFive w1 s Q d t m
          have ka : Below w1.heap.size w1 (w1.alloc (.cells #[.string s, .int .i64 Q, .int .i64 d, .string t, .int .i64 m] 85)) := (Below.refl _ _).alloc (Nat.le_refl _) _
          have HVA : Hid (OwnE (w1.alloc (.cells #[.string s, .int .i64 Q, .int .i64 d, .string t, .int .i64 m] 85)) w.heap.size gv i cv M) := HO1.out.below ka
          have HBA : Hid (Below w.heap.size w (w1.alloc (.cells #[.string s, .int .i64 Q, .int .i64 d, .string t, .int .i64 m] 85))) := HB1.out.trans (ka.mono HB1.out.size)
          clear ka
          go_wp2_with (at_builtin; refine wpList_append_own _ rfl _ _ 40 rfl w.heap.size 85 i0 _ 5 56 Tryd.underlying40 hi hz0 hz1 hz2 rfl (by decide) _ _ _ rfl HVA.out.owns ⟨w1.heap.size, 0, none⟩ 1 1 [.string s, .int .i64 Q, .int .i64 d, .string t, .int .i64 m] rfl rfl HCN.out (by intro u hu; simp at hu; rcases hu with rfl | rfl | rfl | rfl | rfl <;> rfl) (by unfold maxLen; omega) (by omega) HBA.out.size ?_; intro v2 w2 hown2 hgrow2 hnil2; obtain ⟨g2, c2, rfl⟩ := rowSome hown2 hnil2)
          go_roundw
          case rel =>
            refine ⟨i + 1, M ++ [(s, Q, d, t, m)], by omega, by go_num, ⟨g2, c2, rfl, ⟨?_, ?_, ?_⟩⟩, HFL.out.snoc HLF.out.1 HLF.out.2, ?_⟩
            · rw [flatE_append]
              exact hown2
            · rw [List.length_append, HVA.out.len]; rfl
            · intro l hl
              rcases List.mem_append.1 hl with h | h
              · exact HVA.out.ents l h
              · rw [List.mem_singleton] at h; subst h; exact HWE.out
            · exact HBA.out.grown hgrow2 HBA.out.size (fun k e => (HVA.out.owns.lt k e).1)
          case measure => simp [intOf]; omega
      · have h0b : (q0 == 0) = false := by simpa using h0
        have h0d : decide (q0 = 0) = false := decide_eq_false h0
        have ka : Below wr.heap.size wr (wr.alloc (.cells #[.string s, .int .i64 q0, .int .i64 d, .string t, .int .i64 m] 85)) := (Below.refl _ _).alloc (Nat.le_refl _) _
        have HBN : Hid (Below w.heap.size w (wr.alloc (.cells #[.string s, .int .i64 q0, .int .i64 d, .string t, .int .i64 m] 85))) := HB.out.trans (ka.mono HB.out.size)
        have HON : Hid (OwnE (wr.alloc (.cells #[.string s, .int .i64 q0, .int .i64 d, .string t, .int .i64 m] 85)) w.heap.size gv i cv M) := HO.out.below ka
        clear ka
        go_wp2
        exact bodyPost_ret (v := .tuple #[.slice (some ⟨gv, 0, none⟩) i cv, .bool false]) (by simp [results, Tryd.results80, go_sem]) rfl ⟨gv, i, cv, M, false, rfl, HON.out, HFL.out, by omega, HBN.out⟩
    · have hltI : ¬ (i : Int) < (n : Int) := by omega
      by_cases h1 : 1 ≤ n
      · have h1I : (n : Int) ≥ 1 := by omega
        by_cases h12 : n ≤ 12
        · have h12I : (n : Int) ≤ 12 := by omega
          go_wp2
          exact bodyPost_ret (v := .tuple #[.slice (some ⟨gv, 0, none⟩) i cv, .bool true]) (by simp [results, Tryd.results80, go_sem]) rfl ⟨gv, i, cv, M, true, rfl, HO.out, HFL.out, by omega, HB.out⟩
        · have h12I : ¬ (n : Int) ≤ 12 := by omega
          go_wp2
          exact bodyPost_ret (v := .tuple #[.slice (some ⟨gv, 0, none⟩) i cv, .bool false]) (by simp [results, Tryd.results80, go_sem]) rfl ⟨gv, i, cv, M, false, rfl, HO.out, HFL.out, by omega, HB.out⟩
      · have h1I : ¬ (n : Int) ≥ 1 := by omega
        go_wp2
        exact bodyPost_ret (v := .tuple #[.slice (some ⟨gv, 0, none⟩) i cv, .bool false]) (by simp [results, Tryd.results80, go_sem]) rfl ⟨gv, i, cv, M, false, rfl, HO.out, HFL.out, by omega, HB.out⟩

end Go.Proofs.YtfblpbihpmhgjaaDoor
