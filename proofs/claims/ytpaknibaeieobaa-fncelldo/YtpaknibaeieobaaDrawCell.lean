/-
  The cell and the entry that a law draws, by a walk of its Go text.
-/
import Derived.Test.YtpaknibaeieobaaBox3
import Derived.Test.YtpaknibaeieobaaDrawEnt
import Derived.Test.YtpaknibaeieobaaBytesD
import Derived.Test.YtpaknibaeieobaaCell
namespace Go.Proofs.Ytpaknibaeieobaa
open Go.RowKit

attribute [local go_sem] Oper.semAt_some

theorem specCellE (b : Bool) (t k t' : ByteArray) (n q d n' : Int) (w : World) (ht : Few t) (ht' : Few t') :
    Calls Try.prog 24 #[.agg #[.bool b, .string t, .int .i64 n], .agg #[.string k, .int .i64 q, .int .i64 d, .string t', .int .i64 n']] w fun e w' => ∃ cb ct cn, e = .returned (.agg #[.bool cb, .string ct, .int .i64 cn]) ∧ Few ct ∧ Below w.heap.size w w' :=
  (specCell b t k t' n q d n' w).mono fun e w' ⟨he, hb⟩ => ⟨(cellN b t n d t' n').1, (cellN b t n d t' n').2.1, (cellN b t n d t' n').2.2, he, by
    unfold cellN
    split
    · exact ht'
    · split
      · unfold Few; decide
      · split
        · exact ht
        · exact ht, hb⟩
theorem below_nextC {w w1 w2 : World} {R : Nat} (h1 : Below w.heap.size w w1) (h : w1.grownBy w2 (some R)) (hR : w.heap.size ≤ R) : Below w.heap.size w w2 :=
  h1.trans ⟨h.os, h.tape, h.output, h.size, fun k hk => h.block k (Nat.lt_of_lt_of_le hk h1.size) (fun e => by cases e; omega)⟩

/-- A cell and an entry that have been drawn. -/
def CellR (w : World) (e : Ending) (w' : World) : Prop :=
  ∃ cb ct cn k t q d n, e = .returned (.tuple #[.agg #[.bool cb, .string ct, .int .i64 cn], .agg #[.string k, .int .i64 q, .int .i64 d, .string t, .int .i64 n]]) ∧ Few ct ∧ EntF k t q d n ∧ Below w.heap.size w w'
/-- What the loop keeps. -/
def CellL (w : World) (X C R : Nat) (a : Option Addr) (len cap j : Nat) (v : World) : Prop :=
  ∃ cb ct cn P, Box3 v C (.bool cb) (.string ct) (.int .i64 cn) ∧ Few ct ∧ RdAt v R a len cap P ∧ P + 5 * j ≤ 100 ∧ Box3 v X (.bool false) (.string ⟨#[]⟩) (.int .i64 0) ∧ Box5 v (X + 1) (.string ⟨#[]⟩) (.int .i64 0) (.int .i64 0) (.string ⟨#[]⟩) (.int .i64 0) ∧ Below w.heap.size w v

set_option maxRecDepth 100000 in
set_option maxHeartbeats 4000000 in
theorem drawCell_any (a : Option Addr) (len cap : Nat) (w : World) (hb : BytesAt w a len cap) :
    Calls Try.prog 50 #[.slice a len cap] w fun e w' => CellR w e w' := by
  have HB : Hid (BytesAt w a len cap) := hb
  clear hb
  obtain ⟨X, hX⟩ : ∃ X, X = w.heap.size := ⟨_, rfl⟩
  obtain ⟨W0, hW0⟩ : ∃ W, W = (w.alloc (.cells #[.bool false, .string ⟨#[]⟩, .int .i64 0] 35)).alloc (.cells #[.string ⟨#[]⟩, .int .i64 0, .int .i64 0, .string ⟨#[]⟩, .int .i64 0] 27) := ⟨_, rfl⟩
  have k0 : Below w.heap.size w W0 := by rw [hW0]; exact ((Below.refl _ _).alloc (Nat.le_refl _) _).alloc (by simp) _
  have B0 : Box3 W0 X (.bool false) (.string ⟨#[]⟩) (.int .i64 0) := by rw [hW0, hX]; exact (Box3.new _ _ _ _ _).alloc _
  have C0 : Box5 W0 (X + 1) (.string ⟨#[]⟩) (.int .i64 0) (.int .i64 0) (.string ⟨#[]⟩) (.int .i64 0) := by
    rw [hW0, hX]
    have := Box5.new (w.alloc (.cells #[.bool false, .string ⟨#[]⟩, .int .i64 0] 35)) 27 (.string ⟨#[]⟩) (.int .i64 0) (.int .i64 0) (.string ⟨#[]⟩) (.int .i64 0)
    simpa using this
  have hs0 : W0.heap.size = X + 1 + 1 := by rw [hW0, hX]; simp
  go_enter Try.func50, Try.ntmps50
  go_wp2_with fail
  rw [← hW0, ← hX]
  have HXw : Hid (w.heap.size ≤ X) := by show w.heap.size ≤ X; omega
  clear hW0 hX
  obtain ⟨hc1, hc2, hc3⟩ := HB.out.keep k0
  refine (l9Open_any a len cap W0 hc1 hc2 hc3).mono ?_
  rintro e w1 ⟨len', rfl, hR1, hb1, hsz1⟩
  rw [hs0] at hR1
  rw [hs0]
  have hXR : X ≠ X + 1 + 1 := by omega
  have hYR : X + 1 ≠ X + 1 + 1 := by omega
  have B1 := B0.below hb1
  have C1 := C0.below hb1
  have HG1 : Hid (Below w.heap.size w w1) := k0.trans (hb1.mono k0.size)
  clear hc1 hc2 hc3 B0 C0 hb1 k0 hs0 hsz1
  go_upto_region 3 with fail
  obtain ⟨C, hC⟩ : ∃ C, C = w1.heap.size := ⟨_, rfl⟩
  obtain ⟨W, hW⟩ : ∃ W, W = w1.alloc (.cells #[.bool false, .string ⟨#[]⟩, .int .i64 0] 35) := ⟨_, rfl⟩
  have kA : Below w1.heap.size w1 W := by rw [hW]; exact (Below.refl _ _).alloc (Nat.le_refl _) _
  have BC : Box3 W C (.bool false) (.string ⟨#[]⟩) (.int .i64 0) := by rw [hW, hC]; exact Box3.new _ _ _ _ _
  have BX := B1.below kA
  have BY := C1.below kA
  have hRW := hR1.below kA
  have HFC : Hid (∀ b off, a = some ⟨b, off, none⟩ → 0 < len' → b ≠ C) := hR1.far (by omega)
  have hCR : C ≠ X + 1 + 1 := by have := hR1.lt; omega
  have hCX : C ≠ X := by have := B1.lt; omega
  have hCY : C ≠ X + 1 := by have := C1.lt; omega
  have HCw : Hid (w.heap.size ≤ C) := by show w.heap.size ≤ C; have := HG1.out.size; omega
  have HGW : Hid (Below w.heap.size w W) := HG1.out.trans (kA.mono HG1.out.size)
  rw [← hW, ← hC]
  clear hW hC kA B1 C1 hR1 HG1
  go_wp2_with fail
  refine (pick_any (X + 1 + 1) 0 a len' cap 4 _ hRW (by omega) (by omega)).mono ?_
  rintro e w2 ⟨z, rfl, hz, hR2, hg2⟩
  have hz0 := hz.1
  have hz3 := hz.2 (by omega)
  obtain ⟨j0, rfl⟩ : ∃ j : Nat, z = j := ⟨z.toNat, by omega⟩
  have HL0 : Hid (CellL w X C (X + 1 + 1) a len' cap j0 w2) := ⟨_, _, _, _, BC.grown hg2 hCR, (by unfold Few; decide), hR2, by omega, BX.grown hg2 hXR, BY.grown hg2 hYR, below_nextC HGW.out hg2 (by have := HXw.out; omega)⟩
  clear BC BX BY hRW HGW hg2 hR2 hz hz0
  go_wp2
  go_loopw [6] (fun i wr => ∃ j : Nat, j ≤ 3 ∧ i = .int .i64 j ∧ CellL w X C (X + 1 + 1) a len' cap j wr) (fun i _ => (intOf i).toNat)
  case atStart => exact ⟨j0, by omega, rfl, HL0.out⟩
  case round =>
    obtain ⟨j, hj3, rfl, cb, ct, cn, P, BC, hct, hR, hP, BX, BY, hG⟩ := hrel
    have HF : Hid (Few ct) := hct
    have HG : Hid (Below w.heap.size w wr) := hG
    clear hct hG HL0
    by_cases hj : j = 0
    · subst hj
      have hP' : P < 99000 := by omega
      clear hP
      go_wp2_with fail
      refine (l3Entry_any (X + 1 + 1) P a len' cap 2 _ hR hP' (by decide)).mono ?_
      rintro e v1 ⟨k, t, q, d, n, P3, rfl, hF3, hR1, hP3, hg3⟩
      have BC1 := BC.grown hg3 hCR
      have BX1 := BX.grown hg3 hXR
      have BY1 := BY.grown hg3 hYR
      have HG1 : Hid (Below w.heap.size w v1) := below_nextC HG.out hg3 (by have := HXw.out; omega)
      have HF3 : Hid (EntF k t q d n) := hF3
      clear BC BX BY HG hg3 hF3 hR
      go_upto_region 8 with fail
      obtain ⟨E, hE⟩ : ∃ E, E = v1.heap.size := ⟨_, rfl⟩
      obtain ⟨V, hV⟩ : ∃ V, V = v1.alloc (.cells #[.string k, .int .i64 q, .int .i64 d, .string t, .int .i64 n] 27) := ⟨_, rfl⟩
      have kE : Below v1.heap.size v1 V := by rw [hV]; exact (Below.refl _ _).alloc (Nat.le_refl _) _
      have BE : Box5 V E (.string k) (.int .i64 q) (.int .i64 d) (.string t) (.int .i64 n) := by rw [hV, hE]; exact Box5.new _ _ _ _ _ _ _
      have BC3 := BC1.below kE
      have BX3 := BX1.below kE
      have BY3 := BY1.below kE
      have hR3 := hR1.below kE
      have hER : E ≠ X + 1 + 1 := by have := hR1.lt; omega
      have hEX : E ≠ X := by have := BX1.lt; omega
      have hEY : E ≠ X + 1 := by have := BY1.lt; omega
      have hEC : E ≠ C := by have := BC1.lt; omega
      have HEw : Hid (w.heap.size ≤ E) := by show w.heap.size ≤ E; have := HG1.out.size; omega
      have HG3 : Hid (Below w.heap.size w V) := HG1.out.trans (kE.mono HG1.out.size)
      rw [← hV, ← hE]
      clear hV hE kE BC1 BX1 BY1 hR1 HG1
      go_wp2_with fail
      refine (pick_any (X + 1 + 1) P3 a len' cap 16 _ hR3 (by omega) (by omega)).mono ?_
      rintro e v2 ⟨z, rfl, hz, hR4, hg4⟩
      have BC4 := BC3.grown hg4 hCR
      have BX4 := BX3.grown hg4 hXR
      have BY4 := BY3.grown hg4 hYR
      have BE4 := BE.grown hg4 hER
      have HG4 : Hid (Below w.heap.size w v2) := below_nextC HG3.out hg4 (by have := HXw.out; omega)
      have hz0 := hz.1
      clear BC3 BX3 BY3 BE HG3 hg4 hR3 hz
      have hXY : X ≠ X + 1 := by omega
      have hXw := HXw.out
      have hYw : w.heap.size ≤ X + 1 := by omega
      by_cases z0 : z = 0
      · subst z0
        go_wp2_with fail
        have kc : Below v2.heap.size v2 (v2.alloc (.cells (([0, 4] : List Int).map (Value.int .i64)).toArray 3)) := (Below.refl _ _).alloc (Nat.le_refl _) _
        refine (num_any Wf (X + 1 + 1) (P3 + 1) a len' cap v2.heap.size 0 2 2 _ (hR4.below kc) (by omega) (by omega) (by omega) (by have := hR4.lt; omega) (by simp) (ints_new v2 3 [0, 4] Wf ?_)).mono ?_
        · intro s hs
          simp only [List.mem_cons, List.not_mem_nil, or_false] at hs
          rcases hs with rfl | rfl <;> (unfold Wf; decide)
        rintro e v3 ⟨d', rfl, hd', hR5, hg5⟩
        have BC5 := (BC4.below kc).grown hg5 hCR
        have BX5 := (BX4.below kc).grown hg5 hXR
        have BY5 := (BY4.below kc).grown hg5 hYR
        have BE5 := (BE4.below kc).grown hg5 hER
        have HG5 : Hid (Below w.heap.size w v3) := below_nextC (HG4.out.trans (kc.mono HG4.out.size)) hg5 (by omega)
        have HF5 : Hid (EntF k t q d' n) := ⟨HF3.out.1, HF3.out.2.1, HF3.out.2.2.1, hd', HF3.out.2.2.2.2⟩
        clear BC4 BX4 BY4 BE4 HG4 hg5 kc hR4 HF3 hd' hR5
        have e2 := BE5.c2
        have fe2 := BE5.fr 2
        have lE := BE5.lt
        go_upto_region 10 with fail
        obtain ⟨U, hU⟩ : ∃ U, U = v3.setCell ⟨E, 2, none⟩ (.int .i64 d') := ⟨_, rfl⟩
        have BCu : Box3 U C (.bool cb) (.string ct) (.int .i64 cn) := by rw [hU]; exact BC5.other (Ne.symm hEC) _ _
        have BXu : Box3 U X (.bool false) (.string ⟨#[]⟩) (.int .i64 0) := by rw [hU]; exact BX5.other (Ne.symm hEX) _ _
        have BYu : Box5 U (X + 1) (.string ⟨#[]⟩) (.int .i64 0) (.int .i64 0) (.string ⟨#[]⟩) (.int .i64 0) := by rw [hU]; exact BY5.other (Ne.symm hEY) _ _
        have BEu : Box5 U E (.string k) (.int .i64 q) (.int .i64 d') (.string t) (.int .i64 n) := by rw [hU]; exact BE5.set2 _
        have HGu : Hid (Below w.heap.size w U) := by show Below w.heap.size w U; rw [hU]; exact HG5.out.setCell (p := ⟨E, 2, none⟩) HEw.out _
        rw [← hU]
        clear hU BC5 BX5 BY5 BE5 HG5 e2 fe2 lE
        have BC0 : Box3 U.drew C (.bool cb) (.string ct) (.int .i64 cn) := BCu.below (Below.refl _ U).drew
        have BE0 : Box5 U.drew E (.string k) (.int .i64 q) (.int .i64 d') (.string t) (.int .i64 n) := BEu.below (Below.refl _ U).drew
        have x0 := BXu.c0
        have fx0 := BXu.fr 0
        have x1 := BXu.c1
        have fx1 := BXu.fr 1
        have x2 := BXu.c2
        have fx2 := BXu.fr 2
        have lx := BXu.lt
        have y0 := BYu.c0
        have fy0 := BYu.fr 0
        have y1 := BYu.c1
        have fy1 := BYu.fr 1
        have y2 := BYu.c2
        have fy2 := BYu.fr 2
        have y3 := BYu.c3
        have fy3 := BYu.fr 3
        have y4 := BYu.c4
        have fy4 := BYu.fr 4
        have ly := BYu.lt
        have q0 := BCu.c0
        have q1 := BCu.c1
        have q2 := BCu.c2
        have p0 := BEu.c0
        have p1 := BEu.c1
        have p2 := BEu.c2
        have p3 := BEu.c3
        have p4 := BEu.c4
        have lq := BCu.lt
        have lp := BEu.lt
        have nCX := Ne.symm hCX
        have nCY := Ne.symm hCY
        have nEX := Ne.symm hEX
        have nEY := Ne.symm hEY
        clear BC0 BE0 BCu BEu BXu BYu
        go_region_with (fail)
        all_goals
          go_wp2
          try simp only [Exit.inBlock, Exit.then]
          refine bodyPost_ret (v := .tuple #[.agg #[.bool cb, .string ct, .int .i64 cn], .agg #[.string k, .int .i64 q, .int .i64 d', .string t, .int .i64 n]]) (by simp [results, Try.results50, go_sem, x0, x1, x2, y0, y1, y2, y3, y4]) rfl ⟨cb, ct, cn, k, t, q, d', n, rfl, HF.out, HF5.out, ?_⟩
          first | with_reducible exact ((((((((HGu.out.setCell (p := ⟨X, 0, none⟩) hXw _).setCell (p := ⟨X, 1, none⟩) hXw _).setCell (p := ⟨X, 2, none⟩) hXw _).setCell (p := ⟨X + 1, 0, none⟩) hYw _).setCell (p := ⟨X + 1, 1, none⟩) hYw _).setCell (p := ⟨X + 1, 2, none⟩) hYw _).setCell (p := ⟨X + 1, 3, none⟩) hYw _).setCell (p := ⟨X + 1, 4, none⟩) hYw _).drew | with_reducible exact ((((((((HGu.out.setCell (p := ⟨X + 1, 0, none⟩) hYw _).setCell (p := ⟨X + 1, 1, none⟩) hYw _).setCell (p := ⟨X + 1, 2, none⟩) hYw _).setCell (p := ⟨X + 1, 3, none⟩) hYw _).setCell (p := ⟨X + 1, 4, none⟩) hYw _).setCell (p := ⟨X, 0, none⟩) hXw _).setCell (p := ⟨X, 1, none⟩) hXw _).setCell (p := ⟨X, 2, none⟩) hXw _).drew
      · have z1 : (z == 0) = false := by simpa using z0
        have HF5 : Hid (EntF k t q d n) := HF3.out
        go_upto_region 10 with fail
        obtain ⟨U, hU⟩ : ∃ U, U = v2 := ⟨_, rfl⟩
        rw [← hU] at BC4 BX4 BY4 BE4 HG4 ⊢
        clear hU hR4
        have BCu := BC4
        have BXu := BX4
        have BYu := BY4
        have BEu := BE4
        have HGu := HG4
        clear BC4 BX4 BY4 BE4 HG4
        have BC0 : Box3 U.drew C (.bool cb) (.string ct) (.int .i64 cn) := BCu.below (Below.refl _ U).drew
        have BE0 : Box5 U.drew E (.string k) (.int .i64 q) (.int .i64 d) (.string t) (.int .i64 n) := BEu.below (Below.refl _ U).drew
        have x0 := BXu.c0
        have fx0 := BXu.fr 0
        have x1 := BXu.c1
        have fx1 := BXu.fr 1
        have x2 := BXu.c2
        have fx2 := BXu.fr 2
        have lx := BXu.lt
        have y0 := BYu.c0
        have fy0 := BYu.fr 0
        have y1 := BYu.c1
        have fy1 := BYu.fr 1
        have y2 := BYu.c2
        have fy2 := BYu.fr 2
        have y3 := BYu.c3
        have fy3 := BYu.fr 3
        have y4 := BYu.c4
        have fy4 := BYu.fr 4
        have ly := BYu.lt
        have q0 := BCu.c0
        have q1 := BCu.c1
        have q2 := BCu.c2
        have p0 := BEu.c0
        have p1 := BEu.c1
        have p2 := BEu.c2
        have p3 := BEu.c3
        have p4 := BEu.c4
        have lq := BCu.lt
        have lp := BEu.lt
        have nCX := Ne.symm hCX
        have nCY := Ne.symm hCY
        have nEX := Ne.symm hEX
        have nEY := Ne.symm hEY
        clear BC0 BE0 BCu BEu BXu BYu
        go_region_with (fail)
        all_goals
          go_wp2
          try simp only [Exit.inBlock, Exit.then]
          refine bodyPost_ret (v := .tuple #[.agg #[.bool cb, .string ct, .int .i64 cn], .agg #[.string k, .int .i64 q, .int .i64 d, .string t, .int .i64 n]]) (by simp [results, Try.results50, go_sem, x0, x1, x2, y0, y1, y2, y3, y4]) rfl ⟨cb, ct, cn, k, t, q, d, n, rfl, HF.out, HF5.out, ?_⟩
          first | with_reducible exact ((((((((HGu.out.setCell (p := ⟨X, 0, none⟩) hXw _).setCell (p := ⟨X, 1, none⟩) hXw _).setCell (p := ⟨X, 2, none⟩) hXw _).setCell (p := ⟨X + 1, 0, none⟩) hYw _).setCell (p := ⟨X + 1, 1, none⟩) hYw _).setCell (p := ⟨X + 1, 2, none⟩) hYw _).setCell (p := ⟨X + 1, 3, none⟩) hYw _).setCell (p := ⟨X + 1, 4, none⟩) hYw _).drew | with_reducible exact ((((((((HGu.out.setCell (p := ⟨X + 1, 0, none⟩) hYw _).setCell (p := ⟨X + 1, 1, none⟩) hYw _).setCell (p := ⟨X + 1, 2, none⟩) hYw _).setCell (p := ⟨X + 1, 3, none⟩) hYw _).setCell (p := ⟨X + 1, 4, none⟩) hYw _).setCell (p := ⟨X, 0, none⟩) hXw _).setCell (p := ⟨X, 1, none⟩) hXw _).setCell (p := ⟨X, 2, none⟩) hXw _).drew
    · have hj0 : (0 : Int) < (j : Int) := by omega
      have hP' : P < 99000 := by omega
      go_upto_region 6 with fail
      have BC0 : Box3 wr.drew C (.bool cb) (.string ct) (.int .i64 cn) := BC.below (Below.refl _ wr).drew
      have BX0 := BX.below (Below.refl _ wr).drew
      have BY0 := BY.below (Below.refl _ wr).drew
      have hR0 := hR.below (Below.refl _ wr).drew
      have HG0 : Hid (Below w.heap.size w wr.drew) := HG.out.drew
      have a0 := BC.c0
      have a1 := BC.c1
      have a2 := BC.c2
      have lc := BC.lt
      go_region_with (first
        | (go_at_call 75; refine (l3Entry_any (X + 1 + 1) P a len' cap 1 _ hR0 hP' (by decide)).mono ?_; rintro e v1 ⟨ek, et, eq, ed, en, P3, rfl, hF3, hR1, hP3, hg3⟩; have BC1 := BC0.grown hg3 hCR; have BX1 := BX0.grown hg3 hXR; have BY1 := BY0.grown hg3 hYR; have HG1 : Hid (Below w.heap.size w v1) := below_nextC HG0.out hg3 (by have := HXw.out; omega); have b0 := BC1.c0; have b1 := BC1.c1; have b2 := BC1.c2; have lb := BC1.lt)
        | (go_at_call 24; refine (specCellE _ _ _ _ _ _ _ _ _ HF.out hF3.2.1).mono ?_; rintro e v2 ⟨cb', ct', cn', rfl, hct', hb2⟩; have BC2 := BC1.below hb2; have BX2 := BX1.below hb2; have BY2 := BY1.below hb2; have hR2 := hR1.below hb2; have HG2 : Hid (Below w.heap.size w v2) := HG1.out.trans (hb2.mono HG1.out.size); have x0 := BC2.c0; have x1 := BC2.c1; have x2 := BC2.c2; have f0 := BC2.fr 0; have f1 := BC2.fr 1; have f2 := BC2.fr 2; have lC := BC2.lt))
      all_goals
        go_wp2
        go_round
        case rel => exact ⟨j - 1, by omega, by go_num, cb', ct', cn', P3, BC2.setAll _ _ _, hct', ((hR2.other hCR HFC.out 0 _).other hCR HFC.out 1 _).other hCR HFC.out 2 _, by omega, ((BX2.other (Ne.symm hCX) 0 _).other (Ne.symm hCX) 1 _).other (Ne.symm hCX) 2 _, ((BY2.other (Ne.symm hCY) 0 _).other (Ne.symm hCY) 1 _).other (Ne.symm hCY) 2 _, ((HG2.out.setCell (p := ⟨C, 0, none⟩) HCw.out _).setCell (p := ⟨C, 1, none⟩) HCw.out _).setCell (p := ⟨C, 2, none⟩) HCw.out _⟩
        case measure => simp [intOf]; omega
end Go.Proofs.Ytpaknibaeieobaa
