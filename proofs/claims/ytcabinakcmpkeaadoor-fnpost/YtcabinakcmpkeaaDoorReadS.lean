/-
  What the document's PostRead answers at every text, by a walk of its Go text.
-/
import Derived.Test.YtcabinakcmpkeaaDoorLegRd
import Derived.Test.YtcabinakcmpkeaaDoorReadI
import Derived.Test.YtcabinakcmpkeaaDoorTextS
namespace Go.Proofs.YtcabinakcmpkeaaDoor
open Go.RowKit Go.Shelf

/-- Ahead of word i. -/
structure RdM (X : Nat) (W2 : World) (A : List (List UInt8)) (t : ByteArray) (id : Int) (i : Nat) (b : Bool) (L : List LegD) (vL : Value) (wr : World) : Prop where
  lo : 1 ≤ i
  hi : i ≤ A.length
  six : i ≤ 6
  len : L.length + 1 = i
  c0 : wr.cell? ⟨X, 0, none⟩ = some (.int .i64 id)
  c1 : wr.cell? ⟨X, 1, none⟩ = some vL
  fr : ∀ o, wr.frozen? ⟨X, o, none⟩ = false
  own : wr.ownsRow X 58 3 vL L.length (flat L)
  ne : vL.ownBlock ≠ some X
  bel : Below X W2 wr
  lw : ∀ l ∈ L, LegW l
  rel : ∀ id' L', postB id' L' = true → t.data.toList = postT id' L' → id = id' ∧ b = true ∧ L = L'.take (i - 1)
def RdX (X : Nat) (W2 : World) (A : List (List UInt8)) (t : ByteArray) (id : Int) (o i : Value) (wr : World) : Prop := ∃ (i' : Nat) (b : Bool) (L : List LegD) (vL : Value), i = .int .i64 i' ∧ o = .bool b ∧ RdM X W2 A t id i' b L vL wr

set_option maxHeartbeats 4000000 in
set_option maxRecDepth 100000 in
theorem specRead (t : ByteArray) (w : World) (ht : t.size ≤ 1048576) :
    Calls Tryd.prog 14 #[.string t] w fun e w' => ReadR w.heap.size t e w' ∧ Below w.heap.size w w' := by
  obtain ⟨W0, hW0⟩ : ∃ W0, W0 = w.alloc (.cells #[.int .i64 0, .slice none 0 0] 29) := ⟨_, rfl⟩
  have KW : Below w.heap.size w W0 := by rw [hW0]; exact (Below.refl _ _).alloc (Nat.le_refl _) _
  have r0 : W0.cell? ⟨w.heap.size, 0, none⟩ = some (.int .i64 0) := by rw [hW0]; simp
  have r1 : W0.cell? ⟨w.heap.size, 1, none⟩ = some (.slice none 0 0) := by rw [hW0]; simp
  have rf : ∀ o, W0.frozen? ⟨w.heap.size, o, none⟩ = false := by rw [hW0]; exact fun o => World.frozen?_alloc_new w _ _ o
  have hl0 : w.heap.size < W0.heap.size := World.block_lt_of_cell? _ _ r0
  have HKW : Hid (Below w.heap.size w W0) := KW
  obtain ⟨A, hA⟩ : ∃ A, A = cutL 32 t.data.toList := ⟨_, rfl⟩
  have EA : Hid (A = cutL 32 t.data.toList) := hA
  have CC : Hid (Calls Tryd.prog 41 #[.string t, .int .u8 32] W0 fun e w' => ∃ v, e = .returned v ∧ w'.ownsRow W0.heap.size 9 1 v A.length (strs A) ∧ Below W0.heap.size W0 w') := by
    rw [hA]
    exact specCutW t 32 W0 ht
  have hA1 : 1 ≤ A.length := by rw [hA]; exact cut_ne _ _
  have HSM : Hid (∀ p ∈ A, p.length ≤ 1048576) := fun p hp => by
    rw [hA] at hp
    have := cut_small 32 _ p hp
    rw [show t.data.toList.length = t.size by rw [Array.length_toList]; rfl] at this
    omega
  clear hA KW
  go_enter Tryd.func14, Tryd.ntmps14
  go_wp2_with fail
  rw [← hW0]
  clear hW0
  refine CC.out.mono ?_
  rintro e w1 ⟨v, rfl, ho, hb1⟩
  obtain ⟨g, cap, rfl, hg0, hg1, hcap, hcell⟩ := strs_cell ho (by omega)
  obtain ⟨N, hN⟩ : ∃ N, N = A.length := ⟨_, rfl⟩
  have EN : Hid (N = A.length) := hN
  rw [← hN] at hA1 hcap ⊢
  obtain ⟨x0, hx0⟩ : ∃ x, A[0]? = some x := ⟨A[0]'(by rw [← hN]; omega), List.getElem?_eq_getElem _⟩
  have k0 := hcell 0 x0 hx0
  have HX0 : Hid (A[0]? = some x0) := hx0
  have CN : Hid (∀ w', Calls Tryd.prog 42 #[.string ⟨x0.toArray⟩] w' fun e w'' => NumE x0 e ∧ w' = w'') := fun w' => by
    have := specNum ⟨x0.toArray⟩ w' (by rw [str_sizeC]; exact HSM.out x0 (List.mem_of_getElem? hx0))
    simpa using this
  obtain ⟨s0, hs0⟩ : ∃ s0 : ByteArray, s0 = ⟨x0.toArray⟩ := ⟨_, rfl⟩
  rw [← hs0] at k0 CN
  have q0 := cell_later hb1 r0
  have q1 := cell_later hb1 r1
  have qf : ∀ o, w1.frozen? ⟨w.heap.size, o, none⟩ = false := fun o => (hb1.frozen (p := ⟨w.heap.size, o, none⟩) hl0).trans (rf o)
  have HB1 : Hid (Below w.heap.size w w1) := HKW.out.trans (hb1.mono HKW.out.size)
  have hR1 : w.heap.size < w1.heap.size := World.block_lt_of_cell? _ _ q0
  have hNI : (0 : Int) < (N : Int) := by omega
  have HCELL : Hid (∀ k l, A[k]? = some l → w1.cell? ⟨g, k, none⟩ = some (.string ⟨l.toArray⟩)) := hcell
  clear hs0 hN hx0 hcell ho hb1 r0 r1 rf CC hl0
  go_wp2_with fail
  refine (CN.out _).mono ?_
  rintro e w2 ⟨⟨id, bb, rfl, hNum⟩, rfl⟩
  have HNUM : Hid (NumR x0 id bb) := hNum
  obtain ⟨W2, hW2⟩ : ∃ W2, W2 = w1.alloc (.cells #[.int .i64 id, .slice none 0 0] 29) := ⟨_, rfl⟩
  obtain ⟨X, hX⟩ : ∃ X, X = w1.heap.size := ⟨_, rfl⟩
  have k2 : Below w1.heap.size w1 W2 := by rw [hW2]; exact (Below.refl _ _).alloc (Nat.le_refl _) _
  have u0 : W2.cell? ⟨X, 0, none⟩ = some (.int .i64 id) := by rw [hW2, hX]; simp
  have u1 : W2.cell? ⟨X, 1, none⟩ = some (.slice none 0 0) := by rw [hW2, hX]; simp
  have uf : ∀ o, W2.frozen? ⟨X, o, none⟩ = false := by rw [hW2, hX]; exact fun o => World.frozen?_alloc_new w1 _ _ o
  have HX1 : Hid (X = w1.heap.size) := hX
  have HB2 : Hid (Below w.heap.size w W2) := HB1.out.trans (k2.mono HB1.out.size)
  have HR0 : Hid (W2.cell? ⟨w.heap.size, 0, none⟩ = some (.int .i64 0)) := cell_later k2 q0
  have HR1 : Hid (W2.cell? ⟨w.heap.size, 1, none⟩ = some (.slice none 0 0)) := cell_later k2 q1
  have HRF : Hid (∀ o, W2.frozen? ⟨w.heap.size, o, none⟩ = false) := fun o => (k2.frozen (p := ⟨w.heap.size, o, none⟩) hR1).trans (qf o)
  have HWC : Hid (∀ k l, A[k]? = some l → W2.cell? ⟨g, k, none⟩ = some (.string ⟨l.toArray⟩)) := fun k l h => cell_later k2 (HCELL.out k l h)
  have hgX : g < X := by rw [hX]; exact hg1
  have hRX : w.heap.size < X := by rw [hX]; exact hR1
  have hXW : X ≤ W2.heap.size := by rw [hX]; exact k2.size
  have START : Hid (RdM X W2 A t id 1 bb [] (.slice none 0 0) W2) := by
    refine ⟨Nat.le_refl _, by rw [← EN.out]; exact hA1, by omega, rfl, u0, u1, uf, World.ownsRow_nil _ _ _ _, by simp [Value.ownBlock], Below.refl _ _, fun l hl => by simp at hl, fun id' L' h e => ?_⟩
    have h1 := EA.out
    rw [e, cut_post h] at h1
    have h2 := HX0.out
    rw [h1] at h2
    have e0 : x0 = Lib.itoa id' := by simpa using h2.symm
    obtain ⟨i0, i1, _⟩ := postB_all h
    have := HNUM.out.1 id' (by omega) (by omega) e0
    exact ⟨this.1, this.2, by simp⟩
  obtain ⟨i0, hi, hz0, hz1, hz2⟩ := info_parts Tryd.infoLeg
  clear k2 u0 u1 uf hNum HCELL CN k0 q0 q1 qf hX hR1 hg1
  go_wp2
  have hX := HX1.out
  rw [← hW2, ← hX]
  clear hX hW2
  go_loopw [6, 8] (fun o i wr => RdX X W2 A t id o i wr) (fun _ i _ => N - (intOf i).toNat)
  case atStart => exact ⟨1, bb, [], .slice none 0 0, rfl, rfl, START.out⟩
  case round =>
    obtain ⟨i, b, L, vL, rfl, rfl, hM⟩ := hrel
    have HM : Hid (RdM X W2 A t id i b L vL wr) := hM
    have hlo := hM.lo
    have hhi : i ≤ N := by rw [EN.out]; exact hM.hi
    have hsix := hM.six
    have hK := hM.bel
    have hXl : X < wr.heap.size := World.block_lt_of_cell? _ _ hM.c0
    clear hM START
    by_cases hgo : i < N ∧ i ≤ 5
    · obtain ⟨hgo1, hgo2⟩ := hgo
      have g1 : (i : Int) < (N : Int) := by omega
      have g2 : (i : Int) ≤ 5 := by omega
      have hLlen : L.length ≤ 5 := by have := HM.out.len; omega
      obtain ⟨xi, hxi⟩ : ∃ x, A[i]? = some x := ⟨A[i]'(by rw [← EN.out]; exact hgo1), List.getElem?_eq_getElem _⟩
      have HXI : Hid (A[i]? = some xi) := hxi
      have kx : wr.cell? ⟨g, i, none⟩ = some (.string ⟨xi.toArray⟩) := (hK.cell (p := ⟨g, i, none⟩) hgX).trans (HWC.out i xi hxi)
      have hgl : g < wr.heap.size := World.block_lt_of_cell? _ _ kx
      have CL : Hid (∀ w', Calls Tryd.prog 43 #[.string ⟨xi.toArray⟩] w' fun e w'' => LegE xi e ∧ Below w'.heap.size w' w'') := fun w' => by
        have := specLegRd ⟨xi.toArray⟩ w' (by rw [str_sizeC]; exact HSM.out xi (List.mem_of_getElem? hxi))
        simpa using this
      obtain ⟨si, hsi⟩ : ∃ si : ByteArray, si = ⟨xi.toArray⟩ := ⟨_, rfl⟩
      rw [← hsi] at kx CL
      clear hsi hxi
      go_wp2_with fail
      refine (CL.out _).mono ?_
      rintro e w3 ⟨⟨a, cu, n, b2, rfl, hleg⟩, hb3⟩
      have HLEG : Hid (LegW (a, cu, n) ∧ (∀ g, legB g = true → xi = legQ g → (a, cu, n) = g ∧ b2 = true)) := hleg
      obtain ⟨W4, hW4⟩ : ∃ W4, W4 = w3.alloc (.cells #[.string a, .int .i64 cu, .int .i64 n] 58) := ⟨_, rfl⟩
      obtain ⟨Y, hY⟩ : ∃ Y, Y = w3.heap.size := ⟨_, rfl⟩
      have k34 : Below w3.heap.size w3 W4 := by rw [hW4]; exact (Below.refl _ _).alloc (Nat.le_refl _) _
      have kr4 : Below wr.heap.size wr W4 := hb3.trans (k34.mono hb3.size)
      have z0 : W4.cell? ⟨Y, 0, none⟩ = some (.string a) := by rw [hW4, hY]; simp
      have z1 : W4.cell? ⟨Y, 1, none⟩ = some (.int .i64 cu) := by rw [hW4, hY]; simp
      have z2 : W4.cell? ⟨Y, 2, none⟩ = some (.int .i64 n) := by rw [hW4, hY]; simp
      have c1 := cell_later kr4 HM.out.c1
      have hXY : X < Y := by rw [hY]; have := hb3.size; omega
      have hYl : Y < W4.heap.size := World.block_lt_of_cell? _ _ z0
      have hXl4 : X < W4.heap.size := by omega
      have kd : Below W4.heap.size W4 (W4.alloc (.cells (flat [(a, cu, n)]).toArray 58)) := (Below.refl _ _).alloc (Nat.le_refl _) _
      have HOD : Hid ((W4.alloc (.cells (flat [(a, cu, n)]).toArray 58)).ownsRow X 58 3 vL L.length (flat L)) := ownsRow_kb (ownsRow_kb HM.out.own kr4) kd
      have HFN : Hid (∀ j u, (flat [(a, cu, n)])[j]? = some u → (W4.alloc (.cells (flat [(a, cu, n)]).toArray 58)).cell? ((⟨W4.heap.size, 0, none⟩ : Addr).add j) = some u) := flat_newE W4 58 [(a, cu, n)]
      have HZ4 : Hid (X ≤ W4.heap.size) := Nat.le_of_lt hXl4
      have HK4 : Hid (Below X W2 (W4.alloc (.cells (flat [(a, cu, n)]).toArray 58))) := (hK.trans (kr4.mono (Nat.le_of_lt hXl))).trans (kd.mono (Nat.le_of_lt hXl4))
      have HXd : Hid (X < (W4.alloc (.cells (flat [(a, cu, n)]).toArray 58)).heap.size) := Nat.lt_of_lt_of_le hXl4 kd.size
      have HC0d : Hid ((W4.alloc (.cells (flat [(a, cu, n)]).toArray 58)).cell? ⟨X, 0, none⟩ = some (.int .i64 id)) := cell_later kd (cell_later kr4 HM.out.c0)
      have HC1d : Hid ((W4.alloc (.cells (flat [(a, cu, n)]).toArray 58)).cell? ⟨X, 1, none⟩ = some vL) := cell_later kd c1
      have HFd : Hid (∀ o, (W4.alloc (.cells (flat [(a, cu, n)]).toArray 58)).frozen? ⟨X, o, none⟩ = false) := fun o => (kd.frozen (p := ⟨X, o, none⟩) hXl4).trans ((kr4.frozen (p := ⟨X, o, none⟩) hXl).trans (HM.out.fr o))
      clear hb3 k34 kr4 kd hleg CL
      cases b with
      | true =>
        go_upto_region 9 with fail
        rw [← hW4, ← hY]
        clear hW4 hY
        go_wp2_with (at_builtin; refine wpList_append_own _ rfl _ _ 27 rfl X 58 i0 _ 3 32 Tryd.underlying27 hi hz0 hz1 hz2 rfl (by decide) _ _ _ rfl HOD.out ⟨W4.heap.size, 0, none⟩ 1 1 (flat [(a, cu, n)]) rfl rfl HFN.out (flat_one _) (by unfold maxLen; omega) (by omega) (by have := HZ4.out; simp; omega) ?_)
        intro v' wA hown hgrow _
        have hXA := hgrow.block X HXd.out (fun e => HM.out.ne e.symm)
        have c1A : wA.cell? ⟨X, 1, none⟩ = some vL := (World.cell?_of_block (a := ⟨X, 1, none⟩) hXA).trans HC1d.out
        have f1A : wA.frozen? ⟨X, 1, none⟩ = false := (World.frozen?_of_block (a := ⟨X, 1, none⟩) hXA).trans (HFd.out 1)
        have lA : X < wA.heap.size := World.block_lt_of_cell? _ _ c1A
        have hown' : wA.ownsRow X 58 3 v' (L ++ [(a, cu, n)]).length (flat (L ++ [(a, cu, n)])) := by
          rw [flat_append, List.length_append]
          exact hown
        have hvX : v'.ownBlock ≠ some X := by
          intro e
          obtain ⟨tt, htt⟩ := flat_head L (a, cu, n)
          rw [← flat_append] at htt
          obtain ⟨aV, cV, hvV⟩ := own_form hown'
          rcases hown'.2 with ⟨hn, _⟩ | ⟨gg, cap', cur, hv, _⟩
          · rw [hn] at e
            simp [Value.ownBlock] at e
          · have eg : gg = X := by
              rw [hv] at e
              simpa [Value.ownBlock] using e
            have h1 := hown'.cells (g := gg) (by rw [hv]; rfl) 0 _ htt
            have h2 := (World.cell?_of_block (a := ⟨X, 0, none⟩) hXA).trans HC0d.out
            rw [eg] at h1
            have h3 : wA.cell? ⟨X, 0, none⟩ = some (.string tt) := by simpa [Addr.add] using h1
            rw [h2] at h3
            cases h3
        have kA : Below X W2 wA := HK4.out.grown hgrow (by have := HZ4.out; simp; omega) (fun k hk => (HM.out.own.lt k hk).1)
        have HN : Hid (RdM X W2 A t id (i + 1) (true && b2) (L ++ [(a, cu, n)]) v' (wA.setCell ⟨X, 1, none⟩ v')) := by
          refine ⟨by omega, by rw [← EN.out]; omega, by omega, by rw [List.length_append]; have := HM.out.len; simp; omega, ?_, World.cell?_setCell_same' _ _ _ (by rw [c1A]; rfl), fun o => by rw [World.frozen?_setCell, World.frozen?_of_block (a := ⟨X, o, none⟩) hXA]; exact HFd.out o, own_set hown' hvX _, hvX, kA.setCell (p := ⟨X, 1, none⟩) (Nat.le_refl _) _, ?_, ?_⟩
          · rw [World.cell?_setCell_other _ _ _ _ (by simp)]
            exact (World.cell?_of_block (a := ⟨X, 0, none⟩) hXA).trans HC0d.out
          · intro l hl
            rcases List.mem_append.1 hl with h | h
            · exact HM.out.lw l h
            · simp only [List.mem_cons, List.not_mem_nil, or_false] at h
              subst h
              exact HLEG.out.1
          · intro id' L' h e
            obtain ⟨e1, e2, e3⟩ := HM.out.rel id' L' h e
            have h1 := EA.out
            rw [e, cut_post h] at h1
            have h2 := HXI.out
            have hi1 : i = (i - 1) + 1 := by omega
            rw [h1, hi1, List.getElem?_cons_succ, List.getElem?_map] at h2
            obtain ⟨gl, hgl, hq⟩ := Option.map_eq_some_iff.1 h2
            have hlb := (postB_all h).2.2.2.2 gl (List.mem_of_getElem? hgl)
            obtain ⟨f1, f2⟩ := HLEG.out.2 gl hlb hq.symm
            refine ⟨e1, by rw [e2, f2]; rfl, ?_⟩
            rw [show i + 1 - 1 = (i - 1) + 1 by omega, List.take_add_one, hgl, e3, f1]
            rfl
        obtain ⟨aV, cV, hvV⟩ := own_form hown
        subst hvV
        clear hown hown' hvX hgrow hXA kA
        go_wp2
        go_roundw
        case rel => exact ⟨i + 1, true && b2, _, _, by go_num, by simp, HN.out⟩
        case measure => simp [intOf]; omega
      | false =>
        go_upto_region 9 with fail
        rw [← hW4, ← hY]
        clear hW4 hY
        go_wp2_with (at_builtin; refine wpList_append_own _ rfl _ _ 27 rfl X 58 i0 _ 3 32 Tryd.underlying27 hi hz0 hz1 hz2 rfl (by decide) _ _ _ rfl HOD.out ⟨W4.heap.size, 0, none⟩ 1 1 (flat [(a, cu, n)]) rfl rfl HFN.out (flat_one _) (by unfold maxLen; omega) (by omega) (by have := HZ4.out; simp; omega) ?_)
        intro v' wA hown hgrow _
        have hXA := hgrow.block X HXd.out (fun e => HM.out.ne e.symm)
        have c1A : wA.cell? ⟨X, 1, none⟩ = some vL := (World.cell?_of_block (a := ⟨X, 1, none⟩) hXA).trans HC1d.out
        have f1A : wA.frozen? ⟨X, 1, none⟩ = false := (World.frozen?_of_block (a := ⟨X, 1, none⟩) hXA).trans (HFd.out 1)
        have lA : X < wA.heap.size := World.block_lt_of_cell? _ _ c1A
        have hown' : wA.ownsRow X 58 3 v' (L ++ [(a, cu, n)]).length (flat (L ++ [(a, cu, n)])) := by
          rw [flat_append, List.length_append]
          exact hown
        have hvX : v'.ownBlock ≠ some X := by
          intro e
          obtain ⟨tt, htt⟩ := flat_head L (a, cu, n)
          rw [← flat_append] at htt
          obtain ⟨aV, cV, hvV⟩ := own_form hown'
          rcases hown'.2 with ⟨hn, _⟩ | ⟨gg, cap', cur, hv, _⟩
          · rw [hn] at e
            simp [Value.ownBlock] at e
          · have eg : gg = X := by
              rw [hv] at e
              simpa [Value.ownBlock] using e
            have h1 := hown'.cells (g := gg) (by rw [hv]; rfl) 0 _ htt
            have h2 := (World.cell?_of_block (a := ⟨X, 0, none⟩) hXA).trans HC0d.out
            rw [eg] at h1
            have h3 : wA.cell? ⟨X, 0, none⟩ = some (.string tt) := by simpa [Addr.add] using h1
            rw [h2] at h3
            cases h3
        have kA : Below X W2 wA := HK4.out.grown hgrow (by have := HZ4.out; simp; omega) (fun k hk => (HM.out.own.lt k hk).1)
        have HN : Hid (RdM X W2 A t id (i + 1) (false && b2) (L ++ [(a, cu, n)]) v' (wA.setCell ⟨X, 1, none⟩ v')) := by
          refine ⟨by omega, by rw [← EN.out]; omega, by omega, by rw [List.length_append]; have := HM.out.len; simp; omega, ?_, World.cell?_setCell_same' _ _ _ (by rw [c1A]; rfl), fun o => by rw [World.frozen?_setCell, World.frozen?_of_block (a := ⟨X, o, none⟩) hXA]; exact HFd.out o, own_set hown' hvX _, hvX, kA.setCell (p := ⟨X, 1, none⟩) (Nat.le_refl _) _, ?_, ?_⟩
          · rw [World.cell?_setCell_other _ _ _ _ (by simp)]
            exact (World.cell?_of_block (a := ⟨X, 0, none⟩) hXA).trans HC0d.out
          · intro l hl
            rcases List.mem_append.1 hl with h | h
            · exact HM.out.lw l h
            · simp only [List.mem_cons, List.not_mem_nil, or_false] at h
              subst h
              exact HLEG.out.1
          · intro id' L' h e
            obtain ⟨e1, e2, e3⟩ := HM.out.rel id' L' h e
            have h1 := EA.out
            rw [e, cut_post h] at h1
            have h2 := HXI.out
            have hi1 : i = (i - 1) + 1 := by omega
            rw [h1, hi1, List.getElem?_cons_succ, List.getElem?_map] at h2
            obtain ⟨gl, hgl, hq⟩ := Option.map_eq_some_iff.1 h2
            have hlb := (postB_all h).2.2.2.2 gl (List.mem_of_getElem? hgl)
            obtain ⟨f1, f2⟩ := HLEG.out.2 gl hlb hq.symm
            refine ⟨e1, by rw [e2, f2]; rfl, ?_⟩
            rw [show i + 1 - 1 = (i - 1) + 1 by omega, List.take_add_one, hgl, e3, f1]
            rfl
        obtain ⟨aV, cV, hvV⟩ := own_form hown
        subst hvV
        clear hown hown' hvX hgrow hXA kA
        go_wp2
        go_roundw
        case rel => exact ⟨i + 1, false && b2, _, _, by go_num, by simp, HN.out⟩
        case measure => simp [intOf]; omega
    · have HKEY : Hid (∀ id' L', postB id' L' = true → t.data.toList = postT id' L' → id = id' ∧ b = true ∧ L = L') := fun id' L' h e => by
        obtain ⟨e1, e2, e3⟩ := HM.out.rel id' L' h e
        refine ⟨e1, e2, ?_⟩
        have h1 := EA.out
        rw [e, cut_post h] at h1
        have h2 : N = L'.length + 1 := by rw [EN.out, h1]; simp
        have h4 := (postB_all h).2.2.2.1
        rw [e3, List.take_of_length_le (by omega)]
      obtain ⟨aL, cL, hvL⟩ := own_form HM.out.own
      subst hvL
      have HLG : Hid (LegsAt wr aL L.length cL L) := legs_of_own HM.out.own rfl HM.out.lw
      by_cases hlt : i < N
      · have g1 : (i : Int) < (N : Int) := by omega
        have g2 : ¬ (i : Int) ≤ 5 := by omega
        cases b with
        | false =>
          have HNOT : Hid (∀ id' L', postB id' L' = true → t.data.toList ≠ postT id' L') := fun id' L' h e => by have := (HKEY.out id' L' h e).2.1; cases this
          have y0 : wr.cell? ⟨w.heap.size, 0, none⟩ = some (.int .i64 0) := (hK.cell (p := ⟨w.heap.size, 0, none⟩) hRX).trans HR0.out
          have y1 : wr.cell? ⟨w.heap.size, 1, none⟩ = some (.slice none 0 0) := (hK.cell (p := ⟨w.heap.size, 1, none⟩) hRX).trans HR1.out
          have yf0 : wr.frozen? ⟨w.heap.size, 0, none⟩ = false := (hK.frozen (p := ⟨w.heap.size, 0, none⟩) hRX).trans (HRF.out 0)
          have yf1 : wr.frozen? ⟨w.heap.size, 1, none⟩ = false := (hK.frozen (p := ⟨w.heap.size, 1, none⟩) hRX).trans (HRF.out 1)
          have yl : w.heap.size < wr.heap.size := World.block_lt_of_cell? _ _ y0
          have HBZ : Hid (Below w.heap.size w wr) := HB2.out.trans (hK.mono (Nat.le_of_lt hRX))

          clear hK
          go_wp2
          refine bodyPost_ret (v := .tuple #[.agg #[.int .i64 0, .slice none 0 0], .bool false]) (by simp [results, Tryd.results14, go_sem, y0, y1]) rfl ⟨Or.inr ⟨rfl, HNOT.out⟩, (HBZ.out.setCell (p := ⟨w.heap.size, 0, none⟩) (Nat.le_refl _) _).setCell (p := ⟨w.heap.size, 1, none⟩) (Nat.le_refl _) _⟩
        | true =>
          have d0 := HM.out.c0
          have d1 := HM.out.c1
          cases hp : postB id L with
          | false =>
            have HNOT : Hid (∀ id' L', postB id' L' = true → t.data.toList ≠ postT id' L') := fun id' L' h e => by
              obtain ⟨e1, _, e3⟩ := HKEY.out id' L' h e
              subst e1 e3
              rw [hp] at h
              cases h
            have CP := specPostOk id aL L.length cL L wr HLG.out
            rw [hp] at CP
            go_wp2_with fail
            refine CP.mono ?_
            rintro e w5 ⟨rfl, hb5⟩
            have hK5 : Below X W2 w5 := hK.trans (hb5.mono (Nat.le_of_lt hXl))
            have y0 : w5.cell? ⟨w.heap.size, 0, none⟩ = some (.int .i64 0) := (hK5.cell (p := ⟨w.heap.size, 0, none⟩) hRX).trans HR0.out
            have y1 : w5.cell? ⟨w.heap.size, 1, none⟩ = some (.slice none 0 0) := (hK5.cell (p := ⟨w.heap.size, 1, none⟩) hRX).trans HR1.out
            have yf0 : w5.frozen? ⟨w.heap.size, 0, none⟩ = false := (hK5.frozen (p := ⟨w.heap.size, 0, none⟩) hRX).trans (HRF.out 0)
            have yf1 : w5.frozen? ⟨w.heap.size, 1, none⟩ = false := (hK5.frozen (p := ⟨w.heap.size, 1, none⟩) hRX).trans (HRF.out 1)
            have yl : w.heap.size < w5.heap.size := World.block_lt_of_cell? _ _ y0
            have HBZ : Hid (Below w.heap.size w w5) := HB2.out.trans (hK5.mono (Nat.le_of_lt hRX))

            clear hK hK5 hb5
            go_wp2
            refine bodyPost_ret (v := .tuple #[.agg #[.int .i64 0, .slice none 0 0], .bool false]) (by simp [results, Tryd.results14, go_sem, y0, y1]) rfl ⟨Or.inr ⟨rfl, HNOT.out⟩, (HBZ.out.setCell (p := ⟨w.heap.size, 0, none⟩) (Nat.le_refl _) _).setCell (p := ⟨w.heap.size, 1, none⟩) (Nat.le_refl _) _⟩
          | true =>
            have CP := specPostOk id aL L.length cL L wr HLG.out
            rw [hp] at CP
            go_wp2_with fail
            refine CP.mono ?_
            rintro e w5 ⟨rfl, hb5⟩
            have hK5 : Below X W2 w5 := hK.trans (hb5.mono (Nat.le_of_lt hXl))
            have d05 := cell_later hb5 d0
            have d15 := cell_later hb5 d1
            have hX5 : X < w5.heap.size := World.block_lt_of_cell? _ _ d05
            have CT := specText id aL L.length cL L w5 (HLG.out.keep hb5)
            rw [textB_yes hp] at CT
            obtain ⟨u, hu⟩ : ∃ u : ByteArray, u = ⟨(postT id L).toArray⟩ := ⟨_, rfl⟩
            rw [← hu] at CT
            have EU : Hid (u = ⟨(postT id L).toArray⟩) := hu
            clear hu CP
            go_wp2_with fail
            refine CT.mono ?_
            rintro e w6 ⟨rfl, hb6⟩
            have hK6 : Below X W2 w6 := hK5.trans (hb6.mono (Nat.le_of_lt hX5))
            have y0 : w6.cell? ⟨w.heap.size, 0, none⟩ = some (.int .i64 0) := (hK6.cell (p := ⟨w.heap.size, 0, none⟩) hRX).trans HR0.out
            have y1 : w6.cell? ⟨w.heap.size, 1, none⟩ = some (.slice none 0 0) := (hK6.cell (p := ⟨w.heap.size, 1, none⟩) hRX).trans HR1.out
            have yf0 : w6.frozen? ⟨w.heap.size, 0, none⟩ = false := (hK6.frozen (p := ⟨w.heap.size, 0, none⟩) hRX).trans (HRF.out 0)
            have yf1 : w6.frozen? ⟨w.heap.size, 1, none⟩ = false := (hK6.frozen (p := ⟨w.heap.size, 1, none⟩) hRX).trans (HRF.out 1)
            have yl : w.heap.size < w6.heap.size := World.block_lt_of_cell? _ _ y0
            have HBZ : Hid (Below w.heap.size w w6) := HB2.out.trans (hK6.mono (Nat.le_of_lt hRX))

            by_cases heq : u = t
            · have et : t.data.toList = postT id L := by rw [← heq, EU.out]
              have HET : Hid (t.data.toList = postT id L) := et
              have HO6 : Hid (w6.ownsRow X 58 3 (.slice aL L.length cL) L.length (flat L)) := ownsRow_kb (ownsRow_kb HM.out.own hb5) hb6
              have z0 := cell_later hb6 d05
              have z1 := cell_later hb6 d15
              have hXl6 : X < w6.heap.size := World.block_lt_of_cell? _ _ z0
              subst heq
              clear hb6 hb5 hK hK5 hK6 CT et
              go_wp2
              refine bodyPost_ret (v := .tuple #[.agg #[.int .i64 id, .slice aL L.length cL], .bool true]) (by simp [results, Tryd.results14, go_sem, y0, y1]) rfl ⟨Or.inl ⟨id, L, _, rfl, hp, HET.out, ?_⟩, (HBZ.out.setCell (p := ⟨w.heap.size, 0, none⟩) (Nat.le_refl _) _).setCell (p := ⟨w.heap.size, 1, none⟩) (Nat.le_refl _) _⟩
              have hne : (Value.slice aL L.length cL).ownBlock ≠ some w.heap.size := fun e => by have := (HO6.out.lt _ e).1; omega
              exact own_set (own_set (row_mono HO6.out (Nat.le_of_lt hRX)) hne _) hne _
            · have hne1 : (u.toList == t.toList) = false := by
                rw [beq_eq_false_iff_ne]
                intro e
                exact heq (bytes_ext e)
              have HNOT : Hid (∀ id' L', postB id' L' = true → t.data.toList ≠ postT id' L') := fun id' L' h e => by
                obtain ⟨e1, _, e3⟩ := HKEY.out id' L' h e
                subst e1 e3
                apply heq
                rw [EU.out]
                apply ByteArray.ext
                apply Array.toList_inj.1
                rw [e]
              clear hb6 hb5 hK hK5 hK6 CT d05 d15
              go_wp2
              refine bodyPost_ret (v := .tuple #[.agg #[.int .i64 0, .slice none 0 0], .bool false]) (by simp [results, Tryd.results14, go_sem, y0, y1]) rfl ⟨Or.inr ⟨rfl, HNOT.out⟩, (HBZ.out.setCell (p := ⟨w.heap.size, 0, none⟩) (Nat.le_refl _) _).setCell (p := ⟨w.heap.size, 1, none⟩) (Nat.le_refl _) _⟩
      · have g1 : ¬ (i : Int) < (N : Int) := by omega
        cases b with
        | false =>
          have HNOT : Hid (∀ id' L', postB id' L' = true → t.data.toList ≠ postT id' L') := fun id' L' h e => by have := (HKEY.out id' L' h e).2.1; cases this
          have y0 : wr.cell? ⟨w.heap.size, 0, none⟩ = some (.int .i64 0) := (hK.cell (p := ⟨w.heap.size, 0, none⟩) hRX).trans HR0.out
          have y1 : wr.cell? ⟨w.heap.size, 1, none⟩ = some (.slice none 0 0) := (hK.cell (p := ⟨w.heap.size, 1, none⟩) hRX).trans HR1.out
          have yf0 : wr.frozen? ⟨w.heap.size, 0, none⟩ = false := (hK.frozen (p := ⟨w.heap.size, 0, none⟩) hRX).trans (HRF.out 0)
          have yf1 : wr.frozen? ⟨w.heap.size, 1, none⟩ = false := (hK.frozen (p := ⟨w.heap.size, 1, none⟩) hRX).trans (HRF.out 1)
          have yl : w.heap.size < wr.heap.size := World.block_lt_of_cell? _ _ y0
          have HBZ : Hid (Below w.heap.size w wr) := HB2.out.trans (hK.mono (Nat.le_of_lt hRX))

          clear hK
          go_wp2
          refine bodyPost_ret (v := .tuple #[.agg #[.int .i64 0, .slice none 0 0], .bool false]) (by simp [results, Tryd.results14, go_sem, y0, y1]) rfl ⟨Or.inr ⟨rfl, HNOT.out⟩, (HBZ.out.setCell (p := ⟨w.heap.size, 0, none⟩) (Nat.le_refl _) _).setCell (p := ⟨w.heap.size, 1, none⟩) (Nat.le_refl _) _⟩
        | true =>
          have d0 := HM.out.c0
          have d1 := HM.out.c1
          cases hp : postB id L with
          | false =>
            have HNOT : Hid (∀ id' L', postB id' L' = true → t.data.toList ≠ postT id' L') := fun id' L' h e => by
              obtain ⟨e1, _, e3⟩ := HKEY.out id' L' h e
              subst e1 e3
              rw [hp] at h
              cases h
            have CP := specPostOk id aL L.length cL L wr HLG.out
            rw [hp] at CP
            go_wp2_with fail
            refine CP.mono ?_
            rintro e w5 ⟨rfl, hb5⟩
            have hK5 : Below X W2 w5 := hK.trans (hb5.mono (Nat.le_of_lt hXl))
            have y0 : w5.cell? ⟨w.heap.size, 0, none⟩ = some (.int .i64 0) := (hK5.cell (p := ⟨w.heap.size, 0, none⟩) hRX).trans HR0.out
            have y1 : w5.cell? ⟨w.heap.size, 1, none⟩ = some (.slice none 0 0) := (hK5.cell (p := ⟨w.heap.size, 1, none⟩) hRX).trans HR1.out
            have yf0 : w5.frozen? ⟨w.heap.size, 0, none⟩ = false := (hK5.frozen (p := ⟨w.heap.size, 0, none⟩) hRX).trans (HRF.out 0)
            have yf1 : w5.frozen? ⟨w.heap.size, 1, none⟩ = false := (hK5.frozen (p := ⟨w.heap.size, 1, none⟩) hRX).trans (HRF.out 1)
            have yl : w.heap.size < w5.heap.size := World.block_lt_of_cell? _ _ y0
            have HBZ : Hid (Below w.heap.size w w5) := HB2.out.trans (hK5.mono (Nat.le_of_lt hRX))

            clear hK hK5 hb5
            go_wp2
            refine bodyPost_ret (v := .tuple #[.agg #[.int .i64 0, .slice none 0 0], .bool false]) (by simp [results, Tryd.results14, go_sem, y0, y1]) rfl ⟨Or.inr ⟨rfl, HNOT.out⟩, (HBZ.out.setCell (p := ⟨w.heap.size, 0, none⟩) (Nat.le_refl _) _).setCell (p := ⟨w.heap.size, 1, none⟩) (Nat.le_refl _) _⟩
          | true =>
            have CP := specPostOk id aL L.length cL L wr HLG.out
            rw [hp] at CP
            go_wp2_with fail
            refine CP.mono ?_
            rintro e w5 ⟨rfl, hb5⟩
            have hK5 : Below X W2 w5 := hK.trans (hb5.mono (Nat.le_of_lt hXl))
            have d05 := cell_later hb5 d0
            have d15 := cell_later hb5 d1
            have hX5 : X < w5.heap.size := World.block_lt_of_cell? _ _ d05
            have CT := specText id aL L.length cL L w5 (HLG.out.keep hb5)
            rw [textB_yes hp] at CT
            obtain ⟨u, hu⟩ : ∃ u : ByteArray, u = ⟨(postT id L).toArray⟩ := ⟨_, rfl⟩
            rw [← hu] at CT
            have EU : Hid (u = ⟨(postT id L).toArray⟩) := hu
            clear hu CP
            go_wp2_with fail
            refine CT.mono ?_
            rintro e w6 ⟨rfl, hb6⟩
            have hK6 : Below X W2 w6 := hK5.trans (hb6.mono (Nat.le_of_lt hX5))
            have y0 : w6.cell? ⟨w.heap.size, 0, none⟩ = some (.int .i64 0) := (hK6.cell (p := ⟨w.heap.size, 0, none⟩) hRX).trans HR0.out
            have y1 : w6.cell? ⟨w.heap.size, 1, none⟩ = some (.slice none 0 0) := (hK6.cell (p := ⟨w.heap.size, 1, none⟩) hRX).trans HR1.out
            have yf0 : w6.frozen? ⟨w.heap.size, 0, none⟩ = false := (hK6.frozen (p := ⟨w.heap.size, 0, none⟩) hRX).trans (HRF.out 0)
            have yf1 : w6.frozen? ⟨w.heap.size, 1, none⟩ = false := (hK6.frozen (p := ⟨w.heap.size, 1, none⟩) hRX).trans (HRF.out 1)
            have yl : w.heap.size < w6.heap.size := World.block_lt_of_cell? _ _ y0
            have HBZ : Hid (Below w.heap.size w w6) := HB2.out.trans (hK6.mono (Nat.le_of_lt hRX))

            by_cases heq : u = t
            · have et : t.data.toList = postT id L := by rw [← heq, EU.out]
              have HET : Hid (t.data.toList = postT id L) := et
              have HO6 : Hid (w6.ownsRow X 58 3 (.slice aL L.length cL) L.length (flat L)) := ownsRow_kb (ownsRow_kb HM.out.own hb5) hb6
              have z0 := cell_later hb6 d05
              have z1 := cell_later hb6 d15
              have hXl6 : X < w6.heap.size := World.block_lt_of_cell? _ _ z0
              subst heq
              clear hb6 hb5 hK hK5 hK6 CT et
              go_wp2
              refine bodyPost_ret (v := .tuple #[.agg #[.int .i64 id, .slice aL L.length cL], .bool true]) (by simp [results, Tryd.results14, go_sem, y0, y1]) rfl ⟨Or.inl ⟨id, L, _, rfl, hp, HET.out, ?_⟩, (HBZ.out.setCell (p := ⟨w.heap.size, 0, none⟩) (Nat.le_refl _) _).setCell (p := ⟨w.heap.size, 1, none⟩) (Nat.le_refl _) _⟩
              have hne : (Value.slice aL L.length cL).ownBlock ≠ some w.heap.size := fun e => by have := (HO6.out.lt _ e).1; omega
              exact own_set (own_set (row_mono HO6.out (Nat.le_of_lt hRX)) hne _) hne _
            · have hne1 : (u.toList == t.toList) = false := by
                rw [beq_eq_false_iff_ne]
                intro e
                exact heq (bytes_ext e)
              have HNOT : Hid (∀ id' L', postB id' L' = true → t.data.toList ≠ postT id' L') := fun id' L' h e => by
                obtain ⟨e1, _, e3⟩ := HKEY.out id' L' h e
                subst e1 e3
                apply heq
                rw [EU.out]
                apply ByteArray.ext
                apply Array.toList_inj.1
                rw [e]
              clear hb6 hb5 hK hK5 hK6 CT d05 d15
              go_wp2
              refine bodyPost_ret (v := .tuple #[.agg #[.int .i64 0, .slice none 0 0], .bool false]) (by simp [results, Tryd.results14, go_sem, y0, y1]) rfl ⟨Or.inr ⟨rfl, HNOT.out⟩, (HBZ.out.setCell (p := ⟨w.heap.size, 0, none⟩) (Nat.le_refl _) _).setCell (p := ⟨w.heap.size, 1, none⟩) (Nat.le_refl _) _⟩

end Go.Proofs.YtcabinakcmpkeaaDoor
