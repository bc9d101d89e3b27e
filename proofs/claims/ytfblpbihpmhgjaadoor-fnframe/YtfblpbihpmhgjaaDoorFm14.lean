/-
  What the program's scanPost makes of every text, by a walk of its Go text.
-/
import Derived.Test.YtfblpbihpmhgjaaDoorFm12
import Derived.Lib.LaidTab
import Derived.Laws.RangeAny
import Derived.WalkMore
import Derived.Lib.Hide
namespace Go.Proofs.YtfblpbihpmhgjaaDoor
open Go.RowKit Go.Shelf

def endsTab : List Int := [32, 58, 58, 32]
def EndsB (B : Nat) (w : World) : Prop := ∀ w', Below B w w' → Lib.TabIs Tryd.prog w' "loop.example/comptoir/impl.partEnds" .i32 endsTab
def ErrB (B : Nat) (w : World) : Prop := ∀ w', Below B w w' → ErrV w'
theorem endP_facts (s : ScD) (hp : s.part ≤ 3) (hl : s.legs.length ≤ 4) : (endP s).1.part ≤ 3 ∧ (endP s).1.word = [] ∧ (endP s).1.legs.length ≤ 5 ∧ ((endP s).2 = true → (endP s).1.legs.length ≤ 4) := by
  unfold endP
  split
  · exact ⟨by simp, rfl, by simp; omega, fun _ => hl⟩
  · split
    · split
      · exact ⟨by simp, rfl, by simp; omega, fun _ => hl⟩
      · split
        · exact ⟨by simp, rfl, by simp; omega, fun _ => hl⟩
        · exact ⟨by simp, rfl, by simp; omega, fun h => by simpa using h⟩
    · exact ⟨hp, rfl, by simp; omega, fun _ => hl⟩
theorem drop_at (t : ByteArray) (pos : Nat) (h : pos < t.size) : t.data.toList.drop pos = t[pos] :: t.data.toList.drop (pos + 1) := by
  have h' : pos < t.data.toList.length := by rw [Array.length_toList]; exact h
  rw [List.drop_eq_getElem_cons h']
  rfl
theorem scan_over (t : ByteArray) (pos : Nat) (h : ¬ pos < t.size) (s : ScD) : scanP (t.data.toList.drop pos) s = s := by
  have h' : t.data.toList.length ≤ pos := by rw [Array.length_toList]; exact Nat.le_of_not_lt h
  rw [List.drop_of_length_le h']
  rfl
theorem ScAt.iterAt {B X Y pos : Nat} {w : World} {s : ScD} {vL vW : Value} {t : ByteArray} (h : ScAt B X w s vL vW) (hk : w.heap[Y]? = some (.stringIter t pos)) (pos' : Nat) : ScAt B X (w.iterAt Y t pos') s vL vW := by
  have hXY : X ≠ Y := by
    rintro rfl
    have hc := h.c0
    simp [World.cell?, hk] at hc
  have hg : w.grownBy (w.iterAt Y t pos') (some Y) := ⟨rfl, rfl, rfl, by rw [Lib.iterAt_size]; exact Nat.le_refl _, fun k _ hne => Lib.iterAt_other w Y k t pos' (fun e => hne (by rw [e]))⟩
  have hb := Lib.iterAt_other w Y X t pos' hXY
  have cc : ∀ o, (w.iterAt Y t pos').cell? ⟨X, o, none⟩ = w.cell? ⟨X, o, none⟩ := fun o => World.cell?_of_block (a := ⟨X, o, none⟩) hb
  have kk : ∀ {e : TypeId} {z n : Nat} {v : Value} {xs : List Value}, w.ownsRow B e z v n xs → (w.iterAt Y t pos').ownsRow B e z v n xs := by
    intro e z n v xs ho
    refine ho.kept hg (Or.inr fun e' => ?_)
    obtain ⟨c, fz, hc⟩ := Lib.ownsRow_kind ho Y e'
    rw [hk] at hc
    cases hc
  exact ⟨h.low, (cc 0).trans h.c0, (cc 1).trans h.c1, (cc 2).trans h.c2, (cc 3).trans h.c3, (cc 4).trans h.c4, (cc 5).trans h.c5, (cc 6).trans h.c6, fun o => (World.frozen?_of_block (a := ⟨X, o, none⟩) hb).trans (h.fr o), kk h.legs, kk h.word, h.neL, h.neW⟩
theorem ScAt.wordOf {B X : Nat} {w wA : World} {s : ScD} {vL vW v' : Value} {l : List UInt8} (h : ScAt B X w s vL vW) (hg : w.grownBy wA vW.ownBlock) (hown : wA.ownsRow B 5 1 v' l.length (Lib.byteCells l)) (hn : v'.ownBlock ≠ some X) :
    ScAt B X (wA.setCell ⟨X, 6, none⟩ v') { s with word := l } vL v' := by
  have hbl := hg.block X h.lt (fun e => h.neW e.symm)
  have cc : ∀ o, wA.cell? ⟨X, o, none⟩ = w.cell? ⟨X, o, none⟩ := fun o => World.cell?_of_block (a := ⟨X, o, none⟩) hbl
  have hLW : vL.ownBlock = none ∨ vL.ownBlock ≠ vW.ownBlock := by
    cases hv : vL.ownBlock with
    | none => exact Or.inl rfl
    | some g =>
      refine Or.inr fun e => ?_
      obtain ⟨c, fz, hc⟩ := Lib.ownsRow_kind h.legs g hv
      obtain ⟨c', fz', hc'⟩ := Lib.ownsRow_kind h.word g e.symm
      rw [hc] at hc'
      cases hc'
  refine ⟨h.low, ?_, ?_, ?_, ?_, ?_, ?_, ?_, fun o => ?_, own_set (h.legs.kept hg hLW) h.neL _, own_set hown hn _, h.neL, hn⟩
  · rw [World.cell?_setCell_other _ _ _ _ (by simp), cc]; exact h.c0
  · rw [World.cell?_setCell_other _ _ _ _ (by simp), cc]; exact h.c1
  · rw [World.cell?_setCell_other _ _ _ _ (by simp), cc]; exact h.c2
  · rw [World.cell?_setCell_other _ _ _ _ (by simp), cc]; exact h.c3
  · rw [World.cell?_setCell_other _ _ _ _ (by simp), cc]; exact h.c4
  · rw [World.cell?_setCell_other _ _ _ _ (by simp), cc]; exact h.c5
  · exact World.cell?_setCell_same' _ _ _ (by rw [cc, h.c6]; rfl)
  · rw [World.frozen?_setCell, World.frozen?_of_block (a := ⟨X, o, none⟩) hbl]; exact h.fr o
theorem scan_ret {P : Program} {f : Func} {Q : Ending → World → Prop} {a : Act} {w : World} (h : bodyPost P f Q .ret a w) : Exit.noGoto (bodyPost P f Q) .ret a w := by rw [Exit.noGoto_ret]; exact h

set_option maxHeartbeats 400000 in
theorem isLetter_yes (r : Int) (w : World) (h1 : 97 ≤ r) (h2 : r ≤ 122) : Calls Tryd.prog 95 #[.int .i32 r] w fun e w' => e = .returned (.bool true) ∧ w = w' := by
  go_enter Tryd.func95, Tryd.ntmps95
  go_wp2
  go_ret
  exact ⟨rfl, rfl⟩
theorem isLetter_no' (r : Int) (w : World) (h : r < 97 ∨ 122 < r) : Calls Tryd.prog 95 #[.int .i32 r] w fun e w' => e = .returned (.bool false) ∧ w = w' := (isLetter_no r w h).mono fun _ _ h => ⟨h.1, h.2.symm⟩
/-- What holds ahead of each sign. -/
structure ScInv (N : Nat) (W0 : World) (t : ByteArray) (wr : World) (pos : Nat) (s : ScD) (vL vW : Value) : Prop where
  le : pos ≤ t.size
  at_ : ScAt (N + 1) (N + 1) wr s vL vW
  it : wr.heap[N + 1 + 1]? = some (.stringIter t pos)
  part : s.part ≤ 3
  legs : s.legs.length ≤ 4
  word : s.word.length ≤ pos
  rest : scanP (t.data.toList.drop pos) s = scanP t.data.toList sc0
  bel : Below (N + 1) W0 wr
def ScIn (N : Nat) (W0 : World) (t : ByteArray) (wr : World) : Prop := ∃ pos s vL vW, ScInv N W0 t wr pos s vL vW

set_option maxHeartbeats 4000000 in
set_option maxRecDepth 100000 in
theorem implScan (t : ByteArray) (w : World) (ht : t.size ≤ 1048576) (hE : ErrB w.heap.size w) (hP : EndsB w.heap.size w) :
    Calls Tryd.prog 55 #[.string t] w fun e w' => ∃ vL, e = .returned (.agg #[.int .i64 (readP t.data.toList).id, vL]) ∧ w'.ownsRow w.heap.size 69 3 vL (readP t.data.toList).legs.length (flat (readP t.data.toList).legs) ∧ Below w.heap.size w w' := by
  have HE : Hid (ErrB w.heap.size w) := hE
  have HPE : Hid (EndsB w.heap.size w) := hP
  obtain ⟨W0, hW0⟩ : ∃ W0, W0 = w.alloc (.cells #[.int .i64 0, .slice none 0 0] 29) := ⟨_, rfl⟩
  have KW : Hid (Below w.heap.size w W0) := by show Below w.heap.size w W0; rw [hW0]; exact (Below.refl _ _).alloc (Nat.le_refl _) _
  have R0 : Hid (W0.cell? ⟨w.heap.size, 0, none⟩ = some (.int .i64 0)) := by show W0.cell? _ = _; rw [hW0]; simp
  have R1 : Hid (W0.cell? ⟨w.heap.size, 1, none⟩ = some (.slice none 0 0)) := by show W0.cell? _ = _; rw [hW0]; simp
  have RF : Hid (∀ o, W0.frozen? ⟨w.heap.size, o, none⟩ = false) := by show ∀ o, W0.frozen? _ = _; rw [hW0]; exact fun o => World.frozen?_alloc_new w _ _ o
  obtain ⟨i5, hi, hz0, hz1, hz2⟩ := info_parts Tryd.infoByteE
  clear hE hP
  go_enter Tryd.func55, Tryd.ntmps55
  go_wp2
  go_step3
  go_wp2
  go_step3
  go_wp2
  go_loopw [5] (fun _ wr => ScIn w.heap.size W0 t wr) (fun _ wr => t.size - wr.iterPos (w.heap.size + 1 + 1))
  case atStart =>
    have S0 : ScAt (w.heap.size + 1) (w.heap.size + 1) (W0.alloc (.cells #[.int .i64 0, .slice none 0 0, .string ⟨#[]⟩, .int .i64 0, .int .i64 0, .int .i64 0, .slice none 0 0] 129)) sc0 (.slice none 0 0) (.slice none 0 0) := by
      have e : w.heap.size + 1 = W0.heap.size := by rw [hW0]; simp
      rw [e]
      exact ⟨Nat.le_refl _, by simp [sc0], by simp, by simp [sc0]; rfl, by simp [sc0], by simp [sc0], by simp [sc0], by simp, fun o => World.frozen?_alloc_new W0 _ _ o, World.ownsRow_nil _ _ _ _, World.ownsRow_nil _ _ _ _, by simp [Value.ownBlock], by simp [Value.ownBlock]⟩
    have e2 : w.heap.size + 1 + 1 = (W0.alloc (.cells #[.int .i64 0, .slice none 0 0, .string ⟨#[]⟩, .int .i64 0, .int .i64 0, .int .i64 0, .slice none 0 0] 129)).heap.size := by rw [hW0]; simp
    have kb : Below (w.heap.size + 1) W0 (W0.alloc (.cells #[.int .i64 0, .slice none 0 0, .string ⟨#[]⟩, .int .i64 0, .int .i64 0, .int .i64 0, .slice none 0 0] 129)) := (Below.refl _ _).alloc (by rw [hW0]; simp) _
    rw [← hW0]
    refine ⟨0, sc0, .slice none 0 0, .slice none 0 0, ?_⟩
    exact ⟨Nat.zero_le _, S0.below (below_iter _ _ _), by rw [e2]; exact World.iter_heap _ _ _, by simp [sc0], by simp [sc0], by simp [sc0], rfl, kb.trans ((below_iter _ _ _).mono (by rw [← e2]; omega))⟩
  case round =>
    obtain ⟨pos, s, vL, vW, hI⟩ := hrel
    have HI : Hid (ScInv w.heap.size W0 t wr pos s vL vW) := hI
    have hit := hI.it
    clear hI
    have hmeas : wr.iterPos (w.heap.size + 1 + 1) = pos := by simp [World.iterPos, hit]
    by_cases hlt : pos < t.size
    · obtain ⟨c, hc⟩ : ∃ c, c = t[pos] := ⟨_, rfl⟩
      have hdr := drop_at t pos hlt
      rw [← hc] at hdr
      have HDR : Hid (t.data.toList.drop pos = c :: t.data.toList.drop (pos + 1)) := hdr
      clear hdr
      have hX := HI.out.at_.lt
      have hp3 := HI.out.part
      by_cases ha : c.toNat < 128
      · have hnx : ∀ ty, (Instr.next (.pointer (some ⟨w.heap.size + 1 + 1, 0, none⟩)) true ty).run Tryd.prog wr = .ok (.tuple #[.bool true, .int .i64 pos, .int .i32 c.toNat]) (wr.iterAt (w.heap.size + 1 + 1) t (pos + 1)) := fun ty => by rw [hc]; exact Lib.run_next_ascii_at wr _ t pos ty hit hlt (by rw [← hc]; exact ha)
        obtain ⟨W1, hW1⟩ : ∃ W1, W1 = wr.iterAt (w.heap.size + 1 + 1) t (pos + 1) := ⟨_, rfl⟩
        have S1 : ScAt (w.heap.size + 1) (w.heap.size + 1) W1 s vL vW := by rw [hW1]; exact HI.out.at_.iterAt hit (pos + 1)
        have it1 : W1.heap[w.heap.size + 1 + 1]? = some (.stringIter t (pos + 1)) := by rw [hW1]; exact Lib.iterAt_heap wr _ t pos (pos + 1) hit
        have B1 : Below (w.heap.size + 1) W0 W1 := by rw [hW1]; exact Lib.below_iterAt HI.out.bel (by omega) _ _
        rw [← hW1] at hnx
        have HS1 : Hid (ScAt (w.heap.size + 1) (w.heap.size + 1) W1 s vL vW) := S1
        have HB1 : Hid (Below (w.heap.size + 1) W0 W1) := B1
        have HIT1 : Hid (W1.heap[w.heap.size + 1 + 1]? = some (.stringIter t (pos + 1))) := it1
        have c5 := S1.c5
        have hX1 := S1.lt
        obtain ⟨q, hq⟩ : ∃ q : Int, q = ((sepC s.part).toNat : Int) := ⟨_, rfl⟩
        have HQ : Hid (q = ((sepC s.part).toNat : Int)) := hq
        have cE : W1.cell? ⟨0, s.part, none⟩ = some (.int .i32 q) := by
          have h1 := HPE.out W1 (KW.out.trans (B1.mono (by omega)))
          have h2 := h1.cell (g := 0) (by kernel_rfl) s.part (by show s.part < 4; omega)
          rw [h2, hq]
          congr 2
          rcases (by omega : s.part = 0 ∨ s.part = 1 ∨ s.part = 2 ∨ s.part = 3) with h | h | h | h <;> (rw [h]; rfl)
        have hpI : (s.part : Int) < 4 := by omega
        have h0W : 0 < W1.heap.size := World.block_lt_of_cell? _ _ cE
        clear hc hW1 hq it1 B1 S1 hit hX
        by_cases hs : c = sepC s.part
        · have hcq : q = (c.toNat : Int) := by rw [HQ.out, hs]
          rw [hcq] at cE
          have hEs := endP_facts s HI.out.part HI.out.legs
          have CE := endPart_any (w.heap.size + 1) (w.heap.size + 1) s vL vW W1 HS1.out (Nat.le_of_lt HS1.out.lt) HI.out.part (by have := HI.out.legs; omega) (by have := HI.out.word; have := HI.out.le; omega) (fun w' k => HE.out w' (KW.out.trans ((HB1.out.trans k).mono (by omega))))
          have HH : Hid ((endP s).1.part ≤ 3 ∧ (endP s).1.word = [] ∧ (endP s).1.legs.length ≤ 5 ∧ ((endP s).2 = true → (endP s).1.legs.length ≤ 4)) := hEs
          clear hcq hEs
          cases hb : (endP s).2 with
          | true =>
            rw [hb] at CE
            have HBT : Hid ((endP s).2 = true) := hb
            have CE' : Hid (Calls Tryd.prog 94 #[.pointer (some ⟨w.heap.size + 1, 0, none⟩)] W1 fun e w' => e = .returned (.bool true) ∧ (∃ vL' vW', ScAt (w.heap.size + 1) (w.heap.size + 1) w' (endP s).1 vL' vW') ∧ Stp (w.heap.size + 1) W1 w') := CE
            clear CE hb
            go_wp2_with fail
            refine CE'.out.mono ?_
            rintro e w2 ⟨rfl, ⟨vL', vW', S2⟩, T2⟩
            have HN : Hid (ScInv w.heap.size W0 t w2 (pos + 1) (endP s).1 vL' vW') := by
              refine ⟨by omega, S2, T2.2 _ _ _ HIT1.out, HH.out.1, HH.out.2.2.2 HBT.out, by rw [HH.out.2.1]; simp, ?_, HB1.out.trans T2.1⟩
              rw [← HI.out.rest, HDR.out, scanP, if_pos hs, if_pos HBT.out]
            clear S2 T2
            go_wp2
            go_roundw
            case rel => exact ⟨_, _, _, _, HN.out⟩
            case measure =>
              have := HN.out.it
              rw [hmeas]
              simp only [World.iterPos, this]
              omega
          | false =>
            rw [hb] at CE
            have HBF : Hid ((endP s).2 = false) := hb
            have CE' : Hid (Calls Tryd.prog 94 #[.pointer (some ⟨w.heap.size + 1, 0, none⟩)] W1 fun e w' => e = .returned (.bool false) ∧ (∃ vL' vW', ScAt (w.heap.size + 1) (w.heap.size + 1) w' (endP s).1 vL' vW') ∧ Stp (w.heap.size + 1) W1 w') := CE
            clear CE hb
            go_wp2_with fail
            refine CE'.out.mono ?_
            rintro e w2 ⟨rfl, ⟨vL2, vW2, S2⟩, T2⟩
            have HS2 : Hid (ScAt (w.heap.size + 1) (w.heap.size + 1) w2 (endP s).1 vL2 vW2) := S2
            have HB2 : Hid (Below (w.heap.size + 1) W0 w2) := HB1.out.trans T2.1
            clear S2 T2
            obtain ⟨s2, hs2⟩ : ∃ s2, s2 = (endP s).1 := ⟨_, rfl⟩
            have HH2 : Hid (s2.part ≤ 3 ∧ s2.word = [] ∧ s2.legs.length ≤ 5) := by show _ ∧ _ ∧ _; rw [hs2]; exact ⟨HH.out.1, HH.out.2.1, HH.out.2.2.1⟩
            have HR2 : Hid (scanP t.data.toList sc0 = s2) := by
              show _ = _
              rw [← HI.out.rest, HDR.out, scanP, if_pos hs, if_neg (by rw [HBF.out]; simp), hs2]
            rw [← hs2] at HS2
            clear hs2
            go_wp2_with fail
            refine (endPart_any (w.heap.size + 1) (w.heap.size + 1) s2 _ _ _ HS2.out (Nat.le_of_lt (HS2.out).lt) HH2.out.1 HH2.out.2.2 (by rw [HH2.out.2.1]; simp) (fun w' k => HE.out w' (KW.out.trans ((HB2.out).trans k |>.mono (by omega))))).mono ?_
            rintro e wz ⟨rfl, ⟨vL', vW', Sz⟩, Tz⟩
            have hfin : (endP s2).1 = readP t.data.toList := by
              show (endP s2).1 = (endP (scanP t.data.toList sc0)).1
              rw [HR2.out]
            rw [hfin] at Sz
            obtain ⟨Z, hZ⟩ : ∃ Z, Z = readP t.data.toList := ⟨_, rfl⟩
            have EZ : Hid (Z = readP t.data.toList) := hZ
            rw [← hZ] at Sz
            obtain ⟨aL, cL, hvL⟩ := own_form Sz.legs
            subst hvL
            have hBz : Below (w.heap.size + 1) W0 wz := (HB2.out).trans Tz.1
            have u0 := Sz.c0
            have u1 := Sz.c1
            have uX := Sz.lt
            have r0 : wz.cell? ⟨w.heap.size, 0, none⟩ = some (.int .i64 0) := (hBz.cell (p := ⟨w.heap.size, 0, none⟩) (by simp)).trans R0.out
            have r1 : wz.cell? ⟨w.heap.size, 1, none⟩ = some (.slice none 0 0) := (hBz.cell (p := ⟨w.heap.size, 1, none⟩) (by simp)).trans R1.out
            have rf0 : wz.frozen? ⟨w.heap.size, 0, none⟩ = false := (hBz.frozen (p := ⟨w.heap.size, 0, none⟩) (by simp)).trans (RF.out 0)
            have rf1 : wz.frozen? ⟨w.heap.size, 1, none⟩ = false := (hBz.frozen (p := ⟨w.heap.size, 1, none⟩) (by simp)).trans (RF.out 1)
            have hRz : w.heap.size < wz.heap.size := World.block_lt_of_cell? _ _ r0
            have HSz : Hid (ScAt (w.heap.size + 1) (w.heap.size + 1) wz Z (.slice aL Z.legs.length cL) vW') := Sz
            have HBz : Hid (Below w.heap.size w wz) := KW.out.trans (hBz.mono (by omega))
            clear hZ Sz Tz hfin hBz
            go_wp2
            refine scan_ret ?_
            refine bodyPost_ret (v := .agg #[.int .i64 Z.id, .slice aL Z.legs.length cL]) (by simp [results, Tryd.results55, go_sem, r0, r1]) rfl ⟨_, by rw [← EZ.out], ?_, ?_⟩
            · rw [← EZ.out]
              have hne : (Value.slice aL Z.legs.length cL).ownBlock ≠ some w.heap.size := fun e => by have := (HSz.out.legs.lt _ e).1; omega
              exact own_set (own_set (row_mono HSz.out.legs (by omega)) hne _) hne _
            · exact (HBz.out.setCell (p := ⟨w.heap.size, 0, none⟩) (Nat.le_refl _) _).setCell (p := ⟨w.heap.size, 1, none⟩) (Nat.le_refl _) _
        · have hqi : ¬ (c.toNat : Int) = q := by
            rw [HQ.out]
            intro e
            exact hs (UInt8.toNat_inj.1 (by omega))
          have hqb : ((c.toNat : Int) == q) = false := by simpa using hqi
          cases hw : wordC c with
          | true =>
            have cW := HS1.out.c6
            have fW := HS1.out.fr 6
            have hwz : s.word.length ≤ 1048576 := by have := HI.out.word; have := HI.out.le; omega
            have h45 : (97 ≤ (c.toNat : Int) ∧ (c.toNat : Int) ≤ 122) ∨ (48 ≤ (c.toNat : Int) ∧ (c.toNat : Int) ≤ 57) ∨ (c.toNat : Int) = 45 := by
              simp only [wordC, lowB, digC, Bool.or_eq_true, Bool.and_eq_true, decide_eq_true_eq] at hw
              omega
            have hcu : IntKind.u8.wrap (c.toNat : Int) = (c.toNat : Int) := by
              have := c.toNat_lt
              exact IntWalk.u8_in _ (by omega)
            have HW : Hid (wordC c = true) := hw
            clear hw
            rcases h45 with ⟨k1, k2⟩ | ⟨k1, k2⟩ | k1
            · go_wp2_with (first | (go_at_call 95; refine (isLetter_yes _ _ k1 k2).mono ?_; rintro e w' ⟨rfl, rfl⟩) | (at_builtin; refine wpList_append_own _ rfl _ _ 49 rfl (w.heap.size + 1) 5 i5 (.int .u8 0) 1 1 Tryd.underlying49 hi hz0 hz1 hz2 rfl (by decide) _ _ _ rfl (HS1.out.word.alloc _) ⟨W1.heap.size, 0, none⟩ 1 1 [Value.int .u8 c.toNat] rfl rfl (by intro j u' hj; match j, hj with | 0, hj => simp at hj; subst hj; simp [Addr.add]) (by intro u' hu'; simp at hu'; subst hu'; rfl) (by unfold maxLen; omega) (by omega) (by have := HS1.out.lt; simp; omega) ?_))
              intro v' wA hown hgrow _
              have Sd := HS1.out.below ((Below.refl _ W1).alloc (Nat.le_refl _) (.cells #[.int .u8 c.toNat] 5))
              have hown' : wA.ownsRow (w.heap.size + 1) 5 1 v' (s.word ++ [c]).length (Lib.byteCells (s.word ++ [c])) := by simpa [Lib.byteCells] using hown
              have hbl := hgrow.block (w.heap.size + 1) Sd.lt (fun e => Sd.neW e.symm)
              have hgX : v'.ownBlock ≠ some (w.heap.size + 1) := by
                intro e
                obtain ⟨b0, hb0⟩ : ∃ b0, (s.word ++ [c])[0]? = some b0 := ⟨(s.word ++ [c])[0]'(by simp), List.getElem?_eq_getElem _⟩
                rcases hown'.2 with ⟨hn, _⟩ | ⟨g, cap, cur, hv, _⟩
                · rw [hn] at e
                  simp [Value.ownBlock] at e
                · have eg : g = w.heap.size + 1 := by
                    rw [hv] at e
                    simpa [Value.ownBlock] using e
                  have h1 := hown'.cells (g := g) (by rw [hv]; rfl) 0 (.int .u8 (b0.toNat : Int)) (by rw [Lib.byteCells, List.getElem?_map, hb0]; rfl)
                  have h2 := (World.cell?_of_block (a := ⟨w.heap.size + 1, 0, none⟩) hbl).trans Sd.c0
                  rw [eg] at h1
                  have h3 : wA.cell? ⟨w.heap.size + 1, 0, none⟩ = some (.int .u8 (b0.toNat : Int)) := by simpa [Addr.add] using h1
                  rw [h2] at h3
                  cases h3
              have S3 := Sd.wordOf hgrow hown' hgX
              have c6A : wA.cell? ⟨w.heap.size + 1, 6, none⟩ = some vW := (World.cell?_of_block (a := ⟨w.heap.size + 1, 6, none⟩) hbl).trans Sd.c6
              have f6A : wA.frozen? ⟨w.heap.size + 1, 6, none⟩ = false := (World.frozen?_of_block (a := ⟨w.heap.size + 1, 6, none⟩) hbl).trans (Sd.fr 6)
              have hXA : w.heap.size + 1 < wA.heap.size := World.block_lt_of_cell? _ _ c6A
              have T3 : Stp (w.heap.size + 1) W1 (wA.setCell ⟨w.heap.size + 1, 6, none⟩ v') := Stp.trans (b := wA) ((Stp.below (Nat.le_of_lt HS1.out.lt) ((Below.refl _ W1).alloc (Nat.le_refl _) (.cells #[.int .u8 c.toNat] 5))).trans ⟨(Below.refl _ _).grown hgrow (by have := HS1.out.lt; simp; omega) (fun k hk => (HS1.out.word.lt k hk).1), ItK.grown Sd.word hgrow⟩) ⟨(Below.refl _ wA).setCell (p := ⟨w.heap.size + 1, 6, none⟩) (Nat.le_refl _) _, ItK.set c6A⟩
              obtain ⟨aV, cV, hvV⟩ := own_form hown
              have HN : Hid (ScInv w.heap.size W0 t (wA.setCell ⟨w.heap.size + 1, 6, none⟩ v') (pos + 1) { s with word := s.word ++ [c] } vL v') := by
                refine ⟨by omega, S3, T3.2 _ _ _ HIT1.out, HI.out.part, HI.out.legs, by have := HI.out.word; simp; omega, ?_, HB1.out.trans T3.1⟩
                rw [← HI.out.rest, HDR.out, scanP, if_neg hs, if_pos HW.out]
              subst hvV
              clear S3 T3 hown' hgX hown hgrow Sd hbl
              go_wp2
              go_roundw
              case rel => exact ⟨_, _, _, _, HN.out⟩
              case measure =>
                have := HN.out.it
                rw [hmeas]
                simp only [World.iterPos, this]
                omega
            · have kl : (c.toNat : Int) < 97 := by omega
              go_wp2_with (first | (go_at_call 95; refine (isLetter_no' _ _ (Or.inl kl)).mono ?_; rintro e w' ⟨rfl, rfl⟩) | (at_builtin; refine wpList_append_own _ rfl _ _ 49 rfl (w.heap.size + 1) 5 i5 (.int .u8 0) 1 1 Tryd.underlying49 hi hz0 hz1 hz2 rfl (by decide) _ _ _ rfl (HS1.out.word.alloc _) ⟨W1.heap.size, 0, none⟩ 1 1 [Value.int .u8 c.toNat] rfl rfl (by intro j u' hj; match j, hj with | 0, hj => simp at hj; subst hj; simp [Addr.add]) (by intro u' hu'; simp at hu'; subst hu'; rfl) (by unfold maxLen; omega) (by omega) (by have := HS1.out.lt; simp; omega) ?_))
              intro v' wA hown hgrow _
              have Sd := HS1.out.below ((Below.refl _ W1).alloc (Nat.le_refl _) (.cells #[.int .u8 c.toNat] 5))
              have hown' : wA.ownsRow (w.heap.size + 1) 5 1 v' (s.word ++ [c]).length (Lib.byteCells (s.word ++ [c])) := by simpa [Lib.byteCells] using hown
              have hbl := hgrow.block (w.heap.size + 1) Sd.lt (fun e => Sd.neW e.symm)
              have hgX : v'.ownBlock ≠ some (w.heap.size + 1) := by
                intro e
                obtain ⟨b0, hb0⟩ : ∃ b0, (s.word ++ [c])[0]? = some b0 := ⟨(s.word ++ [c])[0]'(by simp), List.getElem?_eq_getElem _⟩
                rcases hown'.2 with ⟨hn, _⟩ | ⟨g, cap, cur, hv, _⟩
                · rw [hn] at e
                  simp [Value.ownBlock] at e
                · have eg : g = w.heap.size + 1 := by
                    rw [hv] at e
                    simpa [Value.ownBlock] using e
                  have h1 := hown'.cells (g := g) (by rw [hv]; rfl) 0 (.int .u8 (b0.toNat : Int)) (by rw [Lib.byteCells, List.getElem?_map, hb0]; rfl)
                  have h2 := (World.cell?_of_block (a := ⟨w.heap.size + 1, 0, none⟩) hbl).trans Sd.c0
                  rw [eg] at h1
                  have h3 : wA.cell? ⟨w.heap.size + 1, 0, none⟩ = some (.int .u8 (b0.toNat : Int)) := by simpa [Addr.add] using h1
                  rw [h2] at h3
                  cases h3
              have S3 := Sd.wordOf hgrow hown' hgX
              have c6A : wA.cell? ⟨w.heap.size + 1, 6, none⟩ = some vW := (World.cell?_of_block (a := ⟨w.heap.size + 1, 6, none⟩) hbl).trans Sd.c6
              have f6A : wA.frozen? ⟨w.heap.size + 1, 6, none⟩ = false := (World.frozen?_of_block (a := ⟨w.heap.size + 1, 6, none⟩) hbl).trans (Sd.fr 6)
              have hXA : w.heap.size + 1 < wA.heap.size := World.block_lt_of_cell? _ _ c6A
              have T3 : Stp (w.heap.size + 1) W1 (wA.setCell ⟨w.heap.size + 1, 6, none⟩ v') := Stp.trans (b := wA) ((Stp.below (Nat.le_of_lt HS1.out.lt) ((Below.refl _ W1).alloc (Nat.le_refl _) (.cells #[.int .u8 c.toNat] 5))).trans ⟨(Below.refl _ _).grown hgrow (by have := HS1.out.lt; simp; omega) (fun k hk => (HS1.out.word.lt k hk).1), ItK.grown Sd.word hgrow⟩) ⟨(Below.refl _ wA).setCell (p := ⟨w.heap.size + 1, 6, none⟩) (Nat.le_refl _) _, ItK.set c6A⟩
              obtain ⟨aV, cV, hvV⟩ := own_form hown
              have HN : Hid (ScInv w.heap.size W0 t (wA.setCell ⟨w.heap.size + 1, 6, none⟩ v') (pos + 1) { s with word := s.word ++ [c] } vL v') := by
                refine ⟨by omega, S3, T3.2 _ _ _ HIT1.out, HI.out.part, HI.out.legs, by have := HI.out.word; simp; omega, ?_, HB1.out.trans T3.1⟩
                rw [← HI.out.rest, HDR.out, scanP, if_neg hs, if_pos HW.out]
              subst hvV
              clear S3 T3 hown' hgX hown hgrow Sd hbl
              go_wp2
              go_roundw
              case rel => exact ⟨_, _, _, _, HN.out⟩
              case measure =>
                have := HN.out.it
                rw [hmeas]
                simp only [World.iterPos, this]
                omega
            · have kl : (c.toNat : Int) < 97 := by omega
              have kd : (c.toNat : Int) < 48 := by omega
              have kb : ((c.toNat : Int) == 45) = true := by simpa using k1
              have ke : decide ((c.toNat : Int) = 45) = true := by simpa using k1
              clear k1
              go_wp2_with (first | (go_at_call 95; refine (isLetter_no' _ _ (Or.inl kl)).mono ?_; rintro e w' ⟨rfl, rfl⟩) | (at_builtin; refine wpList_append_own _ rfl _ _ 49 rfl (w.heap.size + 1) 5 i5 (.int .u8 0) 1 1 Tryd.underlying49 hi hz0 hz1 hz2 rfl (by decide) _ _ _ rfl (HS1.out.word.alloc _) ⟨W1.heap.size, 0, none⟩ 1 1 [Value.int .u8 c.toNat] rfl rfl (by intro j u' hj; match j, hj with | 0, hj => simp at hj; subst hj; simp [Addr.add]) (by intro u' hu'; simp at hu'; subst hu'; rfl) (by unfold maxLen; omega) (by omega) (by have := HS1.out.lt; simp; omega) ?_))
              intro v' wA hown hgrow _
              have Sd := HS1.out.below ((Below.refl _ W1).alloc (Nat.le_refl _) (.cells #[.int .u8 c.toNat] 5))
              have hown' : wA.ownsRow (w.heap.size + 1) 5 1 v' (s.word ++ [c]).length (Lib.byteCells (s.word ++ [c])) := by simpa [Lib.byteCells] using hown
              have hbl := hgrow.block (w.heap.size + 1) Sd.lt (fun e => Sd.neW e.symm)
              have hgX : v'.ownBlock ≠ some (w.heap.size + 1) := by
                intro e
                obtain ⟨b0, hb0⟩ : ∃ b0, (s.word ++ [c])[0]? = some b0 := ⟨(s.word ++ [c])[0]'(by simp), List.getElem?_eq_getElem _⟩
                rcases hown'.2 with ⟨hn, _⟩ | ⟨g, cap, cur, hv, _⟩
                · rw [hn] at e
                  simp [Value.ownBlock] at e
                · have eg : g = w.heap.size + 1 := by
                    rw [hv] at e
                    simpa [Value.ownBlock] using e
                  have h1 := hown'.cells (g := g) (by rw [hv]; rfl) 0 (.int .u8 (b0.toNat : Int)) (by rw [Lib.byteCells, List.getElem?_map, hb0]; rfl)
                  have h2 := (World.cell?_of_block (a := ⟨w.heap.size + 1, 0, none⟩) hbl).trans Sd.c0
                  rw [eg] at h1
                  have h3 : wA.cell? ⟨w.heap.size + 1, 0, none⟩ = some (.int .u8 (b0.toNat : Int)) := by simpa [Addr.add] using h1
                  rw [h2] at h3
                  cases h3
              have S3 := Sd.wordOf hgrow hown' hgX
              have c6A : wA.cell? ⟨w.heap.size + 1, 6, none⟩ = some vW := (World.cell?_of_block (a := ⟨w.heap.size + 1, 6, none⟩) hbl).trans Sd.c6
              have f6A : wA.frozen? ⟨w.heap.size + 1, 6, none⟩ = false := (World.frozen?_of_block (a := ⟨w.heap.size + 1, 6, none⟩) hbl).trans (Sd.fr 6)
              have hXA : w.heap.size + 1 < wA.heap.size := World.block_lt_of_cell? _ _ c6A
              have T3 : Stp (w.heap.size + 1) W1 (wA.setCell ⟨w.heap.size + 1, 6, none⟩ v') := Stp.trans (b := wA) ((Stp.below (Nat.le_of_lt HS1.out.lt) ((Below.refl _ W1).alloc (Nat.le_refl _) (.cells #[.int .u8 c.toNat] 5))).trans ⟨(Below.refl _ _).grown hgrow (by have := HS1.out.lt; simp; omega) (fun k hk => (HS1.out.word.lt k hk).1), ItK.grown Sd.word hgrow⟩) ⟨(Below.refl _ wA).setCell (p := ⟨w.heap.size + 1, 6, none⟩) (Nat.le_refl _) _, ItK.set c6A⟩
              obtain ⟨aV, cV, hvV⟩ := own_form hown
              have HN : Hid (ScInv w.heap.size W0 t (wA.setCell ⟨w.heap.size + 1, 6, none⟩ v') (pos + 1) { s with word := s.word ++ [c] } vL v') := by
                refine ⟨by omega, S3, T3.2 _ _ _ HIT1.out, HI.out.part, HI.out.legs, by have := HI.out.word; simp; omega, ?_, HB1.out.trans T3.1⟩
                rw [← HI.out.rest, HDR.out, scanP, if_neg hs, if_pos HW.out]
              subst hvV
              clear S3 T3 hown' hgX hown hgrow Sd hbl
              go_wp2
              go_roundw
              case rel => exact ⟨_, _, _, _, HN.out⟩
              case measure =>
                have := HN.out.it
                rw [hmeas]
                simp only [World.iterPos, this]
                omega
          | false =>
            have h45 : ¬ (97 ≤ (c.toNat : Int) ∧ (c.toNat : Int) ≤ 122) ∧ ¬ (48 ≤ (c.toNat : Int) ∧ (c.toNat : Int) ≤ 57) ∧ ¬ (c.toNat : Int) = 45 := by
              simp only [wordC, lowB, digC, Bool.or_eq_false_iff, Bool.and_eq_false_iff, decide_eq_false_iff_not] at hw
              omega
            have kl : (c.toNat : Int) < 97 ∨ 122 < (c.toNat : Int) := by omega
            have kb : ((c.toNat : Int) == 45) = false := by simpa using h45.2.2
            have HR2 : Hid (scanP t.data.toList sc0 = s) := by
              show _ = _
              rw [← HI.out.rest, HDR.out, scanP, if_neg hs, if_neg (by rw [hw]; simp)]
            have h48 : (c.toNat : Int) < 48 ∨ 57 < (c.toNat : Int) := by omega
            have CLt : Hid (∀ w', Calls Tryd.prog 95 #[.int .i32 c.toNat] w' fun e w'' => e = .returned (.bool false) ∧ w' = w'') := fun w' => isLetter_no' _ w' kl
            have hne45 := h45.2.2
            clear h45 hw kl
            rcases h48 with k8 | k8
            · go_wp2_with (go_at_call 95; refine (CLt.out _).mono ?_; rintro e w' ⟨rfl, rfl⟩; refine Hid.out ?_)
              refine Lib.hid ?_
              go_wp2_with fail
              refine (endPart_any (w.heap.size + 1) (w.heap.size + 1) s _ _ _ HS1.out (Nat.le_of_lt (HS1.out).lt) HI.out.part (by have := HI.out.legs; omega) (by have := HI.out.word; have := HI.out.le; omega) (fun w' k => HE.out w' (KW.out.trans ((HB1.out).trans k |>.mono (by omega))))).mono ?_
              rintro e wz ⟨rfl, ⟨vL', vW', Sz⟩, Tz⟩
              have hfin : (endP s).1 = readP t.data.toList := by
                show (endP s).1 = (endP (scanP t.data.toList sc0)).1
                rw [HR2.out]
              rw [hfin] at Sz
              obtain ⟨Z, hZ⟩ : ∃ Z, Z = readP t.data.toList := ⟨_, rfl⟩
              have EZ : Hid (Z = readP t.data.toList) := hZ
              rw [← hZ] at Sz
              obtain ⟨aL, cL, hvL⟩ := own_form Sz.legs
              subst hvL
              have hBz : Below (w.heap.size + 1) W0 wz := (HB1.out).trans Tz.1
              have u0 := Sz.c0
              have u1 := Sz.c1
              have uX := Sz.lt
              have r0 : wz.cell? ⟨w.heap.size, 0, none⟩ = some (.int .i64 0) := (hBz.cell (p := ⟨w.heap.size, 0, none⟩) (by simp)).trans R0.out
              have r1 : wz.cell? ⟨w.heap.size, 1, none⟩ = some (.slice none 0 0) := (hBz.cell (p := ⟨w.heap.size, 1, none⟩) (by simp)).trans R1.out
              have rf0 : wz.frozen? ⟨w.heap.size, 0, none⟩ = false := (hBz.frozen (p := ⟨w.heap.size, 0, none⟩) (by simp)).trans (RF.out 0)
              have rf1 : wz.frozen? ⟨w.heap.size, 1, none⟩ = false := (hBz.frozen (p := ⟨w.heap.size, 1, none⟩) (by simp)).trans (RF.out 1)
              have hRz : w.heap.size < wz.heap.size := World.block_lt_of_cell? _ _ r0
              have HSz : Hid (ScAt (w.heap.size + 1) (w.heap.size + 1) wz Z (.slice aL Z.legs.length cL) vW') := Sz
              have HBz : Hid (Below w.heap.size w wz) := KW.out.trans (hBz.mono (by omega))
              clear hZ Sz Tz hfin hBz
              go_wp2
              refine scan_ret ?_
              refine bodyPost_ret (v := .agg #[.int .i64 Z.id, .slice aL Z.legs.length cL]) (by simp [results, Tryd.results55, go_sem, r0, r1]) rfl ⟨_, by rw [← EZ.out], ?_, ?_⟩
              · rw [← EZ.out]
                have hne : (Value.slice aL Z.legs.length cL).ownBlock ≠ some w.heap.size := fun e => by have := (HSz.out.legs.lt _ e).1; omega
                exact own_set (own_set (row_mono HSz.out.legs (by omega)) hne _) hne _
              · exact (HBz.out.setCell (p := ⟨w.heap.size, 0, none⟩) (Nat.le_refl _) _).setCell (p := ⟨w.heap.size, 1, none⟩) (Nat.le_refl _) _
            · go_wp2_with (go_at_call 95; refine (CLt.out _).mono ?_; rintro e w' ⟨rfl, rfl⟩; refine Hid.out ?_)
              refine Lib.hid ?_
              go_wp2_with fail
              refine (endPart_any (w.heap.size + 1) (w.heap.size + 1) s _ _ _ HS1.out (Nat.le_of_lt (HS1.out).lt) HI.out.part (by have := HI.out.legs; omega) (by have := HI.out.word; have := HI.out.le; omega) (fun w' k => HE.out w' (KW.out.trans ((HB1.out).trans k |>.mono (by omega))))).mono ?_
              rintro e wz ⟨rfl, ⟨vL', vW', Sz⟩, Tz⟩
              have hfin : (endP s).1 = readP t.data.toList := by
                show (endP s).1 = (endP (scanP t.data.toList sc0)).1
                rw [HR2.out]
              rw [hfin] at Sz
              obtain ⟨Z, hZ⟩ : ∃ Z, Z = readP t.data.toList := ⟨_, rfl⟩
              have EZ : Hid (Z = readP t.data.toList) := hZ
              rw [← hZ] at Sz
              obtain ⟨aL, cL, hvL⟩ := own_form Sz.legs
              subst hvL
              have hBz : Below (w.heap.size + 1) W0 wz := (HB1.out).trans Tz.1
              have u0 := Sz.c0
              have u1 := Sz.c1
              have uX := Sz.lt
              have r0 : wz.cell? ⟨w.heap.size, 0, none⟩ = some (.int .i64 0) := (hBz.cell (p := ⟨w.heap.size, 0, none⟩) (by simp)).trans R0.out
              have r1 : wz.cell? ⟨w.heap.size, 1, none⟩ = some (.slice none 0 0) := (hBz.cell (p := ⟨w.heap.size, 1, none⟩) (by simp)).trans R1.out
              have rf0 : wz.frozen? ⟨w.heap.size, 0, none⟩ = false := (hBz.frozen (p := ⟨w.heap.size, 0, none⟩) (by simp)).trans (RF.out 0)
              have rf1 : wz.frozen? ⟨w.heap.size, 1, none⟩ = false := (hBz.frozen (p := ⟨w.heap.size, 1, none⟩) (by simp)).trans (RF.out 1)
              have hRz : w.heap.size < wz.heap.size := World.block_lt_of_cell? _ _ r0
              have HSz : Hid (ScAt (w.heap.size + 1) (w.heap.size + 1) wz Z (.slice aL Z.legs.length cL) vW') := Sz
              have HBz : Hid (Below w.heap.size w wz) := KW.out.trans (hBz.mono (by omega))
              clear hZ Sz Tz hfin hBz
              go_wp2
              refine scan_ret ?_
              refine bodyPost_ret (v := .agg #[.int .i64 Z.id, .slice aL Z.legs.length cL]) (by simp [results, Tryd.results55, go_sem, r0, r1]) rfl ⟨_, by rw [← EZ.out], ?_, ?_⟩
              · rw [← EZ.out]
                have hne : (Value.slice aL Z.legs.length cL).ownBlock ≠ some w.heap.size := fun e => by have := (HSz.out.legs.lt _ e).1; omega
                exact own_set (own_set (row_mono HSz.out.legs (by omega)) hne _) hne _
              · exact (HBz.out.setCell (p := ⟨w.heap.size, 0, none⟩) (Nat.le_refl _) _).setCell (p := ⟨w.heap.size, 1, none⟩) (Nat.le_refl _) _
      · have hnx : ∀ ty, (Instr.next (.pointer (some ⟨w.heap.size + 1 + 1, 0, none⟩)) true ty).run Tryd.prog wr = .ok (.tuple #[.bool true, .int .i64 pos, .int .i32 (Utf8.decode t pos).1]) (wr.iterAt (w.heap.size + 1 + 1) t (pos + (Utf8.decode t pos).2)) := fun ty => Lib.run_next_any_at wr _ t pos ty hit hlt
        have hdh := (decode_high t pos hlt (by rw [← hc]; omega)).1
        obtain ⟨rr, hrr⟩ : ∃ rr, rr = (Utf8.decode t pos).1 := ⟨_, rfl⟩
        obtain ⟨W1, hW1⟩ : ∃ W1, W1 = wr.iterAt (w.heap.size + 1 + 1) t (pos + (Utf8.decode t pos).2) := ⟨_, rfl⟩
        have S1 : ScAt (w.heap.size + 1) (w.heap.size + 1) W1 s vL vW := by rw [hW1]; exact HI.out.at_.iterAt hit _
        have B1 : Below (w.heap.size + 1) W0 W1 := by rw [hW1]; exact Lib.below_iterAt HI.out.bel (by omega) _ _
        rw [← hW1, ← hrr] at hnx
        rw [← hrr] at hdh
        have HS1 : Hid (ScAt (w.heap.size + 1) (w.heap.size + 1) W1 s vL vW) := S1
        have HB1 : Hid (Below (w.heap.size + 1) W0 W1) := B1
        have c5 := S1.c5
        have hX1 := S1.lt
        obtain ⟨q, hq⟩ : ∃ q : Int, q = ((sepC s.part).toNat : Int) := ⟨_, rfl⟩
        have cE : W1.cell? ⟨0, s.part, none⟩ = some (.int .i32 q) := by
          have h1 := HPE.out W1 (KW.out.trans (B1.mono (by omega)))
          have h2 := h1.cell (g := 0) (by kernel_rfl) s.part (by show s.part < 4; omega)
          rw [h2, hq]
          congr 2
          rcases (by omega : s.part = 0 ∨ s.part = 1 ∨ s.part = 2 ∨ s.part = 3) with h | h | h | h <;> (rw [h]; rfl)
        have hq58 : q ≤ 58 := by
          rw [hq]
          rcases (by omega : s.part = 0 ∨ s.part = 1 ∨ s.part = 2 ∨ s.part = 3) with h | h | h | h <;> (rw [h]; decide)
        have hpI : (s.part : Int) < 4 := by omega
        have h0W : 0 < W1.heap.size := World.block_lt_of_cell? _ _ cE
        have hqb : ((rr : Int) == q) = false := by rw [beq_eq_false_iff_ne]; omega
        have hqi : ¬ (rr : Int) = q := by omega
        have kl : (rr : Int) < 97 ∨ 122 < (rr : Int) := by omega
        have k8 : 57 < (rr : Int) := by omega
        have kb : ((rr : Int) == 45) = false := by rw [beq_eq_false_iff_ne]; omega
        have hne45 : ¬ (rr : Int) = 45 := by omega
        have CLt : Hid (∀ w', Calls Tryd.prog 95 #[.int .i32 rr] w' fun e w'' => e = .returned (.bool false) ∧ w' = w'') := fun w' => isLetter_no' _ w' kl
        have HR2 : Hid (scanP t.data.toList sc0 = s) := by
          show _ = _
          have e1 : ¬ c = sepC s.part := by
            intro e
            have : c.toNat ≤ 58 := by
              rw [e]
              rcases (by omega : s.part = 0 ∨ s.part = 1 ∨ s.part = 2 ∨ s.part = 3) with h | h | h | h <;> (rw [h]; decide)
            omega
          have e2 : wordC c = false := by
            simp only [wordC, lowB, digC, Bool.or_eq_false_iff, Bool.and_eq_false_iff, decide_eq_false_iff_not]
            omega
          rw [← HI.out.rest, HDR.out, scanP, if_neg e1, if_neg (by rw [e2]; simp)]
        clear hc hW1 hq B1 S1 hit hX hrr kl
        go_wp2_with (go_at_call 95; refine (CLt.out _).mono ?_; rintro e w' ⟨rfl, rfl⟩; refine Hid.out ?_)
        refine Lib.hid ?_
        go_wp2_with fail
        refine (endPart_any (w.heap.size + 1) (w.heap.size + 1) s _ _ _ HS1.out (Nat.le_of_lt (HS1.out).lt) HI.out.part (by have := HI.out.legs; omega) (by have := HI.out.word; have := HI.out.le; omega) (fun w' k => HE.out w' (KW.out.trans ((HB1.out).trans k |>.mono (by omega))))).mono ?_
        rintro e wz ⟨rfl, ⟨vL', vW', Sz⟩, Tz⟩
        have hfin : (endP s).1 = readP t.data.toList := by
          show (endP s).1 = (endP (scanP t.data.toList sc0)).1
          rw [HR2.out]
        rw [hfin] at Sz
        obtain ⟨Z, hZ⟩ : ∃ Z, Z = readP t.data.toList := ⟨_, rfl⟩
        have EZ : Hid (Z = readP t.data.toList) := hZ
        rw [← hZ] at Sz
        obtain ⟨aL, cL, hvL⟩ := own_form Sz.legs
        subst hvL
        have hBz : Below (w.heap.size + 1) W0 wz := (HB1.out).trans Tz.1
        have u0 := Sz.c0
        have u1 := Sz.c1
        have uX := Sz.lt
        have r0 : wz.cell? ⟨w.heap.size, 0, none⟩ = some (.int .i64 0) := (hBz.cell (p := ⟨w.heap.size, 0, none⟩) (by simp)).trans R0.out
        have r1 : wz.cell? ⟨w.heap.size, 1, none⟩ = some (.slice none 0 0) := (hBz.cell (p := ⟨w.heap.size, 1, none⟩) (by simp)).trans R1.out
        have rf0 : wz.frozen? ⟨w.heap.size, 0, none⟩ = false := (hBz.frozen (p := ⟨w.heap.size, 0, none⟩) (by simp)).trans (RF.out 0)
        have rf1 : wz.frozen? ⟨w.heap.size, 1, none⟩ = false := (hBz.frozen (p := ⟨w.heap.size, 1, none⟩) (by simp)).trans (RF.out 1)
        have hRz : w.heap.size < wz.heap.size := World.block_lt_of_cell? _ _ r0
        have HSz : Hid (ScAt (w.heap.size + 1) (w.heap.size + 1) wz Z (.slice aL Z.legs.length cL) vW') := Sz
        have HBz : Hid (Below w.heap.size w wz) := KW.out.trans (hBz.mono (by omega))
        clear hZ Sz Tz hfin hBz
        go_wp2
        refine scan_ret ?_
        refine bodyPost_ret (v := .agg #[.int .i64 Z.id, .slice aL Z.legs.length cL]) (by simp [results, Tryd.results55, go_sem, r0, r1]) rfl ⟨_, by rw [← EZ.out], ?_, ?_⟩
        · rw [← EZ.out]
          have hne : (Value.slice aL Z.legs.length cL).ownBlock ≠ some w.heap.size := fun e => by have := (HSz.out.legs.lt _ e).1; omega
          exact own_set (own_set (row_mono HSz.out.legs (by omega)) hne _) hne _
        · exact (HBz.out.setCell (p := ⟨w.heap.size, 0, none⟩) (Nat.le_refl _) _).setCell (p := ⟨w.heap.size, 1, none⟩) (Nat.le_refl _) _
    · have hnx : ∀ ty, (Instr.next (.pointer (some ⟨w.heap.size + 1 + 1, 0, none⟩)) true ty).run Tryd.prog wr = _ := fun ty => Lib.run_next_end_at wr _ t pos ty hit hlt
      go_wp2_with fail
      refine (endPart_any (w.heap.size + 1) (w.heap.size + 1) s _ _ _ HI.out.at_ (Nat.le_of_lt (HI.out.at_).lt) HI.out.part (by have := HI.out.legs; omega) (by have := HI.out.word; have := HI.out.le; omega) (fun w' k => HE.out w' (KW.out.trans ((HI.out.bel).trans k |>.mono (by omega))))).mono ?_
      rintro e wz ⟨rfl, ⟨vL', vW', Sz⟩, Tz⟩
      have hfin : (endP s).1 = readP t.data.toList := by
        show (endP s).1 = (endP (scanP t.data.toList sc0)).1
        rw [← HI.out.rest, scan_over t pos hlt s]
      rw [hfin] at Sz
      obtain ⟨Z, hZ⟩ : ∃ Z, Z = readP t.data.toList := ⟨_, rfl⟩
      have EZ : Hid (Z = readP t.data.toList) := hZ
      rw [← hZ] at Sz
      obtain ⟨aL, cL, hvL⟩ := own_form Sz.legs
      subst hvL
      have hBz : Below (w.heap.size + 1) W0 wz := (HI.out.bel).trans Tz.1
      have u0 := Sz.c0
      have u1 := Sz.c1
      have uX := Sz.lt
      have r0 : wz.cell? ⟨w.heap.size, 0, none⟩ = some (.int .i64 0) := (hBz.cell (p := ⟨w.heap.size, 0, none⟩) (by simp)).trans R0.out
      have r1 : wz.cell? ⟨w.heap.size, 1, none⟩ = some (.slice none 0 0) := (hBz.cell (p := ⟨w.heap.size, 1, none⟩) (by simp)).trans R1.out
      have rf0 : wz.frozen? ⟨w.heap.size, 0, none⟩ = false := (hBz.frozen (p := ⟨w.heap.size, 0, none⟩) (by simp)).trans (RF.out 0)
      have rf1 : wz.frozen? ⟨w.heap.size, 1, none⟩ = false := (hBz.frozen (p := ⟨w.heap.size, 1, none⟩) (by simp)).trans (RF.out 1)
      have hRz : w.heap.size < wz.heap.size := World.block_lt_of_cell? _ _ r0
      have HSz : Hid (ScAt (w.heap.size + 1) (w.heap.size + 1) wz Z (.slice aL Z.legs.length cL) vW') := Sz
      have HBz : Hid (Below w.heap.size w wz) := KW.out.trans (hBz.mono (by omega))
      clear hZ Sz Tz hfin hBz
      go_wp2
      refine scan_ret ?_
      refine bodyPost_ret (v := .agg #[.int .i64 Z.id, .slice aL Z.legs.length cL]) (by simp [results, Tryd.results55, go_sem, r0, r1]) rfl ⟨_, by rw [← EZ.out], ?_, ?_⟩
      · rw [← EZ.out]
        have hne : (Value.slice aL Z.legs.length cL).ownBlock ≠ some w.heap.size := fun e => by have := (HSz.out.legs.lt _ e).1; omega
        exact own_set (own_set (row_mono HSz.out.legs (by omega)) hne _) hne _
      · exact (HBz.out.setCell (p := ⟨w.heap.size, 0, none⟩) (Nat.le_refl _) _).setCell (p := ⟨w.heap.size, 1, none⟩) (Nat.le_refl _) _

end Go.Proofs.YtfblpbihpmhgjaaDoor
