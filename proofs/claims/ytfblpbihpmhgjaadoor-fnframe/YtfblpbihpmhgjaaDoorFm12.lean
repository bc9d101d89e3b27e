/-
  What the program's endPart does to a posting that is scanned, by a walk of its Go text.
-/
import Derived.Test.YtfblpbihpmhgjaaDoorFm01
import Derived.Test.YtfblpbihpmhgjaaDoorFm05
import Derived.Test.YtfblpbihpmhgjaaDoorFm10
import Derived.Deep.RegionLaw
import Derived.Test.YtfblpbihpmhgjaaDoorFm11
import Derived.Laws.IdiomStrings
import Derived.Deep.RegionHeld3
import Derived.Deep.RegionWith
import Derived.Deep.DeepCutAuto
namespace Go.Proofs.YtfblpbihpmhgjaaDoor
open Go.RowKit Go.Shelf

theorem Tryd.infoByteE : (Tryd.prog.info? 5).map (fun i => (i.zero, i.size, i.bytes)) = some (some (.int .u8 0), 1, 1) := by kernel_rfl

theorem flat_newE (w : World) (t : TypeId) (M : List LegD) : ∀ j u, (flat M)[j]? = some u → (w.alloc (.cells (flat M).toArray t)).cell? ((⟨w.heap.size, 0, none⟩ : Addr).add j) = some u := by
  intro j u hj
  have ea : (⟨w.heap.size, 0, none⟩ : Addr).add j = ⟨w.heap.size, j, none⟩ := (WideShapes.add_plain _ _ _).trans (by simp)
  rw [ea, World.cell?_alloc_new]
  simpa using hj

set_option maxRecDepth 100000 in
set_option maxHeartbeats 2000000 in
/-- Bytes of the call's own, as a text. -/
theorem conv_own {w : World} {B : Nat} {v : Value} {l : List UInt8} (h : w.ownsRow B 5 1 v l.length (Lib.byteCells l)) : (convert 49 9 v).run Tryd.prog w = .ok (.string ⟨l.toArray⟩) w := by
  rcases h.2 with ⟨rfl, h0⟩ | ⟨g, cap, cur, rfl, -, -, -, -, -, -⟩
  · have hl : l = [] := List.length_eq_zero_iff.1 h0
    subst hl
    rw [run_convert_bytes_string w 49 9 5 none 0 0 Tryd.underlying49 Tryd.underlying5 Tryd.underlying9]
    rfl
  · exact run_convert_bytes_back (P := Tryd.prog) w 49 9 5 ⟨g, 0, none⟩ cap l Tryd.underlying49 Tryd.underlying5 Tryd.underlying9 (fun j hj => h.cells (g := g) rfl j _ (by simp [Lib.byteCells, hj]))

/-- A posting that is scanned, in the box at X and in rows of the call's own. -/
structure ScAt (B X : Nat) (w : World) (s : ScD) (vL vW : Value) : Prop where
  low : B ≤ X
  c0 : w.cell? ⟨X, 0, none⟩ = some (.int .i64 s.id)
  c1 : w.cell? ⟨X, 1, none⟩ = some vL
  c2 : w.cell? ⟨X, 2, none⟩ = some (.string s.acct)
  c3 : w.cell? ⟨X, 3, none⟩ = some (.int .i64 s.cur)
  c4 : w.cell? ⟨X, 4, none⟩ = some (.int .i64 s.n)
  c5 : w.cell? ⟨X, 5, none⟩ = some (.int .i64 (s.part : Int))
  c6 : w.cell? ⟨X, 6, none⟩ = some vW
  fr : ∀ o, w.frozen? ⟨X, o, none⟩ = false
  legs : w.ownsRow B 69 3 vL s.legs.length (flat s.legs)
  word : w.ownsRow B 5 1 vW s.word.length (Lib.byteCells s.word)
  neL : vL.ownBlock ≠ some X
  neW : vW.ownBlock ≠ some X
theorem ScAt.lt {B X : Nat} {w : World} {s : ScD} {vL vW : Value} (h : ScAt B X w s vL vW) : X < w.heap.size := World.block_lt_of_cell? _ _ h.c0
theorem ScAt.below {B X : Nat} {w w' : World} {s : ScD} {vL vW : Value} (h : ScAt B X w s vL vW) (hb : Below w.heap.size w w') : ScAt B X w' s vL vW :=
  ⟨h.low, cell_later hb h.c0, cell_later hb h.c1, cell_later hb h.c2, cell_later hb h.c3, cell_later hb h.c4, cell_later hb h.c5, cell_later hb h.c6, fun o => (hb.frozen (p := ⟨X, o, none⟩) h.lt).trans (h.fr o), ownsRow_kb h.legs hb, ownsRow_kb h.word hb, h.neL, h.neW⟩
theorem own_set {w : World} {B X o : Nat} {e : TypeId} {z n : Nat} {v : Value} {xs : List Value} (h : w.ownsRow B e z v n xs) (hn : v.ownBlock ≠ some X) (u : Value) : (w.setCell ⟨X, o, none⟩ u).ownsRow B e z v n xs :=
  h.kept (row := some X) ⟨rfl, rfl, rfl, by simp [World.setCell], fun k _ hk => Below.heap_setCell _ _ _ _ (fun e => hk (by rw [e]))⟩ (Or.inr hn)
/-- Iterators are kept. -/
def ItK (w w' : World) : Prop := ∀ (k : Nat) (s : ByteArray) (pos : Nat), w.heap[k]? = some (.stringIter s pos) → w'.heap[k]? = some (.stringIter s pos)
theorem ItK.refl (w : World) : ItK w w := fun _ _ _ h => h
theorem ItK.trans {a b c : World} (h : ItK a b) (k : ItK b c) : ItK a c := fun i s p e => k i s p (h i s p e)
theorem ItK.below {w w' : World} (hb : Below w.heap.size w w') : ItK w w' := fun k _ _ h => (hb.block k (Array.getElem?_eq_some_iff.1 h).1).trans h
theorem ItK.set {w : World} {X o : Nat} {v u : Value} (hc : w.cell? ⟨X, o, none⟩ = some v) : ItK w (w.setCell ⟨X, o, none⟩ u) := by
  intro k s p h
  have hne : k ≠ X := by
    rintro rfl
    simp [World.cell?, h] at hc
  rw [Below.heap_setCell _ _ _ _ hne]
  exact h
theorem ItK.grown {w w' : World} {v : Value} {B : Nat} {e : TypeId} {z n : Nat} {xs : List Value} (ho : w.ownsRow B e z v n xs) (hg : w.grownBy w' v.ownBlock) : ItK w w' := by
  intro k s p h
  rw [hg.block k (Array.getElem?_eq_some_iff.1 h).1 (fun e => ?_)]
  · exact h
  · obtain ⟨c, fz, hc⟩ := Lib.ownsRow_kind ho k e.symm
    rw [h] at hc
    cases hc

theorem ScAt.setId {B X : Nat} {w : World} {s : ScD} {vL vW : Value} (h : ScAt B X w s vL vW) (v : Int) : ScAt B X (w.setCell ⟨X, 0, none⟩ (.int .i64 v)) { s with id := v } vL vW := by
  refine ⟨h.low, ?_, ?_, ?_, ?_, ?_, ?_, ?_, fun o => by rw [World.frozen?_setCell]; exact h.fr o, own_set h.legs h.neL _, own_set h.word h.neW _, h.neL, h.neW⟩
  · exact World.cell?_setCell_same' _ _ _ (by rw [h.c0]; rfl)
  · rw [World.cell?_setCell_other _ _ _ _ (by simp)]; exact h.c1
  · rw [World.cell?_setCell_other _ _ _ _ (by simp)]; exact h.c2
  · rw [World.cell?_setCell_other _ _ _ _ (by simp)]; exact h.c3
  · rw [World.cell?_setCell_other _ _ _ _ (by simp)]; exact h.c4
  · rw [World.cell?_setCell_other _ _ _ _ (by simp)]; exact h.c5
  · rw [World.cell?_setCell_other _ _ _ _ (by simp)]; exact h.c6
theorem ScAt.setAcct {B X : Nat} {w : World} {s : ScD} {vL vW : Value} (h : ScAt B X w s vL vW) (v : ByteArray) : ScAt B X (w.setCell ⟨X, 2, none⟩ (.string v)) { s with acct := v } vL vW := by
  refine ⟨h.low, ?_, ?_, ?_, ?_, ?_, ?_, ?_, fun o => by rw [World.frozen?_setCell]; exact h.fr o, own_set h.legs h.neL _, own_set h.word h.neW _, h.neL, h.neW⟩
  · rw [World.cell?_setCell_other _ _ _ _ (by simp)]; exact h.c0
  · rw [World.cell?_setCell_other _ _ _ _ (by simp)]; exact h.c1
  · exact World.cell?_setCell_same' _ _ _ (by rw [h.c2]; rfl)
  · rw [World.cell?_setCell_other _ _ _ _ (by simp)]; exact h.c3
  · rw [World.cell?_setCell_other _ _ _ _ (by simp)]; exact h.c4
  · rw [World.cell?_setCell_other _ _ _ _ (by simp)]; exact h.c5
  · rw [World.cell?_setCell_other _ _ _ _ (by simp)]; exact h.c6
theorem ScAt.setCur {B X : Nat} {w : World} {s : ScD} {vL vW : Value} (h : ScAt B X w s vL vW) (v : Int) : ScAt B X (w.setCell ⟨X, 3, none⟩ (.int .i64 v)) { s with cur := v } vL vW := by
  refine ⟨h.low, ?_, ?_, ?_, ?_, ?_, ?_, ?_, fun o => by rw [World.frozen?_setCell]; exact h.fr o, own_set h.legs h.neL _, own_set h.word h.neW _, h.neL, h.neW⟩
  · rw [World.cell?_setCell_other _ _ _ _ (by simp)]; exact h.c0
  · rw [World.cell?_setCell_other _ _ _ _ (by simp)]; exact h.c1
  · rw [World.cell?_setCell_other _ _ _ _ (by simp)]; exact h.c2
  · exact World.cell?_setCell_same' _ _ _ (by rw [h.c3]; rfl)
  · rw [World.cell?_setCell_other _ _ _ _ (by simp)]; exact h.c4
  · rw [World.cell?_setCell_other _ _ _ _ (by simp)]; exact h.c5
  · rw [World.cell?_setCell_other _ _ _ _ (by simp)]; exact h.c6
theorem ScAt.setN {B X : Nat} {w : World} {s : ScD} {vL vW : Value} (h : ScAt B X w s vL vW) (v : Int) : ScAt B X (w.setCell ⟨X, 4, none⟩ (.int .i64 v)) { s with n := v } vL vW := by
  refine ⟨h.low, ?_, ?_, ?_, ?_, ?_, ?_, ?_, fun o => by rw [World.frozen?_setCell]; exact h.fr o, own_set h.legs h.neL _, own_set h.word h.neW _, h.neL, h.neW⟩
  · rw [World.cell?_setCell_other _ _ _ _ (by simp)]; exact h.c0
  · rw [World.cell?_setCell_other _ _ _ _ (by simp)]; exact h.c1
  · rw [World.cell?_setCell_other _ _ _ _ (by simp)]; exact h.c2
  · rw [World.cell?_setCell_other _ _ _ _ (by simp)]; exact h.c3
  · exact World.cell?_setCell_same' _ _ _ (by rw [h.c4]; rfl)
  · rw [World.cell?_setCell_other _ _ _ _ (by simp)]; exact h.c5
  · rw [World.cell?_setCell_other _ _ _ _ (by simp)]; exact h.c6
theorem ScAt.setPart {B X : Nat} {w : World} {s : ScD} {vL vW : Value} (h : ScAt B X w s vL vW) (v : Nat) : ScAt B X (w.setCell ⟨X, 5, none⟩ (.int .i64 (v : Int))) { s with part := v } vL vW := by
  refine ⟨h.low, ?_, ?_, ?_, ?_, ?_, ?_, ?_, fun o => by rw [World.frozen?_setCell]; exact h.fr o, own_set h.legs h.neL _, own_set h.word h.neW _, h.neL, h.neW⟩
  · rw [World.cell?_setCell_other _ _ _ _ (by simp)]; exact h.c0
  · rw [World.cell?_setCell_other _ _ _ _ (by simp)]; exact h.c1
  · rw [World.cell?_setCell_other _ _ _ _ (by simp)]; exact h.c2
  · rw [World.cell?_setCell_other _ _ _ _ (by simp)]; exact h.c3
  · rw [World.cell?_setCell_other _ _ _ _ (by simp)]; exact h.c4
  · exact World.cell?_setCell_same' _ _ _ (by rw [h.c5]; rfl)
  · rw [World.cell?_setCell_other _ _ _ _ (by simp)]; exact h.c6
theorem ScAt.setWord {B X : Nat} {w : World} {s : ScD} {vL vW : Value} (h : ScAt B X w s vL vW) (u : Value) (l : List UInt8) (ho : w.ownsRow B 5 1 u l.length (Lib.byteCells l)) (hn : u.ownBlock ≠ some X) : ScAt B X (w.setCell ⟨X, 6, none⟩ (u)) { s with word := l } vL u := by
  refine ⟨h.low, ?_, ?_, ?_, ?_, ?_, ?_, ?_, fun o => by rw [World.frozen?_setCell]; exact h.fr o, own_set h.legs h.neL _, own_set ho hn _, h.neL, hn⟩
  · rw [World.cell?_setCell_other _ _ _ _ (by simp)]; exact h.c0
  · rw [World.cell?_setCell_other _ _ _ _ (by simp)]; exact h.c1
  · rw [World.cell?_setCell_other _ _ _ _ (by simp)]; exact h.c2
  · rw [World.cell?_setCell_other _ _ _ _ (by simp)]; exact h.c3
  · rw [World.cell?_setCell_other _ _ _ _ (by simp)]; exact h.c4
  · rw [World.cell?_setCell_other _ _ _ _ (by simp)]; exact h.c5
  · exact World.cell?_setCell_same' _ _ _ (by rw [h.c6]; rfl)
theorem ScAt.setLegs {B X : Nat} {w : World} {s : ScD} {vL vW : Value} (h : ScAt B X w s vL vW) (u : Value) (l : List LegD) (ho : w.ownsRow B 69 3 u l.length (flat l)) (hn : u.ownBlock ≠ some X) : ScAt B X (w.setCell ⟨X, 1, none⟩ (u)) { s with legs := l } u vW := by
  refine ⟨h.low, ?_, ?_, ?_, ?_, ?_, ?_, ?_, fun o => by rw [World.frozen?_setCell]; exact h.fr o, own_set ho hn _, own_set h.word h.neW _, hn, h.neW⟩
  · rw [World.cell?_setCell_other _ _ _ _ (by simp)]; exact h.c0
  · exact World.cell?_setCell_same' _ _ _ (by rw [h.c1]; rfl)
  · rw [World.cell?_setCell_other _ _ _ _ (by simp)]; exact h.c2
  · rw [World.cell?_setCell_other _ _ _ _ (by simp)]; exact h.c3
  · rw [World.cell?_setCell_other _ _ _ _ (by simp)]; exact h.c4
  · rw [World.cell?_setCell_other _ _ _ _ (by simp)]; exact h.c5
  · rw [World.cell?_setCell_other _ _ _ _ (by simp)]; exact h.c6
theorem ScAt.noWord {B X : Nat} {w : World} {s : ScD} {vL vW : Value} (h : ScAt B X w s vL vW) : ScAt B X (w.setCell ⟨X, 6, none⟩ (.slice none 0 0)) { s with word := [] } vL (.slice none 0 0) :=
  h.setWord (.slice none 0 0) [] (World.ownsRow_nil _ _ _ _) (by simp [Value.ownBlock])

theorem ScAt.itk {B X : Nat} {w : World} {s : ScD} {vL vW : Value} (h : ScAt B X w s vL vW) (k : Nat) (u : Value) : Below B w (w.setCell ⟨X, k, none⟩ u) ∧ ItK w (w.setCell ⟨X, k, none⟩ u) := by
  refine ⟨(Below.refl B w).setCell (p := ⟨X, k, none⟩) h.low _, fun j t p e => ?_⟩
  have hne : j ≠ X := by
    rintro rfl
    have hc := h.c0
    simp [World.cell?, e] at hc
  rw [Below.heap_setCell _ _ _ _ hne]
  exact e
/-- A step: what lies below B is kept, and iterators. -/
def Stp (B : Nat) (w w' : World) : Prop := Below B w w' ∧ ItK w w'
theorem Stp.trans {B : Nat} {a b c : World} (h : Stp B a b) (k : Stp B b c) : Stp B a c := ⟨h.1.trans k.1, h.2.trans k.2⟩
theorem Stp.below {B : Nat} {w w' : World} (hB : B ≤ w.heap.size) (h : Below w.heap.size w w') : Stp B w w' := ⟨h.mono hB, ItK.below h⟩
theorem ScAt.stp {B X : Nat} {w : World} {s : ScD} {vL vW : Value} (h : ScAt B X w s vL vW) (k : Nat) (u : Value) : Stp B w (w.setCell ⟨X, k, none⟩ u) := h.itk k u
theorem ScAt.grow {B X : Nat} {w wA : World} {s : ScD} {vL vW v' : Value} {l : List LegD} (h : ScAt B X w s vL vW) (hg : w.grownBy wA vL.ownBlock) (hown : wA.ownsRow B 69 3 v' l.length (flat l)) (hn : v'.ownBlock ≠ some X) (hw : vW.ownBlock = none) :
    ScAt B X (wA.setCell ⟨X, 1, none⟩ v') { s with legs := l } v' vW := by
  have hbl := hg.block X h.lt (fun e => h.neL e.symm)
  have cc : ∀ o, wA.cell? ⟨X, o, none⟩ = w.cell? ⟨X, o, none⟩ := fun o => World.cell?_of_block (a := ⟨X, o, none⟩) hbl
  refine ⟨h.low, ?_, ?_, ?_, ?_, ?_, ?_, ?_, fun o => ?_, own_set hown hn _, own_set (h.word.kept hg (Or.inl hw)) h.neW _, hn, h.neW⟩
  · rw [World.cell?_setCell_other _ _ _ _ (by simp), cc]; exact h.c0
  · exact World.cell?_setCell_same' _ _ _ (by rw [cc, h.c1]; rfl)
  · rw [World.cell?_setCell_other _ _ _ _ (by simp), cc]; exact h.c2
  · rw [World.cell?_setCell_other _ _ _ _ (by simp), cc]; exact h.c3
  · rw [World.cell?_setCell_other _ _ _ _ (by simp), cc]; exact h.c4
  · rw [World.cell?_setCell_other _ _ _ _ (by simp), cc]; exact h.c5
  · rw [World.cell?_setCell_other _ _ _ _ (by simp), cc]; exact h.c6
  · rw [World.frozen?_setCell, World.frozen?_of_block (a := ⟨X, o, none⟩) hbl]; exact h.fr o
theorem flat_head (L : List LegD) (l : LegD) : ∃ t, (flat L ++ flat [l])[0]? = some (.string t) := by
  cases L with
  | nil => exact ⟨l.1, rfl⟩
  | cons x r => exact ⟨x.1, rfl⟩
theorem own_form {w : World} {B : Nat} {e : TypeId} {z n : Nat} {v : Value} {xs : List Value} (h : w.ownsRow B e z v n xs) : ∃ a c, v = .slice a n c := by
  rcases h.2 with ⟨rfl, h0⟩ | ⟨g, cap, cur, hv, _⟩
  · exact ⟨none, 0, by rw [h0]⟩
  · exact ⟨_, _, hv⟩

set_option maxHeartbeats 2000000 in
set_option maxRecDepth 100000 in
theorem endPart_acct (B X : Nat) (s : ScD) (vL vW : Value) (w : World) (h : ScAt B X w s vL vW) (hp : s.part = 1) :
    Calls Tryd.prog 94 #[.pointer (some ⟨X, 0, none⟩)] w fun e w' => e = .returned (.bool true) ∧ (∃ vL' vW', ScAt B X w' { s with acct := ⟨s.word.toArray⟩, part := 2, word := [] } vL' vW') ∧ Stp B w w' := by
  have hcv := conv_own h.word
  have c6 := h.c6
  have c5 : w.cell? ⟨X, 5, none⟩ = some (.int .i64 1) := by rw [h.c5, hp]; rfl
  have c2 := h.c2
  have hX := h.lt
  have f2 := h.fr 2
  have f5 := h.fr 5
  have f6 := h.fr 6
  have HS : Hid (ScAt B X w s vL vW) := h
  clear h hp
  go_enter Tryd.func94, Tryd.ntmps94
  go_wp2
  go_ret
  have S1 := HS.out.noWord
  have S2 := S1.setAcct ⟨s.word.toArray⟩
  exact ⟨rfl, ⟨_, _, S2.setPart 2⟩, ((HS.out.stp 6 _).trans (S1.stp 2 _)).trans (S2.stp 5 _)⟩

set_option maxHeartbeats 4000000 in
set_option maxRecDepth 100000 in
theorem endPart_num (B X : Nat) (s : ScD) (vL vW : Value) (w : World) (h : ScAt B X w s vL vW) (hB : B ≤ w.heap.size) (hp : s.part = 0 ∨ s.part = 2 ∨ s.part = 3) (hl : s.legs.length ≤ 5) (hw : s.word.length ≤ 1048576) (hE : ∀ w', Below B w w' → ErrV w') :
    Calls Tryd.prog 94 #[.pointer (some ⟨X, 0, none⟩)] w fun e w' => e = .returned (.bool (endP s).2) ∧ (∃ vL' vW', ScAt B X w' (endP s).1 vL' vW') ∧ Stp B w w' := by
  have hp1 : ¬ s.part = 1 := by omega
  have hcv := conv_own h.word
  have c6 := h.c6
  obtain ⟨P, hP⟩ : ∃ P : Int, P = (s.part : Int) := ⟨_, rfl⟩
  have EP : Hid (P = (s.part : Int)) := hP
  have c5 : w.cell? ⟨X, 5, none⟩ = some (.int .i64 P) := by rw [h.c5, hP]
  have hP1 : ¬ P = 1 := by omega
  have hP1b : (P == 1) = false := by simpa using hP1
  have hX := h.lt
  have f6 := h.fr 6
  have HS : Hid (ScAt B X w s vL vW) := h
  have S1 := h.noWord
  obtain ⟨W1, hW1⟩ : ∃ W1, W1 = w.setCell ⟨X, 6, none⟩ (.slice none 0 0) := ⟨_, rfl⟩
  have T1 : Stp B w W1 := by rw [hW1]; exact h.stp 6 _
  rw [← hW1] at S1
  have hB1 : B ≤ W1.heap.size := Nat.le_trans hB T1.1.size
  have CA := Tryd.atoi_any ⟨s.word.toArray⟩ (by rw [str_size]; omega) W1 (hE W1 T1.1)
  have HP : Hid (s.part = 0 ∨ s.part = 2 ∨ s.part = 3) := hp
  have HHP : Hid (¬ s.part = 1) := hp1
  have HS1 : Hid (ScAt B X W1 { s with word := [] } vL (.slice none 0 0)) := S1
  have HT1 : Hid (Stp B w W1) := T1
  clear h hp hP hp1 T1
  go_enter Tryd.func94, Tryd.ntmps94
  go_upto_region 3 with fail
  rw [← hW1]
  clear hW1 hcv c6 c5 f6
  have c5 : W1.cell? ⟨X, 5, none⟩ = some (.int .i64 P) := by rw [S1.c5, EP.out]
  clear S1
  go_wp2_with fail
  refine CA.mono ?_
  rintro e w2 ⟨hr, hb2⟩
  have S2 := HS1.out.below hb2
  have HT2 : Hid (Stp B w w2) := HT1.out.trans (Stp.below hB1 hb2)
  clear CA c5 hb2
  rcases hr with ⟨v, hv, rfl⟩ | ⟨hno, n, T, N, rfl⟩
  · have hv' : Lib.atoiAll s.word = .ok v := by simpa using hv
    have HV : Hid (Lib.atoiAll s.word = .ok v) := hv'
    have HS2 : Hid (ScAt B X w2 { s with word := [] } vL (.slice none 0 0)) := S2
    have hX2 := S2.lt
    have d5 : w2.cell? ⟨X, 5, none⟩ = some (.int .i64 P) := by rw [S2.c5, EP.out]
    have f0 := S2.fr 0
    have f1 := S2.fr 1
    have f3 := S2.fr 3
    have f4 := S2.fr 4
    have f5 := S2.fr 5
    have d0 := S2.c0
    have d1 := S2.c1
    have d3 := S2.c3
    have d4 := S2.c4
    obtain ⟨aL, cL, hvL⟩ := own_form S2.legs
    subst hvL
    have hln : (s.legs.length : Int) ≤ 5 := by omega
    have h45 : Hid (decide (s.legs.length ≤ 4) = decide ((s.legs.length : Int) ≤ 4)) := by
      show decide _ = decide _
      simp only [decide_eq_decide]
      omega
    clear hv hv' S2 hX
    rcases HP.out with hp | hp | hp
    · have hP0 : P = 0 := by rw [EP.out, hp]; rfl
      subst hP0
      go_wp2
      go_ret
      have e : endP s = ({ s with id := v, part := 1, word := [] }, decide (s.legs.length ≤ 4)) := by
        unfold endP
        rw [if_neg HHP.out, HV.out]
        simp [hp]
      rw [e]
      have S3 := HS2.out.setId v
      exact ⟨ret_bool h45.out.symm, ⟨_, _, S3.setPart 1⟩, (HT2.out.trans (HS2.out.stp 0 _)).trans (S3.stp 5 _)⟩
    · have hP0 : P = 2 := by rw [EP.out, hp]; rfl
      subst hP0
      go_wp2
      go_ret
      have e : endP s = ({ s with cur := v, part := 3, word := [] }, decide (s.legs.length ≤ 4)) := by
        unfold endP
        rw [if_neg HHP.out, HV.out]
        simp [hp]
      rw [e]
      have S3 := HS2.out.setCur v
      exact ⟨ret_bool h45.out.symm, ⟨_, _, S3.setPart 3⟩, (HT2.out.trans (HS2.out.stp 3 _)).trans (S3.stp 5 _)⟩
    · have hP0 : P = 3 := by rw [EP.out, hp]; rfl
      subst hP0
      obtain ⟨m, hm⟩ : ∃ m : Nat, m = s.legs.length := ⟨_, rfl⟩
      have EM : Hid (m = s.legs.length) := hm
      have hm5 : m ≤ 5 := by omega
      obtain ⟨a, ha⟩ : ∃ a, a = s.acct := ⟨_, rfl⟩
      obtain ⟨c, hc⟩ : ∃ c, c = s.cur := ⟨_, rfl⟩
      have S3 : ScAt B X (w2.setCell ⟨X, 4, none⟩ (.int .i64 v)) { s with n := v, word := [] } (.slice aL m cL) (.slice none 0 0) := by rw [hm]; exact HS2.out.setN v
      obtain ⟨W3, hW3⟩ : ∃ W3, W3 = w2.setCell ⟨X, 4, none⟩ (.int .i64 v) := ⟨_, rfl⟩
      rw [← hW3] at S3
      have HT3 : Hid (Stp B w W3) := by rw [hW3]; exact HT2.out.trans (HS2.out.stp 4 _)
      have HS3 : Hid (ScAt B X W3 { s with n := v, word := [] } (.slice aL m cL) (.slice none 0 0)) := S3
      have kd : Below W3.heap.size W3 (W3.drew.alloc (.cells (flat [(a, c, v)]).toArray 69)) := ((Below.refl _ _).drew).alloc (Nat.le_refl _) _
      have Sd := S3.below kd
      have e1 := S3.c1
      have e2 : W3.cell? ⟨X, 2, none⟩ = some (.string a) := by rw [S3.c2, ha]
      have e3 : W3.cell? ⟨X, 3, none⟩ = some (.int .i64 c) := by rw [S3.c3, hc]
      have e4 := S3.c4
      have g1 := Sd.c1
      have g2 : (W3.drew.alloc (.cells (flat [(a, c, v)]).toArray 69)).cell? ⟨X, 2, none⟩ = some (.string a) := by rw [Sd.c2, ha]
      have g3 : (W3.drew.alloc (.cells (flat [(a, c, v)]).toArray 69)).cell? ⟨X, 3, none⟩ = some (.int .i64 c) := by rw [Sd.c3, hc]
      have g4 := Sd.c4
      have hX3 := S3.lt
      have hml : m + 1 ≤ maxLen := by unfold maxLen; omega
      have hby : (m + 1) * 32 ≤ 140737488355328 := by omega
      have hB3 : B ≤ W3.heap.size := Nat.le_trans hB HT3.out.1.size
      have hGA : B ≤ (W3.drew.alloc (.cells (flat [(a, c, v)]).toArray 69)).heap.size := by have := kd.size; omega
      have hXr : some X ≠ (Value.slice aL m cL).ownBlock := fun e => S3.neL e.symm
      have hfn := flat_newE W3.drew 69 [(a, c, v)]
      have HLd : Hid ((W3.drew.alloc (.cells (flat [(a, c, v)]).toArray 69)).ownsRow B 69 3 (.slice aL m cL) m (flat s.legs)) := by
        have := Sd.legs
        rw [show ({ s with n := v, word := [] } : ScD).legs = s.legs from rfl, ← hm] at this
        exact this
      have EA : Hid (a = s.acct) := ha
      have EC : Hid (c = s.cur) := hc
      have HSd : Hid (ScAt B X (W3.drew.alloc (.cells (flat [(a, c, v)]).toArray 69)) { s with n := v, word := [] } (.slice aL m cL) (.slice none 0 0)) := Sd
      have hXd := Sd.lt
      obtain ⟨i0, hi, hz0, hz1, hz2⟩ := info_parts Tryd.infoLeg
      clear hm ha hc S3 Sd
      go_upto_region 19 with fail
      rw [← hW3]
      clear hW3 f0 f1 f3 f4 f5 d0 d1 d3 d4 d5 hX2 HS2 HT2
      go_region_law (refine step_append_own rfl (.tmp 70) (.tmp 75) 27 rfl B 69 i0 _ 3 32 Tryd.underlying27 hi hz0 hz1 hz2 rfl (Nat.succ_pos 2) (.slice aL m cL) m _ ?_ HLd.out ⟨W3.heap.size, 0, none⟩ 1 1 (flat [(a, c, v)]) ?_ ?_ ?_ (flat_one _) hml hby ?_ ?_; rfl; rfl; rfl; exact hfn; exact hGA; intro v' wA hown hgrow hnil; obtain ⟨gA, cA, rfl⟩ := row_form hown (fun e => by have := (hnil.1 e).2; omega); have hbl := hgrow.block X hXd hXr; have bA1 := (World.cell?_of_block (a := ⟨X, 1, none⟩) hbl).trans HSd.out.c1; have bAf := (World.frozen?_of_block (a := ⟨X, 1, none⟩) hbl).trans (HSd.out.fr 1); have bAl : X < wA.heap.size := World.block_lt_of_cell? _ _ bA1)
      all_goals
        have hown' : wA.ownsRow B 69 3 (.slice (some ⟨gA, 0, none⟩) (m + 1) cA) (s.legs ++ [(a, c, v)]).length (flat (s.legs ++ [(a, c, v)])) := by
          rw [flat_append, List.length_append, ← EM.out]
          exact hown
        have hgX : (Value.slice (some ⟨gA, 0, none⟩) (m + 1) cA).ownBlock ≠ some X := by
          intro e
          have e' : gA = X := by simpa [Value.ownBlock] using e
          obtain ⟨t, ht⟩ := flat_head s.legs (a, c, v)
          have h1 := hown.cells (g := gA) rfl 0 _ ht
          have h2 := (World.cell?_of_block (a := ⟨X, 0, none⟩) hbl).trans HSd.out.c0
          rw [e'] at h1
          have h3 : wA.cell? ⟨X, 0, none⟩ = some (.string t) := by simpa [Addr.add] using h1
          rw [h2] at h3
          cases h3
        have S5 := HSd.out.grow hgrow hown' hgX (by simp [Value.ownBlock])
        have T5 : Stp B W3 (wA.setCell ⟨X, 1, none⟩ (.slice (some ⟨gA, 0, none⟩) (m + 1) cA)) := by
          refine (Stp.below hB3 kd).trans (Stp.trans (b := wA) ⟨(Below.refl B _).grown hgrow hGA (fun k hk => (HLd.out.lt k hk).1), ItK.grown HLd.out hgrow⟩ ⟨(Below.refl B wA).setCell (p := ⟨X, 1, none⟩) HSd.out.low _, ItK.set bA1⟩)
        have HT5 : Hid (Stp B w (wA.setCell ⟨X, 1, none⟩ (.slice (some ⟨gA, 0, none⟩) (m + 1) cA))) := HT3.out.trans T5
        obtain ⟨WZ, hWZ⟩ : ∃ WZ, WZ = wA.setCell ⟨X, 1, none⟩ (.slice (some ⟨gA, 0, none⟩) (m + 1) cA) := ⟨_, rfl⟩
        rw [← hWZ] at S5 HT5 ⊢
        have HS5 : Hid (ScAt B X WZ { s with n := v, legs := s.legs ++ [(a, c, v)], word := [] } (.slice (some ⟨gA, 0, none⟩) (m + 1) cA) (.slice none 0 0)) := S5
        have z1 := S5.c1
        have z5 := S5.c5
        have zf5 := S5.fr 5
        have zX := S5.lt
        clear hWZ S5 T5 hown' hgX hown hgrow hnil hbl bA1 bAf bAl e1 e2 e3 e4 g1 g2 g3 g4 hfn kd
        go_wp2
        go_ret
        have e : endP s = ({ s with n := v, legs := s.legs ++ [(a, c, v)], part := 1, word := [] }, decide (m + 1 ≤ 4)) := by
          rw [EA.out, EC.out, EM.out]
          unfold endP
          rw [if_neg HHP.out, HV.out]
          simp [hp]
        rw [e]
        refine ⟨ret_bool ?_, ⟨_, _, HS5.out.setPart 1⟩, HT5.out.trans (HS5.out.stp 5 _)⟩
        simp only [decide_eq_decide]
        omega
  · have hX2 := S2.lt
    go_wp2
    go_ret
    have e : endP s = ({ s with word := [] }, false) := by
      unfold endP
      rw [if_neg HHP.out]
      cases hh : Lib.atoiAll s.word with
      | ok v => exact absurd (by simpa using hh) (hno v)
      | «syntax» => rfl
      | range => rfl
    rw [e]
    exact ⟨rfl, ⟨_, _, S2⟩, HT2.out⟩

theorem endPart_any (B X : Nat) (s : ScD) (vL vW : Value) (w : World) (h : ScAt B X w s vL vW) (hB : B ≤ w.heap.size) (hp : s.part ≤ 3) (hl : s.legs.length ≤ 5) (hw : s.word.length ≤ 1048576) (hE : ∀ w', Below B w w' → ErrV w') :
    Calls Tryd.prog 94 #[.pointer (some ⟨X, 0, none⟩)] w fun e w' => e = .returned (.bool (endP s).2) ∧ (∃ vL' vW', ScAt B X w' (endP s).1 vL' vW') ∧ Stp B w w' := by
  by_cases h1 : s.part = 1
  · have e : endP s = ({ s with acct := ⟨s.word.toArray⟩, part := 2, word := [] }, true) := by
      unfold endP
      rw [if_pos h1]
    rw [e]
    exact endPart_acct B X s vL vW w h h1
  · exact endPart_num B X s vL vW w h hB (by omega) hl hw hE

end Go.Proofs.YtfblpbihpmhgjaaDoor
