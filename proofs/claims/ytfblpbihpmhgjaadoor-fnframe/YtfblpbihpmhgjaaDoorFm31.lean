/-
  The document's body of a batch, by a walk of its Go text.
-/
import Derived.Test.YtfblpbihpmhgjaaDoorFm28
import Derived.Test.YtfblpbihpmhgjaaDoorFm30
import Derived.Test.YtfblpbihpmhgjaaDoorFm10
import Derived.Laws.AppendOwnNone
namespace Go.Proofs.YtfblpbihpmhgjaaDoor
open Go.RowKit

theorem cellFive (w : World) (s : ByteArray) (Q d : Int) (t : ByteArray) (m : Int) : ∀ j u, [Value.string s, .int .i64 Q, .int .i64 d, .string t, .int .i64 m][j]? = some u → (w.alloc (.cells #[.string s, .int .i64 Q, .int .i64 d, .string t, .int .i64 m] 85)).cell? ((⟨w.heap.size, 0, none⟩ : Addr).add j) = some u := by
  intro j u hu
  rw [Go.WideShapes.add_plain]
  match j, hu with
  | 0, hu => simp at hu; subst hu; simp
  | 1, hu => simp at hu; subst hu; simp
  | 2, hu => simp at hu; subst hu; simp
  | 3, hu => simp at hu; subst hu; simp
  | 4, hu => simp at hu; subst hu; simp
/-- A row stays where nothing below is changed. -/
theorem rowStay {w w' : World} {base e size n : Nat} {v : Value} {xs : List Value} (h : w.ownsRow base e size v n xs) (hb : Below w.heap.size w w') : w'.ownsRow base e size v n xs := h.kept (row := none) ⟨hb.os, hb.tape, hb.output, hb.size, fun k hk _ => hb.block k hk⟩ (by
  cases v.ownBlock with
  | none => exact .inl rfl
  | some x => exact .inr (by simp))
theorem rowSome {w : World} {base e size n : Nat} {v : Value} {xs : List Value} {g0 : Addr} {n0 c0 m : Nat} (h : w.ownsRow base e size v n xs) (hn : v = .slice none 0 0 ↔ Value.slice (some g0) n0 c0 = .slice none 0 0 ∧ m = 0) : ∃ g c, v = .slice (some ⟨g, 0, none⟩) n c :=
  row_form h (fun e => by cases (hn.1 e).1)

/-- So far read: M, and the next begins at z. -/
def BodyI (t : ByteArray) (i : Nat) (M : List EntD) (z : Int) : Prop := ∀ L : List EntD, (∀ e ∈ L, entOk e = true) → L.length ≤ 12 → t.data.toList = entsT L → M = L.take i ∧ ∃ j : Nat, z = (j : Int) ∧ t.data.toList.drop j = entsT (L.drop i)
/-- What is read of a body. -/
def BodyE (t : ByteArray) (w : World) (e : Ending) (w' : World) : Prop := ∃ (g n c : Nat) (M : List EntD), e = .returned (.slice (some ⟨g, 0, none⟩) n c) ∧ OwnE w' w.heap.size g n c M ∧ n ≤ 13 ∧ ∀ L : List EntD, (∀ e ∈ L, entOk e = true) → L.length ≤ 12 → t.data.toList = entsT L → M = L
theorem BodyI.start (t : ByteArray) : BodyI t 0 [] 0 := fun L _ _ h => ⟨by simp, 0, rfl, by simpa using h⟩
theorem entsT_nil {L : List EntD} (h : entsT L = []) : L = [] := by
  cases L with
  | nil => rfl
  | cons e r =>
    have h1 := entT_pos e
    have h2 : (entsT (e :: r)).length = 0 := by rw [h]; rfl
    simp [entsT] at h2
    rw [h2.1] at h1
    simp at h1
theorem BodyI.out {t : ByteArray} {i j : Nat} {M : List EntD} (h : BodyI t i M (j : Int)) (hj : t.size ≤ j) (L : List EntD) (h1 : ∀ e ∈ L, entOk e = true) (h2 : L.length ≤ 12) (h3 : t.data.toList = entsT L) : M = L := by
  obtain ⟨e1, j', e2, e3⟩ := h L h1 h2 h3
  obtain rfl : j = j' := by omega
  rw [List.drop_of_length_le (by rw [bytes_len]; exact hj)] at e3
  have e4 := entsT_nil e3.symm
  have e5 := List.take_append_drop i L
  rw [e4, List.append_nil] at e5
  rw [e1, e5]
theorem BodyI.next {t : ByteArray} {i k : Nat} {M : List EntD} {E : EntD} {z : Int} (h : BodyI t i M (k : Int)) (hk : k < t.size) (hE : ∀ (X : EntD) (r : List UInt8), entOk X = true → t.data.toList.drop k = entT X ++ r → E = X ∧ ∃ j : Nat, z = (j : Int) ∧ t.data.toList.drop j = r) : BodyI t (i + 1) (M ++ [E]) z := by
  intro L h1 h2 h3
  obtain ⟨e1, j', e2, e3⟩ := h L h1 h2 h3
  obtain rfl : k = j' := by omega
  cases hd : L.drop i with
  | nil =>
    rw [hd] at e3
    have := congrArg List.length e3
    rw [List.length_drop, bytes_len] at this
    simp [entsT] at this
    omega
  | cons X r =>
    have hX : X ∈ L := List.mem_of_mem_drop (by rw [hd]; exact List.mem_cons_self ..)
    rw [hd] at e3
    obtain ⟨rfl, j, rfl, hj⟩ := hE X (entsT r) (h1 X hX) (by rw [e3]; simp [entsT])
    have hi : L[i]? = some E := by
      have := congrArg (fun l => l[0]?) hd
      simpa [List.getElem?_drop] using this
    refine ⟨?_, j, rfl, ?_⟩
    · rw [e1, List.take_add_one, hi]; rfl
    · rw [hj]
      have : L.drop (i + 1) = r := by rw [← List.drop_drop, hd]; rfl
      rw [this]
def lenV : Value → Nat
  | .slice _ n _ => n
  | _ => 0

set_option maxHeartbeats 4000000 in
set_option maxRecDepth 100000 in
theorem specBody (t : ByteArray) (w : World) (ht : t.size ≤ 1048576) :
    Calls Tryd.prog 103 #[.string t] w fun e w' => BodyE t w e w' ∧ Below w.heap.size w w' := by
  obtain ⟨i0, hi, hz0, hz1, hz2⟩ := info_parts Tryd.infoEnt
  have HE0 : Hid ((w.alloc (.cells #[] 85)).ownsRow w.heap.size 85 5 (.slice (some ⟨w.heap.size, 0, none⟩) 0 0) 0 (flatE [])) := by
    have := World.ownsRow_lit (base := w.heap.size) (e := 85) (size := 5) w #[] 0 (Nat.le_refl _) (by simp) (by simp)
    show World.ownsRow _ _ _ _ _ _ _
    simpa [flatE] using this
  have hB0 : Below w.heap.size w (w.alloc (.cells #[] 85)) := (Below.refl _ _).alloc (Nat.le_refl _) _
  go_enter Tryd.func103, Tryd.ntmps103
  go_wp2
  go_loopw [3, 4] (fun vv zv wr => ∃ (i : Nat) (M : List EntD) (z : Int), i ≤ 13 ∧ zv = .int .i64 z ∧ PlaceE t z ∧ (∃ g c', vv = .slice (some ⟨g, 0, none⟩) i c') ∧ wr.ownsRow w.heap.size 85 5 vv i (flatE M) ∧ M.length = i ∧ (∀ l ∈ M, EntW l) ∧ BodyI t i M z ∧ Below w.heap.size w wr) (fun vv _ _ => 13 - lenV vv)
  case atStart => exact ⟨0, [], 0, by omega, rfl, Or.inr ⟨0, rfl, by omega⟩, ⟨_, _, rfl⟩, HE0.out, rfl, by simp, BodyI.start t, hB0⟩
  case round =>
    clear HE0 hB0
    obtain ⟨i, M, z, hin, rfl, hpl, ⟨gv, cv, rfl⟩, hv, hml, hw, hbi, hb⟩ := hrel
    have HV : Hid (wr.ownsRow w.heap.size 85 5 (.slice (some ⟨gv, 0, none⟩) i cv) i (flatE M)) := hv
    have HW : Hid (∀ l ∈ M, EntW l) := hw
    have HBI : Hid (BodyI t i M z) := hbi
    have HML : Hid (M.length = i) := hml
    have HB : Hid (Below w.heap.size w wr) := hb
    have hbz := hb.size
    have HRES : Hid (OwnE wr w.heap.size gv i cv M) := ⟨hv, hml, hw⟩
    clear hv hw hbi hml hb
    rcases hpl with rfl | ⟨j, rfl, hj⟩
    · go_wp2
      go_ret
      refine ⟨⟨gv, i, cv, M, rfl, HRES.out, hin, fun L h1 h2 h3 => ?_⟩, HB.out⟩
      obtain ⟨_, j', e2, _⟩ := HBI.out L h1 h2 h3
      omega
    have hj0 : (j : Int) ≥ 0 := by omega
    by_cases hlt : j < t.size
    · have hltI : (j : Int) < (t.size : Int) := by omega
      by_cases h12 : i ≤ 12
      · have h12I : (i : Int) ≤ 12 := by omega
        obtain ⟨W0, hW0⟩ : ∃ W, W = wr.alloc (.cells #[.string ⟨#[]⟩, .int .i64 0, .int .i64 0, .string ⟨#[]⟩, .int .i64 0] 85) := ⟨_, rfl⟩
        have kq : Below wr.heap.size wr W0 := by rw [hW0]; exact (Below.refl _ _).alloc (Nat.le_refl _) _
        have E0 : Box5 W0 wr.heap.size (.string ⟨#[]⟩) (.int .i64 0) (.int .i64 0) (.string ⟨#[]⟩) (.int .i64 0) := by rw [hW0]; exact Box5.new _ _ _ _ _ _ _
        have HV0 : Hid (W0.ownsRow w.heap.size 85 5 (.slice (some ⟨gv, 0, none⟩) i cv) i (flatE M)) := rowStay HV.out kq
        have HBQ : Hid (Below w.heap.size w W0) := HB.out.trans (kq.mono HB.out.size)
        have HGV : Hid (gv < wr.heap.size) := (HV.out.lt gv rfl).2
        go_wp2_with fail
        rw [← hW0]
        obtain ⟨E, hE⟩ : ∃ E, E = wr.heap.size := ⟨_, rfl⟩
        rw [← hE] at E0
        simp only [← hE]
        have HEB : Hid (w.heap.size ≤ E ∧ gv < E) := by have := HGV.out; exact ⟨by omega, by omega⟩
        clear hE hW0 kq
        refine (specEntR t j _ (by omega) ht).mono ?_
        rintro e w1 ⟨⟨kk, tt, q, d, n, z, rfl, hew, hpz, hent⟩, hb1⟩
        have HEW : Hid (EntW (kk, q, d, tt, n)) := hew
        have HPZ : Hid (PlaceE t z) := hpz
        have HENT : Hid (BodyI t (i + 1) (M ++ [(kk, q, d, tt, n)]) z) := HBI.out.next hlt hent
        have E1 := E0.below hb1
        have HV1 : Hid (w1.ownsRow w.heap.size 85 5 (.slice (some ⟨gv, 0, none⟩) i cv) i (flatE M)) := rowStay HV0.out hb1
        have HB1 : Hid (Below w.heap.size w w1) := HBQ.out.trans (hb1.mono HBQ.out.size)
        clear hew hpz hent hb1 E0
        have f0 := E1.c0
        have f1 := E1.c1
        have f2 := E1.c2
        have f3 := E1.c3
        have f4 := E1.c4
        have b0 : w1.frozen? ⟨E, 0, none⟩ = false := E1.fr 0
        have b1 : w1.frozen? ⟨E, 1, none⟩ = false := E1.fr 1
        have b2 : w1.frozen? ⟨E, 2, none⟩ = false := E1.fr 2
        have b3 : w1.frozen? ⟨E, 3, none⟩ = false := E1.fr 3
        have b4 : w1.frozen? ⟨E, 4, none⟩ = false := E1.fr 4
        have hEl := E1.lt
        obtain ⟨W2, hW2⟩ : ∃ W, W = ((((w1.setCell ⟨E, 0, none⟩ (.string kk)).setCell ⟨E, 1, none⟩ (.int .i64 q)).setCell ⟨E, 2, none⟩ (.int .i64 d)).setCell ⟨E, 3, none⟩ (.string tt)).setCell ⟨E, 4, none⟩ (.int .i64 n) := ⟨_, rfl⟩
        have E2 : Box5 W2 E (.string kk) (.int .i64 q) (.int .i64 d) (.string tt) (.int .i64 n) := by rw [hW2]; exact E1.setAll _ _ _ _ _
        have G2 : w1.grownBy W2 (some E) := by
          rw [hW2]
          exact ⟨rfl, rfl, rfl, by simp [World.setCell], fun x _ hx => by
            have hx' : x ≠ E := fun e => hx (by rw [e])
            rw [Below.heap_setCell _ _ _ _ hx', Below.heap_setCell _ _ _ _ hx', Below.heap_setCell _ _ _ _ hx', Below.heap_setCell _ _ _ _ hx', Below.heap_setCell _ _ _ _ hx']⟩
        have HV2 : Hid (W2.ownsRow w.heap.size 85 5 (.slice (some ⟨gv, 0, none⟩) i cv) i (flatE M)) := HV1.out.kept G2 (.inr (by have := HEB.out.2; simp [Value.ownBlock]; omega))
        have HB2 : Hid (Below w.heap.size w W2) := HB1.out.grown G2 HB1.out.size (fun k e => by cases e; exact HEB.out.1)
        clear G2 E1
        go_upto_region 6 with fail
        rw [← hW2]
        clear hW2 f0 f1 f2 f3 f4 b0 b1 b2 b3 b4 hEl
        have f0 := E2.c0
        have f1 := E2.c1
        have f2 := E2.c2
        have f3 := E2.c3
        have f4 := E2.c4
        have hEl := E2.lt
        have HCN : Hid (∀ j u, [Value.string kk, .int .i64 q, .int .i64 d, .string tt, .int .i64 n][j]? = some u → (W2.alloc (.cells #[.string kk, .int .i64 q, .int .i64 d, .string tt, .int .i64 n] 85)).cell? ((⟨W2.heap.size, 0, none⟩ : Addr).add j) = some u) := cellFive W2 kk q d tt n
        have ka : Below W2.heap.size W2 (W2.alloc (.cells #[.string kk, .int .i64 q, .int .i64 d, .string tt, .int .i64 n] 85)) := (Below.refl _ _).alloc (Nat.le_refl _) _
        have HVA : Hid ((W2.alloc (.cells #[.string kk, .int .i64 q, .int .i64 d, .string tt, .int .i64 n] 85)).ownsRow w.heap.size 85 5 (.slice (some ⟨gv, 0, none⟩) i cv) i (flatE M)) := rowStay HV2.out ka
        have HBA : Hid (Below w.heap.size w (W2.alloc (.cells #[.string kk, .int .i64 q, .int .i64 d, .string tt, .int .i64 n] 85))) := HB2.out.trans (ka.mono HB2.out.size)
        clear ka
        go_wp2_with (at_builtin; refine wpList_append_own _ rfl _ _ 40 rfl w.heap.size 85 i0 _ 5 56 Tryd.underlying40 hi hz0 hz1 hz2 rfl (by decide) _ _ _ rfl HVA.out ⟨W2.heap.size, 0, none⟩ 1 1 [.string kk, .int .i64 q, .int .i64 d, .string tt, .int .i64 n] rfl rfl HCN.out (by intro u hu; simp at hu; rcases hu with rfl | rfl | rfl | rfl | rfl <;> rfl) (by unfold maxLen; omega) (by omega) HBA.out.size ?_; intro v2 w2 hown2 hgrow2 hnil2; obtain ⟨g2, c2, rfl⟩ := rowSome hown2 hnil2)
        go_roundw
        case rel =>
          refine ⟨i + 1, M ++ [(kk, q, d, tt, n)], z, by omega, rfl, HPZ.out, ⟨_, _, rfl⟩, ?_, by rw [List.length_append, HML.out]; rfl, ?_, HENT.out, ?_⟩
          · rw [flatE_append]
            exact hown2
          · intro l hl
            rcases List.mem_append.1 hl with h | h
            · exact HW.out l h
            · rw [List.mem_singleton] at h; subst h; exact HEW.out
          · exact HBA.out.grown hgrow2 HBA.out.size (fun k e => (HVA.out.lt k e).1)
        case measure => simp [lenV]; omega
      · have h12I : ¬ (i : Int) ≤ 12 := by omega
        go_wp2
        go_ret
        refine ⟨⟨gv, i, cv, M, rfl, HRES.out, hin, fun L h1 h2 h3 => ?_⟩, HB.out⟩
        obtain ⟨e1, _⟩ := HBI.out L h1 h2 h3
        have h4 := HML.out
        rw [e1, List.length_take] at h4
        omega
    · have hltI : ¬ (j : Int) < (t.size : Int) := by omega
      go_wp2
      go_ret
      exact ⟨⟨gv, i, cv, M, rfl, HRES.out, hin, fun L h1 h2 h3 => HBI.out.out (by omega) L h1 h2 h3⟩, HB.out⟩

end Go.Proofs.YtfblpbihpmhgjaaDoor
