/-
  What the document's l4Find and RunFind answer at every run, by walks of their Go text.
  Plain: a right run with one entry more of a key that it has not; no statement of the program stands here.
-/
import Derived.Test.YtkdalacclafihaaBn04
import Derived.Test.YtkdalacclafihaaBn31
import Derived.Deep.DeepAppendWide
import Derived.Test.YtkdalacclafihaaBn27
namespace Go.Proofs.Ytkdalacclafihaa
open Go.RowKit

set_option maxRecDepth 100000 in
set_option maxHeartbeats 2000000 in
theorem specFindL (a : Option Addr) (len cap : Nat) (L : List EntD) (key : ByteArray) (seq : Int) (w : World) (hL : EntsAt w a len cap L) (hlen : len ≤ 1048576) :
    Calls Try.prog 53 #[.slice a len cap, .string key, .int .i64 seq] w fun e w' => ∃ g n c, e = .returned (.slice (some ⟨g, 0, none⟩) n c) ∧ OwnE w' w.heap.size g n c (findL L key seq) ∧ Below w.heap.size w w' := by
  have HLEN : Hid (L.length = len) := hL.length
  have HENTS : Hid (∀ l ∈ L, EntW l) := hL.ents
  have hbl := hL.room
  have hbc := hL.big
  unfold maxLen at hbc
  have HL : Hid (EntsAt w a len cap L) := hL
  clear hL
  obtain ⟨i0, hi, hz0, hz1, hz2⟩ := info_parts Try.infoEnt
  have hO0 : (w.alloc (.cells #[] 36)).ownsRow w.heap.size 36 5 (.slice (some ⟨w.heap.size, 0, none⟩) 0 0) 0 (flatE (findL (L.take 0) key seq)) := by
    have := World.ownsRow_lit (base := w.heap.size) (e := 36) (size := 5) w #[] 0 (by simp) (by simp) (by simp)
    simpa [flatE, findL] using this
  have hB0 : Below w.heap.size w (w.alloc (.cells #[] 36)) := (Below.refl _ _).alloc (Nat.le_refl _) _
  go_enter Try.func53, Try.ntmps53
  go_wp2
  go_loopw [7, 8] (fun o i wr => ∃ (k g n c : Nat), k ≤ len ∧ n ≤ k ∧ i = .int .i64 k ∧ o = .slice (some ⟨g, 0, none⟩) n c ∧ wr.ownsRow w.heap.size 36 5 (.slice (some ⟨g, 0, none⟩) n c) n (flatE (findL (L.take k) key seq)) ∧ Below w.heap.size w wr) (fun _ i _ => len - (intOf i).toNat)
  case atStart => exact ⟨0, w.heap.size, 0, 0, Nat.zero_le _, Nat.zero_le _, rfl, rfl, hO0, hB0⟩
  case round =>
    obtain ⟨k, g, n', c, hk, hnk, rfl, rfl, hrow, hb⟩ := hrel
    have HROW : Hid (wr.ownsRow w.heap.size 36 5 (.slice (some ⟨g, 0, none⟩) n' c) n' (flatE (findL (L.take k) key seq))) := hrow
    clear hrow hO0 hB0
    by_cases hlt : k < len
    · obtain ⟨b, off, rfl, hbb⟩ := HL.out.form (by omega)
      obtain ⟨s, q, d, t, n, hg, hlw, g0, g1, g2, g3, g4⟩ := HL.out.ent hb hbb k hlt
      have HG : Hid (L[k]? = some (s, q, d, t, n)) := hg
      clear hg hlw
      have hbr : b < wr.heap.size := Nat.lt_of_lt_of_le hbb hb.size
      by_cases hks : s = key
      · subst hks
        by_cases hq : q ≤ seq
        · have HF : Hid (findL (L.take (k + 1)) s seq = findL (L.take k) s seq ++ [(s, q, d, t, n)]) := find_snoc_yes HG.out rfl hq
          go_wp2_with (at_builtin; refine wpList_append_own _ rfl _ _ 24 rfl w.heap.size 36 i0 _ 5 56 Try.underlying24 hi hz0 hz1 hz2 rfl (by decide) _ _ _ rfl (HROW.out.alloc _) ⟨wr.heap.size, 0, none⟩ 1 1 (entCells (s, q, d, t, n)) rfl rfl ?c1 ?c2 ?c3 ?c4 ?c5 ?_)
          case c1 =>
            intro j u hj
            match j, hj with
            | 0, hj => simp [entCells] at hj; subst hj; simp [Addr.add]
            | 1, hj => simp [entCells] at hj; subst hj; simp [Addr.add]
            | 2, hj => simp [entCells] at hj; subst hj; simp [Addr.add]
            | 3, hj => simp [entCells] at hj; subst hj; simp [Addr.add]
            | 4, hj => simp [entCells] at hj; subst hj; simp [Addr.add]
            | j + 5, hj => simp [entCells] at hj
          case c2 => intro u hu; simp [entCells] at hu; rcases hu with rfl | rfl | rfl | rfl | rfl <;> rfl
          case c3 => unfold maxLen; omega
          case c4 => omega
          case c5 => have := hb.size; simp; omega
          intro v' w2 hown' hgrow hnil
          obtain ⟨g2, cap2, rfl⟩ : ∃ g cap, v' = .slice (some ⟨g, 0, none⟩) (n' + 1) cap := by
            rcases hown'.2 with ⟨hv, h0⟩ | ⟨g, cap, cur, hv, _⟩
            · omega
            · exact ⟨g, cap, hv⟩
          have hb2 : Below w.heap.size w w2 := (hb.alloc hb.size _).grown hgrow (by have := hb.size; simp; omega) (fun q hq => (HROW.out.lt q hq).1)
          have hown2 : w2.ownsRow w.heap.size 36 5 (.slice (some ⟨g2, 0, none⟩) (n' + 1) cap2) (n' + 1) (flatE (findL (L.take (k + 1)) s seq)) := by
            rw [HF.out, flatE_append]
            exact hown'
          clear hown' hgrow hnil
          go_wp2
          go_roundw
          case rel => exact ⟨k + 1, g2, n' + 1, cap2, by omega, by omega, by go_num, rfl, hown2, hb2⟩
          case measure => simp [intOf]; omega
        · have HF : Hid (findL (L.take (k + 1)) s seq = findL (L.take k) s seq) := find_snoc_no HG.out (by simp; omega)
          go_wp2
          go_roundw
          case rel => exact ⟨k + 1, g, n', c, by omega, by omega, by go_num, rfl, by rw [HF.out]; exact HROW.out, hb⟩
          case measure => simp [intOf]; omega
      · have HF : Hid (findL (L.take (k + 1)) key seq = findL (L.take k) key seq) := find_snoc_no HG.out (fun h => hks h.1)
        have hne : ¬ s.toList = key.toList := by
          rw [ByteArray.toList_eq, ByteArray.toList_eq]
          intro h
          exact hks (ByteArray.ext (Array.toList_inj.1 h))
        have hne' : (s.toList == key.toList) = false := by simpa using hne
        clear hks
        go_wp2
        go_roundw
        case rel => exact ⟨k + 1, g, n', c, by omega, by omega, by go_num, rfl, by rw [HF.out]; exact HROW.out, hb⟩
        case measure => simp [intOf]; omega
    · have HF : Hid (findL (L.take k) key seq = findL L key seq) := by show findL (L.take k) key seq = _; rw [List.take_of_length_le (by rw [HLEN.out]; omega)]
      go_wp2
      go_ret
      refine ⟨g, n', c, rfl, ⟨by rw [← HF.out]; exact HROW.out, ?_, fun l hl => HENTS.out l (find_mem hl)⟩, hb⟩
      have := HROW.out.1
      rw [flatE_len, HF.out] at this
      omega

/-- What is found in a run. -/
def foundL (L : List EntD) (m : Int) (key : ByteArray) (seq : Int) : List EntD := if runB L m = true then findL L key seq else []
theorem found_no {L : List EntD} {m : Int} {key : ByteArray} {seq : Int} (h : runB L m = false) : foundL L m key seq = [] := by simp [foundL, h]
theorem found_yes {L : List EntD} {m : Int} {key : ByteArray} {seq : Int} (h : runB L m = true) : foundL L m key seq = findL L key seq := by simp [foundL, h]
/-- How it is told: a list of the call's own. -/
def FoundR (F : List EntD) (w : World) (e : Ending) (w' : World) : Prop := ∃ g n c, e = .returned (.slice (some ⟨g, 0, none⟩) n c) ∧ OwnE w' w.heap.size g n c F ∧ Below w.heap.size w w'

set_option maxRecDepth 100000 in
set_option maxHeartbeats 1000000 in
theorem specFind (a : Option Addr) (len cap : Nat) (L : List EntD) (m : Int) (key : ByteArray) (seq : Int) (w : World) (hL : EntsAt w a len cap L) (hlen : len ≤ 1048576) :
    Calls Try.prog 24 #[.agg #[.slice a len cap, .int .i64 m], .string key, .int .i64 seq] w (FoundR (foundL L m key seq) w) := by
  obtain ⟨F, hF⟩ : ∃ F, F = foundL L m key seq := ⟨_, rfl⟩
  rw [← hF]
  have kA : Below w.heap.size w (w.alloc (.cells #[.slice a len cap, .int .i64 m] 42)) := (Below.refl _ _).alloc (Nat.le_refl _) _
  go_enter Try.func24, Try.ntmps24
  go_wp2_with fail
  refine (specRunOk _ _ _ L _ _ (hL.keep kA)).mono ?_
  rintro e w1 ⟨rfl, hb1⟩
  have x0 : w1.cell? ⟨w.heap.size, 0, none⟩ = some (.slice a len cap) := cell_later hb1 (by simp)
  have hB1 : Below w.heap.size w w1 := kA.trans (hb1.mono (by simp))
  have hL1 := hL.keep hB1
  clear hb1 kA
  cases hr : runB L m with
  | false =>
    have hO0 : OwnE (w1.alloc (.cells #[] 36)) w.heap.size w1.heap.size 0 0 [] := by
      have := World.ownsRow_lit (base := w.heap.size) (e := 36) (size := 5) w1 #[] 0 (by first | exact hB1.size | simp) (by first | exact hB1.size | simp) (by first | exact hB1.size | simp)
      exact ⟨by simpa [flatE] using this, rfl, by simp⟩
    have HO : Hid (OwnE (w1.alloc (.cells #[] 36)) w.heap.size w1.heap.size 0 0 []) := hO0
    have HF : Hid (F = []) := by rw [hF]; exact found_no hr
    clear hO0 hL hL1 hF hr
    go_wp2
    go_ret
    exact ⟨w1.heap.size, 0, 0, rfl, by rw [HF.out]; exact HO.out, hB1.alloc hB1.size _⟩
  | true =>
    go_wp2_with fail
    refine (specFindL _ _ _ L _ _ _ hL1 hlen).mono ?_
    rintro e w2 ⟨g, n, c, rfl, hO, hb2⟩
    have HO : Hid (OwnE w2 w1.heap.size g n c (findL L key seq)) := hO
    have HF : Hid (F = findL L key seq) := by rw [hF]; exact found_yes hr
    clear hO hL hL1 hF hr
    go_wp2
    go_ret
    exact ⟨g, n, c, rfl, by rw [HF.out]; exact HO.out.mono hB1.size, hB1.trans (hb2.mono hB1.size)⟩
end Go.Proofs.Ytkdalacclafihaa

namespace Go.Proofs.Ytkdalacclafihaa
open Go.RowKit

theorem right_of_strict {M : List EntD} (hs : Strict M) (he : ∀ e ∈ M, entB e.1 e.2.1 e.2.2.1 e.2.2.2.1 e.2.2.2.2 = true) : rightB M = true := by
  refine right_of (k := M.length) ?_ (Nat.le_refl _)
  intro j hj
  have hg : M[j]? = some M[j] := List.getElem?_eq_getElem hj
  match j, hj, hg with
  | 0, hj, hg => rw [okAt_zero hg]; exact he _ (List.getElem_mem hj)
  | i + 1, hj, hg =>
    have hi : M[i]? = some (M[i]'(by omega)) := List.getElem?_eq_getElem (by omega)
    rw [okAt_succ hg hi, he _ (List.getElem_mem hj)]
    exact (List.pairwise_iff_getElem.1 hs) i (i + 1) (by omega) hj (by omega)
theorem less_of_weak {a b : EntD} (h : lessE b a = false) (hd : ¬ (a.1 = b.1 ∧ a.2.1 = b.2.1)) : lessE a b = true := by
  have h1 := lessB_one a.1 b.1 a.2.1 b.2.1
  unfold lessE at h ⊢
  rw [h, Bool.or_false] at h1
  rw [h1]
  by_cases e : a.1 = b.1
  · have : ¬ a.2.1 = b.2.1 := fun e2 => hd ⟨e, e2⟩
    simp [this]
  · simp [e]
/-- The entries are of unlike keys or times. -/
def Unlike (L : List EntD) : Prop := L.Pairwise (fun a b => ¬ (a.1 = b.1 ∧ a.2.1 = b.2.1))
theorem unlike_perm {A B : List EntD} (h : Unlike A) (p : A.Perm B) : Unlike B :=
  (List.Perm.pairwise_iff (fun {_ _} h e => h ⟨e.1.symm, e.2.symm⟩) p).1 h
theorem unlike_right {L : List EntD} (h : rightB L = true) : Unlike L := by
  refine (right_strict h).imp ?_
  rintro a b hab ⟨e1, e2⟩
  unfold lessE at hab
  rw [e1, e2, lessB_self] at hab
  cases hab
theorem strict_of {M : List EntD} (hw : Weak M) (hu : Unlike M) : Strict M := by
  refine (List.Pairwise.and hw hu).imp ?_
  rintro a b ⟨h1, h2⟩
  exact less_of_weak h1 h2
/-- Entries of a right list, and more that are right and unlike, make a run when sorted. -/
theorem right_sort {L : List EntD} (hu : Unlike L) (he : ∀ e ∈ L, entB e.1 e.2.1 e.2.2.1 e.2.2.2.1 e.2.2.2.2 = true) : rightB (sortE L) = true := by
  obtain ⟨sW, sP⟩ := sort_both L
  exact right_of_strict (strict_of sW (unlike_perm hu sP.symm)) (fun e h => he e (sP.mem_iff.1 h))
theorem right_all {L : List EntD} (h : rightB L = true) : ∀ e ∈ L, entB e.1 e.2.1 e.2.2.1 e.2.2.2.1 e.2.2.2.2 = true := by
  intro e he
  obtain ⟨j, hj, rfl⟩ := List.getElem_of_mem he
  exact right_ent h (List.getElem?_eq_getElem hj)

theorem bless_le {a b c : List UInt8} (h1 : Op.bytesLess a b = false) (h2 : Op.bytesLess b c = false) : Op.bytesLess a c = false := by
  cases h : Op.bytesLess a c with
  | false => rfl
  | true =>
    exfalso
    by_cases e : a = b
    · subst e
      rw [h] at h2
      cases h2
    · rcases bless_total a b e with k | k
      · rw [k] at h1; cases h1
      · have := bless_trans _ _ _ k h
        rw [this] at h2
        cases h2
theorem mask_all {D : List EntD} : ∀ (L : List EntD) (m : Nat), (∀ e ∈ L, e ∈ D) → maskL D ||| m = maskL D → maskL D ||| L.foldl (fun m e => m ||| maskK e.1) m = maskL D
  | [], m, _, h => h
  | e :: r, m, hs, h => by
    rw [List.foldl_cons]
    refine mask_all r _ (fun x hx => hs x (List.mem_cons_of_mem _ hx)) ?_
    rw [← Nat.or_assoc, h]
    exact mask_has D e (hs e (List.mem_cons_self ..))
theorem mask_sub {L D : List EntD} (hs : ∀ e ∈ L, e ∈ D) : maskL D ||| maskL L = maskL D := mask_all L 0 hs (Nat.or_zero _)
/-- What a run may have, a right run with its entries may have. -/
theorem may_sub {L D : List EntD} {m : Int} {key : ByteArray} (h : mayB L m key = true) (hD : runB D (maskL D : Nat) = true) (hs : ∀ e ∈ L, e ∈ D) : mayB D (maskL D : Nat) key = true := by
  unfold mayB at h
  rw [Bool.and_eq_true] at h
  obtain ⟨hr, hi⟩ := h
  obtain ⟨h1, _, h3, _⟩ := runB_parts hr
  obtain ⟨d1, _, d3, _⟩ := runB_parts hD
  have g0 : L[0]? = some L[0] := List.getElem?_eq_getElem (by omega)
  have gl : L[L.length - 1]? = some (L[L.length - 1]'(by omega)) := List.getElem?_eq_getElem (by omega)
  have q0 : D[0]? = some D[0] := List.getElem?_eq_getElem (by omega)
  have ql : D[D.length - 1]? = some (D[D.length - 1]'(by omega)) := List.getElem?_eq_getElem (by omega)
  unfold inB at hi
  rw [g0, gl] at hi
  simp only [Bool.and_eq_true, Bool.not_eq_true', decide_eq_true_eq] at hi
  obtain ⟨i1, i2, i3⟩ := hi
  have m0 := may_mem hD (hs _ (List.getElem_mem (by omega : 0 < L.length)))
  have ml := may_mem hD (hs _ (List.getElem_mem (by omega : L.length - 1 < L.length)))
  unfold mayB inB at m0 ml ⊢
  rw [hD, q0, ql] at m0 ml ⊢
  simp only [Bool.true_and, Bool.and_eq_true, Bool.not_eq_true', decide_eq_true_eq] at m0 ml ⊢
  refine ⟨bless_le i1 m0.1, bless_le ml.2.1 i2, ?_⟩
  have hsub := mask_sub hs
  calc maskL D ||| maskK key = (maskL D ||| maskL L) ||| maskK key := by rw [hsub]
    _ = maskL D ||| (maskL L ||| maskK key) := by rw [Nat.or_assoc]
    _ = maskL D := by rw [i3, hsub]

/-- The entry that the law puts in. -/
def moreE : EntD := (⟨#[109, 47, 109]⟩, 900, 3, ⟨#[]⟩, 1)
theorem moreE_ok : entB moreE.1 moreE.2.1 moreE.2.2.1 moreE.2.2.2.1 moreE.2.2.2.2 = true := by decide
theorem more_unlike {L : List EntD} (h : rightB L = true) (hk : ∀ e ∈ L, ¬ e.1.data.toList = [109, 47, 109]) : Unlike (L ++ [moreE]) := by
  refine List.pairwise_append.2 ⟨unlike_right h, List.pairwise_singleton _ _, ?_⟩
  intro a ha b hb e
  rw [List.mem_singleton] at hb
  subst hb
  exact hk a ha (by rw [e.1]; rfl)
theorem more_all {L : List EntD} (h : rightB L = true) : ∀ e ∈ L ++ [moreE], entB e.1 e.2.1 e.2.2.1 e.2.2.2.1 e.2.2.2.2 = true := by
  intro e he
  rcases List.mem_append.1 he with h1 | h1
  · exact right_all h e h1
  · rw [List.mem_singleton] at h1
    subst h1
    exact moreE_ok
theorem more_of {L : List EntD} {m : Int} (h : runB L m = true) (hl : L.length < 150) (hk : ∀ e ∈ L, ¬ e.1.data.toList = [109, 47, 109]) : ofB (L ++ [moreE]) = true := by
  obtain ⟨h1, h2, h3, h4⟩ := runB_parts h
  unfold ofB
  rw [right_sort (more_unlike h3 hk) (more_all h3)]
  simp
  omega
theorem of_run {L : List EntD} (h : ofB L = true) : runB (ofL L) (ofM L) = true ∧ ofL L = sortE L ∧ ofM L = ((maskL (sortE L) : Nat) : Int) := by
  have e1 : ofL L = sortE L := by unfold ofL; rw [if_pos h]
  have e2 : ofM L = ((maskL (sortE L) : Nat) : Int) := by unfold ofM; rw [if_pos h]
  refine ⟨?_, e1, e2⟩
  rw [e1, e2]
  unfold ofB at h
  simp only [Bool.and_eq_true, decide_eq_true_eq] at h
  unfold runB
  rw [sortE_len, h.2.2]
  simp [h.1, h.2.1]
theorem more_may {L : List EntD} {m : Int} {key : ByteArray} (h : mayB L m key = true) (hl : L.length < 150) (hk : ∀ e ∈ L, ¬ e.1.data.toList = [109, 47, 109]) : mayB (ofL (L ++ [moreE])) (ofM (L ++ [moreE])) key = true := by
  have hr : runB L m = true := by unfold mayB at h; rw [Bool.and_eq_true] at h; exact h.1
  obtain ⟨k1, k2, k3⟩ := of_run (more_of hr hl hk)
  rw [k2, k3] at k1 ⊢
  exact may_sub h k1 (fun e he => (sort_both _).2.mem_iff.2 (List.mem_append_left _ he))
theorem more_has {L : List EntD} {m : Int} (hr : runB L m = true) (hl : L.length < 150) (hk : ∀ e ∈ L, ¬ e.1.data.toList = [109, 47, 109]) : mayB (ofL (L ++ [moreE])) (ofM (L ++ [moreE])) ⟨#[109, 47, 109]⟩ = true := by
  obtain ⟨k1, k2, k3⟩ := of_run (more_of hr hl hk)
  refine may_mem (e := moreE) k1 ?_
  rw [k2]
  exact (sort_both _).2.mem_iff.2 (List.mem_append_right _ (List.mem_singleton.2 rfl))
theorem more_find {L : List EntD} {m : Int} (hr : runB L m = true) (hl : L.length < 150) (hk : ∀ e ∈ L, ¬ e.1.data.toList = [109, 47, 109]) : foundL (ofL (L ++ [moreE])) (ofM (L ++ [moreE])) ⟨#[109, 47, 109]⟩ 899 = [] := by
  obtain ⟨k1, k2, k3⟩ := of_run (more_of hr hl hk)
  unfold foundL
  rw [if_pos k1, k2]
  unfold findL
  rw [List.filter_eq_nil_iff]
  intro e he
  have he' := (sort_both _).2.mem_iff.1 he
  rcases List.mem_append.1 he' with h1 | h1
  · have := hk e h1
    have hne : ¬ e.1 = ⟨#[109, 47, 109]⟩ := fun e1 => this (by rw [e1])
    simp [hne]
  · rw [List.mem_singleton] at h1
    subst h1
    decide
end Go.Proofs.Ytkdalacclafihaa
