/-
  Rows of lists of entries of a call's own; no statement of the program stands here.
  The document's FrameRead: what it reads of a log, by a walk of its Go text.
-/
import Derived.Test.YtfblpbihpmhgjaaDoorFm30
import Derived.Maps.AppendAt
import Derived.Test.YtfblpbihpmhgjaaDoorFm33
namespace Go.Proofs.YtfblpbihpmhgjaaDoor
open Go.RowKit

/-- The slice at a holds lists of entries. -/
structure PartsAt (w : World) (a : Option Addr) (n c : Nat) (P : List (List EntD)) : Prop where
  length : P.length = n
  room : n ≤ c
  big : c ≤ maxLen
  nil : a = none → n = 0
  lies : ∀ x, a = some x → 0 < n → x.block < w.heap.size ∧ x.spot = none
  lists : ∀ x, a = some x → ∀ i (h : i < P.length), ∃ s m d, w.cell? ⟨x.block, x.off + i, none⟩ = some (.slice s m d) ∧ EntsAt w s m d P[i]
theorem PartsAt.keep {w w' : World} {a : Option Addr} {n c : Nat} {P : List (List EntD)} (h : PartsAt w a n c P) (hb : Below w.heap.size w w') : PartsAt w' a n c P where
  length := h.length
  room := h.room
  big := h.big
  nil := h.nil
  lies := fun x e hp => ⟨Nat.lt_of_lt_of_le (h.lies x e hp).1 hb.size, (h.lies x e hp).2⟩
  lists := fun x e i hi => by
    obtain ⟨s, m, d, c0, hL⟩ := h.lists x e i hi
    exact ⟨s, m, d, cell_later hb c0, hL.keep hb⟩
theorem PartsAt.form {w : World} {a : Option Addr} {n c : Nat} {P : List (List EntD)} (h : PartsAt w a n c P) (hl : 1 ≤ n) : ∃ b off, a = some ⟨b, off, none⟩ ∧ b < w.heap.size := by
  cases a with
  | none => have := h.nil rfl; omega
  | some x =>
    obtain ⟨b, off, spot⟩ := x
    obtain ⟨h1, h2⟩ := h.lies _ rfl (by omega)
    simp only at h1 h2
    subst h2
    exact ⟨b, off, rfl, h1⟩
theorem PartsAt.list {w wr : World} {b off n c : Nat} {P : List (List EntD)} (h : PartsAt w (some ⟨b, off, none⟩) n c P) (hb : Below w.heap.size w wr) (k : Nat) (hk : k < n) :
    ∃ A s m d, P[k]? = some A ∧ wr.cell? ⟨b, off + k, none⟩ = some (.slice s m d) ∧ EntsAt wr s m d A := by
  have hk' : k < P.length := by rw [h.length]; exact hk
  obtain ⟨s, m, d, c0, hL⟩ := (h.keep hb).lists _ rfl k hk'
  exact ⟨P[k], s, m, d, List.getElem?_eq_getElem hk', c0, hL⟩

theorem Tryd.infoEntS : (Tryd.prog.info? 40).map (fun i => (i.zero, i.size, i.bytes)) = some (some (.slice none 0 0), 1, 24) := by kernel_rfl

/-- A row of lists of entries, whose lists lie in other blocks than the row and y. -/
structure PartsOwn (w : World) (base g n c : Nat) (P : List (List EntD)) (vs : List Value) (y : Option Nat) : Prop where
  owns : w.ownsRow base 40 1 (.slice (some ⟨g, 0, none⟩) n c) n vs
  len : P.length = n
  ne : some g ≠ y
  lists : ∀ (i : Nat) A, P[i]? = some A → ∃ s m d, vs[i]? = some (.slice s m d) ∧ EntsAt w s m d A ∧ ∀ x, s = some x → 0 < m → x.block ≠ g ∧ some x.block ≠ y
theorem EntsAt.grownB {w w' : World} {s : Option Addr} {m d : Nat} {A : List EntD} {row : Option Nat} (h : EntsAt w s m d A) (hg : w.grownBy w' row) (hne : ∀ x, s = some x → 0 < m → some x.block ≠ row) : EntsAt w' s m d A :=
  h.moved hg.size (fun x e hp o => World.cell?_of_block (a := ⟨x.block, o, none⟩) (hg.block x.block (h.lies x e hp).1 (hne x e hp)))
theorem PartsOwn.partsAt {w : World} {base g n c : Nat} {P : List (List EntD)} {vs : List Value} {y : Option Nat} (h : PartsOwn w base g n c P vs y) : PartsAt w (some ⟨g, 0, none⟩) n c P := by
  have hlt := (h.owns.lt g rfl).2
  have hrc : n ≤ c ∧ c ≤ maxLen := by
    rcases h.owns.2 with ⟨h', _⟩ | ⟨g', cap', cur, h', _, _, hnc, hcm, _, _⟩
    · simp at h'
    · simp only [Value.slice.injEq, Option.some.injEq, Addr.mk.injEq, and_true, true_and] at h'
      obtain ⟨rfl, rfl⟩ := h'
      exact ⟨hnc, hcm⟩
  refine ⟨h.len, hrc.1, hrc.2, (fun e => by cases e), ?_, ?_⟩
  · rintro x e _
    cases e
    exact ⟨hlt, rfl⟩
  · rintro x e i hi
    cases e
    obtain ⟨s, m, d, hv, hE, _⟩ := h.lists i _ (List.getElem?_eq_getElem hi)
    refine ⟨s, m, d, ?_, hE⟩
    have := h.owns.cellAt i (by rw [← h.len]; omega)
    rw [hv] at this
    simpa using this
/-- What grows elsewhere leaves the row as it is. -/
theorem PartsOwn.grown {w w' : World} {base g n c : Nat} {P : List (List EntD)} {vs : List Value} {y row : Option Nat} (h : PartsOwn w base g n c P vs y) (hg : w.grownBy w' row) (hr : ∀ k, row = some k → y = some k) : PartsOwn w' base g n c P vs y where
  owns := h.owns.kept hg (.inr (fun e => h.ne (by rw [hr g e.symm])))
  len := h.len
  ne := h.ne
  lists := fun i A hA => by
    obtain ⟨s, m, d, hv, hE, hx⟩ := h.lists i A hA
    exact ⟨s, m, d, hv, hE.grownB hg (fun x e hp e' => (hx x e hp).2 (hr _ e'.symm).symm), hx⟩
theorem grown_none {w w' : World} (hb : Below w.heap.size w w') : w.grownBy w' none := ⟨hb.os, hb.tape, hb.output, hb.size, fun k hk _ => hb.block k hk⟩
theorem PartsOwn.below {w w' : World} {base g n c : Nat} {P : List (List EntD)} {vs : List Value} {y : Option Nat} (h : PartsOwn w base g n c P vs y) (hb : Below w.heap.size w w') : PartsOwn w' base g n c P vs y := h.grown (grown_none hb) (fun k e => by cases e)
/-- Another block, which is new, is looked at from now on. -/
theorem PartsOwn.turn {w : World} {base g n c : Nat} {P : List (List EntD)} {vs : List Value} {y : Option Nat} (h : PartsOwn w base g n c P vs y) {y' : Option Nat} (hy : y' = y ∨ y' = none ∨ y' = some w.heap.size) : PartsOwn w base g n c P vs y' where
  owns := h.owns
  len := h.len
  ne := by
    rcases hy with rfl | rfl | rfl
    · exact h.ne
    · exact fun e => by cases e
    · intro e; have h1 := (h.owns.lt g rfl).2; have h2 := Option.some.inj e; omega
  lists := fun i A hA => by
    obtain ⟨s, m, d, hv, hE, hx⟩ := h.lists i A hA
    refine ⟨s, m, d, hv, hE, fun x e hp => ⟨(hx x e hp).1, ?_⟩⟩
    rcases hy with rfl | rfl | rfl
    · exact (hx x e hp).2
    · exact fun e => by cases e
    · intro e'; have h1 := (hE.lies x e hp).1; have h2 := Option.some.inj e'; omega
/-- A list is put behind the others. -/
theorem PartsOwn.push {w w' : World} {base g n c g2 c2 : Nat} {P : List (List EntD)} {vs : List Value} {y : Option Nat} (h : PartsOwn w base g n c P vs y) {s : Option Addr} {m d : Nat} {A : List EntD}
    (ho : w'.ownsRow base 40 1 (.slice (some ⟨g2, 0, none⟩) (n + 1) c2) (n + 1) (vs ++ [.slice s m d])) (hg : w.grownBy w' (some g)) (h2 : g2 = g ∨ g2 = w.heap.size)
    (hE : EntsAt w s m d A) (hx : ∀ x, s = some x → 0 < m → x.block ≠ g) : PartsOwn w' base g2 (n + 1) c2 (P ++ [A]) (vs ++ [.slice s m d]) none where
  owns := ho
  len := by rw [List.length_append, h.len]; rfl
  ne := fun e => by cases e
  lists := fun i B hB => by
    have hvl : vs.length = n := by have := h.owns.1; omega
    by_cases hi : i < n
    · rw [List.getElem?_append_left (by rw [h.len]; exact hi)] at hB
      obtain ⟨s', m', d', hv, hE', hx'⟩ := h.lists i B hB
      refine ⟨s', m', d', by rw [List.getElem?_append_left (by rw [hvl]; exact hi)]; exact hv, hE'.grownB hg (fun x e hp e' => (hx' x e hp).1 (by cases e'; rfl)), fun x e hp => ⟨?_, fun e => by cases e⟩⟩
      rcases h2 with rfl | rfl
      · exact (hx' x e hp).1
      · have := (hE'.lies x e hp).1; omega
    · rw [List.getElem?_append_right (by rw [h.len]; omega), h.len] at hB
      have hi0 : i - n = 0 := by
        by_cases e : i - n = 0
        · exact e
        · rw [List.getElem?_eq_none (by simp; omega)] at hB; cases hB
      rw [hi0] at hB
      simp at hB
      subst hB
      refine ⟨s, m, d, by rw [List.getElem?_append_right (by rw [hvl]; omega), hvl, hi0]; rfl, hE.grownB hg (fun x e hp e' => hx x e hp (by cases e'; rfl)), fun x e hp => ⟨?_, fun e => by cases e⟩⟩
      rcases h2 with rfl | rfl
      · exact hx x e hp
      · have := (hE.lies x e hp).1; omega
end Go.Proofs.YtfblpbihpmhgjaaDoor

namespace Go.Proofs.YtfblpbihpmhgjaaDoor
open Go.RowKit

/-- So far read: P, and the next begins at k. -/
def WholeI (t : ByteArray) (P : List (List EntD)) (k : Nat) : Prop := ∀ Ms m, Whole (t.data.toList.drop k) Ms m → Whole t.data.toList (P ++ Ms) (k + m)
theorem WholeI.start (t : ByteArray) : WholeI t [] 0 := fun Ms m h => by simpa using h
theorem WholeI.next {t : ByteArray} {P : List (List EntD)} {k : Nat} {L : List EntD} (h : WholeI t P k) (hL : FrAt (t.data.toList.drop k) L) : WholeI t (P ++ [L]) (k + (frameT L).length) := by
  intro Ms m hm
  obtain ⟨hd, r, hr⟩ := hL
  rw [← List.drop_drop, hr, List.drop_left] at hm
  have h1 : Whole (t.data.toList.drop k) (L :: Ms) ((frameT L).length + m) := by rw [hr]; exact Whole.one hd hm
  have h2 := h _ _ h1
  rw [List.append_assoc, Nat.add_assoc]
  exact h2
theorem WholeI.stop {t : ByteArray} {P : List (List EntD)} {k : Nat} (h : WholeI t P k) (hn : ∀ L, ¬ FrAt (t.data.toList.drop k) L) : Whole t.data.toList P k := by
  have := h [] 0 (Whole.none hn)
  simpa using this
theorem no_frame_nil (L : List EntD) : ¬ FrAt [] L := by
  rintro ⟨_, r, hr⟩
  have h1 := frameT_pos L
  have h2 := congrArg List.length hr
  rw [List.length_append] at h2
  simp at h2
  omega
theorem frame_le {t : ByteArray} {k : Nat} {L : List EntD} (h : FrAt (t.data.toList.drop k) L) (hk : k ≤ t.size) : k + (frameT L).length ≤ t.size := by
  obtain ⟨_, r, hr⟩ := h
  have h2 := congrArg List.length hr
  rw [List.length_append, List.length_drop, bytes_len] at h2
  omega
theorem cellOne (w : World) (v : Value) (T : TypeId) : ∀ j u, [v][j]? = some u → (w.alloc (.cells #[v] T)).cell? ((⟨w.heap.size, 0, none⟩ : Addr).add j) = some u := by
  intro j u hu
  rw [Go.WideShapes.add_plain]
  match j, hu with
  | 0, hu => simp at hu; subst hu; simp
/-- What is read of a log. -/
def RdE (t : ByteArray) (e : Ending) (w' : World) : Prop := ∃ (P : List (List EntD)) (k g n c : Nat), e = .returned (.tuple #[.slice (some ⟨g, 0, none⟩) n c, .int .i64 (k : Int)]) ∧ Whole t.data.toList P k ∧ PartsAt w' (some ⟨g, 0, none⟩) n c P

set_option maxHeartbeats 4000000 in
set_option maxRecDepth 100000 in
theorem specRd (t : ByteArray) (w : World) (ht : t.size ≤ 1048576) :
    Calls Tryd.prog 25 #[.string t] w fun e w' => RdE t e w' ∧ Below w.heap.size w w' := by
  obtain ⟨i0, hi, hz0, hz1, hz2⟩ := info_parts Tryd.infoEntS
  have HE0 : Hid (PartsOwn (w.alloc (.cells #[] 40)) w.heap.size w.heap.size 0 0 [] [] none) := by
    have := World.ownsRow_lit (base := w.heap.size) (e := 40) (size := 1) w #[] 0 (Nat.le_refl _) (by simp) (by simp)
    exact ⟨by simpa using this, rfl, by simp, fun i A h => by simp at h⟩
  have hB0 : Below w.heap.size w (w.alloc (.cells #[] 40)) := (Below.refl _ _).alloc (Nat.le_refl _) _
  go_enter Tryd.func25, Tryd.ntmps25
  go_wp2
  go_loopw [4, 5] (fun vv zv wr => ∃ (P : List (List EntD)) (vs : List Value) (k g n c : Nat), n ≤ k ∧ k ≤ t.size ∧ zv = .int .i64 (k : Int) ∧ vv = .slice (some ⟨g, 0, none⟩) n c ∧ PartsOwn wr w.heap.size g n c P vs none ∧ WholeI t P k ∧ Below w.heap.size w wr) (fun _ zv _ => t.size - (intOf zv).toNat)
  case atStart => exact ⟨[], [], 0, _, 0, 0, by omega, by omega, rfl, rfl, HE0.out, WholeI.start t, hB0⟩
  case round =>
    clear HE0 hB0
    obtain ⟨P, vs, k, g, n, c, hnk, hkt, rfl, rfl, hP, hW, hb⟩ := hrel
    have HP : Hid (PartsOwn wr w.heap.size g n c P vs none) := hP
    have HW : Hid (WholeI t P k) := hW
    have HB : Hid (Below w.heap.size w wr) := hb
    have hbz := hb.size
    clear hP hW hb
    by_cases hlt : k < t.size
    · have hltI : (k : Int) < (t.size : Int) := by omega
      go_wp2_with fail
      refine (specFrm t k _ hkt ht).mono ?_
      rintro e w1 ⟨he, hb1⟩
      have HB1 : Hid (Below w.heap.size w w1) := HB.out.trans (hb1.mono HB.out.size)
      have HP1 : Hid (PartsOwn w1 w.heap.size g n c P vs none) := HP.out.below hb1
      have HGL : Hid (g < wr.heap.size) := (HP.out.owns.lt g rfl).2
      have hb1z := HB1.out.size
      clear hb1
      rcases he with ⟨L, gp, m, cp, z, hL, rfl, hz, hO⟩ | ⟨hno, v, rfl⟩
      · have hfl := frame_le hL hkt
        have hfp := frameT_pos L
        have HWN : Hid (WholeI t (P ++ [L]) (k + (frameT L).length)) := HW.out.next hL
        obtain ⟨K, hK⟩ : ∃ K, K = k + (frameT L).length := ⟨_, rfl⟩
        rw [← hK] at HWN hfl hz
        have hKk : k < K := by omega
        subst hz
        have HOP : Hid (OwnE w1 wr.heap.size gp m cp L) := hO
        have HGP : Hid (g < gp) := by have h1 := HGL.out; have h2 := hO.lt.1; show g < gp; omega
        clear hL hK hO hfp
        have hK0 : ¬ (K : Int) < 0 := by omega
        have ka : Below w1.heap.size w1 (w1.alloc (.cells #[.slice (some ⟨gp, 0, none⟩) m cp] 40)) := (Below.refl _ _).alloc (Nat.le_refl _) _
        have KA : Hid (Below w1.heap.size w1 (w1.alloc (.cells #[.slice (some ⟨gp, 0, none⟩) m cp] 40))) := ka
        clear ka
        go_wp2_with (at_builtin; refine wpList_append_own_at _ rfl _ _ 44 rfl w.heap.size 40 i0 _ 1 24 Tryd.underlying44 hi hz0 hz1 hz2 rfl (by decide) _ _ _ rfl (HP1.out.owns.alloc _) ⟨w1.heap.size, 0, none⟩ 1 1 [Value.slice (some ⟨gp, 0, none⟩) m cp] rfl rfl (cellOne _ _ _) (by simp [Value.oneCell']) (by unfold maxLen; omega) (by omega) (by simp; omega) ?_; intro v2 w2 hown2 hgrow2 hnil2 hat2; obtain ⟨g2, c2, rfl⟩ := rowSome hown2 hnil2)
        go_roundw
        case rel =>
          have hgr : (w1.alloc (.cells #[.slice (some ⟨gp, 0, none⟩) m cp] 40)).grownBy w2 (some g) := hgrow2
          have hP2 := (HP1.out.below KA.out).push (A := L) hown2 hgr (by
            rcases hat2 with h | h
            · exact .inl (Option.some.inj h)
            · exact .inr (Option.some.inj h)) (HOP.out.below KA.out).entsAt (fun x e _ => by cases e; have := HGP.out; show gp ≠ g; omega)
          exact ⟨P ++ [L], _, K, g2, n + 1, c2, by omega, by omega, rfl, rfl, hP2, HWN.out, (HB1.out.trans (KA.out.mono HB1.out.size)).grown hgr (by simp; omega) (fun j e => by cases e; exact (HP1.out.owns.lt g rfl).1)⟩
        case measure => simp [intOf]; omega
      · have HFIN : Hid (Whole t.data.toList P k) := HW.out.stop hno
        clear hno
        go_wp2
        exact bodyPost_ret (v := .tuple #[.slice (some ⟨g, 0, none⟩) n c, .int .i64 (k : Int)]) (by simp [results, Tryd.results25, go_sem]) rfl ⟨⟨P, k, g, n, c, rfl, HFIN.out, HP1.out.partsAt⟩, HB1.out⟩
    · have hltI : ¬ (k : Int) < (t.size : Int) := by omega
      have HFIN : Hid (Whole t.data.toList P k) := HW.out.stop (by rw [List.drop_of_length_le (by rw [bytes_len]; omega)]; exact no_frame_nil)
      go_wp2
      exact bodyPost_ret (v := .tuple #[.slice (some ⟨g, 0, none⟩) n c, .int .i64 (k : Int)]) (by simp [results, Tryd.results25, go_sem]) rfl ⟨⟨P, k, g, n, c, rfl, HFIN.out, HP.out.partsAt⟩, HB.out⟩

end Go.Proofs.YtfblpbihpmhgjaaDoor
