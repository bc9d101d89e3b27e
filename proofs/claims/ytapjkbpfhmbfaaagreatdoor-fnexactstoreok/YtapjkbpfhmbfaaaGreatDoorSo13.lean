/-
  The document's batch at a place of a text, by a walk of its Go text.
  Rows of lists of entries of a call's own; no statement of the program stands here.
  The document's FrameRead: what it reads of a log, by a walk of its Go text.
  The texts that the laws mark memory with, by a walk of their Go text.
  The laws' marks on a list of entries: written, and found again, by walks of their Go text.
  Lists of entries in rows of a call's own, with a list of blocks; no statement of the program stands here.
-/
import Derived.Deep.RegionHeld3
import Derived.Deep.RegionWith
import Derived.Test.YtapjkbpfhmbfaaaGreatDoorSo11
import Derived.Test.YtapjkbpfhmbfaaaGreatDoorSo08
import Derived.Maps.AppendAt
import Derived.Test.YtapjkbpfhmbfaaaGreatDoorSo02
import Derived.Lib.SlBytesRow
import Derived.Deep.LoopGhost
import Derived.WalkKit
import Derived.WalkSpells
import Derived.WalkLawsBesides
import Derived.Test.YtapjkbpfhmbfaaaGreatDoorProg
import Derived.Test.YtapjkbpfhmbfaaaGreatDoorSo00
import Derived.Test.YtapjkbpfhmbfaaaGreatDoorSo01
import Derived.Test.YtapjkbpfhmbfaaaGreatDoorSo03
import Derived.Test.YtapjkbpfhmbfaaaGreatDoorSo05
namespace Go.Proofs.YtapjkbpfhmbfaaaGreatDoor
open Go.RowKit
set_option maxRecDepth 100000
set_option maxHeartbeats 4000000
def FrmE (t : ByteArray) (k : Nat) (w : World) (e : Ending) (w' : World) : Prop :=
  (∃ (L : List EntD) (g n c : Nat) (z : Int), FrAt (t.data.toList.drop k) L ∧ e = .returned (.tuple #[.slice (some ⟨g, 0, none⟩) n c, .int .i64 z]) ∧ z = ((k + (frameT L).length : Nat) : Int) ∧ OwnE w' w.heap.size g n c L) ∨
  ((∀ L, ¬ FrAt (t.data.toList.drop k) L) ∧ ∃ v, e = .returned (.tuple #[v, .int .i64 (-1)]))
theorem frm_body {t u : ByteArray} {k j n : Nat} {m : Int} {M L : List EntD} (hF : FrAt (t.data.toList.drop k) L)
    (hn : ∀ (m' : Int) (r : List UInt8), -10000000 ≤ m' → m' ≤ 10000000 → t.data.toList.drop k = Lib.itoa m' ++ 32 :: r → m = m' ∧ ∃ j' : Nat, (j : Int) = (j' : Int) ∧ t.data.toList.drop j' = r) (hm : m = (n : Int))
    (hu : u.data.toList = (t.data.toList.drop j).take n) (hM : ∀ L : List EntD, (∀ e ∈ L, entOk e = true) → L.length ≤ 12 → u.data.toList = entsT L → M = L) : M = L ∧ n = (entsT L).length ∧ t.data.toList.drop k = Lib.itoa (n : Int) ++ 32 :: t.data.toList.drop j := by
  obtain ⟨hd, r, hr⟩ := hF
  obtain ⟨h1, h2, h3⟩ := done_parts hd
  have hs := entsT_small hd
  have e0 : frameT L ++ r = Lib.itoa ((entsT L).length : Int) ++ 32 :: (entsT L ++ 10 :: r) := by simp [frameT]
  rw [e0] at hr
  obtain ⟨a1, j', a2, a3⟩ := hn _ _ (by omega) (by omega) hr
  obtain rfl : j = j' := by omega
  obtain rfl : n = (entsT L).length := by omega
  refine ⟨hM L h3 h2 ?_, rfl, by rw [a3]; exact hr⟩
  rw [hu, a3, List.take_left]
theorem extr_take (t : ByteArray) (k j n : Nat) : (t.extract k (j + n + 1)).data.toList = (t.data.toList.drop k).take (j + n + 1 - k) := ext_toList t k (j + n + 1)
theorem frm_yes {t : ByteArray} {k j n : Nat} {M : List EntD} (h : frameB M = t.extract k (j + n + 1)) (hkj : k < j) (hjn : j + n + 1 ≤ t.size) : FrAt (t.data.toList.drop k) M ∧ j + n + 1 = k + (frameT M).length := by
  have hsz : (frameB M).size = j + n + 1 - k := by rw [h, ByteArray.size_extract]; omega
  cases hd : doneB M with
  | false =>
    rw [frameB_isno hd] at hsz
    have : (0 : Nat) = j + n + 1 - k := hsz
    omega
  | true =>
    have h1 := frameB_is hd
    rw [h, extr_take] at h1
    refine ⟨⟨hd, (t.data.toList.drop k).drop (j + n + 1 - k), ?_⟩, ?_⟩
    · rw [← h1, List.take_append_drop]
    · rw [← h1, List.length_take, List.length_drop, bytes_len]
      omega
theorem frm_no {t : ByteArray} {k j n : Nat} {M L : List EntD} (h : ¬ frameB M = t.extract k (j + n + 1)) (hjt : j ≤ t.size) (hkj : k < j) (hF : FrAt (t.data.toList.drop k) L) (hM : M = L) (hn : n = (entsT L).length) (hd : t.data.toList.drop k = Lib.itoa (n : Int) ++ 32 :: t.data.toList.drop j) : False := by
  subst hM
  apply h
  obtain ⟨hdn, r, hr⟩ := hF
  have hl := congrArg List.length hd
  rw [List.length_drop, bytes_len, List.length_append, List.length_cons, List.length_drop, bytes_len] at hl
  apply ByteArray.ext
  apply Array.toList_inj.1
  rw [frameB_is hdn, extr_take, hr, List.take_left']
  rw [frameT, ← hn, List.length_append, List.length_cons, List.length_append, ← hn]
  simp
  omega
theorem specFrm (t : ByteArray) (k : Nat) (w : World) (hk : k ≤ t.size) (ht : t.size ≤ 1048576) :
    Calls Tryz.prog 136 #[.string t, .int .i64 (k : Int)] w fun e w' => FrmE t k w e w' ∧ Below w.heap.size w w' := by
  go_enter Tryz.func136, Tryz.ntmps136
  go_wp2_with fail
  refine (specNumAt t k _ hk ht).mono ?_
  rintro e w1 ⟨⟨m, z, rfl, hm1, hpl, hkz, hnum⟩, hb1⟩
  have HB1 : Hid (Below w.heap.size w w1) := hb1
  have hz1 := hb1.size
  clear hb1
  have HNA : Hid (Below w.heap.size w (w1.alloc (.cells #[] 87))) := HB1.out.alloc HB1.out.size _
  rcases hpl with rfl | ⟨j, rfl, hj⟩
  · have HNX : Hid (∀ L, ¬ FrAt (t.data.toList.drop k) L) := by
      rintro L ⟨hd, r, hr⟩
      have hs := entsT_small hd
      have e0 : frameT L ++ r = Lib.itoa ((entsT L).length : Int) ++ 32 :: (entsT L ++ 10 :: r) := by simp [frameT]
      rw [e0] at hr
      obtain ⟨_, j', a2, _⟩ := hnum _ _ (by omega) (by omega) hr
      omega
    clear hnum
    go_wp2
    exact bodyPost_ret (v := .tuple #[.slice (some ⟨w1.heap.size, 0, none⟩) 0 0, .int .i64 (-1)]) (by simp [results, Tryz.results136, go_sem]) rfl ⟨Or.inr ⟨HNX.out, _, rfl⟩, HNA.out⟩
  have HNUM : Hid (∀ (m' : Int) (r : List UInt8), -10000000 ≤ m' → m' ≤ 10000000 → t.data.toList.drop k = Lib.itoa m' ++ 32 :: r → m = m' ∧ ∃ j' : Nat, (j : Int) = (j' : Int) ∧ t.data.toList.drop j' = r) := hnum
  clear hnum
  have hkj := hkz (by omega)
  clear hkz
  have hj0 : ¬ (j : Int) < 0 := by omega
  by_cases hm : m < 0
  · have HNX : Hid (∀ L, ¬ FrAt (t.data.toList.drop k) L) := by
      rintro L ⟨hd, r, hr⟩
      have hs := entsT_small hd
      have e0 : frameT L ++ r = Lib.itoa ((entsT L).length : Int) ++ 32 :: (entsT L ++ 10 :: r) := by simp [frameT]
      rw [e0] at hr
      obtain ⟨_, j', a2, _⟩ := HNUM.out _ _ (by omega) (by omega) hr
      omega
    go_wp2
    exact bodyPost_ret (v := .tuple #[.slice (some ⟨w1.heap.size, 0, none⟩) 0 0, .int .i64 (-1)]) (by simp [results, Tryz.results136, go_sem]) rfl ⟨Or.inr ⟨HNX.out, _, rfl⟩, HNA.out⟩
  obtain ⟨n, rfl⟩ := Int.eq_ofNat_of_zero_le (show 0 ≤ m by omega)
  have hwr : IntKind.i64.wrap ((t.size : Int) - (j : Int)) = (t.size : Int) - (j : Int) := by rw [IntWalk.i64_left]; unfold wrap64; omega
  have hwr1 : IntKind.i64.wrap ((t.size : Int) - (j : Int) - 1) = (t.size : Int) - (j : Int) - 1 := by rw [IntWalk.i64_left]; unfold wrap64; omega
  by_cases hgt : (t.size : Int) - (j : Int) - 1 < (n : Int)
  · have HNX : Hid (∀ L, ¬ FrAt (t.data.toList.drop k) L) := by
      rintro L ⟨hd, r, hr⟩
      have hs := entsT_small hd
      have e0 : frameT L ++ r = Lib.itoa ((entsT L).length : Int) ++ 32 :: (entsT L ++ 10 :: r) := by simp [frameT]
      rw [e0] at hr
      obtain ⟨a1, j', a2, a3⟩ := HNUM.out _ _ (by omega) (by omega) hr
      have hl := congrArg List.length a3
      rw [List.length_drop, bytes_len, List.length_append, List.length_cons] at hl
      omega
    go_wp2
    exact bodyPost_ret (v := .tuple #[.slice (some ⟨w1.heap.size, 0, none⟩) 0 0, .int .i64 (-1)]) (by simp [results, Tryz.results136, go_sem]) rfl ⟨Or.inr ⟨HNX.out, _, rfl⟩, HNA.out⟩
  have hwr2 : IntKind.i64.wrap ((j : Int) + (n : Int)) = (j : Int) + (n : Int) := by rw [IntWalk.i64_left]; unfold wrap64; omega
  have hwr3 : IntKind.i64.wrap ((j : Int) + (n : Int) + 1) = (j : Int) + (n : Int) + 1 := by rw [IntWalk.i64_left]; unfold wrap64; omega
  have g0 : (j : Int) ≤ (j : Int) + (n : Int) := by omega
  have g1 : (j : Int) + (n : Int) ≤ (t.size : Int) := by omega
  have g2 : 0 ≤ (j : Int) := by omega
  have g3 : 0 ≤ (j : Int) + (n : Int) := by omega
  go_wp2_with fail
  obtain ⟨u, hu⟩ : ∃ u, u = t.extract j (j + n) := ⟨_, rfl⟩
  rw [← hu]
  have HU : Hid (u.data.toList = (t.data.toList.drop j).take n ∧ u.size ≤ 1048576) := by
    rw [hu]
    refine ⟨?_, by rw [ByteArray.size_extract]; omega⟩
    rw [ext_toList]
    congr 1
    omega
  clear hu
  refine (specBody u _ HU.out.2).mono ?_
  rintro e w2 ⟨⟨g, x, c, M, rfl, hO, hx, hM⟩, hb2⟩
  have HM : Hid (∀ L : List EntD, (∀ e ∈ L, entOk e = true) → L.length ≤ 12 → u.data.toList = entsT L → M = L) := hM
  have HB2 : Hid (Below w.heap.size w w2) := HB1.out.trans (hb2.mono HB1.out.size)
  have HO : Hid (OwnE w2 w.heap.size g x c M) := hO.mono HB1.out.size
  clear hM hb2 hO
  have h4 : (k : Int) ≤ (j : Int) + (n : Int) + 1 := by omega
  have h5 : (j : Int) + (n : Int) + 1 ≤ (t.size : Int) := by omega
  have h6 : 0 ≤ (k : Int) := by omega
  have h7 : 0 ≤ (j : Int) + (n : Int) + 1 := by omega
  have CF : Hid (Calls Tryz.prog 115 #[.slice (some ⟨g, 0, none⟩) x c] w2.drew fun e w' => e = .returned (.string (frameB M)) ∧ Below w2.drew.heap.size w2.drew w') := specFrame _ _ _ M _ (HO.out.entsAt.keep ((Below.refl _ w2).drew))
  obtain ⟨F, hF⟩ : ∃ F, F = frameB M := ⟨_, rfl⟩
  rw [← hF] at CF
  have k0 : Below w2.heap.size w2 w2.drew := (Below.refl _ w2).drew
  obtain ⟨U, hU⟩ : ∃ U, U = t.extract k (j + n + 1) := ⟨_, rfl⟩
  have HUE : Hid (U = t.extract k (j + n + 1)) := hU
  by_cases heq : F = U
  · have hq : (F.toList == (t.extract k (j + n + 1)).toList) = true := by rw [← hU, heq]; simp
    have hq2 : (F.toList == (t.extract k ((j : Int) + (n : Int) + 1).toNat).toList) = true := by rw [show ((j : Int) + (n : Int) + 1).toNat = j + n + 1 by omega]; exact hq
    have HY : Hid (FrAt (t.data.toList.drop k) M ∧ j + n + 1 = k + (frameT M).length) := frm_yes (by rw [← hF, heq, hU]) (by omega) (by omega)
    clear hU hF heq
    go_upto_region 5 with fail
    go_region_held3 (fun w' => Below w2.heap.size w2 w') (first | with_reducible exact k0 | with_reducible exact k1) (first
      | (go_at_call 115; refine CF.out.mono ?_; rintro e w3 ⟨rfl, hb3⟩; have k1 : Below w2.heap.size w2 w3 := k0.trans (hb3.mono k0.size)))
    all_goals
      have HO3 : Hid (OwnE w3 w.heap.size g x c M) := HO.out.below k1
      have HB3 : Hid (Below w.heap.size w w3) := HB2.out.trans (k1.mono HB2.out.size)
      go_wp2
      exact bodyPost_ret (v := .tuple #[.slice (some ⟨g, 0, none⟩) x c, .int .i64 ((j : Int) + (n : Int) + 1)]) (by simp [results, Tryz.results136, go_sem]) rfl ⟨Or.inl ⟨M, g, x, c, _, HY.out.1, rfl, by have := HY.out.2; omega, HO3.out⟩, HB3.out⟩
  · have hq : (F.toList == (t.extract k (j + n + 1)).toList) = false := by
      rw [← hU, beq_eq_false_iff_ne]
      intro e
      rw [ByteArray.toList_eq, ByteArray.toList_eq] at e
      exact heq (ByteArray.ext (Array.toList_inj.1 e))
    have hq2 : (F.toList == (t.extract k ((j : Int) + (n : Int) + 1).toNat).toList) = false := by rw [show ((j : Int) + (n : Int) + 1).toNat = j + n + 1 by omega]; exact hq
    have HNX : Hid (∀ L, ¬ FrAt (t.data.toList.drop k) L) := by
      intro L hL
      obtain ⟨a1, a2, a3⟩ := frm_body hL HNUM.out rfl HU.out.1 HM.out
      exact frm_no (by rw [← hF, ← hU]; exact heq) hj (by omega) hL a1 a2 a3
    clear hU hF heq
    go_upto_region 5 with fail
    go_region_held3 (fun w' => Below w2.heap.size w2 w') (first | with_reducible exact k0 | with_reducible exact k1) (first
      | (go_at_call 115; refine CF.out.mono ?_; rintro e w3 ⟨rfl, hb3⟩; have k1 : Below w2.heap.size w2 w3 := k0.trans (hb3.mono k0.size)))
    all_goals
      have HB3 : Hid (Below w.heap.size w (w3.alloc (.cells #[] 87))) := (HB2.out.trans (k1.mono HB2.out.size)).alloc (HB2.out.trans (k1.mono HB2.out.size)).size _
      go_wp2
      exact bodyPost_ret (v := .tuple #[.slice (some ⟨w3.heap.size, 0, none⟩) 0 0, .int .i64 (-1)]) (by simp [results, Tryz.results136, go_sem]) rfl ⟨Or.inr ⟨HNX.out, _, rfl⟩, HB3.out⟩
end Go.Proofs.YtapjkbpfhmbfaaaGreatDoor

namespace Go.Proofs.YtapjkbpfhmbfaaaGreatDoor
open Go.RowKit
structure PartsAt (w : World) (a : Option Addr) (n c : Nat) (P : List (List EntD)) : Prop where
  length : P.length = n
  room : n ≤ c
  big : c ≤ maxLen
  nil : a = none → n = 0
  lies : ∀ x, a = some x → 0 < n → x.block < w.heap.size ∧ x.spot = none
  lists : ∀ x, a = some x → ∀ i (h : i < P.length), ∃ s m d, w.cell? ⟨x.block, x.off + i, none⟩ = some (.slice s m d) ∧ EntsAt w s m d P[i]
theorem PartsAt.keep {w w' : World} {a : Option Addr} {n c : Nat} {P : List (List EntD)} (h : PartsAt w a n c P) (hb : Below w.heap.size w w') : PartsAt w' a n c P where
  length := h.length
  room := h.room
  big := h.big
  nil := h.nil
  lies := fun x e hp => ⟨Nat.lt_of_lt_of_le (h.lies x e hp).1 hb.size, (h.lies x e hp).2⟩
  lists := fun x e i hi => by
    obtain ⟨s, m, d, c0, hL⟩ := h.lists x e i hi
    exact ⟨s, m, d, cell_later hb c0, hL.keep hb⟩
theorem PartsAt.form {w : World} {a : Option Addr} {n c : Nat} {P : List (List EntD)} (h : PartsAt w a n c P) (hl : 1 ≤ n) : ∃ b off, a = some ⟨b, off, none⟩ ∧ b < w.heap.size := by
  cases a with
  | none => have := h.nil rfl; omega
  | some x =>
    obtain ⟨b, off, spot⟩ := x
    obtain ⟨h1, h2⟩ := h.lies _ rfl (by omega)
    simp only at h1 h2
    subst h2
    exact ⟨b, off, rfl, h1⟩
theorem PartsAt.list {w wr : World} {b off n c : Nat} {P : List (List EntD)} (h : PartsAt w (some ⟨b, off, none⟩) n c P) (hb : Below w.heap.size w wr) (k : Nat) (hk : k < n) :
    ∃ A s m d, P[k]? = some A ∧ wr.cell? ⟨b, off + k, none⟩ = some (.slice s m d) ∧ EntsAt wr s m d A := by
  have hk' : k < P.length := by rw [h.length]; exact hk
  obtain ⟨s, m, d, c0, hL⟩ := (h.keep hb).lists _ rfl k hk'
  exact ⟨P[k], s, m, d, List.getElem?_eq_getElem hk', c0, hL⟩
theorem Tryz.infoEntS : (Tryz.prog.info? 33).map (fun i => (i.zero, i.size, i.bytes)) = some (some (.slice none 0 0), 1, 24) := by kernel_rfl
structure PartsOwn (w : World) (base g n c : Nat) (P : List (List EntD)) (vs : List Value) (y : Option Nat) : Prop where
  owns : w.ownsRow base 33 1 (.slice (some ⟨g, 0, none⟩) n c) n vs
  len : P.length = n
  ne : some g ≠ y
  lists : ∀ (i : Nat) A, P[i]? = some A → ∃ s m d, vs[i]? = some (.slice s m d) ∧ EntsAt w s m d A ∧ ∀ x, s = some x → 0 < m → x.block ≠ g ∧ some x.block ≠ y
theorem EntsAt.grownB {w w' : World} {s : Option Addr} {m d : Nat} {A : List EntD} {row : Option Nat} (h : EntsAt w s m d A) (hg : w.grownBy w' row) (hne : ∀ x, s = some x → 0 < m → some x.block ≠ row) : EntsAt w' s m d A :=
  h.moved hg.size (fun x e hp o => World.cell?_of_block (a := ⟨x.block, o, none⟩) (hg.block x.block (h.lies x e hp).1 (hne x e hp)))
theorem PartsOwn.partsAt {w : World} {base g n c : Nat} {P : List (List EntD)} {vs : List Value} {y : Option Nat} (h : PartsOwn w base g n c P vs y) : PartsAt w (some ⟨g, 0, none⟩) n c P := by
  have hlt := (h.owns.lt g rfl).2
  have hrc : n ≤ c ∧ c ≤ maxLen := by
    rcases h.owns.2 with ⟨h', _⟩ | ⟨g', cap', cur, h', _, _, hnc, hcm, _, _⟩
    · simp at h'
    · simp only [Value.slice.injEq, Option.some.injEq, Addr.mk.injEq, and_true, true_and] at h'
      obtain ⟨rfl, rfl⟩ := h'
      exact ⟨hnc, hcm⟩
  refine ⟨h.len, hrc.1, hrc.2, (fun e => by cases e), ?_, ?_⟩
  · rintro x e _
    cases e
    exact ⟨hlt, rfl⟩
  · rintro x e i hi
    cases e
    obtain ⟨s, m, d, hv, hE, _⟩ := h.lists i _ (List.getElem?_eq_getElem hi)
    refine ⟨s, m, d, ?_, hE⟩
    have := h.owns.cellAt i (by rw [← h.len]; omega)
    rw [hv] at this
    simpa using this
theorem PartsOwn.grown {w w' : World} {base g n c : Nat} {P : List (List EntD)} {vs : List Value} {y row : Option Nat} (h : PartsOwn w base g n c P vs y) (hg : w.grownBy w' row) (hr : ∀ k, row = some k → y = some k) : PartsOwn w' base g n c P vs y where
  owns := h.owns.kept hg (.inr (fun e => h.ne (by rw [hr g e.symm])))
  len := h.len
  ne := h.ne
  lists := fun i A hA => by
    obtain ⟨s, m, d, hv, hE, hx⟩ := h.lists i A hA
    exact ⟨s, m, d, hv, hE.grownB hg (fun x e hp e' => (hx x e hp).2 (hr _ e'.symm).symm), hx⟩
theorem grown_none {w w' : World} (hb : Below w.heap.size w w') : w.grownBy w' none := ⟨hb.os, hb.tape, hb.output, hb.size, fun k hk _ => hb.block k hk⟩
theorem PartsOwn.below {w w' : World} {base g n c : Nat} {P : List (List EntD)} {vs : List Value} {y : Option Nat} (h : PartsOwn w base g n c P vs y) (hb : Below w.heap.size w w') : PartsOwn w' base g n c P vs y := h.grown (grown_none hb) (fun k e => by cases e)
theorem PartsOwn.turn {w : World} {base g n c : Nat} {P : List (List EntD)} {vs : List Value} {y : Option Nat} (h : PartsOwn w base g n c P vs y) {y' : Option Nat} (hy : y' = y ∨ y' = none ∨ y' = some w.heap.size) : PartsOwn w base g n c P vs y' where
  owns := h.owns
  len := h.len
  ne := by
    rcases hy with rfl | rfl | rfl
    · exact h.ne
    · exact fun e => by cases e
    · intro e; have h1 := (h.owns.lt g rfl).2; have h2 := Option.some.inj e; omega
  lists := fun i A hA => by
    obtain ⟨s, m, d, hv, hE, hx⟩ := h.lists i A hA
    refine ⟨s, m, d, hv, hE, fun x e hp => ⟨(hx x e hp).1, ?_⟩⟩
    rcases hy with rfl | rfl | rfl
    · exact (hx x e hp).2
    · exact fun e => by cases e
    · intro e'; have h1 := (hE.lies x e hp).1; have h2 := Option.some.inj e'; omega
theorem PartsOwn.push {w w' : World} {base g n c g2 c2 : Nat} {P : List (List EntD)} {vs : List Value} {y : Option Nat} (h : PartsOwn w base g n c P vs y) {s : Option Addr} {m d : Nat} {A : List EntD}
    (ho : w'.ownsRow base 33 1 (.slice (some ⟨g2, 0, none⟩) (n + 1) c2) (n + 1) (vs ++ [.slice s m d])) (hg : w.grownBy w' (some g)) (h2 : g2 = g ∨ g2 = w.heap.size)
    (hE : EntsAt w s m d A) (hx : ∀ x, s = some x → 0 < m → x.block ≠ g) : PartsOwn w' base g2 (n + 1) c2 (P ++ [A]) (vs ++ [.slice s m d]) none where
  owns := ho
  len := by rw [List.length_append, h.len]; rfl
  ne := fun e => by cases e
  lists := fun i B hB => by
    have hvl : vs.length = n := by have := h.owns.1; omega
    by_cases hi : i < n
    · rw [List.getElem?_append_left (by rw [h.len]; exact hi)] at hB
      obtain ⟨s', m', d', hv, hE', hx'⟩ := h.lists i B hB
      refine ⟨s', m', d', by rw [List.getElem?_append_left (by rw [hvl]; exact hi)]; exact hv, hE'.grownB hg (fun x e hp e' => (hx' x e hp).1 (by cases e'; rfl)), fun x e hp => ⟨?_, fun e => by cases e⟩⟩
      rcases h2 with rfl | rfl
      · exact (hx' x e hp).1
      · have := (hE'.lies x e hp).1; omega
    · rw [List.getElem?_append_right (by rw [h.len]; omega), h.len] at hB
      have hi0 : i - n = 0 := by
        by_cases e : i - n = 0
        · exact e
        · rw [List.getElem?_eq_none (by simp; omega)] at hB; cases hB
      rw [hi0] at hB
      simp at hB
      subst hB
      refine ⟨s, m, d, by rw [List.getElem?_append_right (by rw [hvl]; omega), hvl, hi0]; rfl, hE.grownB hg (fun x e hp e' => hx x e hp (by cases e'; rfl)), fun x e hp => ⟨?_, fun e => by cases e⟩⟩
      rcases h2 with rfl | rfl
      · exact hx x e hp
      · have := (hE.lies x e hp).1; omega
end Go.Proofs.YtapjkbpfhmbfaaaGreatDoor

namespace Go.Proofs.YtapjkbpfhmbfaaaGreatDoor
open Go.RowKit
set_option maxRecDepth 100000
set_option maxHeartbeats 4000000
def WholeI (t : ByteArray) (P : List (List EntD)) (k : Nat) : Prop := ∀ Ms m, Whole (t.data.toList.drop k) Ms m → Whole t.data.toList (P ++ Ms) (k + m)
theorem WholeI.start (t : ByteArray) : WholeI t [] 0 := fun Ms m h => by simpa using h
theorem WholeI.next {t : ByteArray} {P : List (List EntD)} {k : Nat} {L : List EntD} (h : WholeI t P k) (hL : FrAt (t.data.toList.drop k) L) : WholeI t (P ++ [L]) (k + (frameT L).length) := by
  intro Ms m hm
  obtain ⟨hd, r, hr⟩ := hL
  rw [← List.drop_drop, hr, List.drop_left] at hm
  have h1 : Whole (t.data.toList.drop k) (L :: Ms) ((frameT L).length + m) := by rw [hr]; exact Whole.one hd hm
  have h2 := h _ _ h1
  rw [List.append_assoc, Nat.add_assoc]
  exact h2
theorem WholeI.stop {t : ByteArray} {P : List (List EntD)} {k : Nat} (h : WholeI t P k) (hn : ∀ L, ¬ FrAt (t.data.toList.drop k) L) : Whole t.data.toList P k := by
  have := h [] 0 (Whole.none hn)
  simpa using this
theorem no_frame_nil (L : List EntD) : ¬ FrAt [] L := by
  rintro ⟨_, r, hr⟩
  have h1 := frameT_pos L
  have h2 := congrArg List.length hr
  rw [List.length_append] at h2
  simp at h2
  omega
theorem frame_le {t : ByteArray} {k : Nat} {L : List EntD} (h : FrAt (t.data.toList.drop k) L) (hk : k ≤ t.size) : k + (frameT L).length ≤ t.size := by
  obtain ⟨_, r, hr⟩ := h
  have h2 := congrArg List.length hr
  rw [List.length_append, List.length_drop, bytes_len] at h2
  omega
theorem cellOne (w : World) (v : Value) (T : TypeId) : ∀ j u, [v][j]? = some u → (w.alloc (.cells #[v] T)).cell? ((⟨w.heap.size, 0, none⟩ : Addr).add j) = some u := by
  intro j u hu
  rw [Go.WideShapes.add_plain]
  match j, hu with
  | 0, hu => simp at hu; subst hu; simp
def RdE (t : ByteArray) (e : Ending) (w' : World) : Prop := ∃ (P : List (List EntD)) (k g n c : Nat), e = .returned (.tuple #[.slice (some ⟨g, 0, none⟩) n c, .int .i64 (k : Int)]) ∧ Whole t.data.toList P k ∧ PartsAt w' (some ⟨g, 0, none⟩) n c P
theorem specRd (t : ByteArray) (w : World) (ht : t.size ≤ 1048576) :
    Calls Tryz.prog 80 #[.string t] w fun e w' => RdE t e w' ∧ Below w.heap.size w w' := by
  obtain ⟨i0, hi, hz0, hz1, hz2⟩ := info_parts Tryz.infoEntS
  have HE0 : Hid (PartsOwn (w.alloc (.cells #[] 33)) w.heap.size w.heap.size 0 0 [] [] none) := by
    have := World.ownsRow_lit (base := w.heap.size) (e := 33) (size := 1) w #[] 0 (Nat.le_refl _) (by simp) (by simp)
    exact ⟨by simpa using this, rfl, by simp, fun i A h => by simp at h⟩
  have hB0 : Below w.heap.size w (w.alloc (.cells #[] 33)) := (Below.refl _ _).alloc (Nat.le_refl _) _
  go_enter Tryz.func80, Tryz.ntmps80
  go_wp2
  go_loopw [4, 5] (fun vv zv wr => ∃ (P : List (List EntD)) (vs : List Value) (k g n c : Nat), n ≤ k ∧ k ≤ t.size ∧ zv = .int .i64 (k : Int) ∧ vv = .slice (some ⟨g, 0, none⟩) n c ∧ PartsOwn wr w.heap.size g n c P vs none ∧ WholeI t P k ∧ Below w.heap.size w wr) (fun _ zv _ => t.size - (intOf zv).toNat)
  case atStart => exact ⟨[], [], 0, _, 0, 0, by omega, by omega, rfl, rfl, HE0.out, WholeI.start t, hB0⟩
  case round =>
    clear HE0 hB0
    obtain ⟨P, vs, k, g, n, c, hnk, hkt, rfl, rfl, hP, hW, hb⟩ := hrel
    have HP : Hid (PartsOwn wr w.heap.size g n c P vs none) := hP
    have HW : Hid (WholeI t P k) := hW
    have HB : Hid (Below w.heap.size w wr) := hb
    have hbz := hb.size
    clear hP hW hb
    by_cases hlt : k < t.size
    · have hltI : (k : Int) < (t.size : Int) := by omega
      go_wp2_with fail
      refine (specFrm t k _ hkt ht).mono ?_
      rintro e w1 ⟨he, hb1⟩
      have HB1 : Hid (Below w.heap.size w w1) := HB.out.trans (hb1.mono HB.out.size)
      have HP1 : Hid (PartsOwn w1 w.heap.size g n c P vs none) := HP.out.below hb1
      have HGL : Hid (g < wr.heap.size) := (HP.out.owns.lt g rfl).2
      have hb1z := HB1.out.size
      clear hb1
      rcases he with ⟨L, gp, m, cp, z, hL, rfl, hz, hO⟩ | ⟨hno, v, rfl⟩
      · have hfl := frame_le hL hkt
        have hfp := frameT_pos L
        have HWN : Hid (WholeI t (P ++ [L]) (k + (frameT L).length)) := HW.out.next hL
        obtain ⟨K, hK⟩ : ∃ K, K = k + (frameT L).length := ⟨_, rfl⟩
        rw [← hK] at HWN hfl hz
        have hKk : k < K := by omega
        subst hz
        have HOP : Hid (OwnE w1 wr.heap.size gp m cp L) := hO
        have HGP : Hid (g < gp) := by have h1 := HGL.out; have h2 := hO.lt.1; show g < gp; omega
        clear hL hK hO hfp
        have hK0 : ¬ (K : Int) < 0 := by omega
        have ka : Below w1.heap.size w1 (w1.alloc (.cells #[.slice (some ⟨gp, 0, none⟩) m cp] 33)) := (Below.refl _ _).alloc (Nat.le_refl _) _
        have KA : Hid (Below w1.heap.size w1 (w1.alloc (.cells #[.slice (some ⟨gp, 0, none⟩) m cp] 33))) := ka
        clear ka
        go_wp2_with (at_builtin; refine wpList_append_own_at _ rfl _ _ 103 rfl w.heap.size 33 i0 _ 1 24 Tryz.underlying103 hi hz0 hz1 hz2 rfl (by decide) _ _ _ rfl (HP1.out.owns.alloc _) ⟨w1.heap.size, 0, none⟩ 1 1 [Value.slice (some ⟨gp, 0, none⟩) m cp] rfl rfl (cellOne _ _ _) (by simp [Value.oneCell']) (by unfold maxLen; omega) (by omega) (by simp; omega) ?_; intro v2 w2 hown2 hgrow2 hnil2 hat2; obtain ⟨g2, c2, rfl⟩ := rowSome hown2 hnil2)
        go_roundw
        case rel =>
          have hgr : (w1.alloc (.cells #[.slice (some ⟨gp, 0, none⟩) m cp] 33)).grownBy w2 (some g) := hgrow2
          have hP2 := (HP1.out.below KA.out).push (A := L) hown2 hgr (by
            rcases hat2 with h | h
            · exact .inl (Option.some.inj h)
            · exact .inr (Option.some.inj h)) (HOP.out.below KA.out).entsAt (fun x e _ => by cases e; have := HGP.out; show gp ≠ g; omega)
          exact ⟨P ++ [L], _, K, g2, n + 1, c2, by omega, by omega, rfl, rfl, hP2, HWN.out, (HB1.out.trans (KA.out.mono HB1.out.size)).grown hgr (by simp; omega) (fun j e => by cases e; exact (HP1.out.owns.lt g rfl).1)⟩
        case measure => simp [intOf]; omega
      · have HFIN : Hid (Whole t.data.toList P k) := HW.out.stop hno
        clear hno
        go_wp2
        exact bodyPost_ret (v := .tuple #[.slice (some ⟨g, 0, none⟩) n c, .int .i64 (k : Int)]) (by simp [results, Tryz.results80, go_sem]) rfl ⟨⟨P, k, g, n, c, rfl, HFIN.out, HP1.out.partsAt⟩, HB1.out⟩
    · have hltI : ¬ (k : Int) < (t.size : Int) := by omega
      have HFIN : Hid (Whole t.data.toList P k) := HW.out.stop (by rw [List.drop_of_length_le (by rw [bytes_len]; omega)]; exact no_frame_nil)
      go_wp2
      exact bodyPost_ret (v := .tuple #[.slice (some ⟨g, 0, none⟩) n c, .int .i64 (k : Int)]) (by simp [results, Tryz.results80, go_sem]) rfl ⟨⟨P, k, g, n, c, rfl, HFIN.out, HP.out.partsAt⟩, HB.out⟩
end Go.Proofs.YtapjkbpfhmbfaaaGreatDoor

namespace Go.Proofs.YtapjkbpfhmbfaaaGreatDoor
open Go.RowKit
def digs : Nat → Nat → List UInt8 → List UInt8
  | 0, _, acc => acc
  | f + 1, p, acc => if p = 0 then acc else digs f (p / 10) (UInt8.ofNat (48 + p % 10) :: acc)
def markT (k : Nat) : ByteArray := ⟨#[109]⟩ ++ ⟨(digs k k []).toArray⟩
end Go.Proofs.YtapjkbpfhmbfaaaGreatDoor

namespace Go.Proofs.YtapjkbpfhmbfaaaGreatDoor
open Go.RowKit
def markEnt (k : Nat) : EntD := (markT k, ((k + 1 : Nat) : Int), ((k + 2 : Nat) : Int), markT (k + 3), ((k + 4 : Nat) : Int))
def markL (k n : Nat) : List EntD := (List.range n).map (fun j => markEnt (k + 5 * j))
end Go.Proofs.YtapjkbpfhmbfaaaGreatDoor

namespace Go.Proofs.YtapjkbpfhmbfaaaGreatDoor
open Go.RowKit
def rowsV (gs : List Nat) (P : List (List EntD)) : List Value := (gs.zip P).map (fun x => .slice (some ⟨x.1, 0, none⟩) x.2.length x.2.length)
theorem rowsV_at {gs : List Nat} {P : List (List EntD)} {i g : Nat} {L : List EntD} (h1 : gs[i]? = some g) (h2 : P[i]? = some L) : (rowsV gs P)[i]? = some (.slice (some ⟨g, 0, none⟩) L.length L.length) := by
  rw [rowsV, List.getElem?_map, List.getElem?_zip_eq_some (z := (g, L)) |>.2 ⟨h1, h2⟩]
  rfl
structure PartsZ (w : World) (base : Nat) (v : Value) (gs : List Nat) (P : List (List EntD)) : Prop where
  row : w.ownsRow base 33 1 v P.length (rowsV gs P)
  len : gs.length = P.length
  own : ∀ (i g : Nat) (L : List EntD), gs[i]? = some g → P[i]? = some L → OwnE w base g L.length L.length L
  nd : ∀ (i j g : Nat), gs[i]? = some g → gs[j]? = some g → i = j
theorem PartsZ.below {w w' : World} {base : Nat} {v : Value} {gs : List Nat} {P : List (List EntD)} (h : PartsZ w base v gs P) (hb : Below w.heap.size w w') : PartsZ w' base v gs P :=
  ⟨rowStay h.row hb, h.len, fun i g L h1 h2 => (h.own i g L h1 h2).below hb, h.nd⟩
theorem PartsZ.off {w : World} {base : Nat} {v : Value} {gs : List Nat} {P : List (List EntD)} (h : PartsZ w base v gs P) {i g : Nat} {L : List EntD} (h1 : gs[i]? = some g) (h2 : P[i]? = some L) : v.ownBlock ≠ some g :=
  rows_ne (h.own i g L h1 h2).owns h.row (by decide) rfl
theorem PartsZ.at {w : World} {base : Nat} {v : Value} {gs : List Nat} {P : List (List EntD)} (h : PartsZ w base v gs P) {i : Nat} (hi : i < P.length) : ∃ g L, gs[i]? = some g ∧ P[i]? = some L := by
  have h1 := h.len
  exact ⟨_, _, List.getElem?_eq_getElem (by omega), List.getElem?_eq_getElem hi⟩
theorem PartsZ.form {w : World} {base : Nat} {v : Value} {gs : List Nat} {P : List (List EntD)} (h : PartsZ w base v gs P) : ∃ a c, v = .slice a P.length c := by
  rcases h.row.2 with ⟨hv, h0⟩ | ⟨g, cap, cur, hv, _⟩
  · exact ⟨none, 0, by rw [hv, h0]⟩
  · exact ⟨_, cap, hv⟩
theorem PartsZ.partsAt {w : World} {base c : Nat} {a : Option Addr} {gs : List Nat} {P : List (List EntD)} {n : Nat} (h : PartsZ w base (.slice a n c) gs P) (hn : n = P.length) : PartsAt w a n c P := by
  subst hn
  rcases h.row.2 with ⟨hv, h0⟩ | ⟨g, cap, cur, hv, _, _, h3, h4, _, _⟩
  · have hP : P = [] := List.length_eq_zero_iff.1 h0
    subst hP
    cases hv
    exact ⟨rfl, Nat.le_refl _, by unfold maxLen; omega, fun _ => rfl, fun x e => (by cases e), fun x e => (by cases e)⟩
  · cases hv
    refine ⟨rfl, h3, h4, fun e => (by cases e), fun x e _ => ?_, fun x e i hi => ?_⟩
    · cases e
      exact ⟨(h.row.lt g rfl).2, rfl⟩
    · cases e
      obtain ⟨q, L, h5, h6⟩ := h.at hi
      have hL : P[i] = L := Option.some.inj ((List.getElem?_eq_getElem hi).symm.trans h6)
      refine ⟨_, _, _, ?_, by rw [hL]; exact (h.own i q L h5 h6).entsAt⟩
      have hc := h.row.cellAt i (by omega)
      rw [rowsV_at h5 h6] at hc
      simpa using hc
theorem rowsV_len {gs : List Nat} {P Q : List (List EntD)} (h : P.map List.length = Q.map List.length) : rowsV gs P = rowsV gs Q := by
  induction gs generalizing P Q with
  | nil => rfl
  | cons g gs ih =>
    cases P with
    | nil =>
      cases Q with
      | nil => rfl
      | cons y q => simp at h
    | cons x p =>
      cases Q with
      | nil => simp at h
      | cons y q =>
        simp only [List.map_cons, List.cons.injEq] at h
        have := ih h.2
        simp only [rowsV] at this
        simp only [rowsV, List.zip_cons_cons, List.map_cons, h.1, this]
theorem PartsZ.set {w w' : World} {base : Nat} {v : Value} {gs : List Nat} {A R : List (List EntD)} {L L' : List EntD} {g : Nat} (h : PartsZ w base v gs (A ++ L :: R)) (hg : gs[A.length]? = some g) (hw : w.grownBy w' (some g)) (hL : L'.length = L.length) (hO : OwnE w' base g L.length L.length L') : PartsZ w' base v gs (A ++ L' :: R) := by
  have hat : (A ++ L :: R)[A.length]? = some L := by simp
  have hoff := h.off hg hat
  have hlen : (A ++ L' :: R).map List.length = (A ++ L :: R).map List.length := by simp [hL]
  refine ⟨?_, by simpa using h.len, fun i q K h1 h2 => ?_, h.nd⟩
  · rw [rowsV_len hlen]
    have : (A ++ L' :: R).length = (A ++ L :: R).length := by simp
    rw [this]
    exact h.row.kept hw (.inr hoff)
  · by_cases hi : i = A.length
    · subst hi
      have hK : K = L' := by have h3 : (A ++ L' :: R)[A.length]? = some L' := by simp
                             exact (Option.some.inj (h3.symm.trans h2)).symm
      have hq : q = g := (Option.some.inj (hg.symm.trans h1)).symm
      subst hK
      subst hq
      rw [hL]
      exact hO
    · have hne : q ≠ g := fun e => hi (h.nd i A.length g (by rw [← e]; exact h1) hg)
      have h2' : (A ++ L :: R)[i]? = some K := by
        rcases Nat.lt_or_gt_of_ne hi with h4 | h4
        · rw [List.getElem?_append_left h4] at h2 ⊢
          exact h2
        · rw [List.getElem?_append_right (by omega)] at h2 ⊢
          obtain ⟨m, hm⟩ : ∃ m, i - A.length = m + 1 := ⟨i - A.length - 1, by omega⟩
          rw [hm] at h2 ⊢
          simpa using h2
      exact (h.own i q K h1 h2').grown hw (fun e => hne (Option.some.inj e))
def mrkP : Nat → List (List EntD) → List (List EntD)
  | _, [] => []
  | k, L :: r => markL k L.length :: mrkP (k + 5 * L.length) r
end Go.Proofs.YtapjkbpfhmbfaaaGreatDoor
