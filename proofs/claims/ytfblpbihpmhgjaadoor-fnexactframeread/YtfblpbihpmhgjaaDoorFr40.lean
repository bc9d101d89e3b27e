/-
  The document's FrameRead: what it reads of a log, by a walk of its Go text.
-/
import Derived.Test.YtfblpbihpmhgjaaDoorFr38
import Derived.Test.YtfblpbihpmhgjaaDoorFr39
namespace Go.Proofs.YtfblpbihpmhgjaaDoor
open Go.RowKit

/-- So far read: P, and the next begins at k. -/
def WholeI (t : ByteArray) (P : List (List EntD)) (k : Nat) : Prop := ∀ Ms m, Whole (t.data.toList.drop k) Ms m → Whole t.data.toList (P ++ Ms) (k + m)
theorem WholeI.start (t : ByteArray) : WholeI t [] 0 := fun Ms m h => by simpa using h
theorem WholeI.next {t : ByteArray} {P : List (List EntD)} {k : Nat} {L : List EntD} (h : WholeI t P k) (hL : FrAt (t.data.toList.drop k) L) : WholeI t (P ++ [L]) (k + (frameT L).length) := by
  intro Ms m hm
  obtain ⟨hd, r, hr⟩ := hL
  rw [← List.drop_drop, hr, List.drop_left] at hm
  have h1 : Whole (t.data.toList.drop k) (L :: Ms) ((frameT L).length + m) := by rw [hr]; exact Whole.one hd hm
  have h2 := h _ _ h1
  rw [List.append_assoc, Nat.add_assoc]
  exact h2
theorem WholeI.stop {t : ByteArray} {P : List (List EntD)} {k : Nat} (h : WholeI t P k) (hn : ∀ L, ¬ FrAt (t.data.toList.drop k) L) : Whole t.data.toList P k := by
  have := h [] 0 (Whole.none hn)
  simpa using this
theorem no_frame_nil (L : List EntD) : ¬ FrAt [] L := by
  rintro ⟨_, r, hr⟩
  have h1 := frameT_pos L
  have h2 := congrArg List.length hr
  rw [List.length_append] at h2
  simp at h2
  omega
theorem frame_le {t : ByteArray} {k : Nat} {L : List EntD} (h : FrAt (t.data.toList.drop k) L) (hk : k ≤ t.size) : k + (frameT L).length ≤ t.size := by
  obtain ⟨_, r, hr⟩ := h
  have h2 := congrArg List.length hr
  rw [List.length_append, List.length_drop, bytes_len] at h2
  omega
theorem cellOne (w : World) (v : Value) (T : TypeId) : ∀ j u, [v][j]? = some u → (w.alloc (.cells #[v] T)).cell? ((⟨w.heap.size, 0, none⟩ : Addr).add j) = some u := by
  intro j u hu
  rw [Go.WideShapes.add_plain]
  match j, hu with
  | 0, hu => simp at hu; subst hu; simp
/-- What is read of a log. -/
def RdE (t : ByteArray) (e : Ending) (w' : World) : Prop := ∃ (P : List (List EntD)) (k g n c : Nat), e = .returned (.tuple #[.slice (some ⟨g, 0, none⟩) n c, .int .i64 (k : Int)]) ∧ Whole t.data.toList P k ∧ PartsAt w' (some ⟨g, 0, none⟩) n c P

set_option maxHeartbeats 4000000 in
set_option maxRecDepth 100000 in
theorem specRd (t : ByteArray) (w : World) (ht : t.size ≤ 1048576) :
    Calls Tryd.prog 25 #[.string t] w fun e w' => RdE t e w' ∧ Below w.heap.size w w' := by
  obtain ⟨i0, hi, hz0, hz1, hz2⟩ := info_parts Tryd.infoEntS
  have HE0 : Hid (PartsOwn (w.alloc (.cells #[] 40)) w.heap.size w.heap.size 0 0 [] [] none) := by
    have := World.ownsRow_lit (base := w.heap.size) (e := 40) (size := 1) w #[] 0 (Nat.le_refl _) (by simp) (by simp)
    exact ⟨by simpa using this, rfl, by simp, fun i A h => by simp at h⟩
  have hB0 : Below w.heap.size w (w.alloc (.cells #[] 40)) := (Below.refl _ _).alloc (Nat.le_refl _) _
  go_enter Tryd.func25, Tryd.ntmps25
  go_wp2
  go_loopw [4, 5] (fun vv zv wr => ∃ (P : List (List EntD)) (vs : List Value) (k g n c : Nat), n ≤ k ∧ k ≤ t.size ∧ zv = .int .i64 (k : Int) ∧ vv = .slice (some ⟨g, 0, none⟩) n c ∧ PartsOwn wr w.heap.size g n c P vs none ∧ WholeI t P k ∧ Below w.heap.size w wr) (fun _ zv _ => t.size - (intOf zv).toNat)
  case atStart => exact ⟨[], [], 0, _, 0, 0, by omega, by omega, rfl, rfl, HE0.out, WholeI.start t, hB0⟩
  case round =>
    clear HE0 hB0
    obtain ⟨P, vs, k, g, n, c, hnk, hkt, rfl, rfl, hP, hW, hb⟩ := hrel
    have HP : Hid (PartsOwn wr w.heap.size g n c P vs none) := hP
    have HW : Hid (WholeI t P k) := hW
    have HB : Hid (Below w.heap.size w wr) := hb
    have hbz := hb.size
    clear hP hW hb
    by_cases hlt : k < t.size
    · have hltI : (k : Int) < (t.size : Int) := by omega
      go_wp2_with fail
      refine (specFrm t k _ hkt ht).mono ?_
      rintro e w1 ⟨he, hb1⟩
      have HB1 : Hid (Below w.heap.size w w1) := HB.out.trans (hb1.mono HB.out.size)
      have HP1 : Hid (PartsOwn w1 w.heap.size g n c P vs none) := HP.out.below hb1
      have HGL : Hid (g < wr.heap.size) := (HP.out.owns.lt g rfl).2
      have hb1z := HB1.out.size
      clear hb1
      rcases he with ⟨L, gp, m, cp, z, hL, rfl, hz, hO⟩ | ⟨hno, v, rfl⟩
      · have hfl := frame_le hL hkt
        have hfp := frameT_pos L
        have HWN : Hid (WholeI t (P ++ [L]) (k + (frameT L).length)) := HW.out.next hL
        obtain ⟨K, hK⟩ : ∃ K, K = k + (frameT L).length := ⟨_, rfl⟩
        rw [← hK] at HWN hfl hz
        have hKk : k < K := by omega
        subst hz
        have HOP : Hid (OwnE w1 wr.heap.size gp m cp L) := hO
        have HGP : Hid (g < gp) := by have h1 := HGL.out; have h2 := hO.lt.1; show g < gp; omega
        clear hL hK hO hfp
        have hK0 : ¬ (K : Int) < 0 := by omega
        have ka : Below w1.heap.size w1 (w1.alloc (.cells #[.slice (some ⟨gp, 0, none⟩) m cp] 40)) := (Below.refl _ _).alloc (Nat.le_refl _) _
        have KA : Hid (Below w1.heap.size w1 (w1.alloc (.cells #[.slice (some ⟨gp, 0, none⟩) m cp] 40))) := ka
        clear ka
        go_wp2_with (at_builtin; refine wpList_append_own_at _ rfl _ _ 44 rfl w.heap.size 40 i0 _ 1 24 Tryd.underlying44 hi hz0 hz1 hz2 rfl (by decide) _ _ _ rfl (HP1.out.owns.alloc _) ⟨w1.heap.size, 0, none⟩ 1 1 [Value.slice (some ⟨gp, 0, none⟩) m cp] rfl rfl (cellOne _ _ _) (by simp [Value.oneCell']) (by unfold maxLen; omega) (by omega) (by simp; omega) ?_; intro v2 w2 hown2 hgrow2 hnil2 hat2; obtain ⟨g2, c2, rfl⟩ := rowSome hown2 hnil2)
        go_roundw
        case rel =>
          have hgr : (w1.alloc (.cells #[.slice (some ⟨gp, 0, none⟩) m cp] 40)).grownBy w2 (some g) := hgrow2
          have hP2 := (HP1.out.below KA.out).push (A := L) hown2 hgr (by
            rcases hat2 with h | h
            · exact .inl (Option.some.inj h)
            · exact .inr (Option.some.inj h)) (HOP.out.below KA.out).entsAt (fun x e _ => by cases e; have := HGP.out; show gp ≠ g; omega)
          exact ⟨P ++ [L], _, K, g2, n + 1, c2, by omega, by omega, rfl, rfl, hP2, HWN.out, (HB1.out.trans (KA.out.mono HB1.out.size)).grown hgr (by simp; omega) (fun j e => by cases e; exact (HP1.out.owns.lt g rfl).1)⟩
        case measure => simp [intOf]; omega
      · have HFIN : Hid (Whole t.data.toList P k) := HW.out.stop hno
        clear hno
        go_wp2
        exact bodyPost_ret (v := .tuple #[.slice (some ⟨g, 0, none⟩) n c, .int .i64 (k : Int)]) (by simp [results, Tryd.results25, go_sem]) rfl ⟨⟨P, k, g, n, c, rfl, HFIN.out, HP1.out.partsAt⟩, HB1.out⟩
    · have hltI : ¬ (k : Int) < (t.size : Int) := by omega
      have HFIN : Hid (Whole t.data.toList P k) := HW.out.stop (by rw [List.drop_of_length_le (by rw [bytes_len]; omega)]; exact no_frame_nil)
      go_wp2
      exact bodyPost_ret (v := .tuple #[.slice (some ⟨g, 0, none⟩) n c, .int .i64 (k : Int)]) (by simp [results, Tryd.results25, go_sem]) rfl ⟨⟨P, k, g, n, c, rfl, HFIN.out, HP.out.partsAt⟩, HB.out⟩

end Go.Proofs.YtfblpbihpmhgjaaDoor
