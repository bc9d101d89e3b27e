/-
  What the program's CellAll answers at any entries, by a walk of its Go text.
-/
import Derived.Deep.RegionLaw
import Derived.Deep.RegionHeld3
import Derived.Test.YtlmgojlffgkciaaGreatCe34
import Derived.Test.YtlmgojlffgkciaaGreatCe35
import Derived.Test.YtlmgojlffgkciaaGreatCe28
import Derived.Test.YtlmgojlffgkciaaGreatCe26
namespace Go.Proofs.YtlmgojlffgkciaaGreat
open Go.RowKit
set_option maxRecDepth 100000
set_option maxHeartbeats 8000000
attribute [local go_sem] Oper.semAt_some
theorem OwnO.row {w : World} {base : Nat} {a : Option Addr} {n c : Nat} {L : List EntD} (h : OwnO w base a n c L) : w.ownsRow base 78 5 (.slice a n c) n (flatE L) := by
  cases a with
  | none =>
    obtain ⟨rfl, rfl, rfl⟩ := h.nil rfl
    exact ⟨rfl, Or.inl ⟨rfl, rfl⟩⟩
  | some x =>
    obtain ⟨g, rfl, hO⟩ := h.own x rfl
    exact hO.owns
theorem entsC_none (w : World) : EntsAt w none 0 0 [] := ⟨rfl, Nat.le_refl _, Nat.zero_le _, (fun e h => by cases h), (fun _ => rfl), (fun x e => by cases e), (fun x e => by cases e)⟩
theorem insNil (fv : Value) (w : World) : Calls Tryz.prog 195 #[.slice none 0 0, .int .i64 0, .int .i64 0, fv] w fun e w' => e = .returned (.tuple #[]) ∧ w' = w := by
  go_enter Tryz.func195, Tryz.ntmps195
  go_wp2
  go_loopw [8] (fun vi wr => vi = .int .i64 1 ∧ wr = w) (fun _ _ => 0)
  case atStart => exact ⟨rfl, rfl⟩
  case round =>
    obtain ⟨rfl, rfl⟩ := hrel
    go_wp2
    go_end0
    exact ⟨rfl, rfl⟩
theorem stableNil (fv : Value) (w : World) : Calls Tryz.prog 173 #[.slice none 0 0, .int .i64 0, fv] w fun e w' => e = .returned (.tuple #[]) ∧ w' = w := by
  go_enter Tryz.func173, Tryz.ntmps173
  go_wp2
  go_loopw [7, 8] (fun va vb wr => va = .int .i64 0 ∧ vb = .int .i64 20 ∧ wr = w) (fun _ _ _ => 0)
  case atStart => exact ⟨rfl, rfl, rfl⟩
  case round =>
    obtain ⟨rfl, rfl, rfl⟩ := hrel
    go_wp2_with fail
    refine (insNil fv _).mono ?_
    rintro e w1 ⟨rfl, rfl⟩
    go_wp2
    go_loopw [6] (fun va wq => va = .int .i64 20 ∧ wq = w1) (fun _ _ => 0)
    case atStart => exact ⟨rfl, rfl⟩
    case round =>
      obtain ⟨rfl, rfl⟩ := hrel
      go_wp2
      go_end0
      exact ⟨rfl, rfl⟩
def SortedO (F : List EntD) (a : Option Addr) (n c base : Nat) (w : World) (e : Ending) (w' : World) : Prop :=
  e = .returned (.tuple #[]) ∧ EntsAt w' a n c (cutC F) ∧ (∀ B, B ≤ base → B ≤ w.heap.size → Below B w w')
theorem below_grownBy {w w' : World} {g B : Nat} (h : w.grownBy w' (some g)) (hB : B ≤ w.heap.size) (hg : B ≤ g) : Below B w w' :=
  (Below.refl _ _).grown h hB (fun k e => by cases e; exact hg)
theorem sortStable (a : Option Addr) (n c base : Nat) (F : List EntD) (w : World) (hO : OwnO w base a n c F) (hn : n ≤ 1048576) :
    Calls Tryz.prog 136 #[.slice a n c, .func (.func 137) #[] #[]] w (SortedO F a n c base w) := by
  cases a with
  | none =>
    obtain ⟨rfl, rfl, rfl⟩ := hO.nil rfl
    clear hO
    go_enter Tryz.func136, Tryz.ntmps136
    go_wp2_with fail
    refine (stableNil _ _).mono ?_
    rintro e w1 ⟨rfl, rfl⟩
    go_wp2
    go_end0
    exact ⟨rfl, entsC_none _, fun B _ _ => Below.refl _ _⟩
  | some x =>
    obtain ⟨g, rfl, hE⟩ := hO.own x rfl
    have HE : Hid (OwnE w base g n c F) := hE
    clear hO hE
    go_enter Tryz.func136, Tryz.ntmps136
    go_wp2_with fail
    refine (stableAll base g n c F _ HE.out hn).mono ?_
    rintro e w1 ⟨rfl, hE1, hG1⟩
    have HE1 : Hid (EntsAt w1 (some ⟨g, 0, none⟩) n c (cutC F)) := hE1.entsAt
    have HG1 : Hid (w.grownBy w1 (some g)) := hG1
    clear hE1 hG1
    go_wp2
    go_end0
    exact ⟨rfl, HE1.out, fun B hB hw => below_grownBy HG1.out hw (Nat.le_trans hB HE.out.lt.1)⟩
structure RndC (W wi : World) (E C : Nat) (s t : ByteArray) (q d n : Int) (v0 v1 v2 : Value) (a' : Option Addr) (n' c' : Nat) (D : List EntD) : Prop where
  low : Below W.heap.size W wi
  be : Box5 wi E (.string s) (.int .i64 q) (.int .i64 d) (.string t) (.int .i64 n)
  bc : Box3 wi C v0 v1 v2
  en : EntsAt wi a' n' c' D
theorem RndC.below {W wi wj : World} {E C : Nat} {s t : ByteArray} {q d n : Int} {v0 v1 v2 : Value} {a' : Option Addr} {n' c' : Nat} {D : List EntD} (h : RndC W wi E C s t q d n v0 v1 v2 a' n' c' D) (hb : Below wi.heap.size wi wj) : RndC W wj E C s t q d n v0 v1 v2 a' n' c' D :=
  ⟨h.low.trans (hb.mono h.low.size), h.be.below hb, h.bc.below hb, h.en.keep hb⟩
theorem RndC.set {W wi : World} {E C : Nat} {s t : ByteArray} {q d n : Int} {v0 v1 v2 : Value} {a' : Option Addr} {n' c' : Nat} {D : List EntD} (h : RndC W wi E C s t q d n v0 v1 v2 a' n' c' D) (hC : W.heap.size ≤ C) (hE : E ≠ C) (hA : ∀ x, a' = some x → 0 < n' → x.block ≠ C) (u0 u1 u2 : Value) :
    RndC W (((wi.setCell ⟨C, 0, none⟩ u0).setCell ⟨C, 1, none⟩ u1).setCell ⟨C, 2, none⟩ u2) E C s t q d n u0 u1 u2 a' n' c' D :=
  ⟨((h.low.setCell (p := ⟨C, 0, none⟩) hC _).setCell (p := ⟨C, 1, none⟩) hC _).setCell (p := ⟨C, 2, none⟩) hC _, ((h.be.other hE 0 _).other hE 1 _).other hE 2 _, h.bc.setAll _ _ _, ((h.en.setCell ⟨C, 0, none⟩ _ hA).setCell ⟨C, 1, none⟩ _ hA).setCell ⟨C, 2, none⟩ _ hA⟩
theorem implCellAll (a : Option Addr) (len cap : Nat) (L : List EntD) (key : ByteArray) (seq : Int) (w : World) (hL : EntsAt w a len cap L) (hlen : len ≤ 1048576) (htx : ∀ e ∈ L, e.2.2.2.1.size ≤ 281474976710656) :
    Calls Tryz.prog 92 #[.slice a len cap, .string key, .int .i64 seq] w fun e w' => e = .returned (cellV (cellL L key seq)) ∧ Below w.heap.size w w' := by
  obtain ⟨F, hF⟩ : ∃ F, F = findL L key seq := ⟨_, rfl⟩
  have HFF : Hid (F = findL L key seq) := hF
  have HLEN : Hid (L.length = len) := hL.length
  have HENTS : Hid (∀ l ∈ L, EntW l) := hL.ents
  have HTX : Hid (∀ e ∈ L, e.2.2.2.1.size ≤ 281474976710656) := htx
  have HFEW : Hid (F.length ≤ 1048576) := by rw [hF]; exact Nat.le_trans (find_len L key seq) (by rw [hL.length]; exact hlen)
  have hbl := hL.room
  have hbc := hL.big
  unfold maxLen at hbc
  have HL : Hid (EntsAt w a len cap L) := hL
  obtain ⟨RC, hRC⟩ : ∃ RC, RC = cellL L key seq := ⟨_, rfl⟩
  have HRC : Hid (RC = foldC (cutC F)) := by rw [hRC, hF]; rfl
  rw [← hRC]
  clear hL hF htx hRC
  obtain ⟨i0, hi, hz0, hz1, hz2⟩ := info_parts Tryz.infoEnt
  obtain ⟨X, hX⟩ : ∃ X, X = w.heap.size := ⟨_, rfl⟩
  obtain ⟨W, hW⟩ : ∃ W, W = w.alloc (.cells #[.bool false, .string ⟨#[]⟩, .int .i64 0] 41) := ⟨_, rfl⟩
  have HBX : Hid (Box3 W X (.bool false) (.string ⟨#[]⟩) (.int .i64 0)) := by rw [hW, hX]; exact Box3.new _ _ _ _ _
  have HKW : Hid (Below w.heap.size w W) := by rw [hW]; exact (Below.refl _ _).alloc (Nat.le_refl _) _
  have HXW : Hid (X = w.heap.size) := hX
  have HWX : Hid (W.heap.size = X + 1) := by show W.heap.size = X + 1; rw [hW, hX]; simp
  have HLW : Hid (EntsAt W a len cap L) := HL.out.keep HKW.out
  go_enter Tryz.func92, Tryz.ntmps92
  go_wp2
  rw [← hW, ← hX]
  clear hW hX
  go_loopw [7, 15] (fun dv iv wr => ∃ (k n' c' : Nat) (a' : Option Addr), k ≤ len ∧ n' ≤ k ∧ iv = .int .i64 k ∧ dv = .slice a' n' c' ∧ OwnO wr W.heap.size a' n' c' (findL (L.take k) key seq) ∧ Below W.heap.size W wr) (fun _ iv _ => len - (intOf iv).toNat)
  case atStart => exact ⟨0, 0, 0, none, Nat.zero_le _, Nat.zero_le _, rfl, rfl, OwnO.none _ _, Below.refl _ _⟩
  case round =>
    obtain ⟨k, n', c', a', hk, hnk, rfl, rfl, hO, hb⟩ := hrel
    have HO : Hid (OwnO wr W.heap.size a' n' c' (findL (L.take k) key seq)) := hO
    clear hO
    by_cases hlt : k < len
    · obtain ⟨b, off, rfl, hbb⟩ := HLW.out.form (by omega)
      obtain ⟨s, q, d, t, n, hg, hlw, g0, g1, g2, g3, g4⟩ := HLW.out.ent hb hbb k hlt
      have HG : Hid (L[k]? = some (s, q, d, t, n)) := hg
      clear hg hlw
      have hbr : b < wr.heap.size := Nat.lt_of_lt_of_le hbb hb.size
      by_cases hks : s = key
      · subst hks
        by_cases hq : q ≤ seq
        · have HF : Hid (findL (L.take (k + 1)) s seq = findL (L.take k) s seq ++ [(s, q, d, t, n)]) := find_snoc_yes HG.out rfl hq
          go_wp2_with (at_builtin; refine wpList_append_own _ rfl _ _ 28 rfl W.heap.size 78 i0 _ 5 56 Tryz.underlying28 hi hz0 hz1 hz2 rfl (by decide) _ _ _ rfl ((HO.out.row.alloc _).alloc _) ⟨wr.heap.size + 1, 0, none⟩ 1 1 (flatE [(s, q, d, t, n)]) rfl rfl ?c1 (flatE_one _) ?c3 ?c4 ?c5 ?_)
          case c1 =>
            have he := ents_one (wr.alloc (.cells #[.string s, .int .i64 q, .int .i64 d, .string t, .int .i64 n] 78)) s t q d n (HENTS.out _ (List.mem_of_getElem? HG.out))
            simp only [World.size_alloc] at he
            exact ents_news he
          case c3 => unfold maxLen; omega
          case c4 => omega
          case c5 => have := hb.size; simp; omega
          intro v' w2 hown' hgrow hnil
          obtain ⟨g2, cap2, rfl⟩ : ∃ g cap, v' = .slice (some ⟨g, 0, none⟩) (n' + 1) cap := by
            rcases hown'.2 with ⟨hv, h0⟩ | ⟨g, cap, cur, hv, _⟩
            · omega
            · exact ⟨g, cap, hv⟩
          have hb2 : Below W.heap.size W w2 := ((hb.alloc hb.size _).alloc (by have := hb.size; simp; omega) _).grown hgrow (by have := hb.size; simp; omega) (fun q hq => (HO.out.row.lt q hq).1)
          have hO2 : OwnO w2 W.heap.size (some ⟨g2, 0, none⟩) (n' + 1) cap2 (findL (L.take (k + 1)) s seq) := by
            refine OwnO.some ⟨?_, ?_, fun l hl => HENTS.out l (List.mem_of_mem_take (find_mem hl))⟩
            · rw [HF.out, flatE_append]; exact hown'
            · rw [HF.out, List.length_append, HO.out.len]; rfl
          have HO2 : Hid (OwnO w2 W.heap.size (some ⟨g2, 0, none⟩) (n' + 1) cap2 (findL (L.take (k + 1)) s seq)) := hO2
          clear hown' hgrow hnil hO2
          go_wp2
          go_roundw
          case rel => exact ⟨k + 1, n' + 1, cap2, _, by omega, by omega, by go_num, rfl, HO2.out, hb2⟩
          case measure => simp [intOf]; omega
        · have HF : Hid (findL (L.take (k + 1)) s seq = findL (L.take k) s seq) := find_snoc_no HG.out (by simp; omega)
          go_wp2
          go_roundw
          case rel => exact ⟨k + 1, n', c', a', by omega, by omega, by go_num, rfl, by rw [HF.out]; exact HO.out.below ((Below.refl _ _).alloc (Nat.le_refl _) _), hb.alloc hb.size _⟩
          case measure => simp [intOf]; omega
      · have HF : Hid (findL (L.take (k + 1)) key seq = findL (L.take k) key seq) := find_snoc_no HG.out (fun h => hks h.1)
        have hne : ¬ s.toList = key.toList := by
          rw [ByteArray.toList_eq, ByteArray.toList_eq]
          intro h
          exact hks (ByteArray.ext (Array.toList_inj.1 h))
        have hne' : (s.toList == key.toList) = false := by simpa using hne
        clear hks
        go_wp2
        go_roundw
        case rel => exact ⟨k + 1, n', c', a', by omega, by omega, by go_num, rfl, by rw [HF.out]; exact HO.out.below ((Below.refl _ _).alloc (Nat.le_refl _) _), hb.alloc hb.size _⟩
        case measure => simp [intOf]; omega
    · have HO1 : Hid (OwnO wr W.heap.size a' n' c' F) := by
        have := HO.out
        rw [List.take_of_length_le (by rw [HLEN.out]; omega), ← HFF.out] at this
        exact this
      have hn20 : n' ≤ 1048576 := by rw [← HO1.out.len]; exact HFEW.out
      have HFTX : Hid (∀ e ∈ cutC F, e.2.2.2.1.size ≤ 281474976710656) := fun e he => HTX.out e (find_mem (by rw [← HFF.out]; exact cutC_mem.1 he))
      clear HO
      go_wp2_with fail
      refine (sortStable a' n' c' W.heap.size F _ HO1.out hn20).mono ?_
      rintro e w2 ⟨rfl, hE2, hB2⟩
      have hb2 : Below W.heap.size W w2 := hb.trans (hB2 _ (Nat.le_refl _) hb.size)
      obtain ⟨C, hC⟩ : ∃ C, C = w2.heap.size := ⟨_, rfl⟩
      obtain ⟨w3, hw3⟩ : ∃ w3, w3 = w2.alloc (.cells #[.bool false, .string ⟨#[]⟩, .int .i64 0] 41) := ⟨_, rfl⟩
      have k3 : Below w2.heap.size w2 w3 := by rw [hw3]; exact (Below.refl _ _).alloc (Nat.le_refl _) _
      have HBC : Hid (Box3 w3 C (.bool false) (.string ⟨#[]⟩) (.int .i64 0)) := by rw [hw3, hC]; exact Box3.new _ _ _ _ _
      have HE3 : Hid (EntsAt w3 a' n' c' (cutC F)) := hE2.keep k3
      have HB3 : Hid (Below W.heap.size W w3) := hb2.trans (k3.mono hb2.size)
      have hCW : Hid (W.heap.size ≤ C) := by rw [hC]; exact hb2.size
      have HNE : Hid (∀ x, a' = some x → 0 < n' → x.block ≠ C) := fun x hx hp => by have := (hE2.lies x hx hp).1; rw [hC]; omega
      have HLD : Hid ((cutC F).length = n') := hE2.length
      have hroom := hE2.room
      have hbig := hE2.big
      unfold maxLen at hbig
      go_wp2
      rw [← hw3, ← hC]
      clear hw3 hC k3 hE2 hB2 hb2 hb HO1
      go_loopw [39] (fun iv wq => ∃ (k : Nat) (cc : CellD), k ≤ n' ∧ iv = .int .i64 k ∧ cc = foldC ((cutC F).take k) ∧ Below W.heap.size W wq ∧ Box3 wq C (.bool cc.1) (.string cc.2.1) (.int .i64 cc.2.2) ∧ EntsAt wq a' n' c' (cutC F) ∧ cc.2.1.size ≤ 281474976710656) (fun iv _ => n' - (intOf iv).toNat)
      case atStart => exact ⟨0, (false, ⟨#[]⟩, 0), Nat.zero_le _, rfl, rfl, HB3.out, HBC.out, HE3.out, Nat.zero_le _⟩
      case round =>
      obtain ⟨k, cc, hk, rfl, hcc, hb, hbx, hen, hcs⟩ := hrel
      clear HB3 HBC HE3
      have HEN : Hid (EntsAt wr a' n' c' (cutC F)) := hen
      have HCC : Hid (cc = foldC ((cutC F).take k)) := hcc
      have HBX3 : Hid (Box3 wr C (.bool cc.1) (.string cc.2.1) (.int .i64 cc.2.2)) := hbx
      have HCS : Hid (cc.2.1.size ≤ 281474976710656) := hcs
      clear hen hcc hbx hcs
      by_cases hlt2 : k < n'
      · obtain ⟨b, off, rfl, hbb⟩ := HEN.out.form (by omega)
        obtain ⟨s, q, d, t, n, hg, hlw, g0, g1, g2, g3, g4⟩ := HEN.out.ent (Below.refl wr.heap.size wr) hbb k hlt2
        have HG : Hid ((cutC F)[k]? = some (s, q, d, t, n)) := hg
        clear hg hlw
        obtain ⟨T, G, hkind, hm, eg, hdo⟩ := kind_any cc.1 cc.2.1 s t cc.2.2 q d n
        obtain ⟨dc, hdc⟩ : ∃ dc, dc = cellN cc.1 cc.2.1 cc.2.2 d t n := ⟨_, rfl⟩
        rw [← hdc] at hdo
        have HDC : Hid (dc = doC (foldC ((cutC F).take k)) (s, q, d, t, n)) := by rw [hdc, ← HCC.out]; rfl
        have HDS : Hid (dc.2.1.size ≤ 281474976710656) := by rw [hdc]; exact cellN_size HCS.out (HFTX.out _ (List.mem_of_getElem? HG.out))
        clear hdc
        go_upto_region 13 with fail
        obtain ⟨E, hE⟩ : ∃ E, E = wr.heap.size := ⟨_, rfl⟩
        obtain ⟨wq, hwq⟩ : ∃ wq, wq = wr.alloc (.cells #[.string s, .int .i64 q, .int .i64 d, .string t, .int .i64 n] 78) := ⟨_, rfl⟩
        have kq : Below wr.heap.size wr wq := by rw [hwq]; exact (Below.refl _ _).alloc (Nat.le_refl _) _
        have hEC : Hid (E ≠ C) := by have := HBX3.out.lt; show E ≠ C; omega
        have k0 : RndC W wq.drew E C s t q d n (.bool cc.1) (.string cc.2.1) (.int .i64 cc.2.2) (some ⟨b, off, none⟩) n' c' (cutC F) :=
          RndC.below ⟨hb.trans (kq.mono hb.size), by rw [hwq, hE]; exact Box5.new _ _ _ _ _ _ _, HBX3.out.below kq, HEN.out.keep kq⟩ (Below.refl _ _).drew
        rw [← hwq, ← hE]
        clear hwq hE kq g0 g1 g2 g3 g4 HEN HBX3 hb hbb
        refine wp_region_held_drew (S := (fun w' => w'.cell? ⟨E, 0, none⟩ = some (.string s) ∧ w'.cell? ⟨E, 1, none⟩ = some (.int .i64 q) ∧ w'.cell? ⟨E, 2, none⟩ = some (.int .i64 d) ∧ w'.cell? ⟨E, 3, none⟩ = some (.string t) ∧ w'.cell? ⟨E, 4, none⟩ = some (.int .i64 n) ∧ E < w'.heap.size)) (by kernel_rfl) (⟨k0.be.c0, k0.be.c1, k0.be.c2, k0.be.c3, k0.be.c4, k0.be.lt⟩) (fun hHeld => ?_)
        generalize wq.drew = wd at k0 hHeld ⊢
        refine tkL 0 hHeld ?_; try go_frame
        refine tkL 3 hHeld ?_; try go_frame
        refine wpAnyH_ready (rs := [1, 2]) (by kernel_rfl) (by simp) ?_
        refine consL rfl (fun K hK => ?_) (consL rfl (fun K hK => ?_) AllReadyH.nil)
        · go_simp
          refine (hkind _).mono ?_
          rintro e wv1 ⟨rfl, bb1⟩
          have kk1 := k0.below bb1
          go_wp2_with fail
          refine hK.out _ _ (⟨kk1.be.c0, kk1.be.c1, kk1.be.c2, kk1.be.c3, kk1.be.c4, kk1.be.lt⟩) (fun hHeld => ?_)
          clear hK K
          try go_frame
          refine wpAnyH_ready (rs := [2]) (by kernel_rfl) (by simp) ?_
          refine consL rfl (fun K hK => ?_) AllReadyH.nil
          have c0 := kk1.bc.c0
          have c1 := kk1.bc.c1
          have c2 := kk1.bc.c2
          have cl := kk1.bc.lt
          go_simp
          clear c0 c1 c2 cl
          refine hK.out _ _ (⟨kk1.be.c0, kk1.be.c1, kk1.be.c2, kk1.be.c3, kk1.be.c4, kk1.be.lt⟩) (fun hHeld => ?_)
          clear hK K
          try go_frame
          refine wpAnyH_ready (rs := [4]) (by kernel_rfl) (by simp) ?_
          refine consL rfl (fun K hK => ?_) AllReadyH.nil
          go_simp
          refine (hdo _).mono ?_
          rintro e wv2 ⟨rfl, bb2⟩
          have kk2 := kk1.below bb2
          unfold cellV
          go_wp2_with fail
          refine hK.out _ _ (⟨kk2.be.c0, kk2.be.c1, kk2.be.c2, kk2.be.c3, kk2.be.c4, kk2.be.lt⟩) (fun hHeld => ?_)
          clear hK K
          try go_frame
          refine wpAnyH_ready (rs := [5]) (by kernel_rfl) (by simp) ?_
          refine consL rfl (fun K hK => ?_) AllReadyH.nil
          have c0 := kk2.bc.c0
          have c1 := kk2.bc.c1
          have c2 := kk2.bc.c2
          have cl := kk2.bc.lt
          have f0 := kk2.bc.fr 0
          have f1 := kk2.bc.fr 1
          have f2 := kk2.bc.fr 2
          go_simp
          have kk3 := kk2.set hCW.out hEC.out HNE.out (.bool dc.1) (.string dc.2.1) (.int .i64 dc.2.2)
          clear c0 c1 c2 cl f0 f1 f2
          refine hK.out _ _ (⟨kk3.be.c0, kk3.be.c1, kk3.be.c2, kk3.be.c3, kk3.be.c4, kk3.be.lt⟩) (fun hHeld => ?_)
          clear hK K
          try go_frame
          refine wpAnyH_done (by kernel_rfl) ?_ _
          have HK : Hid (RndC W _ E C s t q d n (.bool dc.1) (.string dc.2.1) (.int .i64 dc.2.2) (some ⟨b, off, none⟩) n' c' (cutC F)) := kk3
          clear hkind hm eg hdo
          go_wp2
          go_roundw
          case rel => exact ⟨k + 1, dc, by omega, by go_num, HDC.out.trans (foldC_take HG.out).symm, HK.out.low, HK.out.bc, HK.out.en, HDS.out⟩
          case measure => simp [intOf]; omega
        · have c0 := k0.bc.c0
          have c1 := k0.bc.c1
          have c2 := k0.bc.c2
          have cl := k0.bc.lt
          go_simp
          clear c0 c1 c2 cl
          refine hK.out _ _ (⟨k0.be.c0, k0.be.c1, k0.be.c2, k0.be.c3, k0.be.c4, k0.be.lt⟩) (fun hHeld => ?_)
          clear hK K
          try go_frame
          refine wpAnyH_ready (rs := [1]) (by kernel_rfl) (by simp) ?_
          refine consL rfl (fun K hK => ?_) AllReadyH.nil
          go_simp
          refine (hkind _).mono ?_
          rintro e wv4 ⟨rfl, bb4⟩
          have kk4 := k0.below bb4
          go_wp2_with fail
          refine hK.out _ _ (⟨kk4.be.c0, kk4.be.c1, kk4.be.c2, kk4.be.c3, kk4.be.c4, kk4.be.lt⟩) (fun hHeld => ?_)
          clear hK K
          try go_frame
          refine wpAnyH_ready (rs := [4]) (by kernel_rfl) (by simp) ?_
          refine consL rfl (fun K hK => ?_) AllReadyH.nil
          go_simp
          refine (hdo _).mono ?_
          rintro e wv5 ⟨rfl, bb5⟩
          have kk5 := kk4.below bb5
          unfold cellV
          go_wp2_with fail
          refine hK.out _ _ (⟨kk5.be.c0, kk5.be.c1, kk5.be.c2, kk5.be.c3, kk5.be.c4, kk5.be.lt⟩) (fun hHeld => ?_)
          clear hK K
          try go_frame
          refine wpAnyH_ready (rs := [5]) (by kernel_rfl) (by simp) ?_
          refine consL rfl (fun K hK => ?_) AllReadyH.nil
          have c0 := kk5.bc.c0
          have c1 := kk5.bc.c1
          have c2 := kk5.bc.c2
          have cl := kk5.bc.lt
          have f0 := kk5.bc.fr 0
          have f1 := kk5.bc.fr 1
          have f2 := kk5.bc.fr 2
          go_simp
          have kk6 := kk5.set hCW.out hEC.out HNE.out (.bool dc.1) (.string dc.2.1) (.int .i64 dc.2.2)
          clear c0 c1 c2 cl f0 f1 f2
          refine hK.out _ _ (⟨kk6.be.c0, kk6.be.c1, kk6.be.c2, kk6.be.c3, kk6.be.c4, kk6.be.lt⟩) (fun hHeld => ?_)
          clear hK K
          try go_frame
          refine wpAnyH_done (by kernel_rfl) ?_ _
          have HK : Hid (RndC W _ E C s t q d n (.bool dc.1) (.string dc.2.1) (.int .i64 dc.2.2) (some ⟨b, off, none⟩) n' c' (cutC F)) := kk6
          clear hkind hm eg hdo
          go_wp2
          go_roundw
          case rel => exact ⟨k + 1, dc, by omega, by go_num, HDC.out.trans (foldC_take HG.out).symm, HK.out.low, HK.out.bc, HK.out.en, HDS.out⟩
          case measure => simp [intOf]; omega
      · have HKN : Hid (RC = cc) := by show RC = cc; rw [HRC.out, HCC.out, List.take_of_length_le (by rw [HLD.out]; omega)]
        have c0 := HBX3.out.c0
        have c1 := HBX3.out.c1
        have c2 := HBX3.out.c2
        have cl := HBX3.out.lt
        obtain ⟨cb, ct, cn⟩ := cc
        simp only at c0 c1 c2
        go_wp2_with fail
        refine (cloneCell_any (cb, ct, cn) _ HCS.out).mono ?_
        rintro e w4 ⟨rfl, hb4⟩
        have HBX4 : Box3 w4 X (.bool false) (.string ⟨#[]⟩) (.int .i64 0) := (HBX.out.below hb).below hb4
        have x0 := HBX4.c0
        have x1 := HBX4.c1
        have x2 := HBX4.c2
        have xl := HBX4.lt
        have f0 := HBX4.fr 0
        have f1 := HBX4.fr 1
        have f2 := HBX4.fr 2
        have K4 : Hid (Below w.heap.size w w4) := HKW.out.trans ((hb.trans (hb4.mono hb.size)).mono HKW.out.size)
        have hXw : Hid (w.heap.size ≤ X) := by show w.heap.size ≤ X; rw [HXW.out]; exact Nat.le_refl _
        clear HBX4 hb4 c0 c1 c2 cl hb
        unfold cellV
        simp only
        go_wp2
        refine bodyPost_ret (v := .agg #[.bool cb, .string ct, .int .i64 cn]) (by simp [results, Tryz.results92, go_sem, x0, x1, x2]) rfl ⟨by rw [HKN.out]; rfl, ?_⟩
        exact ((K4.out.setCell (p := ⟨X, 0, none⟩) hXw.out _).setCell (p := ⟨X, 1, none⟩) hXw.out _).setCell (p := ⟨X, 2, none⟩) hXw.out _
end Go.Proofs.YtlmgojlffgkciaaGreat
