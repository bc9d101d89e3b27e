/-
  The program's clonePost and BookPost, by walks of their Go text.
-/
import Derived.Test.YtfblpbihpmhgjaaDoorBp20
import Derived.Test.YtfblpbihpmhgjaaDoorBp34
import Derived.Test.YtfblpbihpmhgjaaDoorBp42
namespace Go.Proofs.YtfblpbihpmhgjaaDoor
open Go.RowKit

set_option maxRecDepth 100000 in
theorem cloneLegs (b off n c : Nat) (L : List LegD) (w : World) (hL : LegsAt w (some ⟨b, off, none⟩) n c L) (hn : n ≤ 1048576) :
    Calls Tryd.prog 119 #[.slice (some ⟨b, off, none⟩) n c] w fun e w' => ∃ g c', e = .returned (.slice (some ⟨g, 0, none⟩) n c') ∧ w'.ownsRow w.heap.size 69 3 (.slice (some ⟨g, 0, none⟩) n c') n (flat L) ∧ Below w.heap.size w w' := by
  obtain ⟨i0, hi, hz0, hz1, hz2⟩ := info_parts Tryd.infoLeg
  have h := AnyE.slices_Clone Tryd.cloneG i0 _ 3 32 hi hz0 hz1 hz2 rfl (by decide) Tryd.sizeOf69 b off n c (flat L) w (by rw [flat_len, hL.length]) (by unfold maxLen; omega) (by omega) (fun j u hu => by have := legs_news hL j u hu; rwa [WideShapes.add_plain] at this) (flat_one _)
  have h' : Calls Tryd.prog 119 #[.slice (some ⟨b, off, none⟩) n c] w fun e w' => ∃ v', e = .returned v' ∧ w'.ownsRow w.heap.size 69 3 v' n (flat L) ∧ v' ≠ .slice none 0 0 ∧ Below w.heap.size w w' := h
  refine h'.mono ?_
  rintro e w' ⟨v', rfl, ho, hne, hb⟩
  obtain ⟨g, c', rfl⟩ := row_form ho hne
  exact ⟨g, c', rfl, ho, hb⟩

theorem flat_put (L : List LegD) (j : Nat) (l : LegD) (h : L[j]? = some l) : (flat L).set (j * 3) (.string l.1) = flat L := by
  have h0 := (flat_has L j l h).1
  apply List.ext_getElem?
  intro i
  by_cases e : j * 3 = i
  · subst e
    rw [List.getElem?_set_self (List.getElem?_eq_some_iff.1 h0).1, h0]
  · rw [List.getElem?_set_ne e]

set_option maxRecDepth 100000 in
set_option maxHeartbeats 2000000 in
theorem implClonePost (id : Int) (b off m cm : Nat) (L : List LegD) (w : World) (hL : LegsAt w (some ⟨b, off, none⟩) m cm L) (hm : m ≤ 4) (hs : ∀ l ∈ L, l.1.size ≤ 281474976710656) :
    Calls Tryd.prog 87 #[.agg #[.int .i64 id, .slice (some ⟨b, off, none⟩) m cm]] w fun e w' => ∃ b' cap', e = .returned (.agg #[.int .i64 id, .slice (some ⟨b', 0, none⟩) m cap']) ∧ w'.ownsRow w.heap.size 69 3 (.slice (some ⟨b', 0, none⟩) m cap') m (flat L) ∧ Below w.heap.size w w' := by
  have HML : Hid (L.length = m) := hL.length
  have HL : Hid (LegsAt w (some ⟨b, off, none⟩) m cm L) := hL
  have HS : Hid (∀ l ∈ L, l.1.size ≤ 281474976710656) := hs
  clear hL hs
  obtain ⟨X, hX⟩ : ∃ X, X = w.heap.size := ⟨_, rfl⟩
  have HX : Hid (X = w.heap.size) := hX
  obtain ⟨W, hW⟩ : ∃ W, W = (w.alloc (.cells #[.int .i64 id, .slice (some ⟨b, off, none⟩) m cm] 29)).alloc (.cells #[.int .i64 0, .slice none 0 0] 29) := ⟨_, rfl⟩
  have kW : Below w.heap.size w W := by rw [hW]; exact ((Below.refl _ _).alloc (Nat.le_refl _) _).alloc (by simp) _
  have x0 : W.cell? ⟨X, 0, none⟩ = some (.int .i64 id) := by rw [hW, hX]; simp [go_sem]
  have x1 : W.cell? ⟨X, 1, none⟩ = some (.slice (some ⟨b, off, none⟩) m cm) := by rw [hW, hX]; simp [go_sem]
  have y0 : W.cell? ⟨X + 1, 0, none⟩ = some (.int .i64 0) := by rw [hW, hX]; simp [go_sem]
  have y1 : W.cell? ⟨X + 1, 1, none⟩ = some (.slice none 0 0) := by rw [hW, hX]; simp [go_sem]
  have yf : ∀ o, W.frozen? ⟨X + 1, o, none⟩ = false := by intro o; rw [hW, hX]; simp [go_sem]
  have hXW : X + 1 < W.heap.size := World.block_lt_of_cell? _ _ y0
  go_enter Tryd.func87, Tryd.ntmps87
  go_upto_region 1 with fail
  rw [← hW]
  simp only [← hX]
  clear hW hX
  have HKW : Hid (Below w.heap.size w W) := kW
  have HYF : Hid (∀ o, W.frozen? ⟨X + 1, o, none⟩ = false) := yf
  have HLW := HL.out.keep kW
  clear kW yf
  go_wp2_with fail
  refine (cloneLegs b off m cm L _ HLW (by omega)).mono ?_
  rintro e w1 ⟨g, c, rfl, ho1, hb1⟩
  have HO1 : Hid (w1.ownsRow W.heap.size 69 3 (.slice (some ⟨g, 0, none⟩) m c) m (flat L)) := ho1
  have HB1 : Hid (Below W.heap.size W w1) := hb1
  clear ho1 hb1 HLW
  go_wp2
  go_loopw [10] (fun iv wr => ∃ k : Nat, k ≤ m ∧ iv = .int .i64 k ∧ wr.ownsRow W.heap.size 69 3 (.slice (some ⟨g, 0, none⟩) m c) m (flat L) ∧ Below W.heap.size W wr) (fun iv _ => m - (intOf iv).toNat)
  case atStart => exact ⟨0, Nat.zero_le _, rfl, HO1.out, HB1.out⟩
  case round =>
    obtain ⟨k, hk, rfl, ho, hb⟩ := hrel
    have HO : Hid (wr.ownsRow W.heap.size 69 3 (.slice (some ⟨g, 0, none⟩) m c) m (flat L)) := ho
    have HB : Hid (Below W.heap.size W wr) := hb
    by_cases hlt : k < m
    · have hltI : (k : Int) < (m : Int) := by omega
      obtain ⟨l, hl⟩ : ∃ l, L[k]? = some l := ⟨_, List.getElem?_eq_getElem (by have := HML.out; omega)⟩
      have c0 : wr.cell? ⟨g, k * 3, none⟩ = some (.string l.1) := (ho.cellAt _ (by omega)).trans (flat_has L k l hl).1
      have hgl := (ho.lt g rfl).2
      have hsz := HS.out l (List.mem_of_getElem? hl)
      have HLK : Hid (L[k]? = some l) := hl
      obtain ⟨t, ht⟩ : ∃ t, t = l.1 := ⟨_, rfl⟩
      have HT : Hid (t = l.1) := ht
      rw [← ht] at c0 hsz
      clear hl ht ho hb
      go_wp2_with fail
      refine (strClone t _ hsz).mono ?_
      rintro e w2 ⟨rfl, hb2⟩
      have ho2 := rowKb HO.out hb2
      have d0 : w2.cell? ⟨g, k * 3, none⟩ = some (.string t) := cell_later hb2 c0
      have f0 : w2.frozen? ⟨g, k * 3, none⟩ = false := ho2.frozenAt _
      have hgl2 := (ho2.lt g rfl).2
      have HO2 : Hid (w2.ownsRow W.heap.size 69 3 (.slice (some ⟨g, 0, none⟩) m c) m (flat L)) := ho2
      have HB2 : Hid (Below W.heap.size W w2) := HB.out.trans (hb2.mono HB.out.size)
      clear ho2 hb2 c0
      go_wp2
      go_roundw
      case rel =>
        refine ⟨k + 1, by omega, by go_num, ?_, HB2.out.setCell (p := ⟨g, k * 3, none⟩) ((HO2.out.lt g rfl).1) _⟩
        have h1 := (HO2.out.stored (k * 3) (.string t)).1
        rw [HT.out, flat_put L k l HLK.out] at h1
        rw [HT.out]
        exact h1
      case measure => simp [intOf]; omega
    · have hltI : ¬ (k : Int) < (m : Int) := by omega
      have z0 := cell_later hb x0
      have z1 := cell_later hb x1
      have v0 := cell_later hb y0
      have v1 := cell_later hb y1
      have vf : ∀ o, wr.frozen? ⟨X + 1, o, none⟩ = false := fun o => (hb.frozen (p := ⟨X + 1, o, none⟩) hXW).trans (HYF.out o)
      have vf0 := vf 0
      have vf1 := vf 1
      have hXr : X < wr.heap.size := World.block_lt_of_cell? _ _ z0
      have hXr1 : X + 1 < wr.heap.size := World.block_lt_of_cell? _ _ v0
      have hgx : W.heap.size ≤ g := (ho.lt g rfl).1
      have hxw : w.heap.size ≤ X + 1 := by have := HX.out; omega
      clear ho hb x0 x1 y0 y1 vf
      go_wp2
      refine bodyPost_ret (v := .agg #[.int .i64 id, .slice (some ⟨g, 0, none⟩) m c]) (by simp [results, Tryd.results87, go_sem, v0, v1]) rfl ⟨g, c, rfl, ?_, ?_⟩
      · have hne : (Value.slice (some ⟨g, 0, none⟩) m c).ownBlock ≠ some (X + 1) := fun e => by have h9 := Option.some.inj e; simp only at h9; omega
        exact row_mono ((HO.out.kept (gSet _ (X + 1) 0 _) (.inr hne)).kept (gSet _ (X + 1) 1 _) (.inr hne)) HKW.out.size
      · exact ((HKW.out.trans (HB.out.mono HKW.out.size)).setCell (p := ⟨X + 1, 0, none⟩) hxw _).setCell (p := ⟨X + 1, 1, none⟩) hxw _

theorem leg_txt {l : LegD} (h : legB l = true) : l.1.size ≤ 281474976710656 := by
  have h1 : acctB l.1 = true := by
    cases ha : acctB l.1 with
    | true => rfl
    | false => have := legB_acct (s := l.1) (c := l.2.1) (n := l.2.2) ha; rw [show (l.1, l.2.1, l.2.2) = l from rfl, h] at this; cases this
  rcases Nat.lt_or_ge 4 l.1.size with h2 | h2
  · rw [acctB_big _ h2] at h1; cases h1
  · omega

set_option maxRecDepth 100000 in
set_option maxHeartbeats 4000000 in
theorem implBookPost (a : Option Addr) (n c : Nat) (B : List PostD) (id : Int) (s : Option Addr) (m cm : Nat) (L : List LegD) (w : World) (hP : PostsAt w a n c B) (hL : LegsAt w s m cm L) (hg : HasEt w) :
    Calls Tryd.prog 41 #[.slice a n c, .agg #[.int .i64 id, .slice s m cm]] w fun e w' => PostR w.heap.size B (id, L) e w' ∧ Below w.heap.size w w' := by
  obtain ⟨i0, hi, hz0, hz1, hz2⟩ := info_parts Tryd.infoPost
  have HLEN : Hid (B.length = n) := hP.length
  have HML : Hid (L.length = m) := hL.length
  have HP : Hid (PostsAt w a n c B) := hP
  have HL : Hid (LegsAt w s m cm L) := hL
  have HET : Hid (HasEt w) := hg
  have kB : Below w.heap.size w (w.alloc (.cells #[.int .i64 id, .slice s m cm] 29)) := (Below.refl _ _).alloc (Nat.le_refl _) _
  clear hP hL hg
  obtain ⟨X, hX⟩ : ∃ X, X = w.heap.size := ⟨_, rfl⟩
  have HX : Hid (X = w.heap.size) := hX
  obtain ⟨W0, hW⟩ : ∃ W0, W0 = w.alloc (.cells #[.int .i64 id, .slice s m cm] 29) := ⟨_, rfl⟩
  have x0 : W0.cell? ⟨X, 0, none⟩ = some (.int .i64 id) := by rw [hW, hX]; simp
  have x1 : W0.cell? ⟨X, 1, none⟩ = some (.slice s m cm) := by rw [hW, hX]; simp
  rw [← hW] at kB
  go_enter Tryd.func41, Tryd.ntmps41
  go_upto_region 1 with fail
  rw [← hW]
  simp only [← hX]
  clear hW hX
  go_wp2_with fail
  refine (implTally a n c B _ (HP.out.keep kB)).mono ?_
  intro e w1 hR
  rcases hR with ⟨hbk, T, mi, mb, va, rfl, hT, hmi, hmb, hb1⟩ | ⟨hbk, c0, hc0, rfl, hb1⟩
  · obtain ⟨av, cv, rfl⟩ := row_slice hT.row
    obtain ⟨h40, hgd⟩ := book_small hbk
    have HNB : Hid (B.length ≤ 40) := h40
    rw [HLEN.out] at h40
    have HGD : Hid (∀ p ∈ B, postB p.1 p.2 = true) := hgd
    have HBK : Hid (bookB B = true) := hbk
    have k1 : Below w.heap.size w w1 := kB.trans (hb1.mono kB.size)
    have x10 := cell_later hb1 x0
    have x11 := cell_later hb1 x1
    obtain ⟨AL, hAL⟩ : ∃ AL, AL = (accB B).length := ⟨_, rfl⟩
    rw [← hAL]
    clear hAL
    obtain ⟨Z, hZ⟩ : ∃ Z, Z = w1.heap.size := ⟨_, rfl⟩
    obtain ⟨W, hW⟩ : ∃ W, W = w1.alloc (.cells #[.map (some mi), .map (some mb), .slice av AL cv] 117) := ⟨_, rfl⟩
    have kW1 : Below w1.heap.size w1 W := by rw [hW]; exact (Below.refl _ _).alloc (Nat.le_refl _) _
    have HTL : Hid (TalAt W Z mi mb B B []) := by
      have h1 := hT.tal.below kW1
      exact ⟨by rw [hW, hZ]; simp, by rw [hW, hZ]; simp, h1.ids, h1.bals⟩
    have kW : Below w.heap.size w W := k1.trans (kW1.mono k1.size)
    have x20 := cell_later kW1 x10
    have x21 := cell_later kW1 x11
    have hXW : X < W.heap.size := World.block_lt_of_cell? _ _ x20
    go_upto_region 2 with fail
    rw [← hW]
    simp only [← hZ]
    have HKW : Hid (Below w.heap.size w W) := kW
    have HZ : Hid (Z < W.heap.size) := World.block_lt_of_cell? _ _ HTL.out.c0
    clear hW hZ kW1 x10 x11 hT hb1 k1 kW x0 x1 kB hbk hgd hmi hmb
    go_wp2_with (at_make; refine wpList_make_own _ rfl _ _ 57 rfl W.heap.size 29 i0 _ 2 Tryd.underlying57 hi hz0 hz1 .i64 .i64 _ (n + 1) rfl rfl (by simp) (by rw [hz2]; omega) (by unfold maxLen; omega) (Nat.le_refl _) ?_; intro w3 hown hgrow)
    have HB3 : Hid (Below W.heap.size W w3) := (Below.refl _ _).grown hgrow (Nat.le_refl _) (by simp)
    have HZ3 : Hid (PostsZ w3 W.heap.size (.slice (some ⟨W.heap.size, 0, none⟩) 0 (n + 1)) [] []) := ⟨hown, rfl, fun i g p h => by simp at h, fun i j g g' h => by simp at h⟩
    clear hown hgrow
    go_wp2
    go_loopw [8, 25] (fun ov iv wr => ∃ (k g d : Nat) (G : List (Nat × Nat)), k ≤ n ∧ iv = .int .i64 k ∧ ov = .slice (some ⟨g, 0, none⟩) k d ∧ PostsZ wr W.heap.size (.slice (some ⟨g, 0, none⟩) k d) G (B.take k) ∧ Below W.heap.size W wr) (fun _ iv _ => n - (intOf iv).toNat)
    case atStart => exact ⟨0, _, _, [], Nat.zero_le _, rfl, rfl, HZ3.out, HB3.out⟩
    case round =>
      obtain ⟨k, g, d, G, hk, rfl, rfl, hz, hb⟩ := hrel
      have HZ' : Hid (PostsZ wr W.heap.size (.slice (some ⟨g, 0, none⟩) k d) G (B.take k)) := hz
      have HB : Hid (Below W.heap.size W wr) := hb
      have HTK : Hid ((B.take k).length = k) := by show (B.take k).length = k; rw [List.length_take, HLEN.out]; omega
      clear hz
      by_cases hlt : k < n
      · have hltI : (k : Int) < (n : Int) := by omega
        have hbw := HKW.out.trans (hb.mono HKW.out.size)
        obtain ⟨b, off, rfl, hbb⟩ := HP.out.form (by omega)
        obtain ⟨id', L', s', m', cm', hgk, hwf, g0, g1, hL'⟩ := HP.out.post hbw k hlt
        have HGK : Hid (B[k]? = some (id', L')) := hgk
        have hpb := HGD.out _ (List.mem_of_getElem? hgk)
        have hm1 : 1 ≤ m' := by have h1 := postB_one hpb; have h2 := hL'.length; simp only at h1 h2; omega
        have hm4 : m' ≤ 4 := by have h1 := postB_len hpb; have h2 := hL'.length; simp only at h1 h2; omega
        obtain ⟨lb, lo, rfl, hlb⟩ := hL'.form hm1
        have hbr : b < wr.heap.size := Nat.lt_of_lt_of_le hbb hbw.size
        have HML' : Hid (L'.length = m') := hL'.length
        have CC : Hid (∀ w', Below wr.heap.size wr w' → Calls Tryd.prog 87 #[.agg #[.int .i64 id', .slice (some ⟨lb, lo, none⟩) m' cm']] w' fun e w'' => ∃ b' cap', e = .returned (.agg #[.int .i64 id', .slice (some ⟨b', 0, none⟩) m' cap']) ∧ w''.ownsRow w'.heap.size 69 3 (.slice (some ⟨b', 0, none⟩) m' cap') m' (flat L') ∧ Below w'.heap.size w' w'') := fun w' kk => implClonePost id' lb lo m' cm' L' w' (hL'.keep kk) hm4 (fun l hl => leg_txt (postB_legs hpb l hl))
        clear hgk hL' hb hbw
        go_wp2_with fail
        refine (CC.out _ ((Below.refl _ _).alloc (Nat.le_refl _) _)).mono ?_
        rintro e w1 ⟨q, cq, rfl, hO1, hb1⟩
        have kr : Below wr.heap.size wr w1 := ((Below.refl _ _).alloc (Nat.le_refl _) _).trans (hb1.mono (by simp))
        have HO1 : Hid (w1.ownsRow wr.heap.size 69 3 (.slice (some ⟨q, 0, none⟩) m' cq) m' (flat L')) := row_mono hO1 (by simp)
        have HZ1 : Hid (PostsZ w1 W.heap.size (.slice (some ⟨g, 0, none⟩) k d) G (B.take k)) := HZ'.out.below kr
        have HB1 : Hid (Below W.heap.size W w1) := HB.out.trans (kr.mono HB.out.size)
        have HNEW : Hid (∀ x ∈ G, x.1 ≠ q) := fun x hx => by have h1 := HZ'.out.old x hx; have h2 := (HO1.out.lt q rfl).1; omega
        clear hO1 hb1 kr
        have ka : Below w1.heap.size w1 (w1.alloc (.cells #[.int .i64 id', .slice (some ⟨q, 0, none⟩) m' cq] 29)) := (Below.refl _ _).alloc (Nat.le_refl _) _
        have HZA : Hid (PostsZ (w1.alloc (.cells #[.int .i64 id', .slice (some ⟨q, 0, none⟩) m' cq] 29)) W.heap.size (.slice (some ⟨g, 0, none⟩) k d) G (B.take k)) := HZ1.out.below ka
        have HRA : Hid ((w1.alloc (.cells #[.int .i64 id', .slice (some ⟨q, 0, none⟩) m' cq] 29)).ownsRow W.heap.size 29 2 (.slice (some ⟨g, 0, none⟩) k d) k (rowsB G (B.take k))) := by have h1 := HZA.out.row; rw [HTK.out] at h1; exact h1
        have HOA : Hid ((w1.alloc (.cells #[.int .i64 id', .slice (some ⟨q, 0, none⟩) m' cq] 29)).ownsRow W.heap.size 69 3 (.slice (some ⟨q, 0, none⟩) m' cq) m' (flat L')) := row_mono (rowKb HO1.out ka) HB.out.size
        have HBA : Hid (Below W.heap.size W (w1.alloc (.cells #[.int .i64 id', .slice (some ⟨q, 0, none⟩) m' cq] 29))) := HB1.out.trans (ka.mono HB1.out.size)
        clear ka
        go_wp2_with (at_builtin; refine wpList_append_own _ rfl _ _ 57 rfl W.heap.size 29 i0 _ 2 32 Tryd.underlying57 hi hz0 hz1 hz2 rfl (by decide) _ _ _ rfl HRA.out ⟨w1.heap.size, 0, none⟩ 1 1 [Value.int .i64 id', Value.slice (some ⟨q, 0, none⟩) m' cq] rfl rfl (cellTwo _ _ _ _) (by simp [Value.oneCell']) (by unfold maxLen; omega) (by omega) HBA.out.size ?_; intro v2 w4 hown2 hgrow2 hnil2; obtain ⟨g2, c2, rfl⟩ := row_form hown2 (fun e => by cases (hnil2.1 e).2))
        go_roundw
        case rel =>
          have hap : ∀ x, (Value.slice (some ⟨g, 0, none⟩) k d).ownBlock = some x → W.heap.size ≤ x := fun x e => (HRA.out.lt x e).1
          refine ⟨k + 1, g2, c2, G ++ [(q, cq)], by omega, by go_num, rfl, ?_, HBA.out.grown hgrow2 HBA.out.size (fun x e => hap x e)⟩
          rw [takeB_snoc HGK.out]
          have hm' := HML'.out
          refine HZA.out.push (id := id') (L := L') (g := q) (c := cq) ?_ HNEW.out ?_ hgrow2
          · rw [hm']; exact HOA.out
          · rw [hm', HTK.out]; exact hown2
        case measure => simp [intOf]; omega
      · have hltI : ¬ (k : Int) < (n : Int) := by omega
        have hkn : k = n := by omega
        subst hkn
        have HZN : Hid (PostsZ wr W.heap.size (.slice (some ⟨g, 0, none⟩) k d) G B) := by have h1 := HZ'.out; rw [List.take_of_length_le (by have := HLEN.out; omega)] at h1; exact h1
        have z0 := cell_later hb x20
        have z1 := cell_later hb x21
        have hXr : X < wr.heap.size := World.block_lt_of_cell? _ _ z0
        have HTR : Hid (TalAt wr Z mi mb B B []) := HTL.out.below hb
        have HKR : Hid (Below w.heap.size w wr) := HKW.out.trans (hb.mono HKW.out.size)
        obtain ⟨C, hC⟩ : ∃ C, C = codeP B (id, L) := ⟨_, rfl⟩
        have HC : Hid (codeP B (id, L) = C) := hC.symm
        clear hC hb x20 x21 hXW
        go_wp2_with fail
        refine (implMay Z mi mb B id s m cm L _ HTR.out (HL.out.keep HKR.out) HNB.out).mono ?_
        rw [HC.out]
        rintro e w5 ⟨rfl, hb5⟩
        have y0 := cell_later hb5 z0
        have y1 := cell_later hb5 z1
        have hX5 : X < w5.heap.size := World.block_lt_of_cell? _ _ y0
        have HZ5 : Hid (PostsZ w5 W.heap.size (.slice (some ⟨g, 0, none⟩) k d) G B) := HZN.out.below hb5
        have HK5 : Hid (Below w.heap.size w w5) := HKR.out.trans (hb5.mono HKR.out.size)
        have HB5 : Hid (Below W.heap.size W w5) := HB.out.trans (hb5.mono HB.out.size)
        clear hb5 z0 z1 hXr
        by_cases hc : C = 0
        · subst hc
          have hfair := fair_post (p := (id, L)) (code_fair HC.out)
          have hm1 : 1 ≤ m := by have h1 := postB_one hfair; have h2 := HML.out; simp only at h1; omega
          have hm4 : m ≤ 4 := by have h1 := postB_len hfair; have h2 := HML.out; simp only at h1; omega
          obtain ⟨lb, lo, rfl, hlb⟩ := HL.out.form hm1
          have CC : Hid (∀ w', Below w5.heap.size w5 w' → Calls Tryd.prog 87 #[.agg #[.int .i64 id, .slice (some ⟨lb, lo, none⟩) m cm]] w' fun e w'' => ∃ b' cap', e = .returned (.agg #[.int .i64 id, .slice (some ⟨b', 0, none⟩) m cap']) ∧ w''.ownsRow w'.heap.size 69 3 (.slice (some ⟨b', 0, none⟩) m cap') m (flat L) ∧ Below w'.heap.size w' w'') := fun w' kk => implClonePost id lb lo m cm L w' (HL.out.keep (HK5.out.trans (kk.mono HK5.out.size))) hm4 (fun l hl => leg_txt (postB_legs hfair l hl))
          have e0 : endV 0 = .nilIface := rfl
          rw [e0]
          clear hfair
          go_wp2_with fail
          refine (CC.out _ (Below.refl _ _)).mono ?_
          rintro e w6 ⟨q, cq, rfl, hO6, hb6⟩
          have HO6 : Hid (w6.ownsRow w5.heap.size 69 3 (.slice (some ⟨q, 0, none⟩) m cq) m (flat L)) := hO6
          have HZ6 : Hid (PostsZ w6 W.heap.size (.slice (some ⟨g, 0, none⟩) k d) G B) := HZ5.out.below hb6
          have HB6 : Hid (Below W.heap.size W w6) := HB5.out.trans (hb6.mono HB5.out.size)
          have HNEW : Hid (∀ x ∈ G, x.1 ≠ q) := fun x hx => by have h1 := HZ5.out.old x hx; have h2 := (HO6.out.lt q rfl).1; omega
          clear hO6 hb6
          have ka : Below w6.heap.size w6 (w6.alloc (.cells #[.int .i64 id, .slice (some ⟨q, 0, none⟩) m cq] 29)) := (Below.refl _ _).alloc (Nat.le_refl _) _
          have HZA : Hid (PostsZ (w6.alloc (.cells #[.int .i64 id, .slice (some ⟨q, 0, none⟩) m cq] 29)) W.heap.size (.slice (some ⟨g, 0, none⟩) k d) G B) := HZ6.out.below ka
          have HRA : Hid ((w6.alloc (.cells #[.int .i64 id, .slice (some ⟨q, 0, none⟩) m cq] 29)).ownsRow W.heap.size 29 2 (.slice (some ⟨g, 0, none⟩) k d) k (rowsB G B)) := by have h1 := HZA.out.row; rw [HLEN.out] at h1; exact h1
          have HOA : Hid ((w6.alloc (.cells #[.int .i64 id, .slice (some ⟨q, 0, none⟩) m cq] 29)).ownsRow W.heap.size 69 3 (.slice (some ⟨q, 0, none⟩) m cq) m (flat L)) := row_mono (rowKb HO6.out ka) HB5.out.size
          have HBA : Hid (Below W.heap.size W (w6.alloc (.cells #[.int .i64 id, .slice (some ⟨q, 0, none⟩) m cq] 29))) := HB6.out.trans (ka.mono HB6.out.size)
          clear ka
          go_wp2_with (at_builtin; refine wpList_append_own _ rfl _ _ 57 rfl W.heap.size 29 i0 _ 2 32 Tryd.underlying57 hi hz0 hz1 hz2 rfl (by decide) _ _ _ rfl HRA.out ⟨w6.heap.size, 0, none⟩ 1 1 [Value.int .i64 id, Value.slice (some ⟨q, 0, none⟩) m cq] rfl rfl (cellTwo _ _ _ _) (by simp [Value.oneCell']) (by unfold maxLen; omega) (by omega) HBA.out.size ?_; intro v2 w7 hown2 hgrow2 hnil2; obtain ⟨g2, c2, rfl⟩ := row_form hown2 (fun e => by cases (hnil2.1 e).2))
          have HZE : Hid (PostsZ w7 W.heap.size (.slice (some ⟨g2, 0, none⟩) (k + 1) c2) (G ++ [(q, cq)]) (B ++ [(id, L)])) := HZA.out.push (id := id) (L := L) (by rw [HML.out]; exact HOA.out) HNEW.out (by rw [HML.out, HLEN.out]; exact hown2) hgrow2
          have HBE : Hid (Below W.heap.size W w7) := HBA.out.grown hgrow2 HBA.out.size (fun x e => (HRA.out.lt x e).1)
          refine bodyPost_ret (v := .tuple #[.slice (some ⟨g2, 0, none⟩) (k + 1) c2, .int .i64 0]) (by simp [results, Tryd.results41, go_sem]) rfl ?_
          exact ⟨⟨_, _, by rw [postO_yes HBK.out HC.out], by rw [postO_yes HBK.out HC.out]; exact HZE.out.mono HKW.out.size⟩, HKW.out.trans (HBE.out.mono HKW.out.size)⟩
        · have e0 : endV C = .iface 159 (.agg #[.int .i64 C]) := by unfold endV; rw [if_neg hc]
          rw [e0]
          have hC0 : Hid (¬ C = 0) := hc
          clear hc e0
          go_wp2_with fail
          refine (implCodeHit C _ (HET.out.keep HK5.out)).mono ?_
          rintro e w6 ⟨rfl, hb6⟩
          have HZ6 : Hid (PostsZ w6 W.heap.size (.slice (some ⟨g, 0, none⟩) k d) G B) := HZ5.out.below hb6
          have HK6 : Hid (Below w.heap.size w w6) := HK5.out.trans (hb6.mono HK5.out.size)
          clear hb6
          go_wp2
          refine bodyPost_ret (v := .tuple #[.slice (some ⟨g, 0, none⟩) k d, .int .i64 C]) (by simp [results, Tryd.results41, go_sem]) rfl ?_
          exact ⟨⟨_, _, by rw [postO_code HBK.out (by rw [HC.out]; exact hC0.out), HC.out], by rw [postO_code HBK.out (by rw [HC.out]; exact hC0.out)]; exact HZ6.out.mono HKW.out.size⟩, HK6.out⟩
  · have k1 : Below w.heap.size w w1 := kB.trans (hb1.mono kB.size)
    have K2 : Hid (Below w.heap.size w (w1.alloc (.cells #[.map none, .map none, .slice none 0 0] 117))) := k1.alloc k1.size _
    clear hb1 k1 x0 x1 kB
    go_wp2
    refine bodyPost_ret (v := .tuple #[.slice none 0 0, .int .i64 1]) (by simp [results, Tryd.results41, go_sem]) rfl ?_
    exact ⟨⟨_, [], by rw [postO_no _ hbk], by rw [postO_no _ hbk]; exact PostsZ.nilZ _ _⟩, K2.out⟩
end Go.Proofs.YtfblpbihpmhgjaaDoor
