/-
  What the document's CellAll answers, by a walk of its Go text.
-/
import Derived.Test.YtlmgojlffgkciaaGreatCe44
import Derived.Test.YtlmgojlffgkciaaGreatCe45
import Derived.Test.YtlmgojlffgkciaaGreatCe34
namespace Go.Proofs.YtlmgojlffgkciaaGreat
open Go.RowKit
set_option maxRecDepth 100000
set_option maxHeartbeats 8000000
attribute [local go_sem] Oper.semAt_some
structure RndS (w wi : World) (C : Nat) (v0 v1 v2 : Value) (g m c : Nat) (D : List EntD) : Prop where
  low : Below w.heap.size w wi
  bc : Box3 wi C v0 v1 v2
  row : OwnE wi w.heap.size g m c D
theorem RndS.below {w wi wj : World} {C : Nat} {v0 v1 v2 : Value} {g m c : Nat} {D : List EntD} (h : RndS w wi C v0 v1 v2 g m c D) (hb : Below wi.heap.size wi wj) : RndS w wj C v0 v1 v2 g m c D :=
  ⟨h.low.trans (hb.mono h.low.size), h.bc.below hb, h.row.below hb⟩
theorem RndS.set {w wi : World} {C : Nat} {v0 v1 v2 : Value} {g m c : Nat} {D : List EntD} (h : RndS w wi C v0 v1 v2 g m c D) (hC : w.heap.size ≤ C) (hE : C ≠ g) (u0 u1 u2 : Value) :
    RndS w (((wi.setCell ⟨C, 0, none⟩ u0).setCell ⟨C, 1, none⟩ u1).setCell ⟨C, 2, none⟩ u2) C u0 u1 u2 g m c D :=
  ⟨((h.low.setCell (p := ⟨C, 0, none⟩) hC _).setCell (p := ⟨C, 1, none⟩) hC _).setCell (p := ⟨C, 2, none⟩) hC _, h.bc.setAll _ _ _, ((h.row.setCell (p := ⟨C, 0, none⟩) hE _).setCell (p := ⟨C, 1, none⟩) hE _).setCell (p := ⟨C, 2, none⟩) hE _⟩
structure RndX (w wi : World) (C X : Nat) (v0 v1 v2 : Value) (g m c : Nat) (D : List EntD) : Prop where
  st : RndS w wi C v0 v1 v2 g m c D
  bx : Box3 wi X (.bool false) (.string ⟨#[]⟩) (.int .i64 0)
theorem RndX.below {w wi wj : World} {C X : Nat} {v0 v1 v2 : Value} {g m c : Nat} {D : List EntD} (h : RndX w wi C X v0 v1 v2 g m c D) (hb : Below wi.heap.size wi wj) : RndX w wj C X v0 v1 v2 g m c D := ⟨h.st.below hb, h.bx.below hb⟩
theorem RndX.bc {w wi : World} {C X : Nat} {v0 v1 v2 : Value} {g m c : Nat} {D : List EntD} (h : RndX w wi C X v0 v1 v2 g m c D) : Box3 wi C v0 v1 v2 := h.st.bc
theorem RndX.row {w wi : World} {C X : Nat} {v0 v1 v2 : Value} {g m c : Nat} {D : List EntD} (h : RndX w wi C X v0 v1 v2 g m c D) : OwnE wi w.heap.size g m c D := h.st.row
theorem RndX.set {w wi : World} {C X : Nat} {v0 v1 v2 : Value} {g m c : Nat} {D : List EntD} (h : RndX w wi C X v0 v1 v2 g m c D) (hC : w.heap.size ≤ C) (hE : C ≠ g) (hX : X ≠ C) (u0 u1 u2 : Value) :
    RndX w (((wi.setCell ⟨C, 0, none⟩ u0).setCell ⟨C, 1, none⟩ u1).setCell ⟨C, 2, none⟩ u2) C X u0 u1 u2 g m c D := ⟨h.st.set hC hE u0 u1 u2, ((h.bx.other hX 0 _).other hX 1 _).other hX 2 _⟩
theorem specCellAll (a : Option Addr) (len cap : Nat) (L : List EntD) (key : ByteArray) (seq : Int) (w : World) (hL : EntsAt w a len cap L) (hlen : len ≤ 1048576) :
    Calls Tryz.prog 87 #[.slice a len cap, .string key, .int .i64 seq] w fun e w' => e = .returned (cellV (cellL L key seq)) ∧ Below w.heap.size w w' := by
  obtain ⟨D, hD⟩ : ∃ D, D = cutC (findL L key seq) := ⟨_, rfl⟩
  obtain ⟨RC, hRC⟩ : ∃ RC, RC = cellL L key seq := ⟨_, rfl⟩
  have HRC : Hid (RC = foldC D) := by rw [hRC, hD]; rfl
  have CC : Hid (∀ w', Below w.heap.size w w' → Calls Tryz.prog 124 #[.slice a len cap, .string key, .int .i64 seq] w' fun e w'' => ∃ g n c, e = .returned (.slice (some ⟨g, 0, none⟩) n c) ∧ OwnE w'' w'.heap.size g n c D ∧ Below w'.heap.size w' w'') := by rw [hD]; exact fun w' kb => specCut a len cap L key seq w' (hL.keep kb) hlen
  rw [← hRC]
  clear hRC hD hL
  obtain ⟨X, hX⟩ : ∃ X, X = w.heap.size := ⟨_, rfl⟩
  obtain ⟨W, hW⟩ : ∃ W, W = (w.alloc (.cells #[.bool false, .string ⟨#[]⟩, .int .i64 0] 41)).alloc (.cells #[.bool false, .string ⟨#[]⟩, .int .i64 0] 41) := ⟨_, rfl⟩
  have kA : Below w.heap.size w (w.alloc (.cells #[.bool false, .string ⟨#[]⟩, .int .i64 0] 41)) := (Below.refl _ _).alloc (Nat.le_refl _) _
  have HBX : Hid (Box3 W X (.bool false) (.string ⟨#[]⟩) (.int .i64 0)) := by rw [hW, hX]; exact (Box3.new _ _ _ _ _).alloc _
  have HBC : Hid (Box3 W (X + 1) (.bool false) (.string ⟨#[]⟩) (.int .i64 0)) := by
    have := Box3.new (w.alloc (.cells #[.bool false, .string ⟨#[]⟩, .int .i64 0] 41)) 41 (.bool false) (.string ⟨#[]⟩) (.int .i64 0)
    rw [World.size_alloc] at this
    rw [hW, hX]; exact this
  have HKW : Hid (Below w.heap.size w W) := by rw [hW]; exact kA.alloc kA.size _
  have HXW : Hid (w.heap.size ≤ X) := by show w.heap.size ≤ X; omega
  go_enter Tryz.func87, Tryz.ntmps87
  go_wp2_with fail
  rw [← hW, ← hX]
  clear hW hX kA
  refine (CC.out _ HKW.out).mono ?_
  rintro e w1 ⟨g, m, c, rfl, hO, hb1⟩
  have HST : Hid (RndS w w1 (X + 1) (.bool false) (.string ⟨#[]⟩) (.int .i64 0) g m c D) := ⟨HKW.out.trans (hb1.mono HKW.out.size), HBC.out.below hb1, hO.mono HKW.out.size⟩
  have HX1 : Hid (Box3 w1 X (.bool false) (.string ⟨#[]⟩) (.int .i64 0)) := HBX.out.below hb1
  have HGX : Hid (X + 1 < g) := by have := hO.lt.1; have := HBC.out.lt; show X + 1 < g; omega
  have HLD : Hid (D.length = m) := hO.len
  have hmc := hO.entsAt.room
  have hcb := hO.entsAt.big
  unfold maxLen at hcb
  obtain ⟨C, hC⟩ : ∃ C, C = X + 1 := ⟨_, rfl⟩
  rw [← hC] at HST HGX ⊢
  have HCX : Hid (X ≠ C) := by show X ≠ C; omega
  have HCW : Hid (w.heap.size ≤ C) := by have := HXW.out; show w.heap.size ≤ C; omega
  have HGC : Hid (C ≠ g) := by have := HGX.out; show C ≠ g; omega
  clear hC HBX HBC hO hb1 CC HKW
  go_wp2
  go_loopw [9] (fun iv wr => ∃ (k : Nat) (cc : CellD), k ≤ m ∧ iv = .int .i64 k ∧ cc = foldC (D.take k) ∧ RndS w wr C (.bool cc.1) (.string cc.2.1) (.int .i64 cc.2.2) g m c D ∧ Box3 wr X (.bool false) (.string ⟨#[]⟩) (.int .i64 0)) (fun iv _ => m - (intOf iv).toNat)
  case atStart => exact ⟨0, (false, ⟨#[]⟩, 0), Nat.zero_le _, rfl, rfl, HST.out, HX1.out⟩
  case round =>
    obtain ⟨k, cc, hk, rfl, hcc, hst, hbx⟩ := hrel
    have HCC : Hid (cc = foldC (D.take k)) := hcc
    have HS : Hid (RndS w wr C (.bool cc.1) (.string cc.2.1) (.int .i64 cc.2.2) g m c D) := hst
    have HBX : Hid (Box3 wr X (.bool false) (.string ⟨#[]⟩) (.int .i64 0)) := hbx
    clear hcc hst hbx HST HX1
    by_cases hlt : k < m
    · obtain ⟨⟨s, q, d, t, n⟩, hg⟩ : ∃ x, D[k]? = some x := ⟨_, List.getElem?_eq_getElem (by rw [HLD.out]; exact hlt)⟩
      have HG : Hid (D[k]? = some (s, q, d, t, n)) := hg
      have HMS : Hid (∀ w', OwnE w' w.heap.size g m c D → (w'.cell? ⟨g, k * 5, none⟩ = some (.string s) ∧ w'.cell? ⟨g, k * 5 + 1, none⟩ = some (.int .i64 q) ∧ w'.cell? ⟨g, k * 5 + 2, none⟩ = some (.int .i64 d) ∧ w'.cell? ⟨g, k * 5 + 3, none⟩ = some (.string t) ∧ w'.cell? ⟨g, k * 5 + 4, none⟩ = some (.int .i64 n) ∧ g < w'.heap.size)) := fun w' ho => by
        obtain ⟨s', q', d', t', n', hg', _, e0, e1, e2, e3, e4⟩ := ho.entsAt.ent (Below.refl w'.heap.size w') ho.lt.2 k hlt
        rw [HG.out] at hg'
        cases hg'
        simp only [Nat.zero_add] at e0 e1 e2 e3 e4
        exact ⟨e0, e1, e2, e3, e4, ho.lt.2⟩
      obtain ⟨dc, hdc⟩ : ∃ dc, dc = cellN cc.1 cc.2.1 cc.2.2 d t n := ⟨_, rfl⟩
      have hdo : ∀ w, Calls Tryz.prog 125 #[.agg #[.bool cc.1, .string cc.2.1, .int .i64 cc.2.2], .agg #[.string s, .int .i64 q, .int .i64 d, .string t, .int .i64 n]] w fun e w' => e = .returned (cellV dc) ∧ Below w.heap.size w w' := by rw [hdc]; exact fun w => specCell cc.1 cc.2.1 s t cc.2.2 q d n w
      have HDC : Hid (dc = doC (foldC (D.take k)) (s, q, d, t, n)) := by rw [hdc, ← HCC.out]; rfl
      have k0 : RndX w wr.drew C X (.bool cc.1) (.string cc.2.1) (.int .i64 cc.2.2) g m c D := RndX.below ⟨HS.out, HBX.out⟩ (Below.refl _ _).drew
      clear hg hdc HS HBX HCC
      go_wp2_with fail
      refine wp_region_held_drew (S := (fun w' => w'.cell? ⟨g, k * 5, none⟩ = some (.string s) ∧ w'.cell? ⟨g, k * 5 + 1, none⟩ = some (.int .i64 q) ∧ w'.cell? ⟨g, k * 5 + 2, none⟩ = some (.int .i64 d) ∧ w'.cell? ⟨g, k * 5 + 3, none⟩ = some (.string t) ∧ w'.cell? ⟨g, k * 5 + 4, none⟩ = some (.int .i64 n) ∧ g < w'.heap.size)) (by kernel_rfl) (HMS.out _ k0.row) (fun hHeld => ?_)
      generalize wr.drew = wd at k0 hHeld ⊢
      refine tkL 1 hHeld ?_; try go_frame
      refine tkL 2 hHeld ?_; try go_frame
      refine tkL 3 hHeld ?_; try go_frame
      refine tkL 4 hHeld ?_; try go_frame
      refine wpAnyH_ready (rs := [0]) (by kernel_rfl) (by simp) ?_
      refine consL rfl (fun K hK => ?_) AllReadyH.nil
      have c0 := k0.bc.c0
      have c1 := k0.bc.c1
      have c2 := k0.bc.c2
      have cl := k0.bc.lt
      go_simp
      clear c0 c1 c2 cl
      refine hK.out _ _ (HMS.out _ k0.row) (fun hHeld => ?_)
      clear hK K
      try go_frame
      refine wpAnyH_ready (rs := [5]) (by kernel_rfl) (by simp) ?_
      refine consL rfl (fun K hK => ?_) AllReadyH.nil
      go_simp
      refine (hdo _).mono ?_
      rintro e w1 ⟨rfl, b1⟩
      have k1 := k0.below b1
      unfold cellV
      go_wp2_with fail
      refine hK.out _ _ (HMS.out _ k1.row) (fun hHeld => ?_)
      clear hK K
      try go_frame
      refine wpAnyH_ready (rs := [6]) (by kernel_rfl) (by simp) ?_
      refine consL rfl (fun K hK => ?_) AllReadyH.nil
      have c0 := k1.bc.c0
      have c1 := k1.bc.c1
      have c2 := k1.bc.c2
      have cl := k1.bc.lt
      have f0 := k1.bc.fr 0
      have f1 := k1.bc.fr 1
      have f2 := k1.bc.fr 2
      go_simp
      have k2 := k1.set HCW.out HGC.out HCX.out (.bool dc.1) (.string dc.2.1) (.int .i64 dc.2.2)
      clear c0 c1 c2 cl f0 f1 f2
      refine hK.out _ _ (HMS.out _ k2.row) (fun hHeld => ?_)
      clear hK K
      try go_frame
      refine wpAnyH_done (by kernel_rfl) ?_ _
      have HK : Hid (RndX w _ C X (.bool dc.1) (.string dc.2.1) (.int .i64 dc.2.2) g m c D) := k2
      clear hdo hHeld
      go_wp2
      go_roundw
      case rel => exact ⟨k + 1, dc, by omega, by go_num, HDC.out.trans (foldC_take HG.out).symm, HK.out.st, HK.out.bx⟩
      case measure => simp [intOf]; omega
    · have HKN : Hid (RC = cc) := by show RC = cc; rw [HRC.out, HCC.out, List.take_of_length_le (by rw [HLD.out]; omega)]
      obtain ⟨cb, ct, cn⟩ := cc
      have c0 := HS.out.bc.c0
      have c1 := HS.out.bc.c1
      have c2 := HS.out.bc.c2
      have cl := HS.out.bc.lt
      have x0 := HBX.out.c0
      have x1 := HBX.out.c1
      have x2 := HBX.out.c2
      have xl := HBX.out.lt
      have f0 := HBX.out.fr 0
      have f1 := HBX.out.fr 1
      have f2 := HBX.out.fr 2
      simp only at c0 c1 c2
      go_wp2
      refine bodyPost_ret (v := .agg #[.bool cb, .string ct, .int .i64 cn]) (by simp [results, Tryz.results87, go_sem, x0, x1, x2]) rfl ⟨by rw [HKN.out]; rfl, ?_⟩
      exact ((HS.out.low.setCell (p := ⟨X, 0, none⟩) HXW.out _).setCell (p := ⟨X, 1, none⟩) HXW.out _).setCell (p := ⟨X, 2, none⟩) HXW.out _
end Go.Proofs.YtlmgojlffgkciaaGreat
