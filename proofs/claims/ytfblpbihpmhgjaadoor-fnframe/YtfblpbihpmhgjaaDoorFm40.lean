/-
  The program's FrameRead: what it reads of a log, by a walk of its Go text.
  The walk of the law FnExactFrameRead.
-/
import Derived.Test.YtfblpbihpmhgjaaDoorFm32
import Derived.Test.YtfblpbihpmhgjaaDoorFm34
import Derived.Test.YtfblpbihpmhgjaaDoorFm38
import Derived.Test.YtfblpbihpmhgjaaDoorFm39
namespace Go.Proofs.YtfblpbihpmhgjaaDoor
open Go.RowKit Go.Shelf

theorem rowsV_snoc {gs : List Nat} {P : List (List EntD)} {g : Nat} {L : List EntD} (h : gs.length = P.length) : rowsV (gs ++ [g]) (P ++ [L]) = rowsV gs P ++ [.slice (some ⟨g, 0, none⟩) L.length L.length] := by
  rw [rowsV, List.zip_append h, List.map_append]
  rfl
/-- A list is put behind the others. -/
theorem PartsZ.push {w w' : World} {base g : Nat} {v v' : Value} {gs : List Nat} {P : List (List EntD)} {L : List EntD} (h : PartsZ w base v gs P) (hO : OwnE w base g L.length L.length L) (hnew : ∀ x ∈ gs, x ≠ g)
    (ho : w'.ownsRow base 40 1 v' (P.length + 1) (rowsV gs P ++ [.slice (some ⟨g, 0, none⟩) L.length L.length])) (hg : w.grownBy w' v.ownBlock) : PartsZ w' base v' (gs ++ [g]) (P ++ [L]) := by
  have hgO : v.ownBlock ≠ some g := rows_ne hO.owns h.row (by decide) rfl
  refine ⟨by rw [rowsV_snoc h.len, List.length_append]; exact ho, by simp [h.len], fun i q K h1 h2 => ?_, fun i j q h1 h2 => ?_⟩
  · by_cases hi : i < P.length
    · rw [List.getElem?_append_left (by rw [h.len]; exact hi)] at h1
      rw [List.getElem?_append_left hi] at h2
      exact (h.own i q K h1 h2).grown hg (fun e => h.off h1 h2 e.symm)
    · have hi2 := (List.getElem?_eq_some_iff.1 h2).1
      rw [List.length_append] at hi2
      have hi3 : i = P.length := by simp at hi2; omega
      subst hi3
      rw [List.getElem?_append_right (Nat.le_refl _)] at h2
      rw [← h.len, List.getElem?_append_right (Nat.le_refl _)] at h1
      simp at h1 h2
      subst h1
      subst h2
      exact hO.grown hg (fun e => hgO e.symm)
  · have hlt : ∀ {x : Nat}, (gs ++ [g])[x]? = some q → x < gs.length ∨ x = gs.length := fun {x} hx => by
      have := (List.getElem?_eq_some_iff.1 hx).1
      simp at this
      omega
    rcases hlt h1 with a1 | a1 <;> rcases hlt h2 with a2 | a2
    · rw [List.getElem?_append_left a1] at h1
      rw [List.getElem?_append_left a2] at h2
      exact h.nd i j q h1 h2
    · exfalso
      rw [List.getElem?_append_left a1] at h1
      subst a2
      simp at h2
      subst h2
      exact hnew _ (List.mem_of_getElem? h1) rfl
    · exfalso
      rw [List.getElem?_append_left a2] at h2
      subst a1
      simp at h1
      subst h1
      exact hnew _ (List.mem_of_getElem? h2) rfl
    · omega
theorem PartsZ.old {w : World} {base : Nat} {v : Value} {gs : List Nat} {P : List (List EntD)} (h : PartsZ w base v gs P) : ∀ x ∈ gs, x < w.heap.size := by
  intro x hx
  obtain ⟨i, hi⟩ := List.getElem?_of_mem hx
  obtain ⟨_, L, _, hL⟩ := h.at (i := i) (by rw [← h.len]; exact (List.getElem?_eq_some_iff.1 hi).1)
  exact (h.own i x L hi hL).lt.2
/-- What the program reads of a log. -/
def RdZ (t : ByteArray) (base : Nat) (e : Ending) (w' : World) : Prop := ∃ (P : List (List EntD)) (k : Nat) (v : Value) (gs : List Nat), e = .returned (.tuple #[v, .int .i64 (k : Int)]) ∧ Whole t.data.toList P k ∧ PartsZ w' base v gs P ∧ P.length ≤ 1048576
theorem PartsZ.gro {w w' : World} {base A : Nat} {v : Value} {gs : List Nat} {P : List (List EntD)} (h : PartsZ w base v gs P) (hg : w.grownBy w' (some A)) (hA : A < base) : PartsZ w' base v gs P :=
  ⟨rowKept h.row hg hA, h.len, fun i g L h1 h2 => (h.own i g L h1 h2).grown hg (fun e => by have h3 := (h.own i g L h1 h2).lt.1; have := Option.some.inj e; omega), h.nd⟩

set_option maxHeartbeats 4000000 in
set_option maxRecDepth 100000 in
theorem implRd (t : ByteArray) (w : World) (ht : t.size ≤ 1048576) (hE : ErrB w.heap.size w) (hT : TabB w.heap.size w) :
    Calls Tryd.prog 26 #[.string t] w fun e w' => RdZ t (w.heap.size + 1) e w' ∧ Below w.heap.size w w' ∧ w.heap.size + 1 ≤ w'.heap.size := by
  obtain ⟨i0, hi, hz0, hz1, hz2⟩ := info_parts Tryd.infoEntS
  have HE : Hid (ErrB w.heap.size w) := hE
  have HT : Hid (TabB w.heap.size w) := hT
  have A0 : LrAt (w.alloc (.cells #[.string t, .int .i64 0] 97)) w.heap.size t 0 := LrAt.new w 97 t 0 (Nat.zero_le _)
  have hB0 : Below w.heap.size w (w.alloc (.cells #[.string t, .int .i64 0] 97)) := (Below.refl _ _).alloc (Nat.le_refl _) _
  clear hE hT
  obtain ⟨A, hA⟩ : ∃ A, A = w.heap.size := ⟨_, rfl⟩
  have HA : Hid (A = w.heap.size) := hA
  go_enter Tryd.func26, Tryd.ntmps26
  go_wp2
  try simp only [← hA]
  rw [← hA] at A0
  go_loopw [5] (fun vv wr => ∃ (P : List (List EntD)) (gs : List Nat) (k : Nat), PartsZ wr (A + 1) vv gs P ∧ WholeI t P k ∧ LrAt wr A t k ∧ P.length ≤ k ∧ Below w.heap.size w wr ∧ A + 1 ≤ wr.heap.size) (fun vv _ => t.size + 1 - lenV vv)
  case atStart => exact ⟨[], [], 0, ⟨⟨rfl, Or.inl ⟨rfl, rfl⟩⟩, rfl, fun i g L h => by simp at h, fun i j g h => by simp at h⟩, WholeI.start t, A0, Nat.le_refl _, hB0, by simp [hA]⟩
  case round =>
    clear A0 hB0 hA
    obtain ⟨P, gs, k, hP, hW, hL, hpk, hb, hz⟩ := hrel
    obtain ⟨ax, cx, rfl⟩ := hP.form
    obtain ⟨n, hn⟩ : ∃ n, n = P.length := ⟨_, rfl⟩
    have HNN : Hid (n = P.length) := hn
    rw [← hn] at hP hpk ⊢
    clear hn
    have HP : Hid (PartsZ wr (A + 1) (.slice ax n cx) gs P) := hP
    have HW : Hid (WholeI t P k) := hW
    have HB : Hid (Below w.heap.size w wr) := hb
    have HZ : Hid (A + 1 ≤ wr.heap.size) := hz
    have hkt := hL.le
    have HEW : Hid (ErrB A wr) := fun w' kk => HE.out w' (HB.out.trans (kk.mono (by have := HA.out; omega)))
    have HTW : Hid (TabB A wr) := fun w' kk => HT.out w' (HB.out.trans (kk.mono (by have := HA.out; omega)))
    clear hP hW hb hz
    go_wp2_with fail
    refine (batch_any A A k t _ hL ht (Nat.le_refl _) HEW.out HTW.out).mono ?_
    rintro e w1 ⟨he, hg1⟩
    have HP1 : Hid (PartsZ w1 (A + 1) (.slice ax n cx) gs P) := HP.out.gro hg1 (by omega)
    have HB1 : Hid (Below w.heap.size w w1) := HB.out.grown hg1 HB.out.size (fun x e => by have := HA.out; have := Option.some.inj e; omega)
    have HZ1 : Hid (A + 1 ≤ w1.heap.size) := Nat.le_trans HZ.out hg1.size
    clear hg1 hL HEW HTW
    rcases he with ⟨L, aL, m, c, hF, rfl, hEn, hm, hL1⟩ | ⟨hno, rfl, hL1⟩
    · have HWN : Hid (WholeI t (P ++ [L]) (k + (frameT L).length)) := HW.out.next hF
      have hfp := frameT_pos L
      have HF : Hid (FrAt (t.data.toList.drop k) L) := hF
      have HL1 : Hid (LrAt w1 A t (k + (frameT L).length)) := hL1
      have HML : Hid (L.length = m) := hEn.length
      have HTX : Hid (∀ e ∈ L, e.1.size ≤ 281474976710656 ∧ e.2.2.2.1.size ≤ 281474976710656) := frame_txt hF.1
      have HEN : Hid (EntsAt w1 aL m c L) := hEn
      clear hF hL1 hEn
      go_wp2_with fail
      refine (cloneE_any aL m c L _ HEN.out (by omega) HTX.out).mono ?_
      rintro e w2 ⟨rfl, hO2, hz2', hb2⟩
      have HO2 : Hid (OwnE w2 w1.heap.size w1.heap.size m m L) := hO2
      have HP2 : Hid (PartsZ w2 (A + 1) (.slice ax n cx) gs P) := HP1.out.below hb2
      have HB2 : Hid (Below w.heap.size w w2) := HB1.out.trans (hb2.mono HB1.out.size)
      have HL2 : Hid (LrAt w2 A t (k + (frameT L).length)) := HL1.out.below hb2
      have HZ2 : Hid (A + 1 ≤ w2.heap.size) := Nat.le_trans HZ1.out hb2.size
      obtain ⟨G, hG⟩ : ∃ G, G = w1.heap.size := ⟨_, rfl⟩
      have HG : Hid (G = w1.heap.size) := hG
      have HNEW : Hid (∀ x ∈ gs, x ≠ G) := fun x hx => by have := HP1.out.old x hx; have := HG.out; omega
      rw [← hG]
      clear hO2 hb2 hG hz2'
      have ka : Below w2.heap.size w2 (w2.alloc (.cells #[.slice (some ⟨G, 0, none⟩) m m] 40)) := (Below.refl _ _).alloc (Nat.le_refl _) _
      have KA : Hid (Below w2.heap.size w2 (w2.alloc (.cells #[.slice (some ⟨G, 0, none⟩) m m] 40))) := ka
      have HPA : Hid (PartsZ (w2.alloc (.cells #[.slice (some ⟨G, 0, none⟩) m m] 40)) (A + 1) (.slice ax n cx) gs P) := HP2.out.below ka
      have HRA : Hid ((w2.alloc (.cells #[.slice (some ⟨G, 0, none⟩) m m] 40)).ownsRow (A + 1) 40 1 (.slice ax n cx) n (rowsV gs P)) := by have h1 := HPA.out.row; rw [← HNN.out] at h1; exact h1
      have HBA : Hid (Below w.heap.size w (w2.alloc (.cells #[.slice (some ⟨G, 0, none⟩) m m] 40))) := HB2.out.trans (ka.mono HB2.out.size)
      have HZA : Hid (A + 1 ≤ (w2.alloc (.cells #[.slice (some ⟨G, 0, none⟩) m m] 40)).heap.size) := Nat.le_trans HZ2.out ka.size
      clear ka
      go_wp2_with (at_builtin; refine wpList_append_own _ rfl _ _ 44 rfl (A + 1) 40 i0 _ 1 24 Tryd.underlying44 hi hz0 hz1 hz2 rfl (by decide) _ _ _ rfl HRA.out ⟨w2.heap.size, 0, none⟩ 1 1 [Value.slice (some ⟨G, 0, none⟩) m m] rfl rfl (cellOne _ _ _) (by simp [Value.oneCell']) (by unfold maxLen; omega) (by omega) HZA.out ?_; intro v2 w4 hown2 hgrow2 hnil2; obtain ⟨g2, c2, rfl⟩ := row_form hown2 (fun e => by cases (hnil2.1 e).2))
      go_roundw
      case rel =>
        have hap : ∀ x, (Value.slice ax n cx).ownBlock = some x → A + 1 ≤ x := fun x e => (HRA.out.lt x e).1
        have hm' := HML.out
        have hOA : OwnE (w2.alloc (.cells #[.slice (some ⟨G, 0, none⟩) m m] 40)) (A + 1) G L.length L.length L := by
          rw [hm', HG.out]
          exact (HO2.out.below (by rw [← HG.out]; exact KA.out)).mono HZ1.out
        refine ⟨P ++ [L], gs ++ [G], k + (frameT L).length, HPA.out.push hOA HNEW.out ?_ hgrow2, HWN.out, (HL2.out.below KA.out).gro hgrow2 (fun e => by have := hap _ e; omega), ?_, HBA.out.grown hgrow2 HBA.out.size (fun x e => by have := hap x e; have := HA.out; omega), Nat.le_trans HZA.out hgrow2.size⟩
        · rw [hm', ← HNN.out]
          exact hown2
        · rw [List.length_append, ← HNN.out]
          simp
          omega
      case measure =>
        have := HL2.out.le
        simp [lenV]
        omega
    · have HFIN : Hid (Whole t.data.toList P k) := HW.out.stop hno
      have HPL : Hid (P.length ≤ 1048576) := by have := HNN.out; show _ ≤ _; omega
      clear hno
      have HMK : Hid (∀ w', Below w1.heap.size w1 w' → (w'.cell? ⟨A, 1, none⟩ = some (.int .i64 (k : Int)) ∧ A < w'.heap.size ∧ Below w1.heap.size w1 w')) := fun w' kk => ⟨cell_later kk hL1.c1, Nat.lt_of_lt_of_le hL1.lt kk.size, kk⟩
      have k0 : Below w1.heap.size w1 w1.drew := (Below.refl _ w1).drew
      go_upto_region 5 with fail
      go_region_held3 (fun w' => w'.cell? ⟨A, 1, none⟩ = some (.int .i64 (k : Int)) ∧ A < w'.heap.size ∧ Below w1.heap.size w1 w') (with_reducible exact HMK.out _ k0) (fail)
      all_goals
        go_wp2
        exact bodyPost_ret (v := .tuple #[.slice ax n cx, .int .i64 (k : Int)]) (by simp [results, Tryd.results26, go_sem]) rfl ⟨⟨P, k, _, gs, rfl, HFIN.out, by rw [← HA.out]; exact HP1.out.below k0, HPL.out⟩, HB1.out.drew, by rw [← HA.out]; exact HZ1.out⟩

end Go.Proofs.YtfblpbihpmhgjaaDoor

namespace Go.Proofs.YtfblpbihpmhgjaaDoor
open Go.RowKit Go.Shelf

theorem whole_few {l : List UInt8} {P : List (List EntD)} {k : Nat} (h : Whole l P k) : P.flatten.length ≤ 12 * P.length := by
  induction h with
  | none _ => simp
  | one hd _ ih =>
    obtain ⟨_, h2, _⟩ := done_parts hd
    simp only [List.flatten_cons, List.length_append, List.length_cons]
    omega
/-- What reading a log needs of the world, at it and later. -/
structure FrW (B : Nat) (w : World) : Prop where
  e : ErrB B w
  t : TabB B w
theorem FrW.at {w w' : World} (h : FrW w.heap.size w) (hb : Below w.heap.size w w') : FrW w'.heap.size w' :=
  ⟨fun x hx => h.e x (hb.trans (hx.mono hb.size)), fun x hx => h.t x (hb.trans (hx.mono hb.size))⟩

set_option maxRecDepth 100000 in
set_option maxHeartbeats 4000000 in
theorem walkFnExactFrameRead (t : ByteArray) (w : World) (hs : t.size ≤ maxLen) (hW : FrW w.heap.size w) :
    Calls Tryd.prog 6 #[.string t] w fun e w' => e = .returned (.bool true) ∧ Below w.heap.size w w' := by
  have HW : Hid (FrW w.heap.size w) := hW
  clear hW
  unfold maxLen at hs
  by_cases hbig : (1048576 : Int) < (t.size : Int)
  · go_enter Tryd.func6, Tryd.ntmps6
    go_wp2
    go_ret
    exact ⟨rfl, Below.refl _ _⟩
  · have ht : t.size ≤ 1048576 := by omega
    go_enter Tryd.func6, Tryd.ntmps6
    go_wp2_with fail
    refine (specRd t _ ht).mono ?_
    rintro e w1 ⟨⟨P, k, g, n, c, rfl, hWh, hPA⟩, hb1⟩
    have HWH : Hid (Whole t.data.toList P k) := hWh
    have HPA : Hid (PartsAt w1 (some ⟨g, 0, none⟩) n c P) := hPA
    have HNP : Hid (P.length = n) := hPA.length
    have HB1 : Hid (Below w.heap.size w w1) := hb1
    clear hWh hPA hb1
    go_wp2_with fail
    have F1 := HW.out.at HB1.out
    refine (implRd t _ ht F1.e F1.t).mono ?_
    rintro e w2 ⟨⟨P2, k2, v2, gs, rfl, hWh2, hZ, hPl⟩, hb2, hz2⟩
    obtain ⟨rfl, rfl⟩ := whole_inj HWH.out hWh2
    obtain ⟨a2, c2, rfl⟩ := hZ.form
    have HFW : Hid (P.flatten.length ≤ 12 * P.length ∧ P.length ≤ 1048576) := ⟨whole_few hWh2, hPl⟩
    rw [HNP.out] at hZ ⊢
    have HZ2 : Hid (PartsZ w2 (w1.heap.size + 1) (.slice a2 n c2) gs P) := hZ
    have HB2 : Hid (Below w1.heap.size w1 w2) := hb2
    have HS2 : Hid (w1.heap.size + 1 ≤ w2.heap.size) := hz2
    have HPA2 : Hid (PartsAt w2 (some ⟨g, 0, none⟩) n c P) := HPA.out.keep hb2
    clear hWh2 hZ hPl hb2 hz2 F1
    go_wp2_with fail
    refine (eqEntSS_any a2 _ n c2 c P _ (HZ2.out.partsAt HNP.out.symm) HPA2.out).mono ?_
    rintro e w3 ⟨rfl, hb3⟩
    have HZ3 : Hid (PartsZ w3 (w1.heap.size + 1) (.slice a2 n c2) gs P) := HZ2.out.below hb3
    have HPA3 : Hid (PartsAt w3 (some ⟨g, 0, none⟩) n c P) := HPA2.out.keep hb3
    have HB3 : Hid (Below w1.heap.size w1 w3) := HB2.out.trans (hb3.mono HB2.out.size)
    have HS3 : Hid (w1.heap.size + 1 ≤ w3.heap.size) := Nat.le_trans HS2.out hb3.size
    clear hb3 HZ2 HPA2 HB2 HS2
    obtain ⟨K, hK⟩ : ∃ K : Nat, K = 1 + 5 * P.flatten.length := ⟨_, rfl⟩
    have HK : Hid (K = 1 + 5 * P.flatten.length) := hK
    clear hK
    have CM : Hid (Calls Tryd.prog 28 #[.slice a2 n c2, .int .i64 1] w3 fun e w' => e = .returned (.int .i64 (K : Int)) ∧ PartsZ w' (w1.heap.size + 1) (.slice a2 n c2) gs (mrkP 1 P) ∧ Below (w1.heap.size + 1) w3 w') := by
      have := markZ_any (w1.heap.size + 1) (.slice a2 n c2) gs P 1 w3 HZ3.out (Nat.le_refl _) (by have := HFW.out; omega) HFW.out.2 HS3.out
      rw [← HK.out] at this
      exact this
    go_wp2_with fail
    refine CM.out.mono ?_
    rintro e w4 ⟨rfl, hZ4, hb4⟩
    have HZ4 : Hid (PartsZ w4 (w1.heap.size + 1) (.slice a2 n c2) gs (mrkP 1 P)) := hZ4
    have HB4 : Hid (Below w1.heap.size w1 w4) := HB3.out.trans (hb4.mono (Nat.le_succ _))
    clear hZ4 hb4 HZ3 HPA3 HB3 HS3 CM
    have CH : Hid (∀ w', PartsZ w' (w1.heap.size + 1) (.slice a2 n c2) gs (mrkP 1 P) → Calls Tryd.prog 29 #[.slice a2 n c2, .int .i64 1] w' fun e w'' => e = .returned (.int .i64 (K : Int)) ∧ Below w'.heap.size w' w'') := fun w' hw' => by
      have := heldZ_any (w1.heap.size + 1) (.slice a2 n c2) gs P 1 w' hw' (Nat.le_refl _) (by have := HFW.out; omega) HFW.out.2
      rw [← HK.out] at this
      exact this
    go_wp2_with fail
    refine (CH.out _ HZ4.out).mono ?_
    rintro e w5 ⟨rfl, hb5⟩
    have HZ5 : Hid (PartsZ w5 (w1.heap.size + 1) (.slice a2 n c2) gs (mrkP 1 P)) := HZ4.out.below hb5
    have HB5 : Hid (Below w1.heap.size w1 w5) := HB4.out.trans (hb5.mono HB4.out.size)
    have hK0 : ¬ (K : Int) < 0 := by omega
    have HBW : Hid (Below w.heap.size w w5) := HB1.out.trans (HB5.out.mono HB1.out.size)
    clear hb5 HZ4 HB4
    go_wp2_with fail
    have F5 := HW.out.at HBW.out
    refine (implRd t _ ht F5.e F5.t).mono ?_
    rintro e w6 ⟨⟨P6, k6, v6, gs6, rfl, hWh6, hZ6, hPl6⟩, hb6, hz6⟩
    obtain ⟨rfl, rfl⟩ := whole_inj HWH.out hWh6
    obtain ⟨a6, c6, rfl⟩ := hZ6.form
    rw [HNP.out] at hZ6 ⊢
    have HZ6 : Hid (PartsZ w6 (w5.heap.size + 1) (.slice a6 n c6) gs6 P) := hZ6
    have HZM : Hid (PartsZ w6 (w1.heap.size + 1) (.slice a2 n c2) gs (mrkP 1 P)) := HZ5.out.below hb6
    have HPA6 : Hid (PartsAt w6 (some ⟨g, 0, none⟩) n c P) := HPA.out.keep (HB5.out.trans (hb6.mono HB5.out.size))
    have HB6 : Hid (Below w.heap.size w w6) := HBW.out.trans (hb6.mono HBW.out.size)
    clear hWh6 hZ6 hPl6 hb6 hz6 HZ5 HB5 HBW F5
    go_wp2_with fail
    refine (eqEntSS_any a6 _ n c6 c P _ (HZ6.out.partsAt HNP.out.symm) HPA6.out).mono ?_
    rintro e w7 ⟨rfl, hb7⟩
    have HZ7 : Hid (PartsZ w7 (w1.heap.size + 1) (.slice a2 n c2) gs (mrkP 1 P)) := HZM.out.below hb7
    have HB7 : Hid (Below w.heap.size w w7) := HB6.out.trans (hb7.mono HB6.out.size)
    clear hb7 HZ6 HZM HPA6 HB6
    go_wp2_with fail
    refine (CH.out _ HZ7.out).mono ?_
    rintro e w8 ⟨rfl, hb8⟩
    have HB8 : Hid (Below w.heap.size w w8) := HB7.out.trans (hb8.mono HB7.out.size)
    clear hb8
    go_wp2
    go_ret
    exact ⟨rfl, HB8.out⟩

end Go.Proofs.YtfblpbihpmhgjaaDoor
