/-
  What the program's asTree makes of any tree: the same in memory of its own, every list in a block of its own; by a walk of its Go text.
-/
import Derived.Test.YtlmgojlffgkciaaGreatGa05
import Derived.Test.YtlmgojlffgkciaaGreatGa04
namespace Go.Proofs.YtlmgojlffgkciaaGreat
open Go.RowKit
set_option maxRecDepth 100000
set_option maxHeartbeats 16000000
theorem row_lower {w : World} {base base' T size n : Nat} {v : Value} {xs : List Value} (h : w.ownsRow base T size v n xs) (hb : base' ≤ base) : w.ownsRow base' T size v n xs := by
  refine ⟨h.1, ?_⟩
  rcases h.2 with h2 | ⟨g, cap, cur, hv, hg, r⟩
  · exact Or.inl h2
  · exact Or.inr ⟨g, cap, cur, hv, Nat.le_trans hb hg, r⟩
theorem RunsO.mono {lo hi lo' hi' g n : Nat} {w : World} {B : List RunD} {es : Nat → Nat} (h : RunsO lo hi w g n B es) (h1 : lo' ≤ lo) (h2 : hi ≤ hi') : RunsO lo' hi' w g n B es := by
  obtain ⟨xs, r1, r2⟩ := h.row
  exact ⟨h.len, ⟨xs, row_lower r1 h1, r2⟩, fun i p hp => (h.ents i p hp).mono h1, h.up, ⟨by have := h.top.1; omega, fun i hi' => by have := h.top.2 i hi'; omega⟩, h.wfs⟩
theorem RunsO.runsIn {lo hi g n : Nat} {w : World} {B : List RunD} {es : Nat → Nat} (h : RunsO lo hi w g n B es) : RunsIn lo w (some ⟨g, 0, none⟩) n n B := by
  obtain ⟨xs, r1, r2⟩ := h.row
  have hrc := row_rooms r1
  have hl := h.len
  refine ⟨h.len, hrc.1, hrc.2, (fun e => by cases e), ?_, ?_⟩
  · rintro x e _
    cases e
    exact ⟨(r1.lt g rfl).2, rfl, (r1.lt g rfl).1⟩
  · rintro x e i hi
    cases e
    have hp := List.getElem?_eq_getElem hi
    have hO := h.ents i _ hp
    refine ⟨h.wfs _ (List.getElem_mem hi), _, _, _, ?_, ?_, hO.entsAt, fun x e _ => by cases e; exact hO.lt.1⟩
    · simp only [Nat.zero_add]
      exact (r1.cellAt _ (by omega)).trans (r2 i _ hp).1
    · simp only [Nat.zero_add]
      exact (r1.cellAt _ (by omega)).trans (r2 i _ hp).2
def HasO (Z : Nat) (w : World) (xs : List Value) (V : List (List RunD)) (k : Nat) (gs bs : Nat → Nat) (es : Nat → Nat → Nat) : Prop :=
  bs 0 = Z ∧ bs k ≤ w.heap.size ∧ (∀ i j, i ≤ j → j ≤ k → bs i ≤ bs j) ∧ ∀ j, j < k → ∃ B : List RunD, V[j]? = some B ∧ xs[j]? = some (Value.slice (some ⟨gs j, 0, none⟩) B.length B.length) ∧ RunsO (bs j) (bs (j + 1)) w (gs j) B.length B (es j)
theorem HasO.hasR {Z : Nat} {w : World} {xs : List Value} {V : List (List RunD)} {k : Nat} {gs bs : Nat → Nat} {es : Nat → Nat → Nat} (h : HasO Z w xs V k gs bs es) : HasR Z w xs V k := fun j hj => by
  obtain ⟨B, h1, h2, h3⟩ := h.2.2.2 j hj
  have hu := h.2.2.1 0 j (by omega) (by omega)
  rw [h.1] at hu
  exact ⟨_, _, B, h1, h2, h3.runsIn.mono hu⟩
theorem HasO.keepO {Z lo' hi' : Nat} {w w' : World} {xs : List Value} {V : List (List RunD)} {k : Nat} {gs bs : Nat → Nat} {es : Nat → Nat → Nat} (h : HasO Z w xs V k gs bs es) (kk : KeepO lo' hi' w w') (hd : hi' ≤ Z) : HasO Z w' xs V k gs bs es :=
  ⟨h.1, Nat.le_trans h.2.1 kk.size, h.2.2.1, fun j hj => by
    obtain ⟨B, h1, h2, h3⟩ := h.2.2.2 j hj
    have hu := h.2.2.1 0 j (by omega) (by omega)
    rw [h.1] at hu
    exact ⟨B, h1, h2, h3.keepO kk (Or.inr (by omega))⟩⟩
theorem HasO.below {Z : Nat} {w w' : World} {xs : List Value} {V : List (List RunD)} {k : Nat} {gs bs : Nat → Nat} {es : Nat → Nat → Nat} (h : HasO Z w xs V k gs bs es) (hb : Below w.heap.size w w') : HasO Z w' xs V k gs bs es :=
  ⟨h.1, Nat.le_trans h.2.1 hb.size, h.2.2.1, fun j hj => by
    obtain ⟨B, h1, h2, h3⟩ := h.2.2.2 j hj
    exact ⟨B, h1, h2, h3.below hb⟩⟩
theorem hasO_next {Z lo1 : Nat} {w w1 w2 : World} {xs : List Value} {V : List (List RunD)} {k x n vb : Nat} {B : List RunD} {gs bs : Nat → Nat} {es : Nat → Nat → Nat} {e1 : Nat → Nat} {u : Value} (h : HasO Z w xs V k gs bs es) (hl : xs.length = 3 * 1) (hb : Below w.heap.size w w1) (hw : w2 = w1.setCell ⟨vb, k, none⟩ u) (hu : u = .slice (some ⟨x, 0, none⟩) n n) (hvb : vb < Z) (hR : RunsO lo1 w1.heap.size w1 x n B e1) (hlo : w.heap.size ≤ lo1) (hV : V[k]? = some B) (hk : k < 3 := by omega) :
    ∃ gs' bs' es', HasO Z w2 (xs.set k u) V (k + 1) gs' bs' es' := by
  have hkp : KeepO vb (vb + 1) w1 w2 := by rw [hw]; exact ⟨rfl, rfl, rfl, by simp [World.setCell], fun q _ hq => Below.heap_setCell _ _ _ _ (fun e => by have e' : q = vb := e; omega)⟩
  have hsz := hkp.size
  have hZ := h.1
  have hbk := h.2.1
  have hup := h.2.2.1
  have hs1 := hb.size
  have h0k := hup 0 k (by omega) (by omega)
  have hn : B.length = n := hR.len
  subst hn
  refine ⟨fun i => if i = k then x else gs i, fun i => if i ≤ k then bs i else w1.heap.size, fun i => if i = k then e1 else es i, by simp [hZ], ?_, ?_, ?_⟩
  · simp only [if_neg (show ¬ k + 1 ≤ k by omega)]
    exact hsz
  · intro i j hij hj
    simp only
    by_cases hjk : j ≤ k
    · rw [if_pos hjk, if_pos (by omega)]
      exact hup i j hij hjk
    · rw [if_neg hjk]
      by_cases hik : i ≤ k
      · rw [if_pos hik]
        have := hup i k hik (by omega)
        omega
      · rw [if_neg hik]; exact Nat.le_refl _
  · intro j hj
    by_cases e : j = k
    · subst e
      refine ⟨B, hV, ?_, ?_⟩
      · rw [List.getElem?_set_self (by omega), hu]
        simp
      · simp only [if_true, Nat.le_refl, if_neg (show ¬ j + 1 ≤ j by omega)]
        exact (hR.mono (by omega) (Nat.le_refl _)).keepO hkp (Or.inr (by omega))
    · obtain ⟨C, g1, g2, g3⟩ := h.2.2.2 j (by omega)
      have h0j := hup 0 j (by omega) (by omega)
      refine ⟨C, g1, ?_, ?_⟩
      · simp only [if_neg e]
        rw [List.getElem?_set_ne (by omega)]
        exact g2
      · simp only [if_neg e, if_pos (show j ≤ k by omega), if_pos (show j + 1 ≤ k by omega)]
        exact (g3.below hb).keepO hkp (Or.inr (by omega))
theorem levsO_of {lo Z base : Nat} {w : World} {vb : Nat} {xs : List Value} {V : List (List RunD)} {gs bs : Nat → Nat} {es : Nat → Nat → Nat} (h : w.ownsRow base 64 1 (.slice (some ⟨vb, 0, none⟩) 3 3) 3 xs) (hb : lo ≤ base) (hZ : lo ≤ Z) (hvb : vb < Z) (hV : V.length = 3) (h0 : HasO Z w xs V 3 gs bs es) : LevsO lo w.heap.size w vb 3 V gs bs es := by
  refine ⟨hV, ⟨xs, row_lower h hb, fun i B hB => ?_⟩, fun i B hB => ?_, ?_, h0.2.2.1, h0.2.1⟩
  · have hi := (List.getElem?_eq_some_iff.1 hB).1
    obtain ⟨C, g1, g2, _⟩ := h0.2.2.2 i (by omega)
    rw [hB] at g1
    cases g1
    exact g2
  · have hi := (List.getElem?_eq_some_iff.1 hB).1
    obtain ⟨C, g1, _, g3⟩ := h0.2.2.2 i (by omega)
    rw [hB] at g1
    cases g1
    exact g3
  · rw [h0.1]; exact ⟨hZ, hvb⟩
theorem setCells_row {base T n g : Nat} : ∀ (cs : List Value) (o : Nat) (w : World) (xs : List Value), w.ownsRow base T 1 (.slice (some ⟨g, 0, none⟩) n n) n xs → ∃ ys, (w.setCells g o cs).ownsRow base T 1 (.slice (some ⟨g, 0, none⟩) n n) n ys ∧ (∀ i, i < cs.length → o + i < n → ys[o + i]? = cs[i]?) ∧ ∀ i, i < o → ys[i]? = xs[i]?
  | [], _, _, xs, h => ⟨xs, h, (fun i hi => absurd hi (Nat.not_lt_zero _)), fun _ _ => rfl⟩
  | c :: cs, o, w, xs, h => by
    have h1 := (h.stored o c).1
    obtain ⟨ys, y1, y2, y3⟩ := setCells_row cs (o + 1) _ _ h1
    have hxl := h.1
    refine ⟨ys, y1, fun i hi hn => ?_, fun i hi => ?_⟩
    · cases i with
      | zero => rw [Nat.add_zero, y3 o (by omega), List.getElem?_set_self (by omega)]; rfl
      | succ i =>
        have := y2 i (by simpa using hi) (by omega)
        rw [show o + (i + 1) = o + 1 + i by omega, this]
        rfl
    · rw [y3 i (by omega), List.getElem?_set_ne (by omega)]
theorem intsO_set {base n g : Nat} {w : World} {xs : List Value} {S : List Int} (h : w.ownsRow base 3 1 (.slice (some ⟨g, 0, none⟩) n n) n xs) (hS : S.length = n) : IntsO base (w.setCells g 0 (S.map (.int .i64))) g n S := by
  obtain ⟨ys, y1, y2, _⟩ := setCells_row (S.map (Value.int .i64)) 0 w xs h
  refine ⟨hS, ?_⟩
  have e : ys = S.map (Value.int .i64) := by
    apply List.ext_getElem?
    intro i
    by_cases hi : i < n
    · have := y2 i (by rw [List.length_map]; omega) (by omega)
      rw [Nat.zero_add] at this
      exact this
    · rw [List.getElem?_eq_none (by have := y1.1; omega), List.getElem?_eq_none (by rw [List.length_map]; omega)]
  rw [e] at y1
  exact y1
def AsRO (q : Int) (nm nk : Nat) (M : List EntD) (V : List (List RunD)) (S : List Int) (w : World) (e : Ending) (w' : World) : Prop :=
  ∃ (eb vb sb : Nat) (gs bs : Nat → Nat) (es : Nat → Nat → Nat), e = .returned (.agg #[.int .i64 q, .slice (some ⟨eb, 0, none⟩) nm nm, .slice (some ⟨vb, 0, none⟩) 3 3, .slice (some ⟨sb, 0, none⟩) nk nk]) ∧ TreeIn w.heap.size w' (some ⟨eb, 0, none⟩) nm nm (some ⟨vb, 0, none⟩) 3 3 (some ⟨sb, 0, none⟩) nk nk M V S ∧ TreeO w.heap.size w'.heap.size w' eb nm vb 3 sb nk M V S gs bs es ∧ Below w.heap.size w w'
theorem asTree_o (lo : Nat) (q : Int) (am ak : Option Addr) (nm cm nk ck : Nat) (a0 a1 a2 : Option Addr) (n0 c0 n1 c1 n2 c2 : Nat) (M : List EntD) (A B C : List RunD) (S : List Int) (w : World) (hM : EntsAt w am nm cm M) (hS : IntsIn lo w ak nk ck S) (h0 : RunsIn lo w a0 n0 c0 A) (h1 : RunsIn lo w a1 n1 c1 B) (h2 : RunsIn lo w a2 n2 c2 C)
    (bm : nm ≤ 1048576) (bk : nk ≤ 1048576) (em : SmallE M) (b0 : SmallR A) (b1 : SmallR B) (b2 : SmallR C) (e0 : SmallRE A) (e1 : SmallRE B) (e2 : SmallRE C) :
    Calls Tryz.prog 79 #[.agg #[.int .i64 q, .slice am nm cm, .slice a0 n0 c0, .slice a1 n1 c1, .slice a2 n2 c2, .slice ak nk ck]] w (AsRO q nm nk M [A, B, C] S w) := by
  obtain ⟨X, hX⟩ : ∃ X, X = w.heap.size := ⟨_, rfl⟩
  obtain ⟨W0, hW0⟩ : ∃ W0, W0 = (w.alloc (.cells #[.int .i64 q, .slice am nm cm, .slice a0 n0 c0, .slice a1 n1 c1, .slice a2 n2 c2, .slice ak nk ck] 67)).alloc (.cells #[.int .i64 0, .slice none 0 0, .slice none 0 0, .slice none 0 0] 31) := ⟨_, rfl⟩
  have kW : Below w.heap.size w W0 := by rw [hW0]; exact ((Below.refl _ _).alloc (Nat.le_refl _) _).alloc (by simp) _
  have x0 : W0.cell? ⟨X, 0, none⟩ = some (.int .i64 q) := by rw [hW0, hX]; simp
  have x1 : W0.cell? ⟨X, 1, none⟩ = some (.slice am nm cm) := by rw [hW0, hX]; simp
  have x2 : W0.cell? ⟨X, 2, none⟩ = some (.slice a0 n0 c0) := by rw [hW0, hX]; simp
  have x3 : W0.cell? ⟨X, 3, none⟩ = some (.slice a1 n1 c1) := by rw [hW0, hX]; simp
  have x4 : W0.cell? ⟨X, 4, none⟩ = some (.slice a2 n2 c2) := by rw [hW0, hX]; simp
  have x5 : W0.cell? ⟨X, 5, none⟩ = some (.slice ak nk ck) := by rw [hW0, hX]; simp
  have br : Box4 W0 (X + 1) (.int .i64 0) (.slice none 0 0) (.slice none 0 0) (.slice none 0 0) := by
    have := Box4.new (w.alloc (.cells #[.int .i64 q, .slice am nm cm, .slice a0 n0 c0, .slice a1 n1 c1, .slice a2 n2 c2, .slice ak nk ck] 67)) 31 (.int .i64 0) (.slice none 0 0) (.slice none 0 0) (.slice none 0 0)
    rw [World.size_alloc] at this
    rw [hW0, hX]
    exact this
  have hsz : W0.heap.size = X + 1 + 1 := by rw [hW0, hX]; simp
  have BR : Hid (Box4 W0 (X + 1) (.int .i64 0) (.slice none 0 0) (.slice none 0 0) (.slice none 0 0)) := br
  have HXW : Hid (X = w.heap.size) := hX
  have HSZ : Hid (W0.heap.size = X + 1 + 1) := hsz
  have KW : Hid (Below w.heap.size w W0) := kW
  have HS : Hid (IntsIn lo w ak nk ck S) := hS
  have CE : Hid (∀ w', Below W0.heap.size W0 w' → Calls Tryz.prog 111 #[.slice am nm cm] w' fun e w'' => ∃ b : Nat, e = .returned (.slice (some ⟨b, 0, none⟩) nm nm) ∧ w'.heap.size ≤ b ∧ OwnE w'' W0.heap.size b nm nm M ∧ Below w'.heap.size w' w'') := fun w' k => (cloneE_any am nm cm M w' ((hM.keep kW).keep k) bm em).mono (fun e w'' h => ⟨_, h.1, Nat.le_refl _, h.2.1.mono k.size, h.2.2.2⟩)
  have CR0 : Hid (∀ w', Below W0.heap.size W0 w' → Calls Tryz.prog 121 #[.slice a0 n0 c0] w' fun e w'' => ∃ b : Nat, e = .returned (.slice (some ⟨b, 0, none⟩) n0 n0) ∧ (∃ e1, RunsO w'.heap.size w''.heap.size w'' b n0 A e1) ∧ Below w'.heap.size w' w'') := fun w' k => (cloneR_o lo a0 n0 c0 A w' ((h0.keep kW).keep k) b0 e0).mono (fun e w'' h => ⟨_, h.1, h.2.1, h.2.2.2⟩)
  have CR1 : Hid (∀ w', Below W0.heap.size W0 w' → Calls Tryz.prog 121 #[.slice a1 n1 c1] w' fun e w'' => ∃ b : Nat, e = .returned (.slice (some ⟨b, 0, none⟩) n1 n1) ∧ (∃ e1, RunsO w'.heap.size w''.heap.size w'' b n1 B e1) ∧ Below w'.heap.size w' w'') := fun w' k => (cloneR_o lo a1 n1 c1 B w' ((h1.keep kW).keep k) b1 e1).mono (fun e w'' h => ⟨_, h.1, h.2.1, h.2.2.2⟩)
  have CR2 : Hid (∀ w', Below W0.heap.size W0 w' → Calls Tryz.prog 121 #[.slice a2 n2 c2] w' fun e w'' => ∃ b : Nat, e = .returned (.slice (some ⟨b, 0, none⟩) n2 n2) ∧ (∃ e1, RunsO w'.heap.size w''.heap.size w'' b n2 C e1) ∧ Below w'.heap.size w' w'') := fun w' k => (cloneR_o lo a2 n2 c2 C w' ((h2.keep kW).keep k) b2 e2).mono (fun e w'' h => ⟨_, h.1, h.2.1, h.2.2.2⟩)
  have k0 : Below W0.heap.size W0 W0.drew := (Below.refl _ W0).drew
  have HMK : Hid (∀ w', Below W0.heap.size W0 w' → (w'.cell? ⟨X, 0, none⟩ = some (.int .i64 q) ∧ w'.cell? ⟨X, 1, none⟩ = some (.slice am nm cm) ∧ w'.cell? ⟨X, 5, none⟩ = some (.slice ak nk ck) ∧ X < w'.heap.size)) := fun w' kk => ⟨cell_later kk x0, cell_later kk x1, cell_later kk x5, World.block_lt_of_cell? _ _ (cell_later kk x0)⟩
  obtain ⟨i1, hi1, hz10, hz11, hz12⟩ := info_parts Tryz.infoRunL
  obtain ⟨i2, hi2, hz20, hz21, hz22⟩ := info_parts Tryz.infoInt
  clear br kW hM hS h0 h1 h2 b0 b1 b2 e0 e1 e2 em hsz
  go_enter Tryz.func79, Tryz.ntmps79
  go_upto_region 1 with fail
  rw [← hX, ← hW0]
  clear hX hW0
  go_cut [3] (fun s3 wx => ∃ (P eb vb sb : Nat) (xs ys : List Value), s3 = .pointer (some ⟨P, 0, none⟩) ∧ Box4 wx P (.int .i64 q) (.slice (some ⟨eb, 0, none⟩) nm nm) (.slice (some ⟨vb, 0, none⟩) 3 3) (.slice (some ⟨sb, 0, none⟩) nk nk) ∧ OwnE wx W0.heap.size eb nm nm M ∧ wx.ownsRow W0.heap.size 64 1 (.slice (some ⟨vb, 0, none⟩) 3 3) 3 xs ∧ wx.ownsRow W0.heap.size 3 1 (.slice (some ⟨sb, 0, none⟩) nk nk) nk ys ∧ (vb ≠ P ∧ sb ≠ P ∧ eb ≠ P ∧ vb ≠ eb ∧ vb ≠ sb ∧ sb ≠ eb) ∧ W0.heap.size ≤ P ∧ Below W0.heap.size W0 wx)
  case first =>
    refine wp_region_held_drew (S := (fun w' => w'.cell? ⟨X, 0, none⟩ = some (.int .i64 q) ∧ w'.cell? ⟨X, 1, none⟩ = some (.slice am nm cm) ∧ w'.cell? ⟨X, 5, none⟩ = some (.slice ak nk ck) ∧ X < w'.heap.size)) (by kernel_rfl) (HMK.out _ k0) (fun hHeld => ?_)
    generalize W0.drew = wd at k0 hHeld ⊢
    refine tkL 0 hHeld ?_; try go_frame
    refine tkL 1 hHeld ?_; try go_frame
    refine tkL 2 hHeld ?_; try go_frame
    refine tkL 3 hHeld ?_; try go_frame
    refine tkL 6 hHeld ?_; try go_frame
    refine tkL 7 hHeld ?_; try go_frame
    refine tkL 8 hHeld ?_; try go_frame
    refine wpAnyH_ready (rs := [4, 5, 9, 11]) (by kernel_rfl) (by simp) ?_
    refine consL rfl (fun K hK => ?_) (consL rfl (fun K hK => ?_) (consL rfl (fun K hK => ?_) (consL rfl (fun K hK => ?_) AllReadyH.nil)))
    · go_simp
      refine (CE.out _ k0).mono ?_
      rintro e we ⟨eb, rfl, heb, hE0, be⟩
      have k0e : Below W0.heap.size W0 we := k0.trans (be.mono k0.size)
      have hE := hE0
      clear be heb hE0
      go_wp2_with fail
      refine hK.out _ _ (HMK.out _ k0e) (fun hHeld => ?_)
      clear hK K
      try go_frame
      refine wpAnyH_ready (rs := [5, 9, 11]) (by kernel_rfl) (by simp) ?_
      refine consL rfl (fun K hK => ?_) (consL rfl (fun K hK => ?_) (consL rfl (fun K hK => ?_) AllReadyH.nil))
      · have le := hE.lt.2
        refine step_make_full rfl (.const (.int .i64 3)) (.const (.int .i64 3)) 29 rfl W0.heap.size 64 i1 _ 1 Tryz.underlying29 hi1 hz10 hz11 .i64 .i64 _ _ 3 rfl rfl (by simp) (by simp) (by rw [hz12]; omega) (by unfold maxLen; omega) k0e.size ?_
        intro wv hov hgv
        have bv : Below we.heap.size we wv := (Below.refl _ _).grown hgv (Nat.le_refl _) (by simp)
        have k0ev : Below W0.heap.size W0 wv := k0e.trans (bv.mono k0e.size)
        have hE := hE.below bv
        have nev : eb ≠ we.heap.size := by omega
        clear le
        generalize we.heap.size = vb at hov nev ⊢
        have hv : wv.ownsRow W0.heap.size 64 1 (.slice (some ⟨vb, 0, none⟩) 3 3) 3 _ := hov
        clear hov hgv bv
        refine hK.out _ _ (HMK.out _ k0ev) (fun hHeld => ?_)
        clear hK K
        try go_frame
        refine wpAnyH_ready (rs := [9, 11]) (by kernel_rfl) (by simp) ?_
        refine consL rfl (fun K hK => ?_) (consL rfl (fun K hK => ?_) AllReadyH.nil)
        · have le := hE.lt.2
          have lv := (hv.lt vb rfl).2
          refine step_make_full rfl (.tmp 14) (.tmp 14) 24 rfl W0.heap.size 3 i2 _ 1 Tryz.underlying24 hi2 hz20 hz21 .i64 .i64 _ _ nk rfl rfl (by simp) (by simp) (by rw [hz22]; omega) (by unfold maxLen; omega) k0ev.size ?_
          intro ws hos hgs
          have bs : Below wv.heap.size wv ws := (Below.refl _ _).grown hgs (Nat.le_refl _) (by simp)
          have k0evs : Below W0.heap.size W0 ws := k0ev.trans (bs.mono k0ev.size)
          have hE := hE.below bs
          have hv := row_keep hv bs
          have nes : eb ≠ wv.heap.size := by omega
          have nvs : vb ≠ wv.heap.size := by omega
          clear le lv
          generalize wv.heap.size = sb at hos nes nvs ⊢
          have hs : ws.ownsRow W0.heap.size 3 1 (.slice (some ⟨sb, 0, none⟩) nk nk) nk _ := hos
          clear hos hgs bs
          refine hK.out _ _ (HMK.out _ k0evs) (fun hHeld => ?_)
          clear hK K
          try go_frame
          refine tkL 10 hHeld ?_; try go_frame
          refine wpAnyH_ready (rs := [11]) (by kernel_rfl) (by simp) ?_
          refine consL rfl (fun K hK => ?_) AllReadyH.nil
          go_simp
          have le := hE.lt.2
          have lv := (hv.lt vb rfl).2
          have ls := (hs.lt sb rfl).2
          have bp : Below ws.heap.size ws (ws.alloc (.cells #[.int .i64 0, .slice none 0 0, .slice none 0 0, .slice none 0 0] 31)) := (Below.refl _ _).alloc (Nat.le_refl _) _
          have hp := Box4.new ws 31 (.int .i64 0) (.slice none 0 0) (.slice none 0 0) (.slice none 0 0)
          have k0evsp : Below W0.heap.size W0 (ws.alloc (.cells #[.int .i64 0, .slice none 0 0, .slice none 0 0, .slice none 0 0] 31)) := k0evs.trans (bp.mono k0evs.size)
          have hE := hE.below bp
          have hv := row_keep hv bp
          have hs := row_keep hs bp
          have nep : eb ≠ ws.heap.size := by omega
          have nvp : vb ≠ ws.heap.size := by omega
          have nsp : sb ≠ ws.heap.size := by omega
          clear le lv ls
          have hPw : W0.heap.size ≤ ws.heap.size := k0evs.size
          generalize ws.alloc (.cells #[.int .i64 0, .slice none 0 0, .slice none 0 0, .slice none 0 0] 31) = wp at hp k0evsp bp hE hv hs ⊢
          generalize ws.heap.size = P at hp hPw nep nvp nsp ⊢
          clear bp
          refine hK.out _ _ (HMK.out _ k0evsp) (fun hHeld => ?_)
          clear hK K
          try go_frame
          refine wpAnyH_ready (rs := [12]) (by kernel_rfl) (by simp) ?_
          refine consL rfl (fun K hK => ?_) AllReadyH.nil
          have c0 := hp.c0
          have c1 := hp.c1
          have c2 := hp.c2
          have c3 := hp.c3
          have fz := hp.fz
          have zp := hp.lt
          go_simp
          have kz := (((k0evsp.setCell (p := ⟨P, 0, none⟩) hPw (.int .i64 q)).setCell (p := ⟨P, 1, none⟩) hPw (.slice (some ⟨eb, 0, none⟩) nm nm)).setCell (p := ⟨P, 2, none⟩) hPw (.slice (some ⟨vb, 0, none⟩) 3 3)).setCell (p := ⟨P, 3, none⟩) hPw (.slice (some ⟨sb, 0, none⟩) nk nk)
          have hq := (((hp.set0 (.int .i64 q)).set1 (.slice (some ⟨eb, 0, none⟩) nm nm)).set2 (.slice (some ⟨vb, 0, none⟩) 3 3)).set3 (.slice (some ⟨sb, 0, none⟩) nk nk)
          have hv := row_set (row_set (row_set (row_set hv (nvp) 0 (.int .i64 q)) (nvp) 1 (.slice (some ⟨eb, 0, none⟩) nm nm)) (nvp) 2 (.slice (some ⟨vb, 0, none⟩) 3 3)) (nvp) 3 (.slice (some ⟨sb, 0, none⟩) nk nk)
          have hs := row_set (row_set (row_set (row_set hs (nsp) 0 (.int .i64 q)) (nsp) 1 (.slice (some ⟨eb, 0, none⟩) nm nm)) (nsp) 2 (.slice (some ⟨vb, 0, none⟩) 3 3)) (nsp) 3 (.slice (some ⟨sb, 0, none⟩) nk nk)
          have hE := (((hE.setCell (p := ⟨P, 0, none⟩) (nep.symm) (.int .i64 q)).setCell (p := ⟨P, 1, none⟩) (nep.symm) (.slice (some ⟨eb, 0, none⟩) nm nm)).setCell (p := ⟨P, 2, none⟩) (nep.symm) (.slice (some ⟨vb, 0, none⟩) 3 3)).setCell (p := ⟨P, 3, none⟩) (nep.symm) (.slice (some ⟨sb, 0, none⟩) nk nk)
          clear c0 c1 c2 c3 fz zp
          refine hK.out _ _ (HMK.out _ kz) (fun hHeld => ?_)
          clear hK K
          try go_frame
          refine wpAnyH_done (by kernel_rfl) ?_ _
          go_wp2
          go_meet
          exact ⟨P, eb, vb, sb, _, _, rfl, hq, hE, hv, hs, ⟨nvp, nsp, nep, nev.symm, nvs, nes.symm⟩, hPw, kz⟩
        · go_simp
          have le := hE.lt.2
          have lv := (hv.lt vb rfl).2
          have bp : Below wv.heap.size wv (wv.alloc (.cells #[.int .i64 0, .slice none 0 0, .slice none 0 0, .slice none 0 0] 31)) := (Below.refl _ _).alloc (Nat.le_refl _) _
          have hp := Box4.new wv 31 (.int .i64 0) (.slice none 0 0) (.slice none 0 0) (.slice none 0 0)
          have k0evp : Below W0.heap.size W0 (wv.alloc (.cells #[.int .i64 0, .slice none 0 0, .slice none 0 0, .slice none 0 0] 31)) := k0ev.trans (bp.mono k0ev.size)
          have hE := hE.below bp
          have hv := row_keep hv bp
          have nep : eb ≠ wv.heap.size := by omega
          have nvp : vb ≠ wv.heap.size := by omega
          clear le lv
          have hPw : W0.heap.size ≤ wv.heap.size := k0ev.size
          generalize wv.alloc (.cells #[.int .i64 0, .slice none 0 0, .slice none 0 0, .slice none 0 0] 31) = wp at hp k0evp bp hE hv ⊢
          generalize wv.heap.size = P at hp hPw nep nvp ⊢
          clear bp
          refine hK.out _ _ (HMK.out _ k0evp) (fun hHeld => ?_)
          clear hK K
          try go_frame
          refine wpAnyH_ready (rs := [9]) (by kernel_rfl) (by simp) ?_
          refine consL rfl (fun K hK => ?_) AllReadyH.nil
          have le := hE.lt.2
          have lv := (hv.lt vb rfl).2
          have lp := hp.lt
          refine step_make_full rfl (.tmp 14) (.tmp 14) 24 rfl W0.heap.size 3 i2 _ 1 Tryz.underlying24 hi2 hz20 hz21 .i64 .i64 _ _ nk rfl rfl (by simp) (by simp) (by rw [hz22]; omega) (by unfold maxLen; omega) k0evp.size ?_
          intro ws hos hgs
          have bs : Below wp.heap.size wp ws := (Below.refl _ _).grown hgs (Nat.le_refl _) (by simp)
          have k0evps : Below W0.heap.size W0 ws := k0evp.trans (bs.mono k0evp.size)
          have hE := hE.below bs
          have hv := row_keep hv bs
          have hp := hp.keep bs
          have nes : eb ≠ wp.heap.size := by omega
          have nvs : vb ≠ wp.heap.size := by omega
          have nps : P ≠ wp.heap.size := by omega
          clear le lv lp
          generalize wp.heap.size = sb at hos nes nvs nps ⊢
          have hs : ws.ownsRow W0.heap.size 3 1 (.slice (some ⟨sb, 0, none⟩) nk nk) nk _ := hos
          clear hos hgs bs
          refine hK.out _ _ (HMK.out _ k0evps) (fun hHeld => ?_)
          clear hK K
          try go_frame
          refine tkL 10 hHeld ?_; try go_frame
          refine wpAnyH_ready (rs := [12]) (by kernel_rfl) (by simp) ?_
          refine consL rfl (fun K hK => ?_) AllReadyH.nil
          have c0 := hp.c0
          have c1 := hp.c1
          have c2 := hp.c2
          have c3 := hp.c3
          have fz := hp.fz
          have zp := hp.lt
          go_simp
          have kz := (((k0evps.setCell (p := ⟨P, 0, none⟩) hPw (.int .i64 q)).setCell (p := ⟨P, 1, none⟩) hPw (.slice (some ⟨eb, 0, none⟩) nm nm)).setCell (p := ⟨P, 2, none⟩) hPw (.slice (some ⟨vb, 0, none⟩) 3 3)).setCell (p := ⟨P, 3, none⟩) hPw (.slice (some ⟨sb, 0, none⟩) nk nk)
          have hq := (((hp.set0 (.int .i64 q)).set1 (.slice (some ⟨eb, 0, none⟩) nm nm)).set2 (.slice (some ⟨vb, 0, none⟩) 3 3)).set3 (.slice (some ⟨sb, 0, none⟩) nk nk)
          have hv := row_set (row_set (row_set (row_set hv (nvp) 0 (.int .i64 q)) (nvp) 1 (.slice (some ⟨eb, 0, none⟩) nm nm)) (nvp) 2 (.slice (some ⟨vb, 0, none⟩) 3 3)) (nvp) 3 (.slice (some ⟨sb, 0, none⟩) nk nk)
          have hs := row_set (row_set (row_set (row_set hs (nps.symm) 0 (.int .i64 q)) (nps.symm) 1 (.slice (some ⟨eb, 0, none⟩) nm nm)) (nps.symm) 2 (.slice (some ⟨vb, 0, none⟩) 3 3)) (nps.symm) 3 (.slice (some ⟨sb, 0, none⟩) nk nk)
          have hE := (((hE.setCell (p := ⟨P, 0, none⟩) (nep.symm) (.int .i64 q)).setCell (p := ⟨P, 1, none⟩) (nep.symm) (.slice (some ⟨eb, 0, none⟩) nm nm)).setCell (p := ⟨P, 2, none⟩) (nep.symm) (.slice (some ⟨vb, 0, none⟩) 3 3)).setCell (p := ⟨P, 3, none⟩) (nep.symm) (.slice (some ⟨sb, 0, none⟩) nk nk)
          clear c0 c1 c2 c3 fz zp
          refine hK.out _ _ (HMK.out _ kz) (fun hHeld => ?_)
          clear hK K
          try go_frame
          refine wpAnyH_done (by kernel_rfl) ?_ _
          go_wp2
          go_meet
          exact ⟨P, eb, vb, sb, _, _, rfl, hq, hE, hv, hs, ⟨nvp, nps.symm, nep, nev.symm, nvs, nes.symm⟩, hPw, kz⟩
      · have le := hE.lt.2
        refine step_make_full rfl (.tmp 14) (.tmp 14) 24 rfl W0.heap.size 3 i2 _ 1 Tryz.underlying24 hi2 hz20 hz21 .i64 .i64 _ _ nk rfl rfl (by simp) (by simp) (by rw [hz22]; omega) (by unfold maxLen; omega) k0e.size ?_
        intro ws hos hgs
        have bs : Below we.heap.size we ws := (Below.refl _ _).grown hgs (Nat.le_refl _) (by simp)
        have k0es : Below W0.heap.size W0 ws := k0e.trans (bs.mono k0e.size)
        have hE := hE.below bs
        have nes : eb ≠ we.heap.size := by omega
        clear le
        generalize we.heap.size = sb at hos nes ⊢
        have hs : ws.ownsRow W0.heap.size 3 1 (.slice (some ⟨sb, 0, none⟩) nk nk) nk _ := hos
        clear hos hgs bs
        refine hK.out _ _ (HMK.out _ k0es) (fun hHeld => ?_)
        clear hK K
        try go_frame
        refine wpAnyH_ready (rs := [5, 11]) (by kernel_rfl) (by simp) ?_
        refine consL rfl (fun K hK => ?_) (consL rfl (fun K hK => ?_) AllReadyH.nil)
        · have le := hE.lt.2
          have ls := (hs.lt sb rfl).2
          refine step_make_full rfl (.const (.int .i64 3)) (.const (.int .i64 3)) 29 rfl W0.heap.size 64 i1 _ 1 Tryz.underlying29 hi1 hz10 hz11 .i64 .i64 _ _ 3 rfl rfl (by simp) (by simp) (by rw [hz12]; omega) (by unfold maxLen; omega) k0es.size ?_
          intro wv hov hgv
          have bv : Below ws.heap.size ws wv := (Below.refl _ _).grown hgv (Nat.le_refl _) (by simp)
          have k0esv : Below W0.heap.size W0 wv := k0es.trans (bv.mono k0es.size)
          have hE := hE.below bv
          have hs := row_keep hs bv
          have nev : eb ≠ ws.heap.size := by omega
          have nsv : sb ≠ ws.heap.size := by omega
          clear le ls
          generalize ws.heap.size = vb at hov nev nsv ⊢
          have hv : wv.ownsRow W0.heap.size 64 1 (.slice (some ⟨vb, 0, none⟩) 3 3) 3 _ := hov
          clear hov hgv bv
          refine hK.out _ _ (HMK.out _ k0esv) (fun hHeld => ?_)
          clear hK K
          try go_frame
          refine tkL 10 hHeld ?_; try go_frame
          refine wpAnyH_ready (rs := [11]) (by kernel_rfl) (by simp) ?_
          refine consL rfl (fun K hK => ?_) AllReadyH.nil
          go_simp
          have le := hE.lt.2
          have lv := (hv.lt vb rfl).2
          have ls := (hs.lt sb rfl).2
          have bp : Below wv.heap.size wv (wv.alloc (.cells #[.int .i64 0, .slice none 0 0, .slice none 0 0, .slice none 0 0] 31)) := (Below.refl _ _).alloc (Nat.le_refl _) _
          have hp := Box4.new wv 31 (.int .i64 0) (.slice none 0 0) (.slice none 0 0) (.slice none 0 0)
          have k0esvp : Below W0.heap.size W0 (wv.alloc (.cells #[.int .i64 0, .slice none 0 0, .slice none 0 0, .slice none 0 0] 31)) := k0esv.trans (bp.mono k0esv.size)
          have hE := hE.below bp
          have hv := row_keep hv bp
          have hs := row_keep hs bp
          have nep : eb ≠ wv.heap.size := by omega
          have nvp : vb ≠ wv.heap.size := by omega
          have nsp : sb ≠ wv.heap.size := by omega
          clear le lv ls
          have hPw : W0.heap.size ≤ wv.heap.size := k0esv.size
          generalize wv.alloc (.cells #[.int .i64 0, .slice none 0 0, .slice none 0 0, .slice none 0 0] 31) = wp at hp k0esvp bp hE hv hs ⊢
          generalize wv.heap.size = P at hp hPw nep nvp nsp ⊢
          clear bp
          refine hK.out _ _ (HMK.out _ k0esvp) (fun hHeld => ?_)
          clear hK K
          try go_frame
          refine wpAnyH_ready (rs := [12]) (by kernel_rfl) (by simp) ?_
          refine consL rfl (fun K hK => ?_) AllReadyH.nil
          have c0 := hp.c0
          have c1 := hp.c1
          have c2 := hp.c2
          have c3 := hp.c3
          have fz := hp.fz
          have zp := hp.lt
          go_simp
          have kz := (((k0esvp.setCell (p := ⟨P, 0, none⟩) hPw (.int .i64 q)).setCell (p := ⟨P, 1, none⟩) hPw (.slice (some ⟨eb, 0, none⟩) nm nm)).setCell (p := ⟨P, 2, none⟩) hPw (.slice (some ⟨vb, 0, none⟩) 3 3)).setCell (p := ⟨P, 3, none⟩) hPw (.slice (some ⟨sb, 0, none⟩) nk nk)
          have hq := (((hp.set0 (.int .i64 q)).set1 (.slice (some ⟨eb, 0, none⟩) nm nm)).set2 (.slice (some ⟨vb, 0, none⟩) 3 3)).set3 (.slice (some ⟨sb, 0, none⟩) nk nk)
          have hv := row_set (row_set (row_set (row_set hv (nvp) 0 (.int .i64 q)) (nvp) 1 (.slice (some ⟨eb, 0, none⟩) nm nm)) (nvp) 2 (.slice (some ⟨vb, 0, none⟩) 3 3)) (nvp) 3 (.slice (some ⟨sb, 0, none⟩) nk nk)
          have hs := row_set (row_set (row_set (row_set hs (nsp) 0 (.int .i64 q)) (nsp) 1 (.slice (some ⟨eb, 0, none⟩) nm nm)) (nsp) 2 (.slice (some ⟨vb, 0, none⟩) 3 3)) (nsp) 3 (.slice (some ⟨sb, 0, none⟩) nk nk)
          have hE := (((hE.setCell (p := ⟨P, 0, none⟩) (nep.symm) (.int .i64 q)).setCell (p := ⟨P, 1, none⟩) (nep.symm) (.slice (some ⟨eb, 0, none⟩) nm nm)).setCell (p := ⟨P, 2, none⟩) (nep.symm) (.slice (some ⟨vb, 0, none⟩) 3 3)).setCell (p := ⟨P, 3, none⟩) (nep.symm) (.slice (some ⟨sb, 0, none⟩) nk nk)
          clear c0 c1 c2 c3 fz zp
          refine hK.out _ _ (HMK.out _ kz) (fun hHeld => ?_)
          clear hK K
          try go_frame
          refine wpAnyH_done (by kernel_rfl) ?_ _
          go_wp2
          go_meet
          exact ⟨P, eb, vb, sb, _, _, rfl, hq, hE, hv, hs, ⟨nvp, nsp, nep, nev.symm, nsv.symm, nes.symm⟩, hPw, kz⟩
        · go_simp
          have le := hE.lt.2
          have ls := (hs.lt sb rfl).2
          have bp : Below ws.heap.size ws (ws.alloc (.cells #[.int .i64 0, .slice none 0 0, .slice none 0 0, .slice none 0 0] 31)) := (Below.refl _ _).alloc (Nat.le_refl _) _
          have hp := Box4.new ws 31 (.int .i64 0) (.slice none 0 0) (.slice none 0 0) (.slice none 0 0)
          have k0esp : Below W0.heap.size W0 (ws.alloc (.cells #[.int .i64 0, .slice none 0 0, .slice none 0 0, .slice none 0 0] 31)) := k0es.trans (bp.mono k0es.size)
          have hE := hE.below bp
          have hs := row_keep hs bp
          have nep : eb ≠ ws.heap.size := by omega
          have nsp : sb ≠ ws.heap.size := by omega
          clear le ls
          have hPw : W0.heap.size ≤ ws.heap.size := k0es.size
          generalize ws.alloc (.cells #[.int .i64 0, .slice none 0 0, .slice none 0 0, .slice none 0 0] 31) = wp at hp k0esp bp hE hs ⊢
          generalize ws.heap.size = P at hp hPw nep nsp ⊢
          clear bp
          refine hK.out _ _ (HMK.out _ k0esp) (fun hHeld => ?_)
          clear hK K
          try go_frame
          refine wpAnyH_ready (rs := [5]) (by kernel_rfl) (by simp) ?_
          refine consL rfl (fun K hK => ?_) AllReadyH.nil
          have le := hE.lt.2
          have ls := (hs.lt sb rfl).2
          have lp := hp.lt
          refine step_make_full rfl (.const (.int .i64 3)) (.const (.int .i64 3)) 29 rfl W0.heap.size 64 i1 _ 1 Tryz.underlying29 hi1 hz10 hz11 .i64 .i64 _ _ 3 rfl rfl (by simp) (by simp) (by rw [hz12]; omega) (by unfold maxLen; omega) k0esp.size ?_
          intro wv hov hgv
          have bv : Below wp.heap.size wp wv := (Below.refl _ _).grown hgv (Nat.le_refl _) (by simp)
          have k0espv : Below W0.heap.size W0 wv := k0esp.trans (bv.mono k0esp.size)
          have hE := hE.below bv
          have hs := row_keep hs bv
          have hp := hp.keep bv
          have nev : eb ≠ wp.heap.size := by omega
          have nsv : sb ≠ wp.heap.size := by omega
          have npv : P ≠ wp.heap.size := by omega
          clear le ls lp
          generalize wp.heap.size = vb at hov nev nsv npv ⊢
          have hv : wv.ownsRow W0.heap.size 64 1 (.slice (some ⟨vb, 0, none⟩) 3 3) 3 _ := hov
          clear hov hgv bv
          refine hK.out _ _ (HMK.out _ k0espv) (fun hHeld => ?_)
          clear hK K
          try go_frame
          refine tkL 10 hHeld ?_; try go_frame
          refine wpAnyH_ready (rs := [12]) (by kernel_rfl) (by simp) ?_
          refine consL rfl (fun K hK => ?_) AllReadyH.nil
          have c0 := hp.c0
          have c1 := hp.c1
          have c2 := hp.c2
          have c3 := hp.c3
          have fz := hp.fz
          have zp := hp.lt
          go_simp
          have kz := (((k0espv.setCell (p := ⟨P, 0, none⟩) hPw (.int .i64 q)).setCell (p := ⟨P, 1, none⟩) hPw (.slice (some ⟨eb, 0, none⟩) nm nm)).setCell (p := ⟨P, 2, none⟩) hPw (.slice (some ⟨vb, 0, none⟩) 3 3)).setCell (p := ⟨P, 3, none⟩) hPw (.slice (some ⟨sb, 0, none⟩) nk nk)
          have hq := (((hp.set0 (.int .i64 q)).set1 (.slice (some ⟨eb, 0, none⟩) nm nm)).set2 (.slice (some ⟨vb, 0, none⟩) 3 3)).set3 (.slice (some ⟨sb, 0, none⟩) nk nk)
          have hv := row_set (row_set (row_set (row_set hv (npv.symm) 0 (.int .i64 q)) (npv.symm) 1 (.slice (some ⟨eb, 0, none⟩) nm nm)) (npv.symm) 2 (.slice (some ⟨vb, 0, none⟩) 3 3)) (npv.symm) 3 (.slice (some ⟨sb, 0, none⟩) nk nk)
          have hs := row_set (row_set (row_set (row_set hs (nsp) 0 (.int .i64 q)) (nsp) 1 (.slice (some ⟨eb, 0, none⟩) nm nm)) (nsp) 2 (.slice (some ⟨vb, 0, none⟩) 3 3)) (nsp) 3 (.slice (some ⟨sb, 0, none⟩) nk nk)
          have hE := (((hE.setCell (p := ⟨P, 0, none⟩) (nep.symm) (.int .i64 q)).setCell (p := ⟨P, 1, none⟩) (nep.symm) (.slice (some ⟨eb, 0, none⟩) nm nm)).setCell (p := ⟨P, 2, none⟩) (nep.symm) (.slice (some ⟨vb, 0, none⟩) 3 3)).setCell (p := ⟨P, 3, none⟩) (nep.symm) (.slice (some ⟨sb, 0, none⟩) nk nk)
          clear c0 c1 c2 c3 fz zp
          refine hK.out _ _ (HMK.out _ kz) (fun hHeld => ?_)
          clear hK K
          try go_frame
          refine wpAnyH_done (by kernel_rfl) ?_ _
          go_wp2
          go_meet
          exact ⟨P, eb, vb, sb, _, _, rfl, hq, hE, hv, hs, ⟨npv.symm, nsp, nep, nev.symm, nsv.symm, nes.symm⟩, hPw, kz⟩
      · go_simp
        have le := hE.lt.2
        have bp : Below we.heap.size we (we.alloc (.cells #[.int .i64 0, .slice none 0 0, .slice none 0 0, .slice none 0 0] 31)) := (Below.refl _ _).alloc (Nat.le_refl _) _
        have hp := Box4.new we 31 (.int .i64 0) (.slice none 0 0) (.slice none 0 0) (.slice none 0 0)
        have k0ep : Below W0.heap.size W0 (we.alloc (.cells #[.int .i64 0, .slice none 0 0, .slice none 0 0, .slice none 0 0] 31)) := k0e.trans (bp.mono k0e.size)
        have hE := hE.below bp
        have nep : eb ≠ we.heap.size := by omega
        clear le
        have hPw : W0.heap.size ≤ we.heap.size := k0e.size
        generalize we.alloc (.cells #[.int .i64 0, .slice none 0 0, .slice none 0 0, .slice none 0 0] 31) = wp at hp k0ep bp hE ⊢
        generalize we.heap.size = P at hp hPw nep ⊢
        clear bp
        refine hK.out _ _ (HMK.out _ k0ep) (fun hHeld => ?_)
        clear hK K
        try go_frame
        refine wpAnyH_ready (rs := [5, 9]) (by kernel_rfl) (by simp) ?_
        refine consL rfl (fun K hK => ?_) (consL rfl (fun K hK => ?_) AllReadyH.nil)
        · have le := hE.lt.2
          have lp := hp.lt
          refine step_make_full rfl (.const (.int .i64 3)) (.const (.int .i64 3)) 29 rfl W0.heap.size 64 i1 _ 1 Tryz.underlying29 hi1 hz10 hz11 .i64 .i64 _ _ 3 rfl rfl (by simp) (by simp) (by rw [hz12]; omega) (by unfold maxLen; omega) k0ep.size ?_
          intro wv hov hgv
          have bv : Below wp.heap.size wp wv := (Below.refl _ _).grown hgv (Nat.le_refl _) (by simp)
          have k0epv : Below W0.heap.size W0 wv := k0ep.trans (bv.mono k0ep.size)
          have hE := hE.below bv
          have hp := hp.keep bv
          have nev : eb ≠ wp.heap.size := by omega
          have npv : P ≠ wp.heap.size := by omega
          clear le lp
          generalize wp.heap.size = vb at hov nev npv ⊢
          have hv : wv.ownsRow W0.heap.size 64 1 (.slice (some ⟨vb, 0, none⟩) 3 3) 3 _ := hov
          clear hov hgv bv
          refine hK.out _ _ (HMK.out _ k0epv) (fun hHeld => ?_)
          clear hK K
          try go_frame
          refine wpAnyH_ready (rs := [9]) (by kernel_rfl) (by simp) ?_
          refine consL rfl (fun K hK => ?_) AllReadyH.nil
          have le := hE.lt.2
          have lv := (hv.lt vb rfl).2
          have lp := hp.lt
          refine step_make_full rfl (.tmp 14) (.tmp 14) 24 rfl W0.heap.size 3 i2 _ 1 Tryz.underlying24 hi2 hz20 hz21 .i64 .i64 _ _ nk rfl rfl (by simp) (by simp) (by rw [hz22]; omega) (by unfold maxLen; omega) k0epv.size ?_
          intro ws hos hgs
          have bs : Below wv.heap.size wv ws := (Below.refl _ _).grown hgs (Nat.le_refl _) (by simp)
          have k0epvs : Below W0.heap.size W0 ws := k0epv.trans (bs.mono k0epv.size)
          have hE := hE.below bs
          have hv := row_keep hv bs
          have hp := hp.keep bs
          have nes : eb ≠ wv.heap.size := by omega
          have nvs : vb ≠ wv.heap.size := by omega
          have nps : P ≠ wv.heap.size := by omega
          clear le lv lp
          generalize wv.heap.size = sb at hos nes nvs nps ⊢
          have hs : ws.ownsRow W0.heap.size 3 1 (.slice (some ⟨sb, 0, none⟩) nk nk) nk _ := hos
          clear hos hgs bs
          refine hK.out _ _ (HMK.out _ k0epvs) (fun hHeld => ?_)
          clear hK K
          try go_frame
          refine tkL 10 hHeld ?_; try go_frame
          refine wpAnyH_ready (rs := [12]) (by kernel_rfl) (by simp) ?_
          refine consL rfl (fun K hK => ?_) AllReadyH.nil
          have c0 := hp.c0
          have c1 := hp.c1
          have c2 := hp.c2
          have c3 := hp.c3
          have fz := hp.fz
          have zp := hp.lt
          go_simp
          have kz := (((k0epvs.setCell (p := ⟨P, 0, none⟩) hPw (.int .i64 q)).setCell (p := ⟨P, 1, none⟩) hPw (.slice (some ⟨eb, 0, none⟩) nm nm)).setCell (p := ⟨P, 2, none⟩) hPw (.slice (some ⟨vb, 0, none⟩) 3 3)).setCell (p := ⟨P, 3, none⟩) hPw (.slice (some ⟨sb, 0, none⟩) nk nk)
          have hq := (((hp.set0 (.int .i64 q)).set1 (.slice (some ⟨eb, 0, none⟩) nm nm)).set2 (.slice (some ⟨vb, 0, none⟩) 3 3)).set3 (.slice (some ⟨sb, 0, none⟩) nk nk)
          have hv := row_set (row_set (row_set (row_set hv (npv.symm) 0 (.int .i64 q)) (npv.symm) 1 (.slice (some ⟨eb, 0, none⟩) nm nm)) (npv.symm) 2 (.slice (some ⟨vb, 0, none⟩) 3 3)) (npv.symm) 3 (.slice (some ⟨sb, 0, none⟩) nk nk)
          have hs := row_set (row_set (row_set (row_set hs (nps.symm) 0 (.int .i64 q)) (nps.symm) 1 (.slice (some ⟨eb, 0, none⟩) nm nm)) (nps.symm) 2 (.slice (some ⟨vb, 0, none⟩) 3 3)) (nps.symm) 3 (.slice (some ⟨sb, 0, none⟩) nk nk)
          have hE := (((hE.setCell (p := ⟨P, 0, none⟩) (nep.symm) (.int .i64 q)).setCell (p := ⟨P, 1, none⟩) (nep.symm) (.slice (some ⟨eb, 0, none⟩) nm nm)).setCell (p := ⟨P, 2, none⟩) (nep.symm) (.slice (some ⟨vb, 0, none⟩) 3 3)).setCell (p := ⟨P, 3, none⟩) (nep.symm) (.slice (some ⟨sb, 0, none⟩) nk nk)
          clear c0 c1 c2 c3 fz zp
          refine hK.out _ _ (HMK.out _ kz) (fun hHeld => ?_)
          clear hK K
          try go_frame
          refine wpAnyH_done (by kernel_rfl) ?_ _
          go_wp2
          go_meet
          exact ⟨P, eb, vb, sb, _, _, rfl, hq, hE, hv, hs, ⟨npv.symm, nps.symm, nep, nev.symm, nvs, nes.symm⟩, hPw, kz⟩
        · have le := hE.lt.2
          have lp := hp.lt
          refine step_make_full rfl (.tmp 14) (.tmp 14) 24 rfl W0.heap.size 3 i2 _ 1 Tryz.underlying24 hi2 hz20 hz21 .i64 .i64 _ _ nk rfl rfl (by simp) (by simp) (by rw [hz22]; omega) (by unfold maxLen; omega) k0ep.size ?_
          intro ws hos hgs
          have bs : Below wp.heap.size wp ws := (Below.refl _ _).grown hgs (Nat.le_refl _) (by simp)
          have k0eps : Below W0.heap.size W0 ws := k0ep.trans (bs.mono k0ep.size)
          have hE := hE.below bs
          have hp := hp.keep bs
          have nes : eb ≠ wp.heap.size := by omega
          have nps : P ≠ wp.heap.size := by omega
          clear le lp
          generalize wp.heap.size = sb at hos nes nps ⊢
          have hs : ws.ownsRow W0.heap.size 3 1 (.slice (some ⟨sb, 0, none⟩) nk nk) nk _ := hos
          clear hos hgs bs
          refine hK.out _ _ (HMK.out _ k0eps) (fun hHeld => ?_)
          clear hK K
          try go_frame
          refine wpAnyH_ready (rs := [5]) (by kernel_rfl) (by simp) ?_
          refine consL rfl (fun K hK => ?_) AllReadyH.nil
          have le := hE.lt.2
          have ls := (hs.lt sb rfl).2
          have lp := hp.lt
          refine step_make_full rfl (.const (.int .i64 3)) (.const (.int .i64 3)) 29 rfl W0.heap.size 64 i1 _ 1 Tryz.underlying29 hi1 hz10 hz11 .i64 .i64 _ _ 3 rfl rfl (by simp) (by simp) (by rw [hz12]; omega) (by unfold maxLen; omega) k0eps.size ?_
          intro wv hov hgv
          have bv : Below ws.heap.size ws wv := (Below.refl _ _).grown hgv (Nat.le_refl _) (by simp)
          have k0epsv : Below W0.heap.size W0 wv := k0eps.trans (bv.mono k0eps.size)
          have hE := hE.below bv
          have hs := row_keep hs bv
          have hp := hp.keep bv
          have nev : eb ≠ ws.heap.size := by omega
          have nsv : sb ≠ ws.heap.size := by omega
          have npv : P ≠ ws.heap.size := by omega
          clear le ls lp
          generalize ws.heap.size = vb at hov nev nsv npv ⊢
          have hv : wv.ownsRow W0.heap.size 64 1 (.slice (some ⟨vb, 0, none⟩) 3 3) 3 _ := hov
          clear hov hgv bv
          refine hK.out _ _ (HMK.out _ k0epsv) (fun hHeld => ?_)
          clear hK K
          try go_frame
          refine tkL 10 hHeld ?_; try go_frame
          refine wpAnyH_ready (rs := [12]) (by kernel_rfl) (by simp) ?_
          refine consL rfl (fun K hK => ?_) AllReadyH.nil
          have c0 := hp.c0
          have c1 := hp.c1
          have c2 := hp.c2
          have c3 := hp.c3
          have fz := hp.fz
          have zp := hp.lt
          go_simp
          have kz := (((k0epsv.setCell (p := ⟨P, 0, none⟩) hPw (.int .i64 q)).setCell (p := ⟨P, 1, none⟩) hPw (.slice (some ⟨eb, 0, none⟩) nm nm)).setCell (p := ⟨P, 2, none⟩) hPw (.slice (some ⟨vb, 0, none⟩) 3 3)).setCell (p := ⟨P, 3, none⟩) hPw (.slice (some ⟨sb, 0, none⟩) nk nk)
          have hq := (((hp.set0 (.int .i64 q)).set1 (.slice (some ⟨eb, 0, none⟩) nm nm)).set2 (.slice (some ⟨vb, 0, none⟩) 3 3)).set3 (.slice (some ⟨sb, 0, none⟩) nk nk)
          have hv := row_set (row_set (row_set (row_set hv (npv.symm) 0 (.int .i64 q)) (npv.symm) 1 (.slice (some ⟨eb, 0, none⟩) nm nm)) (npv.symm) 2 (.slice (some ⟨vb, 0, none⟩) 3 3)) (npv.symm) 3 (.slice (some ⟨sb, 0, none⟩) nk nk)
          have hs := row_set (row_set (row_set (row_set hs (nps.symm) 0 (.int .i64 q)) (nps.symm) 1 (.slice (some ⟨eb, 0, none⟩) nm nm)) (nps.symm) 2 (.slice (some ⟨vb, 0, none⟩) 3 3)) (nps.symm) 3 (.slice (some ⟨sb, 0, none⟩) nk nk)
          have hE := (((hE.setCell (p := ⟨P, 0, none⟩) (nep.symm) (.int .i64 q)).setCell (p := ⟨P, 1, none⟩) (nep.symm) (.slice (some ⟨eb, 0, none⟩) nm nm)).setCell (p := ⟨P, 2, none⟩) (nep.symm) (.slice (some ⟨vb, 0, none⟩) 3 3)).setCell (p := ⟨P, 3, none⟩) (nep.symm) (.slice (some ⟨sb, 0, none⟩) nk nk)
          clear c0 c1 c2 c3 fz zp
          refine hK.out _ _ (HMK.out _ kz) (fun hHeld => ?_)
          clear hK K
          try go_frame
          refine wpAnyH_done (by kernel_rfl) ?_ _
          go_wp2
          go_meet
          exact ⟨P, eb, vb, sb, _, _, rfl, hq, hE, hv, hs, ⟨npv.symm, nps.symm, nep, nev.symm, nsv.symm, nes.symm⟩, hPw, kz⟩
    · refine step_make_full rfl (.const (.int .i64 3)) (.const (.int .i64 3)) 29 rfl W0.heap.size 64 i1 _ 1 Tryz.underlying29 hi1 hz10 hz11 .i64 .i64 _ _ 3 rfl rfl (by simp) (by simp) (by rw [hz12]; omega) (by unfold maxLen; omega) k0.size ?_
      intro wv hov hgv
      have bv : Below wd.heap.size wd wv := (Below.refl _ _).grown hgv (Nat.le_refl _) (by simp)
      have k0v : Below W0.heap.size W0 wv := k0.trans (bv.mono k0.size)
      generalize wd.heap.size = vb at hov  ⊢
      have hv : wv.ownsRow W0.heap.size 64 1 (.slice (some ⟨vb, 0, none⟩) 3 3) 3 _ := hov
      clear hov hgv bv
      refine hK.out _ _ (HMK.out _ k0v) (fun hHeld => ?_)
      clear hK K
      try go_frame
      refine wpAnyH_ready (rs := [4, 9, 11]) (by kernel_rfl) (by simp) ?_
      refine consL rfl (fun K hK => ?_) (consL rfl (fun K hK => ?_) (consL rfl (fun K hK => ?_) AllReadyH.nil))
      · go_simp
        have lv := (hv.lt vb rfl).2
        refine (CE.out _ k0v).mono ?_
        rintro e we ⟨eb, rfl, heb, hE0, be⟩
        have nve : vb ≠ eb := by omega
        have k0ve : Below W0.heap.size W0 we := k0v.trans (be.mono k0v.size)
        have hv := row_keep hv be
        have hE := hE0
        clear be heb hE0
        clear lv
        go_wp2_with fail
        refine hK.out _ _ (HMK.out _ k0ve) (fun hHeld => ?_)
        clear hK K
        try go_frame
        refine wpAnyH_ready (rs := [9, 11]) (by kernel_rfl) (by simp) ?_
        refine consL rfl (fun K hK => ?_) (consL rfl (fun K hK => ?_) AllReadyH.nil)
        · have le := hE.lt.2
          have lv := (hv.lt vb rfl).2
          refine step_make_full rfl (.tmp 14) (.tmp 14) 24 rfl W0.heap.size 3 i2 _ 1 Tryz.underlying24 hi2 hz20 hz21 .i64 .i64 _ _ nk rfl rfl (by simp) (by simp) (by rw [hz22]; omega) (by unfold maxLen; omega) k0ve.size ?_
          intro ws hos hgs
          have bs : Below we.heap.size we ws := (Below.refl _ _).grown hgs (Nat.le_refl _) (by simp)
          have k0ves : Below W0.heap.size W0 ws := k0ve.trans (bs.mono k0ve.size)
          have hE := hE.below bs
          have hv := row_keep hv bs
          have nes : eb ≠ we.heap.size := by omega
          have nvs : vb ≠ we.heap.size := by omega
          clear le lv
          generalize we.heap.size = sb at hos nes nvs ⊢
          have hs : ws.ownsRow W0.heap.size 3 1 (.slice (some ⟨sb, 0, none⟩) nk nk) nk _ := hos
          clear hos hgs bs
          refine hK.out _ _ (HMK.out _ k0ves) (fun hHeld => ?_)
          clear hK K
          try go_frame
          refine tkL 10 hHeld ?_; try go_frame
          refine wpAnyH_ready (rs := [11]) (by kernel_rfl) (by simp) ?_
          refine consL rfl (fun K hK => ?_) AllReadyH.nil
          go_simp
          have le := hE.lt.2
          have lv := (hv.lt vb rfl).2
          have ls := (hs.lt sb rfl).2
          have bp : Below ws.heap.size ws (ws.alloc (.cells #[.int .i64 0, .slice none 0 0, .slice none 0 0, .slice none 0 0] 31)) := (Below.refl _ _).alloc (Nat.le_refl _) _
          have hp := Box4.new ws 31 (.int .i64 0) (.slice none 0 0) (.slice none 0 0) (.slice none 0 0)
          have k0vesp : Below W0.heap.size W0 (ws.alloc (.cells #[.int .i64 0, .slice none 0 0, .slice none 0 0, .slice none 0 0] 31)) := k0ves.trans (bp.mono k0ves.size)
          have hE := hE.below bp
          have hv := row_keep hv bp
          have hs := row_keep hs bp
          have nep : eb ≠ ws.heap.size := by omega
          have nvp : vb ≠ ws.heap.size := by omega
          have nsp : sb ≠ ws.heap.size := by omega
          clear le lv ls
          have hPw : W0.heap.size ≤ ws.heap.size := k0ves.size
          generalize ws.alloc (.cells #[.int .i64 0, .slice none 0 0, .slice none 0 0, .slice none 0 0] 31) = wp at hp k0vesp bp hE hv hs ⊢
          generalize ws.heap.size = P at hp hPw nep nvp nsp ⊢
          clear bp
          refine hK.out _ _ (HMK.out _ k0vesp) (fun hHeld => ?_)
          clear hK K
          try go_frame
          refine wpAnyH_ready (rs := [12]) (by kernel_rfl) (by simp) ?_
          refine consL rfl (fun K hK => ?_) AllReadyH.nil
          have c0 := hp.c0
          have c1 := hp.c1
          have c2 := hp.c2
          have c3 := hp.c3
          have fz := hp.fz
          have zp := hp.lt
          go_simp
          have kz := (((k0vesp.setCell (p := ⟨P, 0, none⟩) hPw (.int .i64 q)).setCell (p := ⟨P, 1, none⟩) hPw (.slice (some ⟨eb, 0, none⟩) nm nm)).setCell (p := ⟨P, 2, none⟩) hPw (.slice (some ⟨vb, 0, none⟩) 3 3)).setCell (p := ⟨P, 3, none⟩) hPw (.slice (some ⟨sb, 0, none⟩) nk nk)
          have hq := (((hp.set0 (.int .i64 q)).set1 (.slice (some ⟨eb, 0, none⟩) nm nm)).set2 (.slice (some ⟨vb, 0, none⟩) 3 3)).set3 (.slice (some ⟨sb, 0, none⟩) nk nk)
          have hv := row_set (row_set (row_set (row_set hv (nvp) 0 (.int .i64 q)) (nvp) 1 (.slice (some ⟨eb, 0, none⟩) nm nm)) (nvp) 2 (.slice (some ⟨vb, 0, none⟩) 3 3)) (nvp) 3 (.slice (some ⟨sb, 0, none⟩) nk nk)
          have hs := row_set (row_set (row_set (row_set hs (nsp) 0 (.int .i64 q)) (nsp) 1 (.slice (some ⟨eb, 0, none⟩) nm nm)) (nsp) 2 (.slice (some ⟨vb, 0, none⟩) 3 3)) (nsp) 3 (.slice (some ⟨sb, 0, none⟩) nk nk)
          have hE := (((hE.setCell (p := ⟨P, 0, none⟩) (nep.symm) (.int .i64 q)).setCell (p := ⟨P, 1, none⟩) (nep.symm) (.slice (some ⟨eb, 0, none⟩) nm nm)).setCell (p := ⟨P, 2, none⟩) (nep.symm) (.slice (some ⟨vb, 0, none⟩) 3 3)).setCell (p := ⟨P, 3, none⟩) (nep.symm) (.slice (some ⟨sb, 0, none⟩) nk nk)
          clear c0 c1 c2 c3 fz zp
          refine hK.out _ _ (HMK.out _ kz) (fun hHeld => ?_)
          clear hK K
          try go_frame
          refine wpAnyH_done (by kernel_rfl) ?_ _
          go_wp2
          go_meet
          exact ⟨P, eb, vb, sb, _, _, rfl, hq, hE, hv, hs, ⟨nvp, nsp, nep, nve, nvs, nes.symm⟩, hPw, kz⟩
        · go_simp
          have le := hE.lt.2
          have lv := (hv.lt vb rfl).2
          have bp : Below we.heap.size we (we.alloc (.cells #[.int .i64 0, .slice none 0 0, .slice none 0 0, .slice none 0 0] 31)) := (Below.refl _ _).alloc (Nat.le_refl _) _
          have hp := Box4.new we 31 (.int .i64 0) (.slice none 0 0) (.slice none 0 0) (.slice none 0 0)
          have k0vep : Below W0.heap.size W0 (we.alloc (.cells #[.int .i64 0, .slice none 0 0, .slice none 0 0, .slice none 0 0] 31)) := k0ve.trans (bp.mono k0ve.size)
          have hE := hE.below bp
          have hv := row_keep hv bp
          have nep : eb ≠ we.heap.size := by omega
          have nvp : vb ≠ we.heap.size := by omega
          clear le lv
          have hPw : W0.heap.size ≤ we.heap.size := k0ve.size
          generalize we.alloc (.cells #[.int .i64 0, .slice none 0 0, .slice none 0 0, .slice none 0 0] 31) = wp at hp k0vep bp hE hv ⊢
          generalize we.heap.size = P at hp hPw nep nvp ⊢
          clear bp
          refine hK.out _ _ (HMK.out _ k0vep) (fun hHeld => ?_)
          clear hK K
          try go_frame
          refine wpAnyH_ready (rs := [9]) (by kernel_rfl) (by simp) ?_
          refine consL rfl (fun K hK => ?_) AllReadyH.nil
          have le := hE.lt.2
          have lv := (hv.lt vb rfl).2
          have lp := hp.lt
          refine step_make_full rfl (.tmp 14) (.tmp 14) 24 rfl W0.heap.size 3 i2 _ 1 Tryz.underlying24 hi2 hz20 hz21 .i64 .i64 _ _ nk rfl rfl (by simp) (by simp) (by rw [hz22]; omega) (by unfold maxLen; omega) k0vep.size ?_
          intro ws hos hgs
          have bs : Below wp.heap.size wp ws := (Below.refl _ _).grown hgs (Nat.le_refl _) (by simp)
          have k0veps : Below W0.heap.size W0 ws := k0vep.trans (bs.mono k0vep.size)
          have hE := hE.below bs
          have hv := row_keep hv bs
          have hp := hp.keep bs
          have nes : eb ≠ wp.heap.size := by omega
          have nvs : vb ≠ wp.heap.size := by omega
          have nps : P ≠ wp.heap.size := by omega
          clear le lv lp
          generalize wp.heap.size = sb at hos nes nvs nps ⊢
          have hs : ws.ownsRow W0.heap.size 3 1 (.slice (some ⟨sb, 0, none⟩) nk nk) nk _ := hos
          clear hos hgs bs
          refine hK.out _ _ (HMK.out _ k0veps) (fun hHeld => ?_)
          clear hK K
          try go_frame
          refine tkL 10 hHeld ?_; try go_frame
          refine wpAnyH_ready (rs := [12]) (by kernel_rfl) (by simp) ?_
          refine consL rfl (fun K hK => ?_) AllReadyH.nil
          have c0 := hp.c0
          have c1 := hp.c1
          have c2 := hp.c2
          have c3 := hp.c3
          have fz := hp.fz
          have zp := hp.lt
          go_simp
          have kz := (((k0veps.setCell (p := ⟨P, 0, none⟩) hPw (.int .i64 q)).setCell (p := ⟨P, 1, none⟩) hPw (.slice (some ⟨eb, 0, none⟩) nm nm)).setCell (p := ⟨P, 2, none⟩) hPw (.slice (some ⟨vb, 0, none⟩) 3 3)).setCell (p := ⟨P, 3, none⟩) hPw (.slice (some ⟨sb, 0, none⟩) nk nk)
          have hq := (((hp.set0 (.int .i64 q)).set1 (.slice (some ⟨eb, 0, none⟩) nm nm)).set2 (.slice (some ⟨vb, 0, none⟩) 3 3)).set3 (.slice (some ⟨sb, 0, none⟩) nk nk)
          have hv := row_set (row_set (row_set (row_set hv (nvp) 0 (.int .i64 q)) (nvp) 1 (.slice (some ⟨eb, 0, none⟩) nm nm)) (nvp) 2 (.slice (some ⟨vb, 0, none⟩) 3 3)) (nvp) 3 (.slice (some ⟨sb, 0, none⟩) nk nk)
          have hs := row_set (row_set (row_set (row_set hs (nps.symm) 0 (.int .i64 q)) (nps.symm) 1 (.slice (some ⟨eb, 0, none⟩) nm nm)) (nps.symm) 2 (.slice (some ⟨vb, 0, none⟩) 3 3)) (nps.symm) 3 (.slice (some ⟨sb, 0, none⟩) nk nk)
          have hE := (((hE.setCell (p := ⟨P, 0, none⟩) (nep.symm) (.int .i64 q)).setCell (p := ⟨P, 1, none⟩) (nep.symm) (.slice (some ⟨eb, 0, none⟩) nm nm)).setCell (p := ⟨P, 2, none⟩) (nep.symm) (.slice (some ⟨vb, 0, none⟩) 3 3)).setCell (p := ⟨P, 3, none⟩) (nep.symm) (.slice (some ⟨sb, 0, none⟩) nk nk)
          clear c0 c1 c2 c3 fz zp
          refine hK.out _ _ (HMK.out _ kz) (fun hHeld => ?_)
          clear hK K
          try go_frame
          refine wpAnyH_done (by kernel_rfl) ?_ _
          go_wp2
          go_meet
          exact ⟨P, eb, vb, sb, _, _, rfl, hq, hE, hv, hs, ⟨nvp, nps.symm, nep, nve, nvs, nes.symm⟩, hPw, kz⟩
      · have lv := (hv.lt vb rfl).2
        refine step_make_full rfl (.tmp 14) (.tmp 14) 24 rfl W0.heap.size 3 i2 _ 1 Tryz.underlying24 hi2 hz20 hz21 .i64 .i64 _ _ nk rfl rfl (by simp) (by simp) (by rw [hz22]; omega) (by unfold maxLen; omega) k0v.size ?_
        intro ws hos hgs
        have bs : Below wv.heap.size wv ws := (Below.refl _ _).grown hgs (Nat.le_refl _) (by simp)
        have k0vs : Below W0.heap.size W0 ws := k0v.trans (bs.mono k0v.size)
        have hv := row_keep hv bs
        have nvs : vb ≠ wv.heap.size := by omega
        clear lv
        generalize wv.heap.size = sb at hos nvs ⊢
        have hs : ws.ownsRow W0.heap.size 3 1 (.slice (some ⟨sb, 0, none⟩) nk nk) nk _ := hos
        clear hos hgs bs
        refine hK.out _ _ (HMK.out _ k0vs) (fun hHeld => ?_)
        clear hK K
        try go_frame
        refine wpAnyH_ready (rs := [4, 11]) (by kernel_rfl) (by simp) ?_
        refine consL rfl (fun K hK => ?_) (consL rfl (fun K hK => ?_) AllReadyH.nil)
        · go_simp
          have lv := (hv.lt vb rfl).2
          have ls := (hs.lt sb rfl).2
          refine (CE.out _ k0vs).mono ?_
          rintro e we ⟨eb, rfl, heb, hE0, be⟩
          have nve : vb ≠ eb := by omega
          have nse : sb ≠ eb := by omega
          have k0vse : Below W0.heap.size W0 we := k0vs.trans (be.mono k0vs.size)
          have hv := row_keep hv be
          have hs := row_keep hs be
          have hE := hE0
          clear be heb hE0
          clear lv ls
          go_wp2_with fail
          refine hK.out _ _ (HMK.out _ k0vse) (fun hHeld => ?_)
          clear hK K
          try go_frame
          refine tkL 10 hHeld ?_; try go_frame
          refine wpAnyH_ready (rs := [11]) (by kernel_rfl) (by simp) ?_
          refine consL rfl (fun K hK => ?_) AllReadyH.nil
          go_simp
          have le := hE.lt.2
          have lv := (hv.lt vb rfl).2
          have ls := (hs.lt sb rfl).2
          have bp : Below we.heap.size we (we.alloc (.cells #[.int .i64 0, .slice none 0 0, .slice none 0 0, .slice none 0 0] 31)) := (Below.refl _ _).alloc (Nat.le_refl _) _
          have hp := Box4.new we 31 (.int .i64 0) (.slice none 0 0) (.slice none 0 0) (.slice none 0 0)
          have k0vsep : Below W0.heap.size W0 (we.alloc (.cells #[.int .i64 0, .slice none 0 0, .slice none 0 0, .slice none 0 0] 31)) := k0vse.trans (bp.mono k0vse.size)
          have hE := hE.below bp
          have hv := row_keep hv bp
          have hs := row_keep hs bp
          have nep : eb ≠ we.heap.size := by omega
          have nvp : vb ≠ we.heap.size := by omega
          have nsp : sb ≠ we.heap.size := by omega
          clear le lv ls
          have hPw : W0.heap.size ≤ we.heap.size := k0vse.size
          generalize we.alloc (.cells #[.int .i64 0, .slice none 0 0, .slice none 0 0, .slice none 0 0] 31) = wp at hp k0vsep bp hE hv hs ⊢
          generalize we.heap.size = P at hp hPw nep nvp nsp ⊢
          clear bp
          refine hK.out _ _ (HMK.out _ k0vsep) (fun hHeld => ?_)
          clear hK K
          try go_frame
          refine wpAnyH_ready (rs := [12]) (by kernel_rfl) (by simp) ?_
          refine consL rfl (fun K hK => ?_) AllReadyH.nil
          have c0 := hp.c0
          have c1 := hp.c1
          have c2 := hp.c2
          have c3 := hp.c3
          have fz := hp.fz
          have zp := hp.lt
          go_simp
          have kz := (((k0vsep.setCell (p := ⟨P, 0, none⟩) hPw (.int .i64 q)).setCell (p := ⟨P, 1, none⟩) hPw (.slice (some ⟨eb, 0, none⟩) nm nm)).setCell (p := ⟨P, 2, none⟩) hPw (.slice (some ⟨vb, 0, none⟩) 3 3)).setCell (p := ⟨P, 3, none⟩) hPw (.slice (some ⟨sb, 0, none⟩) nk nk)
          have hq := (((hp.set0 (.int .i64 q)).set1 (.slice (some ⟨eb, 0, none⟩) nm nm)).set2 (.slice (some ⟨vb, 0, none⟩) 3 3)).set3 (.slice (some ⟨sb, 0, none⟩) nk nk)
          have hv := row_set (row_set (row_set (row_set hv (nvp) 0 (.int .i64 q)) (nvp) 1 (.slice (some ⟨eb, 0, none⟩) nm nm)) (nvp) 2 (.slice (some ⟨vb, 0, none⟩) 3 3)) (nvp) 3 (.slice (some ⟨sb, 0, none⟩) nk nk)
          have hs := row_set (row_set (row_set (row_set hs (nsp) 0 (.int .i64 q)) (nsp) 1 (.slice (some ⟨eb, 0, none⟩) nm nm)) (nsp) 2 (.slice (some ⟨vb, 0, none⟩) 3 3)) (nsp) 3 (.slice (some ⟨sb, 0, none⟩) nk nk)
          have hE := (((hE.setCell (p := ⟨P, 0, none⟩) (nep.symm) (.int .i64 q)).setCell (p := ⟨P, 1, none⟩) (nep.symm) (.slice (some ⟨eb, 0, none⟩) nm nm)).setCell (p := ⟨P, 2, none⟩) (nep.symm) (.slice (some ⟨vb, 0, none⟩) 3 3)).setCell (p := ⟨P, 3, none⟩) (nep.symm) (.slice (some ⟨sb, 0, none⟩) nk nk)
          clear c0 c1 c2 c3 fz zp
          refine hK.out _ _ (HMK.out _ kz) (fun hHeld => ?_)
          clear hK K
          try go_frame
          refine wpAnyH_done (by kernel_rfl) ?_ _
          go_wp2
          go_meet
          exact ⟨P, eb, vb, sb, _, _, rfl, hq, hE, hv, hs, ⟨nvp, nsp, nep, nve, nvs, nse⟩, hPw, kz⟩
        · go_simp
          have lv := (hv.lt vb rfl).2
          have ls := (hs.lt sb rfl).2
          have bp : Below ws.heap.size ws (ws.alloc (.cells #[.int .i64 0, .slice none 0 0, .slice none 0 0, .slice none 0 0] 31)) := (Below.refl _ _).alloc (Nat.le_refl _) _
          have hp := Box4.new ws 31 (.int .i64 0) (.slice none 0 0) (.slice none 0 0) (.slice none 0 0)
          have k0vsp : Below W0.heap.size W0 (ws.alloc (.cells #[.int .i64 0, .slice none 0 0, .slice none 0 0, .slice none 0 0] 31)) := k0vs.trans (bp.mono k0vs.size)
          have hv := row_keep hv bp
          have hs := row_keep hs bp
          have nvp : vb ≠ ws.heap.size := by omega
          have nsp : sb ≠ ws.heap.size := by omega
          clear lv ls
          have hPw : W0.heap.size ≤ ws.heap.size := k0vs.size
          generalize ws.alloc (.cells #[.int .i64 0, .slice none 0 0, .slice none 0 0, .slice none 0 0] 31) = wp at hp k0vsp bp hv hs ⊢
          generalize ws.heap.size = P at hp hPw nvp nsp ⊢
          clear bp
          refine hK.out _ _ (HMK.out _ k0vsp) (fun hHeld => ?_)
          clear hK K
          try go_frame
          refine wpAnyH_ready (rs := [4]) (by kernel_rfl) (by simp) ?_
          refine consL rfl (fun K hK => ?_) AllReadyH.nil
          go_simp
          have lv := (hv.lt vb rfl).2
          have ls := (hs.lt sb rfl).2
          have lp := hp.lt
          refine (CE.out _ k0vsp).mono ?_
          rintro e we ⟨eb, rfl, heb, hE0, be⟩
          have nve : vb ≠ eb := by omega
          have nse : sb ≠ eb := by omega
          have npe : P ≠ eb := by omega
          have k0vspe : Below W0.heap.size W0 we := k0vsp.trans (be.mono k0vsp.size)
          have hv := row_keep hv be
          have hs := row_keep hs be
          have hp := hp.keep be
          have hE := hE0
          clear be heb hE0
          clear lv ls lp
          go_wp2_with fail
          refine hK.out _ _ (HMK.out _ k0vspe) (fun hHeld => ?_)
          clear hK K
          try go_frame
          refine tkL 10 hHeld ?_; try go_frame
          refine wpAnyH_ready (rs := [12]) (by kernel_rfl) (by simp) ?_
          refine consL rfl (fun K hK => ?_) AllReadyH.nil
          have c0 := hp.c0
          have c1 := hp.c1
          have c2 := hp.c2
          have c3 := hp.c3
          have fz := hp.fz
          have zp := hp.lt
          go_simp
          have kz := (((k0vspe.setCell (p := ⟨P, 0, none⟩) hPw (.int .i64 q)).setCell (p := ⟨P, 1, none⟩) hPw (.slice (some ⟨eb, 0, none⟩) nm nm)).setCell (p := ⟨P, 2, none⟩) hPw (.slice (some ⟨vb, 0, none⟩) 3 3)).setCell (p := ⟨P, 3, none⟩) hPw (.slice (some ⟨sb, 0, none⟩) nk nk)
          have hq := (((hp.set0 (.int .i64 q)).set1 (.slice (some ⟨eb, 0, none⟩) nm nm)).set2 (.slice (some ⟨vb, 0, none⟩) 3 3)).set3 (.slice (some ⟨sb, 0, none⟩) nk nk)
          have hv := row_set (row_set (row_set (row_set hv (nvp) 0 (.int .i64 q)) (nvp) 1 (.slice (some ⟨eb, 0, none⟩) nm nm)) (nvp) 2 (.slice (some ⟨vb, 0, none⟩) 3 3)) (nvp) 3 (.slice (some ⟨sb, 0, none⟩) nk nk)
          have hs := row_set (row_set (row_set (row_set hs (nsp) 0 (.int .i64 q)) (nsp) 1 (.slice (some ⟨eb, 0, none⟩) nm nm)) (nsp) 2 (.slice (some ⟨vb, 0, none⟩) 3 3)) (nsp) 3 (.slice (some ⟨sb, 0, none⟩) nk nk)
          have hE := (((hE.setCell (p := ⟨P, 0, none⟩) (npe) (.int .i64 q)).setCell (p := ⟨P, 1, none⟩) (npe) (.slice (some ⟨eb, 0, none⟩) nm nm)).setCell (p := ⟨P, 2, none⟩) (npe) (.slice (some ⟨vb, 0, none⟩) 3 3)).setCell (p := ⟨P, 3, none⟩) (npe) (.slice (some ⟨sb, 0, none⟩) nk nk)
          clear c0 c1 c2 c3 fz zp
          refine hK.out _ _ (HMK.out _ kz) (fun hHeld => ?_)
          clear hK K
          try go_frame
          refine wpAnyH_done (by kernel_rfl) ?_ _
          go_wp2
          go_meet
          exact ⟨P, eb, vb, sb, _, _, rfl, hq, hE, hv, hs, ⟨nvp, nsp, npe.symm, nve, nvs, nse⟩, hPw, kz⟩
      · go_simp
        have lv := (hv.lt vb rfl).2
        have bp : Below wv.heap.size wv (wv.alloc (.cells #[.int .i64 0, .slice none 0 0, .slice none 0 0, .slice none 0 0] 31)) := (Below.refl _ _).alloc (Nat.le_refl _) _
        have hp := Box4.new wv 31 (.int .i64 0) (.slice none 0 0) (.slice none 0 0) (.slice none 0 0)
        have k0vp : Below W0.heap.size W0 (wv.alloc (.cells #[.int .i64 0, .slice none 0 0, .slice none 0 0, .slice none 0 0] 31)) := k0v.trans (bp.mono k0v.size)
        have hv := row_keep hv bp
        have nvp : vb ≠ wv.heap.size := by omega
        clear lv
        have hPw : W0.heap.size ≤ wv.heap.size := k0v.size
        generalize wv.alloc (.cells #[.int .i64 0, .slice none 0 0, .slice none 0 0, .slice none 0 0] 31) = wp at hp k0vp bp hv ⊢
        generalize wv.heap.size = P at hp hPw nvp ⊢
        clear bp
        refine hK.out _ _ (HMK.out _ k0vp) (fun hHeld => ?_)
        clear hK K
        try go_frame
        refine wpAnyH_ready (rs := [4, 9]) (by kernel_rfl) (by simp) ?_
        refine consL rfl (fun K hK => ?_) (consL rfl (fun K hK => ?_) AllReadyH.nil)
        · go_simp
          have lv := (hv.lt vb rfl).2
          have lp := hp.lt
          refine (CE.out _ k0vp).mono ?_
          rintro e we ⟨eb, rfl, heb, hE0, be⟩
          have nve : vb ≠ eb := by omega
          have npe : P ≠ eb := by omega
          have k0vpe : Below W0.heap.size W0 we := k0vp.trans (be.mono k0vp.size)
          have hv := row_keep hv be
          have hp := hp.keep be
          have hE := hE0
          clear be heb hE0
          clear lv lp
          go_wp2_with fail
          refine hK.out _ _ (HMK.out _ k0vpe) (fun hHeld => ?_)
          clear hK K
          try go_frame
          refine wpAnyH_ready (rs := [9]) (by kernel_rfl) (by simp) ?_
          refine consL rfl (fun K hK => ?_) AllReadyH.nil
          have le := hE.lt.2
          have lv := (hv.lt vb rfl).2
          have lp := hp.lt
          refine step_make_full rfl (.tmp 14) (.tmp 14) 24 rfl W0.heap.size 3 i2 _ 1 Tryz.underlying24 hi2 hz20 hz21 .i64 .i64 _ _ nk rfl rfl (by simp) (by simp) (by rw [hz22]; omega) (by unfold maxLen; omega) k0vpe.size ?_
          intro ws hos hgs
          have bs : Below we.heap.size we ws := (Below.refl _ _).grown hgs (Nat.le_refl _) (by simp)
          have k0vpes : Below W0.heap.size W0 ws := k0vpe.trans (bs.mono k0vpe.size)
          have hE := hE.below bs
          have hv := row_keep hv bs
          have hp := hp.keep bs
          have nes : eb ≠ we.heap.size := by omega
          have nvs : vb ≠ we.heap.size := by omega
          have nps : P ≠ we.heap.size := by omega
          clear le lv lp
          generalize we.heap.size = sb at hos nes nvs nps ⊢
          have hs : ws.ownsRow W0.heap.size 3 1 (.slice (some ⟨sb, 0, none⟩) nk nk) nk _ := hos
          clear hos hgs bs
          refine hK.out _ _ (HMK.out _ k0vpes) (fun hHeld => ?_)
          clear hK K
          try go_frame
          refine tkL 10 hHeld ?_; try go_frame
          refine wpAnyH_ready (rs := [12]) (by kernel_rfl) (by simp) ?_
          refine consL rfl (fun K hK => ?_) AllReadyH.nil
          have c0 := hp.c0
          have c1 := hp.c1
          have c2 := hp.c2
          have c3 := hp.c3
          have fz := hp.fz
          have zp := hp.lt
          go_simp
          have kz := (((k0vpes.setCell (p := ⟨P, 0, none⟩) hPw (.int .i64 q)).setCell (p := ⟨P, 1, none⟩) hPw (.slice (some ⟨eb, 0, none⟩) nm nm)).setCell (p := ⟨P, 2, none⟩) hPw (.slice (some ⟨vb, 0, none⟩) 3 3)).setCell (p := ⟨P, 3, none⟩) hPw (.slice (some ⟨sb, 0, none⟩) nk nk)
          have hq := (((hp.set0 (.int .i64 q)).set1 (.slice (some ⟨eb, 0, none⟩) nm nm)).set2 (.slice (some ⟨vb, 0, none⟩) 3 3)).set3 (.slice (some ⟨sb, 0, none⟩) nk nk)
          have hv := row_set (row_set (row_set (row_set hv (nvp) 0 (.int .i64 q)) (nvp) 1 (.slice (some ⟨eb, 0, none⟩) nm nm)) (nvp) 2 (.slice (some ⟨vb, 0, none⟩) 3 3)) (nvp) 3 (.slice (some ⟨sb, 0, none⟩) nk nk)
          have hs := row_set (row_set (row_set (row_set hs (nps.symm) 0 (.int .i64 q)) (nps.symm) 1 (.slice (some ⟨eb, 0, none⟩) nm nm)) (nps.symm) 2 (.slice (some ⟨vb, 0, none⟩) 3 3)) (nps.symm) 3 (.slice (some ⟨sb, 0, none⟩) nk nk)
          have hE := (((hE.setCell (p := ⟨P, 0, none⟩) (npe) (.int .i64 q)).setCell (p := ⟨P, 1, none⟩) (npe) (.slice (some ⟨eb, 0, none⟩) nm nm)).setCell (p := ⟨P, 2, none⟩) (npe) (.slice (some ⟨vb, 0, none⟩) 3 3)).setCell (p := ⟨P, 3, none⟩) (npe) (.slice (some ⟨sb, 0, none⟩) nk nk)
          clear c0 c1 c2 c3 fz zp
          refine hK.out _ _ (HMK.out _ kz) (fun hHeld => ?_)
          clear hK K
          try go_frame
          refine wpAnyH_done (by kernel_rfl) ?_ _
          go_wp2
          go_meet
          exact ⟨P, eb, vb, sb, _, _, rfl, hq, hE, hv, hs, ⟨nvp, nps.symm, npe.symm, nve, nvs, nes.symm⟩, hPw, kz⟩
        · have lv := (hv.lt vb rfl).2
          have lp := hp.lt
          refine step_make_full rfl (.tmp 14) (.tmp 14) 24 rfl W0.heap.size 3 i2 _ 1 Tryz.underlying24 hi2 hz20 hz21 .i64 .i64 _ _ nk rfl rfl (by simp) (by simp) (by rw [hz22]; omega) (by unfold maxLen; omega) k0vp.size ?_
          intro ws hos hgs
          have bs : Below wp.heap.size wp ws := (Below.refl _ _).grown hgs (Nat.le_refl _) (by simp)
          have k0vps : Below W0.heap.size W0 ws := k0vp.trans (bs.mono k0vp.size)
          have hv := row_keep hv bs
          have hp := hp.keep bs
          have nvs : vb ≠ wp.heap.size := by omega
          have nps : P ≠ wp.heap.size := by omega
          clear lv lp
          generalize wp.heap.size = sb at hos nvs nps ⊢
          have hs : ws.ownsRow W0.heap.size 3 1 (.slice (some ⟨sb, 0, none⟩) nk nk) nk _ := hos
          clear hos hgs bs
          refine hK.out _ _ (HMK.out _ k0vps) (fun hHeld => ?_)
          clear hK K
          try go_frame
          refine wpAnyH_ready (rs := [4]) (by kernel_rfl) (by simp) ?_
          refine consL rfl (fun K hK => ?_) AllReadyH.nil
          go_simp
          have lv := (hv.lt vb rfl).2
          have ls := (hs.lt sb rfl).2
          have lp := hp.lt
          refine (CE.out _ k0vps).mono ?_
          rintro e we ⟨eb, rfl, heb, hE0, be⟩
          have nve : vb ≠ eb := by omega
          have nse : sb ≠ eb := by omega
          have npe : P ≠ eb := by omega
          have k0vpse : Below W0.heap.size W0 we := k0vps.trans (be.mono k0vps.size)
          have hv := row_keep hv be
          have hs := row_keep hs be
          have hp := hp.keep be
          have hE := hE0
          clear be heb hE0
          clear lv ls lp
          go_wp2_with fail
          refine hK.out _ _ (HMK.out _ k0vpse) (fun hHeld => ?_)
          clear hK K
          try go_frame
          refine tkL 10 hHeld ?_; try go_frame
          refine wpAnyH_ready (rs := [12]) (by kernel_rfl) (by simp) ?_
          refine consL rfl (fun K hK => ?_) AllReadyH.nil
          have c0 := hp.c0
          have c1 := hp.c1
          have c2 := hp.c2
          have c3 := hp.c3
          have fz := hp.fz
          have zp := hp.lt
          go_simp
          have kz := (((k0vpse.setCell (p := ⟨P, 0, none⟩) hPw (.int .i64 q)).setCell (p := ⟨P, 1, none⟩) hPw (.slice (some ⟨eb, 0, none⟩) nm nm)).setCell (p := ⟨P, 2, none⟩) hPw (.slice (some ⟨vb, 0, none⟩) 3 3)).setCell (p := ⟨P, 3, none⟩) hPw (.slice (some ⟨sb, 0, none⟩) nk nk)
          have hq := (((hp.set0 (.int .i64 q)).set1 (.slice (some ⟨eb, 0, none⟩) nm nm)).set2 (.slice (some ⟨vb, 0, none⟩) 3 3)).set3 (.slice (some ⟨sb, 0, none⟩) nk nk)
          have hv := row_set (row_set (row_set (row_set hv (nvp) 0 (.int .i64 q)) (nvp) 1 (.slice (some ⟨eb, 0, none⟩) nm nm)) (nvp) 2 (.slice (some ⟨vb, 0, none⟩) 3 3)) (nvp) 3 (.slice (some ⟨sb, 0, none⟩) nk nk)
          have hs := row_set (row_set (row_set (row_set hs (nps.symm) 0 (.int .i64 q)) (nps.symm) 1 (.slice (some ⟨eb, 0, none⟩) nm nm)) (nps.symm) 2 (.slice (some ⟨vb, 0, none⟩) 3 3)) (nps.symm) 3 (.slice (some ⟨sb, 0, none⟩) nk nk)
          have hE := (((hE.setCell (p := ⟨P, 0, none⟩) (npe) (.int .i64 q)).setCell (p := ⟨P, 1, none⟩) (npe) (.slice (some ⟨eb, 0, none⟩) nm nm)).setCell (p := ⟨P, 2, none⟩) (npe) (.slice (some ⟨vb, 0, none⟩) 3 3)).setCell (p := ⟨P, 3, none⟩) (npe) (.slice (some ⟨sb, 0, none⟩) nk nk)
          clear c0 c1 c2 c3 fz zp
          refine hK.out _ _ (HMK.out _ kz) (fun hHeld => ?_)
          clear hK K
          try go_frame
          refine wpAnyH_done (by kernel_rfl) ?_ _
          go_wp2
          go_meet
          exact ⟨P, eb, vb, sb, _, _, rfl, hq, hE, hv, hs, ⟨nvp, nps.symm, npe.symm, nve, nvs, nse⟩, hPw, kz⟩
    · refine step_make_full rfl (.tmp 14) (.tmp 14) 24 rfl W0.heap.size 3 i2 _ 1 Tryz.underlying24 hi2 hz20 hz21 .i64 .i64 _ _ nk rfl rfl (by simp) (by simp) (by rw [hz22]; omega) (by unfold maxLen; omega) k0.size ?_
      intro ws hos hgs
      have bs : Below wd.heap.size wd ws := (Below.refl _ _).grown hgs (Nat.le_refl _) (by simp)
      have k0s : Below W0.heap.size W0 ws := k0.trans (bs.mono k0.size)
      generalize wd.heap.size = sb at hos  ⊢
      have hs : ws.ownsRow W0.heap.size 3 1 (.slice (some ⟨sb, 0, none⟩) nk nk) nk _ := hos
      clear hos hgs bs
      refine hK.out _ _ (HMK.out _ k0s) (fun hHeld => ?_)
      clear hK K
      try go_frame
      refine wpAnyH_ready (rs := [4, 5, 11]) (by kernel_rfl) (by simp) ?_
      refine consL rfl (fun K hK => ?_) (consL rfl (fun K hK => ?_) (consL rfl (fun K hK => ?_) AllReadyH.nil))
      · go_simp
        have ls := (hs.lt sb rfl).2
        refine (CE.out _ k0s).mono ?_
        rintro e we ⟨eb, rfl, heb, hE0, be⟩
        have nse : sb ≠ eb := by omega
        have k0se : Below W0.heap.size W0 we := k0s.trans (be.mono k0s.size)
        have hs := row_keep hs be
        have hE := hE0
        clear be heb hE0
        clear ls
        go_wp2_with fail
        refine hK.out _ _ (HMK.out _ k0se) (fun hHeld => ?_)
        clear hK K
        try go_frame
        refine wpAnyH_ready (rs := [5, 11]) (by kernel_rfl) (by simp) ?_
        refine consL rfl (fun K hK => ?_) (consL rfl (fun K hK => ?_) AllReadyH.nil)
        · have le := hE.lt.2
          have ls := (hs.lt sb rfl).2
          refine step_make_full rfl (.const (.int .i64 3)) (.const (.int .i64 3)) 29 rfl W0.heap.size 64 i1 _ 1 Tryz.underlying29 hi1 hz10 hz11 .i64 .i64 _ _ 3 rfl rfl (by simp) (by simp) (by rw [hz12]; omega) (by unfold maxLen; omega) k0se.size ?_
          intro wv hov hgv
          have bv : Below we.heap.size we wv := (Below.refl _ _).grown hgv (Nat.le_refl _) (by simp)
          have k0sev : Below W0.heap.size W0 wv := k0se.trans (bv.mono k0se.size)
          have hE := hE.below bv
          have hs := row_keep hs bv
          have nev : eb ≠ we.heap.size := by omega
          have nsv : sb ≠ we.heap.size := by omega
          clear le ls
          generalize we.heap.size = vb at hov nev nsv ⊢
          have hv : wv.ownsRow W0.heap.size 64 1 (.slice (some ⟨vb, 0, none⟩) 3 3) 3 _ := hov
          clear hov hgv bv
          refine hK.out _ _ (HMK.out _ k0sev) (fun hHeld => ?_)
          clear hK K
          try go_frame
          refine tkL 10 hHeld ?_; try go_frame
          refine wpAnyH_ready (rs := [11]) (by kernel_rfl) (by simp) ?_
          refine consL rfl (fun K hK => ?_) AllReadyH.nil
          go_simp
          have le := hE.lt.2
          have lv := (hv.lt vb rfl).2
          have ls := (hs.lt sb rfl).2
          have bp : Below wv.heap.size wv (wv.alloc (.cells #[.int .i64 0, .slice none 0 0, .slice none 0 0, .slice none 0 0] 31)) := (Below.refl _ _).alloc (Nat.le_refl _) _
          have hp := Box4.new wv 31 (.int .i64 0) (.slice none 0 0) (.slice none 0 0) (.slice none 0 0)
          have k0sevp : Below W0.heap.size W0 (wv.alloc (.cells #[.int .i64 0, .slice none 0 0, .slice none 0 0, .slice none 0 0] 31)) := k0sev.trans (bp.mono k0sev.size)
          have hE := hE.below bp
          have hv := row_keep hv bp
          have hs := row_keep hs bp
          have nep : eb ≠ wv.heap.size := by omega
          have nvp : vb ≠ wv.heap.size := by omega
          have nsp : sb ≠ wv.heap.size := by omega
          clear le lv ls
          have hPw : W0.heap.size ≤ wv.heap.size := k0sev.size
          generalize wv.alloc (.cells #[.int .i64 0, .slice none 0 0, .slice none 0 0, .slice none 0 0] 31) = wp at hp k0sevp bp hE hv hs ⊢
          generalize wv.heap.size = P at hp hPw nep nvp nsp ⊢
          clear bp
          refine hK.out _ _ (HMK.out _ k0sevp) (fun hHeld => ?_)
          clear hK K
          try go_frame
          refine wpAnyH_ready (rs := [12]) (by kernel_rfl) (by simp) ?_
          refine consL rfl (fun K hK => ?_) AllReadyH.nil
          have c0 := hp.c0
          have c1 := hp.c1
          have c2 := hp.c2
          have c3 := hp.c3
          have fz := hp.fz
          have zp := hp.lt
          go_simp
          have kz := (((k0sevp.setCell (p := ⟨P, 0, none⟩) hPw (.int .i64 q)).setCell (p := ⟨P, 1, none⟩) hPw (.slice (some ⟨eb, 0, none⟩) nm nm)).setCell (p := ⟨P, 2, none⟩) hPw (.slice (some ⟨vb, 0, none⟩) 3 3)).setCell (p := ⟨P, 3, none⟩) hPw (.slice (some ⟨sb, 0, none⟩) nk nk)
          have hq := (((hp.set0 (.int .i64 q)).set1 (.slice (some ⟨eb, 0, none⟩) nm nm)).set2 (.slice (some ⟨vb, 0, none⟩) 3 3)).set3 (.slice (some ⟨sb, 0, none⟩) nk nk)
          have hv := row_set (row_set (row_set (row_set hv (nvp) 0 (.int .i64 q)) (nvp) 1 (.slice (some ⟨eb, 0, none⟩) nm nm)) (nvp) 2 (.slice (some ⟨vb, 0, none⟩) 3 3)) (nvp) 3 (.slice (some ⟨sb, 0, none⟩) nk nk)
          have hs := row_set (row_set (row_set (row_set hs (nsp) 0 (.int .i64 q)) (nsp) 1 (.slice (some ⟨eb, 0, none⟩) nm nm)) (nsp) 2 (.slice (some ⟨vb, 0, none⟩) 3 3)) (nsp) 3 (.slice (some ⟨sb, 0, none⟩) nk nk)
          have hE := (((hE.setCell (p := ⟨P, 0, none⟩) (nep.symm) (.int .i64 q)).setCell (p := ⟨P, 1, none⟩) (nep.symm) (.slice (some ⟨eb, 0, none⟩) nm nm)).setCell (p := ⟨P, 2, none⟩) (nep.symm) (.slice (some ⟨vb, 0, none⟩) 3 3)).setCell (p := ⟨P, 3, none⟩) (nep.symm) (.slice (some ⟨sb, 0, none⟩) nk nk)
          clear c0 c1 c2 c3 fz zp
          refine hK.out _ _ (HMK.out _ kz) (fun hHeld => ?_)
          clear hK K
          try go_frame
          refine wpAnyH_done (by kernel_rfl) ?_ _
          go_wp2
          go_meet
          exact ⟨P, eb, vb, sb, _, _, rfl, hq, hE, hv, hs, ⟨nvp, nsp, nep, nev.symm, nsv.symm, nse⟩, hPw, kz⟩
        · go_simp
          have le := hE.lt.2
          have ls := (hs.lt sb rfl).2
          have bp : Below we.heap.size we (we.alloc (.cells #[.int .i64 0, .slice none 0 0, .slice none 0 0, .slice none 0 0] 31)) := (Below.refl _ _).alloc (Nat.le_refl _) _
          have hp := Box4.new we 31 (.int .i64 0) (.slice none 0 0) (.slice none 0 0) (.slice none 0 0)
          have k0sep : Below W0.heap.size W0 (we.alloc (.cells #[.int .i64 0, .slice none 0 0, .slice none 0 0, .slice none 0 0] 31)) := k0se.trans (bp.mono k0se.size)
          have hE := hE.below bp
          have hs := row_keep hs bp
          have nep : eb ≠ we.heap.size := by omega
          have nsp : sb ≠ we.heap.size := by omega
          clear le ls
          have hPw : W0.heap.size ≤ we.heap.size := k0se.size
          generalize we.alloc (.cells #[.int .i64 0, .slice none 0 0, .slice none 0 0, .slice none 0 0] 31) = wp at hp k0sep bp hE hs ⊢
          generalize we.heap.size = P at hp hPw nep nsp ⊢
          clear bp
          refine hK.out _ _ (HMK.out _ k0sep) (fun hHeld => ?_)
          clear hK K
          try go_frame
          refine wpAnyH_ready (rs := [5]) (by kernel_rfl) (by simp) ?_
          refine consL rfl (fun K hK => ?_) AllReadyH.nil
          have le := hE.lt.2
          have ls := (hs.lt sb rfl).2
          have lp := hp.lt
          refine step_make_full rfl (.const (.int .i64 3)) (.const (.int .i64 3)) 29 rfl W0.heap.size 64 i1 _ 1 Tryz.underlying29 hi1 hz10 hz11 .i64 .i64 _ _ 3 rfl rfl (by simp) (by simp) (by rw [hz12]; omega) (by unfold maxLen; omega) k0sep.size ?_
          intro wv hov hgv
          have bv : Below wp.heap.size wp wv := (Below.refl _ _).grown hgv (Nat.le_refl _) (by simp)
          have k0sepv : Below W0.heap.size W0 wv := k0sep.trans (bv.mono k0sep.size)
          have hE := hE.below bv
          have hs := row_keep hs bv
          have hp := hp.keep bv
          have nev : eb ≠ wp.heap.size := by omega
          have nsv : sb ≠ wp.heap.size := by omega
          have npv : P ≠ wp.heap.size := by omega
          clear le ls lp
          generalize wp.heap.size = vb at hov nev nsv npv ⊢
          have hv : wv.ownsRow W0.heap.size 64 1 (.slice (some ⟨vb, 0, none⟩) 3 3) 3 _ := hov
          clear hov hgv bv
          refine hK.out _ _ (HMK.out _ k0sepv) (fun hHeld => ?_)
          clear hK K
          try go_frame
          refine tkL 10 hHeld ?_; try go_frame
          refine wpAnyH_ready (rs := [12]) (by kernel_rfl) (by simp) ?_
          refine consL rfl (fun K hK => ?_) AllReadyH.nil
          have c0 := hp.c0
          have c1 := hp.c1
          have c2 := hp.c2
          have c3 := hp.c3
          have fz := hp.fz
          have zp := hp.lt
          go_simp
          have kz := (((k0sepv.setCell (p := ⟨P, 0, none⟩) hPw (.int .i64 q)).setCell (p := ⟨P, 1, none⟩) hPw (.slice (some ⟨eb, 0, none⟩) nm nm)).setCell (p := ⟨P, 2, none⟩) hPw (.slice (some ⟨vb, 0, none⟩) 3 3)).setCell (p := ⟨P, 3, none⟩) hPw (.slice (some ⟨sb, 0, none⟩) nk nk)
          have hq := (((hp.set0 (.int .i64 q)).set1 (.slice (some ⟨eb, 0, none⟩) nm nm)).set2 (.slice (some ⟨vb, 0, none⟩) 3 3)).set3 (.slice (some ⟨sb, 0, none⟩) nk nk)
          have hv := row_set (row_set (row_set (row_set hv (npv.symm) 0 (.int .i64 q)) (npv.symm) 1 (.slice (some ⟨eb, 0, none⟩) nm nm)) (npv.symm) 2 (.slice (some ⟨vb, 0, none⟩) 3 3)) (npv.symm) 3 (.slice (some ⟨sb, 0, none⟩) nk nk)
          have hs := row_set (row_set (row_set (row_set hs (nsp) 0 (.int .i64 q)) (nsp) 1 (.slice (some ⟨eb, 0, none⟩) nm nm)) (nsp) 2 (.slice (some ⟨vb, 0, none⟩) 3 3)) (nsp) 3 (.slice (some ⟨sb, 0, none⟩) nk nk)
          have hE := (((hE.setCell (p := ⟨P, 0, none⟩) (nep.symm) (.int .i64 q)).setCell (p := ⟨P, 1, none⟩) (nep.symm) (.slice (some ⟨eb, 0, none⟩) nm nm)).setCell (p := ⟨P, 2, none⟩) (nep.symm) (.slice (some ⟨vb, 0, none⟩) 3 3)).setCell (p := ⟨P, 3, none⟩) (nep.symm) (.slice (some ⟨sb, 0, none⟩) nk nk)
          clear c0 c1 c2 c3 fz zp
          refine hK.out _ _ (HMK.out _ kz) (fun hHeld => ?_)
          clear hK K
          try go_frame
          refine wpAnyH_done (by kernel_rfl) ?_ _
          go_wp2
          go_meet
          exact ⟨P, eb, vb, sb, _, _, rfl, hq, hE, hv, hs, ⟨npv.symm, nsp, nep, nev.symm, nsv.symm, nse⟩, hPw, kz⟩
      · have ls := (hs.lt sb rfl).2
        refine step_make_full rfl (.const (.int .i64 3)) (.const (.int .i64 3)) 29 rfl W0.heap.size 64 i1 _ 1 Tryz.underlying29 hi1 hz10 hz11 .i64 .i64 _ _ 3 rfl rfl (by simp) (by simp) (by rw [hz12]; omega) (by unfold maxLen; omega) k0s.size ?_
        intro wv hov hgv
        have bv : Below ws.heap.size ws wv := (Below.refl _ _).grown hgv (Nat.le_refl _) (by simp)
        have k0sv : Below W0.heap.size W0 wv := k0s.trans (bv.mono k0s.size)
        have hs := row_keep hs bv
        have nsv : sb ≠ ws.heap.size := by omega
        clear ls
        generalize ws.heap.size = vb at hov nsv ⊢
        have hv : wv.ownsRow W0.heap.size 64 1 (.slice (some ⟨vb, 0, none⟩) 3 3) 3 _ := hov
        clear hov hgv bv
        refine hK.out _ _ (HMK.out _ k0sv) (fun hHeld => ?_)
        clear hK K
        try go_frame
        refine wpAnyH_ready (rs := [4, 11]) (by kernel_rfl) (by simp) ?_
        refine consL rfl (fun K hK => ?_) (consL rfl (fun K hK => ?_) AllReadyH.nil)
        · go_simp
          have lv := (hv.lt vb rfl).2
          have ls := (hs.lt sb rfl).2
          refine (CE.out _ k0sv).mono ?_
          rintro e we ⟨eb, rfl, heb, hE0, be⟩
          have nve : vb ≠ eb := by omega
          have nse : sb ≠ eb := by omega
          have k0sve : Below W0.heap.size W0 we := k0sv.trans (be.mono k0sv.size)
          have hv := row_keep hv be
          have hs := row_keep hs be
          have hE := hE0
          clear be heb hE0
          clear lv ls
          go_wp2_with fail
          refine hK.out _ _ (HMK.out _ k0sve) (fun hHeld => ?_)
          clear hK K
          try go_frame
          refine tkL 10 hHeld ?_; try go_frame
          refine wpAnyH_ready (rs := [11]) (by kernel_rfl) (by simp) ?_
          refine consL rfl (fun K hK => ?_) AllReadyH.nil
          go_simp
          have le := hE.lt.2
          have lv := (hv.lt vb rfl).2
          have ls := (hs.lt sb rfl).2
          have bp : Below we.heap.size we (we.alloc (.cells #[.int .i64 0, .slice none 0 0, .slice none 0 0, .slice none 0 0] 31)) := (Below.refl _ _).alloc (Nat.le_refl _) _
          have hp := Box4.new we 31 (.int .i64 0) (.slice none 0 0) (.slice none 0 0) (.slice none 0 0)
          have k0svep : Below W0.heap.size W0 (we.alloc (.cells #[.int .i64 0, .slice none 0 0, .slice none 0 0, .slice none 0 0] 31)) := k0sve.trans (bp.mono k0sve.size)
          have hE := hE.below bp
          have hv := row_keep hv bp
          have hs := row_keep hs bp
          have nep : eb ≠ we.heap.size := by omega
          have nvp : vb ≠ we.heap.size := by omega
          have nsp : sb ≠ we.heap.size := by omega
          clear le lv ls
          have hPw : W0.heap.size ≤ we.heap.size := k0sve.size
          generalize we.alloc (.cells #[.int .i64 0, .slice none 0 0, .slice none 0 0, .slice none 0 0] 31) = wp at hp k0svep bp hE hv hs ⊢
          generalize we.heap.size = P at hp hPw nep nvp nsp ⊢
          clear bp
          refine hK.out _ _ (HMK.out _ k0svep) (fun hHeld => ?_)
          clear hK K
          try go_frame
          refine wpAnyH_ready (rs := [12]) (by kernel_rfl) (by simp) ?_
          refine consL rfl (fun K hK => ?_) AllReadyH.nil
          have c0 := hp.c0
          have c1 := hp.c1
          have c2 := hp.c2
          have c3 := hp.c3
          have fz := hp.fz
          have zp := hp.lt
          go_simp
          have kz := (((k0svep.setCell (p := ⟨P, 0, none⟩) hPw (.int .i64 q)).setCell (p := ⟨P, 1, none⟩) hPw (.slice (some ⟨eb, 0, none⟩) nm nm)).setCell (p := ⟨P, 2, none⟩) hPw (.slice (some ⟨vb, 0, none⟩) 3 3)).setCell (p := ⟨P, 3, none⟩) hPw (.slice (some ⟨sb, 0, none⟩) nk nk)
          have hq := (((hp.set0 (.int .i64 q)).set1 (.slice (some ⟨eb, 0, none⟩) nm nm)).set2 (.slice (some ⟨vb, 0, none⟩) 3 3)).set3 (.slice (some ⟨sb, 0, none⟩) nk nk)
          have hv := row_set (row_set (row_set (row_set hv (nvp) 0 (.int .i64 q)) (nvp) 1 (.slice (some ⟨eb, 0, none⟩) nm nm)) (nvp) 2 (.slice (some ⟨vb, 0, none⟩) 3 3)) (nvp) 3 (.slice (some ⟨sb, 0, none⟩) nk nk)
          have hs := row_set (row_set (row_set (row_set hs (nsp) 0 (.int .i64 q)) (nsp) 1 (.slice (some ⟨eb, 0, none⟩) nm nm)) (nsp) 2 (.slice (some ⟨vb, 0, none⟩) 3 3)) (nsp) 3 (.slice (some ⟨sb, 0, none⟩) nk nk)
          have hE := (((hE.setCell (p := ⟨P, 0, none⟩) (nep.symm) (.int .i64 q)).setCell (p := ⟨P, 1, none⟩) (nep.symm) (.slice (some ⟨eb, 0, none⟩) nm nm)).setCell (p := ⟨P, 2, none⟩) (nep.symm) (.slice (some ⟨vb, 0, none⟩) 3 3)).setCell (p := ⟨P, 3, none⟩) (nep.symm) (.slice (some ⟨sb, 0, none⟩) nk nk)
          clear c0 c1 c2 c3 fz zp
          refine hK.out _ _ (HMK.out _ kz) (fun hHeld => ?_)
          clear hK K
          try go_frame
          refine wpAnyH_done (by kernel_rfl) ?_ _
          go_wp2
          go_meet
          exact ⟨P, eb, vb, sb, _, _, rfl, hq, hE, hv, hs, ⟨nvp, nsp, nep, nve, nsv.symm, nse⟩, hPw, kz⟩
        · go_simp
          have lv := (hv.lt vb rfl).2
          have ls := (hs.lt sb rfl).2
          have bp : Below wv.heap.size wv (wv.alloc (.cells #[.int .i64 0, .slice none 0 0, .slice none 0 0, .slice none 0 0] 31)) := (Below.refl _ _).alloc (Nat.le_refl _) _
          have hp := Box4.new wv 31 (.int .i64 0) (.slice none 0 0) (.slice none 0 0) (.slice none 0 0)
          have k0svp : Below W0.heap.size W0 (wv.alloc (.cells #[.int .i64 0, .slice none 0 0, .slice none 0 0, .slice none 0 0] 31)) := k0sv.trans (bp.mono k0sv.size)
          have hv := row_keep hv bp
          have hs := row_keep hs bp
          have nvp : vb ≠ wv.heap.size := by omega
          have nsp : sb ≠ wv.heap.size := by omega
          clear lv ls
          have hPw : W0.heap.size ≤ wv.heap.size := k0sv.size
          generalize wv.alloc (.cells #[.int .i64 0, .slice none 0 0, .slice none 0 0, .slice none 0 0] 31) = wp at hp k0svp bp hv hs ⊢
          generalize wv.heap.size = P at hp hPw nvp nsp ⊢
          clear bp
          refine hK.out _ _ (HMK.out _ k0svp) (fun hHeld => ?_)
          clear hK K
          try go_frame
          refine wpAnyH_ready (rs := [4]) (by kernel_rfl) (by simp) ?_
          refine consL rfl (fun K hK => ?_) AllReadyH.nil
          go_simp
          have lv := (hv.lt vb rfl).2
          have ls := (hs.lt sb rfl).2
          have lp := hp.lt
          refine (CE.out _ k0svp).mono ?_
          rintro e we ⟨eb, rfl, heb, hE0, be⟩
          have nve : vb ≠ eb := by omega
          have nse : sb ≠ eb := by omega
          have npe : P ≠ eb := by omega
          have k0svpe : Below W0.heap.size W0 we := k0svp.trans (be.mono k0svp.size)
          have hv := row_keep hv be
          have hs := row_keep hs be
          have hp := hp.keep be
          have hE := hE0
          clear be heb hE0
          clear lv ls lp
          go_wp2_with fail
          refine hK.out _ _ (HMK.out _ k0svpe) (fun hHeld => ?_)
          clear hK K
          try go_frame
          refine tkL 10 hHeld ?_; try go_frame
          refine wpAnyH_ready (rs := [12]) (by kernel_rfl) (by simp) ?_
          refine consL rfl (fun K hK => ?_) AllReadyH.nil
          have c0 := hp.c0
          have c1 := hp.c1
          have c2 := hp.c2
          have c3 := hp.c3
          have fz := hp.fz
          have zp := hp.lt
          go_simp
          have kz := (((k0svpe.setCell (p := ⟨P, 0, none⟩) hPw (.int .i64 q)).setCell (p := ⟨P, 1, none⟩) hPw (.slice (some ⟨eb, 0, none⟩) nm nm)).setCell (p := ⟨P, 2, none⟩) hPw (.slice (some ⟨vb, 0, none⟩) 3 3)).setCell (p := ⟨P, 3, none⟩) hPw (.slice (some ⟨sb, 0, none⟩) nk nk)
          have hq := (((hp.set0 (.int .i64 q)).set1 (.slice (some ⟨eb, 0, none⟩) nm nm)).set2 (.slice (some ⟨vb, 0, none⟩) 3 3)).set3 (.slice (some ⟨sb, 0, none⟩) nk nk)
          have hv := row_set (row_set (row_set (row_set hv (nvp) 0 (.int .i64 q)) (nvp) 1 (.slice (some ⟨eb, 0, none⟩) nm nm)) (nvp) 2 (.slice (some ⟨vb, 0, none⟩) 3 3)) (nvp) 3 (.slice (some ⟨sb, 0, none⟩) nk nk)
          have hs := row_set (row_set (row_set (row_set hs (nsp) 0 (.int .i64 q)) (nsp) 1 (.slice (some ⟨eb, 0, none⟩) nm nm)) (nsp) 2 (.slice (some ⟨vb, 0, none⟩) 3 3)) (nsp) 3 (.slice (some ⟨sb, 0, none⟩) nk nk)
          have hE := (((hE.setCell (p := ⟨P, 0, none⟩) (npe) (.int .i64 q)).setCell (p := ⟨P, 1, none⟩) (npe) (.slice (some ⟨eb, 0, none⟩) nm nm)).setCell (p := ⟨P, 2, none⟩) (npe) (.slice (some ⟨vb, 0, none⟩) 3 3)).setCell (p := ⟨P, 3, none⟩) (npe) (.slice (some ⟨sb, 0, none⟩) nk nk)
          clear c0 c1 c2 c3 fz zp
          refine hK.out _ _ (HMK.out _ kz) (fun hHeld => ?_)
          clear hK K
          try go_frame
          refine wpAnyH_done (by kernel_rfl) ?_ _
          go_wp2
          go_meet
          exact ⟨P, eb, vb, sb, _, _, rfl, hq, hE, hv, hs, ⟨nvp, nsp, npe.symm, nve, nsv.symm, nse⟩, hPw, kz⟩
      · go_simp
        have ls := (hs.lt sb rfl).2
        have bp : Below ws.heap.size ws (ws.alloc (.cells #[.int .i64 0, .slice none 0 0, .slice none 0 0, .slice none 0 0] 31)) := (Below.refl _ _).alloc (Nat.le_refl _) _
        have hp := Box4.new ws 31 (.int .i64 0) (.slice none 0 0) (.slice none 0 0) (.slice none 0 0)
        have k0sp : Below W0.heap.size W0 (ws.alloc (.cells #[.int .i64 0, .slice none 0 0, .slice none 0 0, .slice none 0 0] 31)) := k0s.trans (bp.mono k0s.size)
        have hs := row_keep hs bp
        have nsp : sb ≠ ws.heap.size := by omega
        clear ls
        have hPw : W0.heap.size ≤ ws.heap.size := k0s.size
        generalize ws.alloc (.cells #[.int .i64 0, .slice none 0 0, .slice none 0 0, .slice none 0 0] 31) = wp at hp k0sp bp hs ⊢
        generalize ws.heap.size = P at hp hPw nsp ⊢
        clear bp
        refine hK.out _ _ (HMK.out _ k0sp) (fun hHeld => ?_)
        clear hK K
        try go_frame
        refine wpAnyH_ready (rs := [4, 5]) (by kernel_rfl) (by simp) ?_
        refine consL rfl (fun K hK => ?_) (consL rfl (fun K hK => ?_) AllReadyH.nil)
        · go_simp
          have ls := (hs.lt sb rfl).2
          have lp := hp.lt
          refine (CE.out _ k0sp).mono ?_
          rintro e we ⟨eb, rfl, heb, hE0, be⟩
          have nse : sb ≠ eb := by omega
          have npe : P ≠ eb := by omega
          have k0spe : Below W0.heap.size W0 we := k0sp.trans (be.mono k0sp.size)
          have hs := row_keep hs be
          have hp := hp.keep be
          have hE := hE0
          clear be heb hE0
          clear ls lp
          go_wp2_with fail
          refine hK.out _ _ (HMK.out _ k0spe) (fun hHeld => ?_)
          clear hK K
          try go_frame
          refine wpAnyH_ready (rs := [5]) (by kernel_rfl) (by simp) ?_
          refine consL rfl (fun K hK => ?_) AllReadyH.nil
          have le := hE.lt.2
          have ls := (hs.lt sb rfl).2
          have lp := hp.lt
          refine step_make_full rfl (.const (.int .i64 3)) (.const (.int .i64 3)) 29 rfl W0.heap.size 64 i1 _ 1 Tryz.underlying29 hi1 hz10 hz11 .i64 .i64 _ _ 3 rfl rfl (by simp) (by simp) (by rw [hz12]; omega) (by unfold maxLen; omega) k0spe.size ?_
          intro wv hov hgv
          have bv : Below we.heap.size we wv := (Below.refl _ _).grown hgv (Nat.le_refl _) (by simp)
          have k0spev : Below W0.heap.size W0 wv := k0spe.trans (bv.mono k0spe.size)
          have hE := hE.below bv
          have hs := row_keep hs bv
          have hp := hp.keep bv
          have nev : eb ≠ we.heap.size := by omega
          have nsv : sb ≠ we.heap.size := by omega
          have npv : P ≠ we.heap.size := by omega
          clear le ls lp
          generalize we.heap.size = vb at hov nev nsv npv ⊢
          have hv : wv.ownsRow W0.heap.size 64 1 (.slice (some ⟨vb, 0, none⟩) 3 3) 3 _ := hov
          clear hov hgv bv
          refine hK.out _ _ (HMK.out _ k0spev) (fun hHeld => ?_)
          clear hK K
          try go_frame
          refine tkL 10 hHeld ?_; try go_frame
          refine wpAnyH_ready (rs := [12]) (by kernel_rfl) (by simp) ?_
          refine consL rfl (fun K hK => ?_) AllReadyH.nil
          have c0 := hp.c0
          have c1 := hp.c1
          have c2 := hp.c2
          have c3 := hp.c3
          have fz := hp.fz
          have zp := hp.lt
          go_simp
          have kz := (((k0spev.setCell (p := ⟨P, 0, none⟩) hPw (.int .i64 q)).setCell (p := ⟨P, 1, none⟩) hPw (.slice (some ⟨eb, 0, none⟩) nm nm)).setCell (p := ⟨P, 2, none⟩) hPw (.slice (some ⟨vb, 0, none⟩) 3 3)).setCell (p := ⟨P, 3, none⟩) hPw (.slice (some ⟨sb, 0, none⟩) nk nk)
          have hq := (((hp.set0 (.int .i64 q)).set1 (.slice (some ⟨eb, 0, none⟩) nm nm)).set2 (.slice (some ⟨vb, 0, none⟩) 3 3)).set3 (.slice (some ⟨sb, 0, none⟩) nk nk)
          have hv := row_set (row_set (row_set (row_set hv (npv.symm) 0 (.int .i64 q)) (npv.symm) 1 (.slice (some ⟨eb, 0, none⟩) nm nm)) (npv.symm) 2 (.slice (some ⟨vb, 0, none⟩) 3 3)) (npv.symm) 3 (.slice (some ⟨sb, 0, none⟩) nk nk)
          have hs := row_set (row_set (row_set (row_set hs (nsp) 0 (.int .i64 q)) (nsp) 1 (.slice (some ⟨eb, 0, none⟩) nm nm)) (nsp) 2 (.slice (some ⟨vb, 0, none⟩) 3 3)) (nsp) 3 (.slice (some ⟨sb, 0, none⟩) nk nk)
          have hE := (((hE.setCell (p := ⟨P, 0, none⟩) (npe) (.int .i64 q)).setCell (p := ⟨P, 1, none⟩) (npe) (.slice (some ⟨eb, 0, none⟩) nm nm)).setCell (p := ⟨P, 2, none⟩) (npe) (.slice (some ⟨vb, 0, none⟩) 3 3)).setCell (p := ⟨P, 3, none⟩) (npe) (.slice (some ⟨sb, 0, none⟩) nk nk)
          clear c0 c1 c2 c3 fz zp
          refine hK.out _ _ (HMK.out _ kz) (fun hHeld => ?_)
          clear hK K
          try go_frame
          refine wpAnyH_done (by kernel_rfl) ?_ _
          go_wp2
          go_meet
          exact ⟨P, eb, vb, sb, _, _, rfl, hq, hE, hv, hs, ⟨npv.symm, nsp, npe.symm, nev.symm, nsv.symm, nse⟩, hPw, kz⟩
        · have ls := (hs.lt sb rfl).2
          have lp := hp.lt
          refine step_make_full rfl (.const (.int .i64 3)) (.const (.int .i64 3)) 29 rfl W0.heap.size 64 i1 _ 1 Tryz.underlying29 hi1 hz10 hz11 .i64 .i64 _ _ 3 rfl rfl (by simp) (by simp) (by rw [hz12]; omega) (by unfold maxLen; omega) k0sp.size ?_
          intro wv hov hgv
          have bv : Below wp.heap.size wp wv := (Below.refl _ _).grown hgv (Nat.le_refl _) (by simp)
          have k0spv : Below W0.heap.size W0 wv := k0sp.trans (bv.mono k0sp.size)
          have hs := row_keep hs bv
          have hp := hp.keep bv
          have nsv : sb ≠ wp.heap.size := by omega
          have npv : P ≠ wp.heap.size := by omega
          clear ls lp
          generalize wp.heap.size = vb at hov nsv npv ⊢
          have hv : wv.ownsRow W0.heap.size 64 1 (.slice (some ⟨vb, 0, none⟩) 3 3) 3 _ := hov
          clear hov hgv bv
          refine hK.out _ _ (HMK.out _ k0spv) (fun hHeld => ?_)
          clear hK K
          try go_frame
          refine wpAnyH_ready (rs := [4]) (by kernel_rfl) (by simp) ?_
          refine consL rfl (fun K hK => ?_) AllReadyH.nil
          go_simp
          have lv := (hv.lt vb rfl).2
          have ls := (hs.lt sb rfl).2
          have lp := hp.lt
          refine (CE.out _ k0spv).mono ?_
          rintro e we ⟨eb, rfl, heb, hE0, be⟩
          have nve : vb ≠ eb := by omega
          have nse : sb ≠ eb := by omega
          have npe : P ≠ eb := by omega
          have k0spve : Below W0.heap.size W0 we := k0spv.trans (be.mono k0spv.size)
          have hv := row_keep hv be
          have hs := row_keep hs be
          have hp := hp.keep be
          have hE := hE0
          clear be heb hE0
          clear lv ls lp
          go_wp2_with fail
          refine hK.out _ _ (HMK.out _ k0spve) (fun hHeld => ?_)
          clear hK K
          try go_frame
          refine tkL 10 hHeld ?_; try go_frame
          refine wpAnyH_ready (rs := [12]) (by kernel_rfl) (by simp) ?_
          refine consL rfl (fun K hK => ?_) AllReadyH.nil
          have c0 := hp.c0
          have c1 := hp.c1
          have c2 := hp.c2
          have c3 := hp.c3
          have fz := hp.fz
          have zp := hp.lt
          go_simp
          have kz := (((k0spve.setCell (p := ⟨P, 0, none⟩) hPw (.int .i64 q)).setCell (p := ⟨P, 1, none⟩) hPw (.slice (some ⟨eb, 0, none⟩) nm nm)).setCell (p := ⟨P, 2, none⟩) hPw (.slice (some ⟨vb, 0, none⟩) 3 3)).setCell (p := ⟨P, 3, none⟩) hPw (.slice (some ⟨sb, 0, none⟩) nk nk)
          have hq := (((hp.set0 (.int .i64 q)).set1 (.slice (some ⟨eb, 0, none⟩) nm nm)).set2 (.slice (some ⟨vb, 0, none⟩) 3 3)).set3 (.slice (some ⟨sb, 0, none⟩) nk nk)
          have hv := row_set (row_set (row_set (row_set hv (npv.symm) 0 (.int .i64 q)) (npv.symm) 1 (.slice (some ⟨eb, 0, none⟩) nm nm)) (npv.symm) 2 (.slice (some ⟨vb, 0, none⟩) 3 3)) (npv.symm) 3 (.slice (some ⟨sb, 0, none⟩) nk nk)
          have hs := row_set (row_set (row_set (row_set hs (nsp) 0 (.int .i64 q)) (nsp) 1 (.slice (some ⟨eb, 0, none⟩) nm nm)) (nsp) 2 (.slice (some ⟨vb, 0, none⟩) 3 3)) (nsp) 3 (.slice (some ⟨sb, 0, none⟩) nk nk)
          have hE := (((hE.setCell (p := ⟨P, 0, none⟩) (npe) (.int .i64 q)).setCell (p := ⟨P, 1, none⟩) (npe) (.slice (some ⟨eb, 0, none⟩) nm nm)).setCell (p := ⟨P, 2, none⟩) (npe) (.slice (some ⟨vb, 0, none⟩) 3 3)).setCell (p := ⟨P, 3, none⟩) (npe) (.slice (some ⟨sb, 0, none⟩) nk nk)
          clear c0 c1 c2 c3 fz zp
          refine hK.out _ _ (HMK.out _ kz) (fun hHeld => ?_)
          clear hK K
          try go_frame
          refine wpAnyH_done (by kernel_rfl) ?_ _
          go_wp2
          go_meet
          exact ⟨P, eb, vb, sb, _, _, rfl, hq, hE, hv, hs, ⟨npv.symm, nsp, npe.symm, nve, nsv.symm, nse⟩, hPw, kz⟩
    · go_simp
      have bp : Below wd.heap.size wd (wd.alloc (.cells #[.int .i64 0, .slice none 0 0, .slice none 0 0, .slice none 0 0] 31)) := (Below.refl _ _).alloc (Nat.le_refl _) _
      have hp := Box4.new wd 31 (.int .i64 0) (.slice none 0 0) (.slice none 0 0) (.slice none 0 0)
      have k0p : Below W0.heap.size W0 (wd.alloc (.cells #[.int .i64 0, .slice none 0 0, .slice none 0 0, .slice none 0 0] 31)) := k0.trans (bp.mono k0.size)
      have hPw : W0.heap.size ≤ wd.heap.size := k0.size
      generalize wd.alloc (.cells #[.int .i64 0, .slice none 0 0, .slice none 0 0, .slice none 0 0] 31) = wp at hp k0p bp  ⊢
      generalize wd.heap.size = P at hp hPw  ⊢
      clear bp
      refine hK.out _ _ (HMK.out _ k0p) (fun hHeld => ?_)
      clear hK K
      try go_frame
      refine wpAnyH_ready (rs := [4, 5, 9]) (by kernel_rfl) (by simp) ?_
      refine consL rfl (fun K hK => ?_) (consL rfl (fun K hK => ?_) (consL rfl (fun K hK => ?_) AllReadyH.nil))
      · go_simp
        have lp := hp.lt
        refine (CE.out _ k0p).mono ?_
        rintro e we ⟨eb, rfl, heb, hE0, be⟩
        have npe : P ≠ eb := by omega
        have k0pe : Below W0.heap.size W0 we := k0p.trans (be.mono k0p.size)
        have hp := hp.keep be
        have hE := hE0
        clear be heb hE0
        clear lp
        go_wp2_with fail
        refine hK.out _ _ (HMK.out _ k0pe) (fun hHeld => ?_)
        clear hK K
        try go_frame
        refine wpAnyH_ready (rs := [5, 9]) (by kernel_rfl) (by simp) ?_
        refine consL rfl (fun K hK => ?_) (consL rfl (fun K hK => ?_) AllReadyH.nil)
        · have le := hE.lt.2
          have lp := hp.lt
          refine step_make_full rfl (.const (.int .i64 3)) (.const (.int .i64 3)) 29 rfl W0.heap.size 64 i1 _ 1 Tryz.underlying29 hi1 hz10 hz11 .i64 .i64 _ _ 3 rfl rfl (by simp) (by simp) (by rw [hz12]; omega) (by unfold maxLen; omega) k0pe.size ?_
          intro wv hov hgv
          have bv : Below we.heap.size we wv := (Below.refl _ _).grown hgv (Nat.le_refl _) (by simp)
          have k0pev : Below W0.heap.size W0 wv := k0pe.trans (bv.mono k0pe.size)
          have hE := hE.below bv
          have hp := hp.keep bv
          have nev : eb ≠ we.heap.size := by omega
          have npv : P ≠ we.heap.size := by omega
          clear le lp
          generalize we.heap.size = vb at hov nev npv ⊢
          have hv : wv.ownsRow W0.heap.size 64 1 (.slice (some ⟨vb, 0, none⟩) 3 3) 3 _ := hov
          clear hov hgv bv
          refine hK.out _ _ (HMK.out _ k0pev) (fun hHeld => ?_)
          clear hK K
          try go_frame
          refine wpAnyH_ready (rs := [9]) (by kernel_rfl) (by simp) ?_
          refine consL rfl (fun K hK => ?_) AllReadyH.nil
          have le := hE.lt.2
          have lv := (hv.lt vb rfl).2
          have lp := hp.lt
          refine step_make_full rfl (.tmp 14) (.tmp 14) 24 rfl W0.heap.size 3 i2 _ 1 Tryz.underlying24 hi2 hz20 hz21 .i64 .i64 _ _ nk rfl rfl (by simp) (by simp) (by rw [hz22]; omega) (by unfold maxLen; omega) k0pev.size ?_
          intro ws hos hgs
          have bs : Below wv.heap.size wv ws := (Below.refl _ _).grown hgs (Nat.le_refl _) (by simp)
          have k0pevs : Below W0.heap.size W0 ws := k0pev.trans (bs.mono k0pev.size)
          have hE := hE.below bs
          have hv := row_keep hv bs
          have hp := hp.keep bs
          have nes : eb ≠ wv.heap.size := by omega
          have nvs : vb ≠ wv.heap.size := by omega
          have nps : P ≠ wv.heap.size := by omega
          clear le lv lp
          generalize wv.heap.size = sb at hos nes nvs nps ⊢
          have hs : ws.ownsRow W0.heap.size 3 1 (.slice (some ⟨sb, 0, none⟩) nk nk) nk _ := hos
          clear hos hgs bs
          refine hK.out _ _ (HMK.out _ k0pevs) (fun hHeld => ?_)
          clear hK K
          try go_frame
          refine tkL 10 hHeld ?_; try go_frame
          refine wpAnyH_ready (rs := [12]) (by kernel_rfl) (by simp) ?_
          refine consL rfl (fun K hK => ?_) AllReadyH.nil
          have c0 := hp.c0
          have c1 := hp.c1
          have c2 := hp.c2
          have c3 := hp.c3
          have fz := hp.fz
          have zp := hp.lt
          go_simp
          have kz := (((k0pevs.setCell (p := ⟨P, 0, none⟩) hPw (.int .i64 q)).setCell (p := ⟨P, 1, none⟩) hPw (.slice (some ⟨eb, 0, none⟩) nm nm)).setCell (p := ⟨P, 2, none⟩) hPw (.slice (some ⟨vb, 0, none⟩) 3 3)).setCell (p := ⟨P, 3, none⟩) hPw (.slice (some ⟨sb, 0, none⟩) nk nk)
          have hq := (((hp.set0 (.int .i64 q)).set1 (.slice (some ⟨eb, 0, none⟩) nm nm)).set2 (.slice (some ⟨vb, 0, none⟩) 3 3)).set3 (.slice (some ⟨sb, 0, none⟩) nk nk)
          have hv := row_set (row_set (row_set (row_set hv (npv.symm) 0 (.int .i64 q)) (npv.symm) 1 (.slice (some ⟨eb, 0, none⟩) nm nm)) (npv.symm) 2 (.slice (some ⟨vb, 0, none⟩) 3 3)) (npv.symm) 3 (.slice (some ⟨sb, 0, none⟩) nk nk)
          have hs := row_set (row_set (row_set (row_set hs (nps.symm) 0 (.int .i64 q)) (nps.symm) 1 (.slice (some ⟨eb, 0, none⟩) nm nm)) (nps.symm) 2 (.slice (some ⟨vb, 0, none⟩) 3 3)) (nps.symm) 3 (.slice (some ⟨sb, 0, none⟩) nk nk)
          have hE := (((hE.setCell (p := ⟨P, 0, none⟩) (npe) (.int .i64 q)).setCell (p := ⟨P, 1, none⟩) (npe) (.slice (some ⟨eb, 0, none⟩) nm nm)).setCell (p := ⟨P, 2, none⟩) (npe) (.slice (some ⟨vb, 0, none⟩) 3 3)).setCell (p := ⟨P, 3, none⟩) (npe) (.slice (some ⟨sb, 0, none⟩) nk nk)
          clear c0 c1 c2 c3 fz zp
          refine hK.out _ _ (HMK.out _ kz) (fun hHeld => ?_)
          clear hK K
          try go_frame
          refine wpAnyH_done (by kernel_rfl) ?_ _
          go_wp2
          go_meet
          exact ⟨P, eb, vb, sb, _, _, rfl, hq, hE, hv, hs, ⟨npv.symm, nps.symm, npe.symm, nev.symm, nvs, nes.symm⟩, hPw, kz⟩
        · have le := hE.lt.2
          have lp := hp.lt
          refine step_make_full rfl (.tmp 14) (.tmp 14) 24 rfl W0.heap.size 3 i2 _ 1 Tryz.underlying24 hi2 hz20 hz21 .i64 .i64 _ _ nk rfl rfl (by simp) (by simp) (by rw [hz22]; omega) (by unfold maxLen; omega) k0pe.size ?_
          intro ws hos hgs
          have bs : Below we.heap.size we ws := (Below.refl _ _).grown hgs (Nat.le_refl _) (by simp)
          have k0pes : Below W0.heap.size W0 ws := k0pe.trans (bs.mono k0pe.size)
          have hE := hE.below bs
          have hp := hp.keep bs
          have nes : eb ≠ we.heap.size := by omega
          have nps : P ≠ we.heap.size := by omega
          clear le lp
          generalize we.heap.size = sb at hos nes nps ⊢
          have hs : ws.ownsRow W0.heap.size 3 1 (.slice (some ⟨sb, 0, none⟩) nk nk) nk _ := hos
          clear hos hgs bs
          refine hK.out _ _ (HMK.out _ k0pes) (fun hHeld => ?_)
          clear hK K
          try go_frame
          refine wpAnyH_ready (rs := [5]) (by kernel_rfl) (by simp) ?_
          refine consL rfl (fun K hK => ?_) AllReadyH.nil
          have le := hE.lt.2
          have ls := (hs.lt sb rfl).2
          have lp := hp.lt
          refine step_make_full rfl (.const (.int .i64 3)) (.const (.int .i64 3)) 29 rfl W0.heap.size 64 i1 _ 1 Tryz.underlying29 hi1 hz10 hz11 .i64 .i64 _ _ 3 rfl rfl (by simp) (by simp) (by rw [hz12]; omega) (by unfold maxLen; omega) k0pes.size ?_
          intro wv hov hgv
          have bv : Below ws.heap.size ws wv := (Below.refl _ _).grown hgv (Nat.le_refl _) (by simp)
          have k0pesv : Below W0.heap.size W0 wv := k0pes.trans (bv.mono k0pes.size)
          have hE := hE.below bv
          have hs := row_keep hs bv
          have hp := hp.keep bv
          have nev : eb ≠ ws.heap.size := by omega
          have nsv : sb ≠ ws.heap.size := by omega
          have npv : P ≠ ws.heap.size := by omega
          clear le ls lp
          generalize ws.heap.size = vb at hov nev nsv npv ⊢
          have hv : wv.ownsRow W0.heap.size 64 1 (.slice (some ⟨vb, 0, none⟩) 3 3) 3 _ := hov
          clear hov hgv bv
          refine hK.out _ _ (HMK.out _ k0pesv) (fun hHeld => ?_)
          clear hK K
          try go_frame
          refine tkL 10 hHeld ?_; try go_frame
          refine wpAnyH_ready (rs := [12]) (by kernel_rfl) (by simp) ?_
          refine consL rfl (fun K hK => ?_) AllReadyH.nil
          have c0 := hp.c0
          have c1 := hp.c1
          have c2 := hp.c2
          have c3 := hp.c3
          have fz := hp.fz
          have zp := hp.lt
          go_simp
          have kz := (((k0pesv.setCell (p := ⟨P, 0, none⟩) hPw (.int .i64 q)).setCell (p := ⟨P, 1, none⟩) hPw (.slice (some ⟨eb, 0, none⟩) nm nm)).setCell (p := ⟨P, 2, none⟩) hPw (.slice (some ⟨vb, 0, none⟩) 3 3)).setCell (p := ⟨P, 3, none⟩) hPw (.slice (some ⟨sb, 0, none⟩) nk nk)
          have hq := (((hp.set0 (.int .i64 q)).set1 (.slice (some ⟨eb, 0, none⟩) nm nm)).set2 (.slice (some ⟨vb, 0, none⟩) 3 3)).set3 (.slice (some ⟨sb, 0, none⟩) nk nk)
          have hv := row_set (row_set (row_set (row_set hv (npv.symm) 0 (.int .i64 q)) (npv.symm) 1 (.slice (some ⟨eb, 0, none⟩) nm nm)) (npv.symm) 2 (.slice (some ⟨vb, 0, none⟩) 3 3)) (npv.symm) 3 (.slice (some ⟨sb, 0, none⟩) nk nk)
          have hs := row_set (row_set (row_set (row_set hs (nps.symm) 0 (.int .i64 q)) (nps.symm) 1 (.slice (some ⟨eb, 0, none⟩) nm nm)) (nps.symm) 2 (.slice (some ⟨vb, 0, none⟩) 3 3)) (nps.symm) 3 (.slice (some ⟨sb, 0, none⟩) nk nk)
          have hE := (((hE.setCell (p := ⟨P, 0, none⟩) (npe) (.int .i64 q)).setCell (p := ⟨P, 1, none⟩) (npe) (.slice (some ⟨eb, 0, none⟩) nm nm)).setCell (p := ⟨P, 2, none⟩) (npe) (.slice (some ⟨vb, 0, none⟩) 3 3)).setCell (p := ⟨P, 3, none⟩) (npe) (.slice (some ⟨sb, 0, none⟩) nk nk)
          clear c0 c1 c2 c3 fz zp
          refine hK.out _ _ (HMK.out _ kz) (fun hHeld => ?_)
          clear hK K
          try go_frame
          refine wpAnyH_done (by kernel_rfl) ?_ _
          go_wp2
          go_meet
          exact ⟨P, eb, vb, sb, _, _, rfl, hq, hE, hv, hs, ⟨npv.symm, nps.symm, npe.symm, nev.symm, nsv.symm, nes.symm⟩, hPw, kz⟩
      · have lp := hp.lt
        refine step_make_full rfl (.const (.int .i64 3)) (.const (.int .i64 3)) 29 rfl W0.heap.size 64 i1 _ 1 Tryz.underlying29 hi1 hz10 hz11 .i64 .i64 _ _ 3 rfl rfl (by simp) (by simp) (by rw [hz12]; omega) (by unfold maxLen; omega) k0p.size ?_
        intro wv hov hgv
        have bv : Below wp.heap.size wp wv := (Below.refl _ _).grown hgv (Nat.le_refl _) (by simp)
        have k0pv : Below W0.heap.size W0 wv := k0p.trans (bv.mono k0p.size)
        have hp := hp.keep bv
        have npv : P ≠ wp.heap.size := by omega
        clear lp
        generalize wp.heap.size = vb at hov npv ⊢
        have hv : wv.ownsRow W0.heap.size 64 1 (.slice (some ⟨vb, 0, none⟩) 3 3) 3 _ := hov
        clear hov hgv bv
        refine hK.out _ _ (HMK.out _ k0pv) (fun hHeld => ?_)
        clear hK K
        try go_frame
        refine wpAnyH_ready (rs := [4, 9]) (by kernel_rfl) (by simp) ?_
        refine consL rfl (fun K hK => ?_) (consL rfl (fun K hK => ?_) AllReadyH.nil)
        · go_simp
          have lv := (hv.lt vb rfl).2
          have lp := hp.lt
          refine (CE.out _ k0pv).mono ?_
          rintro e we ⟨eb, rfl, heb, hE0, be⟩
          have nve : vb ≠ eb := by omega
          have npe : P ≠ eb := by omega
          have k0pve : Below W0.heap.size W0 we := k0pv.trans (be.mono k0pv.size)
          have hv := row_keep hv be
          have hp := hp.keep be
          have hE := hE0
          clear be heb hE0
          clear lv lp
          go_wp2_with fail
          refine hK.out _ _ (HMK.out _ k0pve) (fun hHeld => ?_)
          clear hK K
          try go_frame
          refine wpAnyH_ready (rs := [9]) (by kernel_rfl) (by simp) ?_
          refine consL rfl (fun K hK => ?_) AllReadyH.nil
          have le := hE.lt.2
          have lv := (hv.lt vb rfl).2
          have lp := hp.lt
          refine step_make_full rfl (.tmp 14) (.tmp 14) 24 rfl W0.heap.size 3 i2 _ 1 Tryz.underlying24 hi2 hz20 hz21 .i64 .i64 _ _ nk rfl rfl (by simp) (by simp) (by rw [hz22]; omega) (by unfold maxLen; omega) k0pve.size ?_
          intro ws hos hgs
          have bs : Below we.heap.size we ws := (Below.refl _ _).grown hgs (Nat.le_refl _) (by simp)
          have k0pves : Below W0.heap.size W0 ws := k0pve.trans (bs.mono k0pve.size)
          have hE := hE.below bs
          have hv := row_keep hv bs
          have hp := hp.keep bs
          have nes : eb ≠ we.heap.size := by omega
          have nvs : vb ≠ we.heap.size := by omega
          have nps : P ≠ we.heap.size := by omega
          clear le lv lp
          generalize we.heap.size = sb at hos nes nvs nps ⊢
          have hs : ws.ownsRow W0.heap.size 3 1 (.slice (some ⟨sb, 0, none⟩) nk nk) nk _ := hos
          clear hos hgs bs
          refine hK.out _ _ (HMK.out _ k0pves) (fun hHeld => ?_)
          clear hK K
          try go_frame
          refine tkL 10 hHeld ?_; try go_frame
          refine wpAnyH_ready (rs := [12]) (by kernel_rfl) (by simp) ?_
          refine consL rfl (fun K hK => ?_) AllReadyH.nil
          have c0 := hp.c0
          have c1 := hp.c1
          have c2 := hp.c2
          have c3 := hp.c3
          have fz := hp.fz
          have zp := hp.lt
          go_simp
          have kz := (((k0pves.setCell (p := ⟨P, 0, none⟩) hPw (.int .i64 q)).setCell (p := ⟨P, 1, none⟩) hPw (.slice (some ⟨eb, 0, none⟩) nm nm)).setCell (p := ⟨P, 2, none⟩) hPw (.slice (some ⟨vb, 0, none⟩) 3 3)).setCell (p := ⟨P, 3, none⟩) hPw (.slice (some ⟨sb, 0, none⟩) nk nk)
          have hq := (((hp.set0 (.int .i64 q)).set1 (.slice (some ⟨eb, 0, none⟩) nm nm)).set2 (.slice (some ⟨vb, 0, none⟩) 3 3)).set3 (.slice (some ⟨sb, 0, none⟩) nk nk)
          have hv := row_set (row_set (row_set (row_set hv (npv.symm) 0 (.int .i64 q)) (npv.symm) 1 (.slice (some ⟨eb, 0, none⟩) nm nm)) (npv.symm) 2 (.slice (some ⟨vb, 0, none⟩) 3 3)) (npv.symm) 3 (.slice (some ⟨sb, 0, none⟩) nk nk)
          have hs := row_set (row_set (row_set (row_set hs (nps.symm) 0 (.int .i64 q)) (nps.symm) 1 (.slice (some ⟨eb, 0, none⟩) nm nm)) (nps.symm) 2 (.slice (some ⟨vb, 0, none⟩) 3 3)) (nps.symm) 3 (.slice (some ⟨sb, 0, none⟩) nk nk)
          have hE := (((hE.setCell (p := ⟨P, 0, none⟩) (npe) (.int .i64 q)).setCell (p := ⟨P, 1, none⟩) (npe) (.slice (some ⟨eb, 0, none⟩) nm nm)).setCell (p := ⟨P, 2, none⟩) (npe) (.slice (some ⟨vb, 0, none⟩) 3 3)).setCell (p := ⟨P, 3, none⟩) (npe) (.slice (some ⟨sb, 0, none⟩) nk nk)
          clear c0 c1 c2 c3 fz zp
          refine hK.out _ _ (HMK.out _ kz) (fun hHeld => ?_)
          clear hK K
          try go_frame
          refine wpAnyH_done (by kernel_rfl) ?_ _
          go_wp2
          go_meet
          exact ⟨P, eb, vb, sb, _, _, rfl, hq, hE, hv, hs, ⟨npv.symm, nps.symm, npe.symm, nve, nvs, nes.symm⟩, hPw, kz⟩
        · have lv := (hv.lt vb rfl).2
          have lp := hp.lt
          refine step_make_full rfl (.tmp 14) (.tmp 14) 24 rfl W0.heap.size 3 i2 _ 1 Tryz.underlying24 hi2 hz20 hz21 .i64 .i64 _ _ nk rfl rfl (by simp) (by simp) (by rw [hz22]; omega) (by unfold maxLen; omega) k0pv.size ?_
          intro ws hos hgs
          have bs : Below wv.heap.size wv ws := (Below.refl _ _).grown hgs (Nat.le_refl _) (by simp)
          have k0pvs : Below W0.heap.size W0 ws := k0pv.trans (bs.mono k0pv.size)
          have hv := row_keep hv bs
          have hp := hp.keep bs
          have nvs : vb ≠ wv.heap.size := by omega
          have nps : P ≠ wv.heap.size := by omega
          clear lv lp
          generalize wv.heap.size = sb at hos nvs nps ⊢
          have hs : ws.ownsRow W0.heap.size 3 1 (.slice (some ⟨sb, 0, none⟩) nk nk) nk _ := hos
          clear hos hgs bs
          refine hK.out _ _ (HMK.out _ k0pvs) (fun hHeld => ?_)
          clear hK K
          try go_frame
          refine wpAnyH_ready (rs := [4]) (by kernel_rfl) (by simp) ?_
          refine consL rfl (fun K hK => ?_) AllReadyH.nil
          go_simp
          have lv := (hv.lt vb rfl).2
          have ls := (hs.lt sb rfl).2
          have lp := hp.lt
          refine (CE.out _ k0pvs).mono ?_
          rintro e we ⟨eb, rfl, heb, hE0, be⟩
          have nve : vb ≠ eb := by omega
          have nse : sb ≠ eb := by omega
          have npe : P ≠ eb := by omega
          have k0pvse : Below W0.heap.size W0 we := k0pvs.trans (be.mono k0pvs.size)
          have hv := row_keep hv be
          have hs := row_keep hs be
          have hp := hp.keep be
          have hE := hE0
          clear be heb hE0
          clear lv ls lp
          go_wp2_with fail
          refine hK.out _ _ (HMK.out _ k0pvse) (fun hHeld => ?_)
          clear hK K
          try go_frame
          refine tkL 10 hHeld ?_; try go_frame
          refine wpAnyH_ready (rs := [12]) (by kernel_rfl) (by simp) ?_
          refine consL rfl (fun K hK => ?_) AllReadyH.nil
          have c0 := hp.c0
          have c1 := hp.c1
          have c2 := hp.c2
          have c3 := hp.c3
          have fz := hp.fz
          have zp := hp.lt
          go_simp
          have kz := (((k0pvse.setCell (p := ⟨P, 0, none⟩) hPw (.int .i64 q)).setCell (p := ⟨P, 1, none⟩) hPw (.slice (some ⟨eb, 0, none⟩) nm nm)).setCell (p := ⟨P, 2, none⟩) hPw (.slice (some ⟨vb, 0, none⟩) 3 3)).setCell (p := ⟨P, 3, none⟩) hPw (.slice (some ⟨sb, 0, none⟩) nk nk)
          have hq := (((hp.set0 (.int .i64 q)).set1 (.slice (some ⟨eb, 0, none⟩) nm nm)).set2 (.slice (some ⟨vb, 0, none⟩) 3 3)).set3 (.slice (some ⟨sb, 0, none⟩) nk nk)
          have hv := row_set (row_set (row_set (row_set hv (npv.symm) 0 (.int .i64 q)) (npv.symm) 1 (.slice (some ⟨eb, 0, none⟩) nm nm)) (npv.symm) 2 (.slice (some ⟨vb, 0, none⟩) 3 3)) (npv.symm) 3 (.slice (some ⟨sb, 0, none⟩) nk nk)
          have hs := row_set (row_set (row_set (row_set hs (nps.symm) 0 (.int .i64 q)) (nps.symm) 1 (.slice (some ⟨eb, 0, none⟩) nm nm)) (nps.symm) 2 (.slice (some ⟨vb, 0, none⟩) 3 3)) (nps.symm) 3 (.slice (some ⟨sb, 0, none⟩) nk nk)
          have hE := (((hE.setCell (p := ⟨P, 0, none⟩) (npe) (.int .i64 q)).setCell (p := ⟨P, 1, none⟩) (npe) (.slice (some ⟨eb, 0, none⟩) nm nm)).setCell (p := ⟨P, 2, none⟩) (npe) (.slice (some ⟨vb, 0, none⟩) 3 3)).setCell (p := ⟨P, 3, none⟩) (npe) (.slice (some ⟨sb, 0, none⟩) nk nk)
          clear c0 c1 c2 c3 fz zp
          refine hK.out _ _ (HMK.out _ kz) (fun hHeld => ?_)
          clear hK K
          try go_frame
          refine wpAnyH_done (by kernel_rfl) ?_ _
          go_wp2
          go_meet
          exact ⟨P, eb, vb, sb, _, _, rfl, hq, hE, hv, hs, ⟨npv.symm, nps.symm, npe.symm, nve, nvs, nse⟩, hPw, kz⟩
      · have lp := hp.lt
        refine step_make_full rfl (.tmp 14) (.tmp 14) 24 rfl W0.heap.size 3 i2 _ 1 Tryz.underlying24 hi2 hz20 hz21 .i64 .i64 _ _ nk rfl rfl (by simp) (by simp) (by rw [hz22]; omega) (by unfold maxLen; omega) k0p.size ?_
        intro ws hos hgs
        have bs : Below wp.heap.size wp ws := (Below.refl _ _).grown hgs (Nat.le_refl _) (by simp)
        have k0ps : Below W0.heap.size W0 ws := k0p.trans (bs.mono k0p.size)
        have hp := hp.keep bs
        have nps : P ≠ wp.heap.size := by omega
        clear lp
        generalize wp.heap.size = sb at hos nps ⊢
        have hs : ws.ownsRow W0.heap.size 3 1 (.slice (some ⟨sb, 0, none⟩) nk nk) nk _ := hos
        clear hos hgs bs
        refine hK.out _ _ (HMK.out _ k0ps) (fun hHeld => ?_)
        clear hK K
        try go_frame
        refine wpAnyH_ready (rs := [4, 5]) (by kernel_rfl) (by simp) ?_
        refine consL rfl (fun K hK => ?_) (consL rfl (fun K hK => ?_) AllReadyH.nil)
        · go_simp
          have ls := (hs.lt sb rfl).2
          have lp := hp.lt
          refine (CE.out _ k0ps).mono ?_
          rintro e we ⟨eb, rfl, heb, hE0, be⟩
          have nse : sb ≠ eb := by omega
          have npe : P ≠ eb := by omega
          have k0pse : Below W0.heap.size W0 we := k0ps.trans (be.mono k0ps.size)
          have hs := row_keep hs be
          have hp := hp.keep be
          have hE := hE0
          clear be heb hE0
          clear ls lp
          go_wp2_with fail
          refine hK.out _ _ (HMK.out _ k0pse) (fun hHeld => ?_)
          clear hK K
          try go_frame
          refine wpAnyH_ready (rs := [5]) (by kernel_rfl) (by simp) ?_
          refine consL rfl (fun K hK => ?_) AllReadyH.nil
          have le := hE.lt.2
          have ls := (hs.lt sb rfl).2
          have lp := hp.lt
          refine step_make_full rfl (.const (.int .i64 3)) (.const (.int .i64 3)) 29 rfl W0.heap.size 64 i1 _ 1 Tryz.underlying29 hi1 hz10 hz11 .i64 .i64 _ _ 3 rfl rfl (by simp) (by simp) (by rw [hz12]; omega) (by unfold maxLen; omega) k0pse.size ?_
          intro wv hov hgv
          have bv : Below we.heap.size we wv := (Below.refl _ _).grown hgv (Nat.le_refl _) (by simp)
          have k0psev : Below W0.heap.size W0 wv := k0pse.trans (bv.mono k0pse.size)
          have hE := hE.below bv
          have hs := row_keep hs bv
          have hp := hp.keep bv
          have nev : eb ≠ we.heap.size := by omega
          have nsv : sb ≠ we.heap.size := by omega
          have npv : P ≠ we.heap.size := by omega
          clear le ls lp
          generalize we.heap.size = vb at hov nev nsv npv ⊢
          have hv : wv.ownsRow W0.heap.size 64 1 (.slice (some ⟨vb, 0, none⟩) 3 3) 3 _ := hov
          clear hov hgv bv
          refine hK.out _ _ (HMK.out _ k0psev) (fun hHeld => ?_)
          clear hK K
          try go_frame
          refine tkL 10 hHeld ?_; try go_frame
          refine wpAnyH_ready (rs := [12]) (by kernel_rfl) (by simp) ?_
          refine consL rfl (fun K hK => ?_) AllReadyH.nil
          have c0 := hp.c0
          have c1 := hp.c1
          have c2 := hp.c2
          have c3 := hp.c3
          have fz := hp.fz
          have zp := hp.lt
          go_simp
          have kz := (((k0psev.setCell (p := ⟨P, 0, none⟩) hPw (.int .i64 q)).setCell (p := ⟨P, 1, none⟩) hPw (.slice (some ⟨eb, 0, none⟩) nm nm)).setCell (p := ⟨P, 2, none⟩) hPw (.slice (some ⟨vb, 0, none⟩) 3 3)).setCell (p := ⟨P, 3, none⟩) hPw (.slice (some ⟨sb, 0, none⟩) nk nk)
          have hq := (((hp.set0 (.int .i64 q)).set1 (.slice (some ⟨eb, 0, none⟩) nm nm)).set2 (.slice (some ⟨vb, 0, none⟩) 3 3)).set3 (.slice (some ⟨sb, 0, none⟩) nk nk)
          have hv := row_set (row_set (row_set (row_set hv (npv.symm) 0 (.int .i64 q)) (npv.symm) 1 (.slice (some ⟨eb, 0, none⟩) nm nm)) (npv.symm) 2 (.slice (some ⟨vb, 0, none⟩) 3 3)) (npv.symm) 3 (.slice (some ⟨sb, 0, none⟩) nk nk)
          have hs := row_set (row_set (row_set (row_set hs (nps.symm) 0 (.int .i64 q)) (nps.symm) 1 (.slice (some ⟨eb, 0, none⟩) nm nm)) (nps.symm) 2 (.slice (some ⟨vb, 0, none⟩) 3 3)) (nps.symm) 3 (.slice (some ⟨sb, 0, none⟩) nk nk)
          have hE := (((hE.setCell (p := ⟨P, 0, none⟩) (npe) (.int .i64 q)).setCell (p := ⟨P, 1, none⟩) (npe) (.slice (some ⟨eb, 0, none⟩) nm nm)).setCell (p := ⟨P, 2, none⟩) (npe) (.slice (some ⟨vb, 0, none⟩) 3 3)).setCell (p := ⟨P, 3, none⟩) (npe) (.slice (some ⟨sb, 0, none⟩) nk nk)
          clear c0 c1 c2 c3 fz zp
          refine hK.out _ _ (HMK.out _ kz) (fun hHeld => ?_)
          clear hK K
          try go_frame
          refine wpAnyH_done (by kernel_rfl) ?_ _
          go_wp2
          go_meet
          exact ⟨P, eb, vb, sb, _, _, rfl, hq, hE, hv, hs, ⟨npv.symm, nps.symm, npe.symm, nev.symm, nsv.symm, nse⟩, hPw, kz⟩
        · have ls := (hs.lt sb rfl).2
          have lp := hp.lt
          refine step_make_full rfl (.const (.int .i64 3)) (.const (.int .i64 3)) 29 rfl W0.heap.size 64 i1 _ 1 Tryz.underlying29 hi1 hz10 hz11 .i64 .i64 _ _ 3 rfl rfl (by simp) (by simp) (by rw [hz12]; omega) (by unfold maxLen; omega) k0ps.size ?_
          intro wv hov hgv
          have bv : Below ws.heap.size ws wv := (Below.refl _ _).grown hgv (Nat.le_refl _) (by simp)
          have k0psv : Below W0.heap.size W0 wv := k0ps.trans (bv.mono k0ps.size)
          have hs := row_keep hs bv
          have hp := hp.keep bv
          have nsv : sb ≠ ws.heap.size := by omega
          have npv : P ≠ ws.heap.size := by omega
          clear ls lp
          generalize ws.heap.size = vb at hov nsv npv ⊢
          have hv : wv.ownsRow W0.heap.size 64 1 (.slice (some ⟨vb, 0, none⟩) 3 3) 3 _ := hov
          clear hov hgv bv
          refine hK.out _ _ (HMK.out _ k0psv) (fun hHeld => ?_)
          clear hK K
          try go_frame
          refine wpAnyH_ready (rs := [4]) (by kernel_rfl) (by simp) ?_
          refine consL rfl (fun K hK => ?_) AllReadyH.nil
          go_simp
          have lv := (hv.lt vb rfl).2
          have ls := (hs.lt sb rfl).2
          have lp := hp.lt
          refine (CE.out _ k0psv).mono ?_
          rintro e we ⟨eb, rfl, heb, hE0, be⟩
          have nve : vb ≠ eb := by omega
          have nse : sb ≠ eb := by omega
          have npe : P ≠ eb := by omega
          have k0psve : Below W0.heap.size W0 we := k0psv.trans (be.mono k0psv.size)
          have hv := row_keep hv be
          have hs := row_keep hs be
          have hp := hp.keep be
          have hE := hE0
          clear be heb hE0
          clear lv ls lp
          go_wp2_with fail
          refine hK.out _ _ (HMK.out _ k0psve) (fun hHeld => ?_)
          clear hK K
          try go_frame
          refine tkL 10 hHeld ?_; try go_frame
          refine wpAnyH_ready (rs := [12]) (by kernel_rfl) (by simp) ?_
          refine consL rfl (fun K hK => ?_) AllReadyH.nil
          have c0 := hp.c0
          have c1 := hp.c1
          have c2 := hp.c2
          have c3 := hp.c3
          have fz := hp.fz
          have zp := hp.lt
          go_simp
          have kz := (((k0psve.setCell (p := ⟨P, 0, none⟩) hPw (.int .i64 q)).setCell (p := ⟨P, 1, none⟩) hPw (.slice (some ⟨eb, 0, none⟩) nm nm)).setCell (p := ⟨P, 2, none⟩) hPw (.slice (some ⟨vb, 0, none⟩) 3 3)).setCell (p := ⟨P, 3, none⟩) hPw (.slice (some ⟨sb, 0, none⟩) nk nk)
          have hq := (((hp.set0 (.int .i64 q)).set1 (.slice (some ⟨eb, 0, none⟩) nm nm)).set2 (.slice (some ⟨vb, 0, none⟩) 3 3)).set3 (.slice (some ⟨sb, 0, none⟩) nk nk)
          have hv := row_set (row_set (row_set (row_set hv (npv.symm) 0 (.int .i64 q)) (npv.symm) 1 (.slice (some ⟨eb, 0, none⟩) nm nm)) (npv.symm) 2 (.slice (some ⟨vb, 0, none⟩) 3 3)) (npv.symm) 3 (.slice (some ⟨sb, 0, none⟩) nk nk)
          have hs := row_set (row_set (row_set (row_set hs (nps.symm) 0 (.int .i64 q)) (nps.symm) 1 (.slice (some ⟨eb, 0, none⟩) nm nm)) (nps.symm) 2 (.slice (some ⟨vb, 0, none⟩) 3 3)) (nps.symm) 3 (.slice (some ⟨sb, 0, none⟩) nk nk)
          have hE := (((hE.setCell (p := ⟨P, 0, none⟩) (npe) (.int .i64 q)).setCell (p := ⟨P, 1, none⟩) (npe) (.slice (some ⟨eb, 0, none⟩) nm nm)).setCell (p := ⟨P, 2, none⟩) (npe) (.slice (some ⟨vb, 0, none⟩) 3 3)).setCell (p := ⟨P, 3, none⟩) (npe) (.slice (some ⟨sb, 0, none⟩) nk nk)
          clear c0 c1 c2 c3 fz zp
          refine hK.out _ _ (HMK.out _ kz) (fun hHeld => ?_)
          clear hK K
          try go_frame
          refine wpAnyH_done (by kernel_rfl) ?_ _
          go_wp2
          go_meet
          exact ⟨P, eb, vb, sb, _, _, rfl, hq, hE, hv, hs, ⟨npv.symm, nps.symm, npe.symm, nve, nsv.symm, nse⟩, hPw, kz⟩
  case rest =>
    obtain ⟨P, eb, vb, sb, xs, ys, rfl, hbox, hE, hrow, hs, hne, hPw, hbw⟩ := hcut
    have HNE : Hid (vb ≠ P ∧ sb ≠ P ∧ eb ≠ P ∧ vb ≠ eb ∧ vb ≠ sb ∧ sb ≠ eb) := hne
    have hvw : W0.heap.size ≤ vb := (hrow.lt vb rfl).1
    have a2' := cell_later hbw x2
    have a3' := cell_later hbw x3
    have a4' := cell_later hbw x4
    have za := World.block_lt_of_cell? _ _ a2'
    simp only at za
    obtain ⟨Z, hZ⟩ : ∃ Z, Z = wc.heap.size := ⟨_, rfl⟩
    have hvZ : vb < Z := by rw [hZ]; exact (hrow.lt vb rfl).2
    have hsZ : sb < Z := by rw [hZ]; exact (hs.lt sb rfl).2
    have heZ : eb < Z := by rw [hZ]; exact hE.lt.2
    have hWZ : W0.heap.size ≤ Z := by rw [hZ]; exact hbw.size
    have hZ0 : Z ≤ wc.heap.size := by omega
    have HB0 : Hid (Box4 wc P (.int .i64 q) (.slice (some ⟨eb, 0, none⟩) nm nm) (.slice (some ⟨vb, 0, none⟩) 3 3) (.slice (some ⟨sb, 0, none⟩) nk nk) ∧ OwnE wc W0.heap.size eb nm nm M ∧ wc.ownsRow W0.heap.size 64 1 (.slice (some ⟨vb, 0, none⟩) 3 3) 3 xs ∧ wc.ownsRow W0.heap.size 3 1 (.slice (some ⟨sb, 0, none⟩) nk nk) nk ys ∧ Below W0.heap.size W0 wc ∧ Z ≤ wc.heap.size) := ⟨hbox, hE, hrow, hs, hbw, hZ0⟩
    clear k0 HMK CE hbox hrow hbw hE hs hne hZ hZ0
    go_wp2
    go_loopw [19] (fun iv wr => ∃ (k : Nat) (xs : List Value) (gs bs : Nat → Nat) (es : Nat → Nat → Nat), k ≤ 3 ∧ iv = .int .i64 k ∧ Box4 wr P (.int .i64 q) (.slice (some ⟨eb, 0, none⟩) nm nm) (.slice (some ⟨vb, 0, none⟩) 3 3) (.slice (some ⟨sb, 0, none⟩) nk nk) ∧ OwnE wr W0.heap.size eb nm nm M ∧ wr.ownsRow W0.heap.size 64 1 (.slice (some ⟨vb, 0, none⟩) 3 3) 3 xs ∧ wr.ownsRow W0.heap.size 3 1 (.slice (some ⟨sb, 0, none⟩) nk nk) nk ys ∧ Below W0.heap.size W0 wr ∧ HasO Z wr xs [A, B, C] k gs bs es ∧ Z ≤ wr.heap.size) (fun iv _ => 3 - (intOf iv).toNat)
    case atStart => exact ⟨0, xs, fun _ => 0, fun _ => Z, fun _ _ => 0, by omega, rfl, HB0.out.1, HB0.out.2.1, HB0.out.2.2.1, HB0.out.2.2.2.1, HB0.out.2.2.2.2.1, ⟨rfl, HB0.out.2.2.2.2.2, fun _ _ _ _ => Nat.le_refl _, fun j hj => absurd hj (Nat.not_lt_zero _)⟩, HB0.out.2.2.2.2.2⟩
    case round =>
      obtain ⟨k, xs, gs, bs, es, hk, rfl, hbox, hE, hrow, hs, hbw, hhas, hZ1⟩ := hrel
      have hne := HNE.out
      have HAS : Hid (HasO Z wr xs [A, B, C] k gs bs es) := hhas
      have HBW : Hid (Below W0.heap.size W0 wr) := hbw
      have HZ : Hid (Z ≤ wr.heap.size) := hZ1
      clear hhas a2' a3' a4' za hZ1
      have k0 : Below wr.heap.size wr wr.drew := (Below.refl _ wr).drew
      have HM5 : Hid (∀ w', Below wr.heap.size wr w' → (w'.cell? ⟨P, 2, none⟩ = some (.slice (some ⟨vb, 0, none⟩) 3 3) ∧ P < w'.heap.size ∧ vb < w'.heap.size)) := fun w' kk => ⟨cell_later kk hbox.c2, Nat.lt_of_lt_of_le hbox.lt kk.size, Nat.lt_of_lt_of_le (hrow.lt vb rfl).2 kk.size⟩
      have HS5 : Hid (∀ w' o u, Below wr.heap.size wr w' → ((w'.setCell ⟨vb, o, none⟩ u).cell? ⟨P, 2, none⟩ = some (.slice (some ⟨vb, 0, none⟩) 3 3) ∧ P < (w'.setCell ⟨vb, o, none⟩ u).heap.size ∧ vb < (w'.setCell ⟨vb, o, none⟩ u).heap.size)) := fun w' o u kk => ⟨(cell_elsewhere u (fun e => hne.1 e.1.symm)).trans (cell_later kk hbox.c2), by simpa [World.setCell] using Nat.lt_of_lt_of_le hbox.lt kk.size, by simpa [World.setCell] using Nat.lt_of_lt_of_le (hrow.lt vb rfl).2 kk.size⟩
      have hcase : k = 0 ∨ k = 1 ∨ k = 2 ∨ k = 3 := by omega
      rcases hcase with rfl | rfl | rfl | rfl
      · have hix := fun w => idxR_0 w a0 a1 a2 n0 c0 n1 c1 n2 c2
        go_wp2_with fail
        refine wp_region_held_drew (S := (fun w' => w'.cell? ⟨P, 2, none⟩ = some (.slice (some ⟨vb, 0, none⟩) 3 3) ∧ P < w'.heap.size ∧ vb < w'.heap.size)) (by kernel_rfl) (HM5.out _ k0) (fun hHeld => ?_)
        refine tkL 0 hHeld ?_; try go_frame
        refine tkL 1 hHeld ?_; try go_frame
        refine tkL 2 hHeld ?_; try go_frame
        refine tkL 3 hHeld ?_; try go_frame
        refine wpAnyH_ready (rs := [4]) (by kernel_rfl) (by simp) ?_
        refine consL rfl (fun K hK => ?_) AllReadyH.nil
        go_simp
        refine (CR0.out _ (HBW.out.trans (k0.mono HBW.out.size))).mono ?_
        rintro e w1 ⟨rb, rfl, hrb, br⟩
        have k1 : Below wr.heap.size wr w1 := k0.trans (br.mono k0.size)
        obtain ⟨e1, hrb⟩ := hrb
        have HRB : Hid (RunsO wr.drew.heap.size w1.heap.size w1 rb n0 A e1) := hrb
        have hdz : wr.heap.size ≤ wr.drew.heap.size := k0.size
        clear br hrb
        go_wp2_with fail
        refine hK.out _ _ (HM5.out _ k1) (fun hHeld => ?_)
        clear hK K
        try go_frame
        refine tkL 5 hHeld ?_; try go_frame
        refine wpAnyH_ready (rs := [6]) (by kernel_rfl) (by simp) ?_
        refine consL rfl (fun K hK => ?_) AllReadyH.nil
        have hr1 := row_keep hrow k1
        have c0 : ∃ v, w1.cell? ⟨vb, 0, none⟩ = some v := ⟨_, (hr1.cellAt 0 (by omega)).trans (List.getElem?_eq_getElem (by rw [hr1.1]; omega))⟩
        obtain ⟨v0, c0⟩ := c0
        have f0 := hr1.frozenAt 0
        go_simp
        refine hK.out _ _ (HS5.out _ _ _ k1) (fun hHeld => ?_)
        clear hK K
        try go_frame
        refine wpAnyH_done (by kernel_rfl) ?_ _
        have t0 := (hr1.stored 0 (.slice (some ⟨rb, 0, none⟩) n0 n0)).1
        have hx3 := hr1.1
        have bq := (hbox.keep k1).other (b' := vb) (o := 0) hne.1 (.slice (some ⟨rb, 0, none⟩) n0 n0)
        have kq : Below W0.heap.size W0 (w1.setCell ⟨vb, 0, none⟩ (.slice (some ⟨rb, 0, none⟩) n0 n0)) := (HBW.out.trans (k1.mono HBW.out.size)).setCell (p := ⟨vb, 0, none⟩) hvw _
        have eq1 := (hE.below k1).setCell (p := ⟨vb, 0, none⟩) hne.2.2.2.1 (.slice (some ⟨rb, 0, none⟩) n0 n0)
        have sq1 := row_set (row_keep hs k1) hne.2.2.2.2.1.symm 0 (.slice (some ⟨rb, 0, none⟩) n0 n0)
        have hsm : Same Z w1 (w1.setCell ⟨vb, 0, none⟩ (.slice (some ⟨rb, 0, none⟩) n0 n0)) := Same.of_set _ _ hvZ
        have hz1 : Z ≤ (w1.setCell ⟨vb, 0, none⟩ (.slice (some ⟨rb, 0, none⟩) n0 n0)).heap.size := Nat.le_trans (Nat.le_trans HZ.out k1.size) hsm.1
        have hh1 := hasO_next (x := rb) (n := n0) (B := A) HAS.out hx3 k1 rfl rfl hvZ HRB.out hdz rfl
        have HT : Hid (_ ∧ _ ∧ _ ∧ _ ∧ _ ∧ _ ∧ _) := ⟨bq, eq1, t0, sq1, kq, hh1, hz1⟩
        clear hHeld k0 k1 HM5 HS5 c0 f0 hr1 t0 bq kq eq1 sq1 hh1 hz1 hsm hbox hrow hE hs HRB
        go_wp2
        go_roundw
        case rel =>
          obtain ⟨g', b', e', hh⟩ := HT.out.2.2.2.2.2.1
          exact ⟨0 + 1, _, g', b', e', by omega, by go_num, HT.out.1, HT.out.2.1, HT.out.2.2.1, HT.out.2.2.2.1, HT.out.2.2.2.2.1, hh, HT.out.2.2.2.2.2.2⟩
        case measure => simp [intOf]
      · have hix := fun w => idxR_1 w a0 a1 a2 n0 c0 n1 c1 n2 c2
        go_wp2_with fail
        refine wp_region_held_drew (S := (fun w' => w'.cell? ⟨P, 2, none⟩ = some (.slice (some ⟨vb, 0, none⟩) 3 3) ∧ P < w'.heap.size ∧ vb < w'.heap.size)) (by kernel_rfl) (HM5.out _ k0) (fun hHeld => ?_)
        refine tkL 0 hHeld ?_; try go_frame
        refine tkL 1 hHeld ?_; try go_frame
        refine tkL 2 hHeld ?_; try go_frame
        refine tkL 3 hHeld ?_; try go_frame
        refine wpAnyH_ready (rs := [4]) (by kernel_rfl) (by simp) ?_
        refine consL rfl (fun K hK => ?_) AllReadyH.nil
        go_simp
        refine (CR1.out _ (HBW.out.trans (k0.mono HBW.out.size))).mono ?_
        rintro e w1 ⟨rb, rfl, hrb, br⟩
        have k1 : Below wr.heap.size wr w1 := k0.trans (br.mono k0.size)
        obtain ⟨e1, hrb⟩ := hrb
        have HRB : Hid (RunsO wr.drew.heap.size w1.heap.size w1 rb n1 B e1) := hrb
        have hdz : wr.heap.size ≤ wr.drew.heap.size := k0.size
        clear br hrb
        go_wp2_with fail
        refine hK.out _ _ (HM5.out _ k1) (fun hHeld => ?_)
        clear hK K
        try go_frame
        refine tkL 5 hHeld ?_; try go_frame
        refine wpAnyH_ready (rs := [6]) (by kernel_rfl) (by simp) ?_
        refine consL rfl (fun K hK => ?_) AllReadyH.nil
        have hr1 := row_keep hrow k1
        have c0 : ∃ v, w1.cell? ⟨vb, 1, none⟩ = some v := ⟨_, (hr1.cellAt 1 (by omega)).trans (List.getElem?_eq_getElem (by rw [hr1.1]; omega))⟩
        obtain ⟨v0, c0⟩ := c0
        have f0 := hr1.frozenAt 1
        go_simp
        refine hK.out _ _ (HS5.out _ _ _ k1) (fun hHeld => ?_)
        clear hK K
        try go_frame
        refine wpAnyH_done (by kernel_rfl) ?_ _
        have t0 := (hr1.stored 1 (.slice (some ⟨rb, 0, none⟩) n1 n1)).1
        have hx3 := hr1.1
        have bq := (hbox.keep k1).other (b' := vb) (o := 1) hne.1 (.slice (some ⟨rb, 0, none⟩) n1 n1)
        have kq : Below W0.heap.size W0 (w1.setCell ⟨vb, 1, none⟩ (.slice (some ⟨rb, 0, none⟩) n1 n1)) := (HBW.out.trans (k1.mono HBW.out.size)).setCell (p := ⟨vb, 1, none⟩) hvw _
        have eq1 := (hE.below k1).setCell (p := ⟨vb, 1, none⟩) hne.2.2.2.1 (.slice (some ⟨rb, 0, none⟩) n1 n1)
        have sq1 := row_set (row_keep hs k1) hne.2.2.2.2.1.symm 1 (.slice (some ⟨rb, 0, none⟩) n1 n1)
        have hsm : Same Z w1 (w1.setCell ⟨vb, 1, none⟩ (.slice (some ⟨rb, 0, none⟩) n1 n1)) := Same.of_set _ _ hvZ
        have hz1 : Z ≤ (w1.setCell ⟨vb, 1, none⟩ (.slice (some ⟨rb, 0, none⟩) n1 n1)).heap.size := Nat.le_trans (Nat.le_trans HZ.out k1.size) hsm.1
        have hh1 := hasO_next (x := rb) (n := n1) (B := B) HAS.out hx3 k1 rfl rfl hvZ HRB.out hdz rfl
        have HT : Hid (_ ∧ _ ∧ _ ∧ _ ∧ _ ∧ _ ∧ _) := ⟨bq, eq1, t0, sq1, kq, hh1, hz1⟩
        clear hHeld k0 k1 HM5 HS5 c0 f0 hr1 t0 bq kq eq1 sq1 hh1 hz1 hsm hbox hrow hE hs HRB
        go_wp2
        go_roundw
        case rel =>
          obtain ⟨g', b', e', hh⟩ := HT.out.2.2.2.2.2.1
          exact ⟨1 + 1, _, g', b', e', by omega, by go_num, HT.out.1, HT.out.2.1, HT.out.2.2.1, HT.out.2.2.2.1, HT.out.2.2.2.2.1, hh, HT.out.2.2.2.2.2.2⟩
        case measure => simp [intOf]
      · have hix := fun w => idxR_2 w a0 a1 a2 n0 c0 n1 c1 n2 c2
        go_wp2_with fail
        refine wp_region_held_drew (S := (fun w' => w'.cell? ⟨P, 2, none⟩ = some (.slice (some ⟨vb, 0, none⟩) 3 3) ∧ P < w'.heap.size ∧ vb < w'.heap.size)) (by kernel_rfl) (HM5.out _ k0) (fun hHeld => ?_)
        refine tkL 0 hHeld ?_; try go_frame
        refine tkL 1 hHeld ?_; try go_frame
        refine tkL 2 hHeld ?_; try go_frame
        refine tkL 3 hHeld ?_; try go_frame
        refine wpAnyH_ready (rs := [4]) (by kernel_rfl) (by simp) ?_
        refine consL rfl (fun K hK => ?_) AllReadyH.nil
        go_simp
        refine (CR2.out _ (HBW.out.trans (k0.mono HBW.out.size))).mono ?_
        rintro e w1 ⟨rb, rfl, hrb, br⟩
        have k1 : Below wr.heap.size wr w1 := k0.trans (br.mono k0.size)
        obtain ⟨e1, hrb⟩ := hrb
        have HRB : Hid (RunsO wr.drew.heap.size w1.heap.size w1 rb n2 C e1) := hrb
        have hdz : wr.heap.size ≤ wr.drew.heap.size := k0.size
        clear br hrb
        go_wp2_with fail
        refine hK.out _ _ (HM5.out _ k1) (fun hHeld => ?_)
        clear hK K
        try go_frame
        refine tkL 5 hHeld ?_; try go_frame
        refine wpAnyH_ready (rs := [6]) (by kernel_rfl) (by simp) ?_
        refine consL rfl (fun K hK => ?_) AllReadyH.nil
        have hr1 := row_keep hrow k1
        have c0 : ∃ v, w1.cell? ⟨vb, 2, none⟩ = some v := ⟨_, (hr1.cellAt 2 (by omega)).trans (List.getElem?_eq_getElem (by rw [hr1.1]; omega))⟩
        obtain ⟨v0, c0⟩ := c0
        have f0 := hr1.frozenAt 2
        go_simp
        refine hK.out _ _ (HS5.out _ _ _ k1) (fun hHeld => ?_)
        clear hK K
        try go_frame
        refine wpAnyH_done (by kernel_rfl) ?_ _
        have t0 := (hr1.stored 2 (.slice (some ⟨rb, 0, none⟩) n2 n2)).1
        have hx3 := hr1.1
        have bq := (hbox.keep k1).other (b' := vb) (o := 2) hne.1 (.slice (some ⟨rb, 0, none⟩) n2 n2)
        have kq : Below W0.heap.size W0 (w1.setCell ⟨vb, 2, none⟩ (.slice (some ⟨rb, 0, none⟩) n2 n2)) := (HBW.out.trans (k1.mono HBW.out.size)).setCell (p := ⟨vb, 2, none⟩) hvw _
        have eq1 := (hE.below k1).setCell (p := ⟨vb, 2, none⟩) hne.2.2.2.1 (.slice (some ⟨rb, 0, none⟩) n2 n2)
        have sq1 := row_set (row_keep hs k1) hne.2.2.2.2.1.symm 2 (.slice (some ⟨rb, 0, none⟩) n2 n2)
        have hsm : Same Z w1 (w1.setCell ⟨vb, 2, none⟩ (.slice (some ⟨rb, 0, none⟩) n2 n2)) := Same.of_set _ _ hvZ
        have hz1 : Z ≤ (w1.setCell ⟨vb, 2, none⟩ (.slice (some ⟨rb, 0, none⟩) n2 n2)).heap.size := Nat.le_trans (Nat.le_trans HZ.out k1.size) hsm.1
        have hh1 := hasO_next (x := rb) (n := n2) (B := C) HAS.out hx3 k1 rfl rfl hvZ HRB.out hdz rfl
        have HT : Hid (_ ∧ _ ∧ _ ∧ _ ∧ _ ∧ _ ∧ _) := ⟨bq, eq1, t0, sq1, kq, hh1, hz1⟩
        clear hHeld k0 k1 HM5 HS5 c0 f0 hr1 t0 bq kq eq1 sq1 hh1 hz1 hsm hbox hrow hE hs HRB
        go_wp2
        go_roundw
        case rel =>
          obtain ⟨g', b', e', hh⟩ := HT.out.2.2.2.2.2.1
          exact ⟨2 + 1, _, g', b', e', by omega, by go_num, HT.out.1, HT.out.2.1, HT.out.2.2.1, HT.out.2.2.2.1, HT.out.2.2.2.2.1, hh, HT.out.2.2.2.2.2.2⟩
        case measure => simp [intOf]
      · have y5 := cell_later hbw x5
        have zy := World.block_lt_of_cell? _ _ y5
        simp only at zy
        obtain ⟨wz, hwz⟩ : ∃ wz, wz = wr.setCells sb 0 (S.map (.int .i64)) := ⟨_, rfl⟩
        have hSl : S.length = nk := HS.out.length
        have hcp : (Builtin.copy_ #[24, 24] 3 #[.slice (some ⟨sb, 0, none⟩) nk nk, .slice ak nk ck]).run Tryz.prog wr = .ok (.int .i64 nk) wz := by
          rw [hwz]
          by_cases hk0 : nk = 0
          · have hS0 : S = [] := List.length_eq_zero_iff.1 (by omega)
            subst hS0
            subst hk0
            exact run_copy_none (P := Tryz.prog) wr 24 24 3 3 (some ⟨sb, 0, none⟩) ak 0 0 0 ck Tryz.underlying24 (by kernel_rfl) (by simp)
          · obtain ⟨b', o', rfl, hb'⟩ := (HS.out.keep KW.out).form (by omega)
            have := run_copy_cells (P := Tryz.prog) wr 24 24 3 3 sb 0 nk nk ⟨b', o', none⟩ nk ck (S.map (.int .i64)) Tryz.underlying24 (by kernel_rfl) (by rw [List.length_map, hSl]; exact (Nat.min_self nk).symm) ?_ ?_ ?_ ?_
            · rw [this, List.length_map, hSl]; rfl
            · intro j v hj
              rw [List.getElem?_map] at hj
              rw [Go.WideShapes.add_plain]
              cases hx : S[j]? with
              | none => rw [hx] at hj; cases hj
              | some z =>
                rw [hx] at hj
                cases hj
                have hjl : j < nk := by rw [← hSl]; exact (List.getElem?_eq_some_iff.1 hx).1
                obtain ⟨z', hz', _, cz⟩ := ((HS.out.keep KW.out).keep hbw).num (Below.refl _ wr) j hjl
                rw [hx] at hz'
                cases hz'
                exact cz
            · intro j hj
              rw [List.length_map, hSl] at hj
              rw [Nat.zero_add]
              rw [hs.cellAt j (by omega), List.getElem?_eq_getElem (by rw [hs.1]; omega)]
              rfl
            · exact fun j _ => hs.frozenAt _
            · intro v hv
              obtain ⟨z, _, rfl⟩ := List.mem_map.1 hv
              rfl
        have hbz : Box4 wz P (.int .i64 q) (.slice (some ⟨eb, 0, none⟩) nm nm) (.slice (some ⟨vb, 0, none⟩) 3 3) (.slice (some ⟨sb, 0, none⟩) nk nk) := by rw [hwz]; exact setCells_ind (R := fun w' => Box4 w' P (.int .i64 q) (.slice (some ⟨eb, 0, none⟩) nm nm) (.slice (some ⟨vb, 0, none⟩) 3 3) (.slice (some ⟨sb, 0, none⟩) nk nk)) (fun w' o u h => h.other hne.2.1 u) _ _ _ hbox
        have hEz : OwnE wz W0.heap.size eb nm nm M := by rw [hwz]; exact setCells_ind (R := fun w' => OwnE w' W0.heap.size eb nm nm M) (fun w' o u h => h.setCell (p := ⟨sb, o, none⟩) hne.2.2.2.2.2 u) _ _ _ hE
        have hrz : wz.ownsRow W0.heap.size 64 1 (.slice (some ⟨vb, 0, none⟩) 3 3) 3 xs := by rw [hwz]; exact setCells_ind (R := fun w' => w'.ownsRow W0.heap.size 64 1 (.slice (some ⟨vb, 0, none⟩) 3 3) 3 xs) (fun w' o u h => row_set h hne.2.2.2.2.1 o u) _ _ _ hrow
        have hbz0 : Below W0.heap.size W0 wz := by rw [hwz]; exact setCells_ind (R := fun w' => Below W0.heap.size W0 w') (fun w' o u h => h.setCell (p := ⟨sb, o, none⟩) (hs.lt sb rfl).1 u) _ _ _ hbw
        have hsmz : Same Z wr wz := by rw [hwz]; exact setCells_ind (R := fun w' => Same Z wr w') (fun w' o u h => h.trans (Same.of_set _ _ hsZ)) _ _ _ ⟨Nat.le_refl _, fun _ _ _ _ => rfl⟩
        have hsw : W0.heap.size ≤ sb := (hs.lt sb rfl).1
        have hiz : IntsIn W0.heap.size wz (some ⟨sb, 0, none⟩) nk nk S := by
          refine ⟨hSl, Nat.le_refl _, by unfold maxLen; omega, HS.out.wfs, (fun e => by cases e), ?_, ?_⟩
          · rintro x e hp
            cases e
            exact ⟨Nat.lt_of_lt_of_le (hs.lt sb rfl).2 hsmz.1, rfl, hsw⟩
          · rintro x e i hi
            cases e
            have := World.cell?_setCells_in sb (S.map (Value.int .i64)) 0 wr (fun j hj => by
              rw [List.length_map, hSl] at hj
              rw [Nat.zero_add, hs.cellAt j (by omega), List.getElem?_eq_getElem (by rw [hs.1]; omega)]
              rfl) i (by rw [List.length_map]; exact hi)
            rw [hwz]
            simpa using this
        have hkz : KeepO sb (sb + 1) wr wz := by rw [hwz]; exact setCells_ind (R := fun w' => KeepO sb (sb + 1) wr w') (fun w' o u h => h.trans ⟨rfl, rfl, rfl, by simp [World.setCell], fun q _ hq => Below.heap_setCell _ _ _ _ (fun e => by have e' : q = sb := e; omega)⟩) _ _ _ (KeepO.refl _ _ _)
        have HHO : Hid (HasO Z wz xs [A, B, C] 3 gs bs es) := HAS.out.keepO hkz hsZ
        have HIO : Hid (IntsO W0.heap.size wz sb nk S) := by rw [hwz]; exact intsO_set hs hSl
        have HHZ : Hid (HasR Z wz xs [A, B, C] 3) := HHO.out.hasR
        clear hkz
        have c0' := hbz.c0
        have c1' := hbz.c1
        have c2' := hbz.c2
        have c3' := hbz.c3
        have c3r := hbox.c3
        have zpr := hbox.lt
        have zp := hbz.lt
        have bq := BR.out.keep hbz0
        have d0 := bq.c0
        have d1 := bq.c1
        have d2 := bq.c2
        have d3 := bq.c3
        have df := bq.fz
        have zd := bq.lt
        have HROW : Hid (wz.ownsRow W0.heap.size 64 1 (.slice (some ⟨vb, 0, none⟩) 3 3) 3 xs) := hrz
        have HEZ : Hid (OwnE wz W0.heap.size eb nm nm M) := hEz
        have HIZ : Hid (IntsIn W0.heap.size wz (some ⟨sb, 0, none⟩) nk nk S) := hiz
        have HBQ : Hid (Box4 wz (X + 1) (.int .i64 0) (.slice none 0 0) (.slice none 0 0) (.slice none 0 0)) := bq
        have HBZ : Hid (Below W0.heap.size W0 wz) := hbz0
        have heb : W0.heap.size ≤ eb := hE.lt.1
        clear hrow hbox bq HM5 HS5 k0 hbw hbz hEz hrz hbz0 hsmz hiz hE hs hwz HAS
        go_wp2
        refine bodyPost_ret (v := .agg #[.int .i64 q, .slice (some ⟨eb, 0, none⟩) nm nm, .slice (some ⟨vb, 0, none⟩) 3 3, .slice (some ⟨sb, 0, none⟩) nk nk]) ?_ rfl ⟨eb, vb, sb, gs, bs, es, rfl, ?_, ?_, ?_⟩
        · have e := (((HBQ.out.set0 (.int .i64 q)).set1 (.slice (some ⟨eb, 0, none⟩) nm nm)).set2 (.slice (some ⟨vb, 0, none⟩) 3 3)).set3 (.slice (some ⟨sb, 0, none⟩) nk nk)
          simp [results, Tryz.results79, go_sem, e.c0, e.c1, e.c2, e.c3]
        · have hsz := HSZ.out
          have hxw := HXW.out
          have hvX : vb ≠ X + 1 := by omega
          have hm : Same W0.heap.size wz ((((wz.setCell ⟨X + 1, 0, none⟩ (.int .i64 q)).setCell ⟨X + 1, 1, none⟩ (.slice (some ⟨eb, 0, none⟩) nm nm)).setCell ⟨X + 1, 2, none⟩ (.slice (some ⟨vb, 0, none⟩) 3 3)).setCell ⟨X + 1, 3, none⟩ (.slice (some ⟨sb, 0, none⟩) nk nk)) := (((Same.of_set _ _ (by show X + 1 < _; omega)).trans (Same.of_set _ _ (by show X + 1 < _; omega))).trans (Same.of_set _ _ (by show X + 1 < _; omega))).trans (Same.of_set _ _ (by show X + 1 < _; omega))
          have r4 := row_set (row_set (row_set (row_set HROW.out hvX 0 (.int .i64 q)) hvX 1 (.slice (some ⟨eb, 0, none⟩) nm nm)) hvX 2 (.slice (some ⟨vb, 0, none⟩) 3 3)) hvX 3 (.slice (some ⟨sb, 0, none⟩) nk nk)
          have hE : EntsIn W0.heap.size wz (some ⟨eb, 0, none⟩) nm nm M := ⟨HEZ.out.entsAt, fun x e _ => by cases e; exact heb⟩
          have hmZ : ∀ {u}, Same W0.heap.size wz u → Same Z wz u := fun h => ⟨h.1, fun b o hb hl => h.2 b o (by omega) hl⟩
          exact ⟨(hE.same hm).mono (by omega), levels_hasR r4 (by omega) (by omega) rfl (HHZ.out.same (hmZ hm)), (HIZ.out.same hm).lower (by omega)⟩
        · have hsz := HSZ.out
          have hxw := HXW.out
          have hvX : vb ≠ X + 1 := by omega
          have hsX : sb ≠ X + 1 := by omega
          have heX : eb ≠ X + 1 := by omega
          have r4 := row_set (row_set (row_set (row_set HROW.out hvX 0 (.int .i64 q)) hvX 1 (.slice (some ⟨eb, 0, none⟩) nm nm)) hvX 2 (.slice (some ⟨vb, 0, none⟩) 3 3)) hvX 3 (.slice (some ⟨sb, 0, none⟩) nk nk)
          have s4 := row_set (row_set (row_set (row_set HIO.out.2 hsX 0 (.int .i64 q)) hsX 1 (.slice (some ⟨eb, 0, none⟩) nm nm)) hsX 2 (.slice (some ⟨vb, 0, none⟩) 3 3)) hsX 3 (.slice (some ⟨sb, 0, none⟩) nk nk)
          have e4 := (((HEZ.out.setCell (p := ⟨X + 1, 0, none⟩) heX.symm (.int .i64 q)).setCell (p := ⟨X + 1, 1, none⟩) heX.symm (.slice (some ⟨eb, 0, none⟩) nm nm)).setCell (p := ⟨X + 1, 2, none⟩) heX.symm (.slice (some ⟨vb, 0, none⟩) 3 3)).setCell (p := ⟨X + 1, 3, none⟩) heX.symm (.slice (some ⟨sb, 0, none⟩) nk nk)
          have hset : ∀ (w' : World) (o : Nat) (u : Value), KeepO (X + 1) (X + 1 + 1) w' (w'.setCell ⟨X + 1, o, none⟩ u) := fun w' o u => ⟨rfl, rfl, rfl, by simp [World.setCell], fun q _ hq => Below.heap_setCell _ _ _ _ (fun e => by have e' : q = X + 1 := e; omega)⟩
          have h4 := HHO.out.keepO ((((hset wz 0 (.int .i64 q)).trans (hset _ 1 (.slice (some ⟨eb, 0, none⟩) nm nm))).trans (hset _ 2 (.slice (some ⟨vb, 0, none⟩) 3 3))).trans (hset _ 3 (.slice (some ⟨sb, 0, none⟩) nk nk))) (by omega)
          have hlv := levsO_of (lo := w.heap.size) r4 (by omega) (by omega) hvZ rfl h4
          exact ⟨e4.mono (by omega), hlv, ⟨HIO.out.1, row_lower s4 (by omega)⟩, by rw [h4.1]; exact ⟨heZ, hsZ⟩⟩
        · have hx : w.heap.size ≤ X + 1 := by have := HXW.out; omega
          exact ((((KW.out.trans (HBZ.out.mono KW.out.size)).setCell (p := ⟨X + 1, 0, none⟩) hx _).setCell (p := ⟨X + 1, 1, none⟩) hx _).setCell (p := ⟨X + 1, 2, none⟩) hx _).setCell (p := ⟨X + 1, 3, none⟩) hx _
end Go.Proofs.YtlmgojlffgkciaaGreat
