/-
  The document's BookPost, by a walk of its Go text.
-/
import Derived.Test.YtfblpbihpmhgjaaDoorBp18
import Derived.Test.YtfblpbihpmhgjaaDoorBp19
namespace Go.Proofs.YtfblpbihpmhgjaaDoor
open Go.RowKit

/-- What putting a posting behind others answers: the postings, and how it ends. -/
def postO (B : List PostD) (p : PostD) : List PostD × Int := if bookB B = true then (if codeP B p = 0 then (B ++ [p], 0) else (B, codeP B p)) else ([], 1)
/-- Answered are the postings of postO, in memory from base on. -/
def PostR (base : Nat) (B : List PostD) (p : PostD) (e : Ending) (w' : World) : Prop := ∃ v G, e = .returned (.tuple #[v, .int .i64 (postO B p).2]) ∧ PostsZ w' base v G (postO B p).1
theorem PostsZ.mono {w : World} {base base' : Nat} {v : Value} {G : List (Nat × Nat)} {B : List PostD} (h : PostsZ w base v G B) (hb : base' ≤ base) : PostsZ w base' v G B := ⟨row_mono h.row hb, h.len, fun i g p h1 h2 => row_mono (h.own i g p h1 h2) hb, h.nd⟩
theorem book_small {B : List PostD} (h : bookB B = true) : B.length ≤ 40 ∧ ∀ p ∈ B, postB p.1 p.2 = true := by
  refine ⟨okUp_len (Nat.le_refl _) h, fun p hp => ?_⟩
  have := okUp_good (Nat.le_refl _) h p
  rw [List.take_length] at this
  exact this hp
theorem code_fair {B : List PostD} {p : PostD} (h : codeP B p = 0) : fairB p.1 p.2 = true := by
  unfold codeP at h
  cases hf : fairB p.1 p.2 with
  | true => rfl
  | false => rw [hf] at h; simp at h
theorem postO_no {B : List PostD} (p : PostD) (h : bookB B = false) : postO B p = ([], 1) := by unfold postO; rw [h]; rfl
theorem postO_code {B : List PostD} {p : PostD} (h : bookB B = true) (hc : ¬ codeP B p = 0) : postO B p = (B, codeP B p) := by unfold postO; rw [h]; simp [hc]
theorem postO_yes {B : List PostD} {p : PostD} (h : bookB B = true) (hc : codeP B p = 0) : postO B p = (B ++ [p], 0) := by unfold postO; rw [h]; simp [hc]

set_option maxRecDepth 100000 in
set_option maxHeartbeats 4000000 in
theorem specBookPost (a : Option Addr) (n c : Nat) (B : List PostD) (id : Int) (s : Option Addr) (m cm : Nat) (L : List LegD) (w : World) (hP : PostsAt w a n c B) (hL : LegsAt w s m cm L) :
    Calls Tryd.prog 39 #[.slice a n c, .agg #[.int .i64 id, .slice s m cm]] w fun e w' => PostR w.heap.size B (id, L) e w' ∧ Below w.heap.size w w' := by
  obtain ⟨i0, hi, hz0, hz1, hz2⟩ := info_parts Tryd.infoPost
  have HLEN : Hid (B.length = n) := hP.length
  have HML : Hid (L.length = m) := hL.length
  have HP : Hid (PostsAt w a n c B) := hP
  have HL : Hid (LegsAt w s m cm L) := hL
  have kB : Below w.heap.size w (w.alloc (.cells #[.int .i64 id, .slice s m cm] 29)) := (Below.refl _ _).alloc (Nat.le_refl _) _
  clear hP hL
  obtain ⟨X, hX⟩ : ∃ X, X = w.heap.size := ⟨_, rfl⟩
  obtain ⟨W0, hW⟩ : ∃ W0, W0 = w.alloc (.cells #[.int .i64 id, .slice s m cm] 29) := ⟨_, rfl⟩
  have x0 : W0.cell? ⟨X, 0, none⟩ = some (.int .i64 id) := by rw [hW, hX]; simp
  have x1 : W0.cell? ⟨X, 1, none⟩ = some (.slice s m cm) := by rw [hW, hX]; simp
  rw [← hW] at kB
  go_enter Tryd.func39, Tryd.ntmps39
  go_upto_region 1 with fail
  rw [← hW]
  simp only [← hX]
  clear hW hX
  cases hbk : bookB B with
  | false =>
    go_wp2_with fail
    refine (specBookOk _ _ _ B _ (HP.out.keep kB)).mono ?_
    rw [hbk]
    rintro e w1 ⟨rfl, hb1⟩
    have k1 : Below w.heap.size w w1 := kB.trans (hb1.mono kB.size)
    have K2 : Hid (Below w.heap.size w (w1.alloc (.cells #[] 29))) := k1.alloc k1.size _
    have HZ : Hid (PostsZ (w1.alloc (.cells #[] 29)) w.heap.size (.slice (some ⟨w1.heap.size, 0, none⟩) 0 0) [] []) := ⟨row_mono (World.ownsRow_lit (base := w1.heap.size) (e := 29) (size := 2) w1 #[] 0 (by simp) (by simp) (by simp)) k1.size, rfl, fun i g p h => by simp at h, fun i j g g' h => by simp at h⟩
    clear hb1 k1 x0 x1
    go_wp2
    refine bodyPost_ret (v := .tuple #[.slice (some ⟨w1.heap.size, 0, none⟩) 0 0, .int .i64 1]) (by simp [results, Tryd.results39, go_sem]) rfl ?_
    exact ⟨⟨_, [], by rw [postO_no _ hbk], by rw [postO_no _ hbk]; exact HZ.out⟩, K2.out⟩
  | true =>
    obtain ⟨h40, hgd⟩ := book_small hbk
    rw [HLEN.out] at h40
    have HGD : Hid (∀ p ∈ B, postB p.1 p.2 = true) := hgd
    have HBK : Hid (bookB B = true) := hbk
    go_wp2_with fail
    refine (specBookOk _ _ _ B _ (HP.out.keep kB)).mono ?_
    rw [hbk]
    rintro e w1 ⟨rfl, hb1⟩
    have k1 : Below w.heap.size w w1 := kB.trans (hb1.mono kB.size)
    have x10 := cell_later hb1 x0
    have x11 := cell_later hb1 x1
    have hX1 : X < w1.heap.size := World.block_lt_of_cell? _ _ x10
    clear hb1 x0 x1 kB hgd hbk
    obtain ⟨C, hC⟩ : ∃ C, C = codeP B (id, L) := ⟨_, rfl⟩
    have HC : Hid (codeP B (id, L) = C) := hC.symm
    clear hC
    go_wp2_with fail
    refine (specCode id s m cm L a n c B _ (HP.out.keep k1) (HL.out.keep k1) h40 HGD.out).mono ?_
    rw [HC.out]
    rintro e W ⟨rfl, hb2⟩
    have k2 : Below w.heap.size w W := k1.trans (hb2.mono k1.size)
    have x20 := cell_later hb2 x10
    have x21 := cell_later hb2 x11
    have hX2 : X < W.heap.size := World.block_lt_of_cell? _ _ x20
    have CB : Hid (∀ w', Below W.heap.size W w' → Calls Tryd.prog 84 #[.slice a n c] w' fun e w'' => ∃ g d G, e = .returned (.slice (some ⟨g, 0, none⟩) n d) ∧ PostsZ w'' w'.heap.size (.slice (some ⟨g, 0, none⟩) n d) G B ∧ Below w'.heap.size w' w'') := fun w' kk => specCopyB a n c B w' (HP.out.keep (k2.trans (kk.mono k2.size))) h40 HGD.out
    clear hb2 x10 x11 k1 hX1
    have HK2 : Hid (Below w.heap.size w W) := k2
    by_cases hc : C = 0
    · subst hc
      have hfair := fair_post (p := (id, L)) (code_fair HC.out)
      have hm1 : 1 ≤ m := by have h1 := postB_one hfair; have h2 := HML.out; simp only at h1; omega
      have hm4 : m ≤ 4 := by have h1 := postB_len hfair; have h2 := HML.out; simp only at h1; omega
      obtain ⟨lb, lo, rfl, hlb⟩ := HL.out.form hm1
      have CC : Hid (∀ w', Below W.heap.size W w' → Calls Tryd.prog 85 #[.agg #[.int .i64 id, .slice (some ⟨lb, lo, none⟩) m cm]] w' fun e w'' => ∃ b' cap', e = .returned (.agg #[.int .i64 id, .slice (some ⟨b', 0, none⟩) m cap']) ∧ w''.ownsRow w'.heap.size 69 3 (.slice (some ⟨b', 0, none⟩) m cap') m (flat L) ∧ Below w'.heap.size w' w'') := fun w' kk => l1Copy_own id lb lo m cm L w' (HL.out.keep (HK2.out.trans (kk.mono HK2.out.size))) (by omega)
      have HFIN : Hid (∀ (g2 c2 q cq : Nat) (G : List (Nat × Nat)) (w' : World), PostsZ w' W.heap.size (.slice (some ⟨g2, 0, none⟩) (n + 1) c2) (G ++ [(q, cq)]) (B ++ [(id, L)]) → Below W.heap.size W w' → PostR w.heap.size B (id, L) (.returned (.tuple #[.slice (some ⟨g2, 0, none⟩) (n + 1) c2, .int .i64 0])) w' ∧ Below w.heap.size w w') := fun g2 c2 q cq G w' hz kk => ⟨⟨_, _, by rw [postO_yes HBK.out HC.out], by rw [postO_yes HBK.out HC.out]; exact hz.mono HK2.out.size⟩, HK2.out.trans (kk.mono HK2.out.size)⟩
      have k0 : Below W.heap.size W W.drew := (Below.refl _ W).drew
      have HMK : Hid (∀ w', Below W.heap.size W w' → (fun w' => w'.cell? ⟨X, 0, none⟩ = some (.int .i64 id) ∧ w'.cell? ⟨X, 1, none⟩ = some (.slice (some ⟨lb, lo, none⟩) m cm) ∧ X < w'.heap.size) w') := fun w' kk => ⟨cell_later kk x20, cell_later kk x21, Nat.lt_of_lt_of_le hX2 kk.size⟩
      clear hfair k2
      go_upto_region 6 with fail
      refine wp_region_held_drew (S := (fun w' => w'.cell? ⟨X, 0, none⟩ = some (.int .i64 id) ∧ w'.cell? ⟨X, 1, none⟩ = some (.slice (some ⟨lb, lo, none⟩) m cm) ∧ X < w'.heap.size)) (by kernel_rfl) (HMK.out _ k0) (fun hHeld => ?_)
      generalize W.drew = w0 at k0 hHeld ⊢
      refine wpAnyH_takeL (i := 0) (v := ?_) rfl (by kernel_rfl) (by kernel_rfl) (by kernel_rfl) (fun _ _ _ h => h) (Or.inl ⟨by rfl, ?_⟩) hHeld ?_
      rotate_left
      · (intro w hSw; (try dsimp only at hSw); go_simp; try with_reducible rfl)
      try go_frame
      refine wpAnyH_takeL (i := 2) (v := ?_) rfl (by kernel_rfl) (by kernel_rfl) (by kernel_rfl) (fun _ _ _ h => h) (Or.inl ⟨by rfl, ?_⟩) hHeld ?_
      rotate_left
      · (intro w hSw; (try dsimp only at hSw); go_simp; try with_reducible rfl)
      try go_frame
      refine wpAnyH_takeL (i := 6) (v := ?_) rfl (by kernel_rfl) (by kernel_rfl) (by kernel_rfl) (fun _ _ _ h => h) (Or.inl ⟨by rfl, ?_⟩) hHeld ?_
      rotate_left
      · (intro w hSw; (try dsimp only at hSw); go_simp; try with_reducible rfl)
      try go_frame
      refine wpAnyH_ready (rs := [1]) (by kernel_rfl) (by simp) ?_
      refine consL rfl (fun K hK => ?_) AllReadyH.nil
      go_simp
      refine (CB.out _ k0).mono ?_
      rintro e w1 ⟨gz, dz, G, rfl, hy1, hb1⟩
      have k1 := k0.trans (hb1.mono k0.size)
      have Z1 := hy1.mono k0.size
      go_wp2_with fail
      refine hK.out _ _ (HMK.out _ k1) (fun hHeld => ?_)
      clear hK K
      try go_frame
      refine wpAnyH_ready (rs := [3]) (by kernel_rfl) (by simp) ?_
      refine consL rfl (fun K hK => ?_) AllReadyH.nil
      go_simp
      refine (CC.out _ k1).mono ?_
      rintro e w2 ⟨q, cq, rfl, ho2, hb2⟩
      have HNEW : Hid (∀ x ∈ G, x.1 ≠ q) := fun x hx => by have h1 := Z1.old x hx; have h2 := (ho2.lt q rfl).1; omega
      have k2 := k1.trans (hb2.mono k1.size)
      have Z2 := Z1.below hb2
      have O2 := row_mono ho2 k1.size
      go_wp2_with fail
      refine hK.out _ _ (HMK.out _ k2) (fun hHeld => ?_)
      clear hK K
      try go_frame
      refine wpAnyH_ready (rs := [4]) (by kernel_rfl) (by simp) ?_
      refine consL rfl (fun K hK => ?_) AllReadyH.nil
      go_simp
      have hb3 : Below w2.heap.size w2 (w2.alloc (.cells #[.int .i64 id, .slice (some ⟨q, 0, none⟩) m cq] 29)) := (Below.refl _ _).alloc (Nat.le_refl _) _
      have k3 := k2.trans (hb3.mono k2.size)
      have N3 := cellTwo w2 (.int .i64 id) (.slice (some ⟨q, 0, none⟩) m cq) 29
      have Z3 := Z2.below hb3
      have O3 := rowKb O2 hb3
      generalize w2.alloc (.cells #[.int .i64 id, .slice (some ⟨q, 0, none⟩) m cq] 29) = w3 at k3 N3 Z3 O3 ⊢
      generalize w2.heap.size = gb at N3 ⊢
      clear hb3
      refine hK.out _ _ (HMK.out _ k3) (fun hHeld => ?_)
      clear hK K
      try go_frame
      refine wpAnyH_ready (rs := [5]) (by kernel_rfl) (by simp) ?_
      refine consL rfl (fun K hK => ?_) AllReadyH.nil
      have R4 : w3.ownsRow W.heap.size 29 2 (.slice (some ⟨gz, 0, none⟩) n dz) n (rowsB G B) := by have h1 := Z3.row; rw [HLEN.out] at h1; exact h1
      refine step_append_own rfl (.tmp 20) (.tmp 23) 57 rfl W.heap.size 29 i0 _ 2 32 Tryd.underlying57 hi hz0 hz1 hz2 rfl (Nat.succ_pos 1) _ _ _ rfl R4 ⟨gb, 0, none⟩ 1 1 [Value.int .i64 id, Value.slice (some ⟨q, 0, none⟩) m cq] rfl rfl N3 (by simp [Value.oneCell']) ?_ ?_ ?_ ?_
      · unfold maxLen; omega
      · omega
      · exact k3.size
      intro v2 w4 ho3 hg2 hn2
      obtain ⟨g2, c2, rfl⟩ := row_form ho3 (fun e => by cases (hn2.1 e).2)
      have hg2 : w3.grownBy w4 (some gz) := hg2
      have HZE : Hid (PostsZ w4 W.heap.size (.slice (some ⟨g2, 0, none⟩) (n + 1) c2) (G ++ [(q, cq)]) (B ++ [(id, L)])) := Z3.push (id := id) (L := L) (by rw [HML.out]; exact O3) HNEW.out (by rw [HML.out, HLEN.out]; exact ho3) hg2
      have k4 : Below W.heap.size W w4 := k3.grown hg2 k3.size (fun x e => by have h1 := (R4.lt gz rfl).1; have := Option.some.inj e; omega)
      refine hK.out _ _ (HMK.out _ k4) (fun hHeld => ?_)
      clear hK K
      try go_frame
      refine wpAnyH_takeL (i := 7) (v := ?_) rfl (by kernel_rfl) (by kernel_rfl) (by kernel_rfl) (fun _ _ _ h => h) (Or.inl ⟨by rfl, ?_⟩) hHeld ?_
      rotate_left
      · (intro w hSw; (try dsimp only at hSw); go_simp; try with_reducible rfl)
      try go_frame
      refine wpAnyH_takeL (i := 8) (v := ?_) rfl (by kernel_rfl) (by kernel_rfl) (by kernel_rfl) (fun _ _ _ h => h) (Or.inl ⟨by rfl, ?_⟩) hHeld ?_
      rotate_left
      · (intro w hSw; (try dsimp only at hSw); go_simp; try with_reducible rfl)
      try go_frame
      refine wpAnyH_done (by kernel_rfl) ?_ _
      have HK : Hid (Below W.heap.size W w4) := k4
      clear hHeld
      go_wp2
      refine bodyPost_ret (v := .tuple #[.slice (some ⟨g2, 0, none⟩) (n + 1) c2, .int .i64 0]) (by simp [results, Tryd.results39, go_sem]) rfl ?_
      exact HFIN.out _ _ _ _ _ _ HZE.out HK.out
    · have hcb : (C != 0) = true := by simpa using hc
      have hC0 : ¬ C = 0 := hc
      clear k2
      go_wp2_with fail
      refine (CB.out _ (Below.refl _ _)).mono ?_
      rintro e w3 ⟨gz, dz, G, rfl, hz, hb3⟩
      have HZ : Hid (PostsZ w3 W.heap.size (.slice (some ⟨gz, 0, none⟩) n dz) G B) := hz
      have HB3 : Hid (Below W.heap.size W w3) := hb3
      clear hz hb3
      go_wp2
      refine bodyPost_ret (v := .tuple #[.slice (some ⟨gz, 0, none⟩) n dz, .int .i64 C]) (by simp [results, Tryd.results39, go_sem]) rfl ?_
      exact ⟨⟨_, _, by rw [postO_code HBK.out (by rw [HC.out]; exact hC0), HC.out], by rw [postO_code HBK.out (by rw [HC.out]; exact hC0)]; exact HZ.out.mono HK2.out.size⟩, HK2.out.trans (HB3.out.mono HK2.out.size)⟩
end Go.Proofs.YtfblpbihpmhgjaaDoor
