/-
  The document's copies of postings, and its BookPost, by walks of their Go text.
-/
import Derived.Test.YtfblpbihpmhgjaaDoorBp11
import Derived.Test.YtfblpbihpmhgjaaDoorBp16
import Derived.Test.YtfblpbihpmhgjaaDoorBp17
namespace Go.Proofs.YtfblpbihpmhgjaaDoor
open Go.RowKit

set_option maxRecDepth 100000 in
set_option maxHeartbeats 1000000 in
theorem l1Copy_own (id : Int) (b off n cap : Nat) (L : List LegD) (w : World) (hL : LegsAt w (some ⟨b, off, none⟩) n cap L) (hn : n ≤ 1048576) :
    Calls Tryd.prog 85 #[.agg #[.int .i64 id, .slice (some ⟨b, off, none⟩) n cap]] w fun e w' => ∃ b' cap', e = .returned (.agg #[.int .i64 id, .slice (some ⟨b', 0, none⟩) n cap']) ∧ w'.ownsRow w.heap.size 69 3 (.slice (some ⟨b', 0, none⟩) n cap') n (flat L) ∧ Below w.heap.size w w' := by
  obtain ⟨i0, hi, hz0, hz1, hz2⟩ := info_parts Tryd.infoLeg
  have HL : Hid (LegsAt w (some ⟨b, off, none⟩) n cap L) := hL
  clear hL
  go_enter Tryd.func85, Tryd.ntmps85
  go_wp2_with fail
  have hB : Below w.heap.size w ((((w.alloc (.cells #[.int .i64 id, .slice (some ⟨b, off, none⟩) n cap] 29)).alloc (.cells #[.int .i64 0, .slice none 0 0] 29)).alloc (.cells #[] 69)).drew) := ((((Below.refl _ _).alloc (Nat.le_refl _) _).alloc (by simp) _).alloc (by simp; omega) _).drew
  have hrow : ((((w.alloc (.cells #[.int .i64 id, .slice (some ⟨b, off, none⟩) n cap] 29)).alloc (.cells #[.int .i64 0, .slice none 0 0] 29)).alloc (.cells #[] 69)).drew).ownsRow (w.heap.size + 1 + 1) 69 3 (.slice (some ⟨w.heap.size + 1 + 1, 0, none⟩) 0 0) 0 [] := by
    have := (World.ownsRow_lit (base := w.heap.size + 1 + 1) (e := 69) (size := 3) ((w.alloc (.cells #[.int .i64 id, .slice (some ⟨b, off, none⟩) n cap] 29)).alloc (.cells #[.int .i64 0, .slice none 0 0] 29)) #[] 0 (by simp) (by simp) (by simp)).drew
    simpa using this
  have hml : 0 + n ≤ maxLen := by unfold maxLen; omega
  have hby : (0 + n) * 32 ≤ 140737488355328 := by omega
  have hbs := hB.size
  have hbs2 : w.heap.size + 1 + 1 ≤ ((((w.alloc (.cells #[.int .i64 id, .slice (some ⟨b, off, none⟩) n cap] 29)).alloc (.cells #[.int .i64 0, .slice none 0 0] 29)).alloc (.cells #[] 69)).drew).heap.size := by simp
  have hne0 : some (w.heap.size + 1) ≠ (Value.slice (some ⟨w.heap.size + 1 + 1, 0, none⟩) 0 0).ownBlock := by simp [Value.ownBlock]
  have cq0 : ((((w.alloc (.cells #[.int .i64 id, .slice (some ⟨b, off, none⟩) n cap] 29)).alloc (.cells #[.int .i64 0, .slice none 0 0] 29)).alloc (.cells #[] 69)).drew).cell? ⟨w.heap.size + 1, 0, none⟩ = some (.int .i64 0) := by simp [go_sem]
  have cq1 : ((((w.alloc (.cells #[.int .i64 id, .slice (some ⟨b, off, none⟩) n cap] 29)).alloc (.cells #[.int .i64 0, .slice none 0 0] 29)).alloc (.cells #[] 69)).drew).cell? ⟨w.heap.size + 1, 1, none⟩ = some (.slice none 0 0) := by simp [go_sem]
  have hneP : some w.heap.size ≠ (Value.slice (some ⟨w.heap.size + 1 + 1, 0, none⟩) 0 0).ownBlock := by simp [Value.ownBlock]; omega
  have cp0 : ((((w.alloc (.cells #[.int .i64 id, .slice (some ⟨b, off, none⟩) n cap] 29)).alloc (.cells #[.int .i64 0, .slice none 0 0] 29)).alloc (.cells #[] 69)).drew).cell? ⟨w.heap.size, 0, none⟩ = some (.int .i64 id) := by simp [go_sem]
  have fq : ∀ o, ((((w.alloc (.cells #[.int .i64 id, .slice (some ⟨b, off, none⟩) n cap] 29)).alloc (.cells #[.int .i64 0, .slice none 0 0] 29)).alloc (.cells #[] 69)).drew).frozen? ⟨w.heap.size + 1, o, none⟩ = false := by intro o; simp [go_sem]
  have hlt1 : w.heap.size + 1 < ((((w.alloc (.cells #[.int .i64 id, .slice (some ⟨b, off, none⟩) n cap] 29)).alloc (.cells #[.int .i64 0, .slice none 0 0] 29)).alloc (.cells #[] 69)).drew).heap.size := by simp
  go_region_law (refine step_append_own rfl (.tmp 5) (.tmp 7) 27 rfl (w.heap.size + 1 + 1) 69 i0 _ 3 32 Tryd.underlying27 hi hz0 hz1 hz2 rfl (Nat.succ_pos 2) (.slice (some ⟨w.heap.size + 1 + 1, 0, none⟩) 0 0) 0 [] ?_ hrow ⟨b, off, none⟩ n cap (flat L) ?_ ?_ ?_ (flat_one L) ?_ ?_ ?_ ?_; rfl; rfl; rw [flat_len, HL.out.length]; exact legs_news (HL.out.keep hB); exact hml; exact hby; exact hbs2; intro v' w' hown hgrow hnil; obtain ⟨g, cap', rfl⟩ := row_form hown (fun e => not_nil_slice (hnil.1 e).1); have p0 := hgrow.cell cp0 hneP; have d0 := hgrow.cell cq0 hne0; have d1 := hgrow.cell cq1 hne0; have e0 := (grown_frozen hgrow (x := ⟨w.heap.size + 1, 0, none⟩) hlt1 hne0).trans (fq 0); have e1 := (grown_frozen hgrow (x := ⟨w.heap.size + 1, 1, none⟩) hlt1 hne0).trans (fq 1))
  all_goals
    have hB' : Below w.heap.size w w' := hB.grown hgrow hbs (fun k e => by simp [Value.ownBlock] at e; omega)
    have hD : w'.ownsRow (w.heap.size + 1 + 1) 69 3 (.slice (some ⟨g, 0, none⟩) n cap') n (flat L) := by simpa using hown
    have hgl := (hD.lt g rfl).1
    clear hown hgrow hnil hrow cq0 cq1 fq hB
    go_wp2
    refine bodyPost_ret (v := .agg #[.int .i64 id, .slice (some ⟨g, 0, none⟩) n cap']) (by simp [results, Tryd.results85, go_sem, d0, d1]) rfl ⟨g, cap', rfl, ?_, ?_⟩
    · exact ((row_mono hD (by omega)).kept (gSet _ (w.heap.size + 1) 0 _) (.inr (fun e => by have h9 := Option.some.inj e; simp only at h9; omega))).kept (gSet _ (w.heap.size + 1) 1 _) (.inr (fun e => by have h9 := Option.some.inj e; simp only at h9; omega))
    · exact (hB'.setCell (p := ⟨w.heap.size + 1, 0, none⟩) (by simp) _).setCell (p := ⟨w.heap.size + 1, 1, none⟩) (by simp) _

set_option maxRecDepth 100000 in
set_option maxHeartbeats 2000000 in
theorem specCopyB (a : Option Addr) (n c : Nat) (B : List PostD) (w : World) (hP : PostsAt w a n c B) (h40 : n ≤ 40) (hg : ∀ p ∈ B, postB p.1 p.2 = true) :
    Calls Tryd.prog 84 #[.slice a n c] w fun e w' => ∃ g d G, e = .returned (.slice (some ⟨g, 0, none⟩) n d) ∧ PostsZ w' w.heap.size (.slice (some ⟨g, 0, none⟩) n d) G B ∧ Below w.heap.size w w' := by
  obtain ⟨i0, hi, hz0, hz1, hz2⟩ := info_parts Tryd.infoPost
  have HLEN : Hid (B.length = n) := hP.length
  have HP : Hid (PostsAt w a n c B) := hP
  have HGD : Hid (∀ p ∈ B, postB p.1 p.2 = true) := hg
  have HB0 : Hid (Below w.heap.size w (w.alloc (.cells #[] 29))) := (Below.refl _ _).alloc (Nat.le_refl _) _
  have HZ0 : Hid (PostsZ (w.alloc (.cells #[] 29)) w.heap.size (.slice (some ⟨w.heap.size, 0, none⟩) 0 0) [] []) := ⟨World.ownsRow_lit (base := w.heap.size) (e := 29) (size := 2) w #[] 0 (by simp) (by simp) (by simp), rfl, fun i g p h => by simp at h, fun i j g g' h => by simp at h⟩
  clear hP hg
  obtain ⟨Y, hY⟩ : ∃ Y, Y = w.heap.size := ⟨_, rfl⟩
  have HY : Hid (Y = w.heap.size) := hY
  go_enter Tryd.func84, Tryd.ntmps84
  go_wp2
  go_loopw [3, 4] (fun ov iv wr => ∃ (k g d : Nat) (G : List (Nat × Nat)), k ≤ n ∧ iv = .int .i64 k ∧ ov = .slice (some ⟨g, 0, none⟩) k d ∧ PostsZ wr Y (.slice (some ⟨g, 0, none⟩) k d) G (B.take k) ∧ Below w.heap.size w wr) (fun _ iv _ => n - (intOf iv).toNat)
  case atStart => exact ⟨0, _, _, [], Nat.zero_le _, rfl, rfl, by rw [hY]; exact HZ0.out, HB0.out⟩
  case round =>
    obtain ⟨k, g, d, G, hk, rfl, rfl, hZ, hb⟩ := hrel
    have HZ : Hid (PostsZ wr Y (.slice (some ⟨g, 0, none⟩) k d) G (B.take k)) := hZ
    have HB : Hid (Below w.heap.size w wr) := hb
    have HTL : Hid ((B.take k).length = k) := by show (B.take k).length = k; rw [List.length_take, HLEN.out]; omega
    clear hZ hY
    by_cases hlt : k < n
    · have hltI : (k : Int) < (n : Int) := by omega
      obtain ⟨b, off, rfl, hbb⟩ := HP.out.form (by omega)
      obtain ⟨id, L, s, m, cm, hgk, hwf, g0, g1, hL⟩ := HP.out.post hb k hlt
      have HGK : Hid (B[k]? = some (id, L)) := hgk
      have hpb := HGD.out _ (List.mem_of_getElem? hgk)
      have hm1 : 1 ≤ m := by have := postB_one hpb; have := hL.length; simp only at *; omega
      have hm4 : m ≤ 4 := by have := postB_len hpb; have := hL.length; simp only at *; omega
      obtain ⟨lb, lo, rfl, hlb⟩ := hL.form hm1
      have hbr : b < wr.heap.size := Nat.lt_of_lt_of_le hbb hb.size
      have HML : Hid (L.length = m) := hL.length
      have CC : Hid (∀ w', Below wr.heap.size wr w' → Calls Tryd.prog 85 #[.agg #[.int .i64 id, .slice (some ⟨lb, lo, none⟩) m cm]] w' fun e w'' => ∃ b' cap', e = .returned (.agg #[.int .i64 id, .slice (some ⟨b', 0, none⟩) m cap']) ∧ w''.ownsRow w'.heap.size 69 3 (.slice (some ⟨b', 0, none⟩) m cap') m (flat L) ∧ Below w'.heap.size w' w'') := fun w' kk => l1Copy_own id lb lo m cm L w' (hL.keep kk) (by omega)
      clear hgk hpb hL hb
      go_wp2_with fail
      refine (CC.out _ (Below.refl _ _)).mono ?_
      rintro e w1 ⟨q, cq, rfl, hO1, hb1⟩
      have HO1 : Hid (w1.ownsRow wr.heap.size 69 3 (.slice (some ⟨q, 0, none⟩) m cq) m (flat L)) := hO1
      have HZ1 : Hid (PostsZ w1 Y (.slice (some ⟨g, 0, none⟩) k d) G (B.take k)) := HZ.out.below hb1
      have HB1 : Hid (Below w.heap.size w w1) := HB.out.trans (hb1.mono HB.out.size)
      have HNEW : Hid (∀ x ∈ G, x.1 ≠ q) := fun x hx => by have h1 := HZ.out.old x hx; have h2 := (HO1.out.lt q rfl).1; omega
      clear hO1 hb1
      have ka : Below w1.heap.size w1 (w1.alloc (.cells #[.int .i64 id, .slice (some ⟨q, 0, none⟩) m cq] 29)) := (Below.refl _ _).alloc (Nat.le_refl _) _
      have HZA : Hid (PostsZ (w1.alloc (.cells #[.int .i64 id, .slice (some ⟨q, 0, none⟩) m cq] 29)) Y (.slice (some ⟨g, 0, none⟩) k d) G (B.take k)) := HZ1.out.below ka
      have HRA : Hid ((w1.alloc (.cells #[.int .i64 id, .slice (some ⟨q, 0, none⟩) m cq] 29)).ownsRow Y 29 2 (.slice (some ⟨g, 0, none⟩) k d) k (rowsB G (B.take k))) := by have h1 := HZA.out.row; rw [HTL.out] at h1; exact h1
      have HOA : Hid ((w1.alloc (.cells #[.int .i64 id, .slice (some ⟨q, 0, none⟩) m cq] 29)).ownsRow Y 69 3 (.slice (some ⟨q, 0, none⟩) m cq) m (flat L)) := row_mono (rowKb HO1.out ka) (by rw [HY.out]; exact HB.out.size)
      have HBA : Hid (Below w.heap.size w (w1.alloc (.cells #[.int .i64 id, .slice (some ⟨q, 0, none⟩) m cq] 29))) := HB1.out.trans (ka.mono HB1.out.size)
      have HSA : Hid (Y ≤ (w1.alloc (.cells #[.int .i64 id, .slice (some ⟨q, 0, none⟩) m cq] 29)).heap.size) := by show Y ≤ _; rw [HY.out]; exact HBA.out.size
      clear ka
      go_wp2_with (at_builtin; refine wpList_append_own _ rfl _ _ 57 rfl Y 29 i0 _ 2 32 Tryd.underlying57 hi hz0 hz1 hz2 rfl (by decide) _ _ _ rfl HRA.out ⟨w1.heap.size, 0, none⟩ 1 1 [Value.int .i64 id, Value.slice (some ⟨q, 0, none⟩) m cq] rfl rfl (cellTwo _ _ _ _) (by simp [Value.oneCell']) (by unfold maxLen; omega) (by omega) HSA.out ?_; intro v2 w4 hown2 hgrow2 hnil2; obtain ⟨g2, c2, rfl⟩ := row_form hown2 (fun e => by cases (hnil2.1 e).2))
      go_roundw
      case rel =>
        have hap : ∀ x, (Value.slice (some ⟨g, 0, none⟩) k d).ownBlock = some x → Y ≤ x := fun x e => (HRA.out.lt x e).1
        refine ⟨k + 1, g2, c2, G ++ [(q, cq)], by omega, by go_num, rfl, ?_, HBA.out.grown hgrow2 HBA.out.size (fun x e => by have := hap x e; have := HY.out; omega)⟩
        rw [takeB_snoc HGK.out]
        have hm' := HML.out
        refine HZA.out.push (id := id) (L := L) (g := q) (c := cq) ?_ HNEW.out ?_ hgrow2
        · rw [hm']; exact HOA.out
        · rw [hm', HTL.out]; exact hown2
      case measure => simp [intOf]; omega
    · have hltI : ¬ (k : Int) < (n : Int) := by omega
      have hkn : k = n := by omega
      subst hkn
      have HZN : Hid (PostsZ wr Y (.slice (some ⟨g, 0, none⟩) k d) G B) := by have h1 := HZ.out; rw [List.take_of_length_le (by have := HLEN.out; omega)] at h1; exact h1
      go_wp2
      go_ret
      exact ⟨g, d, rfl, ⟨G, by rw [← HY.out]; exact HZN.out⟩, HB.out⟩
end Go.Proofs.YtfblpbihpmhgjaaDoor
