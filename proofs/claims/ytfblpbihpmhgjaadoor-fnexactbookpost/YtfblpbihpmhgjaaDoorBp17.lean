/-
  The copy of a posting that a law draws with, by a walk of its Go text.
-/
import Derived.Test.YtfblpbihpmhgjaaDoorBp07
namespace Go.Proofs.YtfblpbihpmhgjaaDoor
open Go.RowKit

theorem not_nil_slice {a : Addr} {n c : Nat} (h : Value.slice (some a) n c = .slice none 0 0) : False := by cases h

set_option maxHeartbeats 1000000 in
theorem l1Copy_any (id : Int) (b off n cap : Nat) (L : List LegD) (w : World) (hL : LegsAt w (some ⟨b, off, none⟩) n cap L) (hf : ∀ l ∈ L, FewB l.1) (hn : n ≤ 1000) :
    Calls Tryd.prog 85 #[.agg #[.int .i64 id, .slice (some ⟨b, off, none⟩) n cap]] w fun e w' => ∃ b' cap', e = .returned (.agg #[.int .i64 id, .slice (some ⟨b', 0, none⟩) n cap']) ∧ DrawnAt w' w.heap.size b' n cap' L ∧ Below w.heap.size w w' := by
  obtain ⟨i0, hi, hz0, hz1, hz2⟩ := info_parts Tryd.infoLeg
  have HL : Hid (LegsAt w (some ⟨b, off, none⟩) n cap L) := hL
  have HF : Hid (∀ l ∈ L, FewB l.1) := hf
  clear hL hf
  go_enter Tryd.func85, Tryd.ntmps85
  go_wp2_with fail
  have hB : Below w.heap.size w ((((w.alloc (.cells #[.int .i64 id, .slice (some ⟨b, off, none⟩) n cap] 29)).alloc (.cells #[.int .i64 0, .slice none 0 0] 29)).alloc (.cells #[] 69)).drew) := ((((Below.refl _ _).alloc (Nat.le_refl _) _).alloc (by simp) _).alloc (by simp; omega) _).drew
  have hrow : ((((w.alloc (.cells #[.int .i64 id, .slice (some ⟨b, off, none⟩) n cap] 29)).alloc (.cells #[.int .i64 0, .slice none 0 0] 29)).alloc (.cells #[] 69)).drew).ownsRow (w.heap.size + 1 + 1) 69 3 (.slice (some ⟨w.heap.size + 1 + 1, 0, none⟩) 0 0) 0 [] := by
    have := (World.ownsRow_lit (base := w.heap.size + 1 + 1) (e := 69) (size := 3) ((w.alloc (.cells #[.int .i64 id, .slice (some ⟨b, off, none⟩) n cap] 29)).alloc (.cells #[.int .i64 0, .slice none 0 0] 29)) #[] 0 (by simp) (by simp) (by simp)).drew
    simpa using this
  have hml : 0 + n ≤ maxLen := by unfold maxLen; omega
  have hby : (0 + n) * 32 ≤ 140737488355328 := by omega
  have hbs := hB.size
  have hbs2 : w.heap.size + 1 + 1 ≤ ((((w.alloc (.cells #[.int .i64 id, .slice (some ⟨b, off, none⟩) n cap] 29)).alloc (.cells #[.int .i64 0, .slice none 0 0] 29)).alloc (.cells #[] 69)).drew).heap.size := by simp
  have hne0 : some (w.heap.size + 1) ≠ (Value.slice (some ⟨w.heap.size + 1 + 1, 0, none⟩) 0 0).ownBlock := by simp [Value.ownBlock]
  have cq0 : ((((w.alloc (.cells #[.int .i64 id, .slice (some ⟨b, off, none⟩) n cap] 29)).alloc (.cells #[.int .i64 0, .slice none 0 0] 29)).alloc (.cells #[] 69)).drew).cell? ⟨w.heap.size + 1, 0, none⟩ = some (.int .i64 0) := by simp [go_sem]
  have cq1 : ((((w.alloc (.cells #[.int .i64 id, .slice (some ⟨b, off, none⟩) n cap] 29)).alloc (.cells #[.int .i64 0, .slice none 0 0] 29)).alloc (.cells #[] 69)).drew).cell? ⟨w.heap.size + 1, 1, none⟩ = some (.slice none 0 0) := by simp [go_sem]
  have hneP : some w.heap.size ≠ (Value.slice (some ⟨w.heap.size + 1 + 1, 0, none⟩) 0 0).ownBlock := by simp [Value.ownBlock]; omega
  have cp0 : ((((w.alloc (.cells #[.int .i64 id, .slice (some ⟨b, off, none⟩) n cap] 29)).alloc (.cells #[.int .i64 0, .slice none 0 0] 29)).alloc (.cells #[] 69)).drew).cell? ⟨w.heap.size, 0, none⟩ = some (.int .i64 id) := by simp [go_sem]
  have fq : ∀ o, ((((w.alloc (.cells #[.int .i64 id, .slice (some ⟨b, off, none⟩) n cap] 29)).alloc (.cells #[.int .i64 0, .slice none 0 0] 29)).alloc (.cells #[] 69)).drew).frozen? ⟨w.heap.size + 1, o, none⟩ = false := by intro o; simp [go_sem]
  have hlt1 : w.heap.size + 1 < ((((w.alloc (.cells #[.int .i64 id, .slice (some ⟨b, off, none⟩) n cap] 29)).alloc (.cells #[.int .i64 0, .slice none 0 0] 29)).alloc (.cells #[] 69)).drew).heap.size := by simp
  go_region_law (refine step_append_own rfl (.tmp 5) (.tmp 7) 27 rfl (w.heap.size + 1 + 1) 69 i0 _ 3 32 Tryd.underlying27 hi hz0 hz1 hz2 rfl (Nat.succ_pos 2) (.slice (some ⟨w.heap.size + 1 + 1, 0, none⟩) 0 0) 0 [] ?_ hrow ⟨b, off, none⟩ n cap (flat L) ?_ ?_ ?_ (flat_one L) ?_ ?_ ?_ ?_; rfl; rfl; rw [flat_len, HL.out.length]; exact legs_news (HL.out.keep hB); exact hml; exact hby; exact hbs2; intro v' w' hown hgrow hnil; obtain ⟨g, cap', rfl⟩ := row_form hown (fun e => not_nil_slice (hnil.1 e).1); have p0 := hgrow.cell cp0 hneP; have d0 := hgrow.cell cq0 hne0; have d1 := hgrow.cell cq1 hne0; have e0 := (grown_frozen hgrow (x := ⟨w.heap.size + 1, 0, none⟩) hlt1 hne0).trans (fq 0); have e1 := (grown_frozen hgrow (x := ⟨w.heap.size + 1, 1, none⟩) hlt1 hne0).trans (fq 1))
  all_goals
    have hB' : Below w.heap.size w w' := hB.grown hgrow hbs (fun k e => by simp [Value.ownBlock] at e; omega)
    have hD : DrawnAt w' (w.heap.size + 1 + 1) g n cap' L := ⟨by simpa using hown, HL.out.length, HL.out.legs, HF.out⟩
    have hgl := hD.lt.1
    clear hown hgrow hnil hrow cq0 cq1 fq hB
    go_wp2
    refine bodyPost_ret (v := .agg #[.int .i64 id, .slice (some ⟨g, 0, none⟩) n cap']) (by simp [results, Tryd.results85, go_sem, d0, d1]) rfl ⟨g, cap', rfl, ?_, ?_⟩
    · exact (((hD.mono (by omega)).setCell (p := ⟨w.heap.size + 1, 0, none⟩) (by simp; omega) _).setCell (p := ⟨w.heap.size + 1, 1, none⟩) (by simp; omega) _)
    · exact (hB'.setCell (p := ⟨w.heap.size + 1, 0, none⟩) (by simp) _).setCell (p := ⟨w.heap.size + 1, 1, none⟩) (by simp) _
end Go.Proofs.YtfblpbihpmhgjaaDoor
