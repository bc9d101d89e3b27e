/-
  What the program's CellDo makes of every cell and every entry, by walks of its Go text.
  What the kind of an entry does to a cell, whatever kind it is, as the program's calls through its interface come to it.
-/
import Derived.Test.YtkdalacclafihaaBn25
import Derived.Test.YtkdalacclafihaaBn22
import Derived.Test.YtkdalacclafihaaBn02
import Derived.Test.YtkdalacclafihaaBn26
namespace Go.Proofs.Ytkdalacclafihaa
open Go.RowKit

attribute [local go_sem] Oper.semAt_some

set_option maxRecDepth 100000 in
set_option maxHeartbeats 1000000 in
theorem cloneCell_any (c : CellD) (w : World) (h : c.2.1.size ≤ 281474976710656) :
    Calls Try.prog 50 #[cellV c] w fun e w' => e = .returned (cellV c) ∧ Below w.heap.size w w' := by
  obtain ⟨b, t, n⟩ := c
  simp only at h
  unfold cellV
  simp only
  have kB : Below w.heap.size w ((w.alloc (.cells #[.bool b, .string t, .int .i64 n] 46)).alloc (.cells #[.bool false, .string ⟨#[]⟩, .int .i64 0] 46)) := ((Below.refl _ _).alloc (Nat.le_refl _) _).alloc (by simp) _
  go_enter Try.func50, Try.ntmps50
  go_wp2_with fail
  refine (strClone _ _ h).mono ?_
  rintro e w1 ⟨rfl, hb1⟩
  obtain ⟨hc1, hf1⟩ := bcell hb1
  have k1 : Below w.heap.size w w1 := kB.trans (hb1.mono (by simp; omega))
  have hz1 : w.heap.size + 1 < w1.heap.size := by have := hb1.size; simp at this; omega
  have x0 : w1.cell? ⟨w.heap.size, 0, none⟩ = some (.bool b) := (hc1 _ _ (by simp only [World.size_alloc]; omega)).trans (by simp)
  have x1 : w1.cell? ⟨w.heap.size, 1, none⟩ = some (.string t) := (hc1 _ _ (by simp only [World.size_alloc]; omega)).trans (by simp)
  have x2 : w1.cell? ⟨w.heap.size, 2, none⟩ = some (.int .i64 n) := (hc1 _ _ (by simp only [World.size_alloc]; omega)).trans (by simp)
  have f1 : w1.frozen? ⟨w.heap.size, 1, none⟩ = false := (hf1 _ _ (by simp only [World.size_alloc]; omega)).trans (by simp)
  have y0 : w1.cell? ⟨w.heap.size + 1, 0, none⟩ = some (.bool false) := (hc1 _ _ (by simp only [World.size_alloc]; omega)).trans (by simp)
  have y1 : w1.cell? ⟨w.heap.size + 1, 1, none⟩ = some (.string ⟨#[]⟩) := (hc1 _ _ (by simp only [World.size_alloc]; omega)).trans (by simp)
  have y2 : w1.cell? ⟨w.heap.size + 1, 2, none⟩ = some (.int .i64 0) := (hc1 _ _ (by simp only [World.size_alloc]; omega)).trans (by simp)
  have g0 : w1.frozen? ⟨w.heap.size + 1, 0, none⟩ = false := (hf1 _ _ (by simp only [World.size_alloc]; omega)).trans (by simp)
  have g1 : w1.frozen? ⟨w.heap.size + 1, 1, none⟩ = false := (hf1 _ _ (by simp only [World.size_alloc]; omega)).trans (by simp)
  have g2 : w1.frozen? ⟨w.heap.size + 1, 2, none⟩ = false := (hf1 _ _ (by simp only [World.size_alloc]; omega)).trans (by simp)
  clear hc1 hf1 hb1 kB
  go_wp2
  refine bodyPost_ret (v := .agg #[.bool b, .string t, .int .i64 n]) (by simp [results, Try.results50, go_sem, y0, y1, y2]) rfl ⟨rfl, ?_⟩
  exact (((k1.setCell (p := ⟨w.heap.size, 1, none⟩) (Nat.le_refl _) _).setCell (p := ⟨w.heap.size + 1, 0, none⟩) (Nat.le_succ _) _).setCell (p := ⟨w.heap.size + 1, 1, none⟩) (Nat.le_succ _) _).setCell (p := ⟨w.heap.size + 1, 2, none⟩) (Nat.le_succ _) _

theorem alloc3_a (w : World) (o1 o2 o3 : Obj) (o : Nat) : (((w.alloc o1).alloc o2).alloc o3).cell? ⟨w.heap.size, o, none⟩ = (w.alloc o1).cell? ⟨w.heap.size, o, none⟩ :=
  (((Below.refl (w.heap.size + 1) (w.alloc o1)).alloc (by simp) o2).alloc (by simp) o3).cell (p := ⟨w.heap.size, o, none⟩) (Nat.lt_succ_self _)
theorem alloc3_b (w : World) (o1 o2 o3 : Obj) (o : Nat) : (((w.alloc o1).alloc o2).alloc o3).cell? ⟨w.heap.size + 1, o, none⟩ = ((w.alloc o1).alloc o2).cell? ⟨w.heap.size + 1, o, none⟩ :=
  ((Below.refl (w.heap.size + 1 + 1) ((w.alloc o1).alloc o2)).alloc (by simp) o3).cell (p := ⟨w.heap.size + 1, o, none⟩) (Nat.lt_succ_self _)

theorem alloc3_c (w : World) (o1 o2 : Obj) (cs : Array Value) (t : TypeId) (o : Nat) : (((w.alloc o1).alloc o2).alloc (.cells cs t)).cell? ⟨w.heap.size + 1 + 1, o, none⟩ = cs[o]? := by
  have h := World.cell?_alloc_new ((w.alloc o1).alloc o2) cs t o
  simp only [World.size_alloc] at h
  exact h

theorem alloc3_f (w : World) (o1 o2 : Obj) (cs : Array Value) (t : TypeId) (o : Nat) : (((w.alloc o1).alloc o2).alloc (.cells cs t)).frozen? ⟨w.heap.size + 1 + 1, o, none⟩ = false := by
  have h : (((w.alloc o1).alloc o2).alloc (.cells cs t)).frozen? ⟨((w.alloc o1).alloc o2).heap.size, o, none⟩ = false := World.frozen?_alloc_new _ cs t o
  simp only [World.size_alloc] at h
  exact h

theorem cellN_size {b : Bool} {t t' : ByteArray} {n d n' : Int} {L : Nat} (ht : t.size ≤ L) (ht' : t'.size ≤ L) : (cellN b t n d t' n').2.1.size ≤ L := by
  unfold cellN
  split
  · exact ht'
  · split
    · exact Nat.zero_le _
    · split
      · exact ht
      · exact ht
end Go.Proofs.Ytkdalacclafihaa

namespace Go.Proofs.Ytkdalacclafihaa
open Go.RowKit

set_option maxRecDepth 100000 in
theorem kind_any (b : Bool) (t k t' : ByteArray) (n q d n' : Int) : ∃ T F : Nat,
    (∀ w, Calls Try.prog 49 #[.agg #[.string k, .int .i64 q, .int .i64 d, .string t', .int .i64 n']] w fun e w' => e = .returned (.iface T (.agg #[])) ∧ Below w.heap.size w w') ∧
    (∀ w : World, (method 265 T (.agg #[]) "loop.example/comptoir/impl.do").run Try.prog w = .ok (F, .agg #[]) w) ∧
    (∀ (args : Array Value) (w : World), (callFunc F args).run Try.prog w = .ok (.enter F args) w) ∧
    (∀ w, Calls Try.prog F #[.agg #[], .agg #[.bool b, .string t, .int .i64 n], .agg #[.string k, .int .i64 q, .int .i64 d, .string t', .int .i64 n']] w fun e w' => e = .returned (cellV (cellN b t n d t' n')) ∧ Below w.heap.size w w') := by
  by_cases d1 : d = 1
  · subst d1
    exact ⟨116, 129, fun w => kindOf_putKind k t' q n' w, fun _ => by kernel_rfl, enters_of Try.func129 (by kernel_rfl) rfl, fun w => by rw [cellN_1]; exact do_putKind b t k t' n q 1 n' w⟩
  by_cases d2 : d = 2
  · subst d2
    exact ⟨117, 131, fun w => kindOf_delKind k t' q n' w, fun _ => by kernel_rfl, enters_of Try.func131 (by kernel_rfl) rfl, fun w => by rw [cellN_2]; exact do_delKind b t k t' n q 2 n' w⟩
  by_cases d3 : d = 3
  · subst d3
    exact ⟨118, 133, fun w => kindOf_addKind k t' q n' w, fun _ => by kernel_rfl, enters_of Try.func133 (by kernel_rfl) rfl, fun w => by rw [cellN_3]; exact do_addKind b t k t' n q 3 n' w⟩
  exact ⟨119, 135, fun w => kindOf_noKind k t' q d n' w d1 d2 d3, fun _ => by kernel_rfl, enters_of Try.func135 (by kernel_rfl) rfl, fun w => by rw [cellN_0 d1 d2 d3]; exact do_noKind b t k t' n q d n' w⟩
end Go.Proofs.Ytkdalacclafihaa
