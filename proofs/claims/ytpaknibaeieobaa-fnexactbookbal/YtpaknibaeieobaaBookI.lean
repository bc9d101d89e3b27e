/-
  What the program's BookBal answers of every list of postings, by a walk of its Go text.
-/
import Derived.Test.YtpaknibaeieobaaTallyO
namespace Go.Proofs.Ytpaknibaeieobaa
open Go.RowKit

attribute [local go_sem] Oper.semAt_some

set_option maxRecDepth 100000 in
set_option maxHeartbeats 2000000 in
theorem implBookBal (a : Option Addr) (n c : Nat) (B : List PostD) (acct : ByteArray) (cur : Int) (w : World) (hP : PostsAt w a n c B) (hs : acct.size ≤ maxLen) (hc : (Lit.int .i64 cur).wf = true) :
    Calls Try.prog 40 #[.slice a n c, .string acct, .int .i64 cur] w fun e w' => e = .returned (.int .i64 (if bookB B = true then balP B acct cur else 0)) ∧ Below w.heap.size w w' := by
  obtain ⟨r, hr⟩ : ∃ r, r = if bookB B = true then balP B acct cur else 0 := ⟨_, rfl⟩
  rw [← hr]
  have HR : Hid (r = if bookB B = true then balP B acct cur else 0) := hr
  clear hr
  go_enter Try.func40, Try.ntmps40
  go_wp2_with fail
  refine (implTally a n c B _ hP).mono ?_
  intro e w1 hR
  rcases hR with ⟨hb, T, mi, mb, va, rfl, hT, hmi, hmb, hb1⟩ | ⟨hb, c0, hc0, rfl, hb1⟩
  · have hrb : r = balP B acct cur := by rw [HR.out, if_pos hb]
    obtain ⟨av, cv, rfl⟩ := row_slice hT.row
    have hT2 := hT.below (w' := w1.alloc (.cells #[.map (some mi), .map (some mb), .slice av (accB B).length cv] 92)) ((Below.refl _ _).alloc (Nat.le_refl _) _)
    have hlk := hT2.look hs hc
    rw [balK_nil] at hlk
    rw [← hrb] at hlk
    have HB1 : Hid (Below w.heap.size w w1) := hb1
    clear hT hT2 hrb hb1
    go_wp2
    go_ret
    exact ⟨rfl, HB1.out.alloc HB1.out.size _⟩
  · have hrb : r = 0 := by rw [HR.out, hb]; rfl
    subst hrb
    go_wp2
    go_ret
    exact ⟨rfl, hb1.alloc hb1.size _⟩
end Go.Proofs.Ytpaknibaeieobaa
