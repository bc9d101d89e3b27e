/-
  The walk of the law FnExactBookOk: it answers true at every list of postings.
-/
import Derived.Test.YtoegpdinokjbmaaDoorBookS
import Derived.Test.YtoegpdinokjbmaaDoorCodeOf
import Derived.Test.YtoegpdinokjbmaaDoorLawPosts
namespace Go.Proofs.YtoegpdinokjbmaaDoor
open Go.RowKit

set_option maxRecDepth 100000 in
set_option maxHeartbeats 4000000 in
theorem walkFnExactBookOk (a1 : Option Addr) (n1 c1 : Nat) (B1 : List PostD) (w : World) (h1 : PostsAt w a1 n1 c1 B1) (hg : HasEt w) :
    Calls Tryd.prog 3 #[.slice a1 n1 c1] w fun e w' => e = .returned (.bool true) ∧ Below w.heap.size w w' := by
  have H1 : Hid (PostsAt w a1 n1 c1 B1) := h1
  have HG : Hid (HasEt w) := hg
  clear h1 hg
  go_enter Tryd.func3, Tryd.ntmps3
  go_wp2_with fail
  refine (szPostS_any _ _ _ B1 _ _ H1.out (by omega) (by omega)).mono ?_
  rintro e w3 ⟨r, rfl, hr, hB3⟩
  rcases hr with rfl | ⟨hr0, hr1, hlen, hlegs⟩
  · go_wp2
    go_ret
    exact ⟨rfl, hB3⟩
  have hn1 : n1 ≤ 1048576 := by omega
  have HS1 : Hid (∀ p ∈ B1, p.2.length ≤ 1048576) := fun p hp => by have := hlegs p hp; omega
  clear hlegs hlen
  go_wp2_with fail
  refine (toPostS_any _ _ _ B1 _ (H1.out.keep hB3) hn1 HS1.out).mono ?_
  rintro e w5 ⟨rfl, hP5, hlt5, hb5⟩
  have hB5 := hB3.trans (hb5.mono hB3.size)
  obtain ⟨x5, hx5⟩ : ∃ x, x = w3.heap.size := ⟨_, rfl⟩
  rw [← hx5] at hP5 ⊢
  have HP5 : Hid (PostsAt w5 (some ⟨x5, 0, none⟩) n1 n1 B1) := hP5
  clear hx5 hP5 hlt5 hb5 hB3
  obtain ⟨q, hq⟩ : ∃ q, q = bookB B1 := ⟨_, rfl⟩
  have cS : ∀ a n c w, PostsAt w a n c B1 → Calls Tryd.prog 8 #[.slice a n c] w fun e w' => e = .returned (.bool q) ∧ Below w.heap.size w w' := by rw [hq]; exact fun a n c w h => specBookOk a n c B1 w h
  have cI : ∀ a n c w', Below w.heap.size w w' → PostsAt w' a n c B1 → Calls Tryd.prog 10 #[.slice a n c] w' fun e w'' => e = .returned (.bool q) ∧ Below w'.heap.size w' w'' := by rw [hq]; exact fun a n c w' k h => implBookOk a n c B1 w' h (HG.out.keep k)
  clear hq
  go_wp2_with fail
  refine (cS _ _ _ _ HP5.out).mono ?_
  rintro e w6 ⟨rfl, hb6⟩
  have hB6 := hB5.trans (hb6.mono hB5.size)
  clear hb6 hB5 HP5
  go_wp2_with fail
  refine (toPostS_any _ _ _ B1 _ (H1.out.keep hB6) hn1 HS1.out).mono ?_
  rintro e w7 ⟨rfl, hP7, hlt7, hb7⟩
  have hB7 := hB6.trans (hb7.mono hB6.size)
  obtain ⟨x7, hx7⟩ : ∃ x, x = w6.heap.size := ⟨_, rfl⟩
  rw [← hx7] at hP7 ⊢
  have HP7 : Hid (PostsAt w7 (some ⟨x7, 0, none⟩) n1 n1 B1) := hP7
  clear hx7 hP7 hlt7 hb7 hB6
  go_wp2_with fail
  refine (cI _ _ _ _ hB7 HP7.out).mono ?_
  rintro e w8 ⟨rfl, hb8⟩
  have hB8 := hB7.trans (hb8.mono hB7.size)
  have HP8 : Hid (PostsAt w8 (some ⟨x7, 0, none⟩) n1 n1 B1) := HP7.out.keep hb8
  clear hb8 hB7 HP7
  go_wp2_with fail
  refine (toPostS_any _ _ _ B1 _ (H1.out.keep hB8) hn1 HS1.out).mono ?_
  rintro e w9 ⟨rfl, hP9, hlt9, hb9⟩
  have hB9 := hB8.trans (hb9.mono hB8.size)
  obtain ⟨x9, hx9⟩ : ∃ x, x = w8.heap.size := ⟨_, rfl⟩
  rw [← hx9] at hP9 ⊢
  have HP9 : Hid (PostsAt w9 (some ⟨x9, 0, none⟩) n1 n1 B1) := hP9
  have HP89 : Hid (PostsAt w9 (some ⟨x7, 0, none⟩) n1 n1 B1) := HP8.out.keep hb9
  clear hx9 hP9 hlt9 hb9 hB8 HP8
  go_wp2_with fail
  refine (eqPostS_same _ _ _ _ _ B1 _ HP89.out HP9.out).mono ?_
  rintro e w10 ⟨rfl, hb10⟩
  have hB10 := hB9.trans (hb10.mono hB9.size)
  go_wp2
  go_ret
  exact ⟨rfl, hB10⟩

end Go.Proofs.YtoegpdinokjbmaaDoor
