/-
  The walk of the law FnExactBookSame: it answers true at every two lists of postings.
-/
import Derived.Test.YtmolncbeaefjpaaBSame
import Derived.Test.YtmolncbeaefjpaaLawPosts
namespace Go.Proofs.Ytmolncbeaefjpaa
open Go.RowKit

set_option maxHeartbeats 2000000 in
theorem walkFnExactBookSame (a1 : Option Addr) (n1 c1 : Nat) (B1 : List PostD) (a2 : Option Addr) (n2 c2 : Nat) (B2 : List PostD) (w : World) (h1 : PostsAt w a1 n1 c1 B1) (h2 : PostsAt w a2 n2 c2 B2) :
    Calls Try.prog 7 #[.slice a1 n1 c1, .slice a2 n2 c2] w fun e w' => e = .returned (.bool true) ∧ Below w.heap.size w w' := by
  have H1 : Hid (PostsAt w a1 n1 c1 B1) := h1
  have H2 : Hid (PostsAt w a2 n2 c2 B2) := h2
  clear h1 h2
  go_enter Try.func7, Try.ntmps7
  go_wp2_with fail
  refine (szPostS_any _ _ _ B1 _ _ H1.out (by omega) (by omega)).mono ?_
  rintro e w3 ⟨r, rfl, hr, hB3⟩
  rcases hr with rfl | ⟨hr0, hr1, hlen, hlegs⟩
  · go_wp2
    go_ret
    exact ⟨rfl, hB3⟩
  have hn1 : n1 ≤ 1048576 := by omega
  have HS1 : Hid (∀ p ∈ B1, p.2.length ≤ 1048576) := fun p hp => by have := hlegs p hp; omega
  clear hlegs hlen
  go_wp2_with fail
  refine (szPostS_any _ _ _ B2 _ _ (H2.out.keep hB3) (by omega) (by omega)).mono ?_
  rintro e w4 ⟨r', rfl, hr', hb4⟩
  have hB4 : Below w.heap.size w w4 := hB3.trans (hb4.mono hB3.size)
  clear hb4 hB3
  rcases hr' with rfl | ⟨hr0', hr1', hlen', hlegs'⟩
  · go_wp2
    go_ret
    exact ⟨rfl, hB4⟩
  have hn2 : n2 ≤ 1048576 := by omega
  have HS2 : Hid (∀ p ∈ B2, p.2.length ≤ 1048576) := fun p hp => by have := hlegs' p hp; omega
  clear hlegs' hlen' hr1 hr1'
  go_wp2_with fail
  refine (toPostS_any _ _ _ B1 _ (H1.out.keep hB4) hn1 HS1.out).mono ?_
  rintro e w5 ⟨rfl, hP5, hlt5, hb5⟩
  have hB5 := hB4.trans (hb5.mono hB4.size)
  obtain ⟨x5, hx5⟩ : ∃ x, x = w4.heap.size := ⟨_, rfl⟩
  rw [← hx5] at hP5 ⊢
  have HP5 : Hid (PostsAt w5 (some ⟨x5, 0, none⟩) n1 n1 B1) := hP5
  clear hx5 hP5 hlt5 hb5 hB4
  go_wp2_with fail
  refine (toPostS_any _ _ _ B2 _ (H2.out.keep hB5) hn2 HS2.out).mono ?_
  rintro e w6 ⟨rfl, hP6, hlt6, hb6⟩
  have hB6 := hB5.trans (hb6.mono hB5.size)
  obtain ⟨x6, hx6⟩ : ∃ x, x = w5.heap.size := ⟨_, rfl⟩
  rw [← hx6] at hP6 ⊢
  have HP56 : Hid (PostsAt w6 (some ⟨x5, 0, none⟩) n1 n1 B1) := HP5.out.keep hb6
  have HP6 : Hid (PostsAt w6 (some ⟨x6, 0, none⟩) n2 n2 B2) := hP6
  clear hx6 hP6 hlt6 hb6 hB5 HP5
  go_wp2_with fail
  refine (specBookSame _ _ _ _ _ _ B1 B2 _ HP56.out HP6.out).mono ?_
  rintro e w7 ⟨rfl, hb7⟩
  have hB7 := hB6.trans (hb7.mono hB6.size)
  clear hb7 hB6 HP56 HP6
  obtain ⟨q, hq⟩ : ∃ q, q = decide (B1 = B2) := ⟨_, rfl⟩
  have HQ : Hid (q = decide (B1 = B2)) := hq
  rw [← hq]
  clear hq
  go_wp2_with fail
  refine (toPostS_any _ _ _ B1 _ (H1.out.keep hB7) hn1 HS1.out).mono ?_
  rintro e w8 ⟨rfl, hP8, hlt8, hb8⟩
  have hB8 := hB7.trans (hb8.mono hB7.size)
  obtain ⟨x8, hx8⟩ : ∃ x, x = w7.heap.size := ⟨_, rfl⟩
  rw [← hx8] at hP8 ⊢
  have HP8 : Hid (PostsAt w8 (some ⟨x8, 0, none⟩) n1 n1 B1) := hP8
  clear hx8 hP8 hlt8 hb8 hB7
  go_wp2_with fail
  refine (toPostS_any _ _ _ B2 _ (H2.out.keep hB8) hn2 HS2.out).mono ?_
  rintro e w9 ⟨rfl, hP9, hlt9, hb9⟩
  have hB9 := hB8.trans (hb9.mono hB8.size)
  obtain ⟨x9, hx9⟩ : ∃ x, x = w8.heap.size := ⟨_, rfl⟩
  rw [← hx9] at hP9 ⊢
  have HP89 : Hid (PostsAt w9 (some ⟨x8, 0, none⟩) n1 n1 B1) := HP8.out.keep hb9
  have HP9 : Hid (PostsAt w9 (some ⟨x9, 0, none⟩) n2 n2 B2) := hP9
  clear hx9 hP9 hlt9 hb9 hB8 HP8
  go_wp2_with fail
  refine (implBookSame _ _ _ _ _ _ B1 B2 _ HP89.out HP9.out).mono ?_
  rintro e w10 ⟨rfl, hb10⟩
  have hB10 := hB9.trans (hb10.mono hB9.size)
  have HPx : Hid (PostsAt w10 (some ⟨x8, 0, none⟩) n1 n1 B1) := HP89.out.keep hb10
  have HPy : Hid (PostsAt w10 (some ⟨x9, 0, none⟩) n2 n2 B2) := HP9.out.keep hb10
  clear hb10 hB9 HP89 HP9
  rw [← HQ.out]
  go_wp2_with fail
  refine (toPostS_any _ _ _ B1 _ (H1.out.keep hB10) hn1 HS1.out).mono ?_
  rintro e w11 ⟨rfl, hP11, hlt11, hb11⟩
  have hB11 := hB10.trans (hb11.mono hB10.size)
  have HPx11 := HPx.out.keep hb11
  have HPy11 := HPy.out.keep hb11
  clear hlt11 hb11 hB10 HPx HPy
  go_wp2_with fail
  refine (eqPostS_same _ _ _ _ _ B1 _ HPx11 hP11).mono ?_
  rintro e w12 ⟨rfl, hb12⟩
  have hB12 := hB11.trans (hb12.mono hB11.size)
  have HPy12 := HPy11.keep hb12
  clear hb12 hB11 HPx11 HPy11 hP11
  go_wp2_with fail
  refine (toPostS_any _ _ _ B2 _ (H2.out.keep hB12) hn2 HS2.out).mono ?_
  rintro e w13 ⟨rfl, hP13, hlt13, hb13⟩
  have hB13 := hB12.trans (hb13.mono hB12.size)
  have HPy13 := HPy12.keep hb13
  clear hlt13 hb13 hB12 HPy12
  go_wp2_with fail
  refine (eqPostS_same _ _ _ _ _ B2 _ HPy13 hP13).mono ?_
  rintro e w14 ⟨rfl, hb14⟩
  go_wp2
  go_ret
  exact ⟨rfl, hB13.trans (hb14.mono hB13.size)⟩
end Go.Proofs.Ytmolncbeaefjpaa
