/-
  The walk of the law FnExactBookLines: it answers true at every list of postings and every account.
-/
import Derived.Test.YtoegpdinokjbmaaDoorMarkP
import Derived.Test.YtoegpdinokjbmaaDoorSzSum
import Derived.Test.YtoegpdinokjbmaaDoorLinB
namespace Go.Proofs.YtoegpdinokjbmaaDoor
open Go.RowKit

theorem LegOwn.below {lo hi b : Nat} {w w' : World} {j : Nat} (h : LegOwn lo hi b w j) (hb : Below w.heap.size w w') : LegOwn lo hi b w' j := by
  obtain ⟨g, m, c, h0, h1⟩ := h
  exact ⟨g, m, c, cell_later hb h0, h1.1, h1.2.1, h1.2.2.1, h1.2.2.2.1.below hb, h1.2.2.2.2⟩
theorem marksTo_posts {w : World} {b n c : Nat} {B : List PostD} (h : PostsAt w (some ⟨b, 0, none⟩) n c B) : ∀ j, j ≤ n → (marksTo w b j : Int) = j + 3 * legSum (B.take j) := by
  intro j
  induction j with
  | zero => intro _; simp [marksTo, legSum]
  | succ j ih =>
    intro hj
    have hjB : j < B.length := by rw [h.length]; omega
    obtain ⟨_, s, m, c', _, h1, h2⟩ := h.posts _ rfl j hjB
    simp only [Nat.zero_add] at h1
    have e : marksTo w b (j + 1) = marksTo w b j + 1 + 3 * m := by show marksTo w b j + 1 + 3 * _ = _; rw [h1]
    have hl := h2.length
    rw [legSum_take (List.getElem?_eq_getElem hjB), e]
    have := ih (by omega)
    omega

set_option maxRecDepth 100000 in
set_option maxHeartbeats 4000000 in
theorem walkFnExactBookLines (a1 : Option Addr) (n1 c1 : Nat) (B1 : List PostD) (acct : ByteArray) (w : World) (h1 : PostsAt w a1 n1 c1 B1) (hs : acct.size ≤ maxLen) (hg : HasEt w) :
    Calls Tryd.prog 4 #[.slice a1 n1 c1, .string acct] w fun e w' => e = .returned (.bool true) ∧ Below w.heap.size w w' := by
  have H1 : Hid (PostsAt w a1 n1 c1 B1) := h1
  have HGE : Hid (HasEt w) := hg
  have hs' : acct.size ≤ 2 ^ 63 - 1 := hs
  clear h1 hg hs
  by_cases hbig : 1048576 < acct.size
  · go_enter Tryd.func4, Tryd.ntmps4
    go_wp2
    go_ret
    exact ⟨rfl, Below.refl _ _⟩
  go_enter Tryd.func4, Tryd.ntmps4
  go_wp2_with fail
  refine (szPostS_sum _ _ _ B1 _ _ H1.out (by omega) (by omega)).mono ?_
  rintro e w3 ⟨r, rfl, hr, hB3⟩
  rcases hr with rfl | ⟨hr0, hr1, hlen, hlegs, hsum⟩
  · go_wp2
    go_ret
    exact ⟨rfl, hB3⟩
  have hn1 : n1 ≤ 1048576 := by omega
  have HS1 : Hid (∀ p ∈ B1, p.2.length ≤ 1048576) := fun p hp => by have := hlegs p hp; omega
  have HSUM : Hid ((n1 : Int) + legSum B1 ≤ 1048576) := hsum
  clear hlegs hlen hsum
  go_wp2_with fail
  refine (toPostS_any _ _ _ B1 _ (H1.out.keep hB3) hn1 HS1.out).mono ?_
  rintro e w5 ⟨rfl, hP5, hlt5, hb5⟩
  have hB5 := hB3.trans (hb5.mono hB3.size)
  obtain ⟨x5, hx5⟩ : ∃ x, x = w3.heap.size := ⟨_, rfl⟩
  rw [← hx5] at hP5 hlt5 ⊢
  have hx5lt := hlt5
  have HP5 : Hid (PostsAt w5 (some ⟨x5, 0, none⟩) n1 n1 B1) := hP5
  clear hx5 hP5 hlt5 hb5 hB3
  go_wp2_with fail
  refine (specLines x5 0 n1 n1 B1 acct _ HP5.out hx5lt).mono ?_
  rintro e w6 ⟨a6, N, c6, rfl, hN200, hl6, hb6⟩
  obtain ⟨A, hA⟩ : ∃ A, A = linO acct B1 := ⟨_, rfl⟩
  have HA : Hid (A = linO acct B1) := hA
  rw [← hA] at hl6
  have S6 : Hid (LinIn w5.heap.size w6 a6 N c6 A) := hl6
  have HG6 : Hid (∀ g, a6 = some ⟨g, 0, none⟩ → g < w6.heap.size) := fun g e => by
    rcases lin_form hl6 with ⟨_, h, _⟩ | ⟨g', h, _, h2, _⟩
    · rw [h] at e; cases e
    · rw [h] at e; cases e; exact h2
  have HN : Hid (A.length = N * 3) := hl6.2
  have hB6 := hB5.trans (hb6.mono hB5.size)
  clear hA hl6 hb6 HP5 hB5 hx5lt
  go_wp2_with fail
  refine (toPostS_own _ _ _ B1 _ (H1.out.keep hB6) hn1 HS1.out).mono ?_
  rintro e w7 ⟨rfl, hP7, hlt7, hbk7, hlo7, hb7⟩
  have hB7 := hB6.trans (hb7.mono hB6.size)
  have hx7w : w.heap.size ≤ w6.heap.size := hB6.size
  obtain ⟨x7, hx7⟩ : ∃ x, x = w6.heap.size := ⟨_, rfl⟩
  have S7 : Hid (LinIn w5.heap.size w7 a6 N c6 A) := S6.out.below hb7
  rw [← hx7] at hP7 hbk7 hlo7 hx7w hlt7 ⊢
  have HG7 : Hid (∀ g, a6 = some ⟨g, 0, none⟩ → g < x7) := fun g e => by have := HG6.out g e; omega
  have HP7 : Hid (PostsAt w7 (some ⟨x7, 0, none⟩) n1 n1 B1) := hP7
  have HBK7 : Hid (BlockOf w7 x7 43 (n1 * 2)) := hbk7
  have HLO7 : Hid (∀ j, j < n1 → LegOwn x7 w7.heap.size x7 w7 j) := hlo7
  obtain ⟨z7, hz7⟩ : ∃ z, z = w7.heap.size := ⟨_, rfl⟩
  have HZ7 : Hid (z7 = w7.heap.size) := hz7
  have HX7 : Hid (x7 < z7) := by show x7 < z7; rw [hz7]; exact hlt7
  have hlt7' : x7 < w7.heap.size := hlt7
  clear hx7 hP7 hlt7 hb7 hB6 hbk7 hlo7 S6 hz7
  go_wp2_with fail
  refine (implLines x7 0 n1 n1 B1 acct _ HP7.out hlt7' (HGE.out.keep hB7)).mono ?_
  rintro e w8 ⟨a8, n8, c8, rfl, hn8, hs8, hb8⟩
  rw [← HA.out] at hs8
  obtain rfl : N = n8 := by have h1 := hs8.2; have h2 := HN.out; omega
  have hB8 := hB7.trans (hb8.mono hB7.size)
  have G8 : Hid (LinIn z7 w8 a8 N c8 A) := by show LinIn _ _ _ _ _ _; rw [HZ7.out]; exact hs8
  have S8 : Hid (LinIn w5.heap.size w8 a6 N c6 A) := S7.out.below hb8
  have HP8 : Hid (PostsAt w8 (some ⟨x7, 0, none⟩) n1 n1 B1) := HP7.out.keep hb8
  have HBK8 : Hid (BlockOf w8 x7 43 (n1 * 2)) := HBK7.out.below hb8
  have HLO8 : Hid (∀ j, j < n1 → LegOwn x7 z7 x7 w8 j) := fun j hj => by have := (HLO7.out j hj).below hb8; rw [← HZ7.out] at this; exact this
  have HZ8 : Hid (z7 ≤ w8.heap.size) := by show z7 ≤ w8.heap.size; rw [HZ7.out]; exact hb8.size
  clear hs8 hb8 hB7 HP7 HBK7 HLO7 S7 HZ7 hlt7'
  go_wp2_with fail
  refine (eqLines_same _ _ _ _ _ _ _ A _ G8.out S8.out).mono ?_
  rintro e w9 ⟨rfl, hb9⟩
  have K9 : Hid (Below w8.heap.size w8 w9) := hb9
  have hB9 := hB8.trans (hb9.mono hB8.size)
  clear hb9
  go_wp2_with fail
  refine (toPostS_any _ _ _ B1 _ (H1.out.keep hB9) hn1 HS1.out).mono ?_
  rintro e w10 ⟨rfl, hP10, hlt10, hb10⟩
  have K10 : Hid (Below w8.heap.size w8 w10) := K9.out.trans (hb10.mono K9.out.size)
  have hB10 := hB9.trans (hb10.mono hB9.size)
  obtain ⟨x9, hx9⟩ : ∃ x, x = w9.heap.size := ⟨_, rfl⟩
  rw [← hx9] at hP10 ⊢
  have HP10 : Hid (PostsAt w10 (some ⟨x9, 0, none⟩) n1 n1 B1) := hP10
  clear hx9 hP10 hlt10 hb10 hB9 K9
  go_wp2_with fail
  refine (eqPostS_same _ _ _ _ _ B1 _ (HP8.out.keep K10.out) HP10.out).mono ?_
  rintro e w11 ⟨rfl, hb11⟩
  have K11 : Hid (Below w8.heap.size w8 w11) := K10.out.trans (hb11.mono K10.out.size)
  have hB11 := hB10.trans (hb11.mono hB10.size)
  clear hb11 hB10 HP10 K10 hB8
  have hmk : marksTo w11 x7 n1 ≤ 4000000 := by
    have h0 := marksTo_posts (HP8.out.keep K11.out) n1 (Nat.le_refl _)
    have h1 := legSum_le B1 n1
    have h2 := HSUM.out
    omega
  obtain ⟨M, hM⟩ : ∃ M, M = marksTo w11 x7 n1 := ⟨_, rfl⟩
  have CM : Hid (Calls Tryd.prog 15 #[.slice (some ⟨x7, 0, none⟩) n1 n1, .int .i64 ((1 : Nat) : Int)] w11 fun e w' => e = .returned (.int .i64 ((1 + M : Nat) : Int)) ∧ MarkK x7 z7 x7 w11 w') := by
    show Calls _ _ _ _ _
    rw [hM]
    exact markPosts_any x7 z7 x7 n1 n1 1 w11 (HBK8.out.below K11.out) (Nat.le_refl _) (by unfold maxLen; omega) (Nat.le_refl _) HX7.out (fun j hj => (HLO8.out j hj).below K11.out) (Nat.le_refl _) (by omega)
  rw [← hM] at hmk
  clear hM HP8 HBK8 HLO8
  go_wp2_with fail
  refine (CM.out).mono ?_
  rintro e w12 ⟨rfl, hK12⟩
  have HK12 : Hid (MarkK x7 z7 x7 w11 w12) := hK12
  have hB12 : Below w.heap.size w w12 := hB11.trans (hK12.below hx7w hB11.size)
  have G12 : Hid (LinIn z7 w12 a8 N c8 A) := (G8.out.below K11.out).move (fun g _ hg hlt => HK12.out.far g hlt (Or.inr hg))
  have S12 : Hid (LinIn w5.heap.size w12 a6 N c6 A) := (S8.out.below K11.out).move (fun g e _ hlt => HK12.out.far g hlt (Or.inl (HG7.out g e)))
  have HZ12 : Hid (z7 ≤ w12.heap.size) := Nat.le_trans HZ8.out (Nat.le_trans K11.out.size hK12.size)
  clear hK12 HK12 hB11 K11 G8 S8 CM HZ8
  have hpos : ¬ (((1 + M : Nat) : Int) < 0) := by omega
  have hpos2 : ¬ ((1 : Int) + (M : Int) < 0) := by omega
  go_wp2_with fail
  refine (eqLines_same _ _ _ _ _ _ _ A _ G12.out S12.out).mono ?_
  rintro e w13 ⟨rfl, hb13⟩
  have hB13 := hB12.trans (hb13.mono hB12.size)
  have G13 : Hid (LinIn z7 w13 a8 N c8 A) := G12.out.below hb13
  have S13 : Hid (LinIn w5.heap.size w13 a6 N c6 A) := S12.out.below hb13
  have HZ13 : Hid (z7 ≤ w13.heap.size) := Nat.le_trans HZ12.out hb13.size
  clear hb13 hB12 G12 S12 HZ12
  have CK : Hid (Calls Tryd.prog 16 #[.slice a8 N c8, .int .i64 ((1 : Nat) : Int)] w13 fun e w' => e = .returned (.int .i64 ((1 + 3 * N : Nat) : Int)) ∧ LinIn z7 w' a8 N c8 (markF 1 (N * 3)) ∧ Below z7 w13 w') := markLines_any z7 a8 N c8 1 A w13 G13.out (by omega)
  go_wp2_with fail
  refine (CK.out).mono ?_
  rintro e w14 ⟨rfl, hs14, hb14⟩
  have hxz := HX7.out
  have hB14 : Below w.heap.size w w14 := hB13.trans (hb14.mono (by omega))
  have G14 : Hid (LinIn z7 w14 a8 N c8 (markF 1 (N * 3))) := hs14
  have S14 : Hid (LinIn w5.heap.size w14 a6 N c6 A) := S13.out.move (fun g e _ _ => hb14.block g (by have := HG7.out g e; omega))
  clear hs14 hb14 hB13 G13 S13 CK hxz
  have CH : Hid (∀ w', LinIn z7 w' a8 N c8 (markF 1 (N * 3)) → Calls Tryd.prog 17 #[.slice a8 N c8, .int .i64 ((1 : Nat) : Int)] w' fun e w'' => e = .returned (.int .i64 ((1 + 3 * N : Nat) : Int)) ∧ Below w'.heap.size w' w'') := fun w' h => heldLines_any z7 a8 N c8 1 w' h (by omega)
  have hq : ¬ (((1 + 3 * N : Nat) : Int) < 0) := by omega
  have hq2 : ¬ ((1 : Int) + 3 * (N : Int) < 0) := by omega
  go_wp2_with fail
  refine (CH.out _ G14.out).mono ?_
  rintro e w15 ⟨rfl, hb15⟩
  have hB15 := hB14.trans (hb15.mono hB14.size)
  have G15 : Hid (LinIn z7 w15 a8 N c8 (markF 1 (N * 3))) := G14.out.below hb15
  have S15 : Hid (LinIn w5.heap.size w15 a6 N c6 A) := S14.out.below hb15
  clear hb15 hB14 G14 S14
  go_wp2_with fail
  refine (toPostS_any _ _ _ B1 _ (H1.out.keep hB15) hn1 HS1.out).mono ?_
  rintro e w16 ⟨rfl, hP16, hlt16, hb16⟩
  have hB16 := hB15.trans (hb16.mono hB15.size)
  obtain ⟨x15, hx15⟩ : ∃ x, x = w15.heap.size := ⟨_, rfl⟩
  rw [← hx15] at hP16 hlt16 ⊢
  have hlt16' := hlt16
  have HP16 : Hid (PostsAt w16 (some ⟨x15, 0, none⟩) n1 n1 B1) := hP16
  have G16 : Hid (LinIn z7 w16 a8 N c8 (markF 1 (N * 3))) := G15.out.below hb16
  have S16 : Hid (LinIn w5.heap.size w16 a6 N c6 A) := S15.out.below hb16
  clear hx15 hP16 hlt16 hb16 hB15 G15 S15
  go_wp2_with fail
  refine (implLines x15 0 n1 n1 B1 acct _ HP16.out hlt16' (HGE.out.keep hB16)).mono ?_
  rintro e w17 ⟨a17, n17, c17, rfl, hn17, hs17, hb17⟩
  rw [← HA.out] at hs17
  obtain rfl : N = n17 := by have h1 := hs17.2; have h2 := HN.out; omega
  have hB17 := hB16.trans (hb17.mono hB16.size)
  have F17 : Hid (LinIn w16.heap.size w17 a17 N c17 A) := hs17
  have G17 : Hid (LinIn z7 w17 a8 N c8 (markF 1 (N * 3))) := G16.out.below hb17
  have S17 : Hid (LinIn w5.heap.size w17 a6 N c6 A) := S16.out.below hb17
  clear hs17 hb17 hB16 G16 S16 HP16 hlt16'
  go_wp2_with fail
  refine (eqLines_same _ _ _ _ _ _ _ A _ F17.out S17.out).mono ?_
  rintro e w18 ⟨rfl, hb18⟩
  have hB18 := hB17.trans (hb18.mono hB17.size)
  have G18 : Hid (LinIn z7 w18 a8 N c8 (markF 1 (N * 3))) := G17.out.below hb18
  clear hb18 hB17 F17 G17 S17
  go_wp2_with fail
  refine (CH.out _ G18.out).mono ?_
  rintro e w19 ⟨rfl, hb19⟩
  have hB19 := hB18.trans (hb19.mono hB18.size)
  clear hb19 hB18 G18
  go_wp2
  go_ret
  exact ⟨rfl, hB19⟩

end Go.Proofs.YtoegpdinokjbmaaDoor
