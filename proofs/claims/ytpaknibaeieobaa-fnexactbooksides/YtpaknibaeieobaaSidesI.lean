/-
  What the program's BookSides answers of every list of postings, by a walk of its Go text.
-/
import Derived.Test.YtpaknibaeieobaaSidesS
import Derived.Test.YtpaknibaeieobaaTallyO
namespace Go.Proofs.Ytpaknibaeieobaa
open Go.RowKit

attribute [local go_sem] Oper.semAt_some

theorem leg_few {p : PostD} (h : postB p.1 p.2 = true) : ∀ l ∈ p.2, l.1.size ≤ maxLen := by
  intro l hl
  have h1 : p.2.all legB = true := by
    unfold postB at h
    simp only [Bool.and_eq_true] at h
    exact h.2.2.2.2
  have h2 := List.all_eq_true.1 h1 l hl
  unfold legB acctB at h2
  simp only [Bool.and_eq_true, decide_eq_true_eq] at h2
  unfold maxLen
  omega
theorem mem_putLs {y : ByteArray} (L : List LegD) : ∀ A, y ∈ putLs A L → y ∈ A ∨ ∃ l ∈ L, y = l.1 := by
  induction L with
  | nil => intro A h; exact Or.inl h
  | cons l L ih =>
    intro A h
    rcases ih (putL A l.1) h with h | ⟨l', hl', e⟩
    · rcases mem_putL h with h | h
      · exact Or.inr ⟨l, List.mem_cons_self .., h⟩
      · exact Or.inl h
    · exact Or.inr ⟨l', List.mem_cons_of_mem _ hl', e⟩
theorem mem_accS {B : List PostD} (h : ∀ p ∈ B, postB p.1 p.2 = true) : ∀ y ∈ accS B, y.size ≤ maxLen := by
  have key : ∀ (B : List PostD) (A : List ByteArray), (∀ p ∈ B, postB p.1 p.2 = true) → (∀ y ∈ A, y.size ≤ maxLen) → ∀ y ∈ B.foldl (fun A p => putLs A p.2) A, y.size ≤ maxLen := by
    intro B
    induction B with
    | nil => intro A _ h; exact h
    | cons p B ih =>
      intro A h1 h2
      refine ih (putLs A p.2) (fun q hq => h1 q (List.mem_cons_of_mem _ hq)) ?_
      intro y hy
      rcases mem_putLs p.2 A hy with hy | ⟨l, hl, rfl⟩
      · exact h2 y hy
      · exact leg_few (h1 p (List.mem_cons_self ..)) l hl
  exact key B [] h (fun y hy => by simp at hy)

set_option maxRecDepth 100000 in
set_option maxHeartbeats 2000000 in
theorem implSides (a : Option Addr) (n c : Nat) (cur : Int) (B : List PostD) (w : World) (hP : PostsAt w a n c B) (hcw : (Lit.int .i64 cur).wf = true) :
    Calls Try.prog 43 #[.slice a n c, .int .i64 cur] w fun e w' => e = .returned (.tuple #[.int .i64 (sideM B cur), .int .i64 (sideL B cur)]) ∧ Below w.heap.size w w' := by
  go_enter Try.func43, Try.ntmps43
  go_wp2_with fail
  refine (implTally a n c B _ hP).mono ?_
  intro e w1 hR
  rcases hR with ⟨hbook, T, mi, mb, va, rfl, hT, hmi, hmb, hb1⟩ | ⟨hbook, c0, hc0, rfl, hb1⟩
  · have HA : Hid (accOf B = accB B) := by show accOf B = accB B; unfold accOf; rw [hbook, if_pos rfl]; exact (accS_asc B).2.symm
    obtain ⟨av, cv, rfl⟩ := row_slice hT.row
    have h40 : B.length ≤ 40 := book_40 hbook
    have hl160 : (accB B).length ≤ 160 := by rw [← HA.out]; exact accOf_len B
    have HSZ : Hid (∀ y ∈ accB B, y.size ≤ maxLen) := by
      show ∀ y ∈ accB B, y.size ≤ maxLen
      rw [(accS_asc B).2]
      exact mem_accS (book_good hbook)
    have hT2 := hT.below (w' := w1.alloc (.cells #[.map (some mi), .map (some mb), .slice av (accB B).length cv] 92)) ((Below.refl _ _).alloc (Nat.le_refl _) _)
    obtain ⟨W, hW⟩ : ∃ W, W = w1.alloc (.cells #[.map (some mi), .map (some mb), .slice av (accB B).length cv] 92) := ⟨_, rfl⟩
    obtain ⟨X, hX⟩ : ∃ X, X = w1.heap.size := ⟨_, rfl⟩
    have x1 : W.cell? ⟨X, 1, none⟩ = some (.map (some mb)) := by rw [hW, hX]; simp
    have x2 : W.cell? ⟨X, 2, none⟩ = some (.slice av (accB B).length cv) := by rw [hW, hX]; simp
    have HB : Hid (Below w.heap.size w W) := by show Below _ _ _; rw [hW]; exact hb1.alloc hb1.size _
    rw [← hW] at hT2
    have HT2 : Hid (TallyAt W T mi mb (.slice av (accB B).length cv) B B [] (accB B)) := hT2
    go_upto_region 2 with fail
    rw [← hW, ← hX]
    clear hT hT2 hb1 hW hX
    obtain ⟨A, hA⟩ : ∃ A, A = accB B := ⟨_, rfl⟩
    have HAB : Hid (A = accB B) := hA
    rw [← hA] at x2 HT2 hl160 HSZ HA ⊢
    clear hA
    obtain ⟨ln, hln⟩ : ∃ ln, ln = A.length := ⟨_, rfl⟩
    have HLN : Hid (ln = A.length) := hln
    rw [← hln] at x2 hl160 ⊢
    clear hln
    have lX : X < W.heap.size := World.block_lt_of_cell? _ _ x1
    go_wp2
    go_loop [8, 9, 23] (fun mo le i => ∃ k : Nat, k ≤ ln ∧ i = .int .i64 k ∧ mo = .int .i64 (moreP B cur (A.take k)) ∧ le = .int .i64 (lessP B cur (A.take k))) (fun _ _ i => ln - (intOf i).toNat)
    case atStart => exact ⟨0, Nat.zero_le _, rfl, rfl, rfl⟩
    case round =>
      obtain ⟨k, hk, rfl, rfl, rfl⟩ := hrel
      by_cases hkn : k < ln
      · have hkA : k < A.length := by rw [← HLN.out]; exact hkn
        obtain ⟨x, hx⟩ : ∃ x, x = A[k] := ⟨_, rfl⟩
        have hgx : A[k]? = some x := by rw [hx]; exact List.getElem?_eq_getElem hkA
        have hxs : x.size ≤ maxLen := HSZ.out x (by rw [hx]; exact List.getElem_mem hkA)
        obtain ⟨g, rfl, hgW, hlc, hcm⟩ : ∃ g, av = some ⟨g, 0, none⟩ ∧ g < W.heap.size ∧ ln ≤ cv ∧ cv ≤ maxLen := by
          rcases strs_form HT2.out.row with ⟨_, h0, _⟩ | ⟨g, cur', h, _, hg, h1, h2, _⟩
          · rw [← HLN.out] at h0; omega
          · exact ⟨g, h, (Array.getElem?_eq_some_iff.1 hg).1, by rw [HLN.out]; exact h1, h2⟩
        unfold maxLen at hcm
        have hcx : W.cell? ⟨g, k, none⟩ = some (.string x) := str_cell HT2.out.row hgx
        have hlk := HT2.out.look (s := x) (c := cur) hxs hcw
        rw [balK_nil] at hlk
        have HM : Hid (moreP B cur (A.take (k + 1)) = moreP B cur (A.take k) + (if 0 < balP B x cur then balP B x cur else 0)) := moreP_take hgx
        have HL : Hid (lessP B cur (A.take (k + 1)) = lessP B cur (A.take k) + (if 0 < balP B x cur then 0 else - balP B x cur)) := lessP_take hgx
        have htl : ((A.take k).length : Int) ≤ 160 := by rw [List.length_take]; omega
        have m1 := moreP_bd cur h40 (A.take k)
        have l1 := lessP_bd cur h40 (A.take k)
        have bb := balP_bd40 h40 x cur
        clear hx hgx hkA hxs
        obtain ⟨M, hM⟩ : ∃ M, M = moreP B cur (A.take k) := ⟨_, rfl⟩
        obtain ⟨L, hL⟩ : ∃ L, L = lessP B cur (A.take k) := ⟨_, rfl⟩
        obtain ⟨N, hN⟩ : ∃ N, N = balP B x cur := ⟨_, rfl⟩
        rw [← hN] at hlk
        have hm0 : 0 ≤ M ∧ M ≤ 25600000 := by rw [hM]; omega
        have hl0 : 0 ≤ L ∧ L ≤ 25600000 := by rw [hL]; omega
        have hn0 : -160000 ≤ N ∧ N ≤ 160000 := by rw [hN]; exact bb
        have HM' : Hid (moreP B cur (A.take (k + 1)) = M + (if 0 < N then N else 0)) := by show _ = _; rw [HM.out, hM, hN]
        have HL' : Hid (lessP B cur (A.take (k + 1)) = L + (if 0 < N then 0 else - N)) := by show _ = _; rw [HL.out, hL, hN]
        simp only [← hM, ← hL]
        obtain ⟨hm1, hm2⟩ := hm0
        obtain ⟨hl1, hl2⟩ := hl0
        obtain ⟨hn1, hn2⟩ := hn0
        clear hM hL hN HM HL m1 l1 bb htl
        by_cases hpos : 0 < N
        · go_wp2
          go_round
          case rel => exact ⟨k + 1, by omega, by go_num, by rw [HM'.out, if_pos hpos], by rw [HL'.out, if_pos hpos, Int.add_zero]⟩
          case measure => simp [intOf]; omega
        · go_wp2
          go_round
          case rel => exact ⟨k + 1, by omega, by go_num, by rw [HM'.out, if_neg (by omega), Int.add_zero], by rw [HL'.out, if_neg (by omega), Int.sub_eq_add_neg]⟩
          case measure => simp [intOf]; omega
      · have HT : Hid (A.take k = A) := List.take_of_length_le (by rw [← HLN.out]; omega)
        go_wp2
        refine bodyPost_ret (v := .tuple #[.int .i64 (sideM B cur), .int .i64 (sideL B cur)]) (by simp [results, Try.results43, go_sem, sideM, sideL, HA.out, HT.out]) rfl ⟨rfl, HB.out⟩
  · have HA : Hid (accOf B = []) := by show accOf B = []; unfold accOf; rw [hbook]; rfl
    go_wp2
    refine bodyPost_ret (v := .tuple #[.int .i64 (sideM B cur), .int .i64 (sideL B cur)]) (by simp [results, Try.results43, go_sem, sideM, sideL, HA.out, moreP, lessP]) rfl ⟨rfl, hb1.alloc hb1.size _⟩
end Go.Proofs.Ytpaknibaeieobaa
