/-
  What the document's BookAccts and BookSides answer of every list of postings, by walks of their Go text.
-/
import Derived.Test.YtpaknibaeieobaaAcctsS
namespace Go.Proofs.Ytpaknibaeieobaa
open Go.RowKit

def accOf (B : List PostD) : List ByteArray := if bookB B = true then accS B else []
theorem book_40 {B : List PostD} (h : bookB B = true) : B.length ≤ 40 := okUp_len (Nat.le_refl _) h
theorem book_good {B : List PostD} (h : bookB B = true) : ∀ p ∈ B, postB p.1 p.2 = true := by
  have := okUp_good (Nat.le_refl _) h
  rwa [List.take_length] at this
theorem accOf_len (B : List PostD) : (accOf B).length ≤ 160 := by
  unfold accOf
  split
  · rename_i h
    have h1 := accS_len B (fun p hp => postB_len (book_good h p hp))
    have := book_40 h
    omega
  · simp

set_option maxRecDepth 100000 in
set_option maxHeartbeats 2000000 in
theorem specAccts (b off n c : Nat) (B : List PostD) (w : World) (hP : PostsAt w (some ⟨b, off, none⟩) n c B) (hbb : b < w.heap.size) :
    Calls Try.prog 44 #[.slice (some ⟨b, off, none⟩) n c] w fun e w' => ∃ v, e = .returned v ∧ RowS w w' v (accOf B) := by
  have HLEN : Hid (B.length = n) := hP.length
  have HP : Hid (PostsAt w (some ⟨b, off, none⟩) n c B) := hP
  clear hP
  cases hbk : bookB B with
  | false =>
    have HA : Hid (accOf B = []) := by show accOf B = []; unfold accOf; rw [hbk]; rfl
    go_enter Try.func44, Try.ntmps44
    go_wp2_with (go_at_call 64; refine (specBookOk _ _ _ B _ HP.out).mono ?_; rw [hbk]; rintro e w1 ⟨rfl, hb1⟩)
    go_ret
    refine ⟨_, rfl, ?_⟩
    rw [HA.out]
    exact RowS.next hb1 ⟨w1.heap.size, 0, rfl, World.ownsRow_made w1 #[] 0 (Nat.le_refl _) (by unfold maxLen; omega) rfl, (Below.refl _ _).alloc (Nat.le_refl _) _⟩
  | true =>
    have HA : Hid (accOf B = accS B) := by show accOf B = accS B; unfold accOf; rw [hbk]; rfl
    have h40 : n ≤ 40 := by have := book_40 hbk; rw [HLEN.out] at this; exact this
    have HL4 : Hid (∀ p ∈ B, p.2.length ≤ 4) := fun p hp => postB_len (book_good hbk p hp)
    go_enter Try.func44, Try.ntmps44
    go_wp2_with fail
    refine (specBookOk _ _ _ B _ HP.out).mono ?_
    rw [hbk]
    rintro e w1 ⟨rfl, hb1⟩
    go_wp2_with fail
    refine (l2Accts_any b off n c B _ (HP.out.keep hb1) (Nat.lt_of_lt_of_le hbb hb1.size) h40 HL4.out).mono ?_
    rintro e w2 ⟨v, rfl, hR⟩
    go_wp2
    go_ret
    refine ⟨v, rfl, ?_⟩
    rw [HA.out]
    exact RowS.next hb1 hR

/-- What both sides have. -/
def sideM (B : List PostD) (cur : Int) : Int := moreP B cur (accOf B)
def sideL (B : List PostD) (cur : Int) : Int := lessP B cur (accOf B)

set_option maxRecDepth 100000 in
set_option maxHeartbeats 2000000 in
theorem specSides (b off n c : Nat) (cur : Int) (B : List PostD) (w : World) (hP : PostsAt w (some ⟨b, off, none⟩) n c B) (hbb : b < w.heap.size) :
    Calls Try.prog 42 #[.slice (some ⟨b, off, none⟩) n c, .int .i64 cur] w fun e w' => e = .returned (.tuple #[.int .i64 (sideM B cur), .int .i64 (sideL B cur)]) ∧ Below w.heap.size w w' := by
  have HLEN : Hid (B.length = n) := hP.length
  have HP : Hid (PostsAt w (some ⟨b, off, none⟩) n c B) := hP
  clear hP
  go_enter Try.func42, Try.ntmps42
  go_wp2_with fail
  refine (specAccts b off n c B _ HP.out hbb).mono ?_
  rintro e w1 ⟨v, rfl, g, cap, rfl, ho, hb1⟩
  have HO : Hid (w1.ownsRow w.heap.size 9 1 (.slice (some ⟨g, 0, none⟩) (accOf B).length cap) (accOf B).length ((accOf B).map .string)) := ho
  have HB1 : Hid (Below w.heap.size w w1) := hb1
  have hcap : (accOf B).length ≤ cap ∧ cap ≤ maxLen ∧ g < w1.heap.size := by
    rcases strs_form ho with ⟨h, _⟩ | ⟨g', cur', h, _, hg, h1, h2, _⟩
    · cases h
    · cases h; exact ⟨h1, h2, (Array.getElem?_eq_some_iff.1 hg).1⟩
  obtain ⟨hc1, hc2, hgw⟩ := hcap
  unfold maxLen at hc2
  clear ho hb1
  have hl160 := accOf_len B
  obtain ⟨A, hA⟩ : ∃ A, A = accOf B := ⟨_, rfl⟩
  have HAB : Hid (A = accOf B) := hA
  rw [← hA] at HO hc1 hl160 ⊢
  clear hA
  obtain ⟨ln, hln⟩ : ∃ ln, ln = A.length := ⟨_, rfl⟩
  have HLN : Hid (ln = A.length) := hln
  rw [← hln] at HO hc1 hl160 ⊢
  clear hln
  go_wp2
  go_loopw [6, 7, 9] (fun mo le i wr => ∃ k : Nat, k ≤ ln ∧ i = .int .i64 k ∧ mo = .int .i64 (moreP B cur (A.take k)) ∧ le = .int .i64 (lessP B cur (A.take k)) ∧ Below w1.heap.size w1 wr) (fun _ _ i _ => ln - (intOf i).toNat)
  case atStart => exact ⟨0, Nat.zero_le _, rfl, rfl, rfl, Below.refl _ _⟩
  case round =>
    obtain ⟨k, hk, rfl, rfl, rfl, hb⟩ := hrel
    by_cases hkn : k < ln
    · have hbook : bookB B = true := by
        cases h : bookB B with
        | true => rfl
        | false =>
          have : A = [] := by rw [HAB.out]; unfold accOf; rw [h]; rfl
          have := HLN.out
          rw [‹A = []›] at this
          simp at this
          omega
      have h40 : B.length ≤ 40 := book_40 hbook
      have HGD : Hid (∀ p ∈ B, postB p.1 p.2 = true) := book_good hbook
      have hn40 : n ≤ 40 := by rw [← HLEN.out]; exact h40
      have hkA : k < A.length := by rw [← HLN.out]; exact hkn
      obtain ⟨x, hx⟩ : ∃ x, x = A[k] := ⟨_, rfl⟩
      have hgx : A[k]? = some x := by rw [hx]; exact List.getElem?_eq_getElem hkA
      have hcx : wr.cell? ⟨g, k, none⟩ = some (.string x) := cell_later hb (str_cell HO.out hgx)
      have hgr : g < wr.heap.size := Nat.lt_of_lt_of_le hgw hb.size
      have HM : Hid (moreP B cur (A.take (k + 1)) = moreP B cur (A.take k) + (if 0 < balP B x cur then balP B x cur else 0)) := moreP_take hgx
      have HL : Hid (lessP B cur (A.take (k + 1)) = lessP B cur (A.take k) + (if 0 < balP B x cur then 0 else - balP B x cur)) := lessP_take hgx
      have htl : ((A.take k).length : Int) ≤ 160 := by rw [List.length_take]; omega
      have m1 := moreP_bd cur h40 (A.take k)
      have l1 := lessP_bd cur h40 (A.take k)
      have bb := balP_bd40 h40 x cur
      have HB0 : Hid (Below w.heap.size w wr) := HB1.out.trans (hb.mono HB1.out.size)
      have HBR : Hid (Below w1.heap.size w1 wr) := hb
      clear hx hgx hkA hb
      obtain ⟨M, hM⟩ : ∃ M, M = moreP B cur (A.take k) := ⟨_, rfl⟩
      obtain ⟨L, hL⟩ : ∃ L, L = lessP B cur (A.take k) := ⟨_, rfl⟩
      obtain ⟨N, hN⟩ : ∃ N, N = balP B x cur := ⟨_, rfl⟩
      have cB : ∀ w, PostsAt w (some ⟨b, off, none⟩) n c B → Calls Try.prog 65 #[.slice (some ⟨b, off, none⟩) n c, .string x, .int .i64 cur] w fun e w' => e = .returned (.int .i64 N) ∧ Below w.heap.size w w' := by rw [hN]; exact fun w h => specBal x cur _ n c B w h hn40 HGD.out
      have hm0 : 0 ≤ M ∧ M ≤ 25600000 := by rw [hM]; omega
      have hl0 : 0 ≤ L ∧ L ≤ 25600000 := by rw [hL]; omega
      have hn0 : -160000 ≤ N ∧ N ≤ 160000 := by rw [hN]; exact bb
      have HM' : Hid (moreP B cur (A.take (k + 1)) = M + (if 0 < N then N else 0)) := by show _ = _; rw [HM.out, hM, hN]
      have HL' : Hid (lessP B cur (A.take (k + 1)) = L + (if 0 < N then 0 else - N)) := by show _ = _; rw [HL.out, hL, hN]
      simp only [← hM, ← hL]
      obtain ⟨hm1, hm2⟩ := hm0
      obtain ⟨hl1, hl2⟩ := hl0
      obtain ⟨hn1, hn2⟩ := hn0
      clear hM hL hN HM HL m1 l1 bb htl
      go_wp2_with fail
      refine (cB _ (HP.out.keep HB0.out)).mono ?_
      rintro e w2 ⟨rfl, hb2⟩
      have HBR2 : Hid (Below w1.heap.size w1 w2) := HBR.out.trans (hb2.mono HBR.out.size)
      clear hb2 cB hcx
      by_cases hpos : 0 < N
      · go_wp2
        go_roundw
        case rel => exact ⟨k + 1, by omega, by go_num, by rw [HM'.out, if_pos hpos], by rw [HL'.out, if_pos hpos, Int.add_zero], HBR2.out⟩
        case measure => simp [intOf]; omega
      · go_wp2
        go_roundw
        case rel => exact ⟨k + 1, by omega, by go_num, by rw [HM'.out, if_neg (by omega), Int.add_zero], by rw [HL'.out, if_neg (by omega), Int.sub_eq_add_neg], HBR2.out⟩
        case measure => simp [intOf]; omega
    · have HT : Hid (A.take k = A) := List.take_of_length_le (by rw [← HLN.out]; omega)
      have HB0 : Hid (Below w.heap.size w wr) := HB1.out.trans (hb.mono HB1.out.size)
      clear hb
      go_wp2
      refine bodyPost_ret (v := .tuple #[.int .i64 (sideM B cur), .int .i64 (sideL B cur)]) (by simp [results, Try.results42, go_sem, sideM, sideL, ← HAB.out, HT.out]) rfl ⟨rfl, HB0.out⟩
end Go.Proofs.Ytpaknibaeieobaa
