/-
  What the document's l2Accts and BookSides answer of every list of postings, by walks of their Go text.
-/
import Derived.Test.YtkhnknpacdmikaaPutS
import Derived.Test.YtkhnknpacdmikaaBookS
namespace Go.Proofs.Ytkhnknpacdmikaa
open Go.RowKit

theorem row_base {w : World} {base base' e size n : Nat} {v : Value} {xs : List Value} (h : w.ownsRow base e size v n xs) (hb : base' ≤ base) : w.ownsRow base' e size v n xs := by
  refine ⟨h.1, ?_⟩
  rcases h.2 with h0 | ⟨g, cap, cur, hv, hg, rest⟩
  · exact Or.inl h0
  · exact Or.inr ⟨g, cap, cur, hv, Nat.le_trans hb hg, rest⟩
theorem RowS.next {w w1 w2 : World} {v' : Value} {A' : List ByteArray} (h : Below w.heap.size w w1) (k : RowS w1 w2 v' A') : RowS w w2 v' A' := by
  obtain ⟨g, cap, hv, ho, hb⟩ := k
  exact ⟨g, cap, hv, row_base ho h.size, h.trans (hb.mono h.size)⟩
theorem putLs_len (L : List LegD) : ∀ A : List ByteArray, (putLs A L).length ≤ A.length + L.length := by
  induction L with
  | nil => intro A; simp [putLs]
  | cons l L ih =>
    intro A
    have h1 := ih (putL A l.1)
    have h2 := putL_len A l.1
    unfold putLs at h1 ⊢
    simp only [List.foldl_cons, List.length_cons]
    omega
theorem accS_len (B : List PostD) (h : ∀ p ∈ B, p.2.length ≤ 4) : (accS B).length ≤ 4 * B.length := by
  have key : ∀ (B : List PostD) (A : List ByteArray), (∀ p ∈ B, p.2.length ≤ 4) → (B.foldl (fun A p => putLs A p.2) A).length ≤ A.length + 4 * B.length := by
    intro B
    induction B with
    | nil => intro A _; simp
    | cons p r ih =>
      intro A h
      have h1 := ih (putLs A p.2) (fun q hq => h q (List.mem_cons_of_mem _ hq))
      have h2 := putLs_len p.2 A
      have h3 := h p (List.mem_cons_self ..)
      simp only [List.foldl_cons, List.length_cons] at h1 ⊢
      omega
  have := key B [] h
  unfold accS
  simpa using this
theorem accS_snoc (B : List PostD) (p : PostD) : accS (B ++ [p]) = putLs (accS B) p.2 := by simp [accS]
theorem putLs_snoc (A : List ByteArray) (L : List LegD) (l : LegD) : putLs A (L ++ [l]) = putL (putLs A L) l.1 := by simp [putLs]

set_option maxRecDepth 100000 in
set_option maxHeartbeats 2000000 in
theorem l2Accts_any (b off n c : Nat) (B : List PostD) (w : World) (hP : PostsAt w (some ⟨b, off, none⟩) n c B) (hbb : b < w.heap.size) (h40 : n ≤ 40) (hl : ∀ p ∈ B, p.2.length ≤ 4) :
    Calls Try.prog 64 #[.slice (some ⟨b, off, none⟩) n c] w fun e w' => ∃ v, e = .returned v ∧ RowS w w' v (accS B) := by
  have HLEN : Hid (B.length = n) := hP.length
  have HP : Hid (PostsAt w (some ⟨b, off, none⟩) n c B) := hP
  have HL4 : Hid (∀ p ∈ B, p.2.length ≤ 4) := hl
  have hbig := hP.big
  have hroom := hP.room
  unfold maxLen at hbig
  clear hP hl
  have R0 : RowS w (w.alloc (.cells #[] 9)) (.slice (some ⟨w.heap.size, 0, none⟩) 0 0) [] := ⟨w.heap.size, 0, rfl, World.ownsRow_made w #[] 0 (Nat.le_refl _) (by unfold maxLen; omega) rfl, (Below.refl _ _).alloc (Nat.le_refl _) _⟩
  go_enter Try.func64, Try.ntmps64
  go_wp2
  go_loopw [3, 4] (fun o i wr => ∃ k : Nat, k ≤ n ∧ i = .int .i64 k ∧ RowS w wr o (accS (B.take k))) (fun _ i _ => n - (intOf i).toNat)
  case atStart => exact ⟨0, Nat.zero_le _, rfl, R0⟩
  case round =>
    obtain ⟨k, hk, rfl, hrow⟩ := hrel
    obtain ⟨g, cap, rfl, ho, hb⟩ := hrow
    have HO : Hid (wr.ownsRow w.heap.size 9 1 (.slice (some ⟨g, 0, none⟩) (accS (B.take k)).length cap) (accS (B.take k)).length ((accS (B.take k)).map .string)) := ho
    have HBW : Hid (Below w.heap.size w wr) := hb
    clear ho
    by_cases hkn : k < n
    · obtain ⟨id, L, s, m, cm, hgk, hidw, g0, g1, hL0⟩ := HP.out.post (Below.refl _ w) k hkn
      have HGK : Hid (B[k]? = some (id, L)) := hgk
      have HLW : Hid (LegsAt w s m cm L) := hL0
      have HG1 : Hid (w.cell? ⟨b, off + k * 2 + 1, none⟩ = some (.slice s m cm)) := g1
      have hm4 : m ≤ 4 := by have := HL4.out (id, L) (List.mem_of_getElem? hgk); have := hL0.length; simp only at *; omega
      have HML : Hid (L.length = m) := hL0.length
      have hmr := hL0.room
      have hmb := hL0.big
      unfold maxLen at hmb
      have hlenk : (accS (B.take k)).length ≤ 160 := by
        have h1 := accS_len (B.take k) (fun p hp => HL4.out p (List.mem_of_mem_take hp))
        have : (B.take k).length ≤ 40 := by rw [List.length_take]; omega
        omega
      clear hgk hL0 g0 g1 hb
      go_wp2
      go_loopw [3, 5] (fun o i wv => ∃ q : Nat, q ≤ m ∧ i = .int .i64 q ∧ RowS w wv o (putLs (accS (B.take k)) (L.take q))) (fun _ i _ => m - (intOf i).toNat)
      case atStart => exact ⟨0, Nat.zero_le _, rfl, g, cap, rfl, HO.out, HBW.out⟩
      case round =>
        obtain ⟨q, hq, rfl, hrow'⟩ := hrel
        obtain ⟨g', cap', rfl, ho', hb'⟩ := hrow'
        have HO' : Hid (wr.ownsRow w.heap.size 9 1 (.slice (some ⟨g', 0, none⟩) (putLs (accS (B.take k)) (L.take q)).length cap') (putLs (accS (B.take k)) (L.take q)).length ((putLs (accS (B.take k)) (L.take q)).map .string)) := ho'
        have HB' : Hid (Below w.heap.size w wr) := hb'
        have hcs := cell_later hb' HG1.out
        have hbw : b < wr.heap.size := Nat.lt_of_lt_of_le hbb hb'.size
        clear ho'
        by_cases hqm : q < m
        · obtain ⟨lb, lo, rfl, hlb⟩ := HLW.out.form (by omega)
          obtain ⟨t, cu, nn, hgq, hlw, l0, l1, l2⟩ := HLW.out.leg hb' hlb q hqm
          have hlbw : lb < wr.heap.size := Nat.lt_of_lt_of_le hlb hb'.size
          have HGQ : Hid (L[q]? = some (t, cu, nn)) := hgq
          have hlen2 : (putLs (accS (B.take k)) (L.take q)).length ≤ 1000 := by
            have h1 := putLs_len (L.take q) (accS (B.take k))
            have h2 : (L.take q).length ≤ 4 := by rw [List.length_take]; omega
            omega
          clear hgq hlw hb'
          go_wp2_with fail
          refine (l2Put_any w.heap.size _ _ g' (putLs (accS (B.take k)) (L.take q)) t _ HO'.out hlen2).mono ?_
          rintro e w2 ⟨v, rfl, hR⟩
          have HR2 : Hid (RowS w w2 v (putLs (accS (B.take k)) (L.take (q + 1)))) := by
            show RowS w w2 v _
            rw [List.take_add_one, HGQ.out]
            show RowS w w2 v (putLs (accS (B.take k)) (L.take q ++ [(t, cu, nn)]))
            rw [putLs_snoc]
            exact RowS.next HB'.out hR
          clear hR
          go_wp2
          go_roundw
          case rel => exact ⟨q + 1, by omega, by go_num, HR2.out⟩
          case measure => simp [intOf]; omega
        · have HFIN : Hid (RowS w wr (.slice (some ⟨g', 0, none⟩) (putLs (accS (B.take k)) (L.take q)).length cap') (accS (B.take (k + 1)))) := by
            show RowS w wr _ _
            have e1 : L.take q = L := List.take_of_length_le (by rw [HML.out]; omega)
            have e2 : accS (B.take (k + 1)) = putLs (accS (B.take k)) (L.take q) := by
              rw [List.take_add_one, HGK.out, e1]
              exact accS_snoc _ _
            rw [e2]
            exact ⟨g', cap', rfl, HO'.out, HB'.out⟩
          clear hb'
          go_wp2
          go_roundw
          case rel => exact ⟨k + 1, by omega, by go_num, HFIN.out⟩
          case measure => simp [intOf]; omega
    · go_wp2
      go_ret
      refine ⟨_, rfl, ?_⟩
      have : B.take k = B := List.take_of_length_le (by rw [HLEN.out]; omega)
      have hO2 := HO.out
      rw [this] at hO2 ⊢
      exact ⟨g, cap, rfl, hO2, HBW.out⟩

/-- The balances above nothing of these names together, and those below. -/
def moreP (B : List PostD) (cur : Int) (A : List ByteArray) : Int := (A.map (fun s => if 0 < balP B s cur then balP B s cur else 0)).sum
def lessP (B : List PostD) (cur : Int) (A : List ByteArray) : Int := (A.map (fun s => if 0 < balP B s cur then 0 else - balP B s cur)).sum
theorem moreP_take {B : List PostD} {cur : Int} {A : List ByteArray} {k : Nat} {s : ByteArray} (h : A[k]? = some s) : moreP B cur (A.take (k + 1)) = moreP B cur (A.take k) + (if 0 < balP B s cur then balP B s cur else 0) := by
  unfold moreP; rw [List.take_add_one, h]; simp
theorem lessP_take {B : List PostD} {cur : Int} {A : List ByteArray} {k : Nat} {s : ByteArray} (h : A[k]? = some s) : lessP B cur (A.take (k + 1)) = lessP B cur (A.take k) + (if 0 < balP B s cur then 0 else - balP B s cur) := by
  unfold lessP; rw [List.take_add_one, h]; simp
theorem moreP_bd {B : List PostD} (cur : Int) (h : B.length ≤ 40) (A : List ByteArray) : 0 ≤ moreP B cur A ∧ moreP B cur A ≤ 160000 * (A.length : Int) := by
  induction A with
  | nil => simp [moreP]
  | cons s A ih =>
    have := balP_bd40 h s cur
    unfold moreP at ih ⊢
    simp only [List.map_cons, List.sum_cons, List.length_cons]
    split <;> omega
theorem lessP_bd {B : List PostD} (cur : Int) (h : B.length ≤ 40) (A : List ByteArray) : 0 ≤ lessP B cur A ∧ lessP B cur A ≤ 160000 * (A.length : Int) := by
  induction A with
  | nil => simp [lessP]
  | cons s A ih =>
    have := balP_bd40 h s cur
    unfold lessP at ih ⊢
    simp only [List.map_cons, List.sum_cons, List.length_cons]
    split <;> omega

end Go.Proofs.Ytkhnknpacdmikaa
