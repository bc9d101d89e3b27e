/-
  The walk of the law FnCellAll: it answers true at all bytes: what a key has is told in whatever order its entries stand, and by no others.
-/
import Derived.Test.YtanhmpbjbdpkgaaCellAI
import Derived.Test.YtanhmpbjbdpkgaaCellAS
import Derived.Test.YtanhmpbjbdpkgaaDrawAll
import Derived.Maps.AppendAt
namespace Go.Proofs.Ytanhmpbjbdpkgaa
open Go.RowKit

attribute [local go_sem] Oper.semAt_some

theorem rev_snoc {L : List EntD} {k : Nat} {e : EntD} (h : L[k]? = some e) : (L.drop k).reverse = (L.drop (k + 1)).reverse ++ [e] := by
  obtain ⟨hk, he⟩ := List.getElem?_eq_some_iff.1 h
  rw [List.drop_eq_getElem_cons hk, he, List.reverse_cons]
theorem mine_yes {L : List EntD} {key : ByteArray} {seq : Int} {k : Nat} {e : EntD} (h : L[k]? = some e) (h1 : e.1 = key) (h2 : e.2.1 ≤ seq) : (findL (L.drop k) key seq).reverse = (findL (L.drop (k + 1)) key seq).reverse ++ [e] := by
  obtain ⟨hk, he⟩ := List.getElem?_eq_some_iff.1 h
  rw [List.drop_eq_getElem_cons hk, he]
  simp [findL, h1, h2]
theorem mine_no {L : List EntD} {key : ByteArray} {seq : Int} {k : Nat} {e : EntD} (h : L[k]? = some e) (h1 : ¬ (e.1 = key ∧ e.2.1 ≤ seq)) : (findL (L.drop k) key seq).reverse = (findL (L.drop (k + 1)) key seq).reverse := by
  obtain ⟨hk, he⟩ := List.getElem?_eq_some_iff.1 h
  rw [List.drop_eq_getElem_cons hk, he]
  unfold findL
  rw [List.filter_cons_of_neg (by simpa using h1)]
theorem ents_two (w : World) (s t s' t' : ByteArray) (q d n q' d' n' : Int) (h : EntW (s, q, d, t, n)) (h' : EntW (s', q', d', t', n')) : EntsAt (w.alloc (.cells #[.string s, .int .i64 q, .int .i64 d, .string t, .int .i64 n, .string s', .int .i64 q', .int .i64 d', .string t', .int .i64 n'] 47)) (some ⟨w.heap.size, 0, none⟩) 2 2 [(s, q, d, t, n), (s', q', d', t', n')] := by
  refine ⟨rfl, Nat.le_refl _, by unfold maxLen; omega, fun l hl => ?_, (fun e => by cases e), (fun x e _ => by cases e; exact ⟨by simp, rfl⟩), ?_⟩
  · simp only [List.mem_cons, List.not_mem_nil, or_false] at hl
    rcases hl with rfl | rfl
    · exact h
    · exact h'
  · rintro x e i hi
    cases e
    match i, hi with
    | 0, _ => exact ⟨by simp, by simp, by simp, by simp, by simp⟩
    | 1, _ => exact ⟨by simp, by simp, by simp, by simp, by simp⟩
    | i + 2, hi => simp at hi; omega
theorem late_w {key : ByteArray} {seq : Int} (hk : key.size ≤ 100) (hs : 0 ≤ seq ∧ seq ≤ 20) : EntW (key, seq + 1, 2, ⟨#[]⟩, 0) :=
  ⟨(by unfold maxLen; simp only; omega), WalkArith.wf_i64 (by simp only; omega), (by show (Lit.int .i64 2).wf = true; decide), Nat.zero_le _, (by show (Lit.int .i64 0).wf = true; decide)⟩
theorem other_w : EntW (⟨#[111, 116, 104, 101, 114]⟩, 1, 2, ⟨#[]⟩, 0) :=
  ⟨(by unfold maxLen; decide), (by decide), (by decide), Nat.zero_le _, (by decide)⟩
/-- Two rows of the call's own in two blocks. -/
structure TwoSt (w wi : World) (g1 n1 c1 g2 n2 c2 : Nat) (A B : List EntD) : Prop where
  low : Below w.heap.size w wi
  fst : OwnE wi w.heap.size g1 n1 c1 A
  snd : OwnE wi w.heap.size g2 n2 c2 B
  ne : g1 ≠ g2
theorem TwoSt.below {w wi wj : World} {g1 n1 c1 g2 n2 c2 : Nat} {A B : List EntD} (h : TwoSt w wi g1 n1 c1 g2 n2 c2 A B) (hb : Below wi.heap.size wi wj) : TwoSt w wj g1 n1 c1 g2 n2 c2 A B :=
  ⟨h.low.trans (hb.mono h.low.size), h.fst.below hb, h.snd.below hb, h.ne⟩
theorem TwoSt.left {w wi wj : World} {g1 n1 c1 g2 n2 c2 g n c : Nat} {A B A' : List EntD} (h : TwoSt w wi g1 n1 c1 g2 n2 c2 A B) (hg : wi.grownBy wj (some g1)) (ho : OwnE wj w.heap.size g n c A') (hn : g = g1 ∨ g = wi.heap.size) : TwoSt w wj g n c g2 n2 c2 A' B :=
  ⟨h.low.grown hg h.low.size (fun k e => by cases e; exact h.fst.lt.1), ho, h.snd.grown hg (fun e => h.ne (by cases e; rfl)), by have := h.ne; have := h.snd.lt.2; rcases hn with rfl | rfl <;> omega⟩
theorem TwoSt.right {w wi wj : World} {g1 n1 c1 g2 n2 c2 g n c : Nat} {A B B' : List EntD} (h : TwoSt w wi g1 n1 c1 g2 n2 c2 A B) (hg : wi.grownBy wj (some g2)) (ho : OwnE wj w.heap.size g n c B') (hn : g = g2 ∨ g = wi.heap.size) : TwoSt w wj g1 n1 c1 g n c A B' :=
  ⟨h.low.grown hg h.low.size (fun k e => by cases e; exact h.snd.lt.1), h.fst.grown hg (fun e => h.ne (by cases e; rfl)), ho, by have := h.ne; have := h.fst.lt.2; rcases hn with rfl | rfl <;> omega⟩

set_option maxRecDepth 100000 in
set_option maxHeartbeats 16000000 in
theorem walkFnCellAll (a : Option Addr) (len cap : Nat) (b : Option Addr) (ml mc : Nat) (w : World) (h : BytesAt w a len cap) (h' : BytesAt w b ml mc) :
    Calls Try.prog 6 #[.slice a len cap, .slice b ml mc] w fun e w' => e = .returned (.bool true) ∧ Below w.heap.size w w' := by
  have H : Hid (BytesAt w a len cap) := h
  have hm := Nat.le_trans h.1 h.2.1
  have hm' := Nat.le_trans h'.1 h'.2.1
  unfold maxLen at hm hm'
  clear h h'
  by_cases hbig : 1048576 < len
  · go_enter Try.func6, Try.ntmps6
    go_wp2
    go_ret
    exact ⟨rfl, Below.refl _ _⟩
  by_cases hbig2 : 1048576 < ml
  · go_enter Try.func6, Try.ntmps6
    go_wp2
    go_ret
    exact ⟨rfl, Below.refl _ _⟩
  go_enter Try.func6, Try.ntmps6
  go_wp2_with fail
  refine (drawAll_any a len cap w H.out).mono ?_
  rintro e w1 ⟨g, n, c, L, key, seq, rfl, hO, hn, hX, hK, hsq, hb1⟩
  have HO : Hid (OwnE w1 w.heap.size g n c L) := hO
  have HB1 : Hid (Below w.heap.size w w1) := hb1
  have HLN : Hid (L.length = n) := hO.len
  have HEW : Hid (∀ e ∈ L, EntW e) := hO.ents
  have HTX : Hid (∀ e ∈ L, e.2.2.2.1.size ≤ 281474976710656) := few_text hX
  have hmc := hO.entsAt.room
  have hcb := hO.entsAt.big
  unfold maxLen at hcb
  have hkz : key.size ≤ 100 := hK.1.1
  have HKO : Hid ((⟨#[111, 116, 104, 101, 114]⟩ : ByteArray) ≠ key) := fun e => hK.2 (by rw [← e])
  obtain ⟨x, hx⟩ : ∃ x, x = cellL L key seq := ⟨_, rfl⟩
  have HXT : Hid (cellL L.reverse key seq = x) := by rw [hx]; exact cell_rev hX.2 key seq
  have HXM : Hid (cellL (findL L key seq).reverse key seq = x) := by rw [hx]; exact cell_mine hX.2 key seq
  have HXL : Hid (cellL (L ++ [(key, seq + 1, 2, ⟨#[]⟩, 0), (⟨#[111, 116, 104, 101, 114]⟩, 1, 2, ⟨#[]⟩, 0)]) key seq = x) := by rw [hx]; exact cell_late key _ _ _ seq 1 2 2 0 0 HKO.out
  have HXZ : Hid (cellL L key 0 = (false, ⟨#[]⟩, 0)) := cell_zero (fun e he => (hX.1 e he).2.1) key
  have CIX : Hid (∀ w', Below w1.heap.size w1 w' → Calls Try.prog 21 #[.slice (some ⟨g, 0, none⟩) n c, .string key, .int .i64 seq] w' fun e w'' => e = .returned (cellV x) ∧ Below w'.heap.size w' w'') := by rw [hx]; exact fun w' k => implCellAll _ _ _ L key seq w' (HO.out.entsAt.keep k) (by omega) (by have := find_len L key seq; rw [HLN.out] at this; omega) HTX.out
  have CSX : Hid (∀ w', Below w1.heap.size w1 w' → Calls Try.prog 20 #[.slice (some ⟨g, 0, none⟩) n c, .string key, .int .i64 seq] w' fun e w'' => e = .returned (cellV x) ∧ Below w'.heap.size w' w'') := by rw [hx]; exact fun w' k => specCellAll _ _ _ L key seq w' (HO.out.entsAt.keep k) (by omega)
  clear hO hX hK hb1 H hx
  obtain ⟨xb, xt, xn⟩ := x
  unfold cellV at CIX CSX
  simp only at CIX CSX
  obtain ⟨i0, hi, hz0, hz1, hz2⟩ := info_parts Try.infoEnt
  go_wp2_with fail
  refine (CIX.out _ (Below.refl _ _)).mono ?_
  rintro e w2 ⟨rfl, hb2⟩
  obtain ⟨X, hXX⟩ : ∃ X, X = w2.heap.size := ⟨_, rfl⟩
  obtain ⟨W, hW⟩ : ∃ W, W = w2.alloc (.cells #[.bool xb, .string xt, .int .i64 xn] 35) := ⟨_, rfl⟩
  have kW : Below w2.heap.size w2 W := by rw [hW]; exact (Below.refl _ _).alloc (Nat.le_refl _) _
  have HBX : Hid (Box3 W X (.bool xb) (.string xt) (.int .i64 xn)) := by rw [hW, hXX]; exact Box3.new _ _ _ _ _
  have HKW : Hid (Below w1.heap.size w1 W) := hb2.trans (kW.mono hb2.size)
  clear CIX kW hb2
  go_upto_region 5 with fail
  rw [← hW, ← hXX]
  clear hW hXX
  have hne := neq_cell_same xb xt xn
  have k0 : Below W.heap.size W W.drew := (Below.refl _ W).drew
  have HMK : Hid (∀ w', Below W.heap.size W w' → (w'.cell? ⟨X, 0, none⟩ = some (.bool xb) ∧ w'.cell? ⟨X, 1, none⟩ = some (.string xt) ∧ w'.cell? ⟨X, 2, none⟩ = some (.int .i64 xn) ∧ X < w'.heap.size)) := fun w' k => ⟨cell_later k HBX.out.c0, cell_later k HBX.out.c1, cell_later k HBX.out.c2, Nat.lt_of_lt_of_le HBX.out.lt k.size⟩
  go_region_held3 (fun w' => w'.cell? ⟨X, 0, none⟩ = some (.bool xb) ∧ w'.cell? ⟨X, 1, none⟩ = some (.string xt) ∧ w'.cell? ⟨X, 2, none⟩ = some (.int .i64 xn) ∧ X < w'.heap.size) (first | with_reducible exact HMK.out _ k3 | with_reducible exact HMK.out _ k0) (first
    | (go_at_call 20; with_reducible refine (CSX.out _ (HKW.out.trans (k0.mono HKW.out.size))).mono ?_; rintro e w3 ⟨rfl, hb3⟩; have k3 : Below W.heap.size W w3 := k0.trans (hb3.mono k0.size)))
  have HK3 : Hid (Below w1.heap.size w1 w3) := HKW.out.trans (k3.mono HKW.out.size)
  have HBX3 : Hid (Box3 w3 X (.bool xb) (.string xt) (.int .i64 xn)) := HBX.out.below k3
  clear CSX HMK k0 k3 hb3 HBX hne
  have kA : Below w3.heap.size w3 (w3.alloc (.cells #[] 47)) := (Below.refl _ _).alloc (Nat.le_refl _) _
  have HT0 : Hid (TwoSt w3 ((w3.alloc (.cells #[] 47)).alloc (.cells #[] 47)) w3.heap.size 0 0 (w3.heap.size + 1) 0 0 (L.drop n).reverse (findL (L.drop n) key seq).reverse) := by
    have h2 := own_empty (w3.alloc (.cells #[] 47)) w3.heap.size kA.size
    rw [World.size_alloc] at h2
    have hd : L.drop n = [] := List.drop_of_length_le (by rw [HLN.out]; exact Nat.le_refl _)
    rw [hd]
    exact ⟨kA.alloc kA.size _, (own_empty w3 _ (Nat.le_refl _)).below ((Below.refl _ _).alloc (Nat.le_refl _) _), h2, by omega⟩
  clear kA
  have hn1 : IntKind.i64.wrap ((n : Int) - 1) = (n : Int) - 1 := by rw [IntWalk.i64_left]; unfold wrap64; omega
  go_wp2
  go_loopw [9, 10, 11] (fun tv mv iv wr => ∃ (M g1 n1 c1 g2 n2 c2 : Nat), M ≤ n ∧ n1 ≤ n ∧ n2 ≤ n ∧ n1 + M = n ∧ n2 ≤ n1 ∧ iv = .int .i64 ((M : Int) - 1) ∧ tv = .slice (some ⟨g1, 0, none⟩) n1 c1 ∧ mv = .slice (some ⟨g2, 0, none⟩) n2 c2 ∧ TwoSt w3 wr g1 n1 c1 g2 n2 c2 (L.drop M).reverse (findL (L.drop M) key seq).reverse) (fun _ _ iv _ => ((intOf iv) + 1).toNat)
  case atStart => exact ⟨n, w3.heap.size, 0, 0, w3.heap.size + 1, 0, 0, Nat.le_refl _, Nat.zero_le _, Nat.zero_le _, by omega, Nat.le_refl _, rfl, rfl, rfl, HT0.out⟩
  case round =>
    obtain ⟨M, g1, n1, c1, g2, n2, c2, hMn, hn1', hn2', hnM, hn21, rfl, rfl, rfl, hst⟩ := hrel
    have HS : Hid (TwoSt w3 wr g1 n1 c1 g2 n2 c2 (L.drop M).reverse (findL (L.drop M) key seq).reverse) := hst
    clear hst HT0
    by_cases hM0 : M = 0
    · subst hM0
      have HE3 : Hid (∀ w', Below w3.heap.size w3 w' → EntsAt w' (some ⟨g, 0, none⟩) n c L) := fun w' k => HO.out.entsAt.keep (HK3.out.trans (k.mono HK3.out.size))
      have hs1 : IntKind.i64.wrap (seq + 1) = seq + 1 := by rw [IntWalk.i64_left]; unfold wrap64; omega
      have hn1e : n1 = n := by omega
      have HN1 : Hid (n1 = n) := hn1e
      clear hn1e
      have kB : Below wr.heap.size wr (wr.alloc (.cells #[] 47)) := (Below.refl _ _).alloc (Nat.le_refl _) _
      have HB0 : Hid (OwnE (wr.alloc (.cells #[] 47)) w3.heap.size wr.heap.size 0 0 []) := own_empty wr _ HS.out.low.size
      have HE4 : Hid (EntsAt (wr.alloc (.cells #[] 47)) (some ⟨g, 0, none⟩) n c L) := HE3.out _ (HS.out.low.trans (kB.mono HS.out.low.size))
      have HS4 : Hid (TwoSt w3 (wr.alloc (.cells #[] 47)) g1 n1 c1 g2 n2 c2 (L.drop 0).reverse (findL (L.drop 0) key seq).reverse) := HS.out.below kB
      have hwg : Hid (∀ k, k = g1 ∨ k = g2 → k < wr.heap.size) := fun k hk => by rcases hk with rfl | rfl; exact HS.out.fst.lt.2; exact HS.out.snd.lt.2
      go_wp2_with (at_builtin; refine wpList_append_own_at _ rfl _ _ 25 rfl w3.heap.size 47 i0 _ 5 56 Try.underlying25 hi hz0 hz1 hz2 rfl (by decide) _ _ _ rfl HB0.out.owns ⟨g, 0, none⟩ n c (flatE L) rfl ?p0 ?p1 (flatE_one _) ?p3 ?p4 ?p5 ?_)
      case p0 => rw [flatE_len, HLN.out]
      case p1 => exact ents_news HE4.out
      case p3 => unfold maxLen; omega
      case p4 => omega
      case p5 => have := HS.out.low.size; simp; omega
      intro v5 w5 hown5 hgrow5 hnil5 hat5
      obtain ⟨g5, c5, rfl⟩ := row_form hown5 (by first | exact hnil5 | (intro e; exact absurd (hnil5.1 e).1 (by simp)))
      have hgrow5' : (wr.alloc (.cells #[] 47)).grownBy w5 (some wr.heap.size) := hgrow5
      have hg5 : wr.heap.size ≤ g5 := by
        rcases hat5 with h | h
        · have h1 : g5 = wr.heap.size := Option.some.inj h
          omega
        · have h1 : g5 = wr.heap.size + 1 := Option.some.inj h
          omega
      have HO5 : Hid (OwnE w5 w3.heap.size g5 n c5 L) := ⟨by first | exact hown5 | (have h0 := hown5; simpa using h0), HLN.out, HEW.out⟩
      have HL5 : Hid (Below w3.heap.size w3 w5) := HS4.out.low.grown hgrow5' HS4.out.low.size (fun k e => by cases e; exact HS.out.low.size)
      have HF5 : Hid (OwnE w5 w3.heap.size g1 n1 c1 (L.drop 0).reverse) := HS4.out.fst.grown hgrow5' (fun e => by have := hwg.out g1 (.inl rfl); cases e; omega)
      have HG5 : Hid (OwnE w5 w3.heap.size g2 n2 c2 (findL (L.drop 0) key seq).reverse) := HS4.out.snd.grown hgrow5' (fun e => by have := hwg.out g2 (.inr rfl); cases e; omega)
      have H15 : Hid (g1 ≠ g5) := by have := hwg.out g1 (.inl rfl); show g1 ≠ g5; omega
      have H25 : Hid (g2 ≠ g5) := by have := hwg.out g2 (.inr rfl); show g2 ≠ g5; omega
      have HX5 : Hid (Box3 w5 X (.bool xb) (.string xt) (.int .i64 xn)) := HBX3.out.below HL5.out
      clear hown5 hgrow5 hgrow5' hnil5 hat5 hg5 HB0 HE4 HS4 kB
      have kC : ∀ o, Below w5.heap.size w5 (w5.alloc o) := fun o => (Below.refl _ _).alloc (Nat.le_refl _) o
      have HKC : Hid (∀ o, Below w5.heap.size w5 (w5.alloc o)) := kC
      clear kC
      go_wp2_with (at_builtin; refine wpList_append_own _ rfl _ _ 25 rfl w3.heap.size 47 i0 _ 5 56 Try.underlying25 hi hz0 hz1 hz2 rfl (by decide) _ _ _ rfl (HO5.out.below (HKC.out _)).owns ⟨w5.heap.size, 0, none⟩ 2 2 (flatE [(key, seq + 1, 2, ⟨#[]⟩, 0), (⟨#[111, 116, 104, 101, 114]⟩, 1, 2, ⟨#[]⟩, 0)]) rfl rfl ?q1 (flatE_one _) ?q3 ?q4 ?q5 ?_)
      case q1 => exact ents_news (ents_two w5 key ⟨#[]⟩ ⟨#[111, 116, 104, 101, 114]⟩ ⟨#[]⟩ (seq + 1) 2 0 1 2 0 (late_w hkz hsq) other_w)
      case q3 => unfold maxLen; omega
      case q4 => omega
      case q5 => have := HL5.out.size; simp; omega
      intro v6 V hown6 hgrow6 hnil6
      obtain ⟨g6, c6, rfl⟩ : ∃ g cap, v6 = .slice (some ⟨g, 0, none⟩) (n + 2) cap := by
        rcases hown6.2 with ⟨hv, h0⟩ | ⟨g, cap, cur, hv, _⟩
        · omega
        · exact ⟨g, cap, hv⟩
      have hgrow6' : (w5.alloc (.cells #[.string key, .int .i64 (seq + 1), .int .i64 2, .string ⟨#[]⟩, .int .i64 0, .string ⟨#[111, 116, 104, 101, 114]⟩, .int .i64 1, .int .i64 2, .string ⟨#[]⟩, .int .i64 0] 47)).grownBy V (some g5) := hgrow6
      have HLV : Hid (Below w3.heap.size w3 V) := (HL5.out.trans ((HKC.out _).mono HL5.out.size)).grown hgrow6' (Nat.le_trans HL5.out.size (HKC.out _).size) (fun k e => by cases e; exact HO5.out.lt.1)
      have HTV : Hid (OwnE V w3.heap.size g1 n1 c1 L.reverse) := by have := (HF5.out.below (HKC.out _)).grown hgrow6' (fun e => H15.out (by cases e; rfl)); simpa [Hid] using this
      have HMV : Hid (OwnE V w3.heap.size g2 n2 c2 (findL L key seq).reverse) := by have := (HG5.out.below (HKC.out _)).grown hgrow6' (fun e => H25.out (by cases e; rfl)); simpa [Hid] using this
      have HLL : Hid (EntsAt V (some ⟨g6, 0, none⟩) (n + 2) c6 (L ++ [(key, seq + 1, 2, ⟨#[]⟩, 0), (⟨#[111, 116, 104, 101, 114]⟩, 1, 2, ⟨#[]⟩, 0)])) := by
        refine OwnE.entsAt (base := w3.heap.size) ⟨by rw [flatE_append]; exact hown6, by rw [List.length_append, HLN.out]; rfl, fun l hl => ?_⟩
        rcases List.mem_append.1 hl with h1 | h1
        · exact HEW.out l h1
        · simp only [List.mem_cons, List.not_mem_nil, or_false] at h1
          rcases h1 with rfl | rfl
          · exact (late_w hkz hsq)
          · exact other_w
      have HBV : Hid (Box3 V X (.bool xb) (.string xt) (.int .i64 xn)) := HBX3.out.below HLV.out
      have CT : Hid (∀ w', Below V.heap.size V w' → Calls Try.prog 21 #[.slice (some ⟨g1, 0, none⟩) n1 c1, .string key, .int .i64 seq] w' fun e w'' => e = .returned (.agg #[.bool xb, .string xt, .int .i64 xn]) ∧ Below w'.heap.size w' w'') := fun w' k => by
        have := implCellAll _ _ _ L.reverse key seq w' (HTV.out.entsAt.keep k) (by omega) (by have := find_len L.reverse key seq; rw [List.length_reverse, HLN.out] at this; omega) (fun e he => HTX.out e (List.mem_reverse.1 he))
        rw [HXT.out] at this
        exact this
      have CM : Hid (∀ w', Below V.heap.size V w' → Calls Try.prog 21 #[.slice (some ⟨g2, 0, none⟩) n2 c2, .string key, .int .i64 seq] w' fun e w'' => e = .returned (.agg #[.bool xb, .string xt, .int .i64 xn]) ∧ Below w'.heap.size w' w'') := fun w' k => by
        have := implCellAll _ _ _ (findL L key seq).reverse key seq w' (HMV.out.entsAt.keep k) (by omega) (by have := find_len (findL L key seq).reverse key seq; rw [HMV.out.len] at this; omega) (fun e he => HTX.out e (find_mem (List.mem_reverse.1 he)))
        rw [HXM.out] at this
        exact this
      have CL : Hid (∀ w', Below V.heap.size V w' → Calls Try.prog 21 #[.slice (some ⟨g6, 0, none⟩) (n + 2) c6, .string key, .int .i64 seq] w' fun e w'' => e = .returned (.agg #[.bool xb, .string xt, .int .i64 xn]) ∧ Below w'.heap.size w' w'') := fun w' k => by
        have := implCellAll _ _ _ _ key seq w' (HLL.out.keep k) (by omega) (by have := find_len (L ++ [(key, seq + 1, 2, ⟨#[]⟩, 0), (⟨#[111, 116, 104, 101, 114]⟩, 1, 2, ⟨#[]⟩, 0)]) key seq; rw [HLL.out.length] at this; omega) (fun e he => by
          rcases List.mem_append.1 he with h1 | h1
          · exact HTX.out e h1
          · simp only [List.mem_cons, List.not_mem_nil, or_false] at h1
            rcases h1 with rfl | rfl <;> exact Nat.zero_le _)
        rw [HXL.out] at this
        exact this
      have CZ : Hid (∀ w', Below V.heap.size V w' → Calls Try.prog 21 #[.slice (some ⟨g, 0, none⟩) n c, .string key, .int .i64 0] w' fun e w'' => e = .returned (.agg #[.bool false, .string ⟨#[]⟩, .int .i64 0]) ∧ Below w'.heap.size w' w'') := fun w' k => by
        have := implCellAll _ _ _ L key 0 w' (HE3.out _ (HLV.out.trans (k.mono HLV.out.size))) (by omega) (by have := find_len L key 0; rw [HLN.out] at this; omega) HTX.out
        rw [HXZ.out] at this
        exact this
      have heq := eql_cell_same xb xt xn
      have heq0 := eql_cell_same false ⟨#[]⟩ 0
      have k0 : Below V.heap.size V V.drew := (Below.refl _ V).drew
      have HMK : Hid (∀ w', Below V.heap.size V w' → (w'.cell? ⟨X, 0, none⟩ = some (.bool xb) ∧ w'.cell? ⟨X, 1, none⟩ = some (.string xt) ∧ w'.cell? ⟨X, 2, none⟩ = some (.int .i64 xn) ∧ X < w'.heap.size)) := fun w' k => ⟨cell_later k HBV.out.c0, cell_later k HBV.out.c1, cell_later k HBV.out.c2, Nat.lt_of_lt_of_le HBV.out.lt k.size⟩
      clear hown6 hgrow6 hgrow6' hnil6 HTV HMV HLL HO5 HF5 HG5 HX5 HBX3 HS HE3 HBV
      go_wp2_with fail
      refine wp_region_held_drew (S := (fun w' => w'.cell? ⟨X, 0, none⟩ = some (.bool xb) ∧ w'.cell? ⟨X, 1, none⟩ = some (.string xt) ∧ w'.cell? ⟨X, 2, none⟩ = some (.int .i64 xn) ∧ X < w'.heap.size)) (by kernel_rfl) (HMK.out _ k0) (fun hHeld => ?_)
      refine wpAnyH_takeL (i := 0) (v := ?_) rfl (by kernel_rfl) (by kernel_rfl) (by kernel_rfl) (fun _ _ _ h => h) (Or.inl ⟨by rfl, ?_⟩) hHeld ?_
      rotate_left
      · (intro w hSw; (try dsimp only at hSw); go_simp; try with_reducible rfl)
      try go_frame
      refine wpAnyH_takeL (i := 1) (v := ?_) rfl (by kernel_rfl) (by kernel_rfl) (by kernel_rfl) (fun _ _ _ h => h) (Or.inl ⟨by rfl, ?_⟩) hHeld ?_
      rotate_left
      · (intro w hSw; (try dsimp only at hSw); go_simp; try with_reducible rfl)
      try go_frame
      refine wpAnyH_takeL (i := 2) (v := ?_) rfl (by kernel_rfl) (by kernel_rfl) (by kernel_rfl) (fun _ _ _ h => h) (Or.inl ⟨by rfl, ?_⟩) hHeld ?_
      rotate_left
      · (intro w hSw; (try dsimp only at hSw); go_simp; try with_reducible rfl)
      try go_frame
      refine wpAnyH_takeL (i := 3) (v := ?_) rfl (by kernel_rfl) (by kernel_rfl) (by kernel_rfl) (fun _ _ _ h => h) (Or.inl ⟨by rfl, ?_⟩) hHeld ?_
      rotate_left
      · (intro w hSw; (try dsimp only at hSw); go_simp; try with_reducible rfl)
      try go_frame
      refine wpAnyH_ready (rs := [4]) (by kernel_rfl) (by simp) ?_
      refine consL rfl (fun K hK => ?_) AllReadyH.nil
      go_simp
      with_reducible refine (CT.out _ k0).mono ?_
      rintro e wz1 ⟨rfl, bz1⟩
      have kz1 : Below V.heap.size V wz1 := k0.trans (bz1.mono k0.size)
      go_wp2_with fail
      refine hK.out _ _ (HMK.out _ kz1) (fun hHeld => ?_)
      clear hK K
      try go_frame
      refine wpAnyH_takeL (i := 5) (v := ?_) rfl (by kernel_rfl) (by kernel_rfl) (by kernel_rfl) (fun _ _ _ h => h) (Or.inl ⟨by rfl, ?_⟩) hHeld ?_
      rotate_left
      · (intro w hSw; (try dsimp only at hSw); go_simp; try with_reducible rfl)
      try go_frame
      refine wpAnyH_takeL (i := 6) (v := ?_) rfl (by kernel_rfl) (by kernel_rfl) (by kernel_rfl) (fun _ _ _ h => h) (Or.inl ⟨by rfl, ?_⟩) hHeld ?_
      rotate_left
      · (intro w hSw; (try dsimp only at hSw); go_simp; try with_reducible rfl)
      try go_frame
      refine wpAnyH_takeL (i := 7) (v := ?_) rfl (by kernel_rfl) (by kernel_rfl) (by kernel_rfl) (fun _ _ _ h => h) (Or.inl ⟨by rfl, ?_⟩) hHeld ?_
      rotate_left
      · (intro w hSw; (try dsimp only at hSw); go_simp; try with_reducible rfl)
      try go_frame
      refine wpAnyH_takeL (i := 8) (v := ?_) rfl (by kernel_rfl) (by kernel_rfl) (by kernel_rfl) (fun _ _ _ h => h) (Or.inl ⟨by rfl, ?_⟩) hHeld ?_
      rotate_left
      · (intro w hSw; (try dsimp only at hSw); go_simp; try with_reducible rfl)
      try go_frame
      refine wpAnyH_takeL (i := 9) (v := ?_) rfl (by kernel_rfl) (by kernel_rfl) (by kernel_rfl) (fun _ _ _ h => h) (Or.inl ⟨by rfl, ?_⟩) hHeld ?_
      rotate_left
      · (intro w hSw; (try dsimp only at hSw); go_simp; try with_reducible rfl)
      try go_frame
      refine wpAnyH_takeL (i := 10) (v := ?_) rfl (by kernel_rfl) (by kernel_rfl) (by kernel_rfl) (fun _ _ _ h => h) (Or.inl ⟨by rfl, ?_⟩) hHeld ?_
      rotate_left
      · (intro w hSw; (try dsimp only at hSw); go_simp; try with_reducible rfl)
      try go_frame
      refine wpAnyH_ready (rs := [11]) (by kernel_rfl) (by simp) ?_
      refine consL rfl (fun K hK => ?_) AllReadyH.nil
      go_simp
      with_reducible refine (CM.out _ kz1).mono ?_
      rintro e wz2 ⟨rfl, bz2⟩
      have kz2 : Below V.heap.size V wz2 := kz1.trans (bz2.mono kz1.size)
      go_wp2_with fail
      refine hK.out _ _ (HMK.out _ kz2) (fun hHeld => ?_)
      clear hK K
      try go_frame
      refine wpAnyH_takeL (i := 12) (v := ?_) rfl (by kernel_rfl) (by kernel_rfl) (by kernel_rfl) (fun _ _ _ h => h) (Or.inl ⟨by rfl, ?_⟩) hHeld ?_
      rotate_left
      · (intro w hSw; (try dsimp only at hSw); go_simp; try with_reducible rfl)
      try go_frame
      refine wpAnyH_takeL (i := 13) (v := ?_) rfl (by kernel_rfl) (by kernel_rfl) (by kernel_rfl) (fun _ _ _ h => h) (Or.inl ⟨by rfl, ?_⟩) hHeld ?_
      rotate_left
      · (intro w hSw; (try dsimp only at hSw); go_simp; try with_reducible rfl)
      try go_frame
      refine wpAnyH_takeL (i := 14) (v := ?_) rfl (by kernel_rfl) (by kernel_rfl) (by kernel_rfl) (fun _ _ _ h => h) (Or.inl ⟨by rfl, ?_⟩) hHeld ?_
      rotate_left
      · (intro w hSw; (try dsimp only at hSw); go_simp; try with_reducible rfl)
      try go_frame
      refine wpAnyH_takeL (i := 15) (v := ?_) rfl (by kernel_rfl) (by kernel_rfl) (by kernel_rfl) (fun _ _ _ h => h) (Or.inl ⟨by rfl, ?_⟩) hHeld ?_
      rotate_left
      · (intro w hSw; (try dsimp only at hSw); go_simp; try with_reducible rfl)
      try go_frame
      refine wpAnyH_takeL (i := 16) (v := ?_) rfl (by kernel_rfl) (by kernel_rfl) (by kernel_rfl) (fun _ _ _ h => h) (Or.inl ⟨by rfl, ?_⟩) hHeld ?_
      rotate_left
      · (intro w hSw; (try dsimp only at hSw); go_simp; try with_reducible rfl)
      try go_frame
      refine wpAnyH_takeL (i := 17) (v := ?_) rfl (by kernel_rfl) (by kernel_rfl) (by kernel_rfl) (fun _ _ _ h => h) (Or.inl ⟨by rfl, ?_⟩) hHeld ?_
      rotate_left
      · (intro w hSw; (try dsimp only at hSw); go_simp; try with_reducible rfl)
      try go_frame
      refine wpAnyH_takeL (i := 18) (v := ?_) rfl (by kernel_rfl) (by kernel_rfl) (by kernel_rfl) (fun _ _ _ h => h) (Or.inl ⟨by rfl, ?_⟩) hHeld ?_
      rotate_left
      · (intro w hSw; (try dsimp only at hSw); go_simp; try with_reducible rfl)
      try go_frame
      refine wpAnyH_ready (rs := [19]) (by kernel_rfl) (by simp) ?_
      refine consL rfl (fun K hK => ?_) AllReadyH.nil
      go_simp
      with_reducible refine (CL.out _ kz2).mono ?_
      rintro e wz3 ⟨rfl, bz3⟩
      have kz3 : Below V.heap.size V wz3 := kz2.trans (bz3.mono kz2.size)
      go_wp2_with fail
      refine hK.out _ _ (HMK.out _ kz3) (fun hHeld => ?_)
      clear hK K
      try go_frame
      refine wpAnyH_takeL (i := 20) (v := ?_) rfl (by kernel_rfl) (by kernel_rfl) (by kernel_rfl) (fun _ _ _ h => h) (Or.inl ⟨by rfl, ?_⟩) hHeld ?_
      rotate_left
      · (intro w hSw; (try dsimp only at hSw); go_simp; try with_reducible rfl)
      try go_frame
      refine wpAnyH_takeL (i := 21) (v := ?_) rfl (by kernel_rfl) (by kernel_rfl) (by kernel_rfl) (fun _ _ _ h => h) (Or.inl ⟨by rfl, ?_⟩) hHeld ?_
      rotate_left
      · (intro w hSw; (try dsimp only at hSw); go_simp; try with_reducible rfl)
      try go_frame
      refine wpAnyH_takeL (i := 22) (v := ?_) rfl (by kernel_rfl) (by kernel_rfl) (by kernel_rfl) (fun _ _ _ h => h) (Or.inl ⟨by rfl, ?_⟩) hHeld ?_
      rotate_left
      · (intro w hSw; (try dsimp only at hSw); go_simp; try with_reducible rfl)
      try go_frame
      refine wpAnyH_takeL (i := 23) (v := ?_) rfl (by kernel_rfl) (by kernel_rfl) (by kernel_rfl) (fun _ _ _ h => h) (Or.inl ⟨by rfl, ?_⟩) hHeld ?_
      rotate_left
      · (intro w hSw; (try dsimp only at hSw); go_simp; try with_reducible rfl)
      try go_frame
      refine wpAnyH_takeL (i := 24) (v := ?_) rfl (by kernel_rfl) (by kernel_rfl) (by kernel_rfl) (fun _ _ _ h => h) (Or.inl ⟨by rfl, ?_⟩) hHeld ?_
      rotate_left
      · (intro w hSw; (try dsimp only at hSw); go_simp; try with_reducible rfl)
      try go_frame
      refine wpAnyH_takeL (i := 26) (v := ?_) rfl (by kernel_rfl) (by kernel_rfl) (by kernel_rfl) (fun _ _ _ h => h) (Or.inl ⟨by rfl, ?_⟩) hHeld ?_
      rotate_left
      · (intro w hSw; (try dsimp only at hSw); go_simp; try with_reducible rfl)
      try go_frame
      refine wpAnyH_ready (rs := [25]) (by kernel_rfl) (by simp) ?_
      refine consL rfl (fun K hK => ?_) AllReadyH.nil
      go_simp
      with_reducible refine (CZ.out _ kz3).mono ?_
      rintro e wz4 ⟨rfl, bz4⟩
      have kz4 : Below V.heap.size V wz4 := kz3.trans (bz4.mono kz3.size)
      go_wp2_with fail
      refine hK.out _ _ (HMK.out _ kz4) (fun hHeld => ?_)
      clear hK K
      try go_frame
      refine wpAnyH_takeL (i := 27) (v := ?_) rfl (by kernel_rfl) (by kernel_rfl) (by kernel_rfl) (fun _ _ _ h => h) (Or.inl ⟨by rfl, ?_⟩) hHeld ?_
      rotate_left
      · (intro w hSw; (try dsimp only at hSw); go_simp; try with_reducible rfl)
      try go_frame
      refine wpAnyH_takeL (i := 28) (v := ?_) rfl (by kernel_rfl) (by kernel_rfl) (by kernel_rfl) (fun _ _ _ h => h) (Or.inl ⟨by rfl, ?_⟩) hHeld ?_
      rotate_left
      · (intro w hSw; (try dsimp only at hSw); go_simp; try with_reducible rfl)
      try go_frame
      refine wpAnyH_takeL (i := 29) (v := ?_) rfl (by kernel_rfl) (by kernel_rfl) (by kernel_rfl) (fun _ _ _ h => h) (Or.inl ⟨by rfl, ?_⟩) hHeld ?_
      rotate_left
      · (intro w hSw; (try dsimp only at hSw); go_simp; try with_reducible rfl)
      try go_frame
      refine wpAnyH_done (by kernel_rfl) ?_ _
      have KZ : Hid (Below V.heap.size V wz4) := kz4
      clear k0 HMK hHeld kz1 kz2 kz3 kz4 bz1 bz2 bz3 bz4
      go_wp2
      go_ret
      exact ⟨rfl, (HB1.out.trans (HK3.out.mono HB1.out.size)).trans ((HLV.out.trans (KZ.out.mono HLV.out.size)).mono (Nat.le_trans HB1.out.size HK3.out.size))⟩
    · have hMp : 0 < M := by omega
      have hj0 : (0 : Int) ≤ (M : Int) - 1 := by omega
      have hj2 : (M : Int) - 1 < (n : Int) := by omega
      have hjt : ((M : Int) - 1).toNat = M - 1 := by omega
      have hj3 : (1 : Int) ≤ (M : Int) := by omega
      have hwj : IntKind.i64.wrap ((M : Int) - 1 - 1) = (M : Int) - 1 - 1 := by rw [IntWalk.i64_left]; unfold wrap64; omega
      have KR : Hid (Below w1.heap.size w1 wr) := HK3.out.trans (HS.out.low.mono HK3.out.size)
      obtain ⟨s, q, d, t, nn, hg, hlw, g0, g1', g2', g3, g4⟩ := HO.out.entsAt.ent KR.out HO.out.lt.2 (M - 1) (by omega)
      have HG : Hid (L[M - 1]? = some (s, q, d, t, nn)) := hg
      have HLW : Hid (EntW (s, q, d, t, nn)) := hlw
      simp only [Nat.zero_add] at g0 g1' g2' g3 g4
      have hgr : g < wr.heap.size := Nat.lt_of_lt_of_le HO.out.lt.2 KR.out.size
      have HR1 : Hid ((L.drop (M - 1)).reverse = (L.drop M).reverse ++ [(s, q, d, t, nn)]) := by have := rev_snoc HG.out; rwa [show M - 1 + 1 = M by omega] at this
      clear hg hlw
      have kB : Below wr.heap.size wr (wr.alloc (.cells #[.string s, .int .i64 q, .int .i64 d, .string t, .int .i64 nn] 47)) := (Below.refl _ _).alloc (Nat.le_refl _) _
      have HS1 : Hid (TwoSt w3 (wr.alloc (.cells #[.string s, .int .i64 q, .int .i64 d, .string t, .int .i64 nn] 47)) g1 n1 c1 g2 n2 c2 (L.drop M).reverse (findL (L.drop M) key seq).reverse) := HS.out.below kB
      have HRN : Hid (EntsAt (wr.alloc (.cells #[.string s, .int .i64 q, .int .i64 d, .string t, .int .i64 nn] 47)) (some ⟨wr.heap.size, 0, none⟩) 1 1 [(s, q, d, t, nn)]) := ents_one wr _ _ _ _ _ HLW.out
      have HKB : Hid (Below wr.heap.size wr (wr.alloc (.cells #[.string s, .int .i64 q, .int .i64 d, .string t, .int .i64 nn] 47))) := kB
      clear kB
      go_upto_region 13 with (at_builtin; refine wpList_append_own_at _ rfl _ _ 25 rfl w3.heap.size 47 i0 _ 5 56 Try.underlying25 hi hz0 hz1 hz2 rfl (by decide) _ _ _ rfl HS1.out.fst.owns ⟨wr.heap.size, 0, none⟩ 1 1 (flatE [(s, q, d, t, nn)]) rfl rfl ?_ (flatE_one _) ?_ ?_ ?_ ?_)
      all_goals try (first | exact ents_news HRN.out | (unfold maxLen; omega) | omega | (have := HS1.out.low.size; exact this) | (have := HS1.out.low.size; simp at this ⊢; omega))
      intro v5 w5 hown5 hgrow5 hnil5 hat5
      obtain ⟨g5, c5, rfl⟩ : ∃ g cap, v5 = .slice (some ⟨g, 0, none⟩) (n1 + 1) cap := by
        rcases hown5.2 with ⟨hv, h0⟩ | ⟨g, cap, cur, hv, _⟩
        · omega
        · exact ⟨g, cap, hv⟩
      have hgrow5' : (wr.alloc (.cells #[.string s, .int .i64 q, .int .i64 d, .string t, .int .i64 nn] 47)).grownBy w5 (some g1) := hgrow5
      have HS5 : Hid (TwoSt w3 w5 g5 (n1 + 1) c5 g2 n2 c2 (L.drop (M - 1)).reverse (findL (L.drop M) key seq).reverse) := HS1.out.left hgrow5' ⟨by rw [HR1.out, flatE_append]; exact hown5, by rw [HR1.out, List.length_append, HS1.out.fst.len]; rfl, fun l hl => HEW.out l (List.mem_of_mem_drop (List.mem_reverse.1 hl))⟩ (by rcases hat5 with h | h; exact .inl (Option.some.inj h); exact .inr (by rw [World.size_alloc]; exact Option.some.inj h))
      have KR5 : Hid (Below w1.heap.size w1 w5) := HK3.out.trans (HS5.out.low.mono HK3.out.size)
      clear hown5 hgrow5 hgrow5' hnil5 hat5 g0 g1' g2' g3 g4 hgr HS1 HRN HKB HR1
      obtain ⟨s', q', d', t', nn', hg', _, g0, g1', g2', g3, g4⟩ := HO.out.entsAt.ent KR5.out HO.out.lt.2 (M - 1) (by omega)
      rw [HG.out] at hg'
      cases hg'
      simp only [Nat.zero_add] at g0 g1' g2' g3 g4
      have hgr : g < w5.heap.size := Nat.lt_of_lt_of_le HO.out.lt.2 KR5.out.size
      by_cases hks : s = key
      · by_cases hq : q ≤ seq
        · have HR2 : Hid ((findL (L.drop (M - 1)) key seq).reverse = (findL (L.drop M) key seq).reverse ++ [(s, q, d, t, nn)]) := by have := mine_yes HG.out hks hq; rwa [show M - 1 + 1 = M by omega] at this
          have kB : Below w5.heap.size w5 (w5.alloc (.cells #[.string s, .int .i64 q, .int .i64 d, .string t, .int .i64 nn] 47)) := (Below.refl _ _).alloc (Nat.le_refl _) _
          have HS6 : Hid (TwoSt w3 (w5.alloc (.cells #[.string s, .int .i64 q, .int .i64 d, .string t, .int .i64 nn] 47)) g5 (n1 + 1) c5 g2 n2 c2 (L.drop (M - 1)).reverse (findL (L.drop M) key seq).reverse) := HS5.out.below kB
          have HRN : Hid (EntsAt (w5.alloc (.cells #[.string s, .int .i64 q, .int .i64 d, .string t, .int .i64 nn] 47)) (some ⟨w5.heap.size, 0, none⟩) 1 1 [(s, q, d, t, nn)]) := ents_one w5 _ _ _ _ _ HLW.out
          clear kB HS5
          subst hks
          go_wp2_with (at_builtin; refine wpList_append_own_at _ rfl _ _ 25 rfl w3.heap.size 47 i0 _ 5 56 Try.underlying25 hi hz0 hz1 hz2 rfl (by decide) _ _ _ rfl HS6.out.snd.owns ⟨w5.heap.size, 0, none⟩ 1 1 (flatE [(s, q, d, t, nn)]) rfl rfl ?u1 (flatE_one _) ?u3 ?u4 ?u5 ?_)
          case u1 => exact ents_news HRN.out
          case u3 => unfold maxLen; omega
          case u4 => omega
          case u5 => exact HS6.out.low.size
          intro v6 w6 hown6 hgrow6 hnil6 hat6
          obtain ⟨g6, c6, rfl⟩ : ∃ g cap, v6 = .slice (some ⟨g, 0, none⟩) (n2 + 1) cap := by
            rcases hown6.2 with ⟨hv, h0⟩ | ⟨g, cap, cur, hv, _⟩
            · omega
            · exact ⟨g, cap, hv⟩
          have hgrow6' : (w5.alloc (.cells #[.string s, .int .i64 q, .int .i64 d, .string t, .int .i64 nn] 47)).grownBy w6 (some g2) := hgrow6
          have HS7 : Hid (TwoSt w3 w6 g5 (n1 + 1) c5 g6 (n2 + 1) c6 (L.drop (M - 1)).reverse (findL (L.drop (M - 1)) s seq).reverse) := HS6.out.right hgrow6' ⟨by rw [HR2.out, flatE_append]; exact hown6, by rw [HR2.out, List.length_append, HS6.out.snd.len]; rfl, fun l hl => HEW.out l (List.mem_of_mem_drop (find_mem (List.mem_reverse.1 hl)))⟩ (by rcases hat6 with h | h; exact .inl (Option.some.inj h); exact .inr (by rw [World.size_alloc]; exact Option.some.inj h))
          clear hown6 hgrow6 hgrow6' hnil6 hat6 HS6 HRN HR2
          go_wp2
          go_roundw
          case rel => exact ⟨M - 1, g5, n1 + 1, c5, g6, n2 + 1, c6, by omega, by omega, by omega, by omega, by omega, by first | go_num | (congr 1; omega), rfl, rfl, HS7.out⟩
          case measure => simp [intOf]; omega
        · have HR2 : Hid ((findL (L.drop (M - 1)) key seq).reverse = (findL (L.drop M) key seq).reverse) := by have := mine_no (key := key) (seq := seq) HG.out (fun h => hq h.2); rwa [show M - 1 + 1 = M by omega] at this
          subst hks
          go_wp2
          go_roundw
          case rel => exact ⟨M - 1, g5, n1 + 1, c5, g2, n2, c2, by omega, by omega, by omega, by omega, by omega, by first | go_num | (congr 1; omega), rfl, rfl, by rw [HR2.out]; exact HS5.out⟩
          case measure => simp [intOf]; omega
      · have HR2 : Hid ((findL (L.drop (M - 1)) key seq).reverse = (findL (L.drop M) key seq).reverse) := by have := mine_no (key := key) (seq := seq) HG.out (fun h => hks h.1); rwa [show M - 1 + 1 = M by omega] at this
        have hne : ¬ s.toList = key.toList := by
          rw [ByteArray.toList_eq, ByteArray.toList_eq]
          intro h
          exact hks (ByteArray.ext (Array.toList_inj.1 h))
        have hne' : (s.toList == key.toList) = false := by simpa using hne
        clear hks
        go_wp2
        go_roundw
        case rel => exact ⟨M - 1, g5, n1 + 1, c5, g2, n2, c2, by omega, by omega, by omega, by omega, by omega, by first | go_num | (congr 1; omega), rfl, rfl, by rw [HR2.out]; exact HS5.out⟩
        case measure => simp [intOf]; omega
end Go.Proofs.Ytanhmpbjbdpkgaa
