/-
  What the document's l3Cut makes of entries, by a walk of its Go text.
-/
import Derived.Deep.CutBlock
import Derived.Deep.DeepCutAuto
import Derived.Deep.RegionHeld3
import Derived.Test.YtlmgojlffgkciaaGreatCe29
import Derived.Test.YtlmgojlffgkciaaGreatCe26
namespace Go.Proofs.YtlmgojlffgkciaaGreat
open Go.RowKit
set_option maxRecDepth 100000
set_option maxHeartbeats 16000000
theorem OwnE.prefix {w : World} {base g n c k : Nat} {L : List EntD} (h : OwnE w base g n c L) (hk : k ≤ n) : OwnE w base g k c (L.take k) := by
  refine ⟨?_, by have := h.len; simp; omega, fun l hl => h.ents l (List.mem_of_mem_take hl)⟩
  have hf : flatE (L.take k) = (flatE L).take (k * 5) := by
    have e : flatE L = flatE (L.take k) ++ flatE (L.drop k) := by rw [← flatE_append, List.take_append_drop]
    have hl : (flatE (L.take k)).length = k * 5 := by rw [flatE_len, List.length_take, h.len]; congr 1; omega
    rw [e, ← hl]
    exact List.take_left.symm
  refine ⟨by rw [flatE_len, List.length_take, h.len]; congr 1; omega, Or.inr ?_⟩
  rcases h.owns.2 with ⟨hv, _⟩ | ⟨g', cap, cur, hv, h1, h2, h3, h4, h5, h6⟩
  · cases hv
  · cases hv
    refine ⟨g, c, cur, rfl, h1, h2, by omega, h4, h5, ?_⟩
    rw [hf, ← h6, List.take_take]
    congr 1
    omega
structure LowSt (w wi : World) : Prop where
  low : Below w.heap.size w wi
structure CutSt (w wi : World) (g n c gt nt ct : Nat) (A B : List EntD) : Prop where
  low : Below w.heap.size w wi
  out : OwnE wi w.heap.size g n c A
  tl : OwnE wi w.heap.size gt nt ct B
  ne : gt ≠ g
theorem CutSt.below {w wi wj : World} {g n c gt nt ct : Nat} {A B : List EntD} (h : CutSt w wi g n c gt nt ct A B) (hb : Below wi.heap.size wi wj) : CutSt w wj g n c gt nt ct A B :=
  ⟨h.low.trans (hb.mono h.low.size), h.out.below hb, h.tl.below hb, h.ne⟩
structure CutSt2 (w wi : World) (g n c gt nt ct : Nat) (A B : List EntD) : Prop where
  low : Below w.heap.size w wi
  out : OwnE wi w.heap.size g n c A
  tl : OwnE wi w.heap.size gt nt ct B
theorem CutSt.grown {w wi wj : World} {g n c gt nt ct g' n' c' : Nat} {A A' B : List EntD} (h : CutSt w wi g n c gt nt ct A B) (hg : wi.grownBy wj (some g)) (ho : OwnE wj w.heap.size g' n' c' A') : CutSt2 w wj g' n' c' gt nt ct A' B :=
  ⟨h.low.grown hg h.low.size (fun k e => by cases e; exact h.out.lt.1), ho, h.tl.grown hg (fun e => h.ne (by cases e; rfl))⟩
theorem plC_stop {A : List EntD} {q : Int} {j : Nat} {x : EntD} (h : A[j]? = some x) (hx : ¬ q < x.2.1) : plC A q (j + 1) = j + 1 := by rw [plC, h]; simp only; rw [if_neg hx]
theorem plC_go {A : List EntD} {q : Int} {j : Nat} {x : EntD} (h : A[j]? = some x) (hx : q < x.2.1) : plC A q (j + 1) = plC A q j := by rw [plC, h]; simp only; rw [if_pos hx]
theorem specCut (a : Option Addr) (len cap : Nat) (L : List EntD) (key : ByteArray) (seq : Int) (w : World) (hL : EntsAt w a len cap L) (hlen : len ≤ 1048576) :
    Calls Tryz.prog 124 #[.slice a len cap, .string key, .int .i64 seq] w fun e w' => ∃ g n c, e = .returned (.slice (some ⟨g, 0, none⟩) n c) ∧ OwnE w' w.heap.size g n c (cutC (findL L key seq)) ∧ Below w.heap.size w w' := by
  have HLEN : Hid (L.length = len) := hL.length
  have HENTS : Hid (∀ l ∈ L, EntW l) := hL.ents
  have hbl := hL.room
  have hbc := hL.big
  unfold maxLen at hbc
  have HL : Hid (EntsAt w a len cap L) := hL
  clear hL
  obtain ⟨i0, hi, hz0, hz1, hz2⟩ := info_parts Tryz.infoEnt
  have HO0 : Hid (OwnE (w.alloc (.cells #[] 78)) w.heap.size w.heap.size 0 0 (cutC (findL (L.take 0) key seq))) := by
    have := own_empty w _ (Nat.le_refl _)
    simpa [findL, cutC, Hid] using this
  have HB0 : Hid (Below w.heap.size w (w.alloc (.cells #[] 78))) := (Below.refl _ _).alloc (Nat.le_refl _) _
  go_enter Tryz.func124, Tryz.ntmps124
  go_wp2
  go_loopw [7, 8] (fun ov iv wr => ∃ (k g m c : Nat), k ≤ len ∧ m ≤ k ∧ iv = .int .i64 k ∧ ov = .slice (some ⟨g, 0, none⟩) m c ∧ OwnE wr w.heap.size g m c (cutC (findL (L.take k) key seq)) ∧ Below w.heap.size w wr) (fun _ iv _ => len - (intOf iv).toNat)
  case atStart => exact ⟨0, w.heap.size, 0, 0, Nat.zero_le _, Nat.zero_le _, rfl, rfl, HO0.out, HB0.out⟩
  case round =>
    rename World => wo
    obtain ⟨k, g, m, c, hk, hmk, rfl, rfl, hO, hb⟩ := hrel
    have HO : Hid (OwnE wo w.heap.size g m c (cutC (findL (L.take k) key seq))) := hO
    clear hO HO0 HB0
    by_cases hlt : k < len
    · obtain ⟨b, off, rfl, hbb⟩ := HL.out.form (by omega)
      obtain ⟨s, q, d, t, n, hg, hlw, g0, g1, g2, g3, g4⟩ := HL.out.ent hb hbb k hlt
      have HG : Hid (L[k]? = some (s, q, d, t, n)) := hg
      have HEW : Hid (EntW (s, q, d, t, n)) := hlw
      have hbr : b < wo.heap.size := Nat.lt_of_lt_of_le hbb hb.size
      clear hg hlw
      by_cases hks : s = key
      · by_cases hq : q ≤ seq
        · obtain ⟨A, hA⟩ : ∃ A, A = cutC (findL (L.take k) key seq) := ⟨_, rfl⟩
          have HNEW : Hid (cutC (findL (L.take (k + 1)) key seq) = putC A (s, q, d, t, n)) := by
            show cutC (findL (L.take (k + 1)) key seq) = _
            rw [find_snoc_yes HG.out hks hq, cutC_snoc, hA]
          have HOA : Hid (OwnE wo w.heap.size g m c A) := by rw [hA]; exact HO.out
          have HLA : Hid (A.length = m) := HOA.out.len
          have hmc : m ≤ c := HOA.out.entsAt.room
          have hcb : c ≤ maxLen := HOA.out.entsAt.big
          unfold maxLen at hcb
          have HMS : Hid (∀ w', Below w.heap.size w w' → (w'.cell? ⟨b, off + k * 5, none⟩ = some (.string s) ∧ w'.cell? ⟨b, off + k * 5 + 1, none⟩ = some (.int .i64 q) ∧ w'.cell? ⟨b, off + k * 5 + 2, none⟩ = some (.int .i64 d) ∧ w'.cell? ⟨b, off + k * 5 + 3, none⟩ = some (.string t) ∧ w'.cell? ⟨b, off + k * 5 + 4, none⟩ = some (.int .i64 n) ∧ b < w'.heap.size)) := fun w' kb => by
            obtain ⟨s', q', d', t', n', hg', _, e0, e1, e2, e3, e4⟩ := HL.out.ent kb hbb k hlt
            rw [HG.out] at hg'
            cases hg'
            exact ⟨e0, e1, e2, e3, e4, Nat.lt_of_lt_of_le hbb kb.size⟩
          have hqn : ¬ seq < q := by omega
          subst hks
          clear hA HO
          go_upto_block 2 with fail
          go_cut [9] (fun s9 wx => ∃ j : Nat, s9 = .int .i64 j ∧ j ≤ m ∧ plC A q m = j ∧ Below wo.heap.size wo wx)
          case first =>
            go_wp2_with fail
            go_loopw [9] (fun kv wq => ∃ j : Nat, j ≤ m ∧ kv = .int .i64 j ∧ plC A q m = plC A q j ∧ Below wo.heap.size wo wq) (fun kv _ => (intOf kv).toNat)
            case atStart => exact ⟨m, Nat.le_refl _, rfl, rfl, Below.refl _ _⟩
            case round =>
            obtain ⟨j, hj, rfl, hpl, hbq⟩ := hrel
            have HPL : Hid (plC A q m = plC A q j) := hpl
            have KB : Hid (Below w.heap.size w wr) := hb.trans (hbq.mono hb.size)
            clear hpl
            by_cases hj0 : j = 0
            · subst hj0
              have k0 : Below wr.heap.size wr wr.drew := (Below.refl _ _).drew
              have HMK : Hid (∀ w', Below wr.heap.size wr w' → (w'.cell? ⟨b, off + k * 5, none⟩ = some (.string s) ∧ w'.cell? ⟨b, off + k * 5 + 1, none⟩ = some (.int .i64 q) ∧ w'.cell? ⟨b, off + k * 5 + 2, none⟩ = some (.int .i64 d) ∧ w'.cell? ⟨b, off + k * 5 + 3, none⟩ = some (.string t) ∧ w'.cell? ⟨b, off + k * 5 + 4, none⟩ = some (.int .i64 n) ∧ b < w'.heap.size)) := fun w' kk => HMS.out w' (KB.out.trans (kk.mono KB.out.size))
              go_wp2_with fail
              refine wp_region_held_drew (S := (fun w' => w'.cell? ⟨b, off + k * 5, none⟩ = some (.string s) ∧ w'.cell? ⟨b, off + k * 5 + 1, none⟩ = some (.int .i64 q) ∧ w'.cell? ⟨b, off + k * 5 + 2, none⟩ = some (.int .i64 d) ∧ w'.cell? ⟨b, off + k * 5 + 3, none⟩ = some (.string t) ∧ w'.cell? ⟨b, off + k * 5 + 4, none⟩ = some (.int .i64 n) ∧ b < w'.heap.size)) (by kernel_rfl) (HMK.out _ k0) (fun hHeld => ?_)
              refine tkL 0 hHeld ?_; try go_frame
              refine tkL 1 hHeld ?_; try go_frame
              refine tkL 2 hHeld ?_; try go_frame
              refine tkN 3 hHeld ?_; try go_frame
              refine tkN 4 hHeld ?_; try go_frame
              refine tkN 5 hHeld ?_; try go_frame
              refine tkN 6 hHeld ?_; try go_frame
              refine tkN 7 hHeld ?_; try go_frame
              refine tkN 8 hHeld ?_; try go_frame
              refine tkN 9 hHeld ?_; try go_frame
              refine tkN 10 hHeld ?_; try go_frame
              refine tkN 11 hHeld ?_; try go_frame
              refine tkN 12 hHeld ?_; try go_frame
              refine tkN 13 hHeld ?_; try go_frame
              refine tkN 14 hHeld ?_; try go_frame
              refine tkL 15 hHeld ?_; try go_frame
              refine wpAnyH_done (by kernel_rfl) ?_ _
              have KZ : Hid (Below wo.heap.size wo wr.drew) := hbq.trans (k0.mono hbq.size)
              clear k0 HMK hHeld
              go_wp2
              go_meet
              exact ⟨0, rfl, Nat.zero_le _, by rw [HPL.out]; rfl, KZ.out⟩
            · have hjp : 0 < j := by omega
              have hkI : (0 : Int) < (j : Int) := by omega
              have hj1 : (0 : Int) ≤ (j : Int) - 1 := by omega
              have hj2 : (j : Int) - 1 < (m : Int) := by omega
              have hj3 : (1 : Int) ≤ (j : Int) := by omega
              have hjt : ((j : Int) - 1).toNat = j - 1 := by omega
              have wj : IntKind.i64.wrap ((j : Int) - 1) = (j : Int) - 1 := by rw [IntWalk.i64_left]; unfold wrap64; omega
              have hgl := HOA.out.lt.2
              obtain ⟨s', q', d', t', n', hg', _, e0, e1, e2, e3, e4⟩ := HOA.out.entsAt.ent hbq hgl (j - 1) (by omega)
              simp only [Nat.zero_add] at e1
              have HG' : Hid (A[j - 1]? = some (s', q', d', t', n')) := hg'
              have HJJ : Hid (j = j - 1 + 1) := by show j = j - 1 + 1; omega
              have k0 : Below wr.heap.size wr wr.drew := (Below.refl _ _).drew
              have hgw : g < wr.heap.size := Nat.lt_of_lt_of_le hgl hbq.size
              have HMK : Hid (∀ w', Below wr.heap.size wr w' → (w'.cell? ⟨b, off + k * 5, none⟩ = some (.string s) ∧ w'.cell? ⟨b, off + k * 5 + 1, none⟩ = some (.int .i64 q) ∧ w'.cell? ⟨b, off + k * 5 + 2, none⟩ = some (.int .i64 d) ∧ w'.cell? ⟨b, off + k * 5 + 3, none⟩ = some (.string t) ∧ w'.cell? ⟨b, off + k * 5 + 4, none⟩ = some (.int .i64 n) ∧ b < w'.heap.size ∧ w'.cell? ⟨g, (j - 1) * 5 + 1, none⟩ = some (.int .i64 q') ∧ g < w'.heap.size)) := fun w' kk => by
                obtain ⟨y0, y1, y2, y3, y4, y5⟩ := HMS.out w' (KB.out.trans (kk.mono KB.out.size))
                exact ⟨y0, y1, y2, y3, y4, y5, cell_later kk e1, Nat.lt_of_lt_of_le hgw kk.size⟩
              clear e0 e1 e2 e3 e4 hg' hgl
              by_cases hqq : q < q'
              · have hqd : decide (q < q') = true := decide_eq_true hqq
                go_wp2_with fail
                refine wp_region_held_drew (S := (fun w' => w'.cell? ⟨b, off + k * 5, none⟩ = some (.string s) ∧ w'.cell? ⟨b, off + k * 5 + 1, none⟩ = some (.int .i64 q) ∧ w'.cell? ⟨b, off + k * 5 + 2, none⟩ = some (.int .i64 d) ∧ w'.cell? ⟨b, off + k * 5 + 3, none⟩ = some (.string t) ∧ w'.cell? ⟨b, off + k * 5 + 4, none⟩ = some (.int .i64 n) ∧ b < w'.heap.size ∧ w'.cell? ⟨g, (j - 1) * 5 + 1, none⟩ = some (.int .i64 q') ∧ g < w'.heap.size)) (by kernel_rfl) (HMK.out _ k0) (fun hHeld => ?_)
                refine tkL 0 hHeld ?_; try go_frame
                refine tkL 1 hHeld ?_; try go_frame
                refine tkL 2 hHeld ?_; try go_frame
                refine tkL 3 hHeld ?_; try go_frame
                refine tkL 4 hHeld ?_; try go_frame
                refine tkL 5 hHeld ?_; try go_frame
                refine tkL 6 hHeld ?_; try go_frame
                refine tkL 7 hHeld ?_; try go_frame
                refine tkL 8 hHeld ?_; try go_frame
                refine tkL 9 hHeld ?_; try go_frame
                refine tkL 10 hHeld ?_; try go_frame
                refine tkL 11 hHeld ?_; try go_frame
                refine tkL 12 hHeld ?_; try go_frame
                refine tkL 13 hHeld ?_; try go_frame
                refine tkL 14 hHeld ?_; try go_frame
                refine tkL 15 hHeld ?_; try go_frame
                refine wpAnyH_done (by kernel_rfl) ?_ _
                have KZ : Hid (Below wo.heap.size wo wr.drew) := hbq.trans (k0.mono hbq.size)
                clear k0 HMK hHeld
                go_wp2
                go_roundw
                case rel =>
                  have hpl' : plC A q m = plC A q (j - 1) := by
                    have := plC_go HG'.out hqq
                    rw [← HJJ.out] at this
                    rw [HPL.out, this]
                  first | exact ⟨j - 1, by omega, by first | go_num | (congr 1; omega), hpl', KZ.out⟩ | ((repeat apply Exists.intro); exact ⟨⟨j - 1, by omega, by first | go_num | (congr 1; omega), hpl', KZ.out⟩, rfl⟩)
                case measure => simp [intOf]; omega
              · have hqd : decide (q < q') = false := decide_eq_false hqq
                go_wp2_with fail
                refine wp_region_held_drew (S := (fun w' => w'.cell? ⟨b, off + k * 5, none⟩ = some (.string s) ∧ w'.cell? ⟨b, off + k * 5 + 1, none⟩ = some (.int .i64 q) ∧ w'.cell? ⟨b, off + k * 5 + 2, none⟩ = some (.int .i64 d) ∧ w'.cell? ⟨b, off + k * 5 + 3, none⟩ = some (.string t) ∧ w'.cell? ⟨b, off + k * 5 + 4, none⟩ = some (.int .i64 n) ∧ b < w'.heap.size ∧ w'.cell? ⟨g, (j - 1) * 5 + 1, none⟩ = some (.int .i64 q') ∧ g < w'.heap.size)) (by kernel_rfl) (HMK.out _ k0) (fun hHeld => ?_)
                refine tkL 0 hHeld ?_; try go_frame
                refine tkL 1 hHeld ?_; try go_frame
                refine tkL 2 hHeld ?_; try go_frame
                refine tkL 3 hHeld ?_; try go_frame
                refine tkL 4 hHeld ?_; try go_frame
                refine tkL 5 hHeld ?_; try go_frame
                refine tkL 6 hHeld ?_; try go_frame
                refine tkL 7 hHeld ?_; try go_frame
                refine tkL 8 hHeld ?_; try go_frame
                refine tkL 9 hHeld ?_; try go_frame
                refine tkL 10 hHeld ?_; try go_frame
                refine tkL 11 hHeld ?_; try go_frame
                refine tkL 12 hHeld ?_; try go_frame
                refine tkL 13 hHeld ?_; try go_frame
                refine tkL 14 hHeld ?_; try go_frame
                refine tkL 15 hHeld ?_; try go_frame
                refine wpAnyH_done (by kernel_rfl) ?_ _
                have KZ : Hid (Below wo.heap.size wo wr.drew) := hbq.trans (k0.mono hbq.size)
                clear k0 HMK hHeld
                go_wp2
                go_meet
                refine ⟨j, rfl, hj, ?_, KZ.out⟩
                have := plC_stop (q := q) HG'.out (by simp only; omega)
                rw [← HJJ.out] at this
                rw [HPL.out, this]
          case rest =>
            obtain ⟨j, rfl, hjm, hpl, hbx⟩ := hcut
            have HPUT : Hid (putC A (s, q, d, t, n) = A.take j ++ ([(s, q, d, t, n)] ++ A.drop j)) := by show putC A (s, q, d, t, n) = _; unfold putC; rw [HLA.out, hpl]
            have HWA : Hid (∀ l ∈ A, EntW l) := HOA.out.ents
            have HW8 : Hid (∀ l ∈ A.take j ++ [(s, q, d, t, n)], EntW l) := fun l hl => by rcases List.mem_append.1 hl with h1 | h1; exact HWA.out l (List.mem_of_mem_take h1); simp only [List.mem_singleton] at h1; subst h1; exact HEW.out
            have HW10 : Hid (∀ l ∈ putC A (s, q, d, t, n), EntW l) := fun l hl => by rw [HPUT.out, ← List.append_assoc] at hl; rcases List.mem_append.1 hl with h1 | h1; exact HW8.out l h1; exact HWA.out l (List.mem_of_mem_drop h1)
            have HOC : Hid (OwnE wc w.heap.size g m c A) := HOA.out.below hbx
            have KC : Hid (Below w.heap.size w wc) := hb.trans (hbx.mono hb.size)
            have kt : Below wc.heap.size wc (wc.alloc (.cells #[] 78)) := (Below.refl _ _).alloc (Nat.le_refl _) _
            have HT0 : Hid (OwnE (wc.alloc (.cells #[] 78)) wc.heap.size wc.heap.size 0 0 []) := own_empty wc _ (Nat.le_refl _)
            have HLT : Hid (EntsAt (wc.alloc (.cells #[] 78)) (some ⟨g, 0, none⟩) m c A) := HOC.out.entsAt.keep kt
            have HGC : Hid (g < wc.heap.size) := HOC.out.lt.2
            have hjc : j ≤ c := by omega
            have hjcI : (j : Int) ≤ (c : Int) := by omega
            have hjmI : (j : Int) ≤ (m : Int) := by omega
            clear hpl hbx hb g0 g1 g2 g3 g4 hbr
            by_cases hck : c = j
            · subst hck
              have hmc' : m = c := by omega
              have HM0 : Hid (m = c) := hmc'
              have HD0 : Hid (A.drop c = []) := List.drop_of_length_le (by rw [HLA.out]; omega)
              clear hmc'
              go_upto_region 10 with fail
              obtain ⟨gt, hgtw⟩ : ∃ gt, gt = wc.heap.size := ⟨_, rfl⟩
              obtain ⟨wt, hwt⟩ : ∃ wt, wt = wc.alloc (.cells #[] 78) := ⟨_, rfl⟩
              have kt' : Below wc.heap.size wc wt := by rw [hwt]; exact kt
              have k0 : CutSt w wt.drew g c c gt 0 0 (A.take c) (A.drop c) := CutSt.below ⟨KC.out.trans (kt'.mono KC.out.size), (HOC.out.below kt').prefix (by omega), by rw [hwt, hgtw, HD0.out]; exact HT0.out.mono KC.out.size, by have := HGC.out; omega⟩ (Below.refl _ _).drew
              rw [← hwt, ← hgtw]
              clear hwt hgtw kt kt' HT0 HLT HOC HGC
              have hnt : c + 1 + 0 = m + 1 := by have := HM0.out; omega
              go_wp2_with fail
              refine wp_region_held_drew (S := (fun w' => w'.cell? ⟨b, off + k * 5, none⟩ = some (.string s) ∧ w'.cell? ⟨b, off + k * 5 + 1, none⟩ = some (.int .i64 q) ∧ w'.cell? ⟨b, off + k * 5 + 2, none⟩ = some (.int .i64 d) ∧ w'.cell? ⟨b, off + k * 5 + 3, none⟩ = some (.string t) ∧ w'.cell? ⟨b, off + k * 5 + 4, none⟩ = some (.int .i64 n) ∧ b < w'.heap.size)) (by kernel_rfl) (HMS.out _ k0.low) (fun hHeld => ?_)
              generalize wt.drew = wd at k0 hHeld ⊢
              refine tkL 0 hHeld ?_; try go_frame
              refine tkL 1 hHeld ?_; try go_frame
              refine tkL 2 hHeld ?_; try go_frame
              refine tkL 3 hHeld ?_; try go_frame
              refine tkL 4 hHeld ?_; try go_frame
              refine tkL 5 hHeld ?_; try go_frame
              refine tkL 6 hHeld ?_; try go_frame
              refine tkL 9 hHeld ?_; try go_frame
              refine wpAnyH_ready (rs := [7]) (by kernel_rfl) (by simp) ?_
              refine consL rfl (fun K hK => ?_) AllReadyH.nil
              go_simp
              have kN : Below wd.heap.size wd (wd.alloc (.cells #[.string s, .int .i64 q, .int .i64 d, .string t, .int .i64 n] 78)) := (Below.refl _ _).alloc (Nat.le_refl _) _
              have sN := k0.below kN
              have rN : EntsAt (wd.alloc (.cells #[.string s, .int .i64 q, .int .i64 d, .string t, .int .i64 n] 78)) (some ⟨wd.heap.size, 0, none⟩) 1 1 [(s, q, d, t, n)] := ents_one wd _ _ _ _ _ HEW.out
              generalize wd.heap.size = gn at rN ⊢
              generalize wd.alloc (.cells #[.string s, .int .i64 q, .int .i64 d, .string t, .int .i64 n] 78) = wn at sN rN kN ⊢
              refine hK.out _ _ (HMS.out _ sN.low) (fun hHeld => ?_)
              clear hK K
              try go_frame
              refine wpAnyH_ready (rs := [8]) (by kernel_rfl) (by simp) ?_
              refine consL rfl (fun K hK => ?_) AllReadyH.nil
              refine step_append_own rfl (.tmp 61) (.tmp 66) 28 rfl w.heap.size 78 i0 _ 5 56 Tryz.underlying28 hi hz0 hz1 hz2 rfl (Nat.succ_pos 4) _ _ _ rfl sN.out.owns ⟨gn, 0, none⟩ 1 1 (flatE [(s, q, d, t, n)]) rfl rfl (ents_news rN) (flatE_one _) ?_ ?_ ?_ ?_
              · unfold maxLen; omega
              · omega
              · exact sN.low.size
              intro v8 w8 hown8 hgrow8 hnil8
              obtain ⟨g8, c8, rfl⟩ := row_some hown8 hnil8
              have hgrow8' : wn.grownBy w8 (some g) := hgrow8
              have r8 : OwnE w8 w.heap.size g8 (c + 1) c8 (A.take c ++ [(s, q, d, t, n)]) := ⟨by rw [flatE_append]; exact hown8, by simp [HLA.out]; omega, HW8.out⟩
              have s8 := sN.grown hgrow8' r8
              refine hK.out _ _ (HMS.out _ s8.low) (fun hHeld => ?_)
              clear hK K
              try go_frame
              refine wpAnyH_ready (rs := [10]) (by kernel_rfl) (by simp) ?_
              refine consL rfl (fun K hK => ?_) AllReadyH.nil
              refine step_append_own rfl (.tmp 67) (.tmp 68) 28 rfl w.heap.size 78 i0 _ 5 56 Tryz.underlying28 hi hz0 hz1 hz2 rfl (Nat.succ_pos 4) _ _ _ rfl s8.out.owns ⟨gt, 0, none⟩ 0 0 (flatE (A.drop c)) rfl ?_ (ents_news s8.tl.entsAt) (flatE_one _) ?_ ?_ ?_ ?_
              · rw [flatE_len, s8.tl.len]
              · unfold maxLen; omega
              · omega
              · exact s8.low.size
              intro v10 w10 hown10 hgrow10 hnil10
              obtain ⟨g10, c10, rfl⟩ := row_some hown10 hnil10
              have hgrow10' : w8.grownBy w10 (some g8) := hgrow10
              have b10 : Below w.heap.size w w10 := s8.low.grown hgrow10' s8.low.size (fun k e => by cases e; exact s8.out.lt.1)
              have s10 : LowSt w w10 := ⟨b10⟩
              refine hK.out _ _ (HMS.out _ s10.low) (fun hHeld => ?_)
              clear hK K
              try go_frame
              refine tkL 11 hHeld ?_; try go_frame
              refine wpAnyH_done (by kernel_rfl) ?_ _
              rw [hnt] at hown10 ⊢
              have HO10 : Hid (OwnE w10 w.heap.size g10 (m + 1) c10 (cutC (findL (L.take (k + 1)) s seq))) := by
                refine ⟨?_, ?_, ?_⟩
                · rw [HNEW.out, HPUT.out, ← List.append_assoc, flatE_append]; exact hown10
                · rw [HNEW.out, putC_len, HLA.out]
                · rw [HNEW.out]; exact HW10.out
              have HB10 : Hid (Below w.heap.size w w10) := b10
              clear hown10 hgrow10 hgrow10' hnil10 s8 hown8 hgrow8 hgrow8' hnil8 sN r8 b10 s10 hHeld
              go_wp2
              go_roundw
              case rel =>
                first | exact ⟨k + 1, g10, m + 1, c10, by omega, by omega, by go_num, rfl, HO10.out, HB10.out⟩ | ((repeat apply Exists.intro); exact ⟨⟨k + 1, g10, m + 1, c10, by omega, by omega, by go_num, rfl, HO10.out, HB10.out⟩, rfl⟩)
              case measure => simp [intOf]; omega
            · have hckI : ¬ (c : Int) = (j : Int) := by omega
              have hnt : j + 1 + (m - j) = m + 1 := by omega
              go_upto_region 10 with (at_builtin; refine wpList_append_own _ rfl _ _ 28 rfl wc.heap.size 78 i0 _ 5 56 Tryz.underlying28 hi hz0 hz1 hz2 rfl (by decide) _ _ _ rfl HT0.out.owns ⟨g, j * 5, none⟩ (m - j) (c - j) (flatE (A.drop j)) rfl ?_ ?_ ?_ ?_ ?_ ?_ ?_)
              all_goals try (first | (rw [flatE_len, List.length_drop, HLA.out]; done) | exact drop_news HLT.out j | exact flatE_one _ | (intro x u hu; have := drop_news HLT.out j x u hu; rw [Go.WideShapes.add_plain] at this; exact this))
              all_goals try (first | (unfold maxLen; omega) | omega | (simp; omega))
              intro vt wt hownt hgrowt hnilt
              obtain ⟨gt, ct, rfl⟩ := row_form hownt (by first | exact hnilt | (intro e; exact absurd (hnilt.1 e).1 (by simp)))
              have hgrowt' : (wc.alloc (.cells #[] 78)).grownBy wt (some wc.heap.size) := hgrowt
              have TL : OwnE wt wc.heap.size gt (m - j) ct (A.drop j) := ⟨by first | exact hownt | (have h0 := hownt; rw [Nat.zero_add] at h0; exact h0), by rw [List.length_drop, HLA.out], fun l hl => HWA.out l (List.mem_of_mem_drop hl)⟩
              have k0 : CutSt w wt.drew g j c gt (m - j) ct (A.take j) (A.drop j) := CutSt.below ⟨(KC.out.trans (kt.mono KC.out.size)).grown hgrowt' (Nat.le_trans KC.out.size kt.size) (fun k e => by cases e; exact KC.out.size), ((HOC.out.below kt).grown hgrowt' (fun e => by cases e; have := HGC.out; omega)).prefix hjm, TL.mono KC.out.size, by have := TL.lt.1; have := HGC.out; omega⟩ (Below.refl _ _).drew
              clear hownt hgrowt hgrowt' hnilt TL kt HT0 HLT HOC HGC
              go_wp2_with fail
              refine wp_region_held_drew (S := (fun w' => w'.cell? ⟨b, off + k * 5, none⟩ = some (.string s) ∧ w'.cell? ⟨b, off + k * 5 + 1, none⟩ = some (.int .i64 q) ∧ w'.cell? ⟨b, off + k * 5 + 2, none⟩ = some (.int .i64 d) ∧ w'.cell? ⟨b, off + k * 5 + 3, none⟩ = some (.string t) ∧ w'.cell? ⟨b, off + k * 5 + 4, none⟩ = some (.int .i64 n) ∧ b < w'.heap.size)) (by kernel_rfl) (HMS.out _ k0.low) (fun hHeld => ?_)
              generalize wt.drew = wd at k0 hHeld ⊢
              refine tkL 0 hHeld ?_; try go_frame
              refine tkL 1 hHeld ?_; try go_frame
              refine tkL 2 hHeld ?_; try go_frame
              refine tkL 3 hHeld ?_; try go_frame
              refine tkL 4 hHeld ?_; try go_frame
              refine tkL 5 hHeld ?_; try go_frame
              refine tkL 6 hHeld ?_; try go_frame
              refine tkL 9 hHeld ?_; try go_frame
              refine wpAnyH_ready (rs := [7]) (by kernel_rfl) (by simp) ?_
              refine consL rfl (fun K hK => ?_) AllReadyH.nil
              go_simp
              have kN : Below wd.heap.size wd (wd.alloc (.cells #[.string s, .int .i64 q, .int .i64 d, .string t, .int .i64 n] 78)) := (Below.refl _ _).alloc (Nat.le_refl _) _
              have sN := k0.below kN
              have rN : EntsAt (wd.alloc (.cells #[.string s, .int .i64 q, .int .i64 d, .string t, .int .i64 n] 78)) (some ⟨wd.heap.size, 0, none⟩) 1 1 [(s, q, d, t, n)] := ents_one wd _ _ _ _ _ HEW.out
              generalize wd.heap.size = gn at rN ⊢
              generalize wd.alloc (.cells #[.string s, .int .i64 q, .int .i64 d, .string t, .int .i64 n] 78) = wn at sN rN kN ⊢
              refine hK.out _ _ (HMS.out _ sN.low) (fun hHeld => ?_)
              clear hK K
              try go_frame
              refine wpAnyH_ready (rs := [8]) (by kernel_rfl) (by simp) ?_
              refine consL rfl (fun K hK => ?_) AllReadyH.nil
              refine step_append_own rfl (.tmp 61) (.tmp 66) 28 rfl w.heap.size 78 i0 _ 5 56 Tryz.underlying28 hi hz0 hz1 hz2 rfl (Nat.succ_pos 4) _ _ _ rfl sN.out.owns ⟨gn, 0, none⟩ 1 1 (flatE [(s, q, d, t, n)]) rfl rfl (ents_news rN) (flatE_one _) ?_ ?_ ?_ ?_
              · unfold maxLen; omega
              · omega
              · exact sN.low.size
              intro v8 w8 hown8 hgrow8 hnil8
              obtain ⟨g8, c8, rfl⟩ := row_some hown8 hnil8
              have hgrow8' : wn.grownBy w8 (some g) := hgrow8
              have r8 : OwnE w8 w.heap.size g8 (j + 1) c8 (A.take j ++ [(s, q, d, t, n)]) := ⟨by rw [flatE_append]; exact hown8, by simp [HLA.out]; omega, HW8.out⟩
              have s8 := sN.grown hgrow8' r8
              refine hK.out _ _ (HMS.out _ s8.low) (fun hHeld => ?_)
              clear hK K
              try go_frame
              refine wpAnyH_ready (rs := [10]) (by kernel_rfl) (by simp) ?_
              refine consL rfl (fun K hK => ?_) AllReadyH.nil
              refine step_append_own rfl (.tmp 67) (.tmp 68) 28 rfl w.heap.size 78 i0 _ 5 56 Tryz.underlying28 hi hz0 hz1 hz2 rfl (Nat.succ_pos 4) _ _ _ rfl s8.out.owns ⟨gt, 0, none⟩ (m - j) ct (flatE (A.drop j)) rfl ?_ (ents_news s8.tl.entsAt) (flatE_one _) ?_ ?_ ?_ ?_
              · rw [flatE_len, s8.tl.len]
              · unfold maxLen; omega
              · omega
              · exact s8.low.size
              intro v10 w10 hown10 hgrow10 hnil10
              obtain ⟨g10, c10, rfl⟩ := row_some hown10 hnil10
              have hgrow10' : w8.grownBy w10 (some g8) := hgrow10
              have b10 : Below w.heap.size w w10 := s8.low.grown hgrow10' s8.low.size (fun k e => by cases e; exact s8.out.lt.1)
              have s10 : LowSt w w10 := ⟨b10⟩
              refine hK.out _ _ (HMS.out _ s10.low) (fun hHeld => ?_)
              clear hK K
              try go_frame
              refine tkL 11 hHeld ?_; try go_frame
              refine wpAnyH_done (by kernel_rfl) ?_ _
              rw [hnt] at hown10 ⊢
              have HO10 : Hid (OwnE w10 w.heap.size g10 (m + 1) c10 (cutC (findL (L.take (k + 1)) s seq))) := by
                refine ⟨?_, ?_, ?_⟩
                · rw [HNEW.out, HPUT.out, ← List.append_assoc, flatE_append]; exact hown10
                · rw [HNEW.out, putC_len, HLA.out]
                · rw [HNEW.out]; exact HW10.out
              have HB10 : Hid (Below w.heap.size w w10) := b10
              clear hown10 hgrow10 hgrow10' hnil10 s8 hown8 hgrow8 hgrow8' hnil8 sN r8 b10 s10 hHeld
              go_wp2
              go_roundw
              case rel =>
                first | exact ⟨k + 1, g10, m + 1, c10, by omega, by omega, by go_num, rfl, HO10.out, HB10.out⟩ | ((repeat apply Exists.intro); exact ⟨⟨k + 1, g10, m + 1, c10, by omega, by omega, by go_num, rfl, HO10.out, HB10.out⟩, rfl⟩)
              case measure => simp [intOf]; omega
        · have HF : Hid (findL (L.take (k + 1)) key seq = findL (L.take k) key seq) := find_snoc_no HG.out (by simp; omega)
          have hqs : seq < q := by omega
          subst hks
          go_wp2
          go_roundw
          case rel => exact ⟨k + 1, g, m, c, by omega, by omega, by go_num, rfl, by rw [HF.out]; exact HO.out, hb⟩
          case measure => simp [intOf]; omega
      · have HF : Hid (findL (L.take (k + 1)) key seq = findL (L.take k) key seq) := find_snoc_no HG.out (fun h => hks h.1)
        have hne : ¬ s.toList = key.toList := by
          rw [ByteArray.toList_eq, ByteArray.toList_eq]
          intro h
          exact hks (ByteArray.ext (Array.toList_inj.1 h))
        have hne' : (s.toList == key.toList) = false := by simpa using hne
        clear hks
        go_wp2
        go_roundw
        case rel => exact ⟨k + 1, g, m, c, by omega, by omega, by go_num, rfl, by rw [HF.out]; exact HO.out, hb⟩
        case measure => simp [intOf]; omega
    · have HF : Hid (findL (L.take k) key seq = findL L key seq) := by show findL (L.take k) key seq = _; rw [List.take_of_length_le (by rw [HLEN.out]; omega)]
      go_wp2
      go_ret
      exact ⟨g, m, c, rfl, by rw [← HF.out]; exact HO.out, hb⟩
end Go.Proofs.YtlmgojlffgkciaaGreat
