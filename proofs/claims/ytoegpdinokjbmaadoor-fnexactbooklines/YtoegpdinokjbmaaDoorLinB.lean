/-
  BookLines of both sides: the lines of an account, by walks of their Go text.
-/
import Derived.Test.YtoegpdinokjbmaaDoorLinL
import Derived.Test.YtoegpdinokjbmaaDoorBookS
import Derived.Test.YtoegpdinokjbmaaDoorCodeOf
import Derived.Test.YtoegpdinokjbmaaDoorAppend
import Derived.Test.YtoegpdinokjbmaaDoorFairP
import Derived.Maps.AppendAt
namespace Go.Proofs.YtoegpdinokjbmaaDoor
open Go.RowKit

/-- The lines of an account in a posting, and in a book: three numbers each. -/
def legL (id : Int) (acct : ByteArray) (L : List LegD) : List Int := L.flatMap (fun l => if l.1.toList == acct.toList then [id, l.2.1, l.2.2] else [])
def linB (acct : ByteArray) (B : List PostD) : List Int := B.flatMap (fun p => legL p.1 acct p.2)
def linO (acct : ByteArray) (B : List PostD) : List Int := if bookB B = true then linB acct B else []
theorem legL_yes {id : Int} {acct : ByteArray} {L : List LegD} {q : Nat} {t : ByteArray} {cu nn : Int} (h : L[q]? = some (t, cu, nn)) (e : (t.toList == acct.toList) = true) : legL id acct (L.take (q + 1)) = legL id acct (L.take q) ++ [id, cu, nn] := by
  rw [List.take_add_one, h]
  simp [legL]
  simpa using e
theorem legL_no {id : Int} {acct : ByteArray} {L : List LegD} {q : Nat} {t : ByteArray} {cu nn : Int} (h : L[q]? = some (t, cu, nn)) (e : (t.toList == acct.toList) = false) : legL id acct (L.take (q + 1)) = legL id acct (L.take q) := by
  rw [List.take_add_one, h]
  simp [legL]
  simpa using e
theorem linB_snoc {acct : ByteArray} {B : List PostD} {k : Nat} {id : Int} {L : List LegD} (h : B[k]? = some (id, L)) : linB acct (B.take (k + 1)) = linB acct (B.take k) ++ legL id acct L := by
  rw [List.take_add_one, h]
  simp [linB]
theorem lin_slice {w : World} {lo n : Nat} {v : Value} {xs : List Value} (h : w.ownsRow lo 69 3 v n xs) : ∃ a c, v = .slice a n c := by
  rcases h.2 with ⟨rfl, rfl⟩ | ⟨g, cap, cur, rfl, _⟩
  · exact ⟨_, _, rfl⟩
  · exact ⟨_, _, rfl⟩
theorem Tryd.infoLine : (Tryd.prog.info? 69).map (fun i => (i.zero, i.size, i.bytes)) = some (some (.agg #[.int .i64 0, .int .i64 0, .int .i64 0]), 3, 24) := by kernel_rfl
theorem cell_three_newL (w : World) (x y z : Value) (t : TypeId) : ∀ j u, [x, y, z][j]? = some u → (w.alloc (.cells #[x, y, z] t)).cell? ((⟨w.heap.size, 0, none⟩ : Addr).add j) = some u := by
  intro j u hj
  rw [Go.WideShapes.add_plain, Nat.zero_add]
  match j, hj with
  | 0, hj => simp at hj; subst hj; simp
  | 1, hj => simp at hj; subst hj; simp
  | 2, hj => simp at hj; subst hj; simp
theorem lin_empty (w : World) : LinIn w.heap.size (w.alloc (.cells #[] 69)) (some ⟨w.heap.size, 0, none⟩) 0 0 [] := by
  have := World.ownsRow_lit (base := w.heap.size) (e := 69) (size := 3) w #[] 0 (Nat.le_refl _) (by simp) (by simp)
  exact ⟨by simpa using this, rfl⟩
theorem lin_nil (lo : Nat) (w : World) : LinIn lo w none 0 0 [] := ⟨World.ownsRow_nil _ _ _ _, rfl⟩
theorem book_40L {B : List PostD} (h : bookB B = true) : B.length ≤ 40 := okUp_len (Nat.le_refl _) h
theorem book_goodL {B : List PostD} (h : bookB B = true) : ∀ p ∈ B, postB p.1 p.2 = true := by
  have := okUp_good (Nat.le_refl _) h
  rwa [List.take_length] at this
def LinR (w : World) (F : List Int) (e : Ending) (w' : World) : Prop := ∃ a m c, e = .returned (.slice a m c) ∧ m ≤ 200 ∧ LinIn w.heap.size w' a m c F ∧ Below w.heap.size w w'

set_option maxRecDepth 100000 in
set_option maxHeartbeats 4000000 in
theorem specLines (b off n c : Nat) (B : List PostD) (acct : ByteArray) (w : World) (hP : PostsAt w (some ⟨b, off, none⟩) n c B) (hbb : b < w.heap.size) :
    Calls Tryd.prog 12 #[.slice (some ⟨b, off, none⟩) n c, .string acct] w (LinR w (linO acct B)) := by
  obtain ⟨i0, hi, hz0, hz1, hz2⟩ := info_parts Tryd.infoLine
  have HLEN : Hid (B.length = n) := hP.length
  have HP : Hid (PostsAt w (some ⟨b, off, none⟩) n c B) := hP
  have HBB : Hid (b < w.heap.size) := hbb
  have hbig := hP.big
  have hroom := hP.room
  unfold maxLen at hbig
  clear hP
  have ke : Below w.heap.size w (w.alloc (.cells #[] 69)) := (Below.refl _ _).alloc (Nat.le_refl _) _
  have KE : Hid (Below w.heap.size w (w.alloc (.cells #[] 69))) := ke
  have HE : Hid (LinIn w.heap.size (w.alloc (.cells #[] 69)) (some ⟨w.heap.size, 0, none⟩) 0 0 []) := lin_empty w
  have CO := specBookOk _ _ _ B _ (HP.out.keep ke)
  clear ke
  go_enter Tryd.func12, Tryd.ntmps12
  go_wp2_with fail
  refine CO.mono ?_
  cases hbk : bookB B with
  | false =>
    rintro e w1 ⟨rfl, hb1⟩
    have K1 : Hid (Below w.heap.size w w1) := KE.out.trans (hb1.mono KE.out.size)
    have H1 : Hid (LinIn w.heap.size w1 (some ⟨w.heap.size, 0, none⟩) 0 0 []) := HE.out.below hb1
    clear hb1 CO
    go_wp2
    go_ret
    exact (show LinR _ _ _ _ from ⟨_, _, _, rfl, by omega, by unfold linO; rw [hbk]; exact H1.out, K1.out⟩)
  | true =>
    rintro e w1 ⟨rfl, hb1⟩
    have K1 : Hid (Below w.heap.size w w1) := KE.out.trans (hb1.mono KE.out.size)
    have H1 : Hid (LinIn w.heap.size w1 (some ⟨w.heap.size, 0, none⟩) 0 0 []) := HE.out.below hb1
    have h40 : n ≤ 40 := by have := book_40L hbk; rw [HLEN.out] at this; exact this
    have HL4 : Hid (∀ p ∈ B, p.2.length ≤ 4) := fun p hp => postB_len (book_goodL hbk p hp)
    clear hb1 CO
    go_wp2
    go_loopw [5, 6] (fun ov iv wr => ∃ (k : Nat) (a' : Option Addr) (m' c' : Nat), k ≤ n ∧ iv = .int .i64 k ∧ ov = .slice a' m' c' ∧ m' ≤ 4 * k ∧ LinIn w.heap.size wr a' m' c' (linB acct (B.take k)) ∧ Below w.heap.size w wr) (fun _ iv _ => n - (intOf iv).toNat)
    case atStart => exact ⟨0, _, _, _, Nat.zero_le _, rfl, rfl, by omega, H1.out, K1.out⟩
    case round =>
      clear H1 K1 HE KE
      obtain ⟨k, a0, m0, c0, hk, rfl, rfl, hm0, hl0, hb0⟩ := hrel
      have HL0 : Hid (LinIn w.heap.size wr a0 m0 c0 (linB acct (B.take k))) := hl0
      have HB0 : Hid (Below w.heap.size w wr) := hb0
      clear hl0 hb0
      by_cases hkn : k < n
      · have hkI : (k : Int) < (n : Int) := by omega
        obtain ⟨id, L, s, m, cm, hgk, hidw, g0, g1, hL0⟩ := HP.out.post (Below.refl _ w) k hkn
        have HGK : Hid (B[k]? = some (id, L)) := hgk
        have HLW : Hid (LegsAt w s m cm L) := hL0
        have HG0 : Hid (w.cell? ⟨b, off + k * 2, none⟩ = some (.int .i64 id) ∧ w.cell? ⟨b, off + k * 2 + 1, none⟩ = some (.slice s m cm)) := ⟨g0, g1⟩
        have hm4 : m ≤ 4 := by have := HL4.out (id, L) (List.mem_of_getElem? hgk); have := hL0.length; simp only at *; omega
        have HML : Hid (L.length = m) := hL0.length
        have hmr := hL0.room
        have hmb := hL0.big
        unfold maxLen at hmb
        clear hgk hL0 g0 g1 hidw
        go_wp2
        go_loopw [5, 7] (fun ov iv wv => ∃ (q : Nat) (a' : Option Addr) (m' c' : Nat), q ≤ m ∧ iv = .int .i64 q ∧ ov = .slice a' m' c' ∧ m' ≤ 4 * k + q ∧ LinIn w.heap.size wv a' m' c' (linB acct (B.take k) ++ legL id acct (L.take q)) ∧ Below w.heap.size w wv) (fun _ iv _ => m - (intOf iv).toNat)
        case atStart => exact ⟨0, _, _, _, Nat.zero_le _, rfl, rfl, by omega, by simpa [legL] using HL0.out, HB0.out⟩
        case round =>
          clear HL0 HB0
          obtain ⟨q, a', m', c', hq, rfl, rfl, hm', hl', hb'⟩ := hrel
          have HB' : Hid (Below w.heap.size w wr) := hb'
          have HLN : Hid (LinIn w.heap.size wr a' m' c' (linB acct (B.take k) ++ legL id acct (L.take q))) := hl'
          have hcs := cell_later hb' HG0.out.2
          have hbw : b < wr.heap.size := Nat.lt_of_lt_of_le HBB.out hb'.size
          by_cases hqm : q < m
          · have hqI : (q : Int) < (m : Int) := by omega
            obtain ⟨lb, lo, rfl, hlb⟩ := HLW.out.form (by omega)
            obtain ⟨t, cu, nn, hgq, hlw, l0, l1, l2⟩ := HLW.out.leg hb' hlb q hqm
            have hlbw : lb < wr.heap.size := Nat.lt_of_lt_of_le hlb hb'.size
            have HGQ : Hid (L[q]? = some (t, cu, nn)) := hgq
            obtain ⟨X, hX⟩ : ∃ X, X = wr.heap.size := ⟨_, rfl⟩
            obtain ⟨W1, hW1⟩ : ∃ W1, W1 = wr.alloc (.cells #[.string t, .int .i64 cu, .int .i64 nn] 52) := ⟨_, rfl⟩
            have kx : Below wr.heap.size wr W1 := by rw [hW1]; exact (Below.refl _ _).alloc (Nat.le_refl _) _
            have x0 : W1.cell? ⟨X, 0, none⟩ = some (.string t) := by rw [hW1, hX]; simp
            have x1 : W1.cell? ⟨X, 1, none⟩ = some (.int .i64 cu) := by rw [hW1, hX]; simp
            have x2 : W1.cell? ⟨X, 2, none⟩ = some (.int .i64 nn) := by rw [hW1, hX]; simp
            have xz : X < W1.heap.size := by rw [hW1, hX]; simp
            have HL : Hid (LinIn w.heap.size W1 a' m' c' (linB acct (B.take k) ++ legL id acct (L.take q))) := hl'.below kx
            have HNX : Hid (∀ x, (Value.slice a' m' c').ownBlock = some x → x ≠ X) := fun x e h => by have := (hl'.1.lt x e).2; omega
            have HXW : Hid (w.heap.size ≤ X) := by show _ ≤ _; rw [hX]; exact hb'.size
            have HKW1 : Hid (Below w.heap.size w W1) := HB'.out.trans (kx.mono HB'.out.size)
            have HBW1 : Hid (w.heap.size ≤ W1.heap.size) := HKW1.out.size
            have g0' := cell_later HKW1.out HG0.out.1
            have HMK : Hid (∀ w', Below W1.heap.size W1 w' → (fun w' => w'.cell? ⟨b, off + k * 2, none⟩ = some (.int .i64 id) ∧ b < w'.heap.size ∧ w'.cell? ⟨X, 1, none⟩ = some (.int .i64 cu) ∧ w'.cell? ⟨X, 2, none⟩ = some (.int .i64 nn) ∧ X < w'.heap.size) w') := fun w' kk => ⟨cell_later kk g0', Nat.lt_of_lt_of_le (Nat.lt_of_lt_of_le HBB.out HBW1.out) kk.size, cell_later kk x1, cell_later kk x2, Nat.lt_of_lt_of_le xz kk.size⟩
            have k0 : Below W1.heap.size W1 W1.drew := (Below.refl _ W1).drew
            obtain ⟨F, hF⟩ : ∃ F, F = linB acct (B.take k) ++ legL id acct (L.take q) := ⟨_, rfl⟩
            have HF : Hid (F = linB acct (B.take k) ++ legL id acct (L.take q)) := hF
            rw [← hF] at HL
            have HFL : Hid (F.length = m' * 3) := HL.out.2
            clear hl' hb' hgq hlw kx hF
            go_upto_region 11 with fail
            rw [← hX, ← hW1]
            clear hX hW1 l0 l1 l2 hcs
            cases he : (t.toList == acct.toList) with
            | true =>
              have HEQ : Hid ((t.toList == acct.toList) = true) := he
              have het : t.toList = acct.toList := by simpa using he
              go_upto_region 12 with fail
              clear x0 x1 x2 xz g0' het he
              refine wp_region_held_drew (S := (fun w' => w'.cell? ⟨b, off + k * 2, none⟩ = some (.int .i64 id) ∧ b < w'.heap.size ∧ w'.cell? ⟨X, 1, none⟩ = some (.int .i64 cu) ∧ w'.cell? ⟨X, 2, none⟩ = some (.int .i64 nn) ∧ X < w'.heap.size)) (by kernel_rfl) (HMK.out _ k0) (fun hHeld => ?_)
              generalize W1.drew = wd at k0 hHeld ⊢
              refine wpAnyH_takeL (i := 0) (v := ?_) rfl (by kernel_rfl) (by kernel_rfl) (by kernel_rfl) (fun _ _ _ h => h) (Or.inl ⟨by rfl, ?_⟩) hHeld ?_
              rotate_left
              · (intro w hSw; (try dsimp only at hSw); go_simp; try with_reducible rfl)
              try go_frame
              refine wpAnyH_takeL (i := 1) (v := ?_) rfl (by kernel_rfl) (by kernel_rfl) (by kernel_rfl) (fun _ _ _ h => h) (Or.inl ⟨by rfl, ?_⟩) hHeld ?_
              rotate_left
              · (intro w hSw; (try dsimp only at hSw); go_simp; try with_reducible rfl)
              try go_frame
              refine wpAnyH_takeL (i := 2) (v := ?_) rfl (by kernel_rfl) (by kernel_rfl) (by kernel_rfl) (fun _ _ _ h => h) (Or.inl ⟨by rfl, ?_⟩) hHeld ?_
              rotate_left
              · (intro w hSw; (try dsimp only at hSw); go_simp; try with_reducible rfl)
              try go_frame
              refine wpAnyH_takeL (i := 3) (v := ?_) rfl (by kernel_rfl) (by kernel_rfl) (by kernel_rfl) (fun _ _ _ h => h) (Or.inl ⟨by rfl, ?_⟩) hHeld ?_
              rotate_left
              · (intro w hSw; (try dsimp only at hSw); go_simp; try with_reducible rfl)
              try go_frame
              refine wpAnyH_takeL (i := 4) (v := ?_) rfl (by kernel_rfl) (by kernel_rfl) (by kernel_rfl) (fun _ _ _ h => h) (Or.inl ⟨by rfl, ?_⟩) hHeld ?_
              rotate_left
              · (intro w hSw; (try dsimp only at hSw); go_simp; try with_reducible rfl)
              try go_frame
              refine wpAnyH_takeL (i := 5) (v := ?_) rfl (by kernel_rfl) (by kernel_rfl) (by kernel_rfl) (fun _ _ _ h => h) (Or.inl ⟨by rfl, ?_⟩) hHeld ?_
              rotate_left
              · (intro w hSw; (try dsimp only at hSw); go_simp; try with_reducible rfl)
              try go_frame
              refine wpAnyH_takeL (i := 6) (v := ?_) rfl (by kernel_rfl) (by kernel_rfl) (by kernel_rfl) (fun _ _ _ h => h) (Or.inl ⟨by rfl, ?_⟩) hHeld ?_
              rotate_left
              · (intro w hSw; (try dsimp only at hSw); go_simp; try with_reducible rfl)
              try go_frame
              refine wpAnyH_takeL (i := 7) (v := ?_) rfl (by kernel_rfl) (by kernel_rfl) (by kernel_rfl) (fun _ _ _ h => h) (Or.inl ⟨by rfl, ?_⟩) hHeld ?_
              rotate_left
              · (intro w hSw; (try dsimp only at hSw); go_simp; try with_reducible rfl)
              try go_frame
              refine wpAnyH_takeL (i := 8) (v := ?_) rfl (by kernel_rfl) (by kernel_rfl) (by kernel_rfl) (fun _ _ _ h => h) (Or.inl ⟨by rfl, ?_⟩) hHeld ?_
              rotate_left
              · (intro w hSw; (try dsimp only at hSw); go_simp; try with_reducible rfl)
              try go_frame
              refine wpAnyH_takeL (i := 9) (v := ?_) rfl (by kernel_rfl) (by kernel_rfl) (by kernel_rfl) (fun _ _ _ h => h) (Or.inl ⟨by rfl, ?_⟩) hHeld ?_
              rotate_left
              · (intro w hSw; (try dsimp only at hSw); go_simp; try with_reducible rfl)
              try go_frame
              refine wpAnyH_takeL (i := 10) (v := ?_) rfl (by kernel_rfl) (by kernel_rfl) (by kernel_rfl) (fun _ _ _ h => h) (Or.inl ⟨by rfl, ?_⟩) hHeld ?_
              rotate_left
              · (intro w hSw; (try dsimp only at hSw); go_simp; try with_reducible rfl)
              try go_frame
              refine wpAnyH_ready (rs := [11]) (by kernel_rfl) (by simp) ?_
              refine consL rfl (fun K hK => ?_) AllReadyH.nil
              go_simp
              have kc : Below wd.heap.size wd (wd.alloc (.cells #[.int .i64 id, .int .i64 cu, .int .i64 nn] 69)) := (Below.refl _ _).alloc (Nat.le_refl _) _
              have k1 : Below W1.heap.size W1 (wd.alloc (.cells #[.int .i64 id, .int .i64 cu, .int .i64 nn] 69)) := k0.trans (kc.mono k0.size)
              have hcn := cell_three_newL wd (.int .i64 id) (.int .i64 cu) (.int .i64 nn) 69
              have hL1 := (HL.out.below k0).below kc
              generalize wd.heap.size = gb at hcn ⊢
              generalize wd.alloc (.cells #[.int .i64 id, .int .i64 cu, .int .i64 nn] 69) = wb at k1 hcn hL1 ⊢
              clear kc
              refine hK.out _ _ (HMK.out _ k1) (fun hHeld => ?_)
              clear hK K
              try go_frame
              refine wpAnyH_ready (rs := [12]) (by kernel_rfl) (by simp) ?_
              refine consL rfl (fun K hK => ?_) AllReadyH.nil
              refine step_append_own rfl (.tmp 42) (.tmp 53) 29 rfl w.heap.size 69 i0 _ 3 24 Tryd.underlying29 hi hz0 hz1 hz2 rfl (by decide) _ _ _ rfl hL1.1 ⟨gb, 0, none⟩ 1 1 [.int .i64 id, .int .i64 cu, .int .i64 nn] rfl rfl hcn (by intro u hu; simp at hu; rcases hu with rfl | rfl | rfl <;> rfl) ?_ ?_ ?_ ?_
              · unfold maxLen; omega
              · omega
              · exact Nat.le_trans HBW1.out k1.size
              intro v5 w5 ho5 hg5 hn5
              have hbs : ∀ x, (Value.slice a' m' c').ownBlock = some x → w.heap.size ≤ x := fun x e => (hL1.1.lt x e).1
              have kk5 : Below w.heap.size w w5 := (HKW1.out.trans (k1.mono HBW1.out)).grown hg5 (Nat.le_trans HBW1.out k1.size) hbs
              have hS5 : (w5.cell? ⟨b, off + k * 2, none⟩ = some (.int .i64 id) ∧ b < w5.heap.size ∧ w5.cell? ⟨X, 1, none⟩ = some (.int .i64 cu) ∧ w5.cell? ⟨X, 2, none⟩ = some (.int .i64 nn) ∧ X < w5.heap.size) := by
                obtain ⟨s0, s1, s2, s3, s4⟩ := HMK.out _ k1
                have hX0 : w.heap.size ≤ X := HXW.out
                have hne : ∀ x, (Value.slice a' m' c').ownBlock = some x → x ≠ X := HNX.out
                have keep : ∀ p : Addr, (p.block < w.heap.size ∨ p.block = X) → p.block < wb.heap.size → ∀ u, wb.cell? p = some u → w5.cell? p = some u := fun p hp hlt u hu => by
                  refine hg5.cell hu (fun e => ?_)
                  rcases hp with hp | hp
                  · have := hbs _ e.symm; omega
                  · exact hne _ e.symm hp
                exact ⟨keep _ (.inl HBB.out) s1 _ s0, Nat.lt_of_lt_of_le s1 hg5.size, keep _ (.inr rfl) s4 _ s2, keep _ (.inr rfl) s4 _ s3, Nat.lt_of_lt_of_le s4 hg5.size⟩
              refine hK.out _ _ (hS5) (fun hHeld => ?_)
              clear hK K
              try go_frame
              refine wpAnyH_takeL (i := 13) (v := ?_) rfl (by kernel_rfl) (by kernel_rfl) (by kernel_rfl) (fun _ _ _ h => h) (Or.inl ⟨by rfl, ?_⟩) hHeld ?_
              rotate_left
              · (intro w hSw; (try dsimp only at hSw); go_simp; try with_reducible rfl)
              try go_frame
              refine wpAnyH_done (by kernel_rfl) ?_ _
              obtain ⟨a5, c5, rfl⟩ := lin_slice ho5
              have H5 : Hid (LinIn w.heap.size w5 a5 (m' + 1) c5 (linB acct (B.take k) ++ legL id acct (L.take (q + 1)))) := by
                show LinIn _ _ _ _ _ _
                rw [legL_yes HGQ.out HEQ.out, ← List.append_assoc, ← HF.out]
                exact ⟨by simpa using ho5, by rw [List.length_append, HFL.out]; simp; omega⟩
              have K5 : Hid (Below w.heap.size w w5) := kk5
              clear k0 k1 kk5 hS5 hHeld hL1 hcn ho5 hg5 hn5 hbs
              go_wp2
              go_roundw
              case rel => exact ⟨q + 1, a5, m' + 1, c5, by omega, by go_num, rfl, by omega, H5.out, K5.out⟩
              case measure => simp [intOf]; omega
            | false =>
              have HEQ : Hid ((t.toList == acct.toList) = false) := he
              have het : ¬ t.toList = acct.toList := by simpa using he
              have HN : Hid (LinIn w.heap.size W1 a' m' c' (linB acct (B.take k) ++ legL id acct (L.take (q + 1)))) := by
                show LinIn _ _ _ _ _ _
                rw [legL_no HGQ.out HEQ.out, ← HF.out]
                exact HL.out
              clear k0
              go_wp2
              go_roundw
              case rel => exact ⟨q + 1, a', m', c', by omega, by go_num, rfl, by omega, HN.out, HKW1.out⟩
              case measure => simp [intOf]; omega
          · have hqI : ¬ (q : Int) < (m : Int) := by omega
            have HR : Hid (LinIn w.heap.size wr a' m' c' (linB acct (B.take (k + 1)))) := by
              show LinIn _ _ _ _ _ _
              rw [linB_snoc HGK.out]
              have : L.take q = L := List.take_of_length_le (by rw [HML.out]; omega)
              rw [this] at hl'
              exact hl'
            clear hl' hb'
            go_wp2
            go_roundw
            case rel => exact ⟨k + 1, a', m', c', by omega, by go_num, rfl, by omega, HR.out, HB'.out⟩
            case measure => simp [intOf]; omega
      · have hkI : ¬ (k : Int) < (n : Int) := by omega
        have HR : Hid (LinIn w.heap.size wr a0 m0 c0 (linO acct B)) := by
          show LinIn _ _ _ _ _ _
          unfold linO
          rw [if_pos hbk]
          have : B.take k = B := List.take_of_length_le (by rw [HLEN.out]; omega)
          rw [← this]
          exact HL0.out
        go_wp2
        go_ret
        exact (show LinR _ _ _ _ from ⟨_, _, _, rfl, by omega, HR.out, HB0.out⟩)

set_option maxRecDepth 100000 in
set_option maxHeartbeats 4000000 in
theorem implLines (b off n c : Nat) (B : List PostD) (acct : ByteArray) (w : World) (hP : PostsAt w (some ⟨b, off, none⟩) n c B) (hbb : b < w.heap.size) (hg : HasEt w) :
    Calls Tryd.prog 13 #[.slice (some ⟨b, off, none⟩) n c, .string acct] w (LinR w (linO acct B)) := by
  obtain ⟨i0, hi, hz0, hz1, hz2⟩ := info_parts Tryd.infoLine
  have HLEN : Hid (B.length = n) := hP.length
  have HP : Hid (PostsAt w (some ⟨b, off, none⟩) n c B) := hP
  have HBB : Hid (b < w.heap.size) := hbb
  have hbig := hP.big
  have hroom := hP.room
  unfold maxLen at hbig
  have CO := implBookOk _ _ _ B _ hP hg
  clear hP hg
  go_enter Tryd.func13, Tryd.ntmps13
  go_wp2_with fail
  refine CO.mono ?_
  cases hbk : bookB B with
  | false =>
    rintro e w1 ⟨rfl, hb1⟩
    have K1 : Hid (Below w.heap.size w w1) := hb1
    clear hb1 CO
    go_wp2
    go_ret
    exact (show LinR _ _ _ _ from ⟨_, _, _, rfl, by omega, by unfold linO; rw [hbk]; exact lin_nil _ _, K1.out⟩)
  | true =>
    rintro e w1 ⟨rfl, hb1⟩
    have K1 : Hid (Below w.heap.size w w1) := hb1
    have h40 : n ≤ 40 := by have := book_40L hbk; rw [HLEN.out] at this; exact this
    have HL4 : Hid (∀ p ∈ B, p.2.length ≤ 4) := fun p hp => postB_len (book_goodL hbk p hp)
    clear hb1 CO
    go_wp2
    go_loopw [5, 15] (fun ov iv wr => ∃ (k : Nat) (a' : Option Addr) (m' c' : Nat), k ≤ n ∧ iv = .int .i64 k ∧ ov = .slice a' m' c' ∧ m' ≤ 4 * k ∧ LinIn w.heap.size wr a' m' c' (linB acct (B.take k)) ∧ Below w.heap.size w wr) (fun _ iv _ => n - (intOf iv).toNat)
    case atStart => exact ⟨0, none, 0, 0, Nat.zero_le _, rfl, rfl, by omega, lin_nil _ _, K1.out⟩
    case round =>
      clear K1
      obtain ⟨k, a0, m0, c0, hk, rfl, rfl, hm0, hl0, hb0⟩ := hrel
      have HL0 : Hid (LinIn w.heap.size wr a0 m0 c0 (linB acct (B.take k))) := hl0
      have HB0 : Hid (Below w.heap.size w wr) := hb0
      by_cases hkn : k < n
      · have hkI : (k : Int) < (n : Int) := by omega
        obtain ⟨id, L, s, m, cm, hgk, hidw, g0, g1, hL0⟩ := HP.out.post (Below.refl _ w) k hkn
        have HGK : Hid (B[k]? = some (id, L)) := hgk
        have HLW : Hid (LegsAt w s m cm L) := hL0
        have g0 := cell_later hb0 g0
        have g1 := cell_later hb0 g1
        have hbw : b < wr.heap.size := Nat.lt_of_lt_of_le HBB.out hb0.size
        have hm4 : m ≤ 4 := by have := HL4.out (id, L) (List.mem_of_getElem? hgk); have := hL0.length; simp only at *; omega
        have HML : Hid (L.length = m) := hL0.length
        have hmr := hL0.room
        have hmb := hL0.big
        unfold maxLen at hmb
        obtain ⟨P, hPe⟩ : ∃ P, P = wr.heap.size := ⟨_, rfl⟩
        obtain ⟨W0, hW0⟩ : ∃ W0, W0 = wr.alloc (.cells #[.int .i64 id, .slice s m cm] 43) := ⟨_, rfl⟩
        have kp : Below wr.heap.size wr W0 := by rw [hW0]; exact (Below.refl _ _).alloc (Nat.le_refl _) _
        have HP0 : Hid (W0.cell? ⟨P, 0, none⟩ = some (.int .i64 id) ∧ W0.cell? ⟨P, 1, none⟩ = some (.slice s m cm) ∧ P < W0.heap.size) := ⟨by rw [hW0, hPe]; simp, by rw [hW0, hPe]; simp, by rw [hW0, hPe]; simp⟩
        have HLP : Hid (LinIn w.heap.size W0 a0 m0 c0 (linB acct (B.take k))) := hl0.below kp
        have HNP : Hid (∀ x, (Value.slice a0 m0 c0).ownBlock = some x → x ≠ P) := fun x e h => by have := (hl0.1.lt x e).2; omega
        have KP : Hid (Below w.heap.size w W0) := hb0.trans (kp.mono hb0.size)
        have HPW : Hid (w.heap.size ≤ P) := by show _ ≤ _; rw [hPe]; exact hb0.size
        clear hgk hL0 hidw hl0 hb0 kp HL0 HB0
        go_upto_region 7 with fail
        rw [← hPe, ← hW0]
        clear hPe hW0 g0 g1 hbw
        have p1 := HP0.out.2.1
        have pz := HP0.out.2.2
        go_wp2
        clear p1 pz
        go_loopw [5, 22] (fun ov iv wv => ∃ (q : Nat) (a' : Option Addr) (m' c' : Nat), q ≤ m ∧ iv = .int .i64 q ∧ ov = .slice a' m' c' ∧ m' ≤ 4 * k + q ∧ LinIn w.heap.size wv a' m' c' (linB acct (B.take k) ++ legL id acct (L.take q)) ∧ (wv.cell? ⟨P, 0, none⟩ = some (.int .i64 id) ∧ P < wv.heap.size) ∧ (∀ x, (Value.slice a' m' c').ownBlock = some x → x ≠ P) ∧ Below w.heap.size w wv) (fun _ iv _ => m - (intOf iv).toNat)
        case atStart => exact ⟨0, _, _, _, Nat.zero_le _, rfl, rfl, by omega, by simpa [legL] using HLP.out, ⟨HP0.out.1, HP0.out.2.2⟩, HNP.out, KP.out⟩
        case round =>
          clear HLP HNP KP HP0
          obtain ⟨q, a', m', c', hq, rfl, rfl, hm', hl', ⟨hp0, hpz⟩, hnp, hb'⟩ := hrel
          have HB' : Hid (Below w.heap.size w wr) := hb'
          by_cases hqm : q < m
          · have hqI : (q : Int) < (m : Int) := by omega
            obtain ⟨lb, lo, rfl, hlb⟩ := HLW.out.form (by omega)
            obtain ⟨t, cu, nn, hgq, hlw, l0, l1, l2⟩ := HLW.out.leg hb' hlb q hqm
            have hlbw : lb < wr.heap.size := Nat.lt_of_lt_of_le hlb hb'.size
            have HGQ : Hid (L[q]? = some (t, cu, nn)) := hgq
            obtain ⟨X, hX⟩ : ∃ X, X = wr.heap.size := ⟨_, rfl⟩
            obtain ⟨W1, hW1⟩ : ∃ W1, W1 = wr.alloc (.cells #[.string t, .int .i64 cu, .int .i64 nn] 52) := ⟨_, rfl⟩
            have kx : Below wr.heap.size wr W1 := by rw [hW1]; exact (Below.refl _ _).alloc (Nat.le_refl _) _
            have x0 : W1.cell? ⟨X, 0, none⟩ = some (.string t) := by rw [hW1, hX]; simp
            have x1 : W1.cell? ⟨X, 1, none⟩ = some (.int .i64 cu) := by rw [hW1, hX]; simp
            have x2 : W1.cell? ⟨X, 2, none⟩ = some (.int .i64 nn) := by rw [hW1, hX]; simp
            have xz : X < W1.heap.size := by rw [hW1, hX]; simp
            have p0 := cell_later kx hp0
            have pz := Nat.lt_of_lt_of_le hpz kx.size
            obtain ⟨F, hF⟩ : ∃ F, F = linB acct (B.take k) ++ legL id acct (L.take q) := ⟨_, rfl⟩
            have HF : Hid (F = linB acct (B.take k) ++ legL id acct (L.take q)) := hF
            have HL : Hid (LinIn w.heap.size W1 a' m' c' F) := by rw [hF]; exact hl'.below kx
            have HFL : Hid (F.length = m' * 3) := HL.out.2
            have HNP : Hid (∀ x, (Value.slice a' m' c').ownBlock = some x → x ≠ P) := hnp
            have HKW1 : Hid (Below w.heap.size w W1) := HB'.out.trans (kx.mono HB'.out.size)
            have HP1 : Hid (W1.cell? ⟨P, 0, none⟩ = some (.int .i64 id) ∧ P < W1.heap.size) := ⟨p0, pz⟩
            clear hl' hb' hgq hlw kx hF hnp hp0 hpz
            go_upto_region 10 with fail
            rw [← hX, ← hW1]
            clear hX hW1 l0 l1 l2
            cases he : (t.toList == acct.toList) with
            | true =>
              have HEQ : Hid ((t.toList == acct.toList) = true) := he
              have het : t.toList = acct.toList := by simpa using he
              have ka : Below W1.heap.size W1 (W1.alloc (.cells #[.int .i64 id, .int .i64 cu, .int .i64 nn] 69)) := (Below.refl _ _).alloc (Nat.le_refl _) _
              have hcn := cell_three_newL W1 (.int .i64 id) (.int .i64 cu) (.int .i64 nn) 69
              have HCN : Hid _ := hcn
              have HA : Hid (LinIn w.heap.size (W1.alloc (.cells #[.int .i64 id, .int .i64 cu, .int .i64 nn] 69)) a' m' c' F) := HL.out.below ka
              have KA : Hid (Below w.heap.size w (W1.alloc (.cells #[.int .i64 id, .int .i64 cu, .int .i64 nn] 69))) := HKW1.out.trans (ka.mono HKW1.out.size)
              have HPA : Hid ((W1.alloc (.cells #[.int .i64 id, .int .i64 cu, .int .i64 nn] 69)).cell? ⟨P, 0, none⟩ = some (.int .i64 id) ∧ P < (W1.alloc (.cells #[.int .i64 id, .int .i64 cu, .int .i64 nn] 69)).heap.size) := ⟨cell_later ka HP1.out.1, Nat.lt_of_lt_of_le HP1.out.2 ka.size⟩
              clear ka hcn
              go_wp2_with (at_builtin; refine wpList_append_own_at _ rfl _ _ 29 rfl w.heap.size 69 i0 _ 3 24 Tryd.underlying29 hi hz0 hz1 hz2 rfl (by decide) _ _ _ rfl HA.out.1 ⟨W1.heap.size, 0, none⟩ 1 1 [.int .i64 id, .int .i64 cu, .int .i64 nn] rfl rfl HCN.out (by intro u hu; simp at hu; rcases hu with rfl | rfl | rfl <;> rfl) (by unfold maxLen; omega) (by omega) KA.out.size ?_; intro v5 w5 ho5 hg5 hn5 hat5)
              obtain ⟨a5, c5, rfl⟩ := lin_slice ho5
              have H5 : Hid (LinIn w.heap.size w5 a5 (m' + 1) c5 (linB acct (B.take k) ++ legL id acct (L.take (q + 1)))) := by
                show LinIn _ _ _ _ _ _
                rw [legL_yes HGQ.out HEQ.out, ← List.append_assoc, ← HF.out]
                exact ⟨by simpa using ho5, by rw [List.length_append, HFL.out]; simp; omega⟩
              have K5 : Hid (Below w.heap.size w w5) := KA.out.grown hg5 KA.out.size (fun x e => (HA.out.1.lt x e).1)
              have HP5 : Hid (w5.cell? ⟨P, 0, none⟩ = some (.int .i64 id) ∧ P < w5.heap.size) := ⟨hg5.cell HPA.out.1 (fun e => HNP.out _ e.symm rfl), Nat.lt_of_lt_of_le HPA.out.2 hg5.size⟩
              have HN5 : Hid (∀ x, (Value.slice a5 (m' + 1) c5).ownBlock = some x → x ≠ P) := fun x e h => by
                rcases hat5 with h5 | h5
                · exact HNP.out x (h5.symm.trans e) h
                · have h6 := Option.some.inj (e.symm.trans h5)
                  have h7 := HPA.out.2
                  omega
              clear ho5 hg5 hn5 hat5
              go_roundw
              case rel => exact ⟨q + 1, a5, m' + 1, c5, by omega, by go_num, rfl, by omega, H5.out, HP5.out, HN5.out, K5.out⟩
              case measure => simp [intOf]; omega
            | false =>
              have HEQ : Hid ((t.toList == acct.toList) = false) := he
              have het : ¬ t.toList = acct.toList := by simpa using he
              have HN : Hid (LinIn w.heap.size W1 a' m' c' (linB acct (B.take k) ++ legL id acct (L.take (q + 1)))) := by
                show LinIn _ _ _ _ _ _
                rw [legL_no HGQ.out HEQ.out, ← HF.out]
                exact HL.out
              go_wp2
              go_roundw
              case rel => exact ⟨q + 1, a', m', c', by omega, by go_num, rfl, by omega, HN.out, HP1.out, HNP.out, HKW1.out⟩
              case measure => simp [intOf]; omega
          · have hqI : ¬ (q : Int) < (m : Int) := by omega
            have HR : Hid (LinIn w.heap.size wr a' m' c' (linB acct (B.take (k + 1)))) := by
              show LinIn _ _ _ _ _ _
              rw [linB_snoc HGK.out]
              have : L.take q = L := List.take_of_length_le (by rw [HML.out]; omega)
              rw [this] at hl'
              exact hl'
            clear hl' hb' hp0 hpz hnp
            go_wp2
            go_roundw
            case rel => exact ⟨k + 1, a', m', c', by omega, by go_num, rfl, by omega, HR.out, HB'.out⟩
            case measure => simp [intOf]; omega
      · have hkI : ¬ (k : Int) < (n : Int) := by omega
        have HR : Hid (LinIn w.heap.size wr a0 m0 c0 (linO acct B)) := by
          show LinIn _ _ _ _ _ _
          unfold linO
          rw [if_pos hbk]
          have : B.take k = B := List.take_of_length_le (by rw [HLEN.out]; omega)
          rw [← this]
          exact HL0.out
        clear hl0 hb0
        go_wp2
        go_ret
        exact (show LinR _ _ _ _ from ⟨_, _, _, rfl, by omega, HR.out, HB0.out⟩)

end Go.Proofs.YtoegpdinokjbmaaDoor
