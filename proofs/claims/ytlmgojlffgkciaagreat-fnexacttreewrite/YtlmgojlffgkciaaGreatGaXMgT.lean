/-
  The program's stretchesOf: the parts of a list that stand in order, yielded from the first on; by walks of its Go text.
-/
import Derived.Test.YtlmgojlffgkciaaGreatGa08
import Derived.Test.YtlmgojlffgkciaaGreatGaXMgV
import Derived.Test.YtlmgojlffgkciaaGreatGa13
import Derived.Test.YtlmgojlffgkciaaGreatGa01
namespace Go.Proofs.YtlmgojlffgkciaaGreat
set_option maxRecDepth 100000
set_option maxHeartbeats 4000000
open Go.RowKit Go.Shelf
attribute [local go_sem] Oper.semAt_some
def encS (b off cap : Nat) {n : Nat} (p : StrS n) : Array Value := #[Value.slice (some ⟨b, off + p.1.1 * 5, none⟩) (p.1.2 - p.1.1) (cap - p.1.1)]
theorem stretch1_in (n l B1 : Nat) (K : Nat → Prop) (hn : 2 ≤ n) (b off : Nat) (al : Option Addr) (len cap : Nat) (hal : 1 ≤ len → al = some ⟨b, off, none⟩) (L : List EntD) (J Jx : List (StrS len) → World → Prop) (W : World)
    (hY : ∀ pre (x : StrS len) W1, J pre W1 → pre.length < len → YieldAt Fence.wide (n - 1) Tryz.prog l (encS b off cap x) W1 fun e W' =>
      (e = .returned (.bool true) ∧ J (pre ++ [x]) W' ∧ KeepS K W1 W') ∨ (e = .returned (.bool false) ∧ Jx (pre ++ [x]) W'))
    (hJ : AbidesFrom W.heap.size J)
    (hK1 : K B1) (hKb : 1 ≤ len → K b) (hKs : ∀ k, K k → k < W.heap.size)
    (hp1 : W.cell? ⟨B1, 0, none⟩ = some (.slice al len cap))
    (hL : EntsAt W al len cap L) (hlen : len ≤ 1048576) (h0 : J [] W) :
    CallsIn Fence.wide n Tryz.prog 159 #[.func (.yield l) #[] #[], .pointer (some ⟨B1, 0, none⟩)] W fun e W' => (∃ v, e = .returned v) ∧
      ((∃ ys, AllS L ys ∧ J ys W') ∨ (∃ pre : List (StrS len), True ∧ Jx pre W')) := by
  have HLEN : Hid (L.length = len) := hL.length
  have hroom := hL.room
  have hbig := hL.big
  unfold maxLen at hbig
  have HKZ : Hid (∀ k, K k → k < W.heap.size) := hKs
  have HLK : Hid (∀ w', KeepS K W w' → EntsAt w' al len cap L) := fun w' k => hL.keepS k (fun x e hp => by rw [hal (by omega)] at e; cases e; exact hKb (by omega))
  have HJ : Hid (AbidesFrom W.heap.size J) := hJ
  have HP1 : Hid (∀ w', KeepS K W w' → w'.cell? ⟨B1, 0, none⟩ = some (.slice al len cap)) := fun w' k => (k.cell (p := ⟨B1, 0, none⟩) hK1).trans hp1
  have HBW : Hid (1 ≤ len → b < W.heap.size) := fun h => hKs b (hKb h)
  have hn1 : 1 ≤ n := by omega
  have hB1W := hKs B1 hK1
  clear hL hKs hJ hKb hp1
  refine callsIn_of_wp Tryz.func159 rfl trivial ?_ rfl
  simp only [Tryz.ntmps159, List.size_toArray, List.length_cons, List.length_nil, Nat.reduceAdd, Nat.reduceSub, Array.replicate_succ, Array.replicate_zero, List.push_toArray, List.append_toArray, List.nil_append, List.cons_append]
  gi_wp2
  gi_loopw [3] (fun tv wr => ∃ (f : Nat) (pre : List (StrS len)), f ≤ len ∧ tv = .int .i64 (f : Nat) ∧ J pre wr ∧ KeepS K W wr ∧ pre.length ≤ f ∧ UpS L f pre) (fun tv _ => len - (intOf tv).toNat)
  case atStart => exact ⟨0, [], by omega, rfl, h0, KeepS.refl _ _, by simp, UpS.zero L⟩
  case round =>
    obtain ⟨f, pre, hf, rfl, hJs, hb, hpl, hpt⟩ := hrel
    have HKO : Hid (KeepS K W wr) := hb
    have HPT : Hid (UpS L f pre) := hpt
    have HJO : Hid (J pre wr) := hJs
    have c0 := HP1.out wr hb
    have hsz0 := hb.size
    clear hb hpt hJs
    by_cases ht0 : f = len
    · have HAC : Hid (AllS L pre) := by
        have := HPT.out
        rw [ht0] at this
        exact this.done HLEN.out
      have hnl : ¬ (f : Int) < (len : Int) := by omega
      clear ht0
      gi_wp2
      go_end0
      exact ⟨⟨_, rfl⟩, .inl ⟨pre, HAC.out, HJO.out⟩⟩
    · have htI : (f : Int) < (len : Int) := by omega
      have htN : f < len := by omega
      obtain rfl := hal (by omega)
      have wt : IntKind.i64.wrap ((f : Int) + 1) = ((f + 1 : Nat) : Int) := by
        have e : ((f + 1 : Nat) : Int) = (f : Int) + 1 := by omega
        rw [e, IntWalk.i64_left]; unfold wrap64; omega
      have hbW := HBW.out (by omega)
      gi_wp2
      clear c0
      gi_loopw [4] (fun fv wq => ∃ up : Nat, f < up ∧ up ≤ len ∧ fv = .int .i64 (up : Nat) ∧ J pre wq ∧ KeepS K W wq ∧ Mg.Asc lessE ((L.drop f).take (up - f))) (fun fv _ => len - (intOf fv).toNat)
      case atStart => exact ⟨f + 1, by omega, by omega, by first | rfl | go_num, HJO.out, HKO.out, asc_one L f⟩
      case round =>
        clear HKO HJO wt
        obtain ⟨up, hft, hto, rfl, hJs, hks, hch⟩ := hrel
        have HKS : Hid (KeepS K W wr) := hks
        have HJR : Hid (J pre wr) := hJs
        have HCH : Hid (Mg.Asc lessE ((L.drop f).take (up - f))) := hch
        clear hks hJs hch
        have hsz := HKS.out.size
        have k0 : Below wr.heap.size wr wr.drew := (Below.refl _ wr).drew
        have c1 := HP1.out wr HKS.out
        by_cases hf0 : up = len
        · have hnl : ¬ (up : Int) < (len : Int) := by omega
          have hnd : decide ((up : Int) < (len : Int)) = false := decide_eq_false hnl
          have hnn : ¬ up < len := by omega
          have hne : decide (up < len) = false := decide_eq_false hnn
          have HUP : Hid (up = len) := hf0
          clear hf0
          have HMK : Hid (∀ w', Below wr.heap.size wr w' → (w'.cell? ⟨B1, 0, none⟩ = some (.slice (some ⟨b, off, none⟩) len cap))) := fun w' kk => cell_later kk c1
          gi_wp2_with fail
          refine wpIn_wide.2 ?_
          refine wp_region_held_drew (S := (fun w' => w'.cell? ⟨B1, 0, none⟩ = some (.slice (some ⟨b, off, none⟩) len cap))) (by kernel_rfl) (HMK.out _ k0) (fun hHeld => ?_)
          refine tkL 0 hHeld ?_; try go_frame
          refine tkL 1 hHeld ?_; try go_frame
          refine tkL 2 hHeld ?_; try go_frame
          refine tkL 3 hHeld ?_; try go_frame
          refine tkL 4 hHeld ?_; try go_frame
          refine tkN 5 hHeld ?_; try go_frame
          refine tkN 6 hHeld ?_; try go_frame
          refine tkN 7 hHeld ?_; try go_frame
          refine tkN 8 hHeld ?_; try go_frame
          refine tkN 9 hHeld ?_; try go_frame
          refine tkN 10 hHeld ?_; try go_frame
          refine tkN 11 hHeld ?_; try go_frame
          refine tkN 12 hHeld ?_; try go_frame
          refine tkN 13 hHeld ?_; try go_frame
          refine wpAnyH_ready (rs := [14]) (by kernel_rfl) (by simp) ?_
          refine consL rfl (fun K hK => ?_) AllReadyH.nil
          go_simp
          refine hK.out _ _ (HMK.out _ k0) (fun hHeld => ?_)
          clear hK K
          try go_frame
          refine tkN 15 hHeld ?_; try go_frame
          refine tkL 16 hHeld ?_; try go_frame
          refine wpAnyH_done (by kernel_rfl) ?_ _
          clear HMK hHeld
          have hK2 : KeepS K wr wr.drew := KeepS.of k0 (fun k hk => Nat.lt_of_lt_of_le (HKZ.out k hk) hsz)
          have HKS2 : Hid (KeepS K W wr.drew) := HKS.out.trans hK2
          have HJ2 : Hid (J pre wr.drew) := HJ.out _ _ _ none HJR.out (grown_none k0) (fun r e => by cases e)
          obtain ⟨w1, hw1⟩ : ∃ w1, w1 = wr.drew := ⟨_, rfl⟩
          rw [← hw1] at HKS2 HJ2 ⊢
          clear hK2 k0 hw1 c1 HKS HJR hnl hnd hnn hne
          have c1 := HP1.out w1 HKS2.out
          have hsz1 := HKS2.out.size
          have HUS : Hid (UpS L up (pre ++ [⟨(f, up), hft, hto⟩])) := HPT.out.step HLEN.out hft hto HCH.out
          have hff : (f : Int) ≤ (up : Int) := by omega
          have hfz : (0 : Int) ≤ (f : Int) := by omega
          have htc : (up : Int) ≤ (cap : Int) := by omega
          have hci : ¬ cap - f = 0 := by omega
          obtain ⟨fn, tmps, assign, body, hy, hR⟩ := hY pre ⟨(f, up), hft, hto⟩ w1 HJ2.out (by omega)
          simp only [encS] at hy
          clear HCH HJ2
          gi_wp2
          refine hR.mono ?_
          rintro e W3 (⟨rfl, hJ3, hk3⟩ | ⟨rfl, hJx3⟩)
          · have HK3 : Hid (KeepS K W W3) := HKS2.out.trans hk3
            have HJ3 : Hid (J (pre ++ [⟨(f, up), hft, hto⟩]) W3) := hJ3
            clear hk3 hJ3
            gi_wp2
            go_roundw
            case rel => exact ⟨up, pre ++ [⟨(f, up), hft, hto⟩], hto, by first | rfl | go_num, HJ3.out, HK3.out, by simp; omega, HUS.out⟩
            case measure => simp [intOf]; omega
          · gi_wp2
            refine bodyPost_ret (results_none rfl _ _ _) rfl ?_
            exact ⟨⟨_, rfl⟩, .inr ⟨_, trivial, hJx3⟩⟩
        · obtain ⟨g, hg⟩ : ∃ g, up = g + 1 := ⟨up - 1, by omega⟩
          have hfI : (up : Int) < (len : Int) := by omega
          have hfd : decide ((up : Int) < (len : Int)) = true := decide_eq_true hfI
          have hfn : up < len := by omega
          have hfe : decide (up < len) = true := decide_eq_true hfn
          have wf : IntKind.i64.wrap ((up : Int) - 1) = (g : Int) := by
            have e : (up : Int) - 1 = (g : Int) := by omega
            rw [e, IntWalk.i64_left]; unfold wrap64; omega
          have hf1L : (g : Int) < (len : Int) := by omega
          obtain ⟨s, q, d, t, m, hx, _, g0, g1, g2, g3, g4⟩ := (HLK.out wr HKS.out).ent (Below.refl _ wr) (by omega) up (by omega)
          obtain ⟨s', q', d', t', m', hy, _, e0, e1, e2, e3, e4⟩ := (HLK.out wr HKS.out).ent (Below.refl _ wr) (by omega) g (by omega)
          have HX : Hid (L[up]? = some (s, q, d, t, m)) := hx
          have HY : Hid (L[g]? = some (s', q', d', t', m')) := hy
          have HFG : Hid (up = g + 1) := hg
          clear hg hf0
          have zb : b < wr.heap.size := by omega
          have HMK : Hid (∀ w', Below wr.heap.size wr w' → (w'.cell? ⟨B1, 0, none⟩ = some (.slice (some ⟨b, off, none⟩) len cap) ∧ w'.cell? ⟨b, off + up * 5, none⟩ = some (.string s) ∧ w'.cell? ⟨b, off + up * 5 + 1, none⟩ = some (.int .i64 q) ∧ w'.cell? ⟨b, off + up * 5 + 2, none⟩ = some (.int .i64 d) ∧ w'.cell? ⟨b, off + up * 5 + 3, none⟩ = some (.string t) ∧ w'.cell? ⟨b, off + up * 5 + 4, none⟩ = some (.int .i64 m) ∧ w'.cell? ⟨b, off + g * 5, none⟩ = some (.string s') ∧ w'.cell? ⟨b, off + g * 5 + 1, none⟩ = some (.int .i64 q') ∧ w'.cell? ⟨b, off + g * 5 + 2, none⟩ = some (.int .i64 d') ∧ w'.cell? ⟨b, off + g * 5 + 3, none⟩ = some (.string t') ∧ w'.cell? ⟨b, off + g * 5 + 4, none⟩ = some (.int .i64 m') ∧ b < w'.heap.size)) := fun w' kk => ⟨cell_later kk c1, cell_later kk g0, cell_later kk g1, cell_later kk g2, cell_later kk g3, cell_later kk g4, cell_later kk e0, cell_later kk e1, cell_later kk e2, cell_later kk e3, cell_later kk e4, Nat.lt_of_lt_of_le zb kk.size⟩
          clear hx hy g0 g1 g2 g3 g4 e0 e1 e2 e3 e4 c1
          cases hap : lessB s q s' q' with
          | false =>
            gi_wp2_with fail
            refine wpIn_wide.2 ?_
            refine wp_region_held_drew (S := (fun w' => w'.cell? ⟨B1, 0, none⟩ = some (.slice (some ⟨b, off, none⟩) len cap) ∧ w'.cell? ⟨b, off + up * 5, none⟩ = some (.string s) ∧ w'.cell? ⟨b, off + up * 5 + 1, none⟩ = some (.int .i64 q) ∧ w'.cell? ⟨b, off + up * 5 + 2, none⟩ = some (.int .i64 d) ∧ w'.cell? ⟨b, off + up * 5 + 3, none⟩ = some (.string t) ∧ w'.cell? ⟨b, off + up * 5 + 4, none⟩ = some (.int .i64 m) ∧ w'.cell? ⟨b, off + g * 5, none⟩ = some (.string s') ∧ w'.cell? ⟨b, off + g * 5 + 1, none⟩ = some (.int .i64 q') ∧ w'.cell? ⟨b, off + g * 5 + 2, none⟩ = some (.int .i64 d') ∧ w'.cell? ⟨b, off + g * 5 + 3, none⟩ = some (.string t') ∧ w'.cell? ⟨b, off + g * 5 + 4, none⟩ = some (.int .i64 m') ∧ b < w'.heap.size)) (by kernel_rfl) (HMK.out _ k0) (fun hHeld => ?_)
            refine tkL 0 hHeld ?_; try go_frame
            refine tkL 1 hHeld ?_; try go_frame
            refine tkL 2 hHeld ?_; try go_frame
            refine tkL 3 hHeld ?_; try go_frame
            refine tkL 4 hHeld ?_; try go_frame
            refine tkL 5 hHeld ?_; try go_frame
            refine tkL 6 hHeld ?_; try go_frame
            refine tkL 7 hHeld ?_; try go_frame
            refine tkL 8 hHeld ?_; try go_frame
            refine tkL 9 hHeld ?_; try go_frame
            refine tkL 10 hHeld ?_; try go_frame
            refine tkL 11 hHeld ?_; try go_frame
            refine tkL 12 hHeld ?_; try go_frame
            refine tkL 13 hHeld ?_; try go_frame
            refine wpAnyH_ready (rs := [14]) (by kernel_rfl) (by simp) ?_
            refine consL rfl (fun K hK => ?_) AllReadyH.nil
            go_simp
            refine (implLess s t s' t' q d m q' d' m' _).mono ?_
            rintro e w1 ⟨rfl, b1⟩
            have k1 : Below wr.heap.size wr w1 := k0.trans (b1.mono k0.size)
            go_wp2_with fail
            refine hK.out _ _ (HMK.out _ k1) (fun hHeld => ?_)
            clear hK K
            try go_frame
            refine tkL 15 hHeld ?_; try go_frame
            refine tkL 16 hHeld ?_; try go_frame
            refine wpAnyH_done (by kernel_rfl) ?_ _
            clear HMK hHeld
            have hK2 : KeepS K wr w1 := KeepS.of k1 (fun k hk => Nat.lt_of_lt_of_le (HKZ.out k hk) hsz)
            have HKS2 : Hid (KeepS K W w1) := HKS.out.trans hK2
            have HJ2 : Hid (J pre w1) := HJ.out _ _ _ none HJR.out (grown_none k1) (fun r e => by cases e)
            have wu : IntKind.i64.wrap ((up : Int) + 1) = ((up + 1 : Nat) : Int) := by
              have e : ((up + 1 : Nat) : Int) = (up : Int) + 1 := by omega
              rw [e, IntWalk.i64_left]; unfold wrap64; omega
            clear hK2 k0 k1 b1 HKS HJR
            gi_wp2
            go_roundw
            case rel =>
              have hfg := HFG.out
              exact ⟨up + 1, by omega, by omega, by first | rfl | go_num, HJ2.out, HKS2.out, asc_more hft (x := (s', q', d', t', m')) (by rw [show up - 1 = g by omega]; exact HY.out) HX.out HCH.out hap⟩
            case measure => simp [intOf]; omega
          | true =>
            gi_wp2_with fail
            refine wpIn_wide.2 ?_
            refine wp_region_held_drew (S := (fun w' => w'.cell? ⟨B1, 0, none⟩ = some (.slice (some ⟨b, off, none⟩) len cap) ∧ w'.cell? ⟨b, off + up * 5, none⟩ = some (.string s) ∧ w'.cell? ⟨b, off + up * 5 + 1, none⟩ = some (.int .i64 q) ∧ w'.cell? ⟨b, off + up * 5 + 2, none⟩ = some (.int .i64 d) ∧ w'.cell? ⟨b, off + up * 5 + 3, none⟩ = some (.string t) ∧ w'.cell? ⟨b, off + up * 5 + 4, none⟩ = some (.int .i64 m) ∧ w'.cell? ⟨b, off + g * 5, none⟩ = some (.string s') ∧ w'.cell? ⟨b, off + g * 5 + 1, none⟩ = some (.int .i64 q') ∧ w'.cell? ⟨b, off + g * 5 + 2, none⟩ = some (.int .i64 d') ∧ w'.cell? ⟨b, off + g * 5 + 3, none⟩ = some (.string t') ∧ w'.cell? ⟨b, off + g * 5 + 4, none⟩ = some (.int .i64 m') ∧ b < w'.heap.size)) (by kernel_rfl) (HMK.out _ k0) (fun hHeld => ?_)
            refine tkL 0 hHeld ?_; try go_frame
            refine tkL 1 hHeld ?_; try go_frame
            refine tkL 2 hHeld ?_; try go_frame
            refine tkL 3 hHeld ?_; try go_frame
            refine tkL 4 hHeld ?_; try go_frame
            refine tkL 5 hHeld ?_; try go_frame
            refine tkL 6 hHeld ?_; try go_frame
            refine tkL 7 hHeld ?_; try go_frame
            refine tkL 8 hHeld ?_; try go_frame
            refine tkL 9 hHeld ?_; try go_frame
            refine tkL 10 hHeld ?_; try go_frame
            refine tkL 11 hHeld ?_; try go_frame
            refine tkL 12 hHeld ?_; try go_frame
            refine tkL 13 hHeld ?_; try go_frame
            refine wpAnyH_ready (rs := [14]) (by kernel_rfl) (by simp) ?_
            refine consL rfl (fun K hK => ?_) AllReadyH.nil
            go_simp
            refine (implLess s t s' t' q d m q' d' m' _).mono ?_
            rintro e w1 ⟨rfl, b1⟩
            have k1 : Below wr.heap.size wr w1 := k0.trans (b1.mono k0.size)
            go_wp2_with fail
            refine hK.out _ _ (HMK.out _ k1) (fun hHeld => ?_)
            clear hK K
            try go_frame
            refine tkL 15 hHeld ?_; try go_frame
            refine tkL 16 hHeld ?_; try go_frame
            refine wpAnyH_done (by kernel_rfl) ?_ _
            clear HMK hHeld
            have hK2 : KeepS K wr w1 := KeepS.of k1 (fun k hk => Nat.lt_of_lt_of_le (HKZ.out k hk) hsz)
            have HKS2 : Hid (KeepS K W w1) := HKS.out.trans hK2
            have HJ2 : Hid (J pre w1) := HJ.out _ _ _ none HJR.out (grown_none k1) (fun r e => by cases e)
            clear hK2 k0 k1 b1 HKS HJR HX HY hap hfd hfe
            have c1 := HP1.out w1 HKS2.out
            have hsz1 := HKS2.out.size
            have HUS : Hid (UpS L up (pre ++ [⟨(f, up), hft, hto⟩])) := HPT.out.step HLEN.out hft hto HCH.out
            have hff : (f : Int) ≤ (up : Int) := by omega
            have hfz : (0 : Int) ≤ (f : Int) := by omega
            have htc : (up : Int) ≤ (cap : Int) := by omega
            have hci : ¬ cap - f = 0 := by omega
            obtain ⟨fn, tmps, assign, body, hy, hR⟩ := hY pre ⟨(f, up), hft, hto⟩ w1 HJ2.out (by omega)
            simp only [encS] at hy
            clear HCH HJ2
            gi_wp2
            refine hR.mono ?_
            rintro e W3 (⟨rfl, hJ3, hk3⟩ | ⟨rfl, hJx3⟩)
            · have HK3 : Hid (KeepS K W W3) := HKS2.out.trans hk3
              have HJ3 : Hid (J (pre ++ [⟨(f, up), hft, hto⟩]) W3) := hJ3
              clear hk3 hJ3
              gi_wp2
              go_roundw
              case rel => exact ⟨up, pre ++ [⟨(f, up), hft, hto⟩], hto, by first | rfl | go_num, HJ3.out, HK3.out, by simp; omega, HUS.out⟩
              case measure => simp [intOf]; omega
            · gi_wp2
              refine bodyPost_ret (results_none rfl _ _ _) rfl ?_
              exact ⟨⟨_, rfl⟩, .inr ⟨_, trivial, hJx3⟩⟩
theorem stretch_stops (n B1 : Nat) (K : Nat → Prop) (hn : 2 ≤ n) (b off : Nat) (al : Option Addr) (len cap : Nat) (hal : 1 ≤ len → al = some ⟨b, off, none⟩) (L : List EntD) (w : World)
    (hK1 : K B1) (hKb : 1 ≤ len → K b) (hKs : ∀ k, K k → k < w.heap.size)
    (hp1 : w.cell? ⟨B1, 0, none⟩ = some (.slice al len cap)) (hL : EntsAt w al len cap L) (hlen : len ≤ 1048576) :
    SeqStopsK Fence.wide n Tryz.prog 159 #[.pointer (some ⟨B1, 0, none⟩)] (fun x : StrS len => encS b off cap x) (KeepS K) (fun ys => AllS L ys) (fun _ => True) len w :=
  fun l J Jx W hW hJ _ hY h0 => stretch1_in n l B1 K hn b off al len cap hal L J Jx W hY hJ hK1 hKb (fun k hk => Nat.lt_of_lt_of_le (hKs k hk) hW.size) (cell_later hW hp1) (hL.keep hW) hlen h0
theorem stretchesOf_in (n : Nat) (al : Option Addr) (len cap : Nat) (w : World) :
    CallsIn Fence.wide n Tryz.prog 107 #[.slice al len cap] w fun e w' => e = .returned (.func (.func 159) #[] #[.pointer (some ⟨w.heap.size, 0, none⟩)]) ∧ w' = w.alloc (.cells #[.slice al len cap] 28) := by
  refine callsIn_of_wp Tryz.func107 rfl trivial ?_ rfl
  simp only [Tryz.ntmps107, List.size_toArray, List.length_cons, List.length_nil, Nat.reduceAdd, Nat.reduceSub, Array.replicate_succ, Array.replicate_zero, List.push_toArray, List.append_toArray, List.nil_append, List.cons_append]
  gi_wp2
  go_ret
  exact ⟨rfl, rfl⟩
end Go.Proofs.YtlmgojlffgkciaaGreat
