/-
  The walk of the law FnSquashFew: it answers true at all bytes: few entries are left, and where nothing stands beneath the oldest of a key is a put.
-/
import Derived.Test.YthhiahjafhkbbaaSqX
import Derived.Test.YthhiahjafhkbbaaSqG
import Derived.Test.YthhiahjafhkbbaaSqN
import Derived.Test.YthhiahjafhkbbaaDrawSq
import Derived.Test.YthhiahjafhkbbaaWpEnts
namespace Go.Proofs.Ythhiahjafhkbbaa
open Go.RowKit

/-- What lies where. -/
structure FqSt (w wi : World) (g n c gt nt ct : Nat) (ag : Option Addr) (ng cg : Nat) (L : List EntD) (T : List Int) (F : List EntD) : Prop where
  all : Below w.heap.size w wi
  ol : OwnE wi w.heap.size g n c L
  ot : OwnN wi w.heap.size gt nt ct T
  og : OwnO wi w.heap.size ag ng cg F
theorem FqSt.below {w wi wj : World} {g n c gt nt ct : Nat} {ag : Option Addr} {ng cg : Nat} {L : List EntD} {T : List Int} {F : List EntD} (h : FqSt w wi g n c gt nt ct ag ng cg L T F) (hb : Below wi.heap.size wi wj) : FqSt w wj g n c gt nt ct ag ng cg L T F :=
  ⟨h.all.trans (hb.mono h.all.size), h.ol.below hb, h.ot.below hb, h.og.below hb⟩

def keysN (L : List EntD) (i : Nat) : Nat := (Sq.parts keyEq (L.take i)).length
theorem keysN_zero (L : List EntD) : keysN L 0 = 0 := rfl
theorem keysN_first {L : List EntD} {e : EntD} (h : L[0]? = some e) : keysN L 1 = 1 := by
  match L, h with
  | x :: R, _ => rfl
theorem keysN_step {L : List EntD} {i p : Nat} {e x : EntD} (hi : i = p + 1) (he : L[i]? = some e) (hx : L[p]? = some x) : keysN L (i + 1) = keysN L i + (if x.1 = e.1 then 0 else 1) := by
  unfold keysN
  obtain ⟨hil, hie⟩ := List.getElem?_eq_some_iff.1 he
  rw [List.take_add_one, he]
  show (Sq.parts keyEq (L.take i ++ [e])).length = _
  rw [keys_snoc]
  have hg : (L.take i).getLast? = some x := by
    rw [List.getLast?_eq_getElem?, List.length_take, Nat.min_eq_left (by omega), List.getElem?_take_of_lt (by omega), show i - 1 = p by omega]
    exact hx
  rw [hg]
theorem keysN_le (L : List EntD) (i : Nat) : keysN L i ≤ i := by
  have h : (Sq.parts keyEq (L.take i)).length ≤ (L.take i).length := parts_count keyEq (L.take i)
  unfold keysN
  rw [List.length_take] at h
  omega
theorem Try.infoStrF : (Try.prog.info? 9).map (fun i => (i.zero, i.size, i.bytes)) = some (some (.string ⟨#[]⟩), 1, 16) := by kernel_rfl

set_option maxRecDepth 100000 in
set_option maxHeartbeats 4000000 in
theorem wpKeys2_any (b off n c : Nat) (L : List EntD) (w : World) (hL : EntsAt w (some ⟨b, off, none⟩) n c L) (hn : n ≤ 1048576) (hbw : b < w.heap.size) :
    Calls Try.prog 35 #[.slice (some ⟨b, off, none⟩) n c] w fun e w' => ∃ v cp, e = .returned (.slice v (Sq.parts keyEq L).length cp) ∧ Below w.heap.size w w' := by
  have HLEN : Hid (L.length = n) := hL.length
  have HL : Hid (EntsAt w (some ⟨b, off, none⟩) n c L) := hL
  obtain ⟨i0, hi, hz0, hz1, hz2⟩ := info_parts Try.infoStrF
  have HA0 : Hid (Below w.heap.size w (w.alloc (.cells #[] 9))) := (Below.refl _ _).alloc (Nat.le_refl _) _
  have HR0 : Hid ((w.alloc (.cells #[] 9)).ownsRow w.heap.size 9 1 (.slice (some ⟨w.heap.size, 0, none⟩) 0 0) 0 []) := by
    have := World.ownsRow_lit (base := w.heap.size) (e := 9) (size := 1) w #[] 0 (Nat.le_refl _) (by simp) (by simp)
    show World.ownsRow _ _ _ _ _ _ _
    simpa using this
  clear hL
  go_enter Try.func35, Try.ntmps35
  go_wp2
  go_loopw [3, 4] (fun o iv wr => ∃ (i k g cp : Nat) (xs : List Value), i ≤ n ∧ iv = .int .i64 i ∧ o = .slice (some ⟨g, 0, none⟩) k cp ∧ wr.ownsRow w.heap.size 9 1 (.slice (some ⟨g, 0, none⟩) k cp) k xs ∧ Below w.heap.size w wr ∧ k = keysN L i) (fun _ iv _ => n - (intOf iv).toNat)
  case atStart => exact ⟨0, 0, w.heap.size, 0, [], Nat.zero_le _, rfl, rfl, HR0.out, HA0.out, rfl⟩
  case round =>
    clear HR0 HA0
    obtain ⟨i, k, g, cp, xs, hin, rfl, rfl, hR, hB, hk⟩ := hrel
    have HB : Hid (Below w.heap.size w wr) := hB
    have HR : Hid (wr.ownsRow w.heap.size 9 1 (.slice (some ⟨g, 0, none⟩) k cp) k xs) := hR
    have HKK : Hid (k = keysN L i) := hk
    have hki : k ≤ 1048576 := by have := keysN_le L i; omega
    clear hR hB hk
    by_cases hil : i < n
    · have hilI : (i : Int) < (n : Int) := by omega
      have zb : b < wr.heap.size := Nat.lt_of_lt_of_le hbw HB.out.size
      obtain ⟨s', q', d', t', m', hy, _, e0, _⟩ := HL.out.ent HB.out hbw i hil
      have HY : Hid (L[i]? = some (s', q', d', t', m')) := hy
      have k0 : Below wr.heap.size wr wr.drew := (Below.refl _ wr).drew
      have HBD : Hid (Below w.heap.size w wr.drew) := HB.out.trans (k0.mono HB.out.size)
      have HRW : Hid (wr.drew.ownsRow w.heap.size 9 1 (.slice (some ⟨g, 0, none⟩) k cp) k xs) := HR.out.drew
      by_cases hi0 : i = 0
      · subst hi0
        simp only [Nat.zero_mul, Nat.add_zero] at e0
        have HMK : Hid (∀ w', Below wr.heap.size wr w' → (b < w'.heap.size)) := fun w' kk => Nat.lt_of_lt_of_le zb kk.size
        have HKS : Hid (keysN L (0 + 1) = keysN L 0 + 1) := by show keysN L 1 = 0 + 1; rw [keysN_first HY.out]
        have ed : wr.drew.cell? ⟨b, off, none⟩ = some (.string s') := e0
        have zd : b < wr.drew.heap.size := zb
        clear hy
        go_wp2_with fail
        refine wp_region_held_drew (S := (fun w' => b < w'.heap.size)) (by kernel_rfl) (HMK.out _ k0) (fun hHeld => ?_)
        refine wpAnyH_takeL (i := 0) (v := ?_) rfl (by kernel_rfl) (by kernel_rfl) (by kernel_rfl) (fun _ _ _ h => h) (Or.inl ⟨by rfl, ?_⟩) hHeld ?_
        rotate_left
        · (intro w hSw; (try dsimp only at hSw); go_simp; try with_reducible rfl)
        try go_frame
        refine wpAnyH_takeL (i := 1) (v := ?_) rfl (by kernel_rfl) (by kernel_rfl) (by kernel_rfl) (fun _ _ _ h => h) (Or.inl ⟨by rfl, ?_⟩) hHeld ?_
        rotate_left
        · (intro w hSw; (try dsimp only at hSw); go_simp; try with_reducible rfl)
        try go_frame
        refine wpAnyH_takeL (i := 2) (v := ?_) rfl (by kernel_rfl) (by kernel_rfl) (by kernel_rfl) (fun _ _ _ h => h) (Or.inl ⟨by rfl, ?_⟩) hHeld ?_
        rotate_left
        · (intro w hSw; (try dsimp only at hSw); go_simp; try with_reducible rfl)
        try go_frame
        refine wpAnyH_takeL (i := 3) (v := undef) rfl (by kernel_rfl) (by kernel_rfl) (by kernel_rfl) (fun _ _ _ h => h) (Or.inr ⟨by rfl, rfl⟩) hHeld ?_
        try go_frame
        refine wpAnyH_takeL (i := 4) (v := undef) rfl (by kernel_rfl) (by kernel_rfl) (by kernel_rfl) (fun _ _ _ h => h) (Or.inr ⟨by rfl, rfl⟩) hHeld ?_
        try go_frame
        refine wpAnyH_takeL (i := 5) (v := undef) rfl (by kernel_rfl) (by kernel_rfl) (by kernel_rfl) (fun _ _ _ h => h) (Or.inr ⟨by rfl, rfl⟩) hHeld ?_
        try go_frame
        refine wpAnyH_takeL (i := 6) (v := undef) rfl (by kernel_rfl) (by kernel_rfl) (by kernel_rfl) (fun _ _ _ h => h) (Or.inr ⟨by rfl, rfl⟩) hHeld ?_
        try go_frame
        refine wpAnyH_takeL (i := 7) (v := undef) rfl (by kernel_rfl) (by kernel_rfl) (by kernel_rfl) (fun _ _ _ h => h) (Or.inr ⟨by rfl, rfl⟩) hHeld ?_
        try go_frame
        refine wpAnyH_takeL (i := 8) (v := undef) rfl (by kernel_rfl) (by kernel_rfl) (by kernel_rfl) (fun _ _ _ h => h) (Or.inr ⟨by rfl, rfl⟩) hHeld ?_
        try go_frame
        refine wpAnyH_takeL (i := 9) (v := undef) rfl (by kernel_rfl) (by kernel_rfl) (by kernel_rfl) (fun _ _ _ h => h) (Or.inr ⟨by rfl, rfl⟩) hHeld ?_
        try go_frame
        refine wpAnyH_takeL (i := 10) (v := undef) rfl (by kernel_rfl) (by kernel_rfl) (by kernel_rfl) (fun _ _ _ h => h) (Or.inr ⟨by rfl, rfl⟩) hHeld ?_
        try go_frame
        refine wpAnyH_takeL (i := 11) (v := undef) rfl (by kernel_rfl) (by kernel_rfl) (by kernel_rfl) (fun _ _ _ h => h) (Or.inr ⟨by rfl, rfl⟩) hHeld ?_
        try go_frame
        refine wpAnyH_takeL (i := 12) (v := undef) rfl (by kernel_rfl) (by kernel_rfl) (by kernel_rfl) (fun _ _ _ h => h) (Or.inr ⟨by rfl, rfl⟩) hHeld ?_
        try go_frame
        refine wpAnyH_takeL (i := 13) (v := undef) rfl (by kernel_rfl) (by kernel_rfl) (by kernel_rfl) (fun _ _ _ h => h) (Or.inr ⟨by rfl, rfl⟩) hHeld ?_
        try go_frame
        refine wpAnyH_takeL (i := 14) (v := undef) rfl (by kernel_rfl) (by kernel_rfl) (by kernel_rfl) (fun _ _ _ h => h) (Or.inr ⟨by rfl, rfl⟩) hHeld ?_
        try go_frame
        refine wpAnyH_takeL (i := 15) (v := ?_) rfl (by kernel_rfl) (by kernel_rfl) (by kernel_rfl) (fun _ _ _ h => h) (Or.inl ⟨by rfl, ?_⟩) hHeld ?_
        rotate_left
        · (intro w hSw; (try dsimp only at hSw); go_simp; try with_reducible rfl)
        try go_frame
        refine wpAnyH_done (by kernel_rfl) ?_ _
        clear HMK hHeld k0
        obtain ⟨wd, hwd⟩ : ∃ wd, wd = wr.drew := ⟨_, rfl⟩
        rw [← hwd] at HBD HRW ed zd ⊢
        clear hwd HB HR e0 zb
        go_wp2_with (at_builtin; refine wpList_append_own_at _ rfl _ _ 60 rfl w.heap.size 9 i0 _ 1 16 Try.underlying60 hi hz0 hz1 hz2 rfl (by decide) _ _ _ rfl (HRW.out.alloc _) ⟨wd.heap.size, 0, none⟩ 1 1 [.string s'] rfl rfl (cellI_one _ _ _) (by simp [Value.oneCell']) (by unfold maxLen; omega) (by omega) (by have := HBD.out.size; simp; omega) ?_; intro v6 w6 hown6 hgrow6 hnil6 hat6; obtain ⟨g6, c6, rfl⟩ := sd_some hown6; have HB6 : Hid (Below w.heap.size w w6) := (HBD.out.alloc HBD.out.size _).grown hgrow6 (by have := HBD.out.size; simp; omega) (fun q hq => (HRW.out.lt q hq).1); have HR6 : Hid (w6.ownsRow w.heap.size 9 1 (.slice (some ⟨g6, 0, none⟩) (k + 1) c6) (k + 1) (xs ++ [.string s'])) := hown6; clear hown6 hgrow6 hnil6 hat6 HRW HBD)
        go_roundw
        case rel => exact ⟨0 + 1, k + 1, g6, c6, _, by omega, by go_num, rfl, HR6.out, HB6.out, by rw [HKS.out, HKK.out]⟩
        case measure => simp [intOf] <;> omega
      · obtain ⟨p, hp⟩ : ∃ p, i = p + 1 := ⟨i - 1, by omega⟩
        have hiB : ((i : Int) == 0) = false := by simp; omega
        have hiE : ¬ (i : Int) = 0 := by omega
        have wi : IntKind.i64.wrap ((i : Int) - 1) = (p : Int) := by
          have e : (i : Int) - 1 = (p : Int) := by omega
          rw [e, IntWalk.i64_left]; unfold wrap64; omega
        have hpI : (p : Int) < (n : Int) := by omega
        obtain ⟨s, q, d, t, m, hx, _, g0, _⟩ := HL.out.ent HB.out hbw p (by omega)
        have HMK : Hid (∀ w', Below wr.heap.size wr w' → (w'.cell? ⟨b, off + i * 5, none⟩ = some (.string s') ∧ w'.cell? ⟨b, off + p * 5, none⟩ = some (.string s) ∧ b < w'.heap.size)) := fun w' kk => ⟨cell_later kk e0, cell_later kk g0, Nat.lt_of_lt_of_le zb kk.size⟩
        have HST := keysN_step hp hy hx
        simp only at HST
        have ed : wr.drew.cell? ⟨b, off + i * 5, none⟩ = some (.string s') := e0
        have zd : b < wr.drew.heap.size := zb
        clear hy hx hp g0
        by_cases hss : s = s'
        · subst hss
          have HKS : Hid (keysN L (i + 1) = keysN L i) := by show _ = _; rw [HST, if_pos rfl]; rfl
          have e1 : (s.toList == s.toList) = true := by simp
          clear HST
          go_wp2_with fail
          refine wp_region_held_drew (S := (fun w' => w'.cell? ⟨b, off + i * 5, none⟩ = some (.string s) ∧ w'.cell? ⟨b, off + p * 5, none⟩ = some (.string s) ∧ b < w'.heap.size)) (by kernel_rfl) (HMK.out _ k0) (fun hHeld => ?_)
          refine wpAnyH_takeL (i := 0) (v := ?_) rfl (by kernel_rfl) (by kernel_rfl) (by kernel_rfl) (fun _ _ _ h => h) (Or.inl ⟨by rfl, ?_⟩) hHeld ?_
          rotate_left
          · (intro w hSw; (try dsimp only at hSw); go_simp; try with_reducible rfl)
          try go_frame
          refine wpAnyH_takeL (i := 1) (v := ?_) rfl (by kernel_rfl) (by kernel_rfl) (by kernel_rfl) (fun _ _ _ h => h) (Or.inl ⟨by rfl, ?_⟩) hHeld ?_
          rotate_left
          · (intro w hSw; (try dsimp only at hSw); go_simp; try with_reducible rfl)
          try go_frame
          refine wpAnyH_takeL (i := 2) (v := ?_) rfl (by kernel_rfl) (by kernel_rfl) (by kernel_rfl) (fun _ _ _ h => h) (Or.inl ⟨by rfl, ?_⟩) hHeld ?_
          rotate_left
          · (intro w hSw; (try dsimp only at hSw); go_simp; try with_reducible rfl)
          try go_frame
          refine wpAnyH_takeL (i := 3) (v := ?_) rfl (by kernel_rfl) (by kernel_rfl) (by kernel_rfl) (fun _ _ _ h => h) (Or.inl ⟨by rfl, ?_⟩) hHeld ?_
          rotate_left
          · (intro w hSw; (try dsimp only at hSw); go_simp; try with_reducible rfl)
          try go_frame
          refine wpAnyH_takeL (i := 4) (v := ?_) rfl (by kernel_rfl) (by kernel_rfl) (by kernel_rfl) (fun _ _ _ h => h) (Or.inl ⟨by rfl, ?_⟩) hHeld ?_
          rotate_left
          · (intro w hSw; (try dsimp only at hSw); go_simp; try with_reducible rfl)
          try go_frame
          refine wpAnyH_takeL (i := 5) (v := ?_) rfl (by kernel_rfl) (by kernel_rfl) (by kernel_rfl) (fun _ _ _ h => h) (Or.inl ⟨by rfl, ?_⟩) hHeld ?_
          rotate_left
          · (intro w hSw; (try dsimp only at hSw); go_simp; try with_reducible rfl)
          try go_frame
          refine wpAnyH_takeL (i := 6) (v := ?_) rfl (by kernel_rfl) (by kernel_rfl) (by kernel_rfl) (fun _ _ _ h => h) (Or.inl ⟨by rfl, ?_⟩) hHeld ?_
          rotate_left
          · (intro w hSw; (try dsimp only at hSw); go_simp; try with_reducible rfl)
          try go_frame
          refine wpAnyH_takeL (i := 7) (v := ?_) rfl (by kernel_rfl) (by kernel_rfl) (by kernel_rfl) (fun _ _ _ h => h) (Or.inl ⟨by rfl, ?_⟩) hHeld ?_
          rotate_left
          · (intro w hSw; (try dsimp only at hSw); go_simp; try with_reducible rfl)
          try go_frame
          refine wpAnyH_takeL (i := 8) (v := ?_) rfl (by kernel_rfl) (by kernel_rfl) (by kernel_rfl) (fun _ _ _ h => h) (Or.inl ⟨by rfl, ?_⟩) hHeld ?_
          rotate_left
          · (intro w hSw; (try dsimp only at hSw); go_simp; try with_reducible rfl)
          try go_frame
          refine wpAnyH_takeL (i := 9) (v := ?_) rfl (by kernel_rfl) (by kernel_rfl) (by kernel_rfl) (fun _ _ _ h => h) (Or.inl ⟨by rfl, ?_⟩) hHeld ?_
          rotate_left
          · (intro w hSw; (try dsimp only at hSw); go_simp; try with_reducible rfl)
          try go_frame
          refine wpAnyH_takeL (i := 10) (v := ?_) rfl (by kernel_rfl) (by kernel_rfl) (by kernel_rfl) (fun _ _ _ h => h) (Or.inl ⟨by rfl, ?_⟩) hHeld ?_
          rotate_left
          · (intro w hSw; (try dsimp only at hSw); go_simp; try with_reducible rfl)
          try go_frame
          refine wpAnyH_takeL (i := 11) (v := ?_) rfl (by kernel_rfl) (by kernel_rfl) (by kernel_rfl) (fun _ _ _ h => h) (Or.inl ⟨by rfl, ?_⟩) hHeld ?_
          rotate_left
          · (intro w hSw; (try dsimp only at hSw); go_simp; try with_reducible rfl)
          try go_frame
          refine wpAnyH_takeL (i := 12) (v := ?_) rfl (by kernel_rfl) (by kernel_rfl) (by kernel_rfl) (fun _ _ _ h => h) (Or.inl ⟨by rfl, ?_⟩) hHeld ?_
          rotate_left
          · (intro w hSw; (try dsimp only at hSw); go_simp; try with_reducible rfl)
          try go_frame
          refine wpAnyH_takeL (i := 13) (v := ?_) rfl (by kernel_rfl) (by kernel_rfl) (by kernel_rfl) (fun _ _ _ h => h) (Or.inl ⟨by rfl, ?_⟩) hHeld ?_
          rotate_left
          · (intro w hSw; (try dsimp only at hSw); go_simp; try with_reducible rfl)
          try go_frame
          refine wpAnyH_takeL (i := 14) (v := ?_) rfl (by kernel_rfl) (by kernel_rfl) (by kernel_rfl) (fun _ _ _ h => h) (Or.inl ⟨by rfl, ?_⟩) hHeld ?_
          rotate_left
          · (intro w hSw; (try dsimp only at hSw); go_simp; try with_reducible rfl)
          try go_frame
          refine wpAnyH_takeL (i := 15) (v := ?_) rfl (by kernel_rfl) (by kernel_rfl) (by kernel_rfl) (fun _ _ _ h => h) (Or.inl ⟨by rfl, ?_⟩) hHeld ?_
          rotate_left
          · (intro w hSw; (try dsimp only at hSw); go_simp; try with_reducible rfl)
          try go_frame
          refine wpAnyH_done (by kernel_rfl) ?_ _
          clear HMK hHeld k0
          go_wp2
          go_roundw
          case rel => exact ⟨i + 1, k, g, cp, xs, by omega, by go_num, rfl, HRW.out, HBD.out, by rw [HKS.out, HKK.out]⟩
          case measure => simp [intOf] <;> omega
        · have HKS : Hid (keysN L (i + 1) = keysN L i + 1) := by show _ = _; rw [HST, if_neg hss]
          have hne : ¬ s'.toList = s.toList := by
            rw [ByteArray.toList_eq, ByteArray.toList_eq]
            intro h
            exact hss (ByteArray.ext (Array.toList_inj.1 h)).symm
          have hne' : (s'.toList == s.toList) = false := by simpa using hne
          clear hss HST
          go_wp2_with fail
          refine wp_region_held_drew (S := (fun w' => w'.cell? ⟨b, off + i * 5, none⟩ = some (.string s') ∧ w'.cell? ⟨b, off + p * 5, none⟩ = some (.string s) ∧ b < w'.heap.size)) (by kernel_rfl) (HMK.out _ k0) (fun hHeld => ?_)
          refine wpAnyH_takeL (i := 0) (v := ?_) rfl (by kernel_rfl) (by kernel_rfl) (by kernel_rfl) (fun _ _ _ h => h) (Or.inl ⟨by rfl, ?_⟩) hHeld ?_
          rotate_left
          · (intro w hSw; (try dsimp only at hSw); go_simp; try with_reducible rfl)
          try go_frame
          refine wpAnyH_takeL (i := 1) (v := ?_) rfl (by kernel_rfl) (by kernel_rfl) (by kernel_rfl) (fun _ _ _ h => h) (Or.inl ⟨by rfl, ?_⟩) hHeld ?_
          rotate_left
          · (intro w hSw; (try dsimp only at hSw); go_simp; try with_reducible rfl)
          try go_frame
          refine wpAnyH_takeL (i := 2) (v := ?_) rfl (by kernel_rfl) (by kernel_rfl) (by kernel_rfl) (fun _ _ _ h => h) (Or.inl ⟨by rfl, ?_⟩) hHeld ?_
          rotate_left
          · (intro w hSw; (try dsimp only at hSw); go_simp; try with_reducible rfl)
          try go_frame
          refine wpAnyH_takeL (i := 3) (v := ?_) rfl (by kernel_rfl) (by kernel_rfl) (by kernel_rfl) (fun _ _ _ h => h) (Or.inl ⟨by rfl, ?_⟩) hHeld ?_
          rotate_left
          · (intro w hSw; (try dsimp only at hSw); go_simp; try with_reducible rfl)
          try go_frame
          refine wpAnyH_takeL (i := 4) (v := ?_) rfl (by kernel_rfl) (by kernel_rfl) (by kernel_rfl) (fun _ _ _ h => h) (Or.inl ⟨by rfl, ?_⟩) hHeld ?_
          rotate_left
          · (intro w hSw; (try dsimp only at hSw); go_simp; try with_reducible rfl)
          try go_frame
          refine wpAnyH_takeL (i := 5) (v := ?_) rfl (by kernel_rfl) (by kernel_rfl) (by kernel_rfl) (fun _ _ _ h => h) (Or.inl ⟨by rfl, ?_⟩) hHeld ?_
          rotate_left
          · (intro w hSw; (try dsimp only at hSw); go_simp; try with_reducible rfl)
          try go_frame
          refine wpAnyH_takeL (i := 6) (v := ?_) rfl (by kernel_rfl) (by kernel_rfl) (by kernel_rfl) (fun _ _ _ h => h) (Or.inl ⟨by rfl, ?_⟩) hHeld ?_
          rotate_left
          · (intro w hSw; (try dsimp only at hSw); go_simp; try with_reducible rfl)
          try go_frame
          refine wpAnyH_takeL (i := 7) (v := ?_) rfl (by kernel_rfl) (by kernel_rfl) (by kernel_rfl) (fun _ _ _ h => h) (Or.inl ⟨by rfl, ?_⟩) hHeld ?_
          rotate_left
          · (intro w hSw; (try dsimp only at hSw); go_simp; try with_reducible rfl)
          try go_frame
          refine wpAnyH_takeL (i := 8) (v := ?_) rfl (by kernel_rfl) (by kernel_rfl) (by kernel_rfl) (fun _ _ _ h => h) (Or.inl ⟨by rfl, ?_⟩) hHeld ?_
          rotate_left
          · (intro w hSw; (try dsimp only at hSw); go_simp; try with_reducible rfl)
          try go_frame
          refine wpAnyH_takeL (i := 9) (v := ?_) rfl (by kernel_rfl) (by kernel_rfl) (by kernel_rfl) (fun _ _ _ h => h) (Or.inl ⟨by rfl, ?_⟩) hHeld ?_
          rotate_left
          · (intro w hSw; (try dsimp only at hSw); go_simp; try with_reducible rfl)
          try go_frame
          refine wpAnyH_takeL (i := 10) (v := ?_) rfl (by kernel_rfl) (by kernel_rfl) (by kernel_rfl) (fun _ _ _ h => h) (Or.inl ⟨by rfl, ?_⟩) hHeld ?_
          rotate_left
          · (intro w hSw; (try dsimp only at hSw); go_simp; try with_reducible rfl)
          try go_frame
          refine wpAnyH_takeL (i := 11) (v := ?_) rfl (by kernel_rfl) (by kernel_rfl) (by kernel_rfl) (fun _ _ _ h => h) (Or.inl ⟨by rfl, ?_⟩) hHeld ?_
          rotate_left
          · (intro w hSw; (try dsimp only at hSw); go_simp; try with_reducible rfl)
          try go_frame
          refine wpAnyH_takeL (i := 12) (v := ?_) rfl (by kernel_rfl) (by kernel_rfl) (by kernel_rfl) (fun _ _ _ h => h) (Or.inl ⟨by rfl, ?_⟩) hHeld ?_
          rotate_left
          · (intro w hSw; (try dsimp only at hSw); go_simp; try with_reducible rfl)
          try go_frame
          refine wpAnyH_takeL (i := 13) (v := ?_) rfl (by kernel_rfl) (by kernel_rfl) (by kernel_rfl) (fun _ _ _ h => h) (Or.inl ⟨by rfl, ?_⟩) hHeld ?_
          rotate_left
          · (intro w hSw; (try dsimp only at hSw); go_simp; try with_reducible rfl)
          try go_frame
          refine wpAnyH_takeL (i := 14) (v := ?_) rfl (by kernel_rfl) (by kernel_rfl) (by kernel_rfl) (fun _ _ _ h => h) (Or.inl ⟨by rfl, ?_⟩) hHeld ?_
          rotate_left
          · (intro w hSw; (try dsimp only at hSw); go_simp; try with_reducible rfl)
          try go_frame
          refine wpAnyH_takeL (i := 15) (v := ?_) rfl (by kernel_rfl) (by kernel_rfl) (by kernel_rfl) (fun _ _ _ h => h) (Or.inl ⟨by rfl, ?_⟩) hHeld ?_
          rotate_left
          · (intro w hSw; (try dsimp only at hSw); go_simp; try with_reducible rfl)
          try go_frame
          refine wpAnyH_done (by kernel_rfl) ?_ _
          clear HMK hHeld k0
          obtain ⟨wd, hwd⟩ : ∃ wd, wd = wr.drew := ⟨_, rfl⟩
          rw [← hwd] at HBD HRW ed zd ⊢
          clear hwd HB HR e0 zb
          go_wp2_with (at_builtin; refine wpList_append_own_at _ rfl _ _ 60 rfl w.heap.size 9 i0 _ 1 16 Try.underlying60 hi hz0 hz1 hz2 rfl (by decide) _ _ _ rfl (HRW.out.alloc _) ⟨wd.heap.size, 0, none⟩ 1 1 [.string s'] rfl rfl (cellI_one _ _ _) (by simp [Value.oneCell']) (by unfold maxLen; omega) (by omega) (by have := HBD.out.size; simp; omega) ?_; intro v6 w6 hown6 hgrow6 hnil6 hat6; obtain ⟨g6, c6, rfl⟩ := sd_some hown6; have HB6 : Hid (Below w.heap.size w w6) := (HBD.out.alloc HBD.out.size _).grown hgrow6 (by have := HBD.out.size; simp; omega) (fun q hq => (HRW.out.lt q hq).1); have HR6 : Hid (w6.ownsRow w.heap.size 9 1 (.slice (some ⟨g6, 0, none⟩) (k + 1) c6) (k + 1) (xs ++ [.string s'])) := hown6; clear hown6 hgrow6 hnil6 hat6 HRW HBD)
          go_roundw
          case rel => exact ⟨i + 1, k + 1, g6, c6, _, by omega, by go_num, rfl, HR6.out, HB6.out, by rw [HKS.out, HKK.out]⟩
          case measure => simp [intOf] <;> omega
    · have hilI : ¬ (i : Int) < (n : Int) := by omega
      have HE : Hid (k = (Sq.parts keyEq L).length) := by
        have h := HKK.out
        unfold keysN at h
        rw [List.take_of_length_le (by rw [HLEN.out]; omega)] at h
        exact h
      go_wp2
      go_ret
      exact ⟨⟨_, cp, by rw [← HE.out]; rfl⟩, HB.out⟩

set_option maxRecDepth 100000 in
set_option maxHeartbeats 8000000 in
theorem walkFnSquashFew (a : Option Addr) (len cap : Nat) (w : World) (h : BytesAt w a len cap) :
    Calls Try.prog 10 #[.slice a len cap] w fun e w' => e = .returned (.bool true) ∧ Below w.heap.size w w' := by
  by_cases hl : len ≤ 1048576
  · have hlI : ¬ (1048576 : Int) < (len : Int) := by omega
    have CD := drawSq_any a len cap w h
    clear h
    go_enter Try.func10, Try.ntmps10
    go_wp2_with fail
    refine CD.mono ?_
    rintro e w1 ⟨g, n, c, L, gs, m, cs, S, b, rfl, hO, hN, hD, hm, hS, hgs, hb1⟩
    have HB1 : Hid (Below w.heap.size w w1) := hb1
    have HO1 : Hid (OwnE w1 w.heap.size g n c L) := hO
    have HN1 : Hid (OwnN w1 w.heap.size gs m cs S) := hN
    have HLN : Hid (L.length = n) := hO.len
    have HSN : Hid (S.length = m) := hN.len
    have hn15 : n ≤ 15 := by have h1 := hO.len; have h2 := hD.1; omega
    have CI : Hid (∀ (b' : Bool) (lo m' d' : Nat) (al : Option Addr) (S' : List Int) (w' : World), EntsAt w' (some ⟨g, 0, none⟩) n c L → IntsIn lo w' al m' d' S' → m' ≤ 1048576 → g < w'.heap.size → Calls Try.prog 15 #[.slice (some ⟨g, 0, none⟩) n c, .slice al m' d', .bool b'] w' fun e w'' => ∃ ar n' c', e = .returned (.slice ar n' c') ∧ OwnO w'' w'.heap.size ar n' c' (squashL L S' b') ∧ Below w'.heap.size w' w'') := fun b' lo m' d' al S' w' h1 h2 h3 h4 => callsIn_wide.1 (implSquash lo g 0 n c L _ _ _ S' b' w' h1 h2 (by omega) h3 h4)
    have CS := specSquash
    have HFL := squashL_len L S b
    have HFW : Hid (SmL L → (squashL L S b).length ≤ (Sq.parts keyEq L).length * (S.length + 1)) := fun hs => squash_few hs S b
    have HF0 : Hid (SmL L → (squashL L [] b).length ≤ (squashL L S b).length) := fun hs => squash_none_le hs S b
    have HF1 : Hid (SmL L → (squashL L S true).length ≤ (squashL L S false).length) := fun hs => squash_low hs S
    have HF2 : Hid (SmL L → LastPut (squashL L S true)) := fun hs => squash_puts hs S
    have HKL : Hid ((Sq.parts keyEq L).length ≤ n) := by have := parts_count keyEq L; rw [HLN.out] at this; exact this
    rw [HSN.out] at HFW
    have CS1 : Hid (∀ (lo : Nat) (w' : World), EntsAt w' (some ⟨g, 0, none⟩) n c L → IntsIn lo w' (some ⟨gs, 0, none⟩) m cs S → Calls Try.prog 12 #[.slice (some ⟨g, 0, none⟩) n c, .slice (some ⟨gs, 0, none⟩) m cs, .bool b] w' fun e w'' => ∃ g' n' c', e = .returned (.slice (some ⟨g', 0, none⟩) n' c') ∧ OwnE w'' w'.heap.size g' n' c' (squashL L S b) ∧ Below w'.heap.size w' w'') := fun lo w' h1 h2 => specSquash lo _ _ _ L _ _ _ S b w' h1 h2 (by omega)
    clear hb1 hO hN CD hD hS hl hlI CS
    go_wp2_with fail
    refine (CI.out b _ m cs _ S _ HO1.out.entsAt HN1.out.ints (by omega) HO1.out.lt.2).mono ?_
    rintro e w2 ⟨ag, ng, cg, rfl, hG2, hb2⟩
    obtain ⟨F, hF⟩ : ∃ F, squashL L S b = F := ⟨_, rfl⟩
    rw [hF] at hG2 HFL HFW HF0 CS1
    have T2 : Hid (FqSt w w2 g n c gs m cs ag ng cg L S F) := ⟨HB1.out.trans (hb2.mono HB1.out.size), HO1.out.below hb2, HN1.out.below hb2, hG2.mono HB1.out.size⟩
    have HGL : Hid (F.length = ng) := hG2.len
    have hng : ng ≤ n := by have h1 := hG2.len; have h2 := HLN.out; omega
    clear hG2 hb2 HB1 HO1 HN1 HFL hF
    go_wp2_with fail
    refine (CS1.out _ _ T2.out.ol.entsAt T2.out.ot.ints).mono ?_
    rintro e w3 ⟨gw, nw, cw, rfl, hW3, hb3⟩
    have T3 : Hid (FqSt w w3 g n c gs m cs ag ng cg L S F) := T2.out.below hb3
    have HW3 : Hid (EntsAt w3 (some ⟨gw, 0, none⟩) nw cw F) := hW3.entsAt
    clear T2 hW3 hb3 CS1
    go_wp2_with fail
    refine (wpEnts_any _ _ _ _ _ _ F F _ T3.out.og.entsAt HW3.out).mono ?_
    rintro e w4 ⟨rfl, hb4⟩
    have T4 : Hid (FqSt w w4 g n c gs m cs ag ng cg L S F) := T3.out.below hb4
    have hFF : decide (F = F) = true := by simp
    rw [hFF]
    clear T3 HW3 hb4 hFF
    go_wp2
    go_loopw [7] (fun iv wr => ∃ i : Nat, i ≤ n ∧ iv = .int .i64 i ∧ FqSt w wr g n c gs m cs ag ng cg L S F ∧ (∀ j e, j < i → L[j]? = some e → -1000 ≤ e.2.2.2.2 ∧ e.2.2.2.2 ≤ 1000)) (fun iv _ => n - (intOf iv).toNat)
    case atStart => exact ⟨0, Nat.zero_le _, rfl, T4.out, fun j e h => absurd h (Nat.not_lt_zero _)⟩
    case round =>
      clear T4
      obtain ⟨i, hin, rfl, hT, hsm⟩ := hrel
      have HT : Hid (FqSt w wr g n c gs m cs ag ng cg L S F) := hT
      have HSM : Hid (∀ j e, j < i → L[j]? = some e → -1000 ≤ e.2.2.2.2 ∧ e.2.2.2.2 ≤ 1000) := hsm
      clear hT hsm
      by_cases hil : i < n
      · have hilI : (i : Int) < (n : Int) := by omega
        have zg := HT.out.ol.lt.2
        obtain ⟨s, q, d, t, mm, hx, _, _, _, _, _, g4⟩ := HT.out.ol.entsAt.ent (Below.refl _ wr) zg i hil
        simp only [Nat.zero_add] at g4
        have HX : Hid (L[i]? = some (s, q, d, t, mm)) := hx
        clear hx
        by_cases h1 : 1000 < mm
        · go_wp2
          go_ret
          exact ⟨rfl, HT.out.all⟩
        · have h1D : decide (1000 < mm) = false := decide_eq_false h1
          have h1N : mm ≤ 1000 := by omega
          by_cases h2 : mm < -1000
          · go_wp2
            go_ret
            exact ⟨rfl, HT.out.all⟩
          · have h2D : decide (mm < -1000) = false := decide_eq_false h2
            go_wp2
            go_roundw
            case rel => exact ⟨i + 1, by omega, by go_num, HT.out, fun j e hj he => by
              by_cases hji : j < i
              · exact HSM.out j e hji he
              · have : j = i := by omega
                subst this
                rw [HX.out] at he
                cases he
                exact ⟨by simp only; omega, by simp only; omega⟩⟩
            case measure => simp [intOf] <;> omega
      · have hilI : ¬ (i : Int) < (n : Int) := by omega
        have HSL : Hid (SmL L) := ⟨by have := HLN.out; omega, fun e he => by
          obtain ⟨j, hj⟩ := List.getElem?_of_mem he
          have hjl := (List.getElem?_eq_some_iff.1 hj).1
          have := HLN.out
          exact HSM.out j e (by omega) hj⟩
        have G0 := HF0.out HSL.out
        have G1 := HF1.out HSL.out
        have HG2 : Hid (LastPut (squashL L S true)) := HF2.out HSL.out
        have G3 := HFW.out HSL.out
        clear HSM HF0 HF1 HF2 HFW HSL
        go_wp2_with fail
        refine (CI.out true _ m cs _ S _ HT.out.ol.entsAt HT.out.ot.ints (by omega) HT.out.ol.lt.2).mono ?_
        rintro e w5 ⟨ao, no, co, rfl, hO5, hb5⟩
        have T5 : Hid (FqSt w w5 g n c gs m cs ag ng cg L S F) := HT.out.below hb5
        obtain ⟨F1, hF1⟩ : ∃ F1, squashL L S true = F1 := ⟨_, rfl⟩
        rw [hF1] at hO5 HG2 G1
        have HO5 : Hid (EntsAt w5 ao no co F1) := hO5.entsAt
        have HL5 : Hid (F1.length = no) := hO5.len
        have hno : no ≤ 1000 := by have h1 := hO5.len; have h2 := squashL_len L S true; rw [hF1] at h2; have := HLN.out; omega
        obtain ⟨W5, hW5⟩ : ∃ W5, W5 = w5 := ⟨_, rfl⟩
        subst hW5
        clear hO5 hb5 HT hF1
        go_wp2
        go_loopw [9] (fun iv wr => ∃ i : Nat, i ≤ no ∧ iv = .int .i64 i ∧ Below W5.heap.size W5 wr) (fun iv _ => no - (intOf iv).toNat)
        case atStart => exact ⟨0, Nat.zero_le _, rfl, Below.refl _ _⟩
        case round =>
          clear hilI hil hin
          obtain ⟨i, hin, rfl, hB⟩ := hrel
          have HB : Hid (Below W5.heap.size W5 wr) := hB
          clear hB
          by_cases hil : i < no
          · have hilI : (i : Int) < (no : Int) := by omega
            obtain ⟨b1, o1, rfl, hbb1⟩ := HO5.out.form (by omega)
            obtain ⟨s, q, d, t, mm, hx, _, g0, _, g2, _, _⟩ := HO5.out.ent HB.out hbb1 i hil
            have zb : b1 < wr.heap.size := Nat.lt_of_lt_of_le hbb1 HB.out.size
            have k0 : Below wr.heap.size wr wr.drew := (Below.refl _ wr).drew
            have HB2 : Hid (Below W5.heap.size W5 wr.drew) := HB.out.trans (k0.mono HB.out.size)
            obtain ⟨nx, hnx⟩ : ∃ nx, nx = i + 1 := ⟨_, rfl⟩
            have HNX : Hid (nx = i + 1) := hnx
            have wnx : IntKind.i64.wrap ((i : Int) + 1) = (nx : Int) := by
              have e : (i : Int) + 1 = (nx : Int) := by omega
              rw [e, IntWalk.i64_left]; unfold wrap64; omega
            by_cases hlast : nx = no
            · have HD : Hid (d = 1) := by
                have := HG2.out i _ hx (.inl (List.getElem?_eq_none (by rw [HL5.out]; omega)))
                exact this
              have hd1 := HD.out
              subst hd1
              have hlI : (nx : Int) = (no : Int) := by omega
              have hlB : ((nx : Int) == (no : Int)) = true := by simp; omega
              have HMK : Hid (∀ w', Below wr.heap.size wr w' → (w'.cell? ⟨b1, o1 + i * 5, none⟩ = some (.string s) ∧ w'.cell? ⟨b1, o1 + i * 5 + 2, none⟩ = some (.int .i64 1) ∧ b1 < w'.heap.size)) := fun w' kk => ⟨cell_later kk g0, cell_later kk g2, Nat.lt_of_lt_of_le zb kk.size⟩
              have HLS : Hid (nx = no) := hlast
              clear hx g0 g2 hnx hlast
              go_wp2_with fail
              refine wp_region_held_drew (S := (fun w' => w'.cell? ⟨b1, o1 + i * 5, none⟩ = some (.string s) ∧ w'.cell? ⟨b1, o1 + i * 5 + 2, none⟩ = some (.int .i64 1) ∧ b1 < w'.heap.size)) (by kernel_rfl) (HMK.out _ k0) (fun hHeld => ?_)
              refine wpAnyH_takeL (i := 0) (v := ?_) rfl (by kernel_rfl) (by kernel_rfl) (by kernel_rfl) (fun _ _ _ h => h) (Or.inl ⟨by rfl, ?_⟩) hHeld ?_
              rotate_left
              · (intro w hSw; (try dsimp only at hSw); go_simp; try with_reducible rfl)
              try go_frame
              refine wpAnyH_takeL (i := 1) (v := ?_) rfl (by kernel_rfl) (by kernel_rfl) (by kernel_rfl) (fun _ _ _ h => h) (Or.inl ⟨by rfl, ?_⟩) hHeld ?_
              rotate_left
              · (intro w hSw; (try dsimp only at hSw); go_simp; try with_reducible rfl)
              try go_frame
              refine wpAnyH_takeL (i := 2) (v := ?_) rfl (by kernel_rfl) (by kernel_rfl) (by kernel_rfl) (fun _ _ _ h => h) (Or.inl ⟨by rfl, ?_⟩) hHeld ?_
              rotate_left
              · (intro w hSw; (try dsimp only at hSw); go_simp; try with_reducible rfl)
              try go_frame
              refine wpAnyH_takeL (i := 3) (v := ?_) rfl (by kernel_rfl) (by kernel_rfl) (by kernel_rfl) (fun _ _ _ h => h) (Or.inl ⟨by rfl, ?_⟩) hHeld ?_
              rotate_left
              · (intro w hSw; (try dsimp only at hSw); go_simp; try with_reducible rfl)
              try go_frame
              refine wpAnyH_takeL (i := 4) (v := ?_) rfl (by kernel_rfl) (by kernel_rfl) (by kernel_rfl) (fun _ _ _ h => h) (Or.inl ⟨by rfl, ?_⟩) hHeld ?_
              rotate_left
              · (intro w hSw; (try dsimp only at hSw); go_simp; try with_reducible rfl)
              try go_frame
              refine wpAnyH_takeL (i := 5) (v := ?_) rfl (by kernel_rfl) (by kernel_rfl) (by kernel_rfl) (fun _ _ _ h => h) (Or.inl ⟨by rfl, ?_⟩) hHeld ?_
              rotate_left
              · (intro w hSw; (try dsimp only at hSw); go_simp; try with_reducible rfl)
              try go_frame
              refine wpAnyH_takeL (i := 6) (v := undef) rfl (by kernel_rfl) (by kernel_rfl) (by kernel_rfl) (fun _ _ _ h => h) (Or.inr ⟨by rfl, rfl⟩) hHeld ?_
              try go_frame
              refine wpAnyH_takeL (i := 7) (v := undef) rfl (by kernel_rfl) (by kernel_rfl) (by kernel_rfl) (fun _ _ _ h => h) (Or.inr ⟨by rfl, rfl⟩) hHeld ?_
              try go_frame
              refine wpAnyH_takeL (i := 8) (v := undef) rfl (by kernel_rfl) (by kernel_rfl) (by kernel_rfl) (fun _ _ _ h => h) (Or.inr ⟨by rfl, rfl⟩) hHeld ?_
              try go_frame
              refine wpAnyH_takeL (i := 9) (v := undef) rfl (by kernel_rfl) (by kernel_rfl) (by kernel_rfl) (fun _ _ _ h => h) (Or.inr ⟨by rfl, rfl⟩) hHeld ?_
              try go_frame
              refine wpAnyH_takeL (i := 10) (v := undef) rfl (by kernel_rfl) (by kernel_rfl) (by kernel_rfl) (fun _ _ _ h => h) (Or.inr ⟨by rfl, rfl⟩) hHeld ?_
              try go_frame
              refine wpAnyH_takeL (i := 11) (v := undef) rfl (by kernel_rfl) (by kernel_rfl) (by kernel_rfl) (fun _ _ _ h => h) (Or.inr ⟨by rfl, rfl⟩) hHeld ?_
              try go_frame
              refine wpAnyH_takeL (i := 12) (v := undef) rfl (by kernel_rfl) (by kernel_rfl) (by kernel_rfl) (fun _ _ _ h => h) (Or.inr ⟨by rfl, rfl⟩) hHeld ?_
              try go_frame
              refine wpAnyH_takeL (i := 13) (v := undef) rfl (by kernel_rfl) (by kernel_rfl) (by kernel_rfl) (fun _ _ _ h => h) (Or.inr ⟨by rfl, rfl⟩) hHeld ?_
              try go_frame
              refine wpAnyH_takeL (i := 14) (v := undef) rfl (by kernel_rfl) (by kernel_rfl) (by kernel_rfl) (fun _ _ _ h => h) (Or.inr ⟨by rfl, rfl⟩) hHeld ?_
              try go_frame
              refine wpAnyH_takeL (i := 15) (v := undef) rfl (by kernel_rfl) (by kernel_rfl) (by kernel_rfl) (fun _ _ _ h => h) (Or.inr ⟨by rfl, rfl⟩) hHeld ?_
              try go_frame
              refine wpAnyH_takeL (i := 16) (v := undef) rfl (by kernel_rfl) (by kernel_rfl) (by kernel_rfl) (fun _ _ _ h => h) (Or.inr ⟨by rfl, rfl⟩) hHeld ?_
              try go_frame
              refine wpAnyH_takeL (i := 17) (v := undef) rfl (by kernel_rfl) (by kernel_rfl) (by kernel_rfl) (fun _ _ _ h => h) (Or.inr ⟨by rfl, rfl⟩) hHeld ?_
              try go_frame
              refine wpAnyH_takeL (i := 18) (v := ?_) rfl (by kernel_rfl) (by kernel_rfl) (by kernel_rfl) (fun _ _ _ h => h) (Or.inl ⟨by rfl, ?_⟩) hHeld ?_
              rotate_left
              · (intro w hSw; (try dsimp only at hSw); go_simp; try with_reducible rfl)
              try go_frame
              refine wpAnyH_takeL (i := 19) (v := ?_) rfl (by kernel_rfl) (by kernel_rfl) (by kernel_rfl) (fun _ _ _ h => h) (Or.inl ⟨by rfl, ?_⟩) hHeld ?_
              rotate_left
              · (intro w hSw; (try dsimp only at hSw); go_simp; try with_reducible rfl)
              try go_frame
              refine wpAnyH_takeL (i := 20) (v := ?_) rfl (by kernel_rfl) (by kernel_rfl) (by kernel_rfl) (fun _ _ _ h => h) (Or.inl ⟨by rfl, ?_⟩) hHeld ?_
              rotate_left
              · (intro w hSw; (try dsimp only at hSw); go_simp; try with_reducible rfl)
              try go_frame
              refine wpAnyH_takeL (i := 21) (v := ?_) rfl (by kernel_rfl) (by kernel_rfl) (by kernel_rfl) (fun _ _ _ h => h) (Or.inl ⟨by rfl, ?_⟩) hHeld ?_
              rotate_left
              · (intro w hSw; (try dsimp only at hSw); go_simp; try with_reducible rfl)
              try go_frame
              refine wpAnyH_takeL (i := 22) (v := ?_) rfl (by kernel_rfl) (by kernel_rfl) (by kernel_rfl) (fun _ _ _ h => h) (Or.inl ⟨by rfl, ?_⟩) hHeld ?_
              rotate_left
              · (intro w hSw; (try dsimp only at hSw); go_simp; try with_reducible rfl)
              try go_frame
              refine wpAnyH_takeL (i := 23) (v := ?_) rfl (by kernel_rfl) (by kernel_rfl) (by kernel_rfl) (fun _ _ _ h => h) (Or.inl ⟨by rfl, ?_⟩) hHeld ?_
              rotate_left
              · (intro w hSw; (try dsimp only at hSw); go_simp; try with_reducible rfl)
              try go_frame
              refine wpAnyH_takeL (i := 24) (v := ?_) rfl (by kernel_rfl) (by kernel_rfl) (by kernel_rfl) (fun _ _ _ h => h) (Or.inl ⟨by rfl, ?_⟩) hHeld ?_
              rotate_left
              · (intro w hSw; (try dsimp only at hSw); go_simp; try with_reducible rfl)
              try go_frame
              refine wpAnyH_takeL (i := 25) (v := ?_) rfl (by kernel_rfl) (by kernel_rfl) (by kernel_rfl) (fun _ _ _ h => h) (Or.inl ⟨by rfl, ?_⟩) hHeld ?_
              rotate_left
              · (intro w hSw; (try dsimp only at hSw); go_simp; try with_reducible rfl)
              try go_frame
              refine wpAnyH_takeL (i := 26) (v := ?_) rfl (by kernel_rfl) (by kernel_rfl) (by kernel_rfl) (fun _ _ _ h => h) (Or.inl ⟨by rfl, ?_⟩) hHeld ?_
              rotate_left
              · (intro w hSw; (try dsimp only at hSw); go_simp; try with_reducible rfl)
              try go_frame
              refine wpAnyH_done (by kernel_rfl) ?_ _
              clear HMK hHeld k0 HB
              go_wp2
              go_roundw
              case rel => exact ⟨no, by omega, rfl, HB2.out⟩
              case measure => have := HNX.out; have := HLS.out; simp [intOf] <;> omega
            · have hnl : nx < no := by omega
              have hlI : ¬ (nx : Int) = (no : Int) := by omega
              have hlB : ((nx : Int) == (no : Int)) = false := by simp; omega
              have hnI : (nx : Int) < (no : Int) := by omega
              obtain ⟨s', q', d', t', mm', hy, _, e0, _⟩ := HO5.out.ent HB.out hbb1 nx hnl
              have HMK : Hid (∀ w', Below wr.heap.size wr w' → (w'.cell? ⟨b1, o1 + i * 5, none⟩ = some (.string s) ∧ w'.cell? ⟨b1, o1 + i * 5 + 2, none⟩ = some (.int .i64 d) ∧ w'.cell? ⟨b1, o1 + nx * 5, none⟩ = some (.string s') ∧ b1 < w'.heap.size)) := fun w' kk => ⟨cell_later kk g0, cell_later kk g2, cell_later kk e0, Nat.lt_of_lt_of_le zb kk.size⟩
              by_cases hss : s' = s
              · subst hss
                have e1 : (s'.toList == s'.toList) = true := by simp
                clear hx hy g0 g2 e0 hnx hlast
                go_wp2_with fail
                refine wp_region_held_drew (S := (fun w' => w'.cell? ⟨b1, o1 + i * 5, none⟩ = some (.string s') ∧ w'.cell? ⟨b1, o1 + i * 5 + 2, none⟩ = some (.int .i64 d) ∧ w'.cell? ⟨b1, o1 + nx * 5, none⟩ = some (.string s') ∧ b1 < w'.heap.size)) (by kernel_rfl) (HMK.out _ k0) (fun hHeld => ?_)
                refine wpAnyH_takeL (i := 0) (v := ?_) rfl (by kernel_rfl) (by kernel_rfl) (by kernel_rfl) (fun _ _ _ h => h) (Or.inl ⟨by rfl, ?_⟩) hHeld ?_
                rotate_left
                · (intro w hSw; (try dsimp only at hSw); go_simp; try with_reducible rfl)
                try go_frame
                refine wpAnyH_takeL (i := 1) (v := ?_) rfl (by kernel_rfl) (by kernel_rfl) (by kernel_rfl) (fun _ _ _ h => h) (Or.inl ⟨by rfl, ?_⟩) hHeld ?_
                rotate_left
                · (intro w hSw; (try dsimp only at hSw); go_simp; try with_reducible rfl)
                try go_frame
                refine wpAnyH_takeL (i := 2) (v := ?_) rfl (by kernel_rfl) (by kernel_rfl) (by kernel_rfl) (fun _ _ _ h => h) (Or.inl ⟨by rfl, ?_⟩) hHeld ?_
                rotate_left
                · (intro w hSw; (try dsimp only at hSw); go_simp; try with_reducible rfl)
                try go_frame
                refine wpAnyH_takeL (i := 3) (v := ?_) rfl (by kernel_rfl) (by kernel_rfl) (by kernel_rfl) (fun _ _ _ h => h) (Or.inl ⟨by rfl, ?_⟩) hHeld ?_
                rotate_left
                · (intro w hSw; (try dsimp only at hSw); go_simp; try with_reducible rfl)
                try go_frame
                refine wpAnyH_takeL (i := 4) (v := ?_) rfl (by kernel_rfl) (by kernel_rfl) (by kernel_rfl) (fun _ _ _ h => h) (Or.inl ⟨by rfl, ?_⟩) hHeld ?_
                rotate_left
                · (intro w hSw; (try dsimp only at hSw); go_simp; try with_reducible rfl)
                try go_frame
                refine wpAnyH_takeL (i := 5) (v := ?_) rfl (by kernel_rfl) (by kernel_rfl) (by kernel_rfl) (fun _ _ _ h => h) (Or.inl ⟨by rfl, ?_⟩) hHeld ?_
                rotate_left
                · (intro w hSw; (try dsimp only at hSw); go_simp; try with_reducible rfl)
                try go_frame
                refine wpAnyH_takeL (i := 6) (v := ?_) rfl (by kernel_rfl) (by kernel_rfl) (by kernel_rfl) (fun _ _ _ h => h) (Or.inl ⟨by rfl, ?_⟩) hHeld ?_
                rotate_left
                · (intro w hSw; (try dsimp only at hSw); go_simp; try with_reducible rfl)
                try go_frame
                refine wpAnyH_takeL (i := 7) (v := ?_) rfl (by kernel_rfl) (by kernel_rfl) (by kernel_rfl) (fun _ _ _ h => h) (Or.inl ⟨by rfl, ?_⟩) hHeld ?_
                rotate_left
                · (intro w hSw; (try dsimp only at hSw); go_simp; try with_reducible rfl)
                try go_frame
                refine wpAnyH_takeL (i := 8) (v := ?_) rfl (by kernel_rfl) (by kernel_rfl) (by kernel_rfl) (fun _ _ _ h => h) (Or.inl ⟨by rfl, ?_⟩) hHeld ?_
                rotate_left
                · (intro w hSw; (try dsimp only at hSw); go_simp; try with_reducible rfl)
                try go_frame
                refine wpAnyH_takeL (i := 9) (v := ?_) rfl (by kernel_rfl) (by kernel_rfl) (by kernel_rfl) (fun _ _ _ h => h) (Or.inl ⟨by rfl, ?_⟩) hHeld ?_
                rotate_left
                · (intro w hSw; (try dsimp only at hSw); go_simp; try with_reducible rfl)
                try go_frame
                refine wpAnyH_takeL (i := 10) (v := ?_) rfl (by kernel_rfl) (by kernel_rfl) (by kernel_rfl) (fun _ _ _ h => h) (Or.inl ⟨by rfl, ?_⟩) hHeld ?_
                rotate_left
                · (intro w hSw; (try dsimp only at hSw); go_simp; try with_reducible rfl)
                try go_frame
                refine wpAnyH_takeL (i := 11) (v := ?_) rfl (by kernel_rfl) (by kernel_rfl) (by kernel_rfl) (fun _ _ _ h => h) (Or.inl ⟨by rfl, ?_⟩) hHeld ?_
                rotate_left
                · (intro w hSw; (try dsimp only at hSw); go_simp; try with_reducible rfl)
                try go_frame
                refine wpAnyH_takeL (i := 12) (v := ?_) rfl (by kernel_rfl) (by kernel_rfl) (by kernel_rfl) (fun _ _ _ h => h) (Or.inl ⟨by rfl, ?_⟩) hHeld ?_
                rotate_left
                · (intro w hSw; (try dsimp only at hSw); go_simp; try with_reducible rfl)
                try go_frame
                refine wpAnyH_takeL (i := 13) (v := ?_) rfl (by kernel_rfl) (by kernel_rfl) (by kernel_rfl) (fun _ _ _ h => h) (Or.inl ⟨by rfl, ?_⟩) hHeld ?_
                rotate_left
                · (intro w hSw; (try dsimp only at hSw); go_simp; try with_reducible rfl)
                try go_frame
                refine wpAnyH_takeL (i := 14) (v := ?_) rfl (by kernel_rfl) (by kernel_rfl) (by kernel_rfl) (fun _ _ _ h => h) (Or.inl ⟨by rfl, ?_⟩) hHeld ?_
                rotate_left
                · (intro w hSw; (try dsimp only at hSw); go_simp; try with_reducible rfl)
                try go_frame
                refine wpAnyH_takeL (i := 15) (v := ?_) rfl (by kernel_rfl) (by kernel_rfl) (by kernel_rfl) (fun _ _ _ h => h) (Or.inl ⟨by rfl, ?_⟩) hHeld ?_
                rotate_left
                · (intro w hSw; (try dsimp only at hSw); go_simp; try with_reducible rfl)
                try go_frame
                refine wpAnyH_takeL (i := 16) (v := ?_) rfl (by kernel_rfl) (by kernel_rfl) (by kernel_rfl) (fun _ _ _ h => h) (Or.inl ⟨by rfl, ?_⟩) hHeld ?_
                rotate_left
                · (intro w hSw; (try dsimp only at hSw); go_simp; try with_reducible rfl)
                try go_frame
                refine wpAnyH_takeL (i := 17) (v := ?_) rfl (by kernel_rfl) (by kernel_rfl) (by kernel_rfl) (fun _ _ _ h => h) (Or.inl ⟨by rfl, ?_⟩) hHeld ?_
                rotate_left
                · (intro w hSw; (try dsimp only at hSw); go_simp; try with_reducible rfl)
                try go_frame
                refine wpAnyH_takeL (i := 18) (v := ?_) rfl (by kernel_rfl) (by kernel_rfl) (by kernel_rfl) (fun _ _ _ h => h) (Or.inl ⟨by rfl, ?_⟩) hHeld ?_
                rotate_left
                · (intro w hSw; (try dsimp only at hSw); go_simp; try with_reducible rfl)
                try go_frame
                refine wpAnyH_takeL (i := 19) (v := ?_) rfl (by kernel_rfl) (by kernel_rfl) (by kernel_rfl) (fun _ _ _ h => h) (Or.inl ⟨by rfl, ?_⟩) hHeld ?_
                rotate_left
                · (intro w hSw; (try dsimp only at hSw); go_simp; try with_reducible rfl)
                try go_frame
                refine wpAnyH_takeL (i := 20) (v := undef) rfl (by kernel_rfl) (by kernel_rfl) (by kernel_rfl) (fun _ _ _ h => h) (Or.inr ⟨by rfl, rfl⟩) hHeld ?_
                try go_frame
                refine wpAnyH_takeL (i := 21) (v := undef) rfl (by kernel_rfl) (by kernel_rfl) (by kernel_rfl) (fun _ _ _ h => h) (Or.inr ⟨by rfl, rfl⟩) hHeld ?_
                try go_frame
                refine wpAnyH_takeL (i := 22) (v := undef) rfl (by kernel_rfl) (by kernel_rfl) (by kernel_rfl) (fun _ _ _ h => h) (Or.inr ⟨by rfl, rfl⟩) hHeld ?_
                try go_frame
                refine wpAnyH_takeL (i := 23) (v := undef) rfl (by kernel_rfl) (by kernel_rfl) (by kernel_rfl) (fun _ _ _ h => h) (Or.inr ⟨by rfl, rfl⟩) hHeld ?_
                try go_frame
                refine wpAnyH_takeL (i := 24) (v := undef) rfl (by kernel_rfl) (by kernel_rfl) (by kernel_rfl) (fun _ _ _ h => h) (Or.inr ⟨by rfl, rfl⟩) hHeld ?_
                try go_frame
                refine wpAnyH_takeL (i := 25) (v := undef) rfl (by kernel_rfl) (by kernel_rfl) (by kernel_rfl) (fun _ _ _ h => h) (Or.inr ⟨by rfl, rfl⟩) hHeld ?_
                try go_frame
                refine wpAnyH_takeL (i := 26) (v := ?_) rfl (by kernel_rfl) (by kernel_rfl) (by kernel_rfl) (fun _ _ _ h => h) (Or.inl ⟨by rfl, ?_⟩) hHeld ?_
                rotate_left
                · (intro w hSw; (try dsimp only at hSw); go_simp; try with_reducible rfl)
                try go_frame
                refine wpAnyH_done (by kernel_rfl) ?_ _
                clear HMK hHeld k0 HB
                go_wp2
                go_roundw
                case rel => exact ⟨nx, by omega, rfl, HB2.out⟩
                case measure => have := HNX.out; simp [intOf] <;> omega
              · have HD : Hid (d = 1) := by
                  have := HG2.out i _ hx (.inr ⟨_, by rw [← hnx]; exact hy, hss⟩)
                  exact this
                have hd1 := HD.out
                subst hd1
                have hne : ¬ s'.toList = s.toList := by
                  rw [ByteArray.toList_eq, ByteArray.toList_eq]
                  intro h
                  exact hss (ByteArray.ext (Array.toList_inj.1 h))
                have hne' : (s'.toList == s.toList) = false := by simpa using hne
                clear hx hy g0 g2 e0 hnx hlast hss
                go_wp2_with fail
                refine wp_region_held_drew (S := (fun w' => w'.cell? ⟨b1, o1 + i * 5, none⟩ = some (.string s) ∧ w'.cell? ⟨b1, o1 + i * 5 + 2, none⟩ = some (.int .i64 1) ∧ w'.cell? ⟨b1, o1 + nx * 5, none⟩ = some (.string s') ∧ b1 < w'.heap.size)) (by kernel_rfl) (HMK.out _ k0) (fun hHeld => ?_)
                refine wpAnyH_takeL (i := 0) (v := ?_) rfl (by kernel_rfl) (by kernel_rfl) (by kernel_rfl) (fun _ _ _ h => h) (Or.inl ⟨by rfl, ?_⟩) hHeld ?_
                rotate_left
                · (intro w hSw; (try dsimp only at hSw); go_simp; try with_reducible rfl)
                try go_frame
                refine wpAnyH_takeL (i := 1) (v := ?_) rfl (by kernel_rfl) (by kernel_rfl) (by kernel_rfl) (fun _ _ _ h => h) (Or.inl ⟨by rfl, ?_⟩) hHeld ?_
                rotate_left
                · (intro w hSw; (try dsimp only at hSw); go_simp; try with_reducible rfl)
                try go_frame
                refine wpAnyH_takeL (i := 2) (v := ?_) rfl (by kernel_rfl) (by kernel_rfl) (by kernel_rfl) (fun _ _ _ h => h) (Or.inl ⟨by rfl, ?_⟩) hHeld ?_
                rotate_left
                · (intro w hSw; (try dsimp only at hSw); go_simp; try with_reducible rfl)
                try go_frame
                refine wpAnyH_takeL (i := 3) (v := ?_) rfl (by kernel_rfl) (by kernel_rfl) (by kernel_rfl) (fun _ _ _ h => h) (Or.inl ⟨by rfl, ?_⟩) hHeld ?_
                rotate_left
                · (intro w hSw; (try dsimp only at hSw); go_simp; try with_reducible rfl)
                try go_frame
                refine wpAnyH_takeL (i := 4) (v := ?_) rfl (by kernel_rfl) (by kernel_rfl) (by kernel_rfl) (fun _ _ _ h => h) (Or.inl ⟨by rfl, ?_⟩) hHeld ?_
                rotate_left
                · (intro w hSw; (try dsimp only at hSw); go_simp; try with_reducible rfl)
                try go_frame
                refine wpAnyH_takeL (i := 5) (v := ?_) rfl (by kernel_rfl) (by kernel_rfl) (by kernel_rfl) (fun _ _ _ h => h) (Or.inl ⟨by rfl, ?_⟩) hHeld ?_
                rotate_left
                · (intro w hSw; (try dsimp only at hSw); go_simp; try with_reducible rfl)
                try go_frame
                refine wpAnyH_takeL (i := 6) (v := ?_) rfl (by kernel_rfl) (by kernel_rfl) (by kernel_rfl) (fun _ _ _ h => h) (Or.inl ⟨by rfl, ?_⟩) hHeld ?_
                rotate_left
                · (intro w hSw; (try dsimp only at hSw); go_simp; try with_reducible rfl)
                try go_frame
                refine wpAnyH_takeL (i := 7) (v := ?_) rfl (by kernel_rfl) (by kernel_rfl) (by kernel_rfl) (fun _ _ _ h => h) (Or.inl ⟨by rfl, ?_⟩) hHeld ?_
                rotate_left
                · (intro w hSw; (try dsimp only at hSw); go_simp; try with_reducible rfl)
                try go_frame
                refine wpAnyH_takeL (i := 8) (v := ?_) rfl (by kernel_rfl) (by kernel_rfl) (by kernel_rfl) (fun _ _ _ h => h) (Or.inl ⟨by rfl, ?_⟩) hHeld ?_
                rotate_left
                · (intro w hSw; (try dsimp only at hSw); go_simp; try with_reducible rfl)
                try go_frame
                refine wpAnyH_takeL (i := 9) (v := ?_) rfl (by kernel_rfl) (by kernel_rfl) (by kernel_rfl) (fun _ _ _ h => h) (Or.inl ⟨by rfl, ?_⟩) hHeld ?_
                rotate_left
                · (intro w hSw; (try dsimp only at hSw); go_simp; try with_reducible rfl)
                try go_frame
                refine wpAnyH_takeL (i := 10) (v := ?_) rfl (by kernel_rfl) (by kernel_rfl) (by kernel_rfl) (fun _ _ _ h => h) (Or.inl ⟨by rfl, ?_⟩) hHeld ?_
                rotate_left
                · (intro w hSw; (try dsimp only at hSw); go_simp; try with_reducible rfl)
                try go_frame
                refine wpAnyH_takeL (i := 11) (v := ?_) rfl (by kernel_rfl) (by kernel_rfl) (by kernel_rfl) (fun _ _ _ h => h) (Or.inl ⟨by rfl, ?_⟩) hHeld ?_
                rotate_left
                · (intro w hSw; (try dsimp only at hSw); go_simp; try with_reducible rfl)
                try go_frame
                refine wpAnyH_takeL (i := 12) (v := ?_) rfl (by kernel_rfl) (by kernel_rfl) (by kernel_rfl) (fun _ _ _ h => h) (Or.inl ⟨by rfl, ?_⟩) hHeld ?_
                rotate_left
                · (intro w hSw; (try dsimp only at hSw); go_simp; try with_reducible rfl)
                try go_frame
                refine wpAnyH_takeL (i := 13) (v := ?_) rfl (by kernel_rfl) (by kernel_rfl) (by kernel_rfl) (fun _ _ _ h => h) (Or.inl ⟨by rfl, ?_⟩) hHeld ?_
                rotate_left
                · (intro w hSw; (try dsimp only at hSw); go_simp; try with_reducible rfl)
                try go_frame
                refine wpAnyH_takeL (i := 14) (v := ?_) rfl (by kernel_rfl) (by kernel_rfl) (by kernel_rfl) (fun _ _ _ h => h) (Or.inl ⟨by rfl, ?_⟩) hHeld ?_
                rotate_left
                · (intro w hSw; (try dsimp only at hSw); go_simp; try with_reducible rfl)
                try go_frame
                refine wpAnyH_takeL (i := 15) (v := ?_) rfl (by kernel_rfl) (by kernel_rfl) (by kernel_rfl) (fun _ _ _ h => h) (Or.inl ⟨by rfl, ?_⟩) hHeld ?_
                rotate_left
                · (intro w hSw; (try dsimp only at hSw); go_simp; try with_reducible rfl)
                try go_frame
                refine wpAnyH_takeL (i := 16) (v := ?_) rfl (by kernel_rfl) (by kernel_rfl) (by kernel_rfl) (fun _ _ _ h => h) (Or.inl ⟨by rfl, ?_⟩) hHeld ?_
                rotate_left
                · (intro w hSw; (try dsimp only at hSw); go_simp; try with_reducible rfl)
                try go_frame
                refine wpAnyH_takeL (i := 17) (v := ?_) rfl (by kernel_rfl) (by kernel_rfl) (by kernel_rfl) (fun _ _ _ h => h) (Or.inl ⟨by rfl, ?_⟩) hHeld ?_
                rotate_left
                · (intro w hSw; (try dsimp only at hSw); go_simp; try with_reducible rfl)
                try go_frame
                refine wpAnyH_takeL (i := 18) (v := ?_) rfl (by kernel_rfl) (by kernel_rfl) (by kernel_rfl) (fun _ _ _ h => h) (Or.inl ⟨by rfl, ?_⟩) hHeld ?_
                rotate_left
                · (intro w hSw; (try dsimp only at hSw); go_simp; try with_reducible rfl)
                try go_frame
                refine wpAnyH_takeL (i := 19) (v := ?_) rfl (by kernel_rfl) (by kernel_rfl) (by kernel_rfl) (fun _ _ _ h => h) (Or.inl ⟨by rfl, ?_⟩) hHeld ?_
                rotate_left
                · (intro w hSw; (try dsimp only at hSw); go_simp; try with_reducible rfl)
                try go_frame
                refine wpAnyH_takeL (i := 20) (v := ?_) rfl (by kernel_rfl) (by kernel_rfl) (by kernel_rfl) (fun _ _ _ h => h) (Or.inl ⟨by rfl, ?_⟩) hHeld ?_
                rotate_left
                · (intro w hSw; (try dsimp only at hSw); go_simp; try with_reducible rfl)
                try go_frame
                refine wpAnyH_takeL (i := 21) (v := ?_) rfl (by kernel_rfl) (by kernel_rfl) (by kernel_rfl) (fun _ _ _ h => h) (Or.inl ⟨by rfl, ?_⟩) hHeld ?_
                rotate_left
                · (intro w hSw; (try dsimp only at hSw); go_simp; try with_reducible rfl)
                try go_frame
                refine wpAnyH_takeL (i := 22) (v := ?_) rfl (by kernel_rfl) (by kernel_rfl) (by kernel_rfl) (fun _ _ _ h => h) (Or.inl ⟨by rfl, ?_⟩) hHeld ?_
                rotate_left
                · (intro w hSw; (try dsimp only at hSw); go_simp; try with_reducible rfl)
                try go_frame
                refine wpAnyH_takeL (i := 23) (v := ?_) rfl (by kernel_rfl) (by kernel_rfl) (by kernel_rfl) (fun _ _ _ h => h) (Or.inl ⟨by rfl, ?_⟩) hHeld ?_
                rotate_left
                · (intro w hSw; (try dsimp only at hSw); go_simp; try with_reducible rfl)
                try go_frame
                refine wpAnyH_takeL (i := 24) (v := ?_) rfl (by kernel_rfl) (by kernel_rfl) (by kernel_rfl) (fun _ _ _ h => h) (Or.inl ⟨by rfl, ?_⟩) hHeld ?_
                rotate_left
                · (intro w hSw; (try dsimp only at hSw); go_simp; try with_reducible rfl)
                try go_frame
                refine wpAnyH_takeL (i := 25) (v := ?_) rfl (by kernel_rfl) (by kernel_rfl) (by kernel_rfl) (fun _ _ _ h => h) (Or.inl ⟨by rfl, ?_⟩) hHeld ?_
                rotate_left
                · (intro w hSw; (try dsimp only at hSw); go_simp; try with_reducible rfl)
                try go_frame
                refine wpAnyH_takeL (i := 26) (v := ?_) rfl (by kernel_rfl) (by kernel_rfl) (by kernel_rfl) (fun _ _ _ h => h) (Or.inl ⟨by rfl, ?_⟩) hHeld ?_
                rotate_left
                · (intro w hSw; (try dsimp only at hSw); go_simp; try with_reducible rfl)
                try go_frame
                refine wpAnyH_done (by kernel_rfl) ?_ _
                clear HMK hHeld k0 HB
                go_wp2
                go_roundw
                case rel => exact ⟨nx, by omega, rfl, HB2.out⟩
                case measure => have := HNX.out; simp [intOf] <;> omega
          · have hilI : ¬ (i : Int) < (no : Int) := by omega
            have T6 : Hid (FqSt w wr g n c gs m cs ag ng cg L S F) := T5.out.below HB.out
            clear HB T5 HO5 HG2
            go_wp2_with fail
            refine (CI.out b 0 0 0 none [] _ T6.out.ol.entsAt ⟨rfl, Nat.le_refl _, Nat.zero_le _, (fun q hq => by cases hq), (fun _ => rfl), (fun x e => by cases e), (fun x e => by cases e)⟩ (by omega) T6.out.ol.lt.2).mono ?_
            rintro e w7 ⟨a7, n7, c7, rfl, hO7, hb7⟩
            have T7 : Hid (FqSt w w7 g n c gs m cs ag ng cg L S F) := T6.out.below hb7
            have h7 : n7 ≤ ng := by have h1 := hO7.len; have h2 := HGL.out; omega
            have h7I : (n7 : Int) ≤ (ng : Int) := by omega
            clear hO7 hb7 T6
            go_wp2_with fail
            refine (CI.out false _ m cs _ S _ T7.out.ol.entsAt T7.out.ot.ints (by omega) T7.out.ol.lt.2).mono ?_
            rintro e w8 ⟨a8, n8, c8, rfl, hO8, hb8⟩
            have T8 : Hid (FqSt w w8 g n c gs m cs ag ng cg L S F) := T7.out.below hb8
            have h8 : no ≤ n8 := by have h1 := hO8.len; have h2 := HL5.out; omega
            have h8I : (no : Int) ≤ (n8 : Int) := by omega
            clear hO8 hb8 T7
            go_wp2_with fail
            refine (wpKeys2_any g 0 n c L _ T8.out.ol.entsAt (by omega) T8.out.ol.lt.2).mono ?_
            rintro e w9 ⟨v9, c9, rfl, hb9⟩
            have HB9 : Hid (Below w.heap.size w w9) := (T8.out.below hb9).all
            obtain ⟨KN, hKN⟩ : ∃ KN, KN = (Sq.parts keyEq L).length := ⟨_, rfl⟩
            have hKn : KN ≤ 15 := by have := HKL.out; omega
            rw [← hKN] at G3 ⊢
            have h9 : ng ≤ KN * (m + 1) := by have := HGL.out; omega
            have hmul : IntKind.i64.wrap ((KN : Int) * ((m : Int) + 1)) = (KN : Int) * ((m : Int) + 1) := by
              have hb : KN * (m + 1) ≤ 15 * 4 := Nat.mul_le_mul hKn (by omega)
              have hc : ((KN * (m + 1) : Nat) : Int) = (KN : Int) * ((m : Int) + 1) := by simp
              rw [IntWalk.i64_left]
              unfold wrap64
              omega
            have h9I : (ng : Int) ≤ (KN : Int) * ((m : Int) + 1) := by
              have hc : ((KN * (m + 1) : Nat) : Int) = (KN : Int) * ((m : Int) + 1) := by simp
              omega
            have wm : IntKind.i64.wrap ((m : Int) + 1) = (m : Int) + 1 := by rw [IntWalk.i64_left]; unfold wrap64; omega
            clear hb9 T8 hKN
            go_wp2
            go_ret
            exact ⟨rfl, HB9.out⟩
  · have hlI : (1048576 : Int) < (len : Int) := by omega
    go_enter Try.func10, Try.ntmps10
    go_wp2
    go_ret
    exact ⟨rfl, Below.refl _ _⟩
end Go.Proofs.Ythhiahjafhkbbaa
