/-
  What the program's tallyOf makes of every list of postings, by a walk of its Go text.
-/
import Derived.Test.YtkeodfajgpbgaaaTallyW
import Derived.Maps.OwnIn
namespace Go.Proofs.Ytkeodfajgpbgaaa
open Go.RowKit

attribute [local go_sem] Oper.semAt_some

theorem accB_len (B : List PostD) (h : ∀ p ∈ B, p.2.length ≤ 4) : (accB B).length ≤ 4 * B.length := by
  have key : ∀ (B : List PostD) (A : List ByteArray), (∀ p ∈ B, p.2.length ≤ 4) → (B.foldl (fun A p => accL A p.2) A).length ≤ A.length + 4 * B.length := by
    intro B
    induction B with
    | nil => intro A _; simp
    | cons p r ih =>
      intro A h
      have h1 := ih (accL A p.2) (fun q hq => h q (List.mem_cons_of_mem _ hq))
      have h2 := accL_len A p.2
      have h3 := h p (List.mem_cons_self ..)
      simp only [List.foldl_cons, List.length_cons] at h1 ⊢
      omega
  have := key B [] h
  unfold accB
  simpa using this
theorem take_snocB {B : List PostD} {k : Nat} {p : PostD} (h : B[k]? = some p) : B.take (k + 1) = B.take k ++ [p] := by
  rw [List.take_add_one, h]
  rfl

theorem grown_tr {a b c : World} {R : Option Nat} (h : a.grownBy b R) (k : b.grownBy c R) : a.grownBy c R :=
  ⟨k.os.trans h.os, k.tape.trans h.tape, k.output.trans h.output, Nat.le_trans h.size k.size, fun i hi hn => (k.block i (Nat.lt_of_lt_of_le hi h.size) hn).trans (h.block i hi hn)⟩
theorem grown_set (w : World) (R o : Nat) (v : Value) : w.grownBy (w.setCell ⟨R, o, none⟩ v) (some R) :=
  ⟨rfl, rfl, rfl, by simp [World.setCell], fun k _ hk => Below.heap_setCell _ _ _ _ (fun e => hk (by rw [e]))⟩

/-- What tallyOf hands back. -/
def TallyR (B : List PostD) (w : World) (e : Ending) (w' : World) : Prop :=
  (bookB B = true ∧ ∃ T mi mb va, e = .returned (.tuple #[.agg #[.map (some mi), .map (some mb), va], .nilIface]) ∧ TallyAt w' T mi mb va B B [] (accB B) ∧ w.heap.size < mi ∧ w.heap.size < mb ∧ Below w.heap.size w w') ∨
  (bookB B = false ∧ ∃ c, ¬ c = 0 ∧ e = .returned (.tuple #[.agg #[.map none, .map none, .slice none 0 0], .iface 256 (.agg #[.int .i64 c])]) ∧ Below w.heap.size w w')

set_option maxRecDepth 100000 in
set_option maxHeartbeats 4000000 in
theorem implTally (a : Option Addr) (n c : Nat) (B : List PostD) (w : World) (hP : PostsAt w a n c B) :
    Calls Try.prog 97 #[.slice a n c] w fun e w' => TallyR B w e w' := by
  have hmm := @run_makeMap Try.prog
  have HLEN : Hid (B.length = n) := hP.length
  have hr := hP.room
  have hbg := hP.big
  unfold maxLen at hbg
  have HP : Hid (PostsAt w a n c B) := hP
  clear hP
  go_enter Try.func97, Try.ntmps97
  go_upto_region 2 with fail
  obtain ⟨R, hR⟩ : ∃ R, R = w.heap.size := ⟨_, rfl⟩
  obtain ⟨W, hW⟩ : ∃ W, W = (((w.alloc (.cells #[.map none, .map none, .slice none 0 0] 140)).alloc (.map #[] 0)).alloc (.map #[] 0)).alloc (.cells #[.map (some (w.heap.size + 1)), .map (some (w.heap.size + 1 + 1)), .slice none 0 0] 140) := ⟨_, rfl⟩
  have kW : Below w.heap.size w W := by rw [hW]; exact ((((Below.refl _ _).alloc (Nat.le_refl _) _).alloc (by simp) _).alloc (by simp; omega) _).alloc (by simp; omega) _
  have T0 : TallyAt W (R + 1 + 1 + 1) (R + 1) (R + 1 + 1) (.slice none 0 0) [] [] [] [] := by
    have o1 := ((World.ownsMap_made (w.alloc (.cells #[.map none, .map none, .slice none 0 0] 140)) Try.prog 3 (plainElem (H := Unit) Try.prog 3)).alloc (.map #[] 0)).alloc (.cells #[.map (some (w.heap.size + 1)), .map (some (w.heap.size + 1 + 1)), .slice none 0 0] 140)
    have o2 := (World.ownsMap_made ((w.alloc (.cells #[.map none, .map none, .slice none 0 0] 140)).alloc (.map #[] 0)) Try.prog 258 (plainElem (H := Unit) Try.prog 3)).alloc (.cells #[.map (some (w.heap.size + 1)), .map (some (w.heap.size + 1 + 1)), .slice none 0 0] 140)
    simp only [World.size_alloc] at o1 o2
    rw [← hW, ← hR] at o1 o2
    refine ⟨by simp [hW, hR, go_sem], by simp [hW, hR, go_sem], by simp [hW, hR, go_sem], by simp [hW, hR, go_sem], ⟨_, o1, idsIs_nil⟩, ⟨_, o2, balIs_nil⟩, World.ownsRow_nil _ _ _ _, by omega, by omega, by omega⟩
  have hRW : R + 1 ≤ W.heap.size := by rw [hW, hR]; simp
  have r0 : W.cell? ⟨R, 0, none⟩ = some (.map none) := by rw [hW, hR]; simp [go_sem]
  have r1 : W.cell? ⟨R, 1, none⟩ = some (.map none) := by rw [hW, hR]; simp [go_sem]
  have r2 : W.cell? ⟨R, 2, none⟩ = some (.slice none 0 0) := by rw [hW, hR]; simp [go_sem]
  have fR : ∀ o, W.frozen? ⟨R, o, none⟩ = false := by intro o; rw [hW, hR]; simp [go_sem]
  rw [← hW, ← hR]
  have HR : Hid (R = w.heap.size) := hR
  have HFR : Hid (∀ o, W.frozen? ⟨R, o, none⟩ = false) := fR
  have HRC : Hid (W.cell? ⟨R, 0, none⟩ = some (.map none) ∧ W.cell? ⟨R, 1, none⟩ = some (.map none) ∧ W.cell? ⟨R, 2, none⟩ = some (.slice none 0 0)) := ⟨r0, r1, r2⟩
  have HT0 : Hid (TallyAt W (R + 1 + 1 + 1) (R + 1) (R + 1 + 1) (.slice none 0 0) [] [] [] []) := T0
  have HKW : Hid (Below w.heap.size w W) := kW
  clear hW hR hmm T0 r0 r1 r2 fR kW
  go_wp2
  go_loopw [13] (fun i wr => ∃ (k : Nat) (va : Value), k ≤ n ∧ i = .int .i64 k ∧ TallyAt wr (R + 1 + 1 + 1) (R + 1) (R + 1 + 1) va (B.take k) (B.take k) [] (accB (B.take k)) ∧ Below (R + 1) W wr ∧ okUp B k = true) (fun i _ => n - (intOf i).toNat)
  case atStart => exact ⟨0, _, Nat.zero_le _, rfl, HT0.out, Below.refl _ _, rfl⟩
  case round =>
    obtain ⟨k, va, hk, rfl, Tk, hbk, hok⟩ := hrel
    have hb : Below w.heap.size w wr := HKW.out.trans (hbk.mono (by rw [← HR.out]; omega))
    have HOK : Hid (okUp B k = true) := hok
    have hk40 : k ≤ 40 := okUp_len (by rw [HLEN.out]; exact hk) hok
    have HGD : Hid (∀ p ∈ B.take k, postB p.1 p.2 = true) := okUp_good (by rw [HLEN.out]; exact hk) hok
    have hal : (accB (B.take k)).length ≤ 160 := by
      have h1 := accB_len (B.take k) (fun p hp => postB_len (HGD.out p hp))
      simp at h1
      omega
    have HTL : Hid ((B.take k).length = k) := by show (B.take k).length = k; rw [List.length_take, HLEN.out]; omega
    obtain ⟨rc0, rc1, rc2⟩ := HRC.out
    have q0 : wr.cell? ⟨R, 0, none⟩ = some (.map none) := (hbk.cell (p := ⟨R, 0, none⟩) (by show R < R + 1; omega)).trans rc0
    have q1 : wr.cell? ⟨R, 1, none⟩ = some (.map none) := (hbk.cell (p := ⟨R, 1, none⟩) (by show R < R + 1; omega)).trans rc1
    have q2 : wr.cell? ⟨R, 2, none⟩ = some (.slice none 0 0) := (hbk.cell (p := ⟨R, 2, none⟩) (by show R < R + 1; omega)).trans rc2
    have qf : ∀ o, wr.frozen? ⟨R, o, none⟩ = false := fun o => (hbk.frozen (p := ⟨R, o, none⟩) (by show R < R + 1; omega)).trans (HFR.out o)
    clear hok rc0 rc1 rc2
    by_cases hlt : k < n
    · obtain ⟨b, off, rfl, hbb⟩ := HP.out.form (by omega)
      obtain ⟨id, L, s, m, cm, hgk, hidw, g0', g1', hL0⟩ := HP.out.post (Below.refl _ w) k hlt
      have g0 := cell_later hb g0'
      have g1 := cell_later hb g1'
      have HLK : Hid (LegsAt wr s m cm L) := hL0.keep hb
      have HZ : Hid (∀ x, s = some x → 0 < m → x.block < R + 1) := fun x hx hm => by have := (hL0.lies x hx hm).1; rw [HR.out]; omega
      have hbk2 : b < wr.heap.size := World.block_lt_of_cell? _ _ g0
      have HGK : Hid (B[k]? = some (id, L)) := hgk
      have HTK : Hid (TallyAt wr (R + 1 + 1 + 1) (R + 1) (R + 1 + 1) va (B.take k) (B.take k) [] (accB (B.take k))) := Tk
      have HB : Hid (Below w.heap.size w wr) := hb
      have HBK : Hid (Below (R + 1) W wr) := hbk
      have hk40' : (B.take k).length ≤ 40 := by rw [HTL.out]; exact hk40
      have hRwr : R + 1 ≤ wr.heap.size := Nat.le_trans hRW hbk.size
      clear hgk hL0 Tk g0' g1' hb hbk
      obtain ⟨c, hc⟩ : ∃ c, c = codeP (B.take k) (id, L) := ⟨_, rfl⟩
      have HC : Hid (codeP (B.take k) (id, L) = c) := hc.symm
      clear hc
      go_wp2_with fail
      have kP : Below wr.heap.size wr (wr.alloc (.cells #[.int .i64 id, .slice s m cm] 65)) := (Below.refl _ _).alloc (Nat.le_refl _) _
      refine (implMay (R + 1 + 1 + 1) (R + 1) (R + 1 + 1) va (B.take k) (accB (B.take k)) id s m cm L _ (HTK.out.below kP) (HLK.out.keep kP) hk40').mono ?_
      rw [HC.out]
      rintro e w2 ⟨rfl, hb2⟩
      have k2 : Below wr.heap.size wr w2 := kP.trans (hb2.mono kP.size)
      have p0 : w2.cell? ⟨wr.heap.size, 0, none⟩ = some (.int .i64 id) := cell_later hb2 (by simp)
      have p1 : w2.cell? ⟨wr.heap.size, 1, none⟩ = some (.slice s m cm) := cell_later hb2 (by simp)
      have hpz : wr.heap.size < w2.heap.size := World.block_lt_of_cell? _ _ p0
      have r0 := cell_later k2 q0
      have r1 := cell_later k2 q1
      have r2 := cell_later k2 q2
      have f0 := (k2.frozen (p := ⟨R, 0, none⟩) hRwr).trans (qf 0)
      have f1 := (k2.frozen (p := ⟨R, 1, none⟩) hRwr).trans (qf 1)
      have f2 := (k2.frozen (p := ⟨R, 2, none⟩) hRwr).trans (qf 2)
      have hR2 : R < w2.heap.size := World.block_lt_of_cell? _ _ r0
      clear g0 g1 q0 q1 q2 qf hb2 kP hbk2
      by_cases hc0 : c = 0
      · subst hc0
        obtain ⟨hfair, hno, _, h39⟩ := codeP_zero HC.out
        have hpb := fair_post (p := (id, L)) hfair
        have HBZ : Hid (postB id L = true) := hpb
        have HNO : Hid (hasP (B.take k) id = false) := hno
        have HL39 : Hid ((B.take k).length < 40) := h39
        clear hfair hno h39 hpb
        have hnil : endV 0 = .nilIface := by simp [endV]
        rw [hnil]
        clear r0 r1 r2 f0 f1 f2 hR2
        go_wp2_with fail
        refine (implTake (R + 1) (R + 1 + 1 + 1) (R + 1) (R + 1 + 1) va (B.take k) (accB (B.take k)) id s m cm L _ (HTK.out.below k2) (HLK.out.keep k2) HL39.out (by omega) HBZ.out HNO.out HZ.out (Nat.le_refl _) (by omega) (Nat.le_trans hRwr k2.size)).mono ?_
        rintro e w3 ⟨va', rfl, hT3, hb3⟩
        have HT3 : Hid (TallyAt w3 (R + 1 + 1 + 1) (R + 1) (R + 1 + 1) va' (B.take k ++ [(id, L)]) (B.take k ++ [(id, L)]) [] (accL (accB (B.take k)) L)) := hT3
        have HB3 : Hid (Below (R + 1) W w3) := (HBK.out.trans (k2.mono hRwr)).trans hb3
        clear hT3 hb3 k2 p0 p1 hpz
        go_wp2
        go_roundw
        case rel =>
          refine ⟨k + 1, va', by omega, by go_num, ?_, HB3.out, ?_⟩
          · rw [take_snocB HGK.out, accB_snoc]; exact HT3.out
          · rw [okUp_take HGK.out, HOK.out]; simp [HC.out]
        case measure => simp [intOf]; omega
      · have hif : endV c = .iface 256 (.agg #[.int .i64 c]) := by simp [endV, hc0]
        rw [hif]
        have hB2 : Below w.heap.size w w2 := HB.out.trans (k2.mono HB.out.size)
        have hRle : w.heap.size ≤ R := by rw [HR.out]; exact Nat.le_refl _
        go_wp2
        refine bodyPost_ret (v := .tuple #[.agg #[.map none, .map none, .slice none 0 0], .iface 256 (.agg #[.int .i64 c])]) (by simp [results, Try.results97, go_sem, r0, r1, r2]) rfl (Or.inr ⟨bookB_false HGK.out (by rw [HC.out]; exact hc0), c, hc0, rfl, ?_⟩)
        exact ((hB2.setCell (p := ⟨R, 0, none⟩) hRle _).setCell (p := ⟨R, 1, none⟩) hRle _).setCell (p := ⟨R, 2, none⟩) hRle _
    · have hkn : k = n := by omega
      subst hkn
      obtain ⟨av, cv, rfl⟩ := row_slice Tk.row
      have HTK : Hid (TallyAt wr (R + 1 + 1 + 1) (R + 1) (R + 1 + 1) (.slice av (accB (B.take k)).length cv) (B.take k) (B.take k) [] (accB (B.take k))) := Tk
      have t0 := Tk.c0
      have t1 := Tk.c1
      have t2 := Tk.c2
      have hTz := World.block_lt_of_cell? _ _ t0
      have hRz := World.block_lt_of_cell? _ _ q0
      have f0 := qf 0
      have f1 := qf 1
      have f2 := qf 2
      clear Tk qf
      have hRle : w.heap.size ≤ R := by rw [HR.out]; exact Nat.le_refl _
      have HALL : Hid (B.take k = B) := List.take_of_length_le (by rw [HLEN.out]; exact Nat.le_refl _)
      have HBB : Hid (bookB B = true) := by show okUp B B.length = true; rw [HLEN.out]; exact HOK.out
      have HWR : Hid (Below w.heap.size w wr) := hb
      clear hb hbk
      go_wp2
      refine bodyPost_ret (v := .tuple #[.agg #[.map (some (R + 1)), .map (some (R + 1 + 1)), .slice av (accB (B.take k)).length cv], .nilIface]) (by simp [results, Try.results97, go_sem, q0, q1, q2]) rfl (Or.inl ⟨HBB.out, R + 1 + 1 + 1, R + 1, R + 1 + 1, .slice av (accB (B.take k)).length cv, rfl, ?_, by omega, by omega, ?_⟩)
      · have hg : wr.grownBy (((wr.setCell ⟨R, 0, none⟩ (.map (some (R + 1)))).setCell ⟨R, 1, none⟩ (.map (some (R + 1 + 1)))).setCell ⟨R, 2, none⟩ (.slice av (accB (B.take k)).length cv)) (some R) := grown_tr (grown_tr (grown_set _ _ _ _) (grown_set _ _ _ _)) (grown_set _ _ _ _)
        have := HTK.out.grown hg (by first | (simp; done) | (simp; omega)) (by first | (simp; done) | (simp; omega)) (by first | (simp; done) | (simp; omega)) (row_far HTK.out.row (by omega))
        rw [HALL.out] at this ⊢
        exact this
      · exact ((HWR.out.setCell (p := ⟨R, 0, none⟩) hRle _).setCell (p := ⟨R, 1, none⟩) hRle _).setCell (p := ⟨R, 2, none⟩) hRle _
end Go.Proofs.Ytkeodfajgpbgaaa
