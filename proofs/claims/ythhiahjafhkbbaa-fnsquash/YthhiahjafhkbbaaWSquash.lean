/-
  When two entries are one, as the model's comparison of structs tells it; lists that agree so far. No function of the program is walked here.
  That two lists of entries are one, by a walk of the laws' Go text.
  What the program's CellAll answers where a key has fewer than twenty entries up to the time, by a walk of its Go text.
  The walk of the law FnSquash: it answers true at all bytes: what is left of entries tells of each key the same at each time that is kept, and at the last.
-/
import Derived.Test.YthhiahjafhkbbaaEnts
import Derived.Test.YthhiahjafhkbbaaEntI
import Derived.Deep.QuietTactic
import Derived.Deep.LoopGhost
import Derived.BigQuiet
import Derived.Test.YthhiahjafhkbbaaStabF
import Derived.Test.YthhiahjafhkbbaaKindX
import Derived.Test.YthhiahjafhkbbaaOwnO
import Derived.Test.YthhiahjafhkbbaaPutE
import Derived.Test.YthhiahjafhkbbaaBox5
import Derived.Deep.RegionLaw
import Derived.Deep.RegionHeld3
import Derived.Test.YthhiahjafhkbbaaSqX
import Derived.Test.YthhiahjafhkbbaaSqG
import Derived.Test.YthhiahjafhkbbaaSqT
import Derived.Test.YthhiahjafhkbbaaDrawSq
namespace Go.Proofs.Ythhiahjafhkbbaa
open Go.RowKit

theorem bytes_ne {s s' : ByteArray} (h : ¬ s = s') : ¬ s.toList = s'.toList := fun e => h (by
  rw [ByteArray.toList_eq, ByteArray.toList_eq] at e
  obtain ⟨⟨x⟩⟩ := s
  obtain ⟨⟨y⟩⟩ := s'
  simpa using e)
set_option maxRecDepth 100000 in
theorem neq_ent_same (s t : ByteArray) (q d n : Int) (w : World) : (binOp .neq 54 (.agg #[.string s, .int .i64 q, .int .i64 d, .string t, .int .i64 n]) (.agg #[.string s, .int .i64 q, .int .i64 d, .string t, .int .i64 n])).run Try.prog w = .ok (.bool false) w := by
  have hs := run_equalIn_struct (P := Try.prog) w 9999 54 #[.string s, .int .i64 q, .int .i64 d, .string t, .int .i64 n] #[.string s, .int .i64 q, .int .i64 d, .string t, .int .i64 n] (by kernel_rfl) (by kernel_rfl)
  simp [binOp, Op.equal, Op.maxDepth, hs, go_sem, Try.underlying54]
set_option maxRecDepth 100000 in
theorem neq_ent_diff (s t : ByteArray) (q d n : Int) (s' t' : ByteArray) (q' d' n' : Int) (w : World) (h : ¬ ((s, q, d, t, n) : EntD) = (s', q', d', t', n')) : (binOp .neq 54 (.agg #[.string s, .int .i64 q, .int .i64 d, .string t, .int .i64 n]) (.agg #[.string s', .int .i64 q', .int .i64 d', .string t', .int .i64 n'])).run Try.prog w = .ok (.bool true) w := by
  have hs := run_equalIn_struct (P := Try.prog) w 9999 54 #[.string s, .int .i64 q, .int .i64 d, .string t, .int .i64 n] #[.string s', .int .i64 q', .int .i64 d', .string t', .int .i64 n'] (by kernel_rfl) (by kernel_rfl)
  by_cases h1 : s = s'
  · subst h1
    by_cases h2 : q = q'
    · subst h2
      by_cases h3 : d = d'
      · subst h3
        by_cases h4 : t = t'
        · subst h4
          have h5 : ¬ n = n' := fun e => h (by rw [e])
          simp [binOp, Op.equal, Op.maxDepth, hs, go_sem, Try.underlying54, h5]
        · have h4' := bytes_ne h4
          simp [binOp, Op.equal, Op.maxDepth, hs, go_sem, Try.underlying54, h4']
      · simp [binOp, Op.equal, Op.maxDepth, hs, go_sem, Try.underlying54, h3]
    · simp [binOp, Op.equal, Op.maxDepth, hs, go_sem, Try.underlying54, h2]
  · have h4 := bytes_ne h1
    simp [binOp, Op.equal, Op.maxDepth, hs, go_sem, Try.underlying54, h4]

theorem ents_eq_snoc {L1 L2 : List EntD} {k : Nat} {l : EntD} (h1 : L1[k]? = some l) (h2 : L2[k]? = some l) (h : L1.take k = L2.take k) : L1.take (k + 1) = L2.take (k + 1) := by
  rw [List.take_add_one, List.take_add_one, h1, h2, h]

end Go.Proofs.Ythhiahjafhkbbaa

namespace Go.Proofs.Ythhiahjafhkbbaa
open Go.RowKit

set_option maxHeartbeats 800000 in
theorem wpEnts_any (a1 a2 : Option Addr) (n1 c1 n2 c2 : Nat) (L1 L2 : List EntD) (w : World) (h1 : EntsAt w a1 n1 c1 L1) (h2 : EntsAt w a2 n2 c2 L2) :
    Calls Try.prog 31 #[.slice a1 n1 c1, .slice a2 n2 c2] w fun e w' => e = .returned (.bool (decide (L1 = L2))) ∧ Below w.heap.size w w' := by
  have HN1 : Hid (L1.length = n1) := h1.length
  have HN2 : Hid (L2.length = n2) := h2.length
  have hr1 := h1.room
  have hb1 := h1.big
  have hr2 := h2.room
  have hb2 := h2.big
  unfold maxLen at hb1 hb2
  have H1 : Hid (EntsAt w a1 n1 c1 L1) := h1
  have H2 : Hid (EntsAt w a2 n2 c2 L2) := h2
  clear h1 h2
  by_cases hn : n1 = n2
  · subst hn
    go_enter Try.func31, Try.ntmps31
    go_wp2
    go_loopw [5] (fun i wr => ∃ k : Nat, k ≤ n1 ∧ i = .int .i64 k ∧ Below w.heap.size w wr ∧ L1.take k = L2.take k) (fun i _ => n1 - (intOf i).toNat)
    case atStart => exact ⟨0, Nat.zero_le _, rfl, Below.refl _ _, rfl⟩
    case round =>
      obtain ⟨k, hk, rfl, hb, heq⟩ := hrel
      have HEQ : Hid (L1.take k = L2.take k) := heq
      clear heq
      by_cases hlt : k < n1
      · obtain ⟨x1, o1, rfl, hx1⟩ := H1.out.form (by omega)
        obtain ⟨x2, o2, rfl, hx2⟩ := H2.out.form (by omega)
        obtain ⟨s, q, d, t, n, hg, _, g0, g1, g2, g3, g4⟩ := H1.out.ent hb hx1 k hlt
        obtain ⟨s', q', d', t', n', hg', _, p0, p1, p2, p3, p4⟩ := H2.out.ent hb hx2 k hlt
        have HG : Hid (L1[k]? = some (s, q, d, t, n)) := hg
        have HG' : Hid (L2[k]? = some (s', q', d', t', n')) := hg'
        have hltI : (k : Int) < (n1 : Int) := by omega
        clear hg hg'
        by_cases hl : (s, q, d, t, n) = (s', q', d', t', n')
        · cases hl
          have hne := neq_ent_same s t q d n
          go_wp2_with fail
          go_quiet (fail)
          go_wp2
          go_roundw
          case rel => exact ⟨k + 1, by omega, by go_num, below_drewN hb _, ents_eq_snoc HG.out HG'.out HEQ.out⟩
          case measure => simp [intOf]; omega
        · have hne := fun w => neq_ent_diff s t q d n s' t' q' d' n' w hl
          have HD : Hid (¬ (s, q, d, t, n) = (s', q', d', t', n')) := hl
          clear hl
          go_wp2_with fail
          go_quiet (fail)
          go_wp2
          go_ret
          refine ⟨ret_bool (decide_eq_false ?_).symm, below_drewN hb _⟩
          intro e
          rw [e, HG'.out] at HG
          exact HD.out (by simpa [Hid] using HG.symm)
      · go_wp2
        go_ret
        refine ⟨ret_bool (decide_eq_true ?_).symm, hb⟩
        have := HEQ.out
        rw [List.take_of_length_le (by rw [HN1.out]; omega), List.take_of_length_le (by rw [HN2.out]; omega)] at this
        exact this
  · go_enter Try.func31, Try.ntmps31
    go_wp2
    go_ret
    refine ⟨ret_bool (decide_eq_false ?_).symm, Below.refl _ _⟩
    intro e
    rw [e, HN2.out] at HN1
    exact hn HN1.out.symm

end Go.Proofs.Ythhiahjafhkbbaa

namespace Go.Proofs.Ythhiahjafhkbbaa
open Go.RowKit

attribute [local go_sem] Oper.semAt_some

theorem OwnO.row {w : World} {base : Nat} {a : Option Addr} {n c : Nat} {L : List EntD} (h : OwnO w base a n c L) : w.ownsRow base 54 5 (.slice a n c) n (flatE L) := by
  cases a with
  | none =>
    obtain ⟨rfl, rfl, rfl⟩ := h.nil rfl
    exact ⟨rfl, Or.inl ⟨rfl, rfl⟩⟩
  | some x =>
    obtain ⟨g, rfl, hO⟩ := h.own x rfl
    exact hO.owns
theorem ents_none (w : World) : EntsAt w none 0 0 [] := ⟨rfl, Nat.le_refl _, Nat.zero_le _, (fun e h => by cases h), (fun _ => rfl), (fun x e => by cases e), (fun x e => by cases e)⟩

set_option maxRecDepth 100000 in
set_option maxHeartbeats 1000000 in
theorem insNil (fv : Value) (w : World) : Calls Try.prog 98 #[.slice none 0 0, .int .i64 0, .int .i64 0, fv] w fun e w' => e = .returned (.tuple #[]) ∧ w' = w := by
  go_enter Try.func98, Try.ntmps98
  go_wp2
  go_loopw [8] (fun vi wr => vi = .int .i64 1 ∧ wr = w) (fun _ _ => 0)
  case atStart => exact ⟨rfl, rfl⟩
  case round =>
    obtain ⟨rfl, rfl⟩ := hrel
    go_wp2
    go_end0
    exact ⟨rfl, rfl⟩

set_option maxRecDepth 100000 in
set_option maxHeartbeats 1000000 in
theorem stableNil (fv : Value) (w : World) : Calls Try.prog 79 #[.slice none 0 0, .int .i64 0, fv] w fun e w' => e = .returned (.tuple #[]) ∧ w' = w := by
  go_enter Try.func79, Try.ntmps79
  go_wp2
  go_loopw [7, 8] (fun va vb wr => va = .int .i64 0 ∧ vb = .int .i64 20 ∧ wr = w) (fun _ _ _ => 0)
  case atStart => exact ⟨rfl, rfl, rfl⟩
  case round =>
    obtain ⟨rfl, rfl, rfl⟩ := hrel
    go_wp2_with fail
    refine (insNil fv _).mono ?_
    rintro e w1 ⟨rfl, rfl⟩
    go_wp2
    go_loopw [6] (fun va wq => va = .int .i64 20 ∧ wq = w1) (fun _ _ => 0)
    case atStart => exact ⟨rfl, rfl⟩
    case round =>
      obtain ⟨rfl, rfl⟩ := hrel
      go_wp2
      go_end0
      exact ⟨rfl, rfl⟩

/-- What a sort of a row of the call's own leaves. -/
def SortedO (F : List EntD) (a : Option Addr) (n c base : Nat) (w : World) (e : Ending) (w' : World) : Prop :=
  e = .returned (.tuple #[]) ∧ EntsAt w' a n c (cutC F) ∧ (∀ B, B ≤ base → B ≤ w.heap.size → Below B w w')
theorem below_grownBy {w w' : World} {g B : Nat} (h : w.grownBy w' (some g)) (hB : B ≤ w.heap.size) (hg : B ≤ g) : Below B w w' :=
  (Below.refl _ _).grown h hB (fun k e => by cases e; exact hg)

set_option maxRecDepth 100000 in
set_option maxHeartbeats 1000000 in
theorem sortStable (a : Option Addr) (n c base : Nat) (F : List EntD) (w : World) (hO : OwnO w base a n c F) (hn : n < 20) :
    Calls Try.prog 51 #[.slice a n c, .func (.func 52) #[] #[]] w (SortedO F a n c base w) := by
  cases a with
  | none =>
    obtain ⟨rfl, rfl, rfl⟩ := hO.nil rfl
    clear hO
    go_enter Try.func51, Try.ntmps51
    go_wp2_with fail
    refine (stableNil _ _).mono ?_
    rintro e w1 ⟨rfl, rfl⟩
    go_wp2
    go_end0
    exact ⟨rfl, ents_none _, fun B _ _ => Below.refl _ _⟩
  | some x =>
    obtain ⟨g, rfl, hE⟩ := hO.own x rfl
    have HE : Hid (OwnE w base g n c F) := hE
    clear hO hE
    go_enter Try.func51, Try.ntmps51
    go_wp2_with fail
    refine (stableFew base g n c F _ HE.out hn).mono ?_
    rintro e w1 ⟨rfl, hE1, hG1⟩
    have HE1 : Hid (EntsAt w1 (some ⟨g, 0, none⟩) n c (cutC F)) := hE1
    have HG1 : Hid (w.grownBy w1 (some g)) := hG1
    clear hE1 hG1
    go_wp2
    go_end0
    exact ⟨rfl, HE1.out, fun B hB hw => below_grownBy HG1.out hw (Nat.le_trans hB HE.out.lt.1)⟩

/-- What lies where while an entry is done. -/
structure RndC (W wi : World) (E C : Nat) (s t : ByteArray) (q d n : Int) (v0 v1 v2 : Value) (a' : Option Addr) (n' c' : Nat) (D : List EntD) : Prop where
  low : Below W.heap.size W wi
  be : Box5 wi E (.string s) (.int .i64 q) (.int .i64 d) (.string t) (.int .i64 n)
  bc : Box3 wi C v0 v1 v2
  en : EntsAt wi a' n' c' D
theorem RndC.below {W wi wj : World} {E C : Nat} {s t : ByteArray} {q d n : Int} {v0 v1 v2 : Value} {a' : Option Addr} {n' c' : Nat} {D : List EntD} (h : RndC W wi E C s t q d n v0 v1 v2 a' n' c' D) (hb : Below wi.heap.size wi wj) : RndC W wj E C s t q d n v0 v1 v2 a' n' c' D :=
  ⟨h.low.trans (hb.mono h.low.size), h.be.below hb, h.bc.below hb, h.en.keep hb⟩
theorem RndC.set {W wi : World} {E C : Nat} {s t : ByteArray} {q d n : Int} {v0 v1 v2 : Value} {a' : Option Addr} {n' c' : Nat} {D : List EntD} (h : RndC W wi E C s t q d n v0 v1 v2 a' n' c' D) (hC : W.heap.size ≤ C) (hE : E ≠ C) (hA : ∀ x, a' = some x → 0 < n' → x.block ≠ C) (u0 u1 u2 : Value) :
    RndC W (((wi.setCell ⟨C, 0, none⟩ u0).setCell ⟨C, 1, none⟩ u1).setCell ⟨C, 2, none⟩ u2) E C s t q d n u0 u1 u2 a' n' c' D :=
  ⟨((h.low.setCell (p := ⟨C, 0, none⟩) hC _).setCell (p := ⟨C, 1, none⟩) hC _).setCell (p := ⟨C, 2, none⟩) hC _, ((h.be.other hE 0 _).other hE 1 _).other hE 2 _, h.bc.setAll _ _ _, ((h.en.setCell ⟨C, 0, none⟩ _ hA).setCell ⟨C, 1, none⟩ _ hA).setCell ⟨C, 2, none⟩ _ hA⟩
theorem doC_size {c : CellD} {e : EntD} {N : Nat} (h : c.2.1.size ≤ N) (h' : e.2.2.2.1.size ≤ N) : (doC c e).2.1.size ≤ N := cellN_size h h'

theorem foldC_size {N : Nat} : ∀ (D : List EntD) (c : CellD), c.2.1.size ≤ N → (∀ e ∈ D, e.2.2.2.1.size ≤ N) → (D.foldl doC c).2.1.size ≤ N
  | [], _, h, _ => h
  | e :: r, c, h, hD => foldC_size r (doC c e) (doC_size h (hD e List.mem_cons_self)) (fun x hx => hD x (List.mem_cons_of_mem _ hx))
theorem cellL_size {L : List EntD} {key : ByteArray} {seq : Int} {N : Nat} (h : ∀ e ∈ L, e.2.2.2.1.size ≤ N) : (cellL L key seq).2.1.size ≤ N :=
  foldC_size _ _ (Nat.zero_le _) (fun e he => h e (find_mem (cutC_mem.1 he)))

set_option maxRecDepth 100000 in
set_option maxHeartbeats 8000000 in
theorem implCellAll (a : Option Addr) (len cap : Nat) (L : List EntD) (key : ByteArray) (seq : Int) (w : World) (hL : EntsAt w a len cap L) (hlen : len ≤ 1048576) (hfew : (findL L key seq).length < 20) (htx : ∀ e ∈ L, e.2.2.2.1.size ≤ 281474976710656) :
    Calls Try.prog 22 #[.slice a len cap, .string key, .int .i64 seq] w fun e w' => e = .returned (cellV (cellL L key seq)) ∧ Below w.heap.size w w' := by
  obtain ⟨F, hF⟩ : ∃ F, F = findL L key seq := ⟨_, rfl⟩
  have HFF : Hid (F = findL L key seq) := hF
  have HLEN : Hid (L.length = len) := hL.length
  have HENTS : Hid (∀ l ∈ L, EntW l) := hL.ents
  have HTX : Hid (∀ e ∈ L, e.2.2.2.1.size ≤ 281474976710656) := htx
  have HFEW : Hid (F.length < 20) := by rw [hF]; exact hfew
  have hbl := hL.room
  have hbc := hL.big
  unfold maxLen at hbc
  have HL : Hid (EntsAt w a len cap L) := hL
  obtain ⟨RC, hRC⟩ : ∃ RC, RC = cellL L key seq := ⟨_, rfl⟩
  have HRC : Hid (RC = foldC (cutC F)) := by rw [hRC, hF]; rfl
  rw [← hRC]
  clear hL hF hfew htx hRC
  obtain ⟨i0, hi, hz0, hz1, hz2⟩ := info_parts Try.infoEnt
  obtain ⟨X, hX⟩ : ∃ X, X = w.heap.size := ⟨_, rfl⟩
  obtain ⟨W, hW⟩ : ∃ W, W = w.alloc (.cells #[.bool false, .string ⟨#[]⟩, .int .i64 0] 35) := ⟨_, rfl⟩
  have HBX : Hid (Box3 W X (.bool false) (.string ⟨#[]⟩) (.int .i64 0)) := by rw [hW, hX]; exact Box3.new _ _ _ _ _
  have HKW : Hid (Below w.heap.size w W) := by rw [hW]; exact (Below.refl _ _).alloc (Nat.le_refl _) _
  have HXW : Hid (X = w.heap.size) := hX
  have HWX : Hid (W.heap.size = X + 1) := by show W.heap.size = X + 1; rw [hW, hX]; simp
  have HLW : Hid (EntsAt W a len cap L) := HL.out.keep HKW.out
  go_enter Try.func22, Try.ntmps22
  go_wp2
  rw [← hW, ← hX]
  clear hW hX
  go_loopw [7, 15] (fun dv iv wr => ∃ (k n' c' : Nat) (a' : Option Addr), k ≤ len ∧ n' ≤ k ∧ iv = .int .i64 k ∧ dv = .slice a' n' c' ∧ OwnO wr W.heap.size a' n' c' (findL (L.take k) key seq) ∧ Below W.heap.size W wr) (fun _ iv _ => len - (intOf iv).toNat)
  case atStart => exact ⟨0, 0, 0, none, Nat.zero_le _, Nat.zero_le _, rfl, rfl, OwnO.none _ _, Below.refl _ _⟩
  case round =>
    obtain ⟨k, n', c', a', hk, hnk, rfl, rfl, hO, hb⟩ := hrel
    have HO : Hid (OwnO wr W.heap.size a' n' c' (findL (L.take k) key seq)) := hO
    clear hO
    by_cases hlt : k < len
    · obtain ⟨b, off, rfl, hbb⟩ := HLW.out.form (by omega)
      obtain ⟨s, q, d, t, n, hg, hlw, g0, g1, g2, g3, g4⟩ := HLW.out.ent hb hbb k hlt
      have HG : Hid (L[k]? = some (s, q, d, t, n)) := hg
      clear hg hlw
      have hbr : b < wr.heap.size := Nat.lt_of_lt_of_le hbb hb.size
      by_cases hks : s = key
      · subst hks
        by_cases hq : q ≤ seq
        · have HF : Hid (findL (L.take (k + 1)) s seq = findL (L.take k) s seq ++ [(s, q, d, t, n)]) := find_snoc_yes HG.out rfl hq
          go_wp2_with (at_builtin; refine wpList_append_own _ rfl _ _ 25 rfl W.heap.size 54 i0 _ 5 56 Try.underlying25 hi hz0 hz1 hz2 rfl (by decide) _ _ _ rfl ((HO.out.row.alloc _).alloc _) ⟨wr.heap.size + 1, 0, none⟩ 1 1 (flatE [(s, q, d, t, n)]) rfl rfl ?c1 (flatE_one _) ?c3 ?c4 ?c5 ?_)
          case c1 =>
            have he := ents_one (wr.alloc (.cells #[.string s, .int .i64 q, .int .i64 d, .string t, .int .i64 n] 54)) s t q d n (HENTS.out _ (List.mem_of_getElem? HG.out))
            simp only [World.size_alloc] at he
            exact ents_news he
          case c3 => unfold maxLen; omega
          case c4 => omega
          case c5 => have := hb.size; simp; omega
          intro v' w2 hown' hgrow hnil
          obtain ⟨g2, cap2, rfl⟩ : ∃ g cap, v' = .slice (some ⟨g, 0, none⟩) (n' + 1) cap := by
            rcases hown'.2 with ⟨hv, h0⟩ | ⟨g, cap, cur, hv, _⟩
            · omega
            · exact ⟨g, cap, hv⟩
          have hb2 : Below W.heap.size W w2 := ((hb.alloc hb.size _).alloc (by have := hb.size; simp; omega) _).grown hgrow (by have := hb.size; simp; omega) (fun q hq => (HO.out.row.lt q hq).1)
          have hO2 : OwnO w2 W.heap.size (some ⟨g2, 0, none⟩) (n' + 1) cap2 (findL (L.take (k + 1)) s seq) := by
            refine OwnO.some ⟨?_, ?_, fun l hl => HENTS.out l (List.mem_of_mem_take (find_mem hl))⟩
            · rw [HF.out, flatE_append]; exact hown'
            · rw [HF.out, List.length_append, HO.out.len]; rfl
          have HO2 : Hid (OwnO w2 W.heap.size (some ⟨g2, 0, none⟩) (n' + 1) cap2 (findL (L.take (k + 1)) s seq)) := hO2
          clear hown' hgrow hnil hO2
          go_wp2
          go_roundw
          case rel => exact ⟨k + 1, n' + 1, cap2, _, by omega, by omega, by go_num, rfl, HO2.out, hb2⟩
          case measure => simp [intOf]; omega
        · have HF : Hid (findL (L.take (k + 1)) s seq = findL (L.take k) s seq) := find_snoc_no HG.out (by simp; omega)
          go_wp2
          go_roundw
          case rel => exact ⟨k + 1, n', c', a', by omega, by omega, by go_num, rfl, by rw [HF.out]; exact HO.out.below ((Below.refl _ _).alloc (Nat.le_refl _) _), hb.alloc hb.size _⟩
          case measure => simp [intOf]; omega
      · have HF : Hid (findL (L.take (k + 1)) key seq = findL (L.take k) key seq) := find_snoc_no HG.out (fun h => hks h.1)
        have hne : ¬ s.toList = key.toList := by
          rw [ByteArray.toList_eq, ByteArray.toList_eq]
          intro h
          exact hks (ByteArray.ext (Array.toList_inj.1 h))
        have hne' : (s.toList == key.toList) = false := by simpa using hne
        clear hks
        go_wp2
        go_roundw
        case rel => exact ⟨k + 1, n', c', a', by omega, by omega, by go_num, rfl, by rw [HF.out]; exact HO.out.below ((Below.refl _ _).alloc (Nat.le_refl _) _), hb.alloc hb.size _⟩
        case measure => simp [intOf]; omega
    · have HO1 : Hid (OwnO wr W.heap.size a' n' c' F) := by
        have := HO.out
        rw [List.take_of_length_le (by rw [HLEN.out]; omega), ← HFF.out] at this
        exact this
      have hn20 : n' < 20 := by rw [← HO1.out.len]; exact HFEW.out
      have HFTX : Hid (∀ e ∈ cutC F, e.2.2.2.1.size ≤ 281474976710656) := fun e he => HTX.out e (find_mem (by rw [← HFF.out]; exact cutC_mem.1 he))
      clear HO
      go_wp2_with fail
      refine (sortStable a' n' c' W.heap.size F _ HO1.out hn20).mono ?_
      rintro e w2 ⟨rfl, hE2, hB2⟩
      have hb2 : Below W.heap.size W w2 := hb.trans (hB2 _ (Nat.le_refl _) hb.size)
      obtain ⟨C, hC⟩ : ∃ C, C = w2.heap.size := ⟨_, rfl⟩
      obtain ⟨w3, hw3⟩ : ∃ w3, w3 = w2.alloc (.cells #[.bool false, .string ⟨#[]⟩, .int .i64 0] 35) := ⟨_, rfl⟩
      have k3 : Below w2.heap.size w2 w3 := by rw [hw3]; exact (Below.refl _ _).alloc (Nat.le_refl _) _
      have HBC : Hid (Box3 w3 C (.bool false) (.string ⟨#[]⟩) (.int .i64 0)) := by rw [hw3, hC]; exact Box3.new _ _ _ _ _
      have HE3 : Hid (EntsAt w3 a' n' c' (cutC F)) := hE2.keep k3
      have HB3 : Hid (Below W.heap.size W w3) := hb2.trans (k3.mono hb2.size)
      have hCW : Hid (W.heap.size ≤ C) := by rw [hC]; exact hb2.size
      have HNE : Hid (∀ x, a' = some x → 0 < n' → x.block ≠ C) := fun x hx hp => by have := (hE2.lies x hx hp).1; rw [hC]; omega
      have HLD : Hid ((cutC F).length = n') := hE2.length
      have hroom := hE2.room
      have hbig := hE2.big
      unfold maxLen at hbig
      go_wp2
      rw [← hw3, ← hC]
      clear hw3 hC k3 hE2 hB2 hb2 hb HO1
      go_loopw [39] (fun iv wq => ∃ (k : Nat) (cc : CellD), k ≤ n' ∧ iv = .int .i64 k ∧ cc = foldC ((cutC F).take k) ∧ Below W.heap.size W wq ∧ Box3 wq C (.bool cc.1) (.string cc.2.1) (.int .i64 cc.2.2) ∧ EntsAt wq a' n' c' (cutC F) ∧ cc.2.1.size ≤ 281474976710656) (fun iv _ => n' - (intOf iv).toNat)
      case atStart => exact ⟨0, (false, ⟨#[]⟩, 0), Nat.zero_le _, rfl, rfl, HB3.out, HBC.out, HE3.out, Nat.zero_le _⟩
      case round =>
      obtain ⟨k, cc, hk, rfl, hcc, hb, hbx, hen, hcs⟩ := hrel
      clear HB3 HBC HE3
      have HEN : Hid (EntsAt wr a' n' c' (cutC F)) := hen
      have HCC : Hid (cc = foldC ((cutC F).take k)) := hcc
      have HBX3 : Hid (Box3 wr C (.bool cc.1) (.string cc.2.1) (.int .i64 cc.2.2)) := hbx
      have HCS : Hid (cc.2.1.size ≤ 281474976710656) := hcs
      clear hen hcc hbx hcs
      by_cases hlt2 : k < n'
      · obtain ⟨b, off, rfl, hbb⟩ := HEN.out.form (by omega)
        obtain ⟨s, q, d, t, n, hg, hlw, g0, g1, g2, g3, g4⟩ := HEN.out.ent (Below.refl wr.heap.size wr) hbb k hlt2
        have HG : Hid ((cutC F)[k]? = some (s, q, d, t, n)) := hg
        clear hg hlw
        obtain ⟨T, G, hkind, hm, eg, hdo⟩ := kind_any cc.1 cc.2.1 s t cc.2.2 q d n
        obtain ⟨dc, hdc⟩ : ∃ dc, dc = cellN cc.1 cc.2.1 cc.2.2 d t n := ⟨_, rfl⟩
        rw [← hdc] at hdo
        have HDC : Hid (dc = doC (foldC ((cutC F).take k)) (s, q, d, t, n)) := by rw [hdc, ← HCC.out]; rfl
        have HDS : Hid (dc.2.1.size ≤ 281474976710656) := by rw [hdc]; exact cellN_size HCS.out (HFTX.out _ (List.mem_of_getElem? HG.out))
        clear hdc
        go_upto_region 13 with fail
        obtain ⟨E, hE⟩ : ∃ E, E = wr.heap.size := ⟨_, rfl⟩
        obtain ⟨wq, hwq⟩ : ∃ wq, wq = wr.alloc (.cells #[.string s, .int .i64 q, .int .i64 d, .string t, .int .i64 n] 54) := ⟨_, rfl⟩
        have kq : Below wr.heap.size wr wq := by rw [hwq]; exact (Below.refl _ _).alloc (Nat.le_refl _) _
        have hEC : Hid (E ≠ C) := by have := HBX3.out.lt; show E ≠ C; omega
        have k0 : RndC W wq.drew E C s t q d n (.bool cc.1) (.string cc.2.1) (.int .i64 cc.2.2) (some ⟨b, off, none⟩) n' c' (cutC F) :=
          RndC.below ⟨hb.trans (kq.mono hb.size), by rw [hwq, hE]; exact Box5.new _ _ _ _ _ _ _, HBX3.out.below kq, HEN.out.keep kq⟩ (Below.refl _ _).drew
        rw [← hwq, ← hE]
        clear hwq hE kq g0 g1 g2 g3 g4 HEN HBX3 hb hbb
        refine wp_region_held_drew (S := (fun w' => w'.cell? ⟨E, 0, none⟩ = some (.string s) ∧ w'.cell? ⟨E, 1, none⟩ = some (.int .i64 q) ∧ w'.cell? ⟨E, 2, none⟩ = some (.int .i64 d) ∧ w'.cell? ⟨E, 3, none⟩ = some (.string t) ∧ w'.cell? ⟨E, 4, none⟩ = some (.int .i64 n) ∧ E < w'.heap.size)) (by kernel_rfl) (⟨k0.be.c0, k0.be.c1, k0.be.c2, k0.be.c3, k0.be.c4, k0.be.lt⟩) (fun hHeld => ?_)
        generalize wq.drew = wd at k0 hHeld ⊢
        refine wpAnyH_takeL (i := 0) (v := ?_) rfl (by kernel_rfl) (by kernel_rfl) (by kernel_rfl) (fun _ _ _ h => h) (Or.inl ⟨by rfl, ?_⟩) hHeld ?_
        rotate_left
        · (intro w hSw; (try dsimp only at hSw); go_simp; try with_reducible rfl)
        try go_frame
        refine wpAnyH_takeL (i := 3) (v := ?_) rfl (by kernel_rfl) (by kernel_rfl) (by kernel_rfl) (fun _ _ _ h => h) (Or.inl ⟨by rfl, ?_⟩) hHeld ?_
        rotate_left
        · (intro w hSw; (try dsimp only at hSw); go_simp; try with_reducible rfl)
        try go_frame
        refine wpAnyH_ready (rs := [1, 2]) (by kernel_rfl) (by simp) ?_
        refine consL rfl (fun K hK => ?_) (consL rfl (fun K hK => ?_) AllReadyH.nil)
        · go_simp
          refine (hkind _).mono ?_
          rintro e wv1 ⟨rfl, bb1⟩
          have kk1 := k0.below bb1
          go_wp2_with fail
          refine hK.out _ _ (⟨kk1.be.c0, kk1.be.c1, kk1.be.c2, kk1.be.c3, kk1.be.c4, kk1.be.lt⟩) (fun hHeld => ?_)
          clear hK K
          try go_frame
          refine wpAnyH_ready (rs := [2]) (by kernel_rfl) (by simp) ?_
          refine consL rfl (fun K hK => ?_) AllReadyH.nil
          have c0 := kk1.bc.c0
          have c1 := kk1.bc.c1
          have c2 := kk1.bc.c2
          have cl := kk1.bc.lt
          go_simp
          clear c0 c1 c2 cl
          refine hK.out _ _ (⟨kk1.be.c0, kk1.be.c1, kk1.be.c2, kk1.be.c3, kk1.be.c4, kk1.be.lt⟩) (fun hHeld => ?_)
          clear hK K
          try go_frame
          refine wpAnyH_ready (rs := [4]) (by kernel_rfl) (by simp) ?_
          refine consL rfl (fun K hK => ?_) AllReadyH.nil
          go_simp
          refine (hdo _).mono ?_
          rintro e wv2 ⟨rfl, bb2⟩
          have kk2 := kk1.below bb2
          unfold cellV
          go_wp2_with fail
          refine hK.out _ _ (⟨kk2.be.c0, kk2.be.c1, kk2.be.c2, kk2.be.c3, kk2.be.c4, kk2.be.lt⟩) (fun hHeld => ?_)
          clear hK K
          try go_frame
          refine wpAnyH_ready (rs := [5]) (by kernel_rfl) (by simp) ?_
          refine consL rfl (fun K hK => ?_) AllReadyH.nil
          have c0 := kk2.bc.c0
          have c1 := kk2.bc.c1
          have c2 := kk2.bc.c2
          have cl := kk2.bc.lt
          have f0 := kk2.bc.fr 0
          have f1 := kk2.bc.fr 1
          have f2 := kk2.bc.fr 2
          go_simp
          have kk3 := kk2.set hCW.out hEC.out HNE.out (.bool dc.1) (.string dc.2.1) (.int .i64 dc.2.2)
          clear c0 c1 c2 cl f0 f1 f2
          refine hK.out _ _ (⟨kk3.be.c0, kk3.be.c1, kk3.be.c2, kk3.be.c3, kk3.be.c4, kk3.be.lt⟩) (fun hHeld => ?_)
          clear hK K
          try go_frame
          refine wpAnyH_done (by kernel_rfl) ?_ _
          have HK : Hid (RndC W _ E C s t q d n (.bool dc.1) (.string dc.2.1) (.int .i64 dc.2.2) (some ⟨b, off, none⟩) n' c' (cutC F)) := kk3
          clear hkind hm eg hdo
          go_wp2
          go_roundw
          case rel => exact ⟨k + 1, dc, by omega, by go_num, HDC.out.trans (foldC_take HG.out).symm, HK.out.low, HK.out.bc, HK.out.en, HDS.out⟩
          case measure => simp [intOf]; omega
        · have c0 := k0.bc.c0
          have c1 := k0.bc.c1
          have c2 := k0.bc.c2
          have cl := k0.bc.lt
          go_simp
          clear c0 c1 c2 cl
          refine hK.out _ _ (⟨k0.be.c0, k0.be.c1, k0.be.c2, k0.be.c3, k0.be.c4, k0.be.lt⟩) (fun hHeld => ?_)
          clear hK K
          try go_frame
          refine wpAnyH_ready (rs := [1]) (by kernel_rfl) (by simp) ?_
          refine consL rfl (fun K hK => ?_) AllReadyH.nil
          go_simp
          refine (hkind _).mono ?_
          rintro e wv4 ⟨rfl, bb4⟩
          have kk4 := k0.below bb4
          go_wp2_with fail
          refine hK.out _ _ (⟨kk4.be.c0, kk4.be.c1, kk4.be.c2, kk4.be.c3, kk4.be.c4, kk4.be.lt⟩) (fun hHeld => ?_)
          clear hK K
          try go_frame
          refine wpAnyH_ready (rs := [4]) (by kernel_rfl) (by simp) ?_
          refine consL rfl (fun K hK => ?_) AllReadyH.nil
          go_simp
          refine (hdo _).mono ?_
          rintro e wv5 ⟨rfl, bb5⟩
          have kk5 := kk4.below bb5
          unfold cellV
          go_wp2_with fail
          refine hK.out _ _ (⟨kk5.be.c0, kk5.be.c1, kk5.be.c2, kk5.be.c3, kk5.be.c4, kk5.be.lt⟩) (fun hHeld => ?_)
          clear hK K
          try go_frame
          refine wpAnyH_ready (rs := [5]) (by kernel_rfl) (by simp) ?_
          refine consL rfl (fun K hK => ?_) AllReadyH.nil
          have c0 := kk5.bc.c0
          have c1 := kk5.bc.c1
          have c2 := kk5.bc.c2
          have cl := kk5.bc.lt
          have f0 := kk5.bc.fr 0
          have f1 := kk5.bc.fr 1
          have f2 := kk5.bc.fr 2
          go_simp
          have kk6 := kk5.set hCW.out hEC.out HNE.out (.bool dc.1) (.string dc.2.1) (.int .i64 dc.2.2)
          clear c0 c1 c2 cl f0 f1 f2
          refine hK.out _ _ (⟨kk6.be.c0, kk6.be.c1, kk6.be.c2, kk6.be.c3, kk6.be.c4, kk6.be.lt⟩) (fun hHeld => ?_)
          clear hK K
          try go_frame
          refine wpAnyH_done (by kernel_rfl) ?_ _
          have HK : Hid (RndC W _ E C s t q d n (.bool dc.1) (.string dc.2.1) (.int .i64 dc.2.2) (some ⟨b, off, none⟩) n' c' (cutC F)) := kk6
          clear hkind hm eg hdo
          go_wp2
          go_roundw
          case rel => exact ⟨k + 1, dc, by omega, by go_num, HDC.out.trans (foldC_take HG.out).symm, HK.out.low, HK.out.bc, HK.out.en, HDS.out⟩
          case measure => simp [intOf]; omega
      · have HKN : Hid (RC = cc) := by show RC = cc; rw [HRC.out, HCC.out, List.take_of_length_le (by rw [HLD.out]; omega)]
        have c0 := HBX3.out.c0
        have c1 := HBX3.out.c1
        have c2 := HBX3.out.c2
        have cl := HBX3.out.lt
        obtain ⟨cb, ct, cn⟩ := cc
        simp only at c0 c1 c2
        go_wp2_with fail
        refine (cloneCell_any (cb, ct, cn) _ HCS.out).mono ?_
        rintro e w4 ⟨rfl, hb4⟩
        have HBX4 : Box3 w4 X (.bool false) (.string ⟨#[]⟩) (.int .i64 0) := (HBX.out.below hb).below hb4
        have x0 := HBX4.c0
        have x1 := HBX4.c1
        have x2 := HBX4.c2
        have xl := HBX4.lt
        have f0 := HBX4.fr 0
        have f1 := HBX4.fr 1
        have f2 := HBX4.fr 2
        have K4 : Hid (Below w.heap.size w w4) := HKW.out.trans ((hb.trans (hb4.mono hb.size)).mono HKW.out.size)
        have hXw : Hid (w.heap.size ≤ X) := by show w.heap.size ≤ X; rw [HXW.out]; exact Nat.le_refl _
        clear HBX4 hb4 c0 c1 c2 cl hb
        unfold cellV
        simp only
        go_wp2
        refine bodyPost_ret (v := .agg #[.bool cb, .string ct, .int .i64 cn]) (by simp [results, Try.results22, go_sem, x0, x1, x2]) rfl ⟨by rw [HKN.out]; rfl, ?_⟩
        exact ((K4.out.setCell (p := ⟨X, 0, none⟩) hXw.out _).setCell (p := ⟨X, 1, none⟩) hXw.out _).setCell (p := ⟨X, 2, none⟩) hXw.out _
end Go.Proofs.Ythhiahjafhkbbaa

namespace Go.Proofs.Ythhiahjafhkbbaa
open Go.RowKit

set_option maxRecDepth 100000 in
theorem neqC_same (b : Bool) (t : ByteArray) (n : Int) (w : World) : (binOp .neq 35 (.agg #[.bool b, .string t, .int .i64 n]) (.agg #[.bool b, .string t, .int .i64 n])).run Try.prog w = .ok (.bool false) w := by
  have hs := run_equalIn_struct (P := Try.prog) w 9999 35 #[.bool b, .string t, .int .i64 n] #[.bool b, .string t, .int .i64 n] (by kernel_rfl) (by kernel_rfl)
  simp [binOp, Op.equal, Op.maxDepth, hs, go_sem, Try.underlying35]

/-! Keys and times of what is left. -/
def kq (e : EntD) : ByteArray × Int := (e.1, e.2.1)
theorem cl_sub (b : Bool) : ∀ c : List EntD, ((clS b c).map kq).Sublist (c.map kq)
  | [] => List.Sublist.refl _
  | e :: R => by
    show ((classG b e.1 e.2.1 (e :: R)).map kq).Sublist _
    unfold classG
    by_cases h1 : sumOkB (joinG true 0 (e :: R)).2.2 = true
    · rw [if_pos h1]
      by_cases h2 : b = true ∧ (joinG true 0 (e :: R)).1 = 2
      · rw [if_pos h2]; exact List.nil_sublist _
      · rw [if_neg h2]
        simp only [List.map_cons, List.map_nil, kq]
        exact List.Sublist.cons_cons _ (List.nil_sublist _)
    · rw [if_neg h1]; exact List.Sublist.refl _
theorem left_sub (bottom : Bool) : ∀ Cs : List (List EntD), ((Cs.foldr (Sq.stepD clS) (bottom, [])).2.map kq).Sublist (Cs.flatten.map kq)
  | [] => List.Sublist.refl _
  | c :: Cs => by
    have ih := left_sub bottom Cs
    rw [List.foldr_cons, List.flatten_cons, List.map_append]
    generalize Cs.foldr (Sq.stepD clS) (bottom, []) = st at ih ⊢
    show ((clS st.1 c ++ st.2).map kq).Sublist _
    rw [List.map_append]
    exact List.Sublist.append (cl_sub _ c) ih
theorem flat_sub (S : List Int) (bottom : Bool) : ∀ Gs : List (List EntD), ((Gs.flatMap (leftS S bottom)).map kq).Sublist (Gs.flatten.map kq)
  | [] => List.Sublist.refl _
  | G :: Gs => by
    have ih := flat_sub S bottom Gs
    have h := left_sub bottom (Sq.parts (cutB S) G)
    rw [Sq.parts_flat] at h
    rw [List.flatMap_cons, List.flatten_cons, List.map_append, List.map_append]
    exact List.Sublist.append h ih
theorem squash_pair {L : List EntD} (h : L.Pairwise (fun a b => lessB a.1 a.2.1 b.1 b.2.1 = true)) (S : List Int) (bottom : Bool) : (squashL L S bottom).Pairwise (fun a b => lessB a.1 a.2.1 b.1 b.2.1 = true) := by
  unfold squashL
  by_cases hr : rightB L = true
  · rw [if_pos hr]
    have hs := flat_sub S bottom (Sq.parts keyEq L)
    rw [Sq.parts_flat] at hs
    have h1 : (L.map kq).Pairwise (fun a b => lessB a.1 a.2 b.1 b.2 = true) := List.pairwise_map.2 h
    exact List.pairwise_map.1 (h1.sublist hs)
  · rw [if_neg hr]; exact List.Pairwise.nil
theorem squash_small {L : List EntD} (hr : rightB L = true) (S : List Int) (bottom : Bool) : ∀ e ∈ squashL L S bottom, SmE e := by
  unfold squashL
  rw [if_pos hr]
  intro e he
  obtain ⟨G, hG, heG⟩ := List.mem_flatMap.1 he
  have key : ∀ Cs : List (List EntD), (∀ c ∈ Cs, ∀ e ∈ c, SmE e) → ∀ e ∈ (Cs.foldr (Sq.stepD clS) (bottom, [])).2, SmE e := by
    intro Cs
    induction Cs with
    | nil => intro _ e he; cases he
    | cons c Cs ih =>
      intro h e he
      have ih' := ih (fun x hx => h x (List.mem_cons_of_mem _ hx))
      rw [List.foldr_cons] at he
      generalize Cs.foldr (Sq.stepD clS) (bottom, []) = st at ih' he
      have he' : e ∈ clS st.1 c ++ st.2 := he
      rcases List.mem_append.1 he' with h1 | h1
      · exact clS_small _ c (h c List.mem_cons_self) e h1
      · exact ih' e h1
  exact key _ (fun c hc e he => right_sm hr e ((part_len _ _ G hG).2 e ((part_len _ _ c hc).2 e he))) e heG
theorem cell_squash {L : List EntD} (hr : rightB L = true) (S : List Int) (bottom : Bool) (key : ByteArray) (t : Int) (ht : t ∈ S ∨ 100000 ≤ t) : cellL (squashL L S bottom) key t = cellL L key t := by
  rw [cell_ev (squash_pair (right_pair hr) S bottom), cell_ev (right_pair hr), squash_tells hr S bottom key t ht]
theorem right_all {L : List EntD} {n : Nat} (hl : L.length = n) (h1 : ∀ e ∈ L, entB e.1 e.2.1 e.2.2.1 e.2.2.2.1 e.2.2.2.2 = true) (h2 : ∀ j, 1 ≤ j → j < n → ∀ x y, L[j - 1]? = some x → L[j]? = some y → lessB x.1 x.2.1 y.1 y.2.1 = true) : rightB L = true := by
  refine right_of (k := n) (fun j hj => ?_) (by omega)
  have hjl : j < L.length := by omega
  have he := List.getElem?_eq_getElem hjl
  match j, hj, hjl, he with
  | 0, _, hjl, he => rw [okAt_zero he]; exact h1 _ (List.getElem_mem hjl)
  | j + 1, hj, hjl, he =>
    have hd := List.getElem?_eq_getElem (l := L) (i := j) (by omega)
    rw [okAt_succ he hd, h1 _ (List.getElem_mem hjl), h2 (j + 1) (by omega) hj _ _ (show L[j + 1 - 1]? = _ from hd) he]
    rfl

/-- What lies where. -/
structure FqSt (w wi : World) (g n c gt nt ct : Nat) (ag : Option Addr) (ng cg : Nat) (L : List EntD) (T : List Int) (F : List EntD) : Prop where
  all : Below w.heap.size w wi
  ol : OwnE wi w.heap.size g n c L
  ot : OwnN wi w.heap.size gt nt ct T
  og : OwnO wi w.heap.size ag ng cg F
theorem FqSt.below {w wi wj : World} {g n c gt nt ct : Nat} {ag : Option Addr} {ng cg : Nat} {L : List EntD} {T : List Int} {F : List EntD} (h : FqSt w wi g n c gt nt ct ag ng cg L T F) (hb : Below wi.heap.size wi wj) : FqSt w wj g n c gt nt ct ag ng cg L T F :=
  ⟨h.all.trans (hb.mono h.all.size), h.ol.below hb, h.ot.below hb, h.og.below hb⟩
theorem own_last (w : World) (base : Nat) (h : base ≤ w.heap.size) : OwnN (w.alloc (.cells #[.int .i64 100000] 3)) base w.heap.size 1 1 [100000] :=
  ⟨by have := World.ownsRow_lit (base := base) (e := 3) (size := 1) w #[.int .i64 100000] 1 h (by unfold maxLen; omega) (by simp); simpa using this, rfl, fun q hq => by
    simp only [List.mem_cons, List.not_mem_nil, or_false] at hq
    subst hq
    decide⟩
theorem ints_news {w : World} {lo g n c : Nat} {S : List Int} (h : IntsIn lo w (some ⟨g, 0, none⟩) n c S) : ∀ j u, (S.map (Value.int .i64))[j]? = some u → w.cell? ((⟨g, 0, none⟩ : Addr).add j) = some u := by
  intro j u hj
  rw [List.getElem?_map] at hj
  by_cases hl : j < S.length
  · rw [List.getElem?_eq_getElem hl] at hj
    simp at hj
    subst hj
    rw [Go.WideShapes.add_plain]
    exact h.cells _ rfl j hl
  · rw [List.getElem?_eq_none (by omega)] at hj; cases hj
theorem fq_some {w : World} {base : Nat} {e : TypeId} {size k X m : Nat} {v : Value} {xs : List Value} (h : w.ownsRow base e size v k xs) (hn : v = .slice none 0 0 ↔ Value.slice (some ⟨X, 0, none⟩) 1 1 = .slice none 0 0 ∧ m = 0) : ∃ g cap, v = .slice (some ⟨g, 0, none⟩) k cap := by
  rcases h.2 with ⟨hv, h0⟩ | ⟨g, cap, _, rfl, _⟩
  · have := (hn.1 hv).1; cases this
  · exact ⟨g, cap, rfl⟩
theorem fqA {w w5 w6 : World} {X g n c gs m cs g6 c6 : Nat} {ag : Option Addr} {ng cg : Nat} {L : List EntD} {S : List Int} {F : List EntD} (hX : OwnN w5 w.heap.size X 1 1 [100000]) (hall : Below w.heap.size w w5) (hol : OwnE w5 w.heap.size g n c L) (hos : OwnN w5 w.heap.size gs m cs S) (hog : OwnO w5 w.heap.size ag ng cg F) (h1 : g ≠ X) (h2 : ∀ x, ag = some x → x.block ≠ X)
    (hown : w6.ownsRow w.heap.size 3 1 (.slice (some ⟨g6, 0, none⟩) (1 + m) c6) (1 + m) (([100000] : List Int).map (Value.int .i64) ++ S.map (Value.int .i64))) (hgrow : w5.grownBy w6 (Value.slice (some ⟨X, 0, none⟩) 1 1).ownBlock) : FqSt w w6 g n c g6 (1 + m) c6 ag ng cg L (100000 :: S) F := by
  have hg' : w5.grownBy w6 (some X) := by simpa [Value.ownBlock] using hgrow
  refine ⟨hall.grown hg' hall.size (fun k e => by cases e; exact hX.lt.1), hol.grown hg' (fun e => h1 (Option.some.inj e)), ⟨by simpa using hown, by rw [List.length_cons, hos.len]; omega, fun x hx => ?_⟩, hog.grown hg' (fun x e e' => h2 x e (by cases e'; rfl))⟩
  rcases List.mem_cons.1 hx with rfl | hx
  · decide
  · exact hos.wfs x hx

set_option maxRecDepth 100000 in
set_option maxHeartbeats 8000000 in
theorem walkFnSquash (a : Option Addr) (len cap : Nat) (w : World) (h : BytesAt w a len cap) :
    Calls Try.prog 6 #[.slice a len cap] w fun e w' => e = .returned (.bool true) ∧ Below w.heap.size w w' := by
  by_cases hl : len ≤ 1048576
  · have hlI : ¬ (1048576 : Int) < (len : Int) := by omega
    obtain ⟨i0, hi, hz0, hz1, hz2⟩ := info_parts Try.infoInt
    have CD := drawSq_any a len cap w h
    clear h
    go_enter Try.func6, Try.ntmps6
    go_wp2_with fail
    refine CD.mono ?_
    rintro e w1 ⟨g, n, c, L, gs, m, cs, S, b, rfl, hO, hN, hD, hm, hS, hgs, hb1⟩
    have HB1 : Hid (Below w.heap.size w w1) := hb1
    have HO1 : Hid (OwnE w1 w.heap.size g n c L) := hO
    have HN1 : Hid (OwnN w1 w.heap.size gs m cs S) := hN
    have HLN : Hid (L.length = n) := hO.len
    have hn15 : n ≤ 15 := by have h1 := hO.len; have h2 := hD.1; omega
    have CI := callsIn_wide.1 (implSquash _ g 0 n c L _ _ _ S b w1 hO.entsAt hN.ints (by omega) (by omega) hO.lt.2)
    have CS : Hid (∀ (lo : Nat) (w' : World), EntsAt w' (some ⟨g, 0, none⟩) n c L → IntsIn lo w' (some ⟨gs, 0, none⟩) m cs S → Calls Try.prog 12 #[.slice (some ⟨g, 0, none⟩) n c, .slice (some ⟨gs, 0, none⟩) m cs, .bool b] w' fun e w'' => ∃ g' n' c', e = .returned (.slice (some ⟨g', 0, none⟩) n' c') ∧ OwnE w'' w'.heap.size g' n' c' (squashL L S b) ∧ Below w'.heap.size w' w'') := fun lo w' h1 h2 => specSquash lo _ _ _ L _ _ _ S b w' h1 h2 (by omega)
    have HFL : Hid ((squashL L S b).length ≤ n) := by have := squashL_len L S b; show (squashL L S b).length ≤ n; rw [HLN.out] at this; exact this
    have HNR : Hid (rightB L = false → squashL L S b = []) := fun hr => by unfold squashL; rw [hr]; rfl
    have HSM : Hid (rightB L = true → ∀ e ∈ squashL L S b, SmE e) := fun hr => squash_small hr S b
    have HCE : Hid (rightB L = true → ∀ key t, t ∈ 100000 :: S → cellL (squashL L S b) key t = cellL L key t) := fun hr key t ht => cell_squash hr S b key t (by rcases List.mem_cons.1 ht with rfl | h; exact .inr (Int.le_refl _); exact .inl h)
    have HDE : Hid (∀ e ∈ L, entB e.1 e.2.1 e.2.2.1 e.2.2.2.1 e.2.2.2.2 = true) := hD.2.1
    obtain ⟨F, hF⟩ : ∃ F, squashL L S b = F := ⟨_, rfl⟩
    rw [hF] at CS HFL HNR HSM CI
    simp only [hF] at HCE
    have HSS : Hid (S.length = m) := hN.len
    clear hb1 hO hN CD hF hD hS hl hlI
    go_wp2_with fail
    refine CI.mono ?_
    rintro e w2 ⟨ag, ng, cg, rfl, hG2, hb2⟩
    have HB2 : Hid (Below w.heap.size w w2) := HB1.out.trans (hb2.mono HB1.out.size)
    have HO2 : Hid (OwnE w2 w.heap.size g n c L) := HO1.out.below hb2
    have HN2 : Hid (OwnN w2 w.heap.size gs m cs S) := HN1.out.below hb2
    have HG2 : Hid (OwnO w2 w.heap.size ag ng cg F) := hG2.mono HB1.out.size
    have hng : ng ≤ n := by have h1 := hG2.len; have h2 := HFL.out; omega
    have HGL : Hid (F.length = ng) := hG2.len
    clear hG2 hb2 HB1 HO1 HN1 CI
    go_wp2_with fail
    refine (CS.out _ _ HO2.out.entsAt HN2.out.ints).mono ?_
    rintro e w3 ⟨gw, nw, cw, rfl, hW3, hb3⟩
    have HW3 : Hid (EntsAt w3 (some ⟨gw, 0, none⟩) nw cw F) := hW3.entsAt
    have HG3 : Hid (EntsAt w3 ag ng cg F) := HG2.out.entsAt.keep hb3
    go_wp2_with fail
    refine (wpEnts_any _ _ _ _ _ _ F F _ HG3.out HW3.out).mono ?_
    rintro e w4 ⟨rfl, hb4⟩
    have k24 : Below w2.heap.size w2 w4 := hb3.trans (hb4.mono hb3.size)
    have hFF : decide (F = F) = true := by simp
    rw [hFF]
    obtain ⟨X, hX⟩ : ∃ X, X = w4.heap.size := ⟨_, rfl⟩
    obtain ⟨w5, hw5⟩ : ∃ w5, w5 = w4.alloc (.cells #[.int .i64 100000] 3) := ⟨_, rfl⟩
    have k45 : Below w4.heap.size w4 w5 := by rw [hw5]; exact (Below.refl _ _).alloc (Nat.le_refl _) _
    have k25 : Below w2.heap.size w2 w5 := k24.trans (k45.mono k24.size)
    have HB5 : Hid (Below w.heap.size w w5) := HB2.out.trans (k25.mono HB2.out.size)
    have HX5 : Hid (OwnN w5 w.heap.size X 1 1 [100000]) := by rw [hw5, hX]; exact own_last w4 _ (HB2.out.trans (k24.mono HB2.out.size)).size
    have HO5 : Hid (OwnE w5 w.heap.size g n c L) := HO2.out.below k25
    have HN5 : Hid (OwnN w5 w.heap.size gs m cs S) := HN2.out.below k25
    have HG5 : Hid (OwnO w5 w.heap.size ag ng cg F) := HG2.out.below k25
    have hgX : g ≠ X := by have h1 := HO2.out.lt.2; have h2 := k24.size; omega
    have HAX : Hid (∀ x, ag = some x → x.block ≠ X) := fun x e => by have h1 := (HG2.out.lt x e).2; have h2 := k24.size; omega
    clear hb3 hb4 k24 k45 k25 HB2 HO2 HN2 HG2 HW3 HG3 hW3 CS hFF
    go_wp2_with (at_builtin; rw [← hw5, ← hX]; refine wpList_append_own_at _ rfl _ _ 23 rfl w.heap.size 3 i0 _ 1 8 Try.underlying23 hi hz0 hz1 hz2 rfl (by decide) _ _ _ rfl HX5.out.owns ⟨gs, 0, none⟩ m cs (S.map (Value.int .i64)) rfl (by rw [List.length_map, HSS.out]; omega) (ints_news HN5.out.ints) (fun u hu => by obtain ⟨q, _, rfl⟩ := List.mem_map.1 hu; rfl) (by unfold maxLen; omega) (by omega) HB5.out.size ?_; intro v6 w6 hown6 hgrow6 hnil6 hat6; obtain ⟨gt, ct, hv6⟩ := fq_some hown6 hnil6; subst hv6; have T6 := fqA HX5.out HB5.out HO5.out HN5.out HG5.out hgX HAX.out hown6 hgrow6; clear hown6 hgrow6 hnil6 hat6 hw5 hX HX5 HB5 HO5 HN5 HG5 hgX HAX)
    have T6 : Hid (FqSt w w6 g n c gt (1 + m) ct ag ng cg L (100000 :: S) F) := T6
    obtain ⟨nt, hnt⟩ : ∃ nt, nt = 1 + m := ⟨_, rfl⟩
    obtain ⟨TT, hTT⟩ : ∃ TT, TT = 100000 :: S := ⟨_, rfl⟩
    rw [← hnt, ← hTT] at T6
    rw [← hTT] at HCE
    try rw [← hnt]
    have hnt4 : nt ≤ 4 := by omega
    clear hnt hTT HSS hm
    go_loopw [8] (fun iv wr => ∃ i : Nat, 1 ≤ i ∧ (i ≤ n ∨ i = 1) ∧ iv = .int .i64 i ∧ FqSt w wr g n c gt nt ct ag ng cg L TT F ∧ (∀ j, 1 ≤ j → j < i → ∀ x y, L[j - 1]? = some x → L[j]? = some y → lessB x.1 x.2.1 y.1 y.2.1 = true)) (fun iv _ => n - (intOf iv).toNat)
    case atStart => exact ⟨1, Nat.le_refl _, .inr rfl, rfl, T6.out, fun j h1 h2 => by omega⟩
    case round =>
      clear T6
      obtain ⟨i, hi1, hin, rfl, hT, hless⟩ := hrel
      have HT : Hid (FqSt w wr g n c gt nt ct ag ng cg L TT F) := hT
      have HLS : Hid (∀ j, 1 ≤ j → j < i → ∀ x y, L[j - 1]? = some x → L[j]? = some y → lessB x.1 x.2.1 y.1 y.2.1 = true) := hless
      clear hT hless
      by_cases hil : i < n
      · have hilI : (i : Int) < (n : Int) := by omega
        obtain ⟨p, hp⟩ : ∃ p, i = p + 1 := ⟨i - 1, by omega⟩
        have wi : IntKind.i64.wrap ((i : Int) - 1) = (p : Int) := by
          have e : (i : Int) - 1 = (p : Int) := by omega
          rw [e, IntWalk.i64_left]; unfold wrap64; omega
        have hpI : (p : Int) < (n : Int) := by omega
        have HP : Hid (i = p + 1) := hp
        have zg := HT.out.ol.lt.2
        obtain ⟨s, q, d, t, m, hx, _, g0, g1, g2, g3, g4⟩ := HT.out.ol.entsAt.ent (Below.refl _ wr) zg p (by omega)
        obtain ⟨s', q', d', t', m', hy, _, e0, e1, e2, e3, e4⟩ := HT.out.ol.entsAt.ent (Below.refl _ wr) zg i hil
        simp only [Nat.zero_add] at g0 g1 g2 g3 g4 e0 e1 e2 e3 e4
        have HX : Hid (L[p]? = some (s, q, d, t, m)) := hx
        have HY : Hid (L[i]? = some (s', q', d', t', m')) := hy
        have k0 : Below wr.heap.size wr wr.drew := (Below.refl _ wr).drew
        have HMK : Hid (∀ w', Below wr.heap.size wr w' → (w'.cell? ⟨g, p * 5, none⟩ = some (.string s) ∧ w'.cell? ⟨g, p * 5 + 1, none⟩ = some (.int .i64 q) ∧ w'.cell? ⟨g, p * 5 + 2, none⟩ = some (.int .i64 d) ∧ w'.cell? ⟨g, p * 5 + 3, none⟩ = some (.string t) ∧ w'.cell? ⟨g, p * 5 + 4, none⟩ = some (.int .i64 m) ∧ w'.cell? ⟨g, i * 5, none⟩ = some (.string s') ∧ w'.cell? ⟨g, i * 5 + 1, none⟩ = some (.int .i64 q') ∧ w'.cell? ⟨g, i * 5 + 2, none⟩ = some (.int .i64 d') ∧ w'.cell? ⟨g, i * 5 + 3, none⟩ = some (.string t') ∧ w'.cell? ⟨g, i * 5 + 4, none⟩ = some (.int .i64 m') ∧ g < w'.heap.size)) := fun w' kk => ⟨cell_later kk g0, cell_later kk g1, cell_later kk g2, cell_later kk g3, cell_later kk g4, cell_later kk e0, cell_later kk e1, cell_later kk e2, cell_later kk e3, cell_later kk e4, Nat.lt_of_lt_of_le zg kk.size⟩
        clear hx hy g0 g1 g2 g3 g4 e0 e1 e2 e3 e4 hp
        cases hlb : lessB s q s' q' with
        | true =>
          go_wp2_with fail
          refine wp_region_held_drew (S := (fun w' => w'.cell? ⟨g, p * 5, none⟩ = some (.string s) ∧ w'.cell? ⟨g, p * 5 + 1, none⟩ = some (.int .i64 q) ∧ w'.cell? ⟨g, p * 5 + 2, none⟩ = some (.int .i64 d) ∧ w'.cell? ⟨g, p * 5 + 3, none⟩ = some (.string t) ∧ w'.cell? ⟨g, p * 5 + 4, none⟩ = some (.int .i64 m) ∧ w'.cell? ⟨g, i * 5, none⟩ = some (.string s') ∧ w'.cell? ⟨g, i * 5 + 1, none⟩ = some (.int .i64 q') ∧ w'.cell? ⟨g, i * 5 + 2, none⟩ = some (.int .i64 d') ∧ w'.cell? ⟨g, i * 5 + 3, none⟩ = some (.string t') ∧ w'.cell? ⟨g, i * 5 + 4, none⟩ = some (.int .i64 m') ∧ g < w'.heap.size)) (by kernel_rfl) (HMK.out _ k0) (fun hHeld => ?_)
          refine wpAnyH_takeL (i := 0) (v := ?_) rfl (by kernel_rfl) (by kernel_rfl) (by kernel_rfl) (fun _ _ _ h => h) (Or.inl ⟨by rfl, ?_⟩) hHeld ?_
          rotate_left
          · (intro w hSw; (try dsimp only at hSw); go_simp; try with_reducible rfl)
          try go_frame
          refine wpAnyH_takeL (i := 1) (v := ?_) rfl (by kernel_rfl) (by kernel_rfl) (by kernel_rfl) (fun _ _ _ h => h) (Or.inl ⟨by rfl, ?_⟩) hHeld ?_
          rotate_left
          · (intro w hSw; (try dsimp only at hSw); go_simp; try with_reducible rfl)
          try go_frame
          refine wpAnyH_takeL (i := 2) (v := ?_) rfl (by kernel_rfl) (by kernel_rfl) (by kernel_rfl) (fun _ _ _ h => h) (Or.inl ⟨by rfl, ?_⟩) hHeld ?_
          rotate_left
          · (intro w hSw; (try dsimp only at hSw); go_simp; try with_reducible rfl)
          try go_frame
          refine wpAnyH_takeL (i := 3) (v := ?_) rfl (by kernel_rfl) (by kernel_rfl) (by kernel_rfl) (fun _ _ _ h => h) (Or.inl ⟨by rfl, ?_⟩) hHeld ?_
          rotate_left
          · (intro w hSw; (try dsimp only at hSw); go_simp; try with_reducible rfl)
          try go_frame
          refine wpAnyH_takeL (i := 4) (v := ?_) rfl (by kernel_rfl) (by kernel_rfl) (by kernel_rfl) (fun _ _ _ h => h) (Or.inl ⟨by rfl, ?_⟩) hHeld ?_
          rotate_left
          · (intro w hSw; (try dsimp only at hSw); go_simp; try with_reducible rfl)
          try go_frame
          refine wpAnyH_takeL (i := 5) (v := ?_) rfl (by kernel_rfl) (by kernel_rfl) (by kernel_rfl) (fun _ _ _ h => h) (Or.inl ⟨by rfl, ?_⟩) hHeld ?_
          rotate_left
          · (intro w hSw; (try dsimp only at hSw); go_simp; try with_reducible rfl)
          try go_frame
          refine wpAnyH_takeL (i := 6) (v := ?_) rfl (by kernel_rfl) (by kernel_rfl) (by kernel_rfl) (fun _ _ _ h => h) (Or.inl ⟨by rfl, ?_⟩) hHeld ?_
          rotate_left
          · (intro w hSw; (try dsimp only at hSw); go_simp; try with_reducible rfl)
          try go_frame
          refine wpAnyH_takeL (i := 7) (v := ?_) rfl (by kernel_rfl) (by kernel_rfl) (by kernel_rfl) (fun _ _ _ h => h) (Or.inl ⟨by rfl, ?_⟩) hHeld ?_
          rotate_left
          · (intro w hSw; (try dsimp only at hSw); go_simp; try with_reducible rfl)
          try go_frame
          refine wpAnyH_takeL (i := 8) (v := ?_) rfl (by kernel_rfl) (by kernel_rfl) (by kernel_rfl) (fun _ _ _ h => h) (Or.inl ⟨by rfl, ?_⟩) hHeld ?_
          rotate_left
          · (intro w hSw; (try dsimp only at hSw); go_simp; try with_reducible rfl)
          try go_frame
          refine wpAnyH_ready (rs := [9]) (by kernel_rfl) (by simp) ?_
          refine consL rfl (fun K hK => ?_) AllReadyH.nil
          go_simp
          refine (implLess s t s' t' q d m q' d' m' _).mono ?_
          rintro e w1 ⟨rfl, b1⟩
          have k1 : Below wr.heap.size wr w1 := k0.trans (b1.mono k0.size)
          go_wp2_with fail
          refine hK.out _ _ (HMK.out _ k1) (fun hHeld => ?_)
          clear hK K
          try go_frame
          refine wpAnyH_takeL (i := 10) (v := ?_) rfl (by kernel_rfl) (by kernel_rfl) (by kernel_rfl) (fun _ _ _ h => h) (Or.inl ⟨by rfl, ?_⟩) hHeld ?_
          rotate_left
          · (intro w hSw; (try dsimp only at hSw); go_simp; try with_reducible rfl)
          try go_frame
          refine wpAnyH_done (by kernel_rfl) ?_ _
          clear HMK hHeld
          have T1 : Hid (FqSt w w1 g n c gt nt ct ag ng cg L TT F) := HT.out.below k1
          clear k1 k0 HT b1
          go_wp2
          go_roundw
          case rel =>
            refine ⟨i + 1, by omega, by omega, by go_num, T1.out, fun j h1 h2 x y hx hy => ?_⟩
            have hpp := HP.out
            by_cases hj : j < i
            · exact HLS.out j h1 hj x y hx hy
            · have : j = i := by omega
              subst this
              rw [HY.out] at hy
              rw [show j - 1 = p by omega, HX.out] at hx
              cases hx
              cases hy
              exact hlb
          case measure => simp [intOf]; omega
        | false =>
          have HRF : Hid (rightB L = false) := by
            show rightB L = false
            rw [Bool.eq_false_iff]
            intro hr
            have hpp := HP.out
            have := right_next hr HX.out (by rw [← hpp]; exact HY.out)
            simp only at this
            rw [hlb] at this
            cases this
          have hng0 : ng = 0 := by rw [← HGL.out, HNR.out HRF.out]; rfl
          subst hng0
          go_wp2_with fail
          refine wp_region_held_drew (S := (fun w' => w'.cell? ⟨g, p * 5, none⟩ = some (.string s) ∧ w'.cell? ⟨g, p * 5 + 1, none⟩ = some (.int .i64 q) ∧ w'.cell? ⟨g, p * 5 + 2, none⟩ = some (.int .i64 d) ∧ w'.cell? ⟨g, p * 5 + 3, none⟩ = some (.string t) ∧ w'.cell? ⟨g, p * 5 + 4, none⟩ = some (.int .i64 m) ∧ w'.cell? ⟨g, i * 5, none⟩ = some (.string s') ∧ w'.cell? ⟨g, i * 5 + 1, none⟩ = some (.int .i64 q') ∧ w'.cell? ⟨g, i * 5 + 2, none⟩ = some (.int .i64 d') ∧ w'.cell? ⟨g, i * 5 + 3, none⟩ = some (.string t') ∧ w'.cell? ⟨g, i * 5 + 4, none⟩ = some (.int .i64 m') ∧ g < w'.heap.size)) (by kernel_rfl) (HMK.out _ k0) (fun hHeld => ?_)
          refine wpAnyH_takeL (i := 0) (v := ?_) rfl (by kernel_rfl) (by kernel_rfl) (by kernel_rfl) (fun _ _ _ h => h) (Or.inl ⟨by rfl, ?_⟩) hHeld ?_
          rotate_left
          · (intro w hSw; (try dsimp only at hSw); go_simp; try with_reducible rfl)
          try go_frame
          refine wpAnyH_takeL (i := 1) (v := ?_) rfl (by kernel_rfl) (by kernel_rfl) (by kernel_rfl) (fun _ _ _ h => h) (Or.inl ⟨by rfl, ?_⟩) hHeld ?_
          rotate_left
          · (intro w hSw; (try dsimp only at hSw); go_simp; try with_reducible rfl)
          try go_frame
          refine wpAnyH_takeL (i := 2) (v := ?_) rfl (by kernel_rfl) (by kernel_rfl) (by kernel_rfl) (fun _ _ _ h => h) (Or.inl ⟨by rfl, ?_⟩) hHeld ?_
          rotate_left
          · (intro w hSw; (try dsimp only at hSw); go_simp; try with_reducible rfl)
          try go_frame
          refine wpAnyH_takeL (i := 3) (v := ?_) rfl (by kernel_rfl) (by kernel_rfl) (by kernel_rfl) (fun _ _ _ h => h) (Or.inl ⟨by rfl, ?_⟩) hHeld ?_
          rotate_left
          · (intro w hSw; (try dsimp only at hSw); go_simp; try with_reducible rfl)
          try go_frame
          refine wpAnyH_takeL (i := 4) (v := ?_) rfl (by kernel_rfl) (by kernel_rfl) (by kernel_rfl) (fun _ _ _ h => h) (Or.inl ⟨by rfl, ?_⟩) hHeld ?_
          rotate_left
          · (intro w hSw; (try dsimp only at hSw); go_simp; try with_reducible rfl)
          try go_frame
          refine wpAnyH_takeL (i := 5) (v := ?_) rfl (by kernel_rfl) (by kernel_rfl) (by kernel_rfl) (fun _ _ _ h => h) (Or.inl ⟨by rfl, ?_⟩) hHeld ?_
          rotate_left
          · (intro w hSw; (try dsimp only at hSw); go_simp; try with_reducible rfl)
          try go_frame
          refine wpAnyH_takeL (i := 6) (v := ?_) rfl (by kernel_rfl) (by kernel_rfl) (by kernel_rfl) (fun _ _ _ h => h) (Or.inl ⟨by rfl, ?_⟩) hHeld ?_
          rotate_left
          · (intro w hSw; (try dsimp only at hSw); go_simp; try with_reducible rfl)
          try go_frame
          refine wpAnyH_takeL (i := 7) (v := ?_) rfl (by kernel_rfl) (by kernel_rfl) (by kernel_rfl) (fun _ _ _ h => h) (Or.inl ⟨by rfl, ?_⟩) hHeld ?_
          rotate_left
          · (intro w hSw; (try dsimp only at hSw); go_simp; try with_reducible rfl)
          try go_frame
          refine wpAnyH_takeL (i := 8) (v := ?_) rfl (by kernel_rfl) (by kernel_rfl) (by kernel_rfl) (fun _ _ _ h => h) (Or.inl ⟨by rfl, ?_⟩) hHeld ?_
          rotate_left
          · (intro w hSw; (try dsimp only at hSw); go_simp; try with_reducible rfl)
          try go_frame
          refine wpAnyH_ready (rs := [9]) (by kernel_rfl) (by simp) ?_
          refine consL rfl (fun K hK => ?_) AllReadyH.nil
          go_simp
          refine (implLess s t s' t' q d m q' d' m' _).mono ?_
          rintro e w1 ⟨rfl, b1⟩
          have k1 : Below wr.heap.size wr w1 := k0.trans (b1.mono k0.size)
          go_wp2_with fail
          refine hK.out _ _ (HMK.out _ k1) (fun hHeld => ?_)
          clear hK K
          try go_frame
          refine wpAnyH_takeL (i := 10) (v := ?_) rfl (by kernel_rfl) (by kernel_rfl) (by kernel_rfl) (fun _ _ _ h => h) (Or.inl ⟨by rfl, ?_⟩) hHeld ?_
          rotate_left
          · (intro w hSw; (try dsimp only at hSw); go_simp; try with_reducible rfl)
          try go_frame
          refine wpAnyH_done (by kernel_rfl) ?_ _
          clear HMK hHeld
          have HB1 : Hid (Below w.heap.size w w1) := (HT.out.below k1).all
          clear k1 k0 HT b1
          go_wp2
          go_ret
          exact ⟨rfl, HB1.out⟩
      · have hilI : ¬ (i : Int) < (n : Int) := by omega
        have HRT : Hid (rightB L = true) := right_all HLN.out HDE.out (fun j h1 h2 => HLS.out j h1 (by omega))
        clear HLS HNR
        go_wp2
        go_loopw [9] (fun iv wr => ∃ i : Nat, i ≤ n ∧ iv = .int .i64 i ∧ FqSt w wr g n c gt nt ct ag ng cg L TT F) (fun iv _ => n - (intOf iv).toNat)
        case atStart => exact ⟨0, Nat.zero_le _, rfl, HT.out⟩
        case round =>
          clear HT hilI hil hi1 hin
          obtain ⟨i, hin, rfl, hT⟩ := hrel
          have HT : Hid (FqSt w wr g n c gt nt ct ag ng cg L TT F) := hT
          clear hT
          by_cases hil : i < n
          · have hilI : (i : Int) < (n : Int) := by omega
            go_wp2
            go_loopw [10] (fun kv wr => ∃ k : Nat, k ≤ nt ∧ kv = .int .i64 k ∧ FqSt w wr g n c gt nt ct ag ng cg L TT F) (fun kv _ => nt - (intOf kv).toNat)
            case atStart => exact ⟨0, Nat.zero_le _, rfl, HT.out⟩
            case round =>
              clear HT
              obtain ⟨k, hkn, rfl, hT⟩ := hrel
              have HT : Hid (FqSt w wr g n c gt nt ct ag ng cg L TT F) := hT
              clear hT
              by_cases hkl : k < nt
              · have hklI : (k : Int) < (nt : Int) := by omega
                have zg := HT.out.ol.lt.2
                have zt := HT.out.ot.lt.2
                obtain ⟨s, q, d, t, m, hx, _, g0, _⟩ := HT.out.ol.entsAt.ent (Below.refl _ wr) zg i hil
                obtain ⟨tt, htt, _, e0⟩ := HT.out.ot.ints.num (Below.refl _ wr) k hkl
                simp only [Nat.zero_add] at g0 e0
                obtain ⟨xb, xt, xn, hcl⟩ : ∃ xb xt xn, cellL L s tt = (xb, xt, xn) := ⟨_, _, _, rfl⟩
                have hcf : cellL F s tt = (xb, xt, xn) := by rw [HCE.out HRT.out s tt (List.mem_of_getElem? htt), hcl]
                have CL : Hid (∀ w', Below wr.heap.size wr w' → Calls Try.prog 22 #[.slice (some ⟨g, 0, none⟩) n c, .string s, .int .i64 tt] w' fun e w'' => e = .returned (.agg #[.bool xb, .string xt, .int .i64 xn]) ∧ Below w'.heap.size w' w'') := fun w' kk => by
                  have := implCellAll (some ⟨g, 0, none⟩) n c L s tt w' (HT.out.below kk).ol.entsAt (by omega) (by have h1 := find_len L s tt; have h2 := HLN.out; omega) (fun e he => (right_sm HRT.out e he).2)
                  rw [hcl] at this
                  exact this
                have CO : Hid (∀ w', Below wr.heap.size wr w' → Calls Try.prog 22 #[.slice ag ng cg, .string s, .int .i64 tt] w' fun e w'' => e = .returned (.agg #[.bool xb, .string xt, .int .i64 xn]) ∧ Below w'.heap.size w' w'') := fun w' kk => by
                  have := implCellAll ag ng cg F s tt w' (HT.out.below kk).og.entsAt (by omega) (by have h1 := find_len F s tt; have h2 := HGL.out; omega) (fun e he => (HSM.out HRT.out e he).2)
                  rw [hcf] at this
                  exact this
                have hneq := neqC_same xb xt xn
                have k0 : Below wr.heap.size wr wr.drew := (Below.refl _ wr).drew
                have HMK : Hid (∀ w', Below wr.heap.size wr w' → (w'.cell? ⟨g, i * 5, none⟩ = some (.string s) ∧ w'.cell? ⟨gt, k, none⟩ = some (.int .i64 tt) ∧ g < w'.heap.size ∧ gt < w'.heap.size)) := fun w' kk => ⟨cell_later kk g0, cell_later kk e0, Nat.lt_of_lt_of_le zg kk.size, Nat.lt_of_lt_of_le zt kk.size⟩
                clear hx htt g0 e0 hcl hcf
                go_wp2_with fail
                refine wp_region_held_drew (S := (fun w' => w'.cell? ⟨g, i * 5, none⟩ = some (.string s) ∧ w'.cell? ⟨gt, k, none⟩ = some (.int .i64 tt) ∧ g < w'.heap.size ∧ gt < w'.heap.size)) (by kernel_rfl) (HMK.out _ k0) (fun hHeld => ?_)
                refine wpAnyH_takeL (i := 0) (v := ?_) rfl (by kernel_rfl) (by kernel_rfl) (by kernel_rfl) (fun _ _ _ h => h) (Or.inl ⟨by rfl, ?_⟩) hHeld ?_
                rotate_left
                · (intro w hSw; (try dsimp only at hSw); go_simp; try with_reducible rfl)
                try go_frame
                refine wpAnyH_takeL (i := 1) (v := ?_) rfl (by kernel_rfl) (by kernel_rfl) (by kernel_rfl) (fun _ _ _ h => h) (Or.inl ⟨by rfl, ?_⟩) hHeld ?_
                rotate_left
                · (intro w hSw; (try dsimp only at hSw); go_simp; try with_reducible rfl)
                try go_frame
                refine wpAnyH_takeL (i := 2) (v := ?_) rfl (by kernel_rfl) (by kernel_rfl) (by kernel_rfl) (fun _ _ _ h => h) (Or.inl ⟨by rfl, ?_⟩) hHeld ?_
                rotate_left
                · (intro w hSw; (try dsimp only at hSw); go_simp; try with_reducible rfl)
                try go_frame
                refine wpAnyH_takeL (i := 3) (v := ?_) rfl (by kernel_rfl) (by kernel_rfl) (by kernel_rfl) (fun _ _ _ h => h) (Or.inl ⟨by rfl, ?_⟩) hHeld ?_
                rotate_left
                · (intro w hSw; (try dsimp only at hSw); go_simp; try with_reducible rfl)
                try go_frame
                refine wpAnyH_takeL (i := 4) (v := ?_) rfl (by kernel_rfl) (by kernel_rfl) (by kernel_rfl) (fun _ _ _ h => h) (Or.inl ⟨by rfl, ?_⟩) hHeld ?_
                rotate_left
                · (intro w hSw; (try dsimp only at hSw); go_simp; try with_reducible rfl)
                try go_frame
                refine wpAnyH_takeL (i := 5) (v := ?_) rfl (by kernel_rfl) (by kernel_rfl) (by kernel_rfl) (fun _ _ _ h => h) (Or.inl ⟨by rfl, ?_⟩) hHeld ?_
                rotate_left
                · (intro w hSw; (try dsimp only at hSw); go_simp; try with_reducible rfl)
                try go_frame
                refine wpAnyH_takeL (i := 6) (v := ?_) rfl (by kernel_rfl) (by kernel_rfl) (by kernel_rfl) (fun _ _ _ h => h) (Or.inl ⟨by rfl, ?_⟩) hHeld ?_
                rotate_left
                · (intro w hSw; (try dsimp only at hSw); go_simp; try with_reducible rfl)
                try go_frame
                refine wpAnyH_takeL (i := 7) (v := ?_) rfl (by kernel_rfl) (by kernel_rfl) (by kernel_rfl) (fun _ _ _ h => h) (Or.inl ⟨by rfl, ?_⟩) hHeld ?_
                rotate_left
                · (intro w hSw; (try dsimp only at hSw); go_simp; try with_reducible rfl)
                try go_frame
                refine wpAnyH_takeL (i := 8) (v := ?_) rfl (by kernel_rfl) (by kernel_rfl) (by kernel_rfl) (fun _ _ _ h => h) (Or.inl ⟨by rfl, ?_⟩) hHeld ?_
                rotate_left
                · (intro w hSw; (try dsimp only at hSw); go_simp; try with_reducible rfl)
                try go_frame
                refine wpAnyH_takeL (i := 9) (v := ?_) rfl (by kernel_rfl) (by kernel_rfl) (by kernel_rfl) (fun _ _ _ h => h) (Or.inl ⟨by rfl, ?_⟩) hHeld ?_
                rotate_left
                · (intro w hSw; (try dsimp only at hSw); go_simp; try with_reducible rfl)
                try go_frame
                refine wpAnyH_takeL (i := 11) (v := ?_) rfl (by kernel_rfl) (by kernel_rfl) (by kernel_rfl) (fun _ _ _ h => h) (Or.inl ⟨by rfl, ?_⟩) hHeld ?_
                rotate_left
                · (intro w hSw; (try dsimp only at hSw); go_simp; try with_reducible rfl)
                try go_frame
                refine wpAnyH_takeL (i := 12) (v := ?_) rfl (by kernel_rfl) (by kernel_rfl) (by kernel_rfl) (fun _ _ _ h => h) (Or.inl ⟨by rfl, ?_⟩) hHeld ?_
                rotate_left
                · (intro w hSw; (try dsimp only at hSw); go_simp; try with_reducible rfl)
                try go_frame
                refine wpAnyH_takeL (i := 13) (v := ?_) rfl (by kernel_rfl) (by kernel_rfl) (by kernel_rfl) (fun _ _ _ h => h) (Or.inl ⟨by rfl, ?_⟩) hHeld ?_
                rotate_left
                · (intro w hSw; (try dsimp only at hSw); go_simp; try with_reducible rfl)
                try go_frame
                refine wpAnyH_takeL (i := 14) (v := ?_) rfl (by kernel_rfl) (by kernel_rfl) (by kernel_rfl) (fun _ _ _ h => h) (Or.inl ⟨by rfl, ?_⟩) hHeld ?_
                rotate_left
                · (intro w hSw; (try dsimp only at hSw); go_simp; try with_reducible rfl)
                try go_frame
                refine wpAnyH_takeL (i := 15) (v := ?_) rfl (by kernel_rfl) (by kernel_rfl) (by kernel_rfl) (fun _ _ _ h => h) (Or.inl ⟨by rfl, ?_⟩) hHeld ?_
                rotate_left
                · (intro w hSw; (try dsimp only at hSw); go_simp; try with_reducible rfl)
                try go_frame
                refine wpAnyH_takeL (i := 16) (v := ?_) rfl (by kernel_rfl) (by kernel_rfl) (by kernel_rfl) (fun _ _ _ h => h) (Or.inl ⟨by rfl, ?_⟩) hHeld ?_
                rotate_left
                · (intro w hSw; (try dsimp only at hSw); go_simp; try with_reducible rfl)
                try go_frame
                refine wpAnyH_takeL (i := 17) (v := ?_) rfl (by kernel_rfl) (by kernel_rfl) (by kernel_rfl) (fun _ _ _ h => h) (Or.inl ⟨by rfl, ?_⟩) hHeld ?_
                rotate_left
                · (intro w hSw; (try dsimp only at hSw); go_simp; try with_reducible rfl)
                try go_frame
                refine wpAnyH_takeL (i := 18) (v := ?_) rfl (by kernel_rfl) (by kernel_rfl) (by kernel_rfl) (fun _ _ _ h => h) (Or.inl ⟨by rfl, ?_⟩) hHeld ?_
                rotate_left
                · (intro w hSw; (try dsimp only at hSw); go_simp; try with_reducible rfl)
                try go_frame
                refine wpAnyH_takeL (i := 19) (v := ?_) rfl (by kernel_rfl) (by kernel_rfl) (by kernel_rfl) (fun _ _ _ h => h) (Or.inl ⟨by rfl, ?_⟩) hHeld ?_
                rotate_left
                · (intro w hSw; (try dsimp only at hSw); go_simp; try with_reducible rfl)
                try go_frame
                refine wpAnyH_takeL (i := 20) (v := ?_) rfl (by kernel_rfl) (by kernel_rfl) (by kernel_rfl) (fun _ _ _ h => h) (Or.inl ⟨by rfl, ?_⟩) hHeld ?_
                rotate_left
                · (intro w hSw; (try dsimp only at hSw); go_simp; try with_reducible rfl)
                try go_frame
                refine wpAnyH_ready (rs := [10]) (by kernel_rfl) (by simp) ?_
                refine consL rfl (fun K hK => ?_) AllReadyH.nil
                go_simp
                refine (CO.out _ k0).mono ?_
                rintro e w1 ⟨rfl, b1⟩
                have k1 : Below wr.heap.size wr w1 := k0.trans (b1.mono k0.size)
                go_wp2_with fail
                refine hK.out _ _ (HMK.out _ k1) (fun hHeld => ?_)
                clear hK K
                try go_frame
                refine wpAnyH_ready (rs := [21]) (by kernel_rfl) (by simp) ?_
                refine consL rfl (fun K hK => ?_) AllReadyH.nil
                go_simp
                refine (CL.out _ k1).mono ?_
                rintro e w2 ⟨rfl, b2⟩
                have k2 : Below wr.heap.size wr w2 := k1.trans (b2.mono k1.size)
                go_wp2_with fail
                refine hK.out _ _ (HMK.out _ k2) (fun hHeld => ?_)
                clear hK K
                try go_frame
                refine wpAnyH_takeL (i := 22) (v := ?_) rfl (by kernel_rfl) (by kernel_rfl) (by kernel_rfl) (fun _ _ _ h => h) (Or.inl ⟨by rfl, ?_⟩) hHeld ?_
                rotate_left
                · (intro w hSw; (try dsimp only at hSw); go_simp; try with_reducible rfl)
                try go_frame
                refine wpAnyH_done (by kernel_rfl) ?_ _
                clear HMK hHeld CL CO
                have T2 : Hid (FqSt w w2 g n c gt nt ct ag ng cg L TT F) := HT.out.below k2
                clear k2 k1 k0 HT b1 b2 hneq
                go_wp2
                go_roundw
                case rel => exact ⟨k + 1, by omega, by go_num, T2.out⟩
                case measure => simp [intOf]; omega
              · have hklI : ¬ (k : Int) < (nt : Int) := by omega
                go_wp2
                go_roundw
                case rel => exact ⟨i + 1, by omega, by go_num, HT.out⟩
                case measure => simp [intOf]; omega
          · have hilI : ¬ (i : Int) < (n : Int) := by omega
            have hle : (ng : Int) ≤ (n : Int) := by omega
            go_wp2
            go_ret
            exact ⟨rfl, HT.out.all⟩
  · have hlI : (1048576 : Int) < (len : Int) := by omega
    go_enter Try.func6, Try.ntmps6
    go_wp2
    go_ret
    exact ⟨rfl, Below.refl _ _⟩
end Go.Proofs.Ythhiahjafhkbbaa
