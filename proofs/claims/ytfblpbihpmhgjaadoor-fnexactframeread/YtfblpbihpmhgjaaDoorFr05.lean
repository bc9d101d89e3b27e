/-
  How the text of a batch is read, plain; no statement of the program stands here.
  Laws for a region that draws its order, taken operation by operation; no statement of the program stands here.
  What a call leaves as it was, cell by cell; no statement of the program stands here.
  The texts that the laws mark memory with, by a walk of their Go text.
-/
import Derived.Test.YtfblpbihpmhgjaaDoorFr02
import Derived.Test.YtfblpbihpmhgjaaDoorFr04
import Derived.Deep.RegionHeld3
import Derived.WalkKit
import Derived.Test.YtfblpbihpmhgjaaDoorProg
import Derived.Test.YtfblpbihpmhgjaaDoorFr00
import Derived.WalkSpells
import Derived.WalkLawsBesides
import Derived.Lib.SlBytesRow
import Derived.Deep.LoopGhost
namespace Go.Proofs.YtfblpbihpmhgjaaDoor
open Go.RowKit

/-- The next bytes, if there are so many, and what is left. -/
def pieceP (n : Int) (l : List UInt8) : List UInt8 × List UInt8 := if n < 0 ∨ (l.length : Int) < n then ([], l) else (l.take n.toNat, l.drop n.toNat)
/-- What stands ahead of the next space, and what is left behind it. -/
def wordP (l : List UInt8) : List UInt8 × List UInt8 := if (32 : UInt8) ∈ l then (l.takeWhile (· != 32), (l.dropWhile (· != 32)).drop 1) else ([], l.drop 1)
def numP (l : List UInt8) : Int × List UInt8 := ((match Lib.atoiAll (wordP l).1 with | .ok v => v | _ => 0), (wordP l).2)
def entP (l : List UInt8) : EntD × List UInt8 :=
  let k := wordP l
  let q := numP k.2
  let d := numP q.2
  let n := numP d.2
  let z := numP n.2
  let t := pieceP z.1 z.2
  ((⟨k.1.toArray⟩, q.1, d.1, ⟨t.1.toArray⟩, n.1), t.2)
/-- At most so many entries, as long as more than so many bytes are left. -/
def bodyP : Nat → Int → List UInt8 → List EntD
  | 0, _, _ => []
  | k + 1, s, l => if s < (l.length : Int) then (entP l).1 :: bodyP k s (entP l).2 else []

theorem takeW_hit : ∀ (u r : List UInt8), (32 : UInt8) ∉ u → (u ++ 32 :: r).takeWhile (· != 32) = u ∧ (u ++ 32 :: r).dropWhile (· != 32) = 32 :: r
  | [], r, _ => by simp
  | x :: u, r, h => by
    have h1 : (x != 32) = true := by simpa using fun e : x = 32 => h (by simp [e])
    have h2 := takeW_hit u r (fun hm => h (by simp [hm]))
    constructor
    · simp only [List.cons_append, List.takeWhile_cons, h1, if_true, h2.1]
    · simp only [List.cons_append, List.dropWhile_cons, h1, if_true, h2.2]
theorem word_hit (u r : List UInt8) (h : (32 : UInt8) ∉ u) : wordP (u ++ 32 :: r) = (u, r) := by
  obtain ⟨h1, h2⟩ := takeW_hit u r h
  rw [wordP, if_pos (by simp), h1, h2]
  rfl
theorem itoa_sp (n : Int) : (32 : UInt8) ∉ Lib.itoa n := word_not (itoa_word n) (by decide)
theorem num_hit (n : Int) (r : List UInt8) (h0 : -10000000 ≤ n) (h1 : n ≤ 10000000) : numP (Lib.itoa n ++ 32 :: r) = (n, r) := by
  rw [numP, word_hit _ _ (itoa_sp n), atoi_itoa n h0 h1]
theorem piece_hit (u r : List UInt8) : pieceP (u.length : Int) (u ++ r) = (u, r) := by
  rw [pieceP, if_neg (by simp; omega)]
  simp
theorem key_sp {s : ByteArray} (h : keyB s = true) : (32 : UInt8) ∉ s.data.toList := by
  intro hm
  simp only [keyB, Bool.and_eq_true] at h
  have := List.all_eq_true.1 h.2.2 32 hm
  exact absurd this (by decide)
theorem ent_key {e : EntD} (h : entOk e = true) : keyB e.1 = true := by
  unfold entOk at h
  cases hk : keyB e.1 with
  | true => rfl
  | false => rw [entB_key hk] at h; cases h
theorem ent_hit {e : EntD} (h : entOk e = true) (r : List UInt8) : entP (entT e ++ r) = (e, r) := by
  obtain ⟨h1, h2, h3, h4, h5, h6, h7, h8⟩ := ent_parts h
  have hk := key_sp (ent_key h)
  obtain ⟨k, q, d, t, n⟩ := e
  simp only at h1 h2 h3 h4 h5 h6 h7 h8 hk
  have e0 : entT (k, q, d, t, n) ++ r = k.data.toList ++ 32 :: (Lib.itoa q ++ 32 :: (Lib.itoa d ++ 32 :: (Lib.itoa n ++ 32 :: (Lib.itoa (t.size : Int) ++ 32 :: (t.data.toList ++ r))))) := by simp [entT]
  rw [e0, entP]
  simp only [word_hit _ _ hk, num_hit q _ (by omega) (by omega), num_hit d _ (by omega) (by omega), num_hit n _ (by omega) (by omega), num_hit (t.size : Int) _ (by omega) (by omega)]
  rw [show (t.size : Int) = (t.data.toList.length : Int) by rw [bytes_len]]
  rw [piece_hit]
theorem entT_pos (e : EntD) : 1 ≤ (entT e).length := by simp [entT]; omega
theorem body_hit : ∀ (L : List EntD) (k : Nat) (r : List UInt8), (∀ e ∈ L, entOk e = true) → L.length ≤ k → bodyP k (r.length : Int) (entsT L ++ r) = L
  | [], 0, r, _, _ => rfl
  | [], k + 1, r, _, _ => by simp [bodyP, entsT]
  | e :: L, 0, r, _, h => by simp at h
  | e :: L, k + 1, r, ha, h => by
    have hp := entT_pos e
    have e0 : entsT (e :: L) ++ r = entT e ++ (entsT L ++ r) := by simp [entsT]
    rw [e0, bodyP, if_pos (by simp; omega), ent_hit (ha e (by simp))]
    simp only
    rw [body_hit L k r (fun x hx => ha x (by simp [hx])) (by simpa using h)]

/-- What is written of a batch that was done. -/
def frameT (L : List EntD) : List UInt8 := Lib.itoa ((entsT L).length : Int) ++ 32 :: (entsT L ++ [10])
/-- The batch L was done, and its text stands at the head. -/
def FrAt (l : List UInt8) (L : List EntD) : Prop := doneB L = true ∧ ∃ r, l = frameT L ++ r
theorem entsT_small {L : List EntD} (h : doneB L = true) : (entsT L).length ≤ 1920 := by
  obtain ⟨h1, h2, h3⟩ := done_parts h
  have := entsT_len L h3
  omega
/-- A batch is read back. -/
theorem frame_hit {l : List UInt8} {L : List EntD} (h : FrAt l L) : (numP l).1 = ((entsT L).length : Int) ∧ ∃ r, (numP l).2 = entsT L ++ 10 :: r ∧ bodyP 12 (((numP l).2.length : Int) - (numP l).1) (numP l).2 = L := by
  obtain ⟨hd, r, rfl⟩ := h
  obtain ⟨h1, h2, h3⟩ := done_parts hd
  have hs := entsT_small hd
  have e0 : frameT L ++ r = Lib.itoa ((entsT L).length : Int) ++ 32 :: (entsT L ++ 10 :: r) := by simp [frameT]
  rw [e0, num_hit _ _ (by omega) (by omega)]
  refine ⟨rfl, r, rfl, ?_⟩
  have e1 : ((entsT L ++ 10 :: r).length : Int) - ((entsT L).length : Int) = ((10 :: r).length : Int) := by simp; omega
  simp only [e1]
  exact body_hit L 12 (10 :: r) h3 h2
theorem frame_inj {l : List UInt8} {L M : List EntD} (h : FrAt l L) (k : FrAt l M) : L = M := by
  obtain ⟨_, _, _, h1⟩ := frame_hit h
  obtain ⟨_, _, _, k1⟩ := frame_hit k
  exact h1.symm.trans k1
theorem frameT_pos (L : List EntD) : 1 ≤ (frameT L).length := by simp [frameT]; omega
theorem frameB_is {L : List EntD} (h : doneB L = true) : (frameB L).data.toList = frameT L := by rw [frameB, if_pos h]; rfl
theorem frameB_isno {L : List EntD} (h : doneB L = false) : frameB L = ⟨#[]⟩ := by rw [frameB, if_neg (by rw [h]; decide)]
/-- The batches that are whole at the head of a text, and how many bytes they are. -/
inductive Whole : List UInt8 → List (List EntD) → Nat → Prop
  | none {l : List UInt8} (h : ∀ L, ¬ FrAt l L) : Whole l [] 0
  | one {L : List EntD} {r : List UInt8} {Ls : List (List EntD)} {k : Nat} (h : doneB L = true) (hr : Whole r Ls k) : Whole (frameT L ++ r) (L :: Ls) ((frameT L).length + k)
theorem whole_le {l : List UInt8} {Ls : List (List EntD)} {k : Nat} (h : Whole l Ls k) : k ≤ l.length := by
  induction h with
  | none _ => exact Nat.zero_le _
  | one _ _ ih => simp; omega
theorem whole_inj {l : List UInt8} {Ls : List (List EntD)} {k : Nat} (h : Whole l Ls k) : ∀ {Ms : List (List EntD)} {j : Nat}, Whole l Ms j → Ls = Ms ∧ k = j := by
  induction h with
  | none hn =>
    intro Ms j h2
    cases h2 with
    | none _ => exact ⟨rfl, rfl⟩
    | one hd _ => exact absurd ⟨hd, _, rfl⟩ (hn _)
  | @one L r Ls k hd hr ih =>
    intro Ms j h2
    generalize hl : frameT L ++ r = l at h2
    cases h2 with
    | none hn => exact absurd ⟨hd, r, hl.symm⟩ (hn L)
    | @one M r' Ms' k' hd' hr' =>
      have e := frame_inj (l := frameT M ++ r') ⟨hd, r, hl.symm⟩ ⟨hd', r', rfl⟩
      subst e
      have e2 := List.append_cancel_left hl
      subst e2
      obtain ⟨e3, e4⟩ := ih hr'
      exact ⟨by rw [e3], by rw [e4]⟩

end Go.Proofs.YtfblpbihpmhgjaaDoor

namespace Go.Proofs.YtfblpbihpmhgjaaDoor
open Go.RowKit

theorem wpAnyH_takeL {P : Program} {l : List Oper} {Q : Exit → Act → World → Prop} {md : Region.Mode} {S : World → Prop} {i : Nat} {oi : Oper} {v : Value} {fuel : Nat} {listed : Array Bool} {a : Act} {w : World} (hi : l[i]? = some oi)
    (hs : Region.noSelect l.toArray = true) (hf : Region.free md l.toArray listed i = true) (hr : (Region.ready md l.toArray listed).contains i = true)
    (hQ : ∀ c a w, Q (.panic c) (a.put oi.dst v) w → Q (.panic c) a w) (hy : YieldsIf P l.toArray S oi v a) (hS : S w)
    (h : wpAnyH P md l.toArray Q S fuel (listed.setIfInBounds i true) (a.put oi.dst v) w) : wpAnyH P md l.toArray Q S (fuel + 1) listed a w :=
  wpAnyH_take (by simpa using hi) hs hf hr hQ hy hS h
theorem consL {P : Program} {l : List Oper} {Q : Exit → Act → World → Prop} {md : Region.Mode} {S : World → Prop} {fuel : Nat} {listed : Array Bool} {a : Act} {w : World} {i : Nat} {o : Oper} {rs : List Nat} (ho : l[i]? = some o)
    (h : ∀ K' : Act → World → Prop, Shut (∀ a w, S w → (S w → wpAnyH P md l.toArray Q S fuel (listed.setIfInBounds i true) a w) → K' a w) → if Region.wanted o (yielded l.toArray a.tmps) = true then Oper.wp P o a w K' Q else K' (a.put o.dst undef) w)
    (hs : AllReadyH P md l.toArray Q S fuel listed a w rs) : AllReadyH P md l.toArray Q S fuel listed a w (i :: rs) :=
  AllReadyH.cons (by simpa using ho) h hs

end Go.Proofs.YtfblpbihpmhgjaaDoor

namespace Go.Proofs.YtfblpbihpmhgjaaDoor
open Go.RowKit

theorem bcell {W w1 : World} (hb : Below W.heap.size W w1) : (∀ b o, b < W.heap.size → w1.cell? ⟨b, o, none⟩ = W.cell? ⟨b, o, none⟩) ∧ (∀ b o, b < W.heap.size → w1.frozen? ⟨b, o, none⟩ = W.frozen? ⟨b, o, none⟩) :=
  ⟨fun b o h => hb.cell (p := ⟨b, o, none⟩) h, fun b o h => hb.frozen (p := ⟨b, o, none⟩) h⟩

end Go.Proofs.YtfblpbihpmhgjaaDoor

namespace Go.Proofs.YtfblpbihpmhgjaaDoor
open Go.RowKit

/-- The digits of a number ahead of others. -/
def digs : Nat → Nat → List UInt8 → List UInt8
  | 0, _, acc => acc
  | f + 1, p, acc => if p = 0 then acc else digs f (p / 10) (UInt8.ofNat (48 + p % 10) :: acc)
theorem digs_zero (f : Nat) (acc : List UInt8) : digs f 0 acc = acc := by cases f <;> simp [digs]
/-- The text that a number marks with. -/
def markT (k : Nat) : ByteArray := ⟨#[109]⟩ ++ ⟨(digs k k []).toArray⟩

set_option maxRecDepth 100000 in
set_option maxHeartbeats 1000000 in
theorem markText_any (k : Nat) (w : World) (h1 : 1 ≤ k) (h2 : k ≤ 1000000000) :
    Calls Tryd.prog 96 #[.int .i64 k] w fun e w' => e = .returned (.string (markT k)) ∧ Below w.heap.size w w' := by
  have h1' : ¬ (k : Int) ≤ 0 := by omega
  go_enter Tryd.func96, Tryd.ntmps96
  go_wp2
  go_loopw [0, 3] (fun pv ov wr => ∃ (f p : Nat) (o : ByteArray), pv = .int .i64 p ∧ ov = .string o ∧ p ≤ f ∧ o.size + p ≤ k ∧ digs f p o.data.toList = digs k k [] ∧ Below w.heap.size w wr) (fun pv _ _ => (intOf pv).toNat)
  case atStart => exact ⟨k, k, ⟨#[]⟩, rfl, rfl, Nat.le_refl _, by show 0 + k ≤ k; omega, rfl, Below.refl _ _⟩
  case round =>
    obtain ⟨f, p, o, rfl, rfl, hpf, hok, hd, hb⟩ := hrel
    have HD : Hid (digs f p o.data.toList = digs k k []) := hd
    clear hd
    by_cases hp : p = 0
    · subst hp
      have hm : markT k = ⟨#[109]⟩ ++ o := by
        unfold markT
        rw [← HD.out, digs_zero]
      have HM : Hid (markT k = ⟨#[109]⟩ ++ o) := hm
      clear hm
      have ho : o.size ≤ 1000000000 := by omega
      go_wp2
      go_ret
      exact ⟨by rw [HM.out]; rfl, hb⟩
    · have hp0 : (0 : Int) < (p : Int) := by omega
      have ho : o.size ≤ 1000000000 := by omega
      have hpk : (p : Int) ≤ 1000000000 := by omega
      obtain ⟨f', rfl⟩ : ∃ f', f = f' + 1 := ⟨f - 1, by omega⟩
      obtain ⟨c, hc⟩ : ∃ c : UInt8, c = UInt8.ofNat (48 + p % 10) := ⟨_, rfl⟩
      have hcn : (c.toNat : Int) = 48 + (p : Int) % 10 := by rw [hc]; simp; omega
      have hcv : ∀ w : World, (convert 49 9 (.slice (some ⟨w.heap.size, 0, none⟩) 1 1)).run Tryd.prog (w.alloc (.cells #[.int .u8 (48 + (p : Int) % 10)] 5)) = .ok (.string ⟨#[c]⟩) (w.alloc (.cells #[.int .u8 (48 + (p : Int) % 10)] 5)) := by
        intro w
        exact Lib.run_convert_whole _ 49 5 9 Tryd.underlying49 Tryd.underlying5 Tryd.underlying9 w.heap.size 0 ⟨#[c]⟩ (fun i hi => by
          have hi0 : i = 0 := by
            have : i < 1 := hi
            omega
          subst hi0
          show _ = some (Value.int .u8 (c.toNat : Int))
          rw [hcn]
          simp) 1
      have HN : Hid (digs f' (p / 10) ((⟨#[c]⟩ ++ o : ByteArray)).data.toList = digs k k []) := by
        show digs f' (p / 10) ((⟨#[c]⟩ ++ o : ByteArray)).data.toList = digs k k []
        rw [← HD.out]
        simp [digs, hp, hc]
      have hsz : (⟨#[c]⟩ ++ o : ByteArray).size = 1 + o.size := by rw [ByteArray.size_append]; rfl
      have HSZ : Hid ((⟨#[c]⟩ ++ o : ByteArray).size + p / 10 ≤ k) := by show (⟨#[c]⟩ ++ o : ByteArray).size + p / 10 ≤ k; rw [hsz]; omega
      clear hc hcn hsz
      go_wp2
      go_roundw
      case rel => exact ⟨f', p / 10, ⟨#[c]⟩ ++ o, by go_num, rfl, by omega, HSZ.out, HN.out, hb.alloc hb.size _⟩
      case measure => simp [intOf]; omega
end Go.Proofs.YtfblpbihpmhgjaaDoor
