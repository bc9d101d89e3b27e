/-
  Keys that are an account and a currency, of a map that the program makes; and 'm[k] += v' at such a key.
-/
import Derived.Test.YtfblpbihpmhgjaaDoorBp00
import Derived.Test.YtfblpbihpmhgjaaDoorProg
import Derived.Maps.Own
import Derived.Maps.OwnSet
import Derived.Maps.Views
import Derived.DeepKeys4
import Derived.WideKeyEntry
import Derived.WalkKit
namespace Go.Proofs.YtfblpbihpmhgjaaDoor
open Go.RowKit Go.ChangeMaps
open Go.WideMaps (KeyLaw)

theorem Tryd.laidT : laidOutB Tryd.prog = true := by kernel_rfl
theorem Tryd.rowPu : (178 : TypeId) < Tryd.prog.types.size := of_decide_eq_true (by kernel_rfl)
theorem Tryd.widePu : (match Tryd.prog.underlying 178 with | some (.array _ _) | some (.struct _) => true | _ => false) = true := by rw [Tryd.underlying178]
set_option maxRecDepth 100000 in
theorem Tryd.lawPu : KeyLaw Tryd.prog 178 := deep_law_laid Tryd.laidT (m := 3) (by omega) Tryd.rowPu (by kernel_rfl) Tryd.widePu
theorem Tryd.keyedPu : Maps.Keyed Tryd.prog 178 := Maps.Keyed.of_law Tryd.lawPu
theorem Tryd.keyedId : Maps.Keyed Tryd.prog 3 := Maps.int_keyed Tryd.underlying3
theorem Tryd.cellsPu : Tryd.prog.cellsOf 178 = 2 := by kernel_rfl
theorem Tryd.keyTypePu : Tryd.prog.keyType 178 = true := by kernel_rfl
theorem pos_succ {x : Nat} (h : 0 < x) : ∃ d, x = d + 1 := ⟨x - 1, by omega⟩
theorem Tryd.typesN : ∃ d, Tryd.prog.types.size = d + 1 := pos_succ (of_decide_eq_true (by kernel_rfl))
theorem Tryd.zeroInt (w : World) : (zeroValue 3).run Tryd.prog w = .ok (.int .i64 0) w := by kernel_rfl

/-- The key of an account and a currency. -/
def keyPu (s : ByteArray) (c : Int) : Lit := .string (keyBytes [.string s.data.toList, .int .i64 c])

theorem keyOf_pu {s : ByteArray} {c : Int} (hs : s.size ≤ maxLen) (hc : (Lit.int .i64 c).wf = true) : keyOf Tryd.prog 178 (.agg #[.string s, .int .i64 c]) = some (keyPu s c) := by
  obtain ⟨d, hd⟩ := Tryd.typesN
  have hf : (Value.agg #[.string s, .int .i64 c]).formed Tryd.prog 178 = true := by simp [Value.formed, Tryd.underlying178, Tryd.cellsPu]
  have r3 : Tryd.prog.cellsOf 9 = 1 := by kernel_rfl
  have r4 : Tryd.prog.cellsOf 3 = 1 := by kernel_rfl
  have hl : Tryd.prog.keyLits (Tryd.prog.types.size + 1) 178 [.string s, .int .i64 c] = some [.string s.data.toList, .int .i64 c] := by
    rw [hd]
    simp [Program.keyLits, Tryd.underlying178, Tryd.underlying9, Tryd.underlying3, Tryd.cellsPu, r3, r4, hs, hc]
  have hcells : (Value.agg #[.string s, .int .i64 c]).cells.toList = [.string s, .int .i64 c] := rfl
  unfold keyOf
  rw [Tryd.underlying178]
  simp only [hf, Tryd.keyTypePu, Bool.and_self, if_true, hcells, hl, Option.map_some]
  rfl

theorem keyPu_inj {s s' : ByteArray} {c c' : Int} (hs : s.size ≤ maxLen) (hc : (Lit.int .i64 c).wf = true) (hs' : s'.size ≤ maxLen) (hc' : (Lit.int .i64 c').wf = true) (h : keyPu s c = keyPu s' c') : s = s' ∧ c = c' := by
  have h1 := keyOf_pu hs hc
  have h2 := keyOf_pu hs' hc'
  rw [← h] at h2
  have := Tryd.lawPu.inj h1 h2
  simp at this
  exact this

theorem keyPu_lit (s : ByteArray) (c : Int) : WideAt.IsKeyLit (keyPu s c) := trivial

/-- 'm[k] += v' at such a key: the entry, then the store into it. -/
theorem entry_law {W : World} {b n : Nat} {D : DataW Unit} {s : ByteArray} {c x : Int} (hown : W.ownsMap Tryd.prog 178 (plainElem (H := Unit) Tryd.prog 3) b n D) (hn : n < maxLen) (hs : s.size ≤ maxLen) (hc : (Lit.int .i64 c).wf = true) (hx : (Lit.int .i64 x).wf = true) :
    ∃ (v0 : Value) (st : Int) (w2 w3 : World), (Instr.mapEntry 115 (.map (some b)) (.agg #[.string s, .int .i64 c])).run Tryd.prog W = .ok (.tuple #[v0, .int .i64 st]) w2 ∧
      (Instr.entryStore 115 (.map (some b)) (.int .i64 st) (.int .i64 x)).run Tryd.prog w2 = .ok () w3 ∧ W.grownBy w2 (some b) ∧
      w3.ownsMap Tryd.prog 178 (plainElem (H := Unit) Tryd.prog 3) b (n + 1) (D.put (keyPu s c) (.lit (.int .i64 x))) ∧ W.grownBy w3 (some b) := by
  obtain ⟨w1, hrun, h1, h2⟩ := hown.update Tryd.keyedPu Tryd.underlying115 hn (keyOf_pu hs hc) (plainElem_int Tryd.underlying3 hx)
  obtain ⟨es, clock, hb, F, hsz, hD⟩ := hown
  obtain ⟨v0, st, es1, clock1, hE, _, hS⟩ := WideElems.entry_then_store (w := W) Tryd.lawPu Tryd.underlying115 Tryd.zeroInt hb F (keyOf_pu hs hc)
  obtain ⟨es', clock', hst, hup⟩ := hS (setBlock W b (.map es1 clock1)) (.int .i64 x) (heap_setBlock_same hb _)
  rw [hup] at hrun
  have hw1 : setBlock W b (.map es' clock') = w1 := by simpa using hrun
  have hset : setBlock (setBlock W b (.map es1 clock1)) b (.map es' clock') = setBlock W b (.map es' clock') := by
    simp [setBlock, Array.setIfInBounds_setIfInBounds]
  rw [hset, hw1] at hst
  exact ⟨v0, st, _, w1, hE, hst, ⟨rfl, rfl, rfl, by simp [setBlock], fun i _ hi => heap_setBlock_other hb _ (fun e => hi (by rw [e]))⟩, h1, h2⟩

theorem setBlock_self {W : World} {b : Nat} {o : Obj} (h : W.heap[b]? = some o) : setBlock W b o = W := by
  obtain ⟨hlt, e⟩ := Array.getElem?_eq_some_iff.1 h
  have : W.heap.setIfInBounds b o = W.heap := by
    apply Array.ext
    · simp
    · intro i h1 h2
      rw [Array.getElem_setIfInBounds (by simpa using h1)]
      split
      · rename_i e'
        subst e'
        exact e.symm
      · rfl
  simp [setBlock, this]

/-- Behind the entry the look-up tells what it told. -/
theorem entry_look {W w2 : World} {b n : Nat} {D : DataW Unit} {s : ByteArray} {c x0 : Int} {r : Value} (hown : W.ownsMap Tryd.prog 178 (plainElem (H := Unit) Tryd.prog 3) b n D) (hn : n < maxLen) (hs : s.size ≤ maxLen) (hc : (Lit.int .i64 c).wf = true)
    (hE : (Instr.mapEntry 115 (.map (some b)) (.agg #[.string s, .int .i64 c])).run Tryd.prog W = .ok r w2)
    (hl : (Instr.lookup 115 (.map (some b)) (.agg #[.string s, .int .i64 c]) false).run Tryd.prog W = .ok (.int .i64 x0) W) :
    (Instr.lookup 115 (.map (some b)) (.agg #[.string s, .int .i64 c]) false).run Tryd.prog w2 = .ok (.int .i64 x0) w2 := by
  have hown' := hown
  have hkey := keyOf_pu hs hc
  have ht := Tryd.underlying115
  have hz := Tryd.zeroInt
  obtain ⟨es, clock, hb, F, hsz, hD⟩ := hown
  rcases Tryd.lawPu.find W hkey es.toList F.keys with ⟨h1, h2⟩ | ⟨j, e0, h1, h2, h3⟩
  · have e1 : (Instr.mapEntry 115 (.map (some b)) (.agg #[.string s, .int .i64 c])).run Tryd.prog W = .ok (.tuple #[.int .i64 0, goInt clock]) (setBlock W b (.map (es.push ⟨.agg #[.string s, .int .i64 c], .int .i64 0, clock⟩) (clock + 1))) := by
      simp [Instr.mapEntry, run_underlying ht, MapKept.run_getObj_map hb, Tryd.lawPu.check W false hkey, h1, hz, MapKept.run_setObj_map _ hb, Result.andThen, setBlock]
    have e2 : (Instr.mapUpdate 115 (.map (some b)) (.agg #[.string s, .int .i64 c]) (.int .i64 0)).run Tryd.prog W = .ok () (setBlock W b (.map (es.push ⟨.agg #[.string s, .int .i64 c], .int .i64 0, clock⟩) (clock + 1))) := by
      simp [Instr.mapUpdate, run_underlying ht, MapKept.run_getObj_map hb, Tryd.lawPu.check W false hkey, h1, MapKept.run_setObj_map _ hb, Result.andThen, setBlock]
    rw [e1] at hE
    have hw2 : setBlock W b (.map (es.push ⟨.agg #[.string s, .int .i64 c], .int .i64 0, clock⟩) (clock + 1)) = w2 := by simp at hE; exact hE.2
    obtain ⟨w', hrun, hown2, _⟩ := hown'.update Tryd.keyedPu ht hn hkey (plainElem_int Tryd.underlying3 (show (Lit.int .i64 0).wf = true by decide))
    rw [e2] at hrun
    have hw' : setBlock W b (.map (es.push ⟨.agg #[.string s, .int .i64 c], .int .i64 0, clock⟩) (clock + 1)) = w' := by simpa using hrun
    rw [← hw', hw2] at hown2
    obtain ⟨x, hx, hat, _⟩ := hown2.lookup_int Tryd.keyedPu ht Tryd.underlying3 (hz w2) hkey
    rw [Maps.atKey_put_same hown'.isMap (keyPu_lit _ _)] at hat
    have hx0 : x = 0 := by simpa using hat.symm
    rcases Maps.fit_look false Tryd.keyedPu ht (hz W) hb F hkey with ⟨hr, _, _⟩ | ⟨e0, y, he, hk, _⟩
    · rw [hl] at hr
      have : x0 = 0 := by simpa using hr
      rw [this, ← hx0]
      exact hx
    · exact absurd hk (h2 e0 he)
  · have hj : es[j]? = some e0 := by simpa using h2
    have hst := Tryd.lawPu.stays W hkey
    have hsame : es.modify j (fun e => { e with key := .agg #[.string s, .int .i64 c] }) = es := by
      apply Array.ext'
      rw [Array.toList_modify, ChangeMaps.modify_eq_set _ _ _ _ h2]
      have : ({ e0 with key := .agg #[.string s, .int .i64 c] } : MapEntry) = e0 := by rw [← h3]
      rw [this]
      exact WideElems.set_self _ _ _ h2
    have e1 : (Instr.mapEntry 115 (.map (some b)) (.agg #[.string s, .int .i64 c])).run Tryd.prog W = .ok (.tuple #[e0.val, goInt e0.born]) (setBlock W b (.map es clock)) := by
      simp [Instr.mapEntry, run_underlying ht, MapKept.run_getObj_map hb, Tryd.lawPu.check W false hkey, h1, hj, h3, hst, hsame, MapKept.run_setObj_map _ hb, Result.andThen, setBlock]
    rw [setBlock_self hb] at e1
    rw [e1] at hE
    have : W = w2 := by simp at hE; exact hE.2
    rw [← this]
    exact hl
end Go.Proofs.YtfblpbihpmhgjaaDoor
