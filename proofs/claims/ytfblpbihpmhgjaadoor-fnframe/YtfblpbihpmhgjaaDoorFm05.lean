/-
  The texts that the laws mark memory with, by a walk of their Go text.
  A contract of the library's strconv package at this program, laid by the kit's own command.
-/
import Derived.Test.YtfblpbihpmhgjaaDoorProg
import Derived.Test.YtfblpbihpmhgjaaDoorFm00
import Derived.Test.YtfblpbihpmhgjaaDoorFm04
import Derived.Lib.SlBytesRow
import Derived.Deep.LoopGhost
import Derived.WalkKit
import Derived.WalkSpells
import Derived.WalkLawsBesides
import Derived.Shelf.Strconv.ErrVarAll
import Derived.Lib.AtoiErrMem
namespace Go.Proofs.YtfblpbihpmhgjaaDoor
open Go.RowKit

/-- The digits of a number ahead of others. -/
def digs : Nat → Nat → List UInt8 → List UInt8
  | 0, _, acc => acc
  | f + 1, p, acc => if p = 0 then acc else digs f (p / 10) (UInt8.ofNat (48 + p % 10) :: acc)
theorem digs_zero (f : Nat) (acc : List UInt8) : digs f 0 acc = acc := by cases f <;> simp [digs]
/-- The text that a number marks with. -/
def markT (k : Nat) : ByteArray := ⟨#[109]⟩ ++ ⟨(digs k k []).toArray⟩

set_option maxRecDepth 100000 in
set_option maxHeartbeats 1000000 in
theorem markText_any (k : Nat) (w : World) (h1 : 1 ≤ k) (h2 : k ≤ 1000000000) :
    Calls Tryd.prog 96 #[.int .i64 k] w fun e w' => e = .returned (.string (markT k)) ∧ Below w.heap.size w w' := by
  have h1' : ¬ (k : Int) ≤ 0 := by omega
  go_enter Tryd.func96, Tryd.ntmps96
  go_wp2
  go_loopw [0, 3] (fun pv ov wr => ∃ (f p : Nat) (o : ByteArray), pv = .int .i64 p ∧ ov = .string o ∧ p ≤ f ∧ o.size + p ≤ k ∧ digs f p o.data.toList = digs k k [] ∧ Below w.heap.size w wr) (fun pv _ _ => (intOf pv).toNat)
  case atStart => exact ⟨k, k, ⟨#[]⟩, rfl, rfl, Nat.le_refl _, by show 0 + k ≤ k; omega, rfl, Below.refl _ _⟩
  case round =>
    obtain ⟨f, p, o, rfl, rfl, hpf, hok, hd, hb⟩ := hrel
    have HD : Hid (digs f p o.data.toList = digs k k []) := hd
    clear hd
    by_cases hp : p = 0
    · subst hp
      have hm : markT k = ⟨#[109]⟩ ++ o := by
        unfold markT
        rw [← HD.out, digs_zero]
      have HM : Hid (markT k = ⟨#[109]⟩ ++ o) := hm
      clear hm
      have ho : o.size ≤ 1000000000 := by omega
      go_wp2
      go_ret
      exact ⟨by rw [HM.out]; rfl, hb⟩
    · have hp0 : (0 : Int) < (p : Int) := by omega
      have ho : o.size ≤ 1000000000 := by omega
      have hpk : (p : Int) ≤ 1000000000 := by omega
      obtain ⟨f', rfl⟩ : ∃ f', f = f' + 1 := ⟨f - 1, by omega⟩
      obtain ⟨c, hc⟩ : ∃ c : UInt8, c = UInt8.ofNat (48 + p % 10) := ⟨_, rfl⟩
      have hcn : (c.toNat : Int) = 48 + (p : Int) % 10 := by rw [hc]; simp; omega
      have hcv : ∀ w : World, (convert 49 9 (.slice (some ⟨w.heap.size, 0, none⟩) 1 1)).run Tryd.prog (w.alloc (.cells #[.int .u8 (48 + (p : Int) % 10)] 5)) = .ok (.string ⟨#[c]⟩) (w.alloc (.cells #[.int .u8 (48 + (p : Int) % 10)] 5)) := by
        intro w
        exact Lib.run_convert_whole _ 49 5 9 Tryd.underlying49 Tryd.underlying5 Tryd.underlying9 w.heap.size 0 ⟨#[c]⟩ (fun i hi => by
          have hi0 : i = 0 := by
            have : i < 1 := hi
            omega
          subst hi0
          show _ = some (Value.int .u8 (c.toNat : Int))
          rw [hcn]
          simp) 1
      have HN : Hid (digs f' (p / 10) ((⟨#[c]⟩ ++ o : ByteArray)).data.toList = digs k k []) := by
        show digs f' (p / 10) ((⟨#[c]⟩ ++ o : ByteArray)).data.toList = digs k k []
        rw [← HD.out]
        simp [digs, hp, hc]
      have hsz : (⟨#[c]⟩ ++ o : ByteArray).size = 1 + o.size := by rw [ByteArray.size_append]; rfl
      have HSZ : Hid ((⟨#[c]⟩ ++ o : ByteArray).size + p / 10 ≤ k) := by show (⟨#[c]⟩ ++ o : ByteArray).size + p / 10 ≤ k; rw [hsz]; omega
      clear hc hcn hsz
      go_wp2
      go_roundw
      case rel => exact ⟨f', p / 10, ⟨#[c]⟩ ++ o, by go_num, rfl, by omega, HSZ.out, HN.out, hb.alloc hb.size _⟩
      case measure => simp [intOf]; omega
end Go.Proofs.YtfblpbihpmhgjaaDoor

namespace Go.Proofs.YtfblpbihpmhgjaaDoor
open Go.Shelf
def Tryd.lays172_ren : Go.Shelf.Ren := ⟨fun | 172 => 124 | 244 => 154 | 245 => 155 | 247 => 172 | 279 => 173 | 280 => 174 | 281 => 175 | 282 => 176 | 287 => 183 | 316 => 136 | 171 => 63 | 205 => 184 | 321 => 188 | 322 => 189 | 243 => 101 | 246 => 130 | 283 => 150 | 284 => 151 | 285 => 152 | 286 => 153 | 129 => 168 | 317 => 167 | 318 => 169 | 319 => 170 | 320 => 171 | 337 => 181 | 338 => 182 | n => n, fun | 9 => 9 | 3 => 3 | 75 => 119 | 76 => 134 | 4 => 4 | 5 => 5 | 167 => 231 | 37 => 49 | 0 => 0 | 85 => 232 | 2 => 2 | 168 => 234 | 53 => 162 | 175 => 241 | 46 => 207 | 210 => 244 | 127 => 138 | 145 => 252 | 143 => 250 | 21 => 21 | 171 => 193 | 173 => 196 | 212 => 227 | 51 => 228 | 20 => 20 | 213 => 229 | 232 => 247 | 233 => 248 | 80 => 92 | n => n, fun | 15 => 3 | 16 => 4 | 17 => 2 | 18 => 5 | 19 => 6 | n => n⟩
theorem Tryd.lays172 : Go.Proofs.LaysC.n172 Tryd.prog Tryd.lays172_ren := {
  mixed := by kernel_rfl
  f129 := Tryd.func168.trans (congrArg some (by kernel_rfl))
  f171 := Tryd.func63.trans (congrArg some (by kernel_rfl))
  f172 := Tryd.func124.trans (congrArg some (by kernel_rfl))
  f205 := Tryd.func184.trans (congrArg some (by kernel_rfl))
  f243 := Tryd.func101.trans (congrArg some (by kernel_rfl))
  f244 := Tryd.func154.trans (congrArg some (by kernel_rfl))
  f245 := Tryd.func155.trans (congrArg some (by kernel_rfl))
  f246 := Tryd.func130.trans (congrArg some (by kernel_rfl))
  f247 := Tryd.func172.trans (congrArg some (by kernel_rfl))
  f279 := Tryd.func173.trans (congrArg some (by kernel_rfl))
  f280 := Tryd.func174.trans (congrArg some (by kernel_rfl))
  f281 := Tryd.func175.trans (congrArg some (by kernel_rfl))
  f282 := Tryd.func176.trans (congrArg some (by kernel_rfl))
  f283 := Tryd.func150.trans (congrArg some (by kernel_rfl))
  f284 := Tryd.func151.trans (congrArg some (by kernel_rfl))
  f285 := Tryd.func152.trans (congrArg some (by kernel_rfl))
  f286 := Tryd.func153.trans (congrArg some (by kernel_rfl))
  f287 := Tryd.func183.trans (congrArg some (by kernel_rfl))
  f316 := Tryd.func136.trans (congrArg some (by kernel_rfl))
  f317 := Tryd.func167.trans (congrArg some (by kernel_rfl))
  f318 := Tryd.func169.trans (congrArg some (by kernel_rfl))
  f319 := Tryd.func170.trans (congrArg some (by kernel_rfl))
  f320 := Tryd.func171.trans (congrArg some (by kernel_rfl))
  f321 := Tryd.func188.trans (congrArg some (by kernel_rfl))
  f322 := Tryd.func189.trans (congrArg some (by kernel_rfl))
  f337 := Tryd.func181.trans (congrArg some (by kernel_rfl))
  f338 := Tryd.func182.trans (congrArg some (by kernel_rfl))
  t0 := Tryd.underlying0
  a0 := Tryd.isAgg0
  z0 := Tryd.sizeOf0
  v0 := Tryd.zeroValue0
  t2 := Tryd.underlying2
  a2 := Tryd.isAgg2
  z2 := Tryd.sizeOf2
  v2 := Tryd.zeroValue2
  t3 := Tryd.underlying3
  a3 := Tryd.isAgg3
  z3 := Tryd.sizeOf3
  v3 := Tryd.zeroValue3
  t4 := Tryd.underlying4
  a4 := Tryd.isAgg4
  z4 := Tryd.sizeOf4
  v4 := Tryd.zeroValue4
  t5 := Tryd.underlying5
  a5 := Tryd.isAgg5
  z5 := Tryd.sizeOf5
  v5 := Tryd.zeroValue5
  t9 := Tryd.underlying9
  a9 := Tryd.isAgg9
  z9 := Tryd.sizeOf9
  v9 := Tryd.zeroValue9
  t20 := Tryd.underlying20
  a20 := Tryd.isAgg20
  z20 := Tryd.sizeOf20
  v20 := Tryd.zeroValue20
  t21 := Tryd.underlying21
  a21 := Tryd.isAgg21
  z21 := Tryd.sizeOf21
  v21 := Tryd.zeroValue21
  t37 := Tryd.underlying49
  a37 := Tryd.isAgg49
  z37 := Tryd.sizeOf49
  v37 := Tryd.zeroValue49
  t46 := Tryd.underlying207
  a46 := Tryd.isAgg207
  z46 := Tryd.sizeOf207
  v46 := Tryd.zeroValue207
  t51 := Tryd.underlying228
  a51 := Tryd.isAgg228
  z51 := Tryd.sizeOf228
  v51 := Tryd.zeroValue228
  t53 := Tryd.underlying162
  a53 := Tryd.isAgg162
  z53 := Tryd.sizeOf162
  v53 := Tryd.zeroValue162
  t75 := Tryd.underlying119
  a75 := Tryd.isAgg119
  z75 := Tryd.sizeOf119
  v75 := Tryd.zeroValue119
  t76 := Tryd.underlying134
  a76 := Tryd.isAgg134
  z76 := Tryd.sizeOf134
  v76 := Tryd.zeroValue134
  t85 := Tryd.underlying232
  a85 := Tryd.isAgg232
  z85 := Tryd.sizeOf232
  v85 := Tryd.zeroValue232
  t127 := Tryd.underlying138
  a127 := Tryd.isAgg138
  z127 := Tryd.sizeOf138
  v127 := Tryd.zeroValue138
  t143 := Tryd.underlying250
  a143 := Tryd.isAgg250
  z143 := Tryd.sizeOf250
  v143 := Tryd.zeroValue250
  t145 := Tryd.underlying252
  a145 := Tryd.isAgg252
  z145 := Tryd.sizeOf252
  v145 := Tryd.zeroValue252
  t167 := Tryd.underlying231
  a167 := Tryd.isAgg231
  z167 := Tryd.sizeOf231
  v167 := Tryd.zeroValue231
  t168 := Tryd.underlying234
  a168 := Tryd.isAgg234
  z168 := Tryd.sizeOf234
  v168 := Tryd.zeroValue234
  t171 := Tryd.underlying193
  a171 := Tryd.isAgg193
  z171 := Tryd.sizeOf193
  v171 := Tryd.zeroValue193
  t173 := Tryd.underlying196
  a173 := Tryd.isAgg196
  z173 := Tryd.sizeOf196
  v173 := Tryd.zeroValue196
  t175 := Tryd.underlying241
  a175 := Tryd.isAgg241
  z175 := Tryd.sizeOf241
  v175 := Tryd.zeroValue241
  t210 := Tryd.underlying244
  a210 := Tryd.isAgg244
  z210 := Tryd.sizeOf244
  v210 := Tryd.zeroValue244
  t212 := Tryd.underlying227
  a212 := Tryd.isAgg227
  z212 := Tryd.sizeOf227
  v212 := Tryd.zeroValue227
  t213 := Tryd.underlying229
  a213 := Tryd.isAgg229
  z213 := Tryd.sizeOf229
  t232 := Tryd.underlying247
  a232 := Tryd.isAgg247
  z232 := Tryd.sizeOf247
  v232 := Tryd.zeroValue247
  t233 := Tryd.underlying248
  a233 := Tryd.isAgg248
  z233 := Tryd.sizeOf248
  v233 := Tryd.zeroValue248
  g15 := by kernel_rfl
  g16 := by kernel_rfl
  g17 := by kernel_rfl
  g18 := by kernel_rfl
  g19 := by kernel_rfl
  t80 := Tryd.underlying92
  a80 := Tryd.isAgg92
  z80 := Tryd.sizeOf92
  v80 := Tryd.zeroValue92
  i0 := by kernel_rfl
  i2 := by kernel_rfl
  i3 := by kernel_rfl
  i4 := by kernel_rfl
  i5 := by kernel_rfl
  i9 := by kernel_rfl
  i20 := by kernel_rfl
  i21 := by kernel_rfl
  i37 := by kernel_rfl
  i46 := by kernel_rfl
  i51 := by kernel_rfl
  i53 := by kernel_rfl
  i75 := by kernel_rfl
  i76 := by kernel_rfl
  i80 := by kernel_rfl
  i85 := by kernel_rfl
  i127 := by kernel_rfl
  i143 := by kernel_rfl
  i145 := by kernel_rfl
  i167 := by kernel_rfl
  i168 := by kernel_rfl
  i171 := by kernel_rfl
  i173 := by kernel_rfl
  i175 := by kernel_rfl
  i210 := by kernel_rfl
  i212 := by kernel_rfl
  i232 := by kernel_rfl
  i233 := by kernel_rfl
  m15 := by kernel_rfl
  m16 := by kernel_rfl
  m17 := by kernel_rfl
  m18 := by kernel_rfl
  m19 := by kernel_rfl
  c0 := by kernel_rfl
  c2 := by kernel_rfl
  c3 := by kernel_rfl
  c4 := by kernel_rfl
  c5 := by kernel_rfl
  c9 := by kernel_rfl
  c20 := by kernel_rfl
  c21 := by kernel_rfl
  c37 := by kernel_rfl
  c46 := by kernel_rfl
  c51 := by kernel_rfl
  c53 := by kernel_rfl
  c75 := by kernel_rfl
  c76 := by kernel_rfl
  c80 := by kernel_rfl
  c85 := by kernel_rfl
  c127 := by kernel_rfl
  c143 := by kernel_rfl
  c145 := by kernel_rfl
  c167 := by kernel_rfl
  c168 := by kernel_rfl
  c171 := by kernel_rfl
  c173 := by kernel_rfl
  c175 := by kernel_rfl
  c210 := by kernel_rfl
  c212 := by kernel_rfl
  c213 := by kernel_rfl
  c232 := by kernel_rfl
  c233 := by kernel_rfl }
/-- The two errors that strconv's readers name lie where the program's start lays them. -/
def ErrV (w : World) : Prop := (∃ tp p, w.var? Tryd.prog "strconv.ErrSyntax" = some #[.iface tp p]) ∧ (∃ tp p, w.var? Tryd.prog "strconv.ErrRange" = some #[.iface tp p])
theorem var_below {w w' : World} {n : String} {cs : Array Value} (h : w.var? Tryd.prog n = some cs) (hb : RowKit.Below w.heap.size w w') : w'.var? Tryd.prog n = some cs := by
  unfold World.var? at h ⊢
  cases hg : Tryd.prog.globalNamed n with
  | none => simp [hg] at h
  | some g =>
    simp only [hg, Option.bind_some] at h ⊢
    have hlt : g < w.heap.size := by
      rcases Nat.lt_or_ge g w.heap.size with h' | h'
      · exact h'
      · simp [Array.getElem?_eq_none h'] at h
    rw [hb.block g hlt]
    exact h
theorem ErrV.below {w w' : World} (h : ErrV w) (hb : RowKit.Below w.heap.size w w') : ErrV w' := by
  obtain ⟨⟨a, b, h1⟩, c, d, h2⟩ := h
  exact ⟨⟨a, b, var_below h1 hb⟩, c, d, var_below h2 hb⟩
/-- strconv.Atoi at every text. -/
theorem Tryd.atoi_any (s : ByteArray) (hs : s.size ≤ 281474976710656) (w : World) (hv : ErrV w) :
    Calls Tryd.prog 124 #[.string s] w fun e w' => ((∃ v, Lib.atoiAll s.data.toList = .ok v ∧ e = .returned (.tuple #[.int .i64 v, .nilIface])) ∨ ((∀ v, Lib.atoiAll s.data.toList ≠ .ok v) ∧ ∃ n T N, e = .returned (.tuple #[.int .i64 n, .iface T (.pointer (some ⟨N, 0, none⟩))]))) ∧ RowKit.Below w.heap.size w w' := by
  obtain ⟨⟨tp, p, h1⟩, tq, q, h2⟩ := hv
  cases h : Lib.atoiAll s.data.toList with
  | ok v =>
    refine (Any.strconv_Atoi_ok Tryd.lays172 s (by omega) v h w).mono ?_
    rintro e w' ⟨rfl, hw⟩
    refine ⟨Or.inl ⟨v, rfl, rfl⟩, ?_⟩
    rcases hw with rfl | ⟨t, rfl⟩
    · exact RowKit.Below.refl _ _
    · exact Lib.bytesWorld_below _ _ _
  | «syntax» =>
    refine (Any.strconv_Atoi_syntax_var Tryd.lays172 s hs h tp p w h1).mono ?_
    rintro e w' ⟨N, rfl, _, _, hb⟩
    exact ⟨Or.inr ⟨fun v => by simp, _, _, _, rfl⟩, hb⟩
  | range =>
    refine (Any.strconv_Atoi_range_var Tryd.lays172 s hs h tq q w h2).mono ?_
    rintro e w' ⟨N, rfl, _, _, hb⟩
    exact ⟨Or.inr ⟨fun v => by simp, _, _, _, rfl⟩, hb⟩

end Go.Proofs.YtfblpbihpmhgjaaDoor
