/- Walks. -/
import Derived.Shelf.Strconv.ErrVarAll
import Derived.Lib.AtoiErrMem
import Derived.Lib.OwnKind
import Derived.Lib.BufferKept
import Derived.Lib.Walk
import Derived.Laws.AppendOwn
import Derived.Lib.MakeNoZero
import Derived.Laws.Externs
import Derived.Test.YtehiefdphnljaaaGreatDoorSw13
import Derived.Laws.IdiomStrings
import Derived.Lib.LaidTab
import Derived.Laws.RangeAny
import Derived.WalkMore
import Derived.Lib.Hide
import Derived.Lib.IndexLaws
namespace Go.Proofs.YtehiefdphnljaaaGreatDoor
set_option maxRecDepth 100000
set_option maxHeartbeats 40000000
open Go.RowKit Go.Shelf
variable {B X k:Nat} {W w w':World} {l:List UInt8} {t:ByteArray}
def Tryz.lays172_ren : Go.Shelf.Ren := ⟨fun | 172 => 192 | 244 => 201 | 245 => 202 | 247 => 205 | 279 => 206 | 280 => 207 | 281 => 208 | 282 => 209 | 287 => 211 | 316 => 152 | 171 => 95 | 205 => 212 | 321 => 214 | 322 => 215 | 243 => 135 | 246 => 158 | 283 => 174 | 284 => 175 | 285 => 176 | 286 => 177 | 129 => 188 | 317 => 187 | 318 => 189 | 319 => 190 | 320 => 191 | 337 => 199 | 338 => 200 | n => n, fun | 9 => 9 | 3 => 3 | 75 => 174 | 76 => 175 | 4 => 4 | 5 => 5 | 167 => 255 | 37 => 104 | 0 => 0 | 85 => 256 | 2 => 2 | 168 => 258 | 53 => 233 | 175 => 261 | 46 => 248 | 210 => 264 | 127 => 178 | 145 => 269 | 143 => 267 | 21 => 21 | 171 => 232 | 173 => 236 | 212 => 245 | 51 => 246 | 20 => 20 | 213 => 247 | 232 => 253 | 233 => 254 | 80 => 138 | n => n, fun | 15 => 4 | 16 => 5 | 17 => 0 | 18 => 2 | 19 => 3 | n => n⟩
theorem Tryz.lays172 : Go.Proofs.LaysC.n172 Tryz.prog Tryz.lays172_ren := {
  mixed := by kernel_rfl
  f129 := Tryz.func188.trans (congrArg some (by kernel_rfl))
  f171 := Tryz.func95.trans (congrArg some (by kernel_rfl))
  f172 := Tryz.func192.trans (congrArg some (by kernel_rfl))
  f205 := Tryz.func212.trans (congrArg some (by kernel_rfl))
  f243 := Tryz.func135.trans (congrArg some (by kernel_rfl))
  f244 := Tryz.func201.trans (congrArg some (by kernel_rfl))
  f245 := Tryz.func202.trans (congrArg some (by kernel_rfl))
  f246 := Tryz.func158.trans (congrArg some (by kernel_rfl))
  f247 := Tryz.func205.trans (congrArg some (by kernel_rfl))
  f279 := Tryz.func206.trans (congrArg some (by kernel_rfl))
  f280 := Tryz.func207.trans (congrArg some (by kernel_rfl))
  f281 := Tryz.func208.trans (congrArg some (by kernel_rfl))
  f282 := Tryz.func209.trans (congrArg some (by kernel_rfl))
  f283 := Tryz.func174.trans (congrArg some (by kernel_rfl))
  f284 := Tryz.func175.trans (congrArg some (by kernel_rfl))
  f285 := Tryz.func176.trans (congrArg some (by kernel_rfl))
  f286 := Tryz.func177.trans (congrArg some (by kernel_rfl))
  f287 := Tryz.func211.trans (congrArg some (by kernel_rfl))
  f316 := Tryz.func152.trans (congrArg some (by kernel_rfl))
  f317 := Tryz.func187.trans (congrArg some (by kernel_rfl))
  f318 := Tryz.func189.trans (congrArg some (by kernel_rfl))
  f319 := Tryz.func190.trans (congrArg some (by kernel_rfl))
  f320 := Tryz.func191.trans (congrArg some (by kernel_rfl))
  f321 := Tryz.func214.trans (congrArg some (by kernel_rfl))
  f322 := Tryz.func215.trans (congrArg some (by kernel_rfl))
  f337 := Tryz.func199.trans (congrArg some (by kernel_rfl))
  f338 := Tryz.func200.trans (congrArg some (by kernel_rfl))
  t0 := Tryz.underlying0
  a0 := Tryz.isAgg0
  z0 := Tryz.sizeOf0
  v0 := Tryz.zeroValue0
  t2 := Tryz.underlying2
  a2 := Tryz.isAgg2
  z2 := Tryz.sizeOf2
  v2 := Tryz.zeroValue2
  t3 := Tryz.underlying3
  a3 := Tryz.isAgg3
  z3 := Tryz.sizeOf3
  v3 := Tryz.zeroValue3
  t4 := Tryz.underlying4
  a4 := Tryz.isAgg4
  z4 := Tryz.sizeOf4
  v4 := Tryz.zeroValue4
  t5 := Tryz.underlying5
  a5 := Tryz.isAgg5
  z5 := Tryz.sizeOf5
  v5 := Tryz.zeroValue5
  t9 := Tryz.underlying9
  a9 := Tryz.isAgg9
  z9 := Tryz.sizeOf9
  v9 := Tryz.zeroValue9
  t20 := Tryz.underlying20
  a20 := Tryz.isAgg20
  z20 := Tryz.sizeOf20
  v20 := Tryz.zeroValue20
  t21 := Tryz.underlying21
  a21 := Tryz.isAgg21
  z21 := Tryz.sizeOf21
  v21 := Tryz.zeroValue21
  t37 := Tryz.underlying104
  a37 := Tryz.isAgg104
  z37 := Tryz.sizeOf104
  v37 := Tryz.zeroValue104
  t46 := Tryz.underlying248
  a46 := Tryz.isAgg248
  z46 := Tryz.sizeOf248
  v46 := Tryz.zeroValue248
  t51 := Tryz.underlying246
  a51 := Tryz.isAgg246
  z51 := Tryz.sizeOf246
  v51 := Tryz.zeroValue246
  t53 := Tryz.underlying233
  a53 := Tryz.isAgg233
  z53 := Tryz.sizeOf233
  v53 := Tryz.zeroValue233
  t75 := Tryz.underlying174
  a75 := Tryz.isAgg174
  z75 := Tryz.sizeOf174
  v75 := Tryz.zeroValue174
  t76 := Tryz.underlying175
  a76 := Tryz.isAgg175
  z76 := Tryz.sizeOf175
  v76 := Tryz.zeroValue175
  t85 := Tryz.underlying256
  a85 := Tryz.isAgg256
  z85 := Tryz.sizeOf256
  v85 := Tryz.zeroValue256
  t127 := Tryz.underlying178
  a127 := Tryz.isAgg178
  z127 := Tryz.sizeOf178
  v127 := Tryz.zeroValue178
  t143 := Tryz.underlying267
  a143 := Tryz.isAgg267
  z143 := Tryz.sizeOf267
  v143 := Tryz.zeroValue267
  t145 := Tryz.underlying269
  a145 := Tryz.isAgg269
  z145 := Tryz.sizeOf269
  v145 := Tryz.zeroValue269
  t167 := Tryz.underlying255
  a167 := Tryz.isAgg255
  z167 := Tryz.sizeOf255
  v167 := Tryz.zeroValue255
  t168 := Tryz.underlying258
  a168 := Tryz.isAgg258
  z168 := Tryz.sizeOf258
  v168 := Tryz.zeroValue258
  t171 := Tryz.underlying232
  a171 := Tryz.isAgg232
  z171 := Tryz.sizeOf232
  v171 := Tryz.zeroValue232
  t173 := Tryz.underlying236
  a173 := Tryz.isAgg236
  z173 := Tryz.sizeOf236
  v173 := Tryz.zeroValue236
  t175 := Tryz.underlying261
  a175 := Tryz.isAgg261
  z175 := Tryz.sizeOf261
  v175 := Tryz.zeroValue261
  t210 := Tryz.underlying264
  a210 := Tryz.isAgg264
  z210 := Tryz.sizeOf264
  v210 := Tryz.zeroValue264
  t212 := Tryz.underlying245
  a212 := Tryz.isAgg245
  z212 := Tryz.sizeOf245
  v212 := Tryz.zeroValue245
  t213 := Tryz.underlying247
  a213 := Tryz.isAgg247
  z213 := Tryz.sizeOf247
  t232 := Tryz.underlying253
  a232 := Tryz.isAgg253
  z232 := Tryz.sizeOf253
  v232 := Tryz.zeroValue253
  t233 := Tryz.underlying254
  a233 := Tryz.isAgg254
  z233 := Tryz.sizeOf254
  v233 := Tryz.zeroValue254
  g15 := by kernel_rfl
  g16 := by kernel_rfl
  g17 := by kernel_rfl
  g18 := by kernel_rfl
  g19 := by kernel_rfl
  t80 := Tryz.underlying138
  a80 := Tryz.isAgg138
  z80 := Tryz.sizeOf138
  v80 := Tryz.zeroValue138
  i0 := by kernel_rfl
  i2 := by kernel_rfl
  i3 := by kernel_rfl
  i4 := by kernel_rfl
  i5 := by kernel_rfl
  i9 := by kernel_rfl
  i20 := by kernel_rfl
  i21 := by kernel_rfl
  i37 := by kernel_rfl
  i46 := by kernel_rfl
  i51 := by kernel_rfl
  i53 := by kernel_rfl
  i75 := by kernel_rfl
  i76 := by kernel_rfl
  i80 := by kernel_rfl
  i85 := by kernel_rfl
  i127 := by kernel_rfl
  i143 := by kernel_rfl
  i145 := by kernel_rfl
  i167 := by kernel_rfl
  i168 := by kernel_rfl
  i171 := by kernel_rfl
  i173 := by kernel_rfl
  i175 := by kernel_rfl
  i210 := by kernel_rfl
  i212 := by kernel_rfl
  i232 := by kernel_rfl
  i233 := by kernel_rfl
  m15 := by kernel_rfl
  m16 := by kernel_rfl
  m17 := by kernel_rfl
  m18 := by kernel_rfl
  m19 := by kernel_rfl
  c0 := by kernel_rfl
  c2 := by kernel_rfl
  c3 := by kernel_rfl
  c4 := by kernel_rfl
  c5 := by kernel_rfl
  c9 := by kernel_rfl
  c20 := by kernel_rfl
  c21 := by kernel_rfl
  c37 := by kernel_rfl
  c46 := by kernel_rfl
  c51 := by kernel_rfl
  c53 := by kernel_rfl
  c75 := by kernel_rfl
  c76 := by kernel_rfl
  c80 := by kernel_rfl
  c85 := by kernel_rfl
  c127 := by kernel_rfl
  c143 := by kernel_rfl
  c145 := by kernel_rfl
  c167 := by kernel_rfl
  c168 := by kernel_rfl
  c171 := by kernel_rfl
  c173 := by kernel_rfl
  c175 := by kernel_rfl
  c210 := by kernel_rfl
  c212 := by kernel_rfl
  c213 := by kernel_rfl
  c232 := by kernel_rfl
  c233 := by kernel_rfl }

/-- The two errors that strconv's readers name lie where the program's start lays them. -/
def um (w : World) : Prop := (∃ tp p, w.var? Tryz.prog "strconv.ErrSyntax" = some #[.iface tp p]) ∧ (∃ tp p, w.var? Tryz.prog "strconv.ErrRange" = some #[.iface tp p])
theorem oq {w w' : World} {n : String} {cs : Array Value} (h : w.var? Tryz.prog n = some cs) (hb : RowKit.Below w.heap.size w w') : w'.var? Tryz.prog n = some cs := by
  unfold World.var? at h ⊢
  cases hg : Tryz.prog.globalNamed n with
  | none => simp [hg] at h
  | some g =>
    simp only [hg, Option.bind_some] at h ⊢
    have hlt : g < w.heap.size := by
      rcases Nat.lt_or_ge g w.heap.size with h' | h'
      · exact h'
      · simp [Array.getElem?_eq_none h'] at h
    rw [hb.block g hlt]
    exact h
theorem um.below (h : um w) (hb : RowKit.Below w.heap.size w w') : um w' := by
  obtain ⟨⟨a, b, h1⟩, c, d, h2⟩ := h
  exact ⟨⟨a, b, oq h1 hb⟩, c, d, oq h2 hb⟩
/-- strconv.Atoi at every text. -/
theorem Tryz.atoi_any (s : ByteArray) (hs : s.size ≤ 281474976710656) (w : World) (hv : um w) :
    Calls Tryz.prog 192 #[.string s] w fun e w' => ((∃ v, Lib.atoiAll s.data.toList = .ok v ∧ e = .returned (.tuple #[.int .i64 v, .nilIface])) ∨ ((∀ v, Lib.atoiAll s.data.toList ≠ .ok v) ∧ ∃ n T N, e = .returned (.tuple #[.int .i64 n, .iface T (.pointer (some ⟨N, 0, none⟩))]))) ∧ RowKit.Below w.heap.size w w' := by
  obtain ⟨⟨tp, p, h1⟩, tq, q, h2⟩ := hv
  cases h : Lib.atoiAll s.data.toList with
  | ok v =>
    refine (Any.strconv_Atoi_ok Tryz.lays172 s (by omega) v h w).mono ?_
    rintro e w' ⟨rfl, hw⟩
    refine ⟨Or.inl ⟨v, rfl, rfl⟩, ?_⟩
    rcases hw with rfl | ⟨t, rfl⟩
    · exact RowKit.Below.refl _ _
    · exact Lib.bytesWorld_below _ _ _
  | «syntax» =>
    refine (Any.strconv_Atoi_syntax_var Tryz.lays172 s hs h tp p w h1).mono ?_
    rintro e w' ⟨N, rfl, _, _, hb⟩
    exact ⟨Or.inr ⟨fun v => by simp, _, _, _, rfl⟩, hb⟩
  | range =>
    refine (Any.strconv_Atoi_range_var Tryz.lays172 s hs h tq q w h2).mono ?_
    rintro e w' ⟨N, rfl, _, _, hb⟩
    exact ⟨Or.inr ⟨fun v => by simp, _, _, _, rfl⟩, hb⟩
theorem xy {a b c:World} {r:Option Nat} (h:a.grownBy b r) (k:b.grownBy c r):a.grownBy c r:=⟨k.os.trans h.os,k.tape.trans h.tape,k.output.trans h.output,Nat.le_trans h.size k.size,fun i hi hn=>(k.block i (Nat.lt_of_lt_of_le hi h.size) hn).trans (h.block i hi hn)⟩
theorem uD {a b:World} (h:Bl a b) (r:Option Nat):a.grownBy b r:=⟨h.os,h.tape,h.output,h.size,fun i hi _=>h.block i hi⟩
theorem BP (w:World) (g o:Nat) (u:Value):w.grownBy (w.setCell ⟨g,o,none⟩ u) (some g):=⟨rfl,rfl,rfl,by simp [World.setCell],fun k _ hk=>Below.heap_setCell _ _ _ _ (fun e=>hk (by rw [e]))⟩
theorem AM (t:ByteArray) (pos:Nat) (h:pos<t.size):t.data.toList.drop pos=t[pos] :: t.data.toList.drop (pos+1):=by
 have h':pos<t.data.toList.length:=by rw [Array.length_toList];exact h
 rw [List.drop_eq_getElem_cons h'];rfl
def iy (B:Nat) (w:World):Prop:=∀w',Below B w w'→um w'
theorem Tryz.sizeBuilder:(Tryz.prog.info? 135).map (·.size)=some 2:=by kernel_rfl
theorem ug (b:Nat) (w:World) (h0:w.cell? ⟨b,0,none⟩=some (.pointer (pT b))) :
 Calls Tryz.prog 157 #[.pointer (pT b)] w fun e w'=>e=.returned (.tuple #[])∧w'=w:=by
 obtain ⟨j,hj,_⟩:=Option.map_eq_some_iff.1 Tryz.sizeBuilder;go_enter Tryz.func157,Tryz.ntmps157
 go_wp2;rw [Lib.run_neq_ptr_same w _ Tryz.underlying133 hj];go_wp2;go_end0;exact ⟨rfl,rfl⟩
theorem sg (b:Nat) (w:World) (h0:w.cell? ⟨b,0,none⟩=some (.pointer none)) (hsh:w.shape? b=some (135,2)) (hfz:w.frozen? ⟨b,0,none⟩=false) :
 Calls Tryz.prog 157 #[.pointer (pT b)] w fun e w'=>e=.returned (.tuple #[])∧w'=w.setCell ⟨b,0,none⟩ (.pointer (pT b)):=by
 obtain ⟨j,hj,hjs⟩:=Option.map_eq_some_iff.1 Tryz.sizeBuilder;go_enter Tryz.func157,Tryz.ntmps157
 go_wp2;rw [Lib.run_to_unsafe w ⟨b,0,none⟩ Tryz.underlying133 Tryz.underlying230 hj (by rw [hjs];decide) hsh (Nat.zero_lt_succ 1)];simp only [Result.andThen];rw [Oper.upon_value];go_wp2;rw [run_callFunc_extern Tryz.func173 (by kernel_rfl) (by kernel_rfl) (by kernel_rfl) (e:=Extern.AbiNoEscape.same) (by kernel_rfl)];rw [Lib.run_noEscape];simp only [Result.andThen];rw [Oper.upon_value];go_wp2;rw [Lib.run_from_unsafe w ⟨b,0,none⟩ Tryz.underlying230 Tryz.underlying133 hj hsh (by kernel_rfl)];simp only [Result.andThen];rw [Oper.upon_value];go_wp2;go_end0;exact ⟨rfl,rfl⟩
theorem ps (B b:Nat) (bs:List Value) (w:World) (h:Lib.IsBuilder 135 5 B b bs w) :
 Calls Tryz.prog 157 #[.pointer (pT b)] w fun e w'=>e=.returned (.tuple #[])∧(Lib.BuilderAt 135 5 B b (.pointer (pT b)) bs w'∧Below B w w'∧Lib.OthersKept 5 (some b) w w'):=by
 rcases h with h | h
 · refine (sg b w h.cell0 h.shape h.frozen0).mono ?_;rintro e w' ⟨rfl,rfl⟩;exact ⟨rfl,h.used _,(Below.refl B w).setCell (p:=⟨b,0,none⟩) h.1 _,(Lib.OthersKept.refl 5 (some b) w).setCell (b:=b) ⟨b,0,none⟩ rfl _⟩
 · refine (ug b w h.cell0).mono ?_;rintro e w' ⟨rfl,rfl⟩;exact ⟨rfl,h,Below.refl B _,Lib.OthersKept.refl _ _ _⟩
theorem nT (B b:Nat) (bs:List Value) (c:Int) (w:World) (h:Lib.IsBuilder 135 5 B b bs w) (hlen:bs.length+1≤140737488355328) (hBw:B≤w.heap.size) :
 Calls Tryz.prog 134 #[.pointer (pT b),.int .u8 c] w fun e w'=>e=.returned .nilIface∧(Lib.BuilderAt 135 5 B b (.pointer (pT b)) (bs++[.int .u8 c]) w'∧Below B w w'∧Lib.OthersKept 5 (some b) w w'):=by
 obtain ⟨i0,hi,hz0,hz1,hz2⟩:=info_parts Tryz.Builder_Extra_169.infoByte;go_enter Tryz.func134,Tryz.ntmps134
 go_wp2_with (go_at_call 157;refine (ps B b bs _ h).mono ?_)
 rintro e w1 ⟨rfl,h1,hb1,hk1⟩;obtain ⟨hB,v,hbk,hown,hne⟩:=h1;have c0:w1.cell? ⟨b,0,none⟩=some (.pointer (pT b)):=by rw [Lib.cell_of_heap hbk];rfl
 have c1:w1.cell? ⟨b,1,none⟩=some v:=by rw [Lib.cell_of_heap hbk];rfl
 go_wp2_with (at_builtin;refine wpList_append_own _ rfl _ _ 104 rfl B 5 i0 (.int .u8 0) 1 1 Tryz.underlying104 hi hz0 hz1 hz2 rfl (by decide) _ _ _ rfl (hown.alloc _) ⟨w1.heap.size,0,none⟩ 1 1 [.int .u8 c] rfl rfl ?c1 ?c2 ?c3 ?c4 ?c5 ?_)
 case c1 =>
  intro j u hj;match j,hj with
  | 0,hj=>simp at hj;subst hj;simp [Addr.add]
 case c2=>intro u hu;simp at hu;subst hu;rfl
 case c3=>unfold maxLen;omega
 case c4=>omega
 case c5=>have:=hb1.size;simp;omega
 intro v' w2 hown' hgrow _;have hlt:b<w1.heap.size:=by
  rcases Nat.lt_or_ge b w1.heap.size with h' | h'
  · exact h'
  · simp [Array.getElem?_eq_none h'] at hbk
 have hb2:w2.heap[b]?=some (.cells #[.pointer (pT b),v] 135 (0,0)):=by
  rw [hgrow.block b (by simp;omega) (fun e=>hne e.symm),Lib.alloc_old w1 _ b hlt];exact hbk
 have d0:w2.cell? ⟨b,0,none⟩=some (.pointer (pT b)):=by rw [Lib.cell_of_heap hb2];rfl
 have d1:w2.cell? ⟨b,1,none⟩=some v:=by rw [Lib.cell_of_heap hb2];rfl
 have f1:w2.frozen? ⟨b,1,none⟩=false:=Lib.frozen_of_heap hb2 1;obtain ⟨g,cap,rfl⟩:∃g cap,v'=sL g (bs.length+1) cap:=by
  rcases hown'.2 with ⟨_,h0⟩ | ⟨g,cap,cur,hv,_⟩
  · omega
  · exact ⟨g,cap,hv⟩
 go_wp2;go_ret;refine ⟨rfl,?_,?_,?_⟩
 · exact Lib.BuilderAt.put (T:=135) (e:=5) hB hb2 (bs':=bs++[.int .u8 c]) (by simpa using hown') Tryz.Builder_Extra_169.neB5
 · exact ((hb1.alloc (by have:=hb1.size;omega) _).grown hgrow (by have:=hb1.size;simp;omega) (fun k hk=>(hown.lt k hk).1)).setCell (p:=⟨b,1,none⟩) hB _
 · exact ((hk1.alloc _).grown hgrow (fun g hg=>Lib.ownsRow_kind (hown.alloc _) g hg)).setCell (b:=b) ⟨b,1,none⟩ rfl _
theorem l7 (B b:Nat) (bs:List Value) (s:ByteArray) (w:World) (h:Lib.IsBuilder 135 5 B b bs w) (hlen:bs.length+s.size≤140737488355328) (hBw:B≤w.heap.size) :
 Calls Tryz.prog 133 #[.pointer (pT b),.string s] w fun e w'=>e=.returned (.tuple #[iT s.size,.nilIface])∧(Lib.BuilderAt 135 5 B b (.pointer (pT b)) (bs++Lib.strCells s) w'∧Below B w w'∧Lib.OthersKept 5 (some b) w w'):=by
 obtain ⟨i0,hi,hz0,hz1,hz2⟩:=info_parts Tryz.Builder_Extra_169.infoByte;go_enter Tryz.func133,Tryz.ntmps133
 go_wp2_with (go_at_call 157;refine (ps B b bs _ h).mono ?_)
 rintro e w1 ⟨rfl,h1,hb1,hk1⟩;obtain ⟨hB,v,hbk,hown,hne⟩:=h1;have c0:w1.cell? ⟨b,0,none⟩=some (.pointer (pT b)):=by rw [Lib.cell_of_heap hbk];rfl
 have c1:w1.cell? ⟨b,1,none⟩=some v:=by rw [Lib.cell_of_heap hbk];rfl
 go_wp2_with (at_builtin;refine Lib.wpList_append_own_string _ rfl _ _ 104 9 rfl B 5 i0 Tryz.underlying104 Tryz.underlying9 hi hz0 hz1 hz2 _ _ _ rfl hown s rfl ?c3 ?c4 ?c5 ?_)
 case c3=>unfold maxLen;omega
 case c4=>omega
 case c5=>have:=hb1.size;omega
 intro v' w2 hown' hgrow _;have hlt:b<w1.heap.size:=by
  rcases Nat.lt_or_ge b w1.heap.size with h' | h'
  · exact h'
  · simp [Array.getElem?_eq_none h'] at hbk
 have hb2:w2.heap[b]?=some (.cells #[.pointer (pT b),v] 135 (0,0)):=by
  rw [hgrow.block b hlt (fun e=>hne e.symm)];exact hbk
 have d0:w2.cell? ⟨b,0,none⟩=some (.pointer (pT b)):=by rw [Lib.cell_of_heap hb2];rfl
 have d1:w2.cell? ⟨b,1,none⟩=some v:=by rw [Lib.cell_of_heap hb2];rfl
 have f1:w2.frozen? ⟨b,1,none⟩=false:=Lib.frozen_of_heap hb2 1;obtain ⟨ao,n',cap,rfl⟩:∃ao n' cap,v'=.slice ao n' cap:=by
  rcases hown'.2 with ⟨hv,_⟩ | ⟨g,cap,cur,hv,_⟩
  · exact ⟨_,_,_,hv⟩
  · exact ⟨_,_,_,hv⟩
 go_wp2;go_ret2;refine ⟨rfl,?_,?_,?_⟩
 · exact Lib.BuilderAt.put (T:=135) (e:=5) hB hb2 (bs':=bs++Lib.strCells s) (by simpa [Lib.strCells_length] using hown') Tryz.Builder_Extra_169.neB5
 · exact (hb1.grown hgrow (by have:=hb1.size;omega) (fun k hk=>(hown.lt k hk).1)).setCell (p:=⟨b,1,none⟩) hB _
 · exact (hk1.grown hgrow (fun g hg=>Lib.ownsRow_kind hown g hg)).setCell (b:=b) ⟨b,1,none⟩ rfl _
structure cF (B b:Nat) (W w:World) (l:List UInt8):Prop where
 bld:Lib.IsBuilder 135 5 B b (Lib.byteCells l) w
 kept:Lib.OthersKept 5 (some b) W w
 bel:Below B W w
theorem tr {e:TypeId} {v:Value} {n:Nat} {xs:List Value} (h:w.ownsRow B e k v n xs) (hb:Bl w w'):w'.ownsRow B e k v n xs :=
 h.kept (row:=none) ⟨hb.os,hb.tape,hb.output,hb.size,fun j hj _=>hb.block j hj⟩ (by cases hv:v.ownBlock <;> simp)
theorem mh {b:Nat} {bs:List Value} (h:Lib.IsBuilder 135 5 B b bs w) (hb:Bl w w'):Lib.IsBuilder 135 5 B b bs w':=by
 have f:∀{p},Lib.BuilderAt 135 5 B b p bs w→Lib.BuilderAt 135 5 B b p bs w':=by
  rintro p ⟨h1,v,h2,h3,h4⟩;exact ⟨h1,v,(hb.block b (Array.getElem?_eq_some_iff.1 h2).1).trans h2,tr h3 hb,h4⟩
 rcases h with h | h
 · exact Or.inl (f h)
 · exact Or.inr (f h)
theorem cF.below {b:Nat} (h:cF B b W w l) (hB:B≤W.heap.size) (hb:Bl w w'):cF B b W w' l :=
 ⟨mh h.bld hb,h.kept.below hb,h.bel.trans (hb.mono (Nat.le_trans hB h.bel.size))⟩
theorem cF.size {b:Nat} (h:cF B b W w l) (hB:B≤W.heap.size):B≤w.heap.size:=Nat.le_trans hB h.bel.size
theorem cF.box {b:Nat} {cs:Array Value} {t:TypeId} (h:cF B b W w l) (hX:W.heap[X]?=some (.cells cs t (0,0))) (ht:t≠5) (hb:X≠b):w.heap[X]?=some (.cells cs t (0,0)) :=
 h.kept X _ hX (by simpa using hb) (fun c fz e=>by cases e;exact ht rfl)
theorem cF.here {b:Nat} (h:cF B b W w l):cF B b w w l:=⟨h.bld,Lib.OthersKept.refl _ _ _,Below.refl _ _⟩
theorem cF.trans {b:Nat} {l':List UInt8} (h:cF B b W w l) (k:cF B b w w' l'):cF B b W w' l':=⟨k.bld,h.kept.trans k.kept,h.bel.trans k.bel⟩
theorem rh (B b:Nat) (l:List UInt8) (c:UInt8) (z:Int) (W w:World) (h:cF B b W w l) (hz:(c.toNat:Int)=z) (hlen:l.length+1≤140737488355328) (hB:B≤W.heap.size) :
 Calls Tryz.prog 134 #[.pointer (pT b),.int .u8 z] w fun e w'=>e=.returned .nilIface∧cF B b W w' (l++[c]):=by
 refine (nT B b _ z w h.bld (by simpa [Lib.byteCells] using hlen) (h.size hB)).mono ?_;rintro e w' ⟨rfl,h1,h2,h3⟩;refine ⟨rfl,Or.inr ?_,h.kept.trans h3,h.bel.trans h2⟩;rw [← hz] at h1;simpa [Lib.byteCells] using h1
theorem mt (B b:Nat) (l:List UInt8) (s:ByteArray) (W w:World) (h:cF B b W w l) (hlen:l.length+s.size≤140737488355328) (hB:B≤W.heap.size) :
 Calls Tryz.prog 133 #[.pointer (pT b),.string s] w fun e w'=>e=.returned (.tuple #[iT s.size,.nilIface])∧cF B b W w' (l++s.data.toList):=by
 refine (l7 B b _ s w h.bld (by simpa [Lib.byteCells] using hlen) (h.size hB)).mono ?_;rintro e w' ⟨rfl,h1,h2,h3⟩;refine ⟨rfl,Or.inr ?_,h.kept.trans h3,h.bel.trans h2⟩;simpa [Lib.byteCells,Lib.strCells] using h1
structure bT (w:World) (X:Nat) (t:ByteArray) (k:Nat):Prop where
 c0:w.cell? ⟨X,0,none⟩=some (.string t)
 c1:w.cell? ⟨X,1,none⟩=some (iT (k:Int))
 fz:∀o,w.frozen? ⟨X,o,none⟩=false
 le:k≤t.size
theorem bT.lt (h:bT w X t k):X<w.heap.size:=World.block_lt_of_cell? _ _ h.c0
theorem bT.go (h:bT w X t k) {j:Nat} (hj:j≤t.size) {z:Int} (hz:z=(j:Int)):bT (w.setCell ⟨X,1,none⟩ (iT z)) X t j:=by
 subst hz;refine ⟨?_,?_,fun o=>?_,hj⟩
 · rw [World.cell?_setCell_other _ _ _ _ (by simp)];exact h.c0
 · exact World.cell?_setCell_same' _ _ _ (by rw [h.c1];rfl)
 · rw [World.frozen?_setCell];exact h.fz o
theorem yI (t:ByteArray) (k m:Nat) (h:k+m≤t.size):((t.extract k ((k:Int)+(m:Int)).toNat).data.toList,t.data.toList.drop (k+m))=dL (m:Int) (t.data.toList.drop k):=by
 have e1:((k:Int)+(m:Int)).toNat=k+m:=by omega
 rw [dL,if_neg (by rw [List.length_drop,aN];omega),e1];simp only [Int.toNat_natCast,List.drop_drop];rw [ByteArray.data_extract,Array.toList_extract,List.extract_eq_take_drop];simp
theorem bT.drew (h:bT w X t k):bT w.drew X t k:=⟨h.c0,h.c1,h.fz,h.le⟩
theorem lc (X k:Nat) (t:ByteArray) (n:Int) (w:World) (h:bT w X t k) (ht:t.size≤1048576) (hn:-9223372036854775808≤n) (hn2:n≤9223372036854775807) :
 Calls Tryz.prog 194 #[.pointer (pT X),iT n] w fun e w'=>∃(s:ByteArray) (j:Nat),e=.returned (.string s)∧(s.data.toList,t.data.toList.drop j)=dL n (t.data.toList.drop k)∧bT w' X t j∧w.grownBy w' (some X):=by
 have HL:=ar h;have hle:=h.le;have HMK:Hid (∀w',Bl w w'→(w'.cell? ⟨X,0,none⟩=some (.string t)∧w'.cell? ⟨X,1,none⟩=some (iT (k:Int))∧X<w'.heap.size)):=fun w' kk=>⟨cell_later kk h.c0,cell_later kk h.c1,Nat.lt_of_lt_of_le h.lt kk.size⟩
 have k0:Bl w w.drew:=(Below.refl _ w).drew;clear h;by_cases h0:n<0
 · go_enter Tryz.func194,Tryz.ntmps194
   go_wp2_with fail
   refine dC HMK k0 fun aa=>?_
   refine aK 0 16 aa ?_;refine dN ?_;go_wp2;go_ret;exact ⟨⟨#[]⟩,k,rfl,by rw [dL,if_pos (Or.inl h0)],HL.out.drew,uD k0 _⟩
 by_cases h1:(t.size:Int) - (k:Int)<n
 · go_enter Tryz.func194,Tryz.ntmps194
   have hd:decide (n<0)=false:=decide_eq_false h0;have hwr:IntKind.i64.wrap ((t.size:Int) - (k:Int))=(t.size:Int) - (k:Int):=by rw [IntWalk.i64_left];unfold wrap64;omega
   go_wp2_with fail
   refine dC HMK k0 fun aa=>?_
   refine aK 0 16 aa ?_;refine dN ?_;go_wp2;go_ret;exact ⟨⟨#[]⟩,k,rfl,by rw [dL,if_pos (Or.inr (by rw [List.length_drop,aN];omega))],HL.out.drew,uD k0 _⟩
 obtain ⟨m,rfl⟩:=Int.eq_ofNat_of_zero_le (show 0≤n by omega);have hd:decide ((m:Int)<0)=false:=decide_eq_false (by omega);have hd1:decide ((t.size:Int) - (k:Int)<(m:Int))=false:=decide_eq_false h1;have hwr:IntKind.i64.wrap ((t.size:Int) - (k:Int))=(t.size:Int) - (k:Int):=by rw [IntWalk.i64_left];unfold wrap64;omega
 go_enter Tryz.func194,Tryz.ntmps194
 go_wp2_with fail
 refine dC HMK k0 fun aa=>?_
 refine aK 0 16 aa ?_;refine dN ?_;have c0:=(HMK.out _ k0).1;have c1:=(HMK.out _ k0).2.1;have cX:=(HMK.out _ k0).2.2;have cf:w.drew.frozen? ⟨X,1,none⟩=false:=HL.out.fz 1;have hsum:IntKind.i64.wrap ((k:Int)+(m:Int))=(k:Int)+(m:Int):=by rw [IntWalk.i64_left];unfold wrap64;omega
 have hback:IntKind.i64.wrap (k:Int)=(k:Int):=by rw [IntWalk.i64_left];unfold wrap64;omega
 have hb1:(k:Int)≤(k:Int)+(m:Int):=by omega
 have hb2:(k:Int)+(m:Int)≤(t.size:Int):=by omega
 have hb0:0≤(k:Int)+(m:Int):=by omega
 go_wp2_with fail
 obtain ⟨W2,hW2⟩:∃W,W=(w.setCell ⟨X,1,none⟩ (iT ((k:Int)+(m:Int)))).drew:=⟨_,rfl⟩;have L2:bT W2 X t (k+m):=by rw [hW2];exact (HL.out.go (by omega) (by omega)).drew
 have G2:w.grownBy W2 (some X):=by rw [hW2];exact xy (BP _ _ _ _) (uD ((Below.refl _ _).drew) _)
 have HL2:Hid (bT W2 X t (k+m)):=L2;have j0:Bl W2 W2.drew:=(Below.refl _ W2).drew;have d1:W2.cell? ⟨X,1,none⟩=some (iT ((k:Int)+(m:Int))):=L2.c1;have HM2:Hid (W2.drew.cell? ⟨X,0,none⟩=some (.string t)∧W2.drew.cell? ⟨X,1,none⟩=some (iT ((k:Int)+(m:Int)))∧X<W2.drew.heap.size):=⟨L2.c0,d1,L2.lt⟩;have HG2:Hid (w.grownBy W2 (some X)):=G2;rw [← hW2];clear hW2 L2 d1 G2 c0 c1 cX cf aa;refine wp_region_held_drew (S:=(fun w'=>w'.cell? ⟨X,0,none⟩=some (.string t)∧w'.cell? ⟨X,1,none⟩=some (iT ((k:Int)+(m:Int)))∧X<w'.heap.size)) (by kernel_rfl) HM2.out (fun aa=>?_);refine aK 0 16 aa ?_;refine dN ?_;go_wp2;go_ret;exact ⟨_,k+m,rfl,yI t k m (by omega),HL2.out.drew,xy HG2.out (uD j0 _)⟩
theorem AE (s:ByteArray) (w:World):Calls Tryz.prog 203 #[.string s,.int .u8 32] w fun e w'=>e=.returned (iT (Lib.indexByte s.data.toList 32))∧w=w':=by
 go_enter Tryz.func203,Tryz.ntmps203
 go_wp2_with fail
 refine (Tryz.stringslite_IndexByte s 32 _).mono ?_;rintro e w1 ⟨rfl,rfl⟩;go_wp2;go_ret;exact ⟨rfl,rfl⟩
theorem lw:∀(l:List UInt8),(Lib.indexByte l 32=-1∧(32:UInt8) ∉ l)∨∃u r,l=u++32 :: r∧(32:UInt8) ∉ u∧Lib.indexByte l 32=(u.length:Int)
 | []=>Or.inl ⟨rfl,by simp⟩
 | x :: l=>by
  by_cases hx:x=32
  · subst hx
    exact Or.inr ⟨[],l,rfl,by simp,by simp [Lib.indexByte]⟩
  · have hxb:(x == 32)=false:=by simpa using hx
    rcases lw l with ⟨h1,h2⟩ | ⟨u,r,rfl,h2,h3⟩
    · exact Or.inl ⟨by simp [Lib.indexByte,hxb,h1],by simp [h2,Ne.symm hx]⟩
    · have hne:(Lib.indexByte (u++32 :: r) 32 == -1)=false:=by rw [h3];simp
      exact Or.inr ⟨x :: u,r,rfl,by simp [h2,Ne.symm hx],by show Lib.indexByte (x :: (u++32 :: r)) 32=_;rw [Lib.indexByte,hxb,hne,h3];simp⟩
theorem qA {a b c d:List UInt8} (h1:(a,b)=dL (Lib.indexByte l 32) l) (h2:(c,d)=dL 1 b):(a,d)=gl l:=by
 rcases lw l with ⟨e1,e2⟩ | ⟨u,r,rfl,e2,e3⟩
 · rw [e1,dL,if_pos (Or.inl (by decide))] at h1;cases h1;rw [gl,if_neg e2];rw [dL] at h2;split at h2
   · rename_i h
     have hl:l.length=0:=by
      rcases h with h | h
      · omega
      · omega
     rw [List.length_eq_zero_iff] at hl;subst hl;cases h2;rfl
   · cases h2;rfl
 · rw [e3,k9] at h1;cases h1;rw [iF _ _ e2];have:dL 1 (32 :: r)=([32],r):=k9 [32] r;rw [this] at h2;cases h2;rfl
theorem qB (X k:Nat) (t:ByteArray) (w:World) (h:bT w X t k) (ht:t.size≤1048576) :
 Calls Tryz.prog 193 #[.pointer (pT X)] w fun e w'=>∃(s:ByteArray) (j:Nat),e=.returned (.string s)∧(s.data.toList,t.data.toList.drop j)=gl (t.data.toList.drop k)∧bT w' X t j∧w.grownBy w' (some X):=by
 have HL:Hid (bT w.drew X t k):=h.drew;have hle:=h.le;have c0:w.drew.cell? ⟨X,0,none⟩=some (.string t):=h.c0;have c1:w.drew.cell? ⟨X,1,none⟩=some (iT (k:Int)):=h.c1;have hX:=h.lt;clear h;have hkI:(k:Int)≤(t.size:Int):=by omega
 have hk0:0≤(k:Int):=by omega
 have CP:Hid (Calls Tryz.prog 194 #[.pointer (pT X),iT (Lib.indexByte (List.take (t.size - k) (List.drop k t.data.toList)) 32)] w.drew fun e w'=>∃(s:ByteArray) (j:Nat),e=.returned (.string s)∧(s.data.toList,t.data.toList.drop j)=dL (Lib.indexByte (t.data.toList.drop k) 32) (t.data.toList.drop k)∧bT w' X t j∧w.drew.grownBy w' (some X)):=by
  have e0:List.take (t.size - k) (List.drop k t.data.toList)=t.data.toList.drop k:=List.take_of_length_le (by rw [List.length_drop,aN];omega);have hr:-1≤Lib.indexByte (t.data.toList.drop k) 32∧Lib.indexByte (t.data.toList.drop k) 32≤1048576:=by
   rcases lw (t.data.toList.drop k) with ⟨h1,_⟩ | ⟨u,r,h1,_,h3⟩
   · rw [h1];omega
   · rw [h3];have:=congrArg List.length h1;rw [List.length_drop,aN] at this;simp at this;omega
  rw [e0];exact lc X k t _ _ HL.out ht (by omega) (by omega)
 go_enter Tryz.func193,Tryz.ntmps193
 go_wp2_with fail
 have HS0:Hid (w.drew.cell? ⟨X,0,none⟩=some (.string t)∧X<w.drew.heap.size):=⟨c0,hX⟩;refine wp_region_held_drew (S:=(fun w'=>w'.cell? ⟨X,0,none⟩=some (.string t)∧X<w'.heap.size)) (by kernel_rfl) HS0.out (fun aa=>?_);refine aK 0 8 aa ?_;refine aP 8 fun K hK=>?_
 go_simp;refine hK.out _ _ HS0.out fun aa=>?_
 (try go_frame);refine aK 9 1 aa ?_;refine aP 10 fun K hK=>?_
 go_simp;refine (AE _ _).mono ?_;rintro e w0 ⟨rfl,rfl⟩;go_wp2_with fail
 refine hK.out _ _ HS0.out fun aa=>?_
 (try go_frame);refine aP 11 fun K hK=>?_
 go_simp;refine CP.out.mono ?_;rintro e w1 ⟨s,j,rfl,hs,hL1,hg1⟩;have HS:Hid ((s.data.toList,t.data.toList.drop j)=dL (Lib.indexByte (t.data.toList.drop k) 32) (t.data.toList.drop k)):=hs;have HL1:Hid (bT w1 X t j):=hL1;have HG1:Hid (w.drew.grownBy w1 (some X)):=hg1;clear hs hL1 hg1;go_wp2_with fail
 refine hK.out _ _ ⟨HL1.out.c0,HL1.out.lt⟩ fun aa=>?_
 (try go_frame);refine aK 12 1 aa ?_;refine dN ?_;all_goals
  go_wp2_with fail
  refine (lc X j t 1 _ HL1.out ht (by omega) (by omega)).mono ?_;rintro e w2 ⟨s2,j2,rfl,hs2,hL2,hg2⟩;have HS2:Hid ((s.data.toList,t.data.toList.drop j2)=gl (t.data.toList.drop k)):=qA HS.out hs2;clear hs2;go_wp2;go_ret;exact ⟨s,j2,rfl,HS2.out,hL2,xy (xy (uD ((Below.refl _ _).drew) _) HG1.out) hg2⟩
end Go.Proofs.YtehiefdphnljaaaGreatDoor
