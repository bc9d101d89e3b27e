/- Walks. -/
import Derived.Test.YtpobkmjicbobdaaGreatSn16
import Derived.Shelf.LaysM
import Derived.Shelf.Strconv.Clone
import Derived.Laws.CopyOwn
import Derived.Laws.IdiomCopy
namespace Go.Proofs.YtpobkmjicbobdaaGreat
set_option maxRecDepth 100000
set_option maxHeartbeats 40000000
open Go.RowKit Go.Shelf
variable {K X Z b1 b2 b3 base c g hi hi' k lo lo' nm ns nv:Nat} {M:List ac} {S:List Int} {V:List (List af)} {bs gs:Nat→Nat} {d q:Int} {es:Nat→Nat→Nat} {s t:ByteArray} {w w' w0:World} {xs:List Value}
structure ec (lo hi:Nat) (w:World) (b1 nm b2 nv b3 ns:Nat) (M:List ac) (V:List (List af)) (S:List Int) (gs bs:Nat→Nat) (es:Nat→Nat→Nat):Prop where
 mem:au w lo b1 nm nm M
 levs:fa lo hi w b2 nv V gs bs es
 sn:kQ lo w b3 ns S
 ahead:b1<bs 0∧b3<bs 0
theorem kQ.grown {n:Nat} {row:Option Nat} (h:kQ lo w g n S) (hg:w.grownBy w' row) (hne:some g≠row):kQ lo w' g n S:=⟨h.1,h.2.kept hg (.inr (by simpa [Value.ownBlock] using hne))⟩
theorem kQ.keepO {n:Nat} (h:kQ lo w g n S) (k:cJ lo' hi' w w') (hg:g<lo'∨hi'≤g):kQ lo w' g n S:=⟨h.1,k.row h.2 hg⟩
theorem ec.below (h:ec lo hi w b1 nm b2 nv b3 ns M V S gs bs es) (hb:Bl w w'):ec lo hi w' b1 nm b2 nv b3 ns M V S gs bs es :=
 ⟨h.mem.below hb,h.levs.below hb,h.sn.grown (row:=none) ⟨hb.os,hb.tape,hb.output,hb.size,fun k hk _=>hb.block k hk⟩ (by simp),h.ahead⟩
theorem ec.keepO (h:ec lo hi w b1 nm b2 nv b3 ns M V S gs bs es) (k:cJ lo' hi' w w') (hd:hi'≤lo):ec lo hi w' b1 nm b2 nv b3 ns M V S gs bs es:=by
 obtain ⟨xs,h1,_⟩:=h.levs.row;have g2:=(h1.lt b2 rfl).1;have g1:=h.mem.lt.1;have g3:=(h.sn.2.lt b3 rfl).1;have g0:=h.levs.bot.1;exact ⟨k.own h.mem (by omega),h.levs.keepO k (by omega) (by omega),h.sn.keepO k (by omega),h.ahead⟩
theorem ec.apart (h:ec lo hi w b1 nm b2 nv b3 ns M V S gs bs es):b1≠b2∧b1≠b3∧b2≠b3:=by
 obtain ⟨xs,h1,_⟩:=h.levs.row;have k1:=dR h.mem.owns;have k2:=dR h1;have k3:=dR h.sn.2;refine ⟨fun e=>?_,fun e=>?_,fun e=>?_⟩ <;> subst e
 · exact absurd (k1.kind k2) (by decide)
 · exact absurd (k1.kind k3) (by decide)
 · exact absurd (k2.kind k3) (by decide)
theorem fa.grown {G n:Nat} (h:fa lo hi w G n V gs bs es) (hg:w.grownBy w' (some g)) (hne:G≠g) (hl:g<bs 0):fa lo hi w' G n V gs bs es:=by
 refine h.keepO (lo':=g) (hi':=g+1) ⟨hg.os,hg.tape,hg.output,hg.size,fun q hq ho=>hg.block q hq (fun e=>by have:=Option.some.inj e;omega)⟩ (by omega) (by omega)
theorem jc (h:cJ lo hi w w') {b o:Nat} {v:Value} (hb:b<lo∨hi≤b) (hc:w.cell? ⟨b,o,none⟩=some v):w'.cell? ⟨b,o,none⟩=some v :=
 (World.cell?_of_block (h.block b (World.block_lt_of_cell? _ _ hc) hb)).trans hc
def Tryz.laysM316_ren : Go.Shelf.Ren := ⟨fun | 316 => 216 | n => n, fun | 9 => 9 | 3 => 3 | 4 => 4 | 37 => 38 | 0 => 0 | 127 => 247 | 5 => 5 | n => n, fun | n => n⟩
theorem Tryz.laysM316 : Go.Proofs.LaysM.n316 Tryz.prog Tryz.laysM316_ren := {
  mixed := by kernel_rfl
  f316 := Tryz.func216.trans (congrArg some (by kernel_rfl))
  t0 := Tryz.underlying0
  a0 := Tryz.isAgg0
  z0 := Tryz.sizeOf0
  v0 := Tryz.zeroValue0
  t3 := Tryz.underlying3
  a3 := Tryz.isAgg3
  z3 := Tryz.sizeOf3
  v3 := Tryz.zeroValue3
  t4 := Tryz.underlying4
  a4 := Tryz.isAgg4
  z4 := Tryz.sizeOf4
  v4 := Tryz.zeroValue4
  t9 := Tryz.underlying9
  a9 := Tryz.isAgg9
  z9 := Tryz.sizeOf9
  v9 := Tryz.zeroValue9
  t37 := Tryz.underlying38
  a37 := Tryz.isAgg38
  z37 := Tryz.sizeOf38
  v37 := Tryz.zeroValue38
  t127 := Tryz.underlying247
  a127 := Tryz.isAgg247
  z127 := Tryz.sizeOf247
  v127 := Tryz.zeroValue247
  t5 := Tryz.underlying5
  a5 := Tryz.isAgg5
  z5 := Tryz.sizeOf5
  v5 := Tryz.zeroValue5
  i0 := by kernel_rfl
  i3 := by kernel_rfl
  i4 := by kernel_rfl
  i5 := by kernel_rfl
  i9 := by kernel_rfl
  i37 := by kernel_rfl
  i127 := by kernel_rfl }
open Go.RowKit in
/-- internal/stringslite.Clone (what strings.Clone calls): "Clone returns a fresh copy of s.": THE SAME BYTES. Of what was there nothing has turned (a new row is laid, and frozen, where s is not empty). (LAID: no walk: one application.) -/
theorem Tryz.stringslite_Clone (s : ByteArray) (w : World) (hlim : s.size ≤ 281474976710656) :
    Calls Tryz.prog 216 #[.string s] w fun e w' => e = .returned (.string s) ∧ Below w.heap.size w w' := Any.stringslite_Clone Tryz.laysM316 s w hlim
theorem qU (s:ByteArray) (w:World) (h:s.size≤281474976710656) :
 Calls Tryz.prog 171 #[.string s] w fun e w'=>e=.returned (.string s)∧Bl w w':=by
 go_enter Tryz.func171,Tryz.ntmps171
 go_wp2_with fail
 refine (Tryz.stringslite_Clone s _ h).mono ?_;rintro e w1 ⟨rfl,hb1⟩;go_wp2;go_ret;exact ⟨rfl,hb1⟩
structure gu (w0 w:World) (X:Nat) (s t:ByteArray) (q d n:Int):Prop where
 low:Below X w0 w
 c0:w.cell? ⟨X,0,none⟩=some (.string s)
 c1:w.cell? ⟨X,1,none⟩=some (iT q)
 c2:w.cell? ⟨X,2,none⟩=some (iT d)
 c3:w.cell? ⟨X,3,none⟩=some (.string t)
 c4:w.cell? ⟨X,4,none⟩=some (iT n)
 fr:∀o,w.frozen? ⟨X,o,none⟩=false
theorem gu.lt {n:Int} (h:gu w0 w X s t q d n):X<w.heap.size:=World.block_lt_of_cell? _ _ h.c0
theorem gu.call {n:Int} (h:gu w0 w X s t q d n) (hb:Bl w w'):gu w0 w' X s t q d n :=
 ⟨h.low.trans (hb.mono (Nat.le_of_lt h.lt)),cell_later hb h.c0,cell_later hb h.c1,cell_later hb h.c2,cell_later hb h.c3,cell_later hb h.c4,fun o=>(hb.frozen (p:=⟨X,o,none⟩) h.lt).trans (h.fr o)⟩
theorem gu.drew {n:Int} (h:gu w0 w X s t q d n):gu w0 w.drew X s t q d n:=h.call (Below.refl _ w).drew
theorem gu.store0 {n:Int} (h:gu w0 w X s t q d n):gu w0 (w.setCell ⟨X,0,none⟩ (.string s)) X s t q d n :=
 ⟨h.low.setCell (p:=⟨X,0,none⟩) (Nat.le_refl _) _,World.cell?_setCell_same' _ _ _ (by rw [h.c0];rfl),by rw [World.cell?_setCell_other _ _ _ _ (by simp)];exact h.c1,by rw [World.cell?_setCell_other _ _ _ _ (by simp)];exact h.c2,by rw [World.cell?_setCell_other _ _ _ _ (by simp)];exact h.c3,by rw [World.cell?_setCell_other _ _ _ _ (by simp)];exact h.c4,fun o=>by rw [World.frozen?_setCell];exact h.fr o⟩
theorem gu.store3 {n:Int} (h:gu w0 w X s t q d n):gu w0 (w.setCell ⟨X,3,none⟩ (.string t)) X s t q d n :=
 ⟨h.low.setCell (p:=⟨X,3,none⟩) (Nat.le_refl _) _,by rw [World.cell?_setCell_other _ _ _ _ (by simp)];exact h.c0,by rw [World.cell?_setCell_other _ _ _ _ (by simp)];exact h.c1,by rw [World.cell?_setCell_other _ _ _ _ (by simp)];exact h.c2,World.cell?_setCell_same' _ _ _ (by rw [h.c3];rfl),by rw [World.cell?_setCell_other _ _ _ _ (by simp)];exact h.c4,fun o=>by rw [World.frozen?_setCell];exact h.fr o⟩
theorem gu.new (w:World) (T:TypeId) (s t:ByteArray) (q d n:Int):gu w (w.alloc (.cells #[.string s,iT q,iT d,.string t,iT n] T)) w.heap.size s t q d n :=
 ⟨bZ,by simp,by simp,by simp,by simp,by simp,fun o=>World.frozen?_alloc_new w _ _ o⟩
theorem oo (a:Option Addr) (len cap:Nat) (L:List ac) (w:World) (hL:aq w a len cap L) (hbig:len≤1048576) (hsm:∀e ∈ L,e.1.size≤281474976710656∧e.2.2.2.1.size≤281474976710656) :
 Calls Tryz.prog 149 #[.slice a len cap] w fun e w'=>e=.returned (sL (w.heap.size) len len)∧au w' w.heap.size w.heap.size len len L∧w.heap.size<w'.heap.size∧Bl w w':=by
 have HLEN:Hid (L.length=len):=hL.length;have HENTS:Hid (∀l ∈ L,ef l):=hL.ents;have HSM:=bQ hsm;have HL:=bQ hL;clear hL hsm;obtain ⟨i0,hi,hz0,hz1,hz2⟩:=info_parts Tryz.infoEnt;go_enter Tryz.func149,Tryz.ntmps149
 go_wp2_with (at_make;refine wpList_make_full _ rfl _ _ 28 rfl w.heap.size 50 i0 _ 5 Tryz.underlying28 hi hz0 hz1 .i64 .i64 _ _ len rfl rfl (by simp) (by simp) (by rw [hz2];omega) (by unfold maxLen;omega) (Nat.le_refl _) ?_;intro w1 hown hgrow)
 have hb1:Bl w w1:=(Below.refl _ _).grown hgrow (Nat.le_refl _) (by simp);have hsz1:w.heap.size<w1.heap.size:=(hown.lt _ rfl).2;go_loopw [11] (fun i wr=>∃(k:Nat) (xs:List Value),k≤len∧i=iT k∧wr.ownsRow w.heap.size 50 5 (sL (w.heap.size) len len) len xs∧Bl w wr∧(∀j l,j<k→L[j]?=some l→ip xs j l)) (fun i _=>len - (intOf i).toNat)
 case atStart=>exact ⟨0,_,Nat.zero_le _,rfl,hown,hb1,fun j l h=>absurd h (Nat.not_lt_zero _)⟩
 case round =>
  obtain ⟨k,xs,hk,rfl,ho,hb,hrow⟩:=hrel;have HROW:Hid (∀j l,j<k→L[j]?=some l→ip xs j l):=hrow;clear hrow hown hgrow hb1 hsz1;by_cases hlt:k<len
  · obtain ⟨b,off,rfl,hbb⟩:=HL.out.form (by omega);obtain ⟨s,q,d,t,n,hg,hlw,g0,g1,g2,g3,g4⟩:=HL.out.ent hb hbb k hlt;have HG:Hid (L[k]?=some (s,q,d,t,n)):=hg;obtain ⟨hs,ht⟩:=HSM.out _ (List.mem_of_getElem? hg);simp only at hs ht;clear hg hlw;have HX:Hid (xs.length=len*5):=ho.1;have HO:Hid (wr.ownsRow w.heap.size 50 5 (sL (w.heap.size) len len) len xs):=ho;have hgl:=(ho.lt w.heap.size rfl).2;clear ho;go_wp2_with fail
    obtain ⟨X,hX⟩:=aI wr.heap.size;obtain ⟨W,hW⟩:=aI (wr.alloc (.cells #[.string s,iT q,iT d,.string t,iT n] 50));have kW:gu wr W X s t q d n:=by rw [hW,hX];exact gu.new wr 50 s t q d n
    have hgX:w.heap.size<X:=by rw [hX];exact hgl
    have HXW:Hid (X=wr.heap.size):=hX;rw [← hW,← hX];clear hW hX;have k0:gu wr W.drew X s t q d n:=kW.drew;have HMK:Hid (∀w',gu wr w' X s t q d n→(w'.cell? ⟨X,0,none⟩=some (.string s)∧w'.cell? ⟨X,3,none⟩=some (.string t))):=fun w' kk=>⟨kk.c0,kk.c3⟩
    refine eD HMK k0 fun aa=>?_
    refine aO 0 2 aa ?_;refine aO 3 2 aa ?_;refine aJ 2 fun K hK=>?_
    go_simp;refine (qU _ _ hs).mono ?_;rintro e w1 ⟨rfl,b1⟩;have k1:=k0.call b1;go_wp2_with fail
    refine hK.out _ _ (HMK.out _ k1) fun aa=>?_
    (try go_frame);refine aO 6 1 aa ?_;refine aJ 5 fun K hK=>?_
    go_simp;refine (qU _ _ ht).mono ?_;rintro e w2 ⟨rfl,b2⟩;have k2:=k1.call b2;go_wp2_with fail
    refine hK.out _ _ (HMK.out _ k2) fun aa=>?_
    (try go_frame);refine aJ 7 fun K hK=>?_
    have c3:=k2.c0;have f3:=k2.fr 0;go_simp;have k3:=k2.store0;clear c3 f3;refine hK.out _ _ (HMK.out _ k3) fun aa=>?_
    (try go_frame);refine aO 8 1 aa ?_;refine aJ 9 fun K hK=>?_
    have c4:=k3.c3;have f4:=k3.fr 3;go_simp;have k4:=k3.store3;clear c4 f4;refine hK.out _ _ (HMK.out _ k4) fun aa=>?_
    (try go_frame);refine dN ?_;obtain ⟨W4,hW4⟩:=aI (((w2.setCell ⟨X,0,none⟩ (.string s)).setCell ⟨X,3,none⟩ (.string t)));rw [← hW4] at k4 ⊢;have hb2:Bl wr W4:=by have:=k4.low;rw [HXW.out] at this;exact this
    have z0:=k4.c0;have z1:=k4.c1;have z2:=k4.c2;have z3:=k4.c3;have z4:=k4.c4;have hX4:=k4.lt;have K4:Hid (gu wr W4 X s t q d n):=k4;clear hW4 k1 k2 k3 k4 k0 kW b1 b2 HMK aa;have ho2:W4.ownsRow w.heap.size 50 5 (sL (w.heap.size) len len) len xs:=HO.out.kept (row:=none) ⟨hb2.os,hb2.tape,hb2.output,hb2.size,fun k hk _=>hb2.block k hk⟩ (.inr (by simp [Value.ownBlock]));have c0:∃v,W4.cell? ⟨w.heap.size,k*5,none⟩=some v:=⟨_,(ho2.cellAt _ (by omega)).trans (List.getElem?_eq_getElem (by rw [HX.out];omega))⟩;have c1:∃v,W4.cell? ⟨w.heap.size,k*5+1,none⟩=some v:=⟨_,(ho2.cellAt _ (by omega)).trans (List.getElem?_eq_getElem (by rw [HX.out];omega))⟩;have c2:∃v,W4.cell? ⟨w.heap.size,k*5+2,none⟩=some v:=⟨_,(ho2.cellAt _ (by omega)).trans (List.getElem?_eq_getElem (by rw [HX.out];omega))⟩;have c3:∃v,W4.cell? ⟨w.heap.size,k*5+3,none⟩=some v:=⟨_,(ho2.cellAt _ (by omega)).trans (List.getElem?_eq_getElem (by rw [HX.out];omega))⟩;have c4:∃v,W4.cell? ⟨w.heap.size,k*5+4,none⟩=some v:=⟨_,(ho2.cellAt _ (by omega)).trans (List.getElem?_eq_getElem (by rw [HX.out];omega))⟩;obtain ⟨v0,c0⟩:=c0;obtain ⟨v1,c1⟩:=c1;obtain ⟨v2,c2⟩:=c2;obtain ⟨v3,c3⟩:=c3;obtain ⟨v4,c4⟩:=c4;have f0:W4.frozen? ⟨w.heap.size,k*5,none⟩=false:=ho2.frozenAt _;have f1:W4.frozen? ⟨w.heap.size,k*5+1,none⟩=false:=ho2.frozenAt _;have f2:W4.frozen? ⟨w.heap.size,k*5+2,none⟩=false:=ho2.frozenAt _;have f3:W4.frozen? ⟨w.heap.size,k*5+3,none⟩=false:=ho2.frozenAt _;have f4:W4.frozen? ⟨w.heap.size,k*5+4,none⟩=false:=ho2.frozenAt _;have HO2:Hid (W4.ownsRow w.heap.size 50 5 (sL (w.heap.size) len len) len xs):=ho2;clear ho2;go_wp2;go_roundw
    case rel =>
     have t0:=HO2.out.stored (k*5) (.string s);have t1:=t0.1.stored (k*5+1) (iT q);have t2:=t1.1.stored (k*5+2) (iT d);have t3:=t2.1.stored (k*5+3) (.string t);have t4:=t3.1.stored (k*5+4) (iT n);refine ⟨k+1,_,by omega,by go_num,t4.1,?_,?_⟩
     · exact (((((hb.trans (hb2.mono hb.size)).setCell (p:=⟨w.heap.size,_,none⟩) (Nat.le_refl _) _).setCell (p:=⟨w.heap.size,_,none⟩) (Nat.le_refl _) _).setCell (p:=⟨w.heap.size,_,none⟩) (Nat.le_refl _) _).setCell (p:=⟨w.heap.size,_,none⟩) (Nat.le_refl _) _).setCell (p:=⟨w.heap.size,_,none⟩) (Nat.le_refl _) _
     · intro j l hj hl;by_cases hjk:j=k
       · subst hjk;rw [HG.out] at hl;cases hl;exact l6 s t q d n (by rw [HX.out];omega)
       · exact jR (HROW.out j l (by omega) hl) hjk _ _ _ _ _
    case measure=>simp [intOf];omega
  · go_wp2;go_ret;exact ⟨rfl,⟨by rw [← rq (xs:=xs) (L:=L) (by rw [HLEN.out];exact ho.1) (fun j l hl=>HROW.out j l (by have:=(List.getElem?_eq_some_iff.1 hl).1;rw [HLEN.out] at this;omega) hl)];exact ho,HLEN.out,HENTS.out⟩,(ho.lt _ rfl).2,hb⟩
theorem iB {P:Program} {ops:Array Oper} {o:Oper} {a:Act} {K:Act→World→Prop} {Q:Exit→Act→World→Prop} {E:Prop}
 (hg:o.guard=none) (l c:Operand) (t:TypeId) (hop:o.op=Op.makeSlice t l c)
 (base:Nat) (e:TypeId) (i:TypeInfo) (z:Value) (size:Nat) (h1:P.underlying t=some (.slice e)) (h2:P.info? e=some i) (h3:i.zero=some z) (h4:i.size=size)
 (kl kc:IntKind) (L C:Int) (n:Nat) (hl:a.eval l=.int kl L) (hc:a.eval c=.int kc C) (hL:L=(n:Int)) (hC:C=(n:Int)) (b2:i.bytes*n≤281474976710656) (b3:n≤maxLen) (b4:base≤w.heap.size)
 (hK:∀w',w'.ownsRow base e size (sL (w.heap.size) n n) n (madeCells z.cells (n*size)).toList→w.grownBy w' none→K (a.put o.dst (sL (w.heap.size) n n)) w') :
 if Region.wanted o (yielded ops a.tmps)=true then Oper.wp P o a w K Q else E:=by
 have hw:Region.wanted o (yielded ops a.tmps)=true:=by simp [Region.wanted,hg]
 rw [if_pos hw];obtain ⟨w',hrun,r1,r2⟩:=run_make_full (P:=P) w base t e i z size h1 h2 h3 h4 kl kc n b2 b3 b4;subst hL;subst hC;unfold Oper.wp;simp [execOp,hop,hl,hc,hrun,Result.andThen];exact hK w' r1 r2
theorem fm {e:TypeId} {n:Nat} (h:w.ownsRow base e K (sL g n c) k xs) (hb:Bl w w'):w'.ownsRow base e K (sL g n c) k xs :=
 h.kept (row:=none) ⟨hb.os,hb.tape,hb.output,hb.size,fun k hk _=>hb.block k hk⟩ (.inr (by simp [Value.ownBlock]))
theorem cw {e:TypeId} {n P:Nat} (h:w.ownsRow base e K (sL g n c) k xs) (hne:g≠P) (o:Nat) (u:Value):(w.setCell ⟨P,o,none⟩ u).ownsRow base e K (sL g n c) k xs :=
 h.kept (row:=some P) ⟨rfl,rfl,rfl,by simp [World.setCell],fun k _ hk=>Below.heap_setCell _ _ _ _ (fun e=>hk (by rw [e]))⟩ (.inr (by simp [Value.ownBlock];exact hne))
theorem vW (lo:Nat) (w:World) (a:Option Addr):dY lo w a 0 0 []:=⟨⟨rfl,Nat.le_refl _,Nat.zero_le _,by simp,fun _=>rfl,(fun x e hp=>absurd hp (Nat.lt_irrefl _)),(fun x e i hi=>by simp at hi)⟩,(fun x e hp=>absurd hp (Nat.lt_irrefl _))⟩
def oz (L:List ac):Prop:=∀e ∈ L,e.1.size≤281474976710656∧e.2.2.2.1.size≤281474976710656
def f9 (B:List af):Prop:=∀p ∈ B,oz p.1
theorem zE (w:World) (a0 a1 a2:Option Addr) (n0 c0 n1 c1 n2 c2:Nat):(Instr.index 80 (.agg #[.slice a0 n0 c0,.slice a1 n1 c1,.slice a2 n2 c2]) (iT 0)).run Tryz.prog w=.ok (.slice a0 n0 c0) w:=by
 simp [Instr.index,run_underlying Tryz.underlying80,asIntOf,go_sem,Tryz.isAgg61,Tryz.sizeOf61,part]
theorem zD (w:World) (a0 a1 a2:Option Addr) (n0 c0 n1 c1 n2 c2:Nat):(Instr.index 80 (.agg #[.slice a0 n0 c0,.slice a1 n1 c1,.slice a2 n2 c2]) (iT 1)).run Tryz.prog w=.ok (.slice a1 n1 c1) w:=by
 simp [Instr.index,run_underlying Tryz.underlying80,asIntOf,go_sem,Tryz.isAgg61,Tryz.sizeOf61,part]
theorem zC (w:World) (a0 a1 a2:Option Addr) (n0 c0 n1 c1 n2 c2:Nat):(Instr.index 80 (.agg #[.slice a0 n0 c0,.slice a1 n1 c1,.slice a2 n2 c2]) (iT 2)).run Tryz.prog w=.ok (.slice a2 n2 c2) w:=by
 simp [Instr.index,run_underlying Tryz.underlying80,asIntOf,go_sem,Tryz.isAgg61,Tryz.sizeOf61,part]
def wG (Z:Nat) (w:World) (xs:List Value) (V:List (List af)) (k:Nat):Prop:=∀j,j<k→∃(b n:Nat) (B:List af),V[j]?=some B∧xs[j]?=some (sL b n n)∧aw Z w (pT b) n n B
theorem wG.same (h:wG Z w xs V k) (hs:cF Z w w'):wG Z w' xs V k:=fun j hj=>by
 obtain ⟨b,n,B,h1,h2,h3⟩:=h j hj
 exact ⟨b,n,B,h1,h2,h3.same hs⟩
theorem rO {vb:Nat} (h:w.ownsRow base 61 1 (sL vb 3 3) 3 xs) (hb:lo≤vb) (hZ:lo≤Z) (hV:V.length=3) (h0:wG Z w xs V 3):bI lo w (pT vb) 3 3 V:=by
 have hlt:=(h.lt vb rfl).2;refine ⟨hV,Nat.le_refl _,by unfold maxLen;omega,(fun e=>by cases e),(fun x e _=>by cases e;exact ⟨hlt,rfl,hb⟩),?_⟩;rintro x e i hi;cases e;obtain ⟨b,n,B,h1,h2,h3⟩:=h0 i (by omega);rw [List.getElem?_eq_getElem hi] at h1;cases h1;exact ⟨some ⟨b,0,none⟩,n,n,by simp only [Nat.zero_add];exact (h.cellAt i (by omega)).trans h2,h3.mono hZ⟩
theorem dU {R:World→Prop} {b:Nat} (mg:∀w o u,R w→R (w.setCell ⟨b,o,none⟩ u)):∀(cs:List Value) (o:Nat) (w:World),R w→R (w.setCells b o cs)
 | [],_,_,h=>h
 | c :: cs,o,w,h=>dU mg cs (o+1) (w.setCell ⟨b,o,none⟩ c) (mg w o c h)
theorem om (lo:Nat) (a:Option Addr) (len cap:Nat) (B:List af) (w:World) (hP:aw lo w a len cap B) (hS:iM B) (hE:f9 B) :
 Calls Tryz.prog 150 #[.slice a len cap] w fun e w'=>e=.returned (.slice (some ⟨w.heap.size,0,none⟩) len len)∧(∃es,dF w.heap.size w'.heap.size w' w.heap.size len B es)∧w.heap.size<w'.heap.size∧Below w.heap.size w w':=by
 have HLEN:Hid (B.length=len):=hP.length;have HWF:Hid (∀p ∈ B,(Lit.int .i64 p.2).wf=true):=hP.wfs;have hbig:len≤1048576:=by have:=hP.length;have:=hS.1;omega
 have HSM:Hid _:=hS;have HSE:Hid _:=hE;have HL:Hid _:=hP;clear hP hS hE;obtain ⟨i0,hi,hz0,hz1,hz2⟩:=info_parts Tryz.infoRun;go_enter Tryz.func150,Tryz.ntmps150
 go_wp2_with (at_make;refine wpList_make_full _ rfl _ _ 61 rfl w.heap.size 63 i0 _ 2 Tryz.underlying61 hi hz0 hz1 .i64 .i64 _ _ len rfl rfl (by simp) (by simp) (by rw [hz2];omega) (by unfold maxLen;omega) (Nat.le_refl _) ?_;intro w1 hown hgrow)
 have hb1:Below w.heap.size w w1:=(Below.refl _ _).grown hgrow (Nat.le_refl _) (by simp);have hsz1:w.heap.size<w1.heap.size:=(hown.lt _ rfl).2;obtain ⟨G,hG⟩:∃G,w.heap.size=G:=⟨_,rfl⟩;rw [hG] at hown hsz1 ⊢;have HG0:Hid (w.heap.size=G):=hG;have HBW:Hid (Below G w w1):=by show Below G w w1;rw [← hG];exact hb1
 clear hG hb1 hgrow;go_loopw [11] (fun i wr=>∃(k:Nat) (xs:List Value) (es:Nat→Nat),k≤len∧i=.int .i64 k∧wr.ownsRow G 63 2 (.slice (some ⟨G,0,none⟩) len len) len xs∧Below G w wr∧(∀(j:Nat) (p:af),j<k→B[j]?=some p→xs[j*2]?=some (.slice (some ⟨es j,0,none⟩) p.1.length p.1.length)∧xs[j*2+1]?=some (.int .i64 p.2)∧au wr (G+1) (es j) p.1.length p.1.length p.1)∧(∀i j,i<j→j<k→es i<es j)∧(∀i,i<k→es i<wr.heap.size)) (fun i _=>len - (intOf i).toNat)
 case atStart=>exact ⟨0,_,fun _=>0,Nat.zero_le _,rfl,hown,HBW.out,(fun j l h=>absurd h (Nat.not_lt_zero _)),(fun i j _ h=>absurd h (Nat.not_lt_zero _)),(fun i h=>absurd h (Nat.not_lt_zero _))⟩
 case round =>
  obtain ⟨k,xs,es,hk,rfl,ho,hb,hrow,hup,htop⟩:=hrel;have HROW:Hid (∀(j:Nat) (p:af),j<k→B[j]?=some p→xs[j*2]?=some (.slice (some ⟨es j,0,none⟩) p.1.length p.1.length)∧xs[j*2+1]?=some (.int .i64 p.2)∧au wr (G+1) (es j) p.1.length p.1.length p.1):=hrow;have HUP:Hid (∀i j,i<j→j<k→es i<es j):=hup;have HTOP:Hid (∀i,i<k→es i<wr.heap.size):=htop;clear hrow hown hup htop;have hzr:G<wr.heap.size:=(ho.lt _ rfl).2;have hbw:Below w.heap.size w wr:=by rw [HG0.out];exact hb
  have HB:Hid (Below G w wr):=hb;clear hb;by_cases hlt:k<len
  · have hltI:(k:Int)<(len:Int):=by omega
    obtain ⟨b,off,rfl,hbb⟩:=HL.out.form (by omega);obtain ⟨L,m,s,n,c,hg,_,g0,g1,hLk⟩:=HL.out.run hbw k hlt;have hn:n≤1048576:=by
     have:=HSM.out.2 _ (List.mem_of_getElem? hg);have:=hLk.1.length;simp only at *;omega
    have HSL:Hid (oz L):=HSE.out _ (List.mem_of_getElem? hg);have HG:Hid (B[k]?=some (L,m)):=hg;have HBN:Hid (L.length=n):=hLk.1.length;have hbk:b<wr.heap.size:=Nat.lt_of_lt_of_le hbb hbw.size;have HLK:Hid (aq wr s n c L):=hLk.1;have HX:Hid (xs.length=len*2):=ho.1;have HO:Hid (wr.ownsRow G 63 2 (.slice (some ⟨G,0,none⟩) len len) len xs):=ho;clear hg hLk ho hbw;go_upto_region 5 with fail
    obtain ⟨X,hX⟩:∃X,wr.heap.size=X:=⟨_,rfl⟩;obtain ⟨W,hW⟩:=aI (wr.alloc (.cells #[.slice s n c,.int .i64 m] 63));have kW:Below wr.heap.size wr W:=by rw [hW];exact (Below.refl _ _).alloc (Nat.le_refl _) _
    have x0:W.cell? ⟨X,0,none⟩=some (.slice s n c):=by rw [hW,← hX];simp
    have x1:W.cell? ⟨X,1,none⟩=some (.int .i64 m):=by rw [hW,← hX];simp
    have xz:X<W.heap.size:=World.block_lt_of_cell? _ _ x0;have HKW:Hid (Below wr.heap.size wr W):=kW;rw [← hW,hX];clear hW kW hX;have HOW:Hid (W.ownsRow G 63 2 (.slice (some ⟨G,0,none⟩) len len) len xs):=HO.out.kept (row:=none) (aF HKW.out) (.inr (by simp [Value.ownBlock]));have hzW:G<W.heap.size:=Nat.lt_of_lt_of_le hzr HKW.out.size;go_region_with (go_at_call 149;refine (oo s n c L _ ((HLK.out.keep HKW.out).keep ((Below.refl _ W).drew)) hn HSL.out).mono ?_;rintro e w2 ⟨rfl,hown2,hsz2,hb2⟩;have k2:Below W.heap.size W w2:=((Below.refl _ W).drew).trans hb2;have x1':=cell_later k2 x1;have xz':=Nat.lt_of_lt_of_le xz k2.size;have ho2:w2.ownsRow G 63 2 (.slice (some ⟨G,0,none⟩) len len) len xs:=HOW.out.kept (row:=none) (aF k2) (.inr (by simp [Value.ownBlock]));obtain ⟨v0,c0⟩:∃v,w2.cell? ⟨G,k*2,none⟩=some v:=⟨_,(ho2.cellAt _ (by omega)).trans (List.getElem?_eq_getElem (by rw [HX.out];omega))⟩;obtain ⟨v1,c1⟩:∃v,w2.cell? ⟨G,k*2+1,none⟩=some v:=⟨_,(ho2.cellAt _ (by omega)).trans (List.getElem?_eq_getElem (by rw [HX.out];omega))⟩;have f0:w2.frozen? ⟨G,k*2,none⟩=false:=ho2.frozenAt _;have f1:w2.frozen? ⟨G,k*2+1,none⟩=false:=ho2.frozenAt _;have zG:=Nat.lt_of_lt_of_le hzW k2.size)
    all_goals
     have HE2:Hid (au w2 (G+1) W.heap.size n n L):=hown2.mono hzW;have HZ2:Hid (W.heap.size<w2.heap.size∧wr.heap.size≤W.heap.size):=⟨hsz2,HKW.out.size⟩;have HO2:Hid (w2.ownsRow G 63 2 (.slice (some ⟨G,0,none⟩) len len) len xs):=ho2;have K2:Hid (Below wr.heap.size wr w2):=HKW.out.trans (k2.mono HKW.out.size);clear hown2 hsz2 hb2 k2 ho2 c0 c1 f0 f1 HOW HKW x0 x1 xz;go_wp2;go_roundw
     case rel =>
      have t0:=HO2.out.stored (k*2) (.slice (some ⟨W.heap.size,0,none⟩) n n);have t1:=t0.1.stored (k*2+1) (.int .i64 m);have hgr:=t0.2.trans t1.2;have hz:=HZ2.out;have hss:=hgr.size;refine ⟨k+1,_,fun i=>if i=k then W.heap.size else es i,by omega,by go_num,t1.1,?_,?_,?_,?_⟩
      · exact ((HB.out.trans (K2.out.mono (by omega))).setCell (p:=⟨G,_,none⟩) (Nat.le_refl _) _).setCell (p:=⟨G,_,none⟩) (Nat.le_refl _) _
      · intro j p hj hp;by_cases hjk:j=k
        · subst hjk;rw [HG.out] at hp;cases hp;simp only [if_true,HBN.out];refine ⟨?_,?_,HE2.out.grown hgr (fun e=>?_)⟩
          · rw [List.getElem?_set_ne (by omega),List.getElem?_set_self (by rw [HX.out];omega)]
          · rw [List.getElem?_set_self (by rw [List.length_set,HX.out];omega)]
          · have h1:W.heap.size=G:=Option.some.inj e;omega
        · obtain ⟨h1,h2,h3⟩:=HROW.out j p (by omega) hp;simp only [if_neg hjk];refine ⟨?_,?_,(h3.below K2.out).grown hgr (fun e=>?_)⟩
          · rw [List.getElem?_set_ne (by omega),List.getElem?_set_ne (by omega)];exact h1
          · rw [List.getElem?_set_ne (by omega),List.getElem?_set_ne (by omega)];exact h2
          · have h4:es j=G:=Option.some.inj e;have h5:=h3.lt.1;omega
      · intro i j hij hj;simp only;by_cases hjk:j=k
        · rw [if_pos hjk,if_neg (by omega)];have:=HTOP.out i (by omega);omega
        · rw [if_neg hjk,if_neg (by omega)];exact HUP.out i j hij (by omega)
      · intro i hi';simp only;by_cases hik:i=k
        · rw [if_pos hik];omega
        · rw [if_neg hik];have:=HTOP.out i (by omega);have:=K2.out.size;omega
     case measure=>simp [intOf];omega
  · go_wp2;go_ret;rw [HG0.out];have hlt:∀{i:Nat} {p:af},B[i]?=some p→i<k:=fun hp=>by have:=(List.getElem?_eq_some_iff.1 hp).1;rw [HLEN.out] at this;omega
    have hkl:k=len:=by omega
    have hup:=HUP.out;have htop:=HTOP.out;rw [hkl] at hup htop;exact ⟨rfl,⟨es,⟨HLEN.out,⟨xs,ho,fun i p hp=>⟨(HROW.out i p (hlt hp) hp).1,(HROW.out i p (hlt hp) hp).2.1⟩⟩,fun i p hp=>(HROW.out i p (hlt hp) hp).2.2.mono (by omega),hup,⟨hzr,htop⟩,HWF.out⟩⟩,hzr,HB.out⟩
end Go.Proofs.YtpobkmjicbobdaaGreat
