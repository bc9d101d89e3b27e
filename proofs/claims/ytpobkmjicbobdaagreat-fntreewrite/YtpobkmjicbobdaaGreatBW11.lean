/- Walks. -/
import Derived.Test.YtpobkmjicbobdaaGreatBW10
import Derived.Shelf.LaysM
import Derived.Shelf.Strconv.Clone
import Derived.Laws.CopyOwn
import Derived.Laws.IdiomCopy
namespace Go.Proofs.YtpobkmjicbobdaaGreat
set_option maxRecDepth 100000
set_option maxHeartbeats 40000000
open Go.RowKit Go.Shelf
variable {K X Z b1 b2 b3 base c g hi hi' k lo lo' nm ns nv:Nat} {M:List ac} {S:List Int} {V:List (List af)} {bs gs:Nat→Nat} {d q:Int} {es:Nat→Nat→Nat} {s t:ByteArray} {w w' w0:World} {xs:List Value}
structure fq (lo hi:Nat) (w:World) (b1 nm b2 nv b3 ns:Nat) (M:List ac) (V:List (List af)) (S:List Int) (gs bs:Nat→Nat) (es:Nat→Nat→Nat):Prop where
 mem:ag w lo b1 nm nm M
 levs:gu lo hi w b2 nv V gs bs es
 sn:nS lo w b3 ns S
 ahead:b1<bs 0∧b3<bs 0
theorem nS.grown {n:Nat} {row:Option Nat} (h:nS lo w g n S) (hg:w.grownBy w' row) (b:some g≠row):nS lo w' g n S:=⟨h.1,h.2.kept hg (.inr (by simpa [Value.ownBlock] using b))⟩
theorem nS.keepO {n:Nat} (h:nS lo w g n S) (k:dw lo' hi' w w') (hg:g<lo'∨hi'≤g):nS lo w' g n S:=⟨h.1,k.row h.2 hg⟩
theorem fq.below (h:fq lo hi w b1 nm b2 nv b3 ns M V S gs bs es) (hb:Bl w w'):fq lo hi w' b1 nm b2 nv b3 ns M V S gs bs es :=
 ⟨h.mem.below hb,h.levs.below hb,h.sn.grown (row:=none) ⟨hb.os,hb.tape,hb.output,hb.size,fun k hk _=>hb.block k hk⟩ (by simp),h.ahead⟩
theorem fq.keepO (h:fq lo hi w b1 nm b2 nv b3 ns M V S gs bs es) (k:dw lo' hi' w w') (hd:hi'≤lo):fq lo hi w' b1 nm b2 nv b3 ns M V S gs bs es:=by
 obtain ⟨xs,h1,_⟩:=h.levs.row;have b:=(h1.lt b2 rfl).1;have e:=h.mem.lt.1;have m:=(h.sn.2.lt b3 rfl).1;have f:=h.levs.bot.1;exact ⟨k.own h.mem (by omega),h.levs.keepO k (by omega) (by omega),h.sn.keepO k (by omega),h.ahead⟩
theorem fq.apart (h:fq lo hi w b1 nm b2 nv b3 ns M V S gs bs es):b1≠b2∧b1≠b3∧b2≠b3:=by
 obtain ⟨xs,h1,_⟩:=h.levs.row;have k1:=eR h.mem.owns;have b:=eR h1;have k3:=eR h.sn.2;refine ⟨fun e=>?_,fun e=>?_,fun e=>?_⟩ <;> subst e
 · exact absurd (k1.kind b) (by decide)
 · exact absurd (k1.kind k3) (by decide)
 · exact absurd (b.kind k3) (by decide)
theorem gu.grown {G n:Nat} (h:gu lo hi w G n V gs bs es) (hg:w.grownBy w' (some g)) (b:G≠g) (hl:g<bs 0):gu lo hi w' G n V gs bs es:=by
 refine h.keepO (lo':=g) (hi':=g+1) ⟨hg.os,hg.tape,hg.output,hg.size,fun q hq ho=>hg.block q hq (fun e=>by have:=GN e;omega)⟩ (by omega) (by omega)
def Tryz.laysM316_ren : Go.Shelf.Ren := ⟨fun | 316 => 216 | n => n, fun | 9 => 9 | 3 => 3 | 4 => 4 | 37 => 38 | 0 => 0 | 127 => 247 | 5 => 5 | n => n, fun | n => n⟩
theorem Tryz.laysM316 : Go.Proofs.LaysM.n316 Tryz.prog Tryz.laysM316_ren := {
  mixed := by kernel_rfl
  f316 := Tryz.func216.trans (congrArg some (by kernel_rfl))
  t0 := Tryz.underlying0
  a0 := Tryz.isAgg0
  z0 := Tryz.sizeOf0
  v0 := Tryz.zeroValue0
  t3 := Tryz.underlying3
  a3 := Tryz.isAgg3
  z3 := Tryz.sizeOf3
  v3 := Tryz.zeroValue3
  t4 := Tryz.underlying4
  a4 := Tryz.isAgg4
  z4 := Tryz.sizeOf4
  v4 := Tryz.zeroValue4
  t9 := Tryz.underlying9
  a9 := Tryz.isAgg9
  z9 := Tryz.sizeOf9
  v9 := Tryz.zeroValue9
  t37 := Tryz.underlying38
  a37 := Tryz.isAgg38
  z37 := Tryz.sizeOf38
  v37 := Tryz.zeroValue38
  t127 := Tryz.underlying247
  a127 := Tryz.isAgg247
  z127 := Tryz.sizeOf247
  v127 := Tryz.zeroValue247
  t5 := Tryz.underlying5
  a5 := Tryz.isAgg5
  z5 := Tryz.sizeOf5
  v5 := Tryz.zeroValue5
  i0 := by kernel_rfl
  i3 := by kernel_rfl
  i4 := by kernel_rfl
  i5 := by kernel_rfl
  i9 := by kernel_rfl
  i37 := by kernel_rfl
  i127 := by kernel_rfl }
open Go.RowKit in
/-- internal/stringslite.Clone (what strings.Clone calls): "Clone returns a fresh copy of s.": THE SAME BYTES. Of what was there nothing has turned (a new row is laid, and frozen, where s is not empty). (LAID: no walk: one application.) -/
theorem Tryz.stringslite_Clone (s : ByteArray) (w : World) (b : s.size ≤ 281474976710656) :
    Calls Tryz.prog 216 #[.string s] w fun e w' => e = .returned (.string s) ∧ Below w.heap.size w w' := Any.stringslite_Clone Tryz.laysM316 s w b
theorem p9 (s:ByteArray) (w:World) (h:s.size≤281474976710656) :
 Calls Tryz.prog 171 #[.string s] w fun e w'=>e=.returned (.string s)∧Bl w w':=by
 go_enter Tryz.func171,Tryz.ntmps171
 go_wp2_with fail
 refine (Tryz.stringslite_Clone s _ h).mono ?_;rintro e f ⟨rfl,b⟩;go_wp2;go_ret;exact ⟨rfl,b⟩
structure iF (w0 w:World) (X:Nat) (s t:ByteArray) (q d n:Int):Prop where
 low:Below X w0 w
 c0:w.cell? ⟨X,0,none⟩=some (.string s)
 c1:w.cell? ⟨X,1,none⟩=some (iT q)
 c2:w.cell? ⟨X,2,none⟩=some (iT d)
 c3:w.cell? ⟨X,3,none⟩=some (.string t)
 c4:w.cell? ⟨X,4,none⟩=some (iT n)
 fr:∀o,w.frozen? ⟨X,o,none⟩=false
theorem iF.lt {n:Int} (h:iF w0 w X s t q d n):X<w.heap.size:=GK _ _ h.c0
theorem iF.all {n:Int}(h:iF w0 w X s t q d n):w.cell? ⟨X,0,none⟩=some (.string s)∧w.cell? ⟨X,1,none⟩=some (iT q)∧w.cell? ⟨X,2,none⟩=some (iT d)∧w.cell? ⟨X,3,none⟩=some (.string t)∧w.cell? ⟨X,4,none⟩=some (iT n)∧(∀o,w.frozen? ⟨X,o,none⟩=false)∧X<w.heap.size:=⟨h.c0,h.c1,h.c2,h.c3,h.c4,h.fr,h.lt⟩
theorem iF.call {n:Int} (h:iF w0 w X s t q d n) (hb:Bl w w'):iF w0 w' X s t q d n :=
 ⟨h.low.trans (hb.mono (Nat.le_of_lt h.lt)),cell_later hb h.c0,cell_later hb h.c1,cell_later hb h.c2,cell_later hb h.c3,cell_later hb h.c4,fun o=>(hb.frozen (p:=⟨X,o,none⟩) h.lt).trans (h.fr o)⟩
theorem iF.drew {n:Int} (h:iF w0 w X s t q d n):iF w0 w.drew X s t q d n:=h.call (Below.refl _ w).drew
theorem iF.store0 {n:Int} (h:iF w0 w X s t q d n):iF w0 (w.setCell ⟨X,0,none⟩ (.string s)) X s t q d n :=
 ⟨h.low.setCell (p:=⟨X,0,none⟩) (GL _) _,G3 _ _ _ (by rw [h.c0];rfl),by rw [GM _ _ _ _ (by simp)];exact h.c1,by rw [GM _ _ _ _ (by simp)];exact h.c2,by rw [GM _ _ _ _ (by simp)];exact h.c3,by rw [GM _ _ _ _ (by simp)];exact h.c4,fun o=>by rw [G8];exact h.fr o⟩
theorem iF.store3 {n:Int} (h:iF w0 w X s t q d n):iF w0 (w.setCell ⟨X,3,none⟩ (.string t)) X s t q d n :=
 ⟨h.low.setCell (p:=⟨X,3,none⟩) (GL _) _,by rw [GM _ _ _ _ (by simp)];exact h.c0,by rw [GM _ _ _ _ (by simp)];exact h.c1,by rw [GM _ _ _ _ (by simp)];exact h.c2,G3 _ _ _ (by rw [h.c3];rfl),by rw [GM _ _ _ _ (by simp)];exact h.c4,fun o=>by rw [G8];exact h.fr o⟩
theorem iF.new (w:World) (T:TypeId) (s t:ByteArray) (q d n:Int):iF w (w.alloc (.cells #[.string s,iT q,iT d,.string t,iT n] T)) w.heap.size s t q d n :=
 ⟨bZ,by simp,by simp,by simp,by simp,by simp,fun o=>Jc w _ _ o⟩
theorem iE (a:Option Addr) (len I:Nat) (L:List ac) (w:World) (hL:ah w a len I L) (hbig:len≤1048576) (E:∀e ∈ L,e.1.size≤281474976710656∧e.2.2.2.1.size≤281474976710656) :
 Calls Tryz.prog 149 #[.slice a len I] w fun e w'=>e=.returned (sL (w.heap.size) len len)∧ag w' w.heap.size w.heap.size len len L∧w.heap.size<w'.heap.size∧Bl w w':=by
 have u:Eq (L.length=len):=hL.length;have A:Eq (∀l ∈ L,d9 l):=hL.ents;have Q:=az E;have HL:=az hL;clear hL E;obtain ⟨i0,hi,a2,a5,R⟩:=info_parts Tryz.infoEnt;go_enter Tryz.func149,Tryz.ntmps149
 go_wp2_with (at_make;refine wpList_make_full _ rfl _ _ 28 rfl w.heap.size 50 i0 _ 5 Tryz.underlying28 hi a2 a5 .i64 .i64 _ _ len rfl rfl (by simp) (by simp) (by rw [R];omega) (by unfold maxLen;omega) (GL _) ?_;intro w1 hown hgrow)
 have O:Bl w w1:=(Below.refl _ _).grown hgrow (GL _) (by simp);have N:w.heap.size<w1.heap.size:=(hown.lt _ rfl).2;go_loopw [11] (fun i wr=>∃(k:Nat) (xs:List Value),k≤len∧i=iT k∧wr.ownsRow w.heap.size 50 5 (sL (w.heap.size) len len) len xs∧Bl w wr∧(∀j l,j<k→L[j]?=some l→jQ xs j l)) (fun i _=>len - (intOf i).toNat)
 case atStart=>exact ⟨0,_,GQ _,rfl,hown,O,fun j l h=>absurd h (H7 _)⟩
 case round =>
  obtain ⟨k,xs,hk,rfl,ho,hb,hrow⟩:=hrel;have y:Eq (∀j l,j<k→L[j]?=some l→jQ xs j l):=hrow;clear hrow hown hgrow O N;by_cases a1:k<len
  · obtain ⟨b,al,rfl,T⟩:=HL.o.form (by omega);obtain ⟨s,q,d,t,n,hg,Y,g0,g1,g2,g3,g4⟩:=HL.o.ent hb T k a1;have HG:Eq (L[k]?=some (s,q,d,t,n)):=hg;obtain ⟨hs,ht⟩:=Q.o _ (GP hg);simp only at hs ht;clear hg Y;have C:Eq (xs.length=len*5):=ho.1;have HO:Eq (wr.ownsRow w.heap.size 50 5 (sL (w.heap.size) len len) len xs):=ho;have a0:=(ho.lt w.heap.size rfl).2;clear ho;go_wp2_with fail
    obtain ⟨X,D⟩:=aG wr.heap.size;obtain ⟨W,hW⟩:=aG (wr.alloc (.cells #[.string s,iT q,iT d,.string t,iT n] 50));have kW:iF wr W X s t q d n:=by rw [hW,D];exact iF.new wr 50 s t q d n
    have ai:w.heap.size<X:=by rw [D];exact a0
    have U:Eq (X=wr.heap.size):=D;rw [← hW,← D];clear hW D;have k0:iF wr W.drew X s t q d n:=kW.drew;have m:Eq (∀w',iF wr w' X s t q d n→(w'.cell? ⟨X,0,none⟩=some (.string s)∧w'.cell? ⟨X,3,none⟩=some (.string t))):=fun w' kk=>⟨kk.c0,kk.c3⟩
    refine eJ m k0 fun x=>?_
    refine aR 0 2 x ?_;refine aR 3 2 x ?_;refine aV 2 fun K hK=>?_
    go_simp;refine (p9 _ _ hs).mono ?_;rintro e w1 ⟨rfl,b1⟩;have k1:=k0.call b1;go_wp2_with fail
    refine hK.o _ _ (m.o _ k1) fun x=>?_
    (try go_frame);refine aR 6 1 x ?_;refine aV 5 fun K hK=>?_
    go_simp;refine (p9 _ _ ht).mono ?_;rintro e w2 ⟨rfl,b2⟩;have F:=k1.call b2;go_wp2_with fail
    refine hK.o _ _ (m.o _ F) fun x=>?_
    (try go_frame);refine aV 7 fun K hK=>?_
    have c3:=F.c0;have f3:=F.fr 0;go_simp;have k3:=F.store0;clear c3 f3;refine hK.o _ _ (m.o _ k3) fun x=>?_
    (try go_frame);refine aR 8 1 x ?_;refine aV 9 fun K hK=>?_
    have c4:=k3.c3;have f4:=k3.fr 3;go_simp;have B:=k3.store3;clear c4 f4;refine hK.o _ _ (m.o _ B) fun x=>?_
    (try go_frame);refine dN ?_;obtain ⟨W4,J⟩:=aG (((w2.setCell ⟨X,0,none⟩ (.string s)).setCell ⟨X,3,none⟩ (.string t)));rw [← J] at B ⊢;have r:Bl wr W4:=by have:=B.low;rw [U.o] at this;exact this
    have z0:=B.all;have K4:Eq (iF wr W4 X s t q d n):=B;clear J k1 F k3 B k0 kW b1 b2 m x;have f:W4.ownsRow w.heap.size 50 5 (sL (w.heap.size) len len) len xs:=HO.o.kept (row:=none) ⟨r.os,r.tape,r.output,r.size,fun k hk _=>r.block k hk⟩ (.inr (by simp [Value.ownBlock]));have c0:∃v,W4.cell? ⟨w.heap.size,k*5,none⟩=some v:=⟨_,(f.cellAt _ (by omega)).trans (j' (by rw [C.o];omega))⟩;have c1:∃v,W4.cell? ⟨w.heap.size,k*5+1,none⟩=some v:=⟨_,(f.cellAt _ (by omega)).trans (j' (by rw [C.o];omega))⟩;have c2:∃v,W4.cell? ⟨w.heap.size,k*5+2,none⟩=some v:=⟨_,(f.cellAt _ (by omega)).trans (j' (by rw [C.o];omega))⟩;have c3:∃v,W4.cell? ⟨w.heap.size,k*5+3,none⟩=some v:=⟨_,(f.cellAt _ (by omega)).trans (j' (by rw [C.o];omega))⟩;have c4:∃v,W4.cell? ⟨w.heap.size,k*5+4,none⟩=some v:=⟨_,(f.cellAt _ (by omega)).trans (j' (by rw [C.o];omega))⟩;obtain ⟨v0,c0⟩:=c0;obtain ⟨v1,c1⟩:=c1;obtain ⟨v2,c2⟩:=c2;obtain ⟨v3,c3⟩:=c3;obtain ⟨v4,c4⟩:=c4;have f0:W4.frozen? ⟨w.heap.size,k*5,none⟩=false:=f.frozenAt _;have f1:W4.frozen? ⟨w.heap.size,k*5+1,none⟩=false:=f.frozenAt _;have f2:W4.frozen? ⟨w.heap.size,k*5+2,none⟩=false:=f.frozenAt _;have f3:W4.frozen? ⟨w.heap.size,k*5+3,none⟩=false:=f.frozenAt _;have f4:W4.frozen? ⟨w.heap.size,k*5+4,none⟩=false:=f.frozenAt _;have a6:Eq (W4.ownsRow w.heap.size 50 5 (sL (w.heap.size) len len) len xs):=f;clear f;go_wp2;go_roundw
    case rel =>
     have t0:=a6.o.stored (k*5) (.string s);have t1:=t0.1.stored (k*5+1) (iT q);have t2:=t1.1.stored (k*5+2) (iT d);have t3:=t2.1.stored (k*5+3) (.string t);have t4:=t3.1.stored (k*5+4) (iT n);refine ⟨k+1,_,by omega,by go_num,t4.1,?_,?_⟩
     · exact (((((hb.trans (r.mono hb.size)).setCell (p:=⟨w.heap.size,_,none⟩) (GL _) _).setCell (p:=⟨w.heap.size,_,none⟩) (GL _) _).setCell (p:=⟨w.heap.size,_,none⟩) (GL _) _).setCell (p:=⟨w.heap.size,_,none⟩) (GL _) _).setCell (p:=⟨w.heap.size,_,none⟩) (GL _) _
     · intro j l hj hl;by_cases H:j=k
       · subst H;rw [HG.o] at hl;cases hl;exact kF s t q d n (by rw [C.o];omega)
       · exact jy (y.o j l (by omega) hl) H _ _ _ _ _
    case measure=>simp [intOf];omega
  · go_wp2;go_ret;exact ⟨rfl,⟨by rw [← qA (xs:=xs) (L:=L) (by rw [u.o];exact ho.1) (fun j l hl=>y.o j l (by have:=(F'.1 hl).1;rw [u.o] at this;omega) hl)];exact ho,u.o,A.o⟩,(ho.lt _ rfl).2,hb⟩
theorem ki {P:Program} {b:Array Oper} {o:Oper} {a:Act} {K:Act→World→Prop} {Q:Exit→Act→World→Prop} {E:Prop}
 (hg:o.guard=none) (l c:Operand) (t:TypeId) (hop:o.op=Op.makeSlice t l c)
 (base:Nat) (e:TypeId) (i:TypeInfo) (z:Value) (size:Nat) (h1:P.underlying t=some (.slice e)) (h2:P.info? e=some i) (h3:i.zero=some z) (h4:i.size=size)
 (kl kc:IntKind) (L C:Int) (n:Nat) (hl:a.eval l=.int kl L) (hc:a.eval c=.int kc C) (hL:L=(n:Int)) (hC:C=(n:Int)) (b2:i.bytes*n≤281474976710656) (b3:n≤maxLen) (b4:base≤w.heap.size)
 (hK:∀w',w'.ownsRow base e size (sL (w.heap.size) n n) n (madeCells z.cells (n*size)).toList→w.grownBy w' none→K (a.put o.dst (sL (w.heap.size) n n)) w') :
 if Region.wanted o (yielded b a.tmps)=true then Oper.wp P o a w K Q else E:=by
 have hw:Region.wanted o (yielded b a.tmps)=true:=by simp [Region.wanted,hg]
 rw [if_pos hw];obtain ⟨w',f,m,r2⟩:=run_make_full (P:=P) w base t e i z size h1 h2 h3 h4 kl kc n b2 b3 b4;subst hL;subst hC;unfold Oper.wp;simp [execOp,hop,hl,hc,f,Result.andThen];exact hK w' m r2
theorem gS {e:TypeId} {n:Nat} (h:w.ownsRow base e K (sL g n c) k xs) (hb:Bl w w'):w'.ownsRow base e K (sL g n c) k xs :=
 h.kept (row:=none) ⟨hb.os,hb.tape,hb.output,hb.size,fun k hk _=>hb.block k hk⟩ (.inr (by simp [Value.ownBlock]))
theorem cY {e:TypeId} {n P:Nat} (h:w.ownsRow base e K (sL g n c) k xs) (b:g≠P) (o:Nat) (u:Value):(w.setCell ⟨P,o,none⟩ u).ownsRow base e K (sL g n c) k xs :=
 h.kept (row:=some P) ⟨rfl,rfl,rfl,by simp [World.setCell],fun k _ hk=>Below.heap_setCell _ _ _ _ (fun e=>hk (by rw [e]))⟩ (.inr (by simp [Value.ownBlock];exact b))
theorem Bs (lo:Nat) (w:World) (a:Option Addr):fu lo w a 0 0 []:=⟨⟨rfl,GL _,GQ _,by simp,fun _=>rfl,(fun x e hp=>absurd hp (Jq _)),(fun x e i hi=>by simp at hi)⟩,(fun x e hp=>absurd hp (Jq _))⟩
def e9 (L:List ac):Prop:=∀e ∈ L,e.1.size≤281474976710656∧e.2.2.2.1.size≤281474976710656
def iR (B:List af):Prop:=∀p ∈ B,e9 p.1
theorem DE (w:World) (a0 a1 a2:Option Addr) (b c0 e c1 n2 c2:Nat):(Instr.index 80 (.agg #[.slice a0 b c0,.slice a1 e c1,.slice a2 n2 c2]) (iT 0)).run Tryz.prog w=.ok (.slice a0 b c0) w:=by
 simp [Instr.index,run_underlying Tryz.underlying80,asIntOf,go_sem,Tryz.isAgg61,Tryz.sizeOf61,part]
theorem DD (w:World) (a0 a1 a2:Option Addr) (e c0 b c1 n2 c2:Nat):(Instr.index 80 (.agg #[.slice a0 e c0,.slice a1 b c1,.slice a2 n2 c2]) (iT 1)).run Tryz.prog w=.ok (.slice a1 b c1) w:=by
 simp [Instr.index,run_underlying Tryz.underlying80,asIntOf,go_sem,Tryz.isAgg61,Tryz.sizeOf61,part]
theorem DC (w:World) (a0 a1 a2:Option Addr) (e c0 b c1 n2 c2:Nat):(Instr.index 80 (.agg #[.slice a0 e c0,.slice a1 b c1,.slice a2 n2 c2]) (iT 2)).run Tryz.prog w=.ok (.slice a2 n2 c2) w:=by
 simp [Instr.index,run_underlying Tryz.underlying80,asIntOf,go_sem,Tryz.isAgg61,Tryz.sizeOf61,part]
def BS (Z:Nat) (w:World) (xs:List Value) (V:List (List af)) (k:Nat):Prop:=∀j,j<k→∃(b n:Nat) (B:List af),V[j]?=some B∧xs[j]?=some (sL b n n)∧aw Z w (pT b) n n B
theorem BS.same (h:BS Z w xs V k) (hs:eF Z w w'):BS Z w' xs V k:=fun j e=>by
 obtain ⟨b,n,B,h1,h2,h3⟩:=h j e
 exact ⟨b,n,B,h1,h2,h3.same hs⟩
theorem wy {f:Nat} (h:w.ownsRow base 61 1 (sL f 3 3) 3 xs) (hb:lo≤f) (o:lo≤Z) (hV:V.length=3) (h0:BS Z w xs V 3):cF lo w (pT f) 3 3 V:=by
 have m:=(h.lt f rfl).2;refine ⟨hV,GL _,by unfold maxLen;omega,(fun e=>by cases e),(fun x e _=>by cases e;exact ⟨m,rfl,hb⟩),?_⟩;rintro x e i hi;cases e;obtain ⟨b,n,B,h1,h2,h3⟩:=h0 i (by omega);rw [j' hi] at h1;cases h1;exact ⟨some ⟨b,0,none⟩,n,n,by simp only [GT];exact (h.cellAt i (by omega)).trans h2,h3.mono o⟩
theorem eS {R:World→Prop} {b:Nat} (wL:∀w o u,R w→R (w.setCell ⟨b,o,none⟩ u)):∀(cs:List Value) (o:Nat) (w:World),R w→R (w.setCells b o cs)
 | [],_,_,h=>h
 | c :: cs,o,w,h=>eS wL cs (o+1) (w.setCell ⟨b,o,none⟩ c) (wL w o c h)
theorem rY (lo:Nat) (a:Option Addr) (len a2:Nat) (B:List af) (w:World) (U:aw lo w a len a2 B) (hS:lg B) (hE:iR B) :
 Calls Tryz.prog 150 #[.slice a len a2] w fun e w'=>e=.returned (.slice (some ⟨w.heap.size,0,none⟩) len len)∧(∃es,er w.heap.size w'.heap.size w' w.heap.size len B es)∧w.heap.size<w'.heap.size∧Below w.heap.size w w':=by
 have H:Eq (B.length=len):=U.length;have ab:Eq (∀p ∈ B,(Lit.int .i64 p.2).wf=true):=U.wfs;have hbig:len≤1048576:=by have:=U.length;have:=hS.1;omega
 have a9:Eq _:=hS;have au:Eq _:=hE;have HL:Eq _:=U;clear U hS hE;obtain ⟨i0,hi,ak,ao,ad⟩:=info_parts Tryz.infoRun;go_enter Tryz.func150,Tryz.ntmps150
 go_wp2_with (at_make;refine wpList_make_full _ rfl _ _ 61 rfl w.heap.size 63 i0 _ 2 Tryz.underlying61 hi ak ao .i64 .i64 _ _ len rfl rfl (by simp) (by simp) (by rw [ad];omega) (by unfold maxLen;omega) (GL _) ?_;intro w1 hown hgrow)
 have a6:Below w.heap.size w w1:=(Below.refl _ _).grown hgrow (GL _) (by simp);have a4:w.heap.size<w1.heap.size:=(hown.lt _ rfl).2;obtain ⟨G,hG⟩:∃G,w.heap.size=G:=⟨_,rfl⟩;rw [hG] at hown a4 ⊢;have Y:Eq (w.heap.size=G):=hG;have ar:Eq (Below G w w1):=by show Below G w w1;rw [← hG];exact a6
 clear hG a6 hgrow;go_loopw [11] (fun i wr=>∃(k:Nat) (xs:List Value) (es:Nat→Nat),k≤len∧i=.int .i64 k∧wr.ownsRow G 63 2 (.slice (some ⟨G,0,none⟩) len len) len xs∧Below G w wr∧(∀(j:Nat) (p:af),j<k→B[j]?=some p→xs[j*2]?=some (.slice (some ⟨es j,0,none⟩) p.1.length p.1.length)∧xs[j*2+1]?=some (.int .i64 p.2)∧ag wr (G+1) (es j) p.1.length p.1.length p.1)∧(∀i j,i<j→j<k→es i<es j)∧(∀i,i<k→es i<wr.heap.size)) (fun i _=>len - (intOf i).toNat)
 case atStart=>exact ⟨0,_,fun _=>0,GQ _,rfl,hown,ar.o,(fun j l h=>absurd h (H7 _)),(fun i j _ h=>absurd h (H7 _)),(fun i h=>absurd h (H7 _))⟩
 case round =>
  obtain ⟨k,xs,es,hk,rfl,ho,hb,hrow,D,f⟩:=hrel;have u:Eq (∀(j:Nat) (p:af),j<k→B[j]?=some p→xs[j*2]?=some (.slice (some ⟨es j,0,none⟩) p.1.length p.1.length)∧xs[j*2+1]?=some (.int .i64 p.2)∧ag wr (G+1) (es j) p.1.length p.1.length p.1):=hrow;have a0:Eq (∀i j,i<j→j<k→es i<es j):=D;have E:Eq (∀i,i<k→es i<wr.heap.size):=f;clear hrow hown D f;have N:G<wr.heap.size:=(ho.lt _ rfl).2;have J:Below w.heap.size w wr:=by rw [Y.o];exact hb
  have HB:Eq (Below G w wr):=hb;clear hb;by_cases A:k<len
  · have aB:(k:Int)<(len:Int):=by omega
    obtain ⟨b,aI,rfl,ai⟩:=HL.o.form (by omega);obtain ⟨L,m,s,n,c,hg,_,g0,g1,F⟩:=HL.o.run J k A;have hn:n≤1048576:=by
     have:=a9.o.2 _ (GP hg);have:=F.1.length;simp only at *;omega
    have am:Eq (e9 L):=au.o _ (GP hg);have HG:Eq (B[k]?=some (L,m)):=hg;have ae:Eq (L.length=n):=F.1.length;have aL:b<wr.heap.size:=E' ai J.size;have ac:Eq (ah wr s n c L):=F.1;have HX:Eq (xs.length=len*2):=ho.1;have HO:Eq (wr.ownsRow G 63 2 (.slice (some ⟨G,0,none⟩) len len) len xs):=ho;clear hg F ho J;go_upto_region 5 with fail
    obtain ⟨X,hX⟩:∃X,wr.heap.size=X:=⟨_,rfl⟩;obtain ⟨W,hW⟩:=aG (wr.alloc (.cells #[.slice s n c,.int .i64 m] 63));have kW:Below wr.heap.size wr W:=by rw [hW];exact (Below.refl _ _).alloc (GL _) _
    have x0:W.cell? ⟨X,0,none⟩=some (.slice s n c):=by rw [hW,← hX];simp
    have x1:W.cell? ⟨X,1,none⟩=some (.int .i64 m):=by rw [hW,← hX];simp
    have xz:X<W.heap.size:=GK _ _ x0;have r:Eq (Below wr.heap.size wr W):=kW;rw [← hW,hX];clear hW kW hX;have T:Eq (W.ownsRow G 63 2 (.slice (some ⟨G,0,none⟩) len len) len xs):=HO.o.kept (row:=none) (aJ r.o) (.inr (by simp [Value.ownBlock]));have R:G<W.heap.size:=E' N r.o.size;go_region_with (go_at_call 149;refine (iE s n c L _ ((ac.o.keep r.o).keep ((Below.refl _ W).drew)) hn am.o).mono ?_;rintro e w2 ⟨rfl,y,I,a5⟩;have Q:Below W.heap.size W w2:=((Below.refl _ W).drew).trans a5;have aF:=cell_later Q x1;have aD:=E' xz Q.size;have x:w2.ownsRow G 63 2 (.slice (some ⟨G,0,none⟩) len len) len xs:=T.o.kept (row:=none) (aJ Q) (.inr (by simp [Value.ownBlock]));obtain ⟨v0,c0⟩:∃v,w2.cell? ⟨G,k*2,none⟩=some v:=⟨_,(x.cellAt _ (by omega)).trans (j' (by rw [HX.o];omega))⟩;obtain ⟨v1,c1⟩:∃v,w2.cell? ⟨G,k*2+1,none⟩=some v:=⟨_,(x.cellAt _ (by omega)).trans (j' (by rw [HX.o];omega))⟩;have f0:w2.frozen? ⟨G,k*2,none⟩=false:=x.frozenAt _;have f1:w2.frozen? ⟨G,k*2+1,none⟩=false:=x.frozenAt _;have zG:=E' R Q.size)
    all_goals
     have aq:Eq (ag w2 (G+1) W.heap.size n n L):=y.mono R;have an:Eq (W.heap.size<w2.heap.size∧wr.heap.size≤W.heap.size):=⟨I,r.o.size⟩;have ap:Eq (w2.ownsRow G 63 2 (.slice (some ⟨G,0,none⟩) len len) len xs):=x;have K2:Eq (Below wr.heap.size wr w2):=r.o.trans (Q.mono r.o.size);clear y I a5 Q x c0 c1 f0 f1 T r x0 x1 xz;go_wp2;go_roundw
     case rel =>
      have t0:=ap.o.stored (k*2) (.slice (some ⟨W.heap.size,0,none⟩) n n);have t1:=t0.1.stored (k*2+1) (.int .i64 m);have O:=t0.2.trans t1.2;have hz:=an.o;have aK:=O.size;refine ⟨k+1,_,fun i=>if i=k then W.heap.size else es i,by omega,by go_num,t1.1,?_,?_,?_,?_⟩
      · exact ((HB.o.trans (K2.o.mono (by omega))).setCell (p:=⟨G,_,none⟩) (GL _) _).setCell (p:=⟨G,_,none⟩) (GL _) _
      · intro j p hj hp;by_cases C:j=k
        · subst C;rw [HG.o] at hp;cases hp;simp only [if_true,ae.o];refine ⟨?_,?_,aq.o.grown O (fun e=>?_)⟩
          · rw [G9 (by omega),Hp (by rw [HX.o];omega)]
          · rw [Hp (by rw [Jg,HX.o];omega)]
          · have h1:W.heap.size=G:=GN e;omega
        · obtain ⟨h1,h2,h3⟩:=u.o j p (by omega) hp;simp only [if_neg C];refine ⟨?_,?_,(h3.below K2.o).grown O (fun e=>?_)⟩
          · rw [G9 (by omega),G9 (by omega)];exact h1
          · rw [G9 (by omega),G9 (by omega)];exact h2
          · have h4:es j=G:=GN e;have h5:=h3.lt.1;omega
      · intro i j al hj;simp only;by_cases C:j=k
        · rw [if_pos C,if_neg (by omega)];have:=E.o i (by omega);omega
        · rw [if_neg C,if_neg (by omega)];exact a0.o i j al (by omega)
      · intro i hi';simp only;by_cases a3:i=k
        · rw [if_pos a3];omega
        · rw [if_neg a3];have:=E.o i (by omega);have:=K2.o.size;omega
     case measure=>simp [intOf];omega
  · go_wp2;go_ret;rw [Y.o];have A:∀{i:Nat} {p:af},B[i]?=some p→i<k:=fun hp=>by have:=(F'.1 hp).1;rw [H.o] at this;omega
    have aj:k=len:=by omega
    have D:=a0.o;have f:=E.o;rw [aj] at D f;exact ⟨rfl,⟨es,⟨H.o,⟨xs,ho,fun i p hp=>⟨(u.o i p (A hp) hp).1,(u.o i p (A hp) hp).2.1⟩⟩,fun i p hp=>(u.o i p (A hp) hp).2.2.mono (by omega),D,⟨N,f⟩,ab.o⟩⟩,N,HB.o⟩

end Go.Proofs.YtpobkmjicbobdaaGreat
