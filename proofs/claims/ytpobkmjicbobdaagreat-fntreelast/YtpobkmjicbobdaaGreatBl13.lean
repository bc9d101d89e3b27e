/- Walks. -/
import Derived.Test.YtpobkmjicbobdaaGreatBl12
import Derived.Laws.CopyOwn
import Derived.Lib.SlBytesRow
import Derived.Laws.IdiomCopy
import Derived.RangeFuncNested
import Derived.RangeFuncBound
import Derived.RangeFuncCalls
import Derived.RangeFuncLeaves
import Derived.RangeFuncBox
import Derived.Shelf.Abstract
import Derived.Shelf.RegionOpen
import Derived.OwnWalkIn
import Derived.TacticsInMore
import Derived.LoopNIn
import Derived.LoopIn
import Derived.Maps.OwnIn
namespace Go.Proofs.YtpobkmjicbobdaaGreat
set_option maxRecDepth 100000
set_option maxHeartbeats 40000000
open Go.RowKit Go.Shelf
variable {B X base n₀:Nat} {d q:Int} {s:ByteArray} {w w' w0:World}
theorem nJ (s:ByteArray) (w:World) (h:s.size≤281474976710656) :
 Calls Tryz.prog 171 #[.string s] w fun e w'=>e=.returned (.string s)∧Bl w w':=by
 go_enter Tryz.func171,Tryz.ntmps171
 go_wp2_with fail
 refine (Tryz.stringslite_Clone s _ h).mono ?_;rintro e f ⟨rfl,b⟩;go_wp2;go_ret;exact ⟨rfl,b⟩
structure gF (w0 w:World) (X:Nat) (s t:ByteArray) (q d n:Int):Prop where
 low:Below X w0 w
 c0:w.cell? ⟨X,0,none⟩=some (.string s)
 c1:w.cell? ⟨X,1,none⟩=some (iT q)
 c2:w.cell? ⟨X,2,none⟩=some (iT d)
 c3:w.cell? ⟨X,3,none⟩=some (.string t)
 c4:w.cell? ⟨X,4,none⟩=some (iT n)
 fr:∀o,w.frozen? ⟨X,o,none⟩=false
theorem gF.lt {t:ByteArray} {n:Int} (h:gF w0 w X s t q d n):X<w.heap.size:=Cz _ _ h.c0
theorem gF.all {t:ByteArray} {n:Int}(h:gF w0 w X s t q d n):w.cell? ⟨X,0,none⟩=some (.string s)∧w.cell? ⟨X,1,none⟩=some (iT q)∧w.cell? ⟨X,2,none⟩=some (iT d)∧w.cell? ⟨X,3,none⟩=some (.string t)∧w.cell? ⟨X,4,none⟩=some (iT n)∧(∀o,w.frozen? ⟨X,o,none⟩=false)∧X<w.heap.size:=⟨h.c0,h.c1,h.c2,h.c3,h.c4,h.fr,h.lt⟩
theorem gF.call {t:ByteArray} {n:Int} (h:gF w0 w X s t q d n) (hb:Bl w w'):gF w0 w' X s t q d n :=
 ⟨h.low.trans (hb.mono (EP h.lt)),cell_later hb h.c0,cell_later hb h.c1,cell_later hb h.c2,cell_later hb h.c3,cell_later hb h.c4,fun o=>(hb.frozen (p:=⟨X,o,none⟩) h.lt).trans (h.fr o)⟩
theorem gF.drew {t:ByteArray} {n:Int} (h:gF w0 w X s t q d n):gF w0 w.drew X s t q d n:=h.call (Below.refl _ w).drew
theorem gF.store0 {t:ByteArray} {n:Int} (h:gF w0 w X s t q d n):gF w0 (w.setCell ⟨X,0,none⟩ (.string s)) X s t q d n :=
 ⟨h.low.setCell (p:=⟨X,0,none⟩) (Cy _) _,C4 _ _ _ (by rw [h.c0];rfl),by rw [u' _ _ _ _ (by simp)];exact h.c1,by rw [u' _ _ _ _ (by simp)];exact h.c2,by rw [u' _ _ _ _ (by simp)];exact h.c3,by rw [u' _ _ _ _ (by simp)];exact h.c4,fun o=>by rw [Dj];exact h.fr o⟩
theorem gF.store3 {t:ByteArray} {n:Int} (h:gF w0 w X s t q d n):gF w0 (w.setCell ⟨X,3,none⟩ (.string t)) X s t q d n :=
 ⟨h.low.setCell (p:=⟨X,3,none⟩) (Cy _) _,by rw [u' _ _ _ _ (by simp)];exact h.c0,by rw [u' _ _ _ _ (by simp)];exact h.c1,by rw [u' _ _ _ _ (by simp)];exact h.c2,C4 _ _ _ (by rw [h.c3];rfl),by rw [u' _ _ _ _ (by simp)];exact h.c4,fun o=>by rw [Dj];exact h.fr o⟩
theorem gF.new (w:World) (T:TypeId) (s t:ByteArray) (q d n:Int):gF w (w.alloc (.cells #[.string s,iT q,iT d,.string t,iT n] T)) w.heap.size s t q d n :=
 ⟨bZ,by simp,by simp,by simp,by simp,by simp,fun o=>Ey w _ _ o⟩
theorem pd (a:Option Addr) (len E:Nat) (L:List ac) (w:World) (hL:ag w a len E L) (hbig:len≤1048576) (H:∀e ∈ L,e.1.size≤281474976710656∧e.2.2.2.1.size≤281474976710656) :
 Calls Tryz.prog 149 #[.slice a len E] w fun e w'=>e=.returned (sL (w.heap.size) len len)∧af w' w.heap.size w.heap.size len len L∧w.heap.size<w'.heap.size∧Bl w w':=by
 have r:CG (L.length=len):=hL.length;have A:CG (∀l ∈ L,dR l):=hL.ents;have a0:=bO H;have HL:=bO hL;clear hL H;obtain ⟨i0,hi,a3,a1,a2⟩:=info_parts Tryz.infoEnt;go_enter Tryz.func149,Tryz.ntmps149
 go_wp2_with (at_make;refine wpList_make_full _ rfl _ _ 28 rfl w.heap.size 50 i0 _ 5 Tryz.underlying28 hi a3 a1 .i64 .i64 _ _ len rfl rfl (by simp) (by simp) (by rw [a2];omega) (by unfold maxLen;omega) (Cy _) ?_;intro w1 hown hgrow)
 have J:Bl w w1:=(Below.refl _ _).grown hgrow (Cy _) (by simp);have N:w.heap.size<w1.heap.size:=(hown.lt _ rfl).2;go_loopw [11] (fun i wr=>∃(k:Nat) (xs:List Value),k≤len∧i=iT k∧wr.ownsRow w.heap.size 50 5 (sL (w.heap.size) len len) len xs∧Bl w wr∧(∀j l,j<k→L[j]?=some l→iP xs j l)) (fun i _=>len - (intOf i).toNat)
 case atStart=>exact ⟨0,_,C3 _,rfl,hown,J,fun j l h=>absurd h (DP _)⟩
 case round =>
  obtain ⟨k,xs,hk,rfl,ho,hb,y⟩:=hrel;have x:CG (∀j l,j<k→L[j]?=some l→iP xs j l):=y;clear y hown hgrow J N;by_cases U:k<len
  · obtain ⟨b,ae,rfl,a5⟩:=HL.o.form (by omega);obtain ⟨s,q,d,t,n,hg,Q,g0,g1,g2,g3,g4⟩:=HL.o.ent hb a5 k U;have HG:CG (L[k]?=some (s,q,d,t,n)):=hg;obtain ⟨hs,ht⟩:=a0.o _ (CV hg);simp only at hs ht;clear hg Q;have D:CG (xs.length=len*5):=ho.1;have HO:CG (wr.ownsRow w.heap.size 50 5 (sL (w.heap.size) len len) len xs):=ho;have T:=(ho.lt w.heap.size rfl).2;clear ho;go_wp2_with fail
    obtain ⟨X,O⟩:=aH wr.heap.size;obtain ⟨W,Y⟩:=aH (wr.alloc (.cells #[.string s,iT q,iT d,.string t,iT n] 50));have kW:gF wr W X s t q d n:=by rw [Y,O];exact gF.new wr 50 s t q d n
    have ak:w.heap.size<X:=by rw [O];exact T
    have R:CG (X=wr.heap.size):=O;rw [← Y,← O];clear Y O;have Z:gF wr W.drew X s t q d n:=kW.drew;have m:CG (∀w',gF wr w' X s t q d n→(w'.cell? ⟨X,0,none⟩=some (.string s)∧w'.cell? ⟨X,3,none⟩=some (.string t))):=fun w' kk=>⟨kk.c0,kk.c3⟩
    refine ez m Z fun u=>?_
    refine aP 0 2 u ?_;refine aP 3 2 u ?_;refine aR 2 fun K hK=>?_
    go_simp;refine (nJ _ _ hs).mono ?_;rintro e w1 ⟨rfl,b1⟩;have k1:=Z.call b1;go_wp2_with fail
    refine hK.o _ _ (m.o _ k1) fun u=>?_
    (try go_frame);refine aP 6 1 u ?_;refine aR 5 fun K hK=>?_
    go_simp;refine (nJ _ _ ht).mono ?_;rintro e w2 ⟨rfl,b2⟩;have k2:=k1.call b2;go_wp2_with fail
    refine hK.o _ _ (m.o _ k2) fun u=>?_
    (try go_frame);refine aR 7 fun K hK=>?_
    have c3:=k2.c0;have f3:=k2.fr 0;go_simp;have k3:=k2.store0;clear c3 f3;refine hK.o _ _ (m.o _ k3) fun u=>?_
    (try go_frame);refine aP 8 1 u ?_;refine aR 9 fun K hK=>?_
    have c4:=k3.c3;have f4:=k3.fr 3;go_simp;have C:=k3.store3;clear c4 f4;refine hK.o _ _ (m.o _ C) fun u=>?_
    (try go_frame);refine dN ?_;obtain ⟨W4,I⟩:=aH (((w2.setCell ⟨X,0,none⟩ (.string s)).setCell ⟨X,3,none⟩ (.string t)));rw [← I] at C ⊢;have g:Bl wr W4:=by have:=C.low;rw [R.o] at this;exact this
    have z0:=C.all;have K4:CG (gF wr W4 X s t q d n):=C;clear I k1 k2 k3 C Z kW b1 b2 m u;have f:W4.ownsRow w.heap.size 50 5 (sL (w.heap.size) len len) len xs:=HO.o.kept (row:=none) ⟨g.os,g.tape,g.output,g.size,fun k hk _=>g.block k hk⟩ (.inr (by simp [Value.ownBlock]));have c0:∃v,W4.cell? ⟨w.heap.size,k*5,none⟩=some v:=⟨_,(f.cellAt _ (by omega)).trans (j' (by rw [D.o];omega))⟩;have c1:∃v,W4.cell? ⟨w.heap.size,k*5+1,none⟩=some v:=⟨_,(f.cellAt _ (by omega)).trans (j' (by rw [D.o];omega))⟩;have c2:∃v,W4.cell? ⟨w.heap.size,k*5+2,none⟩=some v:=⟨_,(f.cellAt _ (by omega)).trans (j' (by rw [D.o];omega))⟩;have c3:∃v,W4.cell? ⟨w.heap.size,k*5+3,none⟩=some v:=⟨_,(f.cellAt _ (by omega)).trans (j' (by rw [D.o];omega))⟩;have c4:∃v,W4.cell? ⟨w.heap.size,k*5+4,none⟩=some v:=⟨_,(f.cellAt _ (by omega)).trans (j' (by rw [D.o];omega))⟩;obtain ⟨v0,c0⟩:=c0;obtain ⟨v1,c1⟩:=c1;obtain ⟨v2,c2⟩:=c2;obtain ⟨v3,c3⟩:=c3;obtain ⟨v4,c4⟩:=c4;have f0:W4.frozen? ⟨w.heap.size,k*5,none⟩=false:=f.frozenAt _;have f1:W4.frozen? ⟨w.heap.size,k*5+1,none⟩=false:=f.frozenAt _;have f2:W4.frozen? ⟨w.heap.size,k*5+2,none⟩=false:=f.frozenAt _;have f3:W4.frozen? ⟨w.heap.size,k*5+3,none⟩=false:=f.frozenAt _;have f4:W4.frozen? ⟨w.heap.size,k*5+4,none⟩=false:=f.frozenAt _;have a4:CG (W4.ownsRow w.heap.size 50 5 (sL (w.heap.size) len len) len xs):=f;clear f;go_wp2;go_roundw
    case rel =>
     have t0:=a4.o.stored (k*5) (.string s);have t1:=t0.1.stored (k*5+1) (iT q);have t2:=t1.1.stored (k*5+2) (iT d);have t3:=t2.1.stored (k*5+3) (.string t);have t4:=t3.1.stored (k*5+4) (iT n);refine ⟨k+1,_,by omega,by go_num,t4.1,?_,?_⟩
     · exact (((((hb.trans (g.mono hb.size)).setCell (p:=⟨w.heap.size,_,none⟩) (Cy _) _).setCell (p:=⟨w.heap.size,_,none⟩) (Cy _) _).setCell (p:=⟨w.heap.size,_,none⟩) (Cy _) _).setCell (p:=⟨w.heap.size,_,none⟩) (Cy _) _).setCell (p:=⟨w.heap.size,_,none⟩) (Cy _) _
     · intro j l hj hl;by_cases F:j=k
       · subst F;rw [HG.o] at hl;cases hl;exact jd s t q d n (by rw [D.o];omega)
       · exact iA (x.o j l (by omega) hl) F _ _ _ _ _
    case measure=>simp [intOf];omega
  · go_wp2;go_ret;exact ⟨rfl,⟨by rw [← n8 (xs:=xs) (L:=L) (by rw [r.o];exact ho.1) (fun j l hl=>x.o j l (by have:=(Cx.1 hl).1;rw [r.o] at this;omega) hl)];exact ho,r.o,A.o⟩,(ho.lt _ rfl).2,hb⟩
theorem xV (b:Nat) (w:World) (a:Option Addr):eW b w a 0 0 []:=⟨⟨rfl,Cy _,C3 _,by simp,fun _=>rfl,(fun x e hp=>absurd hp (Nat.lt_irrefl _)),(fun x e i hi=>by simp at hi)⟩,(fun x e hp=>absurd hp (Nat.lt_irrefl _))⟩
theorem Br (w:World) (a0 a1 a2:Option Addr) (b c0 e c1 n2 c2:Nat):(Instr.index 80 (.agg #[.slice a0 b c0,.slice a1 e c1,.slice a2 n2 c2]) (iT 0)).run Tryz.prog w=.ok (.slice a0 b c0) w:=by
 simp [Instr.index,run_underlying Tryz.underlying80,asIntOf,go_sem,Tryz.isAgg61,Tryz.sizeOf61,part]
theorem Bq (w:World) (a0 a1 a2:Option Addr) (e c0 b c1 n2 c2:Nat):(Instr.index 80 (.agg #[.slice a0 e c0,.slice a1 b c1,.slice a2 n2 c2]) (iT 1)).run Tryz.prog w=.ok (.slice a1 b c1) w:=by
 simp [Instr.index,run_underlying Tryz.underlying80,asIntOf,go_sem,Tryz.isAgg61,Tryz.sizeOf61,part]
theorem Bo (w:World) (a0 a1 a2:Option Addr) (e c0 b c1 n2 c2:Nat):(Instr.index 80 (.agg #[.slice a0 e c0,.slice a1 b c1,.slice a2 n2 c2]) (iT 2)).run Tryz.prog w=.ok (.slice a2 n2 c2) w:=by
 simp [Instr.index,run_underlying Tryz.underlying80,asIntOf,go_sem,Tryz.isAgg61,Tryz.sizeOf61,part]
theorem au.same {g t sz:Nat} (h:au w g t sz) (hf:w'.heap[g]?=w.heap[g]?):au w' g t sz:=by
 obtain ⟨b,h1,h2⟩:=h;exact ⟨b,hf.trans h1,h2⟩
theorem b6.lowR {g b:Nat} {o u m:Option Addr} {r f e t n cs:Nat} {M:List ac} {V:List (List an)} {S:List Int} (h:b6 g w o r f u e t m n cs M V S) (hl:b≤g):b6 b w o r f u e t m n cs M V S:=⟨h.mem.mono hl,h.levels.mono hl,h.snaps.lower hl⟩
structure cj (K:Nat→Prop) (w w':World):Prop where
 os:w'.os=w.os
 tape:w'.tape=w.tape
 output:w'.output=w.output
 size:w.heap.size≤w'.heap.size
 block:∀k,K k→w'.heap[k]?=w.heap[k]?
theorem cj.of {K:Nat→Prop} (h:Below n₀ w w') (hK:∀k,K k→k<n₀):cj K w w':=⟨h.os,h.tape,h.output,h.size,fun k hk=>h.block k (hK k hk)⟩
theorem cj.refl (K:Nat→Prop) (w:World):cj K w w:=⟨rfl,rfl,rfl,Cy _,fun _ _=>rfl⟩
theorem cj.trans {K:Nat→Prop} {a b c:World} (h:cj K a b) (k:cj K b c):cj K a c :=
 ⟨k.os.trans h.os,k.tape.trans h.tape,k.output.trans h.output,C8 h.size k.size,fun i hi=>(k.block i hi).trans (h.block i hi)⟩
theorem cj.cell {K:Nat→Prop} (h:cj K w w') {p:Addr} (hp:K p.block):w'.cell? p=w.cell? p:=DJ (w:=w) (h.block p.block hp)
theorem cj.grown {K:Nat→Prop} {row:Option Nat} (hg:w.grownBy w' row) (hK:∀k,K k→k<w.heap.size∧some k≠row):cj K w w':=⟨hg.os,hg.tape,hg.output,hg.size,fun k hk=>hg.block k (hK k hk).1 (hK k hk).2⟩
theorem ru {K:Nat→Prop} (hK:∀k,K k→k<w.heap.size) (W:World) (l:Nat) (o b:Obj) (hl:w.heap.size≤l) (h:W.heap[l]?=some o) (hc:o.isCells=false) (hw:o.isWalk=false):cj K W (W.putObj l b) :=
 cj.of (belowK_b (n₀:=w.heap.size) (w:=w) (Cy _) W l o b hl h hc hw) hK
section
attribute [local go_sem] DN
def bT (n k:Nat):List (Fin n):=((List.finRange n).drop k).reverse
theorem o8 (n:Nat):bT n n=[]:=by simp [bT]
theorem fI {n k:Nat} (h:k<n):bT n k=bT n (k+1)++[⟨k,h⟩]:=by
 unfold bT;rw [DR (by simpa using h)];simp
theorem o6 (n k:Nat):bT n k <+: bT n 0:=by
 unfold bT;rw [List.drop_zero];exact List.reverse_prefix.2 (List.drop_suffix _ _)
theorem lF (n k:Nat):(bT n k).length=n - k:=by simp [bT]
def Ca (K:Nat→Prop) (w:World) (a:Option Addr) (len:Nat) (u0 u1 u2 u3 u4:Nat→Value):Prop:=∀b o,a=some ⟨b,o,none⟩→1≤len→K b∧∀i,i<len→w.cell? ⟨b,o+i*5,none⟩=some (u0 i)∧w.cell? ⟨b,o+i*5+1,none⟩=some (u1 i)∧w.cell? ⟨b,o+i*5+2,none⟩=some (u2 i)∧w.cell? ⟨b,o+i*5+3,none⟩=some (u3 i)∧w.cell? ⟨b,o+i*5+4,none⟩=some (u4 i)
theorem ye (n l A:Nat) (K:Nat→Prop) (hn:1≤n) (a:Option Addr) (len t:Nat) (u0 u1 u2 u3 u4:Nat→Value) (J R:List (Fin len)→World→Prop) (W:World)
 (hY:∀f (x:Fin len) L,J f L→f.length<len→YieldAt Fence.wide (n - 1) Tryz.prog l #[iT (x.1:Nat),.agg #[u0 x.1,u1 x.1,u2 x.1,u3 x.1,u4 x.1]] L fun e u =>
  (e=.returned (.bool true)∧J (f++[x]) u∧cj K L u)∨(e=.returned (.bool false)∧R (f++[x]) u))
 (hKB:K A) (hp0:W.cell? ⟨A,0,none⟩=some (.slice a len t)) (hs:1≤len→∃b o,a=some ⟨b,o,none⟩) (hroom:len≤t) (hbig:t≤maxLen) (hKs:∀k,K k→k<W.heap.size)
 (hV:Ca K W a len u0 u1 u2 u3 u4) (h0:J [] W) :
 CallsIn Fence.wide n Tryz.prog 228 #[.func (.yield l) #[] #[],.pointer (pT A)] W fun e u=>(∃v,e=.returned v) ∧
  ((∃U,U=bT len 0∧J U u)∨(∃f,f <+: bT len 0∧R f u)):=by
 unfold maxLen at hbig;have F:=bO hKs;clear hKs;refine callsIn_of_wp Tryz.func228 rfl trivial ?_ rfl;simp only [Tryz.ntmps228,D9,DC,Ec,Nat.reduceAdd,Nat.reduceSub,Ek,El,Ez,Et,DA,DD];have wl:IntKind.i64.wrap ((len:Int) - 1)=(len:Int) - 1:=by rw [Dg];unfold wrap64;omega
 gi_wp2
 gi_loopw [3] (fun I wr=>∃k:Nat,k≤len∧I=iT ((k:Int) - 1)∧J (bT len k) wr∧cj K W wr) (fun I _=>(intOf I+1).toNat)
 case atStart=>exact ⟨len,Cy _,rfl,by rw [o8];exact h0,cj.refl _ _⟩
 case round =>
  obtain ⟨k,hk,rfl,D,hb⟩:=hrel;have y:CG (cj K W wr):=hb;have a0:=(hb.cell (p:=⟨A,0,none⟩) hKB).trans hp0;have r:=hb.size;have a3:A<wr.heap.size:=l' (F.o A hKB) r;cases k with
  | zero =>
   gi_wp2
   go_end0;exact ⟨⟨_,rfl⟩,.inl ⟨_,rfl,D⟩⟩
  | succ j =>
   have hj:((j+1:Nat):Int) - 1=(j:Int):=by omega
   rw [hj];have a1:(j:Int)<(len:Int):=by omega
   have m:j<len:=by omega
   have a2:(0:Int)≤(j:Int):=by omega
   have wj:IntKind.i64.wrap ((j:Int) - 1)=(j:Int) - 1:=by rw [Dg];unfold wrap64;omega
   obtain ⟨b,o,rfl⟩:=hs (by omega);obtain ⟨g,E⟩:=hV b o rfl (by omega);have a5:b<wr.heap.size:=l' (F.o b g) r;obtain ⟨T,Q,Z,O,Y⟩:=E j m;have c0:=(y.o.cell (p:=⟨b,o+j*5,none⟩) g).trans T;have c1:=(y.o.cell (p:=⟨b,o+j*5+1,none⟩) g).trans Q;have c2:=(y.o.cell (p:=⟨b,o+j*5+2,none⟩) g).trans Z;have c3:=(y.o.cell (p:=⟨b,o+j*5+3,none⟩) g).trans O;have c4:=(y.o.cell (p:=⟨b,o+j*5+4,none⟩) g).trans Y;clear T Q Z O Y;obtain ⟨fn,tmps,assign,body,hy,hR⟩:=hY _ ⟨j,m⟩ _ D (by rw [lF];omega);simp only at hy;clear hb hV E;gi_wp2
   refine hR.mono ?_;rintro e W3 (⟨rfl,H,N⟩ | ⟨rfl,C⟩)
   · gi_wp2
     go_roundw
     case rel=>exact ⟨j,by omega,by go_num,by rw [fI m];exact H,y.o.trans N⟩
     case measure=>simp [intOf]
   · gi_wp2
     refine bodyPost_ret (results_none rfl _ _ _) rfl ?_;exact ⟨⟨_,rfl⟩,.inr ⟨_,by rw [← fI m];exact o6 _ _,C⟩⟩
theorem zZ (n:Nat) (a:Option Addr) (len b:Nat) (w:World) :
 CallsIn Fence.wide n Tryz.prog 191 #[.slice a len b] w fun e w'=>e=.returned (.func (.func 228) #[] #[.pointer (some ⟨w.heap.size,0,none⟩)]) ∧
  w'=w.alloc (.cells #[.slice a len b] 28):=by
 refine callsIn_of_wp Tryz.func191 rfl trivial ?_ rfl;simp only [Tryz.ntmps191,D9,DC,Ec,Nat.reduceAdd,Nat.reduceSub,Ek,El,Ez,Et,DA,DD];gi_wp2
 go_ret;exact ⟨rfl,rfl⟩
theorem tN (n:Nat) (hn:1≤n) (m:Nat) (K:Nat→Prop) (a:Option Addr) (len f:Nat) (u0 u1 u2 u3 u4:Nat→Value) (w:World)
 (hKB:K m) (hp0:w.cell? ⟨m,0,none⟩=some (.slice a len f)) (hs:1≤len→∃b o,a=some ⟨b,o,none⟩) (hroom:len≤f) (hbig:f≤maxLen) (hKs:∀k,K k→k<w.heap.size)
 (hV:Ca K w a len u0 u1 u2 u3 u4) :
 SeqStopsK Fence.wide n Tryz.prog 228 #[.pointer (pT m)] (fun x:Fin len=>#[iT (x.1:Nat),.agg #[u0 x.1,u1 x.1,u2 x.1,u3 x.1,u4 x.1]]) (cj K) (fun y=>y=bT len 0) (fun r=>r <+: bT len 0) len w :=
 fun l J t W g _ _ hY h0=>ye n l m K hn a len f u0 u1 u2 u3 u4 J t W hY hKB (cell_later g hp0) hs hroom hbig (fun k hk=>l' (hKs k hk) g.size) (fun b o e h1=>⟨(hV b o e h1).1,fun i hi=>by obtain ⟨u,E,D,C,A⟩:=(hV b o e h1).2 i hi;exact ⟨cell_later g u,cell_later g E,cell_later g D,cell_later g C,cell_later g A⟩⟩) h0
end
section
attribute [local go_sem] DN
def B9 (K:Nat→Prop) (w:World) (a:Option Addr) (len:Nat) (u0:Nat→Value):Prop:=∀b o,a=some ⟨b,o,none⟩→1≤len→K b∧∀i,i<len→w.cell? ⟨b,o+i,none⟩=some (u0 i)
theorem yd (n l u:Nat) (K:Nat→Prop) (hn:1≤n) (a:Option Addr) (len r:Nat) (u0:Nat→Value) (J N:List (Fin len)→World→Prop) (W:World)
 (hY:∀f (x:Fin len) I,J f I→f.length<len→YieldAt Fence.wide (n - 1) Tryz.prog l #[iT (x.1:Nat),u0 x.1] I fun e t =>
  (e=.returned (.bool true)∧J (f++[x]) t∧cj K I t)∨(e=.returned (.bool false)∧N (f++[x]) t))
 (hKB:K u) (hp0:W.cell? ⟨u,0,none⟩=some (.slice a len r)) (hs:1≤len→∃b o,a=some ⟨b,o,none⟩) (hroom:len≤r) (hbig:r≤maxLen) (hKs:∀k,K k→k<W.heap.size)
 (hV:B9 K W a len u0) (h0:J [] W) :
 CallsIn Fence.wide n Tryz.prog 252 #[.func (.yield l) #[] #[],.pointer (pT u)] W fun e t=>(∃v,e=.returned v) ∧
  ((∃Q,Q=bT len 0∧J Q t)∨(∃f,f <+: bT len 0∧N f t)):=by
 unfold maxLen at hbig;have E:=bO hKs;clear hKs;refine callsIn_of_wp Tryz.func252 rfl trivial ?_ rfl;simp only [Tryz.ntmps252,D9,DC,Ec,Nat.reduceAdd,Nat.reduceSub,Ek,El,Ez,Et,DA,DD];have wl:IntKind.i64.wrap ((len:Int) - 1)=(len:Int) - 1:=by rw [Dg];unfold wrap64;omega
 gi_wp2
 gi_loopw [3] (fun H wr=>∃k:Nat,k≤len∧H=iT ((k:Int) - 1)∧J (bT len k) wr∧cj K W wr) (fun H _=>(intOf H+1).toNat)
 case atStart=>exact ⟨len,Cy _,rfl,by rw [o8];exact h0,cj.refl _ _⟩
 case round =>
  obtain ⟨k,hk,rfl,C,hb⟩:=hrel;have R:CG (cj K W wr):=hb;have T:=(hb.cell (p:=⟨u,0,none⟩) hKB).trans hp0;have m:=hb.size;have a0:u<wr.heap.size:=l' (E.o u hKB) m;cases k with
  | zero =>
   gi_wp2
   go_end0;exact ⟨⟨_,rfl⟩,.inl ⟨_,rfl,C⟩⟩
  | succ j =>
   have hj:((j+1:Nat):Int) - 1=(j:Int):=by omega
   rw [hj];have Y:(j:Int)<(len:Int):=by omega
   have g:j<len:=by omega
   have Z:(0:Int)≤(j:Int):=by omega
   have wj:IntKind.i64.wrap ((j:Int) - 1)=(j:Int) - 1:=by rw [Dg];unfold wrap64;omega
   obtain ⟨b,o,rfl⟩:=hs (by omega);obtain ⟨D,y⟩:=hV b o rfl (by omega);have U:b<wr.heap.size:=l' (E.o b D) m;have O:=y j g;have c0:=(R.o.cell (p:=⟨b,o+j,none⟩) D).trans O;clear O;obtain ⟨fn,tmps,assign,body,hy,hR⟩:=hY _ ⟨j,g⟩ _ C (by rw [lF];omega);simp only at hy;clear hb hV y;gi_wp2
   refine hR.mono ?_;rintro e W3 (⟨rfl,F,L⟩ | ⟨rfl,A⟩)
   · gi_wp2
     go_roundw
     case rel=>exact ⟨j,by omega,by go_num,by rw [fI g];exact F,R.o.trans L⟩
     case measure=>simp [intOf]
   · gi_wp2
     refine bodyPost_ret (results_none rfl _ _ _) rfl ?_;exact ⟨⟨_,rfl⟩,.inr ⟨_,by rw [← fI g];exact o6 _ _,A⟩⟩
theorem zY (n:Nat) (a:Option Addr) (len b:Nat) (w:World) :
 CallsIn Fence.wide n Tryz.prog 235 #[.slice a len b] w fun e w'=>e=.returned (.func (.func 252) #[] #[.pointer (some ⟨w.heap.size,0,none⟩)]) ∧
  w'=w.alloc (.cells #[.slice a len b] 102):=by
 refine callsIn_of_wp Tryz.func235 rfl trivial ?_ rfl;simp only [Tryz.ntmps235,D9,DC,Ec,Nat.reduceAdd,Nat.reduceSub,Ek,El,Ez,Et,DA,DD];gi_wp2
 go_ret;exact ⟨rfl,rfl⟩
theorem tM (n:Nat) (hn:1≤n) (g:Nat) (K:Nat→Prop) (a:Option Addr) (len f:Nat) (u0:Nat→Value) (w:World)
 (hKB:K g) (hp0:w.cell? ⟨g,0,none⟩=some (.slice a len f)) (hs:1≤len→∃b o,a=some ⟨b,o,none⟩) (hroom:len≤f) (hbig:f≤maxLen) (hKs:∀k,K k→k<w.heap.size)
 (hV:B9 K w a len u0) :
 SeqStopsK Fence.wide n Tryz.prog 252 #[.pointer (pT g)] (fun x:Fin len=>#[iT (x.1:Nat),u0 x.1]) (cj K) (fun u=>u=bT len 0) (fun m=>m <+: bT len 0) len w :=
 fun l J t W r _ _ hY h0=>yd n l g K hn a len f u0 J t W hY hKB (cell_later r hp0) hs hroom hbig (fun k hk=>l' (hKs k hk) r.size) (fun b o e h1=>⟨(hV b o e h1).1,fun i hi=>by exact cell_later r ((hV b o e h1).2 i hi)⟩) h0
def B8 (K:Nat→Prop) (w:World) (a:Option Addr) (len:Nat) (u0 u1:Nat→Value):Prop:=∀b o,a=some ⟨b,o,none⟩→1≤len→K b∧∀i,i<len→w.cell? ⟨b,o+i*2,none⟩=some (u0 i)∧w.cell? ⟨b,o+i*2+1,none⟩=some (u1 i)
theorem yb (n l y:Nat) (K:Nat→Prop) (hn:1≤n) (a:Option Addr) (len r:Nat) (u0 u1:Nat→Value) (J O:List (Fin len)→World→Prop) (W:World)
 (hY:∀f (x:Fin len) I,J f I→f.length<len→YieldAt Fence.wide (n - 1) Tryz.prog l #[iT (x.1:Nat),.agg #[u0 x.1,u1 x.1]] I fun e u =>
  (e=.returned (.bool true)∧J (f++[x]) u∧cj K I u)∨(e=.returned (.bool false)∧O (f++[x]) u))
 (hKB:K y) (hp0:W.cell? ⟨y,0,none⟩=some (.slice a len r)) (hs:1≤len→∃b o,a=some ⟨b,o,none⟩) (hroom:len≤r) (hbig:r≤maxLen) (hKs:∀k,K k→k<W.heap.size)
 (hV:B8 K W a len u0 u1) (h0:J [] W) :
 CallsIn Fence.wide n Tryz.prog 206 #[.func (.yield l) #[] #[],.pointer (pT y)] W fun e u=>(∃v,e=.returned v) ∧
  ((∃R,R=bT len 0∧J R u)∨(∃f,f <+: bT len 0∧O f u)):=by
 unfold maxLen at hbig;have E:=bO hKs;clear hKs;refine callsIn_of_wp Tryz.func206 rfl trivial ?_ rfl;simp only [Tryz.ntmps206,D9,DC,Ec,Nat.reduceAdd,Nat.reduceSub,Ek,El,Ez,Et,DA,DD];have wl:IntKind.i64.wrap ((len:Int) - 1)=(len:Int) - 1:=by rw [Dg];unfold wrap64;omega
 gi_wp2
 gi_loopw [3] (fun H wr=>∃k:Nat,k≤len∧H=iT ((k:Int) - 1)∧J (bT len k) wr∧cj K W wr) (fun H _=>(intOf H+1).toNat)
 case atStart=>exact ⟨len,Cy _,rfl,by rw [o8];exact h0,cj.refl _ _⟩
 case round =>
  obtain ⟨k,hk,rfl,D,hb⟩:=hrel;have L:CG (cj K W wr):=hb;have U:=(hb.cell (p:=⟨y,0,none⟩) hKB).trans hp0;have m:=hb.size;have a1:y<wr.heap.size:=l' (E.o y hKB) m;cases k with
  | zero =>
   gi_wp2
   go_end0;exact ⟨⟨_,rfl⟩,.inl ⟨_,rfl,D⟩⟩
  | succ j =>
   have hj:((j+1:Nat):Int) - 1=(j:Int):=by omega
   rw [hj];have Z:(j:Int)<(len:Int):=by omega
   have g:j<len:=by omega
   have a0:(0:Int)≤(j:Int):=by omega
   have wj:IntKind.i64.wrap ((j:Int) - 1)=(j:Int) - 1:=by rw [Dg];unfold wrap64;omega
   obtain ⟨b,o,rfl⟩:=hs (by omega);obtain ⟨t,A⟩:=hV b o rfl (by omega);have Y:b<wr.heap.size:=l' (E.o b t) m;obtain ⟨Q,T⟩:=A j g;have c0:=(L.o.cell (p:=⟨b,o+j*2,none⟩) t).trans Q;have c1:=(L.o.cell (p:=⟨b,o+j*2+1,none⟩) t).trans T;clear Q T;obtain ⟨fn,tmps,assign,body,hy,hR⟩:=hY _ ⟨j,g⟩ _ D (by rw [lF];omega);simp only at hy;clear hb hV A;gi_wp2
   refine hR.mono ?_;rintro e W3 (⟨rfl,F,N⟩ | ⟨rfl,C⟩)
   · gi_wp2
     go_roundw
     case rel=>exact ⟨j,by omega,by go_num,by rw [fI g];exact F,L.o.trans N⟩
     case measure=>simp [intOf]
   · gi_wp2
     refine bodyPost_ret (results_none rfl _ _ _) rfl ?_;exact ⟨⟨_,rfl⟩,.inr ⟨_,by rw [← fI g];exact o6 _ _,C⟩⟩
theorem zW (n:Nat) (a:Option Addr) (len b:Nat) (w:World) :
 CallsIn Fence.wide n Tryz.prog 155 #[.slice a len b] w fun e w'=>e=.returned (.func (.func 206) #[] #[.pointer (some ⟨w.heap.size,0,none⟩)]) ∧
  w'=w.alloc (.cells #[.slice a len b] 61):=by
 refine callsIn_of_wp Tryz.func155 rfl trivial ?_ rfl;simp only [Tryz.ntmps155,D9,DC,Ec,Nat.reduceAdd,Nat.reduceSub,Ek,El,Ez,Et,DA,DD];gi_wp2
 go_ret;exact ⟨rfl,rfl⟩
theorem tL (n:Nat) (hn:1≤n) (g:Nat) (K:Nat→Prop) (a:Option Addr) (len f:Nat) (u0 u1:Nat→Value) (w:World)
 (hKB:K g) (hp0:w.cell? ⟨g,0,none⟩=some (.slice a len f)) (hs:1≤len→∃b o,a=some ⟨b,o,none⟩) (hroom:len≤f) (hbig:f≤maxLen) (hKs:∀k,K k→k<w.heap.size)
 (hV:B8 K w a len u0 u1) :
 SeqStopsK Fence.wide n Tryz.prog 206 #[.pointer (pT g)] (fun x:Fin len=>#[iT (x.1:Nat),.agg #[u0 x.1,u1 x.1]]) (cj K) (fun y=>y=bT len 0) (fun r=>r <+: bT len 0) len w :=
 fun l J t W m _ _ hY h0=>yb n l g K hn a len f u0 u1 J t W hY hKB (cell_later m hp0) hs hroom hbig (fun k hk=>l' (hKs k hk) m.size) (fun b o e h1=>⟨(hV b o e h1).1,fun i hi=>by obtain ⟨u,A⟩:=(hV b o e h1).2 i hi;exact ⟨cell_later m u,cell_later m A⟩⟩) h0
end
def vF (ds:List Nat):List Deferred:=ds.map (fun D=>{ target:=.collected D,args:=#[] })
def f8 (base:Nat) (w:World) (ds:List Nat):Prop:=ds.Nodup∧∀D ∈ ds,base≤D∧w.heap[D]?=some (.deferred (some []))
theorem lu {F:Fence} {n base:Nat} {P:Program} {y:Func} {tmps:Array Value} {R:Ending→World→Prop}:∀(r:List Nat) (W:World),f8 base W r →
 (∀m,Below base W m→(∀(k:Nat) (o:Obj),W.heap[k]?=some o→o.isCells=true→m.heap[k]?=some o)→LeavesInM F n P y tmps R [] .returning m)→LeavesInM F n P y tmps R (vF r) .returning W
 | [],W,_,h=>h W (Below.refl _ _) (fun _ _ h _=>h)
 | D :: r,W,hm,h=>by
  obtain ⟨g,hD⟩:=hm
  rw [List.nodup_cons] at g
  have hk:=(hD D (Dy ..)).2
  have hb:=(hD D (Dy ..)).1
  have hB:Below base W (W.putObj D (.deferred none)):=⟨rfl,rfl,rfl,by simp [World.putObj],fun k hk=>World.putObj_heap_other (by omega)⟩
  refine ⟨by simp,.inl ⟨D,_,rfl,run_takeDeferred hk,?_⟩⟩
  refine lu r (W.putObj D (.deferred none)) ⟨g.2,fun u b=>⟨(hD u (DB _ b)).1,?_⟩⟩ (fun m t x=>h m (hB.trans t) (fun k o ho hc=>x k o ?_ hc))
  · have f:u≠D:=fun e=>g.1 (e ▸ b)
    exact (World.putObj_heap_other f).trans (hD u (DB _ b)).2
  · have f:k≠D:=fun e=>by subst e;rw [hk] at ho;cases ho;cases hc
    exact (World.putObj_heap_other f).trans ho
theorem qm {W W':World} {t:TypeId} {v:Value} (h:Below n₀ W W') (hv:Boxed W B t v) (b:Boxed W' B t v):cj (fun k=>k<n₀∨k=B) W W' :=
 ⟨h.os,h.tape,h.output,h.size,fun k hk=>by
  rcases hk with hk | rfl
  · exact h.block k hk
  · exact (show W'.heap[k]?=_ from b).trans (show W.heap[k]?=_ from hv).symm⟩
theorem xm {β:Type} {b:List Nat} (hB:∀D ∈ b,D<B):OwnFrom B (fun (_:β) W=>f8 base W b):=fun _ X Y row hs hg hr =>
 ⟨hs.1,fun D hD=>⟨(hs.2 D hD).1,by
  have h0:=(hs.2 D hD).2
  refine (hg.block D (DM.1 h0).1 (fun e=>?_)).trans h0
  have:=(hr D e.symm).1
  have:=hB D hD
  omega⟩⟩
theorem f8.others {ds:List Nat} (h:f8 base w ds) (hk:KeepsOthers w w'):f8 base w' ds:=⟨h.1,fun D hD=>⟨(h.2 D hD).1,hk.same D _ (h.2 D hD).2 rfl⟩⟩
end Go.Proofs.YtpobkmjicbobdaaGreat
