/- Walks. -/
import Derived.RangeFuncNested
import Derived.RangeFuncBound
import Derived.RangeFuncCalls
import Derived.RangeFuncLeaves
import Derived.RangeFuncBox
import Derived.Shelf.Abstract
import Derived.Shelf.RegionOpen
import Derived.OwnWalkIn
import Derived.TacticsInMore
import Derived.LoopNIn
import Derived.LoopIn
import Derived.Maps.OwnIn
import Derived.Test.YtpobkmjicbobdaaGreatBW05
namespace Go.Proofs.YtpobkmjicbobdaaGreat
set_option maxRecDepth 100000
set_option maxHeartbeats 40000000
open Go.RowKit Go.Shelf
variable {P:List (List ac)} {base n n₀:Nat} {vs:List Value} {w w':World}
structure bQ (K:Nat→Prop) (w w':World):Prop where
 os:w'.os=w.os
 tape:w'.tape=w.tape
 output:w'.output=w.output
 size:w.heap.size≤w'.heap.size
 block:∀k,K k→w'.heap[k]?=w.heap[k]?
theorem bQ.of {K:Nat→Prop} (h:Below n₀ w w') (hK:∀k,K k→k<n₀):bQ K w w':=⟨h.os,h.tape,h.output,h.size,fun k hk=>h.block k (hK k hk)⟩
theorem bQ.refl (K:Nat→Prop) (w:World):bQ K w w:=⟨rfl,rfl,rfl,GL _,fun _ _=>rfl⟩
theorem bQ.trans {K:Nat→Prop} {a b c:World} (h:bQ K a b) (k:bQ K b c):bQ K a c :=
 ⟨k.os.trans h.os,k.tape.trans h.tape,k.output.trans h.output,GU h.size k.size,fun i hi=>(k.block i hi).trans (h.block i hi)⟩
theorem bQ.cell {K:Nat→Prop} (h:bQ K w w') {p:Addr} (hp:K p.block):w'.cell? p=w.cell? p:=Hz (w:=w) (h.block p.block hp)
theorem bQ.grown {K:Nat→Prop} {row:Option Nat} (hg:w.grownBy w' row) (hK:∀k,K k→k<w.heap.size∧some k≠row):bQ K w w':=⟨hg.os,hg.tape,hg.output,hg.size,fun k hk=>hg.block k (hK k hk).1 (hK k hk).2⟩
theorem pP {K:Nat→Prop} (hK:∀k,K k→k<w.heap.size) (W:World) (l:Nat) (o b:Obj) (hl:w.heap.size≤l) (h:W.heap[l]?=some o) (hc:o.isCells=false) (hw:o.isWalk=false):bQ K W (W.putObj l b) :=
 bQ.of (belowK_b (n₀:=w.heap.size) (w:=w) (GL _) W l o b hl h hc hw) hK
theorem ah.keepS {K:Nat→Prop} {a:Option Addr} {len b:Nat} {L:List ac} (h:ah w a len b L) (hk:bQ K w w') (hK:∀x,a=some x→0<len→K x.block):ah w' a len b L :=
 h.moved hk.size (fun x e hp o=>hk.cell (p:=⟨x.block,o,none⟩) (hK x e hp))
section
attribute [local go_sem] Ic
def cq (n k:Nat):List (Fin n):=((List.finRange n).drop k).reverse
theorem rO (n:Nat):cq n n=[]:=by simp [cq]
theorem down_step {k:Nat} (h:k<n):cq n k=cq n (k+1)++[⟨k,h⟩]:=by
 unfold cq;rw [Ie (by simpa using h)];simp
theorem rK (n k:Nat):cq n k <+: cq n 0:=by
 unfold cq;rw [List.drop_zero];exact List.reverse_prefix.2 (List.drop_suffix _ _)
theorem nJ (n k:Nat):(cq n k).length=n - k:=by simp [cq]
def Gf (K:Nat→Prop) (w:World) (a:Option Addr) (len:Nat) (u0 u1 u2 u3 u4:Nat→Value):Prop:=∀b o,a=some ⟨b,o,none⟩→1≤len→K b∧∀i,i<len→w.cell? ⟨b,o+i*5,none⟩=some (u0 i)∧w.cell? ⟨b,o+i*5+1,none⟩=some (u1 i)∧w.cell? ⟨b,o+i*5+2,none⟩=some (u2 i)∧w.cell? ⟨b,o+i*5+3,none⟩=some (u3 i)∧w.cell? ⟨b,o+i*5+4,none⟩=some (u4 i)
theorem BM (n l t:Nat) (K:Nat→Prop) (hn:1≤n) (a:Option Addr) (len m:Nat) (u0 u1 u2 u3 u4:Nat→Value) (J H:List (Fin len)→World→Prop) (W:World)
 (hY:∀d (x:Fin len) E,J d E→d.length<len→YieldAt Fence.wide (n - 1) Tryz.prog l #[iT (x.1:Nat),.agg #[u0 x.1,u1 x.1,u2 x.1,u3 x.1,u4 x.1]] E fun e r =>
  (e=.returned (.bool true)∧J (d++[x]) r∧bQ K E r)∨(e=.returned (.bool false)∧H (d++[x]) r))
 (hKB:K t) (hp0:W.cell? ⟨t,0,none⟩=some (.slice a len m)) (hs:1≤len→∃b o,a=some ⟨b,o,none⟩) (hroom:len≤m) (hbig:m≤maxLen) (hKs:∀k,K k→k<W.heap.size)
 (hV:Gf K W a len u0 u1 u2 u3 u4) (h0:J [] W) :
 CallsIn Fence.wide n Tryz.prog 228 #[.func (.yield l) #[] #[],.pointer (pT t)] W fun e r=>(∃v,e=.returned v) ∧
  ((∃I,I=cq len 0∧J I r)∨(∃d,d <+: cq len 0∧H d r)):=by
 unfold maxLen at hbig;have y:=az hKs;refine callsIn_of_wp Tryz.func228 rfl trivial ?_ rfl;simp only [Tryz.ntmps228,Ir,Hn,Io,Nat.reduceAdd,Nat.reduceSub,IA,IB,IM,IE,Ho,Ht];have wl:IntKind.i64.wrap ((len:Int) - 1)=(len:Int) - 1:=by rw [G4];unfold wrap64;omega
 gi_wp2
 gi_loopw [3] (fun C wr=>∃k:Nat,k≤len∧C=iT ((k:Int) - 1)∧J (cq len k) wr∧bQ K W wr) (fun C _=>(intOf C+1).toNat)
 case atStart=>exact ⟨len,GL _,rfl,by rw [rO];exact h0,bQ.refl _ _⟩
 case round =>
  obtain ⟨k,hk,rfl,A,hb⟩:=hrel;have s:=az hb;have R:=(hb.cell (p:=⟨t,0,none⟩) hKB).trans hp0;have g:=hb.size;have Z:=E' (y.o t hKB) g;cases k with
  | zero =>
   gi_wp2
   go_end0;exact ⟨⟨_,rfl⟩,.inl ⟨_,rfl,A⟩⟩
  | succ j =>
   have Q:((j+1:Nat):Int) - 1=(j:Int):=by omega
   rw [Q];have N:(j:Int)<(len:Int):=by omega
   have f:j<len:=by omega
   have O:(0:Int)≤(j:Int):=by omega
   have wj:IntKind.i64.wrap ((j:Int) - 1)=(j:Int) - 1:=by rw [G4];unfold wrap64;omega
   obtain ⟨b,o,rfl⟩:=hs (by omega);obtain ⟨hKb,D⟩:=hV b o rfl (by omega);have X:=E' (y.o b hKb) g;obtain ⟨U,Y,T,g3,L⟩:=D j f;have c0:=(s.o.cell (p:=⟨b,o+j*5,none⟩) hKb).trans U;have c1:=(s.o.cell (p:=⟨b,o+j*5+1,none⟩) hKb).trans Y;have c2:=(s.o.cell (p:=⟨b,o+j*5+2,none⟩) hKb).trans T;have c3:=(s.o.cell (p:=⟨b,o+j*5+3,none⟩) hKb).trans g3;have c4:=(s.o.cell (p:=⟨b,o+j*5+4,none⟩) hKb).trans L;obtain ⟨fn,tmps,assign,body,hy,hR⟩:=hY _ ⟨j,f⟩ _ A (by rw [nJ];omega);simp only at hy;gi_wp2
   refine hR.mono ?_;rintro e W3 (⟨rfl,F,B⟩ | ⟨rfl,u⟩)
   · gi_wp2
     go_roundw
     case rel=>exact ⟨j,by omega,by go_num,by rw [down_step f];exact F,s.o.trans B⟩
     case measure=>simp [intOf]
   · gi_wp2
     refine bodyPost_ret (results_none rfl _ _ _) rfl ?_;exact ⟨⟨_,rfl⟩,.inr ⟨_,by rw [← down_step f];exact rK _ _,u⟩⟩
theorem D7 (n:Nat) (a:Option Addr) (len b:Nat) (w:World) :
 CallsIn Fence.wide n Tryz.prog 191 #[.slice a len b] w fun e w'=>e=.returned (.func (.func 228) #[] #[.pointer (some ⟨w.heap.size,0,none⟩)]) ∧
  w'=w.alloc (.cells #[.slice a len b] 28):=by
 refine callsIn_of_wp Tryz.func191 rfl trivial ?_ rfl;simp only [Tryz.ntmps191,Ir,Hn,Io,Nat.reduceAdd,Nat.reduceSub,IA,IB,IM,IE,Ho,Ht];gi_wp2
 go_ret;exact ⟨rfl,rfl⟩
theorem xm (n:Nat) (hn:1≤n) (g:Nat) (K:Nat→Prop) (a:Option Addr) (len d:Nat) (u0 u1 u2 u3 u4:Nat→Value) (w:World)
 (hKB:K g) (hp0:w.cell? ⟨g,0,none⟩=some (.slice a len d)) (hs:1≤len→∃b o,a=some ⟨b,o,none⟩) (hroom:len≤d) (hbig:d≤maxLen) (hKs:∀k,K k→k<w.heap.size)
 (hV:Gf K w a len u0 u1 u2 u3 u4) :
 SeqStopsK Fence.wide n Tryz.prog 228 #[.pointer (pT g)] (fun x:Fin len=>#[iT (x.1:Nat),.agg #[u0 x.1,u1 x.1,u2 x.1,u3 x.1,u4 x.1]]) (bQ K) (fun A=>A=cq len 0) (fun m=>m <+: cq len 0) len w :=
 fun l J r W f _ _ hY h0=>BM n l g K hn a len d u0 u1 u2 u3 u4 J r W hY hKB (cell_later f hp0) hs hroom hbig (fun k hk=>E' (hKs k hk) f.size) (fun b o e h1=>⟨(hV b o e h1).1,fun i hi=>by obtain ⟨t,y,s,B,u⟩:=(hV b o e h1).2 i hi;exact ⟨cell_later f t,cell_later f y,cell_later f s,cell_later f B,cell_later f u⟩⟩) h0
end
section
attribute [local go_sem] Ic
def Ge (K:Nat→Prop) (w:World) (a:Option Addr) (len:Nat) (u0:Nat→Value):Prop:=∀b o,a=some ⟨b,o,none⟩→1≤len→K b∧∀i,i<len→w.cell? ⟨b,o+i,none⟩=some (u0 i)
theorem BL (n l t:Nat) (K:Nat→Prop) (hn:1≤n) (a:Option Addr) (len m:Nat) (u0:Nat→Value) (J F:List (Fin len)→World→Prop) (W:World)
 (hY:∀d (x:Fin len) B,J d B→d.length<len→YieldAt Fence.wide (n - 1) Tryz.prog l #[iT (x.1:Nat),u0 x.1] B fun e r =>
  (e=.returned (.bool true)∧J (d++[x]) r∧bQ K B r)∨(e=.returned (.bool false)∧F (d++[x]) r))
 (hKB:K t) (hp0:W.cell? ⟨t,0,none⟩=some (.slice a len m)) (hs:1≤len→∃b o,a=some ⟨b,o,none⟩) (hroom:len≤m) (hbig:m≤maxLen) (hKs:∀k,K k→k<W.heap.size)
 (hV:Ge K W a len u0) (h0:J [] W) :
 CallsIn Fence.wide n Tryz.prog 252 #[.func (.yield l) #[] #[],.pointer (pT t)] W fun e r=>(∃v,e=.returned v) ∧
  ((∃I,I=cq len 0∧J I r)∨(∃d,d <+: cq len 0∧F d r)):=by
 unfold maxLen at hbig;have y:=az hKs;refine callsIn_of_wp Tryz.func252 rfl trivial ?_ rfl;simp only [Tryz.ntmps252,Ir,Hn,Io,Nat.reduceAdd,Nat.reduceSub,IA,IB,IM,IE,Ho,Ht];have Y:IntKind.i64.wrap ((len:Int) - 1)=(len:Int) - 1:=by rw [G4];unfold wrap64;omega
 gi_wp2
 gi_loopw [3] (fun E wr=>∃k:Nat,k≤len∧E=iT ((k:Int) - 1)∧J (cq len k) wr∧bQ K W wr) (fun E _=>(intOf E+1).toNat)
 case atStart=>exact ⟨len,GL _,rfl,by rw [rO];exact h0,bQ.refl _ _⟩
 case round =>
  obtain ⟨k,hk,rfl,s,hb⟩:=hrel;have H:=az hb;have L:=(hb.cell (p:=⟨t,0,none⟩) hKB).trans hp0;have g:=hb.size;have Q:=E' (y.o t hKB) g;cases k with
  | zero =>
   gi_wp2
   go_end0;exact ⟨⟨_,rfl⟩,.inl ⟨_,rfl,s⟩⟩
  | succ j =>
   have U:((j+1:Nat):Int) - 1=(j:Int):=by omega
   rw [U];have R:(j:Int)<(len:Int):=by omega
   have f:j<len:=by omega
   have T:(0:Int)≤(j:Int):=by omega
   have X:IntKind.i64.wrap ((j:Int) - 1)=(j:Int) - 1:=by rw [G4];unfold wrap64;omega
   obtain ⟨b,o,rfl⟩:=hs (by omega);obtain ⟨hKb,A⟩:=hV b o rfl (by omega);have O:=E' (y.o b hKb) g;have N:=A j f;have c0:=(H.o.cell (p:=⟨b,o+j,none⟩) hKb).trans N;obtain ⟨fn,tmps,assign,body,hy,hR⟩:=hY _ ⟨j,f⟩ _ s (by rw [nJ];omega);simp only at hy;gi_wp2
   refine hR.mono ?_;rintro e Z (⟨rfl,C,D⟩ | ⟨rfl,u⟩)
   · gi_wp2
     go_roundw
     case rel=>exact ⟨j,by omega,by go_num,by rw [down_step f];exact C,H.o.trans D⟩
     case measure=>simp [intOf]
   · gi_wp2
     refine bodyPost_ret (results_none rfl _ _ _) rfl ?_;exact ⟨⟨_,rfl⟩,.inr ⟨_,by rw [← down_step f];exact rK _ _,u⟩⟩
theorem D6 (n:Nat) (a:Option Addr) (len b:Nat) (w:World) :
 CallsIn Fence.wide n Tryz.prog 235 #[.slice a len b] w fun e w'=>e=.returned (.func (.func 252) #[] #[.pointer (some ⟨w.heap.size,0,none⟩)]) ∧
  w'=w.alloc (.cells #[.slice a len b] 102):=by
 refine callsIn_of_wp Tryz.func235 rfl trivial ?_ rfl;simp only [Tryz.ntmps235,Ir,Hn,Io,Nat.reduceAdd,Nat.reduceSub,IA,IB,IM,IE,Ho,Ht];gi_wp2
 go_ret;exact ⟨rfl,rfl⟩
theorem xj (n:Nat) (hn:1≤n) (f:Nat) (K:Nat→Prop) (a:Option Addr) (len d:Nat) (u0:Nat→Value) (w:World)
 (hKB:K f) (hp0:w.cell? ⟨f,0,none⟩=some (.slice a len d)) (hs:1≤len→∃b o,a=some ⟨b,o,none⟩) (hroom:len≤d) (hbig:d≤maxLen) (hKs:∀k,K k→k<w.heap.size)
 (hV:Ge K w a len u0) :
 SeqStopsK Fence.wide n Tryz.prog 252 #[.pointer (pT f)] (fun x:Fin len=>#[iT (x.1:Nat),u0 x.1]) (bQ K) (fun s=>s=cq len 0) (fun m=>m <+: cq len 0) len w :=
 fun l J r W g _ _ hY h0=>BL n l f K hn a len d u0 J r W hY hKB (cell_later g hp0) hs hroom hbig (fun k hk=>E' (hKs k hk) g.size) (fun b o e h1=>⟨(hV b o e h1).1,fun i hi=>by exact cell_later g ((hV b o e h1).2 i hi)⟩) h0
def Gd (K:Nat→Prop) (w:World) (a:Option Addr) (len:Nat) (u0 u1:Nat→Value):Prop:=∀b o,a=some ⟨b,o,none⟩→1≤len→K b∧∀i,i<len→w.cell? ⟨b,o+i*2,none⟩=some (u0 i)∧w.cell? ⟨b,o+i*2+1,none⟩=some (u1 i)
theorem BK (n l t:Nat) (K:Nat→Prop) (hn:1≤n) (a:Option Addr) (len m:Nat) (u0 u1:Nat→Value) (J H:List (Fin len)→World→Prop) (W:World)
 (hY:∀d (x:Fin len) C,J d C→d.length<len→YieldAt Fence.wide (n - 1) Tryz.prog l #[iT (x.1:Nat),.agg #[u0 x.1,u1 x.1]] C fun e r =>
  (e=.returned (.bool true)∧J (d++[x]) r∧bQ K C r)∨(e=.returned (.bool false)∧H (d++[x]) r))
 (hKB:K t) (hp0:W.cell? ⟨t,0,none⟩=some (.slice a len m)) (hs:1≤len→∃b o,a=some ⟨b,o,none⟩) (hroom:len≤m) (hbig:m≤maxLen) (hKs:∀k,K k→k<W.heap.size)
 (hV:Gd K W a len u0 u1) (h0:J [] W) :
 CallsIn Fence.wide n Tryz.prog 206 #[.func (.yield l) #[] #[],.pointer (pT t)] W fun e r=>(∃v,e=.returned v) ∧
  ((∃I,I=cq len 0∧J I r)∨(∃d,d <+: cq len 0∧H d r)):=by
 unfold maxLen at hbig;have y:=az hKs;refine callsIn_of_wp Tryz.func206 rfl trivial ?_ rfl;simp only [Tryz.ntmps206,Ir,Hn,Io,Nat.reduceAdd,Nat.reduceSub,IA,IB,IM,IE,Ho,Ht];have Z:IntKind.i64.wrap ((len:Int) - 1)=(len:Int) - 1:=by rw [G4];unfold wrap64;omega
 gi_wp2
 gi_loopw [3] (fun F wr=>∃k:Nat,k≤len∧F=iT ((k:Int) - 1)∧J (cq len k) wr∧bQ K W wr) (fun F _=>(intOf F+1).toNat)
 case atStart=>exact ⟨len,GL _,rfl,by rw [rO];exact h0,bQ.refl _ _⟩
 case round =>
  obtain ⟨k,hk,rfl,s,hb⟩:=hrel;have B:=az hb;have L:=(hb.cell (p:=⟨t,0,none⟩) hKB).trans hp0;have g:=hb.size;have R:=E' (y.o t hKB) g;cases k with
  | zero =>
   gi_wp2
   go_end0;exact ⟨⟨_,rfl⟩,.inl ⟨_,rfl,s⟩⟩
  | succ j =>
   have X:((j+1:Nat):Int) - 1=(j:Int):=by omega
   rw [X];have T:(j:Int)<(len:Int):=by omega
   have f:j<len:=by omega
   have U:(0:Int)≤(j:Int):=by omega
   have Y:IntKind.i64.wrap ((j:Int) - 1)=(j:Int) - 1:=by rw [G4];unfold wrap64;omega
   obtain ⟨b,o,rfl⟩:=hs (by omega);obtain ⟨hKb,A⟩:=hV b o rfl (by omega);have O:=E' (y.o b hKb) g;obtain ⟨N,Q⟩:=A j f;have c0:=(B.o.cell (p:=⟨b,o+j*2,none⟩) hKb).trans N;have c1:=(B.o.cell (p:=⟨b,o+j*2+1,none⟩) hKb).trans Q;obtain ⟨fn,tmps,assign,body,hy,hR⟩:=hY _ ⟨j,f⟩ _ s (by rw [nJ];omega);simp only at hy;gi_wp2
   refine hR.mono ?_;rintro e W3 (⟨rfl,D,E⟩ | ⟨rfl,u⟩)
   · gi_wp2
     go_roundw
     case rel=>exact ⟨j,by omega,by go_num,by rw [down_step f];exact D,B.o.trans E⟩
     case measure=>simp [intOf]
   · gi_wp2
     refine bodyPost_ret (results_none rfl _ _ _) rfl ?_;exact ⟨⟨_,rfl⟩,.inr ⟨_,by rw [← down_step f];exact rK _ _,u⟩⟩
theorem D5 (n:Nat) (a:Option Addr) (len b:Nat) (w:World) :
 CallsIn Fence.wide n Tryz.prog 155 #[.slice a len b] w fun e w'=>e=.returned (.func (.func 206) #[] #[.pointer (some ⟨w.heap.size,0,none⟩)]) ∧
  w'=w.alloc (.cells #[.slice a len b] 61):=by
 refine callsIn_of_wp Tryz.func155 rfl trivial ?_ rfl;simp only [Tryz.ntmps155,Ir,Hn,Io,Nat.reduceAdd,Nat.reduceSub,IA,IB,IM,IE,Ho,Ht];gi_wp2
 go_ret;exact ⟨rfl,rfl⟩
theorem xi (n:Nat) (hn:1≤n) (f:Nat) (K:Nat→Prop) (a:Option Addr) (len d:Nat) (u0 u1:Nat→Value) (w:World)
 (hKB:K f) (hp0:w.cell? ⟨f,0,none⟩=some (.slice a len d)) (hs:1≤len→∃b o,a=some ⟨b,o,none⟩) (hroom:len≤d) (hbig:d≤maxLen) (hKs:∀k,K k→k<w.heap.size)
 (hV:Gd K w a len u0 u1) :
 SeqStopsK Fence.wide n Tryz.prog 206 #[.pointer (pT f)] (fun x:Fin len=>#[iT (x.1:Nat),.agg #[u0 x.1,u1 x.1]]) (bQ K) (fun t=>t=cq len 0) (fun m=>m <+: cq len 0) len w :=
 fun l J s W g _ _ hY h0=>BK n l f K hn a len d u0 u1 J s W hY hKB (cell_later g hp0) hs hroom hbig (fun k hk=>E' (hKs k hk) g.size) (fun b o e h1=>⟨(hV b o e h1).1,fun i hi=>by obtain ⟨u,r⟩:=(hV b o e h1).2 i hi;exact ⟨cell_later g u,cell_later g r⟩⟩) h0
end
def pL (ds:List Nat):List Deferred:=ds.map (fun D=>{ target:=.collected D,args:=#[] })
def dS (base:Nat) (w:World) (ds:List Nat):Prop:=ds.Nodup∧∀D ∈ ds,base≤D∧w.heap[D]?=some (.deferred (some []))
theorem jE {F:Fence} {n base:Nat} {P:Program} {u:Func} {tmps:Array Value} {R:Ending→World→Prop}:∀(m:List Nat) (W:World),dS base W m →
 (∀g,Below base W g→(∀(k:Nat) (o:Obj),W.heap[k]?=some o→o.isCells=true→g.heap[k]?=some o)→LeavesInM F n P u tmps R [] .returning g)→LeavesInM F n P u tmps R (pL m) .returning W
 | [],W,_,h=>h W (Below.refl _ _) (fun _ _ h _=>h)
 | D :: m,W,hm,h=>by
  obtain ⟨d,hD⟩:=hm
  rw [Jr] at d
  have hk:=(hD D (Ha ..)).2
  have hb:=(hD D (Ha ..)).1
  have hB:Below base W (W.putObj D (.deferred none)):=⟨rfl,rfl,rfl,by simp [World.putObj],fun k hk=>World.putObj_heap_other (by omega)⟩
  refine ⟨by simp,.inl ⟨D,_,rfl,run_takeDeferred hk,?_⟩⟩
  refine jE m (W.putObj D (.deferred none)) ⟨d.2,fun r f=>⟨(hD r (He _ f)).1,?_⟩⟩ (fun g s t=>h g (hB.trans s) (fun k o ho hc=>t k o ?_ hc))
  · have b:r≠D:=fun e=>d.1 (e ▸ f)
    exact (World.putObj_heap_other b).trans (hD r (He _ f)).2
  · have b:k≠D:=fun e=>by subst e;rw [hk] at ho;cases ho;cases hc
    exact (World.putObj_heap_other b).trans ho
theorem oJ {B:Nat} {W W':World} {t:TypeId} {v:Value} (h:Below n₀ W W') (hv:Boxed W B t v) (b:Boxed W' B t v):bQ (fun k=>k<n₀∨k=B) W W' :=
 ⟨h.os,h.tape,h.output,h.size,fun k hk=>by
  rcases hk with hk | rfl
  · exact h.block k hk
  · exact (show W'.heap[k]?=_ from b).trans (show W.heap[k]?=_ from hv).symm⟩
theorem tw {β:Type} {b:List Nat} {B:Nat} (hB:∀D ∈ b,D<B):OwnFrom B (fun (_:β) W=>dS base W b):=fun _ X Y row hs hg hr =>
 ⟨hs.1,fun D hD=>⟨(hs.2 D hD).1,by
  have h0:=(hs.2 D hD).2
  refine (hg.block D (Ii.1 h0).1 (fun e=>?_)).trans h0
  have:=(hr D e.symm).1
  have:=hB D hD
  omega⟩⟩
theorem dS.others {ds:List Nat} (h:dS base w ds) (hk:KeepsOthers w w'):dS base w' ds:=⟨h.1,fun D hD=>⟨(h.2 D hD).1,hk.same D _ (h.2 D hD).2 rfl⟩⟩
section
attribute [local go_sem] Ic
def ft (w:World) (vs:List Value) (P:List (List ac)):Prop:=vs.length=P.length∧∀(i:Nat) A,P[i]?=some A→∃s m d,vs[i]?=some (.slice s m d)∧ah w s m d A
theorem ft.one {s:Option Addr} {m d:Nat} {A:List ac} (h:ah w s m d A):ft w [.slice s m d] [A]:=by
 refine ⟨rfl,fun i B hB=>?_⟩;cases i with
 | zero=>simp at hB;subst hB;exact ⟨s,m,d,rfl,h⟩
 | succ i=>simp at hB
theorem ft.append {b:List Value} {d:List (List ac)} (h:ft w vs P) (h':ft w b d):ft w (vs++b) (P++d):=by
 refine ⟨by rw [GO,GO,h.1,h'.1],fun i A hA=>?_⟩;by_cases hi:i<P.length
 · rw [GW hi] at hA;rw [GW (by rw [h.1];exact hi)];exact h.2 i A hA
 · rw [GR (by omega)] at hA;rw [GR (by rw [h.1];omega),h.1];exact h'.2 _ A hA
theorem ft.map {α:Type} {f:α→Value} {g:α→List ac} (h:∀x,∃s m d,f x=.slice s m d∧ah w s m d (g x)) (L:List α):ft w (L.map f) (L.map g):=by
 refine ⟨by simp,fun i A hA=>?_⟩;rw [Iy] at hA ⊢;cases hx:L[i]? with
 | none=>rw [hx] at hA;cases hA
 | some x =>
  rw [hx] at hA;simp at hA;subst hA;obtain ⟨s,m,d,e,hE⟩:=h x;exact ⟨s,m,d,by simp [e],hE⟩
theorem ft.keep (h:ft w vs P) (hb:Bl w w'):ft w' vs P :=
 ⟨h.1,fun i A hA=>by obtain ⟨s,m,d,e,hE⟩:=h.2 i A hA;exact ⟨s,m,d,e,hE.keep hb⟩⟩
theorem rL {α β:Type} (B:List α) (d:α) (f:α→β):(cq B.length 0).map (fun x=>f ((B[x.1]?).getD d))=B.reverse.map f:=by
 unfold cq;rw [List.drop_zero,List.map_reverse,List.map_reverse];congr 1
 apply List.ext_getElem
 · simp
 · intro i h1 h2;simp at h1;simp
theorem Bu {α β:Type} (B:List α) (d:α) (f:α→β) (h:B.length=n):(cq n 0).map (fun x=>f ((B[x.1]?).getD d))=B.reverse.map f:=by
 subst h;exact rL B d f
theorem aw.heads {lo:Nat} {a:Option Addr} {c:Nat} {B:List af} (h:aw lo w a n c B) :
 ∃t:Nat→Option Addr × Nat × Nat,(∀b o,a=some ⟨b,o,none⟩→1≤n→b<w.heap.size∧∀i,i<n→w.cell? ⟨b,o+i*2,none⟩=some (.slice (t i).1 (t i).2.1 (t i).2.2)∧w.cell? ⟨b,o+i*2+1,none⟩=some (iT ((B[i]?).getD ([],0)).2)) ∧
  ∀i,i<n→ah w (t i).1 (t i).2.1 (t i).2.2 ((B[i]?).getD ([],0)).1:=by
 have hl:=h.length;by_cases hn:1≤n
 · obtain ⟨b,o,rfl,hb⟩:=h.form hn;have each:∀i,i<n→∃t:Option Addr × Nat × Nat,w.cell? ⟨b,o+i*2,none⟩=some (.slice t.1 t.2.1 t.2.2)∧w.cell? ⟨b,o+i*2+1,none⟩=some (iT ((B[i]?).getD ([],0)).2)∧ah w t.1 t.2.1 t.2.2 ((B[i]?).getD ([],0)).1:=by
    intro i hi;obtain ⟨_,s,m,d,c0,c1,hE⟩:=h.runs _ rfl i (by omega);refine ⟨(s,m,d),c0,?_,?_⟩
    · rw [j' (by omega:i<B.length)];exact c1
    · rw [j' (by omega:i<B.length)];exact hE.1
   obtain ⟨t,f⟩:=Deep.choose_lt each;refine ⟨t,?_,fun i hi=>(f i hi).2.2⟩;rintro b' g e _;cases e;exact ⟨hb,fun i hi=>⟨(f i hi).1,(f i hi).2.1⟩⟩
 · exact ⟨fun _=>(none,0,0),fun b o e h1=>absurd h1 hn,fun i hi=>absurd hi (by omega)⟩
def lH (M:List ac) (V:List (List af)) (i:Nat):List (List ac):=M :: (V.take i).flatMap (fun B=>B.reverse.map (·.1))
theorem uB {M:List ac} {V:List (List af)} {i:Nat} {B:List af} (h:V[i]?=some B):lH M V (i+1)=lH M V i++B.reverse.map (·.1):=by
 unfold lH;rw [Hc,h];simp
theorem wv (M:List ac) (A B C:List af):lH M [A,B,C] 3=dq M A B C:=by
 unfold lH dq;simp
def zi (w0 w:World) (P:List (List ac)) (e:Ending) (w':World):Prop:=(∃g n c vs,e=.returned (sL g n c)∧w'.ownsRow w.heap.size 28 1 (sL g n c) n vs∧ft w0 vs P)∧Bl w w'
theorem tJ (lo:Nat) (q:Int) (E ak:Option Addr) (F J nk ck:Nat) (a0 a1 a2:Option Addr) (L c0 N c1 n2 c2:Nat) (M:List ac) (A B C:List af) (w0 w:World) (aV:Bl w0 w) (hM:ah w0 E F J M) (h0:aw lo w0 a0 L c0 A) (h1:aw lo w0 a1 N c1 B) (h2:aw lo w0 a2 n2 c2 C) (s0:L≤8) (s1:N≤8) (s2:n2≤8) :
 CallsIn Fence.wide 4 Tryz.prog 94 #[.agg #[iT q,.slice E F J,.slice a0 L c0,.slice a1 N c1,.slice a2 n2 c2,.slice ak nk ck]] w (zi w0 w (dq M A B C)):=by
 have a6:=az aV;have HL:Eq (∀i,i<3→∃I ni H Bi,(∀w',(Instr.index 80 (.agg #[.slice a0 L c0,.slice a1 N c1,.slice a2 n2 c2]) (iT (i:Nat))).run Tryz.prog w'=.ok (.slice I ni H) w')∧aw lo w0 I ni H Bi∧ni≤8∧[A,B,C][i]?=some Bi):=by
  intro i hi;have:i=0∨i=1∨i=2:=by omega
  rcases this with rfl | rfl | rfl
  · exact ⟨a0,L,c0,A,fun w'=>DB w' _ _ _ _ _ _ _ _ _,h0,s0,rfl⟩
  · exact ⟨a1,N,c1,B,fun w'=>DA w' _ _ _ _ _ _ _ _ _,h1,s1,rfl⟩
  · exact ⟨a2,n2,c2,C,fun w'=>Dz w' _ _ _ _ _ _ _ _ _,h2,s2,rfl⟩
 have HM:=az hM;obtain ⟨i0,hi,aM,aZ,aS⟩:=info_parts Tryz.infoEntS;refine callsIn_of_wp_marks Tryz.func94 rfl trivial ?_ rfl;simp only [Tryz.ntmps94,Ir,Hn,Io,Nat.reduceAdd,Nat.reduceSub,IA,IB,IM,IE,Ho,Ht];gi_wp2
 obtain ⟨W0,Q⟩:=aG ((((w.alloc (.cells #[iT q,.slice E F J,.slice a0 L c0,.slice a1 N c1,.slice a2 n2 c2,.slice ak nk ck] 82)).alloc (.cells #[.slice E F J] 28)).alloc (.cells #[sL (w.heap.size+1) 1 1] 102)));have aU:Bl w W0:=by rw [Q];exact (((Below.refl _ w).alloc (GL _) _).alloc (by simp) _).alloc (by simp;omega) _
 have aB:Boxed W0 (w.heap.size+1+1) 102 (sL (w.heap.size+1) 1 1):=by
  have:=Boxed.new ((w.alloc (.cells #[iT q,.slice E F J,.slice a0 L c0,.slice a1 N c1,.slice a2 n2 c2,.slice ak nk ck] 82)).alloc (.cells #[.slice E F J] 28)) 102 (sL (w.heap.size+1) 1 1);rw [GY,GY] at this;rw [Q];exact this
 have aT:W0.ownsRow w.heap.size 28 1 (sL (w.heap.size+1) 1 1) 1 [.slice E F J]:=by
  have:=(Hi (base:=w.heap.size) (e:=28) (size:=1) (w.alloc (.cells #[iT q,.slice E F J,.slice a0 L c0,.slice a1 N c1,.slice a2 n2 c2,.slice ak nk ck] 82)) #[.slice E F J] 1 (by simp) (by unfold maxLen;omega) rfl).alloc (.cells #[sL (w.heap.size+1) 1 1] 102);rw [GY] at this;rw [Q];exact this
 rw [← Q];refine wpIn_loop (fun U W=>∃(i:Nat) (ds:List Nat) (u5 u14 u15 u16 u17 u25:Value) (v:Value) (vs:List Value),U={ tmps:=#[.agg #[iT q,.slice E F J,.slice a0 L c0,.slice a1 N c1,.slice a2 n2 c2,.slice ak nk ck],.pointer (some ⟨w.heap.size,0,none⟩),nZ,.pointer (some ⟨w.heap.size+1+1,0,none⟩),undef,u5,undef,undef,.pointer (some ⟨w.heap.size,1,none⟩),.slice E F J,sL (w.heap.size+1) 1 1,.pointer (some ⟨w.heap.size,2,none⟩),.agg #[.slice a0 L c0,.slice a1 N c1,.slice a2 n2 c2],iT (i:Nat),u14,u15,u16,u17,undef,undef,undef,undef,undef,undef,undef,u25,undef],defers:=pL ds } ∧
  i≤3∧Boxed W (w.heap.size+1+1) 102 v∧W.ownsRow w.heap.size 28 1 v vs.length vs∧ft w0 vs (lH M [A,B,C] i)∧vs.length≤1+8*i∧1≤vs.length∧dS w.heap.size W ds∧Bl w W) (fun U _=>3 - (intOf (U.tmps.getD 13 undef)).toNat) ?_ ?_
 · exact ⟨0,[],undef,undef,undef,undef,undef,undef,_,[.slice E F J],rfl,by omega,aB,aT,ft.one HM.o,by simp,by simp,⟨List.nodup_nil,fun D hD=>by cases hD⟩,aU⟩
 rintro U W ⟨i,ds,u5,u14,u15,u16,u17,u25,v,vs,rfl,bo,bA,hrow,hH,bl,hv1,hmk,hB⟩;have HH:=az hH;have a4:=az hmk;have HB:=az hB;have aI:=hB.size;by_cases aL:i<3
 · have b7:(i:Int)<3:=by omega
   have wi:IntKind.i64.wrap ((i:Int)+1)=((i+1:Nat):Int):=by rw [G4];unfold wrap64;omega
   obtain ⟨I,ni,H,Bi,b4,aK,bi,aF⟩:=HL.o i aL;have HR:=az aK;have HV:=az aF;gi_wp2_with (refine ⟨trivial,?_⟩;gi_at_call 155;refine (D5 _ _ _ _ _).mono ?_;rintro e w' ⟨rfl,rfl⟩)
   obtain ⟨t,ht1,ht2⟩:=HR.o.heads;have bP:=Boxed.new W 61 (.slice I ni H);have ag:Bl w (W.alloc (.cells #[.slice I ni H] 61)):=HB.o.alloc aI _;have R:=a6.o.trans (ag.mono a6.o.size);have aY:=bA.alloc (.cells #[.slice I ni H] 61);have a5:=hrow.alloc (.cells #[.slice I ni H] 61);have au:=a4.o.others (KeepsOthers.alloc W (.cells #[.slice I ni H] 61));have T:∀D ∈ ds,D<W.heap.size:=fun D hD=>(Ii.1 (a4.o.2 D hD).2).1
   have bd:=bA.lt;have aH:=az ht2;have ax:=az T;refine wpIn_rangeFunc_ownH rfl (by omega) (gf:=206) (lb:=#[.pointer (some ⟨W.heap.size,0,none⟩)]) rfl trivial (enters_of Tryz.func206 (by kernel_rfl) rfl)
    (xi (4 - 1) (by omega) W.heap.size (fun k=>k<w.heap.size∨k=W.heap.size) I ni H (fun i=>.slice (t i).1 (t i).2.1 (t i).2.2) (fun i=>iT ((Bi[i]?).getD ([],0)).2) _ (.inr rfl) bP.cell (fun h=>by obtain ⟨b,o,e,_⟩:=HR.o.form h;exact ⟨b,o,e⟩) HR.o.room HR.o.big (fun k hk=>by simp;omega) (fun b o e h1=>⟨.inl (E' (ht1 b o e h1).1 a6.o.size),fun i hi=>⟨cell_later R ((ht1 b o e h1).2 i hi).1,cell_later R ((ht1 b o e h1).2 i hi).2⟩⟩))
    bQ.trans (pP (fun k hk=>by simp;omega)) (Below.refl _ _) (fun _=>rfl)
    (fun f Z=>(∃v',Boxed Z (w.heap.size+1+1) 102 v'∧Z.ownsRow w.heap.size 28 1 v' (vs.length+f.length) (vs++f.map (fun x=>Value.slice (t x.1).1 (t x.1).2.1 (t x.1).2.2))∧True)∧(Boxed Z W.heap.size 61 (.slice I ni H)∧(Bl w Z∧dS w.heap.size Z ds)))
    (fun _ _ _=>False)
    (OwnFrom.and (Own.from (holdsRow_own w.heap.size (w.heap.size+1+1) 102 28 1 (fun f:List (Fin ni)=>vs.length+f.length) (fun f=>vs++f.map (fun x=>Value.slice (t x.1).1 (t x.1).2.1 (t x.1).2.2)) (fun _ _=>True)) _) (OwnFrom.and (Own.from (boxed_own _ _ _) _) (OwnFrom.and (ownFrom_below (GL _) (by simp;omega)) (tw (fun D hD=>by have:=T D hD;simp;omega)))))
    (fun _ _ _ _ _ hs _ _=>hs)
    ⟨⟨v,aY,by simpa using a5,trivial⟩,bP,ag,au⟩
    (fun x U Z=>∃Bx,w.heap.size+1+1<Bx∧Z.cell? ⟨Bx,0,none⟩=some (.slice (t x.1).1 (t x.1).2.1 (t x.1).2.2)∧U={ tmps:=#[.agg #[iT q,.slice E F J,.slice a0 L c0,.slice a1 N c1,.slice a2 n2 c2,.slice ak nk ck],.pointer (some ⟨w.heap.size,0,none⟩),nZ,.pointer (some ⟨w.heap.size+1+1,0,none⟩),undef,.slice I ni H,undef,.pointer (pT Bx),.pointer (some ⟨w.heap.size,1,none⟩),.slice E F J,sL (w.heap.size+1) 1 1,.pointer (some ⟨w.heap.size,2,none⟩),.agg #[.slice a0 L c0,.slice a1 N c1,.slice a2 n2 c2],iT (i:Nat),.bool true,.slice I ni H,.slice I ni H,.func (.func 206) #[] #[.pointer (some ⟨W.heap.size,0,none⟩)],iT (x.1:Nat),.agg #[.slice (t x.1).1 (t x.1).2.1 (t x.1).2.2,iT ((Bi[x.1]?).getD ([],0)).2],undef,undef,undef,undef,undef,u25,undef],defers:=[] })
    (fun x U _ X Y row hs hg hr=>by obtain ⟨Bx,h1,h2,h3⟩:=hs;exact ⟨Bx,h1,cell_kept h2 hg (fun r e=>(hr r e).2),h3⟩)
    ?assign ?body ?done ?stop
   case assign =>
    rintro l f x W2 K ⟨⟨v2,y,d,_⟩,u,s,m⟩ hK;have ay:=y.lt;gi_wp2
    exact hK _ _ ((KeepsOthers.alloc _ _).from _) (oJ ((Below.refl _ W2).alloc s.size _) u (u.alloc _)) ⟨⟨v2,y.alloc _,d.alloc _,trivial⟩,u.alloc _,s.alloc s.size _,m.others (KeepsOthers.alloc _ _)⟩ ⟨W2.heap.size,ay,by simp,rfl⟩
   case body =>
    rintro l f x U W2 hl _ ⟨⟨v2,y,d,_⟩,u,s,m⟩ ⟨Bx,bk,cx,rfl⟩ be;have cA:=y.cell;have aj:=az m;have aP:=az s;have aE:=s.size;gi_wp2_with (gi_at_builtin;refine wpListIn_append_own _ rfl _ _ 102 rfl w.heap.size 28 i0 nZ 1 24 Tryz.underlying102 hi aM aZ aS rfl (by decide) _ _ _ rfl (d.alloc _) ⟨W2.heap.size,0,none⟩ 1 1 [Value.slice (t x.1).1 (t x.1).2.1 (t x.1).2.2] rfl rfl (cell_one_new _ _ _) (by simp [Value.oneCell']) (by unfold maxLen;omega) (by omega) (by simp;omega) ?_;intro v' w1 O hgrow _;obtain ⟨g',an,rfl⟩:=ownsRow_succ O;obtain ⟨hv1,hv2,aC,al,ao⟩:=y.appended (by decide) d aE (by omega) O hgrow;have br:=hv1.cell;have bp:=hv1.frozen)
    have ar:Boxed (w1.setCell ⟨w.heap.size+1+1,0,none⟩ (sL g' (vs.length+f.length+1) an)) W.heap.size 61 (.slice I ni H):=((u.alloc _).kept hgrow (u.not_row (by decide) d)).other (by omega) _;refine ⟨al.from _,oJ ao u ar,⟨⟨_,hv2,?_,trivial⟩,ar,aP.o.trans ao,aj.o.others al⟩⟩;rw [Iw,GO,← Hd];exact aC
   case done =>
    rintro D xs W2 hD rfl ⟨⟨v2,y,d,_⟩,u,s,m⟩ hK;gi_wp2
    have aW:=Bu Bi ([],0) (·.1) HR.o.length;have aQ:(cq ni 0).length=ni:=by rw [nJ];rfl
    refine ⟨⟨i+1,D :: ds,_,_,_,_,_,_,v2,vs++(cq ni 0).map (fun x=>Value.slice (t x.1).1 (t x.1).2.1 (t x.1).2.2),rfl,by omega,y,?_,?_,?_,?_,?_,s⟩,?_⟩
    · rw [GO,Id];exact d
    · rw [uB HV.o,← aW];exact HH.o.append (ft.map (α:=Fin ni) (fun x=>⟨_,_,_,rfl,aH.o x.1 x.2⟩) _)
    · rw [GO,Id,aQ];omega
    · rw [GO];omega
    · simp at hD;refine ⟨Jr.2 ⟨fun h=>by have:=ax.o D h;omega,m.1⟩,fun D' b2=>?_⟩;rcases GZ.1 b2 with rfl | h
      · exact ⟨by omega,hK⟩
      · exact m.2 D' h
    · simp [intOf];omega
   case stop =>
    rintro D c f W2 _ _ h _;exact h.elim
 · have hi:i=3:=by omega
   subst hi;obtain ⟨n',aO⟩:∃n',vs.length=n'+1:=⟨vs.length - 1,by omega⟩;rw [aO] at hrow;obtain ⟨g,c,rfl⟩:=ownsRow_succ hrow;have cA:=bA.cell;gi_wp2
   refine jE ds W a4.o (fun Z aR aN=>?_);refine ⟨_,results_tmp rfl _ _ _,⟨g,n'+1,c,vs,rfl,?_,?_⟩,HB.o.trans aR⟩
   · refine ⟨hrow.1,?_⟩;rcases hrow.2 with hn | ⟨g1,aq,ap,e1,b1,b0,rest⟩
     · exact .inl hn
     · exact .inr ⟨g1,aq,ap,e1,b1,aN g1 _ b0 rfl,rest⟩
   · rw [← wv];exact HH.o
end
end Go.Proofs.YtpobkmjicbobdaaGreat
