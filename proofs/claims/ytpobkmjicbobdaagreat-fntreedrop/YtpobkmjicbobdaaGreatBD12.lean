/- Walks. -/
import Derived.Test.YtpobkmjicbobdaaGreatBD11
import Derived.RangeFuncNested
import Derived.RangeFuncBound
import Derived.RangeFuncCalls
import Derived.RangeFuncLeaves
import Derived.RangeFuncBox
import Derived.Shelf.Abstract
import Derived.Shelf.RegionOpen
import Derived.OwnWalkIn
import Derived.TacticsInMore
import Derived.LoopNIn
import Derived.LoopIn
import Derived.Maps.OwnIn
namespace Go.Proofs.YtpobkmjicbobdaaGreat
set_option maxRecDepth 100000
set_option maxHeartbeats 40000000
open Go.RowKit Go.Shelf
variable {M:List ac} {P:List (List ac)} {S:List Int} {V:List (List af)} {ak am av:Option Addr} {base hi lo lo' n nm ns nv n₀:Nat} {bs gs:Nat→Nat} {es:Nat→Nat→Nat} {vs:List Value} {w w':World}
def Fp (e:ac):Prop:=e.1.size≤281474976710656∧e.2.2.2.1.size≤281474976710656
def Bn (B:List af):Nat:=(B.map fun p=>p.1.length).sum
def E3 (V:List (List af)):Nat:=(V.map fun B=>Bn B+B.length).sum
def FU (B:List af):Prop:=∀p ∈ B,∀e ∈ p.1,Fp e
theorem bn.lowR {d b cs:Nat} (h:bn lo w am nm d av nv b ak ns cs M V S) (hl:lo'≤lo):bn lo' w am nm d av nv b ak ns cs M V S:=⟨h.mem.mono hl,h.levels.mono hl,h.snaps.lower hl⟩
theorem f6.levelsIn {G:Nat} (h:f6 lo hi w G n V gs bs es):cC lo w (pT G) n n V:=by
 obtain ⟨xs,d,r2⟩:=h.row;have b:=cy d;have hl:=h.len;refine ⟨h.len,b.1,b.2,(fun e=>by cases e),?_,?_⟩
 · rintro x e _;cases e;exact ⟨(d.lt G rfl).2,rfl,(d.lt G rfl).1⟩
 · rintro x e i hi;cases e;have hp:=j' hi;have u:=h.up 0 i (by omega) (by omega);refine ⟨_,_,_,?_,(h.levs i _ hp).runsIn.mono (by have:=h.bot.1;omega)⟩;simp only [Gp];exact (d.cellAt _ (by omega)).trans (r2 i _ hp)
theorem fe.treeIn {b1 b2 b3:Nat} (h:fe lo hi w b1 nm b2 nv b3 ns M V S gs bs es) (hw:∀z ∈ S,(Lit.int .i64 z).wf=true):bn 0 w (pT b1) nm nm (pT b2) nv nv (pT b3) ns ns M V S:=by
 have b:=cy h.sn.2;have hl:=h.sn.1;refine ⟨⟨h.mem.entsAt,fun x e _=>Gl _⟩,h.levs.levelsIn.mono (Gl _),⟨hl,b.1,b.2,hw,(fun e=>by cases e),?_,?_⟩⟩
 · rintro x e _;cases e;exact ⟨(h.sn.2.lt b3 rfl).2,rfl,Gl _⟩
 · rintro x e i hi;cases e;simp only [Gp];have h1:=h.sn.2.cellAt i (by omega);rw [Id,j' hi] at h1;exact h1
def oy (lo hi:Nat) (w:World) (am:Option Addr) (nm:Nat) (av:Option Addr) (nv:Nat) (ak:Option Addr) (ns:Nat) (M:List ac) (V:List (List af)) (S:List Int) (gs bs:Nat→Nat) (es:Nat→Nat→Nat):Prop :=
 (∃b1 b2 b3,am=some ⟨b1,0,none⟩∧av=some ⟨b2,0,none⟩∧ak=some ⟨b3,0,none⟩∧fe lo hi w b1 nm b2 nv b3 ns M V S gs bs es)∨(am=none∧av=none∧ak=none∧nm=0∧nv=0∧ns=0∧M=[]∧V=[]∧S=[])
theorem oy.below (h:oy lo hi w am nm av nv ak ns M V S gs bs es) (hb:Bl w w'):oy lo hi w' am nm av nv ak ns M V S gs bs es:=by
 rcases h with ⟨b1,b2,b3,h1,h2,h3,h4⟩ | h
 · exact .inl ⟨b1,b2,b3,h1,h2,h3,h4.below hb⟩
 · exact .inr h
theorem oy.keepO {hi':Nat} (h:oy lo hi w am nm av nv ak ns M V S gs bs es) (k:dy lo' hi' w w') (hd:hi'≤lo):oy lo hi w' am nm av nv ak ns M V S gs bs es:=by
 rcases h with ⟨b1,b2,b3,h1,h2,h3,h4⟩ | h
 · exact .inl ⟨b1,b2,b3,h1,h2,h3,h4.keepO k hd⟩
 · exact .inr h
theorem pB (lo:Nat) (w:World):bn lo w none 0 0 none 0 0 none 0 0 [] [] [] :=
 ⟨⟨⟨rfl,Gg _,Gl _,(fun e b=>by cases b),fun _=>rfl,(fun x e=>by cases e),(fun x e=>by cases e)⟩,fun x e=>by cases e⟩,⟨rfl,Gg _,Gl _,fun _=>rfl,(fun x e=>by cases e),(fun x e=>by cases e)⟩,⟨rfl,Gg _,Gl _,(fun z hz=>by cases hz),fun _=>rfl,(fun x e=>by cases e),(fun x e=>by cases e)⟩⟩
theorem oy.treeIn (h:oy lo hi w am nm av nv ak ns M V S gs bs es) (hw:∀z ∈ S,(Lit.int .i64 z).wf=true):bn 0 w am nm nm av nv nv ak ns ns M V S:=by
 rcases h with ⟨b1,b2,b3,rfl,rfl,rfl,h4⟩ | ⟨rfl,rfl,rfl,rfl,rfl,rfl,rfl,rfl,rfl⟩
 · exact h4.treeIn hw
 · exact pB 0 w
def DS (q:Int) (M:List ac) (V:List (List af)) (S:List Int) (ok:Bool) (w:World) (e:Ending) (w':World):Prop :=
 ∃am nm cm av nv cv ak ns cs,e=.returned (.tuple #[.agg #[iT q,.slice am nm cm,.slice av nv cv,.slice ak ns cs],.bool ok])∧bn 0 w' am nm cm av nv cv ak ns cs M V S∧Bl w w'
def pf (q:Int) (M:List ac) (V:List (List af)) (S:List Int) (ok:Bool) (w:World) (e:Ending) (w':World):Prop :=
 ∃am nm av nv ak ns gs bs es,e=.returned (.tuple #[.agg #[iT q,.slice am nm nm,.slice av nv nv,.slice ak ns ns],.bool ok])∧oy w.heap.size w'.heap.size w' am nm av nv ak ns M V S gs bs es∧Bl w w'
structure bJ (K:Nat→Prop) (w w':World):Prop where
 os:w'.os=w.os
 tape:w'.tape=w.tape
 output:w'.output=w.output
 size:w.heap.size≤w'.heap.size
 block:∀k,K k→w'.heap[k]?=w.heap[k]?
theorem bJ.of {K:Nat→Prop} (h:Below n₀ w w') (hK:∀k,K k→k<n₀):bJ K w w':=⟨h.os,h.tape,h.output,h.size,fun k hk=>h.block k (hK k hk)⟩
theorem bJ.refl (K:Nat→Prop) (w:World):bJ K w w:=⟨rfl,rfl,rfl,Gg _,fun _ _=>rfl⟩
theorem bJ.trans {K:Nat→Prop} {a b c:World} (h:bJ K a b) (k:bJ K b c):bJ K a c :=
 ⟨k.os.trans h.os,k.tape.trans h.tape,k.output.trans h.output,Gq h.size k.size,fun i hi=>(k.block i hi).trans (h.block i hi)⟩
theorem bJ.cell {K:Nat→Prop} (h:bJ K w w') {p:Addr} (hp:K p.block):w'.cell? p=w.cell? p:=G8 (w:=w) (h.block p.block hp)
theorem bJ.grown {K:Nat→Prop} {row:Option Nat} (hg:w.grownBy w' row) (hK:∀k,K k→k<w.heap.size∧some k≠row):bJ K w w':=⟨hg.os,hg.tape,hg.output,hg.size,fun k hk=>hg.block k (hK k hk).1 (hK k hk).2⟩
theorem pr {K:Nat→Prop} (hK:∀k,K k→k<w.heap.size) (W:World) (l:Nat) (o b:Obj) (hl:w.heap.size≤l) (h:W.heap[l]?=some o) (hc:o.isCells=false) (hw:o.isWalk=false):bJ K W (W.putObj l b) :=
 bJ.of (belowK_b (n₀:=w.heap.size) (w:=w) (Gg _) W l o b hl h hc hw) hK
theorem aj.keepS {K:Nat→Prop} {a:Option Addr} {len b:Nat} {L:List ac} (h:aj w a len b L) (hk:bJ K w w') (hK:∀x,a=some x→0<len→K x.block):aj w' a len b L :=
 h.moved hk.size (fun x e hp o=>hk.cell (p:=⟨x.block,o,none⟩) (hK x e hp))
section
attribute [local go_sem] Hc
def ch (n k:Nat):List (Fin n):=((List.finRange n).drop k).reverse
theorem qU (n:Nat):ch n n=[]:=by simp [ch]
theorem down_step {k:Nat} (h:k<n):ch n k=ch n (k+1)++[⟨k,h⟩]:=by
 unfold ch;rw [He (by simpa using h)];simp
theorem qS (n k:Nat):ch n k <+: ch n 0:=by
 unfold ch;rw [List.drop_zero];exact List.reverse_prefix.2 (List.drop_suffix _ _)
theorem mN (n k:Nat):(ch n k).length=n - k:=by simp [ch]
def FN (K:Nat→Prop) (w:World) (a:Option Addr) (len:Nat) (u0 u1 u2 u3 u4:Nat→Value):Prop:=∀b o,a=some ⟨b,o,none⟩→1≤len→K b∧∀i,i<len→w.cell? ⟨b,o+i*5,none⟩=some (u0 i)∧w.cell? ⟨b,o+i*5+1,none⟩=some (u1 i)∧w.cell? ⟨b,o+i*5+2,none⟩=some (u2 i)∧w.cell? ⟨b,o+i*5+3,none⟩=some (u3 i)∧w.cell? ⟨b,o+i*5+4,none⟩=some (u4 i)
theorem Be (n l t:Nat) (K:Nat→Prop) (hn:1≤n) (a:Option Addr) (len m:Nat) (u0 u1 u2 u3 u4:Nat→Value) (J H:List (Fin len)→World→Prop) (W:World)
 (hY:∀d (x:Fin len) E,J d E→d.length<len→YieldAt Fence.wide (n - 1) Tryz.prog l #[iT (x.1:Nat),.agg #[u0 x.1,u1 x.1,u2 x.1,u3 x.1,u4 x.1]] E fun e r =>
  (e=.returned (.bool true)∧J (d++[x]) r∧bJ K E r)∨(e=.returned (.bool false)∧H (d++[x]) r))
 (hKB:K t) (hp0:W.cell? ⟨t,0,none⟩=some (.slice a len m)) (hs:1≤len→∃b o,a=some ⟨b,o,none⟩) (hroom:len≤m) (hbig:m≤maxLen) (hKs:∀k,K k→k<W.heap.size)
 (hV:FN K W a len u0 u1 u2 u3 u4) (h0:J [] W) :
 CallsIn Fence.wide n Tryz.prog 228 #[.func (.yield l) #[] #[],.pointer (pT t)] W fun e r=>(∃v,e=.returned v) ∧
  ((∃I,I=ch len 0∧J I r)∨(∃d,d <+: ch len 0∧H d r)):=by
 unfold maxLen at hbig;have y:=az hKs;refine callsIn_of_wp Tryz.func228 rfl trivial ?_ rfl;simp only [Tryz.ntmps228,Hu,GR,Hp,Nat.reduceAdd,Nat.reduceSub,H7,H8,Ii,Ib,GU,GY];have wl:IntKind.i64.wrap ((len:Int) - 1)=(len:Int) - 1:=by rw [GB];unfold wrap64;omega
 gi_wp2
 gi_loopw [3] (fun C wr=>∃k:Nat,k≤len∧C=iT ((k:Int) - 1)∧J (ch len k) wr∧bJ K W wr) (fun C _=>(intOf C+1).toNat)
 case atStart=>exact ⟨len,Gg _,rfl,by rw [qU];exact h0,bJ.refl _ _⟩
 case round =>
  obtain ⟨k,hk,rfl,A,hb⟩:=hrel;have s:=az hb;have R:=(hb.cell (p:=⟨t,0,none⟩) hKB).trans hp0;have g:=hb.size;have Z:=E' (y.o t hKB) g;cases k with
  | zero =>
   gi_wp2
   go_end0;exact ⟨⟨_,rfl⟩,.inl ⟨_,rfl,A⟩⟩
  | succ j =>
   have Q:((j+1:Nat):Int) - 1=(j:Int):=by omega
   rw [Q];have N:(j:Int)<(len:Int):=by omega
   have f:j<len:=by omega
   have O:(0:Int)≤(j:Int):=by omega
   have wj:IntKind.i64.wrap ((j:Int) - 1)=(j:Int) - 1:=by rw [GB];unfold wrap64;omega
   obtain ⟨b,o,rfl⟩:=hs (by omega);obtain ⟨hKb,D⟩:=hV b o rfl (by omega);have X:=E' (y.o b hKb) g;obtain ⟨U,Y,T,g3,L⟩:=D j f;have c0:=(s.o.cell (p:=⟨b,o+j*5,none⟩) hKb).trans U;have c1:=(s.o.cell (p:=⟨b,o+j*5+1,none⟩) hKb).trans Y;have c2:=(s.o.cell (p:=⟨b,o+j*5+2,none⟩) hKb).trans T;have c3:=(s.o.cell (p:=⟨b,o+j*5+3,none⟩) hKb).trans g3;have c4:=(s.o.cell (p:=⟨b,o+j*5+4,none⟩) hKb).trans L;obtain ⟨fn,tmps,assign,body,hy,hR⟩:=hY _ ⟨j,f⟩ _ A (by rw [mN];omega);simp only at hy;gi_wp2
   refine hR.mono ?_;rintro e W3 (⟨rfl,F,B⟩ | ⟨rfl,u⟩)
   · gi_wp2
     go_roundw
     case rel=>exact ⟨j,by omega,by go_num,by rw [down_step f];exact F,s.o.trans B⟩
     case measure=>simp [intOf]
   · gi_wp2
     refine bodyPost_ret (results_none rfl _ _ _) rfl ?_;exact ⟨⟨_,rfl⟩,.inr ⟨_,by rw [← down_step f];exact qS _ _,u⟩⟩
theorem DG (n:Nat) (a:Option Addr) (len b:Nat) (w:World) :
 CallsIn Fence.wide n Tryz.prog 191 #[.slice a len b] w fun e w'=>e=.returned (.func (.func 228) #[] #[.pointer (some ⟨w.heap.size,0,none⟩)]) ∧
  w'=w.alloc (.cells #[.slice a len b] 28):=by
 refine callsIn_of_wp Tryz.func191 rfl trivial ?_ rfl;simp only [Tryz.ntmps191,Hu,GR,Hp,Nat.reduceAdd,Nat.reduceSub,H7,H8,Ii,Ib,GU,GY];gi_wp2
 go_ret;exact ⟨rfl,rfl⟩
theorem wE (n:Nat) (hn:1≤n) (g:Nat) (K:Nat→Prop) (a:Option Addr) (len d:Nat) (u0 u1 u2 u3 u4:Nat→Value) (w:World)
 (hKB:K g) (hp0:w.cell? ⟨g,0,none⟩=some (.slice a len d)) (hs:1≤len→∃b o,a=some ⟨b,o,none⟩) (hroom:len≤d) (hbig:d≤maxLen) (hKs:∀k,K k→k<w.heap.size)
 (hV:FN K w a len u0 u1 u2 u3 u4) :
 SeqStopsK Fence.wide n Tryz.prog 228 #[.pointer (pT g)] (fun x:Fin len=>#[iT (x.1:Nat),.agg #[u0 x.1,u1 x.1,u2 x.1,u3 x.1,u4 x.1]]) (bJ K) (fun A=>A=ch len 0) (fun m=>m <+: ch len 0) len w :=
 fun l J r W f _ _ hY h0=>Be n l g K hn a len d u0 u1 u2 u3 u4 J r W hY hKB (cell_later f hp0) hs hroom hbig (fun k hk=>E' (hKs k hk) f.size) (fun b o e h1=>⟨(hV b o e h1).1,fun i hi=>by obtain ⟨t,y,s,B,u⟩:=(hV b o e h1).2 i hi;exact ⟨cell_later f t,cell_later f y,cell_later f s,cell_later f B,cell_later f u⟩⟩) h0
end
section
attribute [local go_sem] Hc
def FM (K:Nat→Prop) (w:World) (a:Option Addr) (len:Nat) (u0:Nat→Value):Prop:=∀b o,a=some ⟨b,o,none⟩→1≤len→K b∧∀i,i<len→w.cell? ⟨b,o+i,none⟩=some (u0 i)
theorem Bd (n l t:Nat) (K:Nat→Prop) (hn:1≤n) (a:Option Addr) (len m:Nat) (u0:Nat→Value) (J F:List (Fin len)→World→Prop) (W:World)
 (hY:∀d (x:Fin len) B,J d B→d.length<len→YieldAt Fence.wide (n - 1) Tryz.prog l #[iT (x.1:Nat),u0 x.1] B fun e r =>
  (e=.returned (.bool true)∧J (d++[x]) r∧bJ K B r)∨(e=.returned (.bool false)∧F (d++[x]) r))
 (hKB:K t) (hp0:W.cell? ⟨t,0,none⟩=some (.slice a len m)) (hs:1≤len→∃b o,a=some ⟨b,o,none⟩) (hroom:len≤m) (hbig:m≤maxLen) (hKs:∀k,K k→k<W.heap.size)
 (hV:FM K W a len u0) (h0:J [] W) :
 CallsIn Fence.wide n Tryz.prog 252 #[.func (.yield l) #[] #[],.pointer (pT t)] W fun e r=>(∃v,e=.returned v) ∧
  ((∃I,I=ch len 0∧J I r)∨(∃d,d <+: ch len 0∧F d r)):=by
 unfold maxLen at hbig;have y:=az hKs;refine callsIn_of_wp Tryz.func252 rfl trivial ?_ rfl;simp only [Tryz.ntmps252,Hu,GR,Hp,Nat.reduceAdd,Nat.reduceSub,H7,H8,Ii,Ib,GU,GY];have Y:IntKind.i64.wrap ((len:Int) - 1)=(len:Int) - 1:=by rw [GB];unfold wrap64;omega
 gi_wp2
 gi_loopw [3] (fun E wr=>∃k:Nat,k≤len∧E=iT ((k:Int) - 1)∧J (ch len k) wr∧bJ K W wr) (fun E _=>(intOf E+1).toNat)
 case atStart=>exact ⟨len,Gg _,rfl,by rw [qU];exact h0,bJ.refl _ _⟩
 case round =>
  obtain ⟨k,hk,rfl,s,hb⟩:=hrel;have H:=az hb;have L:=(hb.cell (p:=⟨t,0,none⟩) hKB).trans hp0;have g:=hb.size;have Q:=E' (y.o t hKB) g;cases k with
  | zero =>
   gi_wp2
   go_end0;exact ⟨⟨_,rfl⟩,.inl ⟨_,rfl,s⟩⟩
  | succ j =>
   have U:((j+1:Nat):Int) - 1=(j:Int):=by omega
   rw [U];have R:(j:Int)<(len:Int):=by omega
   have f:j<len:=by omega
   have T:(0:Int)≤(j:Int):=by omega
   have X:IntKind.i64.wrap ((j:Int) - 1)=(j:Int) - 1:=by rw [GB];unfold wrap64;omega
   obtain ⟨b,o,rfl⟩:=hs (by omega);obtain ⟨hKb,A⟩:=hV b o rfl (by omega);have O:=E' (y.o b hKb) g;have N:=A j f;have c0:=(H.o.cell (p:=⟨b,o+j,none⟩) hKb).trans N;obtain ⟨fn,tmps,assign,body,hy,hR⟩:=hY _ ⟨j,f⟩ _ s (by rw [mN];omega);simp only at hy;gi_wp2
   refine hR.mono ?_;rintro e Z (⟨rfl,C,D⟩ | ⟨rfl,u⟩)
   · gi_wp2
     go_roundw
     case rel=>exact ⟨j,by omega,by go_num,by rw [down_step f];exact C,H.o.trans D⟩
     case measure=>simp [intOf]
   · gi_wp2
     refine bodyPost_ret (results_none rfl _ _ _) rfl ?_;exact ⟨⟨_,rfl⟩,.inr ⟨_,by rw [← down_step f];exact qS _ _,u⟩⟩
theorem DF (n:Nat) (a:Option Addr) (len b:Nat) (w:World) :
 CallsIn Fence.wide n Tryz.prog 235 #[.slice a len b] w fun e w'=>e=.returned (.func (.func 252) #[] #[.pointer (some ⟨w.heap.size,0,none⟩)]) ∧
  w'=w.alloc (.cells #[.slice a len b] 102):=by
 refine callsIn_of_wp Tryz.func235 rfl trivial ?_ rfl;simp only [Tryz.ntmps235,Hu,GR,Hp,Nat.reduceAdd,Nat.reduceSub,H7,H8,Ii,Ib,GU,GY];gi_wp2
 go_ret;exact ⟨rfl,rfl⟩
theorem wy (n:Nat) (hn:1≤n) (f:Nat) (K:Nat→Prop) (a:Option Addr) (len d:Nat) (u0:Nat→Value) (w:World)
 (hKB:K f) (hp0:w.cell? ⟨f,0,none⟩=some (.slice a len d)) (hs:1≤len→∃b o,a=some ⟨b,o,none⟩) (hroom:len≤d) (hbig:d≤maxLen) (hKs:∀k,K k→k<w.heap.size)
 (hV:FM K w a len u0) :
 SeqStopsK Fence.wide n Tryz.prog 252 #[.pointer (pT f)] (fun x:Fin len=>#[iT (x.1:Nat),u0 x.1]) (bJ K) (fun s=>s=ch len 0) (fun m=>m <+: ch len 0) len w :=
 fun l J r W g _ _ hY h0=>Bd n l f K hn a len d u0 J r W hY hKB (cell_later g hp0) hs hroom hbig (fun k hk=>E' (hKs k hk) g.size) (fun b o e h1=>⟨(hV b o e h1).1,fun i hi=>by exact cell_later g ((hV b o e h1).2 i hi)⟩) h0
def FL (K:Nat→Prop) (w:World) (a:Option Addr) (len:Nat) (u0 u1:Nat→Value):Prop:=∀b o,a=some ⟨b,o,none⟩→1≤len→K b∧∀i,i<len→w.cell? ⟨b,o+i*2,none⟩=some (u0 i)∧w.cell? ⟨b,o+i*2+1,none⟩=some (u1 i)
theorem Bc (n l t:Nat) (K:Nat→Prop) (hn:1≤n) (a:Option Addr) (len m:Nat) (u0 u1:Nat→Value) (J H:List (Fin len)→World→Prop) (W:World)
 (hY:∀d (x:Fin len) C,J d C→d.length<len→YieldAt Fence.wide (n - 1) Tryz.prog l #[iT (x.1:Nat),.agg #[u0 x.1,u1 x.1]] C fun e r =>
  (e=.returned (.bool true)∧J (d++[x]) r∧bJ K C r)∨(e=.returned (.bool false)∧H (d++[x]) r))
 (hKB:K t) (hp0:W.cell? ⟨t,0,none⟩=some (.slice a len m)) (hs:1≤len→∃b o,a=some ⟨b,o,none⟩) (hroom:len≤m) (hbig:m≤maxLen) (hKs:∀k,K k→k<W.heap.size)
 (hV:FL K W a len u0 u1) (h0:J [] W) :
 CallsIn Fence.wide n Tryz.prog 206 #[.func (.yield l) #[] #[],.pointer (pT t)] W fun e r=>(∃v,e=.returned v) ∧
  ((∃I,I=ch len 0∧J I r)∨(∃d,d <+: ch len 0∧H d r)):=by
 unfold maxLen at hbig;have y:=az hKs;refine callsIn_of_wp Tryz.func206 rfl trivial ?_ rfl;simp only [Tryz.ntmps206,Hu,GR,Hp,Nat.reduceAdd,Nat.reduceSub,H7,H8,Ii,Ib,GU,GY];have Z:IntKind.i64.wrap ((len:Int) - 1)=(len:Int) - 1:=by rw [GB];unfold wrap64;omega
 gi_wp2
 gi_loopw [3] (fun F wr=>∃k:Nat,k≤len∧F=iT ((k:Int) - 1)∧J (ch len k) wr∧bJ K W wr) (fun F _=>(intOf F+1).toNat)
 case atStart=>exact ⟨len,Gg _,rfl,by rw [qU];exact h0,bJ.refl _ _⟩
 case round =>
  obtain ⟨k,hk,rfl,s,hb⟩:=hrel;have B:=az hb;have L:=(hb.cell (p:=⟨t,0,none⟩) hKB).trans hp0;have g:=hb.size;have R:=E' (y.o t hKB) g;cases k with
  | zero =>
   gi_wp2
   go_end0;exact ⟨⟨_,rfl⟩,.inl ⟨_,rfl,s⟩⟩
  | succ j =>
   have X:((j+1:Nat):Int) - 1=(j:Int):=by omega
   rw [X];have T:(j:Int)<(len:Int):=by omega
   have f:j<len:=by omega
   have U:(0:Int)≤(j:Int):=by omega
   have Y:IntKind.i64.wrap ((j:Int) - 1)=(j:Int) - 1:=by rw [GB];unfold wrap64;omega
   obtain ⟨b,o,rfl⟩:=hs (by omega);obtain ⟨hKb,A⟩:=hV b o rfl (by omega);have O:=E' (y.o b hKb) g;obtain ⟨N,Q⟩:=A j f;have c0:=(B.o.cell (p:=⟨b,o+j*2,none⟩) hKb).trans N;have c1:=(B.o.cell (p:=⟨b,o+j*2+1,none⟩) hKb).trans Q;obtain ⟨fn,tmps,assign,body,hy,hR⟩:=hY _ ⟨j,f⟩ _ s (by rw [mN];omega);simp only at hy;gi_wp2
   refine hR.mono ?_;rintro e W3 (⟨rfl,D,E⟩ | ⟨rfl,u⟩)
   · gi_wp2
     go_roundw
     case rel=>exact ⟨j,by omega,by go_num,by rw [down_step f];exact D,B.o.trans E⟩
     case measure=>simp [intOf]
   · gi_wp2
     refine bodyPost_ret (results_none rfl _ _ _) rfl ?_;exact ⟨⟨_,rfl⟩,.inr ⟨_,by rw [← down_step f];exact qS _ _,u⟩⟩
theorem DE (n:Nat) (a:Option Addr) (len b:Nat) (w:World) :
 CallsIn Fence.wide n Tryz.prog 155 #[.slice a len b] w fun e w'=>e=.returned (.func (.func 206) #[] #[.pointer (some ⟨w.heap.size,0,none⟩)]) ∧
  w'=w.alloc (.cells #[.slice a len b] 61):=by
 refine callsIn_of_wp Tryz.func155 rfl trivial ?_ rfl;simp only [Tryz.ntmps155,Hu,GR,Hp,Nat.reduceAdd,Nat.reduceSub,H7,H8,Ii,Ib,GU,GY];gi_wp2
 go_ret;exact ⟨rfl,rfl⟩
theorem ww (n:Nat) (hn:1≤n) (f:Nat) (K:Nat→Prop) (a:Option Addr) (len d:Nat) (u0 u1:Nat→Value) (w:World)
 (hKB:K f) (hp0:w.cell? ⟨f,0,none⟩=some (.slice a len d)) (hs:1≤len→∃b o,a=some ⟨b,o,none⟩) (hroom:len≤d) (hbig:d≤maxLen) (hKs:∀k,K k→k<w.heap.size)
 (hV:FL K w a len u0 u1) :
 SeqStopsK Fence.wide n Tryz.prog 206 #[.pointer (pT f)] (fun x:Fin len=>#[iT (x.1:Nat),.agg #[u0 x.1,u1 x.1]]) (bJ K) (fun t=>t=ch len 0) (fun m=>m <+: ch len 0) len w :=
 fun l J s W g _ _ hY h0=>Bc n l f K hn a len d u0 u1 J s W hY hKB (cell_later g hp0) hs hroom hbig (fun k hk=>E' (hKs k hk) g.size) (fun b o e h1=>⟨(hV b o e h1).1,fun i hi=>by obtain ⟨u,r⟩:=(hV b o e h1).2 i hi;exact ⟨cell_later g u,cell_later g r⟩⟩) h0
end
def po (ds:List Nat):List Deferred:=ds.map (fun D=>{ target:=.collected D,args:=#[] })
def dM (base:Nat) (w:World) (ds:List Nat):Prop:=ds.Nodup∧∀D ∈ ds,base≤D∧w.heap[D]?=some (.deferred (some []))
theorem jp {F:Fence} {n base:Nat} {P:Program} {u:Func} {tmps:Array Value} {R:Ending→World→Prop}:∀(m:List Nat) (W:World),dM base W m →
 (∀g,Below base W g→(∀(k:Nat) (o:Obj),W.heap[k]?=some o→o.isCells=true→g.heap[k]?=some o)→LeavesInM F n P u tmps R [] .returning g)→LeavesInM F n P u tmps R (po m) .returning W
 | [],W,_,h=>h W (Below.refl _ _) (fun _ _ h _=>h)
 | D :: m,W,hm,h=>by
  obtain ⟨d,hD⟩:=hm
  rw [IZ] at d
  have hk:=(hD D (GI ..)).2
  have hb:=(hD D (GI ..)).1
  have hB:Below base W (W.putObj D (.deferred none)):=⟨rfl,rfl,rfl,by simp [World.putObj],fun k hk=>World.putObj_heap_other (by omega)⟩
  refine ⟨by simp,.inl ⟨D,_,rfl,run_takeDeferred hk,?_⟩⟩
  refine jp m (W.putObj D (.deferred none)) ⟨d.2,fun r f=>⟨(hD r (GM _ f)).1,?_⟩⟩ (fun g s t=>h g (hB.trans s) (fun k o ho hc=>t k o ?_ hc))
  · have b:r≠D:=fun e=>d.1 (e ▸ f)
    exact (World.putObj_heap_other b).trans (hD r (GM _ f)).2
  · have b:k≠D:=fun e=>by subst e;rw [hk] at ho;cases ho;cases hc
    exact (World.putObj_heap_other b).trans ho
theorem nS {B:Nat} {W W':World} {t:TypeId} {v:Value} (h:Below n₀ W W') (hv:Boxed W B t v) (b:Boxed W' B t v):bJ (fun k=>k<n₀∨k=B) W W' :=
 ⟨h.os,h.tape,h.output,h.size,fun k hk=>by
  rcases hk with hk | rfl
  · exact h.block k hk
  · exact (show W'.heap[k]?=_ from b).trans (show W.heap[k]?=_ from hv).symm⟩
theorem sQ {β:Type} {b:List Nat} {B:Nat} (hB:∀D ∈ b,D<B):OwnFrom B (fun (_:β) W=>dM base W b):=fun _ X Y row hs hg hr =>
 ⟨hs.1,fun D hD=>⟨(hs.2 D hD).1,by
  have h0:=(hs.2 D hD).2
  refine (hg.block D (Hi.1 h0).1 (fun e=>?_)).trans h0
  have:=(hr D e.symm).1
  have:=hB D hD
  omega⟩⟩
theorem dM.others {ds:List Nat} (h:dM base w ds) (hk:KeepsOthers w w'):dM base w' ds:=⟨h.1,fun D hD=>⟨(h.2 D hD).1,hk.same D _ (h.2 D hD).2 rfl⟩⟩
section
attribute [local go_sem] Hc
def fi (w:World) (vs:List Value) (P:List (List ac)):Prop:=vs.length=P.length∧∀(i:Nat) A,P[i]?=some A→∃s m d,vs[i]?=some (.slice s m d)∧aj w s m d A
theorem fi.one {s:Option Addr} {m d:Nat} {A:List ac} (h:aj w s m d A):fi w [.slice s m d] [A]:=by
 refine ⟨rfl,fun i B hB=>?_⟩;cases i with
 | zero=>simp at hB;subst hB;exact ⟨s,m,d,rfl,h⟩
 | succ i=>simp at hB
theorem fi.append {b:List Value} {d:List (List ac)} (h:fi w vs P) (h':fi w b d):fi w (vs++b) (P++d):=by
 refine ⟨by rw [Gj,Gj,h.1,h'.1],fun i A hA=>?_⟩;by_cases hi:i<P.length
 · rw [Gt hi] at hA;rw [Gt (by rw [h.1];exact hi)];exact h.2 i A hA
 · rw [Gm (by omega)] at hA;rw [Gm (by rw [h.1];omega),h.1];exact h'.2 _ A hA
theorem fi.map {α:Type} {f:α→Value} {g:α→List ac} (h:∀x,∃s m d,f x=.slice s m d∧aj w s m d (g x)) (L:List α):fi w (L.map f) (L.map g):=by
 refine ⟨by simp,fun i A hA=>?_⟩;rw [Id] at hA ⊢;cases hx:L[i]? with
 | none=>rw [hx] at hA;cases hA
 | some x =>
  rw [hx] at hA;simp at hA;subst hA;obtain ⟨s,m,d,e,hE⟩:=h x;exact ⟨s,m,d,by simp [e],hE⟩
theorem fi.keep (h:fi w vs P) (hb:Bl w w'):fi w' vs P :=
 ⟨h.1,fun i A hA=>by obtain ⟨s,m,d,e,hE⟩:=h.2 i A hA;exact ⟨s,m,d,e,hE.keep hb⟩⟩
theorem qT {α β:Type} (B:List α) (d:α) (f:α→β):(ch B.length 0).map (fun x=>f ((B[x.1]?).getD d))=B.reverse.map f:=by
 unfold ch;rw [List.drop_zero,List.map_reverse,List.map_reverse];congr 1
 apply List.ext_getElem
 · simp
 · intro i h1 h2;simp at h1;simp
theorem AX {α β:Type} (B:List α) (d:α) (f:α→β) (h:B.length=n):(ch n 0).map (fun x=>f ((B[x.1]?).getD d))=B.reverse.map f:=by
 subst h;exact qT B d f
theorem aw.heads {a:Option Addr} {c:Nat} {B:List af} (h:aw lo w a n c B) :
 ∃t:Nat→Option Addr × Nat × Nat,(∀b o,a=some ⟨b,o,none⟩→1≤n→b<w.heap.size∧∀i,i<n→w.cell? ⟨b,o+i*2,none⟩=some (.slice (t i).1 (t i).2.1 (t i).2.2)∧w.cell? ⟨b,o+i*2+1,none⟩=some (iT ((B[i]?).getD ([],0)).2)) ∧
  ∀i,i<n→aj w (t i).1 (t i).2.1 (t i).2.2 ((B[i]?).getD ([],0)).1:=by
 have hl:=h.length;by_cases hn:1≤n
 · obtain ⟨b,o,rfl,hb⟩:=h.form hn;have each:∀i,i<n→∃t:Option Addr × Nat × Nat,w.cell? ⟨b,o+i*2,none⟩=some (.slice t.1 t.2.1 t.2.2)∧w.cell? ⟨b,o+i*2+1,none⟩=some (iT ((B[i]?).getD ([],0)).2)∧aj w t.1 t.2.1 t.2.2 ((B[i]?).getD ([],0)).1:=by
    intro i hi;obtain ⟨_,s,m,d,c0,c1,hE⟩:=h.runs _ rfl i (by omega);refine ⟨(s,m,d),c0,?_,?_⟩
    · rw [j' (by omega:i<B.length)];exact c1
    · rw [j' (by omega:i<B.length)];exact hE.1
   obtain ⟨t,f⟩:=Deep.choose_lt each;refine ⟨t,?_,fun i hi=>(f i hi).2.2⟩;rintro b' g e _;cases e;exact ⟨hb,fun i hi=>⟨(f i hi).1,(f i hi).2.1⟩⟩
 · exact ⟨fun _=>(none,0,0),fun b o e h1=>absurd h1 hn,fun i hi=>absurd hi (by omega)⟩
def lh (M:List ac) (V:List (List af)) (i:Nat):List (List ac):=M :: (V.take i).flatMap (fun B=>B.reverse.map (·.1))
theorem tW {i:Nat} {B:List af} (h:V[i]?=some B):lh M V (i+1)=lh M V i++B.reverse.map (·.1):=by
 unfold lh;rw [GH,h];simp
theorem vz (M:List ac) (A B C:List af):lh M [A,B,C] 3=dm M A B C:=by
 unfold lh dm;simp
def yL (w0 w:World) (P:List (List ac)) (e:Ending) (w':World):Prop:=(∃g n c vs,e=.returned (sL g n c)∧w'.ownsRow w.heap.size 28 1 (sL g n c) n vs∧fi w0 vs P)∧Bl w w'
theorem s9 (lo:Nat) (q:Int) (am ak:Option Addr) (nm H nk ck:Nat) (a0 a1 a2:Option Addr) (I c0 J c1 n2 c2:Nat) (M:List ac) (A B C:List af) (U w:World) (aT:Bl U w) (hM:aj U am nm H M) (h0:aw lo U a0 I c0 A) (h1:aw lo U a1 J c1 B) (h2:aw lo U a2 n2 c2 C) (s0:I≤8) (s1:J≤8) (s2:n2≤8) :
 CallsIn Fence.wide 4 Tryz.prog 94 #[.agg #[iT q,.slice am nm H,.slice a0 I c0,.slice a1 J c1,.slice a2 n2 c2,.slice ak nk ck]] w (yL U w (dm M A B C)):=by
 have a4:=az aT;have HL:Eq (∀i,i<3→∃F ni E Bi,(∀w',(Instr.index 80 (.agg #[.slice a0 I c0,.slice a1 J c1,.slice a2 n2 c2]) (iT (i:Nat))).run Tryz.prog w'=.ok (.slice F ni E) w')∧aw lo U F ni E Bi∧ni≤8∧[A,B,C][i]?=some Bi):=by
  intro i hi;have:i=0∨i=1∨i=2:=by omega
  rcases this with rfl | rfl | rfl
  · exact ⟨a0,I,c0,A,fun w'=>Db w' _ _ _ _ _ _ _ _ _,h0,s0,rfl⟩
  · exact ⟨a1,J,c1,B,fun w'=>Da w' _ _ _ _ _ _ _ _ _,h1,s1,rfl⟩
  · exact ⟨a2,n2,c2,C,fun w'=>C9 w' _ _ _ _ _ _ _ _ _,h2,s2,rfl⟩
 have HM:=az hM;obtain ⟨i0,hi,aK,aX,aQ⟩:=info_parts Tryz.infoEntS;refine callsIn_of_wp_marks Tryz.func94 rfl trivial ?_ rfl;simp only [Tryz.ntmps94,Hu,GR,Hp,Nat.reduceAdd,Nat.reduceSub,H7,H8,Ii,Ib,GU,GY];gi_wp2
 obtain ⟨W0,N⟩:=aF ((((w.alloc (.cells #[iT q,.slice am nm H,.slice a0 I c0,.slice a1 J c1,.slice a2 n2 c2,.slice ak nk ck] 82)).alloc (.cells #[.slice am nm H] 28)).alloc (.cells #[sL (w.heap.size+1) 1 1] 102)));have aS:Bl w W0:=by rw [N];exact (((Below.refl _ w).alloc (Gg _) _).alloc (by simp) _).alloc (by simp;omega) _
 have ay:Boxed W0 (w.heap.size+1+1) 102 (sL (w.heap.size+1) 1 1):=by
  have:=Boxed.new ((w.alloc (.cells #[iT q,.slice am nm H,.slice a0 I c0,.slice a1 J c1,.slice a2 n2 c2,.slice ak nk ck] 82)).alloc (.cells #[.slice am nm H] 28)) 102 (sL (w.heap.size+1) 1 1);rw [Gu,Gu] at this;rw [N];exact this
 have aR:W0.ownsRow w.heap.size 28 1 (sL (w.heap.size+1) 1 1) 1 [.slice am nm H]:=by
  have:=(GP (base:=w.heap.size) (e:=28) (size:=1) (w.alloc (.cells #[iT q,.slice am nm H,.slice a0 I c0,.slice a1 J c1,.slice a2 n2 c2,.slice ak nk ck] 82)) #[.slice am nm H] 1 (by simp) (by unfold maxLen;omega) rfl).alloc (.cells #[sL (w.heap.size+1) 1 1] 102);rw [Gu] at this;rw [N];exact this
 rw [← N];refine wpIn_loop (fun R W=>∃(i:Nat) (ds:List Nat) (u5 u14 u15 u16 u17 u25:Value) (v:Value) (vs:List Value),R={ tmps:=#[.agg #[iT q,.slice am nm H,.slice a0 I c0,.slice a1 J c1,.slice a2 n2 c2,.slice ak nk ck],.pointer (some ⟨w.heap.size,0,none⟩),nZ,.pointer (some ⟨w.heap.size+1+1,0,none⟩),undef,u5,undef,undef,.pointer (some ⟨w.heap.size,1,none⟩),.slice am nm H,sL (w.heap.size+1) 1 1,.pointer (some ⟨w.heap.size,2,none⟩),.agg #[.slice a0 I c0,.slice a1 J c1,.slice a2 n2 c2],iT (i:Nat),u14,u15,u16,u17,undef,undef,undef,undef,undef,undef,undef,u25,undef],defers:=po ds } ∧
  i≤3∧Boxed W (w.heap.size+1+1) 102 v∧W.ownsRow w.heap.size 28 1 v vs.length vs∧fi U vs (lh M [A,B,C] i)∧vs.length≤1+8*i∧1≤vs.length∧dM w.heap.size W ds∧Bl w W) (fun R _=>3 - (intOf (R.tmps.getD 13 undef)).toNat) ?_ ?_
 · exact ⟨0,[],undef,undef,undef,undef,undef,undef,_,[.slice am nm H],rfl,by omega,ay,aR,fi.one HM.o,by simp,by simp,⟨List.nodup_nil,fun D hD=>by cases hD⟩,aS⟩
 rintro R W ⟨i,ds,u5,u14,u15,u16,u17,u25,v,vs,rfl,bm,bA,hrow,hH,bj,hv1,hmk,hB⟩;have HH:=az hH;have Z:=az hmk;have HB:=az hB;have aG:=hB.size;by_cases aJ:i<3
 · have b5:(i:Int)<3:=by omega
   have wi:IntKind.i64.wrap ((i:Int)+1)=((i+1:Nat):Int):=by rw [GB];unfold wrap64;omega
   obtain ⟨F,ni,E,Bi,b2,aI,bg,aD⟩:=HL.o i aJ;have HR:=az aI;have HV:=az aD;gi_wp2_with (refine ⟨trivial,?_⟩;gi_at_call 155;refine (DE _ _ _ _ _).mono ?_;rintro e w' ⟨rfl,rfl⟩)
   obtain ⟨t,ht1,ht2⟩:=HR.o.heads;have bP:=Boxed.new W 61 (.slice F ni E);have ab:Bl w (W.alloc (.cells #[.slice F ni E] 61)):=HB.o.alloc aG _;have O:=a4.o.trans (ab.mono a4.o.size);have aW:=bA.alloc (.cells #[.slice F ni E] 61);have a3:=hrow.alloc (.cells #[.slice F ni E] 61);have ap:=Z.o.others (KeepsOthers.alloc W (.cells #[.slice F ni E] 61));have Q:∀D ∈ ds,D<W.heap.size:=fun D hD=>(Hi.1 (Z.o.2 D hD).2).1
   have bb:=bA.lt;have aE:=az ht2;have ar:=az Q;refine wpIn_rangeFunc_ownH rfl (by omega) (gf:=206) (lb:=#[.pointer (some ⟨W.heap.size,0,none⟩)]) rfl trivial (enters_of Tryz.func206 (by kernel_rfl) rfl)
    (ww (4 - 1) (by omega) W.heap.size (fun k=>k<w.heap.size∨k=W.heap.size) F ni E (fun i=>.slice (t i).1 (t i).2.1 (t i).2.2) (fun i=>iT ((Bi[i]?).getD ([],0)).2) _ (.inr rfl) bP.cell (fun h=>by obtain ⟨b,o,e,_⟩:=HR.o.form h;exact ⟨b,o,e⟩) HR.o.room HR.o.big (fun k hk=>by simp;omega) (fun b o e h1=>⟨.inl (E' (ht1 b o e h1).1 a4.o.size),fun i hi=>⟨cell_later O ((ht1 b o e h1).2 i hi).1,cell_later O ((ht1 b o e h1).2 i hi).2⟩⟩))
    bJ.trans (pr (fun k hk=>by simp;omega)) (Below.refl _ _) (fun _=>rfl)
    (fun f T=>(∃v',Boxed T (w.heap.size+1+1) 102 v'∧T.ownsRow w.heap.size 28 1 v' (vs.length+f.length) (vs++f.map (fun x=>Value.slice (t x.1).1 (t x.1).2.1 (t x.1).2.2))∧True)∧(Boxed T W.heap.size 61 (.slice F ni E)∧(Bl w T∧dM w.heap.size T ds)))
    (fun _ _ _=>False)
    (OwnFrom.and (Own.from (holdsRow_own w.heap.size (w.heap.size+1+1) 102 28 1 (fun f:List (Fin ni)=>vs.length+f.length) (fun f=>vs++f.map (fun x=>Value.slice (t x.1).1 (t x.1).2.1 (t x.1).2.2)) (fun _ _=>True)) _) (OwnFrom.and (Own.from (boxed_own _ _ _) _) (OwnFrom.and (ownFrom_below (Gg _) (by simp;omega)) (sQ (fun D hD=>by have:=Q D hD;simp;omega)))))
    (fun _ _ _ _ _ hs _ _=>hs)
    ⟨⟨v,aW,by simpa using a3,trivial⟩,bP,ab,ap⟩
    (fun x R T=>∃Bx,w.heap.size+1+1<Bx∧T.cell? ⟨Bx,0,none⟩=some (.slice (t x.1).1 (t x.1).2.1 (t x.1).2.2)∧R={ tmps:=#[.agg #[iT q,.slice am nm H,.slice a0 I c0,.slice a1 J c1,.slice a2 n2 c2,.slice ak nk ck],.pointer (some ⟨w.heap.size,0,none⟩),nZ,.pointer (some ⟨w.heap.size+1+1,0,none⟩),undef,.slice F ni E,undef,.pointer (pT Bx),.pointer (some ⟨w.heap.size,1,none⟩),.slice am nm H,sL (w.heap.size+1) 1 1,.pointer (some ⟨w.heap.size,2,none⟩),.agg #[.slice a0 I c0,.slice a1 J c1,.slice a2 n2 c2],iT (i:Nat),.bool true,.slice F ni E,.slice F ni E,.func (.func 206) #[] #[.pointer (some ⟨W.heap.size,0,none⟩)],iT (x.1:Nat),.agg #[.slice (t x.1).1 (t x.1).2.1 (t x.1).2.2,iT ((Bi[x.1]?).getD ([],0)).2],undef,undef,undef,undef,undef,u25,undef],defers:=[] })
    (fun x R _ X Y row hs hg hr=>by obtain ⟨Bx,h1,h2,h3⟩:=hs;exact ⟨Bx,h1,cell_kept h2 hg (fun r e=>(hr r e).2),h3⟩)
    ?assign ?body ?done ?stop
   case assign =>
    rintro l f x W2 K ⟨⟨v2,y,d,_⟩,u,s,m⟩ hK;have au:=y.lt;gi_wp2
    exact hK _ _ ((KeepsOthers.alloc _ _).from _) (nS ((Below.refl _ W2).alloc s.size _) u (u.alloc _)) ⟨⟨v2,y.alloc _,d.alloc _,trivial⟩,u.alloc _,s.alloc s.size _,m.others (KeepsOthers.alloc _ _)⟩ ⟨W2.heap.size,au,by simp,rfl⟩
   case body =>
    rintro l f x R W2 hl _ ⟨⟨v2,y,d,_⟩,u,s,m⟩ ⟨Bx,bi,cx,rfl⟩ bc;have cA:=y.cell;have ad:=az m;have aN:=az s;have aC:=s.size;gi_wp2_with (gi_at_builtin;refine wpListIn_append_own _ rfl _ _ 102 rfl w.heap.size 28 i0 nZ 1 24 Tryz.underlying102 hi aK aX aQ rfl (by decide) _ _ _ rfl (d.alloc _) ⟨W2.heap.size,0,none⟩ 1 1 [Value.slice (t x.1).1 (t x.1).2.1 (t x.1).2.2] rfl rfl (cell_one_new _ _ _) (by simp [Value.oneCell']) (by unfold maxLen;omega) (by omega) (by simp;omega) ?_;intro v' w1 L hgrow _;obtain ⟨g',ag,rfl⟩:=ownsRow_succ L;obtain ⟨hv1,hv2,aA,ae,ah⟩:=y.appended (by decide) d aC (by omega) L hgrow;have bp:=hv1.cell;have bn:=hv1.frozen)
    have ao:Boxed (w1.setCell ⟨w.heap.size+1+1,0,none⟩ (sL g' (vs.length+f.length+1) ag)) W.heap.size 61 (.slice F ni E):=((u.alloc _).kept hgrow (u.not_row (by decide) d)).other (by omega) _;refine ⟨ae.from _,nS ah u ao,⟨⟨_,hv2,?_,trivial⟩,ao,aN.o.trans ah,ad.o.others ae⟩⟩;rw [Ht,Gj,← GJ];exact aA
   case done =>
    rintro D xs W2 hD rfl ⟨⟨v2,y,d,_⟩,u,s,m⟩ hK;gi_wp2
    have aU:=AX Bi ([],0) (·.1) HR.o.length;have aO:(ch ni 0).length=ni:=by rw [mN];rfl
    refine ⟨⟨i+1,D :: ds,_,_,_,_,_,_,v2,vs++(ch ni 0).map (fun x=>Value.slice (t x.1).1 (t x.1).2.1 (t x.1).2.2),rfl,by omega,y,?_,?_,?_,?_,?_,s⟩,?_⟩
    · rw [Gj,Hd];exact d
    · rw [tW HV.o,← aU];exact HH.o.append (fi.map (α:=Fin ni) (fun x=>⟨_,_,_,rfl,aE.o x.1 x.2⟩) _)
    · rw [Gj,Hd,aO];omega
    · rw [Gj];omega
    · simp at hD;refine ⟨IZ.2 ⟨fun h=>by have:=ar.o D h;omega,m.1⟩,fun D' b0=>?_⟩;rcases Gz.1 b0 with rfl | h
      · exact ⟨by omega,hK⟩
      · exact m.2 D' h
    · simp [intOf];omega
   case stop =>
    rintro D c f W2 _ _ h _;exact h.elim
 · have hi:i=3:=by omega
   subst hi;obtain ⟨n',aM⟩:∃n',vs.length=n'+1:=⟨vs.length - 1,by omega⟩;rw [aM] at hrow;obtain ⟨g,c,rfl⟩:=ownsRow_succ hrow;have cA:=bA.cell;gi_wp2
   refine jp ds W Z.o (fun T aP aL=>?_);refine ⟨_,results_tmp rfl _ _ _,⟨g,n'+1,c,vs,rfl,?_,?_⟩,HB.o.trans aP⟩
   · refine ⟨hrow.1,?_⟩;rcases hrow.2 with hn | ⟨g1,an,al,e1,aZ,aY,rest⟩
     · exact .inl hn
     · exact .inr ⟨g1,an,al,e1,aZ,aL g1 _ aY rfl,rest⟩
   · rw [← vz];exact HH.o
end
end Go.Proofs.YtpobkmjicbobdaaGreat
