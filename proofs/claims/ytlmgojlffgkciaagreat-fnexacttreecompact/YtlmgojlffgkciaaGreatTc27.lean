/-
  slices.Backward at entries: what it yields, for every loop body that keeps what it reads, by walks of its Go text.
-/
import Derived.Test.YtlmgojlffgkciaaGreatTc26
import Derived.Test.YtlmgojlffgkciaaGreatTc01
import Derived.Maps.OwnIn
namespace Go.Proofs.YtlmgojlffgkciaaGreat
set_option maxRecDepth 100000
set_option maxHeartbeats 2000000
open Go.RowKit Go.Shelf
attribute [local go_sem] Oper.semAt_some
def bI (n k:Nat):List (Fin n):=((List.finRange n).drop k).reverse
theorem pl (n:Nat):bI n n=[]:=by simp [bI]
theorem down_step {n k:Nat} (h:k<n):bI n k=bI n (k+1)++[⟨k,h⟩]:=by
 unfold bI;rw [List.drop_eq_getElem_cons (by simpa using h)];simp
theorem pg (n k:Nat):bI n k <+: bI n 0:=by
 unfold bI;rw [List.drop_zero];exact List.reverse_prefix.2 (List.drop_suffix _ _)
theorem lM (n k:Nat):(bI n k).length=n - k:=by simp [bI]
def B5 (K:Nat→Prop) (w:World) (a:Option Addr) (len:Nat) (u0 u1 u2 u3 u4:Nat→Value):Prop:=∀b o,a=some ⟨b,o,none⟩→1≤len→K b∧∀i,i<len→w.cell? ⟨b,o+i*5,none⟩=some (u0 i)∧w.cell? ⟨b,o+i*5+1,none⟩=some (u1 i)∧w.cell? ⟨b,o+i*5+2,none⟩=some (u2 i)∧w.cell? ⟨b,o+i*5+3,none⟩=some (u3 i)∧w.cell? ⟨b,o+i*5+4,none⟩=some (u4 i)
theorem yv (n l Bp:Nat) (K:Nat→Prop) (hn:1≤n) (a:Option Addr) (len cap:Nat) (u0 u1 u2 u3 u4:Nat→Value) (J Jx:List (Fin len)→World→Prop) (W:World)
 (hY:∀pre (x:Fin len) W1,J pre W1→pre.length<len→YieldAt Fence.wide (n - 1) Tryz.prog l #[iT (x.1:Nat),.agg #[u0 x.1,u1 x.1,u2 x.1,u3 x.1,u4 x.1]] W1 fun e W' =>
  (e=.returned (.bool true)∧J (pre++[x]) W'∧aC K W1 W')∨(e=.returned (.bool false)∧Jx (pre++[x]) W'))
 (hKB:K Bp) (hp0:W.cell? ⟨Bp,0,none⟩=some (.slice a len cap)) (hs:1≤len→∃b o,a=some ⟨b,o,none⟩) (hroom:len≤cap) (hbig:cap≤maxLen) (hKs:∀k,K k→k<W.heap.size)
 (hV:B5 K W a len u0 u1 u2 u3 u4) (h0:J [] W) :
 CallsIn Fence.wide n Tryz.prog 190 #[.func (.yield l) #[] #[],.pointer (pT Bp)] W fun e W'=>(∃v,e=.returned v) ∧
  ((∃ys,ys=bI len 0∧J ys W')∨(∃pre,pre <+: bI len 0∧Jx pre W')):=by
 unfold maxLen at hbig;have HKS:=bc hKs;clear hKs;refine callsIn_of_wp Tryz.func190 rfl trivial ?_ rfl;simp only [Tryz.ntmps190,List.size_toArray,List.length_cons,List.length_nil,Nat.reduceAdd,Nat.reduceSub,Array.replicate_succ,Array.replicate_zero,List.push_toArray,List.append_toArray,List.nil_append,List.cons_append];have wl:IntKind.i64.wrap ((len:Int) - 1)=(len:Int) - 1:=by rw [IntWalk.i64_left];unfold wrap64;omega
 gi_wp2
 gi_loopw [3] (fun iv wr=>∃k:Nat,k≤len∧iv=iT ((k:Int) - 1)∧J (bI len k) wr∧aC K W wr) (fun iv _=>(intOf iv+1).toNat)
 case atStart=>exact ⟨len,Nat.le_refl _,rfl,by rw [pl];exact h0,aC.refl _ _⟩
 case round =>
  obtain ⟨k,hk,rfl,hJs,hb⟩:=hrel;have HB:Hid (aC K W wr):=hb;have hcc:=(hb.cell (p:=⟨Bp,0,none⟩) hKB).trans hp0;have hszw:=hb.size;have hBw:Bp<wr.heap.size:=Nat.lt_of_lt_of_le (HKS.out Bp hKB) hszw;cases k with
  | zero =>
   gi_wp2
   go_end0;exact ⟨⟨_,rfl⟩,.inl ⟨_,rfl,hJs⟩⟩
  | succ j =>
   have hj:((j+1:Nat):Int) - 1=(j:Int):=by omega
   rw [hj];have hjI:(j:Int)<(len:Int):=by omega
   have hjN:j<len:=by omega
   have hj0:(0:Int)≤(j:Int):=by omega
   have wj:IntKind.i64.wrap ((j:Int) - 1)=(j:Int) - 1:=by rw [IntWalk.i64_left];unfold wrap64;omega
   obtain ⟨b,o,rfl⟩:=hs (by omega);obtain ⟨hKb,hVe⟩:=hV b o rfl (by omega);have hbW:b<wr.heap.size:=Nat.lt_of_lt_of_le (HKS.out b hKb) hszw;obtain ⟨g0,g1,g2,g3,g4⟩:=hVe j hjN;have c0:=(HB.out.cell (p:=⟨b,o+j*5,none⟩) hKb).trans g0;have c1:=(HB.out.cell (p:=⟨b,o+j*5+1,none⟩) hKb).trans g1;have c2:=(HB.out.cell (p:=⟨b,o+j*5+2,none⟩) hKb).trans g2;have c3:=(HB.out.cell (p:=⟨b,o+j*5+3,none⟩) hKb).trans g3;have c4:=(HB.out.cell (p:=⟨b,o+j*5+4,none⟩) hKb).trans g4;clear g0 g1 g2 g3 g4;obtain ⟨fn,tmps,assign,body,hy,hR⟩:=hY _ ⟨j,hjN⟩ _ hJs (by rw [lM];omega);simp only at hy;clear hb hV hVe;gi_wp2
   refine hR.mono ?_;rintro e W3 (⟨rfl,hJ3,hk3⟩ | ⟨rfl,hJx3⟩)
   · gi_wp2
     go_roundw
     case rel=>exact ⟨j,by omega,by go_num,by rw [down_step hjN];exact hJ3,HB.out.trans hk3⟩
     case measure=>simp [intOf]
   · gi_wp2
     refine bodyPost_ret (results_none rfl _ _ _) rfl ?_;exact ⟨⟨_,rfl⟩,.inr ⟨_,by rw [← down_step hjN];exact pg _ _,hJx3⟩⟩
theorem tX (n:Nat) (a:Option Addr) (len cap:Nat) (w:World) :
 CallsIn Fence.wide n Tryz.prog 149 #[.slice a len cap] w fun e w'=>e=.returned (.func (.func 190) #[] #[.pointer (some ⟨w.heap.size,0,none⟩)]) ∧
  w'=w.alloc (.cells #[.slice a len cap] 28):=by
 refine callsIn_of_wp Tryz.func149 rfl trivial ?_ rfl;simp only [Tryz.ntmps149,List.size_toArray,List.length_cons,List.length_nil,Nat.reduceAdd,Nat.reduceSub,Array.replicate_succ,Array.replicate_zero,List.push_toArray,List.append_toArray,List.nil_append,List.cons_append];gi_wp2
 go_ret;exact ⟨rfl,rfl⟩
theorem mU (n:Nat) (hn:1≤n) (Bp:Nat) (K:Nat→Prop) (a:Option Addr) (len cap:Nat) (u0 u1 u2 u3 u4:Nat→Value) (w:World)
 (hKB:K Bp) (hp0:w.cell? ⟨Bp,0,none⟩=some (.slice a len cap)) (hs:1≤len→∃b o,a=some ⟨b,o,none⟩) (hroom:len≤cap) (hbig:cap≤maxLen) (hKs:∀k,K k→k<w.heap.size)
 (hV:B5 K w a len u0 u1 u2 u3 u4) :
 SeqStopsK Fence.wide n Tryz.prog 190 #[.pointer (pT Bp)] (fun x:Fin len=>#[iT (x.1:Nat),.agg #[u0 x.1,u1 x.1,u2 x.1,u3 x.1,u4 x.1]]) (aC K) (fun ys=>ys=bI len 0) (fun pre=>pre <+: bI len 0) len w :=
 fun l J Jx W hW _ _ hY h0=>yv n l Bp K hn a len cap u0 u1 u2 u3 u4 J Jx W hY hKB (cell_later hW hp0) hs hroom hbig (fun k hk=>Nat.lt_of_lt_of_le (hKs k hk) hW.size) (fun b o e h1=>⟨(hV b o e h1).1,fun i hi=>by obtain ⟨g0,g1,g2,g3,g4⟩:=(hV b o e h1).2 i hi;exact ⟨cell_later hW g0,cell_later hW g1,cell_later hW g2,cell_later hW g3,cell_later hW g4⟩⟩) h0
end Go.Proofs.YtlmgojlffgkciaaGreat

namespace Go.Proofs.YtlmgojlffgkciaaGreat
set_option maxRecDepth 100000
set_option maxHeartbeats 2000000
open Go.RowKit Go.Shelf
attribute [local go_sem] Oper.semAt_some
def B4 (K:Nat→Prop) (w:World) (a:Option Addr) (len:Nat) (u0:Nat→Value):Prop:=∀b o,a=some ⟨b,o,none⟩→1≤len→K b∧∀i,i<len→w.cell? ⟨b,o+i,none⟩=some (u0 i)
theorem yu (n l Bp:Nat) (K:Nat→Prop) (hn:1≤n) (a:Option Addr) (len cap:Nat) (u0:Nat→Value) (J Jx:List (Fin len)→World→Prop) (W:World)
 (hY:∀pre (x:Fin len) W1,J pre W1→pre.length<len→YieldAt Fence.wide (n - 1) Tryz.prog l #[iT (x.1:Nat),u0 x.1] W1 fun e W' =>
  (e=.returned (.bool true)∧J (pre++[x]) W'∧aC K W1 W')∨(e=.returned (.bool false)∧Jx (pre++[x]) W'))
 (hKB:K Bp) (hp0:W.cell? ⟨Bp,0,none⟩=some (.slice a len cap)) (hs:1≤len→∃b o,a=some ⟨b,o,none⟩) (hroom:len≤cap) (hbig:cap≤maxLen) (hKs:∀k,K k→k<W.heap.size)
 (hV:B4 K W a len u0) (h0:J [] W) :
 CallsIn Fence.wide n Tryz.prog 194 #[.func (.yield l) #[] #[],.pointer (pT Bp)] W fun e W'=>(∃v,e=.returned v) ∧
  ((∃ys,ys=bI len 0∧J ys W')∨(∃pre,pre <+: bI len 0∧Jx pre W')):=by
 unfold maxLen at hbig;have HKS:=bc hKs;clear hKs;refine callsIn_of_wp Tryz.func194 rfl trivial ?_ rfl;simp only [Tryz.ntmps194,List.size_toArray,List.length_cons,List.length_nil,Nat.reduceAdd,Nat.reduceSub,Array.replicate_succ,Array.replicate_zero,List.push_toArray,List.append_toArray,List.nil_append,List.cons_append];have wl:IntKind.i64.wrap ((len:Int) - 1)=(len:Int) - 1:=by rw [IntWalk.i64_left];unfold wrap64;omega
 gi_wp2
 gi_loopw [3] (fun iv wr=>∃k:Nat,k≤len∧iv=iT ((k:Int) - 1)∧J (bI len k) wr∧aC K W wr) (fun iv _=>(intOf iv+1).toNat)
 case atStart=>exact ⟨len,Nat.le_refl _,rfl,by rw [pl];exact h0,aC.refl _ _⟩
 case round =>
  obtain ⟨k,hk,rfl,hJs,hb⟩:=hrel;have HB:Hid (aC K W wr):=hb;have hcc:=(hb.cell (p:=⟨Bp,0,none⟩) hKB).trans hp0;have hszw:=hb.size;have hBw:Bp<wr.heap.size:=Nat.lt_of_lt_of_le (HKS.out Bp hKB) hszw;cases k with
  | zero =>
   gi_wp2
   go_end0;exact ⟨⟨_,rfl⟩,.inl ⟨_,rfl,hJs⟩⟩
  | succ j =>
   have hj:((j+1:Nat):Int) - 1=(j:Int):=by omega
   rw [hj];have hjI:(j:Int)<(len:Int):=by omega
   have hjN:j<len:=by omega
   have hj0:(0:Int)≤(j:Int):=by omega
   have wj:IntKind.i64.wrap ((j:Int) - 1)=(j:Int) - 1:=by rw [IntWalk.i64_left];unfold wrap64;omega
   obtain ⟨b,o,rfl⟩:=hs (by omega);obtain ⟨hKb,hVe⟩:=hV b o rfl (by omega);have hbW:b<wr.heap.size:=Nat.lt_of_lt_of_le (HKS.out b hKb) hszw;have g0:=hVe j hjN;have c0:=(HB.out.cell (p:=⟨b,o+j,none⟩) hKb).trans g0;clear g0;obtain ⟨fn,tmps,assign,body,hy,hR⟩:=hY _ ⟨j,hjN⟩ _ hJs (by rw [lM];omega);simp only at hy;clear hb hV hVe;gi_wp2
   refine hR.mono ?_;rintro e W3 (⟨rfl,hJ3,hk3⟩ | ⟨rfl,hJx3⟩)
   · gi_wp2
     go_roundw
     case rel=>exact ⟨j,by omega,by go_num,by rw [down_step hjN];exact hJ3,HB.out.trans hk3⟩
     case measure=>simp [intOf]
   · gi_wp2
     refine bodyPost_ret (results_none rfl _ _ _) rfl ?_;exact ⟨⟨_,rfl⟩,.inr ⟨_,by rw [← down_step hjN];exact pg _ _,hJx3⟩⟩
theorem Aq (n:Nat) (a:Option Addr) (len cap:Nat) (w:World) :
 CallsIn Fence.wide n Tryz.prog 171 #[.slice a len cap] w fun e w'=>e=.returned (.func (.func 194) #[] #[.pointer (some ⟨w.heap.size,0,none⟩)]) ∧
  w'=w.alloc (.cells #[.slice a len cap] 85):=by
 refine callsIn_of_wp Tryz.func171 rfl trivial ?_ rfl;simp only [Tryz.ntmps171,List.size_toArray,List.length_cons,List.length_nil,Nat.reduceAdd,Nat.reduceSub,Array.replicate_succ,Array.replicate_zero,List.push_toArray,List.append_toArray,List.nil_append,List.cons_append];gi_wp2
 go_ret;exact ⟨rfl,rfl⟩
theorem tW (n:Nat) (hn:1≤n) (Bp:Nat) (K:Nat→Prop) (a:Option Addr) (len cap:Nat) (u0:Nat→Value) (w:World)
 (hKB:K Bp) (hp0:w.cell? ⟨Bp,0,none⟩=some (.slice a len cap)) (hs:1≤len→∃b o,a=some ⟨b,o,none⟩) (hroom:len≤cap) (hbig:cap≤maxLen) (hKs:∀k,K k→k<w.heap.size)
 (hV:B4 K w a len u0) :
 SeqStopsK Fence.wide n Tryz.prog 194 #[.pointer (pT Bp)] (fun x:Fin len=>#[iT (x.1:Nat),u0 x.1]) (aC K) (fun ys=>ys=bI len 0) (fun pre=>pre <+: bI len 0) len w :=
 fun l J Jx W hW _ _ hY h0=>yu n l Bp K hn a len cap u0 J Jx W hY hKB (cell_later hW hp0) hs hroom hbig (fun k hk=>Nat.lt_of_lt_of_le (hKs k hk) hW.size) (fun b o e h1=>⟨(hV b o e h1).1,fun i hi=>by exact cell_later hW ((hV b o e h1).2 i hi)⟩) h0
def B3 (K:Nat→Prop) (w:World) (a:Option Addr) (len:Nat) (u0 u1:Nat→Value):Prop:=∀b o,a=some ⟨b,o,none⟩→1≤len→K b∧∀i,i<len→w.cell? ⟨b,o+i*2,none⟩=some (u0 i)∧w.cell? ⟨b,o+i*2+1,none⟩=some (u1 i)
theorem yt (n l Bp:Nat) (K:Nat→Prop) (hn:1≤n) (a:Option Addr) (len cap:Nat) (u0 u1:Nat→Value) (J Jx:List (Fin len)→World→Prop) (W:World)
 (hY:∀pre (x:Fin len) W1,J pre W1→pre.length<len→YieldAt Fence.wide (n - 1) Tryz.prog l #[iT (x.1:Nat),.agg #[u0 x.1,u1 x.1]] W1 fun e W' =>
  (e=.returned (.bool true)∧J (pre++[x]) W'∧aC K W1 W')∨(e=.returned (.bool false)∧Jx (pre++[x]) W'))
 (hKB:K Bp) (hp0:W.cell? ⟨Bp,0,none⟩=some (.slice a len cap)) (hs:1≤len→∃b o,a=some ⟨b,o,none⟩) (hroom:len≤cap) (hbig:cap≤maxLen) (hKs:∀k,K k→k<W.heap.size)
 (hV:B3 K W a len u0 u1) (h0:J [] W) :
 CallsIn Fence.wide n Tryz.prog 164 #[.func (.yield l) #[] #[],.pointer (pT Bp)] W fun e W'=>(∃v,e=.returned v) ∧
  ((∃ys,ys=bI len 0∧J ys W')∨(∃pre,pre <+: bI len 0∧Jx pre W')):=by
 unfold maxLen at hbig;have HKS:=bc hKs;clear hKs;refine callsIn_of_wp Tryz.func164 rfl trivial ?_ rfl;simp only [Tryz.ntmps164,List.size_toArray,List.length_cons,List.length_nil,Nat.reduceAdd,Nat.reduceSub,Array.replicate_succ,Array.replicate_zero,List.push_toArray,List.append_toArray,List.nil_append,List.cons_append];have wl:IntKind.i64.wrap ((len:Int) - 1)=(len:Int) - 1:=by rw [IntWalk.i64_left];unfold wrap64;omega
 gi_wp2
 gi_loopw [3] (fun iv wr=>∃k:Nat,k≤len∧iv=iT ((k:Int) - 1)∧J (bI len k) wr∧aC K W wr) (fun iv _=>(intOf iv+1).toNat)
 case atStart=>exact ⟨len,Nat.le_refl _,rfl,by rw [pl];exact h0,aC.refl _ _⟩
 case round =>
  obtain ⟨k,hk,rfl,hJs,hb⟩:=hrel;have HB:Hid (aC K W wr):=hb;have hcc:=(hb.cell (p:=⟨Bp,0,none⟩) hKB).trans hp0;have hszw:=hb.size;have hBw:Bp<wr.heap.size:=Nat.lt_of_lt_of_le (HKS.out Bp hKB) hszw;cases k with
  | zero =>
   gi_wp2
   go_end0;exact ⟨⟨_,rfl⟩,.inl ⟨_,rfl,hJs⟩⟩
  | succ j =>
   have hj:((j+1:Nat):Int) - 1=(j:Int):=by omega
   rw [hj];have hjI:(j:Int)<(len:Int):=by omega
   have hjN:j<len:=by omega
   have hj0:(0:Int)≤(j:Int):=by omega
   have wj:IntKind.i64.wrap ((j:Int) - 1)=(j:Int) - 1:=by rw [IntWalk.i64_left];unfold wrap64;omega
   obtain ⟨b,o,rfl⟩:=hs (by omega);obtain ⟨hKb,hVe⟩:=hV b o rfl (by omega);have hbW:b<wr.heap.size:=Nat.lt_of_lt_of_le (HKS.out b hKb) hszw;obtain ⟨g0,g1⟩:=hVe j hjN;have c0:=(HB.out.cell (p:=⟨b,o+j*2,none⟩) hKb).trans g0;have c1:=(HB.out.cell (p:=⟨b,o+j*2+1,none⟩) hKb).trans g1;clear g0 g1;obtain ⟨fn,tmps,assign,body,hy,hR⟩:=hY _ ⟨j,hjN⟩ _ hJs (by rw [lM];omega);simp only at hy;clear hb hV hVe;gi_wp2
   refine hR.mono ?_;rintro e W3 (⟨rfl,hJ3,hk3⟩ | ⟨rfl,hJx3⟩)
   · gi_wp2
     go_roundw
     case rel=>exact ⟨j,by omega,by go_num,by rw [down_step hjN];exact hJ3,HB.out.trans hk3⟩
     case measure=>simp [intOf]
   · gi_wp2
     refine bodyPost_ret (results_none rfl _ _ _) rfl ?_;exact ⟨⟨_,rfl⟩,.inr ⟨_,by rw [← down_step hjN];exact pg _ _,hJx3⟩⟩
theorem Ap (n:Nat) (a:Option Addr) (len cap:Nat) (w:World) :
 CallsIn Fence.wide n Tryz.prog 112 #[.slice a len cap] w fun e w'=>e=.returned (.func (.func 164) #[] #[.pointer (some ⟨w.heap.size,0,none⟩)]) ∧
  w'=w.alloc (.cells #[.slice a len cap] 64):=by
 refine callsIn_of_wp Tryz.func112 rfl trivial ?_ rfl;simp only [Tryz.ntmps112,List.size_toArray,List.length_cons,List.length_nil,Nat.reduceAdd,Nat.reduceSub,Array.replicate_succ,Array.replicate_zero,List.push_toArray,List.append_toArray,List.nil_append,List.cons_append];gi_wp2
 go_ret;exact ⟨rfl,rfl⟩
theorem tV (n:Nat) (hn:1≤n) (Bp:Nat) (K:Nat→Prop) (a:Option Addr) (len cap:Nat) (u0 u1:Nat→Value) (w:World)
 (hKB:K Bp) (hp0:w.cell? ⟨Bp,0,none⟩=some (.slice a len cap)) (hs:1≤len→∃b o,a=some ⟨b,o,none⟩) (hroom:len≤cap) (hbig:cap≤maxLen) (hKs:∀k,K k→k<w.heap.size)
 (hV:B3 K w a len u0 u1) :
 SeqStopsK Fence.wide n Tryz.prog 164 #[.pointer (pT Bp)] (fun x:Fin len=>#[iT (x.1:Nat),.agg #[u0 x.1,u1 x.1]]) (aC K) (fun ys=>ys=bI len 0) (fun pre=>pre <+: bI len 0) len w :=
 fun l J Jx W hW _ _ hY h0=>yt n l Bp K hn a len cap u0 u1 J Jx W hY hKB (cell_later hW hp0) hs hroom hbig (fun k hk=>Nat.lt_of_lt_of_le (hKs k hk) hW.size) (fun b o e h1=>⟨(hV b o e h1).1,fun i hi=>by obtain ⟨g0,g1⟩:=(hV b o e h1).2 i hi;exact ⟨cell_later hW g0,cell_later hW g1⟩⟩) h0
end Go.Proofs.YtlmgojlffgkciaaGreat

namespace Go.Proofs.YtlmgojlffgkciaaGreat
open Go.RowKit Go.Shelf
def ny (ds:List Nat):List Deferred:=ds.map (fun D=>{ target:=.collected D,args:=#[] })
def cX (base:Nat) (w:World) (ds:List Nat):Prop:=ds.Nodup∧∀D ∈ ds,base≤D∧w.heap[D]?=some (.deferred (some []))
theorem iP {F:Fence} {n base:Nat} {P:Program} {fn:Func} {tmps:Array Value} {R:Ending→World→Prop}:∀(ds:List Nat) (W:World),cX base W ds →
 (∀W',Below base W W'→(∀(k:Nat) (o:Obj),W.heap[k]?=some o→o.isCells=true→W'.heap[k]?=some o)→LeavesInM F n P fn tmps R [] .returning W')→LeavesInM F n P fn tmps R (ny ds) .returning W
 | [],W,_,h=>h W (Below.refl _ _) (fun _ _ h _=>h)
 | D :: ds,W,hm,h=>by
  obtain ⟨hnd,hD⟩:=hm
  rw [List.nodup_cons] at hnd
  have hk:=(hD D (List.mem_cons_self ..)).2
  have hb:=(hD D (List.mem_cons_self ..)).1
  have hB:Below base W (W.putObj D (.deferred none)):=⟨rfl,rfl,rfl,by simp [World.putObj],fun k hk=>World.putObj_heap_other (by omega)⟩
  refine ⟨by simp,.inl ⟨D,_,rfl,run_takeDeferred hk,?_⟩⟩
  refine iP ds (W.putObj D (.deferred none)) ⟨hnd.2,fun D' hD'=>⟨(hD D' (List.mem_cons_of_mem _ hD')).1,?_⟩⟩ (fun W' hb' hc'=>h W' (hB.trans hb') (fun k o ho hc=>hc' k o ?_ hc))
  · have hne:D'≠D:=fun e=>hnd.1 (e ▸ hD')
    exact (World.putObj_heap_other hne).trans (hD D' (List.mem_cons_of_mem _ hD')).2
  · have hne:k≠D:=fun e=>by subst e;rw [hk] at ho;cases ho;cases hc
    exact (World.putObj_heap_other hne).trans ho
theorem mo {n₀ B:Nat} {W W':World} {t:TypeId} {v:Value} (h:Below n₀ W W') (hv:Boxed W B t v) (hv':Boxed W' B t v):aC (fun k=>k<n₀∨k=B) W W' :=
 ⟨h.os,h.tape,h.output,h.size,fun k hk=>by
  rcases hk with hk | rfl
  · exact h.block k hk
  · exact (show W'.heap[k]?=_ from hv').trans (show W.heap[k]?=_ from hv).symm⟩
theorem qg {β:Type} {base:Nat} {ds:List Nat} {B:Nat} (hB:∀D ∈ ds,D<B):OwnFrom B (fun (_:β) W=>cX base W ds):=fun _ X Y row hs hg hr =>
 ⟨hs.1,fun D hD=>⟨(hs.2 D hD).1,by
  have h0:=(hs.2 D hD).2
  refine (hg.block D (Array.getElem?_eq_some_iff.1 h0).1 (fun e=>?_)).trans h0
  have:=(hr D e.symm).1
  have:=hB D hD
  omega⟩⟩
theorem cX.others {base:Nat} {w w':World} {ds:List Nat} (h:cX base w ds) (hk:KeepsOthers w w'):cX base w' ds:=⟨h.1,fun D hD=>⟨(h.2 D hD).1,hk.same D _ (h.2 D hD).2 rfl⟩⟩
end Go.Proofs.YtlmgojlffgkciaaGreat
