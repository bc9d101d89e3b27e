/- Walks. -/
import Derived.Test.YtpobkmjicbobdaaGreatBn17
import Derived.Maps.OwnIn
namespace Go.Proofs.YtpobkmjicbobdaaGreat
set_option maxRecDepth 100000
set_option maxHeartbeats 40000000
open Go.RowKit Go.Shelf
variable {P:List (List ac)} {base n:Nat} {vs:List Value} {w w':World}
section
attribute [local go_sem] Oper.semAt_some
def BM (K:Nat→Prop) (w:World) (a:Option Addr) (len:Nat) (u0:Nat→Value):Prop:=∀b o,a=some ⟨b,o,none⟩→1≤len→K b∧∀i,i<len→w.cell? ⟨b,o+i,none⟩=some (u0 i)
theorem xU (n l Bp:Nat) (K:Nat→Prop) (hn:1≤n) (a:Option Addr) (len cap:Nat) (u0:Nat→Value) (J Jx:List (Fin len)→World→Prop) (W:World)
 (hY:∀pre (x:Fin len) W1,J pre W1→pre.length<len→YieldAt Fence.wide (n - 1) Tryz.prog l #[iT (x.1:Nat),u0 x.1] W1 fun e W' =>
  (e=.returned (.bool true)∧J (pre++[x]) W'∧bE K W1 W')∨(e=.returned (.bool false)∧Jx (pre++[x]) W'))
 (hKB:K Bp) (hp0:W.cell? ⟨Bp,0,none⟩=some (.slice a len cap)) (hs:1≤len→∃b o,a=some ⟨b,o,none⟩) (hroom:len≤cap) (hbig:cap≤maxLen) (hKs:∀k,K k→k<W.heap.size)
 (hV:BM K W a len u0) (h0:J [] W) :
 CallsIn Fence.wide n Tryz.prog 252 #[.func (.yield l) #[] #[],.pointer (pT Bp)] W fun e W'=>(∃v,e=.returned v) ∧
  ((∃ys,ys=cf len 0∧J ys W')∨(∃pre,pre <+: cf len 0∧Jx pre W')):=by
 unfold maxLen at hbig;have HKS:=b6 hKs;clear hKs;refine callsIn_of_wp Tryz.func252 rfl trivial ?_ rfl;simp only [Tryz.ntmps252,List.size_toArray,List.length_cons,List.length_nil,Nat.reduceAdd,Nat.reduceSub,Array.replicate_succ,Array.replicate_zero,List.push_toArray,List.append_toArray,List.nil_append,List.cons_append];have wl:IntKind.i64.wrap ((len:Int) - 1)=(len:Int) - 1:=by rw [IntWalk.i64_left];unfold wrap64;omega
 gi_wp2
 gi_loopw [3] (fun iv wr=>∃k:Nat,k≤len∧iv=iT ((k:Int) - 1)∧J (cf len k) wr∧bE K W wr) (fun iv _=>(intOf iv+1).toNat)
 case atStart=>exact ⟨len,Nat.le_refl _,rfl,by rw [pn];exact h0,bE.refl _ _⟩
 case round =>
  obtain ⟨k,hk,rfl,hJs,hb⟩:=hrel;have HB:Hid (bE K W wr):=hb;have hcc:=(hb.cell (p:=⟨Bp,0,none⟩) hKB).trans hp0;have hszw:=hb.size;have hBw:Bp<wr.heap.size:=Nat.lt_of_lt_of_le (HKS.out Bp hKB) hszw;cases k with
  | zero =>
   gi_wp2
   go_end0;exact ⟨⟨_,rfl⟩,.inl ⟨_,rfl,hJs⟩⟩
  | succ j =>
   have hj:((j+1:Nat):Int) - 1=(j:Int):=by omega
   rw [hj];have hjI:(j:Int)<(len:Int):=by omega
   have hjN:j<len:=by omega
   have hj0:(0:Int)≤(j:Int):=by omega
   have wj:IntKind.i64.wrap ((j:Int) - 1)=(j:Int) - 1:=by rw [IntWalk.i64_left];unfold wrap64;omega
   obtain ⟨b,o,rfl⟩:=hs (by omega);obtain ⟨hKb,hVe⟩:=hV b o rfl (by omega);have hbW:b<wr.heap.size:=Nat.lt_of_lt_of_le (HKS.out b hKb) hszw;have g0:=hVe j hjN;have c0:=(HB.out.cell (p:=⟨b,o+j,none⟩) hKb).trans g0;clear g0;obtain ⟨fn,tmps,assign,body,hy,hR⟩:=hY _ ⟨j,hjN⟩ _ hJs (by rw [ly];omega);simp only at hy;clear hb hV hVe;gi_wp2
   refine hR.mono ?_;rintro e W3 (⟨rfl,hJ3,hk3⟩ | ⟨rfl,hJx3⟩)
   · gi_wp2
     go_roundw
     case rel=>exact ⟨j,by omega,by go_num,by rw [down_step hjN];exact hJ3,HB.out.trans hk3⟩
     case measure=>simp [intOf]
   · gi_wp2
     refine bodyPost_ret (results_none rfl _ _ _) rfl ?_;exact ⟨⟨_,rfl⟩,.inr ⟨_,by rw [← down_step hjN];exact pl _ _,hJx3⟩⟩
theorem zQ (n:Nat) (a:Option Addr) (len cap:Nat) (w:World) :
 CallsIn Fence.wide n Tryz.prog 235 #[.slice a len cap] w fun e w'=>e=.returned (.func (.func 252) #[] #[.pointer (some ⟨w.heap.size,0,none⟩)]) ∧
  w'=w.alloc (.cells #[.slice a len cap] 102):=by
 refine callsIn_of_wp Tryz.func235 rfl trivial ?_ rfl;simp only [Tryz.ntmps235,List.size_toArray,List.length_cons,List.length_nil,Nat.reduceAdd,Nat.reduceSub,Array.replicate_succ,Array.replicate_zero,List.push_toArray,List.append_toArray,List.nil_append,List.cons_append];gi_wp2
 go_ret;exact ⟨rfl,rfl⟩
theorem tI (n:Nat) (hn:1≤n) (Bp:Nat) (K:Nat→Prop) (a:Option Addr) (len cap:Nat) (u0:Nat→Value) (w:World)
 (hKB:K Bp) (hp0:w.cell? ⟨Bp,0,none⟩=some (.slice a len cap)) (hs:1≤len→∃b o,a=some ⟨b,o,none⟩) (hroom:len≤cap) (hbig:cap≤maxLen) (hKs:∀k,K k→k<w.heap.size)
 (hV:BM K w a len u0) :
 SeqStopsK Fence.wide n Tryz.prog 252 #[.pointer (pT Bp)] (fun x:Fin len=>#[iT (x.1:Nat),u0 x.1]) (bE K) (fun ys=>ys=cf len 0) (fun pre=>pre <+: cf len 0) len w :=
 fun l J Jx W hW _ _ hY h0=>xU n l Bp K hn a len cap u0 J Jx W hY hKB (cell_later hW hp0) hs hroom hbig (fun k hk=>Nat.lt_of_lt_of_le (hKs k hk) hW.size) (fun b o e h1=>⟨(hV b o e h1).1,fun i hi=>by exact cell_later hW ((hV b o e h1).2 i hi)⟩) h0
def BL (K:Nat→Prop) (w:World) (a:Option Addr) (len:Nat) (u0 u1:Nat→Value):Prop:=∀b o,a=some ⟨b,o,none⟩→1≤len→K b∧∀i,i<len→w.cell? ⟨b,o+i*2,none⟩=some (u0 i)∧w.cell? ⟨b,o+i*2+1,none⟩=some (u1 i)
theorem xS (n l Bp:Nat) (K:Nat→Prop) (hn:1≤n) (a:Option Addr) (len cap:Nat) (u0 u1:Nat→Value) (J Jx:List (Fin len)→World→Prop) (W:World)
 (hY:∀pre (x:Fin len) W1,J pre W1→pre.length<len→YieldAt Fence.wide (n - 1) Tryz.prog l #[iT (x.1:Nat),.agg #[u0 x.1,u1 x.1]] W1 fun e W' =>
  (e=.returned (.bool true)∧J (pre++[x]) W'∧bE K W1 W')∨(e=.returned (.bool false)∧Jx (pre++[x]) W'))
 (hKB:K Bp) (hp0:W.cell? ⟨Bp,0,none⟩=some (.slice a len cap)) (hs:1≤len→∃b o,a=some ⟨b,o,none⟩) (hroom:len≤cap) (hbig:cap≤maxLen) (hKs:∀k,K k→k<W.heap.size)
 (hV:BL K W a len u0 u1) (h0:J [] W) :
 CallsIn Fence.wide n Tryz.prog 206 #[.func (.yield l) #[] #[],.pointer (pT Bp)] W fun e W'=>(∃v,e=.returned v) ∧
  ((∃ys,ys=cf len 0∧J ys W')∨(∃pre,pre <+: cf len 0∧Jx pre W')):=by
 unfold maxLen at hbig;have HKS:=b6 hKs;clear hKs;refine callsIn_of_wp Tryz.func206 rfl trivial ?_ rfl;simp only [Tryz.ntmps206,List.size_toArray,List.length_cons,List.length_nil,Nat.reduceAdd,Nat.reduceSub,Array.replicate_succ,Array.replicate_zero,List.push_toArray,List.append_toArray,List.nil_append,List.cons_append];have wl:IntKind.i64.wrap ((len:Int) - 1)=(len:Int) - 1:=by rw [IntWalk.i64_left];unfold wrap64;omega
 gi_wp2
 gi_loopw [3] (fun iv wr=>∃k:Nat,k≤len∧iv=iT ((k:Int) - 1)∧J (cf len k) wr∧bE K W wr) (fun iv _=>(intOf iv+1).toNat)
 case atStart=>exact ⟨len,Nat.le_refl _,rfl,by rw [pn];exact h0,bE.refl _ _⟩
 case round =>
  obtain ⟨k,hk,rfl,hJs,hb⟩:=hrel;have HB:Hid (bE K W wr):=hb;have hcc:=(hb.cell (p:=⟨Bp,0,none⟩) hKB).trans hp0;have hszw:=hb.size;have hBw:Bp<wr.heap.size:=Nat.lt_of_lt_of_le (HKS.out Bp hKB) hszw;cases k with
  | zero =>
   gi_wp2
   go_end0;exact ⟨⟨_,rfl⟩,.inl ⟨_,rfl,hJs⟩⟩
  | succ j =>
   have hj:((j+1:Nat):Int) - 1=(j:Int):=by omega
   rw [hj];have hjI:(j:Int)<(len:Int):=by omega
   have hjN:j<len:=by omega
   have hj0:(0:Int)≤(j:Int):=by omega
   have wj:IntKind.i64.wrap ((j:Int) - 1)=(j:Int) - 1:=by rw [IntWalk.i64_left];unfold wrap64;omega
   obtain ⟨b,o,rfl⟩:=hs (by omega);obtain ⟨hKb,hVe⟩:=hV b o rfl (by omega);have hbW:b<wr.heap.size:=Nat.lt_of_lt_of_le (HKS.out b hKb) hszw;obtain ⟨g0,g1⟩:=hVe j hjN;have c0:=(HB.out.cell (p:=⟨b,o+j*2,none⟩) hKb).trans g0;have c1:=(HB.out.cell (p:=⟨b,o+j*2+1,none⟩) hKb).trans g1;clear g0 g1;obtain ⟨fn,tmps,assign,body,hy,hR⟩:=hY _ ⟨j,hjN⟩ _ hJs (by rw [ly];omega);simp only at hy;clear hb hV hVe;gi_wp2
   refine hR.mono ?_;rintro e W3 (⟨rfl,hJ3,hk3⟩ | ⟨rfl,hJx3⟩)
   · gi_wp2
     go_roundw
     case rel=>exact ⟨j,by omega,by go_num,by rw [down_step hjN];exact hJ3,HB.out.trans hk3⟩
     case measure=>simp [intOf]
   · gi_wp2
     refine bodyPost_ret (results_none rfl _ _ _) rfl ?_;exact ⟨⟨_,rfl⟩,.inr ⟨_,by rw [← down_step hjN];exact pl _ _,hJx3⟩⟩
theorem zP (n:Nat) (a:Option Addr) (len cap:Nat) (w:World) :
 CallsIn Fence.wide n Tryz.prog 155 #[.slice a len cap] w fun e w'=>e=.returned (.func (.func 206) #[] #[.pointer (some ⟨w.heap.size,0,none⟩)]) ∧
  w'=w.alloc (.cells #[.slice a len cap] 61):=by
 refine callsIn_of_wp Tryz.func155 rfl trivial ?_ rfl;simp only [Tryz.ntmps155,List.size_toArray,List.length_cons,List.length_nil,Nat.reduceAdd,Nat.reduceSub,Array.replicate_succ,Array.replicate_zero,List.push_toArray,List.append_toArray,List.nil_append,List.cons_append];gi_wp2
 go_ret;exact ⟨rfl,rfl⟩
theorem tH (n:Nat) (hn:1≤n) (Bp:Nat) (K:Nat→Prop) (a:Option Addr) (len cap:Nat) (u0 u1:Nat→Value) (w:World)
 (hKB:K Bp) (hp0:w.cell? ⟨Bp,0,none⟩=some (.slice a len cap)) (hs:1≤len→∃b o,a=some ⟨b,o,none⟩) (hroom:len≤cap) (hbig:cap≤maxLen) (hKs:∀k,K k→k<w.heap.size)
 (hV:BL K w a len u0 u1) :
 SeqStopsK Fence.wide n Tryz.prog 206 #[.pointer (pT Bp)] (fun x:Fin len=>#[iT (x.1:Nat),.agg #[u0 x.1,u1 x.1]]) (bE K) (fun ys=>ys=cf len 0) (fun pre=>pre <+: cf len 0) len w :=
 fun l J Jx W hW _ _ hY h0=>xS n l Bp K hn a len cap u0 u1 J Jx W hY hKB (cell_later hW hp0) hs hroom hbig (fun k hk=>Nat.lt_of_lt_of_le (hKs k hk) hW.size) (fun b o e h1=>⟨(hV b o e h1).1,fun i hi=>by obtain ⟨g0,g1⟩:=(hV b o e h1).2 i hi;exact ⟨cell_later hW g0,cell_later hW g1⟩⟩) h0
end
def nd (ds:List Nat):List Deferred:=ds.map (fun D=>{ target:=.collected D,args:=#[] })
def cW (base:Nat) (w:World) (ds:List Nat):Prop:=ds.Nodup∧∀D ∈ ds,base≤D∧w.heap[D]?=some (.deferred (some []))
theorem iF {F:Fence} {n base:Nat} {P:Program} {fn:Func} {tmps:Array Value} {R:Ending→World→Prop}:∀(ds:List Nat) (W:World),cW base W ds →
 (∀W',Below base W W'→(∀(k:Nat) (o:Obj),W.heap[k]?=some o→o.isCells=true→W'.heap[k]?=some o)→LeavesInM F n P fn tmps R [] .returning W')→LeavesInM F n P fn tmps R (nd ds) .returning W
 | [],W,_,h=>h W (Below.refl _ _) (fun _ _ h _=>h)
 | D :: ds,W,hm,h=>by
  obtain ⟨hnd,hD⟩:=hm
  rw [List.nodup_cons] at hnd
  have hk:=(hD D (List.mem_cons_self ..)).2
  have hb:=(hD D (List.mem_cons_self ..)).1
  have hB:Below base W (W.putObj D (.deferred none)):=⟨rfl,rfl,rfl,by simp [World.putObj],fun k hk=>World.putObj_heap_other (by omega)⟩
  refine ⟨by simp,.inl ⟨D,_,rfl,run_takeDeferred hk,?_⟩⟩
  refine iF ds (W.putObj D (.deferred none)) ⟨hnd.2,fun D' hD'=>⟨(hD D' (List.mem_cons_of_mem _ hD')).1,?_⟩⟩ (fun W' hb' hc'=>h W' (hB.trans hb') (fun k o ho hc=>hc' k o ?_ hc))
  · have hne:D'≠D:=fun e=>hnd.1 (e ▸ hD')
    exact (World.putObj_heap_other hne).trans (hD D' (List.mem_cons_of_mem _ hD')).2
  · have hne:k≠D:=fun e=>by subst e;rw [hk] at ho;cases ho;cases hc
    exact (World.putObj_heap_other hne).trans ho
theorem mi {n₀ B:Nat} {W W':World} {t:TypeId} {v:Value} (h:Below n₀ W W') (hv:Boxed W B t v) (hv':Boxed W' B t v):bE (fun k=>k<n₀∨k=B) W W' :=
 ⟨h.os,h.tape,h.output,h.size,fun k hk=>by
  rcases hk with hk | rfl
  · exact h.block k hk
  · exact (show W'.heap[k]?=_ from hv').trans (show W.heap[k]?=_ from hv).symm⟩
theorem qt {β:Type} {ds:List Nat} {B:Nat} (hB:∀D ∈ ds,D<B):OwnFrom B (fun (_:β) W=>cW base W ds):=fun _ X Y row hs hg hr =>
 ⟨hs.1,fun D hD=>⟨(hs.2 D hD).1,by
  have h0:=(hs.2 D hD).2
  refine (hg.block D (Array.getElem?_eq_some_iff.1 h0).1 (fun e=>?_)).trans h0
  have:=(hr D e.symm).1
  have:=hB D hD
  omega⟩⟩
theorem cW.others {ds:List Nat} (h:cW base w ds) (hk:KeepsOthers w w'):cW base w' ds:=⟨h.1,fun D hD=>⟨(h.2 D hD).1,hk.same D _ (h.2 D hD).2 rfl⟩⟩
section
attribute [local go_sem] Oper.semAt_some
def eJ (w:World) (vs:List Value) (P:List (List ac)):Prop:=vs.length=P.length∧∀(i:Nat) A,P[i]?=some A→∃s m d,vs[i]?=some (.slice s m d)∧aj w s m d A
theorem eJ.one {s:Option Addr} {m d:Nat} {A:List ac} (h:aj w s m d A):eJ w [.slice s m d] [A]:=by
 refine ⟨rfl,fun i B hB=>?_⟩;cases i with
 | zero=>simp at hB;subst hB;exact ⟨s,m,d,rfl,h⟩
 | succ i=>simp at hB
theorem eJ.append {vs':List Value} {P':List (List ac)} (h:eJ w vs P) (h':eJ w vs' P'):eJ w (vs++vs') (P++P'):=by
 refine ⟨by rw [List.length_append,List.length_append,h.1,h'.1],fun i A hA=>?_⟩;by_cases hi:i<P.length
 · rw [List.getElem?_append_left hi] at hA;rw [List.getElem?_append_left (by rw [h.1];exact hi)];exact h.2 i A hA
 · rw [List.getElem?_append_right (by omega)] at hA;rw [List.getElem?_append_right (by rw [h.1];omega),h.1];exact h'.2 _ A hA
theorem eJ.map {α:Type} {f:α→Value} {g:α→List ac} (h:∀x,∃s m d,f x=.slice s m d∧aj w s m d (g x)) (L:List α):eJ w (L.map f) (L.map g):=by
 refine ⟨by simp,fun i A hA=>?_⟩;rw [List.getElem?_map] at hA ⊢;cases hx:L[i]? with
 | none=>rw [hx] at hA;cases hA
 | some x =>
  rw [hx] at hA;simp at hA;subst hA;obtain ⟨s,m,d,e,hE⟩:=h x;exact ⟨s,m,d,by simp [e],hE⟩
theorem eJ.keep (h:eJ w vs P) (hb:Bl w w'):eJ w' vs P :=
 ⟨h.1,fun i A hA=>by obtain ⟨s,m,d,e,hE⟩:=h.2 i A hA;exact ⟨s,m,d,e,hE.keep hb⟩⟩
theorem pm {α β:Type} (B:List α) (d:α) (f:α→β):(cf B.length 0).map (fun x=>f ((B[x.1]?).getD d))=B.reverse.map f:=by
 unfold cf;rw [List.drop_zero,List.map_reverse,List.map_reverse];congr 1
 apply List.ext_getElem
 · simp
 · intro i h1 h2;simp at h1;simp
theorem xL {α β:Type} (B:List α) (d:α) (f:α→β) (h:B.length=n):(cf n 0).map (fun x=>f ((B[x.1]?).getD d))=B.reverse.map f:=by
 subst h;exact pm B d f
theorem az.heads {lo:Nat} {a:Option Addr} {c:Nat} {B:List ag} (h:az lo w a n c B) :
 ∃t:Nat→Option Addr × Nat × Nat,(∀b o,a=some ⟨b,o,none⟩→1≤n→b<w.heap.size∧∀i,i<n→w.cell? ⟨b,o+i*2,none⟩=some (.slice (t i).1 (t i).2.1 (t i).2.2)∧w.cell? ⟨b,o+i*2+1,none⟩=some (iT ((B[i]?).getD ([],0)).2)) ∧
  ∀i,i<n→aj w (t i).1 (t i).2.1 (t i).2.2 ((B[i]?).getD ([],0)).1:=by
 have hl:=h.length;by_cases hn:1≤n
 · obtain ⟨b,o,rfl,hb⟩:=h.form hn;have each:∀i,i<n→∃t:Option Addr × Nat × Nat,w.cell? ⟨b,o+i*2,none⟩=some (.slice t.1 t.2.1 t.2.2)∧w.cell? ⟨b,o+i*2+1,none⟩=some (iT ((B[i]?).getD ([],0)).2)∧aj w t.1 t.2.1 t.2.2 ((B[i]?).getD ([],0)).1:=by
    intro i hi;obtain ⟨_,s,m,d,c0,c1,hE⟩:=h.runs _ rfl i (by omega);refine ⟨(s,m,d),c0,?_,?_⟩
    · rw [List.getElem?_eq_getElem (by omega:i<B.length)];exact c1
    · rw [List.getElem?_eq_getElem (by omega:i<B.length)];exact hE.1
   obtain ⟨t,ht⟩:=Deep.choose_lt each;refine ⟨t,?_,fun i hi=>(ht i hi).2.2⟩;rintro b' o' e _;cases e;exact ⟨hb,fun i hi=>⟨(ht i hi).1,(ht i hi).2.1⟩⟩
 · exact ⟨fun _=>(none,0,0),fun b o e h1=>absurd h1 hn,fun i hi=>absurd hi (by omega)⟩
def iD (M:List ac) (V:List (List ag)) (i:Nat):List (List ac):=M :: (V.take i).flatMap (fun B=>B.reverse.map (·.1))
theorem rl {M:List ac} {V:List (List ag)} {i:Nat} {B:List ag} (h:V[i]?=some B):iD M V (i+1)=iD M V i++B.reverse.map (·.1):=by
 unfold iD;rw [List.take_add_one,h];simp
theorem td (M:List ac) (A B C:List ag):iD M [A,B,C] 3=cU M A B C:=by
 unfold iD cU;simp
def vg (w0 w:World) (P:List (List ac)) (e:Ending) (w':World):Prop:=(∃g n c vs,e=.returned (sL g n c)∧w'.ownsRow w.heap.size 28 1 (sL g n c) n vs∧eJ w0 vs P)∧Bl w w'
theorem qF (lo:Nat) (q:Int) (am ak:Option Addr) (nm cm nk ck:Nat) (a0 a1 a2:Option Addr) (n0 c0 n1 c1 n2 c2:Nat) (M:List ac) (A B C:List ag) (w0 w:World) (hw0:Bl w0 w) (hM:aj w0 am nm cm M) (h0:az lo w0 a0 n0 c0 A) (h1:az lo w0 a1 n1 c1 B) (h2:az lo w0 a2 n2 c2 C) (s0:n0≤8) (s1:n1≤8) (s2:n2≤8) :
 CallsIn Fence.wide 4 Tryz.prog 94 #[.agg #[iT q,.slice am nm cm,.slice a0 n0 c0,.slice a1 n1 c1,.slice a2 n2 c2,.slice ak nk ck]] w (vg w0 w (cU M A B C)):=by
 have HW0:=b6 hw0;clear hw0;have HL:Hid (∀i,i<3→∃ai ni ci Bi,(∀w',(Instr.index 80 (.agg #[.slice a0 n0 c0,.slice a1 n1 c1,.slice a2 n2 c2]) (iT (i:Nat))).run Tryz.prog w'=.ok (.slice ai ni ci) w')∧az lo w0 ai ni ci Bi∧ni≤8∧[A,B,C][i]?=some Bi):=by
  intro i hi;have:i=0∨i=1∨i=2:=by omega
  rcases this with rfl | rfl | rfl
  · exact ⟨a0,n0,c0,A,fun w'=>zt w' _ _ _ _ _ _ _ _ _,h0,s0,rfl⟩
  · exact ⟨a1,n1,c1,B,fun w'=>zq w' _ _ _ _ _ _ _ _ _,h1,s1,rfl⟩
  · exact ⟨a2,n2,c2,C,fun w'=>zm w' _ _ _ _ _ _ _ _ _,h2,s2,rfl⟩
 clear h0 h1 h2 s0 s1 s2;have HM:=b6 hM;clear hM;obtain ⟨i0,hi,hz0,hz1,hz2⟩:=info_parts Tryz.infoEntS;refine callsIn_of_wp_marks Tryz.func94 rfl trivial ?_ rfl;simp only [Tryz.ntmps94,List.size_toArray,List.length_cons,List.length_nil,Nat.reduceAdd,Nat.reduceSub,Array.replicate_succ,Array.replicate_zero,List.push_toArray,List.append_toArray,List.nil_append,List.cons_append];gi_wp2
 obtain ⟨W0,hW0⟩:=aS ((((w.alloc (.cells #[iT q,.slice am nm cm,.slice a0 n0 c0,.slice a1 n1 c1,.slice a2 n2 c2,.slice ak nk ck] 82)).alloc (.cells #[.slice am nm cm] 28)).alloc (.cells #[sL (w.heap.size+1) 1 1] 102)));have hB0:Bl w W0:=by rw [hW0];exact (((Below.refl _ w).alloc (Nat.le_refl _) _).alloc (by simp) _).alloc (by simp;omega) _
 have bA0:Boxed W0 (w.heap.size+1+1) 102 (sL (w.heap.size+1) 1 1):=by
  have:=Boxed.new ((w.alloc (.cells #[iT q,.slice am nm cm,.slice a0 n0 c0,.slice a1 n1 c1,.slice a2 n2 c2,.slice ak nk ck] 82)).alloc (.cells #[.slice am nm cm] 28)) 102 (sL (w.heap.size+1) 1 1);rw [World.size_alloc,World.size_alloc] at this;rw [hW0];exact this
 have hr0:W0.ownsRow w.heap.size 28 1 (sL (w.heap.size+1) 1 1) 1 [.slice am nm cm]:=by
  have:=(World.ownsRow_lit (base:=w.heap.size) (e:=28) (size:=1) (w.alloc (.cells #[iT q,.slice am nm cm,.slice a0 n0 c0,.slice a1 n1 c1,.slice a2 n2 c2,.slice ak nk ck] 82)) #[.slice am nm cm] 1 (by simp) (by unfold maxLen;omega) rfl).alloc (.cells #[sL (w.heap.size+1) 1 1] 102);rw [World.size_alloc] at this;rw [hW0];exact this
 rw [← hW0];clear hW0;refine wpIn_loop (fun a' W=>∃(i:Nat) (ds:List Nat) (u5 u14 u15 u16 u17 u25:Value) (v:Value) (vs:List Value),a'={ tmps:=#[.agg #[iT q,.slice am nm cm,.slice a0 n0 c0,.slice a1 n1 c1,.slice a2 n2 c2,.slice ak nk ck],.pointer (some ⟨w.heap.size,0,none⟩),nZ,.pointer (some ⟨w.heap.size+1+1,0,none⟩),undef,u5,undef,undef,.pointer (some ⟨w.heap.size,1,none⟩),.slice am nm cm,sL (w.heap.size+1) 1 1,.pointer (some ⟨w.heap.size,2,none⟩),.agg #[.slice a0 n0 c0,.slice a1 n1 c1,.slice a2 n2 c2],iT (i:Nat),u14,u15,u16,u17,undef,undef,undef,undef,undef,undef,undef,u25,undef],defers:=nd ds } ∧
  i≤3∧Boxed W (w.heap.size+1+1) 102 v∧W.ownsRow w.heap.size 28 1 v vs.length vs∧eJ w0 vs (iD M [A,B,C] i)∧vs.length≤1+8*i∧1≤vs.length∧cW w.heap.size W ds∧Bl w W) (fun a' _=>3 - (intOf (a'.tmps.getD 13 undef)).toNat) ?_ ?_
 · exact ⟨0,[],undef,undef,undef,undef,undef,undef,_,[.slice am nm cm],rfl,by omega,bA0,hr0,eJ.one HM.out,by simp,by simp,⟨List.nodup_nil,fun D hD=>by cases hD⟩,hB0⟩
 rintro a' W ⟨i,ds,u5,u14,u15,u16,u17,u25,v,vs,rfl,hi3,bA,hrow,hH,hvl,hv1,hmk,hB⟩;clear hB0 bA0 hr0;have HH:Hid (eJ w0 vs (iD M [A,B,C] i)):=hH;have HMK:Hid (cW w.heap.size W ds):=hmk;have HB:Hid (Bl w W):=hB;have hsW:=hB.size;clear hH hmk hB;by_cases hlt:i<3
 · have hltI:(i:Int)<3:=by omega
   have wi:IntKind.i64.wrap ((i:Int)+1)=((i+1:Nat):Int):=by rw [IntWalk.i64_left];unfold wrap64;omega
   obtain ⟨ai,ni,ci,Bi,hidx,hRi,hni,hVi⟩:=HL.out i hlt;have HR:Hid (az lo w0 ai ni ci Bi):=hRi;have HV:Hid ([A,B,C][i]?=some Bi):=hVi;clear hRi hVi;gi_wp2_with (refine ⟨trivial,?_⟩;gi_at_call 155;refine (zP _ _ _ _ _).mono ?_;rintro e w' ⟨rfl,rfl⟩)
   obtain ⟨t,ht1,ht2⟩:=HR.out.heads;have bP:=Boxed.new W 61 (.slice ai ni ci);have hB1:Bl w (W.alloc (.cells #[.slice ai ni ci] 61)):=HB.out.alloc hsW _;have hB01:=HW0.out.trans (hB1.mono HW0.out.size);have bA1:=bA.alloc (.cells #[.slice ai ni ci] 61);have hrow1:=hrow.alloc (.cells #[.slice ai ni ci] 61);have hmk1:=HMK.out.others (KeepsOthers.alloc W (.cells #[.slice ai ni ci] 61));have hmlt:∀D ∈ ds,D<W.heap.size:=fun D hD=>(Array.getElem?_eq_some_iff.1 (HMK.out.2 D hD).2).1
   have hbl:=bA.lt;have HT2:Hid (∀i,i<ni→aj w0 (t i).1 (t i).2.1 (t i).2.2 ((Bi[i]?).getD ([],0)).1):=ht2;have HMLT:Hid (∀D ∈ ds,D<W.heap.size):=hmlt;clear ht2;refine wpIn_rangeFunc_ownH rfl (by omega) (gf:=206) (lb:=#[.pointer (some ⟨W.heap.size,0,none⟩)]) rfl trivial (enters_of Tryz.func206 (by kernel_rfl) rfl)
    (tH (4 - 1) (by omega) W.heap.size (fun k=>k<w.heap.size∨k=W.heap.size) ai ni ci (fun i=>.slice (t i).1 (t i).2.1 (t i).2.2) (fun i=>iT ((Bi[i]?).getD ([],0)).2) _ (.inr rfl) bP.cell (fun h=>by obtain ⟨b,o,e,_⟩:=HR.out.form h;exact ⟨b,o,e⟩) HR.out.room HR.out.big (fun k hk=>by simp;omega) (fun b o e h1=>⟨.inl (Nat.lt_of_lt_of_le (ht1 b o e h1).1 HW0.out.size),fun i hi=>⟨cell_later hB01 ((ht1 b o e h1).2 i hi).1,cell_later hB01 ((ht1 b o e h1).2 i hi).2⟩⟩))
    bE.trans (nh (fun k hk=>by simp;omega)) (Below.refl _ _) (fun _=>rfl)
    (fun pre W'=>(∃v',Boxed W' (w.heap.size+1+1) 102 v'∧W'.ownsRow w.heap.size 28 1 v' (vs.length+pre.length) (vs++pre.map (fun x=>Value.slice (t x.1).1 (t x.1).2.1 (t x.1).2.2))∧True)∧(Boxed W' W.heap.size 61 (.slice ai ni ci)∧(Bl w W'∧cW w.heap.size W' ds)))
    (fun _ _ _=>False)
    (OwnFrom.and (Own.from (holdsRow_own w.heap.size (w.heap.size+1+1) 102 28 1 (fun pre:List (Fin ni)=>vs.length+pre.length) (fun pre=>vs++pre.map (fun x=>Value.slice (t x.1).1 (t x.1).2.1 (t x.1).2.2)) (fun _ _=>True)) _) (OwnFrom.and (Own.from (boxed_own _ _ _) _) (OwnFrom.and (ownFrom_below (Nat.le_refl _) (by simp;omega)) (qt (fun D hD=>by have:=hmlt D hD;simp;omega)))))
    (fun _ _ _ _ _ hs _ _=>hs)
    ⟨⟨v,bA1,by simpa using hrow1,trivial⟩,bP,hB1,hmk1⟩
    (fun x a' W'=>∃Bx,w.heap.size+1+1<Bx∧W'.cell? ⟨Bx,0,none⟩=some (.slice (t x.1).1 (t x.1).2.1 (t x.1).2.2)∧a'={ tmps:=#[.agg #[iT q,.slice am nm cm,.slice a0 n0 c0,.slice a1 n1 c1,.slice a2 n2 c2,.slice ak nk ck],.pointer (some ⟨w.heap.size,0,none⟩),nZ,.pointer (some ⟨w.heap.size+1+1,0,none⟩),undef,.slice ai ni ci,undef,.pointer (pT Bx),.pointer (some ⟨w.heap.size,1,none⟩),.slice am nm cm,sL (w.heap.size+1) 1 1,.pointer (some ⟨w.heap.size,2,none⟩),.agg #[.slice a0 n0 c0,.slice a1 n1 c1,.slice a2 n2 c2],iT (i:Nat),.bool true,.slice ai ni ci,.slice ai ni ci,.func (.func 206) #[] #[.pointer (some ⟨W.heap.size,0,none⟩)],iT (x.1:Nat),.agg #[.slice (t x.1).1 (t x.1).2.1 (t x.1).2.2,iT ((Bi[x.1]?).getD ([],0)).2],undef,undef,undef,undef,undef,u25,undef],defers:=[] })
    (fun x a' _ X Y row hs hg hr=>by obtain ⟨Bx,h1,h2,h3⟩:=hs;exact ⟨Bx,h1,cell_kept h2 hg (fun r e=>(hr r e).2),h3⟩)
    ?assign ?body ?done ?stop
   case assign =>
    rintro l pre x W2 K ⟨⟨v2,bA2,hrow2,_⟩,bP2,hB2,hmk2⟩ hK;have hlt2:=bA2.lt;gi_wp2
    exact hK _ _ ((KeepsOthers.alloc _ _).from _) (mi ((Below.refl _ W2).alloc hB2.size _) bP2 (bP2.alloc _)) ⟨⟨v2,bA2.alloc _,hrow2.alloc _,trivial⟩,bP2.alloc _,hB2.alloc hB2.size _,hmk2.others (KeepsOthers.alloc _ _)⟩ ⟨W2.heap.size,hlt2,by simp,rfl⟩
   case body =>
    rintro l pre x a' W2 hl _ ⟨⟨v2,bA2,hrow2,_⟩,bP2,hB2,hmk2⟩ ⟨Bx,hBx,cx,rfl⟩ hpl;have cA:=bA2.cell;have HMK2:Hid (cW w.heap.size W2 ds):=hmk2;have HB2:Hid (Bl w W2):=hB2;have hs2:=hB2.size;clear hmk2 hB2;gi_wp2_with (gi_at_builtin;refine wpListIn_append_own _ rfl _ _ 102 rfl w.heap.size 28 i0 nZ 1 24 Tryz.underlying102 hi hz0 hz1 hz2 rfl (by decide) _ _ _ rfl (hrow2.alloc _) ⟨W2.heap.size,0,none⟩ 1 1 [Value.slice (t x.1).1 (t x.1).2.1 (t x.1).2.2] rfl rfl (cell_one_new _ _ _) (by simp [Value.oneCell']) (by unfold maxLen;omega) (by omega) (by simp;omega) ?_;intro v' w1 hown' hgrow _;obtain ⟨g',cap',rfl⟩:=ownsRow_succ hown';obtain ⟨hv1,hv2,hr2,hk2,hb2⟩:=bA2.appended (by decide) hrow2 hs2 (by omega) hown' hgrow;have hc1:=hv1.cell;have hf1:=hv1.frozen)
    have bP3:Boxed (w1.setCell ⟨w.heap.size+1+1,0,none⟩ (sL g' (vs.length+pre.length+1) cap')) W.heap.size 61 (.slice ai ni ci):=((bP2.alloc _).kept hgrow (bP2.not_row (by decide) hrow2)).other (by omega) _;refine ⟨hk2.from _,mi hb2 bP2 bP3,⟨⟨_,hv2,?_,trivial⟩,bP3,HB2.out.trans hb2,HMK2.out.others hk2⟩⟩;rw [List.map_append,List.length_append,← List.append_assoc];exact hr2
   case done =>
    rintro D xs W2 hD rfl ⟨⟨v2,bA2,hrow2,_⟩,bP2,hB2,hmk2⟩ hK;gi_wp2
    have hmp:=xL Bi ([],0) (·.1) HR.out.length;have hdl:(cf ni 0).length=ni:=by rw [ly];rfl
    refine ⟨⟨i+1,D :: ds,_,_,_,_,_,_,v2,vs++(cf ni 0).map (fun x=>Value.slice (t x.1).1 (t x.1).2.1 (t x.1).2.2),rfl,by omega,bA2,?_,?_,?_,?_,?_,hB2⟩,?_⟩
    · rw [List.length_append,List.length_map];exact hrow2
    · rw [rl HV.out,← hmp];exact HH.out.append (eJ.map (α:=Fin ni) (fun x=>⟨_,_,_,rfl,HT2.out x.1 x.2⟩) _)
    · rw [List.length_append,List.length_map,hdl];omega
    · rw [List.length_append];omega
    · simp at hD;refine ⟨List.nodup_cons.2 ⟨fun h=>by have:=HMLT.out D h;omega,hmk2.1⟩,fun D' hD'=>?_⟩;rcases List.mem_cons.1 hD' with rfl | h
      · exact ⟨by omega,hK⟩
      · exact hmk2.2 D' h
    · simp [intOf];omega
   case stop =>
    rintro D c pre W2 _ _ h _;exact h.elim
 · have hi:i=3:=by omega
   subst hi;obtain ⟨n',hn'⟩:∃n',vs.length=n'+1:=⟨vs.length - 1,by omega⟩;rw [hn'] at hrow;obtain ⟨g,c,rfl⟩:=ownsRow_succ hrow;have cA:=bA.cell;gi_wp2
   refine iF ds W HMK.out (fun W' hb' hc'=>?_);refine ⟨_,results_tmp rfl _ _ _,⟨g,n'+1,c,vs,rfl,?_,?_⟩,HB.out.trans hb'⟩
   · refine ⟨hrow.1,?_⟩;rcases hrow.2 with hn | ⟨g1,cap1,cur1,e1,hb1,hgb,rest⟩
     · exact .inl hn
     · exact .inr ⟨g1,cap1,cur1,e1,hb1,hc' g1 _ hgb rfl,rest⟩
   · rw [← td];exact HH.out
end
end Go.Proofs.YtpobkmjicbobdaaGreat
