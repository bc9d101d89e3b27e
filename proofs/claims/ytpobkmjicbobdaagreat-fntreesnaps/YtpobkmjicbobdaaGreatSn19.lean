/- Walks. -/
import Derived.Test.YtpobkmjicbobdaaGreatSn18
import Derived.RangeFuncNested
import Derived.RangeFuncBound
import Derived.RangeFuncCalls
import Derived.RangeFuncLeaves
import Derived.RangeFuncBox
import Derived.Shelf.Abstract
import Derived.Shelf.RegionOpen
import Derived.OwnWalkIn
import Derived.TacticsInMore
import Derived.LoopNIn
import Derived.LoopIn
import Derived.Maps.OwnIn
namespace Go.Proofs.YtpobkmjicbobdaaGreat
set_option maxRecDepth 100000
set_option maxHeartbeats 40000000
open Go.RowKit Go.Shelf
variable {G b1 b2 b3 base g hi hi' j k lo lo' n nm ns nv n₀:Nat} {M:List ac} {S:List Int} {V:List (List af)} {ak am av:Option Addr} {bs gs:Nat→Nat} {es:Nat→Nat→Nat} {u0 u1 u2 u3:Value} {w w':World} {xs:List Value}
theorem an.same {t sz:Nat} (h:an w g t sz) (hf:w'.heap[g]?=w.heap[g]?):an w' g t sz:=by
 obtain ⟨cur,h1,h2⟩:=h;exact ⟨cur,hf.trans h1,h2⟩
def kV (lo hi:Nat) (w w':World):Prop:=∀q,lo≤q→q<hi→w'.heap[q]?=w.heap[q]?
theorem kV.trans {w'':World} (h:kV lo hi w w') (k:kV lo hi w' w''):kV lo hi w w'':=fun q h1 h2=>(k q h1 h2).trans (h q h1 h2)
theorem kV.of_below (h:Bl w w'):kV lo w.heap.size w w':=fun q _ h2=>h.block q h2
theorem kV.of_set (w:World) {g o:Nat} (v:Value) (hg:g<lo):kV lo hi w (w.setCell ⟨g,o,none⟩ v):=fun q h1 _=>Below.heap_setCell _ _ _ _ (fun e=>by have e':q=g:=e;omega)
theorem lc.far {m:Nat} (h:lc lo hi w g m) (k:kV lo hi w w'):lc lo hi w' g m:=⟨h.1,h.2.1,h.2.2.same (k _ h.1 h.2.1)⟩
theorem iN.far {B:List af} (h:iN lo hi w g B) (k:kV lo hi w w'):iN lo hi w' g B :=
 ⟨h.at1,h.at2,h.blk.same (k _ h.at1 h.at2),fun i p hp=>by obtain ⟨e,c,b⟩:=h.runs i p hp;exact ⟨e,(World.cell?_of_block (k _ h.at1 h.at2)).trans c,b.far k⟩⟩
theorem jF.far (h:jF lo hi w g V) (k:kV lo hi w w'):jF lo hi w' g V :=
 ⟨h.at1,h.at2,h.blk.same (k _ h.at1 h.at2),fun i p hp=>by obtain ⟨e,c,b⟩:=h.levs i p hp;exact ⟨e,(World.cell?_of_block (k _ h.at1 h.at2)).trans c,b.far k⟩⟩
def kM (G:Nat) (w:World) (xs:List Value) (j:Nat) (p:af):Prop :=
 ∃e,xs[j*2]?=some (sL e p.1.length p.1.length)∧xs[j*2+1]?=some (iT p.2)∧dY (G+1) w (pT e) p.1.length p.1.length p.1∧lc (G+1) w.heap.size w e p.1.length
theorem kM.has {p:af} (h:kM G w xs j p):qM G w xs j p:=by
 obtain ⟨e,h0,h1,h2,_⟩:=h;exact ⟨_,_,_,h0,h1,h2⟩
theorem kM.other {p:af} (h:kM G w xs j p) (hne:j≠k) (u0 u1:Value) (hs:cF (G+1) w w') (hf:kV (G+1) w.heap.size w w'):kM G w' ((xs.set (k*2) u0).set (k*2+1) u1) j p:=by
 obtain ⟨e,h0,h1,h2,h3⟩:=h;refine ⟨e,?_,?_,h2.same hs,(h3.far hf).mono (Nat.le_refl _) hs.1⟩ <;> (repeat rw [List.getElem?_set_ne (by omega)]) <;> assumption
def kO (G:Nat) (w:World) (xs:List Value) (j:Nat) (p:List af):Prop :=
 ∃e,xs[j]?=some (sL e p.length p.length)∧aw (G+1) w (pT e) p.length p.length p∧iN (G+1) w.heap.size w e p
theorem kO.has {p:List af} (h:kO G w xs j p):qN G w xs j p:=by
 obtain ⟨e,h0,h2,_⟩:=h;exact ⟨_,_,_,h0,h2⟩
theorem kO.other {p:List af} (h:kO G w xs j p) (hne:j≠k) (u0:Value) (hs:cF (G+1) w w') (hf:kV (G+1) w.heap.size w w'):kO G w' (xs.set k u0) j p:=by
 obtain ⟨e,h0,h2,h3⟩:=h;exact ⟨e,by rw [List.getElem?_set_ne (by omega)];exact h0,h2.same hs,(h3.far hf).mono (Nat.le_refl _) hs.1⟩
structure lQ (lo hi:Nat) (w:World) (b1 nm b2:Nat) (V:List (List af)) (b3 ns:Nat):Prop where
 mem:lc lo hi w b1 nm
 levs:jF lo hi w b2 V
 sn:lo≤b3∧b3<hi∧an w b3 3 (ns*1)
theorem lQ.far (h:lQ lo hi w b1 nm b2 V b3 ns) (k:kV lo hi w w'):lQ lo hi w' b1 nm b2 V b3 ns :=
 ⟨h.mem.far k,h.levs.far k,h.sn.1,h.sn.2.1,h.sn.2.2.same (k _ h.sn.1 h.sn.2.1)⟩
theorem lQ.mono (h:lQ lo hi w b1 nm b2 V b3 ns) (h1:lo'≤lo) (h2:hi≤hi'):lQ lo' hi' w b1 nm b2 V b3 ns :=
 ⟨h.mem.mono h1 h2,h.levs.mono h1 h2,Nat.le_trans h1 h.sn.1,Nat.lt_of_lt_of_le h.sn.2.1 h2,h.sn.2.2⟩
theorem gg.cell (h:gg lo hi w w') {b o:Nat} {v:Value} (hb:b<lo∨hi≤b) (hc:w.cell? ⟨b,o,none⟩=some v):w'.cell? ⟨b,o,none⟩=some v :=
 (World.cell?_of_block (h.far b (World.block_lt_of_cell? _ _ hc) hb)).trans hc
theorem aZ.lowR {cm cv cs:Nat} (h:aZ lo w am nm cm av nv cv ak ns cs M V S) (hl:lo'≤lo):aZ lo' w am nm cm av nv cv ak ns cs M V S:=⟨h.mem.mono hl,h.levels.mono hl,h.snaps.lower hl⟩
theorem fa.levelsIn (h:fa lo hi w G n V gs bs es):bI lo w (pT G) n n V:=by
 obtain ⟨xs,r1,r2⟩:=h.row;have hrc:=bX r1;have hl:=h.len;refine ⟨h.len,hrc.1,hrc.2,(fun e=>by cases e),?_,?_⟩
 · rintro x e _;cases e;exact ⟨(r1.lt G rfl).2,rfl,(r1.lt G rfl).1⟩
 · rintro x e i hi;cases e;have hp:=List.getElem?_eq_getElem hi;have u:=h.up 0 i (by omega) (by omega);refine ⟨_,_,_,?_,(h.levs i _ hp).runsIn.mono (by have:=h.bot.1;omega)⟩;simp only [Nat.zero_add];exact (r1.cellAt _ (by omega)).trans (r2 i _ hp)
theorem ec.treeIn (h:ec lo hi w b1 nm b2 nv b3 ns M V S gs bs es) (hw:∀z ∈ S,(Lit.int .i64 z).wf=true):aZ 0 w (pT b1) nm nm (pT b2) nv nv (pT b3) ns ns M V S:=by
 have hrc:=bX h.sn.2;have hl:=h.sn.1;refine ⟨⟨h.mem.entsAt,fun x e _=>Nat.zero_le _⟩,h.levs.levelsIn.mono (Nat.zero_le _),⟨hl,hrc.1,hrc.2,hw,(fun e=>by cases e),?_,?_⟩⟩
 · rintro x e _;cases e;exact ⟨(h.sn.2.lt b3 rfl).2,rfl,Nat.zero_le _⟩
 · rintro x e i hi;cases e;simp only [Nat.zero_add];have h1:=h.sn.2.cellAt i (by omega);rw [List.getElem?_map,List.getElem?_eq_getElem hi] at h1;exact h1
def iO (lo hi:Nat) (w:World) (am:Option Addr) (nm:Nat) (av:Option Addr) (nv:Nat) (ak:Option Addr) (ns:Nat) (M:List ac) (V:List (List af)) (S:List Int) (gs bs:Nat→Nat) (es:Nat→Nat→Nat):Prop :=
 (∃b1 b2 b3,am=some ⟨b1,0,none⟩∧av=some ⟨b2,0,none⟩∧ak=some ⟨b3,0,none⟩∧ec lo hi w b1 nm b2 nv b3 ns M V S gs bs es)∨(am=none∧av=none∧ak=none∧nm=0∧nv=0∧ns=0∧M=[]∧V=[]∧S=[])
theorem iO.below (h:iO lo hi w am nm av nv ak ns M V S gs bs es) (hb:Bl w w'):iO lo hi w' am nm av nv ak ns M V S gs bs es:=by
 rcases h with ⟨b1,b2,b3,h1,h2,h3,h4⟩ | h
 · exact .inl ⟨b1,b2,b3,h1,h2,h3,h4.below hb⟩
 · exact .inr h
theorem iO.keepO (h:iO lo hi w am nm av nv ak ns M V S gs bs es) (k:cJ lo' hi' w w') (hd:hi'≤lo):iO lo hi w' am nm av nv ak ns M V S gs bs es:=by
 rcases h with ⟨b1,b2,b3,h1,h2,h3,h4⟩ | h
 · exact .inl ⟨b1,b2,b3,h1,h2,h3,h4.keepO k hd⟩
 · exact .inr h
theorem mH (lo:Nat) (w:World):aZ lo w none 0 0 none 0 0 none 0 0 [] [] [] :=
 ⟨⟨⟨rfl,Nat.le_refl _,Nat.zero_le _,(fun e he=>by cases he),fun _=>rfl,(fun x e=>by cases e),(fun x e=>by cases e)⟩,fun x e=>by cases e⟩,⟨rfl,Nat.le_refl _,Nat.zero_le _,fun _=>rfl,(fun x e=>by cases e),(fun x e=>by cases e)⟩,⟨rfl,Nat.le_refl _,Nat.zero_le _,(fun z hz=>by cases hz),fun _=>rfl,(fun x e=>by cases e),(fun x e=>by cases e)⟩⟩
theorem iO.treeIn (h:iO lo hi w am nm av nv ak ns M V S gs bs es) (hw:∀z ∈ S,(Lit.int .i64 z).wf=true):aZ 0 w am nm nm av nv nv ak ns ns M V S:=by
 rcases h with ⟨b1,b2,b3,rfl,rfl,rfl,h4⟩ | ⟨rfl,rfl,rfl,rfl,rfl,rfl,rfl,rfl,rfl⟩
 · exact h4.treeIn hw
 · exact mH 0 w
def ui (q:Int) (M:List ac) (V:List (List af)) (S:List Int) (ok:Bool) (w:World) (e:Ending) (w':World):Prop :=
 ∃am nm cm av nv cv ak ns cs,e=.returned (.tuple #[.agg #[iT q,.slice am nm cm,.slice av nv cv,.slice ak ns cs],.bool ok])∧aZ 0 w' am nm cm av nv cv ak ns cs M V S∧Bl w w'
def gq (q:Int) (M:List ac) (V:List (List af)) (S:List Int) (ok:Bool) (w:World) (e:Ending) (w':World):Prop :=
 ∃am nm av nv ak ns gs bs es,e=.returned (.tuple #[.agg #[iT q,.slice am nm nm,.slice av nv nv,.slice ak ns ns],.bool ok])∧iO w.heap.size w'.heap.size w' am nm av nv ak ns M V S gs bs es∧Bl w w'
structure wK (w:World) (b:Nat) (u0 u1 u2 u3:Value):Prop where
 c0:w.cell? ⟨b,0,none⟩=some u0
 c1:w.cell? ⟨b,1,none⟩=some u1
 c2:w.cell? ⟨b,2,none⟩=some u2
 c3:w.cell? ⟨b,3,none⟩=some u3
theorem wK.lt {b:Nat} (h:wK w b u0 u1 u2 u3):b<w.heap.size:=World.block_lt_of_cell? w _ h.c0
theorem wK.new (w:World) (t:TypeId) (u0 u1 u2 u3:Value):wK (w.alloc (.cells #[u0,u1,u2,u3] t)) w.heap.size u0 u1 u2 u3:=⟨by simp,by simp,by simp,by simp⟩
theorem wK.keep {b:Nat} (h:wK w b u0 u1 u2 u3) (hb:Bl w w'):wK w' b u0 u1 u2 u3:=⟨cell_later hb h.c0,cell_later hb h.c1,cell_later hb h.c2,cell_later hb h.c3⟩
theorem wK.keepO {b:Nat} (h:wK w b u0 u1 u2 u3) (k:cJ lo hi w w') (hb:b<lo∨hi≤b):wK w' b u0 u1 u2 u3:=⟨jc k hb h.c0,jc k hb h.c1,jc k hb h.c2,jc k hb h.c3⟩
structure yq (w6 wi:World) (Y:Nat) (y0 y1 y2 y3:Value) (G:Nat) (g0:Value) (lo hi:Nat) (am:Option Addr) (nm:Nat) (av:Option Addr) (nv:Nat) (ak:Option Addr) (ns:Nat) (M:List ac) (V:List (List af)) (S:List Int) (gs bs:Nat→Nat) (es:Nat→Nat→Nat):Prop where
 low:Bl w6 wi
 hy:wK wi Y y0 y1 y2 y3
 hg:wK wi G g0 (.slice am nm nm) (.slice av nv nv) (.slice ak ns ns)
 res:iO lo hi wi am nm av nv ak ns M V S gs bs es
theorem yq.below {w6 wi wj:World} {Y:Nat} {y0 y1 y2 y3 g0:Value} (h:yq w6 wi Y y0 y1 y2 y3 G g0 lo hi am nm av nv ak ns M V S gs bs es) (hb:Bl wi wj):yq w6 wj Y y0 y1 y2 y3 G g0 lo hi am nm av nv ak ns M V S gs bs es :=
 ⟨h.low.trans (hb.mono h.low.size),h.hy.keep hb,h.hg.keep hb,h.res.below hb⟩
structure b7 (K:Nat→Prop) (w w':World):Prop where
 os:w'.os=w.os
 tape:w'.tape=w.tape
 output:w'.output=w.output
 size:w.heap.size≤w'.heap.size
 block:∀k,K k→w'.heap[k]?=w.heap[k]?
theorem b7.of {K:Nat→Prop} (h:Below n₀ w w') (hK:∀k,K k→k<n₀):b7 K w w':=⟨h.os,h.tape,h.output,h.size,fun k hk=>h.block k (hK k hk)⟩
theorem b7.refl (K:Nat→Prop) (w:World):b7 K w w:=⟨rfl,rfl,rfl,Nat.le_refl _,fun _ _=>rfl⟩
theorem b7.trans {K:Nat→Prop} {a b c:World} (h:b7 K a b) (k:b7 K b c):b7 K a c :=
 ⟨k.os.trans h.os,k.tape.trans h.tape,k.output.trans h.output,Nat.le_trans h.size k.size,fun i hi=>(k.block i hi).trans (h.block i hi)⟩
theorem b7.cell {K:Nat→Prop} (h:b7 K w w') {p:Addr} (hp:K p.block):w'.cell? p=w.cell? p:=World.cell?_of_block (w:=w) (h.block p.block hp)
theorem b7.grown {K:Nat→Prop} {row:Option Nat} (hg:w.grownBy w' row) (hK:∀k,K k→k<w.heap.size∧some k≠row):b7 K w w':=⟨hg.os,hg.tape,hg.output,hg.size,fun k hk=>hg.block k (hK k hk).1 (hK k hk).2⟩
theorem qu {K:Nat→Prop} (hK:∀k,K k→k<w.heap.size) (W:World) (l:Nat) (o o':Obj) (hl:w.heap.size≤l) (h:W.heap[l]?=some o) (hc:o.isCells=false) (hw:o.isWalk=false):b7 K W (W.putObj l o') :=
 b7.of (belowK_b (n₀:=w.heap.size) (w:=w) (Nat.le_refl _) W l o o' hl h hc hw) hK
section
attribute [local go_sem] Oper.semAt_some
def bK (n k:Nat):List (Fin n):=((List.finRange n).drop k).reverse
theorem og (n:Nat):bK n n=[]:=by simp [bK]
theorem fJ (h:k<n):bK n k=bK n (k+1)++[⟨k,h⟩]:=by
 unfold bK;rw [List.drop_eq_getElem_cons (by simpa using h)];simp
theorem oc (n k:Nat):bK n k <+: bK n 0:=by
 unfold bK;rw [List.drop_zero];exact List.reverse_prefix.2 (List.drop_suffix _ _)
theorem km (n k:Nat):(bK n k).length=n - k:=by simp [bK]
def Ai (K:Nat→Prop) (w:World) (a:Option Addr) (len:Nat) (u0 u1 u2 u3 u4:Nat→Value):Prop:=∀b o,a=some ⟨b,o,none⟩→1≤len→K b∧∀i,i<len→w.cell? ⟨b,o+i*5,none⟩=some (u0 i)∧w.cell? ⟨b,o+i*5+1,none⟩=some (u1 i)∧w.cell? ⟨b,o+i*5+2,none⟩=some (u2 i)∧w.cell? ⟨b,o+i*5+3,none⟩=some (u3 i)∧w.cell? ⟨b,o+i*5+4,none⟩=some (u4 i)
theorem ww (n l Bp:Nat) (K:Nat→Prop) (hn:1≤n) (a:Option Addr) (len cap:Nat) (u0 u1 u2 u3 u4:Nat→Value) (J Jx:List (Fin len)→World→Prop) (W:World)
 (hY:∀pre (x:Fin len) W1,J pre W1→pre.length<len→YieldAt Fence.wide (n - 1) Tryz.prog l #[iT (x.1:Nat),.agg #[u0 x.1,u1 x.1,u2 x.1,u3 x.1,u4 x.1]] W1 fun e W' =>
  (e=.returned (.bool true)∧J (pre++[x]) W'∧b7 K W1 W')∨(e=.returned (.bool false)∧Jx (pre++[x]) W'))
 (hKB:K Bp) (hp0:W.cell? ⟨Bp,0,none⟩=some (.slice a len cap)) (hs:1≤len→∃b o,a=some ⟨b,o,none⟩) (hroom:len≤cap) (hbig:cap≤maxLen) (hKs:∀k,K k→k<W.heap.size)
 (hV:Ai K W a len u0 u1 u2 u3 u4) (h0:J [] W) :
 CallsIn Fence.wide n Tryz.prog 228 #[.func (.yield l) #[] #[],.pointer (pT Bp)] W fun e W'=>(∃v,e=.returned v) ∧
  ((∃ys,ys=bK len 0∧J ys W')∨(∃pre,pre <+: bK len 0∧Jx pre W')):=by
 unfold maxLen at hbig;have HKS:=bQ hKs;clear hKs;refine callsIn_of_wp Tryz.func228 rfl trivial ?_ rfl;simp only [Tryz.ntmps228,List.size_toArray,List.length_cons,List.length_nil,Nat.reduceAdd,Nat.reduceSub,Array.replicate_succ,Array.replicate_zero,List.push_toArray,List.append_toArray,List.nil_append,List.cons_append];have wl:IntKind.i64.wrap ((len:Int) - 1)=(len:Int) - 1:=by rw [IntWalk.i64_left];unfold wrap64;omega
 gi_wp2
 gi_loopw [3] (fun iv wr=>∃k:Nat,k≤len∧iv=iT ((k:Int) - 1)∧J (bK len k) wr∧b7 K W wr) (fun iv _=>(intOf iv+1).toNat)
 case atStart=>exact ⟨len,Nat.le_refl _,rfl,by rw [og];exact h0,b7.refl _ _⟩
 case round =>
  obtain ⟨k,hk,rfl,hJs,hb⟩:=hrel;have HB:Hid (b7 K W wr):=hb;have hcc:=(hb.cell (p:=⟨Bp,0,none⟩) hKB).trans hp0;have hszw:=hb.size;have hBw:Bp<wr.heap.size:=Nat.lt_of_lt_of_le (HKS.out Bp hKB) hszw;cases k with
  | zero =>
   gi_wp2
   go_end0;exact ⟨⟨_,rfl⟩,.inl ⟨_,rfl,hJs⟩⟩
  | succ j =>
   have hj:((j+1:Nat):Int) - 1=(j:Int):=by omega
   rw [hj];have hjI:(j:Int)<(len:Int):=by omega
   have hjN:j<len:=by omega
   have hj0:(0:Int)≤(j:Int):=by omega
   have wj:IntKind.i64.wrap ((j:Int) - 1)=(j:Int) - 1:=by rw [IntWalk.i64_left];unfold wrap64;omega
   obtain ⟨b,o,rfl⟩:=hs (by omega);obtain ⟨hKb,hVe⟩:=hV b o rfl (by omega);have hbW:b<wr.heap.size:=Nat.lt_of_lt_of_le (HKS.out b hKb) hszw;obtain ⟨g0,g1,g2,g3,g4⟩:=hVe j hjN;have c0:=(HB.out.cell (p:=⟨b,o+j*5,none⟩) hKb).trans g0;have c1:=(HB.out.cell (p:=⟨b,o+j*5+1,none⟩) hKb).trans g1;have c2:=(HB.out.cell (p:=⟨b,o+j*5+2,none⟩) hKb).trans g2;have c3:=(HB.out.cell (p:=⟨b,o+j*5+3,none⟩) hKb).trans g3;have c4:=(HB.out.cell (p:=⟨b,o+j*5+4,none⟩) hKb).trans g4;clear g0 g1 g2 g3 g4;obtain ⟨fn,tmps,assign,body,hy,hR⟩:=hY _ ⟨j,hjN⟩ _ hJs (by rw [km];omega);simp only at hy;clear hb hV hVe;gi_wp2
   refine hR.mono ?_;rintro e W3 (⟨rfl,hJ3,hk3⟩ | ⟨rfl,hJx3⟩)
   · gi_wp2
     go_roundw
     case rel=>exact ⟨j,by omega,by go_num,by rw [fJ hjN];exact hJ3,HB.out.trans hk3⟩
     case measure=>simp [intOf]
   · gi_wp2
     refine bodyPost_ret (results_none rfl _ _ _) rfl ?_;exact ⟨⟨_,rfl⟩,.inr ⟨_,by rw [← fJ hjN];exact oc _ _,hJx3⟩⟩
theorem yh (n:Nat) (a:Option Addr) (len cap:Nat) (w:World) :
 CallsIn Fence.wide n Tryz.prog 191 #[.slice a len cap] w fun e w'=>e=.returned (.func (.func 228) #[] #[.pointer (some ⟨w.heap.size,0,none⟩)]) ∧
  w'=w.alloc (.cells #[.slice a len cap] 28):=by
 refine callsIn_of_wp Tryz.func191 rfl trivial ?_ rfl;simp only [Tryz.ntmps191,List.size_toArray,List.length_cons,List.length_nil,Nat.reduceAdd,Nat.reduceSub,Array.replicate_succ,Array.replicate_zero,List.push_toArray,List.append_toArray,List.nil_append,List.cons_append];gi_wp2
 go_ret;exact ⟨rfl,rfl⟩
theorem sD (n:Nat) (hn:1≤n) (Bp:Nat) (K:Nat→Prop) (a:Option Addr) (len cap:Nat) (u0 u1 u2 u3 u4:Nat→Value) (w:World)
 (hKB:K Bp) (hp0:w.cell? ⟨Bp,0,none⟩=some (.slice a len cap)) (hs:1≤len→∃b o,a=some ⟨b,o,none⟩) (hroom:len≤cap) (hbig:cap≤maxLen) (hKs:∀k,K k→k<w.heap.size)
 (hV:Ai K w a len u0 u1 u2 u3 u4) :
 SeqStopsK Fence.wide n Tryz.prog 228 #[.pointer (pT Bp)] (fun x:Fin len=>#[iT (x.1:Nat),.agg #[u0 x.1,u1 x.1,u2 x.1,u3 x.1,u4 x.1]]) (b7 K) (fun ys=>ys=bK len 0) (fun pre=>pre <+: bK len 0) len w :=
 fun l J Jx W hW _ _ hY h0=>ww n l Bp K hn a len cap u0 u1 u2 u3 u4 J Jx W hY hKB (cell_later hW hp0) hs hroom hbig (fun k hk=>Nat.lt_of_lt_of_le (hKs k hk) hW.size) (fun b o e h1=>⟨(hV b o e h1).1,fun i hi=>by obtain ⟨g0,g1,g2,g3,g4⟩:=(hV b o e h1).2 i hi;exact ⟨cell_later hW g0,cell_later hW g1,cell_later hW g2,cell_later hW g3,cell_later hW g4⟩⟩) h0
end
section
attribute [local go_sem] Oper.semAt_some
def Ah (K:Nat→Prop) (w:World) (a:Option Addr) (len:Nat) (u0:Nat→Value):Prop:=∀b o,a=some ⟨b,o,none⟩→1≤len→K b∧∀i,i<len→w.cell? ⟨b,o+i,none⟩=some (u0 i)
theorem wv (n l Bp:Nat) (K:Nat→Prop) (hn:1≤n) (a:Option Addr) (len cap:Nat) (u0:Nat→Value) (J Jx:List (Fin len)→World→Prop) (W:World)
 (hY:∀pre (x:Fin len) W1,J pre W1→pre.length<len→YieldAt Fence.wide (n - 1) Tryz.prog l #[iT (x.1:Nat),u0 x.1] W1 fun e W' =>
  (e=.returned (.bool true)∧J (pre++[x]) W'∧b7 K W1 W')∨(e=.returned (.bool false)∧Jx (pre++[x]) W'))
 (hKB:K Bp) (hp0:W.cell? ⟨Bp,0,none⟩=some (.slice a len cap)) (hs:1≤len→∃b o,a=some ⟨b,o,none⟩) (hroom:len≤cap) (hbig:cap≤maxLen) (hKs:∀k,K k→k<W.heap.size)
 (hV:Ah K W a len u0) (h0:J [] W) :
 CallsIn Fence.wide n Tryz.prog 252 #[.func (.yield l) #[] #[],.pointer (pT Bp)] W fun e W'=>(∃v,e=.returned v) ∧
  ((∃ys,ys=bK len 0∧J ys W')∨(∃pre,pre <+: bK len 0∧Jx pre W')):=by
 unfold maxLen at hbig;have HKS:=bQ hKs;clear hKs;refine callsIn_of_wp Tryz.func252 rfl trivial ?_ rfl;simp only [Tryz.ntmps252,List.size_toArray,List.length_cons,List.length_nil,Nat.reduceAdd,Nat.reduceSub,Array.replicate_succ,Array.replicate_zero,List.push_toArray,List.append_toArray,List.nil_append,List.cons_append];have wl:IntKind.i64.wrap ((len:Int) - 1)=(len:Int) - 1:=by rw [IntWalk.i64_left];unfold wrap64;omega
 gi_wp2
 gi_loopw [3] (fun iv wr=>∃k:Nat,k≤len∧iv=iT ((k:Int) - 1)∧J (bK len k) wr∧b7 K W wr) (fun iv _=>(intOf iv+1).toNat)
 case atStart=>exact ⟨len,Nat.le_refl _,rfl,by rw [og];exact h0,b7.refl _ _⟩
 case round =>
  obtain ⟨k,hk,rfl,hJs,hb⟩:=hrel;have HB:Hid (b7 K W wr):=hb;have hcc:=(hb.cell (p:=⟨Bp,0,none⟩) hKB).trans hp0;have hszw:=hb.size;have hBw:Bp<wr.heap.size:=Nat.lt_of_lt_of_le (HKS.out Bp hKB) hszw;cases k with
  | zero =>
   gi_wp2
   go_end0;exact ⟨⟨_,rfl⟩,.inl ⟨_,rfl,hJs⟩⟩
  | succ j =>
   have hj:((j+1:Nat):Int) - 1=(j:Int):=by omega
   rw [hj];have hjI:(j:Int)<(len:Int):=by omega
   have hjN:j<len:=by omega
   have hj0:(0:Int)≤(j:Int):=by omega
   have wj:IntKind.i64.wrap ((j:Int) - 1)=(j:Int) - 1:=by rw [IntWalk.i64_left];unfold wrap64;omega
   obtain ⟨b,o,rfl⟩:=hs (by omega);obtain ⟨hKb,hVe⟩:=hV b o rfl (by omega);have hbW:b<wr.heap.size:=Nat.lt_of_lt_of_le (HKS.out b hKb) hszw;have g0:=hVe j hjN;have c0:=(HB.out.cell (p:=⟨b,o+j,none⟩) hKb).trans g0;clear g0;obtain ⟨fn,tmps,assign,body,hy,hR⟩:=hY _ ⟨j,hjN⟩ _ hJs (by rw [km];omega);simp only at hy;clear hb hV hVe;gi_wp2
   refine hR.mono ?_;rintro e W3 (⟨rfl,hJ3,hk3⟩ | ⟨rfl,hJx3⟩)
   · gi_wp2
     go_roundw
     case rel=>exact ⟨j,by omega,by go_num,by rw [fJ hjN];exact hJ3,HB.out.trans hk3⟩
     case measure=>simp [intOf]
   · gi_wp2
     refine bodyPost_ret (results_none rfl _ _ _) rfl ?_;exact ⟨⟨_,rfl⟩,.inr ⟨_,by rw [← fJ hjN];exact oc _ _,hJx3⟩⟩
theorem yg (n:Nat) (a:Option Addr) (len cap:Nat) (w:World) :
 CallsIn Fence.wide n Tryz.prog 235 #[.slice a len cap] w fun e w'=>e=.returned (.func (.func 252) #[] #[.pointer (some ⟨w.heap.size,0,none⟩)]) ∧
  w'=w.alloc (.cells #[.slice a len cap] 102):=by
 refine callsIn_of_wp Tryz.func235 rfl trivial ?_ rfl;simp only [Tryz.ntmps235,List.size_toArray,List.length_cons,List.length_nil,Nat.reduceAdd,Nat.reduceSub,Array.replicate_succ,Array.replicate_zero,List.push_toArray,List.append_toArray,List.nil_append,List.cons_append];gi_wp2
 go_ret;exact ⟨rfl,rfl⟩
theorem sC (n:Nat) (hn:1≤n) (Bp:Nat) (K:Nat→Prop) (a:Option Addr) (len cap:Nat) (u0:Nat→Value) (w:World)
 (hKB:K Bp) (hp0:w.cell? ⟨Bp,0,none⟩=some (.slice a len cap)) (hs:1≤len→∃b o,a=some ⟨b,o,none⟩) (hroom:len≤cap) (hbig:cap≤maxLen) (hKs:∀k,K k→k<w.heap.size)
 (hV:Ah K w a len u0) :
 SeqStopsK Fence.wide n Tryz.prog 252 #[.pointer (pT Bp)] (fun x:Fin len=>#[iT (x.1:Nat),u0 x.1]) (b7 K) (fun ys=>ys=bK len 0) (fun pre=>pre <+: bK len 0) len w :=
 fun l J Jx W hW _ _ hY h0=>wv n l Bp K hn a len cap u0 J Jx W hY hKB (cell_later hW hp0) hs hroom hbig (fun k hk=>Nat.lt_of_lt_of_le (hKs k hk) hW.size) (fun b o e h1=>⟨(hV b o e h1).1,fun i hi=>by exact cell_later hW ((hV b o e h1).2 i hi)⟩) h0
def Ag (K:Nat→Prop) (w:World) (a:Option Addr) (len:Nat) (u0 u1:Nat→Value):Prop:=∀b o,a=some ⟨b,o,none⟩→1≤len→K b∧∀i,i<len→w.cell? ⟨b,o+i*2,none⟩=some (u0 i)∧w.cell? ⟨b,o+i*2+1,none⟩=some (u1 i)
theorem wu (n l Bp:Nat) (K:Nat→Prop) (hn:1≤n) (a:Option Addr) (len cap:Nat) (u0 u1:Nat→Value) (J Jx:List (Fin len)→World→Prop) (W:World)
 (hY:∀pre (x:Fin len) W1,J pre W1→pre.length<len→YieldAt Fence.wide (n - 1) Tryz.prog l #[iT (x.1:Nat),.agg #[u0 x.1,u1 x.1]] W1 fun e W' =>
  (e=.returned (.bool true)∧J (pre++[x]) W'∧b7 K W1 W')∨(e=.returned (.bool false)∧Jx (pre++[x]) W'))
 (hKB:K Bp) (hp0:W.cell? ⟨Bp,0,none⟩=some (.slice a len cap)) (hs:1≤len→∃b o,a=some ⟨b,o,none⟩) (hroom:len≤cap) (hbig:cap≤maxLen) (hKs:∀k,K k→k<W.heap.size)
 (hV:Ag K W a len u0 u1) (h0:J [] W) :
 CallsIn Fence.wide n Tryz.prog 206 #[.func (.yield l) #[] #[],.pointer (pT Bp)] W fun e W'=>(∃v,e=.returned v) ∧
  ((∃ys,ys=bK len 0∧J ys W')∨(∃pre,pre <+: bK len 0∧Jx pre W')):=by
 unfold maxLen at hbig;have HKS:=bQ hKs;clear hKs;refine callsIn_of_wp Tryz.func206 rfl trivial ?_ rfl;simp only [Tryz.ntmps206,List.size_toArray,List.length_cons,List.length_nil,Nat.reduceAdd,Nat.reduceSub,Array.replicate_succ,Array.replicate_zero,List.push_toArray,List.append_toArray,List.nil_append,List.cons_append];have wl:IntKind.i64.wrap ((len:Int) - 1)=(len:Int) - 1:=by rw [IntWalk.i64_left];unfold wrap64;omega
 gi_wp2
 gi_loopw [3] (fun iv wr=>∃k:Nat,k≤len∧iv=iT ((k:Int) - 1)∧J (bK len k) wr∧b7 K W wr) (fun iv _=>(intOf iv+1).toNat)
 case atStart=>exact ⟨len,Nat.le_refl _,rfl,by rw [og];exact h0,b7.refl _ _⟩
 case round =>
  obtain ⟨k,hk,rfl,hJs,hb⟩:=hrel;have HB:Hid (b7 K W wr):=hb;have hcc:=(hb.cell (p:=⟨Bp,0,none⟩) hKB).trans hp0;have hszw:=hb.size;have hBw:Bp<wr.heap.size:=Nat.lt_of_lt_of_le (HKS.out Bp hKB) hszw;cases k with
  | zero =>
   gi_wp2
   go_end0;exact ⟨⟨_,rfl⟩,.inl ⟨_,rfl,hJs⟩⟩
  | succ j =>
   have hj:((j+1:Nat):Int) - 1=(j:Int):=by omega
   rw [hj];have hjI:(j:Int)<(len:Int):=by omega
   have hjN:j<len:=by omega
   have hj0:(0:Int)≤(j:Int):=by omega
   have wj:IntKind.i64.wrap ((j:Int) - 1)=(j:Int) - 1:=by rw [IntWalk.i64_left];unfold wrap64;omega
   obtain ⟨b,o,rfl⟩:=hs (by omega);obtain ⟨hKb,hVe⟩:=hV b o rfl (by omega);have hbW:b<wr.heap.size:=Nat.lt_of_lt_of_le (HKS.out b hKb) hszw;obtain ⟨g0,g1⟩:=hVe j hjN;have c0:=(HB.out.cell (p:=⟨b,o+j*2,none⟩) hKb).trans g0;have c1:=(HB.out.cell (p:=⟨b,o+j*2+1,none⟩) hKb).trans g1;clear g0 g1;obtain ⟨fn,tmps,assign,body,hy,hR⟩:=hY _ ⟨j,hjN⟩ _ hJs (by rw [km];omega);simp only at hy;clear hb hV hVe;gi_wp2
   refine hR.mono ?_;rintro e W3 (⟨rfl,hJ3,hk3⟩ | ⟨rfl,hJx3⟩)
   · gi_wp2
     go_roundw
     case rel=>exact ⟨j,by omega,by go_num,by rw [fJ hjN];exact hJ3,HB.out.trans hk3⟩
     case measure=>simp [intOf]
   · gi_wp2
     refine bodyPost_ret (results_none rfl _ _ _) rfl ?_;exact ⟨⟨_,rfl⟩,.inr ⟨_,by rw [← fJ hjN];exact oc _ _,hJx3⟩⟩
theorem ye (n:Nat) (a:Option Addr) (len cap:Nat) (w:World) :
 CallsIn Fence.wide n Tryz.prog 155 #[.slice a len cap] w fun e w'=>e=.returned (.func (.func 206) #[] #[.pointer (some ⟨w.heap.size,0,none⟩)]) ∧
  w'=w.alloc (.cells #[.slice a len cap] 61):=by
 refine callsIn_of_wp Tryz.func155 rfl trivial ?_ rfl;simp only [Tryz.ntmps155,List.size_toArray,List.length_cons,List.length_nil,Nat.reduceAdd,Nat.reduceSub,Array.replicate_succ,Array.replicate_zero,List.push_toArray,List.append_toArray,List.nil_append,List.cons_append];gi_wp2
 go_ret;exact ⟨rfl,rfl⟩
theorem sy (n:Nat) (hn:1≤n) (Bp:Nat) (K:Nat→Prop) (a:Option Addr) (len cap:Nat) (u0 u1:Nat→Value) (w:World)
 (hKB:K Bp) (hp0:w.cell? ⟨Bp,0,none⟩=some (.slice a len cap)) (hs:1≤len→∃b o,a=some ⟨b,o,none⟩) (hroom:len≤cap) (hbig:cap≤maxLen) (hKs:∀k,K k→k<w.heap.size)
 (hV:Ag K w a len u0 u1) :
 SeqStopsK Fence.wide n Tryz.prog 206 #[.pointer (pT Bp)] (fun x:Fin len=>#[iT (x.1:Nat),.agg #[u0 x.1,u1 x.1]]) (b7 K) (fun ys=>ys=bK len 0) (fun pre=>pre <+: bK len 0) len w :=
 fun l J Jx W hW _ _ hY h0=>wu n l Bp K hn a len cap u0 u1 J Jx W hY hKB (cell_later hW hp0) hs hroom hbig (fun k hk=>Nat.lt_of_lt_of_le (hKs k hk) hW.size) (fun b o e h1=>⟨(hV b o e h1).1,fun i hi=>by obtain ⟨g0,g1⟩:=(hV b o e h1).2 i hi;exact ⟨cell_later hW g0,cell_later hW g1⟩⟩) h0
end
def uu (ds:List Nat):List Deferred:=ds.map (fun D=>{ target:=.collected D,args:=#[] })
def fG (base:Nat) (w:World) (ds:List Nat):Prop:=ds.Nodup∧∀D ∈ ds,base≤D∧w.heap[D]?=some (.deferred (some []))
theorem j9 {F:Fence} {n base:Nat} {P:Program} {fn:Func} {tmps:Array Value} {R:Ending→World→Prop}:∀(ds:List Nat) (W:World),fG base W ds →
 (∀W',Below base W W'→(∀(k:Nat) (o:Obj),W.heap[k]?=some o→o.isCells=true→W'.heap[k]?=some o)→LeavesInM F n P fn tmps R [] .returning W')→LeavesInM F n P fn tmps R (uu ds) .returning W
 | [],W,_,h=>h W (Below.refl _ _) (fun _ _ h _=>h)
 | D :: ds,W,hm,h=>by
  obtain ⟨hnd,hD⟩:=hm
  rw [List.nodup_cons] at hnd
  have hk:=(hD D (List.mem_cons_self ..)).2
  have hb:=(hD D (List.mem_cons_self ..)).1
  have hB:Below base W (W.putObj D (.deferred none)):=⟨rfl,rfl,rfl,by simp [World.putObj],fun k hk=>World.putObj_heap_other (by omega)⟩
  refine ⟨by simp,.inl ⟨D,_,rfl,run_takeDeferred hk,?_⟩⟩
  refine j9 ds (W.putObj D (.deferred none)) ⟨hnd.2,fun D' hD'=>⟨(hD D' (List.mem_cons_of_mem _ hD')).1,?_⟩⟩ (fun W' hb' hc'=>h W' (hB.trans hb') (fun k o ho hc=>hc' k o ?_ hc))
  · have hne:D'≠D:=fun e=>hnd.1 (e ▸ hD')
    exact (World.putObj_heap_other hne).trans (hD D' (List.mem_cons_of_mem _ hD')).2
  · have hne:k≠D:=fun e=>by subst e;rw [hk] at ho;cases ho;cases hc
    exact (World.putObj_heap_other hne).trans ho
theorem pw {B:Nat} {W W':World} {t:TypeId} {v:Value} (h:Below n₀ W W') (hv:Boxed W B t v) (hv':Boxed W' B t v):b7 (fun k=>k<n₀∨k=B) W W' :=
 ⟨h.os,h.tape,h.output,h.size,fun k hk=>by
  rcases hk with hk | rfl
  · exact h.block k hk
  · exact (show W'.heap[k]?=_ from hv').trans (show W.heap[k]?=_ from hv).symm⟩
theorem vl {β:Type} {ds:List Nat} {B:Nat} (hB:∀D ∈ ds,D<B):OwnFrom B (fun (_:β) W=>fG base W ds):=fun _ X Y row hs hg hr =>
 ⟨hs.1,fun D hD=>⟨(hs.2 D hD).1,by
  have h0:=(hs.2 D hD).2
  refine (hg.block D (Array.getElem?_eq_some_iff.1 h0).1 (fun e=>?_)).trans h0
  have:=(hr D e.symm).1
  have:=hB D hD
  omega⟩⟩
theorem fG.others {ds:List Nat} (h:fG base w ds) (hk:KeepsOthers w w'):fG base w' ds:=⟨h.1,fun D hD=>⟨(h.2 D hD).1,hk.same D _ (h.2 D hD).2 rfl⟩⟩
end Go.Proofs.YtpobkmjicbobdaaGreat
