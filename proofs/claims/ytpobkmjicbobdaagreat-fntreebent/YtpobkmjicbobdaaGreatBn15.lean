/- Walks. -/
import Derived.Laws.AppendOwnNone
import Derived.Test.YtpobkmjicbobdaaGreatBn14
import Derived.Lib.SlBytesRow
import Derived.Shelf.LaysM
import Derived.Shelf.Strconv.Clone
namespace Go.Proofs.YtpobkmjicbobdaaGreat
set_option maxRecDepth 100000
set_option maxHeartbeats 40000000
open Go.RowKit Go.Shelf
variable {G T X b1 b2 b3 base c g hi hi' j lo lo' m nm ns nv o:Nat} {M:List ac} {S:List Int} {V:List (List ag)} {bs gs:Nat→Nat} {d q:Int} {s t:ByteArray} {v:Value} {w w' w'' w0 w1:World} {xs:List Value}
def my (w:World) (v:Value) (n:Nat) (xs:List Value):Prop :=
 xs.length=n*2∧(∀u ∈ xs,u.oneCell'=true)∧((v=nZ∧n=0)∨∃b o c,v=sO b o n c∧∀j u,xs[j]?=some u→w.cell? ⟨b,o+j,none⟩=some u)
theorem my.keep {n:Nat} (h:my w v n xs) (hb:Bl w w'):my w' v n xs:=by
 obtain ⟨h1,h2,h3⟩:=h;refine ⟨h1,h2,?_⟩;rcases h3 with h | ⟨b,o,c,hv,hc⟩
 · exact .inl h
 · exact .inr ⟨b,o,c,hv,fun j u hu=>cell_later hb (hc j u hu)⟩
def pB (w:World) (p:Nat) (P:List (Nat × List Value)):Prop:=p<w.heap.size∧∀(i n:Nat) (xs:List Value),P[i]?=some (n,xs)→∃v,w.cell? ⟨p,i,none⟩=some v∧my w v n xs
theorem pB.keep {p:Nat} {P:List (Nat × List Value)} (h:pB w p P) (hb:Bl w w'):pB w' p P :=
 ⟨Nat.lt_of_lt_of_le h.1 hb.size,fun i n xs hS=>by obtain ⟨v,h1,h2⟩:=h.2 i n xs hS;exact ⟨v,cell_later hb h1,h2.keep hb⟩⟩
def km (w:World) (xs:List Value) (B:List ag):Prop :=
 xs.length=B.length*2∧∀i (p:ag),B[i]?=some p→(Lit.int .i64 p.2).wf=true∧∃s n c,xs[i*2]?=some (.slice s n c)∧xs[i*2+1]?=some (iT p.2)∧eu 0 w s n c p.1
theorem km.keep {B:List ag} (h:km w xs B) (hb:Bl w w'):km w' xs B :=
 ⟨h.1,fun i p hp=>by obtain ⟨h1,s,n,c,h2,h3,h4⟩:=h.2 i p hp;exact ⟨h1,s,n,c,h2,h3,h4.same (dJ.of_below hb)⟩⟩
theorem km.one {B:List ag} (h:km w xs B):∀u ∈ xs,u.oneCell'=true:=by
 intro u hu;obtain ⟨j,hj,rfl⟩:=List.getElem_of_mem hu;have hB:j / 2<B.length:=by have:=h.1;omega
 obtain ⟨_,s,n,c,h2,h3,_⟩:=h.2 (j / 2) _ (List.getElem?_eq_getElem hB);rcases Nat.mod_two_eq_zero_or_one j with hm | hm
 · rw [show j / 2*2=j by omega,List.getElem?_eq_getElem hj] at h2;rw [Option.some.inj h2];rfl
 · rw [show j / 2*2+1=j by omega,List.getElem?_eq_getElem hj] at h3;rw [Option.some.inj h3];rfl
theorem km.app {ys:List Value} {A B:List ag} (h:km w xs A) (k:km w ys B):km w (xs++ys) (A++B):=by
 have hl:=h.1;have kl:=k.1;refine ⟨by rw [List.length_append,List.length_append,hl,kl];omega,fun i p hp=>?_⟩;by_cases hi:i<A.length
 · rw [List.getElem?_append_left hi] at hp;rw [List.getElem?_append_left (by omega),List.getElem?_append_left (by omega)];exact h.2 i p hp
 · rw [List.getElem?_append_right (by omega)] at hp;rw [List.getElem?_append_right (by omega),List.getElem?_append_right (by omega),show i*2 - xs.length=(i - A.length)*2 by omega,show i*2+1 - xs.length=(i - A.length)*2+1 by omega];exact k.2 _ p hp
theorem iJ {n:Nat} {B:List ag} (h:w.ownsRow base 63 2 v n xs) (d:km w xs B):∃a c,v=.slice a n c∧az 0 w a n c B:=by
 have hn:B.length=n:=by have h1:=h.1;have h2:=d.1;omega
 rcases h.2 with ⟨hv,h0⟩ | ⟨g,cap,cur,hv,_⟩
 · subst hv h0;obtain rfl:=List.length_eq_zero_iff.1 hn;exact ⟨none,0,rfl,uj 0 w⟩
 · subst hv;have hrc:=cj h;refine ⟨_,cap,rfl,hn,hrc.1,hrc.2,(fun e=>by cases e),?_,?_⟩
   · rintro x e _;cases e;exact ⟨(h.lt g rfl).2,rfl,Nat.zero_le _⟩
   · rintro x e i hi;cases e;obtain ⟨h1,s,n',c,h2,h3,h4⟩:=d.2 i _ (List.getElem?_eq_getElem hi);refine ⟨h1,s,n',c,?_,?_,h4⟩
     · simp only [Nat.zero_add];exact (h.cellAt _ (by omega)).trans h2
     · simp only [Nat.zero_add];exact (h.cellAt _ (by omega)).trans h3
theorem az.raw {b n:Nat} {B:List ag} (h:az lo w (some ⟨b,o,none⟩) n c B):∃xs,km w xs B∧my w (sO b o n c) n xs:=by
 have hl:=h.length;refine ⟨(List.range (n*2)).map (fun j=>(w.cell? ⟨b,o+j,none⟩).getD (iT 0)),?_⟩;have hat:∀i (hi:i<B.length),(Lit.int .i64 B[i].2).wf=true∧∃s n' c',w.cell? ⟨b,o+i*2,none⟩=some (.slice s n' c')∧w.cell? ⟨b,o+(i*2+1),none⟩=some (iT B[i].2)∧eu lo w s n' c' B[i].1:=fun i hi=>by
  have:=h.runs _ rfl i hi;simpa [Nat.add_assoc] using this
 have hd:km w ((List.range (n*2)).map (fun j=>(w.cell? ⟨b,o+j,none⟩).getD (iT 0))) B:=by
  refine ⟨by simp [hl],fun i p hp=>?_⟩;have hi:=(List.getElem?_eq_some_iff.1 hp).1;have hp':=(List.getElem?_eq_some_iff.1 hp).2;obtain ⟨h1,s,n',c',h2,h3,h4⟩:=hat i hi;rw [hp'] at h1 h3 h4;refine ⟨h1,s,n',c',?_,?_,h4.mono (Nat.zero_le _)⟩
  · rw [List.getElem?_map,List.getElem?_range (by omega)];simp [h2]
  · rw [List.getElem?_map,List.getElem?_range (by omega)];simp [h3]
 refine ⟨hd,by simp,hd.one,.inr ⟨b,o,c,rfl,fun j u hu=>?_⟩⟩;have hj:j<n*2:=by have:=(List.getElem?_eq_some_iff.1 hu).1;simpa using this
 rw [List.getElem?_map,List.getElem?_range hj] at hu;simp only [Option.map_some] at hu;have hi:j / 2<B.length:=by omega
 obtain ⟨h1,s,n',c',h2,h3,h4⟩:=hat (j / 2) hi;rcases Nat.mod_two_eq_zero_or_one j with hm | hm
 · rw [show j / 2*2=j by omega] at h2;rw [h2] at hu ⊢;simpa using hu
 · rw [show j / 2*2+1=j by omega] at h3;rw [h3] at hu ⊢;simpa using hu
structure dM (lo hi:Nat) (w w':World):Prop where
 os:w'.os=w.os
 tape:w'.tape=w.tape
 output:w'.output=w.output
 size:w.heap.size≤w'.heap.size
 block:∀k,k<w.heap.size→(k<lo∨hi≤k)→w'.heap[k]?=w.heap[k]?
theorem dM.refl (lo hi:Nat) (w:World):dM lo hi w w:=⟨rfl,rfl,rfl,Nat.le_refl _,fun _ _ _=>rfl⟩
theorem dM.grown (h:dM lo hi w w') (hg:w'.grownBy w'' (some g)) (h1:lo≤g) (h2:g<hi):dM lo hi w w'' :=
 ⟨hg.os.trans h.os,hg.tape.trans h.tape,hg.output.trans h.output,Nat.le_trans h.size hg.size,fun k hk ho=>(hg.block k (Nat.lt_of_lt_of_le hk h.size) (fun e=>by have:=Option.some.inj e;omega)).trans (h.block k hk ho)⟩
theorem dM.own {n:Nat} {L:List ac} (h:dM lo hi w w') (hO:ay w base g n c L) (hg:g<lo∨hi≤g):ay w' base g n c L:=by
 refine ⟨⟨hO.owns.1,?_⟩,hO.len,hO.ents⟩;have hlt:=hO.lt.2;rcases hO.owns.2 with hn | ⟨g1,cap1,cur1,e1,hb1,hgb,rest⟩
 · exact .inl hn
 · cases e1;exact .inr ⟨g,c,cur1,rfl,hb1,(h.block g hlt hg).trans hgb,rest⟩
theorem dM.below {B:Nat} (h:dM lo hi w w') (hB:B≤lo) (hw:B≤w.heap.size):Below B w w':=⟨h.os,h.tape,h.output,h.size,fun k hk=>h.block k (by omega) (.inl (by omega))⟩
theorem dM.trans (h:dM lo hi w w') (k:dM lo hi w' w''):dM lo hi w w'' :=
 ⟨k.os.trans h.os,k.tape.trans h.tape,k.output.trans h.output,Nat.le_trans h.size k.size,fun q hq ho=>(k.block q (Nat.lt_of_lt_of_le hq h.size) ho).trans (h.block q hq ho)⟩
theorem dM.mono (h:dM lo hi w w') (h1:lo'≤lo) (h2:hi≤hi'):dM lo' hi' w w' :=
 ⟨h.os,h.tape,h.output,h.size,fun q hq ho=>h.block q hq (by omega)⟩
theorem dM.of_below (h:Bl w w'):dM lo hi w w':=⟨h.os,h.tape,h.output,h.size,fun q hq _=>h.block q hq⟩
theorem dM.row {size n:Nat} (h:dM lo hi w w') (hO:w.ownsRow base T size (sL g m c) n xs) (hg:g<lo∨hi≤g):w'.ownsRow base T size (sL g m c) n xs:=by
 refine ⟨hO.1,?_⟩;have hlt:=(hO.lt g rfl).2;rcases hO.2 with hn | ⟨g1,cap1,cur1,e1,hb1,hgb,rest⟩
 · exact .inl hn
 · cases e1;exact .inr ⟨g,c,cur1,rfl,hb1,(h.block g hlt hg).trans hgb,rest⟩
section
attribute [local go_sem] Oper.semAt_some
def lL (lo hi:Nat) (w:World) (g m:Nat):Prop:=lo≤g∧g<hi∧an w g 50 (m*5)
structure jl (lo hi:Nat) (w:World) (g:Nat) (B:List ag):Prop where
 at1:lo≤g
 at2:g<hi
 blk:an w g 63 (B.length*2)
 runs:∀(i:Nat) (p:ag),B[i]?=some p→∃e,w.cell? ⟨g,i*2,none⟩=some (sL e p.1.length p.1.length)∧lL lo hi w e p.1.length
structure ki (lo hi:Nat) (w:World) (g:Nat) (V:List (List ag)):Prop where
 at1:lo≤g
 at2:g<hi
 blk:an w g 61 (V.length*1)
 levs:∀(i:Nat) (B:List ag),V[i]?=some B→∃e,w.cell? ⟨g,i,none⟩=some (sL e B.length B.length)∧jl lo hi w e B
structure gU (lo hi:Nat) (w w':World):Prop where
 os:w'.os=w.os
 tape:w'.tape=w.tape
 output:w'.output=w.output
 size:w.heap.size≤w'.heap.size
 far:∀q,q<w.heap.size→(q<lo∨hi≤q)→w'.heap[q]?=w.heap[q]?
 blk:∀g t sz,an w g t sz→an w' g t sz
 sl:∀g sz o,an w g 61 sz→w'.cell? ⟨g,o,none⟩=w.cell? ⟨g,o,none⟩
 ev:∀g sz j,an w g 63 sz→w'.cell? ⟨g,j*2,none⟩=w.cell? ⟨g,j*2,none⟩
theorem gU.refl (lo hi:Nat) (w:World):gU lo hi w w:=⟨rfl,rfl,rfl,Nat.le_refl _,fun _ _ _=>rfl,fun _ _ _ h=>h,fun _ _ _ _=>rfl,fun _ _ _ _=>rfl⟩
theorem gU.trans (h:gU lo hi w w') (k:gU lo hi w' w''):gU lo hi w w'' :=
 ⟨k.os.trans h.os,k.tape.trans h.tape,k.output.trans h.output,Nat.le_trans h.size k.size,fun q hq ho=>(k.far q (Nat.lt_of_lt_of_le hq h.size) ho).trans (h.far q hq ho),fun g t sz hg=>k.blk g t sz (h.blk g t sz hg),fun g sz o hb=>(k.sl g sz o (h.blk _ _ _ hb)).trans (h.sl g sz o hb),fun g sz j hb=>(k.ev g sz j (h.blk _ _ _ hb)).trans (h.ev g sz j hb)⟩
theorem gU.of_below (h:Bl w w'):gU lo hi w w' :=
 ⟨h.os,h.tape,h.output,h.size,fun q hq _=>h.block q hq,fun _ _ _ hg=>hg.below h,fun _ _ _ hb=>World.cell?_of_block (h.block _ hb.lt),fun _ _ _ hb=>World.cell?_of_block (h.block _ hb.lt)⟩
theorem gU.set {sz:Nat} (v:Value) (hB:an w g T sz) (h1:lo≤g) (h2:g<hi) (t1:T≠61) (t2:T≠63):gU lo hi w (w.setCell ⟨g,o,none⟩ v) :=
 ⟨rfl,rfl,rfl,by simp [World.setCell],fun q _ hq=>Below.heap_setCell _ _ _ _ (fun e=>by have e':q=g:=e;omega),fun _ _ _ hg=>hg.setCell v,
  fun g' sz' o' hb=>World.cell?_setCell_other _ _ _ _ (fun e=>by have e':g'=g:=(by cases e;rfl);subst e';exact t1 (hB.kind hb)),
  fun g' sz' j hb=>World.cell?_setCell_other _ _ _ _ (fun e=>by have e':g'=g:=(by simp only [Addr.mk.injEq] at e;exact e.1.symm);subst e';exact t2 (hB.kind hb))⟩
theorem gU.below {B:Nat} (h:gU lo hi w w') (hB:B≤lo) (hw:B≤w.heap.size):Below B w w' :=
 ⟨h.os,h.tape,h.output,h.size,fun q hq=>h.far q (by omega) (Or.inl (by omega))⟩
theorem lL.mono (h:lL lo hi w g m) (h1:lo'≤lo) (h2:hi≤hi'):lL lo' hi' w g m:=⟨Nat.le_trans h1 h.1,Nat.lt_of_lt_of_le h.2.1 h2,h.2.2⟩
theorem jl.mono {B:List ag} (h:jl lo hi w g B) (h1:lo'≤lo) (h2:hi≤hi'):jl lo' hi' w g B :=
 ⟨Nat.le_trans h1 h.at1,Nat.lt_of_lt_of_le h.at2 h2,h.blk,fun i p hp=>by obtain ⟨e,c,b⟩:=h.runs i p hp;exact ⟨e,c,b.mono h1 h2⟩⟩
theorem ki.mono (h:ki lo hi w g V) (h1:lo'≤lo) (h2:hi≤hi'):ki lo' hi' w g V :=
 ⟨Nat.le_trans h1 h.at1,Nat.lt_of_lt_of_le h.at2 h2,h.blk,fun i p hp=>by obtain ⟨e,c,b⟩:=h.levs i p hp;exact ⟨e,c,b.mono h1 h2⟩⟩
end
section
attribute [local go_sem] Oper.semAt_some
structure eT (lo hi:Nat) (w:World) (g n:Nat) (B:List ag) (es:Nat→Nat):Prop where
 len:B.length=n
 row:∃xs,w.ownsRow lo 63 2 (sL g n n) n xs∧∀(i:Nat) (p:ag),B[i]?=some p→xs[i*2]?=some (sL (es i) p.1.length p.1.length)∧xs[i*2+1]?=some (iT p.2)
 ents:∀(i:Nat) (p:ag),B[i]?=some p→ay w lo (es i) p.1.length p.1.length p.1
 up:∀i j,i<j→j<n→es i<es j
 top:g<hi∧∀i,i<n→es i<hi
 wfs:∀p ∈ B,(Lit.int .i64 p.2).wf=true
theorem eT.keepO {n:Nat} {B:List ag} {es:Nat→Nat} (h:eT lo hi w g n B es) (k:dM lo' hi' w w') (hd:hi≤lo'∨hi'≤lo):eT lo hi w' g n B es:=by
 obtain ⟨xs,h1,h2⟩:=h.row;have hg:=(h1.lt g rfl).1;refine ⟨h.len,⟨xs,k.row h1 (by have:=h.top.1;omega),h2⟩,fun i p hp=>?_,h.up,h.top,h.wfs⟩;have hO:=h.ents i p hp;have hi':=(List.getElem?_eq_some_iff.1 hp).1;exact k.own hO (by have h3:=hO.lt.1;have h4:=h.top.2 i (by rw [← h.len];exact hi');omega)
theorem eT.below {n:Nat} {B:List ag} {es:Nat→Nat} (h:eT lo hi w g n B es) (hb:Bl w w'):eT lo hi w' g n B es:=by
 obtain ⟨xs,h1,h2⟩:=h.row;exact ⟨h.len,⟨xs,h1.kept (row:=none) ⟨hb.os,hb.tape,hb.output,hb.size,fun k hk _=>hb.block k hk⟩ (.inr (by simp [Value.ownBlock])),h2⟩,fun i p hp=>(h.ents i p hp).below hb,h.up,h.top,h.wfs⟩
theorem eT.ne {n:Nat} {B:List ag} {es:Nat→Nat} (h:eT lo hi w g n B es) {i:Nat} {p:ag} (hp:B[i]?=some p):g≠es i:=by
 intro e;obtain ⟨xs,h1,_⟩:=h.row;have b1:=ee h1;have b2:=ee (h.ents i p hp).owns;rw [← e] at b2;exact absurd (b1.kind b2) (by decide)
theorem eT.cell {n:Nat} {B:List ag} {es:Nat→Nat} (h:eT lo hi w g n B es) {i:Nat} {p:ag} (hp:B[i]?=some p):w.cell? ⟨g,i*2,none⟩=some (sL (es i) p.1.length p.1.length)∧w.cell? ⟨g,i*2+1,none⟩=some (iT p.2)∧w.frozen? ⟨g,i*2+1,none⟩=false∧g<w.heap.size:=by
 obtain ⟨xs,h1,h2⟩:=h.row;have hi':=(List.getElem?_eq_some_iff.1 hp).1;rw [h.len] at hi';exact ⟨(h1.cellAt _ (by omega)).trans (h2 i p hp).1,(h1.cellAt _ (by omega)).trans (h2 i p hp).2,h1.frozenAt _,(h1.lt g rfl).2⟩
theorem eT.put {n:Nat} {B:List ag} {es:Nat→Nat} {p:ag} (h:eT lo hi w g n B es) (hp:B[j]?=some p) {L:List ac} (hL:L.length=p.1.length) (hO:ay w1 lo (es j) p.1.length p.1.length L) (hg:w.grownBy w1 (some (es j))) (v:Int) (hv:(Lit.int .i64 v).wf=true) :
 eT lo hi (w1.setCell ⟨g,j*2+1,none⟩ (iT v)) g n (B.set j (L,v)) es:=by
 have hne:=h.ne hp;have hjn:j<B.length:=(List.getElem?_eq_some_iff.1 hp).1;obtain ⟨xs,h1,h2⟩:=h.row;have hxl:=h1.1;have hln:=h.len;have r1:=h1.kept hg (.inr (by simpa [Value.ownBlock] using hne));have r2:=(r1.stored (j*2+1) (iT v)).1;refine ⟨by rw [List.length_set];exact h.len,⟨_,r2,fun i q hq=>?_⟩,fun i q hq=>?_,h.up,h.top,fun q hq=>?_⟩
 · by_cases e:j=i
   · subst e;rw [List.getElem?_set_self hjn] at hq;cases hq;rw [List.getElem?_set_ne (by omega),List.getElem?_set_self (by omega)];simp only [hL];exact ⟨(h2 j p hp).1,trivial⟩
   · rw [List.getElem?_set_ne e] at hq;rw [List.getElem?_set_ne (by omega),List.getElem?_set_ne (by omega)];exact h2 i q hq
 · by_cases e:j=i
   · subst e;rw [List.getElem?_set_self hjn] at hq;cases hq;simp only [hL];exact hO.setCell (p:=⟨g,j*2+1,none⟩) hne _
   · rw [List.getElem?_set_ne e] at hq;have hi':=(List.getElem?_eq_some_iff.1 hq).1;refine (((h.ents i q hq).grown hg (fun e'=>?_))).setCell (p:=⟨g,j*2+1,none⟩) (h.ne hq) _;have e2:=Option.some.inj e';rcases Nat.lt_or_gt_of_ne e with h3 | h3
     · have:=h.up j i h3 (by omega);omega
     · have:=h.up i j h3 (by omega);omega
 · rcases List.mem_or_eq_of_mem_set hq with h3 | h3
   · exact h.wfs q h3
   · subst h3;exact hv
end
section
attribute [local go_sem] Oper.semAt_some
structure fJ (lo hi:Nat) (w:World) (G n:Nat) (V:List (List ag)) (gs bs:Nat→Nat) (es:Nat→Nat→Nat):Prop where
 len:V.length=n
 row:∃xs,w.ownsRow lo 61 1 (sL G n n) n xs∧∀(i:Nat) (B:List ag),V[i]?=some B→xs[i]?=some (sL (gs i) B.length B.length)
 levs:∀(i:Nat) (B:List ag),V[i]?=some B→eT (bs i) (bs (i+1)) w (gs i) B.length B (es i)
 bot:lo≤bs 0∧G<bs 0
 up:∀i j,i≤j→j≤n→bs i≤bs j
 top:bs n≤hi
theorem fJ.below {n:Nat} {es:Nat→Nat→Nat} (h:fJ lo hi w G n V gs bs es) (hb:Bl w w'):fJ lo hi w' G n V gs bs es:=by
 obtain ⟨xs,h1,h2⟩:=h.row;exact ⟨h.len,⟨xs,h1.kept (row:=none) ⟨hb.os,hb.tape,hb.output,hb.size,fun k hk _=>hb.block k hk⟩ (.inr (by simp [Value.ownBlock])),h2⟩,fun i B hB=>(h.levs i B hB).below hb,h.bot,h.up,h.top⟩
theorem fJ.keepO {n:Nat} {es:Nat→Nat→Nat} (h:fJ lo hi w G n V gs bs es) (k:dM lo' hi' w w') (hG:G<lo'∨hi'≤G) (hd:bs n≤lo'∨hi'≤bs 0):fJ lo hi w' G n V gs bs es:=by
 obtain ⟨xs,h1,h2⟩:=h.row;refine ⟨h.len,⟨xs,k.row h1 hG,h2⟩,fun i B hB=>(h.levs i B hB).keepO k ?_,h.bot,h.up,h.top⟩;have hi':=(List.getElem?_eq_some_iff.1 hB).1;rw [h.len] at hi';have u1:=h.up 0 i (by omega) (by omega);have u2:=h.up (i+1) n (by omega) (by omega);omega
theorem fJ.cell {n:Nat} {es:Nat→Nat→Nat} (h:fJ lo hi w G n V gs bs es) {i:Nat} {B:List ag} (hB:V[i]?=some B):w.cell? ⟨G,i,none⟩=some (sL (gs i) B.length B.length)∧G<w.heap.size:=by
 obtain ⟨xs,h1,h2⟩:=h.row;have hi':=(List.getElem?_eq_some_iff.1 hB).1;rw [h.len] at hi';exact ⟨(h1.cellAt _ (by omega)).trans (h2 i B hB),(h1.lt G rfl).2⟩
theorem fJ.put {n:Nat} {es:Nat→Nat→Nat} {B B':List ag} (h:fJ lo hi w G n V gs bs es) (hB:V[j]?=some B) (hl:B'.length=B.length) (hR:eT (bs j) (bs (j+1)) w1 (gs j) B.length B' (es j)) (hk:dM (bs j) (bs (j+1)) w w1):fJ lo hi w1 G n (V.set j B') gs bs es:=by
 have hj:=(List.getElem?_eq_some_iff.1 hB).1;have hln:=h.len;have u0:=h.up 0 j (by omega) (by omega);have hb:=h.bot.2;obtain ⟨xs,h1,h2⟩:=h.row;refine ⟨by rw [List.length_set];exact h.len,⟨xs,hk.row h1 (by omega),fun i C hC=>?_⟩,fun i C hC=>?_,h.bot,h.up,h.top⟩
 · by_cases e:j=i
   · subst e;rw [List.getElem?_set_self hj] at hC;cases hC;rw [hl];exact h2 j B hB
   · rw [List.getElem?_set_ne e] at hC;exact h2 i C hC
 · by_cases e:j=i
   · subst e;rw [List.getElem?_set_self hj] at hC;cases hC;rw [hl];exact hR
   · rw [List.getElem?_set_ne e] at hC;have hi':=(List.getElem?_eq_some_iff.1 hC).1;refine (h.levs i C hC).keepO hk ?_;rcases Nat.lt_or_gt_of_ne e with h3 | h3
     · have:=h.up (j+1) i (by omega) (by omega);omega
     · have:=h.up (i+1) j (by omega) (by omega);omega
def pE (lo:Nat) (w:World) (g n:Nat) (S:List Int):Prop:=S.length=n∧w.ownsRow lo 3 1 (sL g n n) n (S.map iT)
end
structure ji (lo hi:Nat) (w:World) (b1 nm b2 nv b3 ns:Nat) (M:List ac) (V:List (List ag)) (S:List Int) (gs bs:Nat→Nat) (es:Nat→Nat→Nat):Prop where
 mem:ay w lo b1 nm nm M
 levs:fJ lo hi w b2 nv V gs bs es
 sn:pE lo w b3 ns S
 ahead:b1<bs 0∧b3<bs 0
theorem pE.grown {n:Nat} {row:Option Nat} (h:pE lo w g n S) (hg:w.grownBy w' row) (hne:some g≠row):pE lo w' g n S:=⟨h.1,h.2.kept hg (.inr (by simpa [Value.ownBlock] using hne))⟩
theorem pE.keepO {n:Nat} (h:pE lo w g n S) (k:dM lo' hi' w w') (hg:g<lo'∨hi'≤g):pE lo w' g n S:=⟨h.1,k.row h.2 hg⟩
theorem ji.below {es:Nat→Nat→Nat} (h:ji lo hi w b1 nm b2 nv b3 ns M V S gs bs es) (hb:Bl w w'):ji lo hi w' b1 nm b2 nv b3 ns M V S gs bs es :=
 ⟨h.mem.below hb,h.levs.below hb,h.sn.grown (row:=none) ⟨hb.os,hb.tape,hb.output,hb.size,fun k hk _=>hb.block k hk⟩ (by simp),h.ahead⟩
theorem ji.keepO {es:Nat→Nat→Nat} (h:ji lo hi w b1 nm b2 nv b3 ns M V S gs bs es) (k:dM lo' hi' w w') (hd:hi'≤lo):ji lo hi w' b1 nm b2 nv b3 ns M V S gs bs es:=by
 obtain ⟨xs,h1,_⟩:=h.levs.row;have g2:=(h1.lt b2 rfl).1;have g1:=h.mem.lt.1;have g3:=(h.sn.2.lt b3 rfl).1;have g0:=h.levs.bot.1;exact ⟨k.own h.mem (by omega),h.levs.keepO k (by omega) (by omega),h.sn.keepO k (by omega),h.ahead⟩
theorem ji.apart {es:Nat→Nat→Nat} (h:ji lo hi w b1 nm b2 nv b3 ns M V S gs bs es):b1≠b2∧b1≠b3∧b2≠b3:=by
 obtain ⟨xs,h1,_⟩:=h.levs.row;have k1:=ee h.mem.owns;have k2:=ee h1;have k3:=ee h.sn.2;refine ⟨fun e=>?_,fun e=>?_,fun e=>?_⟩ <;> subst e
 · exact absurd (k1.kind k2) (by decide)
 · exact absurd (k1.kind k3) (by decide)
 · exact absurd (k2.kind k3) (by decide)
theorem fJ.grown {n:Nat} {es:Nat→Nat→Nat} (h:fJ lo hi w G n V gs bs es) (hg:w.grownBy w' (some g)) (hne:G≠g) (hl:g<bs 0):fJ lo hi w' G n V gs bs es:=by
 refine h.keepO (lo':=g) (hi':=g+1) ⟨hg.os,hg.tape,hg.output,hg.size,fun q hq ho=>hg.block q hq (fun e=>by have:=Option.some.inj e;omega)⟩ (by omega) (by omega)
theorem jA (h:dM lo hi w w') {b o:Nat} {v:Value} (hb:b<lo∨hi≤b) (hc:w.cell? ⟨b,o,none⟩=some v):w'.cell? ⟨b,o,none⟩=some v :=
 (World.cell?_of_block (h.block b (World.block_lt_of_cell? _ _ hc) hb)).trans hc
def Tryz.laysM316_ren : Go.Shelf.Ren := ⟨fun | 316 => 216 | n => n, fun | 9 => 9 | 3 => 3 | 4 => 4 | 37 => 38 | 0 => 0 | 127 => 247 | 5 => 5 | n => n, fun | n => n⟩
theorem Tryz.laysM316 : Go.Proofs.LaysM.n316 Tryz.prog Tryz.laysM316_ren := {
  mixed := by kernel_rfl
  f316 := Tryz.func216.trans (congrArg some (by kernel_rfl))
  t0 := Tryz.underlying0
  a0 := Tryz.isAgg0
  z0 := Tryz.sizeOf0
  v0 := Tryz.zeroValue0
  t3 := Tryz.underlying3
  a3 := Tryz.isAgg3
  z3 := Tryz.sizeOf3
  v3 := Tryz.zeroValue3
  t4 := Tryz.underlying4
  a4 := Tryz.isAgg4
  z4 := Tryz.sizeOf4
  v4 := Tryz.zeroValue4
  t9 := Tryz.underlying9
  a9 := Tryz.isAgg9
  z9 := Tryz.sizeOf9
  v9 := Tryz.zeroValue9
  t37 := Tryz.underlying38
  a37 := Tryz.isAgg38
  z37 := Tryz.sizeOf38
  v37 := Tryz.zeroValue38
  t127 := Tryz.underlying247
  a127 := Tryz.isAgg247
  z127 := Tryz.sizeOf247
  v127 := Tryz.zeroValue247
  t5 := Tryz.underlying5
  a5 := Tryz.isAgg5
  z5 := Tryz.sizeOf5
  v5 := Tryz.zeroValue5
  i0 := by kernel_rfl
  i3 := by kernel_rfl
  i4 := by kernel_rfl
  i5 := by kernel_rfl
  i9 := by kernel_rfl
  i37 := by kernel_rfl
  i127 := by kernel_rfl }
open Go.RowKit in
/-- internal/stringslite.Clone (what strings.Clone calls): "Clone returns a fresh copy of s.": THE SAME BYTES. Of what was there nothing has turned (a new row is laid, and frozen, where s is not empty). (LAID: no walk: one application.) -/
theorem Tryz.stringslite_Clone (s : ByteArray) (w : World) (hlim : s.size ≤ 281474976710656) :
    Calls Tryz.prog 216 #[.string s] w fun e w' => e = .returned (.string s) ∧ Below w.heap.size w w' := Any.stringslite_Clone Tryz.laysM316 s w hlim
theorem sc (s:ByteArray) (w:World) (h:s.size≤281474976710656) :
 Calls Tryz.prog 171 #[.string s] w fun e w'=>e=.returned (.string s)∧Bl w w':=by
 go_enter Tryz.func171,Tryz.ntmps171
 go_wp2_with fail
 refine (Tryz.stringslite_Clone s _ h).mono ?_;rintro e w1 ⟨rfl,hb1⟩;go_wp2;go_ret;exact ⟨rfl,hb1⟩
structure gY (w0 w:World) (X:Nat) (s t:ByteArray) (q d n:Int):Prop where
 low:Below X w0 w
 c0:w.cell? ⟨X,0,none⟩=some (.string s)
 c1:w.cell? ⟨X,1,none⟩=some (iT q)
 c2:w.cell? ⟨X,2,none⟩=some (iT d)
 c3:w.cell? ⟨X,3,none⟩=some (.string t)
 c4:w.cell? ⟨X,4,none⟩=some (iT n)
 fr:∀o,w.frozen? ⟨X,o,none⟩=false
theorem gY.lt {n:Int} (h:gY w0 w X s t q d n):X<w.heap.size:=World.block_lt_of_cell? _ _ h.c0
theorem gY.call {n:Int} (h:gY w0 w X s t q d n) (hb:Bl w w'):gY w0 w' X s t q d n :=
 ⟨h.low.trans (hb.mono (Nat.le_of_lt h.lt)),cell_later hb h.c0,cell_later hb h.c1,cell_later hb h.c2,cell_later hb h.c3,cell_later hb h.c4,fun o=>(hb.frozen (p:=⟨X,o,none⟩) h.lt).trans (h.fr o)⟩
theorem gY.drew {n:Int} (h:gY w0 w X s t q d n):gY w0 w.drew X s t q d n:=h.call (Below.refl _ w).drew
theorem gY.store0 {n:Int} (h:gY w0 w X s t q d n):gY w0 (w.setCell ⟨X,0,none⟩ (.string s)) X s t q d n :=
 ⟨h.low.setCell (p:=⟨X,0,none⟩) (Nat.le_refl _) _,World.cell?_setCell_same' _ _ _ (by rw [h.c0];rfl),by rw [World.cell?_setCell_other _ _ _ _ (by simp)];exact h.c1,by rw [World.cell?_setCell_other _ _ _ _ (by simp)];exact h.c2,by rw [World.cell?_setCell_other _ _ _ _ (by simp)];exact h.c3,by rw [World.cell?_setCell_other _ _ _ _ (by simp)];exact h.c4,fun o=>by rw [World.frozen?_setCell];exact h.fr o⟩
theorem gY.store3 {n:Int} (h:gY w0 w X s t q d n):gY w0 (w.setCell ⟨X,3,none⟩ (.string t)) X s t q d n :=
 ⟨h.low.setCell (p:=⟨X,3,none⟩) (Nat.le_refl _) _,by rw [World.cell?_setCell_other _ _ _ _ (by simp)];exact h.c0,by rw [World.cell?_setCell_other _ _ _ _ (by simp)];exact h.c1,by rw [World.cell?_setCell_other _ _ _ _ (by simp)];exact h.c2,World.cell?_setCell_same' _ _ _ (by rw [h.c3];rfl),by rw [World.cell?_setCell_other _ _ _ _ (by simp)];exact h.c4,fun o=>by rw [World.frozen?_setCell];exact h.fr o⟩
theorem gY.new (w:World) (T:TypeId) (s t:ByteArray) (q d n:Int):gY w (w.alloc (.cells #[.string s,iT q,iT d,.string t,iT n] T)) w.heap.size s t q d n :=
 ⟨bZ,by simp,by simp,by simp,by simp,by simp,fun o=>World.frozen?_alloc_new w _ _ o⟩
theorem pq (a:Option Addr) (len cap:Nat) (L:List ac) (w:World) (hL:aj w a len cap L) (hbig:len≤1048576) (hsm:∀e ∈ L,e.1.size≤281474976710656∧e.2.2.2.1.size≤281474976710656) :
 Calls Tryz.prog 149 #[.slice a len cap] w fun e w'=>e=.returned (sL (w.heap.size) len len)∧ay w' w.heap.size w.heap.size len len L∧w.heap.size<w'.heap.size∧Bl w w':=by
 have HLEN:Hid (L.length=len):=hL.length;have HENTS:Hid (∀l ∈ L,ec l):=hL.ents;have HSM:=b6 hsm;have HL:=b6 hL;clear hL hsm;obtain ⟨i0,hi,hz0,hz1,hz2⟩:=info_parts Tryz.infoEnt;go_enter Tryz.func149,Tryz.ntmps149
 go_wp2_with (at_make;refine wpList_make_full _ rfl _ _ 28 rfl w.heap.size 50 i0 _ 5 Tryz.underlying28 hi hz0 hz1 .i64 .i64 _ _ len rfl rfl (by simp) (by simp) (by rw [hz2];omega) (by unfold maxLen;omega) (Nat.le_refl _) ?_;intro w1 hown hgrow)
 have hb1:Bl w w1:=(Below.refl _ _).grown hgrow (Nat.le_refl _) (by simp);have hsz1:w.heap.size<w1.heap.size:=(hown.lt _ rfl).2;go_loopw [11] (fun i wr=>∃(k:Nat) (xs:List Value),k≤len∧i=iT k∧wr.ownsRow w.heap.size 50 5 (sL (w.heap.size) len len) len xs∧Bl w wr∧(∀j l,j<k→L[j]?=some l→iM xs j l)) (fun i _=>len - (intOf i).toNat)
 case atStart=>exact ⟨0,_,Nat.zero_le _,rfl,hown,hb1,fun j l h=>absurd h (Nat.not_lt_zero _)⟩
 case round =>
  obtain ⟨k,xs,hk,rfl,ho,hb,hrow⟩:=hrel;have HROW:Hid (∀j l,j<k→L[j]?=some l→iM xs j l):=hrow;clear hrow hown hgrow hb1 hsz1;by_cases hlt:k<len
  · obtain ⟨b,off,rfl,hbb⟩:=HL.out.form (by omega);obtain ⟨s,q,d,t,n,hg,hlw,g0,g1,g2,g3,g4⟩:=HL.out.ent hb hbb k hlt;have HG:Hid (L[k]?=some (s,q,d,t,n)):=hg;obtain ⟨hs,ht⟩:=HSM.out _ (List.mem_of_getElem? hg);simp only at hs ht;clear hg hlw;have HX:Hid (xs.length=len*5):=ho.1;have HO:Hid (wr.ownsRow w.heap.size 50 5 (sL (w.heap.size) len len) len xs):=ho;have hgl:=(ho.lt w.heap.size rfl).2;clear ho;go_wp2_with fail
    obtain ⟨X,hX⟩:=aS wr.heap.size;obtain ⟨W,hW⟩:=aS (wr.alloc (.cells #[.string s,iT q,iT d,.string t,iT n] 50));have kW:gY wr W X s t q d n:=by rw [hW,hX];exact gY.new wr 50 s t q d n
    have hgX:w.heap.size<X:=by rw [hX];exact hgl
    have HXW:Hid (X=wr.heap.size):=hX;rw [← hW,← hX];clear hW hX;have k0:gY wr W.drew X s t q d n:=kW.drew;have HMK:Hid (∀w',gY wr w' X s t q d n→(w'.cell? ⟨X,0,none⟩=some (.string s)∧w'.cell? ⟨X,3,none⟩=some (.string t))):=fun w' kk=>⟨kk.c0,kk.c3⟩
    refine eC HMK k0 fun aa=>?_
    refine aO 0 2 aa ?_;refine aO 3 2 aa ?_;refine aI 2 fun K hK=>?_
    go_simp;refine (sc _ _ hs).mono ?_;rintro e w1 ⟨rfl,b1⟩;have k1:=k0.call b1;go_wp2_with fail
    refine hK.out _ _ (HMK.out _ k1) fun aa=>?_
    (try go_frame);refine aO 6 1 aa ?_;refine aI 5 fun K hK=>?_
    go_simp;refine (sc _ _ ht).mono ?_;rintro e w2 ⟨rfl,b2⟩;have k2:=k1.call b2;go_wp2_with fail
    refine hK.out _ _ (HMK.out _ k2) fun aa=>?_
    (try go_frame);refine aI 7 fun K hK=>?_
    have c3:=k2.c0;have f3:=k2.fr 0;go_simp;have k3:=k2.store0;clear c3 f3;refine hK.out _ _ (HMK.out _ k3) fun aa=>?_
    (try go_frame);refine aO 8 1 aa ?_;refine aI 9 fun K hK=>?_
    have c4:=k3.c3;have f4:=k3.fr 3;go_simp;have k4:=k3.store3;clear c4 f4;refine hK.out _ _ (HMK.out _ k4) fun aa=>?_
    (try go_frame);refine dN ?_;obtain ⟨W4,hW4⟩:=aS (((w2.setCell ⟨X,0,none⟩ (.string s)).setCell ⟨X,3,none⟩ (.string t)));rw [← hW4] at k4 ⊢;have hb2:Bl wr W4:=by have:=k4.low;rw [HXW.out] at this;exact this
    have z0:=k4.c0;have z1:=k4.c1;have z2:=k4.c2;have z3:=k4.c3;have z4:=k4.c4;have hX4:=k4.lt;have K4:Hid (gY wr W4 X s t q d n):=k4;clear hW4 k1 k2 k3 k4 k0 kW b1 b2 HMK aa;have ho2:W4.ownsRow w.heap.size 50 5 (sL (w.heap.size) len len) len xs:=HO.out.kept (row:=none) ⟨hb2.os,hb2.tape,hb2.output,hb2.size,fun k hk _=>hb2.block k hk⟩ (.inr (by simp [Value.ownBlock]));have c0:∃v,W4.cell? ⟨w.heap.size,k*5,none⟩=some v:=⟨_,(ho2.cellAt _ (by omega)).trans (List.getElem?_eq_getElem (by rw [HX.out];omega))⟩;have c1:∃v,W4.cell? ⟨w.heap.size,k*5+1,none⟩=some v:=⟨_,(ho2.cellAt _ (by omega)).trans (List.getElem?_eq_getElem (by rw [HX.out];omega))⟩;have c2:∃v,W4.cell? ⟨w.heap.size,k*5+2,none⟩=some v:=⟨_,(ho2.cellAt _ (by omega)).trans (List.getElem?_eq_getElem (by rw [HX.out];omega))⟩;have c3:∃v,W4.cell? ⟨w.heap.size,k*5+3,none⟩=some v:=⟨_,(ho2.cellAt _ (by omega)).trans (List.getElem?_eq_getElem (by rw [HX.out];omega))⟩;have c4:∃v,W4.cell? ⟨w.heap.size,k*5+4,none⟩=some v:=⟨_,(ho2.cellAt _ (by omega)).trans (List.getElem?_eq_getElem (by rw [HX.out];omega))⟩;obtain ⟨v0,c0⟩:=c0;obtain ⟨v1,c1⟩:=c1;obtain ⟨v2,c2⟩:=c2;obtain ⟨v3,c3⟩:=c3;obtain ⟨v4,c4⟩:=c4;have f0:W4.frozen? ⟨w.heap.size,k*5,none⟩=false:=ho2.frozenAt _;have f1:W4.frozen? ⟨w.heap.size,k*5+1,none⟩=false:=ho2.frozenAt _;have f2:W4.frozen? ⟨w.heap.size,k*5+2,none⟩=false:=ho2.frozenAt _;have f3:W4.frozen? ⟨w.heap.size,k*5+3,none⟩=false:=ho2.frozenAt _;have f4:W4.frozen? ⟨w.heap.size,k*5+4,none⟩=false:=ho2.frozenAt _;have HO2:Hid (W4.ownsRow w.heap.size 50 5 (sL (w.heap.size) len len) len xs):=ho2;clear ho2;go_wp2;go_roundw
    case rel =>
     have t0:=HO2.out.stored (k*5) (.string s);have t1:=t0.1.stored (k*5+1) (iT q);have t2:=t1.1.stored (k*5+2) (iT d);have t3:=t2.1.stored (k*5+3) (.string t);have t4:=t3.1.stored (k*5+4) (iT n);refine ⟨k+1,_,by omega,by go_num,t4.1,?_,?_⟩
     · exact (((((hb.trans (hb2.mono hb.size)).setCell (p:=⟨w.heap.size,_,none⟩) (Nat.le_refl _) _).setCell (p:=⟨w.heap.size,_,none⟩) (Nat.le_refl _) _).setCell (p:=⟨w.heap.size,_,none⟩) (Nat.le_refl _) _).setCell (p:=⟨w.heap.size,_,none⟩) (Nat.le_refl _) _).setCell (p:=⟨w.heap.size,_,none⟩) (Nat.le_refl _) _
     · intro j l hj hl;by_cases hjk:j=k
       · subst hjk;rw [HG.out] at hl;cases hl;exact mF s t q d n (by rw [HX.out];omega)
       · exact kQ (HROW.out j l (by omega) hl) hjk _ _ _ _ _
    case measure=>simp [intOf];omega
  · go_wp2;go_ret;exact ⟨rfl,⟨by rw [← sP (xs:=xs) (L:=L) (by rw [HLEN.out];exact ho.1) (fun j l hl=>HROW.out j l (by have:=(List.getElem?_eq_some_iff.1 hl).1;rw [HLEN.out] at this;omega) hl)];exact ho,HLEN.out,HENTS.out⟩,(ho.lt _ rfl).2,hb⟩
end Go.Proofs.YtpobkmjicbobdaaGreat
