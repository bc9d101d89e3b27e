/- Walks. -/
import Derived.Test.YtpobkmjicbobdaaGreatBn26
namespace Go.Proofs.YtpobkmjicbobdaaGreat
set_option maxRecDepth 100000
set_option maxHeartbeats 40000000
open Go.RowKit
variable {A B C D:List ag} {G P X Z base c1 c3 cap cm cs d1 d2 dA dD e1 e2 g g1 g3 gA gD len lo n n1 n2 nD nm ns sz:Nat} {M:List ac} {S:List Int} {ab ak am:Option Addr} {b w w' wi wj:World} {xs:List Value}
def de (p:Nat→Prop) (w:World) (a:Option Addr) (n c:Nat) (B:List ag):Prop :=
 az 0 w a n c B∧∀x,a=some x→0<n→p x.block∧∀i,i<n→∀s m d,w.cell? ⟨x.block,x.off+i*2,none⟩=some (.slice s m d)→∀y,s=some y→0<m→p y.block
theorem de.same {p:Nat→Prop} {a:Option Addr} {c:Nat} (h:de p w a n c B) (hs:w.heap.size≤w'.heap.size) (hc:∀b,p b→b<w.heap.size→w'.heap[b]?=w.heap[b]?):de p w' a n c B:=by
 have hcell:∀b,p b→b<w.heap.size→∀o,w'.cell? ⟨b,o,none⟩=w.cell? ⟨b,o,none⟩:=fun b h1 h2 o=>World.cell?_of_block (a:=⟨b,o,none⟩) (hc b h1 h2)
 refine ⟨⟨h.1.length,h.1.room,h.1.big,h.1.nil,fun x e hp=>⟨Nat.lt_of_lt_of_le (h.1.lies x e hp).1 hs,(h.1.lies x e hp).2⟩,fun x e i hi=>?_⟩,fun x e hp=>?_⟩
 · have hn:0<n:=by have:=h.1.length;omega
   obtain ⟨hw,s,m,d,c0,c1,hL⟩:=h.1.runs x e i hi;obtain ⟨q1,q2⟩:=h.2 x e hn;have hx:=(h.1.lies x e hn).1;refine ⟨hw,s,m,d,(hcell _ q1 hx _).trans c0,(hcell _ q1 hx _).trans c1,?_,fun _ _ _=>Nat.zero_le _⟩;exact hL.1.moved hs (fun y ey hm o=>hcell _ (q2 i (by have:=h.1.length;omega) s m d c0 y ey hm) (hL.1.lies y ey hm).1 o)
 · obtain ⟨q1,q2⟩:=h.2 x e hp;have hx:=(h.1.lies x e hp).1;exact ⟨q1,fun i hi s m d hc'=>q2 i hi s m d ((hcell _ q1 hx _).symm.trans hc')⟩
theorem de.below {p:Nat→Prop} {a:Option Addr} {c:Nat} (h:de p w a n c B) (hb:Bl w w'):de p w' a n c B:=h.same hb.size (fun b _ hl=>hb.block b hl)
theorem de.imp {p p':Nat→Prop} {a:Option Addr} {c:Nat} (h:de p w a n c B) (hp:∀b,p b→p' b):de p' w a n c B:=⟨h.1,fun x e hn=>⟨hp _ (h.2 x e hn).1,fun i hi s m d hc y ey hm=>hp _ ((h.2 x e hn).2 i hi s m d hc y ey hm)⟩⟩
theorem az.toP {p:Nat→Prop} {a:Option Addr} {c:Nat} (h:az 0 w a n c B) (h1:∀b o s m d k,b<w.heap.size→w.cell? ⟨b,o,none⟩=some (.slice s m d)→w.cell? ⟨b,o+1,none⟩=some (iT k)→(∀y,s=some y→0<m→∃t,w.cell? ⟨y.block,y.off,none⟩=some (.string t))→(m=0→∃r ∈ B,r.1=[])→p b) (h2:∀b o t,b<w.heap.size→w.cell? ⟨b,o,none⟩=some (.string t)→p b):de p w a n c B:=by
 have hent:∀{s:Option Addr} {m d:Nat} {L:List ac},eu 0 w s m d L→∀y,s=some y→0<m→y.block<w.heap.size∧∃t,w.cell? ⟨y.block,y.off,none⟩=some (.string t):=fun {s m d L} hL y ey hm=>by
  have hc:=hL.1.cells y ey 0 (by have:=hL.1.length;omega);exact ⟨(hL.1.lies y ey hm).1,_,by simpa using hc.1⟩
 refine ⟨h,fun x e hn=>?_⟩;have hx:=(h.lies x e hn).1;refine ⟨?_,fun i hi s m d hc y ey hm=>?_⟩
 · have hl:0<B.length:=by have:=h.length;omega
   obtain ⟨_,s,m,d,c0,c1,hL⟩:=h.runs x e 0 hl;exact h1 _ _ s m d _ hx c0 c1 (fun y ey hm=>(hent hL y ey hm).2) (fun hm=>⟨B[0],List.getElem_mem hl,List.eq_nil_of_length_eq_zero (by rw [hL.1.length,hm])⟩)
 · obtain ⟨_,s',m',d',c0,_,hL⟩:=h.runs x e i (by have:=h.length;omega);rw [hc] at c0;cases c0;obtain ⟨q1,t,q2⟩:=hent hL y ey hm;exact h2 _ _ t q1 q2
theorem az.lowP {a:Option Addr} {c:Nat} (h:az 0 w a n c B) {p:Nat→Prop} (hp:∀b,b<w.heap.size→p b):de p w a n c B:=h.toP (fun b _ _ _ _ _ hb _ _ _ _=>hp b hb) (fun b _ _ hb _=>hp b hb)
theorem az.boxP {a:Option Addr} {c:Nat} (h:az 0 w a n c B) (hX:x8 w X) {p:Nat→Prop} (hp:∀b,b<w.heap.size→b≠X→p b):de p w a n c B :=
 h.toP (fun b o s m d k hb h0 h1 _ _=>hp b hb (fun e=>by subst e;exact (hX o).2 _ _ _ k h0 h1)) (fun b o t hb h0=>hp b hb (fun e=>by subst e;exact (hX o).1 t h0))
theorem qm {w8:World} {a:Option Addr} {c:Nat} (h:az 0 w8 a n c B) (hX:x8 w8 Z) (hs:w8.heap.size≤w'.heap.size) (hk:∀b,b<w8.heap.size→b≠Z→w'.heap[b]?=w8.heap[b]?) (hg:w8.heap.size≤g∨∀o,w8.cell? ⟨g,o,none⟩=none) (hG:w8.heap.size≤G):de (fun b=>b≠g∧b≠G) w' a n c B:=by
 have hno:∀b o v,b<w8.heap.size→w8.cell? ⟨b,o,none⟩=some v→b≠g∧b≠G:=fun b o v hb hc=>by
  refine ⟨fun e=>?_,by omega⟩;subst e;rcases hg with h1 | h1
  · omega
  · rw [h1 o] at hc;cases hc
 have h1:de (fun b=>(b≠g∧b≠G)∧b≠Z) w8 a n c B:=h.toP (fun b o s m d k hb h0 h1 _ _=>⟨hno b o _ hb h0,fun e=>by subst e;exact (hX o).2 _ _ _ k h0 h1⟩) (fun b o t hb h0=>⟨hno b o _ hb h0,fun e=>by subst e;exact (hX o).1 t h0⟩);exact (h1.same hs (fun b hb hl=>hk b hl hb.2)).imp (fun _ hb=>hb.1)
theorem nY {gb:Nat} (h:w.heap[gb]?=some (.cells #[] 63 (0,0))) (hl:lo≤gb):aZ lo w gb 0 0 [] :=
 ⟨rfl,(fun p hp=>by cases hp),[],⟨rfl,.inr ⟨gb,0,#[],rfl,hl,h,Nat.le_refl _,Nat.zero_le _,rfl,rfl⟩⟩,fun i p hp=>by simp at hp⟩
theorem qK (w:World) (X:Nat) (u0 u1 u2 u3:Value):∀b,b≠X→((((w.setCell ⟨X,0,none⟩ u0).setCell ⟨X,1,none⟩ u1).setCell ⟨X,2,none⟩ u2).setCell ⟨X,3,none⟩ u3).heap[b]?=w.heap[b]?:=fun b hb=>by
 rw [Below.heap_setCell _ _ _ _ hb,Below.heap_setCell _ _ _ _ hb,Below.heap_setCell _ _ _ _ hb,Below.heap_setCell _ _ _ _ hb]
theorem az.offR {a:Option Addr} {c R:Nat} (h:az 0 w a n c B) (hne:∀r ∈ B,1≤r.1.length) (hR:aW w R ab len cap P):de (·≠R) w a n c B:=by
 have hcell:∀o,w.cell? ⟨R,o,none⟩=some (.slice ab len cap)∨w.cell? ⟨R,o,none⟩=some (iT P)∨w.cell? ⟨R,o,none⟩=none:=fun o=>by
  match o with
  | 0=>exact .inl hR.c0
  | 1=>exact .inr (.inl hR.c1)
  | o+2=>exact .inr (.inr (hR.two o))
 refine h.toP (fun b o s m d k _ h0 h1 h3 h4 e=>?_) (fun b o t _ h0 e=>?_)
 · subst e;rcases hcell o with h5 | h5 | h5 <;> rw [h0] at h5 <;> cases h5
   by_cases hm:len=0
   · obtain ⟨r,hr,e⟩:=h4 hm;have:=hne r hr;rw [e] at this;simp at this
   · rcases hR.bytes with h6 | ⟨b,off,rfl,_,_,hc⟩
     · exact hm h6
     · obtain ⟨t,ht⟩:=h3 _ rfl (by omega);obtain ⟨z,_,hz⟩:=hc 0 (by omega);simp only [Nat.add_zero] at hz;rw [ht] at hz;cases hz
 · subst e;rcases hcell o with h5 | h5 | h5 <;> rw [h0] at h5 <;> cases h5
theorem aZ.toP {p:Nat→Prop} {c:Nat} (h:aZ base w g n c B) (h1:p g) (h2:∀b sz,base≤b→an w b 50 sz→p b):de p w (pT g) n c B:=by
 refine ⟨h.runsIn.mono (Nat.zero_le _),fun x e hn=>?_⟩;cases e;refine ⟨h1,fun i hi s m d hc y ey hm=>?_⟩;obtain ⟨q1,q2,xs,q3,q4⟩:=h;obtain ⟨e,d',a1,a2,a3⟩:=q4 i B[i] (List.getElem?_eq_getElem (by omega));have hc':=q3.cells (g:=g) rfl (i*2) _ a1;rw [Go.WideShapes.add_plain] at hc';rw [hc] at hc';have hs:s=some ⟨e,0,none⟩:=by injection hc' with h1;injection h1
 rw [hs] at ey;cases ey;obtain ⟨sz,k⟩:=aJ a3.owns;exact h2 _ sz a3.lt.1 k
theorem an.grown {t:Nat} (h:an w g t sz) (hg:w.grownBy w' (some X)) (hne:g≠X):an w' g t sz:=by
 obtain ⟨cur,h1,h2⟩:=h;exact ⟨cur,(hg.block g (Array.getElem?_eq_some_iff.1 h1).1 (fun e=>hne (Option.some.inj e))).trans h1,h2⟩
structure kF (lo:Nat) (w:World) (am:Option Addr) (nm cm G c:Nat) (ak:Option Addr) (ns cs gA dA:Nat) (e1 n1 d1 e2 n2 d2:Nat) (M:List ac) (A B C:List ag) (S:List Int):Prop where
 mem:dV w lo am nm cm M
 row:w.ownsRow lo 61 1 (sL G 3 c) 3 [sL gA A.length dA,sL e1 n1 d1,sL e2 n2 d2]
 rA:aZ lo w gA A.length dA A
 rB:de (fun b=>b≠gA∧b≠G) w (pT e1) n1 d1 B
 rC:de (fun b=>b≠gA∧b≠G) w (pT e2) n2 d2 C
 sn:bG lo w ak ns cs S
 sk:∀x,ak=some x→0<ns→∃sz,an w x.block 3 sz
theorem kF.grown {c:Nat} (h:kF lo w am nm cm G c ak ns cs gA dA e1 n1 d1 e2 n2 d2 M A B C S) (hg:w.grownBy w' (some X))
 (hm:∀x,am=some x→x.block≠X) (hG:G≠X) (hA:aZ lo w' gA A.length dA A) (hB:de (·≠X) w (pT e1) n1 d1 B) (hC:de (·≠X) w (pT e2) n2 d2 C) (hk:∀x,ak=some x→0<ns→x.block≠X):kF lo w' am nm cm G c ak ns cs gA dA e1 n1 d1 e2 n2 d2 M A B C S:=by
 have both:∀{a n d} {Z:List ag},de (fun b=>b≠gA∧b≠G) w a n d Z→de (·≠X) w a n d Z→de (fun b=>b≠gA∧b≠G) w' a n d Z:=fun {a n d Z} h1 h2=>by
  have h3:de (fun b=>(b≠gA∧b≠G)∧b≠X) w a n d Z:=⟨h1.1,fun x e hn=>⟨⟨(h1.2 x e hn).1,(h2.2 x e hn).1⟩,fun i hi s m d hc y ey hm=>⟨(h1.2 x e hn).2 i hi s m d hc y ey hm,(h2.2 x e hn).2 i hi s m d hc y ey hm⟩⟩⟩;have h4:=h3.same hg.size (fun b hb hl=>hg.block b hl (fun e=>hb.2 (Option.some.inj e)));exact ⟨h4.1,fun x e hn=>⟨((h4.2 x e hn).1).1,fun i hi s m d hc y ey hm=>((h4.2 x e hn).2 i hi s m d hc y ey hm).1⟩⟩
 refine ⟨h.mem.grown hg (fun x e e'=>hm x e (Option.some.inj e')),h.row.kept hg (.inr fun e=>hG (by simpa [Value.ownBlock] using e)),hA,both h.rB hB,both h.rC hC,?_,fun x e hn=>?_⟩
 · refine ⟨h.sn.length,h.sn.room,h.sn.big,h.sn.wfs,h.sn.nil,fun x e hp=>⟨Nat.lt_of_lt_of_le (h.sn.lies x e hp).1 hg.size,(h.sn.lies x e hp).2⟩,fun x e i hi=>?_⟩;have hp:0<ns:=by have:=h.sn.length;omega
   exact (World.cell?_of_block (a:=⟨x.block,x.off+i,none⟩) (hg.block _ (h.sn.lies x e hp).1 (fun e'=>hk x e hp (Option.some.inj e')))).trans (h.sn.cells x e i hi)
 · obtain ⟨sz,k⟩:=h.sk x e hn;exact ⟨sz,k.grown hg (hk x e hn)⟩
theorem kF.below {c:Nat} (h:kF lo w am nm cm G c ak ns cs gA dA e1 n1 d1 e2 n2 d2 M A B C S) (hb:Bl w w'):kF lo w' am nm cm G c ak ns cs gA dA e1 n1 d1 e2 n2 d2 M A B C S :=
 ⟨h.mem.below hb,cE h.row hb,h.rA.below hb,h.rB.below hb,h.rC.below hb,h.sn.keep hb,fun x e hn=>by obtain ⟨sz,k⟩:=h.sk x e hn;exact ⟨sz,k.below hb⟩⟩
theorem kF.box {c:Nat} (h:kF lo w am nm cm G c ak ns cs gA dA e1 n1 d1 e2 n2 d2 M A B C S) (hk:an w X 31 sz) (hX:x8 w X) (hg:w.grownBy w' (some X)):kF lo w' am nm cm G c ak ns cs gA dA e1 n1 d1 e2 n2 d2 M A B C S:=by
 refine h.grown hg (fun x e e'=>?_) (fun e=>?_) (h.rA.grown hk (by decide) (by decide) hg) (h.rB.1.boxP hX fun b _ hn=>hn) (h.rC.1.boxP hX fun b _ hn=>hn) (fun x e hn e'=>?_)
 · obtain ⟨g,rfl,h2⟩:=h.mem.own x e;obtain ⟨_,k⟩:=aJ h2.owns;simp only at e';subst e';exact absurd (hk.kind k) (by decide)
 · obtain ⟨_,k⟩:=aJ h.row;rw [e] at k;exact absurd (hk.kind k) (by decide)
 · obtain ⟨_,k⟩:=h.sk x e hn;rw [e'] at k;exact absurd (hk.kind k) (by decide)
theorem kF.read {c:Nat} {R:Nat} (h:kF lo w am nm cm G c ak ns cs gA dA e1 n1 d1 e2 n2 d2 M A B C S) (hR:aW w R ab len cap P) (hl:R<lo) (hB:∀r ∈ B,1≤r.1.length) (hC:∀r ∈ C,1≤r.1.length) (hg:w.grownBy w' (some R)):kF lo w' am nm cm G c ak ns cs gA dA e1 n1 d1 e2 n2 d2 M A B C S:=by
 refine h.grown hg (fun x e=>?_) ?_ (h.rA.low hl hg) (h.rB.1.offR hB hR) (h.rC.1.offR hC hR) (fun x e hn=>?_)
 · have:=(h.mem.lt x e).1;omega
 · have:=(h.row.lt G rfl).1;omega
 · have:=(h.sn.lies x e hn).2.2;omega
theorem kF.head {c:Nat} (h:kF lo w am nm cm G c ak ns cs gA dA e1 n1 d1 e2 n2 d2 M A B C S):w.cell? ⟨G,0,none⟩=some (sL gA A.length dA)∧w.cell? ⟨G,1,none⟩=some (sL e1 n1 d1)∧w.cell? ⟨G,2,none⟩=some (sL e2 n2 d2)∧G<w.heap.size∧w.frozen? ⟨G,0,none⟩=false :=
 ⟨h.row.cellAt 0 (by omega),h.row.cellAt 1 (by omega),h.row.cellAt 2 (by omega),(h.row.lt G rfl).2,h.row.frozenAt 0⟩
theorem kF.treeIn {c:Nat} (h:kF lo w am nm cm G c ak ns cs gA dA e1 n1 d1 e2 n2 d2 M A B C S):bf 0 w am nm cm (pT G) 3 c ak ns cs M [A,B,C] S :=
 ⟨⟨h.mem.entsAt,fun _ _ _=>Nat.zero_le _⟩,jd (cj h.row).1 (cj h.row).2 h.head.1 h.head.2.1 h.head.2.2.1 (h.rA.runsIn.mono (Nat.zero_le _)) h.rB.1 h.rC.1,h.sn.lower (Nat.zero_le _)⟩
theorem cJ.trS {c:Nat} (h:cJ base w g1 nm c1 G 3 c g3 ns c3 M [A,B,C] S) (hl:lo≤base):∃gA dA gB dB gC dC,kF lo w (pT g1) nm c1 G c (pT g3) ns c3 gA dA gB B.length dB gC C.length dC M A B C S:=by
 obtain ⟨gA,dA,gB,dB,gC,dC,hrow,rA,rB,rC,ne1,ne2⟩:=h.split;obtain ⟨_,kG⟩:=aJ hrow;have kR:∀{g n d:Nat} {Z:List ag},aZ base w g n d Z→∃sz,an w g 63 sz:=fun hZ=>by
  obtain ⟨_,_,xs,h3,_⟩:=hZ;exact aJ h3
 have mk:∀{g n d:Nat} {Z:List ag},aZ base w g n d Z→gA≠g→de (fun b=>b≠gA∧b≠G) w (pT g) n d Z:=fun {g n d Z} hZ hne=>by
  obtain ⟨_,kZ⟩:=kR hZ;obtain ⟨_,kA⟩:=kR rA;refine hZ.toP ⟨hne.symm,fun e=>?_⟩ (fun b sz _ kb=>⟨fun e=>?_,fun e=>?_⟩)
  · rw [e] at kZ;exact absurd (kZ.kind kG) (by decide)
  · rw [e] at kb;exact absurd (kb.kind kA) (by decide)
  · rw [e] at kb;exact absurd (kb.kind kG) (by decide)
 obtain ⟨sz,kS⟩:=aJ h.sn;exact ⟨gA,dA,gB,dB,gC,dC,(dV.some h.mem).mono hl,ew hrow hl,rA.mono hl,mk rB ne1,mk rC ne2,(eH h.sn h.slen h.swf).lower hl,fun x e _=>by cases e;exact ⟨sz,kS⟩⟩
theorem kF.four {c:Nat} {q z:Int} {a1 a2 a3 b1 b2 b3:Option Addr} {m1 k1 m2 k2 m3 k3 m4 k4 m5 k5 m6 k6:Nat} (h:kF lo w am nm cm G c ak ns cs gA dA e1 n1 d1 e2 n2 d2 M A B C S) (hk:an w X 31 4) (hX:ar w X (iT z) (.slice b1 m4 k4) (.slice b2 m5 k5) (.slice b3 m6 k6)):kF lo ((((w.setCell ⟨X,0,none⟩ (iT q)).setCell ⟨X,1,none⟩ (.slice a1 m1 k1)).setCell ⟨X,2,none⟩ (.slice a2 m2 k2)).setCell ⟨X,3,none⟩ (.slice a3 m3 k3)) am nm cm G c ak ns cs gA dA e1 n1 d1 e2 n2 d2 M A B C S:=by
 have h0:=h.box hk (fA hk hX) (cy w X 0 (iT q));have k0:=hk.setCell (b:=X) (o:=0) (iT q);have x0:=hX.set0 (iT q);have h1:=h0.box k0 (fA k0 x0) (cy _ X 1 (.slice a1 m1 k1));have k1':=k0.setCell (b:=X) (o:=1) (.slice a1 m1 k1);have x1:=x0.set1 (.slice a1 m1 k1);have h2:=h1.box k1' (fA k1' x1) (cy _ X 2 (.slice a2 m2 k2));have k2':=k1'.setCell (b:=X) (o:=2) (.slice a2 m2 k2);have x2:=x1.set2 (.slice a2 m2 k2);exact h2.box k2' (fA k2' x2) (cy _ X 3 (.slice a3 m3 k3))
structure tQ (base:Nat) (w:World) (g1 nm c1 G c g3 ns c3 gD nD dD:Nat) (xs:List Value) (M:List ac) (D:List ag) (S:List Int):Prop where
 mem:ay w base g1 nm c1 M
 lev:aZ base w gD nD dD D
 slen:S.length=ns
 swf:∀z ∈ S,(Lit.int .i64 z).wf=true
 sn:w.ownsRow base 3 1 (sL g3 ns c3) ns (S.map iT)
 row:w.ownsRow base 61 1 (sL G 3 c) 3 xs
theorem tQ.below {c:Nat} (h:tQ base w g1 nm c1 G c g3 ns c3 gD nD dD xs M D S) (hb:Bl w w'):tQ base w' g1 nm c1 G c g3 ns c3 gD nD dD xs M D S :=
 ⟨h.mem.below hb,h.lev.below hb,h.slen,h.swf,cE h.sn hb,cE h.row hb⟩
theorem tQ.setG {c:Nat} (h:tQ base w g1 nm c1 G c g3 ns c3 gD nD dD xs M D S) (o:Nat) (u:Value):tQ base (w.setCell ⟨G,o,none⟩ u) g1 nm c1 G c g3 ns c3 gD nD dD (xs.set o u) M D S:=by
 obtain ⟨sz,k⟩:=aJ h.row;have hg:=cy w G o u;have hk:∀{T size n m g c:Nat} {xs:List Value},T≠61→w.ownsRow base T size (sL g m c) n xs→(w.setCell ⟨G,o,none⟩ u).ownsRow base T size (sL g m c) n xs:=fun {T size n m g c xs} hT h3=>h3.kept hg (.inr fun e=>by
  have e':g=G:=by simpa [Value.ownBlock] using e
  obtain ⟨_,k3⟩:=aJ h3;rw [e'] at k3;exact hT (k3.kind k))
 exact ⟨⟨hk (by decide) h.mem.owns,h.mem.len,h.mem.ents⟩,h.lev.grown k (by decide) (by decide) hg,h.slen,h.swf,hk (by decide) h.sn,(h.row.stored o u).1⟩
theorem tQ.setX {c:Nat} (h:tQ base w g1 nm c1 G c g3 ns c3 gD nD dD xs M D S) (hX:X<base) (o:Nat) (u:Value):tQ base (w.setCell ⟨X,o,none⟩ u) g1 nm c1 G c g3 ns c3 gD nD dD xs M D S:=by
 have hg:=cy w X o u;have hk:∀{T size n m g c:Nat} {xs:List Value},w.ownsRow base T size (sL g m c) n xs→(w.setCell ⟨X,o,none⟩ u).ownsRow base T size (sL g m c) n xs:=fun {T size n m g c xs} h3=>h3.kept hg (.inr fun e=>by
  have e':g=X:=by simpa [Value.ownBlock] using e
  have:=(h3.lt g rfl).1;omega)
 exact ⟨⟨hk h.mem.owns,h.mem.len,h.mem.ents⟩,h.lev.low hX hg,h.slen,h.swf,hk h.sn,hk h.row⟩
def jH (lo:Nat) (q:Int) (v:Value) (M:List ac) (A B C:List ag) (S:List Int) (ok:Bool) (w:World) (e:Ending) (w':World):Prop :=
 ∃am nm cm av nv cv ak ns cs,e=.returned (.tuple #[.agg #[iT q,.slice am nm cm,.slice av nv cv,.slice ak ns cs],.bool ok])∧Bl w w'∧(ok=false→(.agg #[iT q,.slice am nm cm,.slice av nv cv,.slice ak ns cs]:Value)=v)∧(ok=true→∃G gA dA e1 n1 d1 e2 n2 d2,av=some ⟨G,0,none⟩∧nv=3∧kF lo w' am nm cm G cv ak ns cs gA dA e1 n1 d1 e2 n2 d2 M A B C S)
def cw (lo:Nat) (w:World) (v:Value):Prop :=
 ∃q am nm cm G c ak ns cs gA dA e1 n1 d1 e2 n2 d2 M A B C S,v=.agg #[iT q,.slice am nm cm,sL G 3 c,.slice ak ns cs]∧kF lo w am nm cm G c ak ns cs gA dA e1 n1 d1 e2 n2 d2 M A B C S∧bc q M [A,B,C] S=true
structure gF (lo:Nat) (R:Option Nat) (w w':World):Prop where
 os:w'.os=w.os
 tape:w'.tape=w.tape
 output:w'.output=w.output
 size:w.heap.size≤w'.heap.size
 block:∀k,k<w.heap.size→some k≠R→(k<lo∨an w k 31 4)→w'.heap[k]?=w.heap[k]?
theorem gF.of {R:Option Nat} (h:Bl w w'):gF lo R w w':=⟨h.os,h.tape,h.output,h.size,fun k hk _ _=>h.block k hk⟩
theorem gF.trans {R:Option Nat} {a c:World} (h:gF lo R a b) (k:gF lo R b c):gF lo R a c :=
 ⟨k.os.trans h.os,k.tape.trans h.tape,k.output.trans h.output,Nat.le_trans h.size k.size,fun i hi hn hc=>(k.block i (Nat.lt_of_lt_of_le hi h.size) hn (hc.imp id fun hB=>hB.same (h.block i hi hn (.inr hB)))).trans (h.block i hi hn hc)⟩
theorem gF.next {R:Option Nat} {a c:World} (h:gF lo R a b) (k:Bl b c):gF lo R a c:=h.trans (gF.of k)
theorem gF.put {R:Option Nat} (h:gF lo R w wi) (hg:wi.grownBy wj (some Z)) (hz:lo≤Z) (hk:w.heap.size≤Z∨¬an wi Z 31 4):gF lo R w wj :=
 ⟨hg.os.trans h.os,hg.tape.trans h.tape,hg.output.trans h.output,Nat.le_trans h.size hg.size,fun k hkl hn hc=>by
  have h1:=h.block k hkl hn hc
  refine (hg.block k (Nat.lt_of_lt_of_le hkl h.size) (fun e=>?_)).trans h1
  have e':k=Z:=Option.some.inj e
  subst e'
  rcases hc with hc | hc
  · omega
  · rcases hk with hk | hk
    · omega
    · exact hk (hc.same h1)⟩
theorem gF.any (h:gF lo (some Z) w wi) (hg:wi.grownBy wj (some Z)):gF lo (some Z) w wj :=
 ⟨hg.os.trans h.os,hg.tape.trans h.tape,hg.output.trans h.output,Nat.le_trans h.size hg.size,fun k hkl hn hc=>(hg.block k (Nat.lt_of_lt_of_le hkl h.size) hn).trans (h.block k hkl hn hc)⟩
theorem gF.weak {R:Option Nat} (h:gF lo none w wi):gF lo R w wi:=⟨h.os,h.tape,h.output,h.size,fun k hk _ hc=>h.block k hk (by simp) hc⟩
theorem gF.four {R:Option Nat} (h:gF lo R w wi) (hz:lo≤Z) (hk:w.heap.size≤Z) (u0 u1 u2 u3:Value):gF lo R w ((((wi.setCell ⟨Z,0,none⟩ u0).setCell ⟨Z,1,none⟩ u1).setCell ⟨Z,2,none⟩ u2).setCell ⟨Z,3,none⟩ u3) :=
 (((h.put (cy _ _ _ _) hz (.inl hk)).put (cy _ _ _ _) hz (.inl hk)).put (cy _ _ _ _) hz (.inl hk)).put (cy _ _ _ _) hz (.inl hk)
def mZ (lo:Nat) (w:World) (e:Ending) (w':World):Prop:=∃v ok,e=.returned (.tuple #[v,.bool ok])∧cw lo w' v∧gF lo none w w'
end Go.Proofs.YtpobkmjicbobdaaGreat
