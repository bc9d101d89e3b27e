/- Walks. -/
import Derived.Test.YtpobkmjicbobdaaGreatBD19
namespace Go.Proofs.YtpobkmjicbobdaaGreat
set_option maxRecDepth 100000
set_option maxHeartbeats 40000000
open Go.RowKit
variable {A B C D:List af} {G P X Z base c1 c3 cap cm cs d1 d2 dA dD e1 e2 g g1 g3 gA gD len lo n n1 n2 nD nm ns sz:Nat} {M:List ac} {S:List Int} {ab ak am:Option Addr} {b w w' wi wj:World} {xs:List Value}
def dx (p:Nat→Prop) (w:World) (a:Option Addr) (n c:Nat) (B:List af):Prop :=
 aw 0 w a n c B∧∀x,a=some x→0<n→p x.block∧∀i,i<n→∀s m d,w.cell? ⟨x.block,x.off+i*2,none⟩=some (.slice s m d)→∀y,s=some y→0<m→p y.block
theorem dx.same {p:Nat→Prop} {a:Option Addr} {c:Nat} (h:dx p w a n c B) (hs:w.heap.size≤w'.heap.size) (hc:∀b,p b→b<w.heap.size→w'.heap[b]?=w.heap[b]?):dx p w' a n c B:=by
 have f:∀b,p b→b<w.heap.size→∀o,w'.cell? ⟨b,o,none⟩=w.cell? ⟨b,o,none⟩:=fun b h1 h2 o=>G8 (a:=⟨b,o,none⟩) (hc b h1 h2)
 refine ⟨⟨h.1.length,h.1.room,h.1.big,h.1.nil,fun x e hp=>⟨E' (h.1.lies x e hp).1 hs,(h.1.lies x e hp).2⟩,fun x e i hi=>?_⟩,fun x e hp=>?_⟩
 · have hn:0<n:=by have:=h.1.length;omega
   obtain ⟨hw,s,m,d,c0,c1,hL⟩:=h.1.runs x e i hi;obtain ⟨q1,q2⟩:=h.2 x e hn;have hx:=(h.1.lies x e hn).1;refine ⟨hw,s,m,d,(f _ q1 hx _).trans c0,(f _ q1 hx _).trans c1,?_,fun _ _ _=>Gl _⟩;exact hL.1.moved hs (fun y t hm o=>f _ (q2 i (by have:=h.1.length;omega) s m d c0 y t hm) (hL.1.lies y t hm).1 o)
 · obtain ⟨q1,q2⟩:=h.2 x e hp;have hx:=(h.1.lies x e hp).1;exact ⟨q1,fun i hi s m d r=>q2 i hi s m d ((f _ q1 hx _).symm.trans r)⟩
theorem dx.below {p:Nat→Prop} {a:Option Addr} {c:Nat} (h:dx p w a n c B) (hb:Bl w w'):dx p w' a n c B:=h.same hb.size (fun b _ hl=>hb.block b hl)
theorem dx.imp {p f:Nat→Prop} {a:Option Addr} {c:Nat} (h:dx p w a n c B) (hp:∀b,p b→f b):dx f w a n c B:=⟨h.1,fun x e hn=>⟨hp _ (h.2 x e hn).1,fun i hi s m d hc y o hm=>hp _ ((h.2 x e hn).2 i hi s m d hc y o hm)⟩⟩
theorem aw.toP {p:Nat→Prop} {a:Option Addr} {c:Nat} (h:aw 0 w a n c B) (h1:∀b o s m d k,b<w.heap.size→w.cell? ⟨b,o,none⟩=some (.slice s m d)→w.cell? ⟨b,o+1,none⟩=some (iT k)→(∀y,s=some y→0<m→∃t,w.cell? ⟨y.block,y.off,none⟩=some (.string t))→(m=0→∃r ∈ B,r.1=[])→p b) (h2:∀b o t,b<w.heap.size→w.cell? ⟨b,o,none⟩=some (.string t)→p b):dx p w a n c B:=by
 have f:∀{s:Option Addr} {m d:Nat} {L:List ac},fj 0 w s m d L→∀y,s=some y→0<m→y.block<w.heap.size∧∃t,w.cell? ⟨y.block,y.off,none⟩=some (.string t):=fun {s m d L} hL y u hm=>by
  have hc:=hL.1.cells y u 0 (by have:=hL.1.length;omega);exact ⟨(hL.1.lies y u hm).1,_,by simpa using hc.1⟩
 refine ⟨h,fun x e hn=>?_⟩;have hx:=(h.lies x e hn).1;refine ⟨?_,fun i hi s m d hc y u hm=>?_⟩
 · have hl:0<B.length:=by have:=h.length;omega
   obtain ⟨_,s,m,d,c0,c1,hL⟩:=h.runs x e 0 hl;exact h1 _ _ s m d _ hx c0 c1 (fun y u hm=>(f hL y u hm).2) (fun hm=>⟨B[0],GQ hl,List.eq_nil_of_length_eq_zero (by rw [hL.1.length,hm])⟩)
 · obtain ⟨_,E,H,F,c0,_,hL⟩:=h.runs x e i (by have:=h.length;omega);rw [hc] at c0;cases c0;obtain ⟨q1,t,q2⟩:=f hL y u hm;exact h2 _ _ t q1 q2
theorem aw.lowP {a:Option Addr} {c:Nat} (h:aw 0 w a n c B) {p:Nat→Prop} (hp:∀b,b<w.heap.size→p b):dx p w a n c B:=h.toP (fun b _ _ _ _ _ hb _ _ _ _=>hp b hb) (fun b _ _ hb _=>hp b hb)
theorem aw.boxP {a:Option Addr} {c:Nat} (h:aw 0 w a n c B) (f:Bq w X) {p:Nat→Prop} (hp:∀b,b<w.heap.size→b≠X→p b):dx p w a n c B :=
 h.toP (fun b o s m d k hb h0 h1 _ _=>hp b hb (fun e=>by subst e;exact (f o).2 _ _ _ k h0 h1)) (fun b o t hb h0=>hp b hb (fun e=>by subst e;exact (f o).1 t h0))
theorem sF {f:World} {a:Option Addr} {c:Nat} (h:aw 0 f a n c B) (u:Bq f Z) (hs:f.heap.size≤w'.heap.size) (hk:∀b,b<f.heap.size→b≠Z→w'.heap[b]?=f.heap[b]?) (hg:f.heap.size≤g∨∀o,f.cell? ⟨g,o,none⟩=none) (hG:f.heap.size≤G):dx (fun b=>b≠g∧b≠G) w' a n c B:=by
 have r:∀b o v,b<f.heap.size→f.cell? ⟨b,o,none⟩=some v→b≠g∧b≠G:=fun b o v hb hc=>by
  refine ⟨fun e=>?_,by omega⟩;subst e;rcases hg with h1 | h1
  · omega
  · rw [h1 o] at hc;cases hc
 have h1:dx (fun b=>(b≠g∧b≠G)∧b≠Z) f a n c B:=h.toP (fun b o s m d k hb h0 h1 _ _=>⟨r b o _ hb h0,fun e=>by subst e;exact (u o).2 _ _ _ k h0 h1⟩) (fun b o t hb h0=>⟨r b o _ hb h0,fun e=>by subst e;exact (u o).1 t h0⟩);exact (h1.same hs (fun b hb hl=>hk b hl hb.2)).imp (fun _ hb=>hb.1)
theorem pO {d:Nat} (h:w.heap[d]?=some (.cells #[] 63 (0,0))) (hl:lo≤d):bj lo w d 0 0 [] :=
 ⟨rfl,(fun p hp=>by cases hp),[],⟨rfl,.inr ⟨d,0,#[],rfl,hl,h,Gg _,Gl _,rfl,rfl⟩⟩,fun i p hp=>by simp at hp⟩
theorem th (w:World) (X:Nat) (u0 u1 u2 u3:Value):∀b,b≠X→((((w.setCell ⟨X,0,none⟩ u0).setCell ⟨X,1,none⟩ u1).setCell ⟨X,2,none⟩ u2).setCell ⟨X,3,none⟩ u3).heap[b]?=w.heap[b]?:=fun b hb=>by
 rw [Below.heap_setCell _ _ _ _ hb,Below.heap_setCell _ _ _ _ hb,Below.heap_setCell _ _ _ _ hb,Below.heap_setCell _ _ _ _ hb]
theorem aw.offR {a:Option Addr} {c R:Nat} (h:aw 0 w a n c B) (u:∀r ∈ B,1≤r.1.length) (hR:bf w R ab len cap P):dx (·≠R) w a n c B:=by
 have f:∀o,w.cell? ⟨R,o,none⟩=some (.slice ab len cap)∨w.cell? ⟨R,o,none⟩=some (iT P)∨w.cell? ⟨R,o,none⟩=none:=fun o=>by
  match o with
  | 0=>exact .inl hR.c0
  | 1=>exact .inr (.inl hR.c1)
  | o+2=>exact .inr (.inr (hR.two o))
 refine h.toP (fun b o s m d k _ h0 h1 h3 h4 e=>?_) (fun b o t _ h0 e=>?_)
 · subst e;rcases f o with h5 | h5 | h5 <;> rw [h0] at h5 <;> cases h5
   by_cases hm:len=0
   · obtain ⟨r,hr,e⟩:=h4 hm;have:=u r hr;rw [e] at this;simp at this
   · rcases hR.bytes with h6 | ⟨b,x,rfl,_,_,hc⟩
     · exact hm h6
     · obtain ⟨t,y⟩:=h3 _ rfl (by omega);obtain ⟨z,_,hz⟩:=hc 0 (by omega);simp only [Hl] at hz;rw [y] at hz;cases hz
 · subst e;rcases f o with h5 | h5 | h5 <;> rw [h0] at h5 <;> cases h5
theorem bj.toP {p:Nat→Prop} {c:Nat} (h:bj base w g n c B) (h1:p g) (h2:∀b sz,base≤b→aq w b 50 sz→p b):dx p w (pT g) n c B:=by
 refine ⟨h.runsIn.mono (Gl _),fun x e hn=>?_⟩;cases e;refine ⟨h1,fun i hi s m d hc y o hm=>?_⟩;obtain ⟨q1,q2,xs,q3,q4⟩:=h;obtain ⟨e,r,a1,a2,a3⟩:=q4 i B[i] (j' (by omega));have f:=q3.cells (g:=g) rfl (i*2) _ a1;rw [Gv] at f;rw [hc] at f;have hs:s=some ⟨e,0,none⟩:=by injection f with h1;injection h1
 rw [hs] at o;cases o;obtain ⟨sz,k⟩:=aP a3.owns;exact h2 _ sz a3.lt.1 k
theorem aq.grown {t:Nat} (h:aq w g t sz) (hg:w.grownBy w' (some X)) (f:g≠X):aq w' g t sz:=by
 obtain ⟨d,h1,h2⟩:=h;exact ⟨d,(hg.block g (Hi.1 h1).1 (fun e=>f (Gi e))).trans h1,h2⟩
structure ml (lo:Nat) (w:World) (am:Option Addr) (nm cm G c:Nat) (ak:Option Addr) (ns cs gA dA:Nat) (e1 n1 d1 e2 n2 d2:Nat) (M:List ac) (A B C:List af) (S:List Int):Prop where
 mem:cX w lo am nm cm M
 row:w.ownsRow lo 61 1 (sL G 3 c) 3 [sL gA A.length dA,sL e1 n1 d1,sL e2 n2 d2]
 rA:bj lo w gA A.length dA A
 rB:dx (fun b=>b≠gA∧b≠G) w (pT e1) n1 d1 B
 rC:dx (fun b=>b≠gA∧b≠G) w (pT e2) n2 d2 C
 sn:aR lo w ak ns cs S
 sk:∀x,ak=some x→0<ns→∃sz,aq w x.block 3 sz
theorem ml.grown {c:Nat} (h:ml lo w am nm cm G c ak ns cs gA dA e1 n1 d1 e2 n2 d2 M A B C S) (hg:w.grownBy w' (some X))
 (hm:∀x,am=some x→x.block≠X) (hG:G≠X) (hA:bj lo w' gA A.length dA A) (hB:dx (·≠X) w (pT e1) n1 d1 B) (hC:dx (·≠X) w (pT e2) n2 d2 C) (hk:∀x,ak=some x→0<ns→x.block≠X):ml lo w' am nm cm G c ak ns cs gA dA e1 n1 d1 e2 n2 d2 M A B C S:=by
 have f:∀{a n d} {Z:List af},dx (fun b=>b≠gA∧b≠G) w a n d Z→dx (·≠X) w a n d Z→dx (fun b=>b≠gA∧b≠G) w' a n d Z:=fun {a n d Z} h1 h2=>by
  have h3:dx (fun b=>(b≠gA∧b≠G)∧b≠X) w a n d Z:=⟨h1.1,fun x e hn=>⟨⟨(h1.2 x e hn).1,(h2.2 x e hn).1⟩,fun i hi s m d hc y o hm=>⟨(h1.2 x e hn).2 i hi s m d hc y o hm,(h2.2 x e hn).2 i hi s m d hc y o hm⟩⟩⟩;have h4:=h3.same hg.size (fun b hb hl=>hg.block b hl (fun e=>hb.2 (Gi e)));exact ⟨h4.1,fun x e hn=>⟨((h4.2 x e hn).1).1,fun i hi s m d hc y o hm=>((h4.2 x e hn).2 i hi s m d hc y o hm).1⟩⟩
 refine ⟨h.mem.grown hg (fun x e r=>hm x e (Gi r)),h.row.kept hg (.inr fun e=>hG (by simpa [Value.ownBlock] using e)),hA,f h.rB hB,f h.rC hC,?_,fun x e hn=>?_⟩
 · refine ⟨h.sn.length,h.sn.room,h.sn.big,h.sn.wfs,h.sn.nil,fun x e hp=>⟨E' (h.sn.lies x e hp).1 hg.size,(h.sn.lies x e hp).2⟩,fun x e i hi=>?_⟩;have hp:0<ns:=by have:=h.sn.length;omega
   exact (G8 (a:=⟨x.block,x.off+i,none⟩) (hg.block _ (h.sn.lies x e hp).1 (fun r=>hk x e hp (Gi r)))).trans (h.sn.cells x e i hi)
 · obtain ⟨sz,k⟩:=h.sk x e hn;exact ⟨sz,k.grown hg (hk x e hn)⟩
theorem ml.below {c:Nat} (h:ml lo w am nm cm G c ak ns cs gA dA e1 n1 d1 e2 n2 d2 M A B C S) (hb:Bl w w'):ml lo w' am nm cm G c ak ns cs gA dA e1 n1 d1 e2 n2 d2 M A B C S :=
 ⟨h.mem.below hb,cw h.row hb,h.rA.below hb,h.rB.below hb,h.rC.below hb,h.sn.keep hb,fun x e hn=>by obtain ⟨sz,k⟩:=h.sk x e hn;exact ⟨sz,k.below hb⟩⟩
theorem ml.box {c:Nat} (h:ml lo w am nm cm G c ak ns cs gA dA e1 n1 d1 e2 n2 d2 M A B C S) (hk:aq w X 31 sz) (f:Bq w X) (hg:w.grownBy w' (some X)):ml lo w' am nm cm G c ak ns cs gA dA e1 n1 d1 e2 n2 d2 M A B C S:=by
 refine h.grown hg (fun x e d=>?_) (fun e=>?_) (h.rA.grown hk (by decide) (by decide) hg) (h.rB.1.boxP f fun b _ hn=>hn) (h.rC.1.boxP f fun b _ hn=>hn) (fun x e hn d=>?_)
 · obtain ⟨g,rfl,h2⟩:=h.mem.own x e;obtain ⟨_,k⟩:=aP h2.owns;simp only at d;subst d;exact absurd (hk.kind k) (by decide)
 · obtain ⟨_,k⟩:=aP h.row;rw [e] at k;exact absurd (hk.kind k) (by decide)
 · obtain ⟨_,k⟩:=h.sk x e hn;rw [d] at k;exact absurd (hk.kind k) (by decide)
theorem ml.read {c:Nat} {R:Nat} (h:ml lo w am nm cm G c ak ns cs gA dA e1 n1 d1 e2 n2 d2 M A B C S) (hR:bf w R ab len cap P) (hl:R<lo) (hB:∀r ∈ B,1≤r.1.length) (hC:∀r ∈ C,1≤r.1.length) (hg:w.grownBy w' (some R)):ml lo w' am nm cm G c ak ns cs gA dA e1 n1 d1 e2 n2 d2 M A B C S:=by
 refine h.grown hg (fun x e=>?_) ?_ (h.rA.low hl hg) (h.rB.1.offR hB hR) (h.rC.1.offR hC hR) (fun x e hn=>?_)
 · have:=(h.mem.lt x e).1;omega
 · have:=(h.row.lt G rfl).1;omega
 · have:=(h.sn.lies x e hn).2.2;omega
theorem ml.head {c:Nat} (h:ml lo w am nm cm G c ak ns cs gA dA e1 n1 d1 e2 n2 d2 M A B C S):w.cell? ⟨G,0,none⟩=some (sL gA A.length dA)∧w.cell? ⟨G,1,none⟩=some (sL e1 n1 d1)∧w.cell? ⟨G,2,none⟩=some (sL e2 n2 d2)∧G<w.heap.size∧w.frozen? ⟨G,0,none⟩=false :=
 ⟨h.row.cellAt 0 (by omega),h.row.cellAt 1 (by omega),h.row.cellAt 2 (by omega),(h.row.lt G rfl).2,h.row.frozenAt 0⟩
theorem ml.treeIn {c:Nat} (h:ml lo w am nm cm G c ak ns cs gA dA e1 n1 d1 e2 n2 d2 M A B C S):bn 0 w am nm cm (pT G) 3 c ak ns cs M [A,B,C] S :=
 ⟨⟨h.mem.entsAt,fun _ _ _=>Gl _⟩,jQ (cy h.row).1 (cy h.row).2 h.head.1 h.head.2.1 h.head.2.2.1 (h.rA.runsIn.mono (Gl _)) h.rB.1 h.rC.1,h.sn.lower (Gl _)⟩
theorem cK.trS {c:Nat} (h:cK base w g1 nm c1 G 3 c g3 ns c3 M [A,B,C] S) (hl:lo≤base):∃gA dA s E r u,ml lo w (pT g1) nm c1 G c (pT g3) ns c3 gA dA s B.length E r C.length u M A B C S:=by
 obtain ⟨gA,dA,s,E,r,u,hrow,J,K,O,y,t⟩:=h.split;obtain ⟨_,I⟩:=aP hrow;have F:∀{g n d:Nat} {Z:List af},bj base w g n d Z→∃sz,aq w g 63 sz:=fun f=>by
  obtain ⟨_,_,xs,h3,_⟩:=f;exact aP h3
 have mk:∀{g n d:Nat} {Z:List af},bj base w g n d Z→gA≠g→dx (fun b=>b≠gA∧b≠G) w (pT g) n d Z:=fun {g n d Z} f o=>by
  obtain ⟨_,H⟩:=F f;obtain ⟨_,L⟩:=F J;refine f.toP ⟨o.symm,fun e=>?_⟩ (fun b sz _ m=>⟨fun e=>?_,fun e=>?_⟩)
  · rw [e] at H;exact absurd (H.kind I) (by decide)
  · rw [e] at m;exact absurd (m.kind L) (by decide)
  · rw [e] at m;exact absurd (m.kind I) (by decide)
 obtain ⟨sz,N⟩:=aP h.sn;exact ⟨gA,dA,s,E,r,u,(cX.some h.mem).mono hl,ew hrow hl,J.mono hl,mk K y,mk O t,(im h.sn h.slen h.swf).lower hl,fun x e _=>by cases e;exact ⟨sz,N⟩⟩
theorem ml.four {c:Nat} {q z:Int} {a1 a2 a3 b1 b2 b3:Option Addr} {m1 k1 m2 k2 m3 k3 y E u s r t:Nat} (h:ml lo w am nm cm G c ak ns cs gA dA e1 n1 d1 e2 n2 d2 M A B C S) (hk:aq w X 31 4) (m:ay w X (iT z) (.slice b1 y E) (.slice b2 u s) (.slice b3 r t)):ml lo ((((w.setCell ⟨X,0,none⟩ (iT q)).setCell ⟨X,1,none⟩ (.slice a1 m1 k1)).setCell ⟨X,2,none⟩ (.slice a2 m2 k2)).setCell ⟨X,3,none⟩ (.slice a3 m3 k3)) am nm cm G c ak ns cs gA dA e1 n1 d1 e2 n2 d2 M A B C S:=by
 have h0:=h.box hk (gE hk m) (dg w X 0 (iT q));have f:=hk.setCell (b:=X) (o:=0) (iT q);have x0:=m.set0 (iT q);have h1:=h0.box f (gE f x0) (dg _ X 1 (.slice a1 m1 k1));have d:=f.setCell (b:=X) (o:=1) (.slice a1 m1 k1);have x1:=x0.set1 (.slice a1 m1 k1);have h2:=h1.box d (gE d x1) (dg _ X 2 (.slice a2 m2 k2));have e:=d.setCell (b:=X) (o:=2) (.slice a2 m2 k2);have x:=x1.set2 (.slice a2 m2 k2);exact h2.box e (gE e x) (dg _ X 3 (.slice a3 m3 k3))
structure wP (base:Nat) (w:World) (g1 nm c1 G c g3 ns c3 gD nD dD:Nat) (xs:List Value) (M:List ac) (D:List af) (S:List Int):Prop where
 mem:ah w base g1 nm c1 M
 lev:bj base w gD nD dD D
 slen:S.length=ns
 swf:∀z ∈ S,(Lit.int .i64 z).wf=true
 sn:w.ownsRow base 3 1 (sL g3 ns c3) ns (S.map iT)
 row:w.ownsRow base 61 1 (sL G 3 c) 3 xs
theorem wP.below {c:Nat} (h:wP base w g1 nm c1 G c g3 ns c3 gD nD dD xs M D S) (hb:Bl w w'):wP base w' g1 nm c1 G c g3 ns c3 gD nD dD xs M D S :=
 ⟨h.mem.below hb,h.lev.below hb,h.slen,h.swf,cw h.sn hb,cw h.row hb⟩
theorem wP.setG {c:Nat} (h:wP base w g1 nm c1 G c g3 ns c3 gD nD dD xs M D S) (o:Nat) (u:Value):wP base (w.setCell ⟨G,o,none⟩ u) g1 nm c1 G c g3 ns c3 gD nD dD (xs.set o u) M D S:=by
 obtain ⟨sz,k⟩:=aP h.row;have hg:=dg w G o u;have hk:∀{T size n m g c:Nat} {xs:List Value},T≠61→w.ownsRow base T size (sL g m c) n xs→(w.setCell ⟨G,o,none⟩ u).ownsRow base T size (sL g m c) n xs:=fun {T size n m g c xs} d h3=>h3.kept hg (.inr fun e=>by
  have f:g=G:=by simpa [Value.ownBlock] using e
  obtain ⟨_,k3⟩:=aP h3;rw [f] at k3;exact d (k3.kind k))
 exact ⟨⟨hk (by decide) h.mem.owns,h.mem.len,h.mem.ents⟩,h.lev.grown k (by decide) (by decide) hg,h.slen,h.swf,hk (by decide) h.sn,(h.row.stored o u).1⟩
theorem wP.setX {c:Nat} (h:wP base w g1 nm c1 G c g3 ns c3 gD nD dD xs M D S) (d:X<base) (o:Nat) (u:Value):wP base (w.setCell ⟨X,o,none⟩ u) g1 nm c1 G c g3 ns c3 gD nD dD xs M D S:=by
 have hg:=dg w X o u;have hk:∀{T size n m g c:Nat} {xs:List Value},w.ownsRow base T size (sL g m c) n xs→(w.setCell ⟨X,o,none⟩ u).ownsRow base T size (sL g m c) n xs:=fun {T size n m g c xs} h3=>h3.kept hg (.inr fun e=>by
  have f:g=X:=by simpa [Value.ownBlock] using e
  have:=(h3.lt g rfl).1;omega)
 exact ⟨⟨hk h.mem.owns,h.mem.len,h.mem.ents⟩,h.lev.low d hg,h.slen,h.swf,hk h.sn,hk h.row⟩
def mj (lo:Nat) (q:Int) (v:Value) (M:List ac) (A B C:List af) (S:List Int) (ok:Bool) (w:World) (e:Ending) (w':World):Prop :=
 ∃am nm cm av nv cv ak ns cs,e=.returned (.tuple #[.agg #[iT q,.slice am nm cm,.slice av nv cv,.slice ak ns cs],.bool ok])∧Bl w w'∧(ok=false→(.agg #[iT q,.slice am nm cm,.slice av nv cv,.slice ak ns cs]:Value)=v)∧(ok=true→∃G gA dA e1 n1 d1 e2 n2 d2,av=some ⟨G,0,none⟩∧nv=3∧ml lo w' am nm cm G cv ak ns cs gA dA e1 n1 d1 e2 n2 d2 M A B C S)
def dl (lo:Nat) (w:World) (v:Value):Prop :=
 ∃q am nm cm G c ak ns cs gA dA e1 n1 d1 e2 n2 d2 M A B C S,v=.agg #[iT q,.slice am nm cm,sL G 3 c,.slice ak ns cs]∧ml lo w am nm cm G c ak ns cs gA dA e1 n1 d1 e2 n2 d2 M A B C S∧aT q M [A,B,C] S=true∧mX M A B C
structure iu (lo:Nat) (R:Option Nat) (w w':World):Prop where
 os:w'.os=w.os
 tape:w'.tape=w.tape
 output:w'.output=w.output
 size:w.heap.size≤w'.heap.size
 block:∀k,k<w.heap.size→some k≠R→(k<lo∨aq w k 31 4)→w'.heap[k]?=w.heap[k]?
theorem iu.of {R:Option Nat} (h:Bl w w'):iu lo R w w':=⟨h.os,h.tape,h.output,h.size,fun k hk _ _=>h.block k hk⟩
theorem iu.trans {R:Option Nat} {a c:World} (h:iu lo R a b) (k:iu lo R b c):iu lo R a c :=
 ⟨k.os.trans h.os,k.tape.trans h.tape,k.output.trans h.output,Gq h.size k.size,fun i hi hn hc=>(k.block i (E' hi h.size) hn (hc.imp id fun hB=>hB.same (h.block i hi hn (.inr hB)))).trans (h.block i hi hn hc)⟩
theorem iu.next {R:Option Nat} {a c:World} (h:iu lo R a b) (k:Bl b c):iu lo R a c:=h.trans (iu.of k)
theorem iu.put {R:Option Nat} (h:iu lo R w wi) (hg:wi.grownBy wj (some Z)) (hz:lo≤Z) (hk:w.heap.size≤Z∨¬aq wi Z 31 4):iu lo R w wj :=
 ⟨hg.os.trans h.os,hg.tape.trans h.tape,hg.output.trans h.output,Gq h.size hg.size,fun k d hn hc=>by
  have h1:=h.block k d hn hc
  refine (hg.block k (E' d h.size) (fun e=>?_)).trans h1
  have f:=Gi e
  subst f
  rcases hc with hc | hc
  · omega
  · rcases hk with hk | hk
    · omega
    · exact hk (hc.same h1)⟩
theorem iu.any (h:iu lo (some Z) w wi) (hg:wi.grownBy wj (some Z)):iu lo (some Z) w wj :=
 ⟨hg.os.trans h.os,hg.tape.trans h.tape,hg.output.trans h.output,Gq h.size hg.size,fun k d hn hc=>(hg.block k (E' d h.size) hn).trans (h.block k d hn hc)⟩
theorem iu.weak {R:Option Nat} (h:iu lo none w wi):iu lo R w wi:=⟨h.os,h.tape,h.output,h.size,fun k hk _ hc=>h.block k hk (by simp) hc⟩
theorem iu.four {R:Option Nat} (h:iu lo R w wi) (hz:lo≤Z) (hk:w.heap.size≤Z) (u0 u1 u2 u3:Value):iu lo R w ((((wi.setCell ⟨Z,0,none⟩ u0).setCell ⟨Z,1,none⟩ u1).setCell ⟨Z,2,none⟩ u2).setCell ⟨Z,3,none⟩ u3) :=
 (((h.put (dg _ _ _ _) hz (.inl hk)).put (dg _ _ _ _) hz (.inl hk)).put (dg _ _ _ _) hz (.inl hk)).put (dg _ _ _ _) hz (.inl hk)
def pg (lo:Nat) (w:World) (e:Ending) (w':World):Prop:=∃v ok,e=.returned (.tuple #[v,.bool ok])∧dl lo w' v∧iu lo none w w'
end Go.Proofs.YtpobkmjicbobdaaGreat
