/- Walks. -/
import Derived.Test.YtpobkmjicbobdaaGreatBl22
namespace Go.Proofs.YtpobkmjicbobdaaGreat
set_option maxRecDepth 100000
set_option maxHeartbeats 40000000
open Go.RowKit
variable {A B C D:List an} {G P X Z base c1 c3 cap cm cs d1 d2 dA dD e1 e2 g g1 g3 gA gD len lo n n1 n2 nD nm ns sz:Nat} {M:List ac} {S:List Int} {ab ak am:Option Addr} {b w w' wi wj:World} {xs:List Value}
def cX (p:Nat→Prop) (w:World) (a:Option Addr) (n c:Nat) (B:List an):Prop :=
 ay 0 w a n c B∧∀x,a=some x→0<n→p x.block∧∀i,i<n→∀s m d,w.cell? ⟨x.block,x.off+i*2,none⟩=some (.slice s m d)→∀y,s=some y→0<m→p y.block
theorem cX.same {p:Nat→Prop} {a:Option Addr} {c:Nat} (h:cX p w a n c B) (hs:w.heap.size≤w'.heap.size) (hc:∀b,p b→b<w.heap.size→w'.heap[b]?=w.heap[b]?):cX p w' a n c B:=by
 have f:∀b,p b→b<w.heap.size→∀o,w'.cell? ⟨b,o,none⟩=w.cell? ⟨b,o,none⟩:=fun b h1 h2 o=>DJ (a:=⟨b,o,none⟩) (hc b h1 h2)
 refine ⟨⟨h.1.length,h.1.room,h.1.big,h.1.nil,fun x e hp=>⟨l' (h.1.lies x e hp).1 hs,(h.1.lies x e hp).2⟩,fun x e i hi=>?_⟩,fun x e hp=>?_⟩
 · have hn:0<n:=by have:=h.1.length;omega
   obtain ⟨hw,s,m,d,c0,c1,hL⟩:=h.1.runs x e i hi;obtain ⟨q1,q2⟩:=h.2 x e hn;have hx:=(h.1.lies x e hn).1;refine ⟨hw,s,m,d,(f _ q1 hx _).trans c0,(f _ q1 hx _).trans c1,?_,fun _ _ _=>C3 _⟩;exact hL.1.moved hs (fun y t hm o=>f _ (q2 i (by have:=h.1.length;omega) s m d c0 y t hm) (hL.1.lies y t hm).1 o)
 · obtain ⟨q1,q2⟩:=h.2 x e hp;have hx:=(h.1.lies x e hp).1;exact ⟨q1,fun i hi s m d r=>q2 i hi s m d ((f _ q1 hx _).symm.trans r)⟩
theorem cX.below {p:Nat→Prop} {a:Option Addr} {c:Nat} (h:cX p w a n c B) (hb:Bl w w'):cX p w' a n c B:=h.same hb.size (fun b _ hl=>hb.block b hl)
theorem cX.imp {p f:Nat→Prop} {a:Option Addr} {c:Nat} (h:cX p w a n c B) (hp:∀b,p b→f b):cX f w a n c B:=⟨h.1,fun x e hn=>⟨hp _ (h.2 x e hn).1,fun i hi s m d hc y o hm=>hp _ ((h.2 x e hn).2 i hi s m d hc y o hm)⟩⟩
theorem ay.toP {p:Nat→Prop} {a:Option Addr} {c:Nat} (h:ay 0 w a n c B) (h1:∀b o s m d k,b<w.heap.size→w.cell? ⟨b,o,none⟩=some (.slice s m d)→w.cell? ⟨b,o+1,none⟩=some (iT k)→(∀y,s=some y→0<m→∃t,w.cell? ⟨y.block,y.off,none⟩=some (.string t))→(m=0→∃r ∈ B,r.1=[])→p b) (h2:∀b o t,b<w.heap.size→w.cell? ⟨b,o,none⟩=some (.string t)→p b):cX p w a n c B:=by
 have f:∀{s:Option Addr} {m d:Nat} {L:List ac},eW 0 w s m d L→∀y,s=some y→0<m→y.block<w.heap.size∧∃t,w.cell? ⟨y.block,y.off,none⟩=some (.string t):=fun {s m d L} hL y u hm=>by
  have hc:=hL.1.cells y u 0 (by have:=hL.1.length;omega);exact ⟨(hL.1.lies y u hm).1,_,by simpa using hc.1⟩
 refine ⟨h,fun x e hn=>?_⟩;have hx:=(h.lies x e hn).1;refine ⟨?_,fun i hi s m d hc y u hm=>?_⟩
 · have hl:0<B.length:=by have:=h.length;omega
   obtain ⟨_,s,m,d,c0,c1,hL⟩:=h.runs x e 0 hl;exact h1 _ _ s m d _ hx c0 c1 (fun y u hm=>(f hL y u hm).2) (fun hm=>⟨B[0],Dq hl,List.eq_nil_of_length_eq_zero (by rw [hL.1.length,hm])⟩)
 · obtain ⟨_,F,E,H,c0,_,hL⟩:=h.runs x e i (by have:=h.length;omega);rw [hc] at c0;cases c0;obtain ⟨q1,t,q2⟩:=f hL y u hm;exact h2 _ _ t q1 q2
theorem ay.lowP {a:Option Addr} {c:Nat} (h:ay 0 w a n c B) {p:Nat→Prop} (hp:∀b,b<w.heap.size→p b):cX p w a n c B:=h.toP (fun b _ _ _ _ _ hb _ _ _ _=>hp b hb) (fun b _ _ hb _=>hp b hb)
theorem ay.boxP {a:Option Addr} {c:Nat} (h:ay 0 w a n c B) (f:yl w X) {p:Nat→Prop} (hp:∀b,b<w.heap.size→b≠X→p b):cX p w a n c B :=
 h.toP (fun b o s m d k hb h0 h1 _ _=>hp b hb (fun e=>by subst e;exact (f o).2 _ _ _ k h0 h1)) (fun b o t hb h0=>hp b hb (fun e=>by subst e;exact (f o).1 t h0))
theorem pY {f:World} {a:Option Addr} {c:Nat} (h:ay 0 f a n c B) (u:yl f Z) (hs:f.heap.size≤w'.heap.size) (hk:∀b,b<f.heap.size→b≠Z→w'.heap[b]?=f.heap[b]?) (hg:f.heap.size≤g∨∀o,f.cell? ⟨g,o,none⟩=none) (hG:f.heap.size≤G):cX (fun b=>b≠g∧b≠G) w' a n c B:=by
 have r:∀b o v,b<f.heap.size→f.cell? ⟨b,o,none⟩=some v→b≠g∧b≠G:=fun b o v hb hc=>by
  refine ⟨fun e=>?_,by omega⟩;subst e;rcases hg with h1 | h1
  · omega
  · rw [h1 o] at hc;cases hc
 have h1:cX (fun b=>(b≠g∧b≠G)∧b≠Z) f a n c B:=h.toP (fun b o s m d k hb h0 h1 _ _=>⟨r b o _ hb h0,fun e=>by subst e;exact (u o).2 _ _ _ k h0 h1⟩) (fun b o t hb h0=>⟨r b o _ hb h0,fun e=>by subst e;exact (u o).1 t h0⟩);exact (h1.same hs (fun b hb hl=>hk b hl hb.2)).imp (fun _ hb=>hb.1)
theorem nW {d:Nat} (h:w.heap[d]?=some (.cells #[] 63 (0,0))) (hl:lo≤d):bh lo w d 0 0 [] :=
 ⟨rfl,(fun p hp=>by cases hp),[],⟨rfl,.inr ⟨d,0,#[],rfl,hl,h,Cy _,C3 _,rfl,rfl⟩⟩,fun i p hp=>by simp at hp⟩
theorem qA (w:World) (X:Nat) (u0 u1 u2 u3:Value):∀b,b≠X→((((w.setCell ⟨X,0,none⟩ u0).setCell ⟨X,1,none⟩ u1).setCell ⟨X,2,none⟩ u2).setCell ⟨X,3,none⟩ u3).heap[b]?=w.heap[b]?:=fun b hb=>by
 rw [Below.heap_setCell _ _ _ _ hb,Below.heap_setCell _ _ _ _ hb,Below.heap_setCell _ _ _ _ hb,Below.heap_setCell _ _ _ _ hb]
theorem ay.offR {a:Option Addr} {c R:Nat} (h:ay 0 w a n c B) (u:∀r ∈ B,1≤r.1.length) (hR:aZ w R ab len cap P):cX (·≠R) w a n c B:=by
 have f:∀o,w.cell? ⟨R,o,none⟩=some (.slice ab len cap)∨w.cell? ⟨R,o,none⟩=some (iT P)∨w.cell? ⟨R,o,none⟩=none:=fun o=>by
  match o with
  | 0=>exact .inl hR.c0
  | 1=>exact .inr (.inl hR.c1)
  | o+2=>exact .inr (.inr (hR.two o))
 refine h.toP (fun b o s m d k _ h0 h1 h3 h4 e=>?_) (fun b o t _ h0 e=>?_)
 · subst e;rcases f o with h5 | h5 | h5 <;> rw [h0] at h5 <;> cases h5
   by_cases hm:len=0
   · obtain ⟨r,hr,e⟩:=h4 hm;have:=u r hr;rw [e] at this;simp at this
   · rcases hR.bytes with h6 | ⟨b,y,rfl,_,_,hc⟩
     · exact hm h6
     · obtain ⟨t,x⟩:=h3 _ rfl (by omega);obtain ⟨z,_,hz⟩:=hc 0 (by omega);simp only [DS] at hz;rw [x] at hz;cases hz
 · subst e;rcases f o with h5 | h5 | h5 <;> rw [h0] at h5 <;> cases h5
theorem bh.toP {p:Nat→Prop} {c:Nat} (h:bh base w g n c B) (h1:p g) (h2:∀b sz,base≤b→au w b 50 sz→p b):cX p w (pT g) n c B:=by
 refine ⟨h.runsIn.mono (C3 _),fun x e hn=>?_⟩;cases e;refine ⟨h1,fun i hi s m d hc y o hm=>?_⟩;obtain ⟨q1,q2,xs,q3,q4⟩:=h;obtain ⟨e,r,a1,a2,a3⟩:=q4 i B[i] (j' (by omega));have f:=q3.cells (g:=g) rfl (i*2) _ a1;rw [De] at f;rw [hc] at f;have hs:s=some ⟨e,0,none⟩:=by injection f with h1;injection h1
 rw [hs] at o;cases o;obtain ⟨sz,k⟩:=aO a3.owns;exact h2 _ sz a3.lt.1 k
theorem au.grown {t:Nat} (h:au w g t sz) (hg:w.grownBy w' (some X)) (f:g≠X):au w' g t sz:=by
 obtain ⟨d,h1,h2⟩:=h;exact ⟨d,(hg.block g (DM.1 h1).1 (fun e=>f (CZ e))).trans h1,h2⟩
structure kU (lo:Nat) (w:World) (am:Option Addr) (nm cm G c:Nat) (ak:Option Addr) (ns cs gA dA:Nat) (e1 n1 d1 e2 n2 d2:Nat) (M:List ac) (A B C:List an) (S:List Int):Prop where
 mem:cH w lo am nm cm M
 row:w.ownsRow lo 61 1 (sL G 3 c) 3 [sL gA A.length dA,sL e1 n1 d1,sL e2 n2 d2]
 rA:bh lo w gA A.length dA A
 rB:cX (fun b=>b≠gA∧b≠G) w (pT e1) n1 d1 B
 rC:cX (fun b=>b≠gA∧b≠G) w (pT e2) n2 d2 C
 sn:bQ lo w ak ns cs S
 sk:∀x,ak=some x→0<ns→∃sz,au w x.block 3 sz
theorem kU.grown {c:Nat} (h:kU lo w am nm cm G c ak ns cs gA dA e1 n1 d1 e2 n2 d2 M A B C S) (hg:w.grownBy w' (some X))
 (hm:∀x,am=some x→x.block≠X) (hG:G≠X) (hA:bh lo w' gA A.length dA A) (hB:cX (·≠X) w (pT e1) n1 d1 B) (hC:cX (·≠X) w (pT e2) n2 d2 C) (hk:∀x,ak=some x→0<ns→x.block≠X):kU lo w' am nm cm G c ak ns cs gA dA e1 n1 d1 e2 n2 d2 M A B C S:=by
 have f:∀{a n d} {Z:List an},cX (fun b=>b≠gA∧b≠G) w a n d Z→cX (·≠X) w a n d Z→cX (fun b=>b≠gA∧b≠G) w' a n d Z:=fun {a n d Z} h1 h2=>by
  have h3:cX (fun b=>(b≠gA∧b≠G)∧b≠X) w a n d Z:=⟨h1.1,fun x e hn=>⟨⟨(h1.2 x e hn).1,(h2.2 x e hn).1⟩,fun i hi s m d hc y o hm=>⟨(h1.2 x e hn).2 i hi s m d hc y o hm,(h2.2 x e hn).2 i hi s m d hc y o hm⟩⟩⟩;have h4:=h3.same hg.size (fun b hb hl=>hg.block b hl (fun e=>hb.2 (CZ e)));exact ⟨h4.1,fun x e hn=>⟨((h4.2 x e hn).1).1,fun i hi s m d hc y o hm=>((h4.2 x e hn).2 i hi s m d hc y o hm).1⟩⟩
 refine ⟨h.mem.grown hg (fun x e r=>hm x e (CZ r)),h.row.kept hg (.inr fun e=>hG (by simpa [Value.ownBlock] using e)),hA,f h.rB hB,f h.rC hC,?_,fun x e hn=>?_⟩
 · refine ⟨h.sn.length,h.sn.room,h.sn.big,h.sn.wfs,h.sn.nil,fun x e hp=>⟨l' (h.sn.lies x e hp).1 hg.size,(h.sn.lies x e hp).2⟩,fun x e i hi=>?_⟩;have hp:0<ns:=by have:=h.sn.length;omega
   exact (DJ (a:=⟨x.block,x.off+i,none⟩) (hg.block _ (h.sn.lies x e hp).1 (fun r=>hk x e hp (CZ r)))).trans (h.sn.cells x e i hi)
 · obtain ⟨sz,k⟩:=h.sk x e hn;exact ⟨sz,k.grown hg (hk x e hn)⟩
theorem kU.below {c:Nat} (h:kU lo w am nm cm G c ak ns cs gA dA e1 n1 d1 e2 n2 d2 M A B C S) (hb:Bl w w'):kU lo w' am nm cm G c ak ns cs gA dA e1 n1 d1 e2 n2 d2 M A B C S :=
 ⟨h.mem.below hb,dx h.row hb,h.rA.below hb,h.rB.below hb,h.rC.below hb,h.sn.keep hb,fun x e hn=>by obtain ⟨sz,k⟩:=h.sk x e hn;exact ⟨sz,k.below hb⟩⟩
theorem kU.box {c:Nat} (h:kU lo w am nm cm G c ak ns cs gA dA e1 n1 d1 e2 n2 d2 M A B C S) (hk:au w X 31 sz) (f:yl w X) (hg:w.grownBy w' (some X)):kU lo w' am nm cm G c ak ns cs gA dA e1 n1 d1 e2 n2 d2 M A B C S:=by
 refine h.grown hg (fun x e d=>?_) (fun e=>?_) (h.rA.grown hk (by decide) (by decide) hg) (h.rB.1.boxP f fun b _ hn=>hn) (h.rC.1.boxP f fun b _ hn=>hn) (fun x e hn d=>?_)
 · obtain ⟨g,rfl,h2⟩:=h.mem.own x e;obtain ⟨_,k⟩:=aO h2.owns;simp only at d;subst d;exact absurd (hk.kind k) (by decide)
 · obtain ⟨_,k⟩:=aO h.row;rw [e] at k;exact absurd (hk.kind k) (by decide)
 · obtain ⟨_,k⟩:=h.sk x e hn;rw [d] at k;exact absurd (hk.kind k) (by decide)
theorem kU.read {c:Nat} {R:Nat} (h:kU lo w am nm cm G c ak ns cs gA dA e1 n1 d1 e2 n2 d2 M A B C S) (hR:aZ w R ab len cap P) (hl:R<lo) (hB:∀r ∈ B,1≤r.1.length) (hC:∀r ∈ C,1≤r.1.length) (hg:w.grownBy w' (some R)):kU lo w' am nm cm G c ak ns cs gA dA e1 n1 d1 e2 n2 d2 M A B C S:=by
 refine h.grown hg (fun x e=>?_) ?_ (h.rA.low hl hg) (h.rB.1.offR hB hR) (h.rC.1.offR hC hR) (fun x e hn=>?_)
 · have:=(h.mem.lt x e).1;omega
 · have:=(h.row.lt G rfl).1;omega
 · have:=(h.sn.lies x e hn).2.2;omega
theorem kU.head {c:Nat} (h:kU lo w am nm cm G c ak ns cs gA dA e1 n1 d1 e2 n2 d2 M A B C S):w.cell? ⟨G,0,none⟩=some (sL gA A.length dA)∧w.cell? ⟨G,1,none⟩=some (sL e1 n1 d1)∧w.cell? ⟨G,2,none⟩=some (sL e2 n2 d2)∧G<w.heap.size∧w.frozen? ⟨G,0,none⟩=false :=
 ⟨h.row.cellAt 0 (by omega),h.row.cellAt 1 (by omega),h.row.cellAt 2 (by omega),(h.row.lt G rfl).2,h.row.frozenAt 0⟩
theorem kU.treeIn {c:Nat} (h:kU lo w am nm cm G c ak ns cs gA dA e1 n1 d1 e2 n2 d2 M A B C S):b6 0 w am nm cm (pT G) 3 c ak ns cs M [A,B,C] S :=
 ⟨⟨h.mem.entsAt,fun _ _ _=>C3 _⟩,jg (cQ h.row).1 (cQ h.row).2 h.head.1 h.head.2.1 h.head.2.2.1 (h.rA.runsIn.mono (C3 _)) h.rB.1 h.rC.1,h.sn.lower (C3 _)⟩
theorem cE.trS {c:Nat} (h:cE base w g1 nm c1 G 3 c g3 ns c3 M [A,B,C] S) (hl:lo≤base):∃gA dA u y s E,kU lo w (pT g1) nm c1 G c (pT g3) ns c3 gA dA u B.length y s C.length E M A B C S:=by
 obtain ⟨gA,dA,u,y,s,E,f,I,N,O,t,r⟩:=h.split;obtain ⟨_,K⟩:=aO f;have H:∀{g n d:Nat} {Z:List an},bh base w g n d Z→∃sz,au w g 63 sz:=fun o=>by
  obtain ⟨_,_,xs,h3,_⟩:=o;exact aO h3
 have mk:∀{g n d:Nat} {Z:List an},bh base w g n d Z→gA≠g→cX (fun b=>b≠gA∧b≠G) w (pT g) n d Z:=fun {g n d Z} o F=>by
  obtain ⟨_,J⟩:=H o;obtain ⟨_,L⟩:=H I;refine o.toP ⟨F.symm,fun e=>?_⟩ (fun b sz _ m=>⟨fun e=>?_,fun e=>?_⟩)
  · rw [e] at J;exact absurd (J.kind K) (by decide)
  · rw [e] at m;exact absurd (m.kind L) (by decide)
  · rw [e] at m;exact absurd (m.kind K) (by decide)
 obtain ⟨sz,Q⟩:=aO h.sn;exact ⟨gA,dA,u,y,s,E,(cH.some h.mem).mono hl,eC f hl,I.mono hl,mk N t,mk O r,(iH h.sn h.slen h.swf).lower hl,fun x e _=>by cases e;exact ⟨sz,Q⟩⟩
theorem kU.four {c:Nat} {q z:Int} {a1 a2 a3 b1 b2 b3:Option Addr} {m1 k1 m2 k2 m3 k3 r y t u x s:Nat} (h:kU lo w am nm cm G c ak ns cs gA dA e1 n1 d1 e2 n2 d2 M A B C S) (hk:au w X 31 4) (m:az w X (iT z) (.slice b1 r y) (.slice b2 t u) (.slice b3 x s)):kU lo ((((w.setCell ⟨X,0,none⟩ (iT q)).setCell ⟨X,1,none⟩ (.slice a1 m1 k1)).setCell ⟨X,2,none⟩ (.slice a2 m2 k2)).setCell ⟨X,3,none⟩ (.slice a3 m3 k3)) am nm cm G c ak ns cs gA dA e1 n1 d1 e2 n2 d2 M A B C S:=by
 have h0:=h.box hk (fJ hk m) (cq w X 0 (iT q));have f:=hk.setCell (b:=X) (o:=0) (iT q);have x0:=m.set0 (iT q);have h1:=h0.box f (fJ f x0) (cq _ X 1 (.slice a1 m1 k1));have d:=f.setCell (b:=X) (o:=1) (.slice a1 m1 k1);have x1:=x0.set1 (.slice a1 m1 k1);have h2:=h1.box d (fJ d x1) (cq _ X 2 (.slice a2 m2 k2));have e:=d.setCell (b:=X) (o:=2) (.slice a2 m2 k2);have E:=x1.set2 (.slice a2 m2 k2);exact h2.box e (fJ e E) (cq _ X 3 (.slice a3 m3 k3))
structure tX (base:Nat) (w:World) (g1 nm c1 G c g3 ns c3 gD nD dD:Nat) (xs:List Value) (M:List ac) (D:List an) (S:List Int):Prop where
 mem:af w base g1 nm c1 M
 lev:bh base w gD nD dD D
 slen:S.length=ns
 swf:∀z ∈ S,(Lit.int .i64 z).wf=true
 sn:w.ownsRow base 3 1 (sL g3 ns c3) ns (S.map iT)
 row:w.ownsRow base 61 1 (sL G 3 c) 3 xs
theorem tX.below {c:Nat} (h:tX base w g1 nm c1 G c g3 ns c3 gD nD dD xs M D S) (hb:Bl w w'):tX base w' g1 nm c1 G c g3 ns c3 gD nD dD xs M D S :=
 ⟨h.mem.below hb,h.lev.below hb,h.slen,h.swf,dx h.sn hb,dx h.row hb⟩
theorem tX.setG {c:Nat} (h:tX base w g1 nm c1 G c g3 ns c3 gD nD dD xs M D S) (o:Nat) (u:Value):tX base (w.setCell ⟨G,o,none⟩ u) g1 nm c1 G c g3 ns c3 gD nD dD (xs.set o u) M D S:=by
 obtain ⟨sz,k⟩:=aO h.row;have hg:=cq w G o u;have hk:∀{T size n m g c:Nat} {xs:List Value},T≠61→w.ownsRow base T size (sL g m c) n xs→(w.setCell ⟨G,o,none⟩ u).ownsRow base T size (sL g m c) n xs:=fun {T size n m g c xs} f h3=>h3.kept hg (.inr fun e=>by
  have d:g=G:=by simpa [Value.ownBlock] using e
  obtain ⟨_,k3⟩:=aO h3;rw [d] at k3;exact f (k3.kind k))
 exact ⟨⟨hk (by decide) h.mem.owns,h.mem.len,h.mem.ents⟩,h.lev.grown k (by decide) (by decide) hg,h.slen,h.swf,hk (by decide) h.sn,(h.row.stored o u).1⟩
theorem tX.setX {c:Nat} (h:tX base w g1 nm c1 G c g3 ns c3 gD nD dD xs M D S) (d:X<base) (o:Nat) (u:Value):tX base (w.setCell ⟨X,o,none⟩ u) g1 nm c1 G c g3 ns c3 gD nD dD xs M D S:=by
 have hg:=cq w X o u;have hk:∀{T size n m g c:Nat} {xs:List Value},w.ownsRow base T size (sL g m c) n xs→(w.setCell ⟨X,o,none⟩ u).ownsRow base T size (sL g m c) n xs:=fun {T size n m g c xs} h3=>h3.kept hg (.inr fun e=>by
  have f:g=X:=by simpa [Value.ownBlock] using e
  have:=(h3.lt g rfl).1;omega)
 exact ⟨⟨hk h.mem.owns,h.mem.len,h.mem.ents⟩,h.lev.low d hg,h.slen,h.swf,hk h.sn,hk h.row⟩
def jO (lo:Nat) (q:Int) (v:Value) (M:List ac) (A B C:List an) (S:List Int) (ok:Bool) (w:World) (e:Ending) (w':World):Prop :=
 ∃am nm cm av nv cv ak ns cs,e=.returned (.tuple #[.agg #[iT q,.slice am nm cm,.slice av nv cv,.slice ak ns cs],.bool ok])∧Bl w w'∧(ok=false→(.agg #[iT q,.slice am nm cm,.slice av nv cv,.slice ak ns cs]:Value)=v)∧(ok=true→∃G gA dA e1 n1 d1 e2 n2 d2,av=some ⟨G,0,none⟩∧nv=3∧kU lo w' am nm cm G cv ak ns cs gA dA e1 n1 d1 e2 n2 d2 M A B C S)
def cL (lo:Nat) (w:World) (v:Value):Prop :=
 ∃q am nm cm G c ak ns cs gA dA e1 n1 d1 e2 n2 d2 M A B C S,v=.agg #[iT q,.slice am nm cm,sL G 3 c,.slice ak ns cs]∧kU lo w am nm cm G c ak ns cs gA dA e1 n1 d1 e2 n2 d2 M A B C S∧bf q M [A,B,C] S=true∧lN M A B C
structure gK (lo:Nat) (R:Option Nat) (w w':World):Prop where
 os:w'.os=w.os
 tape:w'.tape=w.tape
 output:w'.output=w.output
 size:w.heap.size≤w'.heap.size
 block:∀k,k<w.heap.size→some k≠R→(k<lo∨au w k 31 4)→w'.heap[k]?=w.heap[k]?
theorem gK.of {R:Option Nat} (h:Bl w w'):gK lo R w w':=⟨h.os,h.tape,h.output,h.size,fun k hk _ _=>h.block k hk⟩
theorem gK.trans {R:Option Nat} {a c:World} (h:gK lo R a b) (k:gK lo R b c):gK lo R a c :=
 ⟨k.os.trans h.os,k.tape.trans h.tape,k.output.trans h.output,C8 h.size k.size,fun i hi hn hc=>(k.block i (l' hi h.size) hn (hc.imp id fun hB=>hB.same (h.block i hi hn (.inr hB)))).trans (h.block i hi hn hc)⟩
theorem gK.next {R:Option Nat} {a c:World} (h:gK lo R a b) (k:Bl b c):gK lo R a c:=h.trans (gK.of k)
theorem gK.put {R:Option Nat} (h:gK lo R w wi) (hg:wi.grownBy wj (some Z)) (hz:lo≤Z) (hk:w.heap.size≤Z∨¬au wi Z 31 4):gK lo R w wj :=
 ⟨hg.os.trans h.os,hg.tape.trans h.tape,hg.output.trans h.output,C8 h.size hg.size,fun k d hn hc=>by
  have h1:=h.block k d hn hc
  refine (hg.block k (l' d h.size) (fun e=>?_)).trans h1
  have f:k=Z:=CZ e
  subst f
  rcases hc with hc | hc
  · omega
  · rcases hk with hk | hk
    · omega
    · exact hk (hc.same h1)⟩
theorem gK.any (h:gK lo (some Z) w wi) (hg:wi.grownBy wj (some Z)):gK lo (some Z) w wj :=
 ⟨hg.os.trans h.os,hg.tape.trans h.tape,hg.output.trans h.output,C8 h.size hg.size,fun k d hn hc=>(hg.block k (l' d h.size) hn).trans (h.block k d hn hc)⟩
theorem gK.weak {R:Option Nat} (h:gK lo none w wi):gK lo R w wi:=⟨h.os,h.tape,h.output,h.size,fun k hk _ hc=>h.block k hk (by simp) hc⟩
theorem gK.four {R:Option Nat} (h:gK lo R w wi) (hz:lo≤Z) (hk:w.heap.size≤Z) (u0 u1 u2 u3:Value):gK lo R w ((((wi.setCell ⟨Z,0,none⟩ u0).setCell ⟨Z,1,none⟩ u1).setCell ⟨Z,2,none⟩ u2).setCell ⟨Z,3,none⟩ u3) :=
 (((h.put (cq _ _ _ _) hz (.inl hk)).put (cq _ _ _ _) hz (.inl hk)).put (cq _ _ _ _) hz (.inl hk)).put (cq _ _ _ _) hz (.inl hk)
def mS (lo:Nat) (w:World) (e:Ending) (w':World):Prop:=∃v ok,e=.returned (.tuple #[v,.bool ok])∧cL lo w' v∧gK lo none w w'
end Go.Proofs.YtpobkmjicbobdaaGreat
