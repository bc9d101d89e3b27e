/- Walks. -/
import Derived.Test.YtpobkmjicbobdaaGreatBl31
import Derived.ChangeSlices
namespace Go.Proofs.YtpobkmjicbobdaaGreat
set_option maxRecDepth 100000
set_option maxHeartbeats 40000000
open Go.RowKit
variable {A B C:List an} {G R X base c1 c3 d0 d1 d2 e g g1 g3 lo n n0 n1 n2 nm ns s0 s1 s2 size:Nat} {L M:List ac} {S:List Int} {V:List (List an)} {v:Value} {w w':World} {xs:List Value}
def iW (R:Nat) (w w':World):Prop:=w.heap.size≤w'.heap.size∧∀b,b<w.heap.size→b≠R→¬au w b 31 4→w'.heap[b]?=w.heap[b]?
theorem iW.refl (R:Nat) (w:World):iW R w w:=⟨Cy _,fun _ _ _ _=>rfl⟩
theorem iW.trans {a b c:World} (h:iW R a b) (k:iW R b c):iW R a c :=
 ⟨C8 h.1 k.1,fun i hi hR hn=>(k.2 i (l' hi h.1) hR (fun hB=>hn (hB.same (h.2 i hi hR hn).symm))).trans (h.2 i hi hR hn)⟩
theorem iW.grown (h:w.grownBy w' (some R)):iW R w w':=⟨h.size,fun b hb hR _=>h.block b hb (fun e=>hR (CZ e))⟩
theorem iW.below (h:Bl w w'):iW R w w':=⟨h.size,fun b hb _ _=>h.block b hb⟩
theorem iW.set (h:au w X 31 4) (o:Nat) (u:Value):iW R w (w.setCell ⟨X,o,none⟩ u):=⟨by simp [World.setCell],fun b _ _ hn=>Below.heap_setCell _ _ _ _ (fun e=>by subst e;exact hn h)⟩
theorem iW.four (h:au w X 31 4) (u0 u1 u2 u3:Value):iW R w ((((w.setCell ⟨X,0,none⟩ u0).setCell ⟨X,1,none⟩ u1).setCell ⟨X,2,none⟩ u2).setCell ⟨X,3,none⟩ u3) :=
 (((iW.set h 0 u0).trans (iW.set (h.setCell _) 1 u1)).trans (iW.set ((h.setCell _).setCell _) 2 u2)).trans (iW.set (((h.setCell _).setCell _).setCell _) 3 u3)
theorem iW.keep {T sz:Nat} (k:iW R w w') (hg:au w g T sz) (b:T≠31) (hR:R<g):w'.heap[g]?=w.heap[g]?:=k.2 g hg.lt (by omega) (fun h=>b (hg.kind h))
theorem yR {m c:Nat} (h:w.ownsRow base e size (sL g m c) n xs) (hb:w'.heap[g]?=w.heap[g]?):w'.ownsRow base e size (sL g m c) n xs:=by
 refine ⟨h.1,?_⟩;rcases h.2 with ⟨b,_⟩ | ⟨g',d,f,b,q1,q2,q3⟩
 · simp at b
 · have e:g=g':=by simp only [Value.slice.injEq,Er,Addr.mk.injEq,and_true] at b;exact b.1
   subst e;exact .inr ⟨g,d,f,b,q1,hb.trans q2,q3⟩
theorem jc {m c:Nat} (h:w.ownsRow base e size (sL g m c) n xs) (d:e≠31) (hR:R<base) (k:iW R w w'):w'.ownsRow base e size (sL g m c) n xs:=by
 obtain ⟨sz,b⟩:=aO h;exact yR h (k.keep b d (l' hR (h.lt g rfl).1))
theorem af.kp {c:Nat} (h:af w base g n c L) (hR:R<base) (k:iW R w w'):af w' base g n c L:=⟨jc h.owns (by decide) hR k,h.len,h.ents⟩
theorem bh.kp {c:Nat} (h:bh base w g n c B) (hR:R<base) (k:iW R w w'):bh base w' g n c B:=by
 obtain ⟨h1,h2,xs,h3,h4⟩:=h;exact ⟨h1,h2,xs,jc h3 (by decide) hR k,fun i p hp=>by obtain ⟨e,d,a1,a2,a3⟩:=h4 i p hp;exact ⟨e,d,a1,a2,a3.kp hR k⟩⟩
def ym (R:Nat) (w:World) (a:Option Addr) (n c:Nat) (B:List an):Prop:=∀w',iW R w w'→ay 0 w' a n c B
theorem bh.lvQ {c:Nat} (h:bh base w g n c B) (hR:R<base):ym R w (pT g) n c B:=fun _ k=>(h.kp hR k).runsIn.mono (C3 _)
theorem ym.kp {a:Option Addr} {c:Nat} (h:ym R w a n c B) (k:iW R w w'):ym R w' a n c B:=fun b k2=>h b (k.trans k2)
def po (w:World) (av:Option Addr) (V:List (List an)):Prop:=∀(i:Nat) (B:List an),V[i]?=some B→∃b e n c,av=some ⟨b,0,none⟩∧w.cell? ⟨b,i,none⟩=some (sL e n c)
theorem oC {c:Nat} (hr:w.ownsRow base 61 1 (sL G 3 c) 3 [sL s0 n0 d0,sL s1 n1 d1,sL s2 n2 d2]) (hV:V.length≤3):po w (pT G) V:=fun i B hB=>by
 have hi:=(Cx.1 hB).1
 rcases (by omega:i=0∨i=1∨i=2) with rfl | rfl | rfl
 · exact ⟨G,_,_,_,rfl,hr.cellAt 0 (by omega)⟩
 · exact ⟨G,_,_,_,rfl,hr.cellAt 1 (by omega)⟩
 · exact ⟨G,_,_,_,rfl,hr.cellAt 2 (by omega)⟩
def Ad (R:Nat) (w:World) (am:Option Addr) (nm cm:Nat) (av:Option Addr) (nv cv:Nat) (ak:Option Addr) (ns cs:Nat) (M:List ac) (V:List (List an)) (S:List Int):Prop:=∀w',iW R w w'→b6 0 w' am nm cm av nv cv ak ns cs M V S∧po w' av V
theorem Ad.kp {m:Option Addr} {b:Nat} {r:Option Addr} {d o:Nat} {f:Option Addr} {cs:Nat} (h:Ad R w m nm b r d o f ns cs M V S) (k:iW R w w'):Ad R w' m nm b r d o f ns cs M V S:=fun s k2=>h s (k.trans k2)
theorem je {c:Nat} (hm:af w base g1 nm c1 M) (b:w.ownsRow base 61 1 (sL G 3 c) 3 [sL s0 n0 d0,sL s1 n1 d1,sL s2 n2 d2]) (h0:ym R w (pT s0) n0 d0 A) (h1:ym R w (pT s1) n1 d1 B) (h2:ym R w (pT s2) n2 d2 C)
 (hsn:w.ownsRow base 3 1 (sL g3 ns c3) ns (S.map iT)) (hsl:S.length=ns) (hsw:∀z ∈ S,(Lit.int .i64 z).wf=true) (hR:R<base):Ad R w (pT g1) nm c1 (pT G) 3 c (pT g3) ns c3 M [A,B,C] S:=fun w' k=>by
 have hr:=jc b (by decide) hR k
 have hc:=cQ hr
 exact ⟨⟨⟨(hm.kp hR k).entsAt,fun _ _ _=>C3 _⟩,jg hc.1 hc.2 (hr.cellAt 0 (by omega)) (hr.cellAt 1 (by omega)) (hr.cellAt 2 (by omega)) (h0 w' k) (h1 w' k) (h2 w' k),(iH (jc hsn (by decide) hR k) hsl hsw).lower (C3 _)⟩,oC hr (by simp)⟩
theorem As {c:Nat} (hm:af w base g1 nm c1 M) (b:w.ownsRow base 61 1 (sL G 3 c) 3 [sL s0 n0 d0,sL s1 n1 d1,sL s2 n2 d2]) (h0:ym R w (pT s0) n0 d0 A) (h1:ym R w (pT s1) n1 d1 B) (h2:ym R w (pT s2) n2 d2 C)
 (hsn:w.ownsRow base 3 1 (sL g3 ns c3) ns (S.map iT)) (hsl:S.length=ns) (hsw:∀z ∈ S,(Lit.int .i64 z).wf=true) (hR:R<base):Ad R w (pT g1) nm c1 (pT G) 2 c (pT g3) ns c3 M [A,B] S:=fun w' k=>by
 have h:=(je hm b h0 h1 h2 hsn hsl hsw hR w' k).1
 refine ⟨⟨h.mem,⟨rfl,by have:=h.levels.room;omega,h.levels.big,(fun e=>by cases e),fun x e _=>h.levels.lies x e (by omega),fun x e i hi=>?_⟩,h.snaps⟩,oC (jc b (by decide) hR k) (by simp)⟩
 have d:i<2:=hi
 rcases (by omega:i=0∨i=1) with rfl | rfl
 · exact h.levels.levels x e 0 (by show 0<3;omega)
 · exact h.levels.levels x e 1 (by show 1<3;omega)
def A6 (M:List ac) (V:List (List an)):Prop:=nh M∧∀B ∈ V,mv B
theorem lN.all (h:lN M A B C):A6 M [A,B,C]:=⟨h.1,fun Z b=>by
 simp only [Da,Dr,or_false] at b
 rcases b with rfl | rfl | rfl
 · exact h.2.1
 · exact h.2.2.1
 · exact h.2.2.2⟩
def d9 (lo R:Nat) (w:World) (v:Value):Prop:=cL lo w v∨∃q am nm cm av nv cv ak ns cs M V S,v=.agg #[iT q,.slice am nm cm,.slice av nv cv,.slice ak ns cs]∧(Lit.int .i64 q).wf=true∧Ad R w am nm cm av nv cv ak ns cs M V S∧ns≤100∧A6 M V
theorem d9.below (h:d9 lo R w v) (hb:Bl w w'):d9 lo R w' v:=by
 rcases h with h | ⟨q,o,nm,f,s,d,r,m,ns,cs,M,V,S,e,hq,h,b⟩
 · exact .inl (h.below hb)
 · exact .inr ⟨q,o,nm,f,s,d,r,m,ns,cs,M,V,S,e,hq,h.kp (iW.below hb),b⟩
theorem d9.read {len b P:Nat} {o:Option Addr} (h:d9 lo R w v) (hR:aZ w R o len b P) (hl:R<lo) (hg:w.grownBy w' (some R)):d9 lo R w' v:=by
 rcases h with h | ⟨q,s,nm,m,u,f,t,r,ns,cs,M,V,S,e,hq,h,d⟩
 · exact .inl (h.read hR hl hg)
 · exact .inr ⟨q,s,nm,m,u,f,t,r,ns,cs,M,V,S,e,hq,h.kp (iW.grown hg),d⟩
theorem d9.four {q z:Int} {a1 a2 a3 b1 b2 b3:Option Addr} {m1 k1 m2 k2 m3 k3 d u o r t m:Nat} (h:d9 lo R w v) (hk:au w X 31 4) (D:az w X (iT z) (.slice b1 d u) (.slice b2 o r) (.slice b3 t m)):d9 lo R ((((w.setCell ⟨X,0,none⟩ (iT q)).setCell ⟨X,1,none⟩ (.slice a1 m1 k1)).setCell ⟨X,2,none⟩ (.slice a2 m2 k2)).setCell ⟨X,3,none⟩ (.slice a3 m3 k3)) v:=by
 rcases h with h | ⟨q,s,nm,x,F,f,E,y,ns,cs,M,V,S,e,hq,h,b⟩
 · exact .inl (h.four hk D)
 · exact .inr ⟨q,s,nm,x,F,f,E,y,ns,cs,M,V,S,e,hq,h.kp (iW.four hk _ _ _ _),b⟩
theorem d9.val (h:d9 lo R w v):B3 v:=by
 rcases h with h | ⟨q,o,nm,f,s,d,r,m,ns,cs,M,V,S,rfl,hq,h,b⟩
 · exact h.val
 · exact ⟨_,_,_,_,_,_,_,_,_,_,rfl⟩
theorem d9.treeIn (h:d9 lo R w v):∃q b nm d m o r f ns cs M V S,v=.agg #[iT q,.slice b nm d,.slice m o r,.slice f ns cs]∧(Lit.int .i64 q).wf=true∧b6 0 w b nm d m o r f ns cs M V S∧po w m V∧ns≤100∧A6 M V:=by
 rcases h with h | ⟨q,b,nm,d,m,o,r,f,ns,cs,M,V,S,rfl,hq,h,t⟩
 · obtain ⟨q,b,nm,d,G,c,f,ns,cs,x,u,D,n1,d1,y,n2,d2,M,A,B,C,S,rfl,s,htb⟩:=h;have hq:=aY htb.1;exact ⟨q,b,nm,d,_,3,c,f,ns,cs,M,_,S,rfl,Dk (by omega),s.treeIn,oC s.row (by simp),by have h1:=s.treeIn.snaps.length;have h2:=(ie.1 hq.2.2.2.2.2.2.1).1;omega,htb.2.all⟩
 · exact ⟨q,b,nm,d,m,o,r,f,ns,cs,M,V,S,rfl,hq,(h _ (iW.refl _ _)).1,(h _ (iW.refl _ _)).2,t⟩
theorem y6 {α:Type} (c news:List α) (K T j:Nat) (hK:K+news.length≤c.length):((c.take K++news++c.drop (K+news.length)).take T)[j]?=if K≤j∧j<K+news.length∧j<(c.take T).length then news[j - K]? else (c.take T)[j]?:=by
 by_cases b:j<T
 · rw [EQ,if_pos b,EQ,if_pos b];by_cases h1:j<K
   · rw [if_neg (by omega),Di,C7 (by rw [C5];omega),EQ,if_pos h1]
   · by_cases h2:j<K+news.length
     · rw [if_pos ⟨by omega,h2,by rw [C5];omega⟩,Di,CU (by rw [C5];omega),C7 (by rw [C5];omega),C5];congr 1
       omega
     · rw [if_neg (by omega),CU (by rw [CW,C5];omega),DH,CW,C5];congr 1
       omega
 · rw [EQ,if_neg b,if_neg (by rw [C5];omega),EQ,if_neg b]
def AT (w w':World) (g k:Nat) (news:List Value):Prop :=
 ∀(base' e' size' n2 c2:Nat) (ys:List Value),w.ownsRow base' e' size' (sL g n2 c2) n2 ys→∃ys',w'.ownsRow base' e' size' (sL g n2 c2) n2 ys'∧∀j,ys'[j]?=if k≤j∧j<k+news.length∧j<ys.length then news[j - k]? else ys[j]?
def Af (w w':World) (g g' k:Nat) (news:List Value):Prop:=(g'=w.heap.size∧Bl w w')∨(g'=g∧AT w w' g k news)
theorem pB {P:Program} (w:World) (base:Nat) (t J e:TypeId) (i:TypeInfo) (z:Value) (size bytes:Nat) (W:P.underlying t=some (.slice e)) (hi:P.info? e=some i) (hz:i.zero=some z)
 (hsize:i.size=size) (hby:i.bytes=bytes) (hzs:z.cells.size=size) (hsz:0<size)
 (g n c0:Nat) (xs:List Value) (hown:w.ownsRow base e size (sL g n c0) n xs)
 (a:Addr) (m c:Nat) (news:List Value) (hl:news.length=m*size) (hnews:∀j u,news[j]?=some u→w.cell? (a.add j)=some u) (h1:∀u ∈ news,u.oneCell'=true)
 (h63:n+m≤maxLen) (hbytes:(n+m)*bytes≤140737488355328) (hbase:base≤w.heap.size) :
 ∃F c' w',(Builtin.append_ #[t,t] J #[sL g n c0,.slice (some a) m c]).run P w=.ok (sL F (n+m) c') w'∧w'.ownsRow base e size (sL F (n+m) c') (n+m) (xs++news)∧w.grownBy w' (some g)∧Af w w' g F (n*size) news:=by
 subst hsize;subst hby
 have D:n+m≤9223372036854775807:=by simp only [maxLen] at h63;omega
 have d:(xs++news).length=(n+m)*i.size:=by rw [CW,hown.1,hl,Nat.add_mul]
 have o:∀j u,xs[j]?=some u→w.cell? ((⟨g,0,none⟩:Addr).add j)=some u:=hown.cells (g:=g) rfl;have hx:=hown.1;rcases hown.2 with ⟨h,_⟩ | ⟨g0,Y,b,hv,E,hg,a0,I,N,r⟩
 · cases h
 · cases hv;by_cases hroom:n+m≤c0
   · have f:n*i.size+news.length≤b.size:=by rw [hl,N,← Nat.add_mul];exact Nat.mul_le_mul_right _ hroom
     have hr:=run_append_room (P:=P) w t J e i W hi g n c0 b hg a m c news hl hnews h1 hroom f;refine ⟨g,c0,_,hr,⟨d,.inr ⟨g,c0,_,rfl,E,setRow_heap w g b _ e _ hg,hroom,I,?_,?_⟩⟩,⟨rfl,rfl,rfl,by simp,fun k _ hk=>setRow_other w g k _ (fun e=>hk (by rw [e]))⟩,.inr ⟨rfl,?_⟩⟩
     · simp only [D9,CW,C5,Dh,Array.length_toList];omega
     · rw [r,← d];exact List.take_left
     · intro base' e' size' n2 c2 ys ho;have a1:=ho.1;rcases ho.2 with ⟨h,_⟩ | ⟨g1,U,T,hv1,H,s,x,O,Z,K⟩
       · cases h
       · cases hv1;rw [hg] at s;cases s;have hK:n*i.size+news.length≤b.toList.length:=by rw [Array.length_toList];exact f
         refine ⟨(b.toList.take (n*i.size)++news++b.toList.drop (n*i.size+news.length)).take (n2*size'),⟨?_,.inr ⟨g,c2,_,rfl,H,setRow_heap w g b _ e _ hg,x,O,?_,rfl⟩⟩,fun j=>?_⟩
         · have h2:n2*size'≤c2*size':=Nat.mul_le_mul_right _ x;simp only [CW,C5,Dh,Array.length_toList];omega
         · simp only [D9,CW,C5,Dh,Array.length_toList];omega
         · rw [y6 _ _ _ _ _ hK,K]
   · have hr:=run_append_grow (P:=P) w t J e i z W hi hz ⟨g,0,none⟩ n c0 xs hown.1 o a m c news hl hnews (by omega) (by omega) (growslice_fits (by omega) hbytes);have Q:=grownCap_ge w (n+m) c0 e;have y:grownCap w (n+m) c0 e≤maxLen:=grownCap_le_maxLen w (n+m) c0 e h63;refine ⟨_,_,_,hr,⟨d,.inr ⟨w.heap.size,_,_,rfl,hbase,heap_alloc_new w.drew _,Q,y,?_,?_⟩⟩,⟨rfl,rfl,rfl,by simp,fun k hk _=>(by first | exact heap_alloc_old w.drew _ k hk | exact heap_alloc_old w.drew _ hk)⟩,.inl ⟨rfl,?_⟩⟩
     · simp only [Array.size_append,D9,size_zeroCells,hzs,hown.1,hl,← Nat.add_mul];congr 1
       omega
     · simp only [Array.toList_append,Di];rw [← Di,← d];exact List.take_left
     · exact (Below.refl _ w).drew.alloc (Cy _) _
theorem fj {P:Program} {d:Array Oper} {o:Oper} {a:Act} {w:World} {K:Act→World→Prop} {Q:Exit→Act→World→Prop} {E:Prop}
 (hg:o.guard=none) (s x:Operand) (t:TypeId) (hop:o.op=Op.call { callee:=Callee.builtin Builtin.append,args:=#[s,x],argTypes:=#[t,t] })
 (base:Nat) (e:TypeId) (i:TypeInfo) (z:Value) (size bytes:Nat) (h1:P.underlying t=some (.slice e)) (h2:P.info? e=some i) (h3:i.zero=some z) (h4:i.size=size) (h5:i.bytes=bytes) (h6:z.cells.size=size) (h7:0<size)
 (g n c0:Nat) (olds:List Value) (hs:a.eval s=sL g n c0) (hown:w.ownsRow base e size (sL g n c0) n olds)
 (ad:Addr) (m c:Nat) (news:List Value) (hx:a.eval x=.slice (some ad) m c) (hn:news.length=m*size) (hc:∀j u,news[j]?=some u→w.cell? (ad.add j)=some u) (h1c:∀u ∈ news,u.oneCell'=true)
 (b1:n+m≤maxLen) (b2:(n+m)*bytes≤140737488355328) (b3:base≤w.heap.size)
 (hK:∀f c' w',w'.ownsRow base e size (sL f (n+m) c') (n+m) (olds++news)→w.grownBy w' (some g)→Af w w' g f (n*size) news→K (a.put o.dst (sL f (n+m) c')) w') :
 if Region.wanted o (yielded d a.tmps)=true then Oper.wp P o a w K Q else E:=by
 have hw:Region.wanted o (yielded d a.tmps)=true:=by simp [Region.wanted,hg]
 rw [if_pos hw];obtain ⟨f,c',w',b,r,r2,r3⟩:=pB (P:=P) w base t o.type e i z size bytes h1 h2 h3 h4 h5 h6 h7 g n c0 olds hown ad m c news hn hc h1c b1 b2 b3;unfold Oper.wp;simp [execOp,hop,resolve,invoke,builtin,hs,hx,b,Result.andThen];exact hK f c' w' r r2 r3
theorem bh.beside {b D h d u:Nat} {m:Int} (hB:bh b w h n d B) (hA:bh b w g n0 d0 A) (hg:w.grownBy w' (some g)) (hat:Af w w' g D (n0*2) [sL e L.length u,iT m]) (hL:af w b e L.length u L) (hm:(Lit.int .i64 m).wf=true):∃y,bh b w' h n d y∧∀p ∈ y,p ∈ B∨p=(L,m):=by
 rcases hat with ⟨_,hb⟩ | ⟨rfl,ho⟩
 · exact ⟨B,hB.below hb,fun _ h=>.inl h⟩
 obtain ⟨_,_,J,a3,_⟩:=hA;obtain ⟨K,x⟩:=aO a3;by_cases o:h=D
 · subst o;obtain ⟨h1,h2,xs,h3,h4⟩:=hB;obtain ⟨F,q1,q2⟩:=ho _ _ _ _ _ _ h3;have E:=h3.1;have f:∀{e d:Nat} {L:List ac},af w b e L.length d L→af w' b e L.length d L:=fun {e d L} hO=>by
    obtain ⟨N,H⟩:=aO hO.owns;refine hO.grown hg (fun t=>?_);have r:e=h:=CZ t;subst r;exact absurd (x.kind H) (by decide)
   refine ⟨B.set n0 (L,m),⟨by rw [List.length_set];exact h1,fun p hp=>?_,F,q1,fun i p hp=>?_⟩,fun _ hp=>EF hp⟩
   · rcases EF hp with h | h
     · exact h2 p h
     · rw [h];exact hm
   · have s:i<B.length:=by have:=(Cx.1 hp).1;rwa [List.length_set] at this
     by_cases hi:i=n0
     · subst hi;rw [DX s] at hp;cases hp;refine ⟨e,u,?_,?_,f hL⟩
       · rw [q2,if_pos ⟨Cy _,by simp,by omega⟩,Eg];rfl
       · rw [q2,if_pos ⟨by omega,by simp,by omega⟩,show i*2+1 - i*2=1 by omega];rfl
     · rw [Dx (Ne.symm hi)] at hp;obtain ⟨t,I,a1,a2,a4⟩:=h4 i p hp;refine ⟨t,I,?_,?_,f a4⟩
       · rw [q2,if_neg (by simp;omega)];exact a1
       · rw [q2,if_neg (by simp;omega)];exact a2
 · exact ⟨B,hB.grownR x o hg,fun _ h=>.inl h⟩
end Go.Proofs.YtpobkmjicbobdaaGreat
namespace Go.Proofs.YtpobkmjicbobdaaGreat
open Go.RowKit
set_option maxRecDepth 100000
set_option maxHeartbeats 8000000
def ft (L:List ac):Prop:=∀e ∈ L,iX e.1 e.2.2.2.1 e.2.1 e.2.2.1 e.2.2.2.2
theorem fH {k t:ByteArray} {q d n:Int} (h:iX k t q d n):dR (k,q,d,t,n):=by
 obtain ⟨h1,h2,h3,h4,h5⟩:=h;exact ⟨by unfold lO at h1;unfold maxLen;simp only;omega,h3,h4,by unfold lO at h2;unfold maxLen;simp only;omega,h5⟩
theorem fW {L:List ac} (h:ft L):∀e ∈ L,dR e:=fun e b=>fH (h e b)
theorem cC {A B:List ac} (h:ft A) (k:ft B):ft (A++B):=fun e b=>(Dd.1 b).elim (h e) (k e)
theorem bV {k t:ByteArray} {q d n:Int} (h:iX k t q d n):ft [(k,q,d,t,n)]:=fun e b=>by
 simp only [Df] at b
 subst b
 exact h
def A8 (R:Nat) (a:Option Addr) (len cap P many:Nat) (w:World) (e:Ending) (w':World):Prop :=
 ∃(g n c P':Nat) (L:List ac),e=.returned (sL g n c)∧af w' w.heap.size g n c L∧n≤many∧ft L∧aZ w' R a len cap P'∧P'≤P+1+8*many∧w.grownBy w' (some R)
theorem af.gR {w w':World} {base g n c R:Nat} {L:List ac} (h:af w base g n c L) (hg:w.grownBy w' (some R)) (hR:R<g):af w' base g n c L:=h.grown hg (fun e=>by cases e;omega)
theorem uU (R P many:Nat) (a:Option Addr) (len b:Nat) (w:World) (h:aZ w R a len b P) (K:qM a len R) (hP:P<80000) (hm:many≤100) :
 Calls Tryz.prog 230 #[.pointer (pT R),iT many] w (A8 R a len b P many w):=by
 obtain ⟨i0,hi,av,ab,ad⟩:=info_parts Tryz.infoEnt;have aN:=h.lt;have kt:Bl w (w.alloc (.cells #[] 50)):=bZ;have aa:CG (af (w.alloc (.cells #[] 50)) w.heap.size w.heap.size 0 0 []):=bI w _ (Cy _);have R0:=h.below kt;have G0:w.grownBy (w.alloc (.cells #[] 50)) (some R):=aS kt;have I:=bO K;clear kt h K;go_enter Tryz.func230,Tryz.ntmps230
 go_wp2_with fail
 refine (bX R P a len b _ _ R0 (by omega) (by omega)).mono ?_;rintro e w1 ⟨q1,rfl,T,R1,g1⟩;have a8:=T.1;have bc:q1≤many:=by have:=T.2 (by omega);omega
 obtain ⟨I0,aO⟩:=DL a8;subst aO;have ao:CG (af w1 w.heap.size w.heap.size 0 0 []):=aa.o.gR g1 aN;have ai:CG (w.grownBy w1 (some R)):=ae G0 g1;have a9:CG (aZ w1 R a len b (P+1)):=R1;clear G0 g1 R0 R1 aa T a8;go_wp2;go_loopw [5,6,7] (fun ov sv iv wr=>∃(i sq n g c O:Nat) (L:List ac),iv=iT i∧sv=iT sq∧ov=sL g n c∧i+n≤many∧sq≤2*n∧O≤P+1+8*n∧af wr w.heap.size g n c L∧ft L∧aZ wr R a len b O∧w.grownBy wr (some R)) (fun _ _ iv _=>(intOf iv).toNat)
 case atStart=>exact ⟨I0,0,0,w.heap.size,0,P+1,[],rfl,rfl,rfl,by omega,by omega,by omega,ao.o,(fun e he=>by cases he),a9.o,ai.o⟩
 case round =>
  obtain ⟨i,sq,n,g,c,O,L,rfl,rfl,rfl,br,bh,bo,hO,hF,hR,hG⟩:=hrel;have HO:CG (af wr w.heap.size g n c L):=hO;have HF:CG (ft L):=hF;have HR:CG (aZ wr R a len b O):=hR;have HG:CG (w.grownBy wr (some R)):=hG;have bl:=hO.lt;have bq:=hG.size;clear hO hF hR hG ao ai a9;by_cases aI:i=0
  · subst aI;go_wp2;go_ret;exact ⟨g,n,c,O,L,rfl,HO.o,by omega,HF.o,HR.o,by omega,HG.o⟩
  · have bj:(0:Int)<(i:Int):=by omega
    have b1:0<i:=by omega
    go_wp2_with fail
    refine (bX R O a len b _ _ HR.o (by omega) (by omega)).mono ?_;rintro e w2 ⟨q2,rfl,U,R2,g2⟩;obtain ⟨S2,a3⟩:=DL U.1;subst a3;have a3:S2≤1:=by have:=U.2 (by omega);omega
    have aw:CG (af w2 w.heap.size g n c L):=HO.o.gR g2 (by omega);have ap:CG (w.grownBy w2 (some R)):=ae HG.o g2;have aq:CG (aZ w2 R a len b (O+1)):=R2;have bd:=g2.size;clear R2 g2 U HO HG HR;go_wp2_with fail
    refine (gP R (O+1) a len b _ _ aq.o (by omega) (Dk (by omega))).mono ?_;rintro e w3 ⟨s,t,q,d,nn,Q,rfl,hE,R3,be,g3⟩;have HE:CG (iX s t q d nn):=hE;have a7:CG (af w3 w.heap.size g n c L):=aw.o.gR g3 (by omega);have ar:CG (w.grownBy w3 (some R)):=ae ap.o g3;have bm:=g3.size;obtain ⟨X,hX⟩:=aH w3.heap.size;obtain ⟨W3,r⟩:=aH (w3.alloc (.cells #[.string s,iT q,iT d,.string t,iT nn] 50));have k3:Bl w3 W3:=by rw [r];exact bZ
    have x0:W3.cell? ⟨X,0,none⟩=some (.string s):=by rw [r,hX];simp
    have x1:W3.cell? ⟨X,1,none⟩=some (iT q):=by rw [r,hX];simp
    have x2:W3.cell? ⟨X,2,none⟩=some (iT d):=by rw [r,hX];simp
    have x3:W3.cell? ⟨X,3,none⟩=some (.string t):=by rw [r,hX];simp
    have x4:W3.cell? ⟨X,4,none⟩=some (iT nn):=by rw [r,hX];simp
    have ak:CG (aZ W3 R a len b Q):=R3.below k3;have J:CG (af W3 w.heap.size g n c L):=a7.o.below k3;have N:CG (w.grownBy W3 (some R)):=ae ar.o (aS k3);have bp:R<X:=by omega
    have b7:=k3.size;clear hE R3 g3 aw ap aq a7 ar k3;go_wp2_with fail
    rw [← r,← hX];clear r hX;refine (bX R Q a len b _ _ ak.o (by omega) (by omega)).mono ?_;rintro e m ⟨q4,rfl,al,R4,F⟩;obtain ⟨S4,aE⟩:=DL al.1;subst aE;have y:X≠R:=by omega
    have Z:=Cz _ _ x0;simp only at Z;have y0:=(aj F (x:=⟨X,0,none⟩) Z y).trans x0;have y1:=(aj F (x:=⟨X,1,none⟩) Z y).trans x1;have y2:=(aj F (x:=⟨X,2,none⟩) Z y).trans x2;have y3:=(aj F (x:=⟨X,3,none⟩) Z y).trans x3;have y4:=(aj F (x:=⟨X,4,none⟩) Z y).trans x4;have aV:=Cz _ _ y0;simp only at aV;have an:CG (aZ m R a len b (Q+1)):=R4;have u:CG (af m w.heap.size g n c L):=J.o.gR F (by omega);have ay:CG (w.grownBy m (some R)):=ae N.o F;have bk:=F.size;have bs:=u.o.lt;clear x0 x1 x2 x3 x4 R4 F ak J N Z al;have E:Bl m (m.alloc (.cells #[.string s,iT q,iT d,.string t,iT nn] 50)):=bZ;by_cases aA:S4=0
    · subst aA;have ah:CG (ag (m.alloc (.cells #[.string s,iT q,iT d,.string t,iT nn] 50)) (some ⟨m.heap.size,0,none⟩) 1 1 [(s,q,d,t,nn)]):=cK m _ _ _ _ _ (fH HE.o);go_wp2_with (at_builtin;refine wpList_append_own _ rfl _ _ 28 rfl w.heap.size 50 i0 _ 5 56 Tryz.underlying28 hi av ab ad rfl (by decide) _ _ _ rfl (u.o.below E).owns ⟨m.heap.size,0,none⟩ 1 1 (aC [(s,q,d,t,nn)]) rfl rfl (bi ah.o) (aL _) (by unfold maxLen;omega) (by omega) (by have:=E.size;omega) ?_)
      intro v' H hown hgrow hnil;obtain ⟨g5,c5,rfl⟩:∃g b,v'=sL g (n+1) b:=by
       rcases hown.2 with ⟨hv,h0⟩ | ⟨g,b,aQ,hv,_⟩
       · omega
       · exact ⟨g,b,hv⟩
      have f:(m.alloc (.cells #[.string s,iT q,iT d,.string t,iT nn] 50)).grownBy H (some g):=hgrow;have a0:CG (af H w.heap.size g5 (n+1) c5 (L++[(s,q,d,t,nn)])):=⟨by rw [aJ];exact hown,by simp [u.o.len],fW (cC HF.o (bV HE.o))⟩;have W:CG (aZ H R a len b (Q+1)):=(an.o.below E).grown f I.o (fun k e=>by cases e;omega);have Y:CG (w.grownBy H (some R)):=aG (ae ay.o (aS E)) (by omega) f;clear hown hgrow f hnil ah E;go_wp2;go_roundw
      case rel=>exact ⟨i - 1,sq+1+S2,n+1,g5,c5,Q+1,L++[(s,q,d,t,nn)],by congr 1;omega,by congr 1,rfl,by omega,by omega,by omega,a0.o,cC HF.o (bV HE.o),W.o,Y.o⟩
      case measure=>simp [intOf];omega
    · have am:¬(S4:Int)=0:=by omega
      have b9:((S4:Int) == 0)=false:=by simpa using am
      have D:af (m.alloc (.cells #[.string s,iT q,iT d,.string t,iT nn] 50)) w.heap.size m.heap.size 1 1 [(s,q,d,t,nn)]:=by
       have:=Do (base:=w.heap.size) (e:=50) (size:=5) m #[.string s,iT q,iT d,.string t,iT nn] 1 (by omega) (by unfold maxLen;omega) rfl;exact ⟨by simpa [aC,bD] using this,rfl,fW (bV HE.o)⟩
      have au:CG (af (m.alloc (.cells #[.string s,iT q,iT d,.string t,iT nn] 50)) w.heap.size m.heap.size 1 1 [(s,q,d,t,nn)]):=D;clear D;go_wp2_with (at_builtin;refine wpList_append_own _ rfl _ _ 28 rfl w.heap.size 50 i0 _ 5 56 Tryz.underlying28 hi av ab ad rfl (by decide) _ _ _ rfl au.o.owns ⟨g,0,none⟩ n c (aC L) rfl (by rw [aU,u.o.len]) (bi (u.o.below E).entsAt) (aL _) (by unfold maxLen;omega) (by omega) (by have:=E.size;omega) ?_)
      intro v' H hown hgrow hnil;obtain ⟨g5,c5,rfl⟩:∃g b,v'=sL g (1+n) b:=by
       rcases hown.2 with ⟨hv,h0⟩ | ⟨g,b,aQ,hv,_⟩
       · omega
       · exact ⟨g,b,hv⟩
      have f:(m.alloc (.cells #[.string s,iT q,iT d,.string t,iT nn] 50)).grownBy H (some m.heap.size):=hgrow;have a0:CG (af H w.heap.size g5 (1+n) c5 ([(s,q,d,t,nn)]++L)):=⟨by rw [aJ];exact hown,by simp [u.o.len];omega,fW (cC (bV HE.o) HF.o)⟩;have W:CG (aZ H R a len b (Q+1)):=(an.o.below E).grown f I.o (fun k e=>by cases e;omega);have Y:CG (w.grownBy H (some R)):=aG (ae ay.o (aS E)) (by omega) f;clear hown hgrow f hnil au E;go_wp2;go_roundw
      case rel=>exact ⟨i - 1,sq+1+S2,1+n,g5,c5,Q+1,[(s,q,d,t,nn)]++L,by congr 1;omega,by congr 1,rfl,by omega,by omega,by omega,a0.o,cC (bV HE.o) HF.o,W.o,Y.o⟩
      case measure=>simp [intOf];omega
end Go.Proofs.YtpobkmjicbobdaaGreat
namespace Go.Proofs.YtpobkmjicbobdaaGreat
open Go.RowKit
set_option maxRecDepth 100000
set_option maxHeartbeats 8000000
end Go.Proofs.YtpobkmjicbobdaaGreat
namespace Go.Proofs.YtpobkmjicbobdaaGreat
open Go.RowKit
set_option maxRecDepth 100000
set_option maxHeartbeats 8000000
end Go.Proofs.YtpobkmjicbobdaaGreat
namespace Go.Proofs.YtpobkmjicbobdaaGreat
set_option maxRecDepth 100000
set_option maxHeartbeats 40000000
open Go.RowKit
theorem yD (a:Option Addr) (len m:Nat) (L:List ac) (w:World) (hL:ag w a len m L) (U:len≤1048576) :
 Calls Tryz.prog 229 #[.slice a len m] w fun e w'=>∃g c,e=.returned (sL g len c)∧af w' w.heap.size g len c (bF L)∧Bl w w':=by
 have y:CG (L.length=len):=hL.length;have a2:=hL.room;have E:=hL.big;unfold maxLen at E;have W:=bO hL;clear hL;have D:af (w.alloc (.cells #[] 50)) w.heap.size w.heap.size 0 0 (bF (L.take 0)):=bI w _ (Cy _);have Q:CG (af (w.alloc (.cells #[] 50)) w.heap.size w.heap.size 0 0 (bF (L.take 0))):=D;have F:Bl w (w.alloc (.cells #[] 50)):=bZ;clear D;go_enter Tryz.func229,Tryz.ntmps229
 go_wp2;go_loopw [3,4] (fun Z O wr=>∃(k g c:Nat),k≤len∧O=iT k∧Z=sL g k c∧af wr w.heap.size g k c (bF (L.take k))∧Bl w wr) (fun _ O _=>len - (intOf O).toNat)
 case atStart=>exact ⟨0,w.heap.size,0,C3 _,rfl,rfl,Q.o,F⟩
 case round =>
  obtain ⟨k,g,c,hk,rfl,rfl,hO,hb⟩:=hrel;have I:CG (af wr w.heap.size g k c (bF (L.take k))):=hO;clear hO;by_cases K:k<len
  · obtain ⟨b,a0,rfl,x⟩:=W.o.form (by omega);obtain ⟨s,q,d,t,n,hg,u,g0,g1,g2,g3,g4⟩:=W.o.ent hb x k K;have HG:CG (L[k]?=some (s,q,d,t,n)):=hg;have T:CG (dR (s,q,d,t,n)):=u;have a3:b<wr.heap.size:=l' x hb.size;clear hg u;go_wp2_with fail
    refine (qU g k c (bF (L.take k)) s t q d n _ I.o.entsAt I.o.lt.2 (by omega) T.o).mono ?_;rintro e Y ⟨f,c1,rfl,r,N⟩;have H:CG (af Y w.heap.size f (k+1) c1 (bF (L.take (k+1)))):=by
     show af Y w.heap.size f (k+1) c1 (bF (L.take (k+1)))
     rw [uq HG.o];exact r.mono hb.size
    clear r;go_wp2;go_roundw
    case rel=>exact ⟨k+1,f,c1,by omega,by go_num,rfl,H.o,hb.trans (N.mono hb.size)⟩
    case measure=>simp [intOf];omega
  · have J:k=len:=by omega
    subst J;go_wp2;go_ret;refine ⟨g,c,rfl,?_,hb⟩;have:=I.o;rw [C9 (by rw [y.o];omega)] at this;exact this
end Go.Proofs.YtpobkmjicbobdaaGreat
namespace Go.Proofs.YtpobkmjicbobdaaGreat
open Go.RowKit
set_option maxRecDepth 100000
def iR (w:World) (a:Option Addr) (len cap:Nat):Prop:=len≤cap∧cap≤maxLen∧(len=0∨∃b off,a=some ⟨b,off,none⟩∧b<w.heap.size∧∀i,i<len→∃z:Nat,z≤255∧w.cell? ⟨b,off+i,none⟩=some (.int .u8 z))
theorem iR.keep {w w':World} {a:Option Addr} {len cap:Nat} (h:iR w a len cap) (hb:Bl w w'):iR w' a len cap:=by
 obtain ⟨h1,h2,h3⟩:=h;refine ⟨h1,h2,?_⟩;rcases h3 with e | ⟨b,m,ha,d,hc⟩
 · exact Or.inl e
 · exact Or.inr ⟨b,m,ha,l' d hb.size,fun i hi=>by obtain ⟨z,hz,f⟩:=hc i hi;exact ⟨z,hz,cell_later hb f⟩⟩
end Go.Proofs.YtpobkmjicbobdaaGreat
namespace Go.Proofs.YtpobkmjicbobdaaGreat
set_option maxRecDepth 100000
open Go.RowKit Go.Joins Go.ChangeShapes Go.WideShapes Go.ChangeAt
theorem Tryz.cellsU8:Tryz.prog.cellsOf 5=1:=by kernel_rfl
theorem om {H:Type} {enc:TypeId × Value→H} {W:World} {F base:Nat} {v:Value} {d:DataW H} {p:List MemPlace} {held:Bool}
 (hv:Value.okWide Tryz.prog W .any F 38 v) (h:DataW.Trod enc Tryz.prog W base (fun _=>true) held 38 v d p) :
 ∃(a:Option Addr) (len cap:Nat),v=.slice a len cap∧iR W a len cap:=by
 obtain ⟨a1,len,cap,rfl⟩:=okWide_slice Tryz.underlying38 hv;obtain ⟨D,hf⟩:=h;rcases Go.ChangeShapes.open_ints Tryz.underlying38 Tryz.underlying5 Tryz.cellsU8 hf with ⟨f,hx⟩ | ⟨a,x,y,zs,f,_,hl,hm,hz,hx,b,s⟩
 · simp [Value.cells] at f;obtain ⟨rfl,rfl,rfl⟩:=f;exact ⟨none,0,0,rfl,Cy _,C3 _,Or.inl rfl⟩
 · simp [Value.cells] at f;obtain ⟨rfl,rfl,rfl⟩:=f;simp only [if_true] at hz;refine ⟨some a,len,cap,rfl,hl,hm,?_⟩;by_cases h0:len=0
   · exact Or.inl h0
   right
   obtain ⟨I,E,o⟩:=a;have m:o=none:=by simpa [Addr.add] using World.cell?_spot (b 0 (by omega))
   subst m;refine ⟨I,E,rfl,?_,fun i hi=>?_⟩
   · have:=Cz _ _ (b 0 (by omega));simpa [Addr.add] using this
   · have hc:=b i (by omega);rw [Addr.add_lit] at hc;have t:zs.getD i 0 ∈ zs:=by
      have r:i<zs.length:=by omega
      rw [List.getD_eq_getElem?_getD,j' r];exact Dq r
     have hb:=bounds_u8 (s _ t);obtain ⟨z,u⟩:=DL hb.1;rw [u] at hc hb;exact ⟨z,by omega,hc⟩
end Go.Proofs.YtpobkmjicbobdaaGreat
