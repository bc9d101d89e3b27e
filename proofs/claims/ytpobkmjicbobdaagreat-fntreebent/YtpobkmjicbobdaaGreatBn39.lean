/- Walks. -/
import Derived.Test.YtpobkmjicbobdaaGreatBn38
import Derived.ChangeSlices
namespace Go.Proofs.YtpobkmjicbobdaaGreat
set_option maxRecDepth 100000
set_option maxHeartbeats 40000000
open Go.RowKit
variable {A B C:List ag} {G R X base c1 c3 d0 d1 d2 e g g1 g3 lo n n0 n1 n2 nm ns s0 s1 s2 size:Nat} {L M:List ac} {S:List Int} {V:List (List ag)} {v:Value} {w w':World} {xs:List Value}
def iV (R:Nat) (w w':World):Prop:=w.heap.size≤w'.heap.size∧∀b,b<w.heap.size→b≠R→¬an w b 31 4→w'.heap[b]?=w.heap[b]?
theorem iV.refl (R:Nat) (w:World):iV R w w:=⟨Nat.le_refl _,fun _ _ _ _=>rfl⟩
theorem iV.trans {a b c:World} (h:iV R a b) (k:iV R b c):iV R a c :=
 ⟨Nat.le_trans h.1 k.1,fun i hi hR hn=>(k.2 i (Nat.lt_of_lt_of_le hi h.1) hR (fun hB=>hn (hB.same (h.2 i hi hR hn).symm))).trans (h.2 i hi hR hn)⟩
theorem iV.grown (h:w.grownBy w' (some R)):iV R w w':=⟨h.size,fun b hb hR _=>h.block b hb (fun e=>hR (Option.some.inj e))⟩
theorem iV.below (h:Bl w w'):iV R w w':=⟨h.size,fun b hb _ _=>h.block b hb⟩
theorem iV.set (h:an w X 31 4) (o:Nat) (u:Value):iV R w (w.setCell ⟨X,o,none⟩ u):=⟨by simp [World.setCell],fun b _ _ hn=>Below.heap_setCell _ _ _ _ (fun e=>by subst e;exact hn h)⟩
theorem iV.four (h:an w X 31 4) (u0 u1 u2 u3:Value):iV R w ((((w.setCell ⟨X,0,none⟩ u0).setCell ⟨X,1,none⟩ u1).setCell ⟨X,2,none⟩ u2).setCell ⟨X,3,none⟩ u3) :=
 (((iV.set h 0 u0).trans (iV.set (h.setCell _) 1 u1)).trans (iV.set ((h.setCell _).setCell _) 2 u2)).trans (iV.set (((h.setCell _).setCell _).setCell _) 3 u3)
theorem iV.keep {T sz:Nat} (k:iV R w w') (hg:an w g T sz) (hT:T≠31) (hR:R<g):w'.heap[g]?=w.heap[g]?:=k.2 g hg.lt (by omega) (fun h=>hT (hg.kind h))
theorem yK {m c:Nat} (h:w.ownsRow base e size (sL g m c) n xs) (hb:w'.heap[g]?=w.heap[g]?):w'.ownsRow base e size (sL g m c) n xs:=by
 refine ⟨h.1,?_⟩;rcases h.2 with ⟨h',_⟩ | ⟨g',cap,cur,h',q1,q2,q3⟩
 · simp at h'
 · have e:g=g':=by simp only [Value.slice.injEq,Option.some.injEq,Addr.mk.injEq,and_true] at h';exact h'.1
   subst e;exact .inr ⟨g,cap,cur,h',q1,hb.trans q2,q3⟩
theorem jb {m c:Nat} (h:w.ownsRow base e size (sL g m c) n xs) (he:e≠31) (hR:R<base) (k:iV R w w'):w'.ownsRow base e size (sL g m c) n xs:=by
 obtain ⟨sz,kb⟩:=aJ h;exact yK h (k.keep kb he (Nat.lt_of_lt_of_le hR (h.lt g rfl).1))
theorem ay.kp {c:Nat} (h:ay w base g n c L) (hR:R<base) (k:iV R w w'):ay w' base g n c L:=⟨jb h.owns (by decide) hR k,h.len,h.ents⟩
theorem aZ.kp {c:Nat} (h:aZ base w g n c B) (hR:R<base) (k:iV R w w'):aZ base w' g n c B:=by
 obtain ⟨h1,h2,xs,h3,h4⟩:=h;exact ⟨h1,h2,xs,jb h3 (by decide) hR k,fun i p hp=>by obtain ⟨e,d,a1,a2,a3⟩:=h4 i p hp;exact ⟨e,d,a1,a2,a3.kp hR k⟩⟩
def x9 (R:Nat) (w:World) (a:Option Addr) (n c:Nat) (B:List ag):Prop:=∀w',iV R w w'→az 0 w' a n c B
theorem aZ.lvQ {c:Nat} (h:aZ base w g n c B) (hR:R<base):x9 R w (pT g) n c B:=fun _ k=>(h.kp hR k).runsIn.mono (Nat.zero_le _)
theorem x9.kp {a:Option Addr} {c:Nat} (h:x9 R w a n c B) (k:iV R w w'):x9 R w' a n c B:=fun w2 k2=>h w2 (k.trans k2)
def rW (w:World) (av:Option Addr) (V:List (List ag)):Prop:=∀(i:Nat) (B:List ag),V[i]?=some B→∃b e n c,av=some ⟨b,0,none⟩∧w.cell? ⟨b,i,none⟩=some (sL e n c)
theorem oH {c:Nat} (hr:w.ownsRow base 61 1 (sL G 3 c) 3 [sL s0 n0 d0,sL s1 n1 d1,sL s2 n2 d2]) (hV:V.length≤3):rW w (pT G) V:=fun i B hB=>by
 have hi:=(List.getElem?_eq_some_iff.1 hB).1
 rcases (by omega:i=0∨i=1∨i=2) with rfl | rfl | rfl
 · exact ⟨G,_,_,_,rfl,hr.cellAt 0 (by omega)⟩
 · exact ⟨G,_,_,_,rfl,hr.cellAt 1 (by omega)⟩
 · exact ⟨G,_,_,_,rfl,hr.cellAt 2 (by omega)⟩
def z6 (R:Nat) (w:World) (am:Option Addr) (nm cm:Nat) (av:Option Addr) (nv cv:Nat) (ak:Option Addr) (ns cs:Nat) (M:List ac) (V:List (List ag)) (S:List Int):Prop:=∀w',iV R w w'→bf 0 w' am nm cm av nv cv ak ns cs M V S∧rW w' av V
theorem z6.kp {am:Option Addr} {cm:Nat} {av:Option Addr} {nv cv:Nat} {ak:Option Addr} {cs:Nat} (h:z6 R w am nm cm av nv cv ak ns cs M V S) (k:iV R w w'):z6 R w' am nm cm av nv cv ak ns cs M V S:=fun w2 k2=>h w2 (k.trans k2)
theorem jc {c:Nat} (hm:ay w base g1 nm c1 M) (hrow:w.ownsRow base 61 1 (sL G 3 c) 3 [sL s0 n0 d0,sL s1 n1 d1,sL s2 n2 d2]) (h0:x9 R w (pT s0) n0 d0 A) (h1:x9 R w (pT s1) n1 d1 B) (h2:x9 R w (pT s2) n2 d2 C)
 (hsn:w.ownsRow base 3 1 (sL g3 ns c3) ns (S.map iT)) (hsl:S.length=ns) (hsw:∀z ∈ S,(Lit.int .i64 z).wf=true) (hR:R<base):z6 R w (pT g1) nm c1 (pT G) 3 c (pT g3) ns c3 M [A,B,C] S:=fun w' k=>by
 have hr:=jb hrow (by decide) hR k
 have hc:=cj hr
 exact ⟨⟨⟨(hm.kp hR k).entsAt,fun _ _ _=>Nat.zero_le _⟩,jd hc.1 hc.2 (hr.cellAt 0 (by omega)) (hr.cellAt 1 (by omega)) (hr.cellAt 2 (by omega)) (h0 w' k) (h1 w' k) (h2 w' k),(eH (jb hsn (by decide) hR k) hsl hsw).lower (Nat.zero_le _)⟩,oH hr (by simp)⟩
theorem Am {c:Nat} (hm:ay w base g1 nm c1 M) (hrow:w.ownsRow base 61 1 (sL G 3 c) 3 [sL s0 n0 d0,sL s1 n1 d1,sL s2 n2 d2]) (h0:x9 R w (pT s0) n0 d0 A) (h1:x9 R w (pT s1) n1 d1 B) (h2:x9 R w (pT s2) n2 d2 C)
 (hsn:w.ownsRow base 3 1 (sL g3 ns c3) ns (S.map iT)) (hsl:S.length=ns) (hsw:∀z ∈ S,(Lit.int .i64 z).wf=true) (hR:R<base):z6 R w (pT g1) nm c1 (pT G) 2 c (pT g3) ns c3 M [A,B] S:=fun w' k=>by
 have h:=(jc hm hrow h0 h1 h2 hsn hsl hsw hR w' k).1
 refine ⟨⟨h.mem,⟨rfl,by have:=h.levels.room;omega,h.levels.big,(fun e=>by cases e),fun x e _=>h.levels.lies x e (by omega),fun x e i hi=>?_⟩,h.snaps⟩,oH (jb hrow (by decide) hR k) (by simp)⟩
 have hi2:i<2:=hi
 rcases (by omega:i=0∨i=1) with rfl | rfl
 · exact h.levels.levels x e 0 (by show 0<3;omega)
 · exact h.levels.levels x e 1 (by show 1<3;omega)
def fw (lo R:Nat) (w:World) (v:Value):Prop:=cw lo w v∨∃q am nm cm av nv cv ak ns cs M V S,v=.agg #[iT q,.slice am nm cm,.slice av nv cv,.slice ak ns cs]∧(Lit.int .i64 q).wf=true∧z6 R w am nm cm av nv cv ak ns cs M V S∧ns≤100
theorem fw.below (h:fw lo R w v) (hb:Bl w w'):fw lo R w' v:=by
 rcases h with h | ⟨q,am,nm,cm,av,nv,cv,ak,ns,cs,M,V,S,e,hq,h,hns⟩
 · exact .inl (h.below hb)
 · exact .inr ⟨q,am,nm,cm,av,nv,cv,ak,ns,cs,M,V,S,e,hq,h.kp (iV.below hb),hns⟩
theorem fw.read {len cap P:Nat} {ab:Option Addr} (h:fw lo R w v) (hR:aW w R ab len cap P) (hl:R<lo) (hg:w.grownBy w' (some R)):fw lo R w' v:=by
 rcases h with h | ⟨q,am,nm,cm,av,nv,cv,ak,ns,cs,M,V,S,e,hq,h,hns⟩
 · exact .inl (h.read hR hl hg)
 · exact .inr ⟨q,am,nm,cm,av,nv,cv,ak,ns,cs,M,V,S,e,hq,h.kp (iV.grown hg),hns⟩
theorem fw.four {q z:Int} {a1 a2 a3 b1 b2 b3:Option Addr} {m1 k1 m2 k2 m3 k3 m4 k4 m5 k5 m6 k6:Nat} (h:fw lo R w v) (hk:an w X 31 4) (hX:ar w X (iT z) (.slice b1 m4 k4) (.slice b2 m5 k5) (.slice b3 m6 k6)):fw lo R ((((w.setCell ⟨X,0,none⟩ (iT q)).setCell ⟨X,1,none⟩ (.slice a1 m1 k1)).setCell ⟨X,2,none⟩ (.slice a2 m2 k2)).setCell ⟨X,3,none⟩ (.slice a3 m3 k3)) v:=by
 rcases h with h | ⟨q,am,nm,cm,av,nv,cv,ak,ns,cs,M,V,S,e,hq,h,hns⟩
 · exact .inl (h.four hk hX)
 · exact .inr ⟨q,am,nm,cm,av,nv,cv,ak,ns,cs,M,V,S,e,hq,h.kp (iV.four hk _ _ _ _),hns⟩
theorem fw.val (h:fw lo R w v):BI v:=by
 rcases h with h | ⟨q,am,nm,cm,av,nv,cv,ak,ns,cs,M,V,S,rfl,hq,h,hns⟩
 · exact h.val
 · exact ⟨_,_,_,_,_,_,_,_,_,_,rfl⟩
theorem fw.treeIn (h:fw lo R w v):∃q am nm cm av nv cv ak ns cs M V S,v=.agg #[iT q,.slice am nm cm,.slice av nv cv,.slice ak ns cs]∧(Lit.int .i64 q).wf=true∧bf 0 w am nm cm av nv cv ak ns cs M V S∧rW w av V∧ns≤100:=by
 rcases h with h | ⟨q,am,nm,cm,av,nv,cv,ak,ns,cs,M,V,S,rfl,hq,h,hns⟩
 · obtain ⟨q,am,nm,cm,G,c,ak,ns,cs,gA,dA,e1,n1,d1,e2,n2,d2,M,A,B,C,S,rfl,hT,htb⟩:=h;have hq:=bh htb;exact ⟨q,am,nm,cm,_,3,c,ak,ns,cs,M,_,S,rfl,WalkArith.wf_i64 (by omega),hT.treeIn,oH hT.row (by simp),by have h1:=hT.treeIn.snaps.length;have h2:=(fo.1 hq.2.2.2.2.2.2.1).1;omega⟩
 · exact ⟨q,am,nm,cm,av,nv,cv,ak,ns,cs,M,V,S,rfl,hq,(h _ (iV.refl _ _)).1,(h _ (iV.refl _ _)).2,hns⟩
theorem yS {α:Type} (c news:List α) (K T j:Nat) (hK:K+news.length≤c.length):((c.take K++news++c.drop (K+news.length)).take T)[j]?=if K≤j∧j<K+news.length∧j<(c.take T).length then news[j - K]? else (c.take T)[j]?:=by
 by_cases hj:j<T
 · rw [List.getElem?_take,if_pos hj,List.getElem?_take,if_pos hj];by_cases h1:j<K
   · rw [if_neg (by omega),List.append_assoc,List.getElem?_append_left (by rw [List.length_take];omega),List.getElem?_take,if_pos h1]
   · by_cases h2:j<K+news.length
     · rw [if_pos ⟨by omega,h2,by rw [List.length_take];omega⟩,List.append_assoc,List.getElem?_append_right (by rw [List.length_take];omega),List.getElem?_append_left (by rw [List.length_take];omega),List.length_take];congr 1
       omega
     · rw [if_neg (by omega),List.getElem?_append_right (by rw [List.length_append,List.length_take];omega),List.getElem?_drop,List.length_append,List.length_take];congr 1
       omega
 · rw [List.getElem?_take,if_neg hj,if_neg (by rw [List.length_take];omega),List.getElem?_take,if_neg hj]
def AL (w w':World) (g k:Nat) (news:List Value):Prop :=
 ∀(base' e' size' n2 c2:Nat) (ys:List Value),w.ownsRow base' e' size' (sL g n2 c2) n2 ys→∃ys',w'.ownsRow base' e' size' (sL g n2 c2) n2 ys'∧∀j,ys'[j]?=if k≤j∧j<k+news.length∧j<ys.length then news[j - k]? else ys[j]?
def Ae (w w':World) (g g' k:Nat) (news:List Value):Prop:=(g'=w.heap.size∧Bl w w')∨(g'=g∧AL w w' g k news)
theorem pU {P:Program} (w:World) (base:Nat) (t ty e:TypeId) (i:TypeInfo) (z:Value) (size bytes:Nat) (ht:P.underlying t=some (.slice e)) (hi:P.info? e=some i) (hz:i.zero=some z)
 (hsize:i.size=size) (hby:i.bytes=bytes) (hzs:z.cells.size=size) (hsz:0<size)
 (g n c0:Nat) (xs:List Value) (hown:w.ownsRow base e size (sL g n c0) n xs)
 (a:Addr) (m c:Nat) (news:List Value) (hl:news.length=m*size) (hnews:∀j u,news[j]?=some u→w.cell? (a.add j)=some u) (h1:∀u ∈ news,u.oneCell'=true)
 (h63:n+m≤maxLen) (hbytes:(n+m)*bytes≤140737488355328) (hbase:base≤w.heap.size) :
 ∃g' c' w',(Builtin.append_ #[t,t] ty #[sL g n c0,.slice (some a) m c]).run P w=.ok (sL g' (n+m) c') w'∧w'.ownsRow base e size (sL g' (n+m) c') (n+m) (xs++news)∧w.grownBy w' (some g)∧Ae w w' g g' (n*size) news:=by
 subst hsize;subst hby
 have hsmall:n+m≤9223372036854775807:=by simp only [maxLen] at h63;omega
 have hlen:(xs++news).length=(n+m)*i.size:=by rw [List.length_append,hown.1,hl,Nat.add_mul]
 have holds:∀j u,xs[j]?=some u→w.cell? ((⟨g,0,none⟩:Addr).add j)=some u:=hown.cells (g:=g) rfl;have hx:=hown.1;rcases hown.2 with ⟨h,_⟩ | ⟨g0,cap,cur,hv,hbg,hg,hnc,hcm,hcs,htake⟩
 · cases h
 · cases hv;by_cases hroom:n+m≤c0
   · have hfit:n*i.size+news.length≤cur.size:=by rw [hl,hcs,← Nat.add_mul];exact Nat.mul_le_mul_right _ hroom
     have hr:=run_append_room (P:=P) w t ty e i ht hi g n c0 cur hg a m c news hl hnews h1 hroom hfit;refine ⟨g,c0,_,hr,⟨hlen,.inr ⟨g,c0,_,rfl,hbg,setRow_heap w g cur _ e _ hg,hroom,hcm,?_,?_⟩⟩,⟨rfl,rfl,rfl,by simp,fun k _ hk=>setRow_other w g k _ (fun e=>hk (by rw [e]))⟩,.inr ⟨rfl,?_⟩⟩
     · simp only [List.size_toArray,List.length_append,List.length_take,List.length_drop,Array.length_toList];omega
     · rw [htake,← hlen];exact List.take_left
     · intro base' e' size' n2 c2 ys ho;have hyl:=ho.1;rcases ho.2 with ⟨h,_⟩ | ⟨g1,cap1,cur1,hv1,hb1,hg1,hn1,hm1,hs1,ht1⟩
       · cases h
       · cases hv1;rw [hg] at hg1;cases hg1;have hK:n*i.size+news.length≤cur.toList.length:=by rw [Array.length_toList];exact hfit
         refine ⟨(cur.toList.take (n*i.size)++news++cur.toList.drop (n*i.size+news.length)).take (n2*size'),⟨?_,.inr ⟨g,c2,_,rfl,hb1,setRow_heap w g cur _ e _ hg,hn1,hm1,?_,rfl⟩⟩,fun j=>?_⟩
         · have h2:n2*size'≤c2*size':=Nat.mul_le_mul_right _ hn1;simp only [List.length_append,List.length_take,List.length_drop,Array.length_toList];omega
         · simp only [List.size_toArray,List.length_append,List.length_take,List.length_drop,Array.length_toList];omega
         · rw [yS _ _ _ _ _ hK,ht1]
   · have hr:=run_append_grow (P:=P) w t ty e i z ht hi hz ⟨g,0,none⟩ n c0 xs hown.1 holds a m c news hl hnews (by omega) (by omega) (growslice_fits (by omega) hbytes);have hge:=grownCap_ge w (n+m) c0 e;have hcm':grownCap w (n+m) c0 e≤maxLen:=grownCap_le_maxLen w (n+m) c0 e h63;refine ⟨_,_,_,hr,⟨hlen,.inr ⟨w.heap.size,_,_,rfl,hbase,heap_alloc_new w.drew _,hge,hcm',?_,?_⟩⟩,⟨rfl,rfl,rfl,by simp,fun k hk _=>(by first | exact heap_alloc_old w.drew _ k hk | exact heap_alloc_old w.drew _ hk)⟩,.inl ⟨rfl,?_⟩⟩
     · simp only [Array.size_append,List.size_toArray,size_zeroCells,hzs,hown.1,hl,← Nat.add_mul];congr 1
       omega
     · simp only [Array.toList_append,List.append_assoc];rw [← List.append_assoc,← hlen];exact List.take_left
     · exact (Below.refl _ w).drew.alloc (Nat.le_refl _) _
theorem fd {P:Program} {ops:Array Oper} {o:Oper} {a:Act} {w:World} {K:Act→World→Prop} {Q:Exit→Act→World→Prop} {E:Prop}
 (hg:o.guard=none) (s x:Operand) (t:TypeId) (hop:o.op=Op.call { callee:=Callee.builtin Builtin.append,args:=#[s,x],argTypes:=#[t,t] })
 (base:Nat) (e:TypeId) (i:TypeInfo) (z:Value) (size bytes:Nat) (h1:P.underlying t=some (.slice e)) (h2:P.info? e=some i) (h3:i.zero=some z) (h4:i.size=size) (h5:i.bytes=bytes) (h6:z.cells.size=size) (h7:0<size)
 (g n c0:Nat) (olds:List Value) (hs:a.eval s=sL g n c0) (hown:w.ownsRow base e size (sL g n c0) n olds)
 (ad:Addr) (m c:Nat) (news:List Value) (hx:a.eval x=.slice (some ad) m c) (hn:news.length=m*size) (hc:∀j u,news[j]?=some u→w.cell? (ad.add j)=some u) (h1c:∀u ∈ news,u.oneCell'=true)
 (b1:n+m≤maxLen) (b2:(n+m)*bytes≤140737488355328) (b3:base≤w.heap.size)
 (hK:∀g' c' w',w'.ownsRow base e size (sL g' (n+m) c') (n+m) (olds++news)→w.grownBy w' (some g)→Ae w w' g g' (n*size) news→K (a.put o.dst (sL g' (n+m) c')) w') :
 if Region.wanted o (yielded ops a.tmps)=true then Oper.wp P o a w K Q else E:=by
 have hw:Region.wanted o (yielded ops a.tmps)=true:=by simp [Region.wanted,hg]
 rw [if_pos hw];obtain ⟨g',c',w',hrun,r1,r2,r3⟩:=pU (P:=P) w base t o.type e i z size bytes h1 h2 h3 h4 h5 h6 h7 g n c0 olds hown ad m c news hn hc h1c b1 b2 b3;unfold Oper.wp;simp [execOp,hop,resolve,invoke,builtin,hs,hx,hrun,Result.andThen];exact hK g' c' w' r1 r2 r3
theorem aZ.beside {b g' h d dd:Nat} {m:Int} (hB:aZ b w h n d B) (hA:aZ b w g n0 d0 A) (hg:w.grownBy w' (some g)) (hat:Ae w w' g g' (n0*2) [sL e L.length dd,iT m]) (hL:ay w b e L.length dd L) (hm:(Lit.int .i64 m).wf=true):∃B',aZ b w' h n d B':=by
 rcases hat with ⟨_,hb⟩ | ⟨rfl,ho⟩
 · exact ⟨B,hB.below hb⟩
 obtain ⟨_,_,xsA,a3,_⟩:=hA;obtain ⟨sA,kA⟩:=aJ a3;by_cases hne:h=g'
 · subst hne;obtain ⟨h1,h2,xs,h3,h4⟩:=hB;obtain ⟨ys,q1,q2⟩:=ho _ _ _ _ _ _ h3;have hxl:=h3.1;have hent:∀{e d:Nat} {L:List ac},ay w b e L.length d L→ay w' b e L.length d L:=fun {e d L} hO=>by
    obtain ⟨s4,k4⟩:=aJ hO.owns;refine hO.grown hg (fun e'=>?_);have e'':e=h:=Option.some.inj e';subst e'';exact absurd (kA.kind k4) (by decide)
   refine ⟨B.set n0 (L,m),by rw [List.length_set];exact h1,fun p hp=>?_,ys,q1,fun i p hp=>?_⟩
   · rcases List.mem_or_eq_of_mem_set hp with h | h
     · exact h2 p h
     · rw [h];exact hm
   · have hil:i<B.length:=by have:=(List.getElem?_eq_some_iff.1 hp).1;rwa [List.length_set] at this
     by_cases hi:i=n0
     · subst hi;rw [List.getElem?_set_self hil] at hp;cases hp;refine ⟨e,dd,?_,?_,hent hL⟩
       · rw [q2,if_pos ⟨Nat.le_refl _,by simp,by omega⟩,Nat.sub_self];rfl
       · rw [q2,if_pos ⟨by omega,by simp,by omega⟩,show i*2+1 - i*2=1 by omega];rfl
     · rw [List.getElem?_set_ne (Ne.symm hi)] at hp;obtain ⟨e',d',a1,a2,a4⟩:=h4 i p hp;refine ⟨e',d',?_,?_,hent a4⟩
       · rw [q2,if_neg (by simp;omega)];exact a1
       · rw [q2,if_neg (by simp;omega)];exact a2
 · exact ⟨B,hB.grownR kA hne hg⟩
end Go.Proofs.YtpobkmjicbobdaaGreat
namespace Go.Proofs.YtpobkmjicbobdaaGreat
open Go.RowKit
set_option maxRecDepth 100000
set_option maxHeartbeats 8000000
def fk (L:List ac):Prop:=∀e ∈ L,iO e.1 e.2.2.2.1 e.2.1 e.2.2.1 e.2.2.2.2
theorem ft {k t:ByteArray} {q d n:Int} (h:iO k t q d n):ec (k,q,d,t,n):=by
 obtain ⟨h1,h2,h3,h4,h5⟩:=h;exact ⟨by unfold lI at h1;unfold maxLen;simp only;omega,h3,h4,by unfold lI at h2;unfold maxLen;simp only;omega,h5⟩
theorem fN {L:List ac} (h:fk L):∀e ∈ L,ec e:=fun e he=>ft (h e he)
theorem cH {A B:List ac} (h:fk A) (k:fk B):fk (A++B):=fun e he=>(List.mem_append.1 he).elim (h e) (k e)
theorem ch {k t:ByteArray} {q d n:Int} (h:iO k t q d n):fk [(k,q,d,t,n)]:=fun e he=>by
 simp only [List.mem_singleton] at he
 subst he
 exact h
def AX (R:Nat) (a:Option Addr) (len cap P many:Nat) (w:World) (e:Ending) (w':World):Prop :=
 ∃(g n c P':Nat) (L:List ac),e=.returned (sL g n c)∧ay w' w.heap.size g n c L∧n≤many∧fk L∧aW w' R a len cap P'∧P'≤P+1+8*many∧w.grownBy w' (some R)
theorem ay.gR {w w':World} {base g n c R:Nat} {L:List ac} (h:ay w base g n c L) (hg:w.grownBy w' (some R)) (hR:R<g):ay w' base g n c L:=h.grown hg (fun e=>by cases e;omega)
theorem uL (R P many:Nat) (a:Option Addr) (len cap:Nat) (w:World) (h:aW w R a len cap P) (hlow:pK a len R) (hP:P<80000) (hm:many≤100) :
 Calls Tryz.prog 230 #[.pointer (pT R),iT many] w (AX R a len cap P many w):=by
 obtain ⟨i0,hi,hz0,hz1,hz2⟩:=info_parts Tryz.infoEnt;have hRw:=h.lt;have kt:Bl w (w.alloc (.cells #[] 50)):=bZ;have HO0:Hid (ay (w.alloc (.cells #[] 50)) w.heap.size w.heap.size 0 0 []):=bQ w _ (Nat.le_refl _);have R0:=h.below kt;have G0:w.grownBy (w.alloc (.cells #[] 50)) (some R):=aL kt;have HLOW:=b6 hlow;clear kt h hlow;go_enter Tryz.func230,Tryz.ntmps230
 go_wp2_with fail
 refine (cF R P a len cap _ _ R0 (by omega) (by omega)).mono ?_;rintro e w1 ⟨q1,rfl,hq1,R1,g1⟩;have hq0:=hq1.1;have hqm:q1≤many:=by have:=hq1.2 (by omega);omega
 obtain ⟨I0,hI0⟩:=Int.eq_ofNat_of_zero_le hq0;subst hI0;have HO1:Hid (ay w1 w.heap.size w.heap.size 0 0 []):=HO0.out.gR g1 hRw;have HG1:Hid (w.grownBy w1 (some R)):=ae G0 g1;have HR1:Hid (aW w1 R a len cap (P+1)):=R1;clear G0 g1 R0 R1 HO0 hq1 hq0;go_wp2;go_loopw [5,6,7] (fun ov sv iv wr=>∃(i sq n g c P':Nat) (L:List ac),iv=iT i∧sv=iT sq∧ov=sL g n c∧i+n≤many∧sq≤2*n∧P'≤P+1+8*n∧ay wr w.heap.size g n c L∧fk L∧aW wr R a len cap P'∧w.grownBy wr (some R)) (fun _ _ iv _=>(intOf iv).toNat)
 case atStart=>exact ⟨I0,0,0,w.heap.size,0,P+1,[],rfl,rfl,rfl,by omega,by omega,by omega,HO1.out,(fun e he=>by cases he),HR1.out,HG1.out⟩
 case round =>
  obtain ⟨i,sq,n,g,c,P',L,rfl,rfl,rfl,hin,hsq,hP',hO,hF,hR,hG⟩:=hrel;have HO:Hid (ay wr w.heap.size g n c L):=hO;have HF:Hid (fk L):=hF;have HR:Hid (aW wr R a len cap P'):=hR;have HG:Hid (w.grownBy wr (some R)):=hG;have hgr:=hO.lt;have hwr:=hG.size;clear hO hF hR hG HO1 HG1 HR1;by_cases hi0:i=0
  · subst hi0;go_wp2;go_ret;exact ⟨g,n,c,P',L,rfl,HO.out,by omega,HF.out,HR.out,by omega,HG.out⟩
  · have hip:(0:Int)<(i:Int):=by omega
    have hipN:0<i:=by omega
    go_wp2_with fail
    refine (cF R P' a len cap _ _ HR.out (by omega) (by omega)).mono ?_;rintro e w2 ⟨q2,rfl,hq2,R2,g2⟩;obtain ⟨S2,hS2⟩:=Int.eq_ofNat_of_zero_le hq2.1;subst hS2;have hS2:S2≤1:=by have:=hq2.2 (by omega);omega
    have HO2:Hid (ay w2 w.heap.size g n c L):=HO.out.gR g2 (by omega);have HG2:Hid (w.grownBy w2 (some R)):=ae HG.out g2;have HR2:Hid (aW w2 R a len cap (P'+1)):=R2;have hs2:=g2.size;clear R2 g2 hq2 HO HG HR;go_wp2_with fail
    refine (gP R (P'+1) a len cap _ _ HR2.out (by omega) (WalkArith.wf_i64 (by omega))).mono ?_;rintro e w3 ⟨s,t,q,d,nn,P3,rfl,hE,R3,hP3,g3⟩;have HE:Hid (iO s t q d nn):=hE;have HO3:Hid (ay w3 w.heap.size g n c L):=HO2.out.gR g3 (by omega);have HG3:Hid (w.grownBy w3 (some R)):=ae HG2.out g3;have hs3:=g3.size;obtain ⟨X,hX⟩:=aS w3.heap.size;obtain ⟨W3,hW3⟩:=aS (w3.alloc (.cells #[.string s,iT q,iT d,.string t,iT nn] 50));have k3:Bl w3 W3:=by rw [hW3];exact bZ
    have x0:W3.cell? ⟨X,0,none⟩=some (.string s):=by rw [hW3,hX];simp
    have x1:W3.cell? ⟨X,1,none⟩=some (iT q):=by rw [hW3,hX];simp
    have x2:W3.cell? ⟨X,2,none⟩=some (iT d):=by rw [hW3,hX];simp
    have x3:W3.cell? ⟨X,3,none⟩=some (.string t):=by rw [hW3,hX];simp
    have x4:W3.cell? ⟨X,4,none⟩=some (iT nn):=by rw [hW3,hX];simp
    have HR3:Hid (aW W3 R a len cap P3):=R3.below k3;have HO3':Hid (ay W3 w.heap.size g n c L):=HO3.out.below k3;have HG3':Hid (w.grownBy W3 (some R)):=ae HG3.out (aL k3);have hRX:R<X:=by omega
    have hs3':=k3.size;clear hE R3 g3 HO2 HG2 HR2 HO3 HG3 k3;go_wp2_with fail
    rw [← hW3,← hX];clear hW3 hX;refine (cF R P3 a len cap _ _ HR3.out (by omega) (by omega)).mono ?_;rintro e w4 ⟨q4,rfl,hq4,R4,g4⟩;obtain ⟨S4,hS4⟩:=Int.eq_ofNat_of_zero_le hq4.1;subst hS4;have nXR:X≠R:=by omega
    have zX:=World.block_lt_of_cell? _ _ x0;simp only at zX;have y0:=(ah g4 (x:=⟨X,0,none⟩) zX nXR).trans x0;have y1:=(ah g4 (x:=⟨X,1,none⟩) zX nXR).trans x1;have y2:=(ah g4 (x:=⟨X,2,none⟩) zX nXR).trans x2;have y3:=(ah g4 (x:=⟨X,3,none⟩) zX nXR).trans x3;have y4:=(ah g4 (x:=⟨X,4,none⟩) zX nXR).trans x4;have zX4:=World.block_lt_of_cell? _ _ y0;simp only at zX4;have HR4:Hid (aW w4 R a len cap (P3+1)):=R4;have HO4:Hid (ay w4 w.heap.size g n c L):=HO3'.out.gR g4 (by omega);have HG4:Hid (w.grownBy w4 (some R)):=ae HG3'.out g4;have hs4:=g4.size;have hg4:=HO4.out.lt;clear x0 x1 x2 x3 x4 R4 g4 HR3 HO3' HG3' zX hq4;have k5:Bl w4 (w4.alloc (.cells #[.string s,iT q,iT d,.string t,iT nn] 50)):=bZ;by_cases hS0:S4=0
    · subst hS0;have HRN:Hid (aj (w4.alloc (.cells #[.string s,iT q,iT d,.string t,iT nn] 50)) (some ⟨w4.heap.size,0,none⟩) 1 1 [(s,q,d,t,nn)]):=dF w4 _ _ _ _ _ (ft HE.out);go_wp2_with (at_builtin;refine wpList_append_own _ rfl _ _ 28 rfl w.heap.size 50 i0 _ 5 56 Tryz.underlying28 hi hz0 hz1 hz2 rfl (by decide) _ _ _ rfl (HO4.out.below k5).owns ⟨w4.heap.size,0,none⟩ 1 1 (aE [(s,q,d,t,nn)]) rfl rfl (bO HRN.out) (aQ _) (by unfold maxLen;omega) (by omega) (by have:=k5.size;omega) ?_)
      intro v' w5 hown hgrow hnil;obtain ⟨g5,c5,rfl⟩:∃g cap,v'=sL g (n+1) cap:=by
       rcases hown.2 with ⟨hv,h0⟩ | ⟨g,cap,cur,hv,_⟩
       · omega
       · exact ⟨g,cap,hv⟩
      have hgrow':(w4.alloc (.cells #[.string s,iT q,iT d,.string t,iT nn] 50)).grownBy w5 (some g):=hgrow;have HO5:Hid (ay w5 w.heap.size g5 (n+1) c5 (L++[(s,q,d,t,nn)])):=⟨by rw [aU];exact hown,by simp [HO4.out.len],fN (cH HF.out (ch HE.out))⟩;have HR5:Hid (aW w5 R a len cap (P3+1)):=(HR4.out.below k5).grown hgrow' HLOW.out (fun k e=>by cases e;omega);have HG5:Hid (w.grownBy w5 (some R)):=aH (ae HG4.out (aL k5)) (by omega) hgrow';clear hown hgrow hgrow' hnil HRN k5;go_wp2;go_roundw
      case rel=>exact ⟨i - 1,sq+1+S2,n+1,g5,c5,P3+1,L++[(s,q,d,t,nn)],by congr 1;omega,by congr 1,rfl,by omega,by omega,by omega,HO5.out,cH HF.out (ch HE.out),HR5.out,HG5.out⟩
      case measure=>simp [intOf];omega
    · have hS0I:¬(S4:Int)=0:=by omega
      have hS0b:((S4:Int) == 0)=false:=by simpa using hS0I
      have hrowN:ay (w4.alloc (.cells #[.string s,iT q,iT d,.string t,iT nn] 50)) w.heap.size w4.heap.size 1 1 [(s,q,d,t,nn)]:=by
       have:=World.ownsRow_lit (base:=w.heap.size) (e:=50) (size:=5) w4 #[.string s,iT q,iT d,.string t,iT nn] 1 (by omega) (by unfold maxLen;omega) rfl;exact ⟨by simpa [aE,b9] using this,rfl,fN (ch HE.out)⟩
      have HRW:Hid (ay (w4.alloc (.cells #[.string s,iT q,iT d,.string t,iT nn] 50)) w.heap.size w4.heap.size 1 1 [(s,q,d,t,nn)]):=hrowN;clear hrowN;go_wp2_with (at_builtin;refine wpList_append_own _ rfl _ _ 28 rfl w.heap.size 50 i0 _ 5 56 Tryz.underlying28 hi hz0 hz1 hz2 rfl (by decide) _ _ _ rfl HRW.out.owns ⟨g,0,none⟩ n c (aE L) rfl (by rw [bi,HO4.out.len]) (bO (HO4.out.below k5).entsAt) (aQ _) (by unfold maxLen;omega) (by omega) (by have:=k5.size;omega) ?_)
      intro v' w5 hown hgrow hnil;obtain ⟨g5,c5,rfl⟩:∃g cap,v'=sL g (1+n) cap:=by
       rcases hown.2 with ⟨hv,h0⟩ | ⟨g,cap,cur,hv,_⟩
       · omega
       · exact ⟨g,cap,hv⟩
      have hgrow':(w4.alloc (.cells #[.string s,iT q,iT d,.string t,iT nn] 50)).grownBy w5 (some w4.heap.size):=hgrow;have HO5:Hid (ay w5 w.heap.size g5 (1+n) c5 ([(s,q,d,t,nn)]++L)):=⟨by rw [aU];exact hown,by simp [HO4.out.len];omega,fN (cH (ch HE.out) HF.out)⟩;have HR5:Hid (aW w5 R a len cap (P3+1)):=(HR4.out.below k5).grown hgrow' HLOW.out (fun k e=>by cases e;omega);have HG5:Hid (w.grownBy w5 (some R)):=aH (ae HG4.out (aL k5)) (by omega) hgrow';clear hown hgrow hgrow' hnil HRW k5;go_wp2;go_roundw
      case rel=>exact ⟨i - 1,sq+1+S2,1+n,g5,c5,P3+1,[(s,q,d,t,nn)]++L,by congr 1;omega,by congr 1,rfl,by omega,by omega,by omega,HO5.out,cH (ch HE.out) HF.out,HR5.out,HG5.out⟩
      case measure=>simp [intOf];omega
end Go.Proofs.YtpobkmjicbobdaaGreat
namespace Go.Proofs.YtpobkmjicbobdaaGreat
open Go.RowKit
set_option maxRecDepth 100000
set_option maxHeartbeats 8000000
def Cj (s:ByteArray):Prop:=lI s∧¬s.data.toList=[111,116,104,101,114]
def Sm (n:Int):Prop:=-1000≤n∧n≤1000
theorem Sm.wf {n:Int} (h:Sm n):(Lit.int .i64 n).wf=true:=WalkArith.wf_i64 (by unfold Sm at h;omega)
def Ck (k t:ByteArray) (q d n:Int):Prop:=iO k t q d n∧Cj k∧Kd d∧(d=2→n=0)∧Sm n∧(d≠1→t=⟨#[]⟩)∧(fl k=true∧t.size≤60∧-100≤n∧n≤100)
def Cf (n:Int):Prop:=-100≤n∧n≤100
theorem Cf.sm {n:Int} (h:Cf n):Sm n:=by unfold Cf at h;unfold Sm;omega
end Go.Proofs.YtpobkmjicbobdaaGreat
namespace Go.Proofs.YtpobkmjicbobdaaGreat
open Go.RowKit
set_option maxRecDepth 100000
set_option maxHeartbeats 8000000
def Af (L:List ac) (B:Nat):Prop:=(∀e ∈ L,Ck e.1 e.2.2.2.1 e.2.1 e.2.2.1 e.2.2.2.2∧1≤e.2.1∧e.2.1≤B)∧BZ L
theorem Af.mono {L:List ac} {B B':Nat} (h:Af L B) (hb:B≤B'):Af L B':=⟨fun e he=>⟨(h.1 e he).1,(h.1 e he).2.1,by have:=(h.1 e he).2.2;omega⟩,h.2⟩
theorem Af.fit {L:List ac} {B:Nat} (h:Af L B):∀e ∈ L,Fit e:=fun e he=>by
 obtain ⟨⟨_,_,hk,h2,hs,_⟩,h1,_⟩:=h.1 e he
 exact ⟨h1,hk,h2,hs⟩
end Go.Proofs.YtpobkmjicbobdaaGreat
namespace Go.Proofs.YtpobkmjicbobdaaGreat
set_option maxRecDepth 100000
set_option maxHeartbeats 40000000
open Go.RowKit
theorem yu (a:Option Addr) (len cap:Nat) (L:List ac) (w:World) (hL:aj w a len cap L) (hlen:len≤1048576) :
 Calls Tryz.prog 229 #[.slice a len cap] w fun e w'=>∃g c,e=.returned (sL g len c)∧ay w' w.heap.size g len c (bk L)∧Bl w w':=by
 have HLEN:Hid (L.length=len):=hL.length;have hbl:=hL.room;have hbc:=hL.big;unfold maxLen at hbc;have HL:=b6 hL;clear hL;have hO0:ay (w.alloc (.cells #[] 50)) w.heap.size w.heap.size 0 0 (bk (L.take 0)):=bQ w _ (Nat.le_refl _);have HO0:Hid (ay (w.alloc (.cells #[] 50)) w.heap.size w.heap.size 0 0 (bk (L.take 0))):=hO0;have hB0:Bl w (w.alloc (.cells #[] 50)):=bZ;clear hO0;go_enter Tryz.func229,Tryz.ntmps229
 go_wp2;go_loopw [3,4] (fun ov iv wr=>∃(k g c:Nat),k≤len∧iv=iT k∧ov=sL g k c∧ay wr w.heap.size g k c (bk (L.take k))∧Bl w wr) (fun _ iv _=>len - (intOf iv).toNat)
 case atStart=>exact ⟨0,w.heap.size,0,Nat.zero_le _,rfl,rfl,HO0.out,hB0⟩
 case round =>
  obtain ⟨k,g,c,hk,rfl,rfl,hO,hb⟩:=hrel;have HO:Hid (ay wr w.heap.size g k c (bk (L.take k))):=hO;clear hO;by_cases hlt:k<len
  · obtain ⟨b,off,rfl,hbb⟩:=HL.out.form (by omega);obtain ⟨s,q,d,t,n,hg,hlw,g0,g1,g2,g3,g4⟩:=HL.out.ent hb hbb k hlt;have HG:Hid (L[k]?=some (s,q,d,t,n)):=hg;have HLW:Hid (ec (s,q,d,t,n)):=hlw;have hbr:b<wr.heap.size:=Nat.lt_of_lt_of_le hbb hb.size;clear hg hlw;go_wp2_with fail
    refine (rc g k c (bk (L.take k)) s t q d n _ HO.out.entsAt HO.out.lt.2 (by omega) HLW.out).mono ?_;rintro e w1 ⟨g1',c1,rfl,hO1,hb1⟩;have HO1:Hid (ay w1 w.heap.size g1' (k+1) c1 (bk (L.take (k+1)))):=by
     show ay w1 w.heap.size g1' (k+1) c1 (bk (L.take (k+1)))
     rw [ug HG.out];exact hO1.mono hb.size
    clear hO1;go_wp2;go_roundw
    case rel=>exact ⟨k+1,g1',c1,by omega,by go_num,rfl,HO1.out,hb.trans (hb1.mono hb.size)⟩
    case measure=>simp [intOf];omega
  · have hkl:k=len:=by omega
    subst hkl;go_wp2;go_ret;refine ⟨g,c,rfl,?_,hb⟩;have:=HO.out;rw [List.take_of_length_le (by rw [HLEN.out];omega)] at this;exact this
end Go.Proofs.YtpobkmjicbobdaaGreat
namespace Go.Proofs.YtpobkmjicbobdaaGreat
open Go.RowKit
set_option maxRecDepth 100000
def iP (w:World) (a:Option Addr) (len cap:Nat):Prop:=len≤cap∧cap≤maxLen∧(len=0∨∃b off,a=some ⟨b,off,none⟩∧b<w.heap.size∧∀i,i<len→∃z:Nat,z≤255∧w.cell? ⟨b,off+i,none⟩=some (.int .u8 z))
theorem iP.keep {w w':World} {a:Option Addr} {len cap:Nat} (h:iP w a len cap) (hb:Bl w w'):iP w' a len cap:=by
 obtain ⟨h1,h2,h3⟩:=h;refine ⟨h1,h2,?_⟩;rcases h3 with e | ⟨b,off,ha,hlt,hc⟩
 · exact Or.inl e
 · exact Or.inr ⟨b,off,ha,Nat.lt_of_lt_of_le hlt hb.size,fun i hi=>by obtain ⟨z,hz,hcc⟩:=hc i hi;exact ⟨z,hz,cell_later hb hcc⟩⟩
end Go.Proofs.YtpobkmjicbobdaaGreat
namespace Go.Proofs.YtpobkmjicbobdaaGreat
set_option maxRecDepth 100000
open Go.RowKit Go.Joins Go.ChangeShapes Go.WideShapes Go.ChangeAt
theorem Tryz.cellsU8:Tryz.prog.cellsOf 5=1:=by kernel_rfl
theorem ux {H:Type} {enc:TypeId × Value→H} {W:World} {b0 base:Nat} {v:Value} {d:DataW H} {p:List MemPlace} {held:Bool}
 (hv:Value.okWide Tryz.prog W .any b0 38 v) (h:DataW.Trod enc Tryz.prog W base (fun _=>true) held 38 v d p) :
 ∃(a:Option Addr) (len cap:Nat),v=.slice a len cap∧iP W a len cap:=by
 obtain ⟨a1,len,cap,rfl⟩:=okWide_slice Tryz.underlying38 hv;obtain ⟨fuel,hf⟩:=h;rcases Go.ChangeShapes.open_ints Tryz.underlying38 Tryz.underlying5 Tryz.cellsU8 hf with ⟨hcs,hx⟩ | ⟨a,len',cap',zs,hcs,_,hl,hm,hz,hx,hcell,hwz⟩
 · simp [Value.cells] at hcs;obtain ⟨rfl,rfl,rfl⟩:=hcs;exact ⟨none,0,0,rfl,Nat.le_refl _,Nat.zero_le _,Or.inl rfl⟩
 · simp [Value.cells] at hcs;obtain ⟨rfl,rfl,rfl⟩:=hcs;simp only [if_true] at hz;refine ⟨some a,len,cap,rfl,hl,hm,?_⟩;by_cases h0:len=0
   · exact Or.inl h0
   right
   obtain ⟨ab,ao,spot⟩:=a;have hspot:spot=none:=by simpa [Addr.add] using World.cell?_spot (hcell 0 (by omega))
   subst hspot;refine ⟨ab,ao,rfl,?_,fun i hi=>?_⟩
   · have:=World.block_lt_of_cell? _ _ (hcell 0 (by omega));simpa [Addr.add] using this
   · have hc:=hcell i (by omega);rw [Addr.add_lit] at hc;have hm':zs.getD i 0 ∈ zs:=by
      have hi':i<zs.length:=by omega
      rw [List.getD_eq_getElem?_getD,List.getElem?_eq_getElem hi'];exact List.getElem_mem hi'
     have hb:=bounds_u8 (hwz _ hm');obtain ⟨z,hz'⟩:=Int.eq_ofNat_of_zero_le hb.1;rw [hz'] at hc hb;exact ⟨z,by omega,hc⟩
end Go.Proofs.YtpobkmjicbobdaaGreat
