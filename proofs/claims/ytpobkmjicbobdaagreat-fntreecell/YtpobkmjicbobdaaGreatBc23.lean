/- Walks. -/
import Derived.Test.YtpobkmjicbobdaaGreatBc20
namespace Go.Proofs.YtpobkmjicbobdaaGreat
set_option maxRecDepth 100000
set_option maxHeartbeats 40000000
open Go.RowKit
variable {A B C:List aj} {G X c c8 cm cs d1 d2 dA e1 e2 g8 gA k1 k2 k3 lo m1 m2 m3 n1 n2 nm ns:Nat} {M:List ae} {S:List Int} {a1 a2 a3 ak am:Option Addr} {q:Int} {u0 u1 u2 u3:Value} {w wi wj:World}
theorem eL {P:Program} {f:Array Oper} {o:Oper} {a:Act} {w:World} {K:Act→World→Prop} {Q:Exit→Act→World→Prop} {E:Prop}
 (hg:o.guard=none) (s x:Operand) (t:TypeId) (hop:o.op=Op.call { callee:=Callee.builtin Builtin.append,args:=#[s,x],argTypes:=#[t,t] })
 (base:Nat) (e:TypeId) (i:TypeInfo) (z:Value) (size bytes:Nat) (h1:P.underlying t=some (.slice e)) (h2:P.info? e=some i) (h3:i.zero=some z) (h4:i.size=size) (h5:i.bytes=bytes) (h6:z.cells.size=size) (h7:0<size)
 (v:Value) (n:Nat) (olds:List Value) (hs:a.eval s=v) (hown:w.ownsRow base e size v n olds)
 (ad:Addr) (m c:Nat) (news:List Value) (hx:a.eval x=.slice (some ad) m c) (hn:news.length=m*size) (hc:∀j u,news[j]?=some u→w.cell? (ad.add j)=some u) (h1c:∀u ∈ news,u.oneCell'=true)
 (b1:n+m≤maxLen) (b2:(n+m)*bytes≤140737488355328) (b3:base≤w.heap.size)
 (hK:∀b w',w'.ownsRow base e size b (n+m) (olds++news)→w.grownBy w' v.ownBlock→(b=nZ ↔ v=nZ∧m=0)→(b.ownBlock=v.ownBlock∨b.ownBlock=some w.heap.size)→K (a.put o.dst b) w') :
 if Region.wanted o (yielded f a.tmps)=true then Oper.wp P o a w K Q else E:=by
 have hw:Region.wanted o (yielded f a.tmps)=true:=by simp [Region.wanted,hg]
 rw [if_pos hw];obtain ⟨b,w',d,g,r2,r3,r4⟩:=run_append_own_at (P:=P) w base t o.type e i z size bytes h1 h2 h3 h4 h5 h6 h7 v n olds hown ad m c news hn hc h1c b1 b2 b3;unfold Oper.wp;simp [execOp,hop,resolve,invoke,builtin,hs,hx,d,Result.andThen];exact hK b w' g r2 r3 r4
structure EI (lo:Nat) (w wi:World) (X:Nat) (q:Int) (am:Option Addr) (nm cm G c:Nat) (ak:Option Addr) (ns cs gA dA e1 n1 d1 e2 n2 d2:Nat) (M:List ae) (A B C:List aj) (S:List Int):Prop where
 low:ir lo none w wi
 bx:aE wi X (iT q) (.slice am nm cm) (sL G 3 c) (.slice ak ns cs)
 br:aE wi (X+1) (iT 0) nZ nZ nZ
 ts:lW lo wi am nm cm G c ak ns cs gA dA e1 n1 d1 e2 n2 d2 M A B C S
 kx:ay wi X 31 4∧ay wi (X+1) 31 4
 top:lo≤w.heap.size∧w.heap.size≤X
theorem EI.below (h:EI lo w wi X q am nm cm G c ak ns cs gA dA e1 n1 d1 e2 n2 d2 M A B C S) (hb:Bl wi wj):EI lo w wj X q am nm cm G c ak ns cs gA dA e1 n1 d1 e2 n2 d2 M A B C S :=
 ⟨h.low.next hb,h.bx.keep hb,h.br.keep hb,h.ts.below hb,⟨h.kx.1.below hb,h.kx.2.below hb⟩,h.top⟩
structure qR (lo:Nat) (w wi:World) (X:Nat) (u0 u1 u2 u3:Value) (G c:Nat) (ak:Option Addr) (ns cs g8 c8 e1 n1 d1 e2 n2 d2:Nat) (A B C:List aj) (S:List Int):Prop where
 low:ir lo none w wi
 bx:aE wi X u0 u1 u2 u3
 br:aE wi (X+1) (iT 0) nZ nZ nZ
 ts:lW lo wi none 0 0 G c ak ns cs g8 c8 e1 n1 d1 e2 n2 d2 [] A B C S
 kx:ay wi X 31 4∧ay wi (X+1) 31 4
 top:lo≤w.heap.size∧w.heap.size≤X
theorem qR.below (h:qR lo w wi X u0 u1 u2 u3 G c ak ns cs g8 c8 e1 n1 d1 e2 n2 d2 A B C S) (hb:Bl wi wj):qR lo w wj X u0 u1 u2 u3 G c ak ns cs g8 c8 e1 n1 d1 e2 n2 d2 A B C S :=
 ⟨h.low.next hb,h.bx.keep hb,h.br.keep hb,h.ts.below hb,⟨h.kx.1.below hb,h.kx.2.below hb⟩,h.top⟩
theorem oZ (h:qR lo w wi X (iT q) (.slice a1 m1 k1) (.slice a2 m2 k2) (.slice a3 m3 k3) G c ak ns cs g8 c8 e1 n1 d1 e2 n2 d2 A B C S) (a:Option Addr) (m k:Nat):qR lo w (wi.setCell ⟨X,1,none⟩ (.slice a m k)) X (iT q) (.slice a m k) (.slice a2 m2 k2) (.slice a3 m3 k3) G c ak ns cs g8 c8 e1 n1 d1 e2 n2 d2 A B C S :=
 ⟨h.low.put (cJ _ _ _ _) (FK h.top.1 h.top.2) (.inl h.top.2),h.bx.set1 _,h.br.other (by omega) _,h.ts.box h.kx.1 (gq h.kx.1 h.bx) (cJ _ _ _ _),⟨h.kx.1.setCell _,h.kx.2.setCell _⟩,h.top⟩
theorem mu {b:Nat} (h:qR lo w wi X u0 u1 u2 u3 G c ak ns cs g8 c8 e1 n1 d1 e2 n2 d2 A B C S) (htb:aY q [] [A,B,C] S=true∧mG [] A B C) (hO:ag wi lo b 0 0 []) :
 oQ lo w (.returned (.tuple #[.agg #[iT q,sL b 0 0,sL G 3 c,.slice ak ns cs],.bool true])) ((((wi.setCell ⟨X+1,0,none⟩ (iT q)).setCell ⟨X+1,1,none⟩ (.slice a1 m1 k1)).setCell ⟨X+1,2,none⟩ (.slice a2 m2 k2)).setCell ⟨X+1,3,none⟩ (.slice a3 m3 k3)):=by
 have hx:lo≤X+1:=by have:=h.top;omega
 have d:lW lo wi (pT b) 0 0 G c ak ns cs g8 c8 e1 n1 d1 e2 n2 d2 [] A B C S:=⟨cT.some hO,h.ts.row,h.ts.rA,h.ts.rB,h.ts.rC,h.ts.sn,h.ts.sk⟩;exact ⟨_,_,rfl,⟨q,_,_,_,G,c,ak,ns,cs,g8,c8,e1,n1,d1,e2,n2,d2,[],A,B,C,S,rfl,d.four h.kx.2 h.br,htb⟩,h.low.four hx (by have:=h.top;omega) _ _ _ _⟩
theorem dx.and {p f:Nat→Prop} {a:Option Addr} {n:Nat} (h1:dx p w a n c B) (h2:dx f w a n c B):dx (fun b=>p b∧f b) w a n c B:=⟨h1.1,fun x e hn=>⟨⟨(h1.2 x e hn).1,(h2.2 x e hn).1⟩,fun i hi s m d hc y g hm=>⟨(h1.2 x e hn).2 i hi s m d hc y g hm,(h2.2 x e hn).2 i hi s m d hc y g hm⟩⟩⟩
theorem o4 {u s:World} {m:Int} {gl nl cl:Nat} {L:List ae} {g:List Value} (k3:EI lo w u X q am nm cm G c ak ns cs gA dA e1 n1 d1 e2 n2 d2 M A B C S) (o3:ag u lo gl nl cl L) (hm:(Lit.int .i64 m).wf=true)
 (a2:∀p ∈ A,(Lit.int .i64 p.2).wf=true) (a3:u.ownsRow lo 63 2 (sL gA A.length dA) A.length g) (a4:∀(i:Nat) (p:aj),A[i]?=some p→∃e d,g[i*2]?=some (sL e p.1.length d)∧g[i*2+1]?=some (iT p.2)∧ag u lo e p.1.length d p.1)
 (hg:u.grownBy s (some gA)) (ho:s.ownsRow lo 63 2 (sL g8 (A.length+1) c8) (A.length+1) (g++[sL gl nl cl,iT m])) (hat:g8=gA∨g8=u.heap.size) :
 qR lo w (s.setCell ⟨G,0,none⟩ (sL g8 (A.length+1) c8)) X (iT q) (.slice am nm cm) (sL G 3 c) (.slice ak ns cs) G c ak ns cs g8 c8 e1 n1 d1 e2 n2 d2 (A++[(L,m)]) B C S:=by
 obtain ⟨sA,H⟩:=aS a3;obtain ⟨sG,y⟩:=aS k3.ts.row;have I:G≠gA:=fun e=>by subst e;exact absurd (y.kind H) (by decide)
 have K:X≠gA:=fun e=>by subst e;exact absurd (k3.kx.1.kind H) (by decide)
 have o:X+1≠gA:=fun e=>by rw [← e] at H;exact absurd (k3.kx.2.kind H) (by decide)
 have W:X≠G:=fun e=>by rw [← e] at y;exact absurd (k3.kx.1.kind y) (by decide)
 have J:X+1≠G:=fun e=>by rw [← e] at y;exact absurd (k3.kx.2.kind y) (by decide)
 have F:∀x,ak=some x→0<ns→x.block≠gA∧x.block≠G:=fun x e hn=>by
  obtain ⟨_,k⟩:=k3.ts.sk x e hn;exact ⟨fun N=>by rw [N] at k;exact absurd (k.kind H) (by decide),fun N=>by rw [N] at k;exact absurd (k.kind y) (by decide)⟩
 have hlen:=o3.len;have D:bw lo s g8 (A.length+1) c8 (A++[(L,m)]):=ia rfl a2 a3 a4 (by rw [hlen];exact o3) hm hg (by rw [hlen];exact ho);have Q:=y.grown hg I;have f:s.grownBy (s.setCell ⟨G,0,none⟩ (sL g8 (A.length+1) c8)) (some G):=cJ _ _ _ _;have Y:=(a3.lt gA rfl).1;have a0:=(k3.ts.row.lt G rfl).1;have aa:=(k3.ts.row.lt G rfl).2;have E:=k3.ts.row.kept hg (.inr fun e=>I (by simpa [Value.ownBlock] using e));have r:∀{a n d} {Z:List aj},dx (fun b=>b≠gA∧b≠G) u a n d Z→dx (fun b=>b≠g8∧b≠G) (s.setCell ⟨G,0,none⟩ (sL g8 (A.length+1) c8)) a n d Z:=fun {a n d Z} hZ=>by
  have h1:=hZ.and (hZ.1.lowP (p:=(·<u.heap.size)) (fun b hb=>hb));have h2:=h1.same hg.size (fun b hb hl=>hg.block b hl (fun e=>hb.1.1 (Fx e)));have h3:=h2.same (w':=s.setCell ⟨G,0,none⟩ (sL g8 (A.length+1) c8)) f.size (fun b hb hl=>f.block b hl (fun e=>hb.1.2 (Fx e)));exact h3.imp (fun b hb=>⟨fun e=>hat.elim (fun h4=>hb.1.1 (e.trans h4)) (fun h4=>by have h5:=hb.2;omega),hb.1.2⟩)
 have t:∀{U R:World} {Z:Nat},b6 lo U ak ns cs S→U.grownBy R (some Z)→(∀x,ak=some x→0<ns→x.block≠Z)→b6 lo R ak ns cs S:=fun {U R Z} hs O hk =>
  ⟨hs.length,hs.room,hs.big,hs.wfs,hs.nil,fun x e hp=>⟨u' (hs.lies x e hp).1 O.size,(hs.lies x e hp).2⟩,fun x e i hi=>by
   have hp:0<ns:=by have:=hs.length;omega
   exact (Gc (a:=⟨x.block,x.off+i,none⟩) (O.block _ (hs.lies x e hp).1 (fun N=>hk x e hp (Fx N)))).trans (hs.cells x e i hi)⟩
 refine ⟨(k3.low.put hg Y (.inr fun T=>absurd (T.kind H) (by decide))).put f a0 (.inr fun T=>absurd (T.kind Q) (by decide)),(k3.bx.grownB hg K).other (fun e=>W e.symm) _,(k3.br.grownB hg o).other (fun e=>J e.symm) _,?_,⟨(k3.kx.1.grown hg K).setCell _,(k3.kx.2.grown hg o).setCell _⟩,k3.top⟩;refine ⟨cT.none _ _,?_,?_,r k3.ts.rB,r k3.ts.rC,t (t k3.ts.sn hg (fun x e hn=>(F x e hn).1)) f (fun x e hn=>(F x e hn).2),fun x e hn=>?_⟩
 · have h1:=(E.stored 0 (sL g8 (A.length+1) c8)).1;rw [show (A++[(L,m)]).length=A.length+1 by simp];exact h1
 · rw [show (A++[(L,m)]).length=A.length+1 by simp];exact D.grown Q (by decide) (by decide) f
 · obtain ⟨sz,k⟩:=k3.ts.sk x e hn;exact ⟨sz,(k.grown hg (F x e hn).1).setCell _⟩
theorem Ex (lo:Nat) (q:Int) (am:Option Addr) (nm cm G c:Nat) (ak:Option Addr) (ns cs gA dA e1 n1 d1 e2 n2 d2:Nat) (M:List ae) (A B C:List aj) (S:List Int) (w:World) (u:lW lo w am nm cm G c ak ns cs gA dA e1 n1 d1 e2 n2 d2 M A B C S) (htb:aY q M [A,B,C] S=true∧mG M A B C) (g:lo≤w.heap.size) (E:nm=0∨4≤A.length) :
 Calls Tryz.prog 115 #[.agg #[iT q,.slice am nm cm,sL G 3 c,.slice ak ns cs]] w (oQ lo w):=by
 obtain ⟨X,f⟩:=aG w.heap.size;obtain ⟨W,d⟩:=aG ((w.alloc (.cells #[iT q,.slice am nm cm,sL G 3 c,.slice ak ns cs] 31)).alloc (.cells #[iT 0,nZ,nZ,nZ] 31));have s:Bl w W:=by rw [d];exact bZ.alloc (by simp) _
 have y:aE W X (iT q) (.slice am nm cm) (sL G 3 c) (.slice ak ns cs):=by rw [d,f];exact (aE.new _ _ _ _ _ _).alloc _
 have D:aE W (X+1) (iT 0) nZ nZ nZ:=by
  have:=aE.new (w.alloc (.cells #[iT q,.slice am nm cm,sL G 3 c,.slice ak ns cs] 31)) 31 (iT 0) nZ nZ nZ;rw [FP] at this;rw [d,f];exact this
 have t:ay W X 31 4∧ay W (X+1) 31 4:=by
  rw [d,f];refine ⟨ay.below ⟨_,(by show (w.heap.push _)[w.heap.size]?=_;exact GE),rfl⟩ bZ,?_⟩;refine ⟨#[iT 0,nZ,nZ,nZ],?_,rfl⟩;show ((w.heap.push _).push _)[w.heap.size+1]?=_
  have:=GE (xs:=w.heap.push (.cells #[iT q,.slice am nm cm,sL G 3 c,.slice ak ns cs] 31 (0,0))) (x:=.cells #[iT 0,nZ,nZ,nZ] 31 (0,0));rw [Array.size_push] at this;exact this
 have b:Eq (EI lo w W X q am nm cm G c ak ns cs gA dA e1 n1 d1 e2 n2 d2 M A B C S):=⟨ir.of s,y,D,u.below s,t,g,Nat.le_of_eq f.symm⟩;have n:=bT htb;clear u htb g s y D t;have x0:=b.o.bx.all;have H:=b.o.br.all;obtain ⟨h0,_,_,hz,_⟩:=b.o.ts.head;by_cases hm:nm=0
 · subst hm;go_enter Tryz.func115,Tryz.ntmps115
   go_upto_region 1 with fail
   rw [← f,← d];clear f d;go_wp2;refine bodyPost_ret (v:=.tuple #[.agg #[iT q,.slice am 0 cm,sL G 3 c,.slice ak ns cs],.bool false]) ?_ rfl ?_
   · have e:=(((b.o.br.set0 (iT q)).set1 (.slice am 0 cm)).set2 (sL G 3 c)).set3 (.slice ak ns cs);simp [results,Tryz.results115,go_sem,e.all]
   · have hx:lo≤X+1:=by have:=b.o.top;omega
     refine ⟨_,_,rfl,⟨q,am,0,cm,G,c,ak,ns,cs,gA,dA,e1,n1,d1,e2,n2,d2,M,A,B,C,S,rfl,b.o.ts.four b.o.kx.2 b.o.br,n.o⟩,?_⟩;exact b.o.low.four hx (by have:=b.o.top;omega) _ _ _ _
 · have hA:4≤A.length:=by omega
   have r:(A.length:Int) ≥ 4:=by omega
   obtain ⟨I,m⟩:=aG A.length;rw [← m] at h0 r;have F:¬(nm:Int)=0:=by omega
   clear m;go_enter Tryz.func115,Tryz.ntmps115
   go_upto_region 1 with fail
   rw [← f,← d];clear f d;go_wp2;refine bodyPost_ret (v:=.tuple #[.agg #[iT q,.slice am nm cm,sL G 3 c,.slice ak ns cs],.bool false]) ?_ rfl ?_
   · have e:=(((b.o.br.set0 (iT q)).set1 (.slice am nm cm)).set2 (sL G 3 c)).set3 (.slice ak ns cs);simp [results,Tryz.results115,go_sem,e.all]
   · have hx:lo≤X+1:=by have:=b.o.top;omega
     refine ⟨_,_,rfl,⟨q,am,nm,cm,G,c,ak,ns,cs,gA,dA,e1,n1,d1,e2,n2,d2,M,A,B,C,S,rfl,b.o.ts.four b.o.kx.2 b.o.br,n.o⟩,?_⟩;exact b.o.low.four hx (by have:=b.o.top;omega) _ _ _ _
theorem Ew (lo:Nat) (q:Int) (Y nm cm G c:Nat) (ak:Option Addr) (ns cs gA dA e1 n1 d1 e2 n2 d2:Nat) (M:List ae) (A B C:List aj) (S:List Int) (w:World) (hT:lW lo w (pT Y) nm cm G c ak ns cs gA dA e1 n1 d1 e2 n2 d2 M A B C S) (htb:aY q M [A,B,C] S=true∧mG M A B C) (aI:lo≤w.heap.size) (b3:1≤nm) (aM:nm≤1048576) (hA:A.length<4) :
 Calls Tryz.prog 115 #[.agg #[iT q,sL Y nm cm,sL G 3 c,.slice ak ns cs]] w (oQ lo w):=by
 obtain ⟨X,hX⟩:=aG w.heap.size;obtain ⟨W,hW⟩:=aG ((w.alloc (.cells #[iT q,sL Y nm cm,sL G 3 c,.slice ak ns cs] 31)).alloc (.cells #[iT 0,nZ,nZ,nZ] 31));have kW:Bl w W:=by rw [hW];exact bZ.alloc (by simp) _
 have bx:aE W X (iT q) (sL Y nm cm) (sL G 3 c) (.slice ak ns cs):=by rw [hW,hX];exact (aE.new _ _ _ _ _ _).alloc _
 have br:aE W (X+1) (iT 0) nZ nZ nZ:=by
  have:=aE.new (w.alloc (.cells #[iT q,sL Y nm cm,sL G 3 c,.slice ak ns cs] 31)) 31 (iT 0) nZ nZ nZ;rw [FP] at this;rw [hW,hX];exact this
 have kx:ay W X 31 4∧ay W (X+1) 31 4:=by
  rw [hW,hX];refine ⟨ay.below ⟨_,(by show (w.heap.push _)[w.heap.size]?=_;exact GE),rfl⟩ bZ,?_⟩;refine ⟨#[iT 0,nZ,nZ,nZ],?_,rfl⟩;show ((w.heap.push _).push _)[w.heap.size+1]?=_
  have:=GE (xs:=w.heap.push (.cells #[iT q,sL Y nm cm,sL G 3 c,.slice ak ns cs] 31 (0,0))) (x:=.cells #[iT 0,nZ,nZ,nZ] 31 (0,0));rw [Array.size_push] at this;exact this
 have ST:Eq (EI lo w W X q (pT Y) nm cm G c ak ns cs gA dA e1 n1 d1 e2 n2 d2 M A B C S):=⟨ir.of kW,bx,br,hT.below kW,kx,aI,Nat.le_of_eq hX.symm⟩;have aa:Eq (aY q [] [A++[lK M S],B,C] S=true∧mG [] (A++[lK M S]) B C):=⟨vS htb.1 (fun e=>by have:=hT.mem.len;rw [e] at this;simp at this;omega) hA,htb.2.flush S⟩;clear hT htb kW bx br kx;have x0:=ST.o.bx.all;have r0:=ST.o.br.all;obtain ⟨h0,_,_,hz,_⟩:=ST.o.ts.head;obtain ⟨L,hL⟩:=aG (bU M S false);obtain ⟨m,hm⟩:∃m:Int,m=((du L:Nat):Int):=⟨_,rfl⟩;have ao:Eq ((Lit.int .i64 m).wf=true):=by have:=ml L;rw [hm];exact FW (by omega)
 have CQ:Eq (∀w',ah w' (pT Y) nm cm M→b6 lo w' ak ns cs S→Calls Tryz.prog 174 #[sL Y nm cm,.slice ak ns cs,.bool false] w' fun e ap=>∃I H F,e=.returned (sL I H F)∧ag ap w'.heap.size I H F L∧Bl w' ap):=fun w' h1 h2=>by
  rw [hL];exact lq lo _ nm cm M _ ns cs S false w' h1 h2 aM
 have aA:Eq (∀(I H F:Nat) (w':World),ah w' (pT I) H F L→Calls Tryz.prog 173 #[sL I H F] w' fun e ap=>e=.returned (.agg #[sL I H F,iT m])∧Bl w' ap):=fun I H F w' h=>by
  rw [hm];exact pp _ H F L w' h
 have aN:lK M S=(L,m):=by unfold lK;rw [hm,hL]
 rw [aN] at aa;clear aN hL hm;obtain ⟨i0,hi,an,al,aq⟩:=info_parts Tryz.infoRun;have b7:¬(A.length:Int) ≥ 4:=by omega
 have b4:A.length+1≤4:=by omega
 have b5:¬(nm:Int)=0:=by omega
 have aT:Eq (∀w':World,ir lo none w w'→lo≤w'.heap.size):=fun w' k=>FK aI k.size
 have N:EI lo w W.drew X q (pT Y) nm cm G c ak ns cs gA dA e1 n1 d1 e2 n2 d2 M A B C S:=ST.o.below (Below.refl _ W).drew;clear hA aI;go_enter Tryz.func115,Tryz.ntmps115
 go_upto_region 1 with fail
 rw [← hX,← hW];clear hX hW;go_upto_region 3 with fail
 clear x0 r0 h0 hz ST;refine wp_region_held_drew (S:=(fun w'=>w'.cell? ⟨X,1,none⟩=some (sL Y nm cm)∧w'.cell? ⟨X,2,none⟩=some (sL G 3 c)∧w'.cell? ⟨X,3,none⟩=some (.slice ak ns cs)∧X<w'.heap.size∧G<w'.heap.size)) (by kernel_rfl) (⟨N.bx.c1,N.bx.c2,N.bx.c3,N.bx.lt,N.ts.head.2.2.2.1⟩) (fun s=>?_);generalize W.drew=wd at N s ⊢;refine aP 0 5 s ?_;refine aP 6 4 s ?_;refine lg 5 10 (fun K hK=>?_) fun K hK=>?_
 · have q5:=N.ts.head.1;go_simp;clear q5;refine hK.o _ _ (⟨N.bx.c1,N.bx.c2,N.bx.c3,N.bx.lt,N.ts.head.2.2.2.1⟩) (fun s=>?_);clear hK K;(try go_frame);refine aQ 10 fun K hK=>?_
   go_simp;refine (CQ.o _ N.ts.mem.entsAt N.ts.sn).mono ?_;rintro e w1 ⟨I,H,F,rfl,aF,aD⟩;have k1:=N.below aD;have o1:ag w1 lo I H F L:=aF.mono (aT.o _ N.low);go_wp2_with fail
   refine hK.o _ _ (⟨k1.bx.c1,k1.bx.c2,k1.bx.c3,k1.bx.lt,k1.ts.head.2.2.2.1⟩) (fun s=>?_);clear hK K;(try go_frame);refine aQ 11 fun K hK=>?_
   go_simp;refine (aA.o _ _ _ _ o1.entsAt).mono ?_;rintro e R ⟨rfl,Z⟩;have k2:=k1.below Z;have o2:=o1.below Z;go_wp2_with fail
   refine hK.o _ _ (⟨k2.bx.c1,k2.bx.c2,k2.bx.c3,k2.bx.lt,k2.ts.head.2.2.2.1⟩) (fun s=>?_);clear hK K;(try go_frame);refine aQ 12 fun K hK=>?_
   go_simp;have kc:Bl R (R.alloc (.cells #[sL I H F,iT m] 63)):=bZ;have k3:=k2.below kc;have o3:=o2.below kc;have g:=bW R (sL I H F) (iT m) 63;generalize R.heap.size=gb at g ⊢;generalize R.alloc (.cells #[sL I H F,iT m] 63)=wb at k3 o3 g ⊢;refine hK.o _ _ (⟨k3.bx.c1,k3.bx.c2,k3.bx.c3,k3.bx.lt,k3.ts.head.2.2.2.1⟩) (fun s=>?_);clear hK K;(try go_frame);refine aQ 13 fun K hK=>?_
   obtain ⟨a1,a2,au,a3,a4⟩:=k3.ts.rA;have d:X≠gA:=fun e=>by subst e;obtain ⟨_,kk⟩:=aS a3;exact absurd (k3.kx.1.kind kk) (by decide)
   refine eL rfl (.tmp 22) (.tmp 29) 61 rfl lo 63 i0 _ 2 32 Tryz.underlying61 hi an al aq rfl (by decide) _ _ _ rfl a3 ⟨gb,0,none⟩ 1 1 [sL I H F,iT m] rfl rfl g (by intro u hu;simp at hu;rcases hu with rfl | rfl <;> rfl) ?_ ?_ ?_ ?_
   · unfold maxLen;omega
   · omega
   · have h1:=(a3.lt gA rfl);omega
   intro v8 w8 E a7 av Q;obtain ⟨g8,c8,rfl⟩:=ownsRow_succ E;have b:wb.grownBy w8 (some gA):=a7;refine hK.o _ _ (⟨(k3.bx.grownB b d).c1,(k3.bx.grownB b d).c2,(k3.bx.grownB b d).c3,(k3.bx.grownB b d).lt,u' k3.ts.head.2.2.2.1 b.size⟩) (fun s=>?_);clear hK K;(try go_frame);refine aP 14 1 s ?_;refine aQ 15 fun K hK=>?_
   have O:G≠gA:=fun e=>by subst e;obtain ⟨_,kk⟩:=aS a3;obtain ⟨_,kr⟩:=aS k3.ts.row;exact absurd (kr.kind kk) (by decide)
   have D:some G≠some gA:=fun e=>O (Fx e)
   have q0:=b.cell k3.ts.head.1 D;have qf:=(bo b (x:=⟨G,0,none⟩) k3.ts.head.2.2.2.1 D).trans k3.ts.head.2.2.2.2;have qz:=u' k3.ts.head.2.2.2.1 b.size;go_simp;have r:qR lo w (w8.setCell ⟨G,0,none⟩ (sL g8 (A.length+1) c8)) X (iT q) (sL Y nm cm) (sL G 3 c) (.slice ak ns cs) G c ak ns cs g8 c8 e1 n1 d1 e2 n2 d2 (A++[(L,m)]) B C S:=o4 k3 o3 ao.o a2 a3 a4 b E (by have h9:(some g8:Option Nat)=some gA∨(some g8:Option Nat)=some wb.heap.size:=Q;exact h9.imp Fx Fx);clear q0 qf qz;refine hK.o _ _ (⟨r.bx.c1,r.bx.c2,r.bx.c3,r.bx.lt,r.ts.head.2.2.2.1⟩) (fun s=>?_);clear hK K;(try go_frame);refine dN ?_;obtain ⟨J,t⟩:=aG (w8.setCell ⟨G,0,none⟩ (sL g8 (A.length+1) c8));rw [← t] at r;have y:Eq (qR lo w J X (iT q) (sL Y nm cm) (sL G 3 c) (.slice ak ns cs) G c ak ns cs g8 c8 e1 n1 d1 e2 n2 d2 (A++[(L,m)]) B C S):=r;rw [← t];clear t r k3 o3 g b E a1 a2 a3 a4 d O D s N k1 k2 o1 o2;have y1:=y.o.bx.c1;have yf:=y.o.bx.fz;have yz:=y.o.bx.lt;obtain ⟨wA,n⟩:=aG ((J.setCell ⟨X,1,none⟩ (sL (J.heap.size) 0 0)).alloc (.cells #[] 50));obtain ⟨T,f⟩:=aG J.heap.size;have a5:Eq (ag wA lo T 0 0 []):=by rw [n,f];show ag _ _ _ _ _ _;have h1:=bV (J.setCell ⟨X,1,none⟩ (sL (J.heap.size) 0 0)) lo (by have:=y.o.low.size;have:=y.o.top;simp [World.setCell];omega);simpa [World.setCell] using h1
   have U:Eq (qR lo w wA X (iT q) (sL T 0 0) (sL G 3 c) (.slice ak ns cs) G c ak ns cs g8 c8 e1 n1 d1 e2 n2 d2 (A++[(L,m)]) B C S):=by
    rw [n,← f];refine qR.below ?_ bZ;exact oZ y.o _ _ _
   go_upto_region 5 with fail
   rw [← n];try rw [← f]
   clear n f y1 yf yz y;have y0:=U.o.bx.all;have r0:=U.o.br.all;go_wp2;refine bodyPost_ret (v:=.tuple #[.agg #[iT q,sL T 0 0,sL G 3 c,.slice ak ns cs],.bool true]) ?_ rfl ?_
   · have e:=(((U.o.br.set0 (iT q)).set1 (sL T 0 0)).set2 (sL G 3 c)).set3 (.slice ak ns cs);simp [results,Tryz.results115,go_sem,e.all]
   · exact mu U.o aa.o a5.o
 · go_simp;refine (CQ.o _ N.ts.mem.entsAt N.ts.sn).mono ?_;rintro e w1 ⟨I,H,F,rfl,aF,aD⟩;have k1:=N.below aD;have o1:ag w1 lo I H F L:=aF.mono (aT.o _ N.low);go_wp2_with fail
   refine hK.o _ _ (⟨k1.bx.c1,k1.bx.c2,k1.bx.c3,k1.bx.lt,k1.ts.head.2.2.2.1⟩) (fun s=>?_);clear hK K;(try go_frame);refine lg 5 11 (fun K hK=>?_) fun K hK=>?_
   · have q5:=k1.ts.head.1;go_simp;clear q5;refine hK.o _ _ (⟨k1.bx.c1,k1.bx.c2,k1.bx.c3,k1.bx.lt,k1.ts.head.2.2.2.1⟩) (fun s=>?_);clear hK K;(try go_frame);refine aQ 11 fun K hK=>?_
     go_simp;refine (aA.o _ _ _ _ o1.entsAt).mono ?_;rintro e R ⟨rfl,Z⟩;have k2:=k1.below Z;have o2:=o1.below Z;go_wp2_with fail
     refine hK.o _ _ (⟨k2.bx.c1,k2.bx.c2,k2.bx.c3,k2.bx.lt,k2.ts.head.2.2.2.1⟩) (fun s=>?_);clear hK K;(try go_frame);refine aQ 12 fun K hK=>?_
     go_simp;have kc:Bl R (R.alloc (.cells #[sL I H F,iT m] 63)):=bZ;have k3:=k2.below kc;have o3:=o2.below kc;have g:=bW R (sL I H F) (iT m) 63;generalize R.heap.size=gb at g ⊢;generalize R.alloc (.cells #[sL I H F,iT m] 63)=wb at k3 o3 g ⊢;refine hK.o _ _ (⟨k3.bx.c1,k3.bx.c2,k3.bx.c3,k3.bx.lt,k3.ts.head.2.2.2.1⟩) (fun s=>?_);clear hK K;(try go_frame);refine aQ 13 fun K hK=>?_
     obtain ⟨a1,a2,au,a3,a4⟩:=k3.ts.rA;have d:X≠gA:=fun e=>by subst e;obtain ⟨_,kk⟩:=aS a3;exact absurd (k3.kx.1.kind kk) (by decide)
     refine eL rfl (.tmp 22) (.tmp 29) 61 rfl lo 63 i0 _ 2 32 Tryz.underlying61 hi an al aq rfl (by decide) _ _ _ rfl a3 ⟨gb,0,none⟩ 1 1 [sL I H F,iT m] rfl rfl g (by intro u hu;simp at hu;rcases hu with rfl | rfl <;> rfl) ?_ ?_ ?_ ?_
     · unfold maxLen;omega
     · omega
     · have h1:=(a3.lt gA rfl);omega
     intro v8 w8 E a7 av Q;obtain ⟨g8,c8,rfl⟩:=ownsRow_succ E;have b:wb.grownBy w8 (some gA):=a7;refine hK.o _ _ (⟨(k3.bx.grownB b d).c1,(k3.bx.grownB b d).c2,(k3.bx.grownB b d).c3,(k3.bx.grownB b d).lt,u' k3.ts.head.2.2.2.1 b.size⟩) (fun s=>?_);clear hK K;(try go_frame);refine aP 14 1 s ?_;refine aQ 15 fun K hK=>?_
     have O:G≠gA:=fun e=>by subst e;obtain ⟨_,kk⟩:=aS a3;obtain ⟨_,kr⟩:=aS k3.ts.row;exact absurd (kr.kind kk) (by decide)
     have D:some G≠some gA:=fun e=>O (Fx e)
     have q0:=b.cell k3.ts.head.1 D;have qf:=(bo b (x:=⟨G,0,none⟩) k3.ts.head.2.2.2.1 D).trans k3.ts.head.2.2.2.2;have qz:=u' k3.ts.head.2.2.2.1 b.size;go_simp;have r:qR lo w (w8.setCell ⟨G,0,none⟩ (sL g8 (A.length+1) c8)) X (iT q) (sL Y nm cm) (sL G 3 c) (.slice ak ns cs) G c ak ns cs g8 c8 e1 n1 d1 e2 n2 d2 (A++[(L,m)]) B C S:=o4 k3 o3 ao.o a2 a3 a4 b E (by have h9:(some g8:Option Nat)=some gA∨(some g8:Option Nat)=some wb.heap.size:=Q;exact h9.imp Fx Fx);clear q0 qf qz;refine hK.o _ _ (⟨r.bx.c1,r.bx.c2,r.bx.c3,r.bx.lt,r.ts.head.2.2.2.1⟩) (fun s=>?_);clear hK K;(try go_frame);refine dN ?_;obtain ⟨J,t⟩:=aG (w8.setCell ⟨G,0,none⟩ (sL g8 (A.length+1) c8));rw [← t] at r;have y:Eq (qR lo w J X (iT q) (sL Y nm cm) (sL G 3 c) (.slice ak ns cs) G c ak ns cs g8 c8 e1 n1 d1 e2 n2 d2 (A++[(L,m)]) B C S):=r;rw [← t];clear t r k3 o3 g b E a1 a2 a3 a4 d O D s N k1 k2 o1 o2;have y1:=y.o.bx.c1;have yf:=y.o.bx.fz;have yz:=y.o.bx.lt;obtain ⟨wA,n⟩:=aG ((J.setCell ⟨X,1,none⟩ (sL (J.heap.size) 0 0)).alloc (.cells #[] 50));obtain ⟨T,f⟩:=aG J.heap.size;have a5:Eq (ag wA lo T 0 0 []):=by rw [n,f];show ag _ _ _ _ _ _;have h1:=bV (J.setCell ⟨X,1,none⟩ (sL (J.heap.size) 0 0)) lo (by have:=y.o.low.size;have:=y.o.top;simp [World.setCell];omega);simpa [World.setCell] using h1
     have U:Eq (qR lo w wA X (iT q) (sL T 0 0) (sL G 3 c) (.slice ak ns cs) G c ak ns cs g8 c8 e1 n1 d1 e2 n2 d2 (A++[(L,m)]) B C S):=by
      rw [n,← f];refine qR.below ?_ bZ;exact oZ y.o _ _ _
     go_upto_region 5 with fail
     rw [← n];try rw [← f]
     clear n f y1 yf yz y;have y0:=U.o.bx.all;have r0:=U.o.br.all;go_wp2;refine bodyPost_ret (v:=.tuple #[.agg #[iT q,sL T 0 0,sL G 3 c,.slice ak ns cs],.bool true]) ?_ rfl ?_
     · have e:=(((U.o.br.set0 (iT q)).set1 (sL T 0 0)).set2 (sL G 3 c)).set3 (.slice ak ns cs);simp [results,Tryz.results115,go_sem,e.all]
     · exact mu U.o aa.o a5.o
   · go_simp;refine (aA.o _ _ _ _ o1.entsAt).mono ?_;rintro e R ⟨rfl,Z⟩;have k2:=k1.below Z;have o2:=o1.below Z;go_wp2_with fail
     refine hK.o _ _ (⟨k2.bx.c1,k2.bx.c2,k2.bx.c3,k2.bx.lt,k2.ts.head.2.2.2.1⟩) (fun s=>?_);clear hK K;(try go_frame);refine lg 5 12 (fun K hK=>?_) fun K hK=>?_
     · have q5:=k2.ts.head.1;go_simp;clear q5;refine hK.o _ _ (⟨k2.bx.c1,k2.bx.c2,k2.bx.c3,k2.bx.lt,k2.ts.head.2.2.2.1⟩) (fun s=>?_);clear hK K;(try go_frame);refine aQ 12 fun K hK=>?_
       go_simp;have kc:Bl R (R.alloc (.cells #[sL I H F,iT m] 63)):=bZ;have k3:=k2.below kc;have o3:=o2.below kc;have g:=bW R (sL I H F) (iT m) 63;generalize R.heap.size=gb at g ⊢;generalize R.alloc (.cells #[sL I H F,iT m] 63)=wb at k3 o3 g ⊢;refine hK.o _ _ (⟨k3.bx.c1,k3.bx.c2,k3.bx.c3,k3.bx.lt,k3.ts.head.2.2.2.1⟩) (fun s=>?_);clear hK K;(try go_frame);refine aQ 13 fun K hK=>?_
       obtain ⟨a1,a2,au,a3,a4⟩:=k3.ts.rA;have d:X≠gA:=fun e=>by subst e;obtain ⟨_,kk⟩:=aS a3;exact absurd (k3.kx.1.kind kk) (by decide)
       refine eL rfl (.tmp 22) (.tmp 29) 61 rfl lo 63 i0 _ 2 32 Tryz.underlying61 hi an al aq rfl (by decide) _ _ _ rfl a3 ⟨gb,0,none⟩ 1 1 [sL I H F,iT m] rfl rfl g (by intro u hu;simp at hu;rcases hu with rfl | rfl <;> rfl) ?_ ?_ ?_ ?_
       · unfold maxLen;omega
       · omega
       · have h1:=(a3.lt gA rfl);omega
       intro v8 w8 E a7 av Q;obtain ⟨g8,c8,rfl⟩:=ownsRow_succ E;have b:wb.grownBy w8 (some gA):=a7;refine hK.o _ _ (⟨(k3.bx.grownB b d).c1,(k3.bx.grownB b d).c2,(k3.bx.grownB b d).c3,(k3.bx.grownB b d).lt,u' k3.ts.head.2.2.2.1 b.size⟩) (fun s=>?_);clear hK K;(try go_frame);refine aP 14 1 s ?_;refine aQ 15 fun K hK=>?_
       have O:G≠gA:=fun e=>by subst e;obtain ⟨_,kk⟩:=aS a3;obtain ⟨_,kr⟩:=aS k3.ts.row;exact absurd (kr.kind kk) (by decide)
       have D:some G≠some gA:=fun e=>O (Fx e)
       have q0:=b.cell k3.ts.head.1 D;have qf:=(bo b (x:=⟨G,0,none⟩) k3.ts.head.2.2.2.1 D).trans k3.ts.head.2.2.2.2;have qz:=u' k3.ts.head.2.2.2.1 b.size;go_simp;have r:qR lo w (w8.setCell ⟨G,0,none⟩ (sL g8 (A.length+1) c8)) X (iT q) (sL Y nm cm) (sL G 3 c) (.slice ak ns cs) G c ak ns cs g8 c8 e1 n1 d1 e2 n2 d2 (A++[(L,m)]) B C S:=o4 k3 o3 ao.o a2 a3 a4 b E (by have h9:(some g8:Option Nat)=some gA∨(some g8:Option Nat)=some wb.heap.size:=Q;exact h9.imp Fx Fx);clear q0 qf qz;refine hK.o _ _ (⟨r.bx.c1,r.bx.c2,r.bx.c3,r.bx.lt,r.ts.head.2.2.2.1⟩) (fun s=>?_);clear hK K;(try go_frame);refine dN ?_;obtain ⟨J,t⟩:=aG (w8.setCell ⟨G,0,none⟩ (sL g8 (A.length+1) c8));rw [← t] at r;have y:Eq (qR lo w J X (iT q) (sL Y nm cm) (sL G 3 c) (.slice ak ns cs) G c ak ns cs g8 c8 e1 n1 d1 e2 n2 d2 (A++[(L,m)]) B C S):=r;rw [← t];clear t r k3 o3 g b E a1 a2 a3 a4 d O D s N k1 k2 o1 o2;have y1:=y.o.bx.c1;have yf:=y.o.bx.fz;have yz:=y.o.bx.lt;obtain ⟨wA,n⟩:=aG ((J.setCell ⟨X,1,none⟩ (sL (J.heap.size) 0 0)).alloc (.cells #[] 50));obtain ⟨T,f⟩:=aG J.heap.size;have a5:Eq (ag wA lo T 0 0 []):=by rw [n,f];show ag _ _ _ _ _ _;have h1:=bV (J.setCell ⟨X,1,none⟩ (sL (J.heap.size) 0 0)) lo (by have:=y.o.low.size;have:=y.o.top;simp [World.setCell];omega);simpa [World.setCell] using h1
       have U:Eq (qR lo w wA X (iT q) (sL T 0 0) (sL G 3 c) (.slice ak ns cs) G c ak ns cs g8 c8 e1 n1 d1 e2 n2 d2 (A++[(L,m)]) B C S):=by
        rw [n,← f];refine qR.below ?_ bZ;exact oZ y.o _ _ _
       go_upto_region 5 with fail
       rw [← n];try rw [← f]
       clear n f y1 yf yz y;have y0:=U.o.bx.all;have r0:=U.o.br.all;go_wp2;refine bodyPost_ret (v:=.tuple #[.agg #[iT q,sL T 0 0,sL G 3 c,.slice ak ns cs],.bool true]) ?_ rfl ?_
       · have e:=(((U.o.br.set0 (iT q)).set1 (sL T 0 0)).set2 (sL G 3 c)).set3 (.slice ak ns cs);simp [results,Tryz.results115,go_sem,e.all]
       · exact mu U.o aa.o a5.o
     · go_simp;have kc:Bl R (R.alloc (.cells #[sL I H F,iT m] 63)):=bZ;have k3:=k2.below kc;have o3:=o2.below kc;have g:=bW R (sL I H F) (iT m) 63;generalize R.heap.size=gb at g ⊢;generalize R.alloc (.cells #[sL I H F,iT m] 63)=wb at k3 o3 g ⊢;refine hK.o _ _ (⟨k3.bx.c1,k3.bx.c2,k3.bx.c3,k3.bx.lt,k3.ts.head.2.2.2.1⟩) (fun s=>?_);clear hK K;(try go_frame);refine aQ 5 fun K hK=>?_
       have q5:=k3.ts.head.1;go_simp;clear q5;refine hK.o _ _ (⟨k3.bx.c1,k3.bx.c2,k3.bx.c3,k3.bx.lt,k3.ts.head.2.2.2.1⟩) (fun s=>?_);clear hK K;(try go_frame);refine aQ 13 fun K hK=>?_
       obtain ⟨a1,a2,au,a3,a4⟩:=k3.ts.rA;have d:X≠gA:=fun e=>by subst e;obtain ⟨_,kk⟩:=aS a3;exact absurd (k3.kx.1.kind kk) (by decide)
       refine eL rfl (.tmp 22) (.tmp 29) 61 rfl lo 63 i0 _ 2 32 Tryz.underlying61 hi an al aq rfl (by decide) _ _ _ rfl a3 ⟨gb,0,none⟩ 1 1 [sL I H F,iT m] rfl rfl g (by intro u hu;simp at hu;rcases hu with rfl | rfl <;> rfl) ?_ ?_ ?_ ?_
       · unfold maxLen;omega
       · omega
       · have h1:=(a3.lt gA rfl);omega
       intro v8 w8 E a7 av Q;obtain ⟨g8,c8,rfl⟩:=ownsRow_succ E;have b:wb.grownBy w8 (some gA):=a7;refine hK.o _ _ (⟨(k3.bx.grownB b d).c1,(k3.bx.grownB b d).c2,(k3.bx.grownB b d).c3,(k3.bx.grownB b d).lt,u' k3.ts.head.2.2.2.1 b.size⟩) (fun s=>?_);clear hK K;(try go_frame);refine aP 14 1 s ?_;refine aQ 15 fun K hK=>?_
       have O:G≠gA:=fun e=>by subst e;obtain ⟨_,kk⟩:=aS a3;obtain ⟨_,kr⟩:=aS k3.ts.row;exact absurd (kr.kind kk) (by decide)
       have D:some G≠some gA:=fun e=>O (Fx e)
       have q0:=b.cell k3.ts.head.1 D;have qf:=(bo b (x:=⟨G,0,none⟩) k3.ts.head.2.2.2.1 D).trans k3.ts.head.2.2.2.2;have qz:=u' k3.ts.head.2.2.2.1 b.size;go_simp;have r:qR lo w (w8.setCell ⟨G,0,none⟩ (sL g8 (A.length+1) c8)) X (iT q) (sL Y nm cm) (sL G 3 c) (.slice ak ns cs) G c ak ns cs g8 c8 e1 n1 d1 e2 n2 d2 (A++[(L,m)]) B C S:=o4 k3 o3 ao.o a2 a3 a4 b E (by have h9:(some g8:Option Nat)=some gA∨(some g8:Option Nat)=some wb.heap.size:=Q;exact h9.imp Fx Fx);clear q0 qf qz;refine hK.o _ _ (⟨r.bx.c1,r.bx.c2,r.bx.c3,r.bx.lt,r.ts.head.2.2.2.1⟩) (fun s=>?_);clear hK K;(try go_frame);refine dN ?_;obtain ⟨J,t⟩:=aG (w8.setCell ⟨G,0,none⟩ (sL g8 (A.length+1) c8));rw [← t] at r;have y:Eq (qR lo w J X (iT q) (sL Y nm cm) (sL G 3 c) (.slice ak ns cs) G c ak ns cs g8 c8 e1 n1 d1 e2 n2 d2 (A++[(L,m)]) B C S):=r;rw [← t];clear t r k3 o3 g b E a1 a2 a3 a4 d O D s N k1 k2 o1 o2;have y1:=y.o.bx.c1;have yf:=y.o.bx.fz;have yz:=y.o.bx.lt;obtain ⟨wA,n⟩:=aG ((J.setCell ⟨X,1,none⟩ (sL (J.heap.size) 0 0)).alloc (.cells #[] 50));obtain ⟨T,f⟩:=aG J.heap.size;have a5:Eq (ag wA lo T 0 0 []):=by rw [n,f];show ag _ _ _ _ _ _;have h1:=bV (J.setCell ⟨X,1,none⟩ (sL (J.heap.size) 0 0)) lo (by have:=y.o.low.size;have:=y.o.top;simp [World.setCell];omega);simpa [World.setCell] using h1
       have U:Eq (qR lo w wA X (iT q) (sL T 0 0) (sL G 3 c) (.slice ak ns cs) G c ak ns cs g8 c8 e1 n1 d1 e2 n2 d2 (A++[(L,m)]) B C S):=by
        rw [n,← f];refine qR.below ?_ bZ;exact oZ y.o _ _ _
       go_upto_region 5 with fail
       rw [← n];try rw [← f]
       clear n f y1 yf yz y;have y0:=U.o.bx.all;have r0:=U.o.br.all;go_wp2;refine bodyPost_ret (v:=.tuple #[.agg #[iT q,sL T 0 0,sL G 3 c,.slice ak ns cs],.bool true]) ?_ rfl ?_
       · have e:=(((U.o.br.set0 (iT q)).set1 (sL T 0 0)).set2 (sL G 3 c)).set3 (.slice ak ns cs);simp [results,Tryz.results115,go_sem,e.all]
       · exact mu U.o aa.o a5.o
theorem Cj (lo:Nat) (v:Value) (w:World) (h:dg lo w v) (b:lo≤w.heap.size):Calls Tryz.prog 115 #[v] w (oQ lo w):=by
 obtain ⟨q,am,nm,cm,G,c,ak,ns,cs,gA,dA,e1,n1,d1,e2,n2,d2,M,A,B,C,S,rfl,d,htb⟩:=h;by_cases e:nm=0∨4≤A.length
 · exact Ex lo q am nm cm G c ak ns cs gA dA e1 n1 d1 e2 n2 d2 M A B C S w d htb b e
 · have hl:=d.mem.len;have hm:=(aZ htb.1).2.2.1;cases am with
   | none=>have:=(d.mem.nil rfl).1;omega
   | some x =>
    obtain ⟨f,rfl,_⟩:=d.mem.own x rfl;exact Ew lo q f nm cm G c ak ns cs gA dA e1 n1 d1 e2 n2 d2 M A B C S w d htb b (by omega) (by omega) (by omega)
theorem ze (lo:Nat) (q:Int) (am:Option Addr) (nm cm:Nat) (O:Option Addr) (b E:Nat) (ak:Option Addr) (ns cs:Nat) (M:List ae) (V:List (List aj)) (S:List Int) (w:World) (U:cj lo w am nm cm O b E ak ns cs M V S) (hq:(Lit.int .i64 q).wf=true) (htb:aY q M V S=true) :
 Calls Tryz.prog 36 #[.agg #[iT q,.slice am nm cm,.slice O b E,.slice ak ns cs]] w fun e w'=>(ns<4∧q ∉ S→vK q nm b (ns+1) M V (S++[q]) true w e w')∧(¬(ns<4∧q ∉ S)→vK q nm b ns M V S false w e w'):=by
 have hsl:=U.snaps.length;have ba:ns≤4:=by
  have h1:=(aZ htb).2.2.2.2.2.2.1;unfold cC at h1;rw [FJ] at h1;have h2:=of_decide_eq_true h1.1;omega
 have b1:nm≤60:=by have h1:=(aZ htb).2.2.1;have h2:=U.mem.1.length;omega
 obtain ⟨A,B,C,a4⟩:=eS htb;have b4:b≤100:=by have h1:=U.levels.length;rw [a4] at h1;have h2:([A,B,C]:List (List aj)).length=3:=rfl;omega
 have a9:∀B ∈ V,B.length≤100∧∀r ∈ B,1≤r.1.length∧r.1.length≤10000:=by
  have h8:ef V q=true:=(aZ htb).2.2.2.2.2.2.2.1;rw [a4] at h8 ⊢;unfold ef at h8;simp only [FJ] at h8;intro Z af;simp only [FF,F4,or_false] at af;rcases af with rfl | rfl | rfl
  · exact cG h8.1 (by omega)
  · exact cG h8.2.1 (by omega)
  · exact cG h8.2.2 (by omega)
 obtain ⟨Z,hZ⟩:=aG (decide (q ∈ S));have CO:Eq (∀w',Bl w w'→Calls Tryz.prog 27 #[.agg #[iT q,.slice am nm cm,.slice O b E,.slice ak ns cs]] w' fun e u=>e=.returned (.bool true)∧Bl w' u):=fun w' k=>by
  have:=gZ lo q _ _ _ _ _ _ _ _ _ M V S w' (U.keep k);rw [htb] at this;exact this
 have CC:Eq (∀w',Bl w w'→Calls Tryz.prog 57 #[.agg #[iT q,.slice am nm cm,.slice O b E,.slice ak ns cs]] w' fun e u=>∃f c1 G c d c3,e=.returned (.agg #[iT q,sL f nm c1,sL G b c,sL d ns c3])∧cU w'.heap.size u f nm c1 G b c d ns c3 M V S∧Bl w' u):=fun w' k=>iK lo q am O ak nm cm b E ns cs M V S w' (U.keep k) (by omega) (by omega) (by omega) a9
 have CH:Eq (∀w',Bl w w'→Calls Tryz.prog 102 #[.agg #[iT q,.slice am nm cm,.slice O b E,.slice ak ns cs],iT q] w' fun e u=>e=.returned (.bool Z)∧Bl w' u):=fun w' k=>by rw [hZ];exact Dl lo q q _ _ _ _ _ _ _ _ _ S w' (U.snaps.keep k) (by omega)
 obtain ⟨i0,hi,aK,aJ,aQ⟩:=info_parts Tryz.infoInt;obtain ⟨X,hX⟩:=aG w.heap.size;obtain ⟨W,hW⟩:=aG ((w.alloc (.cells #[iT q,.slice am nm cm,.slice O b E,.slice ak ns cs] 31)).alloc (.cells #[iT 0,nZ,nZ,nZ] 31));have kW:Bl w W:=by rw [hW];exact bZ.alloc (by simp) _
 have bx:aE W X (iT q) (.slice am nm cm) (.slice O b E) (.slice ak ns cs):=by rw [hW,hX];exact (aE.new _ _ _ _ _ _).alloc _
 have br:aE W (X+1) (iT 0) nZ nZ nZ:=by
  have:=aE.new (w.alloc (.cells #[iT q,.slice am nm cm,.slice O b E,.slice ak ns cs] 31)) 31 (iT 0) nZ nZ nZ;rw [FP] at this;rw [hW,hX];exact this
 have HX:Eq (X=w.heap.size):=hX;have K0:Eq (Bl w W):=kW;have hd:(ns<4∧q ∉ S) ↔ (ns<4∧Z=false):=by rw [hZ];simp
 clear U kW a9 hsl htb hZ a4;go_enter Tryz.func36,Tryz.ntmps36
 go_wp2_with fail
 rw [← hX,← hW];clear hX hW;refine (CO.o _ K0.o).mono ?_;rintro e I ⟨rfl,L⟩;have K1:Eq (Bl w I):=K0.o.trans (L.mono K0.o.size);have F:=bx.keep L;have R:=br.keep L;have x0:=F.all;clear L bx br;go_wp2_with fail
 clear x0;refine (CC.o _ K1.o).mono ?_;rintro e w2 ⟨f,c1,G,c,d,c3,rfl,a0,m⟩;obtain ⟨Y,hY⟩:=aG w2.heap.size;obtain ⟨w3,y⟩:=aG (w2.alloc (.cells #[iT q,sL f nm c1,sL G b c,sL d ns c3] 31));have k3:Bl w2 w3:=by rw [y];exact bZ
 have K3:Eq (Bl w w3):=(K1.o.trans (m.mono K1.o.size)).trans (k3.mono (FK K1.o.size m.size));have aN:Eq (cU I.heap.size w3 f nm c1 G b c d ns c3 M V S):=a0.below k3;have a5:=(F.keep m).keep k3;have ab:=(R.keep m).keep k3;have ar:aE w3 Y (iT q) (sL f nm c1) (sL G b c) (sL d ns c3):=by rw [y,hY];exact aE.new _ _ _ _ _ _
 have H:Eq (X+1<I.heap.size):=R.lt;have J:Eq (w.heap.size≤I.heap.size):=K1.o.size;have aL:Eq (X<Y∧X+1<Y):=by rw [hY];exact ⟨(F.keep m).lt,(R.keep m).lt⟩
 have aH:Eq (ay w3 Y 31 4):=by rw [y,hY];exact ⟨_,(by show (w2.heap.push _)[w2.heap.size]?=_;exact GE),rfl⟩
 have ac:Eq (d<Y):=by rw [hY];exact (a0.sn.lt d rfl).2
 have x0:=a5.all;clear m k3 a0 F R;go_upto_region 4 with fail
 rw [← y];try rw [← hY]
 clear y hY;go_wp2_with fail
 refine (CH.o _ K3.o).mono ?_;rintro e K ⟨rfl,g⟩;have K4:Eq (Bl w K):=K3.o.trans (g.mono K3.o.size);have t:Eq (cU I.heap.size K f nm c1 G b c d ns c3 M V S):=aN.o.below g;have al:Eq (Bl w3 K):=g;have aI:=a5.keep g;have N:=ab.keep g;have ah:=ar.keep g;clear x0 g a5 ab ar;have x0:=aI.all;have y0:=ah.all;have r0:=N.all;have D:Eq (cU I.heap.size K f nm c1 G b c d ns c3 M V S):=t.o;cases Z with
 | true =>
  have x:¬(ns<4∧q ∉ S):=fun h=>by have:=(hd.1 h).2;cases this
  clear hd;go_wp2;refine bodyPost_ret (v:=.tuple #[.agg #[iT q,sL f nm c1,sL G b c,sL d (ns) c3],.bool false]) ?_ rfl ⟨fun hn=>absurd hn x,fun _=>⟨f,c1,G,c,d,c3,rfl,?_,?_⟩⟩
  · have e:=(((N.set0 (iT q)).set1 (sL f nm c1)).set2 (sL G b c)).set3 (sL d (ns) c3);simp [results,Tryz.results36,go_sem,e.all]
  · exact (D.o.four H.o _ _ _ _).mono J.o
  · have hx:w.heap.size≤X+1:=by have:=HX.o;omega
    exact tk K4.o hx _ _ _ _
 | false =>
  by_cases h4:ns<4
  · have x:ns<4∧q ∉ S:=hd.2 ⟨h4,rfl⟩;have aR:¬(ns:Int) ≥ 4:=by omega
    have b7:=aL.o;have hsn:=t.o.sn.alloc (.cells #[iT q] 3);have b0:=K4.o.size;have aB:Eq (I.heap.size≤K.heap.size):=by have h1:=(t.o.sn.lt d rfl);show _≤_;omega
    have aW:=aB.o;have aC:Eq (X+1≠d):=by have h1:=(t.o.sn.lt d rfl).1;have h2:=H.o;show _≠_;omega
    clear hd D;go_upto_region 7 with (at_builtin;refine wpList_append_own _ rfl _ _ 24 rfl I.heap.size 3 i0 _ 1 8 Tryz.underlying24 hi aK aJ aQ rfl (by decide) _ _ _ rfl hsn ⟨K.heap.size,0,none⟩ 1 1 [iT q] rfl rfl (ew _ _ _) (by simp [Value.oneCell']) (by unfold maxLen;omega) (by omega) (by simp;omega) ?_;intro v5 w5 ai n b8;obtain ⟨g4,c4,rfl⟩:=ownsRow_succ ai;have n:(K.alloc (.cells #[iT q] 3)).grownBy w5 (some d):=n;have Q:=(ah.alloc (.cells #[iT q] 3)).grownB n (by have:=ac.o;omega);have ao:=(N.alloc (.cells #[iT q] 3)).grownB n aC.o;have y0:=Q.all;have yz:=Q.lt)
    have ka:Bl K (K.alloc (.cells #[iT q] 3)):=bZ;have aa:=(t.o.below ka).push n ai hq;have K5:Bl w w5:=(K4.o.alloc K4.o.size _).grown n (by simp;omega) (fun k e=>by cases e;exact FK J.o (t.o.sn.lt d rfl).1);obtain ⟨w6,s⟩:=aG (w5.setCell ⟨Y,3,none⟩ (sL g4 (ns+1) c4));have T:w5.grownBy w6 (some Y):=by rw [s];exact cJ _ _ _ _
    have ad:ay w5 Y 31 4:=by
     obtain ⟨aM,h1,h2⟩:=(aH.o.below al.o).below ka;exact ⟨aM,(n.block Y (Gm.1 h1).1 (fun e=>by have:=Fx e;have:=ac.o;omega)).trans h1,h2⟩
    have D:Eq (cU I.heap.size w6 f nm c1 G b c g4 (ns+1) c4 M V (S++[q])):=aa.kind ad (by decide) (by decide) (by decide) (by decide) T;have az:aE w6 Y (iT q) (sL f nm c1) (sL G b c) (sL g4 (ns+1) c4):=by rw [s];exact Q.set3 _
    have aw:aE w6 (X+1) (iT 0) nZ nZ nZ:=by rw [s];exact ao.other (b':=Y) (o:=3) (by omega) _
    have aP:Eq (aE w6 (X+1) (iT 0) nZ nZ nZ):=aw;have K6:Eq (Bl w w6):=by rw [s];exact K5.setCell (p:=⟨Y,3,none⟩) (by show _≤Y;have:=HX.o;omega) _
    rw [← s];clear s ad aa T y0 yz Q ao ka K5 x0 r0;have y0:=az.all;have r0:=aw.all;go_wp2;refine bodyPost_ret (v:=.tuple #[.agg #[iT q,sL f nm c1,sL G b c,sL g4 (ns+1) c4],.bool true]) ?_ rfl ⟨fun _=>⟨f,c1,G,c,g4,c4,rfl,?_,?_⟩,fun hn=>absurd x hn⟩
    · have e:=(((aP.o.set0 (iT q)).set1 (sL f nm c1)).set2 (sL G b c)).set3 (sL g4 (ns+1) c4);simp [results,Tryz.results36,go_sem,e.all]
    · exact (D.o.four H.o _ _ _ _).mono J.o
    · have hx:w.heap.size≤X+1:=by have:=HX.o;omega
      exact tk K6.o hx _ _ _ _
  · have x:¬(ns<4∧q ∉ S):=fun h=>h4 h.1
    have aR:(ns:Int) ≥ 4:=by omega
    clear hd;go_wp2;refine bodyPost_ret (v:=.tuple #[.agg #[iT q,sL f nm c1,sL G b c,sL d (ns) c3],.bool false]) ?_ rfl ⟨fun hn=>absurd hn x,fun _=>⟨f,c1,G,c,d,c3,rfl,?_,?_⟩⟩
    · have e:=(((N.set0 (iT q)).set1 (sL f nm c1)).set2 (sL G b c)).set3 (sL d (ns) c3);simp [results,Tryz.results36,go_sem,e.all]
    · exact (D.o.four H.o _ _ _ _).mono J.o
    · have hx:w.heap.size≤X+1:=by have:=HX.o;omega
      exact tk K4.o hx _ _ _ _
end Go.Proofs.YtpobkmjicbobdaaGreat
