/- Walks. -/
import Derived.Test.YtpobkmjicbobdaaGreatBW20
namespace Go.Proofs.YtpobkmjicbobdaaGreat
set_option maxRecDepth 100000
set_option maxHeartbeats 40000000
open Go.RowKit
variable {A B C:List af} {G X c c8 cm cs d1 d2 dA e1 e2 g8 gA k1 k2 k3 lo m1 m2 m3 n1 n2 nm ns:Nat} {M:List ac} {S:List Int} {a1 a2 a3 ak am:Option Addr} {q:Int} {u0 u1 u2 u3:Value} {w wi wj:World}
theorem fE {P:Program} {d:Array Oper} {o:Oper} {a:Act} {w:World} {K:Act→World→Prop} {Q:Exit→Act→World→Prop} {E:Prop}
 (hg:o.guard=none) (s x:Operand) (t:TypeId) (hop:o.op=Op.call { callee:=Callee.builtin Builtin.append,args:=#[s,x],argTypes:=#[t,t] })
 (base:Nat) (e:TypeId) (i:TypeInfo) (z:Value) (size bytes:Nat) (h1:P.underlying t=some (.slice e)) (h2:P.info? e=some i) (h3:i.zero=some z) (h4:i.size=size) (h5:i.bytes=bytes) (h6:z.cells.size=size) (h7:0<size)
 (v:Value) (n:Nat) (olds:List Value) (hs:a.eval s=v) (hown:w.ownsRow base e size v n olds)
 (ad:Addr) (m c:Nat) (news:List Value) (hx:a.eval x=.slice (some ad) m c) (hn:news.length=m*size) (hc:∀j u,news[j]?=some u→w.cell? (ad.add j)=some u) (h1c:∀u ∈ news,u.oneCell'=true)
 (b1:n+m≤maxLen) (b2:(n+m)*bytes≤140737488355328) (b3:base≤w.heap.size)
 (hK:∀b w',w'.ownsRow base e size b (n+m) (olds++news)→w.grownBy w' v.ownBlock→(b=nZ ↔ v=nZ∧m=0)→(b.ownBlock=v.ownBlock∨b.ownBlock=some w.heap.size)→K (a.put o.dst b) w') :
 if Region.wanted o (yielded d a.tmps)=true then Oper.wp P o a w K Q else E:=by
 have hw:Region.wanted o (yielded d a.tmps)=true:=by simp [Region.wanted,hg]
 rw [if_pos hw];obtain ⟨b,w',f,g,r2,r3,r4⟩:=run_append_own_at (P:=P) w base t o.type e i z size bytes h1 h2 h3 h4 h5 h6 h7 v n olds hown ad m c news hn hc h1c b1 b2 b3;unfold Oper.wp;simp [execOp,hop,resolve,invoke,builtin,hs,hx,f,Result.andThen];exact hK b w' g r2 r3 r4
structure FT (lo:Nat) (w wi:World) (X:Nat) (q:Int) (am:Option Addr) (nm cm G c:Nat) (ak:Option Addr) (ns cs gA dA e1 n1 d1 e2 n2 d2:Nat) (M:List ac) (A B C:List af) (S:List Int):Prop where
 low:iG lo none w wi
 bx:ay wi X (iT q) (.slice am nm cm) (sL G 3 c) (.slice ak ns cs)
 br:ay wi (X+1) (iT 0) nZ nZ nZ
 ts:mL lo wi am nm cm G c ak ns cs gA dA e1 n1 d1 e2 n2 d2 M A B C S
 kx:aq wi X 31 4∧aq wi (X+1) 31 4
 top:lo≤w.heap.size∧w.heap.size≤X
theorem FT.below (h:FT lo w wi X q am nm cm G c ak ns cs gA dA e1 n1 d1 e2 n2 d2 M A B C S) (hb:Bl wi wj):FT lo w wj X q am nm cm G c ak ns cs gA dA e1 n1 d1 e2 n2 d2 M A B C S :=
 ⟨h.low.next hb,h.bx.keep hb,h.br.keep hb,h.ts.below hb,⟨h.kx.1.below hb,h.kx.2.below hb⟩,h.top⟩
structure u7 (lo:Nat) (w wi:World) (X:Nat) (u0 u1 u2 u3:Value) (G c:Nat) (ak:Option Addr) (ns cs g8 c8 e1 n1 d1 e2 n2 d2:Nat) (A B C:List af) (S:List Int):Prop where
 low:iG lo none w wi
 bx:ay wi X u0 u1 u2 u3
 br:ay wi (X+1) (iT 0) nZ nZ nZ
 ts:mL lo wi none 0 0 G c ak ns cs g8 c8 e1 n1 d1 e2 n2 d2 [] A B C S
 kx:aq wi X 31 4∧aq wi (X+1) 31 4
 top:lo≤w.heap.size∧w.heap.size≤X
theorem u7.below (h:u7 lo w wi X u0 u1 u2 u3 G c ak ns cs g8 c8 e1 n1 d1 e2 n2 d2 A B C S) (hb:Bl wi wj):u7 lo w wj X u0 u1 u2 u3 G c ak ns cs g8 c8 e1 n1 d1 e2 n2 d2 A B C S :=
 ⟨h.low.next hb,h.bx.keep hb,h.br.keep hb,h.ts.below hb,⟨h.kx.1.below hb,h.kx.2.below hb⟩,h.top⟩
theorem uJ (h:u7 lo w wi X (iT q) (.slice a1 m1 k1) (.slice a2 m2 k2) (.slice a3 m3 k3) G c ak ns cs g8 c8 e1 n1 d1 e2 n2 d2 A B C S) (a:Option Addr) (m k:Nat):u7 lo w (wi.setCell ⟨X,1,none⟩ (.slice a m k)) X (iT q) (.slice a m k) (.slice a2 m2 k2) (.slice a3 m3 k3) G c ak ns cs g8 c8 e1 n1 d1 e2 n2 d2 A B C S :=
 ⟨h.low.put (dg _ _ _ _) (GU h.top.1 h.top.2) (.inl h.top.2),h.bx.set1 _,h.br.other (by omega) _,h.ts.box h.kx.1 (gN h.kx.1 h.bx) (dg _ _ _ _),⟨h.kx.1.setCell _,h.kx.2.setCell _⟩,h.top⟩
theorem rD {b:Nat} (h:u7 lo w wi X u0 u1 u2 u3 G c ak ns cs g8 c8 e1 n1 d1 e2 n2 d2 A B C S) (d:aP q [] [A,B,C] S=true∧nY [] A B C) (hO:ag wi lo b 0 0 []) :
 pG lo w (.returned (.tuple #[.agg #[iT q,sL b 0 0,sL G 3 c,.slice ak ns cs],.bool true])) ((((wi.setCell ⟨X+1,0,none⟩ (iT q)).setCell ⟨X+1,1,none⟩ (.slice a1 m1 k1)).setCell ⟨X+1,2,none⟩ (.slice a2 m2 k2)).setCell ⟨X+1,3,none⟩ (.slice a3 m3 k3)):=by
 have hx:lo≤X+1:=by have:=h.top;omega
 have e:mL lo wi (pT b) 0 0 G c ak ns cs g8 c8 e1 n1 d1 e2 n2 d2 [] A B C S:=⟨cE.some hO,h.ts.row,h.ts.rA,h.ts.rB,h.ts.rC,h.ts.sn,h.ts.sk⟩;exact ⟨_,_,rfl,⟨q,_,_,_,G,c,ak,ns,cs,g8,c8,e1,n1,d1,e2,n2,d2,[],A,B,C,S,rfl,e.four h.kx.2 h.br,d⟩,h.low.four hx (by have:=h.top;omega) _ _ _ _⟩
theorem dH.and {p f:Nat→Prop} {a:Option Addr} {n:Nat} (h1:dH p w a n c B) (h2:dH f w a n c B):dH (fun b=>p b∧f b) w a n c B:=⟨h1.1,fun x e hn=>⟨⟨(h1.2 x e hn).1,(h2.2 x e hn).1⟩,fun i hi s m d hc y g hm=>⟨(h1.2 x e hn).2 i hi s m d hc y g hm,(h2.2 x e hn).2 i hi s m d hc y g hm⟩⟩⟩
theorem uK {s t:World} {m:Int} {gl nl cl:Nat} {L:List ac} {g:List Value} (k3:FT lo w s X q am nm cm G c ak ns cs gA dA e1 n1 d1 e2 n2 d2 M A B C S) (o3:ag s lo gl nl cl L) (hm:(Lit.int .i64 m).wf=true)
 (a2:∀p ∈ A,(Lit.int .i64 p.2).wf=true) (a3:s.ownsRow lo 63 2 (sL gA A.length dA) A.length g) (a4:∀(i:Nat) (p:af),A[i]?=some p→∃e d,g[i*2]?=some (sL e p.1.length d)∧g[i*2+1]?=some (iT p.2)∧ag s lo e p.1.length d p.1)
 (hg:s.grownBy t (some gA)) (ho:t.ownsRow lo 63 2 (sL g8 (A.length+1) c8) (A.length+1) (g++[sL gl nl cl,iT m])) (hat:g8=gA∨g8=s.heap.size) :
 u7 lo w (t.setCell ⟨G,0,none⟩ (sL g8 (A.length+1) c8)) X (iT q) (.slice am nm cm) (sL G 3 c) (.slice ak ns cs) G c ak ns cs g8 c8 e1 n1 d1 e2 n2 d2 (A++[(L,m)]) B C S:=by
 obtain ⟨sA,H⟩:=aQ a3;obtain ⟨sG,y⟩:=aQ k3.ts.row;have K:G≠gA:=fun e=>by subst e;exact absurd (y.kind H) (by decide)
 have J:X≠gA:=fun e=>by subst e;exact absurd (k3.kx.1.kind H) (by decide)
 have u:X+1≠gA:=fun e=>by rw [← e] at H;exact absurd (k3.kx.2.kind H) (by decide)
 have T:X≠G:=fun e=>by rw [← e] at y;exact absurd (k3.kx.1.kind y) (by decide)
 have I:X+1≠G:=fun e=>by rw [← e] at y;exact absurd (k3.kx.2.kind y) (by decide)
 have E:∀x,ak=some x→0<ns→x.block≠gA∧x.block≠G:=fun x e hn=>by
  obtain ⟨_,k⟩:=k3.ts.sk x e hn;exact ⟨fun N=>by rw [N] at k;exact absurd (k.kind H) (by decide),fun N=>by rw [N] at k;exact absurd (k.kind y) (by decide)⟩
 have hlen:=o3.len;have F:bo lo t g8 (A.length+1) c8 (A++[(L,m)]):=ir rfl a2 a3 a4 (by rw [hlen];exact o3) hm hg (by rw [hlen];exact ho);have O:=y.grown hg K;have f:t.grownBy (t.setCell ⟨G,0,none⟩ (sL g8 (A.length+1) c8)) (some G):=dg _ _ _ _;have W:=(a3.lt gA rfl).1;have a0:=(k3.ts.row.lt G rfl).1;have aa:=(k3.ts.row.lt G rfl).2;have D:=k3.ts.row.kept hg (.inr fun e=>K (by simpa [Value.ownBlock] using e));have o:∀{a n d} {Z:List af},dH (fun b=>b≠gA∧b≠G) s a n d Z→dH (fun b=>b≠g8∧b≠G) (t.setCell ⟨G,0,none⟩ (sL g8 (A.length+1) c8)) a n d Z:=fun {a n d Z} hZ=>by
  have h1:=hZ.and (hZ.1.lowP (p:=(·<s.heap.size)) (fun b hb=>hb));have h2:=h1.same hg.size (fun b hb hl=>hg.block b hl (fun e=>hb.1.1 (GN e)));have h3:=h2.same (w':=t.setCell ⟨G,0,none⟩ (sL g8 (A.length+1) c8)) f.size (fun b hb hl=>f.block b hl (fun e=>hb.1.2 (GN e)));exact h3.imp (fun b hb=>⟨fun e=>hat.elim (fun h4=>hb.1.1 (e.trans h4)) (fun h4=>by have h5:=hb.2;omega),hb.1.2⟩)
 have r:∀{R Y:World} {Z:Nat},bJ lo R ak ns cs S→R.grownBy Y (some Z)→(∀x,ak=some x→0<ns→x.block≠Z)→bJ lo Y ak ns cs S:=fun {R Y Z} hs Q hk =>
  ⟨hs.length,hs.room,hs.big,hs.wfs,hs.nil,fun x e hp=>⟨E' (hs.lies x e hp).1 Q.size,(hs.lies x e hp).2⟩,fun x e i hi=>by
   have hp:0<ns:=by have:=hs.length;omega
   exact (Hz (a:=⟨x.block,x.off+i,none⟩) (Q.block _ (hs.lies x e hp).1 (fun N=>hk x e hp (GN N)))).trans (hs.cells x e i hi)⟩
 refine ⟨(k3.low.put hg W (.inr fun U=>absurd (U.kind H) (by decide))).put f a0 (.inr fun U=>absurd (U.kind O) (by decide)),(k3.bx.grownB hg J).other (fun e=>T e.symm) _,(k3.br.grownB hg u).other (fun e=>I e.symm) _,?_,⟨(k3.kx.1.grown hg J).setCell _,(k3.kx.2.grown hg u).setCell _⟩,k3.top⟩;refine ⟨cE.none _ _,?_,?_,o k3.ts.rB,o k3.ts.rC,r (r k3.ts.sn hg (fun x e hn=>(E x e hn).1)) f (fun x e hn=>(E x e hn).2),fun x e hn=>?_⟩
 · have h1:=(D.stored 0 (sL g8 (A.length+1) c8)).1;rw [show (A++[(L,m)]).length=A.length+1 by simp];exact h1
 · rw [show (A++[(L,m)]).length=A.length+1 by simp];exact F.grown O (by decide) (by decide) f
 · obtain ⟨sz,k⟩:=k3.ts.sk x e hn;exact ⟨sz,(k.grown hg (E x e hn).1).setCell _⟩
theorem FH (lo:Nat) (q:Int) (am:Option Addr) (nm cm G c:Nat) (ak:Option Addr) (ns cs gA dA e1 n1 d1 e2 n2 d2:Nat) (M:List ac) (A B C:List af) (S:List Int) (w:World) (F:mL lo w am nm cm G c ak ns cs gA dA e1 n1 d1 e2 n2 d2 M A B C S) (n:aP q M [A,B,C] S=true∧nY M A B C) (s:lo≤w.heap.size) (y:nm=0∨4≤A.length) :
 Calls Tryz.prog 115 #[.agg #[iT q,.slice am nm cm,sL G 3 c,.slice ak ns cs]] w (pG lo w):=by
 obtain ⟨X,d⟩:=aG w.heap.size;obtain ⟨W,f⟩:=aG ((w.alloc (.cells #[iT q,.slice am nm cm,sL G 3 c,.slice ak ns cs] 31)).alloc (.cells #[iT 0,nZ,nZ,nZ] 31));have t:Bl w W:=by rw [f];exact bZ.alloc (by simp) _
 have u:ay W X (iT q) (.slice am nm cm) (sL G 3 c) (.slice ak ns cs):=by rw [f,d];exact (ay.new _ _ _ _ _ _).alloc _
 have E:ay W (X+1) (iT 0) nZ nZ nZ:=by
  have:=ay.new (w.alloc (.cells #[iT q,.slice am nm cm,sL G 3 c,.slice ak ns cs] 31)) 31 (iT 0) nZ nZ nZ;rw [GY] at this;rw [f,d];exact this
 have D:aq W X 31 4∧aq W (X+1) 31 4:=by
  rw [f,d];refine ⟨aq.below ⟨_,(by show (w.heap.push _)[w.heap.size]?=_;exact In),rfl⟩ bZ,?_⟩;refine ⟨#[iT 0,nZ,nZ,nZ],?_,rfl⟩;show ((w.heap.push _).push _)[w.heap.size+1]?=_
  have:=In (xs:=w.heap.push (.cells #[iT q,.slice am nm cm,sL G 3 c,.slice ak ns cs] 31 (0,0))) (x:=.cells #[iT 0,nZ,nZ,nZ] 31 (0,0));rw [Array.size_push] at this;exact this
 have b:Eq (FT lo w W X q am nm cm G c ak ns cs gA dA e1 n1 d1 e2 n2 d2 M A B C S):=⟨iG.of t,u,E,F.below t,D,s,Nat.le_of_eq d.symm⟩;have g:=az n;have x0:=b.o.bx.all;have I:=b.o.br.all;obtain ⟨h0,_,_,hz,_⟩:=b.o.ts.head;by_cases hm:nm=0
 · subst hm;go_enter Tryz.func115,Tryz.ntmps115
   go_upto_region 1 with fail
   rw [← d,← f];clear d f;go_wp2;refine bodyPost_ret (v:=.tuple #[.agg #[iT q,.slice am 0 cm,sL G 3 c,.slice ak ns cs],.bool false]) ?_ rfl ?_
   · have e:=(((b.o.br.set0 (iT q)).set1 (.slice am 0 cm)).set2 (sL G 3 c)).set3 (.slice ak ns cs);simp [results,Tryz.results115,go_sem,e.all]
   · have hx:lo≤X+1:=by have:=b.o.top;omega
     refine ⟨_,_,rfl,⟨q,am,0,cm,G,c,ak,ns,cs,gA,dA,e1,n1,d1,e2,n2,d2,M,A,B,C,S,rfl,b.o.ts.four b.o.kx.2 b.o.br,g.o⟩,?_⟩;exact b.o.low.four hx (by have:=b.o.top;omega) _ _ _ _
 · have hA:4≤A.length:=by omega
   have m:(A.length:Int) ≥ 4:=by omega
   obtain ⟨J,r⟩:=aG A.length;rw [← r] at h0 m;have H:¬(nm:Int)=0:=by omega
   go_enter Tryz.func115,Tryz.ntmps115
   go_upto_region 1 with fail
   rw [← d,← f];clear d f;go_wp2;refine bodyPost_ret (v:=.tuple #[.agg #[iT q,.slice am nm cm,sL G 3 c,.slice ak ns cs],.bool false]) ?_ rfl ?_
   · have e:=(((b.o.br.set0 (iT q)).set1 (.slice am nm cm)).set2 (sL G 3 c)).set3 (.slice ak ns cs);simp [results,Tryz.results115,go_sem,e.all]
   · have hx:lo≤X+1:=by have:=b.o.top;omega
     refine ⟨_,_,rfl,⟨q,am,nm,cm,G,c,ak,ns,cs,gA,dA,e1,n1,d1,e2,n2,d2,M,A,B,C,S,rfl,b.o.ts.four b.o.kx.2 b.o.br,g.o⟩,?_⟩;exact b.o.low.four hx (by have:=b.o.top;omega) _ _ _ _
theorem FG (lo:Nat) (q:Int) (U nm cm G c:Nat) (ak:Option Addr) (ns cs gA dA e1 n1 d1 e2 n2 d2:Nat) (M:List ac) (A B C:List af) (S:List Int) (w:World) (hT:mL lo w (pT U) nm cm G c ak ns cs gA dA e1 n1 d1 e2 n2 d2 M A B C S) (ao:aP q M [A,B,C] S=true∧nY M A B C) (an:lo≤w.heap.size) (b3:1≤nm) (aE:nm≤1048576) (hA:A.length<4) :
 Calls Tryz.prog 115 #[.agg #[iT q,sL U nm cm,sL G 3 c,.slice ak ns cs]] w (pG lo w):=by
 obtain ⟨X,hX⟩:=aG w.heap.size;obtain ⟨W,hW⟩:=aG ((w.alloc (.cells #[iT q,sL U nm cm,sL G 3 c,.slice ak ns cs] 31)).alloc (.cells #[iT 0,nZ,nZ,nZ] 31));have kW:Bl w W:=by rw [hW];exact bZ.alloc (by simp) _
 have bx:ay W X (iT q) (sL U nm cm) (sL G 3 c) (.slice ak ns cs):=by rw [hW,hX];exact (ay.new _ _ _ _ _ _).alloc _
 have br:ay W (X+1) (iT 0) nZ nZ nZ:=by
  have:=ay.new (w.alloc (.cells #[iT q,sL U nm cm,sL G 3 c,.slice ak ns cs] 31)) 31 (iT 0) nZ nZ nZ;rw [GY] at this;rw [hW,hX];exact this
 have kx:aq W X 31 4∧aq W (X+1) 31 4:=by
  rw [hW,hX];refine ⟨aq.below ⟨_,(by show (w.heap.push _)[w.heap.size]?=_;exact In),rfl⟩ bZ,?_⟩;refine ⟨#[iT 0,nZ,nZ,nZ],?_,rfl⟩;show ((w.heap.push _).push _)[w.heap.size+1]?=_
  have:=In (xs:=w.heap.push (.cells #[iT q,sL U nm cm,sL G 3 c,.slice ak ns cs] 31 (0,0))) (x:=.cells #[iT 0,nZ,nZ,nZ] 31 (0,0));rw [Array.size_push] at this;exact this
 have ST:Eq (FT lo w W X q (pT U) nm cm G c ak ns cs gA dA e1 n1 d1 e2 n2 d2 M A B C S):=⟨iG.of kW,bx,br,hT.below kW,kx,an,Nat.le_of_eq hX.symm⟩;have ab:Eq (aP q [] [A++[mz M S],B,C] S=true∧nY [] (A++[mz M S]) B C):=⟨xI ao.1 (fun e=>by have:=hT.mem.len;rw [e] at this;simp at this;omega) hA,ao.2.flush S⟩;clear hT ao kW bx br kx;have x0:=ST.o.bx.all;have r0:=ST.o.br.all;obtain ⟨h0,_,_,hz,_⟩:=ST.o.ts.head;obtain ⟨L,hL⟩:=aG (bT M S false);obtain ⟨m,hm⟩:∃m:Int,m=((dL L:Nat):Int):=⟨_,rfl⟩;have al:Eq ((Lit.int .i64 m).wf=true):=by have:=qM L;rw [hm];exact Hu (by omega)
 have CQ:Eq (∀w',ah w' (pT U) nm cm M→bJ lo w' ak ns cs S→Calls Tryz.prog 174 #[sL U nm cm,.slice ak ns cs,.bool false] w' fun e ai=>∃y r t,e=.returned (sL y r t)∧ag ai w'.heap.size y r t L∧Bl w' ai):=fun w' h1 h2=>by
  rw [hL];exact mj lo _ nm cm M _ ns cs S false w' h1 h2 aE
 have au:Eq (∀(y r t:Nat) (w':World),ah w' (pT y) r t L→Calls Tryz.prog 173 #[sL y r t] w' fun e ai=>e=.returned (.agg #[sL y r t,iT m])∧Bl w' ai):=fun y r t w' h=>by
  rw [hm];exact qo _ r t L w' h
 have aK:mz M S=(L,m):=by unfold mz;rw [hm,hL]
 rw [aK] at ab;clear aK hL hm;obtain ⟨i0,hi,ap,aw,av⟩:=info_parts Tryz.infoRun;have b5:¬(A.length:Int) ≥ 4:=by omega
 have b6:A.length+1≤4:=by omega
 have b4:¬(nm:Int)=0:=by omega
 have aS:Eq (∀w':World,iG lo none w w'→lo≤w'.heap.size):=fun w' k=>GU an k.size
 have J:FT lo w W.drew X q (pT U) nm cm G c ak ns cs gA dA e1 n1 d1 e2 n2 d2 M A B C S:=ST.o.below (Below.refl _ W).drew;clear hA an;go_enter Tryz.func115,Tryz.ntmps115
 go_upto_region 1 with fail
 rw [← hX,← hW];clear hX hW;go_upto_region 3 with fail
 clear x0 r0 h0 hz ST;refine wp_region_held_drew (S:=(fun w'=>w'.cell? ⟨X,1,none⟩=some (sL U nm cm)∧w'.cell? ⟨X,2,none⟩=some (sL G 3 c)∧w'.cell? ⟨X,3,none⟩=some (.slice ak ns cs)∧X<w'.heap.size∧G<w'.heap.size)) (by kernel_rfl) (⟨J.bx.c1,J.bx.c2,J.bx.c3,J.bx.lt,J.ts.head.2.2.2.1⟩) (fun s=>?_);generalize W.drew=wd at J s ⊢;refine aR 0 5 s ?_;refine aR 6 4 s ?_;refine mK 5 10 (fun K hK=>?_) fun K hK=>?_
 · have q5:=J.ts.head.1;go_simp;clear q5;refine hK.o _ _ (⟨J.bx.c1,J.bx.c2,J.bx.c3,J.bx.lt,J.ts.head.2.2.2.1⟩) (fun s=>?_);clear hK K;(try go_frame);refine aV 10 fun K hK=>?_
   go_simp;refine (CQ.o _ J.ts.mem.entsAt J.ts.sn).mono ?_;rintro e w1 ⟨y,r,t,rfl,ar,ax⟩;have k1:=J.below ax;have o1:ag w1 lo y r t L:=ar.mono (aS.o _ J.low);go_wp2_with fail
   refine hK.o _ _ (⟨k1.bx.c1,k1.bx.c2,k1.bx.c3,k1.bx.lt,k1.ts.head.2.2.2.1⟩) (fun s=>?_);clear hK K;(try go_frame);refine aV 11 fun K hK=>?_
   go_simp;refine (au.o _ _ _ _ o1.entsAt).mono ?_;rintro e N ⟨rfl,T⟩;have k2:=k1.below T;have o2:=o1.below T;go_wp2_with fail
   refine hK.o _ _ (⟨k2.bx.c1,k2.bx.c2,k2.bx.c3,k2.bx.lt,k2.ts.head.2.2.2.1⟩) (fun s=>?_);clear hK K;(try go_frame);refine aV 12 fun K hK=>?_
   go_simp;have kc:Bl N (N.alloc (.cells #[sL y r t,iT m] 63)):=bZ;have k3:=k2.below kc;have o3:=o2.below kc;have d:=bW N (sL y r t) (iT m) 63;generalize N.heap.size=gb at d ⊢;generalize N.alloc (.cells #[sL y r t,iT m] 63)=wb at k3 o3 d ⊢;refine hK.o _ _ (⟨k3.bx.c1,k3.bx.c2,k3.bx.c3,k3.bx.lt,k3.ts.head.2.2.2.1⟩) (fun s=>?_);clear hK K;(try go_frame);refine aV 13 fun K hK=>?_
   obtain ⟨a1,a2,aI,a3,a4⟩:=k3.ts.rA;have f:X≠gA:=fun e=>by subst e;obtain ⟨_,kk⟩:=aQ a3;exact absurd (k3.kx.1.kind kk) (by decide)
   refine fE rfl (.tmp 22) (.tmp 29) 61 rfl lo 63 i0 _ 2 32 Tryz.underlying61 hi ap aw av rfl (by decide) _ _ _ rfl a3 ⟨gb,0,none⟩ 1 1 [sL y r t,iT m] rfl rfl d (by intro u hu;simp at hu;rcases hu with rfl | rfl <;> rfl) ?_ ?_ ?_ ?_
   · unfold maxLen;omega
   · omega
   · have h1:=(a3.lt gA rfl);omega
   intro v8 w8 E a8 aH R;obtain ⟨g8,c8,rfl⟩:=ownsRow_succ E;have b:wb.grownBy w8 (some gA):=a8;refine hK.o _ _ (⟨(k3.bx.grownB b f).c1,(k3.bx.grownB b f).c2,(k3.bx.grownB b f).c3,(k3.bx.grownB b f).lt,E' k3.ts.head.2.2.2.1 b.size⟩) (fun s=>?_);clear hK K;(try go_frame);refine aR 14 1 s ?_;refine aV 15 fun K hK=>?_
   have Q:G≠gA:=fun e=>by subst e;obtain ⟨_,kk⟩:=aQ a3;obtain ⟨_,kr⟩:=aQ k3.ts.row;exact absurd (kr.kind kk) (by decide)
   have I:some G≠some gA:=fun e=>Q (GN e)
   have q0:=b.cell k3.ts.head.1 I;have qf:=(bU b (x:=⟨G,0,none⟩) k3.ts.head.2.2.2.1 I).trans k3.ts.head.2.2.2.2;have qz:=E' k3.ts.head.2.2.2.1 b.size;go_simp;have D:u7 lo w (w8.setCell ⟨G,0,none⟩ (sL g8 (A.length+1) c8)) X (iT q) (sL U nm cm) (sL G 3 c) (.slice ak ns cs) G c ak ns cs g8 c8 e1 n1 d1 e2 n2 d2 (A++[(L,m)]) B C S:=uK k3 o3 al.o a2 a3 a4 b E (by have h9:(some g8:Option Nat)=some gA∨(some g8:Option Nat)=some wb.heap.size:=R;exact h9.imp GN GN);clear q0 qf qz;refine hK.o _ _ (⟨D.bx.c1,D.bx.c2,D.bx.c3,D.bx.lt,D.ts.head.2.2.2.1⟩) (fun s=>?_);clear hK K;(try go_frame);refine dN ?_;obtain ⟨O,F⟩:=aG (w8.setCell ⟨G,0,none⟩ (sL g8 (A.length+1) c8));rw [← F] at D;have H:Eq (u7 lo w O X (iT q) (sL U nm cm) (sL G 3 c) (.slice ak ns cs) G c ak ns cs g8 c8 e1 n1 d1 e2 n2 d2 (A++[(L,m)]) B C S):=D;rw [← F];clear F D k3 o3 d b E a1 a2 a3 a4 f Q I s J k1 k2 o1 o2;have y1:=H.o.bx.c1;have yf:=H.o.bx.fz;have yz:=H.o.bx.lt;obtain ⟨wA,g⟩:=aG ((O.setCell ⟨X,1,none⟩ (sL (O.heap.size) 0 0)).alloc (.cells #[] 50));obtain ⟨Y,n⟩:=aG O.heap.size;have a5:Eq (ag wA lo Y 0 0 []):=by rw [g,n];show ag _ _ _ _ _ _;have h1:=cK (O.setCell ⟨X,1,none⟩ (sL (O.heap.size) 0 0)) lo (by have:=H.o.low.size;have:=H.o.top;simp [World.setCell];omega);simpa [World.setCell] using h1
   have Z:Eq (u7 lo w wA X (iT q) (sL Y 0 0) (sL G 3 c) (.slice ak ns cs) G c ak ns cs g8 c8 e1 n1 d1 e2 n2 d2 (A++[(L,m)]) B C S):=by
    rw [g,← n];refine u7.below ?_ bZ;exact uJ H.o _ _ _
   go_upto_region 5 with fail
   rw [← g];try rw [← n]
   clear g n y1 yf yz H;have y0:=Z.o.bx.all;have r0:=Z.o.br.all;go_wp2;refine bodyPost_ret (v:=.tuple #[.agg #[iT q,sL Y 0 0,sL G 3 c,.slice ak ns cs],.bool true]) ?_ rfl ?_
   · have e:=(((Z.o.br.set0 (iT q)).set1 (sL Y 0 0)).set2 (sL G 3 c)).set3 (.slice ak ns cs);simp [results,Tryz.results115,go_sem,e.all]
   · exact rD Z.o ab.o a5.o
 · go_simp;refine (CQ.o _ J.ts.mem.entsAt J.ts.sn).mono ?_;rintro e w1 ⟨y,r,t,rfl,ar,ax⟩;have k1:=J.below ax;have o1:ag w1 lo y r t L:=ar.mono (aS.o _ J.low);go_wp2_with fail
   refine hK.o _ _ (⟨k1.bx.c1,k1.bx.c2,k1.bx.c3,k1.bx.lt,k1.ts.head.2.2.2.1⟩) (fun s=>?_);clear hK K;(try go_frame);refine mK 5 11 (fun K hK=>?_) fun K hK=>?_
   · have q5:=k1.ts.head.1;go_simp;clear q5;refine hK.o _ _ (⟨k1.bx.c1,k1.bx.c2,k1.bx.c3,k1.bx.lt,k1.ts.head.2.2.2.1⟩) (fun s=>?_);clear hK K;(try go_frame);refine aV 11 fun K hK=>?_
     go_simp;refine (au.o _ _ _ _ o1.entsAt).mono ?_;rintro e N ⟨rfl,T⟩;have k2:=k1.below T;have o2:=o1.below T;go_wp2_with fail
     refine hK.o _ _ (⟨k2.bx.c1,k2.bx.c2,k2.bx.c3,k2.bx.lt,k2.ts.head.2.2.2.1⟩) (fun s=>?_);clear hK K;(try go_frame);refine aV 12 fun K hK=>?_
     go_simp;have kc:Bl N (N.alloc (.cells #[sL y r t,iT m] 63)):=bZ;have k3:=k2.below kc;have o3:=o2.below kc;have d:=bW N (sL y r t) (iT m) 63;generalize N.heap.size=gb at d ⊢;generalize N.alloc (.cells #[sL y r t,iT m] 63)=wb at k3 o3 d ⊢;refine hK.o _ _ (⟨k3.bx.c1,k3.bx.c2,k3.bx.c3,k3.bx.lt,k3.ts.head.2.2.2.1⟩) (fun s=>?_);clear hK K;(try go_frame);refine aV 13 fun K hK=>?_
     obtain ⟨a1,a2,aI,a3,a4⟩:=k3.ts.rA;have f:X≠gA:=fun e=>by subst e;obtain ⟨_,kk⟩:=aQ a3;exact absurd (k3.kx.1.kind kk) (by decide)
     refine fE rfl (.tmp 22) (.tmp 29) 61 rfl lo 63 i0 _ 2 32 Tryz.underlying61 hi ap aw av rfl (by decide) _ _ _ rfl a3 ⟨gb,0,none⟩ 1 1 [sL y r t,iT m] rfl rfl d (by intro u hu;simp at hu;rcases hu with rfl | rfl <;> rfl) ?_ ?_ ?_ ?_
     · unfold maxLen;omega
     · omega
     · have h1:=(a3.lt gA rfl);omega
     intro v8 w8 E a8 aH R;obtain ⟨g8,c8,rfl⟩:=ownsRow_succ E;have b:wb.grownBy w8 (some gA):=a8;refine hK.o _ _ (⟨(k3.bx.grownB b f).c1,(k3.bx.grownB b f).c2,(k3.bx.grownB b f).c3,(k3.bx.grownB b f).lt,E' k3.ts.head.2.2.2.1 b.size⟩) (fun s=>?_);clear hK K;(try go_frame);refine aR 14 1 s ?_;refine aV 15 fun K hK=>?_
     have Q:G≠gA:=fun e=>by subst e;obtain ⟨_,kk⟩:=aQ a3;obtain ⟨_,kr⟩:=aQ k3.ts.row;exact absurd (kr.kind kk) (by decide)
     have I:some G≠some gA:=fun e=>Q (GN e)
     have q0:=b.cell k3.ts.head.1 I;have qf:=(bU b (x:=⟨G,0,none⟩) k3.ts.head.2.2.2.1 I).trans k3.ts.head.2.2.2.2;have qz:=E' k3.ts.head.2.2.2.1 b.size;go_simp;have D:u7 lo w (w8.setCell ⟨G,0,none⟩ (sL g8 (A.length+1) c8)) X (iT q) (sL U nm cm) (sL G 3 c) (.slice ak ns cs) G c ak ns cs g8 c8 e1 n1 d1 e2 n2 d2 (A++[(L,m)]) B C S:=uK k3 o3 al.o a2 a3 a4 b E (by have h9:(some g8:Option Nat)=some gA∨(some g8:Option Nat)=some wb.heap.size:=R;exact h9.imp GN GN);clear q0 qf qz;refine hK.o _ _ (⟨D.bx.c1,D.bx.c2,D.bx.c3,D.bx.lt,D.ts.head.2.2.2.1⟩) (fun s=>?_);clear hK K;(try go_frame);refine dN ?_;obtain ⟨O,F⟩:=aG (w8.setCell ⟨G,0,none⟩ (sL g8 (A.length+1) c8));rw [← F] at D;have H:Eq (u7 lo w O X (iT q) (sL U nm cm) (sL G 3 c) (.slice ak ns cs) G c ak ns cs g8 c8 e1 n1 d1 e2 n2 d2 (A++[(L,m)]) B C S):=D;rw [← F];clear F D k3 o3 d b E a1 a2 a3 a4 f Q I s J k1 k2 o1 o2;have y1:=H.o.bx.c1;have yf:=H.o.bx.fz;have yz:=H.o.bx.lt;obtain ⟨wA,g⟩:=aG ((O.setCell ⟨X,1,none⟩ (sL (O.heap.size) 0 0)).alloc (.cells #[] 50));obtain ⟨Y,n⟩:=aG O.heap.size;have a5:Eq (ag wA lo Y 0 0 []):=by rw [g,n];show ag _ _ _ _ _ _;have h1:=cK (O.setCell ⟨X,1,none⟩ (sL (O.heap.size) 0 0)) lo (by have:=H.o.low.size;have:=H.o.top;simp [World.setCell];omega);simpa [World.setCell] using h1
     have Z:Eq (u7 lo w wA X (iT q) (sL Y 0 0) (sL G 3 c) (.slice ak ns cs) G c ak ns cs g8 c8 e1 n1 d1 e2 n2 d2 (A++[(L,m)]) B C S):=by
      rw [g,← n];refine u7.below ?_ bZ;exact uJ H.o _ _ _
     go_upto_region 5 with fail
     rw [← g];try rw [← n]
     clear g n y1 yf yz H;have y0:=Z.o.bx.all;have r0:=Z.o.br.all;go_wp2;refine bodyPost_ret (v:=.tuple #[.agg #[iT q,sL Y 0 0,sL G 3 c,.slice ak ns cs],.bool true]) ?_ rfl ?_
     · have e:=(((Z.o.br.set0 (iT q)).set1 (sL Y 0 0)).set2 (sL G 3 c)).set3 (.slice ak ns cs);simp [results,Tryz.results115,go_sem,e.all]
     · exact rD Z.o ab.o a5.o
   · go_simp;refine (au.o _ _ _ _ o1.entsAt).mono ?_;rintro e N ⟨rfl,T⟩;have k2:=k1.below T;have o2:=o1.below T;go_wp2_with fail
     refine hK.o _ _ (⟨k2.bx.c1,k2.bx.c2,k2.bx.c3,k2.bx.lt,k2.ts.head.2.2.2.1⟩) (fun s=>?_);clear hK K;(try go_frame);refine mK 5 12 (fun K hK=>?_) fun K hK=>?_
     focus
      have q5:=k2.ts.head.1
      go_simp
      clear q5
      refine hK.o _ _ (⟨k2.bx.c1,k2.bx.c2,k2.bx.c3,k2.bx.lt,k2.ts.head.2.2.2.1⟩) (fun s=>?_)
      clear hK K
      (try go_frame)
      refine aV 12 fun K hK=>?_
      go_simp
      have kc:Bl N (N.alloc (.cells #[sL y r t,iT m] 63)):=bZ
      have k3:=k2.below kc
      have o3:=o2.below kc
      have d:=bW N (sL y r t) (iT m) 63
      generalize N.heap.size=gb at d ⊢
      generalize N.alloc (.cells #[sL y r t,iT m] 63)=wb at k3 o3 d ⊢
     rotate_left
     focus
      go_simp
      have kc:Bl N (N.alloc (.cells #[sL y r t,iT m] 63)):=bZ
      have k3:=k2.below kc
      have o3:=o2.below kc
      have d:=bW N (sL y r t) (iT m) 63
      generalize N.heap.size=gb at d ⊢
      generalize N.alloc (.cells #[sL y r t,iT m] 63)=wb at k3 o3 d ⊢
      refine hK.o _ _ (⟨k3.bx.c1,k3.bx.c2,k3.bx.c3,k3.bx.lt,k3.ts.head.2.2.2.1⟩) (fun s=>?_)
      clear hK K
      (try go_frame)
      refine aV 5 fun K hK=>?_
      have q5:=k3.ts.head.1
      go_simp
      clear q5
     all_goals
      refine hK.o _ _ (⟨k3.bx.c1,k3.bx.c2,k3.bx.c3,k3.bx.lt,k3.ts.head.2.2.2.1⟩) (fun s=>?_)
      clear hK K
      (try go_frame)
      refine aV 13 fun K hK=>?_
      obtain ⟨a1,a2,aI,a3,a4⟩:=k3.ts.rA;have f:X≠gA:=fun e=>by subst e;obtain ⟨_,kk⟩:=aQ a3;exact absurd (k3.kx.1.kind kk) (by decide)
      refine fE rfl (.tmp 22) (.tmp 29) 61 rfl lo 63 i0 _ 2 32 Tryz.underlying61 hi ap aw av rfl (by decide) _ _ _ rfl a3 ⟨gb,0,none⟩ 1 1 [sL y r t,iT m] rfl rfl d (by intro u hu;simp at hu;rcases hu with rfl | rfl <;> rfl) ?_ ?_ ?_ ?_
      · unfold maxLen;omega
      · omega
      · have h1:=(a3.lt gA rfl);omega
      intro v8 w8 E a8 aH R
      obtain ⟨g8,c8,rfl⟩:=ownsRow_succ E
      have b:wb.grownBy w8 (some gA):=a8
      refine hK.o _ _ (⟨(k3.bx.grownB b f).c1,(k3.bx.grownB b f).c2,(k3.bx.grownB b f).c3,(k3.bx.grownB b f).lt,E' k3.ts.head.2.2.2.1 b.size⟩) (fun s=>?_)
      clear hK K
      (try go_frame)
      refine aR 14 1 s ?_
      refine aV 15 fun K hK=>?_
      have Q:G≠gA:=fun e=>by subst e;obtain ⟨_,kk⟩:=aQ a3;obtain ⟨_,kr⟩:=aQ k3.ts.row;exact absurd (kr.kind kk) (by decide)
      have I:some G≠some gA:=fun e=>Q (GN e)
      have q0:=b.cell k3.ts.head.1 I;have qf:=(bU b (x:=⟨G,0,none⟩) k3.ts.head.2.2.2.1 I).trans k3.ts.head.2.2.2.2;have qz:=E' k3.ts.head.2.2.2.1 b.size;go_simp;have D:u7 lo w (w8.setCell ⟨G,0,none⟩ (sL g8 (A.length+1) c8)) X (iT q) (sL U nm cm) (sL G 3 c) (.slice ak ns cs) G c ak ns cs g8 c8 e1 n1 d1 e2 n2 d2 (A++[(L,m)]) B C S:=uK k3 o3 al.o a2 a3 a4 b E (by have h9:(some g8:Option Nat)=some gA∨(some g8:Option Nat)=some wb.heap.size:=R;exact h9.imp GN GN);clear q0 qf qz;refine hK.o _ _ (⟨D.bx.c1,D.bx.c2,D.bx.c3,D.bx.lt,D.ts.head.2.2.2.1⟩) (fun s=>?_);clear hK K;(try go_frame);refine dN ?_;obtain ⟨O,F⟩:=aG (w8.setCell ⟨G,0,none⟩ (sL g8 (A.length+1) c8));rw [← F] at D;have H:Eq (u7 lo w O X (iT q) (sL U nm cm) (sL G 3 c) (.slice ak ns cs) G c ak ns cs g8 c8 e1 n1 d1 e2 n2 d2 (A++[(L,m)]) B C S):=D;rw [← F];clear F D k3 o3 d b E a1 a2 a3 a4 f Q I s J k1 k2 o1 o2;have y1:=H.o.bx.c1;have yf:=H.o.bx.fz;have yz:=H.o.bx.lt;obtain ⟨wA,g⟩:=aG ((O.setCell ⟨X,1,none⟩ (sL (O.heap.size) 0 0)).alloc (.cells #[] 50));obtain ⟨Y,n⟩:=aG O.heap.size;have a5:Eq (ag wA lo Y 0 0 []):=by rw [g,n];show ag _ _ _ _ _ _;have h1:=cK (O.setCell ⟨X,1,none⟩ (sL (O.heap.size) 0 0)) lo (by have:=H.o.low.size;have:=H.o.top;simp [World.setCell];omega);simpa [World.setCell] using h1
      have Z:Eq (u7 lo w wA X (iT q) (sL Y 0 0) (sL G 3 c) (.slice ak ns cs) G c ak ns cs g8 c8 e1 n1 d1 e2 n2 d2 (A++[(L,m)]) B C S):=by
       rw [g,← n];refine u7.below ?_ bZ;exact uJ H.o _ _ _
      go_upto_region 5 with fail
      rw [← g]
      try rw [← n]
      clear g n y1 yf yz H
      have y0:=Z.o.bx.all
      have r0:=Z.o.br.all
      go_wp2
      refine bodyPost_ret (v:=.tuple #[.agg #[iT q,sL Y 0 0,sL G 3 c,.slice ak ns cs],.bool true]) ?_ rfl ?_
      · have e:=(((Z.o.br.set0 (iT q)).set1 (sL Y 0 0)).set2 (sL G 3 c)).set3 (.slice ak ns cs);simp [results,Tryz.results115,go_sem,e.all]
      · exact rD Z.o ab.o a5.o
theorem DL (lo:Nat) (v:Value) (w:World) (h:dr lo w v) (e:lo≤w.heap.size):Calls Tryz.prog 115 #[v] w (pG lo w):=by
 obtain ⟨q,am,nm,cm,G,c,ak,ns,cs,gA,dA,e1,n1,d1,e2,n2,d2,M,A,B,C,S,rfl,d,b⟩:=h;by_cases f:nm=0∨4≤A.length
 · exact FH lo q am nm cm G c ak ns cs gA dA e1 n1 d1 e2 n2 d2 M A B C S w d b e f
 · have hl:=d.mem.len;have hm:=(aL b.1).2.2.1;cases am with
   | none=>have:=(d.mem.nil rfl).1;omega
   | some x =>
    obtain ⟨g,rfl,_⟩:=d.mem.own x rfl;exact FG lo q g nm cm G c ak ns cs gA dA e1 n1 d1 e2 n2 d2 M A B C S w d b e (by omega) (by omega) (by omega)
theorem Aq (lo:Nat) (q:Int) (am:Option Addr) (nm cm:Nat) (J:Option Addr) (b O:Nat) (ak:Option Addr) (ns cs:Nat) (M:List ac) (V:List (List af)) (S:List Int) (w:World) (hT:aZ lo w am nm cm J b O ak ns cs M V S) (hq:(Lit.int .i64 q).wf=true) (u:aP q M V S=true) :
 Calls Tryz.prog 36 #[.agg #[iT q,.slice am nm cm,.slice J b O,.slice ak ns cs]] w fun e w'=>(ns<4∧q ∉ S→xB q nm b (ns+1) M V (S++[q]) true w e w')∧(¬(ns<4∧q ∉ S)→xB q nm b ns M V S false w e w'):=by
 have hsl:=hT.snaps.length;have hns:ns≤4:=by
  have h1:=(aL u).2.2.2.2.2.2.1;unfold cG at h1;rw [G2] at h1;have h2:=of_decide_eq_true h1.1;omega
 have b3:nm≤60:=by have h1:=(aL u).2.2.1;have h2:=hT.mem.1.length;omega
 obtain ⟨A,B,C,a5⟩:=dX u;have b2:b≤100:=by have h1:=hT.levels.length;rw [a5] at h1;have h2:([A,B,C]:List (List af)).length=3:=rfl;omega
 have ax:∀B ∈ V,B.length≤100∧∀r ∈ B,1≤r.1.length∧r.1.length≤10000:=by
  have h8:fa V q=true:=(aL u).2.2.2.2.2.2.2.1;rw [a5] at h8 ⊢;unfold fa at h8;simp only [G2] at h8;intro Z aw;simp only [GZ,Hs,or_false] at aw;rcases aw with rfl | rfl | rfl
  · exact cT h8.1 (by omega)
  · exact cT h8.2.1 (by omega)
  · exact cT h8.2.2 (by omega)
 obtain ⟨Z,hZ⟩:=aG (decide (q ∈ S));have CO:Eq (∀w',Bl w w'→Calls Tryz.prog 27 #[.agg #[iT q,.slice am nm cm,.slice J b O,.slice ak ns cs]] w' fun e x=>e=.returned (.bool true)∧Bl w' x):=fun w' k=>by
  have:=iq lo q _ _ _ _ _ _ _ _ _ M V S w' (hT.keep k);rw [u] at this;exact this
 have CC:Eq (∀w',Bl w w'→Calls Tryz.prog 57 #[.agg #[iT q,.slice am nm cm,.slice J b O,.slice ak ns cs]] w' fun e x=>∃f c1 G c d c3,e=.returned (.agg #[iT q,sL f nm c1,sL G b c,sL d ns c3])∧cQ w'.heap.size x f nm c1 G b c d ns c3 M V S∧Bl w' x):=fun w' k=>io lo q am J ak nm cm b O ns cs M V S w' (hT.keep k) (by omega) (by omega) (by omega) ax
 have CH:Eq (∀w',Bl w w'→Calls Tryz.prog 102 #[.agg #[iT q,.slice am nm cm,.slice J b O,.slice ak ns cs],iT q] w' fun e x=>e=.returned (.bool Z)∧Bl w' x):=fun w' k=>by rw [hZ];exact Ez lo q q _ _ _ _ _ _ _ _ _ S w' (hT.snaps.keep k) (by omega)
 obtain ⟨i0,hi,aH,aT,aK⟩:=info_parts Tryz.infoInt;obtain ⟨X,hX⟩:=aG w.heap.size;obtain ⟨W,hW⟩:=aG ((w.alloc (.cells #[iT q,.slice am nm cm,.slice J b O,.slice ak ns cs] 31)).alloc (.cells #[iT 0,nZ,nZ,nZ] 31));have kW:Bl w W:=by rw [hW];exact bZ.alloc (by simp) _
 have bx:ay W X (iT q) (.slice am nm cm) (.slice J b O) (.slice ak ns cs):=by rw [hW,hX];exact (ay.new _ _ _ _ _ _).alloc _
 have br:ay W (X+1) (iT 0) nZ nZ nZ:=by
  have:=ay.new (w.alloc (.cells #[iT q,.slice am nm cm,.slice J b O,.slice ak ns cs] 31)) 31 (iT 0) nZ nZ nZ;rw [GY] at this;rw [hW,hX];exact this
 have HX:Eq (X=w.heap.size):=hX;have K0:Eq (Bl w W):=kW;have hd:(ns<4∧q ∉ S) ↔ (ns<4∧Z=false):=by rw [hZ];simp
 clear hT kW ax hsl u hZ a5;go_enter Tryz.func36,Tryz.ntmps36
 go_wp2_with fail
 rw [← hX,← hW];clear hX hW;refine (CO.o _ K0.o).mono ?_;rintro e N ⟨rfl,T⟩;have K1:Eq (Bl w N):=K0.o.trans (T.mono K0.o.size);have L:=bx.keep T;have F:=br.keep T;have x0:=L.all;clear T bx br;go_wp2_with fail
 clear x0;refine (CC.o _ K1.o).mono ?_;rintro e w2 ⟨f,c1,G,c,d,c3,rfl,a0,g⟩;obtain ⟨Y,hY⟩:=aG w2.heap.size;obtain ⟨w3,D⟩:=aG (w2.alloc (.cells #[iT q,sL f nm c1,sL G b c,sL d ns c3] 31));have k3:Bl w2 w3:=by rw [D];exact bZ
 have K3:Eq (Bl w w3):=(K1.o.trans (g.mono K1.o.size)).trans (k3.mono (GU K1.o.size g.size));have aI:Eq (cQ N.heap.size w3 f nm c1 G b c d ns c3 M V S):=a0.below k3;have a6:=(L.keep g).keep k3;have ah:=(F.keep g).keep k3;have aj:ay w3 Y (iT q) (sL f nm c1) (sL G b c) (sL d ns c3):=by rw [D,hY];exact ay.new _ _ _ _ _ _
 have R:Eq (X+1<N.heap.size):=F.lt;have Q:Eq (w.heap.size≤N.heap.size):=K1.o.size;have aM:Eq (X<Y∧X+1<Y):=by rw [hY];exact ⟨(L.keep g).lt,(F.keep g).lt⟩
 have aJ:Eq (aq w3 Y 31 4):=by rw [D,hY];exact ⟨_,(by show (w2.heap.push _)[w2.heap.size]?=_;exact In),rfl⟩
 have au:Eq (d<Y):=by rw [hY];exact (a0.sn.lt d rfl).2
 have x0:=a6.all;clear g k3 a0 L F;go_upto_region 4 with fail
 rw [← D];try rw [← hY]
 clear D hY;go_wp2_with fail
 refine (CH.o _ K3.o).mono ?_;rintro e K ⟨rfl,m⟩;have K4:Eq (Bl w K):=K3.o.trans (m.mono K3.o.size);have t:Eq (cQ N.heap.size K f nm c1 G b c d ns c3 M V S):=aI.o.below m;have ag:Eq (Bl w3 K):=m;have aQ:=a6.keep m;have H:=ah.keep m;have ao:=aj.keep m;clear x0 m a6 ah aj;have x0:=aQ.all;have y0:=ao.all;have r0:=H.all;have E:Eq (cQ N.heap.size K f nm c1 G b c d ns c3 M V S):=t.o;cases Z with
 | true =>
  have y:¬(ns<4∧q ∉ S):=fun h=>by have:=(hd.1 h).2;cases this
  clear hd;go_wp2;refine bodyPost_ret (v:=.tuple #[.agg #[iT q,sL f nm c1,sL G b c,sL d (ns) c3],.bool false]) ?_ rfl ⟨fun hn=>absurd hn y,fun _=>⟨f,c1,G,c,d,c3,rfl,?_,?_⟩⟩
  · have e:=(((H.set0 (iT q)).set1 (sL f nm c1)).set2 (sL G b c)).set3 (sL d (ns) c3);simp [results,Tryz.results36,go_sem,e.all]
  · exact (E.o.four R.o _ _ _ _).mono Q.o
  · have hx:w.heap.size≤X+1:=by have:=HX.o;omega
    exact jY K4.o hx _ _ _ _
 | false =>
  by_cases h4:ns<4
  · have y:ns<4∧q ∉ S:=hd.2 ⟨h4,rfl⟩;have aS:¬(ns:Int) ≥ 4:=by omega
    have ba:=aM.o;have hsn:=t.o.sn.alloc (.cells #[iT q] 3);have b5:=K4.o.size;have aN:Eq (N.heap.size≤K.heap.size):=by have h1:=(t.o.sn.lt d rfl);show _≤_;omega
    have aY:=aN.o;have aR:Eq (X+1≠d):=by have h1:=(t.o.sn.lt d rfl).1;have h2:=R.o;show _≠_;omega
    clear hd E;go_upto_region 7 with (at_builtin;refine wpList_append_own _ rfl _ _ 24 rfl N.heap.size 3 i0 _ 1 8 Tryz.underlying24 hi aH aT aK rfl (by decide) _ _ _ rfl hsn ⟨K.heap.size,0,none⟩ 1 1 [iT q] rfl rfl (dU _ _ _) (by simp [Value.oneCell']) (by unfold maxLen;omega) (by omega) (by simp;omega) ?_;intro v5 w5 ab n b7;obtain ⟨g4,c4,rfl⟩:=ownsRow_succ ab;have n:(K.alloc (.cells #[iT q] 3)).grownBy w5 (some d):=n;have I:=(ao.alloc (.cells #[iT q] 3)).grownB n (by have:=au.o;omega);have ae:=(H.alloc (.cells #[iT q] 3)).grownB n aR.o;have y0:=I.all;have yz:=I.lt)
    have ka:Bl K (K.alloc (.cells #[iT q] 3)):=bZ;have ap:=(t.o.below ka).push n ab hq;have K5:Bl w w5:=(K4.o.alloc K4.o.size _).grown n (by simp;omega) (fun k e=>by cases e;exact GU Q.o (t.o.sn.lt d rfl).1);obtain ⟨w6,s⟩:=aG (w5.setCell ⟨Y,3,none⟩ (sL g4 (ns+1) c4));have U:w5.grownBy w6 (some Y):=by rw [s];exact dg _ _ _ _
    have an:aq w5 Y 31 4:=by
     obtain ⟨aF,h1,h2⟩:=(aJ.o.below ag.o).below ka;exact ⟨aF,(n.block Y (Ii.1 h1).1 (fun e=>by have:=GN e;have:=au.o;omega)).trans h1,h2⟩
    have E:Eq (cQ N.heap.size w6 f nm c1 G b c g4 (ns+1) c4 M V (S++[q])):=ap.kind an (by decide) (by decide) (by decide) (by decide) U;have aO:ay w6 Y (iT q) (sL f nm c1) (sL G b c) (sL g4 (ns+1) c4):=by rw [s];exact I.set3 _
    have ai:ay w6 (X+1) (iT 0) nZ nZ nZ:=by rw [s];exact ae.other (b':=Y) (o:=3) (by omega) _
    have aE:Eq (ay w6 (X+1) (iT 0) nZ nZ nZ):=ai;have K6:Eq (Bl w w6):=by rw [s];exact K5.setCell (p:=⟨Y,3,none⟩) (by show _≤Y;have:=HX.o;omega) _
    rw [← s];clear s an ap U y0 yz I ae ka K5 x0 r0;have y0:=aO.all;have r0:=ai.all;go_wp2;refine bodyPost_ret (v:=.tuple #[.agg #[iT q,sL f nm c1,sL G b c,sL g4 (ns+1) c4],.bool true]) ?_ rfl ⟨fun _=>⟨f,c1,G,c,g4,c4,rfl,?_,?_⟩,fun hn=>absurd y hn⟩
    · have e:=(((aE.o.set0 (iT q)).set1 (sL f nm c1)).set2 (sL G b c)).set3 (sL g4 (ns+1) c4);simp [results,Tryz.results36,go_sem,e.all]
    · exact (E.o.four R.o _ _ _ _).mono Q.o
    · have hx:w.heap.size≤X+1:=by have:=HX.o;omega
      exact jY K6.o hx _ _ _ _
  · have y:¬(ns<4∧q ∉ S):=fun h=>h4 h.1
    have aS:(ns:Int) ≥ 4:=by omega
    clear hd;go_wp2;refine bodyPost_ret (v:=.tuple #[.agg #[iT q,sL f nm c1,sL G b c,sL d (ns) c3],.bool false]) ?_ rfl ⟨fun hn=>absurd hn y,fun _=>⟨f,c1,G,c,d,c3,rfl,?_,?_⟩⟩
    · have e:=(((H.set0 (iT q)).set1 (sL f nm c1)).set2 (sL G b c)).set3 (sL d (ns) c3);simp [results,Tryz.results36,go_sem,e.all]
    · exact (E.o.four R.o _ _ _ _).mono Q.o
    · have hx:w.heap.size≤X+1:=by have:=HX.o;omega
      exact jY K4.o hx _ _ _ _
end Go.Proofs.YtpobkmjicbobdaaGreat
