/- Walks. -/
import Derived.Test.YtpobkmjicbobdaaGreatBl23
namespace Go.Proofs.YtpobkmjicbobdaaGreat
set_option maxRecDepth 100000
set_option maxHeartbeats 40000000
open Go.RowKit
variable {A B C:List an} {G X c c8 cm cs d1 d2 dA e1 e2 g8 gA k1 k2 k3 lo m1 m2 m3 n1 n2 nm ns:Nat} {M:List ac} {S:List Int} {a1 a2 a3 ak am:Option Addr} {q:Int} {u0 u1 u2 u3:Value} {w wi wj:World}
theorem ef {P:Program} {f:Array Oper} {o:Oper} {a:Act} {w:World} {K:Act→World→Prop} {Q:Exit→Act→World→Prop} {E:Prop}
 (hg:o.guard=none) (s x:Operand) (t:TypeId) (hop:o.op=Op.call { callee:=Callee.builtin Builtin.append,args:=#[s,x],argTypes:=#[t,t] })
 (base:Nat) (e:TypeId) (i:TypeInfo) (z:Value) (size bytes:Nat) (h1:P.underlying t=some (.slice e)) (h2:P.info? e=some i) (h3:i.zero=some z) (h4:i.size=size) (h5:i.bytes=bytes) (h6:z.cells.size=size) (h7:0<size)
 (v:Value) (n:Nat) (olds:List Value) (hs:a.eval s=v) (hown:w.ownsRow base e size v n olds)
 (ad:Addr) (m c:Nat) (news:List Value) (hx:a.eval x=.slice (some ad) m c) (hn:news.length=m*size) (hc:∀j u,news[j]?=some u→w.cell? (ad.add j)=some u) (h1c:∀u ∈ news,u.oneCell'=true)
 (b1:n+m≤maxLen) (b2:(n+m)*bytes≤140737488355328) (b3:base≤w.heap.size)
 (hK:∀b w',w'.ownsRow base e size b (n+m) (olds++news)→w.grownBy w' v.ownBlock→(b=nZ ↔ v=nZ∧m=0)→(b.ownBlock=v.ownBlock∨b.ownBlock=some w.heap.size)→K (a.put o.dst b) w') :
 if Region.wanted o (yielded f a.tmps)=true then Oper.wp P o a w K Q else E:=by
 have hw:Region.wanted o (yielded f a.tmps)=true:=by simp [Region.wanted,hg]
 rw [if_pos hw];obtain ⟨b,w',d,g,r2,r3,r4⟩:=run_append_own_at (P:=P) w base t o.type e i z size bytes h1 h2 h3 h4 h5 h6 h7 v n olds hown ad m c news hn hc h1c b1 b2 b3;unfold Oper.wp;simp [execOp,hop,resolve,invoke,builtin,hs,hx,d,Result.andThen];exact hK b w' g r2 r3 r4
structure BG (lo:Nat) (w wi:World) (X:Nat) (q:Int) (am:Option Addr) (nm cm G c:Nat) (ak:Option Addr) (ns cs gA dA e1 n1 d1 e2 n2 d2:Nat) (M:List ac) (A B C:List an) (S:List Int):Prop where
 low:gK lo none w wi
 bx:az wi X (iT q) (.slice am nm cm) (sL G 3 c) (.slice ak ns cs)
 br:az wi (X+1) (iT 0) nZ nZ nZ
 ts:kU lo wi am nm cm G c ak ns cs gA dA e1 n1 d1 e2 n2 d2 M A B C S
 kx:au wi X 31 4∧au wi (X+1) 31 4
 top:lo≤w.heap.size∧w.heap.size≤X
theorem BG.below (h:BG lo w wi X q am nm cm G c ak ns cs gA dA e1 n1 d1 e2 n2 d2 M A B C S) (hb:Bl wi wj):BG lo w wj X q am nm cm G c ak ns cs gA dA e1 n1 d1 e2 n2 d2 M A B C S :=
 ⟨h.low.next hb,h.bx.keep hb,h.br.keep hb,h.ts.below hb,⟨h.kx.1.below hb,h.kx.2.below hb⟩,h.top⟩
structure pq (lo:Nat) (w wi:World) (X:Nat) (u0 u1 u2 u3:Value) (G c:Nat) (ak:Option Addr) (ns cs g8 c8 e1 n1 d1 e2 n2 d2:Nat) (A B C:List an) (S:List Int):Prop where
 low:gK lo none w wi
 bx:az wi X u0 u1 u2 u3
 br:az wi (X+1) (iT 0) nZ nZ nZ
 ts:kU lo wi none 0 0 G c ak ns cs g8 c8 e1 n1 d1 e2 n2 d2 [] A B C S
 kx:au wi X 31 4∧au wi (X+1) 31 4
 top:lo≤w.heap.size∧w.heap.size≤X
theorem pq.below (h:pq lo w wi X u0 u1 u2 u3 G c ak ns cs g8 c8 e1 n1 d1 e2 n2 d2 A B C S) (hb:Bl wi wj):pq lo w wj X u0 u1 u2 u3 G c ak ns cs g8 c8 e1 n1 d1 e2 n2 d2 A B C S :=
 ⟨h.low.next hb,h.bx.keep hb,h.br.keep hb,h.ts.below hb,⟨h.kx.1.below hb,h.kx.2.below hb⟩,h.top⟩
theorem mY (h:pq lo w wi X (iT q) (.slice a1 m1 k1) (.slice a2 m2 k2) (.slice a3 m3 k3) G c ak ns cs g8 c8 e1 n1 d1 e2 n2 d2 A B C S) (a:Option Addr) (m k:Nat):pq lo w (wi.setCell ⟨X,1,none⟩ (.slice a m k)) X (iT q) (.slice a m k) (.slice a2 m2 k2) (.slice a3 m3 k3) G c ak ns cs g8 c8 e1 n1 d1 e2 n2 d2 A B C S :=
 ⟨h.low.put (cq _ _ _ _) (C8 h.top.1 h.top.2) (.inl h.top.2),h.bx.set1 _,h.br.other (by omega) _,h.ts.box h.kx.1 (fJ h.kx.1 h.bx) (cq _ _ _ _),⟨h.kx.1.setCell _,h.kx.2.setCell _⟩,h.top⟩
theorem lC {b:Nat} (h:pq lo w wi X u0 u1 u2 u3 G c ak ns cs g8 c8 e1 n1 d1 e2 n2 d2 A B C S) (htb:bf q [] [A,B,C] S=true∧lN [] A B C) (hO:af wi lo b 0 0 []) :
 mS lo w (.returned (.tuple #[.agg #[iT q,sL b 0 0,sL G 3 c,.slice ak ns cs],.bool true])) ((((wi.setCell ⟨X+1,0,none⟩ (iT q)).setCell ⟨X+1,1,none⟩ (.slice a1 m1 k1)).setCell ⟨X+1,2,none⟩ (.slice a2 m2 k2)).setCell ⟨X+1,3,none⟩ (.slice a3 m3 k3)):=by
 have hx:lo≤X+1:=by have:=h.top;omega
 have d:kU lo wi (pT b) 0 0 G c ak ns cs g8 c8 e1 n1 d1 e2 n2 d2 [] A B C S:=⟨cH.some hO,h.ts.row,h.ts.rA,h.ts.rB,h.ts.rC,h.ts.sn,h.ts.sk⟩;exact ⟨_,_,rfl,⟨q,_,_,_,G,c,ak,ns,cs,g8,c8,e1,n1,d1,e2,n2,d2,[],A,B,C,S,rfl,d.four h.kx.2 h.br,htb⟩,h.low.four hx (by have:=h.top;omega) _ _ _ _⟩
theorem cX.and {p f:Nat→Prop} {a:Option Addr} {n:Nat} (h1:cX p w a n c B) (h2:cX f w a n c B):cX (fun b=>p b∧f b) w a n c B:=⟨h1.1,fun x e hn=>⟨⟨(h1.2 x e hn).1,(h2.2 x e hn).1⟩,fun i hi s m d hc y g hm=>⟨(h1.2 x e hn).2 i hi s m d hc y g hm,(h2.2 x e hn).2 i hi s m d hc y g hm⟩⟩⟩
theorem mZ {y o:World} {m:Int} {gl nl cl:Nat} {L:List ac} {g:List Value} (k3:BG lo w y X q am nm cm G c ak ns cs gA dA e1 n1 d1 e2 n2 d2 M A B C S) (o3:af y lo gl nl cl L) (hm:(Lit.int .i64 m).wf=true)
 (a2:∀p ∈ A,(Lit.int .i64 p.2).wf=true) (a3:y.ownsRow lo 63 2 (sL gA A.length dA) A.length g) (a4:∀(i:Nat) (p:an),A[i]?=some p→∃e d,g[i*2]?=some (sL e p.1.length d)∧g[i*2+1]?=some (iT p.2)∧af y lo e p.1.length d p.1)
 (hg:y.grownBy o (some gA)) (ho:o.ownsRow lo 63 2 (sL g8 (A.length+1) c8) (A.length+1) (g++[sL gl nl cl,iT m])) (hat:g8=gA∨g8=y.heap.size) :
 pq lo w (o.setCell ⟨G,0,none⟩ (sL g8 (A.length+1) c8)) X (iT q) (.slice am nm cm) (sL G 3 c) (.slice ak ns cs) G c ak ns cs g8 c8 e1 n1 d1 e2 n2 d2 (A++[(L,m)]) B C S:=by
 obtain ⟨sA,I⟩:=aO a3;obtain ⟨sG,D⟩:=aO k3.ts.row;have K:G≠gA:=fun e=>by subst e;exact absurd (D.kind I) (by decide)
 have Q:X≠gA:=fun e=>by subst e;exact absurd (k3.kx.1.kind I) (by decide)
 have t:X+1≠gA:=fun e=>by rw [← e] at I;exact absurd (k3.kx.2.kind I) (by decide)
 have a0:X≠G:=fun e=>by rw [← e] at D;exact absurd (k3.kx.1.kind D) (by decide)
 have J:X+1≠G:=fun e=>by rw [← e] at D;exact absurd (k3.kx.2.kind D) (by decide)
 have F:∀x,ak=some x→0<ns→x.block≠gA∧x.block≠G:=fun x e hn=>by
  obtain ⟨_,k⟩:=k3.ts.sk x e hn;exact ⟨fun N=>by rw [N] at k;exact absurd (k.kind I) (by decide),fun N=>by rw [N] at k;exact absurd (k.kind D) (by decide)⟩
 have s:=o3.len;have E:bh lo o g8 (A.length+1) c8 (A++[(L,m)]):=gk rfl a2 a3 a4 (by rw [s];exact o3) hm hg (by rw [s];exact ho);have R:=D.grown hg K;have f:o.grownBy (o.setCell ⟨G,0,none⟩ (sL g8 (A.length+1) c8)) (some G):=cq _ _ _ _;have U:=(a3.lt gA rfl).1;have T:=(k3.ts.row.lt G rfl).1;have ab:=(k3.ts.row.lt G rfl).2;have H:=k3.ts.row.kept hg (.inr fun e=>K (by simpa [Value.ownBlock] using e));have r:∀{a n d} {Z:List an},cX (fun b=>b≠gA∧b≠G) y a n d Z→cX (fun b=>b≠g8∧b≠G) (o.setCell ⟨G,0,none⟩ (sL g8 (A.length+1) c8)) a n d Z:=fun {a n d Z} hZ=>by
  have h1:=hZ.and (hZ.1.lowP (p:=(·<y.heap.size)) (fun b hb=>hb));have h2:=h1.same hg.size (fun b hb hl=>hg.block b hl (fun e=>hb.1.1 (CZ e)));have h3:=h2.same (w':=o.setCell ⟨G,0,none⟩ (sL g8 (A.length+1) c8)) f.size (fun b hb hl=>f.block b hl (fun e=>hb.1.2 (CZ e)));exact h3.imp (fun b hb=>⟨fun e=>hat.elim (fun h4=>hb.1.1 (e.trans h4)) (fun h4=>by have h5:=hb.2;omega),hb.1.2⟩)
 have u:∀{Y W:World} {Z:Nat},bQ lo Y ak ns cs S→Y.grownBy W (some Z)→(∀x,ak=some x→0<ns→x.block≠Z)→bQ lo W ak ns cs S:=fun {Y W Z} hs O hk =>
  ⟨hs.length,hs.room,hs.big,hs.wfs,hs.nil,fun x e hp=>⟨l' (hs.lies x e hp).1 O.size,(hs.lies x e hp).2⟩,fun x e i hi=>by
   have hp:0<ns:=by have:=hs.length;omega
   exact (DJ (a:=⟨x.block,x.off+i,none⟩) (O.block _ (hs.lies x e hp).1 (fun N=>hk x e hp (CZ N)))).trans (hs.cells x e i hi)⟩
 refine ⟨(k3.low.put hg U (.inr fun kk=>absurd (kk.kind I) (by decide))).put f T (.inr fun kk=>absurd (kk.kind R) (by decide)),(k3.bx.grownB hg Q).other (fun e=>a0 e.symm) _,(k3.br.grownB hg t).other (fun e=>J e.symm) _,?_,⟨(k3.kx.1.grown hg Q).setCell _,(k3.kx.2.grown hg t).setCell _⟩,k3.top⟩;refine ⟨cH.none _ _,?_,?_,r k3.ts.rB,r k3.ts.rC,u (u k3.ts.sn hg (fun x e hn=>(F x e hn).1)) f (fun x e hn=>(F x e hn).2),fun x e hn=>?_⟩
 · have h1:=(H.stored 0 (sL g8 (A.length+1) c8)).1;rw [show (A++[(L,m)]).length=A.length+1 by simp];exact h1
 · rw [show (A++[(L,m)]).length=A.length+1 by simp];exact E.grown R (by decide) (by decide) f
 · obtain ⟨sz,k⟩:=k3.ts.sk x e hn;exact ⟨sz,(k.grown hg (F x e hn).1).setCell _⟩
theorem Bv (lo:Nat) (q:Int) (am:Option Addr) (nm cm G c:Nat) (ak:Option Addr) (ns cs gA dA e1 n1 d1 e2 n2 d2:Nat) (M:List ac) (A B C:List an) (S:List Int) (w:World) (t:kU lo w am nm cm G c ak ns cs gA dA e1 n1 d1 e2 n2 d2 M A B C S) (htb:bf q M [A,B,C] S=true∧lN M A B C) (g:lo≤w.heap.size) (F:nm=0∨4≤A.length) :
 Calls Tryz.prog 115 #[.agg #[iT q,.slice am nm cm,sL G 3 c,.slice ak ns cs]] w (mS lo w):=by
 obtain ⟨X,f⟩:=aH w.heap.size;obtain ⟨W,d⟩:=aH ((w.alloc (.cells #[iT q,.slice am nm cm,sL G 3 c,.slice ak ns cs] 31)).alloc (.cells #[iT 0,nZ,nZ,nZ] 31));have s:Bl w W:=by rw [d];exact bZ.alloc (by simp) _
 have y:az W X (iT q) (.slice am nm cm) (sL G 3 c) (.slice ak ns cs):=by rw [d,f];exact (az.new _ _ _ _ _ _).alloc _
 have D:az W (X+1) (iT 0) nZ nZ nZ:=by
  have:=az.new (w.alloc (.cells #[iT q,.slice am nm cm,sL G 3 c,.slice ak ns cs] 31)) 31 (iT 0) nZ nZ nZ;rw [Dc] at this;rw [d,f];exact this
 have u:au W X 31 4∧au W (X+1) 31 4:=by
  rw [d,f];refine ⟨au.below ⟨_,(by show (w.heap.push _)[w.heap.size]?=_;exact DT),rfl⟩ bZ,?_⟩;refine ⟨#[iT 0,nZ,nZ,nZ],?_,rfl⟩;show ((w.heap.push _).push _)[w.heap.size+1]?=_
  have:=DT (xs:=w.heap.push (.cells #[iT q,.slice am nm cm,sL G 3 c,.slice ak ns cs] 31 (0,0))) (x:=.cells #[iT 0,nZ,nZ,nZ] 31 (0,0));rw [Array.size_push] at this;exact this
 have b:CG (BG lo w W X q am nm cm G c ak ns cs gA dA e1 n1 d1 e2 n2 d2 M A B C S):=⟨gK.of s,y,D,t.below s,u,g,Nat.le_of_eq f.symm⟩;have m:=bO htb;clear t htb g s y D u;have x0:=b.o.bx.all;have I:=b.o.br.all;obtain ⟨h0,_,_,hz,_⟩:=b.o.ts.head;by_cases hm:nm=0
 · subst hm;go_enter Tryz.func115,Tryz.ntmps115
   go_upto_region 1 with fail
   rw [← f,← d];clear f d;go_wp2;refine bodyPost_ret (v:=.tuple #[.agg #[iT q,.slice am 0 cm,sL G 3 c,.slice ak ns cs],.bool false]) ?_ rfl ?_
   · have e:=(((b.o.br.set0 (iT q)).set1 (.slice am 0 cm)).set2 (sL G 3 c)).set3 (.slice ak ns cs);simp [results,Tryz.results115,go_sem,e.all]
   · have hx:lo≤X+1:=by have:=b.o.top;omega
     refine ⟨_,_,rfl,⟨q,am,0,cm,G,c,ak,ns,cs,gA,dA,e1,n1,d1,e2,n2,d2,M,A,B,C,S,rfl,b.o.ts.four b.o.kx.2 b.o.br,m.o⟩,?_⟩;exact b.o.low.four hx (by have:=b.o.top;omega) _ _ _ _
 · have hA:4≤A.length:=by omega
   have r:(A.length:Int) ≥ 4:=by omega
   obtain ⟨H,n⟩:=aH A.length;rw [← n] at h0 r;have E:¬(nm:Int)=0:=by omega
   clear n;go_enter Tryz.func115,Tryz.ntmps115
   go_upto_region 1 with fail
   rw [← f,← d];clear f d;go_wp2;refine bodyPost_ret (v:=.tuple #[.agg #[iT q,.slice am nm cm,sL G 3 c,.slice ak ns cs],.bool false]) ?_ rfl ?_
   · have e:=(((b.o.br.set0 (iT q)).set1 (.slice am nm cm)).set2 (sL G 3 c)).set3 (.slice ak ns cs);simp [results,Tryz.results115,go_sem,e.all]
   · have hx:lo≤X+1:=by have:=b.o.top;omega
     refine ⟨_,_,rfl,⟨q,am,nm,cm,G,c,ak,ns,cs,gA,dA,e1,n1,d1,e2,n2,d2,M,A,B,C,S,rfl,b.o.ts.four b.o.kx.2 b.o.br,m.o⟩,?_⟩;exact b.o.low.four hx (by have:=b.o.top;omega) _ _ _ _
theorem Bu (lo:Nat) (q:Int) (Y nm cm G c:Nat) (ak:Option Addr) (ns cs gA dA e1 n1 d1 e2 n2 d2:Nat) (M:List ac) (A B C:List an) (S:List Int) (w:World) (hT:kU lo w (pT Y) nm cm G c ak ns cs gA dA e1 n1 d1 e2 n2 d2 M A B C S) (htb:bf q M [A,B,C] S=true∧lN M A B C) (ar:lo≤w.heap.size) (b3:1≤nm) (aS:nm≤1048576) (hA:A.length<4) :
 Calls Tryz.prog 115 #[.agg #[iT q,sL Y nm cm,sL G 3 c,.slice ak ns cs]] w (mS lo w):=by
 obtain ⟨X,hX⟩:=aH w.heap.size;obtain ⟨W,hW⟩:=aH ((w.alloc (.cells #[iT q,sL Y nm cm,sL G 3 c,.slice ak ns cs] 31)).alloc (.cells #[iT 0,nZ,nZ,nZ] 31));have kW:Bl w W:=by rw [hW];exact bZ.alloc (by simp) _
 have bx:az W X (iT q) (sL Y nm cm) (sL G 3 c) (.slice ak ns cs):=by rw [hW,hX];exact (az.new _ _ _ _ _ _).alloc _
 have br:az W (X+1) (iT 0) nZ nZ nZ:=by
  have:=az.new (w.alloc (.cells #[iT q,sL Y nm cm,sL G 3 c,.slice ak ns cs] 31)) 31 (iT 0) nZ nZ nZ;rw [Dc] at this;rw [hW,hX];exact this
 have kx:au W X 31 4∧au W (X+1) 31 4:=by
  rw [hW,hX];refine ⟨au.below ⟨_,(by show (w.heap.push _)[w.heap.size]?=_;exact DT),rfl⟩ bZ,?_⟩;refine ⟨#[iT 0,nZ,nZ,nZ],?_,rfl⟩;show ((w.heap.push _).push _)[w.heap.size+1]?=_
  have:=DT (xs:=w.heap.push (.cells #[iT q,sL Y nm cm,sL G 3 c,.slice ak ns cs] 31 (0,0))) (x:=.cells #[iT 0,nZ,nZ,nZ] 31 (0,0));rw [Array.size_push] at this;exact this
 have ST:CG (BG lo w W X q (pT Y) nm cm G c ak ns cs gA dA e1 n1 d1 e2 n2 d2 M A B C S):=⟨gK.of kW,bx,br,hT.below kW,kx,ar,Nat.le_of_eq hX.symm⟩;have ab:CG (bf q [] [A++[kF M S],B,C] S=true∧lN [] (A++[kF M S]) B C):=⟨ue htb.1 (fun e=>by have:=hT.mem.len;rw [e] at this;simp at this;omega) hA,htb.2.flush S⟩;clear hT htb kW bx br kx;have x0:=ST.o.bx.all;have r0:=ST.o.br.all;obtain ⟨h0,_,_,hz,_⟩:=ST.o.ts.head;obtain ⟨L,hL⟩:=aH (bG M S false);obtain ⟨m,hm⟩:∃m:Int,m=((cV L:Nat):Int):=⟨_,rfl⟩;have ap:CG ((Lit.int .i64 m).wf=true):=by have:=lq L;rw [hm];exact Dk (by omega)
 have CQ:CG (∀w',ag w' (pT Y) nm cm M→bQ lo w' ak ns cs S→Calls Tryz.prog 174 #[sL Y nm cm,.slice ak ns cs,.bool false] w' fun e al=>∃J F H,e=.returned (sL J F H)∧af al w'.heap.size J F H L∧Bl w' al):=fun w' h1 h2=>by
  rw [hL];exact jT lo _ nm cm M _ ns cs S false w' h1 h2 aS
 have av:CG (∀(J F H:Nat) (w':World),ag w' (pT J) F H L→Calls Tryz.prog 173 #[sL J F H] w' fun e al=>e=.returned (.agg #[sL J F H,iT m])∧Bl w' al):=fun J F H w' h=>by
  rw [hm];exact nQ _ F H L w' h
 have aT:kF M S=(L,m):=by unfold kF;rw [hm,hL]
 rw [aT] at ab;clear aT hL hm;obtain ⟨i0,hi,aq,aj,ao⟩:=info_parts Tryz.infoRun;have b2:¬(A.length:Int) ≥ 4:=by omega
 have b4:A.length+1≤4:=by omega
 have b5:¬(nm:Int)=0:=by omega
 have aQ:CG (∀w':World,gK lo none w w'→lo≤w'.heap.size):=fun w' k=>C8 ar k.size
 have N:BG lo w W.drew X q (pT Y) nm cm G c ak ns cs gA dA e1 n1 d1 e2 n2 d2 M A B C S:=ST.o.below (Below.refl _ W).drew;clear hA ar;go_enter Tryz.func115,Tryz.ntmps115
 go_upto_region 1 with fail
 rw [← hX,← hW];clear hX hW;go_upto_region 3 with fail
 clear x0 r0 h0 hz ST;refine wp_region_held_drew (S:=(fun w'=>w'.cell? ⟨X,1,none⟩=some (sL Y nm cm)∧w'.cell? ⟨X,2,none⟩=some (sL G 3 c)∧w'.cell? ⟨X,3,none⟩=some (.slice ak ns cs)∧X<w'.heap.size∧G<w'.heap.size)) (by kernel_rfl) (⟨N.bx.c1,N.bx.c2,N.bx.c3,N.bx.lt,N.ts.head.2.2.2.1⟩) (fun s=>?_);generalize W.drew=wd at N s ⊢;refine aP 0 5 s ?_;refine aP 6 4 s ?_;refine jX 5 10 (fun K hK=>?_) fun K hK=>?_
 · have q5:=N.ts.head.1;go_simp;clear q5;refine hK.o _ _ (⟨N.bx.c1,N.bx.c2,N.bx.c3,N.bx.lt,N.ts.head.2.2.2.1⟩) (fun s=>?_);clear hK K;(try go_frame);refine aR 10 fun K hK=>?_
   go_simp;refine (CQ.o _ N.ts.mem.entsAt N.ts.sn).mono ?_;rintro e w1 ⟨J,F,H,rfl,aA,ax⟩;have k1:=N.below ax;have o1:af w1 lo J F H L:=aA.mono (aQ.o _ N.low);go_wp2_with fail
   refine hK.o _ _ (⟨k1.bx.c1,k1.bx.c2,k1.bx.c3,k1.bx.lt,k1.ts.head.2.2.2.1⟩) (fun s=>?_);clear hK K;(try go_frame);refine aR 11 fun K hK=>?_
   go_simp;refine (av.o _ _ _ _ o1.entsAt).mono ?_;rintro e R ⟨rfl,Z⟩;have k2:=k1.below Z;have o2:=o1.below Z;go_wp2_with fail
   refine hK.o _ _ (⟨k2.bx.c1,k2.bx.c2,k2.bx.c3,k2.bx.lt,k2.ts.head.2.2.2.1⟩) (fun s=>?_);clear hK K;(try go_frame);refine aR 12 fun K hK=>?_
   go_simp;have kc:Bl R (R.alloc (.cells #[sL J F H,iT m] 63)):=bZ;have k3:=k2.below kc;have o3:=o2.below kc;have f:=bH R (sL J F H) (iT m) 63;generalize R.heap.size=gb at f ⊢;generalize R.alloc (.cells #[sL J F H,iT m] 63)=wb at k3 o3 f ⊢;refine hK.o _ _ (⟨k3.bx.c1,k3.bx.c2,k3.bx.c3,k3.bx.lt,k3.ts.head.2.2.2.1⟩) (fun s=>?_);clear hK K;(try go_frame);refine aR 13 fun K hK=>?_
   obtain ⟨a1,a2,aJ,a3,a4⟩:=k3.ts.rA;have d:X≠gA:=fun e=>by subst e;obtain ⟨_,kk⟩:=aO a3;exact absurd (k3.kx.1.kind kk) (by decide)
   refine ef rfl (.tmp 22) (.tmp 29) 61 rfl lo 63 i0 _ 2 32 Tryz.underlying61 hi aq aj ao rfl (by decide) _ _ _ rfl a3 ⟨gb,0,none⟩ 1 1 [sL J F H,iT m] rfl rfl f (by intro u hu;simp at hu;rcases hu with rfl | rfl <;> rfl) ?_ ?_ ?_ ?_
   · unfold maxLen;omega
   · omega
   · have h1:=(a3.lt gA rfl);omega
   intro v8 w8 E a0 aD Q;obtain ⟨g8,c8,rfl⟩:=ownsRow_succ E;have b:wb.grownBy w8 (some gA):=a0;refine hK.o _ _ (⟨(k3.bx.grownB b d).c1,(k3.bx.grownB b d).c2,(k3.bx.grownB b d).c3,(k3.bx.grownB b d).lt,l' k3.ts.head.2.2.2.1 b.size⟩) (fun s=>?_);clear hK K;(try go_frame);refine aP 14 1 s ?_;refine aR 15 fun K hK=>?_
   have O:G≠gA:=fun e=>by subst e;obtain ⟨_,kk⟩:=aO a3;obtain ⟨_,kr⟩:=aO k3.ts.row;exact absurd (kr.kind kk) (by decide)
   have y:some G≠some gA:=fun e=>O (CZ e)
   have q0:=b.cell k3.ts.head.1 y;have qf:=(bn b (x:=⟨G,0,none⟩) k3.ts.head.2.2.2.1 y).trans k3.ts.head.2.2.2.2;have qz:=l' k3.ts.head.2.2.2.1 b.size;go_simp;have r:pq lo w (w8.setCell ⟨G,0,none⟩ (sL g8 (A.length+1) c8)) X (iT q) (sL Y nm cm) (sL G 3 c) (.slice ak ns cs) G c ak ns cs g8 c8 e1 n1 d1 e2 n2 d2 (A++[(L,m)]) B C S:=mZ k3 o3 ap.o a2 a3 a4 b E (by have h9:(some g8:Option Nat)=some gA∨(some g8:Option Nat)=some wb.heap.size:=Q;exact h9.imp CZ CZ);clear q0 qf qz;refine hK.o _ _ (⟨r.bx.c1,r.bx.c2,r.bx.c3,r.bx.lt,r.ts.head.2.2.2.1⟩) (fun s=>?_);clear hK K;(try go_frame);refine dN ?_;obtain ⟨I,t⟩:=aH (w8.setCell ⟨G,0,none⟩ (sL g8 (A.length+1) c8));rw [← t] at r;have D:CG (pq lo w I X (iT q) (sL Y nm cm) (sL G 3 c) (.slice ak ns cs) G c ak ns cs g8 c8 e1 n1 d1 e2 n2 d2 (A++[(L,m)]) B C S):=r;rw [← t];clear t r k3 o3 f b E a1 a2 a3 a4 d O y s N k1 k2 o1 o2;have y1:=D.o.bx.c1;have yf:=D.o.bx.fz;have yz:=D.o.bx.lt;obtain ⟨wA,g⟩:=aH ((I.setCell ⟨X,1,none⟩ (sL (I.heap.size) 0 0)).alloc (.cells #[] 50));obtain ⟨U,n⟩:=aH I.heap.size;have a6:CG (af wA lo U 0 0 []):=by rw [g,n];show af _ _ _ _ _ _;have h1:=bI (I.setCell ⟨X,1,none⟩ (sL (I.heap.size) 0 0)) lo (by have:=D.o.low.size;have:=D.o.top;simp [World.setCell];omega);simpa [World.setCell] using h1
   have T:CG (pq lo w wA X (iT q) (sL U 0 0) (sL G 3 c) (.slice ak ns cs) G c ak ns cs g8 c8 e1 n1 d1 e2 n2 d2 (A++[(L,m)]) B C S):=by
    rw [g,← n];refine pq.below ?_ bZ;exact mY D.o _ _ _
   go_upto_region 5 with fail
   rw [← g];try rw [← n]
   clear g n y1 yf yz D;have y0:=T.o.bx.all;have r0:=T.o.br.all;go_wp2;refine bodyPost_ret (v:=.tuple #[.agg #[iT q,sL U 0 0,sL G 3 c,.slice ak ns cs],.bool true]) ?_ rfl ?_
   · have e:=(((T.o.br.set0 (iT q)).set1 (sL U 0 0)).set2 (sL G 3 c)).set3 (.slice ak ns cs);simp [results,Tryz.results115,go_sem,e.all]
   · exact lC T.o ab.o a6.o
 · go_simp;refine (CQ.o _ N.ts.mem.entsAt N.ts.sn).mono ?_;rintro e w1 ⟨J,F,H,rfl,aA,ax⟩;have k1:=N.below ax;have o1:af w1 lo J F H L:=aA.mono (aQ.o _ N.low);go_wp2_with fail
   refine hK.o _ _ (⟨k1.bx.c1,k1.bx.c2,k1.bx.c3,k1.bx.lt,k1.ts.head.2.2.2.1⟩) (fun s=>?_);clear hK K;(try go_frame);refine jX 5 11 (fun K hK=>?_) fun K hK=>?_
   · have q5:=k1.ts.head.1;go_simp;clear q5;refine hK.o _ _ (⟨k1.bx.c1,k1.bx.c2,k1.bx.c3,k1.bx.lt,k1.ts.head.2.2.2.1⟩) (fun s=>?_);clear hK K;(try go_frame);refine aR 11 fun K hK=>?_
     go_simp;refine (av.o _ _ _ _ o1.entsAt).mono ?_;rintro e R ⟨rfl,Z⟩;have k2:=k1.below Z;have o2:=o1.below Z;go_wp2_with fail
     refine hK.o _ _ (⟨k2.bx.c1,k2.bx.c2,k2.bx.c3,k2.bx.lt,k2.ts.head.2.2.2.1⟩) (fun s=>?_);clear hK K;(try go_frame);refine aR 12 fun K hK=>?_
     go_simp;have kc:Bl R (R.alloc (.cells #[sL J F H,iT m] 63)):=bZ;have k3:=k2.below kc;have o3:=o2.below kc;have f:=bH R (sL J F H) (iT m) 63;generalize R.heap.size=gb at f ⊢;generalize R.alloc (.cells #[sL J F H,iT m] 63)=wb at k3 o3 f ⊢;refine hK.o _ _ (⟨k3.bx.c1,k3.bx.c2,k3.bx.c3,k3.bx.lt,k3.ts.head.2.2.2.1⟩) (fun s=>?_);clear hK K;(try go_frame);refine aR 13 fun K hK=>?_
     obtain ⟨a1,a2,aJ,a3,a4⟩:=k3.ts.rA;have d:X≠gA:=fun e=>by subst e;obtain ⟨_,kk⟩:=aO a3;exact absurd (k3.kx.1.kind kk) (by decide)
     refine ef rfl (.tmp 22) (.tmp 29) 61 rfl lo 63 i0 _ 2 32 Tryz.underlying61 hi aq aj ao rfl (by decide) _ _ _ rfl a3 ⟨gb,0,none⟩ 1 1 [sL J F H,iT m] rfl rfl f (by intro u hu;simp at hu;rcases hu with rfl | rfl <;> rfl) ?_ ?_ ?_ ?_
     · unfold maxLen;omega
     · omega
     · have h1:=(a3.lt gA rfl);omega
     intro v8 w8 E a0 aD Q;obtain ⟨g8,c8,rfl⟩:=ownsRow_succ E;have b:wb.grownBy w8 (some gA):=a0;refine hK.o _ _ (⟨(k3.bx.grownB b d).c1,(k3.bx.grownB b d).c2,(k3.bx.grownB b d).c3,(k3.bx.grownB b d).lt,l' k3.ts.head.2.2.2.1 b.size⟩) (fun s=>?_);clear hK K;(try go_frame);refine aP 14 1 s ?_;refine aR 15 fun K hK=>?_
     have O:G≠gA:=fun e=>by subst e;obtain ⟨_,kk⟩:=aO a3;obtain ⟨_,kr⟩:=aO k3.ts.row;exact absurd (kr.kind kk) (by decide)
     have y:some G≠some gA:=fun e=>O (CZ e)
     have q0:=b.cell k3.ts.head.1 y;have qf:=(bn b (x:=⟨G,0,none⟩) k3.ts.head.2.2.2.1 y).trans k3.ts.head.2.2.2.2;have qz:=l' k3.ts.head.2.2.2.1 b.size;go_simp;have r:pq lo w (w8.setCell ⟨G,0,none⟩ (sL g8 (A.length+1) c8)) X (iT q) (sL Y nm cm) (sL G 3 c) (.slice ak ns cs) G c ak ns cs g8 c8 e1 n1 d1 e2 n2 d2 (A++[(L,m)]) B C S:=mZ k3 o3 ap.o a2 a3 a4 b E (by have h9:(some g8:Option Nat)=some gA∨(some g8:Option Nat)=some wb.heap.size:=Q;exact h9.imp CZ CZ);clear q0 qf qz;refine hK.o _ _ (⟨r.bx.c1,r.bx.c2,r.bx.c3,r.bx.lt,r.ts.head.2.2.2.1⟩) (fun s=>?_);clear hK K;(try go_frame);refine dN ?_;obtain ⟨I,t⟩:=aH (w8.setCell ⟨G,0,none⟩ (sL g8 (A.length+1) c8));rw [← t] at r;have D:CG (pq lo w I X (iT q) (sL Y nm cm) (sL G 3 c) (.slice ak ns cs) G c ak ns cs g8 c8 e1 n1 d1 e2 n2 d2 (A++[(L,m)]) B C S):=r;rw [← t];clear t r k3 o3 f b E a1 a2 a3 a4 d O y s N k1 k2 o1 o2;have y1:=D.o.bx.c1;have yf:=D.o.bx.fz;have yz:=D.o.bx.lt;obtain ⟨wA,g⟩:=aH ((I.setCell ⟨X,1,none⟩ (sL (I.heap.size) 0 0)).alloc (.cells #[] 50));obtain ⟨U,n⟩:=aH I.heap.size;have a6:CG (af wA lo U 0 0 []):=by rw [g,n];show af _ _ _ _ _ _;have h1:=bI (I.setCell ⟨X,1,none⟩ (sL (I.heap.size) 0 0)) lo (by have:=D.o.low.size;have:=D.o.top;simp [World.setCell];omega);simpa [World.setCell] using h1
     have T:CG (pq lo w wA X (iT q) (sL U 0 0) (sL G 3 c) (.slice ak ns cs) G c ak ns cs g8 c8 e1 n1 d1 e2 n2 d2 (A++[(L,m)]) B C S):=by
      rw [g,← n];refine pq.below ?_ bZ;exact mY D.o _ _ _
     go_upto_region 5 with fail
     rw [← g];try rw [← n]
     clear g n y1 yf yz D;have y0:=T.o.bx.all;have r0:=T.o.br.all;go_wp2;refine bodyPost_ret (v:=.tuple #[.agg #[iT q,sL U 0 0,sL G 3 c,.slice ak ns cs],.bool true]) ?_ rfl ?_
     · have e:=(((T.o.br.set0 (iT q)).set1 (sL U 0 0)).set2 (sL G 3 c)).set3 (.slice ak ns cs);simp [results,Tryz.results115,go_sem,e.all]
     · exact lC T.o ab.o a6.o
   · go_simp;refine (av.o _ _ _ _ o1.entsAt).mono ?_;rintro e R ⟨rfl,Z⟩;have k2:=k1.below Z;have o2:=o1.below Z;go_wp2_with fail
     refine hK.o _ _ (⟨k2.bx.c1,k2.bx.c2,k2.bx.c3,k2.bx.lt,k2.ts.head.2.2.2.1⟩) (fun s=>?_);clear hK K;(try go_frame);refine jX 5 12 (fun K hK=>?_) fun K hK=>?_
     · have q5:=k2.ts.head.1;go_simp;clear q5;refine hK.o _ _ (⟨k2.bx.c1,k2.bx.c2,k2.bx.c3,k2.bx.lt,k2.ts.head.2.2.2.1⟩) (fun s=>?_);clear hK K;(try go_frame);refine aR 12 fun K hK=>?_
       go_simp;have kc:Bl R (R.alloc (.cells #[sL J F H,iT m] 63)):=bZ;have k3:=k2.below kc;have o3:=o2.below kc;have f:=bH R (sL J F H) (iT m) 63;generalize R.heap.size=gb at f ⊢;generalize R.alloc (.cells #[sL J F H,iT m] 63)=wb at k3 o3 f ⊢;refine hK.o _ _ (⟨k3.bx.c1,k3.bx.c2,k3.bx.c3,k3.bx.lt,k3.ts.head.2.2.2.1⟩) (fun s=>?_);clear hK K;(try go_frame);refine aR 13 fun K hK=>?_
       obtain ⟨a1,a2,aJ,a3,a4⟩:=k3.ts.rA;have d:X≠gA:=fun e=>by subst e;obtain ⟨_,kk⟩:=aO a3;exact absurd (k3.kx.1.kind kk) (by decide)
       refine ef rfl (.tmp 22) (.tmp 29) 61 rfl lo 63 i0 _ 2 32 Tryz.underlying61 hi aq aj ao rfl (by decide) _ _ _ rfl a3 ⟨gb,0,none⟩ 1 1 [sL J F H,iT m] rfl rfl f (by intro u hu;simp at hu;rcases hu with rfl | rfl <;> rfl) ?_ ?_ ?_ ?_
       · unfold maxLen;omega
       · omega
       · have h1:=(a3.lt gA rfl);omega
       intro v8 w8 E a0 aD Q;obtain ⟨g8,c8,rfl⟩:=ownsRow_succ E;have b:wb.grownBy w8 (some gA):=a0;refine hK.o _ _ (⟨(k3.bx.grownB b d).c1,(k3.bx.grownB b d).c2,(k3.bx.grownB b d).c3,(k3.bx.grownB b d).lt,l' k3.ts.head.2.2.2.1 b.size⟩) (fun s=>?_);clear hK K;(try go_frame);refine aP 14 1 s ?_;refine aR 15 fun K hK=>?_
       have O:G≠gA:=fun e=>by subst e;obtain ⟨_,kk⟩:=aO a3;obtain ⟨_,kr⟩:=aO k3.ts.row;exact absurd (kr.kind kk) (by decide)
       have y:some G≠some gA:=fun e=>O (CZ e)
       have q0:=b.cell k3.ts.head.1 y;have qf:=(bn b (x:=⟨G,0,none⟩) k3.ts.head.2.2.2.1 y).trans k3.ts.head.2.2.2.2;have qz:=l' k3.ts.head.2.2.2.1 b.size;go_simp;have r:pq lo w (w8.setCell ⟨G,0,none⟩ (sL g8 (A.length+1) c8)) X (iT q) (sL Y nm cm) (sL G 3 c) (.slice ak ns cs) G c ak ns cs g8 c8 e1 n1 d1 e2 n2 d2 (A++[(L,m)]) B C S:=mZ k3 o3 ap.o a2 a3 a4 b E (by have h9:(some g8:Option Nat)=some gA∨(some g8:Option Nat)=some wb.heap.size:=Q;exact h9.imp CZ CZ);clear q0 qf qz;refine hK.o _ _ (⟨r.bx.c1,r.bx.c2,r.bx.c3,r.bx.lt,r.ts.head.2.2.2.1⟩) (fun s=>?_);clear hK K;(try go_frame);refine dN ?_;obtain ⟨I,t⟩:=aH (w8.setCell ⟨G,0,none⟩ (sL g8 (A.length+1) c8));rw [← t] at r;have D:CG (pq lo w I X (iT q) (sL Y nm cm) (sL G 3 c) (.slice ak ns cs) G c ak ns cs g8 c8 e1 n1 d1 e2 n2 d2 (A++[(L,m)]) B C S):=r;rw [← t];clear t r k3 o3 f b E a1 a2 a3 a4 d O y s N k1 k2 o1 o2;have y1:=D.o.bx.c1;have yf:=D.o.bx.fz;have yz:=D.o.bx.lt;obtain ⟨wA,g⟩:=aH ((I.setCell ⟨X,1,none⟩ (sL (I.heap.size) 0 0)).alloc (.cells #[] 50));obtain ⟨U,n⟩:=aH I.heap.size;have a6:CG (af wA lo U 0 0 []):=by rw [g,n];show af _ _ _ _ _ _;have h1:=bI (I.setCell ⟨X,1,none⟩ (sL (I.heap.size) 0 0)) lo (by have:=D.o.low.size;have:=D.o.top;simp [World.setCell];omega);simpa [World.setCell] using h1
       have T:CG (pq lo w wA X (iT q) (sL U 0 0) (sL G 3 c) (.slice ak ns cs) G c ak ns cs g8 c8 e1 n1 d1 e2 n2 d2 (A++[(L,m)]) B C S):=by
        rw [g,← n];refine pq.below ?_ bZ;exact mY D.o _ _ _
       go_upto_region 5 with fail
       rw [← g];try rw [← n]
       clear g n y1 yf yz D;have y0:=T.o.bx.all;have r0:=T.o.br.all;go_wp2;refine bodyPost_ret (v:=.tuple #[.agg #[iT q,sL U 0 0,sL G 3 c,.slice ak ns cs],.bool true]) ?_ rfl ?_
       · have e:=(((T.o.br.set0 (iT q)).set1 (sL U 0 0)).set2 (sL G 3 c)).set3 (.slice ak ns cs);simp [results,Tryz.results115,go_sem,e.all]
       · exact lC T.o ab.o a6.o
     · go_simp;have kc:Bl R (R.alloc (.cells #[sL J F H,iT m] 63)):=bZ;have k3:=k2.below kc;have o3:=o2.below kc;have f:=bH R (sL J F H) (iT m) 63;generalize R.heap.size=gb at f ⊢;generalize R.alloc (.cells #[sL J F H,iT m] 63)=wb at k3 o3 f ⊢;refine hK.o _ _ (⟨k3.bx.c1,k3.bx.c2,k3.bx.c3,k3.bx.lt,k3.ts.head.2.2.2.1⟩) (fun s=>?_);clear hK K;(try go_frame);refine aR 5 fun K hK=>?_
       have q5:=k3.ts.head.1;go_simp;clear q5;refine hK.o _ _ (⟨k3.bx.c1,k3.bx.c2,k3.bx.c3,k3.bx.lt,k3.ts.head.2.2.2.1⟩) (fun s=>?_);clear hK K;(try go_frame);refine aR 13 fun K hK=>?_
       obtain ⟨a1,a2,aJ,a3,a4⟩:=k3.ts.rA;have d:X≠gA:=fun e=>by subst e;obtain ⟨_,kk⟩:=aO a3;exact absurd (k3.kx.1.kind kk) (by decide)
       refine ef rfl (.tmp 22) (.tmp 29) 61 rfl lo 63 i0 _ 2 32 Tryz.underlying61 hi aq aj ao rfl (by decide) _ _ _ rfl a3 ⟨gb,0,none⟩ 1 1 [sL J F H,iT m] rfl rfl f (by intro u hu;simp at hu;rcases hu with rfl | rfl <;> rfl) ?_ ?_ ?_ ?_
       · unfold maxLen;omega
       · omega
       · have h1:=(a3.lt gA rfl);omega
       intro v8 w8 E a0 aD Q;obtain ⟨g8,c8,rfl⟩:=ownsRow_succ E;have b:wb.grownBy w8 (some gA):=a0;refine hK.o _ _ (⟨(k3.bx.grownB b d).c1,(k3.bx.grownB b d).c2,(k3.bx.grownB b d).c3,(k3.bx.grownB b d).lt,l' k3.ts.head.2.2.2.1 b.size⟩) (fun s=>?_);clear hK K;(try go_frame);refine aP 14 1 s ?_;refine aR 15 fun K hK=>?_
       have O:G≠gA:=fun e=>by subst e;obtain ⟨_,kk⟩:=aO a3;obtain ⟨_,kr⟩:=aO k3.ts.row;exact absurd (kr.kind kk) (by decide)
       have y:some G≠some gA:=fun e=>O (CZ e)
       have q0:=b.cell k3.ts.head.1 y;have qf:=(bn b (x:=⟨G,0,none⟩) k3.ts.head.2.2.2.1 y).trans k3.ts.head.2.2.2.2;have qz:=l' k3.ts.head.2.2.2.1 b.size;go_simp;have r:pq lo w (w8.setCell ⟨G,0,none⟩ (sL g8 (A.length+1) c8)) X (iT q) (sL Y nm cm) (sL G 3 c) (.slice ak ns cs) G c ak ns cs g8 c8 e1 n1 d1 e2 n2 d2 (A++[(L,m)]) B C S:=mZ k3 o3 ap.o a2 a3 a4 b E (by have h9:(some g8:Option Nat)=some gA∨(some g8:Option Nat)=some wb.heap.size:=Q;exact h9.imp CZ CZ);clear q0 qf qz;refine hK.o _ _ (⟨r.bx.c1,r.bx.c2,r.bx.c3,r.bx.lt,r.ts.head.2.2.2.1⟩) (fun s=>?_);clear hK K;(try go_frame);refine dN ?_;obtain ⟨I,t⟩:=aH (w8.setCell ⟨G,0,none⟩ (sL g8 (A.length+1) c8));rw [← t] at r;have D:CG (pq lo w I X (iT q) (sL Y nm cm) (sL G 3 c) (.slice ak ns cs) G c ak ns cs g8 c8 e1 n1 d1 e2 n2 d2 (A++[(L,m)]) B C S):=r;rw [← t];clear t r k3 o3 f b E a1 a2 a3 a4 d O y s N k1 k2 o1 o2;have y1:=D.o.bx.c1;have yf:=D.o.bx.fz;have yz:=D.o.bx.lt;obtain ⟨wA,g⟩:=aH ((I.setCell ⟨X,1,none⟩ (sL (I.heap.size) 0 0)).alloc (.cells #[] 50));obtain ⟨U,n⟩:=aH I.heap.size;have a6:CG (af wA lo U 0 0 []):=by rw [g,n];show af _ _ _ _ _ _;have h1:=bI (I.setCell ⟨X,1,none⟩ (sL (I.heap.size) 0 0)) lo (by have:=D.o.low.size;have:=D.o.top;simp [World.setCell];omega);simpa [World.setCell] using h1
       have T:CG (pq lo w wA X (iT q) (sL U 0 0) (sL G 3 c) (.slice ak ns cs) G c ak ns cs g8 c8 e1 n1 d1 e2 n2 d2 (A++[(L,m)]) B C S):=by
        rw [g,← n];refine pq.below ?_ bZ;exact mY D.o _ _ _
       go_upto_region 5 with fail
       rw [← g];try rw [← n]
       clear g n y1 yf yz D;have y0:=T.o.bx.all;have r0:=T.o.br.all;go_wp2;refine bodyPost_ret (v:=.tuple #[.agg #[iT q,sL U 0 0,sL G 3 c,.slice ak ns cs],.bool true]) ?_ rfl ?_
       · have e:=(((T.o.br.set0 (iT q)).set1 (sL U 0 0)).set2 (sL G 3 c)).set3 (.slice ak ns cs);simp [results,Tryz.results115,go_sem,e.all]
       · exact lC T.o ab.o a6.o
theorem zH (lo:Nat) (v:Value) (w:World) (h:cL lo w v) (b:lo≤w.heap.size):Calls Tryz.prog 115 #[v] w (mS lo w):=by
 obtain ⟨q,am,nm,cm,G,c,ak,ns,cs,gA,dA,e1,n1,d1,e2,n2,d2,M,A,B,C,S,rfl,d,htb⟩:=h;by_cases e:nm=0∨4≤A.length
 · exact Bv lo q am nm cm G c ak ns cs gA dA e1 n1 d1 e2 n2 d2 M A B C S w d htb b e
 · have hl:=d.mem.len;have hm:=(aY htb.1).2.2.1;cases am with
   | none=>have:=(d.mem.nil rfl).1;omega
   | some x =>
    obtain ⟨f,rfl,_⟩:=d.mem.own x rfl;exact Bu lo q f nm cm G c ak ns cs gA dA e1 n1 d1 e2 n2 d2 M A B C S w d htb b (by omega) (by omega) (by omega)
end Go.Proofs.YtpobkmjicbobdaaGreat
