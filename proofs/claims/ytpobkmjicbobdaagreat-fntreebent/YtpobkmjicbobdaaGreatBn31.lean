/- Walks. -/
import Derived.Test.YtpobkmjicbobdaaGreatBn29
namespace Go.Proofs.YtpobkmjicbobdaaGreat
set_option maxRecDepth 100000
set_option maxHeartbeats 40000000
open Go.RowKit
variable {A B C:List ag} {G X c c8 cm cs d1 d2 dA e1 e2 g8 gA k1 k2 k3 lo m1 m2 m3 n1 n2 nm ns:Nat} {M:List ac} {S:List Int} {a1 a2 a3 ak am:Option Addr} {q:Int} {u0 u1 u2 u3:Value} {w wi wj:World}
theorem ef {P:Program} {ops:Array Oper} {o:Oper} {a:Act} {w:World} {K:Act→World→Prop} {Q:Exit→Act→World→Prop} {E:Prop}
 (hg:o.guard=none) (s x:Operand) (t:TypeId) (hop:o.op=Op.call { callee:=Callee.builtin Builtin.append,args:=#[s,x],argTypes:=#[t,t] })
 (base:Nat) (e:TypeId) (i:TypeInfo) (z:Value) (size bytes:Nat) (h1:P.underlying t=some (.slice e)) (h2:P.info? e=some i) (h3:i.zero=some z) (h4:i.size=size) (h5:i.bytes=bytes) (h6:z.cells.size=size) (h7:0<size)
 (v:Value) (n:Nat) (olds:List Value) (hs:a.eval s=v) (hown:w.ownsRow base e size v n olds)
 (ad:Addr) (m c:Nat) (news:List Value) (hx:a.eval x=.slice (some ad) m c) (hn:news.length=m*size) (hc:∀j u,news[j]?=some u→w.cell? (ad.add j)=some u) (h1c:∀u ∈ news,u.oneCell'=true)
 (b1:n+m≤maxLen) (b2:(n+m)*bytes≤140737488355328) (b3:base≤w.heap.size)
 (hK:∀v' w',w'.ownsRow base e size v' (n+m) (olds++news)→w.grownBy w' v.ownBlock→(v'=nZ ↔ v=nZ∧m=0)→(v'.ownBlock=v.ownBlock∨v'.ownBlock=some w.heap.size)→K (a.put o.dst v') w') :
 if Region.wanted o (yielded ops a.tmps)=true then Oper.wp P o a w K Q else E:=by
 have hw:Region.wanted o (yielded ops a.tmps)=true:=by simp [Region.wanted,hg]
 rw [if_pos hw];obtain ⟨v',w',hrun,r1,r2,r3,r4⟩:=run_append_own_at (P:=P) w base t o.type e i z size bytes h1 h2 h3 h4 h5 h6 h7 v n olds hown ad m c news hn hc h1c b1 b2 b3;unfold Oper.wp;simp [execOp,hop,resolve,invoke,builtin,hs,hx,hrun,Result.andThen];exact hK v' w' r1 r2 r3 r4
structure Bo (lo:Nat) (w wi:World) (X:Nat) (q:Int) (am:Option Addr) (nm cm G c:Nat) (ak:Option Addr) (ns cs gA dA e1 n1 d1 e2 n2 d2:Nat) (M:List ac) (A B C:List ag) (S:List Int):Prop where
 low:gF lo none w wi
 bx:ar wi X (iT q) (.slice am nm cm) (sL G 3 c) (.slice ak ns cs)
 br:ar wi (X+1) (iT 0) nZ nZ nZ
 ts:kF lo wi am nm cm G c ak ns cs gA dA e1 n1 d1 e2 n2 d2 M A B C S
 kx:an wi X 31 4∧an wi (X+1) 31 4
 top:lo≤w.heap.size∧w.heap.size≤X
theorem Bo.below (h:Bo lo w wi X q am nm cm G c ak ns cs gA dA e1 n1 d1 e2 n2 d2 M A B C S) (hb:Bl wi wj):Bo lo w wj X q am nm cm G c ak ns cs gA dA e1 n1 d1 e2 n2 d2 M A B C S :=
 ⟨h.low.next hb,h.bx.keep hb,h.br.keep hb,h.ts.below hb,⟨h.kx.1.below hb,h.kx.2.below hb⟩,h.top⟩
structure pG (lo:Nat) (w wi:World) (X:Nat) (u0 u1 u2 u3:Value) (G c:Nat) (ak:Option Addr) (ns cs g8 c8 e1 n1 d1 e2 n2 d2:Nat) (A B C:List ag) (S:List Int):Prop where
 low:gF lo none w wi
 bx:ar wi X u0 u1 u2 u3
 br:ar wi (X+1) (iT 0) nZ nZ nZ
 ts:kF lo wi none 0 0 G c ak ns cs g8 c8 e1 n1 d1 e2 n2 d2 [] A B C S
 kx:an wi X 31 4∧an wi (X+1) 31 4
 top:lo≤w.heap.size∧w.heap.size≤X
theorem pG.below (h:pG lo w wi X u0 u1 u2 u3 G c ak ns cs g8 c8 e1 n1 d1 e2 n2 d2 A B C S) (hb:Bl wi wj):pG lo w wj X u0 u1 u2 u3 G c ak ns cs g8 c8 e1 n1 d1 e2 n2 d2 A B C S :=
 ⟨h.low.next hb,h.bx.keep hb,h.br.keep hb,h.ts.below hb,⟨h.kx.1.below hb,h.kx.2.below hb⟩,h.top⟩
theorem nq (h:pG lo w wi X (iT q) (.slice a1 m1 k1) (.slice a2 m2 k2) (.slice a3 m3 k3) G c ak ns cs g8 c8 e1 n1 d1 e2 n2 d2 A B C S) (a:Option Addr) (m k:Nat):pG lo w (wi.setCell ⟨X,1,none⟩ (.slice a m k)) X (iT q) (.slice a m k) (.slice a2 m2 k2) (.slice a3 m3 k3) G c ak ns cs g8 c8 e1 n1 d1 e2 n2 d2 A B C S :=
 ⟨h.low.put (cy _ _ _ _) (Nat.le_trans h.top.1 h.top.2) (.inl h.top.2),h.bx.set1 _,h.br.other (by omega) _,h.ts.box h.kx.1 (fA h.kx.1 h.bx) (cy _ _ _ _),⟨h.kx.1.setCell _,h.kx.2.setCell _⟩,h.top⟩
theorem lq {ge:Nat} (h:pG lo w wi X u0 u1 u2 u3 G c ak ns cs g8 c8 e1 n1 d1 e2 n2 d2 A B C S) (htb:bc q [] [A,B,C] S=true) (hO:ay wi lo ge 0 0 []) :
 mZ lo w (.returned (.tuple #[.agg #[iT q,sL ge 0 0,sL G 3 c,.slice ak ns cs],.bool true])) ((((wi.setCell ⟨X+1,0,none⟩ (iT q)).setCell ⟨X+1,1,none⟩ (.slice a1 m1 k1)).setCell ⟨X+1,2,none⟩ (.slice a2 m2 k2)).setCell ⟨X+1,3,none⟩ (.slice a3 m3 k3)):=by
 have hx:lo≤X+1:=by have:=h.top;omega
 have ht:kF lo wi (pT ge) 0 0 G c ak ns cs g8 c8 e1 n1 d1 e2 n2 d2 [] A B C S:=⟨dV.some hO,h.ts.row,h.ts.rA,h.ts.rB,h.ts.rC,h.ts.sn,h.ts.sk⟩;exact ⟨_,_,rfl,⟨q,_,_,_,G,c,ak,ns,cs,g8,c8,e1,n1,d1,e2,n2,d2,[],A,B,C,S,rfl,ht.four h.kx.2 h.br,htb⟩,h.low.four hx (by have:=h.top;omega) _ _ _ _⟩
theorem de.and {p p':Nat→Prop} {a:Option Addr} {n:Nat} (h1:de p w a n c B) (h2:de p' w a n c B):de (fun b=>p b∧p' b) w a n c B:=⟨h1.1,fun x e hn=>⟨⟨(h1.2 x e hn).1,(h2.2 x e hn).1⟩,fun i hi s m d hc y ey hm=>⟨(h1.2 x e hn).2 i hi s m d hc y ey hm,(h2.2 x e hn).2 i hi s m d hc y ey hm⟩⟩⟩
theorem nu {wb w8:World} {m:Int} {gl nl cl:Nat} {L:List ac} {xsA:List Value} (k3:Bo lo w wb X q am nm cm G c ak ns cs gA dA e1 n1 d1 e2 n2 d2 M A B C S) (o3:ay wb lo gl nl cl L) (hm:(Lit.int .i64 m).wf=true)
 (a2:∀p ∈ A,(Lit.int .i64 p.2).wf=true) (a3:wb.ownsRow lo 63 2 (sL gA A.length dA) A.length xsA) (a4:∀(i:Nat) (p:ag),A[i]?=some p→∃e d,xsA[i*2]?=some (sL e p.1.length d)∧xsA[i*2+1]?=some (iT p.2)∧ay wb lo e p.1.length d p.1)
 (hg:wb.grownBy w8 (some gA)) (ho:w8.ownsRow lo 63 2 (sL g8 (A.length+1) c8) (A.length+1) (xsA++[sL gl nl cl,iT m])) (hat:g8=gA∨g8=wb.heap.size) :
 pG lo w (w8.setCell ⟨G,0,none⟩ (sL g8 (A.length+1) c8)) X (iT q) (.slice am nm cm) (sL G 3 c) (.slice ak ns cs) G c ak ns cs g8 c8 e1 n1 d1 e2 n2 d2 (A++[(L,m)]) B C S:=by
 obtain ⟨sA,kA⟩:=aJ a3;obtain ⟨sG,kR⟩:=aJ k3.ts.row;have hGA:G≠gA:=fun e=>by subst e;exact absurd (kR.kind kA) (by decide)
 have hXA:X≠gA:=fun e=>by subst e;exact absurd (k3.kx.1.kind kA) (by decide)
 have hXA1:X+1≠gA:=fun e=>by rw [← e] at kA;exact absurd (k3.kx.2.kind kA) (by decide)
 have hXG:X≠G:=fun e=>by rw [← e] at kR;exact absurd (k3.kx.1.kind kR) (by decide)
 have hXG1:X+1≠G:=fun e=>by rw [← e] at kR;exact absurd (k3.kx.2.kind kR) (by decide)
 have hsA:∀x,ak=some x→0<ns→x.block≠gA∧x.block≠G:=fun x e hn=>by
  obtain ⟨_,k⟩:=k3.ts.sk x e hn;exact ⟨fun e'=>by rw [e'] at k;exact absurd (k.kind kA) (by decide),fun e'=>by rw [e'] at k;exact absurd (k.kind kR) (by decide)⟩
 have hlen:=o3.len;have hpush:aZ lo w8 g8 (A.length+1) c8 (A++[(L,m)]):=f7 rfl a2 a3 a4 (by rw [hlen];exact o3) hm hg (by rw [hlen];exact ho);have kR8:=kR.grown hg hGA;have hset:w8.grownBy (w8.setCell ⟨G,0,none⟩ (sL g8 (A.length+1) c8)) (some G):=cy _ _ _ _;have hgb:=(a3.lt gA rfl).1;have hGb:=(k3.ts.row.lt G rfl).1;have hGl:=(k3.ts.row.lt G rfl).2;have hrow8:=k3.ts.row.kept hg (.inr fun e=>hGA (by simpa [Value.ownBlock] using e));have both:∀{a n d} {Z:List ag},de (fun b=>b≠gA∧b≠G) wb a n d Z→de (fun b=>b≠g8∧b≠G) (w8.setCell ⟨G,0,none⟩ (sL g8 (A.length+1) c8)) a n d Z:=fun {a n d Z} hZ=>by
  have h1:=hZ.and (hZ.1.lowP (p:=(·<wb.heap.size)) (fun b hb=>hb));have h2:=h1.same hg.size (fun b hb hl=>hg.block b hl (fun e=>hb.1.1 (Option.some.inj e)));have h3:=h2.same (w':=w8.setCell ⟨G,0,none⟩ (sL g8 (A.length+1) c8)) hset.size (fun b hb hl=>hset.block b hl (fun e=>hb.1.2 (Option.some.inj e)));exact h3.imp (fun b hb=>⟨fun e=>hat.elim (fun h4=>hb.1.1 (e.trans h4)) (fun h4=>by have h5:=hb.2;omega),hb.1.2⟩)
 have ints:∀{w1 w2:World} {Z:Nat},bG lo w1 ak ns cs S→w1.grownBy w2 (some Z)→(∀x,ak=some x→0<ns→x.block≠Z)→bG lo w2 ak ns cs S:=fun {w1 w2 Z} hs hg2 hk =>
  ⟨hs.length,hs.room,hs.big,hs.wfs,hs.nil,fun x e hp=>⟨Nat.lt_of_lt_of_le (hs.lies x e hp).1 hg2.size,(hs.lies x e hp).2⟩,fun x e i hi=>by
   have hp:0<ns:=by have:=hs.length;omega
   exact (World.cell?_of_block (a:=⟨x.block,x.off+i,none⟩) (hg2.block _ (hs.lies x e hp).1 (fun e'=>hk x e hp (Option.some.inj e')))).trans (hs.cells x e i hi)⟩
 refine ⟨(k3.low.put hg hgb (.inr fun kk=>absurd (kk.kind kA) (by decide))).put hset hGb (.inr fun kk=>absurd (kk.kind kR8) (by decide)),(k3.bx.grownB hg hXA).other (fun e=>hXG e.symm) _,(k3.br.grownB hg hXA1).other (fun e=>hXG1 e.symm) _,?_,⟨(k3.kx.1.grown hg hXA).setCell _,(k3.kx.2.grown hg hXA1).setCell _⟩,k3.top⟩;refine ⟨dV.none _ _,?_,?_,both k3.ts.rB,both k3.ts.rC,ints (ints k3.ts.sn hg (fun x e hn=>(hsA x e hn).1)) hset (fun x e hn=>(hsA x e hn).2),fun x e hn=>?_⟩
 · have h1:=(hrow8.stored 0 (sL g8 (A.length+1) c8)).1;rw [show (A++[(L,m)]).length=A.length+1 by simp];exact h1
 · rw [show (A++[(L,m)]).length=A.length+1 by simp];exact hpush.grown kR8 (by decide) (by decide) hset
 · obtain ⟨sz,k⟩:=k3.ts.sk x e hn;exact ⟨sz,(k.grown hg (hsA x e hn).1).setCell _⟩
theorem Bc (lo:Nat) (q:Int) (am:Option Addr) (nm cm G c:Nat) (ak:Option Addr) (ns cs gA dA e1 n1 d1 e2 n2 d2:Nat) (M:List ac) (A B C:List ag) (S:List Int) (w:World) (hT:kF lo w am nm cm G c ak ns cs gA dA e1 n1 d1 e2 n2 d2 M A B C S) (htb:bc q M [A,B,C] S=true) (hlw:lo≤w.heap.size) (hno:nm=0∨4≤A.length) :
 Calls Tryz.prog 115 #[.agg #[iT q,.slice am nm cm,sL G 3 c,.slice ak ns cs]] w (mZ lo w):=by
 obtain ⟨X,hX⟩:=aS w.heap.size;obtain ⟨W,hW⟩:=aS ((w.alloc (.cells #[iT q,.slice am nm cm,sL G 3 c,.slice ak ns cs] 31)).alloc (.cells #[iT 0,nZ,nZ,nZ] 31));have kW:Bl w W:=by rw [hW];exact bZ.alloc (by simp) _
 have bx:ar W X (iT q) (.slice am nm cm) (sL G 3 c) (.slice ak ns cs):=by rw [hW,hX];exact (ar.new _ _ _ _ _ _).alloc _
 have br:ar W (X+1) (iT 0) nZ nZ nZ:=by
  have:=ar.new (w.alloc (.cells #[iT q,.slice am nm cm,sL G 3 c,.slice ak ns cs] 31)) 31 (iT 0) nZ nZ nZ;rw [World.size_alloc] at this;rw [hW,hX];exact this
 have kx:an W X 31 4∧an W (X+1) 31 4:=by
  rw [hW,hX];refine ⟨an.below ⟨_,(by show (w.heap.push _)[w.heap.size]?=_;exact Array.getElem?_push_size),rfl⟩ bZ,?_⟩;refine ⟨#[iT 0,nZ,nZ,nZ],?_,rfl⟩;show ((w.heap.push _).push _)[w.heap.size+1]?=_
  have:=Array.getElem?_push_size (xs:=w.heap.push (.cells #[iT q,.slice am nm cm,sL G 3 c,.slice ak ns cs] 31 (0,0))) (x:=.cells #[iT 0,nZ,nZ,nZ] 31 (0,0));rw [Array.size_push] at this;exact this
 have ST:Hid (Bo lo w W X q am nm cm G c ak ns cs gA dA e1 n1 d1 e2 n2 d2 M A B C S):=⟨gF.of kW,bx,br,hT.below kW,kx,hlw,Nat.le_of_eq hX.symm⟩;have HTB:=b6 htb;clear hT htb hlw kW bx br kx;have x0:=ST.out.bx.c0;have x1:=ST.out.bx.c1;have x2:=ST.out.bx.c2;have x3:=ST.out.bx.c3;have xf:=ST.out.bx.fz;have xz:=ST.out.bx.lt;have r0:=ST.out.br.c0;have r1:=ST.out.br.c1;have r2:=ST.out.br.c2;have r3:=ST.out.br.c3;have rf:=ST.out.br.fz;have rz:=ST.out.br.lt;obtain ⟨h0,_,_,hz,_⟩:=ST.out.ts.head;by_cases hm:nm=0
 · subst hm;go_enter Tryz.func115,Tryz.ntmps115
   go_upto_region 1 with fail
   rw [← hX,← hW];clear hX hW;go_wp2;refine bodyPost_ret (v:=.tuple #[.agg #[iT q,.slice am 0 cm,sL G 3 c,.slice ak ns cs],.bool false]) ?_ rfl ?_
   · have e:=(((ST.out.br.set0 (iT q)).set1 (.slice am 0 cm)).set2 (sL G 3 c)).set3 (.slice ak ns cs);simp [results,Tryz.results115,go_sem,e.c0,e.c1,e.c2,e.c3]
   · have hx:lo≤X+1:=by have:=ST.out.top;omega
     refine ⟨_,_,rfl,⟨q,am,0,cm,G,c,ak,ns,cs,gA,dA,e1,n1,d1,e2,n2,d2,M,A,B,C,S,rfl,ST.out.ts.four ST.out.kx.2 ST.out.br,HTB.out⟩,?_⟩;exact ST.out.low.four hx (by have:=ST.out.top;omega) _ _ _ _
 · have hA:4≤A.length:=by omega
   have hA4:(A.length:Int) ≥ 4:=by omega
   obtain ⟨la,hla⟩:=aS A.length;rw [← hla] at h0 hA4;have hmI:¬(nm:Int)=0:=by omega
   clear hla;go_enter Tryz.func115,Tryz.ntmps115
   go_upto_region 1 with fail
   rw [← hX,← hW];clear hX hW;go_wp2;refine bodyPost_ret (v:=.tuple #[.agg #[iT q,.slice am nm cm,sL G 3 c,.slice ak ns cs],.bool false]) ?_ rfl ?_
   · have e:=(((ST.out.br.set0 (iT q)).set1 (.slice am nm cm)).set2 (sL G 3 c)).set3 (.slice ak ns cs);simp [results,Tryz.results115,go_sem,e.c0,e.c1,e.c2,e.c3]
   · have hx:lo≤X+1:=by have:=ST.out.top;omega
     refine ⟨_,_,rfl,⟨q,am,nm,cm,G,c,ak,ns,cs,gA,dA,e1,n1,d1,e2,n2,d2,M,A,B,C,S,rfl,ST.out.ts.four ST.out.kx.2 ST.out.br,HTB.out⟩,?_⟩;exact ST.out.low.four hx (by have:=ST.out.top;omega) _ _ _ _
theorem Bb (lo:Nat) (q:Int) (g1 nm cm G c:Nat) (ak:Option Addr) (ns cs gA dA e1 n1 d1 e2 n2 d2:Nat) (M:List ac) (A B C:List ag) (S:List Int) (w:World) (hT:kF lo w (pT g1) nm cm G c ak ns cs gA dA e1 n1 d1 e2 n2 d2 M A B C S) (htb:bc q M [A,B,C] S=true) (hlw:lo≤w.heap.size) (hnm:1≤nm) (hnm2:nm≤1048576) (hA:A.length<4) :
 Calls Tryz.prog 115 #[.agg #[iT q,sL g1 nm cm,sL G 3 c,.slice ak ns cs]] w (mZ lo w):=by
 obtain ⟨X,hX⟩:=aS w.heap.size;obtain ⟨W,hW⟩:=aS ((w.alloc (.cells #[iT q,sL g1 nm cm,sL G 3 c,.slice ak ns cs] 31)).alloc (.cells #[iT 0,nZ,nZ,nZ] 31));have kW:Bl w W:=by rw [hW];exact bZ.alloc (by simp) _
 have bx:ar W X (iT q) (sL g1 nm cm) (sL G 3 c) (.slice ak ns cs):=by rw [hW,hX];exact (ar.new _ _ _ _ _ _).alloc _
 have br:ar W (X+1) (iT 0) nZ nZ nZ:=by
  have:=ar.new (w.alloc (.cells #[iT q,sL g1 nm cm,sL G 3 c,.slice ak ns cs] 31)) 31 (iT 0) nZ nZ nZ;rw [World.size_alloc] at this;rw [hW,hX];exact this
 have kx:an W X 31 4∧an W (X+1) 31 4:=by
  rw [hW,hX];refine ⟨an.below ⟨_,(by show (w.heap.push _)[w.heap.size]?=_;exact Array.getElem?_push_size),rfl⟩ bZ,?_⟩;refine ⟨#[iT 0,nZ,nZ,nZ],?_,rfl⟩;show ((w.heap.push _).push _)[w.heap.size+1]?=_
  have:=Array.getElem?_push_size (xs:=w.heap.push (.cells #[iT q,sL g1 nm cm,sL G 3 c,.slice ak ns cs] 31 (0,0))) (x:=.cells #[iT 0,nZ,nZ,nZ] 31 (0,0));rw [Array.size_push] at this;exact this
 have ST:Hid (Bo lo w W X q (pT g1) nm cm G c ak ns cs gA dA e1 n1 d1 e2 n2 d2 M A B C S):=⟨gF.of kW,bx,br,hT.below kW,kx,hlw,Nat.le_of_eq hX.symm⟩;have HTF:Hid (bc q [] [A++[o8 M S],B,C] S=true):=tX htb (fun e=>by have:=hT.mem.len;rw [e] at this;simp at this;omega) hA;clear hT htb kW bx br kx;have x0:=ST.out.bx.c0;have x1:=ST.out.bx.c1;have x2:=ST.out.bx.c2;have x3:=ST.out.bx.c3;have xf:=ST.out.bx.fz;have xz:=ST.out.bx.lt;have r0:=ST.out.br.c0;have r1:=ST.out.br.c1;have r2:=ST.out.br.c2;have r3:=ST.out.br.c3;have rf:=ST.out.br.fz;have rz:=ST.out.br.lt;obtain ⟨h0,_,_,hz,_⟩:=ST.out.ts.head;obtain ⟨L,hL⟩:=aS (bI M S false);obtain ⟨m,hm⟩:∃m:Int,m=((cZ L:Nat):Int):=⟨_,rfl⟩;have HMW:Hid ((Lit.int .i64 m).wf=true):=by have:=lj L;rw [hm];exact WalkArith.wf_i64 (by omega)
 have CQ:Hid (∀w',aj w' (pT g1) nm cm M→bG lo w' ak ns cs S→Calls Tryz.prog 174 #[sL g1 nm cm,.slice ak ns cs,.bool false] w' fun e w''=>∃gl nl cl,e=.returned (sL gl nl cl)∧ay w'' w'.heap.size gl nl cl L∧Bl w' w''):=fun w' h1 h2=>by
  rw [hL];exact jO lo _ nm cm M _ ns cs S false w' h1 h2 hnm2
 have CL4:Hid (∀(gl nl cl:Nat) (w':World),aj w' (pT gl) nl cl L→Calls Tryz.prog 173 #[sL gl nl cl] w' fun e w''=>e=.returned (.agg #[sL gl nl cl,iT m])∧Bl w' w''):=fun gl nl cl w' h=>by
  rw [hm];exact nS _ nl cl L w' h
 have hfr:o8 M S=(L,m):=by unfold o8;rw [hm,hL]
 rw [hfr] at HTF;clear hfr hL hm;obtain ⟨i0,hi,hz0,hz1,hz2⟩:=info_parts Tryz.infoRun;have hA4:¬(A.length:Int) ≥ 4:=by omega
 have hA5:A.length+1≤4:=by omega
 have hmI:¬(nm:Int)=0:=by omega
 have HBS:Hid (∀w':World,gF lo none w w'→lo≤w'.heap.size):=fun w' k=>Nat.le_trans hlw k.size
 have k0:Bo lo w W.drew X q (pT g1) nm cm G c ak ns cs gA dA e1 n1 d1 e2 n2 d2 M A B C S:=ST.out.below (Below.refl _ W).drew;clear hA hlw;go_enter Tryz.func115,Tryz.ntmps115
 go_upto_region 1 with fail
 rw [← hX,← hW];clear hX hW;go_upto_region 3 with fail
 clear x0 x1 x2 x3 xf xz r0 r1 r2 r3 rf rz h0 hz ST;refine wp_region_held_drew (S:=(fun w'=>w'.cell? ⟨X,1,none⟩=some (sL g1 nm cm)∧w'.cell? ⟨X,2,none⟩=some (sL G 3 c)∧w'.cell? ⟨X,3,none⟩=some (.slice ak ns cs)∧X<w'.heap.size∧G<w'.heap.size)) (by kernel_rfl) (⟨k0.bx.c1,k0.bx.c2,k0.bx.c3,k0.bx.lt,k0.ts.head.2.2.2.1⟩) (fun aa=>?_);generalize W.drew=wd at k0 aa ⊢;refine aO 0 5 aa ?_;refine aO 6 4 aa ?_;refine iU 5 10 (fun K hK=>?_) fun K hK=>?_
 · have q5:=k0.ts.head.1;go_simp;clear q5;refine hK.out _ _ (⟨k0.bx.c1,k0.bx.c2,k0.bx.c3,k0.bx.lt,k0.ts.head.2.2.2.1⟩) (fun aa=>?_);clear hK K;(try go_frame);refine aI 10 fun K hK=>?_
   go_simp;refine (CQ.out _ k0.ts.mem.entsAt k0.ts.sn).mono ?_;rintro e w1 ⟨gl,nl,cl,rfl,hO1,hb1⟩;have k1:=k0.below hb1;have o1:ay w1 lo gl nl cl L:=hO1.mono (HBS.out _ k0.low);go_wp2_with fail
   refine hK.out _ _ (⟨k1.bx.c1,k1.bx.c2,k1.bx.c3,k1.bx.lt,k1.ts.head.2.2.2.1⟩) (fun aa=>?_);clear hK K;(try go_frame);refine aI 11 fun K hK=>?_
   go_simp;refine (CL4.out _ _ _ _ o1.entsAt).mono ?_;rintro e w2 ⟨rfl,hb2⟩;have k2:=k1.below hb2;have o2:=o1.below hb2;go_wp2_with fail
   refine hK.out _ _ (⟨k2.bx.c1,k2.bx.c2,k2.bx.c3,k2.bx.lt,k2.ts.head.2.2.2.1⟩) (fun aa=>?_);clear hK K;(try go_frame);refine aI 12 fun K hK=>?_
   go_simp;have kc:Bl w2 (w2.alloc (.cells #[sL gl nl cl,iT m] 63)):=bZ;have k3:=k2.below kc;have o3:=o2.below kc;have hcn:=bT w2 (sL gl nl cl) (iT m) 63;generalize w2.heap.size=gb at hcn ⊢;generalize w2.alloc (.cells #[sL gl nl cl,iT m] 63)=wb at k3 o3 hcn ⊢;refine hK.out _ _ (⟨k3.bx.c1,k3.bx.c2,k3.bx.c3,k3.bx.lt,k3.ts.head.2.2.2.1⟩) (fun aa=>?_);clear hK K;(try go_frame);refine aI 13 fun K hK=>?_
   obtain ⟨a1,a2,xsA,a3,a4⟩:=k3.ts.rA;have hXg:X≠gA:=fun e=>by subst e;obtain ⟨_,kk⟩:=aJ a3;exact absurd (k3.kx.1.kind kk) (by decide)
   refine ef rfl (.tmp 22) (.tmp 29) 61 rfl lo 63 i0 _ 2 32 Tryz.underlying61 hi hz0 hz1 hz2 rfl (by decide) _ _ _ rfl a3 ⟨gb,0,none⟩ 1 1 [sL gl nl cl,iT m] rfl rfl hcn (by intro u hu;simp at hu;rcases hu with rfl | rfl <;> rfl) ?_ ?_ ?_ ?_
   · unfold maxLen;omega
   · omega
   · have h1:=(a3.lt gA rfl);omega
   intro v8 w8 ho8 hg8 hn8 hat8;obtain ⟨g8,c8,rfl⟩:=ownsRow_succ ho8;have hg8':wb.grownBy w8 (some gA):=hg8;refine hK.out _ _ (⟨(k3.bx.grownB hg8' hXg).c1,(k3.bx.grownB hg8' hXg).c2,(k3.bx.grownB hg8' hXg).c3,(k3.bx.grownB hg8' hXg).lt,Nat.lt_of_lt_of_le k3.ts.head.2.2.2.1 hg8'.size⟩) (fun aa=>?_);clear hK K;(try go_frame);refine aO 14 1 aa ?_;refine aI 15 fun K hK=>?_
   have hGA:G≠gA:=fun e=>by subst e;obtain ⟨_,kk⟩:=aJ a3;obtain ⟨_,kr⟩:=aJ k3.ts.row;exact absurd (kr.kind kk) (by decide)
   have hGs:some G≠some gA:=fun e=>hGA (Option.some.inj e)
   have q0:=hg8'.cell k3.ts.head.1 hGs;have qf:=(aV hg8' (x:=⟨G,0,none⟩) k3.ts.head.2.2.2.1 hGs).trans k3.ts.head.2.2.2.2;have qz:=Nat.lt_of_lt_of_le k3.ts.head.2.2.2.1 hg8'.size;go_simp;have ks:pG lo w (w8.setCell ⟨G,0,none⟩ (sL g8 (A.length+1) c8)) X (iT q) (sL g1 nm cm) (sL G 3 c) (.slice ak ns cs) G c ak ns cs g8 c8 e1 n1 d1 e2 n2 d2 (A++[(L,m)]) B C S:=nu k3 o3 HMW.out a2 a3 a4 hg8' ho8 (by have h9:(some g8:Option Nat)=some gA∨(some g8:Option Nat)=some wb.heap.size:=hat8;exact h9.imp Option.some.inj Option.some.inj);clear q0 qf qz;refine hK.out _ _ (⟨ks.bx.c1,ks.bx.c2,ks.bx.c3,ks.bx.lt,ks.ts.head.2.2.2.1⟩) (fun aa=>?_);clear hK K;(try go_frame);refine dN ?_;obtain ⟨w9,hw9⟩:=aS (w8.setCell ⟨G,0,none⟩ (sL g8 (A.length+1) c8));rw [← hw9] at ks;have KS:Hid (pG lo w w9 X (iT q) (sL g1 nm cm) (sL G 3 c) (.slice ak ns cs) G c ak ns cs g8 c8 e1 n1 d1 e2 n2 d2 (A++[(L,m)]) B C S):=ks;rw [← hw9];clear hw9 ks k3 o3 hcn hg8' ho8 a1 a2 a3 a4 hXg hGA hGs aa k0 k1 k2 o1 o2;have y1:=KS.out.bx.c1;have yf:=KS.out.bx.fz;have yz:=KS.out.bx.lt;obtain ⟨wA,hwA⟩:=aS ((w9.setCell ⟨X,1,none⟩ (sL (w9.heap.size) 0 0)).alloc (.cells #[] 50));obtain ⟨ge,hge⟩:=aS w9.heap.size;have HGE:Hid (ay wA lo ge 0 0 []):=by rw [hwA,hge];show ay _ _ _ _ _ _;have h1:=bQ (w9.setCell ⟨X,1,none⟩ (sL (w9.heap.size) 0 0)) lo (by have:=KS.out.low.size;have:=KS.out.top;simp [World.setCell];omega);simpa [World.setCell] using h1
   have KA:Hid (pG lo w wA X (iT q) (sL ge 0 0) (sL G 3 c) (.slice ak ns cs) G c ak ns cs g8 c8 e1 n1 d1 e2 n2 d2 (A++[(L,m)]) B C S):=by
    rw [hwA,← hge];refine pG.below ?_ bZ;exact nq KS.out _ _ _
   go_upto_region 5 with fail
   rw [← hwA];try rw [← hge]
   clear hwA hge y1 yf yz KS;have y0:=KA.out.bx.c0;have y1:=KA.out.bx.c1;have y2:=KA.out.bx.c2;have y3:=KA.out.bx.c3;have yz:=KA.out.bx.lt;have r0:=KA.out.br.c0;have r1:=KA.out.br.c1;have r2:=KA.out.br.c2;have r3:=KA.out.br.c3;have rf:=KA.out.br.fz;have rz:=KA.out.br.lt;go_wp2;refine bodyPost_ret (v:=.tuple #[.agg #[iT q,sL ge 0 0,sL G 3 c,.slice ak ns cs],.bool true]) ?_ rfl ?_
   · have e:=(((KA.out.br.set0 (iT q)).set1 (sL ge 0 0)).set2 (sL G 3 c)).set3 (.slice ak ns cs);simp [results,Tryz.results115,go_sem,e.c0,e.c1,e.c2,e.c3]
   · exact lq KA.out HTF.out HGE.out
 · go_simp;refine (CQ.out _ k0.ts.mem.entsAt k0.ts.sn).mono ?_;rintro e w1 ⟨gl,nl,cl,rfl,hO1,hb1⟩;have k1:=k0.below hb1;have o1:ay w1 lo gl nl cl L:=hO1.mono (HBS.out _ k0.low);go_wp2_with fail
   refine hK.out _ _ (⟨k1.bx.c1,k1.bx.c2,k1.bx.c3,k1.bx.lt,k1.ts.head.2.2.2.1⟩) (fun aa=>?_);clear hK K;(try go_frame);refine iU 5 11 (fun K hK=>?_) fun K hK=>?_
   · have q5:=k1.ts.head.1;go_simp;clear q5;refine hK.out _ _ (⟨k1.bx.c1,k1.bx.c2,k1.bx.c3,k1.bx.lt,k1.ts.head.2.2.2.1⟩) (fun aa=>?_);clear hK K;(try go_frame);refine aI 11 fun K hK=>?_
     go_simp;refine (CL4.out _ _ _ _ o1.entsAt).mono ?_;rintro e w2 ⟨rfl,hb2⟩;have k2:=k1.below hb2;have o2:=o1.below hb2;go_wp2_with fail
     refine hK.out _ _ (⟨k2.bx.c1,k2.bx.c2,k2.bx.c3,k2.bx.lt,k2.ts.head.2.2.2.1⟩) (fun aa=>?_);clear hK K;(try go_frame);refine aI 12 fun K hK=>?_
     go_simp;have kc:Bl w2 (w2.alloc (.cells #[sL gl nl cl,iT m] 63)):=bZ;have k3:=k2.below kc;have o3:=o2.below kc;have hcn:=bT w2 (sL gl nl cl) (iT m) 63;generalize w2.heap.size=gb at hcn ⊢;generalize w2.alloc (.cells #[sL gl nl cl,iT m] 63)=wb at k3 o3 hcn ⊢;refine hK.out _ _ (⟨k3.bx.c1,k3.bx.c2,k3.bx.c3,k3.bx.lt,k3.ts.head.2.2.2.1⟩) (fun aa=>?_);clear hK K;(try go_frame);refine aI 13 fun K hK=>?_
     obtain ⟨a1,a2,xsA,a3,a4⟩:=k3.ts.rA;have hXg:X≠gA:=fun e=>by subst e;obtain ⟨_,kk⟩:=aJ a3;exact absurd (k3.kx.1.kind kk) (by decide)
     refine ef rfl (.tmp 22) (.tmp 29) 61 rfl lo 63 i0 _ 2 32 Tryz.underlying61 hi hz0 hz1 hz2 rfl (by decide) _ _ _ rfl a3 ⟨gb,0,none⟩ 1 1 [sL gl nl cl,iT m] rfl rfl hcn (by intro u hu;simp at hu;rcases hu with rfl | rfl <;> rfl) ?_ ?_ ?_ ?_
     · unfold maxLen;omega
     · omega
     · have h1:=(a3.lt gA rfl);omega
     intro v8 w8 ho8 hg8 hn8 hat8;obtain ⟨g8,c8,rfl⟩:=ownsRow_succ ho8;have hg8':wb.grownBy w8 (some gA):=hg8;refine hK.out _ _ (⟨(k3.bx.grownB hg8' hXg).c1,(k3.bx.grownB hg8' hXg).c2,(k3.bx.grownB hg8' hXg).c3,(k3.bx.grownB hg8' hXg).lt,Nat.lt_of_lt_of_le k3.ts.head.2.2.2.1 hg8'.size⟩) (fun aa=>?_);clear hK K;(try go_frame);refine aO 14 1 aa ?_;refine aI 15 fun K hK=>?_
     have hGA:G≠gA:=fun e=>by subst e;obtain ⟨_,kk⟩:=aJ a3;obtain ⟨_,kr⟩:=aJ k3.ts.row;exact absurd (kr.kind kk) (by decide)
     have hGs:some G≠some gA:=fun e=>hGA (Option.some.inj e)
     have q0:=hg8'.cell k3.ts.head.1 hGs;have qf:=(aV hg8' (x:=⟨G,0,none⟩) k3.ts.head.2.2.2.1 hGs).trans k3.ts.head.2.2.2.2;have qz:=Nat.lt_of_lt_of_le k3.ts.head.2.2.2.1 hg8'.size;go_simp;have ks:pG lo w (w8.setCell ⟨G,0,none⟩ (sL g8 (A.length+1) c8)) X (iT q) (sL g1 nm cm) (sL G 3 c) (.slice ak ns cs) G c ak ns cs g8 c8 e1 n1 d1 e2 n2 d2 (A++[(L,m)]) B C S:=nu k3 o3 HMW.out a2 a3 a4 hg8' ho8 (by have h9:(some g8:Option Nat)=some gA∨(some g8:Option Nat)=some wb.heap.size:=hat8;exact h9.imp Option.some.inj Option.some.inj);clear q0 qf qz;refine hK.out _ _ (⟨ks.bx.c1,ks.bx.c2,ks.bx.c3,ks.bx.lt,ks.ts.head.2.2.2.1⟩) (fun aa=>?_);clear hK K;(try go_frame);refine dN ?_;obtain ⟨w9,hw9⟩:=aS (w8.setCell ⟨G,0,none⟩ (sL g8 (A.length+1) c8));rw [← hw9] at ks;have KS:Hid (pG lo w w9 X (iT q) (sL g1 nm cm) (sL G 3 c) (.slice ak ns cs) G c ak ns cs g8 c8 e1 n1 d1 e2 n2 d2 (A++[(L,m)]) B C S):=ks;rw [← hw9];clear hw9 ks k3 o3 hcn hg8' ho8 a1 a2 a3 a4 hXg hGA hGs aa k0 k1 k2 o1 o2;have y1:=KS.out.bx.c1;have yf:=KS.out.bx.fz;have yz:=KS.out.bx.lt;obtain ⟨wA,hwA⟩:=aS ((w9.setCell ⟨X,1,none⟩ (sL (w9.heap.size) 0 0)).alloc (.cells #[] 50));obtain ⟨ge,hge⟩:=aS w9.heap.size;have HGE:Hid (ay wA lo ge 0 0 []):=by rw [hwA,hge];show ay _ _ _ _ _ _;have h1:=bQ (w9.setCell ⟨X,1,none⟩ (sL (w9.heap.size) 0 0)) lo (by have:=KS.out.low.size;have:=KS.out.top;simp [World.setCell];omega);simpa [World.setCell] using h1
     have KA:Hid (pG lo w wA X (iT q) (sL ge 0 0) (sL G 3 c) (.slice ak ns cs) G c ak ns cs g8 c8 e1 n1 d1 e2 n2 d2 (A++[(L,m)]) B C S):=by
      rw [hwA,← hge];refine pG.below ?_ bZ;exact nq KS.out _ _ _
     go_upto_region 5 with fail
     rw [← hwA];try rw [← hge]
     clear hwA hge y1 yf yz KS;have y0:=KA.out.bx.c0;have y1:=KA.out.bx.c1;have y2:=KA.out.bx.c2;have y3:=KA.out.bx.c3;have yz:=KA.out.bx.lt;have r0:=KA.out.br.c0;have r1:=KA.out.br.c1;have r2:=KA.out.br.c2;have r3:=KA.out.br.c3;have rf:=KA.out.br.fz;have rz:=KA.out.br.lt;go_wp2;refine bodyPost_ret (v:=.tuple #[.agg #[iT q,sL ge 0 0,sL G 3 c,.slice ak ns cs],.bool true]) ?_ rfl ?_
     · have e:=(((KA.out.br.set0 (iT q)).set1 (sL ge 0 0)).set2 (sL G 3 c)).set3 (.slice ak ns cs);simp [results,Tryz.results115,go_sem,e.c0,e.c1,e.c2,e.c3]
     · exact lq KA.out HTF.out HGE.out
   · go_simp;refine (CL4.out _ _ _ _ o1.entsAt).mono ?_;rintro e w2 ⟨rfl,hb2⟩;have k2:=k1.below hb2;have o2:=o1.below hb2;go_wp2_with fail
     refine hK.out _ _ (⟨k2.bx.c1,k2.bx.c2,k2.bx.c3,k2.bx.lt,k2.ts.head.2.2.2.1⟩) (fun aa=>?_);clear hK K;(try go_frame);refine iU 5 12 (fun K hK=>?_) fun K hK=>?_
     · have q5:=k2.ts.head.1;go_simp;clear q5;refine hK.out _ _ (⟨k2.bx.c1,k2.bx.c2,k2.bx.c3,k2.bx.lt,k2.ts.head.2.2.2.1⟩) (fun aa=>?_);clear hK K;(try go_frame);refine aI 12 fun K hK=>?_
       go_simp;have kc:Bl w2 (w2.alloc (.cells #[sL gl nl cl,iT m] 63)):=bZ;have k3:=k2.below kc;have o3:=o2.below kc;have hcn:=bT w2 (sL gl nl cl) (iT m) 63;generalize w2.heap.size=gb at hcn ⊢;generalize w2.alloc (.cells #[sL gl nl cl,iT m] 63)=wb at k3 o3 hcn ⊢;refine hK.out _ _ (⟨k3.bx.c1,k3.bx.c2,k3.bx.c3,k3.bx.lt,k3.ts.head.2.2.2.1⟩) (fun aa=>?_);clear hK K;(try go_frame);refine aI 13 fun K hK=>?_
       obtain ⟨a1,a2,xsA,a3,a4⟩:=k3.ts.rA;have hXg:X≠gA:=fun e=>by subst e;obtain ⟨_,kk⟩:=aJ a3;exact absurd (k3.kx.1.kind kk) (by decide)
       refine ef rfl (.tmp 22) (.tmp 29) 61 rfl lo 63 i0 _ 2 32 Tryz.underlying61 hi hz0 hz1 hz2 rfl (by decide) _ _ _ rfl a3 ⟨gb,0,none⟩ 1 1 [sL gl nl cl,iT m] rfl rfl hcn (by intro u hu;simp at hu;rcases hu with rfl | rfl <;> rfl) ?_ ?_ ?_ ?_
       · unfold maxLen;omega
       · omega
       · have h1:=(a3.lt gA rfl);omega
       intro v8 w8 ho8 hg8 hn8 hat8;obtain ⟨g8,c8,rfl⟩:=ownsRow_succ ho8;have hg8':wb.grownBy w8 (some gA):=hg8;refine hK.out _ _ (⟨(k3.bx.grownB hg8' hXg).c1,(k3.bx.grownB hg8' hXg).c2,(k3.bx.grownB hg8' hXg).c3,(k3.bx.grownB hg8' hXg).lt,Nat.lt_of_lt_of_le k3.ts.head.2.2.2.1 hg8'.size⟩) (fun aa=>?_);clear hK K;(try go_frame);refine aO 14 1 aa ?_;refine aI 15 fun K hK=>?_
       have hGA:G≠gA:=fun e=>by subst e;obtain ⟨_,kk⟩:=aJ a3;obtain ⟨_,kr⟩:=aJ k3.ts.row;exact absurd (kr.kind kk) (by decide)
       have hGs:some G≠some gA:=fun e=>hGA (Option.some.inj e)
       have q0:=hg8'.cell k3.ts.head.1 hGs;have qf:=(aV hg8' (x:=⟨G,0,none⟩) k3.ts.head.2.2.2.1 hGs).trans k3.ts.head.2.2.2.2;have qz:=Nat.lt_of_lt_of_le k3.ts.head.2.2.2.1 hg8'.size;go_simp;have ks:pG lo w (w8.setCell ⟨G,0,none⟩ (sL g8 (A.length+1) c8)) X (iT q) (sL g1 nm cm) (sL G 3 c) (.slice ak ns cs) G c ak ns cs g8 c8 e1 n1 d1 e2 n2 d2 (A++[(L,m)]) B C S:=nu k3 o3 HMW.out a2 a3 a4 hg8' ho8 (by have h9:(some g8:Option Nat)=some gA∨(some g8:Option Nat)=some wb.heap.size:=hat8;exact h9.imp Option.some.inj Option.some.inj);clear q0 qf qz;refine hK.out _ _ (⟨ks.bx.c1,ks.bx.c2,ks.bx.c3,ks.bx.lt,ks.ts.head.2.2.2.1⟩) (fun aa=>?_);clear hK K;(try go_frame);refine dN ?_;obtain ⟨w9,hw9⟩:=aS (w8.setCell ⟨G,0,none⟩ (sL g8 (A.length+1) c8));rw [← hw9] at ks;have KS:Hid (pG lo w w9 X (iT q) (sL g1 nm cm) (sL G 3 c) (.slice ak ns cs) G c ak ns cs g8 c8 e1 n1 d1 e2 n2 d2 (A++[(L,m)]) B C S):=ks;rw [← hw9];clear hw9 ks k3 o3 hcn hg8' ho8 a1 a2 a3 a4 hXg hGA hGs aa k0 k1 k2 o1 o2;have y1:=KS.out.bx.c1;have yf:=KS.out.bx.fz;have yz:=KS.out.bx.lt;obtain ⟨wA,hwA⟩:=aS ((w9.setCell ⟨X,1,none⟩ (sL (w9.heap.size) 0 0)).alloc (.cells #[] 50));obtain ⟨ge,hge⟩:=aS w9.heap.size;have HGE:Hid (ay wA lo ge 0 0 []):=by rw [hwA,hge];show ay _ _ _ _ _ _;have h1:=bQ (w9.setCell ⟨X,1,none⟩ (sL (w9.heap.size) 0 0)) lo (by have:=KS.out.low.size;have:=KS.out.top;simp [World.setCell];omega);simpa [World.setCell] using h1
       have KA:Hid (pG lo w wA X (iT q) (sL ge 0 0) (sL G 3 c) (.slice ak ns cs) G c ak ns cs g8 c8 e1 n1 d1 e2 n2 d2 (A++[(L,m)]) B C S):=by
        rw [hwA,← hge];refine pG.below ?_ bZ;exact nq KS.out _ _ _
       go_upto_region 5 with fail
       rw [← hwA];try rw [← hge]
       clear hwA hge y1 yf yz KS;have y0:=KA.out.bx.c0;have y1:=KA.out.bx.c1;have y2:=KA.out.bx.c2;have y3:=KA.out.bx.c3;have yz:=KA.out.bx.lt;have r0:=KA.out.br.c0;have r1:=KA.out.br.c1;have r2:=KA.out.br.c2;have r3:=KA.out.br.c3;have rf:=KA.out.br.fz;have rz:=KA.out.br.lt;go_wp2;refine bodyPost_ret (v:=.tuple #[.agg #[iT q,sL ge 0 0,sL G 3 c,.slice ak ns cs],.bool true]) ?_ rfl ?_
       · have e:=(((KA.out.br.set0 (iT q)).set1 (sL ge 0 0)).set2 (sL G 3 c)).set3 (.slice ak ns cs);simp [results,Tryz.results115,go_sem,e.c0,e.c1,e.c2,e.c3]
       · exact lq KA.out HTF.out HGE.out
     · go_simp;have kc:Bl w2 (w2.alloc (.cells #[sL gl nl cl,iT m] 63)):=bZ;have k3:=k2.below kc;have o3:=o2.below kc;have hcn:=bT w2 (sL gl nl cl) (iT m) 63;generalize w2.heap.size=gb at hcn ⊢;generalize w2.alloc (.cells #[sL gl nl cl,iT m] 63)=wb at k3 o3 hcn ⊢;refine hK.out _ _ (⟨k3.bx.c1,k3.bx.c2,k3.bx.c3,k3.bx.lt,k3.ts.head.2.2.2.1⟩) (fun aa=>?_);clear hK K;(try go_frame);refine aI 5 fun K hK=>?_
       have q5:=k3.ts.head.1;go_simp;clear q5;refine hK.out _ _ (⟨k3.bx.c1,k3.bx.c2,k3.bx.c3,k3.bx.lt,k3.ts.head.2.2.2.1⟩) (fun aa=>?_);clear hK K;(try go_frame);refine aI 13 fun K hK=>?_
       obtain ⟨a1,a2,xsA,a3,a4⟩:=k3.ts.rA;have hXg:X≠gA:=fun e=>by subst e;obtain ⟨_,kk⟩:=aJ a3;exact absurd (k3.kx.1.kind kk) (by decide)
       refine ef rfl (.tmp 22) (.tmp 29) 61 rfl lo 63 i0 _ 2 32 Tryz.underlying61 hi hz0 hz1 hz2 rfl (by decide) _ _ _ rfl a3 ⟨gb,0,none⟩ 1 1 [sL gl nl cl,iT m] rfl rfl hcn (by intro u hu;simp at hu;rcases hu with rfl | rfl <;> rfl) ?_ ?_ ?_ ?_
       · unfold maxLen;omega
       · omega
       · have h1:=(a3.lt gA rfl);omega
       intro v8 w8 ho8 hg8 hn8 hat8;obtain ⟨g8,c8,rfl⟩:=ownsRow_succ ho8;have hg8':wb.grownBy w8 (some gA):=hg8;refine hK.out _ _ (⟨(k3.bx.grownB hg8' hXg).c1,(k3.bx.grownB hg8' hXg).c2,(k3.bx.grownB hg8' hXg).c3,(k3.bx.grownB hg8' hXg).lt,Nat.lt_of_lt_of_le k3.ts.head.2.2.2.1 hg8'.size⟩) (fun aa=>?_);clear hK K;(try go_frame);refine aO 14 1 aa ?_;refine aI 15 fun K hK=>?_
       have hGA:G≠gA:=fun e=>by subst e;obtain ⟨_,kk⟩:=aJ a3;obtain ⟨_,kr⟩:=aJ k3.ts.row;exact absurd (kr.kind kk) (by decide)
       have hGs:some G≠some gA:=fun e=>hGA (Option.some.inj e)
       have q0:=hg8'.cell k3.ts.head.1 hGs;have qf:=(aV hg8' (x:=⟨G,0,none⟩) k3.ts.head.2.2.2.1 hGs).trans k3.ts.head.2.2.2.2;have qz:=Nat.lt_of_lt_of_le k3.ts.head.2.2.2.1 hg8'.size;go_simp;have ks:pG lo w (w8.setCell ⟨G,0,none⟩ (sL g8 (A.length+1) c8)) X (iT q) (sL g1 nm cm) (sL G 3 c) (.slice ak ns cs) G c ak ns cs g8 c8 e1 n1 d1 e2 n2 d2 (A++[(L,m)]) B C S:=nu k3 o3 HMW.out a2 a3 a4 hg8' ho8 (by have h9:(some g8:Option Nat)=some gA∨(some g8:Option Nat)=some wb.heap.size:=hat8;exact h9.imp Option.some.inj Option.some.inj);clear q0 qf qz;refine hK.out _ _ (⟨ks.bx.c1,ks.bx.c2,ks.bx.c3,ks.bx.lt,ks.ts.head.2.2.2.1⟩) (fun aa=>?_);clear hK K;(try go_frame);refine dN ?_;obtain ⟨w9,hw9⟩:=aS (w8.setCell ⟨G,0,none⟩ (sL g8 (A.length+1) c8));rw [← hw9] at ks;have KS:Hid (pG lo w w9 X (iT q) (sL g1 nm cm) (sL G 3 c) (.slice ak ns cs) G c ak ns cs g8 c8 e1 n1 d1 e2 n2 d2 (A++[(L,m)]) B C S):=ks;rw [← hw9];clear hw9 ks k3 o3 hcn hg8' ho8 a1 a2 a3 a4 hXg hGA hGs aa k0 k1 k2 o1 o2;have y1:=KS.out.bx.c1;have yf:=KS.out.bx.fz;have yz:=KS.out.bx.lt;obtain ⟨wA,hwA⟩:=aS ((w9.setCell ⟨X,1,none⟩ (sL (w9.heap.size) 0 0)).alloc (.cells #[] 50));obtain ⟨ge,hge⟩:=aS w9.heap.size;have HGE:Hid (ay wA lo ge 0 0 []):=by rw [hwA,hge];show ay _ _ _ _ _ _;have h1:=bQ (w9.setCell ⟨X,1,none⟩ (sL (w9.heap.size) 0 0)) lo (by have:=KS.out.low.size;have:=KS.out.top;simp [World.setCell];omega);simpa [World.setCell] using h1
       have KA:Hid (pG lo w wA X (iT q) (sL ge 0 0) (sL G 3 c) (.slice ak ns cs) G c ak ns cs g8 c8 e1 n1 d1 e2 n2 d2 (A++[(L,m)]) B C S):=by
        rw [hwA,← hge];refine pG.below ?_ bZ;exact nq KS.out _ _ _
       go_upto_region 5 with fail
       rw [← hwA];try rw [← hge]
       clear hwA hge y1 yf yz KS;have y0:=KA.out.bx.c0;have y1:=KA.out.bx.c1;have y2:=KA.out.bx.c2;have y3:=KA.out.bx.c3;have yz:=KA.out.bx.lt;have r0:=KA.out.br.c0;have r1:=KA.out.br.c1;have r2:=KA.out.br.c2;have r3:=KA.out.br.c3;have rf:=KA.out.br.fz;have rz:=KA.out.br.lt;go_wp2;refine bodyPost_ret (v:=.tuple #[.agg #[iT q,sL ge 0 0,sL G 3 c,.slice ak ns cs],.bool true]) ?_ rfl ?_
       · have e:=(((KA.out.br.set0 (iT q)).set1 (sL ge 0 0)).set2 (sL G 3 c)).set3 (.slice ak ns cs);simp [results,Tryz.results115,go_sem,e.c0,e.c1,e.c2,e.c3]
       · exact lq KA.out HTF.out HGE.out
theorem zC (lo:Nat) (v:Value) (w:World) (h:cw lo w v) (hlw:lo≤w.heap.size):Calls Tryz.prog 115 #[v] w (mZ lo w):=by
 obtain ⟨q,am,nm,cm,G,c,ak,ns,cs,gA,dA,e1,n1,d1,e2,n2,d2,M,A,B,C,S,rfl,hT,htb⟩:=h;by_cases hno:nm=0∨4≤A.length
 · exact Bc lo q am nm cm G c ak ns cs gA dA e1 n1 d1 e2 n2 d2 M A B C S w hT htb hlw hno
 · have hl:=hT.mem.len;have hm:=(bh htb).2.2.1;cases am with
   | none=>have:=(hT.mem.nil rfl).1;omega
   | some x =>
    obtain ⟨g1,rfl,_⟩:=hT.mem.own x rfl;exact Bb lo q g1 nm cm G c ak ns cs gA dA e1 n1 d1 e2 n2 d2 M A B C S w hT htb hlw (by omega) (by omega) (by omega)
end Go.Proofs.YtpobkmjicbobdaaGreat
