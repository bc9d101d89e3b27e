/- Walks. -/
import Derived.Test.YtpobkmjicbobdaaGreatBW18
import Derived.Laws.OwnMore
namespace Go.Proofs.YtpobkmjicbobdaaGreat
set_option maxRecDepth 100000
set_option maxHeartbeats 40000000
open Go.RowKit
variable {C:List af} {G T Y base c c1 c3 c4 g g1 i k n n1 n2 n4 nm nv:Nat} {K L M:List ac} {P:List (List ac)} {S:List Int} {V:List (List af)} {p q x z:Int} {u0 u1 u2 u3:Value} {w w' wr:World}
theorem Bo (S:List Int) (x:Int):(S.filter (fun y=>decide (¬y=x))).length<S.length ↔ x ∈ S:=by
 induction S with
 | nil=>simp
 | cons a S d =>
  have b:=Jl (fun y=>decide (¬y=x)) S;by_cases ha:a=x
  · subst ha;simp;simpa using Nat.lt_succ_of_le b
  · have hb:(a :: S).filter (fun y=>decide (¬y=x))=a :: S.filter (fun y=>decide (¬y=x)):=by simp [ha]
    rw [hb];simp only [Hn,GZ];constructor
    · intro h;exact .inr (d.1 (by omega))
    · rintro (h | h)
      · exact absurd h.symm ha
      · have:=d.2 h;omega
def ic (S:List Int) (x:Int):List Int:=S.filter (fun y=>decide (¬y=x))
theorem drop_take {a:Int} (h:S[k]?=some a):ic (S.take (k+1)) x=if a=x then ic (S.take k) x else ic (S.take k) x++[a]:=by
 unfold ic;rw [Hc,h,Hw];by_cases ha:a=x <;> simp [ha]
theorem DU (S:List Int) (x:Int):(ic S x).length≤S.length:=Jl _ _
theorem EW (S:List Int) (x:Int):decide ((ic S x).length<S.length)=decide (x ∈ S):=by
 rw [decide_eq_decide];exact Bo S x
theorem DT (h:z ∈ ic S x):z ∈ S:=(ID.1 h).1
structure f7 (w wr:World) (base X Y:Nat) (u0 u1 u2 u3:Value) (q:Int) (g1 nm c1 G nv c g n4 c4:Nat) (M:List ac) (V:List (List af)) (S:List Int):Prop where
 low:Bl w wr
 bx:ay wr X u0 u1 u2 u3
 br:ay wr (X+1) (iT 0) nZ nZ nZ
 hy:ay wr Y (iT q) (sL g1 nm c1) (sL G nv c) (sL g n4 c4)
 cp:cQ base wr g1 nm c1 G nv c g n4 c4 M V S
 ky:aq wr Y 31 4
 lows:X+1<base∧X+1<Y∧w.heap.size≤base∧w.heap.size≤X
theorem f7.below {b:World} {X:Nat} (h:f7 w wr base X Y u0 u1 u2 u3 q g1 nm c1 G nv c g n4 c4 M V S) (hb:Bl wr b):f7 w b base X Y u0 u1 u2 u3 q g1 nm c1 G nv c g n4 c4 M V S :=
 ⟨h.low.trans (hb.mono h.low.size),h.bx.keep hb,h.br.keep hb,h.hy.keep hb,h.cp.below hb,h.ky.below hb,h.lows⟩
theorem f7.ne {X:Nat} (h:f7 w wr base X Y u0 u1 u2 u3 q g1 nm c1 G nv c g n4 c4 M V S):X≠g∧X+1≠g∧Y≠g:=by
 have h1:=(h.cp.sn.lt g rfl).1;have h2:=h.lows;refine ⟨by omega,by omega,fun e=>?_⟩;obtain ⟨_,k3⟩:=aQ h.cp.sn;subst e;exact absurd (h.ky.kind k3) (by decide)
theorem f7.push {b:World} {X:Nat} {m c':Nat} (h:f7 w wr base X Y u0 u1 u2 u3 q g1 nm c1 G nv c g n4 c4 M V S) (hg:wr.grownBy b (some g)) (ho:b.ownsRow base 3 1 (sL m (n4+1) c') (n4+1) (S.map iT++[iT z])) (hz:(Lit.int .i64 z).wf=true):f7 w (b.setCell ⟨Y,3,none⟩ (sL m (n4+1) c')) base X Y u0 u1 u2 u3 q g1 nm c1 G nv c m (n4+1) c' M V (S++[z]):=by
 obtain ⟨e1,e2,e3⟩:=h.ne;have hl:=h.lows;have f:aq b Y 31 4:=by
  obtain ⟨o,h1,h2⟩:=h.ky;exact ⟨o,(hg.block Y (Ii.1 h1).1 (fun e=>e3 (GN e))).trans h1,h2⟩
 have d:b.grownBy (b.setCell ⟨Y,3,none⟩ (sL m (n4+1) c')) (some Y):=dg _ _ _ _;refine ⟨?_,?_,?_,?_,?_,?_,h.lows⟩
 · exact (h.low.grown hg h.low.size (fun k e=>by cases e;have:=(h.cp.sn.lt g rfl).1;omega)).setCell (p:=⟨Y,3,none⟩) (by show _≤Y;omega) _
 · exact (h.bx.grownB hg e1).other (by omega) _
 · exact (h.br.grownB hg e2).other (by omega) _
 · exact (h.hy.grownB hg e3).set3 _
 · exact (h.cp.push hg ho hz).kind f (by decide) (by decide) (by decide) (by decide) d
 · exact f.setCell _
theorem bo.grownR {sz:Nat} {B:List af} (h:bo base w g n c B) (hG:aq w G 63 sz) (b:g≠G) (hg:w.grownBy w' (some G)):bo base w' g n c B:=by
 obtain ⟨h1,h2,xs,h3,h4⟩:=h;refine ⟨h1,h2,xs,h3.kept hg (.inr ?_),fun i p hp=>?_⟩
 · intro e;have m:g=G:=by simpa [Value.ownBlock] using e
   exact b m
 · obtain ⟨e,d,a1,a2,a3⟩:=h4 i p hp;obtain ⟨r,o⟩:=aQ a3.owns;refine ⟨e,d,a1,a2,a3.grown hg (fun m=>?_)⟩;have f:=GN m;subst f;exact absurd (hG.kind o) (by decide)
theorem cQ.split {t s:Nat} {A B:List af} (h:cQ base w g1 nm c1 G nv c t s c3 M [A,B,C] S):∃d f e o gC m,w.ownsRow base 61 1 (sL G 3 c) 3 [sL d A.length f,sL e B.length o,sL gC C.length m]∧bo base w d A.length f A∧bo base w e B.length o B∧bo base w gC C.length m C∧d≠e∧d≠gC:=by
 obtain ⟨h1,xs,h3,h4,h5⟩:=h.levs;have hn:=h1.symm;subst hn;obtain ⟨d,f,a1,a2⟩:=h4 0 A rfl;obtain ⟨e,o,b1,b2⟩:=h4 1 B rfl;obtain ⟨gC,m,b,r⟩:=h4 2 C rfl;have hx:xs=[sL d A.length f,sL e B.length o,sL gC C.length m]:=by
  have hl:=h3.1;match xs,hl,a1,b1,b with
  | [x,y,z],_,a1,b1,b=>simp at a1 b1 b;rw [a1,b1,b]
 rw [hx] at h3 h5;exact ⟨d,f,e,o,gC,m,h3,a2,b2,r,h5 0 1 _ _ _ _ _ _ (by omega) rfl rfl,h5 0 2 _ _ _ _ _ _ (by omega) rfl rfl⟩
theorem Ax (L:List ac) (e:ac):aS (L++[e])=eI (aS L) e:=by simp [aS]
theorem tP (_h:P[i]?=some L) (k:Nat) {e:ac} (b:L[k]?=some e):(P.take i).flatten++L.take (k+1)=((P.take i).flatten++L.take k)++[e]:=by
 rw [Hc,b];simp
theorem tQ (h:P[i]?=some L):(P.take (i+1)).flatten=(P.take i).flatten++L.take L.length:=by
 rw [Hc,h];simp
theorem Dg (h:P[i]?=some L):((P.take i).flatten++L.take k).length≤P.flatten.length:=by
 have h1:P.flatten=(P.take (i+1)).flatten++(P.drop (i+1)).flatten:=by rw [← IJ,Hh]
 rw [h1,tQ h,GO,GO,GO,GS,GS];omega
theorem s9 (a:Option Addr) (n c:Nat) (P:List (List ac)) (w:World) (R:cZ w a n c P) (y:P.flatten.length≤1048576) :
 Calls Tryz.prog 109 #[.slice a n c] w fun e w'=>∃g d,e=.returned (sL g P.flatten.length d)∧ag w' w.heap.size g P.flatten.length d (aS P.flatten)∧Bl w w':=by
 have HP:=az R;have A:=az R.length;have a7:=az y;have hroom:=R.room;have hbig:=R.big;unfold maxLen at hbig;obtain ⟨N,hN⟩:∃N,P.flatten.length=N:=⟨_,rfl⟩;have HN:=az hN;rw [hN];go_enter Tryz.func109,Tryz.ntmps109
 go_wp2;go_loopw [3,4] (fun ov iv wr=>∃(i g d m:Nat) (F:List ac),i≤n∧iv=iT i∧F=(P.take i).flatten∧F.length=m∧ov=sL g m d∧ag wr w.heap.size g m d (aS F)∧Bl w wr) (fun _ iv _=>n - (intOf iv).toNat)
 case atStart=>exact ⟨0,w.heap.size,0,0,[],GQ _,rfl,by simp,rfl,rfl,cK w _ (GL _),bZ⟩
 case round =>
  obtain ⟨i,g,d,m,F,hi,rfl,hF,U,rfl,hO,hb⟩:=hrel;have f:=az hF;have D:=az U;have u:=az hO;have t:=az hb;by_cases I:i<n
  · have O:(i:Int)<(n:Int):=by omega
    obtain ⟨b,av,rfl,X⟩:=HP.o.form (by omega);obtain ⟨L,hL⟩:∃L,P[i]?=some L:=⟨_,j' (by rw [A.o];exact I)⟩;have E:=az hL;go_wp2;go_loopw [3,5] (fun ov kv wq=>∃(k g d m:Nat) (G:List ac),k≤L.length∧kv=iT k∧G=F++L.take k∧G.length=m∧ov=sL g m d∧ag wq w.heap.size g m d (aS G)∧Bl w wq) (fun _ kv _=>L.length - (intOf kv).toNat)
    case atStart=>exact ⟨0,g,d,m,F,GQ _,rfl,by simp,D.o,rfl,u.o,t.o⟩
    case round =>
     obtain ⟨k,g,d,m,G,hk,rfl,hG,a6,rfl,hO,hb⟩:=hrel;obtain ⟨L',s,len,aq,H,c0,hE⟩:=HP.o.list hb i I;rw [E.o] at H;cases H;have W:=az hG;have B:=az a6;have u:=az hO;have t:=az hb;have J:=hE.length;have r:=az J;have zb:=E' X hb.size;have ax:=hE.room;have a2:=hE.big;unfold maxLen at a2;have hm:m≤1048576:=by
      have h1:=Dg (k:=k) E.o;rw [← f.o,← hG] at h1;have h2:=a7.o;omega
     rw [J] at hk;by_cases a3:k<len
     · have Q:(k:Int)<(len:Int):=by omega
       obtain ⟨bs,os,rfl,zs⟩:=hE.form (by omega);obtain ⟨es,eq,ed,et,en,hx,hw,e0,e1,e2,e3,e4⟩:=hE.ent (Below.refl _ wr) zs k a3;have HX:=az hx;have CP:=uk g m d (aS G) es et eq ed en wr u.o.entsAt u.o.lt.2 hm hw;go_wp2_with fail
       refine CP.mono ?_;rintro e w2 ⟨g2,c2,rfl,a0,ab⟩;have a5:=az (a0.mono t.o.size);have a9:=az (t.o.trans (ab.mono t.o.size));go_wp2;go_roundw
       case rel =>
        refine ⟨k+1,g2,c2,m+1,F++L.take (k+1),by have:=r.o;omega,by go_num,rfl,?_,rfl,?_,a9.o⟩
        · rw [f.o,tP E.o k HX.o,← f.o,← W.o,GO,B.o];rfl
        · rw [f.o,tP E.o k HX.o,← f.o,← W.o,Ax];exact a5.o
       case measure=>have:=r.o;simp [intOf];omega
     · have Q:¬(k:Int)<(len:Int):=by omega
       have Z:Eq (k=L.length):=by have:=r.o;show k=_;omega
       have wi:IntKind.i64.wrap ((i:Int)+1)=((i+1:Nat):Int):=by rw [G4];unfold wrap64;omega
       go_wp2;go_roundw
       case rel =>
        refine ⟨i+1,g,d,m,G,by omega,by first | rfl | go_num,?_,B.o,rfl,u.o,t.o⟩;rw [tQ E.o,W.o,f.o,Z.o]
       case measure=>simp [intOf];omega
  · have au:i=n:=by omega
    have O:¬(i:Int)<(n:Int):=by omega
    have a4:Eq (F=P.flatten):=by show F=_;rw [f.o,GV (by rw [A.o];omega)]
    go_wp2;go_ret;have h1:=D.o;have h2:=u.o;rw [a4.o] at h1 h2;obtain rfl:N=m:=by have:=HN.o;omega
    exact ⟨g,d,rfl,h2,t.o⟩
def BW (w:World) (X:Nat):Prop:=∀o,(∀s,w.cell? ⟨X,o,none⟩≠some (.string s))∧∀a n c k,w.cell? ⟨X,o,none⟩=some (.slice a n c)→w.cell? ⟨X,o+1,none⟩≠some (iT k)
theorem cX (w:World) (cs:Array Value) (t:Nat):aq (w.alloc (.cells cs t)) w.heap.size t cs.size:=⟨cs,(by unfold World.alloc;exact In),rfl⟩
theorem mX {b o:Nat} {xs:List Value} (h:pE w (sO b o n c) n xs):Eq (∀j u,xs[j]?=some u→w.cell? ((⟨b,o,none⟩:Addr).add j)=some u):=fun j u d=>by
 rcases h.2.2 with ⟨h1,_⟩ | ⟨b',e,c',h1,hc⟩
 · cases h1
 · cases h1
   rw [G6]
   exact hc j u d
theorem Fu {X:Nat} (hb:aq w X T k) (h0:w.cell? ⟨X,0,none⟩=some (iT q)) (hs:∀o,1≤o→o<k→∃a n c,w.cell? ⟨X,o,none⟩=some (.slice a n c)):BW w X:=by
 have far:∀o,k≤o→w.cell? ⟨X,o,none⟩=none:=fun o ho=>by
  obtain ⟨b,h1,h2⟩:=hb;simp [World.cell?,h1,Array.getElem?_eq_none (show b.size≤o by omega)]
 intro o;refine ⟨fun s e=>?_,fun a n c z _ e=>?_⟩
 · by_cases ho:o=0
   · subst ho;rw [h0] at e;cases e
   · by_cases hk:o<k
     · obtain ⟨a,n,c,h⟩:=hs o (by omega) hk;rw [h] at e;cases e
     · rw [far o (by omega)] at e;cases e
 · by_cases hk:o+1<k
   · obtain ⟨a,n,c,h⟩:=hs (o+1) (by omega) hk;rw [h] at e;cases e
   · rw [far (o+1) (by omega)] at e;cases e
theorem gN {w:World} {X T:Nat} {q:Int} {a1 a2 a3:Option Addr} {n1 c1 n2 c2 b c3:Nat} (hb:aq w X T 4) (h:ay w X (iT q) (.slice a1 n1 c1) (.slice a2 n2 c2) (.slice a3 b c3)):BW w X :=
 Fu hb h.c0 (fun o h1 h2=>by
  match o,h1,h2 with
  | 1,_,_=>exact ⟨_,_,_,h.c1⟩
  | 2,_,_=>exact ⟨_,_,_,h.c2⟩
  | 3,_,_=>exact ⟨_,_,_,h.c3⟩)
theorem ri (w:World) (X:Nat) (u0 u1 u2 u3:Value):∀b,b≠X→∀o,((((w.setCell ⟨X,0,none⟩ u0).setCell ⟨X,1,none⟩ u1).setCell ⟨X,2,none⟩ u2).setCell ⟨X,3,none⟩ u3).cell? ⟨b,o,none⟩=w.cell? ⟨b,o,none⟩:=fun b hb o=>by
 have h1:∀(w:World) (k:Nat) (u:Value),(w.setCell ⟨X,k,none⟩ u).cell? ⟨b,o,none⟩=w.cell? ⟨b,o,none⟩:=fun w k u=>by
  simp only [World.cell?,Below.heap_setCell w (⟨X,k,none⟩:Addr) u b hb]
 rw [h1,h1,h1,h1]
theorem tN (w:World) (X:Nat) (u0 u1 u2 u3:Value):((((w.setCell ⟨X,0,none⟩ u0).setCell ⟨X,1,none⟩ u1).setCell ⟨X,2,none⟩ u2).setCell ⟨X,3,none⟩ u3).heap.size=w.heap.size:=by simp [World.setCell]
theorem kL {s m o:Option Addr} {t f r d:Nat} {A B:List af} (hc:3≤c) (b:c≤maxLen) (c0:w.cell? ⟨G,0,none⟩=some (.slice s t f)) (c1:w.cell? ⟨G,1,none⟩=some (.slice m n1 r)) (c2:w.cell? ⟨G,2,none⟩=some (.slice o n2 d)) (h0:aw 0 w s t f A) (h1:aw 0 w m n1 r B) (h2:aw 0 w o n2 d C):cF 0 w (pT G) 3 c [A,B,C]:=by
 refine ⟨rfl,hc,b,(fun e=>by cases e),?_,?_⟩
 · rintro x e _;cases e;exact ⟨GK _ _ c0,rfl,GQ _⟩
 · rintro x e i hi;cases e;simp only [GT];match i,hi with
   | 0,_=>exact ⟨_,_,_,c0,h0⟩
   | 1,_=>exact ⟨_,_,_,c1,h1⟩
   | 2,_=>exact ⟨_,_,_,c2,h2⟩
theorem pm {B:List af} {e:Ending} (h:ss n B w e w'):∃a c,e=.returned (.slice a n c)∧cZ w' a n c (bG B)∧Bl w w':=by
 obtain ⟨v,b,rfl,h1,h2,h3⟩:=h;obtain ⟨a,c,rfl,h4⟩:=vV h1 (h2.keep h3);exact ⟨a,c,rfl,h4,h3⟩
theorem uU (L:List ac):∀k,(fs L k).1.length≤k
 | 0=>GL _
 | k+1=>by
  have:=uU L k
  rw [fs]
  split
  · rw [GO];simp;omega
  · omega
theorem oD:∀(B A:List af),(dO A B).length=A.length+B.length
 | [],A=>rfl
 | r :: B,A=>by
  show (dO (oK A r) B).length=_
  rw [oD B]
  simp [oK]
  omega
theorem qw {P:Program} (base:Nat) (t m e:TypeId) (i:TypeInfo) (size:Nat) (d:P.underlying t=some (.slice e)) (hi:P.info? e=some i) (v:Value) (n c:Nat) (xs:List Value) (hown:w.ownsRow base e size v n xs) :
 (Builtin.append_ #[t,t] m #[v,.slice none 0 c]).run P w=.ok v w:=by
 rcases hown.2 with ⟨rfl,rfl⟩ | ⟨g,o,f,rfl,_,_,b,_⟩
 · simp [Builtin.append_,run_underlying d,sizeOf,typeInfo,hi,Builtin.lenOf,Builtin.firstCells]
 · simp [Builtin.append_,run_underlying d,sizeOf,typeInfo,hi,Builtin.lenOf,Builtin.firstCells,b,storeCells]
theorem cy {P:Program} {b:Array Oper} {o:Oper} {a:Act} {w:World} {K:Act→World→Prop} {Q:Exit→Act→World→Prop} {E:Prop}
 (hg:o.guard=none) (s x:Operand) (t:TypeId) (hop:o.op=Op.call { callee:=Callee.builtin Builtin.append,args:=#[s,x],argTypes:=#[t,t] })
 (base:Nat) (e:TypeId) (i:TypeInfo) (z:Value) (size bytes:Nat) (h1:P.underlying t=some (.slice e)) (h2:P.info? e=some i) (h3:i.zero=some z) (h4:i.size=size) (h5:i.bytes=bytes) (h6:z.cells.size=size) (h7:0<size)
 (v:Value) (n:Nat) (olds:List Value) (hs:a.eval s=v) (hown:w.ownsRow base e size v n olds)
 (ad:Option Addr) (m c:Nat) (news:List Value) (hx:a.eval x=.slice ad m c) (hn:news.length=m*size) (hz:ad=none→m=0) (hc:∀y,ad=some y→∀j u,news[j]?=some u→w.cell? (y.add j)=some u) (h1c:∀u ∈ news,u.oneCell'=true)
 (b1:n+m≤maxLen) (b2:(n+m)*bytes≤140737488355328) (b3:base≤w.heap.size)
 (hK:∀f w',w'.ownsRow base e size f (n+m) (olds++news)→w.grownBy w' v.ownBlock→(f=nZ ↔ v=nZ∧m=0)→K (a.put o.dst f) w') :
 if Region.wanted o (yielded b a.tmps)=true then Oper.wp P o a w K Q else E:=by
 cases ad with
 | some y=>exact aE hg s x t hop base e i z size bytes h1 h2 h3 h4 h5 h6 h7 v n olds hs hown y m c news hx hn (hc y rfl) h1c b1 b2 b3 hK
 | none =>
  have hw:Region.wanted o (yielded b a.tmps)=true:=by simp [Region.wanted,hg]
  rw [if_pos hw];obtain rfl:m=0:=hz rfl;have r:=List.eq_nil_of_length_eq_zero (by rw [hn];simp);subst r;have d:=qw (P:=P) (w:=w) base t o.type e i size h1 h2 v n c olds hown;unfold Oper.wp;simp [execOp,hop,resolve,invoke,builtin,hs,hx,d,Result.andThen];exact hK v w (by rw [Iv];exact hown) ⟨rfl,rfl,rfl,GL _,fun _ _ _=>rfl⟩ ⟨fun h=>⟨h,rfl⟩,fun h=>h.1⟩
theorem mB {a:Option Addr} (h:ah w a n c L):∀y,a=some y→∀j u,(aF L)[j]?=some u→w.cell? (y.add j)=some u:=by
 rintro ⟨b,o,s⟩ rfl j u e;have d:=(F'.1 e).1;rw [aX] at d;have hs:=(h.lies _ rfl (by have:=h.length;omega)).2;simp only at hs;subst hs;exact jK h j u e
theorem fH {lo:Nat} {a:Option Addr} (h:bJ lo w a n c S):∀y,a=some y→∀j u,(S.map iT)[j]?=some u→w.cell? (y.add j)=some u:=by
 rintro ⟨b,o,s⟩ rfl j u e;have d:=(F'.1 e).1;rw [Id] at d;have hs:=(h.lies _ rfl (by have:=h.length;omega)).2.1;simp only at hs;subst hs;exact AU h j u e
theorem eu.low {X:Nat} (h:eu base w G n c V) (b:X<base) (hg:w.grownBy w' (some X)):eu base w' G n c V:=by
 obtain ⟨h1,xs,h3,h4,h5⟩:=h;refine ⟨h1,xs,h3.kept hg (.inr fun e=>?_),fun i p hp=>(by obtain ⟨e,d,a1,a3⟩:=h4 i p hp;exact ⟨e,d,a1,a3.low b hg⟩),h5⟩;have f:G=X:=by simpa [Value.ownBlock] using e
 have:=(h3.lt G rfl).1;omega
theorem te (lo:Nat) (q:Int) (am av ak:Option Addr) (nm cm nv cv y cs:Nat) (M:List ac) (V:List (List af)) (S:List Int) (w:World) (hT:aZ lo w am nm cm av nv cv ak y cs M V S) (b6:nm≤1048576) (hns:y≤1048576) (aW:nv≤100) (hS:∀B ∈ V,B.length≤100∧∀r ∈ B,1≤r.1.length∧r.1.length≤10000) :
 Calls Tryz.prog 57 #[.agg #[iT q,.slice am nm cm,.slice av nv cv,.slice ak y cs]] w fun e w'=>∃g1 c1 G c J c3,e=.returned (.agg #[iT q,sL g1 nm c1,sL G nv c,sL J y c3])∧cQ w.heap.size w' g1 nm c1 G nv c J y c3 M V S∧Bl w w'∧∃b,w.heap.size≤b∧g1<b∧eu b w' G nv c V:=by
 obtain ⟨i0,hi,aE,aH,au⟩:=info_parts Tryz.infoEnt;obtain ⟨j0,hj,ai,ae,al⟩:=info_parts Tryz.infoInt;obtain ⟨X,hX⟩:=aG w.heap.size;obtain ⟨W0,a0⟩:=aG ((w.alloc (.cells #[iT q,.slice am nm cm,.slice av nv cv,.slice ak y cs] 31)).alloc (.cells #[iT 0,nZ,nZ,nZ] 31));have kW:Bl w W0:=by rw [a0];exact bZ.alloc (by simp) _
 have bx:ay W0 X (iT q) (.slice am nm cm) (.slice av nv cv) (.slice ak y cs):=by rw [a0,hX];exact (ay.new _ _ _ _ _ _).alloc _
 have br:ay W0 (X+1) (iT 0) nZ nZ nZ:=by
  have:=ay.new (w.alloc (.cells #[iT q,.slice am nm cm,.slice av nv cv,.slice ak y cs] 31)) 31 (iT 0) nZ nZ nZ;rw [GY] at this;rw [a0,hX];exact this
 have a1:Eq (W0.heap.size=X+1+1):=by rw [a0,hX];simp [Eq]
 have aw:=az hX;have KW:=az kW;have BX:=az bx;have BR:=az br;have HM:=az (hT.mem.1.keep kW);have HS:=az (hT.snaps.keep kW);have Z:=az hT.mem.1.length;have Q:=az hT.snaps.length;have ao:=az hT.snaps.wfs;have HV:=az (hT.levels.keep kW);have CL:Eq (∀w',Bl W0 w'→Calls Tryz.prog 120 #[.slice av nv cv] w' fun e aA=>∃G c,e=.returned (sL G nv c)∧eu w'.heap.size aA G nv c V∧Bl w' aA):=fun w' k=>(qr lo av nv cv V w' (HV.o.keep k) aW hS).mono (fun e aA h=>by obtain ⟨G,c,h1,h2,h3⟩:=h;exact ⟨G,c,h1,h2,h3⟩)
 have d:Bl W0 W0.drew:=(Below.refl _ W0).drew;have t:Eq (∀w',Bl W0 w'→(fun w'=>w'.cell? ⟨X,0,none⟩=some (iT q)∧w'.cell? ⟨X,1,none⟩=some (.slice am nm cm)∧w'.cell? ⟨X,2,none⟩=some (.slice av nv cv)∧w'.cell? ⟨X,3,none⟩=some (.slice ak y cs)∧X<w'.heap.size) w'):=fun w' kk=>⟨cell_later kk BX.o.c0,cell_later kk BX.o.c1,cell_later kk BX.o.c2,cell_later kk BX.o.c3,E' BX.o.lt kk.size⟩
 have aj:Eq (∀(w':World) (u0 u1 u2 u3:Value),Bl W0 w'→(fun w'=>w'.cell? ⟨X,0,none⟩=some (iT q)∧w'.cell? ⟨X,1,none⟩=some (.slice am nm cm)∧w'.cell? ⟨X,2,none⟩=some (.slice av nv cv)∧w'.cell? ⟨X,3,none⟩=some (.slice ak y cs)∧X<w'.heap.size) ((((w'.setCell ⟨X+1,0,none⟩ u0).setCell ⟨X+1,1,none⟩ u1).setCell ⟨X+1,2,none⟩ u2).setCell ⟨X+1,3,none⟩ u3)):=fun w' u0 u1 u2 u3 kk=>by
  have b:=((((BX.o.keep kk).other (b':=X+1) (o:=0) (by omega) u0).other (b':=X+1) (o:=1) (by omega) u1).other (b':=X+1) (o:=2) (by omega) u2).other (b':=X+1) (o:=3) (by omega) u3;exact ⟨b.c0,b.c1,b.c2,b.c3,b.lt⟩
 go_enter Tryz.func57,Tryz.ntmps57
 go_upto_region 1 with fail
 rw [← hX,← a0];clear hX a0;refine eJ t d fun D=>?_
 generalize W0.drew=wd at d D ⊢;refine aR 0 2 D ?_;refine aR 3 2 D ?_;refine aR 6 2 D ?_;refine aR 10 2 D ?_;refine mK 2 9 (fun K hK=>?_) fun K hK=>?_
 · go_simp;have A:Bl wd (wd.alloc (.cells #[] 50)):=bZ;have f:=cK wd W0.heap.size d.size;have d:=d.trans (A.mono d.size);generalize wd.heap.size=ga at f ⊢;generalize wd.alloc (.cells #[] 50)=w1 at d f ⊢;refine hK.o _ _ (t.o _ d) fun D=>?_
   refine mK 5 9 (fun K hK=>?_) fun K hK=>?_
   · refine cy rfl (.tmp 5) (.tmp 7) 28 rfl W0.heap.size 50 i0 _ 5 56 Tryz.underlying28 hi aE aH au rfl (Hx 4) _ _ _ rfl f.owns am nm cm (aF M) rfl (by rw [aX,Z.o]) HM.o.nil (mB (HM.o.keep d)) (bf _) ?_ ?_ ?_ ?_
     · unfold maxLen;omega
     · omega
     · exact d.size
     intro v1 w2 O a7 a4;obtain ⟨g1,c1,rfl⟩:=aO O a4;have F:=a7;have d:Bl W0 w2:=d.grown F d.size (fun k e=>by cases e;exact f.lt.1);have f:ag w2 W0.heap.size g1 nm c1 M:=⟨by have h1:=O;rw [GT] at h1;simpa [aF] using h1,Z.o,HM.o.ents⟩;rw [GT];refine hK.o _ _ (t.o _ d) fun D=>?_
     refine mK 8 9 (fun K hK=>?_) fun K hK=>?_
     focus
      go_simp
      refine (CL.o _ d).mono ?_
      rintro e w3 ⟨G,c,rfl,N,A⟩
      have R:=f.lt.2
      have f:=f.below A
      have H:=d.size
      have d:=d.trans (A.mono d.size)
      go_wp2_with fail
      refine hK.o _ _ (t.o _ d) fun D=>?_
      refine aV 9 fun K hK=>?_
      go_simp
      have A:Bl w3 (w3.alloc (.cells #[] 3)):=bZ
      have f:=f.below A
      have N:=N.below A
      have m:(w3.alloc (.cells #[] 3)).ownsRow W0.heap.size 3 1 (sL (w3.heap.size) 0 0) 0 []:=Hi (base:=W0.heap.size) (e:=3) (size:=1) w3 #[] 0 d.size (by simp) (by simp)
      have d:=d.trans (A.mono d.size)
      generalize w3.heap.size=gi at m ⊢
      generalize w3.alloc (.cells #[] 3)=w4 at d f N m ⊢
      refine hK.o _ _ (t.o _ d) fun D=>?_
      refine aV 12 fun K hK=>?_
      refine cy rfl (.tmp 12) (.tmp 14) 24 rfl W0.heap.size 3 j0 _ 1 8 Tryz.underlying24 hj ai ae al rfl (Hx 0) _ _ _ rfl m ak y cs (S.map iT) rfl (by rw [Id,Q.o,Nat.mul_one]) HS.o.nil (fH (HS.o.keep d)) (by intro u hu;obtain ⟨z,_,rfl⟩:=Ib.1 hu;rfl) ?_ ?_ ?_ ?_
      · unfold maxLen;omega
      · omega
      · exact d.size
      intro v2 w5 I U W;obtain ⟨J,c3,rfl⟩:=aO I W;have s:=U;have f:=dV f m (by decide) s;have N:=iw N m (by decide) (by decide) (by decide) s;have d:Bl W0 w5:=d.grown s d.size (fun k e=>by cases e;exact (m.lt gi rfl).1);have m:w5.ownsRow W0.heap.size 3 1 (sL J y c3) y (S.map iT):=by have h1:=I;rw [GT,Ho] at h1;exact h1
      rw [GT]
      refine hK.o _ _ (t.o _ d) fun D=>?_
      refine aR 13 1 D ?_
      refine aV 14 fun K hK=>?_
      have bq:=BR.o.keep d
      have d0:=bq.all
      go_simp
      refine hK.o _ _ (aj.o _ _ _ _ _ d) fun D=>?_
      refine dN ?_
      have HC:Eq (cQ W0.heap.size w5 g1 nm c1 G nv c J y c3 M V S):=⟨f,N.mono H,Q.o,ao.o,m⟩
      have HF:Eq (∃b,W0.heap.size≤b∧g1<b∧eu b w5 G nv c V):=⟨_,H,R,N⟩
     rotate_left
     focus
      go_simp
      have A:Bl w2 (w2.alloc (.cells #[] 3)):=bZ
      have f:=f.below A
      have m:(w2.alloc (.cells #[] 3)).ownsRow W0.heap.size 3 1 (sL (w2.heap.size) 0 0) 0 []:=Hi (base:=W0.heap.size) (e:=3) (size:=1) w2 #[] 0 d.size (by simp) (by simp)
      have d:=d.trans (A.mono d.size)
      generalize w2.heap.size=gi at m ⊢
      generalize w2.alloc (.cells #[] 3)=w6 at d f m ⊢
      refine hK.o _ _ (t.o _ d) fun D=>?_
      refine aV 8 fun K hK=>?_
      go_simp
      refine (CL.o _ d).mono ?_
      rintro e w7 ⟨G,c,rfl,N,A⟩
      have R:=f.lt.2
      have f:=f.below A
      have m:=b9 m A
      have H:=d.size
      have d:=d.trans (A.mono d.size)
      go_wp2_with fail
      refine hK.o _ _ (t.o _ d) fun D=>?_
      refine aV 12 fun K hK=>?_
      refine cy rfl (.tmp 12) (.tmp 14) 24 rfl W0.heap.size 3 j0 _ 1 8 Tryz.underlying24 hj ai ae al rfl (Hx 0) _ _ _ rfl m ak y cs (S.map iT) rfl (by rw [Id,Q.o,Nat.mul_one]) HS.o.nil (fH (HS.o.keep d)) (by intro u hu;obtain ⟨z,_,rfl⟩:=Ib.1 hu;rfl) ?_ ?_ ?_ ?_
      · unfold maxLen;omega
      · omega
      · exact d.size
      intro v2 w8 I U W;obtain ⟨J,c3,rfl⟩:=aO I W;have s:=U;have f:=dV f m (by decide) s;have N:=iw N m (by decide) (by decide) (by decide) s;have d:Bl W0 w8:=d.grown s d.size (fun k e=>by cases e;exact (m.lt gi rfl).1);have m:w8.ownsRow W0.heap.size 3 1 (sL J y c3) y (S.map iT):=by have h1:=I;rw [GT,Ho] at h1;exact h1
      rw [GT]
      refine hK.o _ _ (t.o _ d) fun D=>?_
      refine aR 13 1 D ?_
      refine aV 14 fun K hK=>?_
      have bq:=BR.o.keep d
      have d0:=bq.all
      go_simp
      refine hK.o _ _ (aj.o _ _ _ _ _ d) fun D=>?_
      refine dN ?_
      have HC:Eq (cQ W0.heap.size w8 g1 nm c1 G nv c J y c3 M V S):=⟨f,N.mono H,Q.o,ao.o,m⟩
      have HF:Eq (∃b,W0.heap.size≤b∧g1<b∧eu b w8 G nv c V):=⟨_,H,R,N⟩
     all_goals
      have HK:=az d
      have a8:=az bq
      go_wp2
      refine bodyPost_ret (v:=.agg #[iT q,sL g1 nm c1,sL G nv c,sL J y c3]) ?_ rfl ⟨g1,c1,G,c,J,c3,rfl,?_,?_,?_⟩
      · have e:=(((a8.o.set0 (iT q)).set1 (sL g1 nm c1)).set2 (sL G nv c)).set3 (sL J y c3);simp [results,Tryz.results57,go_sem,e.all]
      · exact (HC.o.four (by have:=a1.o;omega) _ _ _ _).mono KW.o.size
      · have hx:w.heap.size≤X+1:=by have:=aw.o;omega
        exact ((((KW.o.trans (HK.o.mono KW.o.size)).setCell (p:=⟨X+1,0,none⟩) hx _).setCell (p:=⟨X+1,1,none⟩) hx _).setCell (p:=⟨X+1,2,none⟩) hx _).setCell (p:=⟨X+1,3,none⟩) hx _
      · obtain ⟨b,f1,f3,f4⟩:=HF.o;have E:X+1<b:=by have:=a1.o;omega
        exact ⟨b,GU KW.o.size f1,f3,(((f4.low E (dg _ _ _ _)).low E (dg _ _ _ _)).low E (dg _ _ _ _)).low E (dg _ _ _ _)⟩
   · go_simp;have A:Bl w1 (w1.alloc (.cells #[] 3)):=bZ;have f:=f.below A;have m:(w1.alloc (.cells #[] 3)).ownsRow W0.heap.size 3 1 (sL (w1.heap.size) 0 0) 0 []:=Hi (base:=W0.heap.size) (e:=3) (size:=1) w1 #[] 0 d.size (by simp) (by simp);have d:=d.trans (A.mono d.size);generalize w1.heap.size=gi at m ⊢;generalize w1.alloc (.cells #[] 3)=w9 at d f m ⊢;refine hK.o _ _ (t.o _ d) fun D=>?_
     refine aV 5 fun K hK=>?_
     refine cy rfl (.tmp 5) (.tmp 7) 28 rfl W0.heap.size 50 i0 _ 5 56 Tryz.underlying28 hi aE aH au rfl (Hx 4) _ _ _ rfl f.owns am nm cm (aF M) rfl (by rw [aX,Z.o]) HM.o.nil (mB (HM.o.keep d)) (bf _) ?_ ?_ ?_ ?_
     · unfold maxLen;omega
     · omega
     · exact d.size
     intro v1 w10 O a7 a4;obtain ⟨g1,c1,rfl⟩:=aO O a4;have F:=a7;have m:=cV m f.owns (by decide) F;have d:Bl W0 w10:=d.grown F d.size (fun k e=>by cases e;exact f.lt.1);have f:ag w10 W0.heap.size g1 nm c1 M:=⟨by have h1:=O;rw [GT] at h1;simpa [aF] using h1,Z.o,HM.o.ents⟩;rw [GT];refine hK.o _ _ (t.o _ d) fun D=>?_
     refine aV 8 fun K hK=>?_
     go_simp;refine (CL.o _ d).mono ?_;rintro e b3 ⟨G,c,rfl,N,A⟩;have R:=f.lt.2;have f:=f.below A;have m:=b9 m A;have H:=d.size;have d:=d.trans (A.mono d.size);go_wp2_with fail
     refine hK.o _ _ (t.o _ d) fun D=>?_
     refine aV 12 fun K hK=>?_
     refine cy rfl (.tmp 12) (.tmp 14) 24 rfl W0.heap.size 3 j0 _ 1 8 Tryz.underlying24 hj ai ae al rfl (Hx 0) _ _ _ rfl m ak y cs (S.map iT) rfl (by rw [Id,Q.o,Nat.mul_one]) HS.o.nil (fH (HS.o.keep d)) (by intro u hu;obtain ⟨z,_,rfl⟩:=Ib.1 hu;rfl) ?_ ?_ ?_ ?_
     · unfold maxLen;omega
     · omega
     · exact d.size
     intro v2 w12 I U W;obtain ⟨J,c3,rfl⟩:=aO I W;have s:=U;have f:=dV f m (by decide) s;have N:=iw N m (by decide) (by decide) (by decide) s;have d:Bl W0 w12:=d.grown s d.size (fun k e=>by cases e;exact (m.lt gi rfl).1);have m:w12.ownsRow W0.heap.size 3 1 (sL J y c3) y (S.map iT):=by have h1:=I;rw [GT,Ho] at h1;exact h1
     rw [GT];refine hK.o _ _ (t.o _ d) fun D=>?_
     refine aR 13 1 D ?_;refine aV 14 fun K hK=>?_
     have bq:=BR.o.keep d;have d0:=bq.all;go_simp;refine hK.o _ _ (aj.o _ _ _ _ _ d) fun D=>?_
     refine dN ?_;have HC:Eq (cQ W0.heap.size w12 g1 nm c1 G nv c J y c3 M V S):=⟨f,N.mono H,Q.o,ao.o,m⟩;have HF:Eq (∃b,W0.heap.size≤b∧g1<b∧eu b w12 G nv c V):=⟨_,H,R,N⟩;have HK:=az d;have a8:=az bq;go_wp2;refine bodyPost_ret (v:=.agg #[iT q,sL g1 nm c1,sL G nv c,sL J y c3]) ?_ rfl ⟨g1,c1,G,c,J,c3,rfl,?_,?_,?_⟩
     · have e:=(((a8.o.set0 (iT q)).set1 (sL g1 nm c1)).set2 (sL G nv c)).set3 (sL J y c3);simp [results,Tryz.results57,go_sem,e.all]
     · exact (HC.o.four (by have:=a1.o;omega) _ _ _ _).mono KW.o.size
     · have hx:w.heap.size≤X+1:=by have:=aw.o;omega
       exact ((((KW.o.trans (HK.o.mono KW.o.size)).setCell (p:=⟨X+1,0,none⟩) hx _).setCell (p:=⟨X+1,1,none⟩) hx _).setCell (p:=⟨X+1,2,none⟩) hx _).setCell (p:=⟨X+1,3,none⟩) hx _
     · obtain ⟨b,f1,f3,f4⟩:=HF.o;have E:X+1<b:=by have:=a1.o;omega
       exact ⟨b,GU KW.o.size f1,f3,(((f4.low E (dg _ _ _ _)).low E (dg _ _ _ _)).low E (dg _ _ _ _)).low E (dg _ _ _ _)⟩
 · go_simp;have A:Bl wd (wd.alloc (.cells #[] 3)):=bZ;have m:(wd.alloc (.cells #[] 3)).ownsRow W0.heap.size 3 1 (sL (wd.heap.size) 0 0) 0 []:=Hi (base:=W0.heap.size) (e:=3) (size:=1) wd #[] 0 d.size (by simp) (by simp);have d:=d.trans (A.mono d.size);generalize wd.heap.size=gi at m ⊢;generalize wd.alloc (.cells #[] 3)=a5 at d m ⊢;refine hK.o _ _ (t.o _ d) fun D=>?_
   refine aV 2 fun K hK=>?_
   go_simp;have A:Bl a5 (a5.alloc (.cells #[] 50)):=bZ;have m:=b9 m A;have f:=cK a5 W0.heap.size d.size;have d:=d.trans (A.mono d.size);generalize a5.heap.size=ga at f ⊢;generalize a5.alloc (.cells #[] 50)=b5 at d f m ⊢;refine hK.o _ _ (t.o _ d) fun D=>?_
   refine aV 5 fun K hK=>?_
   refine cy rfl (.tmp 5) (.tmp 7) 28 rfl W0.heap.size 50 i0 _ 5 56 Tryz.underlying28 hi aE aH au rfl (Hx 4) _ _ _ rfl f.owns am nm cm (aF M) rfl (by rw [aX,Z.o]) HM.o.nil (mB (HM.o.keep d)) (bf _) ?_ ?_ ?_ ?_
   · unfold maxLen;omega
   · omega
   · exact d.size
   intro v1 w15 O a7 a4;obtain ⟨g1,c1,rfl⟩:=aO O a4;have F:=a7;have m:=cV m f.owns (by decide) F;have d:Bl W0 w15:=d.grown F d.size (fun k e=>by cases e;exact f.lt.1);have f:ag w15 W0.heap.size g1 nm c1 M:=⟨by have h1:=O;rw [GT] at h1;simpa [aF] using h1,Z.o,HM.o.ents⟩;rw [GT];refine hK.o _ _ (t.o _ d) fun D=>?_
   refine aV 8 fun K hK=>?_
   go_simp;refine (CL.o _ d).mono ?_;rintro e b8 ⟨G,c,rfl,N,A⟩;have R:=f.lt.2;have f:=f.below A;have m:=b9 m A;have H:=d.size;have d:=d.trans (A.mono d.size);go_wp2_with fail
   refine hK.o _ _ (t.o _ d) fun D=>?_
   refine aV 12 fun K hK=>?_
   refine cy rfl (.tmp 12) (.tmp 14) 24 rfl W0.heap.size 3 j0 _ 1 8 Tryz.underlying24 hj ai ae al rfl (Hx 0) _ _ _ rfl m ak y cs (S.map iT) rfl (by rw [Id,Q.o,Nat.mul_one]) HS.o.nil (fH (HS.o.keep d)) (by intro u hu;obtain ⟨z,_,rfl⟩:=Ib.1 hu;rfl) ?_ ?_ ?_ ?_
   · unfold maxLen;omega
   · omega
   · exact d.size
   intro v2 w17 I U W;obtain ⟨J,c3,rfl⟩:=aO I W;have s:=U;have f:=dV f m (by decide) s;have N:=iw N m (by decide) (by decide) (by decide) s;have d:Bl W0 w17:=d.grown s d.size (fun k e=>by cases e;exact (m.lt gi rfl).1);have m:w17.ownsRow W0.heap.size 3 1 (sL J y c3) y (S.map iT):=by have h1:=I;rw [GT,Ho] at h1;exact h1
   rw [GT];refine hK.o _ _ (t.o _ d) fun D=>?_
   refine aR 13 1 D ?_;refine aV 14 fun K hK=>?_
   have bq:=BR.o.keep d;have d0:=bq.all;go_simp;refine hK.o _ _ (aj.o _ _ _ _ _ d) fun D=>?_
   refine dN ?_;have HC:Eq (cQ W0.heap.size w17 g1 nm c1 G nv c J y c3 M V S):=⟨f,N.mono H,Q.o,ao.o,m⟩;have HF:Eq (∃b,W0.heap.size≤b∧g1<b∧eu b w17 G nv c V):=⟨_,H,R,N⟩;have HK:=az d;have a8:=az bq;go_wp2;refine bodyPost_ret (v:=.agg #[iT q,sL g1 nm c1,sL G nv c,sL J y c3]) ?_ rfl ⟨g1,c1,G,c,J,c3,rfl,?_,?_,?_⟩
   · have e:=(((a8.o.set0 (iT q)).set1 (sL g1 nm c1)).set2 (sL G nv c)).set3 (sL J y c3);simp [results,Tryz.results57,go_sem,e.all]
   · exact (HC.o.four (by have:=a1.o;omega) _ _ _ _).mono KW.o.size
   · have hx:w.heap.size≤X+1:=by have:=aw.o;omega
     exact ((((KW.o.trans (HK.o.mono KW.o.size)).setCell (p:=⟨X+1,0,none⟩) hx _).setCell (p:=⟨X+1,1,none⟩) hx _).setCell (p:=⟨X+1,2,none⟩) hx _).setCell (p:=⟨X+1,3,none⟩) hx _
   · obtain ⟨b,f1,f3,f4⟩:=HF.o;have E:X+1<b:=by have:=a1.o;omega
     exact ⟨b,GU KW.o.size f1,f3,(((f4.low E (dg _ _ _ _)).low E (dg _ _ _ _)).low E (dg _ _ _ _)).low E (dg _ _ _ _)⟩
theorem io (lo:Nat) (q:Int) (f u t:Option Addr) (nm s nv o b cs:Nat) (M:List ac) (V:List (List af)) (S:List Int) (w:World) (A:aZ lo w f nm s u nv o t b cs M V S) (y:nm≤1048576) (hns:b≤1048576) (m:nv≤100) (hS:∀B ∈ V,B.length≤100∧∀r ∈ B,1≤r.1.length∧r.1.length≤10000) :
 Calls Tryz.prog 57 #[.agg #[iT q,.slice f nm s,.slice u nv o,.slice t b cs]] w fun e w'=>∃g1 c1 G c d c3,e=.returned (.agg #[iT q,sL g1 nm c1,sL G nv c,sL d b c3])∧cQ w.heap.size w' g1 nm c1 G nv c d b c3 M V S∧Bl w w' :=
 (te lo q f u t nm s nv o b cs M V S w A y hns m hS).mono (fun e w' h=>by obtain ⟨g1,c1,G,c,d,c3,h1,h2,h3,_⟩:=h;exact ⟨g1,c1,G,c,d,c3,h1,h2,h3⟩)
theorem dJ {A B:List af}:aP q M [A,B,C] S=true ↔ 0≤q∧q≤100000∧M.length≤60∧aI M=true∧b6 M q=true∧cG S q=true∧(dK A 4 false q=true∧dK B 8 true q=true∧dK C 8 true q=true)∧(eZ M [A,B,C]).Pairwise Ov:=by
 rw [← Aa];unfold aP fa;simp only [G2,decide_eq_true_eq,Hn,Io,Nat.reduceAdd,true_and]
theorem du:b6 L q=true ↔ ∀e ∈ L,e.2.1≤q:=by
 unfold b6;simp only [Hf,decide_eq_true_eq]
theorem Ad (h:b6 L q=true) (hp:q≤p):b6 L p=true:=du.2 (fun e b=>by have:=du.1 h e b;omega)
theorem uo {B:List af} {b:Int} {d:Bool} (h:dK B b d q=true) (hp:q≤p):dK B b d p=true:=by
 rw [cP] at h ⊢;exact ⟨h.1,h.2.1,fun r hr=>Ad (h.2.2.1 r hr) hp,h.2.2.2⟩
theorem EA (h:cG S q=true) (hp:q≤p):cG S p=true:=by
 unfold cG at h ⊢;rw [G2] at h ⊢;refine ⟨h.1,?_⟩;rw [Hf] at h ⊢;intro j b;have h1:=h.2 j b;unfold dl at h1 ⊢;cases hs:S[j]? with
 | none=>rfl
 | some s =>
  rw [hs] at h1;simp only [G2,decide_eq_true_eq] at h1 ⊢;exact ⟨h1.1,by omega,h1.2.2⟩
theorem EE {A B X:List ac} (h:Ov A X) (hf:∀e ∈ B,∃y ∈ A,e.1=y.1∧e.2.1=y.2.1):Ov B X:=fun x hx y hy hk=>by
 obtain ⟨z,hz,h1,h2⟩:=hf x hx
 have:=h z hz y hy (by rw [← h1];exact hk)
 omega
theorem lm (S:List Int) (b:Bool):∀e ∈ bT L S b,∃y ∈ L,e.1=y.1∧e.2.1=y.2.1 :=
 qh (fun e=>∃y ∈ L,e.1=y.1∧e.2.1=y.2.1) S b (fun b c hc _ x hx=>by
  obtain ⟨y,hy,h1,h2⟩:=E0 b c x hx
  exact ⟨y,hc y hy,h1,h2⟩)
theorem iL (M:List ac) (A B C:List af):eZ M [A,B,C]=M :: (A.reverse.map (·.1)++[aW B,aW C]):=rfl
theorem xI {A B:List af} (h:aP q M [A,B,C] S=true) (hM:M≠[]) (hA:A.length<4):aP q [] [A++[mz M S],B,C] S=true:=by
 obtain ⟨h1,h2,h3,h4,h5,h6,⟨ha,hb,hc⟩,hp⟩:=dJ.1 h;refine dJ.2 ⟨h1,h2,by simp,rfl,rfl,h6,⟨?_,hb,hc⟩,?_⟩
 · rw [cP] at ha ⊢;refine ⟨by simp;omega,?_,fun r hr=>?_,fun e=>by cases e⟩
   · unfold eY;rw [I5];intro r hr;rcases GX.1 hr with hr | hr
     · simpa using dz ha.2.1 r hr
     · rw [G5.1 hr];have e1:1≤(bT M S false).length:=List.length_pos_iff.2 (vp h4 hM S);have e2:(bT M S false).length≤150:=GU (kj M S false) (by omega);have e4:cU (bT M S false) ((dL (bT M S false):Nat):Int)=true:=by
        unfold cU;rw [jz h4 S false,decide_eq_true e1,decide_eq_true e2];simp
       simp only [mz,e4];simp
   · rcases GX.1 hr with hr | hr
     · exact ha.2.2.1 r hr
     · rw [G5.1 hr];refine du.2 (fun e f=>?_);obtain ⟨y,hy,_,m⟩:=lm S false e f;have:=du.1 h5 y hy;omega
 · rw [iL] at hp ⊢;rw [List.reverse_append];have b:=Hb.1 hp;refine Hb.2 ⟨(fun X _ x hx=>by cases hx),?_⟩;show (bT M S false :: (A.reverse.map (·.1)++[aW B,aW C])).Pairwise Ov
   exact Hb.2 ⟨fun X d=>EE (b.1 X d) (lm S false),b.2⟩
theorem fI:cG S q=true ↔ S.length≤4∧(∀s ∈ S,0≤s∧s≤q)∧S.Pairwise (·<·):=by
 unfold cG;simp only [G2,decide_eq_true_eq,Hf,Ia];constructor
 · rintro ⟨h1,h2⟩;have hs:∀j (b:j<S.length),0≤S[j]∧S[j]≤q:=fun j b=>by
    have h3:=h2 j b;unfold dl at h3;rw [j' b] at h3;simp only [G2,decide_eq_true_eq] at h3;exact ⟨h3.1,h3.2.1⟩
   have hn:∀j (b:j+1<S.length),S[j]<S[j+1]:=fun j b=>by
    have h3:=h2 (j+1) b;rw [lp (j' b) (j' (by omega))] at h3;simp only [G2,decide_eq_true_eq] at h3;exact h3.2.2
   refine ⟨h1,fun s e=>by obtain ⟨j,b,rfl⟩:=Hm e;exact hs j b,?_⟩;rw [Hl];intro i j hi b f;obtain ⟨d,rfl⟩:∃d,j=i+1+d:=⟨j - i - 1,by omega⟩;clear f;induction d with
   | zero=>exact hn i b
   | succ d m=>exact Int.lt_trans (m (by omega)) (hn (i+1+d) (by omega))
 · rintro ⟨h1,h2,h3⟩;rw [Hl] at h3;refine ⟨h1,fun j b=>?_⟩;have h4:=h2 S[j] (Hj b);cases j with
   | zero=>rw [oo (j' b)];simp only [G2,decide_eq_true_eq];exact h4
   | succ i =>
    rw [lp (j' b) (j' (by omega))];simp only [G2,decide_eq_true_eq];exact ⟨h4.1,h4.2,h3 i (i+1) (by omega) b (by omega)⟩
theorem Af {A B:List af} (h:aP q M [A,B,C] S=true) (hS:S.length<4) (hq:q ∉ S):aP q M [A,B,C] (S++[q])=true:=by
 obtain ⟨h1,h2,h3,h4,h5,h6,hr,hp⟩:=dJ.1 h;refine dJ.2 ⟨h1,h2,h3,h4,h5,?_,hr,hp⟩;obtain ⟨k1,d,k3⟩:=fI.1 h6;refine fI.2 ⟨by simp;omega,fun s hs=>?_,Ih.2 ⟨k3,by simp,fun a ha b hb=>?_⟩⟩
 · rcases GX.1 hs with hs | hs
   · exact d s hs
   · rw [G5.1 hs];exact ⟨h1,Int.le_refl _⟩
 · rw [G5.1 hb];have h7:=(d a ha).2;have f:a≠q:=fun e=>hq (by rw [← e];exact ha)
   omega
theorem Ag {A B:List af} (h:aP q M [A,B,C] S=true) (x:Int):aP q M [A,B,C] (ic S x)=true:=by
 obtain ⟨h1,h2,h3,h4,h5,h6,hr,hp⟩:=dJ.1 h;refine dJ.2 ⟨h1,h2,h3,h4,h5,?_,hr,hp⟩;obtain ⟨k1,b,k3⟩:=fI.1 h6;refine fI.2 ⟨GU (DU S x) k1,fun s hs=>b s (DT hs),?_⟩;exact It List.filter_sublist k3
theorem C4:∀(D M:List ac),D.foldl eI (aS M)=aS (M++D)
 | D,M=>by unfold aS;rw [I6]
theorem qd {e:ac} (h:e ∈ dh q K):∃i,i<K.length∧e.2.1=q+1+i:=by
 obtain ⟨i,hi,rfl⟩:=Hm h;rw [fk] at hi;exact ⟨i,hi,by simp [dh,Ey]⟩
theorem Am (q:Int) (K:List ac):f6 (dh q K):=by
 unfold f6;rw [Hl];intro i j hi d b h;have h2:=h.2;simp [dh,Ey] at h2;omega
theorem me {A B:List af} (h:aP q M [A,B,C] S=true) (hw:bX q M K=true):aP (q+K.length) ((dh q K).foldl eI M) [A,B,C] S=true:=by
 obtain ⟨h1,h2,h3,h4,h5,h6,⟨ha,hb,hc⟩,hp⟩:=dJ.1 h;unfold bX at hw;simp only [G2,decide_eq_true_eq] at hw;obtain ⟨R,W,J,I⟩:=hw;have hM:=xR h4;have e:(dh q K).foldl eI M=aS (M++dh q K):=by
  have:=C4 (dh q K) M;rw [hM] at this;exact this
 have hK:(K.length:Int)=((dh q K).length:Int):=by rw [fk]
 have hs:∀x ∈ dh q K,dM x.1 x.2.1 x.2.2.1 x.2.2.2.1 x.2.2.2.2=true:=fun x hx=>by
  obtain ⟨i,hi⟩:=Hr hx;exact s6 I hi
 have hq:q+K.length≤100000:=by
  obtain ⟨x,hx⟩:∃x,(dh q K)[K.length - 1]?=some x:=⟨_,j' (by rw [fk];omega)⟩;have h7:=hs x (GP hx);have u:=(nH h7).2;have U:x.2.1=q+1+((K.length - 1:Nat):Int):=by
   have:=(F'.1 hx).2;rw [← this];simp [dh,Ey]
  omega
 have N:f6 (M++dh q K):=by
  refine Ih.2 ⟨ug h4,Am q K,fun a t b F s=>?_⟩;have h7:=du.1 h5 a t;obtain ⟨i,_,u⟩:=qd F;have:=s.2;omega
 have hr:aI (aS (M++dh q K))=true:=by
  obtain ⟨k1,H⟩:=bu (M++dh q K);refine gY (oh k1 (iI N H.symm)) (fun x hx=>?_);rcases GX.1 (H.subset hx) with h7 | h7
  · obtain ⟨j,Q⟩:=Hr h7;exact eo h4 Q
  · exact hs x h7
 have f:∀x ∈ aS (M++dh q K),x ∈ M∨x ∈ dh q K:=fun x hx=>GX.1 ((bu _).2.subset hx)
 rw [e];refine dJ.2 ⟨by omega,hq,?_,hr,?_,EA h6 (by omega),⟨uo ha (by omega),uo hb (by omega),uo hc (by omega)⟩,?_⟩
 · rw [i8,GO,fk];exact J
 · refine du.2 (fun x hx=>?_);rcases f x hx with h7 | h7
   · have:=du.1 h5 x h7;omega
   · obtain ⟨i,hi,u⟩:=qd h7;omega
 · rw [iL] at hp ⊢;have o:=Hb.1 hp;refine Hb.2 ⟨fun X d x hx y hy hk=>?_,o.2⟩;rcases f x hx with h7 | h7
   · exact o.1 X d x h7 y hy hk
   · obtain ⟨i,_,u⟩:=qd h7;have:y.2.1≤q:=by
      rcases GX.1 d with d | d
      · obtain ⟨r,m,rfl⟩:=Ib.1 d;exact du.1 ((cP.1 ha).2.2.1 r (Jf.1 m)) y hy
      · have hf:∀{Z:List af},dK Z 8 true q=true→y ∈ aW Z→y.2.1≤q:=fun {Z} O D=>by
         obtain ⟨r,m,E⟩:=IR.1 D;exact du.1 ((cP.1 O).2.2.1 r m) y E
        rcases GZ.1 d with rfl | d
        · exact hf hb hy
        · rw [G5.1 d] at hy;exact hf hc hy
     omega
end Go.Proofs.YtpobkmjicbobdaaGreat
