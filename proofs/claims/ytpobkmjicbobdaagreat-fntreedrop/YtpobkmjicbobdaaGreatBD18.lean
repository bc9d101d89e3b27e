/- Walks. -/
import Derived.Test.YtpobkmjicbobdaaGreatBD17
import Derived.Laws.OwnMore
namespace Go.Proofs.YtpobkmjicbobdaaGreat
set_option maxRecDepth 100000
set_option maxHeartbeats 40000000
open Go.RowKit
variable {A B C:List af} {G T X Y base c c1 c3 c4 g g1 g3 i k n n1 n2 n4 nm nv:Nat} {L M:List ac} {P:List (List ac)} {S:List Int} {V:List (List af)} {e:Ending} {q x z:Int} {u0 u1 u2 u3:Value} {w w' wr:World}
theorem yx (S:List Int) (x:Int):S.take (S.idxOf x)++S.drop (S.idxOf x+1)=S.erase x:=by
 rw [List.erase_eq_eraseIdx_of_idxOf rfl,List.eraseIdx_eq_take_drop_succ]
theorem uk (S:List Int) (x:Int) (h:S.Nodup):S.filter (fun y=>decide (¬y=x))=S.erase x:=by
 rw [h.erase_eq_filter];congr 1
 funext y
 simp [bne,BEq.beq]
theorem Ci (h:∀i a b,S[i]?=some a→S[i+1]?=some b→a<b):S.Nodup:=by
 have key:∀(d i:Nat) (a b:Int),S[i]?=some a→S[i+d+1]?=some b→a<b:=by
  intro d;induction d with
  | zero=>intro i a b ha hb;exact h i a b ha hb
  | succ d m =>
   intro i a b ha hb;have hl:=(F'.1 hb).1;have hm:=j' (show i+d+1<S.length by omega);exact Int.lt_trans (m i a _ ha hm) (h _ _ _ hm (by rw [← hb];congr 1))
 rw [List.nodup_iff_pairwise_ne,GO];intro i j hi o f e;have h1:=key (j - i - 1) i S[i] S[j] (j' hi) (by rw [← j' o];congr 1;omega);omega
theorem AT (S:List Int) (x:Int):(S.filter (fun y=>decide (¬y=x))).length<S.length ↔ x ∈ S:=by
 induction S with
 | nil=>simp
 | cons a S d =>
  have b:=IP (fun y=>decide (¬y=x)) S;by_cases ha:a=x
  · subst ha;simp;simpa using Nat.lt_succ_of_le b
  · have hb:(a :: S).filter (fun y=>decide (¬y=x))=a :: S.filter (fun y=>decide (¬y=x)):=by simp [ha]
    rw [hb];simp only [GR,Gz];constructor
    · intro h;exact .inr (d.1 (by omega))
    · rintro (h | h)
      · exact absurd h.symm ha
      · have:=d.2 h;omega
theorem uW (h:bX S q=true):S.Nodup:=by
 unfold bX at h;rw [Gx,GL] at h;refine Ci fun i a b ha hb=>?_
 have hl:=(F'.1 hb).1;have h1:=h.2 (i+1) (G7.2 hl);unfold cZ at h1;rw [hb] at h1;simp only [ha,Gx] at h1;exact of_decide_eq_true h1.2.2
def bT (S:List Int) (x:Int):List Int:=S.filter (fun y=>decide (¬y=x))
theorem qQ (h:bX S q=true):S.take (S.idxOf x)++S.drop (S.idxOf x+1)=bT S x:=by
 rw [yx,← uk S x (uW h)];rfl
theorem tr (h:x ∉ S):bT S x=S:=by
 unfold bT;rw [IW];intro y hy;refine decide_eq_true (fun e=>h (by rw [← e];exact hy))
theorem drop_take {a:Int} (h:S[k]?=some a):bT (S.take (k+1)) x=if a=x then bT (S.take k) x else bT (S.take k) x++[a]:=by
 unfold bT;rw [GH,h,Ho];by_cases ha:a=x <;> simp [ha]
theorem vT (S:List Int) (x:Int):(bT S x).length≤S.length:=IP _ _
theorem Ev (S:List Int) (x:Int):decide ((bT S x).length<S.length)=decide (x ∈ S):=by
 rw [decide_eq_decide];exact AT S x
theorem mM (h:z ∈ bT S x):z ∈ S:=(Iy.1 h).1
structure fU (w wr:World) (base X Y:Nat) (u0 u1 u2 u3:Value) (q:Int) (g1 nm c1 G nv c g n4 c4:Nat) (M:List ac) (V:List (List af)) (S:List Int):Prop where
 low:Bl w wr
 bx:ay wr X u0 u1 u2 u3
 br:ay wr (X+1) (iT 0) nZ nZ nZ
 hy:ay wr Y (iT q) (sL g1 nm c1) (sL G nv c) (sL g n4 c4)
 cp:cK base wr g1 nm c1 G nv c g n4 c4 M V S
 ky:aq wr Y 31 4
 lows:X+1<base∧X+1<Y∧w.heap.size≤base∧w.heap.size≤X
theorem fU.below {b:World} (h:fU w wr base X Y u0 u1 u2 u3 q g1 nm c1 G nv c g n4 c4 M V S) (hb:Bl wr b):fU w b base X Y u0 u1 u2 u3 q g1 nm c1 G nv c g n4 c4 M V S :=
 ⟨h.low.trans (hb.mono h.low.size),h.bx.keep hb,h.br.keep hb,h.hy.keep hb,h.cp.below hb,h.ky.below hb,h.lows⟩
theorem fU.ne (h:fU w wr base X Y u0 u1 u2 u3 q g1 nm c1 G nv c g n4 c4 M V S):X≠g∧X+1≠g∧Y≠g:=by
 have h1:=(h.cp.sn.lt g rfl).1;have h2:=h.lows;refine ⟨by omega,by omega,fun e=>?_⟩;obtain ⟨_,k3⟩:=aP h.cp.sn;subst e;exact absurd (h.ky.kind k3) (by decide)
theorem fU.push {b:World} {m c':Nat} (h:fU w wr base X Y u0 u1 u2 u3 q g1 nm c1 G nv c g n4 c4 M V S) (hg:wr.grownBy b (some g)) (ho:b.ownsRow base 3 1 (sL m (n4+1) c') (n4+1) (S.map iT++[iT z])) (hz:(Lit.int .i64 z).wf=true):fU w (b.setCell ⟨Y,3,none⟩ (sL m (n4+1) c')) base X Y u0 u1 u2 u3 q g1 nm c1 G nv c m (n4+1) c' M V (S++[z]):=by
 obtain ⟨e1,e2,e3⟩:=h.ne;have hl:=h.lows;have f:aq b Y 31 4:=by
  obtain ⟨o,h1,h2⟩:=h.ky;exact ⟨o,(hg.block Y (Hi.1 h1).1 (fun e=>e3 (Gi e))).trans h1,h2⟩
 have d:b.grownBy (b.setCell ⟨Y,3,none⟩ (sL m (n4+1) c')) (some Y):=dg _ _ _ _;refine ⟨?_,?_,?_,?_,?_,?_,h.lows⟩
 · exact (h.low.grown hg h.low.size (fun k e=>by cases e;have:=(h.cp.sn.lt g rfl).1;omega)).setCell (p:=⟨Y,3,none⟩) (by show _≤Y;omega) _
 · exact (h.bx.grownB hg e1).other (by omega) _
 · exact (h.br.grownB hg e2).other (by omega) _
 · exact (h.hy.grownB hg e3).set3 _
 · exact (h.cp.push hg ho hz).kind f (by decide) (by decide) (by decide) (by decide) d
 · exact f.setCell _
theorem A3 {b:Bool} (d:e=.returned (.tuple #[.agg #[iT q,sL g1 nm c1,sL G nv c,sL g3 n c3],.bool b])) (hc:cK base w' g1 nm c1 G nv c g3 n c3 M V S) (hb:Bl w w'):DS q M V S b w e w' :=
 ⟨_,_,_,_,_,_,_,_,_,d,hc.treeIn.lowR (Gl _),hb⟩
theorem xm (lo:Nat) (q:Int) (d u t:Option Addr) (nm s nv r m cs:Nat) (M:List ac) (V:List (List af)) (S:List Int) (R:Int) (w:World) (K:bn lo w d nm s u nv r t m cs M V S) (y:aT q M V S=false) :
 Calls Tryz.prog 45 #[.agg #[iT q,.slice d nm s,.slice u nv r,.slice t m cs],iT R] w (zC w):=by
 obtain ⟨X,D⟩:=aF w.heap.size;obtain ⟨W,E⟩:=aF ((w.alloc (.cells #[iT q,.slice d nm s,.slice u nv r,.slice t m cs] 31)).alloc (.cells #[iT 0,nZ,nZ,nZ] 31));have I:Bl w W:=by rw [E];exact bZ.alloc (by simp) _
 have J:ay W (X+1) (iT 0) nZ nZ nZ:=by
  have:=ay.new (w.alloc (.cells #[iT q,.slice d nm s,.slice u nv r,.slice t m cs] 31)) 31 (iT 0) nZ nZ nZ;rw [Gu] at this;rw [E,D];exact this
 have U:Eq (X=w.heap.size):=D;have F:Eq (Bl w W):=I;have Q:Eq (∀w',Bl w w'→Calls Tryz.prog 27 #[.agg #[iT q,.slice d nm s,.slice u nv r,.slice t m cs]] w' fun e H=>e=.returned (.bool false)∧Bl w' H):=fun w' k=>by
  have:=je lo q _ _ _ _ _ _ _ _ _ M V S w' (K.keep k);rw [y] at this;exact this
 clear K I y;go_enter Tryz.func45,Tryz.ntmps45
 go_wp2_with fail
 rw [← D,← E];clear D E;refine (Q.o _ F.o).mono ?_;rintro e N ⟨rfl,b⟩;have O:Eq (Bl w N):=F.o.trans (b.mono F.o.size);have f:=J.keep b;have Z:=f.all;clear b J;go_wp2;refine bodyPost_ret (v:=.tuple #[.agg #[iT 0,nZ,nZ,nZ],.bool false]) ?_ rfl ⟨rfl,?_⟩
 · have e:=(((f.set0 (iT 0)).set1 nZ).set2 nZ).set3 nZ;simp [results,Tryz.results45,go_sem,e.all]
 · have hx:w.heap.size≤X+1:=by have:=U.o;omega
   exact lD O.o hx _ _ _ _
theorem bj.grownR {sz:Nat} (h:bj base w g n c B) (hG:aq w G 63 sz) (b:g≠G) (hg:w.grownBy w' (some G)):bj base w' g n c B:=by
 obtain ⟨h1,h2,xs,h3,h4⟩:=h;refine ⟨h1,h2,xs,h3.kept hg (.inr ?_),fun i p hp=>?_⟩
 · intro e;have m:g=G:=by simpa [Value.ownBlock] using e
   exact b m
 · obtain ⟨e,d,a1,a2,a3⟩:=h4 i p hp;obtain ⟨r,o⟩:=aP a3.owns;refine ⟨e,d,a1,a2,a3.grown hg (fun m=>?_)⟩;have f:=Gi m;subst f;exact absurd (hG.kind o) (by decide)
theorem cK.split {t:Nat} (h:cK base w g1 nm c1 G nv c g3 t c3 M [A,B,C] S):∃d m f r gC o,w.ownsRow base 61 1 (sL G 3 c) 3 [sL d A.length m,sL f B.length r,sL gC C.length o]∧bj base w d A.length m A∧bj base w f B.length r B∧bj base w gC C.length o C∧d≠f∧d≠gC:=by
 obtain ⟨h1,xs,h3,h4,h5⟩:=h.levs;have hn:=h1.symm;subst hn;obtain ⟨d,m,a1,a2⟩:=h4 0 A rfl;obtain ⟨f,r,b1,b2⟩:=h4 1 B rfl;obtain ⟨gC,o,b,s⟩:=h4 2 C rfl;have hx:xs=[sL d A.length m,sL f B.length r,sL gC C.length o]:=by
  have hl:=h3.1;match xs,hl,a1,b1,b with
  | [x,y,z],_,a1,b1,b=>simp at a1 b1 b;rw [a1,b1,b]
 rw [hx] at h3 h5;exact ⟨d,m,f,r,gC,o,h3,a2,b2,s,h5 0 1 _ _ _ _ _ _ (by omega) rfl rfl,h5 0 2 _ _ _ _ _ _ (by omega) rfl rfl⟩
theorem z7 (L:List ac) (e:ac):bG (L++[e])=eK (bG L) e:=by simp [bG]
theorem tj (_h:P[i]?=some L) (k:Nat) {e:ac} (b:L[k]?=some e):(P.take i).flatten++L.take (k+1)=((P.take i).flatten++L.take k)++[e]:=by
 rw [GH,b];simp
theorem tk (h:P[i]?=some L):(P.take (i+1)).flatten=(P.take i).flatten++L.take L.length:=by
 rw [GH,h];simp
theorem Cn (h:P[i]?=some L):((P.take i).flatten++L.take k).length≤P.flatten.length:=by
 have h1:P.flatten=(P.take (i+1)).flatten++(P.drop (i+1)).flatten:=by rw [← Ia,GK]
 rw [h1,tk h,Gj,Gj,Gj,Gn,Gn];omega
theorem sf (a:Option Addr) (n c:Nat) (P:List (List ac)) (w:World) (U:df w a n c P) (y:P.flatten.length≤1048576) :
 Calls Tryz.prog 109 #[.slice a n c] w fun e w'=>∃g d,e=.returned (sL g P.flatten.length d)∧ah w' w.heap.size g P.flatten.length d (bG P.flatten)∧Bl w w':=by
 have HP:=az U;have D:=az U.length;have a9:=az y;have hroom:=U.room;have hbig:=U.big;unfold maxLen at hbig;obtain ⟨N,hN⟩:∃N,P.flatten.length=N:=⟨_,rfl⟩;have HN:=az hN;rw [hN];go_enter Tryz.func109,Tryz.ntmps109
 go_wp2;go_loopw [3,4] (fun ov iv wr=>∃(i g d m:Nat) (F:List ac),i≤n∧iv=iT i∧F=(P.take i).flatten∧F.length=m∧ov=sL g m d∧ah wr w.heap.size g m d (bG F)∧Bl w wr) (fun _ iv _=>n - (intOf iv).toNat)
 case atStart=>exact ⟨0,w.heap.size,0,0,[],Gl _,rfl,by simp,rfl,rfl,cH w _ (Gg _),bZ⟩
 case round =>
  obtain ⟨i,g,d,m,F,hi,rfl,hF,W,rfl,hO,hb⟩:=hrel;have f:=az hF;have H:=az W;have u:=az hO;have t:=az hb;by_cases K:i<n
  · have Q:(i:Int)<(n:Int):=by omega
    obtain ⟨b,ax,rfl,a0⟩:=HP.o.form (by omega);obtain ⟨L,hL⟩:∃L,P[i]?=some L:=⟨_,j' (by rw [D.o];exact K)⟩;have I:=az hL;go_wp2;go_loopw [3,5] (fun ov kv wq=>∃(k g d m:Nat) (G:List ac),k≤L.length∧kv=iT k∧G=F++L.take k∧G.length=m∧ov=sL g m d∧ah wq w.heap.size g m d (bG G)∧Bl w wq) (fun _ kv _=>L.length - (intOf kv).toNat)
    case atStart=>exact ⟨0,g,d,m,F,Gl _,rfl,by simp,H.o,rfl,u.o,t.o⟩
    case round =>
     obtain ⟨k,g,d,m,G,hk,rfl,hG,a8,rfl,hO,hb⟩:=hrel;obtain ⟨L',s,len,au,J,c0,hE⟩:=HP.o.list hb i K;rw [I.o] at J;cases J;have Z:=az hG;have E:=az a8;have u:=az hO;have t:=az hb;have O:=hE.length;have r:=az O;have zb:=E' a0 hb.size;have aA:=hE.room;have a4:=hE.big;unfold maxLen at a4;have hm:m≤1048576:=by
      have h1:=Cn (k:=k) I.o;rw [← f.o,← hG] at h1;have h2:=a9.o;omega
     rw [O] at hk;by_cases a5:k<len
     · have R:(k:Int)<(len:Int):=by omega
       obtain ⟨bs,os,rfl,zs⟩:=hE.form (by omega);obtain ⟨es,eq,ed,et,en,hx,hw,e0,e1,e2,e3,e4⟩:=hE.ent (Below.refl _ wr) zs k a5;have HX:=az hx;have CP:=tI g m d (bG G) es et eq ed en wr u.o.entsAt u.o.lt.2 hm hw;go_wp2_with fail
       refine CP.mono ?_;rintro e w2 ⟨g2,c2,rfl,a2,ae⟩;have a7:=az (a2.mono t.o.size);have ab:=az (t.o.trans (ae.mono t.o.size));go_wp2;go_roundw
       case rel =>
        refine ⟨k+1,g2,c2,m+1,F++L.take (k+1),by have:=r.o;omega,by go_num,rfl,?_,rfl,?_,ab.o⟩
        · rw [f.o,tj I.o k HX.o,← f.o,← Z.o,Gj,E.o];rfl
        · rw [f.o,tj I.o k HX.o,← f.o,← Z.o,z7];exact a7.o
       case measure=>have:=r.o;simp [intOf];omega
     · have R:¬(k:Int)<(len:Int):=by omega
       have a1:Eq (k=L.length):=by have:=r.o;show k=_;omega
       have wi:IntKind.i64.wrap ((i:Int)+1)=((i+1:Nat):Int):=by rw [GB];unfold wrap64;omega
       go_wp2;go_roundw
       case rel =>
        refine ⟨i+1,g,d,m,G,by omega,by first | rfl | go_num,?_,E.o,rfl,u.o,t.o⟩;rw [tk I.o,Z.o,f.o,a1.o]
       case measure=>simp [intOf];omega
  · have aw:i=n:=by omega
    have Q:¬(i:Int)<(n:Int):=by omega
    have a6:Eq (F=P.flatten):=by show F=_;rw [f.o,Gr (by rw [D.o];omega)]
    go_wp2;go_ret;have h1:=H.o;have h2:=u.o;rw [a6.o] at h1 h2;obtain rfl:N=m:=by have:=HN.o;omega
    exact ⟨g,d,rfl,h2,t.o⟩
def Bq (w:World) (X:Nat):Prop:=∀o,(∀s,w.cell? ⟨X,o,none⟩≠some (.string s))∧∀a n c k,w.cell? ⟨X,o,none⟩=some (.slice a n c)→w.cell? ⟨X,o+1,none⟩≠some (iT k)
theorem cU (w:World) (cs:Array Value) (t:Nat):aq (w.alloc (.cells cs t)) w.heap.size t cs.size:=⟨cs,(by unfold World.alloc;exact Hm),rfl⟩
theorem mA {b o:Nat} {xs:List Value} (h:pd w (sO b o n c) n xs):Eq (∀j u,xs[j]?=some u→w.cell? ((⟨b,o,none⟩:Addr).add j)=some u):=fun j u d=>by
 rcases h.2.2 with ⟨h1,_⟩ | ⟨b',f,c',h1,hc⟩
 · cases h1
 · cases h1
   rw [Gv]
   exact hc j u d
theorem E2 (hb:aq w X T k) (h0:w.cell? ⟨X,0,none⟩=some (iT q)) (hs:∀o,1≤o→o<k→∃a n c,w.cell? ⟨X,o,none⟩=some (.slice a n c)):Bq w X:=by
 have far:∀o,k≤o→w.cell? ⟨X,o,none⟩=none:=fun o ho=>by
  obtain ⟨b,h1,h2⟩:=hb;simp [World.cell?,h1,Array.getElem?_eq_none (show b.size≤o by omega)]
 intro o;refine ⟨fun s e=>?_,fun a n c z _ e=>?_⟩
 · by_cases ho:o=0
   · subst ho;rw [h0] at e;cases e
   · by_cases hk:o<k
     · obtain ⟨a,n,c,h⟩:=hs o (by omega) hk;rw [h] at e;cases e
     · rw [far o (by omega)] at e;cases e
 · by_cases hk:o+1<k
   · obtain ⟨a,n,c,h⟩:=hs (o+1) (by omega) hk;rw [h] at e;cases e
   · rw [far (o+1) (by omega)] at e;cases e
theorem gE {w:World} {X T:Nat} {q:Int} {a1 a2 a3:Option Addr} {n1 c1 n2 c2 b c3:Nat} (hb:aq w X T 4) (h:ay w X (iT q) (.slice a1 n1 c1) (.slice a2 n2 c2) (.slice a3 b c3)):Bq w X :=
 E2 hb h.c0 (fun o h1 h2=>by
  match o,h1,h2 with
  | 1,_,_=>exact ⟨_,_,_,h.c1⟩
  | 2,_,_=>exact ⟨_,_,_,h.c2⟩
  | 3,_,_=>exact ⟨_,_,_,h.c3⟩)
theorem qG (w:World) (X:Nat) (u0 u1 u2 u3:Value):∀b,b≠X→∀o,((((w.setCell ⟨X,0,none⟩ u0).setCell ⟨X,1,none⟩ u1).setCell ⟨X,2,none⟩ u2).setCell ⟨X,3,none⟩ u3).cell? ⟨b,o,none⟩=w.cell? ⟨b,o,none⟩:=fun b hb o=>by
 have h1:∀(w:World) (k:Nat) (u:Value),(w.setCell ⟨X,k,none⟩ u).cell? ⟨b,o,none⟩=w.cell? ⟨b,o,none⟩:=fun w k u=>by
  simp only [World.cell?,Below.heap_setCell w (⟨X,k,none⟩:Addr) u b hb]
 rw [h1,h1,h1,h1]
theorem tg (w:World) (X:Nat) (u0 u1 u2 u3:Value):((((w.setCell ⟨X,0,none⟩ u0).setCell ⟨X,1,none⟩ u1).setCell ⟨X,2,none⟩ u2).setCell ⟨X,3,none⟩ u3).heap.size=w.heap.size:=by simp [World.setCell]
theorem jQ {t m r:Option Addr} {o f s d:Nat} (hc:3≤c) (b:c≤maxLen) (c0:w.cell? ⟨G,0,none⟩=some (.slice t o f)) (c1:w.cell? ⟨G,1,none⟩=some (.slice m n1 s)) (c2:w.cell? ⟨G,2,none⟩=some (.slice r n2 d)) (h0:aw 0 w t o f A) (h1:aw 0 w m n1 s B) (h2:aw 0 w r n2 d C):cC 0 w (pT G) 3 c [A,B,C]:=by
 refine ⟨rfl,hc,b,(fun e=>by cases e),?_,?_⟩
 · rintro x e _;cases e;exact ⟨Gf _ _ c0,rfl,Gl _⟩
 · rintro x e i hi;cases e;simp only [Gp];match i,hi with
   | 0,_=>exact ⟨_,_,_,c0,h0⟩
   | 1,_=>exact ⟨_,_,_,c1,h1⟩
   | 2,_=>exact ⟨_,_,_,c2,h2⟩
theorem oS (h:ru n B w e w'):∃a c,e=.returned (.slice a n c)∧df w' a n c (bE B)∧Bl w w':=by
 obtain ⟨v,b,rfl,h1,h2,h3⟩:=h;obtain ⟨a,c,rfl,h4⟩:=vo h1 (h2.keep h3);exact ⟨a,c,rfl,h4,h3⟩
theorem us (L:List ac):∀k,(fh L k).1.length≤k
 | 0=>Gg _
 | k+1=>by
  have:=us L k
  rw [fh]
  split
  · rw [Gj];simp;omega
  · omega
theorem nL:∀(B A:List af),(dH A B).length=A.length+B.length
 | [],A=>rfl
 | r :: B,A=>by
  show (dH (nT A r) B).length=_
  rw [nL B]
  simp [nT]
  omega
theorem pP {P:Program} (base:Nat) (t m e:TypeId) (i:TypeInfo) (size:Nat) (d:P.underlying t=some (.slice e)) (hi:P.info? e=some i) (v:Value) (n c:Nat) (xs:List Value) (hown:w.ownsRow base e size v n xs) :
 (Builtin.append_ #[t,t] m #[v,.slice none 0 c]).run P w=.ok v w:=by
 rcases hown.2 with ⟨rfl,rfl⟩ | ⟨g,o,f,rfl,_,_,b,_⟩
 · simp [Builtin.append_,run_underlying d,sizeOf,typeInfo,hi,Builtin.lenOf,Builtin.firstCells]
 · simp [Builtin.append_,run_underlying d,sizeOf,typeInfo,hi,Builtin.lenOf,Builtin.firstCells,b,storeCells]
theorem cu {P:Program} {b:Array Oper} {o:Oper} {a:Act} {w:World} {K:Act→World→Prop} {Q:Exit→Act→World→Prop} {E:Prop}
 (hg:o.guard=none) (s x:Operand) (t:TypeId) (hop:o.op=Op.call { callee:=Callee.builtin Builtin.append,args:=#[s,x],argTypes:=#[t,t] })
 (base:Nat) (e:TypeId) (i:TypeInfo) (z:Value) (size bytes:Nat) (h1:P.underlying t=some (.slice e)) (h2:P.info? e=some i) (h3:i.zero=some z) (h4:i.size=size) (h5:i.bytes=bytes) (h6:z.cells.size=size) (h7:0<size)
 (v:Value) (n:Nat) (olds:List Value) (hs:a.eval s=v) (hown:w.ownsRow base e size v n olds)
 (ad:Option Addr) (m c:Nat) (news:List Value) (hx:a.eval x=.slice ad m c) (hn:news.length=m*size) (hz:ad=none→m=0) (hc:∀y,ad=some y→∀j u,news[j]?=some u→w.cell? (y.add j)=some u) (h1c:∀u ∈ news,u.oneCell'=true)
 (b1:n+m≤maxLen) (b2:(n+m)*bytes≤140737488355328) (b3:base≤w.heap.size)
 (hK:∀f w',w'.ownsRow base e size f (n+m) (olds++news)→w.grownBy w' v.ownBlock→(f=nZ ↔ v=nZ∧m=0)→K (a.put o.dst f) w') :
 if Region.wanted o (yielded b a.tmps)=true then Oper.wp P o a w K Q else E:=by
 cases ad with
 | some y=>exact aE hg s x t hop base e i z size bytes h1 h2 h3 h4 h5 h6 h7 v n olds hs hown y m c news hx hn (hc y rfl) h1c b1 b2 b3 hK
 | none =>
  have hw:Region.wanted o (yielded b a.tmps)=true:=by simp [Region.wanted,hg]
  rw [if_pos hw];obtain rfl:m=0:=hz rfl;have r:=List.eq_nil_of_length_eq_zero (by rw [hn];simp);subst r;have d:=pP (P:=P) (w:=w) base t o.type e i size h1 h2 v n c olds hown;unfold Oper.wp;simp [execOp,hop,resolve,invoke,builtin,hs,hx,d,Result.andThen];exact hK v w (by rw [Iq];exact hown) ⟨rfl,rfl,rfl,Gg _,fun _ _ _=>rfl⟩ ⟨fun h=>⟨h,rfl⟩,fun h=>h.1⟩
theorem l8 {a:Option Addr} (h:aj w a n c L):∀y,a=some y→∀j u,(aG L)[j]?=some u→w.cell? (y.add j)=some u:=by
 rintro ⟨b,o,s⟩ rfl j u f;have d:=(F'.1 f).1;rw [aW] at d;have hs:=(h.lies _ rfl (by have:=h.length;omega)).2;simp only at hs;subst hs;exact js h j u f
theorem fA {lo:Nat} {a:Option Addr} (h:aR lo w a n c S):∀y,a=some y→∀j u,(S.map iT)[j]?=some u→w.cell? (y.add j)=some u:=by
 rintro ⟨b,o,s⟩ rfl j u f;have d:=(F'.1 f).1;rw [Hd] at d;have hs:=(h.lies _ rfl (by have:=h.length;omega)).2.1;simp only at hs;subst hs;exact sW h j u f
theorem d5.low (h:d5 base w G n c V) (b:X<base) (hg:w.grownBy w' (some X)):d5 base w' G n c V:=by
 obtain ⟨h1,xs,h3,h4,h5⟩:=h;refine ⟨h1,xs,h3.kept hg (.inr fun e=>?_),fun i p hp=>(by obtain ⟨e,d,a1,a3⟩:=h4 i p hp;exact ⟨e,d,a1,a3.low b hg⟩),h5⟩;have f:G=X:=by simpa [Value.ownBlock] using e
 have:=(h3.lt G rfl).1;omega
theorem sy (lo:Nat) (q:Int) (am av ak:Option Addr) (nm cm nv cv y cs:Nat) (M:List ac) (V:List (List af)) (S:List Int) (w:World) (hT:bn lo w am nm cm av nv cv ak y cs M V S) (b6:nm≤1048576) (hns:y≤1048576) (aX:nv≤100) (hS:∀B ∈ V,B.length≤100∧∀r ∈ B,1≤r.1.length∧r.1.length≤10000) :
 Calls Tryz.prog 57 #[.agg #[iT q,.slice am nm cm,.slice av nv cv,.slice ak y cs]] w fun e w'=>∃g1 c1 G c g3 c3,e=.returned (.agg #[iT q,sL g1 nm c1,sL G nv c,sL g3 y c3])∧cK w.heap.size w' g1 nm c1 G nv c g3 y c3 M V S∧Bl w w'∧∃b,w.heap.size≤b∧g1<b∧d5 b w' G nv c V:=by
 obtain ⟨i0,hi,aE,aH,au⟩:=info_parts Tryz.infoEnt;obtain ⟨j0,hj,ai,ae,al⟩:=info_parts Tryz.infoInt;obtain ⟨X,hX⟩:=aF w.heap.size;obtain ⟨W0,a0⟩:=aF ((w.alloc (.cells #[iT q,.slice am nm cm,.slice av nv cv,.slice ak y cs] 31)).alloc (.cells #[iT 0,nZ,nZ,nZ] 31));have kW:Bl w W0:=by rw [a0];exact bZ.alloc (by simp) _
 have bx:ay W0 X (iT q) (.slice am nm cm) (.slice av nv cv) (.slice ak y cs):=by rw [a0,hX];exact (ay.new _ _ _ _ _ _).alloc _
 have br:ay W0 (X+1) (iT 0) nZ nZ nZ:=by
  have:=ay.new (w.alloc (.cells #[iT q,.slice am nm cm,.slice av nv cv,.slice ak y cs] 31)) 31 (iT 0) nZ nZ nZ;rw [Gu] at this;rw [a0,hX];exact this
 have a1:Eq (W0.heap.size=X+1+1):=by rw [a0,hX];simp [Eq]
 have aw:=az hX;have KW:=az kW;have BX:=az bx;have BR:=az br;have HM:=az (hT.mem.1.keep kW);have HS:=az (hT.snaps.keep kW);have Z:=az hT.mem.1.length;have Q:=az hT.snaps.length;have ao:=az hT.snaps.wfs;have HV:=az (hT.levels.keep kW);have CL:Eq (∀w',Bl W0 w'→Calls Tryz.prog 120 #[.slice av nv cv] w' fun e aA=>∃G c,e=.returned (sL G nv c)∧d5 w'.heap.size aA G nv c V∧Bl w' aA):=fun w' k=>(pJ lo av nv cv V w' (HV.o.keep k) aX hS).mono (fun e aA h=>by obtain ⟨G,c,h1,h2,h3⟩:=h;exact ⟨G,c,h1,h2,h3⟩)
 have d:Bl W0 W0.drew:=(Below.refl _ W0).drew;have t:Eq (∀w',Bl W0 w'→(fun w'=>w'.cell? ⟨X,0,none⟩=some (iT q)∧w'.cell? ⟨X,1,none⟩=some (.slice am nm cm)∧w'.cell? ⟨X,2,none⟩=some (.slice av nv cv)∧w'.cell? ⟨X,3,none⟩=some (.slice ak y cs)∧X<w'.heap.size) w'):=fun w' kk=>⟨cell_later kk BX.o.c0,cell_later kk BX.o.c1,cell_later kk BX.o.c2,cell_later kk BX.o.c3,E' BX.o.lt kk.size⟩
 have aj:Eq (∀(w':World) (u0 u1 u2 u3:Value),Bl W0 w'→(fun w'=>w'.cell? ⟨X,0,none⟩=some (iT q)∧w'.cell? ⟨X,1,none⟩=some (.slice am nm cm)∧w'.cell? ⟨X,2,none⟩=some (.slice av nv cv)∧w'.cell? ⟨X,3,none⟩=some (.slice ak y cs)∧X<w'.heap.size) ((((w'.setCell ⟨X+1,0,none⟩ u0).setCell ⟨X+1,1,none⟩ u1).setCell ⟨X+1,2,none⟩ u2).setCell ⟨X+1,3,none⟩ u3)):=fun w' u0 u1 u2 u3 kk=>by
  have b:=((((BX.o.keep kk).other (b':=X+1) (o:=0) (by omega) u0).other (b':=X+1) (o:=1) (by omega) u1).other (b':=X+1) (o:=2) (by omega) u2).other (b':=X+1) (o:=3) (by omega) u3;exact ⟨b.c0,b.c1,b.c2,b.c3,b.lt⟩
 go_enter Tryz.func57,Tryz.ntmps57
 go_upto_region 1 with fail
 rw [← hX,← a0];clear hX a0;refine eJ t d fun E=>?_
 generalize W0.drew=wd at d E ⊢;refine aO 0 2 E ?_;refine aO 3 2 E ?_;refine aO 6 2 E ?_;refine aO 10 2 E ?_;refine lI 2 9 (fun K hK=>?_) fun K hK=>?_
 · go_simp;have D:Bl wd (wd.alloc (.cells #[] 50)):=bZ;have f:=cH wd W0.heap.size d.size;have d:=d.trans (D.mono d.size);generalize wd.heap.size=ga at f ⊢;generalize wd.alloc (.cells #[] 50)=w1 at d f ⊢;refine hK.o _ _ (t.o _ d) fun E=>?_
   refine lI 5 9 (fun K hK=>?_) fun K hK=>?_
   · refine cu rfl (.tmp 5) (.tmp 7) 28 rfl W0.heap.size 50 i0 _ 5 56 Tryz.underlying28 hi aE aH au rfl (G4 4) _ _ _ rfl f.owns am nm cm (aG M) rfl (by rw [aW,Z.o]) HM.o.nil (l8 (HM.o.keep d)) (aY _) ?_ ?_ ?_ ?_
     · unfold maxLen;omega
     · omega
     · exact d.size
     intro v1 w2 O a7 a4;obtain ⟨g1,c1,rfl⟩:=aL O a4;have H:=a7;have d:Bl W0 w2:=d.grown H d.size (fun k e=>by cases e;exact f.lt.1);have f:ah w2 W0.heap.size g1 nm c1 M:=⟨by have h1:=O;rw [Gp] at h1;simpa [aG] using h1,Z.o,HM.o.ents⟩;rw [Gp];refine hK.o _ _ (t.o _ d) fun E=>?_
     refine lI 8 9 (fun K hK=>?_) fun K hK=>?_
     focus
      go_simp
      refine (CL.o _ d).mono ?_
      rintro e w3 ⟨G,c,rfl,N,D⟩
      have R:=f.lt.2
      have f:=f.below D
      have I:=d.size
      have d:=d.trans (D.mono d.size)
      go_wp2_with fail
      refine hK.o _ _ (t.o _ d) fun E=>?_
      refine aS 9 fun K hK=>?_
      go_simp
      have D:Bl w3 (w3.alloc (.cells #[] 3)):=bZ
      have f:=f.below D
      have N:=N.below D
      have m:(w3.alloc (.cells #[] 3)).ownsRow W0.heap.size 3 1 (sL (w3.heap.size) 0 0) 0 []:=GP (base:=W0.heap.size) (e:=3) (size:=1) w3 #[] 0 d.size (by simp) (by simp)
      have d:=d.trans (D.mono d.size)
      generalize w3.heap.size=gi at m ⊢
      generalize w3.alloc (.cells #[] 3)=w4 at d f N m ⊢
      refine hK.o _ _ (t.o _ d) fun E=>?_
      refine aS 12 fun K hK=>?_
      refine cu rfl (.tmp 12) (.tmp 14) 24 rfl W0.heap.size 3 j0 _ 1 8 Tryz.underlying24 hj ai ae al rfl (G4 0) _ _ _ rfl m ak y cs (S.map iT) rfl (by rw [Hd,Q.o,IV]) HS.o.nil (fA (HS.o.keep d)) (by intro u hu;obtain ⟨z,_,rfl⟩:=G9.1 hu;rfl) ?_ ?_ ?_ ?_
      · unfold maxLen;omega
      · omega
      · exact d.size
      intro v2 w5 J U W;obtain ⟨g3,c3,rfl⟩:=aL J W;have s:=U;have f:=dP f m (by decide) s;have N:=ij N m (by decide) (by decide) (by decide) s;have d:Bl W0 w5:=d.grown s d.size (fun k e=>by cases e;exact (m.lt gi rfl).1);have m:w5.ownsRow W0.heap.size 3 1 (sL g3 y c3) y (S.map iT):=by have h1:=J;rw [Gp,GU] at h1;exact h1
      rw [Gp]
      refine hK.o _ _ (t.o _ d) fun E=>?_
      refine aO 13 1 E ?_
      refine aS 14 fun K hK=>?_
      have bq:=BR.o.keep d
      have d0:=bq.all
      go_simp
      refine hK.o _ _ (aj.o _ _ _ _ _ d) fun E=>?_
      refine dN ?_
      have HC:Eq (cK W0.heap.size w5 g1 nm c1 G nv c g3 y c3 M V S):=⟨f,N.mono I,Q.o,ao.o,m⟩
      have HF:Eq (∃b,W0.heap.size≤b∧g1<b∧d5 b w5 G nv c V):=⟨_,I,R,N⟩
     rotate_left
     focus
      go_simp
      have D:Bl w2 (w2.alloc (.cells #[] 3)):=bZ
      have f:=f.below D
      have m:(w2.alloc (.cells #[] 3)).ownsRow W0.heap.size 3 1 (sL (w2.heap.size) 0 0) 0 []:=GP (base:=W0.heap.size) (e:=3) (size:=1) w2 #[] 0 d.size (by simp) (by simp)
      have d:=d.trans (D.mono d.size)
      generalize w2.heap.size=gi at m ⊢
      generalize w2.alloc (.cells #[] 3)=w6 at d f m ⊢
      refine hK.o _ _ (t.o _ d) fun E=>?_
      refine aS 8 fun K hK=>?_
      go_simp
      refine (CL.o _ d).mono ?_
      rintro e w7 ⟨G,c,rfl,N,D⟩
      have R:=f.lt.2
      have f:=f.below D
      have m:=cw m D
      have I:=d.size
      have d:=d.trans (D.mono d.size)
      go_wp2_with fail
      refine hK.o _ _ (t.o _ d) fun E=>?_
      refine aS 12 fun K hK=>?_
      refine cu rfl (.tmp 12) (.tmp 14) 24 rfl W0.heap.size 3 j0 _ 1 8 Tryz.underlying24 hj ai ae al rfl (G4 0) _ _ _ rfl m ak y cs (S.map iT) rfl (by rw [Hd,Q.o,IV]) HS.o.nil (fA (HS.o.keep d)) (by intro u hu;obtain ⟨z,_,rfl⟩:=G9.1 hu;rfl) ?_ ?_ ?_ ?_
      · unfold maxLen;omega
      · omega
      · exact d.size
      intro v2 w8 J U W;obtain ⟨g3,c3,rfl⟩:=aL J W;have s:=U;have f:=dP f m (by decide) s;have N:=ij N m (by decide) (by decide) (by decide) s;have d:Bl W0 w8:=d.grown s d.size (fun k e=>by cases e;exact (m.lt gi rfl).1);have m:w8.ownsRow W0.heap.size 3 1 (sL g3 y c3) y (S.map iT):=by have h1:=J;rw [Gp,GU] at h1;exact h1
      rw [Gp]
      refine hK.o _ _ (t.o _ d) fun E=>?_
      refine aO 13 1 E ?_
      refine aS 14 fun K hK=>?_
      have bq:=BR.o.keep d
      have d0:=bq.all
      go_simp
      refine hK.o _ _ (aj.o _ _ _ _ _ d) fun E=>?_
      refine dN ?_
      have HC:Eq (cK W0.heap.size w8 g1 nm c1 G nv c g3 y c3 M V S):=⟨f,N.mono I,Q.o,ao.o,m⟩
      have HF:Eq (∃b,W0.heap.size≤b∧g1<b∧d5 b w8 G nv c V):=⟨_,I,R,N⟩
     all_goals
      have HK:=az d
      have a8:=az bq
      go_wp2
      refine bodyPost_ret (v:=.agg #[iT q,sL g1 nm c1,sL G nv c,sL g3 y c3]) ?_ rfl ⟨g1,c1,G,c,g3,c3,rfl,?_,?_,?_⟩
      · have e:=(((a8.o.set0 (iT q)).set1 (sL g1 nm c1)).set2 (sL G nv c)).set3 (sL g3 y c3);simp [results,Tryz.results57,go_sem,e.all]
      · exact (HC.o.four (by have:=a1.o;omega) _ _ _ _).mono KW.o.size
      · have hx:w.heap.size≤X+1:=by have:=aw.o;omega
        exact ((((KW.o.trans (HK.o.mono KW.o.size)).setCell (p:=⟨X+1,0,none⟩) hx _).setCell (p:=⟨X+1,1,none⟩) hx _).setCell (p:=⟨X+1,2,none⟩) hx _).setCell (p:=⟨X+1,3,none⟩) hx _
      · obtain ⟨b,f1,f3,f4⟩:=HF.o;have F:X+1<b:=by have:=a1.o;omega
        exact ⟨b,Gq KW.o.size f1,f3,(((f4.low F (dg _ _ _ _)).low F (dg _ _ _ _)).low F (dg _ _ _ _)).low F (dg _ _ _ _)⟩
   · go_simp;have D:Bl w1 (w1.alloc (.cells #[] 3)):=bZ;have f:=f.below D;have m:(w1.alloc (.cells #[] 3)).ownsRow W0.heap.size 3 1 (sL (w1.heap.size) 0 0) 0 []:=GP (base:=W0.heap.size) (e:=3) (size:=1) w1 #[] 0 d.size (by simp) (by simp);have d:=d.trans (D.mono d.size);generalize w1.heap.size=gi at m ⊢;generalize w1.alloc (.cells #[] 3)=w9 at d f m ⊢;refine hK.o _ _ (t.o _ d) fun E=>?_
     refine aS 5 fun K hK=>?_
     refine cu rfl (.tmp 5) (.tmp 7) 28 rfl W0.heap.size 50 i0 _ 5 56 Tryz.underlying28 hi aE aH au rfl (G4 4) _ _ _ rfl f.owns am nm cm (aG M) rfl (by rw [aW,Z.o]) HM.o.nil (l8 (HM.o.keep d)) (aY _) ?_ ?_ ?_ ?_
     · unfold maxLen;omega
     · omega
     · exact d.size
     intro v1 w10 O a7 a4;obtain ⟨g1,c1,rfl⟩:=aL O a4;have H:=a7;have m:=cQ m f.owns (by decide) H;have d:Bl W0 w10:=d.grown H d.size (fun k e=>by cases e;exact f.lt.1);have f:ah w10 W0.heap.size g1 nm c1 M:=⟨by have h1:=O;rw [Gp] at h1;simpa [aG] using h1,Z.o,HM.o.ents⟩;rw [Gp];refine hK.o _ _ (t.o _ d) fun E=>?_
     refine aS 8 fun K hK=>?_
     go_simp;refine (CL.o _ d).mono ?_;rintro e b3 ⟨G,c,rfl,N,D⟩;have R:=f.lt.2;have f:=f.below D;have m:=cw m D;have I:=d.size;have d:=d.trans (D.mono d.size);go_wp2_with fail
     refine hK.o _ _ (t.o _ d) fun E=>?_
     refine aS 12 fun K hK=>?_
     refine cu rfl (.tmp 12) (.tmp 14) 24 rfl W0.heap.size 3 j0 _ 1 8 Tryz.underlying24 hj ai ae al rfl (G4 0) _ _ _ rfl m ak y cs (S.map iT) rfl (by rw [Hd,Q.o,IV]) HS.o.nil (fA (HS.o.keep d)) (by intro u hu;obtain ⟨z,_,rfl⟩:=G9.1 hu;rfl) ?_ ?_ ?_ ?_
     · unfold maxLen;omega
     · omega
     · exact d.size
     intro v2 w12 J U W;obtain ⟨g3,c3,rfl⟩:=aL J W;have s:=U;have f:=dP f m (by decide) s;have N:=ij N m (by decide) (by decide) (by decide) s;have d:Bl W0 w12:=d.grown s d.size (fun k e=>by cases e;exact (m.lt gi rfl).1);have m:w12.ownsRow W0.heap.size 3 1 (sL g3 y c3) y (S.map iT):=by have h1:=J;rw [Gp,GU] at h1;exact h1
     rw [Gp];refine hK.o _ _ (t.o _ d) fun E=>?_
     refine aO 13 1 E ?_;refine aS 14 fun K hK=>?_
     have bq:=BR.o.keep d;have d0:=bq.all;go_simp;refine hK.o _ _ (aj.o _ _ _ _ _ d) fun E=>?_
     refine dN ?_;have HC:Eq (cK W0.heap.size w12 g1 nm c1 G nv c g3 y c3 M V S):=⟨f,N.mono I,Q.o,ao.o,m⟩;have HF:Eq (∃b,W0.heap.size≤b∧g1<b∧d5 b w12 G nv c V):=⟨_,I,R,N⟩;have HK:=az d;have a8:=az bq;go_wp2;refine bodyPost_ret (v:=.agg #[iT q,sL g1 nm c1,sL G nv c,sL g3 y c3]) ?_ rfl ⟨g1,c1,G,c,g3,c3,rfl,?_,?_,?_⟩
     · have e:=(((a8.o.set0 (iT q)).set1 (sL g1 nm c1)).set2 (sL G nv c)).set3 (sL g3 y c3);simp [results,Tryz.results57,go_sem,e.all]
     · exact (HC.o.four (by have:=a1.o;omega) _ _ _ _).mono KW.o.size
     · have hx:w.heap.size≤X+1:=by have:=aw.o;omega
       exact ((((KW.o.trans (HK.o.mono KW.o.size)).setCell (p:=⟨X+1,0,none⟩) hx _).setCell (p:=⟨X+1,1,none⟩) hx _).setCell (p:=⟨X+1,2,none⟩) hx _).setCell (p:=⟨X+1,3,none⟩) hx _
     · obtain ⟨b,f1,f3,f4⟩:=HF.o;have F:X+1<b:=by have:=a1.o;omega
       exact ⟨b,Gq KW.o.size f1,f3,(((f4.low F (dg _ _ _ _)).low F (dg _ _ _ _)).low F (dg _ _ _ _)).low F (dg _ _ _ _)⟩
 · go_simp;have D:Bl wd (wd.alloc (.cells #[] 3)):=bZ;have m:(wd.alloc (.cells #[] 3)).ownsRow W0.heap.size 3 1 (sL (wd.heap.size) 0 0) 0 []:=GP (base:=W0.heap.size) (e:=3) (size:=1) wd #[] 0 d.size (by simp) (by simp);have d:=d.trans (D.mono d.size);generalize wd.heap.size=gi at m ⊢;generalize wd.alloc (.cells #[] 3)=a5 at d m ⊢;refine hK.o _ _ (t.o _ d) fun E=>?_
   refine aS 2 fun K hK=>?_
   go_simp;have D:Bl a5 (a5.alloc (.cells #[] 50)):=bZ;have m:=cw m D;have f:=cH a5 W0.heap.size d.size;have d:=d.trans (D.mono d.size);generalize a5.heap.size=ga at f ⊢;generalize a5.alloc (.cells #[] 50)=b5 at d f m ⊢;refine hK.o _ _ (t.o _ d) fun E=>?_
   refine aS 5 fun K hK=>?_
   refine cu rfl (.tmp 5) (.tmp 7) 28 rfl W0.heap.size 50 i0 _ 5 56 Tryz.underlying28 hi aE aH au rfl (G4 4) _ _ _ rfl f.owns am nm cm (aG M) rfl (by rw [aW,Z.o]) HM.o.nil (l8 (HM.o.keep d)) (aY _) ?_ ?_ ?_ ?_
   · unfold maxLen;omega
   · omega
   · exact d.size
   intro v1 w15 O a7 a4;obtain ⟨g1,c1,rfl⟩:=aL O a4;have H:=a7;have m:=cQ m f.owns (by decide) H;have d:Bl W0 w15:=d.grown H d.size (fun k e=>by cases e;exact f.lt.1);have f:ah w15 W0.heap.size g1 nm c1 M:=⟨by have h1:=O;rw [Gp] at h1;simpa [aG] using h1,Z.o,HM.o.ents⟩;rw [Gp];refine hK.o _ _ (t.o _ d) fun E=>?_
   refine aS 8 fun K hK=>?_
   go_simp;refine (CL.o _ d).mono ?_;rintro e b8 ⟨G,c,rfl,N,D⟩;have R:=f.lt.2;have f:=f.below D;have m:=cw m D;have I:=d.size;have d:=d.trans (D.mono d.size);go_wp2_with fail
   refine hK.o _ _ (t.o _ d) fun E=>?_
   refine aS 12 fun K hK=>?_
   refine cu rfl (.tmp 12) (.tmp 14) 24 rfl W0.heap.size 3 j0 _ 1 8 Tryz.underlying24 hj ai ae al rfl (G4 0) _ _ _ rfl m ak y cs (S.map iT) rfl (by rw [Hd,Q.o,IV]) HS.o.nil (fA (HS.o.keep d)) (by intro u hu;obtain ⟨z,_,rfl⟩:=G9.1 hu;rfl) ?_ ?_ ?_ ?_
   · unfold maxLen;omega
   · omega
   · exact d.size
   intro v2 w17 J U W;obtain ⟨g3,c3,rfl⟩:=aL J W;have s:=U;have f:=dP f m (by decide) s;have N:=ij N m (by decide) (by decide) (by decide) s;have d:Bl W0 w17:=d.grown s d.size (fun k e=>by cases e;exact (m.lt gi rfl).1);have m:w17.ownsRow W0.heap.size 3 1 (sL g3 y c3) y (S.map iT):=by have h1:=J;rw [Gp,GU] at h1;exact h1
   rw [Gp];refine hK.o _ _ (t.o _ d) fun E=>?_
   refine aO 13 1 E ?_;refine aS 14 fun K hK=>?_
   have bq:=BR.o.keep d;have d0:=bq.all;go_simp;refine hK.o _ _ (aj.o _ _ _ _ _ d) fun E=>?_
   refine dN ?_;have HC:Eq (cK W0.heap.size w17 g1 nm c1 G nv c g3 y c3 M V S):=⟨f,N.mono I,Q.o,ao.o,m⟩;have HF:Eq (∃b,W0.heap.size≤b∧g1<b∧d5 b w17 G nv c V):=⟨_,I,R,N⟩;have HK:=az d;have a8:=az bq;go_wp2;refine bodyPost_ret (v:=.agg #[iT q,sL g1 nm c1,sL G nv c,sL g3 y c3]) ?_ rfl ⟨g1,c1,G,c,g3,c3,rfl,?_,?_,?_⟩
   · have e:=(((a8.o.set0 (iT q)).set1 (sL g1 nm c1)).set2 (sL G nv c)).set3 (sL g3 y c3);simp [results,Tryz.results57,go_sem,e.all]
   · exact (HC.o.four (by have:=a1.o;omega) _ _ _ _).mono KW.o.size
   · have hx:w.heap.size≤X+1:=by have:=aw.o;omega
     exact ((((KW.o.trans (HK.o.mono KW.o.size)).setCell (p:=⟨X+1,0,none⟩) hx _).setCell (p:=⟨X+1,1,none⟩) hx _).setCell (p:=⟨X+1,2,none⟩) hx _).setCell (p:=⟨X+1,3,none⟩) hx _
   · obtain ⟨b,f1,f3,f4⟩:=HF.o;have F:X+1<b:=by have:=a1.o;omega
     exact ⟨b,Gq KW.o.size f1,f3,(((f4.low F (dg _ _ _ _)).low F (dg _ _ _ _)).low F (dg _ _ _ _)).low F (dg _ _ _ _)⟩
theorem iL (lo:Nat) (q:Int) (d t s:Option Addr) (nm o nv m b cs:Nat) (M:List ac) (V:List (List af)) (S:List Int) (w:World) (y:bn lo w d nm o t nv m s b cs M V S) (u:nm≤1048576) (hns:b≤1048576) (f:nv≤100) (hS:∀B ∈ V,B.length≤100∧∀r ∈ B,1≤r.1.length∧r.1.length≤10000) :
 Calls Tryz.prog 57 #[.agg #[iT q,.slice d nm o,.slice t nv m,.slice s b cs]] w fun e w'=>∃g1 c1 G c g3 c3,e=.returned (.agg #[iT q,sL g1 nm c1,sL G nv c,sL g3 b c3])∧cK w.heap.size w' g1 nm c1 G nv c g3 b c3 M V S∧Bl w w' :=
 (sy lo q d t s nm o nv m b cs M V S w y u hns f hS).mono (fun e w' h=>by obtain ⟨g1,c1,G,c,g3,c3,h1,h2,h3,_⟩:=h;exact ⟨g1,c1,G,c,g3,c3,h1,h2,h3⟩)
end Go.Proofs.YtpobkmjicbobdaaGreat
