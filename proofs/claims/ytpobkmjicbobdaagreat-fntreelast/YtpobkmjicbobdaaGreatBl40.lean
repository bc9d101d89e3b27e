/- Walks. -/
import Derived.Test.YtpobkmjicbobdaaGreatBl39
import Derived.Ground.SlgnProg
import Derived.Shelf.SlicesE.Clone
import Derived.Shelf.SlSortCmp.WholeK
namespace Go.Proofs.YtpobkmjicbobdaaGreat
set_option maxRecDepth 100000
set_option maxHeartbeats 40000000
open Go.RowKit Go.Shelf Go.Sort
variable {V:List (List an)} {b lo:Nat} {w w':World}
def BE (L:List ac) (key:ByteArray) (q:Int) (len:Nat) (w:World) (e:Ending) (w':World):Prop :=
 ∃(i:Nat),e=.returned (iT (i:Int))∧i≤len∧gE L key q i i∧Bl w w'
theorem qt (b f len d:Nat) (L:List ac) (key:ByteArray) (q:Int) (w:World) (hL:ag w (some ⟨b,f,none⟩) len d L) (hr:aI L=true) (m:len≤1048576) (g:1≤len) :
 Calls Tryz.prog 210 #[sO b f len d,.string key,iT q] w (BE L key q len w):=by
 go_enter Tryz.func210,Tryz.ntmps210
 go_wp2_with fail
 refine (Ar b f len d L key _ q _ _ w hL hr m g).mono ?_;rintro e t ⟨i,B,rfl,hi,r,n⟩;have s:CG (gE L key q i i):=r;clear r hL;go_wp2;go_ret;exact ⟨i,rfl,hi,s.o,n⟩
def pp (F:List ac) (w:World) (e:Ending) (w':World):Prop :=
 ((e=.returned nZ∧F=[])∨∃g n c,e=.returned (sL g n c)∧af w' w.heap.size g n c F)∧Bl w w'
theorem oO (a:Option Addr) (len d:Nat) (L:List ac) (m:Int) (key:ByteArray) (seq:Int) (w:World) (hL:ag w a len d L) (A:len≤1048576) :
 Calls Tryz.prog 166 #[.agg #[.slice a len d,iT m],.string key,iT seq] w (pp (fV L m key seq) w):=by
 obtain ⟨F,n⟩:=aH (fV L m key seq);rw [← n];have Q:Bl w (w.alloc (.cells #[.slice a len d,iT m] 63)):=bZ;have s:CG (L.length=len):=hL.length;have a8:=hL.room;have O:=hL.big;unfold maxLen at O;go_enter Tryz.func166,Tryz.ntmps166
 go_wp2_with fail
 refine (qs _ _ _ L _ _ (hL.keep Q)).mono ?_;rintro e w1 ⟨rfl,J⟩;have x0:w1.cell? ⟨w.heap.size,0,none⟩=some (.slice a len d):=cell_later J (by simp);have r:Bl w w1:=Q.trans (J.mono (by simp));clear J Q;cases hr:ch L m with
 | false =>
  have t:CG (F=[]):=by rw [n];exact zG hr
  clear hL n hr;go_wp2;go_ret;exact ⟨Or.inl ⟨rfl,t.o⟩,r⟩
 | true =>
  obtain ⟨p1,p2,p3,p4⟩:=bE hr;have h1:1≤len:=by have:=s.o;omega
  obtain ⟨b,f,rfl,a7⟩:=hL.form h1;have U:CG (ag w (some ⟨b,f,none⟩) len d L):=hL;have u:CG (aI L=true):=p3;have t:CG (F=aQ L key seq):=by rw [n];exact jI hr
  clear hL p1 p2 p3 p4 hr n;go_wp2_with fail
  refine (qt b f len d L key seq _ (U.o.keep r) u.o A h1).mono ?_;rintro e w2 ⟨i,rfl,hi,K,H⟩;have y0:=cell_later H x0;have y:=r.trans (H.mono r.size);have C:CG (gE L key seq i i):=K;clear H K x0 r;go_wp2_with fail
  refine (qt b f len d L key 0 _ (U.o.keep y) u.o A h1).mono ?_;rintro e B ⟨j,rfl,hj,E,D⟩;have z0:=cell_later D y0;have g:=y.trans (D.mono y.size);have hF:=rH u.o (L:=L) (key:=key) (seq:=seq) (i:=i) (j:=j) (by rw [s.o];exact hi) (by rw [s.o];exact hj) C.o.1 C.o.2 E.1 E.2;obtain ⟨Z,hF⟩:=hF;have HF:CG (aQ L key seq=(L.drop i).take (j - i)):=hF;clear D E y0 y hF C;have hsz:=sS u.o i (j - i);have N:CG (∀e ∈ (L.drop i).take (j - i),e.1.size≤281474976710656∧e.2.2.2.1.size≤281474976710656):=hsz;clear hsz;by_cases T:d=i
  · subst T;have hE:ag B (some ⟨b,f,none⟩) (j - d) 0 ((L.drop d).take (j - d)):=by
     have X:j - d=0:=by omega
     rw [X];exact ⟨rfl,Cy _,C3 _,by simp,(fun e=>by cases e),(fun x e hp=>absurd hp (DP _)),fun x e k hk=>by simp at hk⟩
    have HE:CG (ag B (some ⟨b,f,none⟩) (j - d) 0 ((L.drop d).take (j - d))):=hE;clear hE;go_wp2_with fail
    with_reducible refine (pd _ _ _ _ _ HE.o (by omega) N.o).mono ?_
    rintro e R ⟨rfl,hO,W,I⟩;have Y:CG (af R B.heap.size B.heap.size (j - d) (j - d) ((L.drop d).take (j - d))):=hO;clear hO;go_wp2;go_ret;exact ⟨Or.inr ⟨_,_,_,rfl,by rw [t.o,HF.o];exact Y.o.mono g.size⟩,g.trans (I.mono g.size)⟩
  · have hE:ag B (some ⟨b,f+i*5,none⟩) (j - i) (d - i) ((L.drop i).take (j - i)):=(U.o.keep g).sub Z hj;have HE:CG (ag B (some ⟨b,f+i*5,none⟩) (j - i) (d - i) ((L.drop i).take (j - i))):=hE;clear hE;go_wp2_with fail
    all_goals
     refine (pd _ _ _ _ _ HE.o (by omega) N.o).mono ?_;rintro e R ⟨rfl,hO,W,I⟩;have Y:CG (af R B.heap.size B.heap.size (j - i) (j - i) ((L.drop i).take (j - i))):=hO;clear hO;go_wp2;go_ret;exact ⟨Or.inr ⟨_,_,_,rfl,by rw [t.o,HF.o];exact Y.o.mono g.size⟩,g.trans (I.mono g.size)⟩
theorem ko {F:List ac} {e:Ending} (h:pp F w e w'):∃a n c,e=.returned (.slice a n c)∧cH w' w.heap.size a n c F∧Bl w w':=by
 obtain ⟨h1 | ⟨g,n,c,rfl,hO⟩,hb⟩:=h
 · obtain ⟨rfl,rfl⟩:=h1;exact ⟨none,0,0,rfl,cH.none _ _,hb⟩
 · exact ⟨_,n,c,rfl,cH.some hO,hb⟩
def Tryz.cloneL_ren : Go.Shelf.Ren := ⟨fun | 41 => 165 | n => n, fun | 22 => 28 | 23 => 50 | 4 => 4 | n => n, fun | n => n⟩
theorem Tryz.cloneL : Go.Proofs.SlLaysE0.n41 Tryz.prog Tryz.cloneL_ren := {
  mixed := by kernel_rfl
  f41 := ⟨Tryz.f165.name, by decide, Tryz.func165.trans (congrArg some (by kernel_rfl))⟩
  t4 := Tryz.underlying4
  a4 := Tryz.isAgg4
  z4 := Tryz.sizeOf4
  v4 := Tryz.zeroValue4
  t22 := Tryz.underlying28
  a22 := Tryz.isAgg28
  z22 := Tryz.sizeOf28
  v22 := Tryz.zeroValue28 }
theorem zU (b n c:Nat) (L:List ac) (w:World) (hL:ag w (pT b) n c L) (hn:n≤1048576) :
 Calls Tryz.prog 165 #[sL b n c] w fun e w'=>∃g c',e=.returned (sL g n c')∧af w' w.heap.size g n c' L∧Bl w w':=by
 obtain ⟨i0,hi,m,r,f⟩:=info_parts Tryz.infoEnt;have h:=AnyE.slices_Clone Tryz.cloneL i0 _ 5 56 hi m r f rfl (by decide) Tryz.sizeOf50 b 0 n c (aC L) w (by rw [aU,hL.length]) (by unfold maxLen;omega) (by omega) (fun j u s=>by have:=bi hL j u s;rwa [WideShapes.add_plain] at this) (aL _);have t:Calls Tryz.prog 165 #[sL b n c] w fun e w'=>∃d,e=.returned d∧w'.ownsRow w.heap.size 50 5 d n (aC L)∧d≠nZ∧Bl w w':=h
 refine t.mono ?_;rintro e w' ⟨d,rfl,ho,o,hb⟩;obtain ⟨g,c',rfl⟩:∃g cap,d=sL g n cap:=by
  rcases ho.2 with ⟨hv,h0⟩ | ⟨g,cap,x,hv,_⟩
  · exact absurd hv o
  · exact ⟨g,cap,hv⟩
 exact ⟨g,c',rfl,⟨ho,hL.length,hL.ents⟩,hb⟩
def qN (w:World) (b:Nat) (V:List (List an)):Prop:=∀(i:Nat) (B:List an),V[i]?=some B→∃e n c,w.cell? ⟨b,i,none⟩=some (sL e n c)
theorem qN.keep (h:qN w b V) (hb:Bl w w'):qN w' b V:=fun i B hB=>by
 obtain ⟨e,n,c,h1⟩:=h i B hB
 exact ⟨e,n,c,cell_later hb h1⟩
theorem b6.shareN {D:Int} {m t:Option Addr} {y s I L g n:Nat} {M:List ac} {S:List Int} (d:b6 lo w m y s (pT b) I L t g n M V S) (htb:bf D M V S=true) (J:qN w b V):∃A B C E r c0 H f c1 F n2 c2,I=3∧V=[A,B,C]∧Ac w m y s (pT E) r c0 (pT H) f c1 (pT F) n2 c2 t g n M A B C S∧(∀w',Bl w w'→Calls Tryz.prog 86 #[.agg #[iT D,.slice m y s,sL b 3 L,.slice t g n]] w' fun e N=>e=.returned (.tuple #[.agg #[iT D,.slice m y s,sL E r c0,sL H f c1,sL F n2 c2,.slice t g n],.bool true])∧Bl w' N):=by
 obtain ⟨A,B,C,K⟩:=ia htb;subst K;have O:I=3:=d.levels.length.symm;subst O;obtain ⟨W,a0,r,c0,hA,l0,o⟩:=d.levels.level (Below.refl _ w) 0 (by omega);obtain ⟨T,a1,f,c1,hB,l1,u⟩:=d.levels.level (Below.refl _ w) 1 (by omega);obtain ⟨U,a2,n2,c2,hC,l2,x⟩:=d.levels.level (Below.refl _ w) 2 (by omega);simp only [Ex,Ei,Er] at hA hB hC;subst hA hB hC;rw [C6] at l0 l1 l2;obtain ⟨E,_,_,R⟩:=J 0 A rfl;obtain ⟨H,_,_,f1⟩:=J 1 B rfl;obtain ⟨F,_,_,Q⟩:=J 2 C rfl;rw [l0] at R;rw [l1] at f1;rw [l2] at Q;cases R;cases f1;cases Q;refine ⟨A,B,C,E,r,c0,H,f,c1,F,n2,c2,rfl,rfl,⟨d.mem.1,o.mono (C3 _),u.mono (C3 _),x.mono (C3 _),d.snaps.lower (C3 _)⟩,fun w' k=>?_⟩;have:=qr lo D m t y s b 0 L g n M A B C S _ _ _ r c0 f c1 n2 c2 w' (d.mem.1.keep k) (d.snaps.keep k) (o.keep k) (u.keep k) (x.keep k) (cell_later k l0) (cell_later k l1) (cell_later k l2);rw [htb] at this;exact this
theorem nU {n c i j:Nat} {B:List an} (h:ay lo w (pT b) n c B) (f:i≤j) (g:j≤n):ay lo w (some ⟨b,if c=i then 0 else i*2,none⟩) (j - i) (c - i) ((B.drop i).take (j - i)) where
 length:=by rw [C5,Dh,h.length];omega
 room:=by have:=h.room;omega
 big:=by have:=h.big;omega
 nil:=fun e=>by cases e
 lies:=fun x e hp=>by
  have h1:=h.lies _ rfl (by omega)
  cases e
  exact h1
 runs:=fun x e t d=>by
  rw [C5,Dh,h.length] at d
  have hc:¬c=i:=by have:=h.room;omega
  have hl:i+t<B.length:=by rw [h.length];omega
  have h1:=h.runs _ rfl (i+t) hl
  cases e
  rw [D3,D8,if_neg hc]
  simp only [C6] at h1
  rw [show i*2+t*2=(i+t)*2 by omega]
  exact h1
theorem zB (q:Int) (b1 nm cm e0 n0 c0 e1 n1 c1 e2 n2 c2:Nat) (ak:Option Addr) (nk ck:Nat) (M:List ac) (A B C:List an) (S:List Int) (key:ByteArray) (seq:Int) (w:World) (aC:Ac w (pT b1) nm cm (pT e0) n0 c0 (pT e1) n1 c1 (pT e2) n2 c2 ak nk ck M A B C S) (cp:nm≤60) (hA:A.length≤4) (hB:B.length≤8) (hC:C.length≤8) (hM:aI M=true) (aK:∀Z ∈ [A,B,C],∀r ∈ Z,ch r.1 r.2=true) (bb:bg B=true) (bc:bg C=true) :
 Calls Tryz.prog 107 #[.agg #[iT q,sL b1 nm cm,sL e0 n0 c0,sL e1 n1 c1,sL e2 n2 c2,.slice ak nk ck],.string key,iT seq] w fun e w'=>e=.returned (eK (gT (M++[A,B,C].flatMap (fun Z=>aV Z key seq)) key seq))∧Bl w w':=by
 have bS:=aC.r0.length;have av:=aC.r1.length;have T:=aC.r2.length;have cy:n0≤4:=by omega
 have cs:n1≤8:=by omega
 have cw:n2≤8:=by omega
 have bK:CG (∀r ∈ A,ch r.1 r.2=true):=aK A (by simp);have ax:CG (∀r ∈ B,ch r.1 r.2=true):=aK B (by simp);have az:CG (∀r ∈ C,ch r.1 r.2=true):=aK C (by simp);have bB:=bO bb;have bG:=bO bc;have aA:=bO aC;have ca:CG (∀e ∈ M++[A,B,C].flatMap (fun Z=>aV Z key seq),e.2.2.2.1.size≤281474976710656):=fun e he=>by
  rcases Dd.1 he with h | h
  · exact (mA hM e h).2
  · obtain ⟨Z,hZ,c5⟩:=Ej.1 h;obtain ⟨r,hr,bX⟩:=Ej.1 c5;exact (mA (dL (aK Z hZ r hr)).1 e (EH.1 bX).1).2
 obtain ⟨RC,b7⟩:=aH (eK (gT (M++[A,B,C].flatMap (fun Z=>aV Z key seq)) key seq));have CA:CG (∀(base g n c:Nat) (w':World),af w' base g n c (M++[A,B,C].flatMap (fun Z=>aV Z key seq))→n≤1048576→Calls Tryz.prog 43 #[sL g n c,.string key,iT seq] w' fun e bU=>e=.returned RC∧Bl w' bU):=fun base g n c w' h hn=>by
  rw [b7];exact tz _ n c _ key seq w' h.entsAt hn ca.o
 obtain ⟨rb,rt,rn,bV⟩:∃(rb:Bool) (rt:ByteArray) (rn:Int),RC=.agg #[.bool rb,.string rt,iT rn]:=by
  rw [b7];exact ⟨_,_,_,rfl⟩
 rw [← b7];clear b7 bS av T aK bb bc hM hA hB hC;subst bV;obtain ⟨X,hX⟩:=aH w.heap.size;obtain ⟨W,hW⟩:=aH ((w.alloc (.cells #[iT q,sL b1 nm cm,sL e0 n0 c0,sL e1 n1 c1,sL e2 n2 c2,.slice ak nk ck] 82)).alloc (.cells #[.bool false,.string ⟨#[]⟩,iT 0] 57));have kW:Bl w W:=by rw [hW];exact bZ.alloc (by simp) _
 have bx:dg W X (iT q) (sL b1 nm cm) (sL e0 n0 c0) (sL e1 n1 c1) (sL e2 n2 c2) (.slice ak nk ck):=by rw [hW,hX];exact (dg.new _ _ _ _ _ _ _ _).alloc _
 have CC:CG (Calls Tryz.prog 165 #[sL b1 nm cm] W fun e w'=>∃g c',e=.returned (sL g nm c')∧af w' W.heap.size g nm c' M∧Bl W w'):=zU b1 nm cm M W (aC.mem.keep kW) (by omega);have K0:CG (Bl w W):=kW;have HX:CG (X=w.heap.size):=hX;have BX:CG (dg W X (iT q) (sL b1 nm cm) (sL e0 n0 c0) (sL e1 n1 c1) (sL e2 n2 c2) (.slice ak nk ck)):=bx;have c4:CG (W.cell? ⟨X+1,0,none⟩=some (.bool false)∧W.cell? ⟨X+1,1,none⟩=some (.string ⟨#[]⟩)∧W.cell? ⟨X+1,2,none⟩=some (iT 0)∧(∀o,W.frozen? ⟨X+1,o,none⟩=false)∧X+1<W.heap.size):=by
  rw [hW,hX];refine ⟨?_,?_,?_,fun o=>?_,?_⟩ <;> simp
 have x1:=bx.c1;have xz:=bx.lt;clear kW bx aC;go_enter Tryz.func107,Tryz.ntmps107
 go_wp2_with fail
 rw [← hX,← hW];clear hX hW x1 xz;refine CC.o.mono ?_;rintro e x ⟨g,c',rfl,bA,d⟩;have D:CG (af x W.heap.size g nm c' M):=bA;have K1:CG (Bl w x):=K0.o.trans (d.mono K0.o.size);have br:=BX.o.keep d;have x2:=br.all;have bw:CG (Bl W x):=d;clear d bA CC br;go_wp2;clear x2;go_loopw [7,19] (fun fv kv wr=>∃(k gf nf cf:Nat),k≤3∧kv=iT k∧fv=sL gf nf cf∧nf≤60+1200*k∧af wr W.heap.size gf nf cf (M++([A,B,C].take k).flatMap (fun Z=>aV Z key seq))∧(Bl w wr∧Bl W wr)) (fun _ kv _=>3 - (intOf kv).toNat)
 case atStart=>exact ⟨0,g,nm,c',by omega,rfl,rfl,by omega,by simpa using D.o,K1.o,bw.o⟩
 case round =>
  clear D K1 bw;obtain ⟨k,gf,nf,cf,hk,rfl,rfl,cq,bu,bH,N⟩:=hrel;have ap:CG (af wr W.heap.size gf nf cf (M++([A,B,C].take k).flatMap (fun Z=>aV Z key seq))):=bu;have U:CG (Bl w wr):=bH;have f:CG (Bl W wr):=N;clear bu bH N;match k,hk with
  | 0,_ =>
   have HR:CG (∀w',Bl w w'→ay 0 w' (pT e0) n0 c0 A):=fun w' kk=>aA.o.r0.keep kk
   have c7:CG (A.length=n0):=aA.o.r0.length;obtain ⟨G,hG⟩:=aH (M++([A,B,C].take 0).flatMap (fun Z=>aV Z key seq));have HG:CG (G=M++([A,B,C].take 0).flatMap (fun Z=>aV Z key seq)):=hG;have K:CG (af wr W.heap.size gf nf cf G):=by rw [hG];exact ap.o
   clear hG ap;obtain ⟨u,t⟩:=aH A;have a7:CG (∀w',Bl w w'→ay 0 w' (pT e0) n0 c0 u):=by rw [t];exact HR.o
   have aa:CG (∀r ∈ u,ch r.1 r.2=true):=by rw [t];exact bK.o
   have b3:CG (u.length=n0):=by rw [t];exact c7.o
   have R:CG (n0≤8):=by show _≤_;omega
   have aJ:CG (aV u key seq=aV A key seq):=by rw [t];rfl
   have ai:CG (af wr W.heap.size gf nf cf G):=K.o;have a1:CG (Bl w wr):=U.o;have I:CG (Bl W wr):=f.o;clear t K HR;go_wp2_with fail
   rw [Br];go_wp2;go_loopw [7,39] (fun fv jv wr=>∃(j g n c:Nat),j≤n0∧jv=iT j∧fv=sL g n c∧n≤60+150*j∧af wr W.heap.size g n c (G++aV (u.take j) key seq)∧(Bl w wr∧Bl W wr)) (fun _ jv _=>n0 - (intOf jv).toNat)
   case atStart=>exact ⟨0,gf,nf,cf,C3 _,rfl,rfl,by omega,by simpa [aV] using ai.o,a1.o,I.o⟩
   case round =>
    clear ai a1 I;obtain ⟨j,g,n,c,hj,rfl,rfl,hn,hO,hb,N⟩:=hrel;have f:CG (Bl W wr):=N;clear N;have HO:CG (af wr W.heap.size g n c (G++aV (u.take j) key seq)):=hO;have HB:CG (Bl w wr):=hb;clear hO hb;by_cases b0:j<n0
    · have aj:(j:Int)<((n0:Nat):Int):=by omega
      have a9:(j:Int)<n0:=by omega
      obtain ⟨L,m,s,ne,ce,hr,bp,g0,g1,hE⟩:=(a7.o _ HB.o).run (Below.refl _ wr) j b0;have aW:CG (u[j]?=some (L,m)):=hr;try simp only [C6] at g0 g1
      have b6:=((a7.o _ HB.o).lies _ rfl (by omega)).1;simp only at b6;obtain ⟨aU,av,T⟩:=dL (aa.o _ (CV hr));have al:CG (ag wr s ne ce L):=hE.1;have bQ:ne≤150:=by have:=hE.1.length;simp only at T;omega
      have aZ:CG (fV L m key seq=aQ L key seq):=by
       show fV L m key seq=_
       exact jI (aa.o _ (CV hr))
      clear hr hE aU av T;obtain ⟨wq,Q⟩:=aH (wr.alloc (.cells #[.slice s ne ce,iT m] 63));have kq:Bl wr wq:=by rw [Q];exact bZ
      have CF:CG (Calls Tryz.prog 166 #[.agg #[.slice s ne ce,iT m],.string key,iT seq] wq (pp (aQ L key seq) wq)):=by
       have h:=oO s ne ce L m key seq wq (al.o.keep kq) (by omega);rw [aZ.o] at h;exact h
      have ae:CG (Bl w wq):=HB.o.trans (kq.mono HB.o.size);have F:CG (Bl W wq):=f.o.trans (kq.mono f.o.size);have aG:CG (af wq W.heap.size g n c (G++aV (u.take j) key seq)):=HO.o.below kq;clear kq;go_wp2_with fail
      rw [← Q];clear Q;refine CF.o.mono ?_;intro e x a3;obtain ⟨ar,nr,cr,rfl,O,d⟩:=ko a3;have y:CG (Bl w x):=ae.o.trans (d.mono ae.o.size);have D:CG (af x W.heap.size g n c (G++aV (u.take j) key seq)):=aG.o.below d;have H:CG (Bl W x):=F.o.trans (d.mono F.o.size);have aX:CG (cH x wq.heap.size ar nr cr (aQ L key seq)):=O;have bt:nr≤150:=by have h1:=O.entsAt.length;have h2:=io L key seq;have h3:=al.o.length;omega
      obtain ⟨E,a5⟩:=aH (n+nr);have b2:CG (E=n+nr):=a5;have aF:CG (E≤60+150*(j+1)):=by show _≤_;omega
      have aL:n≤1048576:=by have:=R.o;omega
      have bI:j≤8:=by have:=R.o;omega
      clear a3 O d a5;go_wp2_with (at_builtin;refine ng rfl _ _ rfl W.heap.size wq.heap.size g n c _ rfl D.o ar nr cr _ rfl aX.o aL (by omega) E b2.o ?_;intro g2 c2 w2 aP ad)
      go_roundw
      case rel =>
       refine ⟨j+1,g2,E,c2,by omega,by go_num,rfl,aF.o,?_,y.o.grown ad y.o.size (fun k e=>by cases e;exact C8 K0.o.size D.o.lt.1),H.o.grown ad H.o.size (fun k e=>by cases e;exact D.o.lt.1)⟩;rw [Dl,aW.o];have e1:aV (u.take j++(some (L,m)).toList) key seq=aV (u.take j) key seq++aQ L key seq:=by rw [fG];simp [aV]
       rw [e1,← Di];exact aP
      case measure=>simp [intOf];omega
    · have aj:¬(j:Int)<((n0:Nat):Int):=by omega
      have a9:¬(j:Int)<n0:=by omega
      have a2:j=n0:=by omega
      have J:CG (af wr W.heap.size g n c (M++([A,B,C].take 1).flatMap (fun Z=>aV Z key seq))∧n≤60+1200):=by
       have h:=HO.o;rw [a2,C9 (by rw [b3.o];omega)] at h;refine ⟨?_,by have:=R.o;omega⟩;rw [HG.o,aJ.o] at h;simpa [List.take,ES,Di] using h
      clear a2 HO;go_wp2;go_roundw
      case rel=>exact ⟨1,g,n,c,by omega,by go_num,rfl,by have:=J.o.2;omega,J.o.1,HB.o,f.o⟩
      case measure=>simp [intOf]
  | 1,_ =>
   have HR:CG (∀w',Bl w w'→ay 0 w' (pT e1) n1 c1 B):=fun w' kk=>aA.o.r1.keep kk
   have bL:CG (B.length=n1):=aA.o.r1.length;obtain ⟨G,hG⟩:=aH (M++([A,B,C].take 1).flatMap (fun Z=>aV Z key seq));have HG:CG (G=M++([A,B,C].take 1).flatMap (fun Z=>aV Z key seq)):=hG;have K:CG (af wr W.heap.size gf nf cf G):=by rw [hG];exact ap.o
   clear hG ap;have CM:CG (Calls Tryz.prog 125 #[sL e1 n1 c1,.agg #[.string key,.string key]] wr fun e' w'=>∃i j:Nat,e'=.returned (.tuple #[iT i,iT j])∧fC B key key i j∧Bl wr w'):=mI 0 _ n1 c1 B key key wr (HR.o _ U.o) (by omega) bB.o ax.o;go_wp2_with fail
   rw [Bq];go_wp2_with fail
   refine CM.o.mono ?_;rintro e' x ⟨i0,j0,rfl,Y,d⟩;have y:CG (Bl w x):=U.o.trans (d.mono U.o.size);have a4:CG (af x W.heap.size gf nf cf G):=K.o.below d;have aM:CG (fC B key key i0 j0):=Y;have aR:i0≤j0:=Y.le ax.o (.inl rfl);have a6:j0≤n1:=by have h1:=Y.2.1;have h2:=bL.o;omega
   have b4:=(HR.o _ y.o).room;have aT:(i0:Int)≤(j0:Int):=by omega
   have aS:(j0:Int)≤(c1:Int):=by omega
   obtain ⟨ox,au⟩:=aH (if c1=i0 then 0 else i0*2);obtain ⟨nn,a0⟩:=aH (j0 - i0);obtain ⟨cx,aq⟩:=aH (c1 - i0);obtain ⟨u,t⟩:=aH ((B.drop i0).take (j0 - i0));have a7:CG (∀w',Bl w w'→ay 0 w' (some ⟨e1,ox,none⟩) nn cx u):=fun w' kk=>by rw [t,au,a0,aq];exact nU (HR.o w' kk) aR a6
   have aa:CG (∀r ∈ u,ch r.1 r.2=true):=by rw [t];exact fun r hr=>ax.o r (DE (Dw hr))
   have b3:CG (u.length=nn):=by show _=_;rw [t,a0,C5,Dh,bL.o];omega
   have R:CG (nn≤8):=by show _≤_;omega
   have aJ:CG (aV u key seq=aV B key seq):=by rw [t];exact qd aM.o ax.o seq
   have ai:CG (af x W.heap.size gf nf cf G):=a4.o;have a1:CG (Bl w x):=y.o;have I:CG (Bl W x):=f.o.trans (d.mono f.o.size);have aO:(if c1=i0 then some (⟨e1,0,none⟩:Addr) else some ⟨e1,i0*2,none⟩)=some ⟨e1,ox,none⟩:=by rw [au];split <;> rfl
   clear d Y K CM aM a4 HR t au;go_upto_region 8 with fail
   try rw [aO]
   rw [← a0,← aq];clear aO a0 aq aR a6 aT aS b4;go_wp2;go_loopw [7,39] (fun fv jv wr=>∃(j g n c:Nat),j≤nn∧jv=iT j∧fv=sL g n c∧n≤1260+150*j∧af wr W.heap.size g n c (G++aV (u.take j) key seq)∧(Bl w wr∧Bl W wr)) (fun _ jv _=>nn - (intOf jv).toNat)
   case atStart=>exact ⟨0,gf,nf,cf,C3 _,rfl,rfl,by omega,by simpa [aV] using ai.o,a1.o,I.o⟩
   case round =>
    clear ai a1 I;obtain ⟨j,g,n,c,hj,rfl,rfl,hn,hO,hb,N⟩:=hrel;have f:CG (Bl W wr):=N;clear N;have HO:CG (af wr W.heap.size g n c (G++aV (u.take j) key seq)):=hO;have HB:CG (Bl w wr):=hb;clear hO hb;by_cases b0:j<nn
    · have aj:(j:Int)<((nn:Nat):Int):=by omega
      have a9:(j:Int)<nn:=by omega
      obtain ⟨L,m,s,ne,ce,hr,bp,g0,g1,hE⟩:=(a7.o _ HB.o).run (Below.refl _ wr) j b0;have aW:CG (u[j]?=some (L,m)):=hr;try simp only [C6] at g0 g1
      have b6:=((a7.o _ HB.o).lies _ rfl (by omega)).1;simp only at b6;obtain ⟨aU,av,T⟩:=dL (aa.o _ (CV hr));have al:CG (ag wr s ne ce L):=hE.1;have bQ:ne≤150:=by have:=hE.1.length;simp only at T;omega
      have aZ:CG (fV L m key seq=aQ L key seq):=by
       show fV L m key seq=_
       exact jI (aa.o _ (CV hr))
      clear hr hE aU av T;obtain ⟨wq,Q⟩:=aH (wr.alloc (.cells #[.slice s ne ce,iT m] 63));have kq:Bl wr wq:=by rw [Q];exact bZ
      have CF:CG (Calls Tryz.prog 166 #[.agg #[.slice s ne ce,iT m],.string key,iT seq] wq (pp (aQ L key seq) wq)):=by
       have h:=oO s ne ce L m key seq wq (al.o.keep kq) (by omega);rw [aZ.o] at h;exact h
      have ae:CG (Bl w wq):=HB.o.trans (kq.mono HB.o.size);have F:CG (Bl W wq):=f.o.trans (kq.mono f.o.size);have aG:CG (af wq W.heap.size g n c (G++aV (u.take j) key seq)):=HO.o.below kq;clear kq;go_wp2_with fail
      rw [← Q];clear Q;refine CF.o.mono ?_;intro e x a3;obtain ⟨ar,nr,cr,rfl,O,d⟩:=ko a3;have y:CG (Bl w x):=ae.o.trans (d.mono ae.o.size);have D:CG (af x W.heap.size g n c (G++aV (u.take j) key seq)):=aG.o.below d;have H:CG (Bl W x):=F.o.trans (d.mono F.o.size);have aX:CG (cH x wq.heap.size ar nr cr (aQ L key seq)):=O;have bt:nr≤150:=by have h1:=O.entsAt.length;have h2:=io L key seq;have h3:=al.o.length;omega
      obtain ⟨E,a5⟩:=aH (n+nr);have b2:CG (E=n+nr):=a5;have aF:CG (E≤1260+150*(j+1)):=by show _≤_;omega
      have aL:n≤1048576:=by have:=R.o;omega
      have bI:j≤8:=by have:=R.o;omega
      clear a3 O d a5;go_wp2_with (at_builtin;refine ng rfl _ _ rfl W.heap.size wq.heap.size g n c _ rfl D.o ar nr cr _ rfl aX.o aL (by omega) E b2.o ?_;intro g2 c2 w2 aP ad)
      go_roundw
      case rel =>
       refine ⟨j+1,g2,E,c2,by omega,by go_num,rfl,aF.o,?_,y.o.grown ad y.o.size (fun k e=>by cases e;exact C8 K0.o.size D.o.lt.1),H.o.grown ad H.o.size (fun k e=>by cases e;exact D.o.lt.1)⟩;rw [Dl,aW.o];have e1:aV (u.take j++(some (L,m)).toList) key seq=aV (u.take j) key seq++aQ L key seq:=by rw [fG];simp [aV]
       rw [e1,← Di];exact aP
      case measure=>simp [intOf];omega
    · have aj:¬(j:Int)<((nn:Nat):Int):=by omega
      have a9:¬(j:Int)<nn:=by omega
      have a2:j=nn:=by omega
      have J:CG (af wr W.heap.size g n c (M++([A,B,C].take 2).flatMap (fun Z=>aV Z key seq))∧n≤1260+1200):=by
       have h:=HO.o;rw [a2,C9 (by rw [b3.o];omega)] at h;refine ⟨?_,by have:=R.o;omega⟩;rw [HG.o,aJ.o] at h;simpa [List.take,ES,Di] using h
      clear a2 HO;go_wp2;go_roundw
      case rel=>exact ⟨2,g,n,c,by omega,by go_num,rfl,by have:=J.o.2;omega,J.o.1,HB.o,f.o⟩
      case measure=>simp [intOf]
  | 2,_ =>
   have HR:CG (∀w',Bl w w'→ay 0 w' (pT e2) n2 c2 C):=fun w' kk=>aA.o.r2.keep kk
   have bN:CG (C.length=n2):=aA.o.r2.length;obtain ⟨G,hG⟩:=aH (M++([A,B,C].take 2).flatMap (fun Z=>aV Z key seq));have HG:CG (G=M++([A,B,C].take 2).flatMap (fun Z=>aV Z key seq)):=hG;have K:CG (af wr W.heap.size gf nf cf G):=by rw [hG];exact ap.o
   clear hG ap;have CM:CG (Calls Tryz.prog 125 #[sL e2 n2 c2,.agg #[.string key,.string key]] wr fun e' w'=>∃i j:Nat,e'=.returned (.tuple #[iT i,iT j])∧fC C key key i j∧Bl wr w'):=mI 0 _ n2 c2 C key key wr (HR.o _ U.o) (by omega) bG.o az.o;go_wp2_with fail
   rw [Bo];go_wp2_with fail
   refine CM.o.mono ?_;rintro e' x ⟨i0,j0,rfl,Y,d⟩;have y:CG (Bl w x):=U.o.trans (d.mono U.o.size);have a4:CG (af x W.heap.size gf nf cf G):=K.o.below d;have aM:CG (fC C key key i0 j0):=Y;have aR:i0≤j0:=Y.le az.o (.inl rfl);have a6:j0≤n2:=by have h1:=Y.2.1;have h2:=bN.o;omega
   have b4:=(HR.o _ y.o).room;have aT:(i0:Int)≤(j0:Int):=by omega
   have aS:(j0:Int)≤(c2:Int):=by omega
   obtain ⟨ox,au⟩:=aH (if c2=i0 then 0 else i0*2);obtain ⟨nn,a0⟩:=aH (j0 - i0);obtain ⟨cx,aq⟩:=aH (c2 - i0);obtain ⟨u,t⟩:=aH ((C.drop i0).take (j0 - i0));have a7:CG (∀w',Bl w w'→ay 0 w' (some ⟨e2,ox,none⟩) nn cx u):=fun w' kk=>by rw [t,au,a0,aq];exact nU (HR.o w' kk) aR a6
   have aa:CG (∀r ∈ u,ch r.1 r.2=true):=by rw [t];exact fun r hr=>az.o r (DE (Dw hr))
   have b3:CG (u.length=nn):=by show _=_;rw [t,a0,C5,Dh,bN.o];omega
   have R:CG (nn≤8):=by show _≤_;omega
   have aJ:CG (aV u key seq=aV C key seq):=by rw [t];exact qd aM.o az.o seq
   have ai:CG (af x W.heap.size gf nf cf G):=a4.o;have a1:CG (Bl w x):=y.o;have I:CG (Bl W x):=f.o.trans (d.mono f.o.size);have aO:(if c2=i0 then some (⟨e2,0,none⟩:Addr) else some ⟨e2,i0*2,none⟩)=some ⟨e2,ox,none⟩:=by rw [au];split <;> rfl
   clear d Y K CM aM a4 HR t au;go_upto_region 8 with fail
   try rw [aO]
   rw [← a0,← aq];clear aO a0 aq aR a6 aT aS b4;go_wp2;go_loopw [7,39] (fun fv jv wr=>∃(j g n c:Nat),j≤nn∧jv=iT j∧fv=sL g n c∧n≤2460+150*j∧af wr W.heap.size g n c (G++aV (u.take j) key seq)∧(Bl w wr∧Bl W wr)) (fun _ jv _=>nn - (intOf jv).toNat)
   case atStart=>exact ⟨0,gf,nf,cf,C3 _,rfl,rfl,by omega,by simpa [aV] using ai.o,a1.o,I.o⟩
   case round =>
    clear ai a1 I;obtain ⟨j,g,n,c,hj,rfl,rfl,hn,hO,hb,N⟩:=hrel;have f:CG (Bl W wr):=N;clear N;have HO:CG (af wr W.heap.size g n c (G++aV (u.take j) key seq)):=hO;have HB:CG (Bl w wr):=hb;clear hO hb;by_cases b0:j<nn
    · have aj:(j:Int)<((nn:Nat):Int):=by omega
      have a9:(j:Int)<nn:=by omega
      obtain ⟨L,m,s,ne,ce,hr,bp,g0,g1,hE⟩:=(a7.o _ HB.o).run (Below.refl _ wr) j b0;have aW:CG (u[j]?=some (L,m)):=hr;try simp only [C6] at g0 g1
      have b6:=((a7.o _ HB.o).lies _ rfl (by omega)).1;simp only at b6;obtain ⟨aU,av,T⟩:=dL (aa.o _ (CV hr));have al:CG (ag wr s ne ce L):=hE.1;have bQ:ne≤150:=by have:=hE.1.length;simp only at T;omega
      have aZ:CG (fV L m key seq=aQ L key seq):=by
       show fV L m key seq=_
       exact jI (aa.o _ (CV hr))
      clear hr hE aU av T;obtain ⟨wq,Q⟩:=aH (wr.alloc (.cells #[.slice s ne ce,iT m] 63));have kq:Bl wr wq:=by rw [Q];exact bZ
      have CF:CG (Calls Tryz.prog 166 #[.agg #[.slice s ne ce,iT m],.string key,iT seq] wq (pp (aQ L key seq) wq)):=by
       have h:=oO s ne ce L m key seq wq (al.o.keep kq) (by omega);rw [aZ.o] at h;exact h
      have ae:CG (Bl w wq):=HB.o.trans (kq.mono HB.o.size);have F:CG (Bl W wq):=f.o.trans (kq.mono f.o.size);have aG:CG (af wq W.heap.size g n c (G++aV (u.take j) key seq)):=HO.o.below kq;clear kq;go_wp2_with fail
      rw [← Q];clear Q;refine CF.o.mono ?_;intro e x a3;obtain ⟨ar,nr,cr,rfl,O,d⟩:=ko a3;have y:CG (Bl w x):=ae.o.trans (d.mono ae.o.size);have D:CG (af x W.heap.size g n c (G++aV (u.take j) key seq)):=aG.o.below d;have H:CG (Bl W x):=F.o.trans (d.mono F.o.size);have aX:CG (cH x wq.heap.size ar nr cr (aQ L key seq)):=O;have bt:nr≤150:=by have h1:=O.entsAt.length;have h2:=io L key seq;have h3:=al.o.length;omega
      obtain ⟨E,a5⟩:=aH (n+nr);have b2:CG (E=n+nr):=a5;have aF:CG (E≤2460+150*(j+1)):=by show _≤_;omega
      have aL:n≤1048576:=by have:=R.o;omega
      have bI:j≤8:=by have:=R.o;omega
      clear a3 O d a5;go_wp2_with (at_builtin;refine ng rfl _ _ rfl W.heap.size wq.heap.size g n c _ rfl D.o ar nr cr _ rfl aX.o aL (by omega) E b2.o ?_;intro g2 c2 w2 aP ad)
      go_roundw
      case rel =>
       refine ⟨j+1,g2,E,c2,by omega,by go_num,rfl,aF.o,?_,y.o.grown ad y.o.size (fun k e=>by cases e;exact C8 K0.o.size D.o.lt.1),H.o.grown ad H.o.size (fun k e=>by cases e;exact D.o.lt.1)⟩;rw [Dl,aW.o];have e1:aV (u.take j++(some (L,m)).toList) key seq=aV (u.take j) key seq++aQ L key seq:=by rw [fG];simp [aV]
       rw [e1,← Di];exact aP
      case measure=>simp [intOf];omega
    · have aj:¬(j:Int)<((nn:Nat):Int):=by omega
      have a9:¬(j:Int)<nn:=by omega
      have a2:j=nn:=by omega
      have J:CG (af wr W.heap.size g n c (M++([A,B,C].take 3).flatMap (fun Z=>aV Z key seq))∧n≤2460+1200):=by
       have h:=HO.o;rw [a2,C9 (by rw [b3.o];omega)] at h;refine ⟨?_,by have:=R.o;omega⟩;rw [HG.o,aJ.o] at h;simpa [List.take,ES,Di] using h
      clear a2 HO;go_wp2;go_roundw
      case rel=>exact ⟨3,g,n,c,by omega,by go_num,rfl,by have:=J.o.2;omega,J.o.1,HB.o,f.o⟩
      case measure=>simp [intOf]
  | 3,_ =>
   have bT:CG (af wr W.heap.size gf nf cf (M++[A,B,C].flatMap (fun Z=>aV Z key seq))):=ap.o;go_wp2_with fail
   refine (CA.o _ _ _ _ _ bT.o (by omega)).mono ?_;rintro e w2 ⟨rfl,bi⟩;have K2:CG (Bl w w2):=U.o.trans (bi.mono U.o.size);have aB:=f.o.trans (bi.mono f.o.size);obtain ⟨r0,r1,r2,rf,rz⟩:=c4.o;have r0:=cell_later aB r0;have r1:=cell_later aB r1;have r2:=cell_later aB r2;have rf:∀o,w2.frozen? ⟨X+1,o,none⟩=false:=fun o=>(aB.frozen (p:=⟨X+1,o,none⟩) rz).trans (rf o)
   have rz:=l' rz aB.size;clear bi aB;go_wp2;refine bodyPost_ret (v:=.agg #[.bool rb,.string rt,iT rn]) ?_ rfl ⟨rfl,?_⟩
   · have cd:(((w2.setCell ⟨X+1,0,none⟩ (.bool rb)).setCell ⟨X+1,1,none⟩ (.string rt)).setCell ⟨X+1,2,none⟩ (iT rn)).cell? ⟨X+1,0,none⟩=some (.bool rb):=by rw [u' _ _ _ _ (by simp),u' _ _ _ _ (by simp)];exact C4 _ _ _ (by rw [r0];rfl)
     have cb:(((w2.setCell ⟨X+1,0,none⟩ (.bool rb)).setCell ⟨X+1,1,none⟩ (.string rt)).setCell ⟨X+1,2,none⟩ (iT rn)).cell? ⟨X+1,1,none⟩=some (.string rt):=by rw [u' _ _ _ _ (by simp)];exact C4 _ _ _ (by rw [u' _ _ _ _ (by simp),r1];rfl)
     have c9:(((w2.setCell ⟨X+1,0,none⟩ (.bool rb)).setCell ⟨X+1,1,none⟩ (.string rt)).setCell ⟨X+1,2,none⟩ (iT rn)).cell? ⟨X+1,2,none⟩=some (iT rn):=C4 _ _ _ (by rw [u' _ _ _ _ (by simp),u' _ _ _ _ (by simp),r2];rfl);simp [results,Tryz.results107,go_sem,cd,cb,c9]
   · have hx:w.heap.size≤X+1:=by have:=HX.o;omega
     exact ((K2.o.setCell (p:=⟨X+1,0,none⟩) hx _).setCell (p:=⟨X+1,1,none⟩) hx _).setCell (p:=⟨X+1,2,none⟩) hx _
section
attribute [local go_sem] DN
theorem yK (b:Bool) (t k r:ByteArray) (n q d f:Int) (w:World) :
 Calls Tryz.prog 212 #[.agg #[.bool b,.string t,iT n],.agg #[.string k,iT q,iT d,.string r,iT f]] w fun e w'=>e=.returned (eK (fA b t n d r f))∧Bl w w':=by
 by_cases g:d=1
 · subst g;go_enter Tryz.func212,Tryz.ntmps212
   go_wp2;refine bodyPost_ret (v:=.agg #[.bool true,.string r,iT f]) (by simp [results,Tryz.results212,go_sem]) rfl ⟨by rw [vZ];rfl,?_⟩;exact ((bZ.alloc (by simp) _).alloc (by simp;omega) _)
 by_cases m:d=2
 · subst m;go_enter Tryz.func212,Tryz.ntmps212
   go_wp2;refine bodyPost_ret (v:=.agg #[.bool false,.string ⟨#[]⟩,iT 0]) (by simp [results,Tryz.results212,go_sem]) rfl ⟨by rw [vY];rfl,?_⟩;exact ((bZ.alloc (by simp) _).alloc (by simp;omega) _)
 by_cases o:d=3
 · subst o;go_enter Tryz.func212,Tryz.ntmps212
   go_wp2;refine bodyPost_ret (v:=.agg #[.bool true,.string t,iT (wrap64 (n+f))]) (by simp [results,Tryz.results212,go_sem]) rfl ⟨by rw [vX];rfl,?_⟩;exact ((bZ.alloc (by simp) _).alloc (by simp;omega) _)
 have u:(d == 1)=false:=by simpa using g
 have s:(d == 2)=false:=by simpa using m
 have x:(d == 3)=false:=by simpa using o
 go_enter Tryz.func212,Tryz.ntmps212
 go_wp2;refine bodyPost_ret (v:=.agg #[.bool b,.string t,iT n]) (by simp [results,Tryz.results212,go_sem]) rfl ⟨by rw [v6 g m o];rfl,?_⟩;exact ((bZ.alloc (by simp) _).alloc (by simp;omega) _)
end
end Go.Proofs.YtpobkmjicbobdaaGreat
