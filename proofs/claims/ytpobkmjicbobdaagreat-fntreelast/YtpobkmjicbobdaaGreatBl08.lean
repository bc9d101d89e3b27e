/- Walks. -/
import Derived.Test.YtpobkmjicbobdaaGreatBl07
import Derived.Sort.Grow
import Derived.Sort.Statements
import Derived.Shelf.SlSortCmp.InsertionK
namespace Go.Proofs.YtpobkmjicbobdaaGreat
set_option maxRecDepth 100000
set_option maxHeartbeats 40000000
open Go.RowKit Go.Sort
variable {A L LT:List ac} {X b c ct g gt k nt:Nat} {d q:Int} {s t:ByteArray} {w wc wd:World} {x y:ac}
def kT (L:List ac) (e:ac):Nat→Nat
 | 0=>0
 | k+1=>match L[k]? with
  | none=>k+1
  | some x=>if bo e.1 e.2.1 x.1 x.2.1=true then kT L e k else k+1
theorem uA (L:List ac) (e:ac):∀k,kT L e k≤k
 | 0=>Cy _
 | k+1=>by
  have f:=uA L e k
  unfold kT
  split
  · exact Cy _
  · split <;> omega
def em (L:List ac) (e:ac):List ac:=L.take (kT L e L.length)++([e]++L.drop (kT L e L.length))
def bF (L:List ac):List ac:=L.foldl em []
theorem ll (L:List ac) (e:ac):(em L e).length=L.length+1:=by
 have:=uA L e L.length;simp [em];omega
theorem bI (w:World) (base:Nat) (h:base≤w.heap.size):af (w.alloc (.cells #[] 50)) base w.heap.size 0 0 []:=by
 have:=Do (base:=base) (e:=50) (size:=5) w #[] 0 (by first | exact h | simp) (by first | exact h | simp) (by first | exact h | simp);exact ⟨by simpa [aC] using this,rfl,by simp⟩
theorem cK (w:World) (s t:ByteArray) (q d n:Int) (h:dR (s,q,d,t,n)):ag (w.alloc (.cells #[.string s,iT q,iT d,.string t,iT n] 50)) (some ⟨w.heap.size,0,none⟩) 1 1 [(s,q,d,t,n)]:=by
 refine ⟨rfl,Cy _,by unfold maxLen;omega,fun l hl=>by simp only [Df] at hl;subst hl;exact h,(fun e=>by cases e),(fun x e _=>by cases e;exact ⟨by simp,rfl⟩),?_⟩;rintro x e i hi;cases e;have:i=0:=by simp at hi;omega
 subst this;exact ⟨by simp,by simp,by simp,by simp,by simp⟩
theorem bi {n:Nat} (h:ag w (pT b) n c L):∀j u,(aC L)[j]?=some u→w.cell? ((⟨b,0,none⟩:Addr).add j)=some u:=by
 intro j u f;have m:j<(aC L).length:=(Cx.1 f).1;rw [aU] at m;have hi:j / 5<L.length:=by omega
 obtain ⟨c0,c1,c2,c3,c4⟩:=h.cells _ rfl (j / 5) hi;obtain ⟨o,r,r2,r3,r4⟩:=fe L (j / 5) L[j / 5] (j' hi);rw [De,C6];simp only [C6] at c0 c1 c2 c3 c4;have:j=j / 5*5∨j=j / 5*5+1∨j=j / 5*5+2∨j=j / 5*5+3∨j=j / 5*5+4:=by omega
 rcases this with e | e | e | e | e
 · rw [← e] at o c0;rw [o] at f;cases f;exact c0
 · rw [← e] at r c1;rw [r] at f;cases f;exact c1
 · rw [← e] at r2 c2;rw [r2] at f;cases f;exact c2
 · rw [← e] at r3 c3;rw [r3] at f;cases f;exact c3
 · rw [← e] at r4 c4;rw [r4] at f;cases f;exact c4
theorem xU {n:Nat} (h:ag w (pT b) n c L) (hk:k≤n):ag w (pT b) k c (L.take k) where
 length:=by have:=h.length;simp;omega
 room:=by have:=h.room;omega
 big:=h.big
 ents:=fun l hl=>h.ents l (Dw hl)
 nil:=fun e=>by cases e
 lies:=fun x e hp=>h.lies x e (by omega)
 cells:=fun x e i hi=>by
  have f:i<L.length:=by simp at hi;omega
  have:=h.cells x e i f
  simpa using this
theorem ml {n:Nat} (h:ag w (pT b) n c L) (k:Nat):∀j u,(aC (L.drop k))[j]?=some u→w.cell? ((⟨b,k*5,none⟩:Addr).add j)=some u:=by
 intro j u e;have hf:aC L=aC (L.take k)++aC (L.drop k):=by rw [← aJ,Ds]
 by_cases hk:k≤L.length
 · have h1:(aC L)[k*5+j]?=some u:=by
    rw [hf,CU (by rw [aU,C5];omega),aU,C5,Nat.min_eq_left hk,D0];exact e
   have h2:=bi h _ u h1;rw [De,C6] at h2;rw [De];exact h2
 · rw [DY (by omega)] at e;simp [aC] at e
theorem aF {base e size n:Nat} {v:Value} {xs:List Value} {f:Addr} {o c0 m:Nat} (h:w.ownsRow base e size v n xs) (hn:v=nZ ↔ Value.slice (some f) o c0=nZ∧m=0):∃g c,v=sL g n c :=
 lg h (fun e=>by cases (hn.1 e).1)
structure fB (w wc:World) (X gt nt ct:Nat) (s t:ByteArray) (q d n:Int) (LT:List ac):Prop where
 low:Bl w wc
 hi:w.heap.size+1≤wc.heap.size
 x0:wc.cell? ⟨X,0,none⟩=some (.string s)
 x1:wc.cell? ⟨X,1,none⟩=some (iT q)
 x2:wc.cell? ⟨X,2,none⟩=some (iT d)
 x3:wc.cell? ⟨X,3,none⟩=some (.string t)
 x4:wc.cell? ⟨X,4,none⟩=some (iT n)
 tl:af wc (w.heap.size+1) gt nt ct LT
theorem fB.lt {n:Int} (h:fB w wc X gt nt ct s t q d n LT):X<wc.heap.size:=Cz _ _ h.x0
theorem fB.below {n:Int} (h:fB w wc X gt nt ct s t q d n LT) (hb:Bl wc wd):fB w wd X gt nt ct s t q d n LT :=
 ⟨h.low.trans (hb.mono h.low.size),C8 h.hi hb.size,cell_later hb h.x0,cell_later hb h.x1,cell_later hb h.x2,cell_later hb h.x3,cell_later hb h.x4,h.tl.below hb⟩
theorem fB.grown {n:Int} (h:fB w wc X gt nt ct s t q d n LT) (hg:wc.grownBy wd (some g)) (hw:w.heap.size≤g) (f:X≠g) (n2:gt≠g):fB w wd X gt nt ct s t q d n LT :=
 ⟨h.low.grown hg h.low.size (fun k e=>by cases e;exact hw),C8 h.hi hg.size,(aj hg (x:=⟨X,0,none⟩) h.lt f).trans h.x0,(aj hg (x:=⟨X,1,none⟩) h.lt f).trans h.x1,(aj hg (x:=⟨X,2,none⟩) h.lt f).trans h.x2,(aj hg (x:=⟨X,3,none⟩) h.lt f).trans h.x3,(aj hg (x:=⟨X,4,none⟩) h.lt f).trans h.x4,h.tl.grown hg (fun e=>n2 (by cases e;rfl))⟩
theorem ag.grownE {w':World} {len f:Nat} (h:ag w (pT b) len f L) (hg:w.grownBy w' (some g)) (m:b≠g):ag w' (pT b) len f L :=
 h.moved hg.size (fun x e hp o=>by
  cases e
  have:=(h.lies _ rfl hp).1
  exact aj hg (x:=⟨b,o,none⟩) this m)
theorem qU (b len cap:Nat) (L:List ac) (s t:ByteArray) (q d n:Int) (w:World) (hL:ag w (pT b) len cap L) (bT:b<w.heap.size) (bX:len≤1048576) (hE:dR (s,q,d,t,n)) :
 Calls Tryz.prog 159 #[sL b len cap,.agg #[.string s,iT q,iT d,.string t,iT n]] w fun e w'=>∃g c,e=.returned (sL g (len+1) c)∧af w' w.heap.size g (len+1) c (em L (s,q,d,t,n))∧Bl w w':=by
 have C:CG (L.length=len):=hL.length;have Y:CG (∀l ∈ L,dR l):=hL.ents;have aS:=bO hE;have cp:=hL.room;have bH:=hL.big;unfold maxLen at bH;have HL:=bO hL;obtain ⟨X,hX⟩:=aH w.heap.size;obtain ⟨W,hW⟩:=aH (w.alloc (.cells #[.string s,iT q,iT d,.string t,iT n] 50));have x0:W.cell? ⟨X,0,none⟩=some (.string s):=by rw [hW,hX];simp
 have x1:W.cell? ⟨X,1,none⟩=some (iT q):=by rw [hW,hX];simp
 have x2:W.cell? ⟨X,2,none⟩=some (iT d):=by rw [hW,hX];simp
 have x3:W.cell? ⟨X,3,none⟩=some (.string t):=by rw [hW,hX];simp
 have x4:W.cell? ⟨X,4,none⟩=some (iT n):=by rw [hW,hX];simp
 have kW:Bl w W:=by rw [hW];exact bZ
 have bA:w.heap.size+1≤W.heap.size:=by rw [hW];simp
 have a3:CG (X=w.heap.size):=hX;have aI:CG (Bl w W):=kW;have bM:CG (w.heap.size+1≤W.heap.size):=bA;obtain ⟨i0,hi,a4,a1,a2⟩:=info_parts Tryz.infoEnt;go_enter Tryz.func159,Tryz.ntmps159
 go_upto_block 0 with fail
 rw [← hW,← hX];clear hW hX kW hL bA hE;go_cut [5] (fun kv wz=>∃j:Nat,kv=iT j∧j≤len∧kT L (s,q,d,t,n) len=j∧Bl W wz)
 case first =>
  go_wp2_with fail
  go_loopw [5] (fun kv wr=>∃j:Nat,j≤len∧kv=iT j∧Bl W wr∧kT L (s,q,d,t,n) len=kT L (s,q,d,t,n) j) (fun kv _=>(intOf kv).toNat)
  case atStart=>exact ⟨len,Cy _,rfl,Below.refl _ _,rfl⟩
  case round =>
   obtain ⟨j,hj,rfl,hb,bl⟩:=hrel;have ba:CG (kT L (s,q,d,t,n) len=kT L (s,q,d,t,n) j):=bl;clear bl;by_cases bv:j=0
   · have bx:¬(0:Int)<(j:Int):=by omega
     have cb:decide ((0:Int)<(j:Int))=false:=decide_eq_false bx;have HJ:CG (kT L (s,q,d,t,n) len=j):=by show kT L (s,q,d,t,n) len=j;rw [ba.o,bv];rfl
     have bw:¬0<j:=by omega
     have c6:decide (0<j)=false:=decide_eq_false bw;clear bv;go_wp2_with fail
     have y0:=cell_later hb x0;have y1:=cell_later hb x1;have y2:=cell_later hb x2;have y3:=cell_later hb x3;have y4:=cell_later hb x4;have k0:Bl wr wr.drew:=(Below.refl _ wr).drew;have J:CG (∀w',Bl wr w'→(w'.cell? ⟨X,0,none⟩=some (.string s)∧w'.cell? ⟨X,1,none⟩=some (iT q)∧w'.cell? ⟨X,2,none⟩=some (iT d)∧w'.cell? ⟨X,3,none⟩=some (.string t)∧w'.cell? ⟨X,4,none⟩=some (iT n)∧X<w'.heap.size)):=fun w' U=>⟨cell_later U y0,cell_later U y1,cell_later U y2,cell_later U y3,cell_later U y4,Cz _ _ (cell_later U y0)⟩
     refine ez J k0 fun R=>?_
     refine aP 0 9 R ?_;refine aR 9 fun K hK=>?_
     go_simp;refine hK.o _ _ (J.o _ k0) fun R=>?_
     (try go_frame);refine aP 10 1 R ?_;refine dN ?_;have KZ:CG (Bl W wr.drew):=hb.trans (k0.mono hb.size);clear k0 J R y0 y1 y2 y3 y4 hb;go_wp2;go_meet
     exact ⟨j,rfl,hj,HJ.o,KZ.o⟩
   · have ci:(0:Int)<(j:Int):=by omega
     have c0:0<j:=by omega
     have co:(0:Int)≤(j:Int) - 1:=by omega
     have cl:(j:Int) - 1<(len:Int):=by omega
     have cg:(1:Int)≤(j:Int):=by omega
     have cn:(j:Int)≤(len:Int):=by omega
     have ce:((j:Int) - 1).toNat=j - 1:=by omega
     have wj:IntKind.i64.wrap ((j:Int) - 1)=(j:Int) - 1:=by rw [Dg];unfold wrap64;omega
     have bV:b<W.heap.size:=l' bT aI.o.size;obtain ⟨s',q',d',t',n',bd,bn,aN,b5,b9,b2,b6⟩:=(HL.o.keep aI.o).ent hb bV (j - 1) (by omega);have HG:CG (L[j - 1]?=some (s',q',d',t',n')):=bd;simp only [C6] at aN b5 b9 b2 b6;clear bd bn;obtain ⟨B,hB⟩:=aH (bo s q s' q');have CL:CG (∀w,Calls Tryz.prog 144 #[.agg #[.string s,iT q,iT d,.string t,iT n],.agg #[.string s',iT q',iT d',.string t',iT n']] w fun e w'=>e=.returned (.bool B)∧Bl w w'):=by rw [hB];exact fun w=>sD s t s' t' q d n q' d' n' w
     have bq:CG (kT L (s,q,d,t,n) j=if B=true then kT L (s,q,d,t,n) (j - 1) else j):=by
      show kT L (s,q,d,t,n) j=_
      obtain ⟨i,rfl⟩:∃i,j=i+1:=⟨j - 1,by omega⟩;rw [hB];conv=>lhs;unfold kT
      have hg:=HG.o;simp only [DU] at hg ⊢;simp only [hg]
     clear hB;go_wp2_with fail
     have y0:=cell_later hb x0;have y1:=cell_later hb x1;have y2:=cell_later hb x2;have y3:=cell_later hb x3;have y4:=cell_later hb x4;have k0:Bl wr wr.drew:=(Below.refl _ wr).drew;have J:CG (∀w',Bl wr w'→(w'.cell? ⟨X,0,none⟩=some (.string s)∧w'.cell? ⟨X,1,none⟩=some (iT q)∧w'.cell? ⟨X,2,none⟩=some (iT d)∧w'.cell? ⟨X,3,none⟩=some (.string t)∧w'.cell? ⟨X,4,none⟩=some (iT n)∧X<w'.heap.size∧w'.cell? ⟨b,(j - 1)*5,none⟩=some (.string s')∧w'.cell? ⟨b,(j - 1)*5+1,none⟩=some (iT q')∧w'.cell? ⟨b,(j - 1)*5+2,none⟩=some (iT d')∧w'.cell? ⟨b,(j - 1)*5+3,none⟩=some (.string t')∧w'.cell? ⟨b,(j - 1)*5+4,none⟩=some (iT n')∧b<w'.heap.size)):=fun w' U=>⟨cell_later U y0,cell_later U y1,cell_later U y2,cell_later U y3,cell_later U y4,Cz _ _ (cell_later U y0),cell_later U aN,cell_later U b5,cell_later U b9,cell_later U b2,cell_later U b6,Cz _ _ (cell_later U aN)⟩
     refine ez J k0 fun R=>?_
     refine aP 0 9 R ?_;refine aR 9 fun K hK=>?_
     go_simp;refine (CL.o _).mono ?_;rintro e w1 ⟨rfl,b1⟩;have k1:Bl wr w1:=k0.trans (b1.mono k0.size);go_wp2_with fail
     refine hK.o _ _ (J.o _ k1) fun R=>?_
     (try go_frame);refine aP 10 1 R ?_;refine dN ?_;cases B with
     | true =>
      go_wp2;go_roundw
      case rel=>exact ⟨j - 1,by omega,by congr 1;omega,hb.trans (k1.mono hb.size),by rw [ba.o,bq.o];rfl⟩
      case measure=>simp [intOf];omega
     | false =>
      have HJ:CG (kT L (s,q,d,t,n) len=j):=by show kT L (s,q,d,t,n) len=j;rw [ba.o,bq.o];rfl
      have KZ:CG (Bl W w1):=hb.trans (k1.mono hb.size);clear k0 k1 J R y0 y1 y2 y3 y4 hb b1 aN b5 b9 b2 b6;go_wp2;go_meet
      exact ⟨j,rfl,hj,HJ.o,KZ.o⟩
 case rest =>
  obtain ⟨j,rfl,hj,hJ,kz⟩:=hcut;obtain ⟨wz,be⟩:=aH wc;rw [← be] at kz ⊢;have HJ:CG (kT L (s,q,d,t,n) len=j):=hJ;clear be hJ;have aO:Bl w wz:=aI.o.trans (kz.mono aI.o.size);have hzs:w.heap.size+1≤wz.heap.size:=C8 bM.o kz.size;have z0:=cell_later kz x0;have z1:=cell_later kz x1;have z2:=cell_later kz x2;have z3:=cell_later kz x3;have z4:=cell_later kz x4;have bu:CG (ag wz (pT b) len cap L):=HL.o.keep aO;have ak:CG (em L (s,q,d,t,n)=L.take j++([(s,q,d,t,n)]++L.drop j)):=by show em L (s,q,d,t,n)=_;unfold em;rw [C.o,HJ.o]
  have aD:CG (∀l ∈ L.take j++[(s,q,d,t,n)],dR l):=fun l hl=>by rcases Dd.1 hl with h1 | h1;exact Y.o l (Dw h1);simp only [Df] at h1;subst h1;exact aS.o
  have b3:CG (∀l ∈ em L (s,q,d,t,n),dR l):=fun l hl=>by rw [ak.o,← Di] at hl;rcases Dd.1 hl with h1 | h1;exact aD.o l h1;exact Y.o l (DE h1)
  have kt:Bl wz (wz.alloc (.cells #[] 50)):=bZ;have aY:CG (af (wz.alloc (.cells #[] 50)) (w.heap.size+1) wz.heap.size 0 0 []):=bI wz _ hzs;have bC:CG (ag (wz.alloc (.cells #[] 50)) (pT b) len cap L):=bu.o.keep kt;have aB:CG (fB w (wz.alloc (.cells #[] 50)) X wz.heap.size 0 0 s t q d n []):=⟨aO.trans (kt.mono aO.size),C8 hzs kt.size,cell_later kt z0,cell_later kt z1,cell_later kt z2,cell_later kt z3,cell_later kt z4,aY.o⟩;clear kz z0 z1 z2 z3 z4 kt aO bu;go_upto_region 4 with fail
  go_cut [6] (fun tv wt=>∃gt ct,tv=sL gt (len - j) ct∧fB w wt X gt (len - j) ct s t q d n (L.drop j))
  case first =>
   by_cases bK:cap=j
   · subst bK;have br:CG (len - cap=0):=by show len - cap=0;omega
     have bQ:CG (L.drop cap=[]):=DY (by rw [C.o];omega);go_wp2;go_meet
     exact ⟨wz.heap.size,0,by rw [br.o],by rw [br.o,bQ.o];exact aB.o⟩
   · have bY:¬(cap:Int)=(j:Int):=by omega
     have bJ:CG ((aC (L.drop j)).length=(len - j)*5):=by show _=_;rw [aU,Dh,C.o]
     go_wp2_with (at_builtin;refine wpList_append_own _ rfl _ _ 28 rfl (w.heap.size+1) 50 i0 _ 5 56 Tryz.underlying28 hi a4 a1 a2 rfl (by decide) _ _ _ rfl aY.o.owns ⟨b,j*5,none⟩ (len - j) (cap - j) (aC (L.drop j)) rfl bJ.o (ml bC.o j) (aL _) (by unfold maxLen;omega) (by omega) aB.o.hi ?_;intro vt wt a6 H aq;obtain ⟨gt,ct,rfl⟩:=lg a6 (fun e=>by cases (aq.1 e).1))
     have a7:=aB.o;have am:some X≠(sL (wz.heap.size) 0 0).ownBlock:=by have h1:=a3.o;simp [Value.ownBlock];omega
     have ST:CG (fB w wt X gt (len - j) ct s t q d n (L.drop j)):=⟨a7.low.grown H a7.low.size (fun k e=>by have h1:wz.heap.size=k:=CZ e;omega),C8 a7.hi H.size,H.cell a7.x0 am,H.cell a7.x1 am,H.cell a7.x2 am,H.cell a7.x3 am,H.cell a7.x4 am,⟨by first | exact a6 | (have h0:=a6;rw [C6] at h0;exact h0),by rw [Dh,C.o],fun l hl=>Y.o l (DE hl)⟩⟩;clear a6 H aq a7 am;try simp only [C6]
     go_meet
     exact ⟨gt,ct,rfl,ST.o⟩
  case rest =>
   obtain ⟨gt,ct,rfl,b0⟩:=hcut;obtain ⟨wt,bm⟩:=aH wc;rw [← bm] at b0 ⊢;have ST:CG (fB w wt X gt (len - j) ct s t q d n (L.drop j)):=b0;have aZ:j+1+(len - j)=len+1:=by omega
   clear bm b0 aY bC aB hzs;have k0:fB w wt.drew X gt (len - j) ct s t q d n (L.drop j):=ST.o.below (Below.refl _ wt).drew;have J:CG (∀w',fB w w' X gt (len - j) ct s t q d n (L.drop j)→(w'.cell? ⟨X,0,none⟩=some (.string s)∧w'.cell? ⟨X,1,none⟩=some (iT q)∧w'.cell? ⟨X,2,none⟩=some (iT d)∧w'.cell? ⟨X,3,none⟩=some (.string t)∧w'.cell? ⟨X,4,none⟩=some (iT n)∧X<w'.heap.size)):=fun w' U=>⟨U.x0,U.x1,U.x2,U.x3,U.x4,U.lt⟩
   have b7:CG (∀w',Bl w w'→ag w' (pT b) j cap (L.take j)):=fun w' U=>xU (HL.o.keep U) (by omega)
   have ck:=ST.o.tl.lt;have ch:j≤cap:=by omega
   have c8:(j:Int)≤(cap:Int):=by omega
   go_wp2_with fail
   refine ez J k0 fun R=>?_
   generalize wt.drew=wd at k0 R ⊢;refine aP 1 3 R ?_;refine aP 5 1 R ?_;refine aP 8 1 R ?_;refine jX 0 6 (fun K hK=>?_) fun K hK=>?_
   · go_simp;have kA:Bl wd (wd.alloc (.cells #[] 50)):=bZ;have sA:=k0.below kA;have rA:af (wd.alloc (.cells #[] 50)) wd.heap.size wd.heap.size 0 0 []:=bI wd _ (Cy _);have ar:w.heap.size+1≤wd.heap.size:=k0.hi;have ay:gt<wd.heap.size:=k0.tl.lt.2;generalize bP:wd.heap.size=ga at rA ar ay ⊢;generalize wd.alloc (.cells #[] 50)=wa at sA rA kA ⊢;refine hK.o _ _ (J.o _ sA) fun R=>?_
     (try go_frame);refine jX 4 6 (fun K hK=>?_) fun K hK=>?_
     · refine aw rfl (.tmp 27) (.tmp 30) 28 rfl ga 50 i0 _ 5 56 Tryz.underlying28 hi a4 a1 a2 rfl (Dz 4) _ _ _ rfl rA.owns ⟨b,0,none⟩ j cap (aC (L.take j)) rfl ?_ (bi (b7.o _ sA.low)) (aL _) ?_ ?_ ?_ ?_
       · rw [aU,C5,C.o];congr 1;omega
       · unfold maxLen;omega
       · omega
       · have:=rA.lt;omega
       intro v4 w4 D T Z;obtain ⟨g4,c4,rfl⟩:=aF D Z;have F:wa.grownBy w4 (some ga):=T;have s4:=sA.grown F (by omega) (by have:=a3.o;omega) (by omega);have r4:af w4 ga g4 j c4 (L.take j):=⟨by first | exact D | (have h0:=D;rw [C6] at h0;exact h0),by simp [C.o];omega,fun l hl=>Y.o l (Dw hl)⟩;simp only [C6];refine hK.o _ _ (J.o _ s4) fun R=>?_
       (try go_frame);refine aR 6 fun K hK=>?_
       go_simp;have kN:Bl w4 (w4.alloc (.cells #[.string s,iT q,iT d,.string t,iT n] 50)):=bZ;have sN:=s4.below kN;have rN:ag (w4.alloc (.cells #[.string s,iT q,iT d,.string t,iT n] 50)) (some ⟨w4.heap.size,0,none⟩) 1 1 [(s,q,d,t,n)]:=cK w4 _ _ _ _ _ aS.o;have ae:w.heap.size+1≤w4.heap.size:=s4.hi;have rR:=r4.below kN;have ai:g4≠w4.heap.size:=by have:=r4.lt.2;omega
       generalize bB:w4.heap.size=gn at rN ae ai ⊢;generalize w4.alloc (.cells #[.string s,iT q,iT d,.string t,iT n] 50)=wn at sN rN rR kN ⊢;refine hK.o _ _ (J.o _ sN) fun R=>?_
       (try go_frame);refine aR 7 fun K hK=>?_
       refine aw rfl (.tmp 31) (.tmp 33) 28 rfl ga 50 i0 _ 5 56 Tryz.underlying28 hi a4 a1 a2 rfl (Dz 4) _ _ _ rfl rR.owns ⟨gn,0,none⟩ 1 1 (aC [(s,q,d,t,n)]) rfl rfl (bi rN) (aL _) ?_ ?_ ?_ ?_
       · unfold maxLen;omega
       · omega
       · have:=rR.lt;omega
       intro v7 w7 E I N;obtain ⟨g7,c7,rfl⟩:=aF E N;have Q:wn.grownBy w7 (some g4):=I;have u:=sN.grown Q (by have:=rR.lt.1;omega) (by have:=rR.lt.1;have:=a3.o;omega) (by have:=rR.lt.1;omega);have r7:af w7 ga g7 (j+1) c7 (L.take j++[(s,q,d,t,n)]):=⟨by rw [aJ];exact E,by simp [C.o];omega,aD.o⟩;refine hK.o _ _ (J.o _ u) fun R=>?_
       (try go_frame);refine aR 9 fun K hK=>?_
       refine aw rfl (.tmp 34) (.tmp 35) 28 rfl ga 50 i0 _ 5 56 Tryz.underlying28 hi a4 a1 a2 rfl (Dz 4) _ _ _ rfl r7.owns ⟨gt,0,none⟩ (len - j) ct (aC (L.drop j)) rfl ?_ (bi u.tl.entsAt) (aL _) ?_ ?_ ?_ ?_
       · rw [aU,u.tl.len]
       · unfold maxLen;omega
       · omega
       · have:=r7.lt;omega
       intro v9 w9 r m O;obtain ⟨g9,c9,rfl⟩:=aF r O;have f:w7.grownBy w9 (some g7):=m;have a8:Bl w w9:=u.low.grown f u.low.size (fun k e=>by cases e;have:=r7.lt.1;omega);have z9:X<w9.heap.size:=l' u.lt m.size;refine hK.o _ _ ?_ (fun R=>?_)
       · have n9:X≠g7:=by have:=r7.lt.1;have:=a3.o;omega
         exact ⟨(aj f (x:=⟨X,0,none⟩) u.lt n9).trans u.x0,(aj f (x:=⟨X,1,none⟩) u.lt n9).trans u.x1,(aj f (x:=⟨X,2,none⟩) u.lt n9).trans u.x2,(aj f (x:=⟨X,3,none⟩) u.lt n9).trans u.x3,(aj f (x:=⟨X,4,none⟩) u.lt n9).trans u.x4,z9⟩
       clear hK K;(try go_frame);refine aP 10 1 R ?_;refine dN ?_;rw [aZ] at r ⊢;have ap:CG (af w9 w.heap.size g9 (len+1) c9 (em L (s,q,d,t,n))):=by
        refine af.mono (base:=ga) ⟨?_,by rw [ll,C.o],b3.o⟩ (by omega);rw [ak.o,← Di,aJ];exact r
       have ax:CG (Bl w w9):=a8;clear r m O E I N r7 u a8;go_wp2;go_ret;exact ⟨g9,c9,rfl,ap.o,ax.o⟩
     · go_simp;have kN:Bl wa (wa.alloc (.cells #[.string s,iT q,iT d,.string t,iT n] 50)):=bZ;have sN:=sA.below kN;have rN:ag (wa.alloc (.cells #[.string s,iT q,iT d,.string t,iT n] 50)) (some ⟨wa.heap.size,0,none⟩) 1 1 [(s,q,d,t,n)]:=cK wa _ _ _ _ _ aS.o;have ae:w.heap.size+1≤wa.heap.size:=sA.hi;have b4:=rA.below kN;have ai:ga≠wa.heap.size:=by have:=rA.lt.2;omega
       generalize bB:wa.heap.size=gn at rN ae ai ⊢;generalize wa.alloc (.cells #[.string s,iT q,iT d,.string t,iT n] 50)=wn at sN rN b4 kN ⊢;refine hK.o _ _ (J.o _ sN) fun R=>?_
       (try go_frame);refine aR 4 fun K hK=>?_
       refine aw rfl (.tmp 27) (.tmp 30) 28 rfl ga 50 i0 _ 5 56 Tryz.underlying28 hi a4 a1 a2 rfl (Dz 4) _ _ _ rfl b4.owns ⟨b,0,none⟩ j cap (aC (L.take j)) rfl ?_ (bi (b7.o _ sN.low)) (aL _) ?_ ?_ ?_ ?_
       · rw [aU,C5,C.o];congr 1;omega
       · unfold maxLen;omega
       · omega
       · have:=b4.lt;omega
       intro v4 w4 D T Z;obtain ⟨g4,c4,rfl⟩:=aF D Z;have F:wn.grownBy w4 (some ga):=T;have s4:=sN.grown F (by omega) (by have:=a3.o;omega) (by omega);have r4:af w4 ga g4 j c4 (L.take j):=⟨by first | exact D | (have h0:=D;rw [C6] at h0;exact h0),by simp [C.o];omega,fun l hl=>Y.o l (Dw hl)⟩;simp only [C6];have b8:=rN.grownE F (fun e=>ai e.symm);refine hK.o _ _ (J.o _ s4) fun R=>?_
       (try go_frame);refine aR 7 fun K hK=>?_
       refine aw rfl (.tmp 31) (.tmp 33) 28 rfl ga 50 i0 _ 5 56 Tryz.underlying28 hi a4 a1 a2 rfl (Dz 4) _ _ _ rfl r4.owns ⟨gn,0,none⟩ 1 1 (aC [(s,q,d,t,n)]) rfl rfl (bi b8) (aL _) ?_ ?_ ?_ ?_
       · unfold maxLen;omega
       · omega
       · have:=r4.lt;omega
       intro v7 w7 E I N;obtain ⟨g7,c7,rfl⟩:=aF E N;have Q:w4.grownBy w7 (some g4):=I;have u:=s4.grown Q (by have:=r4.lt.1;omega) (by have:=r4.lt.1;have:=a3.o;omega) (by have:=r4.lt.1;omega);have r7:af w7 ga g7 (j+1) c7 (L.take j++[(s,q,d,t,n)]):=⟨by rw [aJ];exact E,by simp [C.o];omega,aD.o⟩;refine hK.o _ _ (J.o _ u) fun R=>?_
       (try go_frame);refine aR 9 fun K hK=>?_
       refine aw rfl (.tmp 34) (.tmp 35) 28 rfl ga 50 i0 _ 5 56 Tryz.underlying28 hi a4 a1 a2 rfl (Dz 4) _ _ _ rfl r7.owns ⟨gt,0,none⟩ (len - j) ct (aC (L.drop j)) rfl ?_ (bi u.tl.entsAt) (aL _) ?_ ?_ ?_ ?_
       · rw [aU,u.tl.len]
       · unfold maxLen;omega
       · omega
       · have:=r7.lt;omega
       intro v9 w9 r m O;obtain ⟨g9,c9,rfl⟩:=aF r O;have f:w7.grownBy w9 (some g7):=m;have a8:Bl w w9:=u.low.grown f u.low.size (fun k e=>by cases e;have:=r7.lt.1;omega);have z9:X<w9.heap.size:=l' u.lt m.size;refine hK.o _ _ ?_ (fun R=>?_)
       · have n9:X≠g7:=by have:=r7.lt.1;have:=a3.o;omega
         exact ⟨(aj f (x:=⟨X,0,none⟩) u.lt n9).trans u.x0,(aj f (x:=⟨X,1,none⟩) u.lt n9).trans u.x1,(aj f (x:=⟨X,2,none⟩) u.lt n9).trans u.x2,(aj f (x:=⟨X,3,none⟩) u.lt n9).trans u.x3,(aj f (x:=⟨X,4,none⟩) u.lt n9).trans u.x4,z9⟩
       clear hK K;(try go_frame);refine aP 10 1 R ?_;refine dN ?_;rw [aZ] at r ⊢;have ap:CG (af w9 w.heap.size g9 (len+1) c9 (em L (s,q,d,t,n))):=by
        refine af.mono (base:=ga) ⟨?_,by rw [ll,C.o],b3.o⟩ (by omega);rw [ak.o,← Di,aJ];exact r
       have ax:CG (Bl w w9):=a8;clear r m O E I N r7 u a8;go_wp2;go_ret;exact ⟨g9,c9,rfl,ap.o,ax.o⟩
   · go_simp;have kN:Bl wd (wd.alloc (.cells #[.string s,iT q,iT d,.string t,iT n] 50)):=bZ;have sN:=k0.below kN;have rN:ag (wd.alloc (.cells #[.string s,iT q,iT d,.string t,iT n] 50)) (some ⟨wd.heap.size,0,none⟩) 1 1 [(s,q,d,t,n)]:=cK wd _ _ _ _ _ aS.o;have ae:w.heap.size+1≤wd.heap.size:=k0.hi;generalize bB:wd.heap.size=gn at rN ae ⊢;generalize wd.alloc (.cells #[.string s,iT q,iT d,.string t,iT n] 50)=wn at sN rN kN ⊢;refine hK.o _ _ (J.o _ sN) fun R=>?_
     (try go_frame);refine aR 0 fun K hK=>?_
     go_simp;have kA:Bl wn (wn.alloc (.cells #[] 50)):=bZ;have bt:=rN.keep kA;have ai:wn.heap.size≠gn:=by have:=(rN.lies _ rfl (by omega)).1;simp only at this;omega
     have sA:=sN.below kA;have rA:af (wn.alloc (.cells #[] 50)) wn.heap.size wn.heap.size 0 0 []:=bI wn _ (Cy _);have ar:w.heap.size+1≤wn.heap.size:=sN.hi;have ay:gt<wn.heap.size:=sN.tl.lt.2;generalize bP:wn.heap.size=ga at rA ar ay ai ⊢;generalize wn.alloc (.cells #[] 50)=wa at sA rA kA bt ⊢;refine hK.o _ _ (J.o _ sA) fun R=>?_
     (try go_frame);refine aR 4 fun K hK=>?_
     refine aw rfl (.tmp 27) (.tmp 30) 28 rfl ga 50 i0 _ 5 56 Tryz.underlying28 hi a4 a1 a2 rfl (Dz 4) _ _ _ rfl rA.owns ⟨b,0,none⟩ j cap (aC (L.take j)) rfl ?_ (bi (b7.o _ sA.low)) (aL _) ?_ ?_ ?_ ?_
     · rw [aU,C5,C.o];congr 1;omega
     · unfold maxLen;omega
     · omega
     · have:=rA.lt;omega
     intro v4 w4 D T Z;obtain ⟨g4,c4,rfl⟩:=aF D Z;have F:wa.grownBy w4 (some ga):=T;have s4:=sA.grown F (by omega) (by have:=a3.o;omega) (by omega);have r4:af w4 ga g4 j c4 (L.take j):=⟨by first | exact D | (have h0:=D;rw [C6] at h0;exact h0),by simp [C.o];omega,fun l hl=>Y.o l (Dw hl)⟩;simp only [C6];have b8:=bt.grownE F (fun e=>ai e.symm);refine hK.o _ _ (J.o _ s4) fun R=>?_
     (try go_frame);refine aR 7 fun K hK=>?_
     refine aw rfl (.tmp 31) (.tmp 33) 28 rfl ga 50 i0 _ 5 56 Tryz.underlying28 hi a4 a1 a2 rfl (Dz 4) _ _ _ rfl r4.owns ⟨gn,0,none⟩ 1 1 (aC [(s,q,d,t,n)]) rfl rfl (bi b8) (aL _) ?_ ?_ ?_ ?_
     · unfold maxLen;omega
     · omega
     · have:=r4.lt;omega
     intro v7 w7 E I N;obtain ⟨g7,c7,rfl⟩:=aF E N;have Q:w4.grownBy w7 (some g4):=I;have u:=s4.grown Q (by have:=r4.lt.1;omega) (by have:=r4.lt.1;have:=a3.o;omega) (by have:=r4.lt.1;omega);have r7:af w7 ga g7 (j+1) c7 (L.take j++[(s,q,d,t,n)]):=⟨by rw [aJ];exact E,by simp [C.o];omega,aD.o⟩;refine hK.o _ _ (J.o _ u) fun R=>?_
     (try go_frame);refine aR 9 fun K hK=>?_
     refine aw rfl (.tmp 34) (.tmp 35) 28 rfl ga 50 i0 _ 5 56 Tryz.underlying28 hi a4 a1 a2 rfl (Dz 4) _ _ _ rfl r7.owns ⟨gt,0,none⟩ (len - j) ct (aC (L.drop j)) rfl ?_ (bi u.tl.entsAt) (aL _) ?_ ?_ ?_ ?_
     · rw [aU,u.tl.len]
     · unfold maxLen;omega
     · omega
     · have:=r7.lt;omega
     intro v9 w9 r m O;obtain ⟨g9,c9,rfl⟩:=aF r O;have f:w7.grownBy w9 (some g7):=m;have a8:Bl w w9:=u.low.grown f u.low.size (fun k e=>by cases e;have:=r7.lt.1;omega);have z9:X<w9.heap.size:=l' u.lt m.size;refine hK.o _ _ ?_ (fun R=>?_)
     · have n9:X≠g7:=by have:=r7.lt.1;have:=a3.o;omega
       exact ⟨(aj f (x:=⟨X,0,none⟩) u.lt n9).trans u.x0,(aj f (x:=⟨X,1,none⟩) u.lt n9).trans u.x1,(aj f (x:=⟨X,2,none⟩) u.lt n9).trans u.x2,(aj f (x:=⟨X,3,none⟩) u.lt n9).trans u.x3,(aj f (x:=⟨X,4,none⟩) u.lt n9).trans u.x4,z9⟩
     clear hK K;(try go_frame);refine aP 10 1 R ?_;refine dN ?_;rw [aZ] at r ⊢;have ap:CG (af w9 w.heap.size g9 (len+1) c9 (em L (s,q,d,t,n))):=by
      refine af.mono (base:=ga) ⟨?_,by rw [ll,C.o],b3.o⟩ (by omega);rw [ak.o,← Di,aJ];exact r
     have ax:CG (Bl w w9):=a8;clear r m O E I N r7 u a8;go_wp2;go_ret;exact ⟨g9,c9,rfl,ap.o,ax.o⟩
theorem pi (w:World) (o:Obj):w.alloc o=grow w #[o]:=by
 unfold World.alloc grow;simp
theorem f9 (x y:ac):ltOf (fun x y:ac=>tg x.1 x.2.1 y.1 y.2.1) x y=bo x.1 x.2.1 y.1 y.2.1:=j9 _ _ _ _
theorem xr {e f:ByteArray} {m qb:Int} (h1:bo e m f qb=false) (h2:bo f qb e m=false):e=f∧m=qb:=by
 have h:=qh e f m qb;rw [h1,h2] at h;simp at h;exact h
theorem zk:SWO (ltOf (fun x y:ac=>tg x.1 x.2.1 y.1 y.2.1)) where
 irrefl x:=by rw [f9];exact oD _ _
 trans x y z h1 h2:=by rw [f9] at *;exact fO h1 h2
 ntrans x y z h1 h2:=by
  rw [f9] at *;cases h3:bo x.1 x.2.1 z.1 z.2.1 with
  | false=>rfl
  | true =>
   cases h4:bo y.1 y.2.1 x.1 x.2.1 with
   | true=>rw [fO h4 h3] at h2;cases h2
   | false =>
    obtain ⟨f,e⟩:=xr h1 h4;rw [f,e,h2] at h3;cases h3
def fN (x y:ac):Bool:=bo x.1 x.2.1 y.1 y.2.1
theorem rq {z:ac} (h1:fN x y=false) (h2:fN y z=false):fN x z=false:=by
 have:=zk.ntrans x y z;rw [f9,f9,f9] at this;exact this h1 h2
def lJ (L:List ac):Prop:=L.Pairwise (fun a b=>fN b a=false)
def rU (L:List ac):Prop:=L.Pairwise (fun a b=>fN a b=true)
theorem p6 (L:List ac) (e:ac):∀n p x,kT L e n≤p→p<n→L[p]?=some x→fN e x=true
 | 0,p,x,_,h2,_=>absurd h2 (DP _)
 | n+1,p,x,h1,h2,h3=>by
  unfold kT at h1
  cases hn:L[n]? with
  | none=>rw [hn] at h1;simp at h1;omega
  | some y =>
   rw [hn] at h1
   simp only at h1
   by_cases hl:bo e.1 e.2.1 y.1 y.2.1=true
   · rw [if_pos hl] at h1
     by_cases hp:p=n
     · subst hp
       rw [hn] at h3
       cases h3
       exact hl
     · exact p6 L e n p x h1 (by omega) h3
   · rw [if_neg hl] at h1
     omega
theorem sZ (L:List ac) (e:ac):∀n x,0<kT L e n→L[kT L e n - 1]?=some x→n≤L.length→fN e x=false
 | 0,x,h1,_,_=>absurd h1 (Nat.lt_irrefl _)
 | n+1,x,h1,h2,h3=>by
  have hn:L[n]?=some (L[n]'(by omega)):=j' (by omega)
  by_cases hl:bo e.1 e.2.1 (L[n]'(by omega)).1 (L[n]'(by omega)).2.1=true
  · have f:kT L e (n+1)=kT L e n:=by
     conv=>lhs;unfold kT
     simp only [hn,hl,if_true]
    rw [f] at h1 h2;exact sZ L e n x h1 h2 (by omega)
  · have f:kT L e (n+1)=n+1:=by
     conv=>lhs;unfold kT
     simp only [hn,hl];simp
    rw [f] at h2;simp only [DU] at h2;rw [hn] at h2;cases h2;simpa [fN] using hl
theorem yn {e:ac} (h:lJ L):lJ (em L e):=by
 have r:=uA L e L.length;obtain ⟨k,hk⟩:=aH (kT L e L.length);have hR:∀y ∈ L.drop k,fN e y=true:=by
  intro y hy;obtain ⟨p,hp,rfl⟩:=Du hy;simp at hp;refine p6 L e L.length (k+p) _ (by omega) (by omega) ?_;rw [j' (by omega)];simp
 have hL:∀x ∈ L.take k,fN e x=false:=by
  intro x hx;obtain ⟨p,hp,rfl⟩:=Du hx;simp at hp;have u:0<k:=by omega
  have m:k - 1<L.length:=by omega
  have h1:fN e (L[k - 1]'m)=false:=sZ L e L.length _ (by omega) (by rw [← hk];exact j' m) (Cy _);simp only [D3];by_cases o:p=k - 1
  · subst o;exact h1
  · have h2:=(Dt.1 h) p (k - 1) (by omega) m (by omega);exact rq h1 h2
 have n:lJ (L.take k++L.drop k):=by rw [Ds];exact h
 have f:=DK.1 n;unfold em;rw [← hk];refine DK.2 ⟨f.1,?_,?_⟩
 · refine DK.2 ⟨EL _ _,f.2.1,?_⟩;intro a ha b hb;simp only [Df] at ha;subst ha;exact tp (hR b hb)
 · intro a ha b hb;rcases Dd.1 hb with hb | hb
   · simp only [Df] at hb;subst hb;exact hL a ha
   · exact f.2.2 a ha b hb
theorem sU (L:List ac) (e:ac):(em L e).Perm (L++[e]):=by
 unfold em;generalize kT L e L.length=k;have h1:(L.take k++([e]++L.drop k)).Perm (L.take k++(L.drop k++[e])):=List.Perm.append_left _ List.perm_append_comm;have h2:L.take k++(L.drop k++[e])=L++[e]:=by rw [← Di,Ds]
 rw [h2] at h1;exact h1
theorem bK (L:List ac):lJ (bF L)∧(bF L).Perm L:=by
 have:∀(L A:List ac),lJ A→lJ (L.foldl em A)∧(L.foldl em A).Perm (A++L):=by
  intro L;induction L with
  | nil=>intro A h;exact ⟨h,by simp⟩
  | cons e r f =>
   intro A h;obtain ⟨h1,h2⟩:=f (em A e) (yn h);refine ⟨h1,?_⟩;rw [List.foldl_cons];refine h2.trans ?_;have:=(sU A e).append_right r;simpa using this
 have h:=this L [] List.Pairwise.nil;simpa [bF] using h
theorem ja {B:List ac} (hA:rU A) (hB:lJ B) (f:A.Perm B):A=B:=by
 induction A generalizing B with
 | nil=>exact (List.Perm.nil_eq f)
 | cons a A r =>
  cases B with
  | nil=>exact absurd f.length_eq (by simp)
  | cons b B =>
   have n:a=b:=by
    by_cases e:a=b
    · exact e
    · exfalso
      have hb:b ∈ a :: A:=f.mem_iff.2 (Dy ..);have ha:a ∈ b :: B:=f.mem_iff.1 (Dy ..);have m:b ∈ A:=(Da.1 hb).resolve_left (fun h=>e h.symm);have o:a ∈ B:=(Da.1 ha).resolve_left e;have h1:=(Dm.1 hA).1 b m;have h2:=(Dm.1 hB).1 a o;rw [h1] at h2;cases h2
   subst n;rw [r (Dm.1 hA).2 (Dm.1 hB).2 (List.Perm.cons_inv f)]
theorem fZ (h:aI L=true):rU L:=by
 refine Dt.2 ?_;intro i j hi f e;exact e9 h e (j' hi) (j' f)
theorem uq {e:ac} (h:L[k]?=some e):bF (L.take (k+1))=em (bF (L.take k)) e:=by
 unfold bF;rw [Dl,h];simp
theorem ju (L:List ac):(bF L).length=L.length:=by
 have:∀(L A:List ac),(L.foldl em A).length=A.length+L.length:=by
  intro L;induction L with
  | nil=>intro A;simp
  | cons e r f=>intro A;rw [List.foldl_cons,f,ll,DC];omega
 have h:=this L [];simpa [bF] using h
theorem nu (h:fN y x=false):fi x.1 y.1=true:=by
 rw [du];unfold fN bo at h;rw [Bool.or_eq_false_iff] at h;rw [Dp,Dp,h.1];rfl
theorem dY (h:lJ A) {e:ac} (n:e ∈ A):fi (bd A) e.1=true∧fi e.1 (aT A)=true:=by
 obtain ⟨j,m,rfl⟩:=Du n;obtain ⟨f,hf,hl⟩:=ls (L:=A) (by omega);obtain ⟨g,hg,hh⟩:=im (L:=A) (by omega);have hp:=Dt.1 h;obtain ⟨h0,rfl⟩:=Cx.1 hf;obtain ⟨h1,rfl⟩:=Cx.1 hg;rw [hl,hh];constructor
 · by_cases hz:j=0
   · subst hz;exact eI _
   · exact nu (hp 0 j h0 m (by omega))
 · by_cases hz:j=A.length - 1
   · subst hz;exact eI _
   · exact nu (hp j (A.length - 1) m h1 (by omega))
theorem kf (h:1≤A.length):∃e ∈ A,bd A=e.1:=by
 obtain ⟨f,hf,hl⟩:=ls (L:=A) (by omega);exact ⟨f,CV hf,hl⟩
theorem vL (h:1≤A.length):∃e ∈ A,aT A=e.1:=by
 obtain ⟨f,hf,hl⟩:=im (L:=A) (by omega);exact ⟨f,CV hf,hl⟩
theorem uy {B:List an} {m:an} (h0:m ∈ B) (o:∀r ∈ B,aI r.1=true∧1≤r.1.length) {A:List ac} (hA:A=bF (bj B).flatten):bd A=fh (bd m.1) B∧aT A=cW (aT m.1) B:=by
 have hs:=bK (bj B).flatten;rw [← hA] at hs;have f:∀e,e ∈ A ↔ ∃r ∈ B,e ∈ r.1:=fun e=>by
  rw [hs.2.mem_iff,Ew];constructor
  · rintro ⟨l,hl,n⟩;obtain ⟨r,hr,rfl⟩:=DO.1 hl;exact ⟨r,hr,n⟩
  · rintro ⟨r,hr,n⟩;exact ⟨r.1,DO.2 ⟨r,hr,rfl⟩,n⟩
 have D:∀r ∈ B,∀e ∈ r.1,fi (bd r.1) e.1=true:=fun r hr e n=>by
  rcases jy (o r hr).1 n with h | h
  · rw [h];exact eI _
  · unfold fi;rw [h];rfl
 have u:∀r ∈ B,∀e ∈ r.1,fi e.1 (aT r.1)=true:=fun r hr e n=>by
  rcases jW (o r hr).1 n with h | h
  · rw [← h];exact eI _
  · unfold fi;rw [h];rfl
 have E:1≤A.length:=by
  obtain ⟨e,n,_⟩:=kf (o m h0).2;have:e ∈ A:=(f e).2 ⟨m,h0,n⟩;exact List.length_pos_of_mem this
 constructor
 · obtain ⟨e,n,hl⟩:=kf E;obtain ⟨r,hr,C⟩:=(f e).1 n;have h1:fi (fh (bd m.1) B) (bd A)=true:=by rw [hl];exact cw ((vH B _).2 r hr) (D r hr e C)
   have h2:fi (bd A) (fh (bd m.1) B)=true:=by
    have:∃x ∈ B,fh (bd m.1) B=bd x.1:=by
     rcases tj B (bd m.1) with h | h
     · exact ⟨m,h0,h⟩
     · exact h
    obtain ⟨x,hx,F⟩:=this;obtain ⟨d,hd,H⟩:=kf (o x hx).2;rw [F,H];exact (dY hs.1 ((f d).2 ⟨x,hx,hd⟩)).1
   exact oG h2 h1
 · obtain ⟨e,n,hl⟩:=vL E;obtain ⟨r,hr,C⟩:=(f e).1 n;have h1:fi (aT A) (cW (aT m.1) B)=true:=by rw [hl];exact cw (u r hr e C) ((tA B _).2 r hr)
   have h2:fi (cW (aT m.1) B) (aT A)=true:=by
    have:∃x ∈ B,cW (aT m.1) B=aT x.1:=by
     rcases qw B (aT m.1) with h | h
     · exact ⟨m,h0,h⟩
     · exact h
    obtain ⟨x,hx,F⟩:=this;obtain ⟨d,hd,H⟩:=vL (o x hx).2;rw [F,H];exact (dY hs.1 ((f d).2 ⟨x,hx,hd⟩)).2
   exact oG h1 h2
end Go.Proofs.YtpobkmjicbobdaaGreat
