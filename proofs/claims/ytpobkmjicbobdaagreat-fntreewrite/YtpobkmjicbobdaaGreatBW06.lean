/- Walks. -/
import Derived.Test.YtpobkmjicbobdaaGreatBW05
import Derived.Sort.Grow
import Derived.Sort.Statements
import Derived.Shelf.SlSortCmp.InsertionK
namespace Go.Proofs.YtpobkmjicbobdaaGreat
set_option maxRecDepth 100000
set_option maxHeartbeats 40000000
open Go.RowKit Go.Sort
variable {A L LT:List ac} {Z:List af} {b c ct f g gt i k nt:Nat} {d q:Int} {r:af} {s t:ByteArray} {w wc wd:World} {x y:ac}
def lW (L:List ac) (e:ac):Nat→Nat
 | 0=>0
 | k+1=>match L[k]? with
  | none=>k+1
  | some x=>if bI e.1 e.2.1 x.1 x.2.1=true then lW L e k else k+1
theorem yh (L:List ac) (e:ac):∀k,lW L e k≤k
 | 0=>GL _
 | k+1=>by
  have m:=yh L e k
  unfold lW
  split
  · exact GL _
  · split <;> omega
def eI (L:List ac) (e:ac):List ac:=L.take (lW L e L.length)++([e]++L.drop (lW L e L.length))
def aS (L:List ac):List ac:=L.foldl eI []
theorem qB (L:List ac) (e:ac):(eI L e).length=L.length+1:=by
 have:=yh L e L.length;simp [eI];omega
theorem cK (w:World) (base:Nat) (h:base≤w.heap.size):ag (w.alloc (.cells #[] 50)) base w.heap.size 0 0 []:=by
 have:=Hi (base:=base) (e:=50) (size:=5) w #[] 0 (by first | exact h | simp) (by first | exact h | simp) (by first | exact h | simp);exact ⟨by simpa [aF] using this,rfl,by simp⟩
theorem eW (w:World) (s t:ByteArray) (q d n:Int) (h:d9 (s,q,d,t,n)):ah (w.alloc (.cells #[.string s,iT q,iT d,.string t,iT n] 50)) (some ⟨w.heap.size,0,none⟩) 1 1 [(s,q,d,t,n)]:=by
 refine ⟨rfl,GL _,by unfold maxLen;omega,fun l hl=>by simp only [G5] at hl;subst hl;exact h,(fun e=>by cases e),(fun x e _=>by cases e;exact ⟨by simp,rfl⟩),?_⟩;rintro x e i hi;cases e;have:i=0:=by simp at hi;omega
 subst this;exact ⟨by simp,by simp,by simp,by simp,by simp⟩
theorem ch {n:Nat} (h:ah w (pT b) n c L):∀j u,(aF L)[j]?=some u→w.cell? ((⟨b,0,none⟩:Addr).add j)=some u:=by
 intro j u m;have B:=(F'.1 m).1;rw [aX] at B;have hi:j / 5<L.length:=by omega
 obtain ⟨c0,c1,o,c3,c4⟩:=h.cells _ rfl (j / 5) hi;obtain ⟨D,C,r2,r3,r4⟩:=fP L (j / 5) L[j / 5] (j' hi);rw [G6,GT];simp only [GT] at c0 c1 o c3 c4;have:j=j / 5*5∨j=j / 5*5+1∨j=j / 5*5+2∨j=j / 5*5+3∨j=j / 5*5+4:=by omega
 rcases this with e | e | e | e | e
 · rw [← e] at D c0;rw [D] at m;cases m;exact c0
 · rw [← e] at C c1;rw [C] at m;cases m;exact c1
 · rw [← e] at r2 o;rw [r2] at m;cases m;exact o
 · rw [← e] at r3 c3;rw [r3] at m;cases m;exact c3
 · rw [← e] at r4 c4;rw [r4] at m;cases m;exact c4
theorem Br {n:Nat} (h:ah w (pT b) n c L) (hk:k≤n):ah w (pT b) k c (L.take k) where
 length:=by have:=h.length;simp;omega
 room:=by have:=h.room;omega
 big:=h.big
 ents:=fun l hl=>h.ents l (Hq hl)
 nil:=fun e=>by cases e
 lies:=fun x e hp=>h.lies x e (by omega)
 cells:=fun x e i hi=>by
  have hi':i<L.length:=by simp at hi;omega
  have:=h.cells x e i hi'
  simpa using this
theorem Bt {n:Nat} (h:ah w (pT b) n c L) (k:Nat):∀j u,(aF (L.drop k))[j]?=some u→w.cell? ((⟨b,k*5,none⟩:Addr).add j)=some u:=by
 intro j u e;have hf:aF L=aF (L.take k)++aF (L.drop k):=by rw [← bC,Hh]
 by_cases hk:k≤L.length
 · have h1:(aF L)[k*5+j]?=some u:=by
    rw [hf,GR (by rw [aX,GS];omega),aX,GS,Nat.min_eq_left hk,Iu];exact e
   have h2:=ch h _ u h1;rw [G6,GT] at h2;rw [G6];exact h2
 · rw [Iz (by omega)] at e;simp [aF] at e
theorem aO {base e size n:Nat} {v:Value} {xs:List Value} {o:Addr} {u c0 m:Nat} (h:w.ownsRow base e size v n xs) (hn:v=nZ ↔ Value.slice (some o) u c0=nZ∧m=0):∃g c,v=sL g n c :=
 qy h (fun e=>by cases (hn.1 e).1)
structure gg (w wc:World) (X gt nt ct:Nat) (s t:ByteArray) (q d n:Int) (LT:List ac):Prop where
 low:Bl w wc
 hi:w.heap.size+1≤wc.heap.size
 x0:wc.cell? ⟨X,0,none⟩=some (.string s)
 x1:wc.cell? ⟨X,1,none⟩=some (iT q)
 x2:wc.cell? ⟨X,2,none⟩=some (iT d)
 x3:wc.cell? ⟨X,3,none⟩=some (.string t)
 x4:wc.cell? ⟨X,4,none⟩=some (iT n)
 tl:ag wc (w.heap.size+1) gt nt ct LT
theorem gg.lt {X:Nat} {n:Int} (h:gg w wc X gt nt ct s t q d n LT):X<wc.heap.size:=GK _ _ h.x0
theorem gg.below {X:Nat} {n:Int} (h:gg w wc X gt nt ct s t q d n LT) (hb:Bl wc wd):gg w wd X gt nt ct s t q d n LT :=
 ⟨h.low.trans (hb.mono h.low.size),GU h.hi hb.size,cell_later hb h.x0,cell_later hb h.x1,cell_later hb h.x2,cell_later hb h.x3,cell_later hb h.x4,h.tl.below hb⟩
theorem gg.grown {X:Nat} {n:Int} (h:gg w wc X gt nt ct s t q d n LT) (hg:wc.grownBy wd (some g)) (hw:w.heap.size≤g) (m:X≠g) (n2:gt≠g):gg w wd X gt nt ct s t q d n LT :=
 ⟨h.low.grown hg h.low.size (fun k e=>by cases e;exact hw),GU h.hi hg.size,(au hg (x:=⟨X,0,none⟩) h.lt m).trans h.x0,(au hg (x:=⟨X,1,none⟩) h.lt m).trans h.x1,(au hg (x:=⟨X,2,none⟩) h.lt m).trans h.x2,(au hg (x:=⟨X,3,none⟩) h.lt m).trans h.x3,(au hg (x:=⟨X,4,none⟩) h.lt m).trans h.x4,h.tl.grown hg (fun e=>n2 (by cases e;rfl))⟩
theorem ah.grownE {w':World} {len m:Nat} (h:ah w (pT b) len m L) (hg:w.grownBy w' (some g)) (n:b≠g):ah w' (pT b) len m L :=
 h.moved hg.size (fun x e hp o=>by
  cases e
  have:=(h.lies _ rfl hp).1
  exact au hg (x:=⟨b,o,none⟩) this n)
theorem uk (b len cap:Nat) (L:List ac) (s t:ByteArray) (q d n:Int) (w:World) (hL:ah w (pT b) len cap L) (bW:b<w.heap.size) (hlen:len≤1048576) (hE:d9 (s,q,d,t,n)) :
 Calls Tryz.prog 159 #[sL b len cap,.agg #[.string s,iT q,iT d,.string t,iT n]] w fun e w'=>∃g c,e=.returned (sL g (len+1) c)∧ag w' w.heap.size g (len+1) c (eI L (s,q,d,t,n))∧Bl w w':=by
 have E:Eq (L.length=len):=hL.length;have a0:Eq (∀l ∈ L,d9 l):=hL.ents;have aP:=az hE;have ci:=hL.room;have bK:=hL.big;unfold maxLen at bK;have HL:=az hL;obtain ⟨X,hX⟩:=aG w.heap.size;obtain ⟨W,hW⟩:=aG (w.alloc (.cells #[.string s,iT q,iT d,.string t,iT n] 50));have x0:W.cell? ⟨X,0,none⟩=some (.string s):=by rw [hW,hX];simp
 have x1:W.cell? ⟨X,1,none⟩=some (iT q):=by rw [hW,hX];simp
 have x2:W.cell? ⟨X,2,none⟩=some (iT d):=by rw [hW,hX];simp
 have x3:W.cell? ⟨X,3,none⟩=some (.string t):=by rw [hW,hX];simp
 have x4:W.cell? ⟨X,4,none⟩=some (iT n):=by rw [hW,hX];simp
 have kW:Bl w W:=by rw [hW];exact bZ
 have bu:w.heap.size+1≤W.heap.size:=by rw [hW];simp
 have a4:Eq (X=w.heap.size):=hX;have aC:Eq (Bl w W):=kW;have bM:Eq (w.heap.size+1≤W.heap.size):=bu;obtain ⟨i0,hi,a5,a9,a8⟩:=info_parts Tryz.infoEnt;go_enter Tryz.func159,Tryz.ntmps159
 go_upto_block 0 with fail
 rw [← hW,← hX];clear hW hX kW hL bu hE;go_cut [5] (fun kv wz=>∃j:Nat,kv=iT j∧j≤len∧lW L (s,q,d,t,n) len=j∧Bl W wz)
 case first =>
  go_wp2_with fail
  go_loopw [5] (fun kv wr=>∃j:Nat,j≤len∧kv=iT j∧Bl W wr∧lW L (s,q,d,t,n) len=lW L (s,q,d,t,n) j) (fun kv _=>(intOf kv).toNat)
  case atStart=>exact ⟨len,GL _,rfl,Below.refl _ _,rfl⟩
  case round =>
   obtain ⟨j,hj,rfl,hb,bo⟩:=hrel;have b3:Eq (lW L (s,q,d,t,n) len=lW L (s,q,d,t,n) j):=bo;clear bo;by_cases bh:j=0
   · have bx:¬(0:Int)<(j:Int):=by omega
     have cc:decide ((0:Int)<(j:Int))=false:=decide_eq_false bx;have HJ:Eq (lW L (s,q,d,t,n) len=j):=by show lW L (s,q,d,t,n) len=j;rw [b3.o,bh];rfl
     have bA:¬0<j:=by omega
     have ca:decide (0<j)=false:=decide_eq_false bA;clear bh;go_wp2_with fail
     have y0:=cell_later hb x0;have y1:=cell_later hb x1;have y2:=cell_later hb x2;have y3:=cell_later hb x3;have y4:=cell_later hb x4;have k0:Bl wr wr.drew:=(Below.refl _ wr).drew;have N:Eq (∀w',Bl wr w'→(w'.cell? ⟨X,0,none⟩=some (.string s)∧w'.cell? ⟨X,1,none⟩=some (iT q)∧w'.cell? ⟨X,2,none⟩=some (iT d)∧w'.cell? ⟨X,3,none⟩=some (.string t)∧w'.cell? ⟨X,4,none⟩=some (iT n)∧X<w'.heap.size)):=fun w' U=>⟨cell_later U y0,cell_later U y1,cell_later U y2,cell_later U y3,cell_later U y4,GK _ _ (cell_later U y0)⟩
     refine eJ N k0 fun Y=>?_
     refine aR 0 9 Y ?_;refine aV 9 fun K hK=>?_
     go_simp;refine hK.o _ _ (N.o _ k0) fun Y=>?_
     (try go_frame);refine aR 10 1 Y ?_;refine dN ?_;have KZ:Eq (Bl W wr.drew):=hb.trans (k0.mono hb.size);clear k0 N Y y0 y1 y2 y3 y4 hb;go_wp2;go_meet
     exact ⟨j,rfl,hj,HJ.o,KZ.o⟩
   · have cl:(0:Int)<(j:Int):=by omega
     have c5:0<j:=by omega
     have ce:(0:Int)≤(j:Int) - 1:=by omega
     have cp:(j:Int) - 1<(len:Int):=by omega
     have co:(1:Int)≤(j:Int):=by omega
     have cn:(j:Int)≤(len:Int):=by omega
     have cm:((j:Int) - 1).toNat=j - 1:=by omega
     have wj:IntKind.i64.wrap ((j:Int) - 1)=(j:Int) - 1:=by rw [G4];unfold wrap64;omega
     have bN:b<W.heap.size:=E' bW aC.o.size;obtain ⟨s',q',d',t',n',bk,bw,aI,b7,b2,b4,b6⟩:=(HL.o.keep aC.o).ent hb bN (j - 1) (by omega);have HG:Eq (L[j - 1]?=some (s',q',d',t',n')):=bk;simp only [GT] at aI b7 b2 b4 b6;clear bk bw;obtain ⟨B,hB⟩:=aG (bI s q s' q');have CL:Eq (∀w,Calls Tryz.prog 144 #[.agg #[.string s,iT q,iT d,.string t,iT n],.agg #[.string s',iT q',iT d',.string t',iT n']] w fun e w'=>e=.returned (.bool B)∧Bl w w'):=by rw [hB];exact fun w=>vx s t s' t' q d n q' d' n' w
     have bq:Eq (lW L (s,q,d,t,n) j=if B=true then lW L (s,q,d,t,n) (j - 1) else j):=by
      show lW L (s,q,d,t,n) j=_
      obtain ⟨i,rfl⟩:∃i,j=i+1:=⟨j - 1,by omega⟩;rw [hB];conv=>lhs;unfold lW
      have hg:=HG.o;simp only [Is] at hg ⊢;simp only [hg]
     clear hB;go_wp2_with fail
     have y0:=cell_later hb x0;have y1:=cell_later hb x1;have y2:=cell_later hb x2;have y3:=cell_later hb x3;have y4:=cell_later hb x4;have k0:Bl wr wr.drew:=(Below.refl _ wr).drew;have N:Eq (∀w',Bl wr w'→(w'.cell? ⟨X,0,none⟩=some (.string s)∧w'.cell? ⟨X,1,none⟩=some (iT q)∧w'.cell? ⟨X,2,none⟩=some (iT d)∧w'.cell? ⟨X,3,none⟩=some (.string t)∧w'.cell? ⟨X,4,none⟩=some (iT n)∧X<w'.heap.size∧w'.cell? ⟨b,(j - 1)*5,none⟩=some (.string s')∧w'.cell? ⟨b,(j - 1)*5+1,none⟩=some (iT q')∧w'.cell? ⟨b,(j - 1)*5+2,none⟩=some (iT d')∧w'.cell? ⟨b,(j - 1)*5+3,none⟩=some (.string t')∧w'.cell? ⟨b,(j - 1)*5+4,none⟩=some (iT n')∧b<w'.heap.size)):=fun w' U=>⟨cell_later U y0,cell_later U y1,cell_later U y2,cell_later U y3,cell_later U y4,GK _ _ (cell_later U y0),cell_later U aI,cell_later U b7,cell_later U b2,cell_later U b4,cell_later U b6,GK _ _ (cell_later U aI)⟩
     refine eJ N k0 fun Y=>?_
     refine aR 0 9 Y ?_;refine aV 9 fun K hK=>?_
     go_simp;refine (CL.o _).mono ?_;rintro e w1 ⟨rfl,b1⟩;have k1:Bl wr w1:=k0.trans (b1.mono k0.size);go_wp2_with fail
     refine hK.o _ _ (N.o _ k1) fun Y=>?_
     (try go_frame);refine aR 10 1 Y ?_;refine dN ?_;cases B with
     | true =>
      go_wp2;go_roundw
      case rel=>exact ⟨j - 1,by omega,by congr 1;omega,hb.trans (k1.mono hb.size),by rw [b3.o,bq.o];rfl⟩
      case measure=>simp [intOf];omega
     | false =>
      have HJ:Eq (lW L (s,q,d,t,n) len=j):=by show lW L (s,q,d,t,n) len=j;rw [b3.o,bq.o];rfl
      have KZ:Eq (Bl W w1):=hb.trans (k1.mono hb.size);clear k0 k1 N Y y0 y1 y2 y3 y4 hb b1 aI b7 b2 b4 b6;go_wp2;go_meet
      exact ⟨j,rfl,hj,HJ.o,KZ.o⟩
 case rest =>
  obtain ⟨j,rfl,hj,hJ,kz⟩:=hcut;obtain ⟨wz,bl⟩:=aG wc;rw [← bl] at kz ⊢;have HJ:Eq (lW L (s,q,d,t,n) len=j):=hJ;clear bl hJ;have aN:Bl w wz:=aC.o.trans (kz.mono aC.o.size);have hzs:w.heap.size+1≤wz.heap.size:=GU bM.o kz.size;have z0:=cell_later kz x0;have z1:=cell_later kz x1;have z2:=cell_later kz x2;have z3:=cell_later kz x3;have z4:=cell_later kz x4;have bb:Eq (ah wz (pT b) len cap L):=HL.o.keep aN;have ar:Eq (eI L (s,q,d,t,n)=L.take j++([(s,q,d,t,n)]++L.drop j)):=by show eI L (s,q,d,t,n)=_;unfold eI;rw [E.o,HJ.o]
  have aT:Eq (∀l ∈ L.take j++[(s,q,d,t,n)],d9 l):=fun l hl=>by rcases GX.1 hl with h1 | h1;exact a0.o l (Hq h1);simp only [G5] at h1;subst h1;exact aP.o
  have bc:Eq (∀l ∈ eI L (s,q,d,t,n),d9 l):=fun l hl=>by rw [ar.o,← Hd] at hl;rcases GX.1 hl with h1 | h1;exact aT.o l h1;exact a0.o l (H8 h1)
  have kt:Bl wz (wz.alloc (.cells #[] 50)):=bZ;have aZ:Eq (ag (wz.alloc (.cells #[] 50)) (w.heap.size+1) wz.heap.size 0 0 []):=cK wz _ hzs;have bj:Eq (ah (wz.alloc (.cells #[] 50)) (pT b) len cap L):=bb.o.keep kt;have aD:Eq (gg w (wz.alloc (.cells #[] 50)) X wz.heap.size 0 0 s t q d n []):=⟨aN.trans (kt.mono aN.size),GU hzs kt.size,cell_later kt z0,cell_later kt z1,cell_later kt z2,cell_later kt z3,cell_later kt z4,aZ.o⟩;clear kz z0 z1 z2 z3 z4 kt aN bb;go_upto_region 4 with fail
  go_cut [6] (fun tv wt=>∃gt ct,tv=sL gt (len - j) ct∧gg w wt X gt (len - j) ct s t q d n (L.drop j))
  case first =>
   by_cases bQ:cap=j
   · subst bQ;have bg:Eq (len - cap=0):=by show len - cap=0;omega
     have bL:Eq (L.drop cap=[]):=Iz (by rw [E.o];omega);go_wp2;go_meet
     exact ⟨wz.heap.size,0,by rw [bg.o],by rw [bg.o,bL.o];exact aD.o⟩
   · have c2:¬(cap:Int)=(j:Int):=by omega
     have bT:Eq ((aF (L.drop j)).length=(len - j)*5):=by show _=_;rw [aX,G7,E.o]
     go_wp2_with (at_builtin;refine wpList_append_own _ rfl _ _ 28 rfl (w.heap.size+1) 50 i0 _ 5 56 Tryz.underlying28 hi a5 a9 a8 rfl (by decide) _ _ _ rfl aZ.o.owns ⟨b,j*5,none⟩ (len - j) (cap - j) (aF (L.drop j)) rfl bT.o (Bt bj.o j) (bf _) (by unfold maxLen;omega) (by omega) aD.o.hi ?_;intro vt wt ab D an;obtain ⟨gt,ct,rfl⟩:=qy ab (fun e=>by cases (an.1 e).1))
     have a6:=aD.o;have ak:some X≠(sL (wz.heap.size) 0 0).ownBlock:=by have h1:=a4.o;simp [Value.ownBlock];omega
     have ST:Eq (gg w wt X gt (len - j) ct s t q d n (L.drop j)):=⟨a6.low.grown D a6.low.size (fun k e=>by have h1:wz.heap.size=k:=GN e;omega),GU a6.hi D.size,D.cell a6.x0 ak,D.cell a6.x1 ak,D.cell a6.x2 ak,D.cell a6.x3 ak,D.cell a6.x4 ak,⟨by first | exact ab | (have h0:=ab;rw [GT] at h0;exact h0),by rw [G7,E.o],fun l hl=>a0.o l (H8 hl)⟩⟩;clear ab D an a6 ak;try simp only [GT]
     go_meet
     exact ⟨gt,ct,rfl,ST.o⟩
  case rest =>
   obtain ⟨gt,ct,rfl,aY⟩:=hcut;obtain ⟨wt,bz⟩:=aG wc;rw [← bz] at aY ⊢;have ST:Eq (gg w wt X gt (len - j) ct s t q d n (L.drop j)):=aY;have br:j+1+(len - j)=len+1:=by omega
   clear bz aY aZ bj aD hzs;have k0:gg w wt.drew X gt (len - j) ct s t q d n (L.drop j):=ST.o.below (Below.refl _ wt).drew;have N:Eq (∀w',gg w w' X gt (len - j) ct s t q d n (L.drop j)→(w'.cell? ⟨X,0,none⟩=some (.string s)∧w'.cell? ⟨X,1,none⟩=some (iT q)∧w'.cell? ⟨X,2,none⟩=some (iT d)∧w'.cell? ⟨X,3,none⟩=some (.string t)∧w'.cell? ⟨X,4,none⟩=some (iT n)∧X<w'.heap.size)):=fun w' U=>⟨U.x0,U.x1,U.x2,U.x3,U.x4,U.lt⟩
   have b5:Eq (∀w',Bl w w'→ah w' (pT b) j cap (L.take j)):=fun w' U=>Br (HL.o.keep U) (by omega)
   have cj:=ST.o.tl.lt;have cg:j≤cap:=by omega
   have c8:(j:Int)≤(cap:Int):=by omega
   go_wp2_with fail
   refine eJ N k0 fun Y=>?_
   generalize wt.drew=wd at k0 Y ⊢;refine aR 1 3 Y ?_;refine aR 5 1 Y ?_;refine aR 8 1 Y ?_;refine mK 0 6 (fun K hK=>?_) fun K hK=>?_
   · go_simp;have kA:Bl wd (wd.alloc (.cells #[] 50)):=bZ;have sA:=k0.below kA;have rA:ag (wd.alloc (.cells #[] 50)) wd.heap.size wd.heap.size 0 0 []:=cK wd _ (GL _);have ax:w.heap.size+1≤wd.heap.size:=k0.hi;have ay:gt<wd.heap.size:=k0.tl.lt.2;generalize bU:wd.heap.size=ga at rA ax ay ⊢;generalize wd.alloc (.cells #[] 50)=wa at sA rA kA ⊢;refine hK.o _ _ (N.o _ sA) fun Y=>?_
     (try go_frame);refine mK 4 6 (fun K hK=>?_) fun K hK=>?_
     focus
      refine aE rfl (.tmp 27) (.tmp 30) 28 rfl ga 50 i0 _ 5 56 Tryz.underlying28 hi a5 a9 a8 rfl (Hx 4) _ _ _ rfl rA.owns ⟨b,0,none⟩ j cap (aF (L.take j)) rfl ?_ (ch (b5.o _ sA.low)) (bf _) ?_ ?_ ?_ ?_
      · rw [aX,GS,E.o];congr 1;omega
      · unfold maxLen;omega
      · omega
      · have:=rA.lt;omega
      intro v4 w4 u T a2
      obtain ⟨g4,c4,rfl⟩:=aO u a2
      have C:wa.grownBy w4 (some ga):=T
      have s4:=sA.grown C (by omega) (by have:=a4.o;omega) (by omega)
      have r4:ag w4 ga g4 j c4 (L.take j):=⟨by first | exact u | (have h0:=u;rw [GT] at h0;exact h0),by simp [E.o];omega,fun l hl=>a0.o l (Hq hl)⟩
      simp only [GT]
      refine hK.o _ _ (N.o _ s4) fun Y=>?_
      (try go_frame)
      refine aV 6 fun K hK=>?_
      go_simp;have kN:Bl w4 (w4.alloc (.cells #[.string s,iT q,iT d,.string t,iT n] 50)):=bZ;have sN:=s4.below kN;have rN:ah (w4.alloc (.cells #[.string s,iT q,iT d,.string t,iT n] 50)) (some ⟨w4.heap.size,0,none⟩) 1 1 [(s,q,d,t,n)]:=eW w4 _ _ _ _ _ aP.o;have ad:w.heap.size+1≤w4.heap.size:=s4.hi;have rR:=r4.below kN;have af:g4≠w4.heap.size:=by have:=r4.lt.2;omega
      generalize bs:w4.heap.size=gn at rN ad af ⊢
      generalize w4.alloc (.cells #[.string s,iT q,iT d,.string t,iT n] 50)=wn at sN rN rR kN ⊢
      refine hK.o _ _ (N.o _ sN) fun Y=>?_
      (try go_frame)
      refine aV 7 fun K hK=>?_
      refine aE rfl (.tmp 31) (.tmp 33) 28 rfl ga 50 i0 _ 5 56 Tryz.underlying28 hi a5 a9 a8 rfl (Hx 4) _ _ _ rfl rR.owns ⟨gn,0,none⟩ 1 1 (aF [(s,q,d,t,n)]) rfl rfl (ch rN) (bf _) ?_ ?_ ?_ ?_
      · unfold maxLen;omega
      · omega
      · have:=rR.lt;omega
      intro v7 w7 J F R
      obtain ⟨g7,c7,rfl⟩:=aO J R
      have Q:wn.grownBy w7 (some g4):=F
      have O:=sN.grown Q (by have:=rR.lt.1;omega) (by have:=rR.lt.1;have:=a4.o;omega) (by have:=rR.lt.1;omega)
     rotate_left
     focus
      go_simp;have kN:Bl wa (wa.alloc (.cells #[.string s,iT q,iT d,.string t,iT n] 50)):=bZ;have sN:=sA.below kN;have rN:ah (wa.alloc (.cells #[.string s,iT q,iT d,.string t,iT n] 50)) (some ⟨wa.heap.size,0,none⟩) 1 1 [(s,q,d,t,n)]:=eW wa _ _ _ _ _ aP.o;have ad:w.heap.size+1≤wa.heap.size:=sA.hi;have b8:=rA.below kN;have af:ga≠wa.heap.size:=by have:=rA.lt.2;omega
      generalize bs:wa.heap.size=gn at rN ad af ⊢
      generalize wa.alloc (.cells #[.string s,iT q,iT d,.string t,iT n] 50)=wn at sN rN b8 kN ⊢
      refine hK.o _ _ (N.o _ sN) fun Y=>?_
      (try go_frame)
      refine aV 4 fun K hK=>?_
      refine aE rfl (.tmp 27) (.tmp 30) 28 rfl ga 50 i0 _ 5 56 Tryz.underlying28 hi a5 a9 a8 rfl (Hx 4) _ _ _ rfl b8.owns ⟨b,0,none⟩ j cap (aF (L.take j)) rfl ?_ (ch (b5.o _ sN.low)) (bf _) ?_ ?_ ?_ ?_
      · rw [aX,GS,E.o];congr 1;omega
      · unfold maxLen;omega
      · omega
      · have:=b8.lt;omega
      intro v4 w4 u T a2
      obtain ⟨g4,c4,rfl⟩:=aO u a2
      have C:wn.grownBy w4 (some ga):=T
      have s4:=sN.grown C (by omega) (by have:=a4.o;omega) (by omega)
      have r4:ag w4 ga g4 j c4 (L.take j):=⟨by first | exact u | (have h0:=u;rw [GT] at h0;exact h0),by simp [E.o];omega,fun l hl=>a0.o l (Hq hl)⟩
      simp only [GT]
      have aW:=rN.grownE C (fun e=>af e.symm)
      refine hK.o _ _ (N.o _ s4) fun Y=>?_
      (try go_frame)
      refine aV 7 fun K hK=>?_
      refine aE rfl (.tmp 31) (.tmp 33) 28 rfl ga 50 i0 _ 5 56 Tryz.underlying28 hi a5 a9 a8 rfl (Hx 4) _ _ _ rfl r4.owns ⟨gn,0,none⟩ 1 1 (aF [(s,q,d,t,n)]) rfl rfl (ch aW) (bf _) ?_ ?_ ?_ ?_
      · unfold maxLen;omega
      · omega
      · have:=r4.lt;omega
      intro v7 w7 J F R
      obtain ⟨g7,c7,rfl⟩:=aO J R
      have Q:w4.grownBy w7 (some g4):=F
      have O:=s4.grown Q (by have:=r4.lt.1;omega) (by have:=r4.lt.1;have:=a4.o;omega) (by have:=r4.lt.1;omega)
     all_goals
      have r7:ag w7 ga g7 (j+1) c7 (L.take j++[(s,q,d,t,n)]):=⟨by rw [bC];exact J,by simp [E.o];omega,aT.o⟩
      refine hK.o _ _ (N.o _ O) fun Y=>?_
      (try go_frame)
      refine aV 9 fun K hK=>?_
      refine aE rfl (.tmp 34) (.tmp 35) 28 rfl ga 50 i0 _ 5 56 Tryz.underlying28 hi a5 a9 a8 rfl (Hx 4) _ _ _ rfl r7.owns ⟨gt,0,none⟩ (len - j) ct (aF (L.drop j)) rfl ?_ (ch O.tl.entsAt) (bf _) ?_ ?_ ?_ ?_
      · rw [aX,O.tl.len]
      · unfold maxLen;omega
      · omega
      · have:=r7.lt;omega
      intro v9 w9 I H a1
      obtain ⟨g9,c9,rfl⟩:=aO I a1
      have m:w7.grownBy w9 (some g7):=H
      have ap:Bl w w9:=O.low.grown m O.low.size (fun k e=>by cases e;have:=r7.lt.1;omega)
      have z9:X<w9.heap.size:=E' O.lt H.size
      refine hK.o _ _ ?_ (fun Y=>?_)
      · have n9:X≠g7:=by have:=r7.lt.1;have:=a4.o;omega
        exact ⟨(au m (x:=⟨X,0,none⟩) O.lt n9).trans O.x0,(au m (x:=⟨X,1,none⟩) O.lt n9).trans O.x1,(au m (x:=⟨X,2,none⟩) O.lt n9).trans O.x2,(au m (x:=⟨X,3,none⟩) O.lt n9).trans O.x3,(au m (x:=⟨X,4,none⟩) O.lt n9).trans O.x4,z9⟩
      clear hK K;(try go_frame);refine aR 10 1 Y ?_;refine dN ?_;rw [br] at I ⊢;have aU:Eq (ag w9 w.heap.size g9 (len+1) c9 (eI L (s,q,d,t,n))):=by
       refine ag.mono (base:=ga) ⟨?_,by rw [qB,E.o],bc.o⟩ (by omega);rw [ar.o,← Hd,bC];exact I
      have b0:Eq (Bl w w9):=ap
      clear I H a1 J F R r7 O ap
      go_wp2
      go_ret
      exact ⟨g9,c9,rfl,aU.o,b0.o⟩
   · go_simp;have kN:Bl wd (wd.alloc (.cells #[.string s,iT q,iT d,.string t,iT n] 50)):=bZ;have sN:=k0.below kN;have rN:ah (wd.alloc (.cells #[.string s,iT q,iT d,.string t,iT n] 50)) (some ⟨wd.heap.size,0,none⟩) 1 1 [(s,q,d,t,n)]:=eW wd _ _ _ _ _ aP.o;have ad:w.heap.size+1≤wd.heap.size:=k0.hi;generalize bs:wd.heap.size=gn at rN ad ⊢;generalize wd.alloc (.cells #[.string s,iT q,iT d,.string t,iT n] 50)=wn at sN rN kN ⊢;refine hK.o _ _ (N.o _ sN) fun Y=>?_
     (try go_frame);refine aV 0 fun K hK=>?_
     go_simp;have kA:Bl wn (wn.alloc (.cells #[] 50)):=bZ;have bp:=rN.keep kA;have af:wn.heap.size≠gn:=by have:=(rN.lies _ rfl (by omega)).1;simp only at this;omega
     have sA:=sN.below kA;have rA:ag (wn.alloc (.cells #[] 50)) wn.heap.size wn.heap.size 0 0 []:=cK wn _ (GL _);have ax:w.heap.size+1≤wn.heap.size:=sN.hi;have ay:gt<wn.heap.size:=sN.tl.lt.2;generalize bU:wn.heap.size=ga at rA ax ay af ⊢;generalize wn.alloc (.cells #[] 50)=wa at sA rA kA bp ⊢;refine hK.o _ _ (N.o _ sA) fun Y=>?_
     (try go_frame);refine aV 4 fun K hK=>?_
     refine aE rfl (.tmp 27) (.tmp 30) 28 rfl ga 50 i0 _ 5 56 Tryz.underlying28 hi a5 a9 a8 rfl (Hx 4) _ _ _ rfl rA.owns ⟨b,0,none⟩ j cap (aF (L.take j)) rfl ?_ (ch (b5.o _ sA.low)) (bf _) ?_ ?_ ?_ ?_
     · rw [aX,GS,E.o];congr 1;omega
     · unfold maxLen;omega
     · omega
     · have:=rA.lt;omega
     intro v4 w4 u T a2;obtain ⟨g4,c4,rfl⟩:=aO u a2;have C:wa.grownBy w4 (some ga):=T;have s4:=sA.grown C (by omega) (by have:=a4.o;omega) (by omega);have r4:ag w4 ga g4 j c4 (L.take j):=⟨by first | exact u | (have h0:=u;rw [GT] at h0;exact h0),by simp [E.o];omega,fun l hl=>a0.o l (Hq hl)⟩;simp only [GT];have aW:=bp.grownE C (fun e=>af e.symm);refine hK.o _ _ (N.o _ s4) fun Y=>?_
     (try go_frame);refine aV 7 fun K hK=>?_
     refine aE rfl (.tmp 31) (.tmp 33) 28 rfl ga 50 i0 _ 5 56 Tryz.underlying28 hi a5 a9 a8 rfl (Hx 4) _ _ _ rfl r4.owns ⟨gn,0,none⟩ 1 1 (aF [(s,q,d,t,n)]) rfl rfl (ch aW) (bf _) ?_ ?_ ?_ ?_
     · unfold maxLen;omega
     · omega
     · have:=r4.lt;omega
     intro v7 w7 J F R;obtain ⟨g7,c7,rfl⟩:=aO J R;have Q:w4.grownBy w7 (some g4):=F;have O:=s4.grown Q (by have:=r4.lt.1;omega) (by have:=r4.lt.1;have:=a4.o;omega) (by have:=r4.lt.1;omega);have r7:ag w7 ga g7 (j+1) c7 (L.take j++[(s,q,d,t,n)]):=⟨by rw [bC];exact J,by simp [E.o];omega,aT.o⟩;refine hK.o _ _ (N.o _ O) fun Y=>?_
     (try go_frame);refine aV 9 fun K hK=>?_
     refine aE rfl (.tmp 34) (.tmp 35) 28 rfl ga 50 i0 _ 5 56 Tryz.underlying28 hi a5 a9 a8 rfl (Hx 4) _ _ _ rfl r7.owns ⟨gt,0,none⟩ (len - j) ct (aF (L.drop j)) rfl ?_ (ch O.tl.entsAt) (bf _) ?_ ?_ ?_ ?_
     · rw [aX,O.tl.len]
     · unfold maxLen;omega
     · omega
     · have:=r7.lt;omega
     intro v9 w9 I H a1;obtain ⟨g9,c9,rfl⟩:=aO I a1;have m:w7.grownBy w9 (some g7):=H;have ap:Bl w w9:=O.low.grown m O.low.size (fun k e=>by cases e;have:=r7.lt.1;omega);have z9:X<w9.heap.size:=E' O.lt H.size;refine hK.o _ _ ?_ (fun Y=>?_)
     · have n9:X≠g7:=by have:=r7.lt.1;have:=a4.o;omega
       exact ⟨(au m (x:=⟨X,0,none⟩) O.lt n9).trans O.x0,(au m (x:=⟨X,1,none⟩) O.lt n9).trans O.x1,(au m (x:=⟨X,2,none⟩) O.lt n9).trans O.x2,(au m (x:=⟨X,3,none⟩) O.lt n9).trans O.x3,(au m (x:=⟨X,4,none⟩) O.lt n9).trans O.x4,z9⟩
     clear hK K;(try go_frame);refine aR 10 1 Y ?_;refine dN ?_;rw [br] at I ⊢;have aU:Eq (ag w9 w.heap.size g9 (len+1) c9 (eI L (s,q,d,t,n))):=by
      refine ag.mono (base:=ga) ⟨?_,by rw [qB,E.o],bc.o⟩ (by omega);rw [ar.o,← Hd,bC];exact I
     have b0:Eq (Bl w w9):=ap;clear I H a1 J F R r7 O ap;go_wp2;go_ret;exact ⟨g9,c9,rfl,aU.o,b0.o⟩
theorem sc (w:World) (o:Obj):w.alloc o=grow w #[o]:=by
 unfold World.alloc grow;simp
theorem ip (x y:ac):ltOf (fun x y:ac=>kK x.1 x.2.1 y.1 y.2.1) x y=bI x.1 x.2.1 y.1 y.2.1:=iu _ _ _ _
theorem tz {e m:ByteArray} {n qb:Int} (h1:bI e n m qb=false) (h2:bI m qb e n=false):e=m∧n=qb:=by
 have h:=tA e m n qb;rw [h1,h2] at h;simp at h;exact h
theorem Do:SWO (ltOf (fun x y:ac=>kK x.1 x.2.1 y.1 y.2.1)) where
 irrefl x:=by rw [ip];exact iy _ _
 trans x y z h1 h2:=by rw [ip] at *;exact fJ h1 h2
 ntrans x y z h1 h2:=by
  rw [ip] at *;cases h3:bI x.1 x.2.1 z.1 z.2.1 with
  | false=>rfl
  | true =>
   cases h4:bI y.1 y.2.1 x.1 x.2.1 with
   | true=>rw [fJ h4 h3] at h2;cases h2
   | false =>
    obtain ⟨e1,e2⟩:=tz h1 h4;rw [e1,e2,h2] at h3;cases h3
def aU (x y:ac):Bool:=bI x.1 x.2.1 y.1 y.2.1
theorem jD {z:ac} (h1:aU x y=false) (h2:aU y z=false):aU x z=false:=by
 have:=Do.ntrans x y z;rw [ip,ip,ip] at this;exact this h1 h2
def nR (L:List ac):Prop:=L.Pairwise (fun a b=>aU b a=false)
def uZ (L:List ac):Prop:=L.Pairwise (fun a b=>aU a b=true)
theorem oz (L:List ac) (e:ac):∀n p x,lW L e n≤p→p<n→L[p]?=some x→aU e x=true
 | 0,p,x,_,h2,_=>absurd h2 (H7 _)
 | n+1,p,x,h1,h2,h3=>by
  unfold lW at h1
  cases hn:L[n]? with
  | none=>rw [hn] at h1;simp at h1;omega
  | some y =>
   rw [hn] at h1
   simp only at h1
   by_cases hl:bI e.1 e.2.1 y.1 y.2.1=true
   · rw [if_pos hl] at h1
     by_cases hp:p=n
     · subst hp
       rw [hn] at h3
       cases h3
       exact hl
     · exact oz L e n p x h1 (by omega) h3
   · rw [if_neg hl] at h1
     omega
theorem vR (L:List ac) (e:ac):∀n x,0<lW L e n→L[lW L e n - 1]?=some x→n≤L.length→aU e x=false
 | 0,x,h1,_,_=>absurd h1 (Jq _)
 | n+1,x,h1,h2,h3=>by
  have hn:L[n]?=some (L[n]'(by omega)):=j' (by omega)
  by_cases hl:bI e.1 e.2.1 (L[n]'(by omega)).1 (L[n]'(by omega)).2.1=true
  · have e1:lW L e (n+1)=lW L e n:=by
     conv=>lhs;unfold lW
     simp only [hn,hl,if_true]
    rw [e1] at h1 h2;exact vR L e n x h1 h2 (by omega)
  · have e1:lW L e (n+1)=n+1:=by
     conv=>lhs;unfold lW
     simp only [hn,hl];simp
    rw [e1] at h2;simp only [Is] at h2;rw [hn] at h2;cases h2;simpa [aU] using hl
theorem B4 {e:ac} (h:nR L):nR (eI L e):=by
 have C:=yh L e L.length;obtain ⟨k,hk⟩:=aG (lW L e L.length);have hR:∀y ∈ L.drop k,aU e y=true:=by
  intro y hy;obtain ⟨p,hp,rfl⟩:=Hm hy;simp at hp;refine oz L e L.length (k+p) _ (by omega) (by omega) ?_;rw [j' (by omega)];simp
 have hL:∀x ∈ L.take k,aU e x=false:=by
  intro x hx;obtain ⟨p,hp,rfl⟩:=Hm hx;simp at hp;have B:0<k:=by omega
  have n:k - 1<L.length:=by omega
  have h1:aU e (L[k - 1]'n)=false:=vR L e L.length _ (by omega) (by rw [← hk];exact j' n) (GL _);simp only [If];by_cases o:p=k - 1
  · subst o;exact h1
  · have h2:=(Hl.1 h) p (k - 1) (by omega) n (by omega);exact jD h1 h2
 have u:nR (L.take k++L.drop k):=by rw [Hh];exact h
 have m:=Ih.1 u;unfold eI;rw [← hk];refine Ih.2 ⟨m.1,?_,?_⟩
 · refine Ih.2 ⟨Jb _ _,m.2.1,?_⟩;intro a ha b hb;simp only [G5] at ha;subst ha;exact wF (hR b hb)
 · intro a ha b hb;rcases GX.1 hb with hb | hb
   · simp only [G5] at hb;subst hb;exact hL a ha
   · exact m.2.2 a ha b hb
theorem vM (L:List ac) (e:ac):(eI L e).Perm (L++[e]):=by
 unfold eI;generalize lW L e L.length=k;have h1:(L.take k++([e]++L.drop k)).Perm (L.take k++(L.drop k++[e])):=List.Perm.append_left _ List.perm_append_comm;have h2:L.take k++(L.drop k++[e])=L++[e]:=by rw [← Hd,Hh]
 rw [h2] at h1;exact h1
theorem bu (L:List ac):nR (aS L)∧(aS L).Perm L:=by
 have:∀(L A:List ac),nR A→nR (L.foldl eI A)∧(L.foldl eI A).Perm (A++L):=by
  intro L;induction L with
  | nil=>intro A h;exact ⟨h,by simp⟩
  | cons e r m =>
   intro A h;obtain ⟨h1,h2⟩:=m (eI A e) (B4 h);refine ⟨h1,?_⟩;rw [List.foldl_cons];refine h2.trans ?_;have:=(vM A e).append_right r;simpa using this
 have h:=this L [] List.Pairwise.nil;simpa [aS] using h
theorem iK {B:List ac} (hA:uZ A) (hB:nR B) (m:A.Perm B):A=B:=by
 induction A generalizing B with
 | nil=>exact (List.Perm.nil_eq m)
 | cons a A C =>
  cases B with
  | nil=>exact absurd m.length_eq (by simp)
  | cons b B =>
   have n:a=b:=by
    by_cases e:a=b
    · exact e
    · exfalso
      have hb:=m.mem_iff.2 (Ha ..);have ha:=m.mem_iff.1 (Ha ..);have u:b ∈ A:=(GZ.1 hb).resolve_left (fun h=>e h.symm);have o:=(GZ.1 ha).resolve_left e;have h1:=(Hb.1 hA).1 b u;have h2:=(Hb.1 hB).1 a o;rw [h1] at h2;cases h2
   subst n;rw [C (Hb.1 hA).2 (Hb.1 hB).2 (List.Perm.cons_inv m)]
theorem fW (h:aI L=true):uZ L:=by
 refine Hl.2 ?_;intro i j hi m e;exact fF h e (j' hi) (j' m)
theorem xU {e:ac} (h:L[k]?=some e):aS (L.take (k+1))=eI (aS (L.take k)) e:=by
 unfold aS;rw [Hc,h];simp
theorem i8 (L:List ac):(aS L).length=L.length:=by
 have:∀(L A:List ac),(L.foldl eI A).length=A.length+L.length:=by
  intro L;induction L with
  | nil=>intro A;simp
  | cons e r m=>intro A;rw [List.foldl_cons,m,qB,Hn];omega
 have h:=this L [];simpa [aS] using h
theorem pY (h:aU y x=false):fT x.1 y.1=true:=by
 rw [dQ];unfold aU bI at h;rw [Bool.or_eq_false_iff] at h;rw [Hk,Hk,h.1];rfl
theorem eK (h:nR A) {e:ac} (n:e ∈ A):fT (bj A) e.1=true∧fT e.1 (aT A)=true:=by
 obtain ⟨j,m,rfl⟩:=Hm n;obtain ⟨f,hf,hl⟩:=m9 (L:=A) (by omega);obtain ⟨g,hg,hh⟩:=ji (L:=A) (by omega);have hp:=Hl.1 h;obtain ⟨h0,rfl⟩:=F'.1 hf;obtain ⟨h1,rfl⟩:=F'.1 hg;rw [hl,hh];constructor
 · by_cases hz:j=0
   · subst hz;exact fd _
   · exact pY (hp 0 j h0 m (by omega))
 · by_cases hz:j=A.length - 1
   · subst hz;exact fd _
   · exact pY (hp j (A.length - 1) m h1 (by omega))
theorem mu (h:1≤A.length):∃e ∈ A,bj A=e.1:=by
 obtain ⟨f,hf,hl⟩:=m9 (L:=A) (by omega);exact ⟨f,GP hf,hl⟩
theorem zJ (h:1≤A.length):∃e ∈ A,aT A=e.1:=by
 obtain ⟨f,hf,hl⟩:=ji (L:=A) (by omega);exact ⟨f,GP hf,hl⟩
theorem ye {B:List af} {n:af} (h0:n ∈ B) (u:∀r ∈ B,aI r.1=true∧1≤r.1.length) {A:List ac} (hA:A=aS (bG B).flatten):bj A=fS (bj n.1) B∧aT A=dG (aT n.1) B:=by
 have hs:=bu (bG B).flatten;rw [← hA] at hs;have m:∀e,e ∈ A ↔ ∃r ∈ B,e ∈ r.1:=fun e=>by
  rw [hs.2.mem_iff,IS];constructor
  · rintro ⟨l,hl,o⟩;obtain ⟨r,hr,rfl⟩:=Ib.1 hl;exact ⟨r,hr,o⟩
  · rintro ⟨r,hr,o⟩;exact ⟨r.1,Ib.2 ⟨r,hr,rfl⟩,o⟩
 have E:∀r ∈ B,∀e ∈ r.1,fT (bj r.1) e.1=true:=fun r hr e o=>by
  rcases ls (u r hr).1 o with h | h
  · rw [h];exact fd _
  · unfold fT;rw [h];rfl
 have D:∀r ∈ B,∀e ∈ r.1,fT e.1 (aT r.1)=true:=fun r hr e o=>by
  rcases mo (u r hr).1 o with h | h
  · rw [← h];exact fd _
  · unfold fT;rw [h];rfl
 have F:1≤A.length:=by
  obtain ⟨e,o,_⟩:=mu (u n h0).2;have:e ∈ A:=(m e).2 ⟨n,h0,o⟩;exact List.length_pos_of_mem this
 constructor
 · obtain ⟨e,o,hl⟩:=mu F;obtain ⟨r,hr,C⟩:=(m e).1 o;have h1:fT (fS (bj n.1) B) (bj A)=true:=by rw [hl];exact cW ((zF B _).2 r hr) (E r hr e C)
   have h2:fT (bj A) (fS (bj n.1) B)=true:=by
    have:∃x ∈ B,fS (bj n.1) B=bj x.1:=by
     rcases wg B (bj n.1) with h | h
     · exact ⟨n,h0,h⟩
     · exact h
    obtain ⟨x,hx,e2⟩:=this;obtain ⟨d,hd,e3⟩:=mu (u x hx).2;rw [e2,e3];exact (eK hs.1 ((m d).2 ⟨x,hx,hd⟩)).1
   exact qR h2 h1
 · obtain ⟨e,o,hl⟩:=zJ F;obtain ⟨r,hr,C⟩:=(m e).1 o;have h1:fT (aT A) (dG (aT n.1) B)=true:=by rw [hl];exact cW (D r hr e C) ((wM B _).2 r hr)
   have h2:fT (dG (aT n.1) B) (aT A)=true:=by
    have:∃x ∈ B,dG (aT n.1) B=aT x.1:=by
     rcases tL B (aT n.1) with h | h
     · exact ⟨n,h0,h⟩
     · exact h
    obtain ⟨x,hx,e2⟩:=this;obtain ⟨d,hd,e3⟩:=zJ (u x hx).2;rw [e2,e3];exact (eK hs.1 ((m d).2 ⟨x,hx,hd⟩)).2
   exact qR h1 h2
def sD (O:List af) (r:af):Nat→Nat
 | 0=>0
 | k+1=>match O[k]? with
  | some x=>if oQ (bj x.1) (bj r.1) then sD O r k else k+1
  | none=>k+1
def oK (O:List af) (r:af):List af:=O.take (sD O r O.length)++([r]++O.drop (sD O r O.length))
def dO (A B:List af):List af:=B.foldl oK A
theorem vQ {X Z:List af} {r:af} (e:∀z ∈ Z,oQ (bj z.1) (bj r.1)=true):∀d,d≤Z.length→sD (X++Z) r (X.length+d)=sD (X++Z) r X.length
 | 0,_=>rfl
 | d+1,h=>by
  have hz:(X++Z)[X.length+d]?=some Z[d]:=by
   rw [GR (by omega),show X.length+d - X.length=d by omega];exact j' (by omega)
  rw [← IV,sD,hz];simp only [e _ (Hj _),if_true];exact vQ e d (by omega)
theorem Du {X:List af} (m:∀z ∈ Z,oQ (bj z.1) (bj r.1)=true) (e:∀x,X.getLast?=some x→oQ (bj x.1) (bj r.1)=false):oK (X++Z) r=(X++[r])++Z:=by
 have h1:sD (X++Z) r (X++Z).length=X.length:=by
  rw [GO,vQ m _ (GL _)];cases hn:X.length with
  | zero=>rfl
  | succ k =>
   obtain ⟨y,hk⟩:∃y,X[k]?=some y:=⟨_,j' (by omega)⟩;have hl:X.getLast?=some y:=by rw [List.getLast?_eq_getElem?,hn];exact hk
   rw [sD,GW (by omega),hk];simp only [e _ hl,I',if_false]
 unfold oK;rw [h1];simp
theorem qF:∀(B X Z:List af),(∀r ∈ B,∀z ∈ Z,oQ (bj z.1) (bj r.1)=true)→(∀x,X.getLast?=some x→∀r ∈ B,oQ (bj x.1) (bj r.1)=false)→B.Pairwise (fun a b=>oQ (bj a.1) (bj b.1)=false)→dO (X++Z) B=X++B++Z
 | [],X,Z,_,_,_=>by simp [dO]
 | r :: B,X,Z,m,n,hB=>by
  obtain ⟨h1,h2⟩:=Hb.1 hB
  have e:dO (X++Z) (r :: B)=dO (oK (X++Z) r) B:=rfl
  rw [e,Du (m r (by simp)) (fun x hx=>n x hx r (by simp)),qF B (X++[r]) Z (fun s hs=>m s (He _ hs)) (fun x hx s hs=>?_) h2]
  · simp
  · rw [List.getLast?_append] at hx
    simp at hx
    subst hx
    exact h1 s hs
def jg (L:List ac) (i:Nat):ByteArray:=match L[i]? with | some e=>e.1 | none=>⟨#[]⟩
theorem lI {e:ac} (h:L[i]?=some e):jg L i=e.1:=by
 unfold jg;rw [h]
def ie (L:List ac) (f i:Nat):Bool:=decide (i=L.length) || (decide (20≤i - f) && !decide (jg L i=jg L (i - 1)))
theorem zD (L:List ac):(Lit.int .i64 ((dL L:Nat):Int)).wf=true:=Hu (by have:=qM L;omega)
def eU (L:List ac) (f i:Nat):af:=((L.drop f).take (i - f),((dL ((L.drop f).take (i - f)):Nat):Int))
def fs (L:List ac):Nat→List af × Nat
 | 0=>([],0)
 | k+1=>if ie L (fs L k).2 (k+1) then ((fs L k).1++[eU L (fs L k).2 (k+1)],k+1) else fs L k
theorem rV {B:List af} (h:fs L k=(B,f)) (hc:ie L f (k+1)=true):fs L (k+1)=(B++[eU L f (k+1)],k+1):=by
 rw [fs,h];simp [hc]
theorem uV {B:List af} (h:fs L k=(B,f)) (hc:ie L f (k+1)=false):fs L (k+1)=(B,f):=by
 rw [fs,h];simp [hc]
theorem tX {B:List af} (hi:1≤i) (h:fs L (i - 1)=(B,f)) (hc:ie L f i=true):fs L i=(B++[eU L f i],i):=by
 obtain ⟨k,rfl⟩:∃k,i=k+1:=⟨i - 1,by omega⟩;exact rV h hc
theorem wS {B:List af} (hi:1≤i) (h:fs L (i - 1)=(B,f)) (hc:ie L f i=false):fs L i=(B,f):=by
 obtain ⟨k,rfl⟩:∃k,i=k+1:=⟨i - 1,by omega⟩;exact uV h hc
end Go.Proofs.YtpobkmjicbobdaaGreat
