/- Walks. -/
import Derived.Test.YtpobkmjicbobdaaGreatBD05
import Derived.Sort.Grow
import Derived.Sort.Statements
import Derived.Shelf.SlSortCmp.InsertionK
namespace Go.Proofs.YtpobkmjicbobdaaGreat
set_option maxRecDepth 100000
set_option maxHeartbeats 40000000
open Go.RowKit Go.Sort
variable {A L LT:List ac} {Z:List af} {b c ct f g gt i k nt:Nat} {d q:Int} {r:af} {s t:ByteArray} {w wc wd:World} {x y:ac}
def lE (L:List ac) (e:ac):Nat→Nat
 | 0=>0
 | k+1=>match L[k]? with
  | none=>k+1
  | some x=>if bF e.1 e.2.1 x.1 x.2.1=true then lE L e k else k+1
theorem xH (L:List ac) (e:ac):∀k,lE L e k≤k
 | 0=>Gg _
 | k+1=>by
  have m:=xH L e k
  unfold lE
  split
  · exact Gg _
  · split <;> omega
def eK (L:List ac) (e:ac):List ac:=L.take (lE L e L.length)++([e]++L.drop (lE L e L.length))
def bG (L:List ac):List ac:=L.foldl eK []
theorem pV (L:List ac) (e:ac):(eK L e).length=L.length+1:=by
 have:=xH L e L.length;simp [eK];omega
theorem cH (w:World) (base:Nat) (h:base≤w.heap.size):ah (w.alloc (.cells #[] 50)) base w.heap.size 0 0 []:=by
 have:=GP (base:=base) (e:=50) (size:=5) w #[] 0 (by first | exact h | simp) (by first | exact h | simp) (by first | exact h | simp);exact ⟨by simpa [aG] using this,rfl,by simp⟩
theorem eR (w:World) (s t:ByteArray) (q d n:Int) (h:eG (s,q,d,t,n)):aj (w.alloc (.cells #[.string s,iT q,iT d,.string t,iT n] 50)) (some ⟨w.heap.size,0,none⟩) 1 1 [(s,q,d,t,n)]:=by
 refine ⟨rfl,Gg _,by unfold maxLen;omega,fun l hl=>by simp only [GC] at hl;subst hl;exact h,(fun e=>by cases e),(fun x e _=>by cases e;exact ⟨by simp,rfl⟩),?_⟩;rintro x e i hi;cases e;have:i=0:=by simp at hi;omega
 subst this;exact ⟨by simp,by simp,by simp,by simp,by simp⟩
theorem b7 {n:Nat} (h:aj w (pT b) n c L):∀j u,(aG L)[j]?=some u→w.cell? ((⟨b,0,none⟩:Addr).add j)=some u:=by
 intro j u m;have B:=(F'.1 m).1;rw [aW] at B;have hi:j / 5<L.length:=by omega
 obtain ⟨c0,c1,o,c3,c4⟩:=h.cells _ rfl (j / 5) hi;obtain ⟨D,C,r2,r3,r4⟩:=fH L (j / 5) L[j / 5] (j' hi);rw [Gv,Gp];simp only [Gp] at c0 c1 o c3 c4;have:j=j / 5*5∨j=j / 5*5+1∨j=j / 5*5+2∨j=j / 5*5+3∨j=j / 5*5+4:=by omega
 rcases this with e | e | e | e | e
 · rw [← e] at D c0;rw [D] at m;cases m;exact c0
 · rw [← e] at C c1;rw [C] at m;cases m;exact c1
 · rw [← e] at r2 o;rw [r2] at m;cases m;exact o
 · rw [← e] at r3 c3;rw [r3] at m;cases m;exact c3
 · rw [← e] at r4 c4;rw [r4] at m;cases m;exact c4
theorem AU {n:Nat} (h:aj w (pT b) n c L) (hk:k≤n):aj w (pT b) k c (L.take k) where
 length:=by have:=h.length;simp;omega
 room:=by have:=h.room;omega
 big:=h.big
 ents:=fun l hl=>h.ents l (GX hl)
 nil:=fun e=>by cases e
 lies:=fun x e hp=>h.lies x e (by omega)
 cells:=fun x e i hi=>by
  have m:i<L.length:=by simp at hi;omega
  have:=h.cells x e i m
  simpa using this
theorem AW {n:Nat} (h:aj w (pT b) n c L) (k:Nat):∀j u,(aG (L.drop k))[j]?=some u→w.cell? ((⟨b,k*5,none⟩:Addr).add j)=some u:=by
 intro j u e;have hf:aG L=aG (L.take k)++aG (L.drop k):=by rw [← bw,GK]
 by_cases hk:k≤L.length
 · have h1:(aG L)[k*5+j]?=some u:=by
    rw [hf,Gm (by rw [aW,Gn];omega),aW,Gn,Nat.min_eq_left hk,Hx];exact e
   have h2:=b7 h _ u h1;rw [Gv,Gp] at h2;rw [Gv];exact h2
 · rw [Hs (by omega)] at e;simp [aG] at e
theorem aL {base e size n:Nat} {v:Value} {xs:List Value} {o:Addr} {u c0 m:Nat} (h:w.ownsRow base e size v n xs) (hn:v=nZ ↔ Value.slice (some o) u c0=nZ∧m=0):∃g c,v=sL g n c :=
 pS h (fun e=>by cases (hn.1 e).1)
structure fY (w wc:World) (X gt nt ct:Nat) (s t:ByteArray) (q d n:Int) (LT:List ac):Prop where
 low:Bl w wc
 hi:w.heap.size+1≤wc.heap.size
 x0:wc.cell? ⟨X,0,none⟩=some (.string s)
 x1:wc.cell? ⟨X,1,none⟩=some (iT q)
 x2:wc.cell? ⟨X,2,none⟩=some (iT d)
 x3:wc.cell? ⟨X,3,none⟩=some (.string t)
 x4:wc.cell? ⟨X,4,none⟩=some (iT n)
 tl:ah wc (w.heap.size+1) gt nt ct LT
theorem fY.lt {X:Nat} {n:Int} (h:fY w wc X gt nt ct s t q d n LT):X<wc.heap.size:=Gf _ _ h.x0
theorem fY.below {X:Nat} {n:Int} (h:fY w wc X gt nt ct s t q d n LT) (hb:Bl wc wd):fY w wd X gt nt ct s t q d n LT :=
 ⟨h.low.trans (hb.mono h.low.size),Gq h.hi hb.size,cell_later hb h.x0,cell_later hb h.x1,cell_later hb h.x2,cell_later hb h.x3,cell_later hb h.x4,h.tl.below hb⟩
theorem fY.grown {X:Nat} {n:Int} (h:fY w wc X gt nt ct s t q d n LT) (hg:wc.grownBy wd (some g)) (hw:w.heap.size≤g) (m:X≠g) (n2:gt≠g):fY w wd X gt nt ct s t q d n LT :=
 ⟨h.low.grown hg h.low.size (fun k e=>by cases e;exact hw),Gq h.hi hg.size,(au hg (x:=⟨X,0,none⟩) h.lt m).trans h.x0,(au hg (x:=⟨X,1,none⟩) h.lt m).trans h.x1,(au hg (x:=⟨X,2,none⟩) h.lt m).trans h.x2,(au hg (x:=⟨X,3,none⟩) h.lt m).trans h.x3,(au hg (x:=⟨X,4,none⟩) h.lt m).trans h.x4,h.tl.grown hg (fun e=>n2 (by cases e;rfl))⟩
theorem aj.grownE {w':World} {len m:Nat} (h:aj w (pT b) len m L) (hg:w.grownBy w' (some g)) (n:b≠g):aj w' (pT b) len m L :=
 h.moved hg.size (fun x e hp o=>by
  cases e
  have:=(h.lies _ rfl hp).1
  exact au hg (x:=⟨b,o,none⟩) this n)
theorem tI (b len cap:Nat) (L:List ac) (s t:ByteArray) (q d n:Int) (w:World) (hL:aj w (pT b) len cap L) (bX:b<w.heap.size) (hlen:len≤1048576) (hE:eG (s,q,d,t,n)) :
 Calls Tryz.prog 159 #[sL b len cap,.agg #[.string s,iT q,iT d,.string t,iT n]] w fun e w'=>∃g c,e=.returned (sL g (len+1) c)∧ah w' w.heap.size g (len+1) c (eK L (s,q,d,t,n))∧Bl w w':=by
 have E:Eq (L.length=len):=hL.length;have a0:Eq (∀l ∈ L,eG l):=hL.ents;have aQ:=az hE;have ci:=hL.room;have bL:=hL.big;unfold maxLen at bL;have HL:=az hL;obtain ⟨X,hX⟩:=aF w.heap.size;obtain ⟨W,hW⟩:=aF (w.alloc (.cells #[.string s,iT q,iT d,.string t,iT n] 50));have x0:W.cell? ⟨X,0,none⟩=some (.string s):=by rw [hW,hX];simp
 have x1:W.cell? ⟨X,1,none⟩=some (iT q):=by rw [hW,hX];simp
 have x2:W.cell? ⟨X,2,none⟩=some (iT d):=by rw [hW,hX];simp
 have x3:W.cell? ⟨X,3,none⟩=some (.string t):=by rw [hW,hX];simp
 have x4:W.cell? ⟨X,4,none⟩=some (iT n):=by rw [hW,hX];simp
 have kW:Bl w W:=by rw [hW];exact bZ
 have bv:w.heap.size+1≤W.heap.size:=by rw [hW];simp
 have a4:Eq (X=w.heap.size):=hX;have aC:Eq (Bl w W):=kW;have bN:Eq (w.heap.size+1≤W.heap.size):=bv;obtain ⟨i0,hi,a5,a9,a8⟩:=info_parts Tryz.infoEnt;go_enter Tryz.func159,Tryz.ntmps159
 go_upto_block 0 with fail
 rw [← hW,← hX];clear hW hX kW hL bv hE;go_cut [5] (fun kv wz=>∃j:Nat,kv=iT j∧j≤len∧lE L (s,q,d,t,n) len=j∧Bl W wz)
 case first =>
  go_wp2_with fail
  go_loopw [5] (fun kv wr=>∃j:Nat,j≤len∧kv=iT j∧Bl W wr∧lE L (s,q,d,t,n) len=lE L (s,q,d,t,n) j) (fun kv _=>(intOf kv).toNat)
  case atStart=>exact ⟨len,Gg _,rfl,Below.refl _ _,rfl⟩
  case round =>
   obtain ⟨j,hj,rfl,hb,bp⟩:=hrel;have b4:Eq (lE L (s,q,d,t,n) len=lE L (s,q,d,t,n) j):=bp;clear bp;by_cases bi:j=0
   · have bA:¬(0:Int)<(j:Int):=by omega
     have cd:decide ((0:Int)<(j:Int))=false:=decide_eq_false bA;have HJ:Eq (lE L (s,q,d,t,n) len=j):=by show lE L (s,q,d,t,n) len=j;rw [b4.o,bi];rfl
     have bC:¬0<j:=by omega
     have cb:decide (0<j)=false:=decide_eq_false bC;clear bi;go_wp2_with fail
     have y0:=cell_later hb x0;have y1:=cell_later hb x1;have y2:=cell_later hb x2;have y3:=cell_later hb x3;have y4:=cell_later hb x4;have k0:Bl wr wr.drew:=(Below.refl _ wr).drew;have N:Eq (∀w',Bl wr w'→(w'.cell? ⟨X,0,none⟩=some (.string s)∧w'.cell? ⟨X,1,none⟩=some (iT q)∧w'.cell? ⟨X,2,none⟩=some (iT d)∧w'.cell? ⟨X,3,none⟩=some (.string t)∧w'.cell? ⟨X,4,none⟩=some (iT n)∧X<w'.heap.size)):=fun w' U=>⟨cell_later U y0,cell_later U y1,cell_later U y2,cell_later U y3,cell_later U y4,Gf _ _ (cell_later U y0)⟩
     refine eJ N k0 fun Y=>?_
     refine aO 0 9 Y ?_;refine aS 9 fun K hK=>?_
     go_simp;refine hK.o _ _ (N.o _ k0) fun Y=>?_
     (try go_frame);refine aO 10 1 Y ?_;refine dN ?_;have KZ:Eq (Bl W wr.drew):=hb.trans (k0.mono hb.size);clear k0 N Y y0 y1 y2 y3 y4 hb;go_wp2;go_meet
     exact ⟨j,rfl,hj,HJ.o,KZ.o⟩
   · have cl:(0:Int)<(j:Int):=by omega
     have c6:0<j:=by omega
     have cf:(0:Int)≤(j:Int) - 1:=by omega
     have cp:(j:Int) - 1<(len:Int):=by omega
     have co:(1:Int)≤(j:Int):=by omega
     have cn:(j:Int)≤(len:Int):=by omega
     have cm:((j:Int) - 1).toNat=j - 1:=by omega
     have wj:IntKind.i64.wrap ((j:Int) - 1)=(j:Int) - 1:=by rw [GB];unfold wrap64;omega
     have bO:b<W.heap.size:=E' bX aC.o.size;obtain ⟨s',q',d',t',n',bl,bz,aI,b9,b3,b5,b8⟩:=(HL.o.keep aC.o).ent hb bO (j - 1) (by omega);have HG:Eq (L[j - 1]?=some (s',q',d',t',n')):=bl;simp only [Gp] at aI b9 b3 b5 b8;clear bl bz;obtain ⟨B,hB⟩:=aF (bF s q s' q');have CL:Eq (∀w,Calls Tryz.prog 144 #[.agg #[.string s,iT q,iT d,.string t,iT n],.agg #[.string s',iT q',iT d',.string t',iT n']] w fun e w'=>e=.returned (.bool B)∧Bl w w'):=by rw [hB];exact fun w=>uP s t s' t' q d n q' d' n' w
     have br:Eq (lE L (s,q,d,t,n) j=if B=true then lE L (s,q,d,t,n) (j - 1) else j):=by
      show lE L (s,q,d,t,n) j=_
      obtain ⟨i,rfl⟩:∃i,j=i+1:=⟨j - 1,by omega⟩;rw [hB];conv=>lhs;unfold lE
      have hg:=HG.o;simp only [Hv] at hg ⊢;simp only [hg]
     clear hB;go_wp2_with fail
     have y0:=cell_later hb x0;have y1:=cell_later hb x1;have y2:=cell_later hb x2;have y3:=cell_later hb x3;have y4:=cell_later hb x4;have k0:Bl wr wr.drew:=(Below.refl _ wr).drew;have N:Eq (∀w',Bl wr w'→(w'.cell? ⟨X,0,none⟩=some (.string s)∧w'.cell? ⟨X,1,none⟩=some (iT q)∧w'.cell? ⟨X,2,none⟩=some (iT d)∧w'.cell? ⟨X,3,none⟩=some (.string t)∧w'.cell? ⟨X,4,none⟩=some (iT n)∧X<w'.heap.size∧w'.cell? ⟨b,(j - 1)*5,none⟩=some (.string s')∧w'.cell? ⟨b,(j - 1)*5+1,none⟩=some (iT q')∧w'.cell? ⟨b,(j - 1)*5+2,none⟩=some (iT d')∧w'.cell? ⟨b,(j - 1)*5+3,none⟩=some (.string t')∧w'.cell? ⟨b,(j - 1)*5+4,none⟩=some (iT n')∧b<w'.heap.size)):=fun w' U=>⟨cell_later U y0,cell_later U y1,cell_later U y2,cell_later U y3,cell_later U y4,Gf _ _ (cell_later U y0),cell_later U aI,cell_later U b9,cell_later U b3,cell_later U b5,cell_later U b8,Gf _ _ (cell_later U aI)⟩
     refine eJ N k0 fun Y=>?_
     refine aO 0 9 Y ?_;refine aS 9 fun K hK=>?_
     go_simp;refine (CL.o _).mono ?_;rintro e w1 ⟨rfl,b1⟩;have k1:Bl wr w1:=k0.trans (b1.mono k0.size);go_wp2_with fail
     refine hK.o _ _ (N.o _ k1) fun Y=>?_
     (try go_frame);refine aO 10 1 Y ?_;refine dN ?_;cases B with
     | true =>
      go_wp2;go_roundw
      case rel=>exact ⟨j - 1,by omega,by congr 1;omega,hb.trans (k1.mono hb.size),by rw [b4.o,br.o];rfl⟩
      case measure=>simp [intOf];omega
     | false =>
      have HJ:Eq (lE L (s,q,d,t,n) len=j):=by show lE L (s,q,d,t,n) len=j;rw [b4.o,br.o];rfl
      have KZ:Eq (Bl W w1):=hb.trans (k1.mono hb.size);clear k0 k1 N Y y0 y1 y2 y3 y4 hb b1 aI b9 b3 b5 b8;go_wp2;go_meet
      exact ⟨j,rfl,hj,HJ.o,KZ.o⟩
 case rest =>
  obtain ⟨j,rfl,hj,hJ,kz⟩:=hcut;obtain ⟨wz,bm⟩:=aF wc;rw [← bm] at kz ⊢;have HJ:Eq (lE L (s,q,d,t,n) len=j):=hJ;clear bm hJ;have aP:Bl w wz:=aC.o.trans (kz.mono aC.o.size);have hzs:w.heap.size+1≤wz.heap.size:=Gq bN.o kz.size;have z0:=cell_later kz x0;have z1:=cell_later kz x1;have z2:=cell_later kz x2;have z3:=cell_later kz x3;have z4:=cell_later kz x4;have bd:Eq (aj wz (pT b) len cap L):=HL.o.keep aP;have ar:Eq (eK L (s,q,d,t,n)=L.take j++([(s,q,d,t,n)]++L.drop j)):=by show eK L (s,q,d,t,n)=_;unfold eK;rw [E.o,HJ.o]
  have aU:Eq (∀l ∈ L.take j++[(s,q,d,t,n)],eG l):=fun l hl=>by rcases Gw.1 hl with h1 | h1;exact a0.o l (GX h1);simp only [GC] at h1;subst h1;exact aQ.o
  have be:Eq (∀l ∈ eK L (s,q,d,t,n),eG l):=fun l hl=>by rw [ar.o,← GJ] at hl;rcases Gw.1 hl with h1 | h1;exact aU.o l h1;exact a0.o l (Ha h1)
  have kt:Bl wz (wz.alloc (.cells #[] 50)):=bZ;have b0:Eq (ah (wz.alloc (.cells #[] 50)) (w.heap.size+1) wz.heap.size 0 0 []):=cH wz _ hzs;have bk:Eq (aj (wz.alloc (.cells #[] 50)) (pT b) len cap L):=bd.o.keep kt;have aD:Eq (fY w (wz.alloc (.cells #[] 50)) X wz.heap.size 0 0 s t q d n []):=⟨aP.trans (kt.mono aP.size),Gq hzs kt.size,cell_later kt z0,cell_later kt z1,cell_later kt z2,cell_later kt z3,cell_later kt z4,b0.o⟩;clear kz z0 z1 z2 z3 z4 kt aP bd;go_upto_region 4 with fail
  go_cut [6] (fun tv wt=>∃gt ct,tv=sL gt (len - j) ct∧fY w wt X gt (len - j) ct s t q d n (L.drop j))
  case first =>
   by_cases bR:cap=j
   · subst bR;have bh:Eq (len - cap=0):=by show len - cap=0;omega
     have bM:Eq (L.drop cap=[]):=Hs (by rw [E.o];omega);go_wp2;go_meet
     exact ⟨wz.heap.size,0,by rw [bh.o],by rw [bh.o,bM.o];exact aD.o⟩
   · have c5:¬(cap:Int)=(j:Int):=by omega
     have bU:Eq ((aG (L.drop j)).length=(len - j)*5):=by show _=_;rw [aW,Gy,E.o]
     go_wp2_with (at_builtin;refine wpList_append_own _ rfl _ _ 28 rfl (w.heap.size+1) 50 i0 _ 5 56 Tryz.underlying28 hi a5 a9 a8 rfl (by decide) _ _ _ rfl b0.o.owns ⟨b,j*5,none⟩ (len - j) (cap - j) (aG (L.drop j)) rfl bU.o (AW bk.o j) (aY _) (by unfold maxLen;omega) (by omega) aD.o.hi ?_;intro vt wt ab D an;obtain ⟨gt,ct,rfl⟩:=pS ab (fun e=>by cases (an.1 e).1))
     have a6:=aD.o;have ak:some X≠(sL (wz.heap.size) 0 0).ownBlock:=by have h1:=a4.o;simp [Value.ownBlock];omega
     have ST:Eq (fY w wt X gt (len - j) ct s t q d n (L.drop j)):=⟨a6.low.grown D a6.low.size (fun k e=>by have h1:wz.heap.size=k:=Gi e;omega),Gq a6.hi D.size,D.cell a6.x0 ak,D.cell a6.x1 ak,D.cell a6.x2 ak,D.cell a6.x3 ak,D.cell a6.x4 ak,⟨by first | exact ab | (have h0:=ab;rw [Gp] at h0;exact h0),by rw [Gy,E.o],fun l hl=>a0.o l (Ha hl)⟩⟩;clear ab D an a6 ak;try simp only [Gp]
     go_meet
     exact ⟨gt,ct,rfl,ST.o⟩
  case rest =>
   obtain ⟨gt,ct,rfl,aZ⟩:=hcut;obtain ⟨wt,bB⟩:=aF wc;rw [← bB] at aZ ⊢;have ST:Eq (fY w wt X gt (len - j) ct s t q d n (L.drop j)):=aZ;have bs:j+1+(len - j)=len+1:=by omega
   clear bB aZ b0 bk aD hzs;have k0:fY w wt.drew X gt (len - j) ct s t q d n (L.drop j):=ST.o.below (Below.refl _ wt).drew;have N:Eq (∀w',fY w w' X gt (len - j) ct s t q d n (L.drop j)→(w'.cell? ⟨X,0,none⟩=some (.string s)∧w'.cell? ⟨X,1,none⟩=some (iT q)∧w'.cell? ⟨X,2,none⟩=some (iT d)∧w'.cell? ⟨X,3,none⟩=some (.string t)∧w'.cell? ⟨X,4,none⟩=some (iT n)∧X<w'.heap.size)):=fun w' U=>⟨U.x0,U.x1,U.x2,U.x3,U.x4,U.lt⟩
   have b6:Eq (∀w',Bl w w'→aj w' (pT b) j cap (L.take j)):=fun w' U=>AU (HL.o.keep U) (by omega)
   have cj:=ST.o.tl.lt;have ch:j≤cap:=by omega
   have ca:(j:Int)≤(cap:Int):=by omega
   go_wp2_with fail
   refine eJ N k0 fun Y=>?_
   generalize wt.drew=wd at k0 Y ⊢;refine aO 1 3 Y ?_;refine aO 5 1 Y ?_;refine aO 8 1 Y ?_;refine lI 0 6 (fun K hK=>?_) fun K hK=>?_
   · go_simp;have kA:Bl wd (wd.alloc (.cells #[] 50)):=bZ;have sA:=k0.below kA;have rA:ah (wd.alloc (.cells #[] 50)) wd.heap.size wd.heap.size 0 0 []:=cH wd _ (Gg _);have ax:w.heap.size+1≤wd.heap.size:=k0.hi;have ay:gt<wd.heap.size:=k0.tl.lt.2;generalize bV:wd.heap.size=ga at rA ax ay ⊢;generalize wd.alloc (.cells #[] 50)=wa at sA rA kA ⊢;refine hK.o _ _ (N.o _ sA) fun Y=>?_
     (try go_frame);refine lI 4 6 (fun K hK=>?_) fun K hK=>?_
     focus
      refine aE rfl (.tmp 27) (.tmp 30) 28 rfl ga 50 i0 _ 5 56 Tryz.underlying28 hi a5 a9 a8 rfl (G4 4) _ _ _ rfl rA.owns ⟨b,0,none⟩ j cap (aG (L.take j)) rfl ?_ (b7 (b6.o _ sA.low)) (aY _) ?_ ?_ ?_ ?_
      · rw [aW,Gn,E.o];congr 1;omega
      · unfold maxLen;omega
      · omega
      · have:=rA.lt;omega
      intro v4 w4 u T a2
      obtain ⟨g4,c4,rfl⟩:=aL u a2
      have C:wa.grownBy w4 (some ga):=T
      have s4:=sA.grown C (by omega) (by have:=a4.o;omega) (by omega)
      have r4:ah w4 ga g4 j c4 (L.take j):=⟨by first | exact u | (have h0:=u;rw [Gp] at h0;exact h0),by simp [E.o];omega,fun l hl=>a0.o l (GX hl)⟩
      simp only [Gp]
      refine hK.o _ _ (N.o _ s4) fun Y=>?_
      (try go_frame)
      refine aS 6 fun K hK=>?_
      go_simp;have kN:Bl w4 (w4.alloc (.cells #[.string s,iT q,iT d,.string t,iT n] 50)):=bZ;have sN:=s4.below kN;have rN:aj (w4.alloc (.cells #[.string s,iT q,iT d,.string t,iT n] 50)) (some ⟨w4.heap.size,0,none⟩) 1 1 [(s,q,d,t,n)]:=eR w4 _ _ _ _ _ aQ.o;have ad:w.heap.size+1≤w4.heap.size:=s4.hi;have rR:=r4.below kN;have af:g4≠w4.heap.size:=by have:=r4.lt.2;omega
      generalize bt:w4.heap.size=gn at rN ad af ⊢
      generalize w4.alloc (.cells #[.string s,iT q,iT d,.string t,iT n] 50)=wn at sN rN rR kN ⊢
      refine hK.o _ _ (N.o _ sN) fun Y=>?_
      (try go_frame)
      refine aS 7 fun K hK=>?_
      refine aE rfl (.tmp 31) (.tmp 33) 28 rfl ga 50 i0 _ 5 56 Tryz.underlying28 hi a5 a9 a8 rfl (G4 4) _ _ _ rfl rR.owns ⟨gn,0,none⟩ 1 1 (aG [(s,q,d,t,n)]) rfl rfl (b7 rN) (aY _) ?_ ?_ ?_ ?_
      · unfold maxLen;omega
      · omega
      · have:=rR.lt;omega
      intro v7 w7 J F R
      obtain ⟨g7,c7,rfl⟩:=aL J R
      have Q:wn.grownBy w7 (some g4):=F
      have O:=sN.grown Q (by have:=rR.lt.1;omega) (by have:=rR.lt.1;have:=a4.o;omega) (by have:=rR.lt.1;omega)
     rotate_left
     focus
      go_simp;have kN:Bl wa (wa.alloc (.cells #[.string s,iT q,iT d,.string t,iT n] 50)):=bZ;have sN:=sA.below kN;have rN:aj (wa.alloc (.cells #[.string s,iT q,iT d,.string t,iT n] 50)) (some ⟨wa.heap.size,0,none⟩) 1 1 [(s,q,d,t,n)]:=eR wa _ _ _ _ _ aQ.o;have ad:w.heap.size+1≤wa.heap.size:=sA.hi;have ba:=rA.below kN;have af:ga≠wa.heap.size:=by have:=rA.lt.2;omega
      generalize bt:wa.heap.size=gn at rN ad af ⊢
      generalize wa.alloc (.cells #[.string s,iT q,iT d,.string t,iT n] 50)=wn at sN rN ba kN ⊢
      refine hK.o _ _ (N.o _ sN) fun Y=>?_
      (try go_frame)
      refine aS 4 fun K hK=>?_
      refine aE rfl (.tmp 27) (.tmp 30) 28 rfl ga 50 i0 _ 5 56 Tryz.underlying28 hi a5 a9 a8 rfl (G4 4) _ _ _ rfl ba.owns ⟨b,0,none⟩ j cap (aG (L.take j)) rfl ?_ (b7 (b6.o _ sN.low)) (aY _) ?_ ?_ ?_ ?_
      · rw [aW,Gn,E.o];congr 1;omega
      · unfold maxLen;omega
      · omega
      · have:=ba.lt;omega
      intro v4 w4 u T a2
      obtain ⟨g4,c4,rfl⟩:=aL u a2
      have C:wn.grownBy w4 (some ga):=T
      have s4:=sN.grown C (by omega) (by have:=a4.o;omega) (by omega)
      have r4:ah w4 ga g4 j c4 (L.take j):=⟨by first | exact u | (have h0:=u;rw [Gp] at h0;exact h0),by simp [E.o];omega,fun l hl=>a0.o l (GX hl)⟩
      simp only [Gp]
      have aX:=rN.grownE C (fun e=>af e.symm)
      refine hK.o _ _ (N.o _ s4) fun Y=>?_
      (try go_frame)
      refine aS 7 fun K hK=>?_
      refine aE rfl (.tmp 31) (.tmp 33) 28 rfl ga 50 i0 _ 5 56 Tryz.underlying28 hi a5 a9 a8 rfl (G4 4) _ _ _ rfl r4.owns ⟨gn,0,none⟩ 1 1 (aG [(s,q,d,t,n)]) rfl rfl (b7 aX) (aY _) ?_ ?_ ?_ ?_
      · unfold maxLen;omega
      · omega
      · have:=r4.lt;omega
      intro v7 w7 J F R
      obtain ⟨g7,c7,rfl⟩:=aL J R
      have Q:w4.grownBy w7 (some g4):=F
      have O:=s4.grown Q (by have:=r4.lt.1;omega) (by have:=r4.lt.1;have:=a4.o;omega) (by have:=r4.lt.1;omega)
     all_goals
      have r7:ah w7 ga g7 (j+1) c7 (L.take j++[(s,q,d,t,n)]):=⟨by rw [bw];exact J,by simp [E.o];omega,aU.o⟩
      refine hK.o _ _ (N.o _ O) fun Y=>?_
      (try go_frame)
      refine aS 9 fun K hK=>?_
      refine aE rfl (.tmp 34) (.tmp 35) 28 rfl ga 50 i0 _ 5 56 Tryz.underlying28 hi a5 a9 a8 rfl (G4 4) _ _ _ rfl r7.owns ⟨gt,0,none⟩ (len - j) ct (aG (L.drop j)) rfl ?_ (b7 O.tl.entsAt) (aY _) ?_ ?_ ?_ ?_
      · rw [aW,O.tl.len]
      · unfold maxLen;omega
      · omega
      · have:=r7.lt;omega
      intro v9 w9 I H a1
      obtain ⟨g9,c9,rfl⟩:=aL I a1
      have m:w7.grownBy w9 (some g7):=H
      have ap:Bl w w9:=O.low.grown m O.low.size (fun k e=>by cases e;have:=r7.lt.1;omega)
      have z9:X<w9.heap.size:=E' O.lt H.size
      refine hK.o _ _ ?_ (fun Y=>?_)
      · have n9:X≠g7:=by have:=r7.lt.1;have:=a4.o;omega
        exact ⟨(au m (x:=⟨X,0,none⟩) O.lt n9).trans O.x0,(au m (x:=⟨X,1,none⟩) O.lt n9).trans O.x1,(au m (x:=⟨X,2,none⟩) O.lt n9).trans O.x2,(au m (x:=⟨X,3,none⟩) O.lt n9).trans O.x3,(au m (x:=⟨X,4,none⟩) O.lt n9).trans O.x4,z9⟩
      clear hK K;(try go_frame);refine aO 10 1 Y ?_;refine dN ?_;rw [bs] at I ⊢;have aV:Eq (ah w9 w.heap.size g9 (len+1) c9 (eK L (s,q,d,t,n))):=by
       refine ah.mono (base:=ga) ⟨?_,by rw [pV,E.o],be.o⟩ (by omega);rw [ar.o,← GJ,bw];exact I
      have b2:Eq (Bl w w9):=ap
      clear I H a1 J F R r7 O ap
      go_wp2
      go_ret
      exact ⟨g9,c9,rfl,aV.o,b2.o⟩
   · go_simp;have kN:Bl wd (wd.alloc (.cells #[.string s,iT q,iT d,.string t,iT n] 50)):=bZ;have sN:=k0.below kN;have rN:aj (wd.alloc (.cells #[.string s,iT q,iT d,.string t,iT n] 50)) (some ⟨wd.heap.size,0,none⟩) 1 1 [(s,q,d,t,n)]:=eR wd _ _ _ _ _ aQ.o;have ad:w.heap.size+1≤wd.heap.size:=k0.hi;generalize bt:wd.heap.size=gn at rN ad ⊢;generalize wd.alloc (.cells #[.string s,iT q,iT d,.string t,iT n] 50)=wn at sN rN kN ⊢;refine hK.o _ _ (N.o _ sN) fun Y=>?_
     (try go_frame);refine aS 0 fun K hK=>?_
     go_simp;have kA:Bl wn (wn.alloc (.cells #[] 50)):=bZ;have bq:=rN.keep kA;have af:wn.heap.size≠gn:=by have:=(rN.lies _ rfl (by omega)).1;simp only at this;omega
     have sA:=sN.below kA;have rA:ah (wn.alloc (.cells #[] 50)) wn.heap.size wn.heap.size 0 0 []:=cH wn _ (Gg _);have ax:w.heap.size+1≤wn.heap.size:=sN.hi;have ay:gt<wn.heap.size:=sN.tl.lt.2;generalize bV:wn.heap.size=ga at rA ax ay af ⊢;generalize wn.alloc (.cells #[] 50)=wa at sA rA kA bq ⊢;refine hK.o _ _ (N.o _ sA) fun Y=>?_
     (try go_frame);refine aS 4 fun K hK=>?_
     refine aE rfl (.tmp 27) (.tmp 30) 28 rfl ga 50 i0 _ 5 56 Tryz.underlying28 hi a5 a9 a8 rfl (G4 4) _ _ _ rfl rA.owns ⟨b,0,none⟩ j cap (aG (L.take j)) rfl ?_ (b7 (b6.o _ sA.low)) (aY _) ?_ ?_ ?_ ?_
     · rw [aW,Gn,E.o];congr 1;omega
     · unfold maxLen;omega
     · omega
     · have:=rA.lt;omega
     intro v4 w4 u T a2;obtain ⟨g4,c4,rfl⟩:=aL u a2;have C:wa.grownBy w4 (some ga):=T;have s4:=sA.grown C (by omega) (by have:=a4.o;omega) (by omega);have r4:ah w4 ga g4 j c4 (L.take j):=⟨by first | exact u | (have h0:=u;rw [Gp] at h0;exact h0),by simp [E.o];omega,fun l hl=>a0.o l (GX hl)⟩;simp only [Gp];have aX:=bq.grownE C (fun e=>af e.symm);refine hK.o _ _ (N.o _ s4) fun Y=>?_
     (try go_frame);refine aS 7 fun K hK=>?_
     refine aE rfl (.tmp 31) (.tmp 33) 28 rfl ga 50 i0 _ 5 56 Tryz.underlying28 hi a5 a9 a8 rfl (G4 4) _ _ _ rfl r4.owns ⟨gn,0,none⟩ 1 1 (aG [(s,q,d,t,n)]) rfl rfl (b7 aX) (aY _) ?_ ?_ ?_ ?_
     · unfold maxLen;omega
     · omega
     · have:=r4.lt;omega
     intro v7 w7 J F R;obtain ⟨g7,c7,rfl⟩:=aL J R;have Q:w4.grownBy w7 (some g4):=F;have O:=s4.grown Q (by have:=r4.lt.1;omega) (by have:=r4.lt.1;have:=a4.o;omega) (by have:=r4.lt.1;omega);have r7:ah w7 ga g7 (j+1) c7 (L.take j++[(s,q,d,t,n)]):=⟨by rw [bw];exact J,by simp [E.o];omega,aU.o⟩;refine hK.o _ _ (N.o _ O) fun Y=>?_
     (try go_frame);refine aS 9 fun K hK=>?_
     refine aE rfl (.tmp 34) (.tmp 35) 28 rfl ga 50 i0 _ 5 56 Tryz.underlying28 hi a5 a9 a8 rfl (G4 4) _ _ _ rfl r7.owns ⟨gt,0,none⟩ (len - j) ct (aG (L.drop j)) rfl ?_ (b7 O.tl.entsAt) (aY _) ?_ ?_ ?_ ?_
     · rw [aW,O.tl.len]
     · unfold maxLen;omega
     · omega
     · have:=r7.lt;omega
     intro v9 w9 I H a1;obtain ⟨g9,c9,rfl⟩:=aL I a1;have m:w7.grownBy w9 (some g7):=H;have ap:Bl w w9:=O.low.grown m O.low.size (fun k e=>by cases e;have:=r7.lt.1;omega);have z9:X<w9.heap.size:=E' O.lt H.size;refine hK.o _ _ ?_ (fun Y=>?_)
     · have n9:X≠g7:=by have:=r7.lt.1;have:=a4.o;omega
       exact ⟨(au m (x:=⟨X,0,none⟩) O.lt n9).trans O.x0,(au m (x:=⟨X,1,none⟩) O.lt n9).trans O.x1,(au m (x:=⟨X,2,none⟩) O.lt n9).trans O.x2,(au m (x:=⟨X,3,none⟩) O.lt n9).trans O.x3,(au m (x:=⟨X,4,none⟩) O.lt n9).trans O.x4,z9⟩
     clear hK K;(try go_frame);refine aO 10 1 Y ?_;refine dN ?_;rw [bs] at I ⊢;have aV:Eq (ah w9 w.heap.size g9 (len+1) c9 (eK L (s,q,d,t,n))):=by
      refine ah.mono (base:=ga) ⟨?_,by rw [pV,E.o],be.o⟩ (by omega);rw [ar.o,← GJ,bw];exact I
     have b2:Eq (Bl w w9):=ap;clear I H a1 J F R r7 O ap;go_wp2;go_ret;exact ⟨g9,c9,rfl,aV.o,b2.o⟩
theorem ri (w:World) (o:Obj):w.alloc o=grow w #[o]:=by
 unfold World.alloc grow;simp
theorem ic (x y:ac):ltOf (fun x y:ac=>jP x.1 x.2.1 y.1 y.2.1) x y=bF x.1 x.2.1 y.1 y.2.1:=ii _ _ _ _
theorem sS {e m:ByteArray} {n qb:Int} (h1:bF e n m qb=false) (h2:bF m qb e n=false):e=m∧n=qb:=by
 have h:=sT e m n qb;rw [h1,h2] at h;simp at h;exact h
theorem Cw:SWO (ltOf (fun x y:ac=>jP x.1 x.2.1 y.1 y.2.1)) where
 irrefl x:=by rw [ic];exact il _ _
 trans x y z h1 h2:=by rw [ic] at *;exact fC h1 h2
 ntrans x y z h1 h2:=by
  rw [ic] at *;cases h3:bF x.1 x.2.1 z.1 z.2.1 with
  | false=>rfl
  | true =>
   cases h4:bF y.1 y.2.1 x.1 x.2.1 with
   | true=>rw [fC h4 h3] at h2;cases h2
   | false =>
    obtain ⟨e1,e2⟩:=sS h1 h4;rw [e1,e2,h2] at h3;cases h3
def aU (x y:ac):Bool:=bF x.1 x.2.1 y.1 y.2.1
theorem jo {z:ac} (h1:aU x y=false) (h2:aU y z=false):aU x z=false:=by
 have:=Cw.ntrans x y z;rw [ic,ic,ic] at this;exact this h1 h2
def mS (L:List ac):Prop:=L.Pairwise (fun a b=>aU b a=false)
def uw (L:List ac):Prop:=L.Pairwise (fun a b=>aU a b=true)
theorem nJ (L:List ac) (e:ac):∀n p x,lE L e n≤p→p<n→L[p]?=some x→aU e x=true
 | 0,p,x,_,h2,_=>absurd h2 (G2 _)
 | n+1,p,x,h1,h2,h3=>by
  unfold lE at h1
  cases hn:L[n]? with
  | none=>rw [hn] at h1;simp at h1;omega
  | some y =>
   rw [hn] at h1
   simp only at h1
   by_cases hl:bF e.1 e.2.1 y.1 y.2.1=true
   · rw [if_pos hl] at h1
     by_cases hp:p=n
     · subst hp
       rw [hn] at h3
       cases h3
       exact hl
     · exact nJ L e n p x h1 (by omega) h3
   · rw [if_neg hl] at h1
     omega
theorem vk (L:List ac) (e:ac):∀n x,0<lE L e n→L[lE L e n - 1]?=some x→n≤L.length→aU e x=false
 | 0,x,h1,_,_=>absurd h1 (IY _)
 | n+1,x,h1,h2,h3=>by
  have hn:L[n]?=some (L[n]'(by omega)):=j' (by omega)
  by_cases hl:bF e.1 e.2.1 (L[n]'(by omega)).1 (L[n]'(by omega)).2.1=true
  · have e1:lE L e (n+1)=lE L e n:=by
     conv=>lhs;unfold lE
     simp only [hn,hl,if_true]
    rw [e1] at h1 h2;exact vk L e n x h1 h2 (by omega)
  · have e1:lE L e (n+1)=n+1:=by
     conv=>lhs;unfold lE
     simp only [hn,hl];simp
    rw [e1] at h2;simp only [Hv] at h2;rw [hn] at h2;cases h2;simpa [aU] using hl
theorem Bs {e:ac} (h:mS L):mS (eK L e):=by
 have C:=xH L e L.length;obtain ⟨k,hk⟩:=aF (lE L e L.length);have hR:∀y ∈ L.drop k,aU e y=true:=by
  intro y hy;obtain ⟨p,hp,rfl⟩:=GT hy;simp at hp;refine nJ L e L.length (k+p) _ (by omega) (by omega) ?_;rw [j' (by omega)];simp
 have hL:∀x ∈ L.take k,aU e x=false:=by
  intro x hx;obtain ⟨p,hp,rfl⟩:=GT hx;simp at hp;have B:0<k:=by omega
  have n:k - 1<L.length:=by omega
  have h1:aU e (L[k - 1]'n)=false:=vk L e L.length _ (by omega) (by rw [← hk];exact j' n) (Gg _);simp only [Hf];by_cases o:p=k - 1
  · subst o;exact h1
  · have h2:=(GO.1 h) p (k - 1) (by omega) n (by omega);exact jo h1 h2
 have u:mS (L.take k++L.drop k):=by rw [GK];exact h
 have m:=Hh.1 u;unfold eK;rw [← hk];refine Hh.2 ⟨m.1,?_,?_⟩
 · refine Hh.2 ⟨ID _ _,m.2.1,?_⟩;intro a ha b hb;simp only [GC] at ha;subst ha;exact vD (hR b hb)
 · intro a ha b hb;rcases Gw.1 hb with hb | hb
   · simp only [GC] at hb;subst hb;exact hL a ha
   · exact m.2.2 a ha b hb
theorem ve (L:List ac) (e:ac):(eK L e).Perm (L++[e]):=by
 unfold eK;generalize lE L e L.length=k;have h1:(L.take k++([e]++L.drop k)).Perm (L.take k++(L.drop k++[e])):=List.Perm.append_left _ List.perm_append_comm;have h2:L.take k++(L.drop k++[e])=L++[e]:=by rw [← GJ,GK]
 rw [h2] at h1;exact h1
theorem bO (L:List ac):mS (bG L)∧(bG L).Perm L:=by
 have:∀(L A:List ac),mS A→mS (L.foldl eK A)∧(L.foldl eK A).Perm (A++L):=by
  intro L;induction L with
  | nil=>intro A h;exact ⟨h,by simp⟩
  | cons e r m =>
   intro A h;obtain ⟨h1,h2⟩:=m (eK A e) (Bs h);refine ⟨h1,?_⟩;rw [List.foldl_cons];refine h2.trans ?_;have:=(ve A e).append_right r;simpa using this
 have h:=this L [] List.Pairwise.nil;simpa [bG] using h
theorem jG {B:List ac} (hA:uw A) (hB:mS B) (m:A.Perm B):A=B:=by
 induction A generalizing B with
 | nil=>exact (List.Perm.nil_eq m)
 | cons a A C =>
  cases B with
  | nil=>exact absurd m.length_eq (by simp)
  | cons b B =>
   have n:a=b:=by
    by_cases e:a=b
    · exact e
    · exfalso
      have hb:=m.mem_iff.2 (GI ..);have ha:=m.mem_iff.1 (GI ..);have u:b ∈ A:=(Gz.1 hb).resolve_left (fun h=>e h.symm);have o:=(Gz.1 ha).resolve_left e;have h1:=(GG.1 hA).1 b u;have h2:=(GG.1 hB).1 a o;rw [h1] at h2;cases h2
   subst n;rw [C (GG.1 hA).2 (GG.1 hB).2 (List.Perm.cons_inv m)]
theorem gY (h:aI L=true):uw L:=by
 refine GO.2 ?_;intro i j hi m e;exact fu h e (j' hi) (j' m)
theorem xr {e:ac} (h:L[k]?=some e):bG (L.take (k+1))=eK (bG (L.take k)) e:=by
 unfold bG;rw [GH,h];simp
theorem kL (L:List ac):(bG L).length=L.length:=by
 have:∀(L A:List ac),(L.foldl eK A).length=A.length+L.length:=by
  intro L;induction L with
  | nil=>intro A;simp
  | cons e r m=>intro A;rw [List.foldl_cons,m,pV,GR];omega
 have h:=this L [];simpa [bG] using h
theorem pw (h:aU y x=false):fK x.1 y.1=true:=by
 rw [dK];unfold aU bF at h;rw [Bool.or_eq_false_iff] at h;rw [GS,GS,h.1];rfl
theorem er (h:mS A) {e:ac} (n:e ∈ A):fK (bh A) e.1=true∧fK e.1 (aQ A)=true:=by
 obtain ⟨j,m,rfl⟩:=GT n;obtain ⟨f,hf,hl⟩:=mD (L:=A) (by omega);obtain ⟨g,hg,hh⟩:=iV (L:=A) (by omega);have hp:=GO.1 h;obtain ⟨h0,rfl⟩:=F'.1 hf;obtain ⟨h1,rfl⟩:=F'.1 hg;rw [hl,hh];constructor
 · by_cases hz:j=0
   · subst hz;exact eW _
   · exact pw (hp 0 j h0 m (by omega))
 · by_cases hz:j=A.length - 1
   · subst hz;exact eW _
   · exact pw (hp j (A.length - 1) m h1 (by omega))
theorem lV (h:1≤A.length):∃e ∈ A,bh A=e.1:=by
 obtain ⟨f,hf,hl⟩:=mD (L:=A) (by omega);exact ⟨f,Gk hf,hl⟩
theorem y7 (h:1≤A.length):∃e ∈ A,aQ A=e.1:=by
 obtain ⟨f,hf,hl⟩:=iV (L:=A) (by omega);exact ⟨f,Gk hf,hl⟩
theorem xF {B:List af} {n:af} (h0:n ∈ B) (u:∀r ∈ B,aI r.1=true∧1≤r.1.length) {A:List ac} (hA:A=bG (bE B).flatten):bh A=fJ (bh n.1) B∧aQ A=dw (aQ n.1) B:=by
 have hs:=bO (bE B).flatten;rw [← hA] at hs;have m:∀e,e ∈ A ↔ ∃r ∈ B,e ∈ r.1:=fun e=>by
  rw [hs.2.mem_iff,Im];constructor
  · rintro ⟨l,hl,o⟩;obtain ⟨r,hr,rfl⟩:=G9.1 hl;exact ⟨r,hr,o⟩
  · rintro ⟨r,hr,o⟩;exact ⟨r.1,G9.2 ⟨r,hr,rfl⟩,o⟩
 have E:∀r ∈ B,∀e ∈ r.1,fK (bh r.1) e.1=true:=fun r hr e o=>by
  rcases kQ (u r hr).1 o with h | h
  · rw [h];exact eW _
  · unfold fK;rw [h];rfl
 have D:∀r ∈ B,∀e ∈ r.1,fK e.1 (aQ r.1)=true:=fun r hr e o=>by
  rcases lQ (u r hr).1 o with h | h
  · rw [← h];exact eW _
  · unfold fK;rw [h];rfl
 have F:1≤A.length:=by
  obtain ⟨e,o,_⟩:=lV (u n h0).2;have:e ∈ A:=(m e).2 ⟨n,h0,o⟩;exact List.length_pos_of_mem this
 constructor
 · obtain ⟨e,o,hl⟩:=lV F;obtain ⟨r,hr,C⟩:=(m e).1 o;have h1:fK (fJ (bh n.1) B) (bh A)=true:=by rw [hl];exact cT ((yX B _).2 r hr) (E r hr e C)
   have h2:fK (bh A) (fJ (bh n.1) B)=true:=by
    have:∃x ∈ B,fJ (bh n.1) B=bh x.1:=by
     rcases vx B (bh n.1) with h | h
     · exact ⟨n,h0,h⟩
     · exact h
    obtain ⟨x,hx,e2⟩:=this;obtain ⟨d,hd,e3⟩:=lV (u x hx).2;rw [e2,e3];exact (er hs.1 ((m d).2 ⟨x,hx,hd⟩)).1
   exact qr h2 h1
 · obtain ⟨e,o,hl⟩:=y7 F;obtain ⟨r,hr,C⟩:=(m e).1 o;have h1:fK (aQ A) (dw (aQ n.1) B)=true:=by rw [hl];exact cT (D r hr e C) ((vN B _).2 r hr)
   have h2:fK (dw (aQ n.1) B) (aQ A)=true:=by
    have:∃x ∈ B,dw (aQ n.1) B=aQ x.1:=by
     rcases te B (aQ n.1) with h | h
     · exact ⟨n,h0,h⟩
     · exact h
    obtain ⟨x,hx,e2⟩:=this;obtain ⟨d,hd,e3⟩:=y7 (u x hx).2;rw [e2,e3];exact (er hs.1 ((m d).2 ⟨x,hx,hd⟩)).2
   exact qr h1 h2
def rF (O:List af) (r:af):Nat→Nat
 | 0=>0
 | k+1=>match O[k]? with
  | some x=>if nY (bh x.1) (bh r.1) then rF O r k else k+1
  | none=>k+1
def nT (O:List af) (r:af):List af:=O.take (rF O r O.length)++([r]++O.drop (rF O r O.length))
def dH (A B:List af):List af:=B.foldl nT A
theorem vj {X Z:List af} {r:af} (e:∀z ∈ Z,nY (bh z.1) (bh r.1)=true):∀d,d≤Z.length→rF (X++Z) r (X.length+d)=rF (X++Z) r X.length
 | 0,_=>rfl
 | d+1,h=>by
  have hz:(X++Z)[X.length+d]?=some Z[d]:=by
   rw [Gm (by omega),show X.length+d - X.length=d by omega];exact j' (by omega)
  rw [← Ip,rF,hz];simp only [e _ (GQ _),if_true];exact vj e d (by omega)
theorem C4 {X:List af} (m:∀z ∈ Z,nY (bh z.1) (bh r.1)=true) (e:∀x,X.getLast?=some x→nY (bh x.1) (bh r.1)=false):nT (X++Z) r=(X++[r])++Z:=by
 have h1:rF (X++Z) r (X++Z).length=X.length:=by
  rw [Gj,vj m _ (Gg _)];cases hn:X.length with
  | zero=>rfl
  | succ k =>
   obtain ⟨y,hk⟩:∃y,X[k]?=some y:=⟨_,j' (by omega)⟩;have hl:X.getLast?=some y:=by rw [List.getLast?_eq_getElem?,hn];exact hk
   rw [rF,Gt (by omega),hk];simp only [e _ hl,IM,if_false]
 unfold nT;rw [h1];simp
theorem p7:∀(B X Z:List af),(∀r ∈ B,∀z ∈ Z,nY (bh z.1) (bh r.1)=true)→(∀x,X.getLast?=some x→∀r ∈ B,nY (bh x.1) (bh r.1)=false)→B.Pairwise (fun a b=>nY (bh a.1) (bh b.1)=false)→dH (X++Z) B=X++B++Z
 | [],X,Z,_,_,_=>by simp [dH]
 | r :: B,X,Z,m,n,hB=>by
  obtain ⟨h1,h2⟩:=GG.1 hB
  have e:dH (X++Z) (r :: B)=dH (nT (X++Z) r) B:=rfl
  rw [e,C4 (m r (by simp)) (fun x hx=>n x hx r (by simp)),p7 B (X++[r]) Z (fun s hs=>m s (GM _ hs)) (fun x hx s hs=>?_) h2]
  · simp
  · rw [List.getLast?_append] at hx
    simp at hx
    subst hx
    exact h1 s hs
def iS (L:List ac) (i:Nat):ByteArray:=match L[i]? with | some e=>e.1 | none=>⟨#[]⟩
theorem li {e:ac} (h:L[i]?=some e):iS L i=e.1:=by
 unfold iS;rw [h]
def gU (L:List ac) (f i:Nat):Bool:=decide (i=L.length) || (decide (20≤i - f) && !decide (iS L i=iS L (i - 1)))
theorem yV (L:List ac):(Lit.int .i64 ((dG L:Nat):Int)).wf=true:=G5 (by have:=ql L;omega)
def eP (L:List ac) (f i:Nat):af:=((L.drop f).take (i - f),((dG ((L.drop f).take (i - f)):Nat):Int))
def fh (L:List ac):Nat→List af × Nat
 | 0=>([],0)
 | k+1=>if gU L (fh L k).2 (k+1) then ((fh L k).1++[eP L (fh L k).2 (k+1)],k+1) else fh L k
theorem qV {B:List af} (h:fh L k=(B,f)) (hc:gU L f (k+1)=true):fh L (k+1)=(B++[eP L f (k+1)],k+1):=by
 rw [fh,h];simp [hc]
theorem ut {B:List af} (h:fh L k=(B,f)) (hc:gU L f (k+1)=false):fh L (k+1)=(B,f):=by
 rw [fh,h];simp [hc]
theorem tw {B:List af} (hi:1≤i) (h:fh L (i - 1)=(B,f)) (hc:gU L f i=true):fh L i=(B++[eP L f i],i):=by
 obtain ⟨k,rfl⟩:∃k,i=k+1:=⟨i - 1,by omega⟩;exact qV h hc
theorem vV {B:List af} (hi:1≤i) (h:fh L (i - 1)=(B,f)) (hc:gU L f i=false):fh L i=(B,f):=by
 obtain ⟨k,rfl⟩:∃k,i=k+1:=⟨i - 1,by omega⟩;exact ut h hc
end Go.Proofs.YtpobkmjicbobdaaGreat
