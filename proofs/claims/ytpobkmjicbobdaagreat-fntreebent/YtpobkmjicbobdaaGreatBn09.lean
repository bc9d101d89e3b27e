/- Walks. -/
import Derived.Test.YtpobkmjicbobdaaGreatBn08
import Derived.Sort.Grow
import Derived.Sort.Statements
import Derived.Shelf.SlSortCmp.InsertionK
namespace Go.Proofs.YtpobkmjicbobdaaGreat
set_option maxRecDepth 100000
set_option maxHeartbeats 40000000
open Go.RowKit Go.Sort
variable {L LT:List ac} {X b c ct g gt nt:Nat} {d q:Int} {s t:ByteArray} {w wc wd:World}
def jF (L:List ac) (e:ac):Nat→Nat
 | 0=>0
 | k+1=>match L[k]? with
  | none=>k+1
  | some x=>if b7 e.1 e.2.1 x.1 x.2.1=true then jF L e k else k+1
theorem uu (L:List ac) (e:ac):∀k,jF L e k≤k
 | 0=>Nat.le_refl _
 | k+1=>by
  have ih:=uu L e k
  unfold jF
  split
  · exact Nat.le_refl _
  · split <;> omega
def d5 (L:List ac) (e:ac):List ac:=L.take (jF L e L.length)++([e]++L.drop (jF L e L.length))
def bk (L:List ac):List ac:=L.foldl d5 []
theorem lc (L:List ac) (e:ac):(d5 L e).length=L.length+1:=by
 have:=uu L e L.length;simp [d5];omega
theorem bQ (w:World) (base:Nat) (h:base≤w.heap.size):ay (w.alloc (.cells #[] 50)) base w.heap.size 0 0 []:=by
 have:=World.ownsRow_lit (base:=base) (e:=50) (size:=5) w #[] 0 (by first | exact h | simp) (by first | exact h | simp) (by first | exact h | simp);exact ⟨by simpa [aE] using this,rfl,by simp⟩
theorem dF (w:World) (s t:ByteArray) (q d n:Int) (h:ec (s,q,d,t,n)):aj (w.alloc (.cells #[.string s,iT q,iT d,.string t,iT n] 50)) (some ⟨w.heap.size,0,none⟩) 1 1 [(s,q,d,t,n)]:=by
 refine ⟨rfl,Nat.le_refl _,by unfold maxLen;omega,fun l hl=>by simp only [List.mem_singleton] at hl;subst hl;exact h,(fun e=>by cases e),(fun x e _=>by cases e;exact ⟨by simp,rfl⟩),?_⟩;rintro x e i hi;cases e;have:i=0:=by simp at hi;omega
 subst this;exact ⟨by simp,by simp,by simp,by simp,by simp⟩
theorem bO {n:Nat} (h:aj w (pT b) n c L):∀j u,(aE L)[j]?=some u→w.cell? ((⟨b,0,none⟩:Addr).add j)=some u:=by
 intro j u hj;have hlt:j<(aE L).length:=(List.getElem?_eq_some_iff.1 hj).1;rw [bi] at hlt;have hi:j / 5<L.length:=by omega
 obtain ⟨c0,c1,c2,c3,c4⟩:=h.cells _ rfl (j / 5) hi;obtain ⟨r0,r1,r2,r3,r4⟩:=fs L (j / 5) L[j / 5] (List.getElem?_eq_getElem hi);rw [Go.WideShapes.add_plain,Nat.zero_add];simp only [Nat.zero_add] at c0 c1 c2 c3 c4;have:j=j / 5*5∨j=j / 5*5+1∨j=j / 5*5+2∨j=j / 5*5+3∨j=j / 5*5+4:=by omega
 rcases this with e | e | e | e | e
 · rw [← e] at r0 c0;rw [r0] at hj;cases hj;exact c0
 · rw [← e] at r1 c1;rw [r1] at hj;cases hj;exact c1
 · rw [← e] at r2 c2;rw [r2] at hj;cases hj;exact c2
 · rw [← e] at r3 c3;rw [r3] at hj;cases hj;exact c3
 · rw [← e] at r4 c4;rw [r4] at hj;cases hj;exact c4
theorem xJ {n k:Nat} (h:aj w (pT b) n c L) (hk:k≤n):aj w (pT b) k c (L.take k) where
 length:=by have:=h.length;simp;omega
 room:=by have:=h.room;omega
 big:=h.big
 ents:=fun l hl=>h.ents l (List.mem_of_mem_take hl)
 nil:=fun e=>by cases e
 lies:=fun x e hp=>h.lies x e (by omega)
 cells:=fun x e i hi=>by
  have hi':i<L.length:=by simp at hi;omega
  have:=h.cells x e i hi'
  simpa using this
theorem xK {n:Nat} (h:aj w (pT b) n c L) (k:Nat):∀j u,(aE (L.drop k))[j]?=some u→w.cell? ((⟨b,k*5,none⟩:Addr).add j)=some u:=by
 intro j u hj;have hf:aE L=aE (L.take k)++aE (L.drop k):=by rw [← aU,List.take_append_drop]
 by_cases hk:k≤L.length
 · have h1:(aE L)[k*5+j]?=some u:=by
    rw [hf,List.getElem?_append_right (by rw [bi,List.length_take];omega),bi,List.length_take,Nat.min_eq_left hk,Nat.add_sub_cancel_left];exact hj
   have h2:=bO h _ u h1;rw [Go.WideShapes.add_plain,Nat.zero_add] at h2;rw [Go.WideShapes.add_plain];exact h2
 · rw [List.drop_of_length_le (by omega)] at hj;simp [aE] at hj
theorem aG {base e size n:Nat} {v:Value} {xs:List Value} {g0:Addr} {n0 c0 m:Nat} (h:w.ownsRow base e size v n xs) (hn:v=nZ ↔ Value.slice (some g0) n0 c0=nZ∧m=0):∃g c,v=sL g n c :=
 oh h (fun e=>by cases (hn.1 e).1)
structure fm (w wc:World) (X gt nt ct:Nat) (s t:ByteArray) (q d n:Int) (LT:List ac):Prop where
 low:Bl w wc
 hi:w.heap.size+1≤wc.heap.size
 x0:wc.cell? ⟨X,0,none⟩=some (.string s)
 x1:wc.cell? ⟨X,1,none⟩=some (iT q)
 x2:wc.cell? ⟨X,2,none⟩=some (iT d)
 x3:wc.cell? ⟨X,3,none⟩=some (.string t)
 x4:wc.cell? ⟨X,4,none⟩=some (iT n)
 tl:ay wc (w.heap.size+1) gt nt ct LT
theorem fm.lt {n:Int} (h:fm w wc X gt nt ct s t q d n LT):X<wc.heap.size:=World.block_lt_of_cell? _ _ h.x0
theorem fm.below {n:Int} (h:fm w wc X gt nt ct s t q d n LT) (hb:Bl wc wd):fm w wd X gt nt ct s t q d n LT :=
 ⟨h.low.trans (hb.mono h.low.size),Nat.le_trans h.hi hb.size,cell_later hb h.x0,cell_later hb h.x1,cell_later hb h.x2,cell_later hb h.x3,cell_later hb h.x4,h.tl.below hb⟩
theorem fm.grown {n:Int} (h:fm w wc X gt nt ct s t q d n LT) (hg:wc.grownBy wd (some g)) (hw:w.heap.size≤g) (n1:X≠g) (n2:gt≠g):fm w wd X gt nt ct s t q d n LT :=
 ⟨h.low.grown hg h.low.size (fun k e=>by cases e;exact hw),Nat.le_trans h.hi hg.size,(ah hg (x:=⟨X,0,none⟩) h.lt n1).trans h.x0,(ah hg (x:=⟨X,1,none⟩) h.lt n1).trans h.x1,(ah hg (x:=⟨X,2,none⟩) h.lt n1).trans h.x2,(ah hg (x:=⟨X,3,none⟩) h.lt n1).trans h.x3,(ah hg (x:=⟨X,4,none⟩) h.lt n1).trans h.x4,h.tl.grown hg (fun e=>n2 (by cases e;rfl))⟩
theorem aj.grownE {w':World} {len cap:Nat} (h:aj w (pT b) len cap L) (hg:w.grownBy w' (some g)) (hne:b≠g):aj w' (pT b) len cap L :=
 h.moved hg.size (fun x e hp o=>by
  cases e
  have:=(h.lies _ rfl hp).1
  exact ah hg (x:=⟨b,o,none⟩) this hne)
theorem rc (b len cap:Nat) (L:List ac) (s t:ByteArray) (q d n:Int) (w:World) (hL:aj w (pT b) len cap L) (hbw:b<w.heap.size) (hlen:len≤1048576) (hE:ec (s,q,d,t,n)) :
 Calls Tryz.prog 159 #[sL b len cap,.agg #[.string s,iT q,iT d,.string t,iT n]] w fun e w'=>∃g c,e=.returned (sL g (len+1) c)∧ay w' w.heap.size g (len+1) c (d5 L (s,q,d,t,n))∧Bl w w':=by
 have HLEN:Hid (L.length=len):=hL.length;have HENTS:Hid (∀l ∈ L,ec l):=hL.ents;have HEW:=b6 hE;have hbl:=hL.room;have hbc:=hL.big;unfold maxLen at hbc;have HL:=b6 hL;obtain ⟨X,hX⟩:=aS w.heap.size;obtain ⟨W,hW⟩:=aS (w.alloc (.cells #[.string s,iT q,iT d,.string t,iT n] 50));have x0:W.cell? ⟨X,0,none⟩=some (.string s):=by rw [hW,hX];simp
 have x1:W.cell? ⟨X,1,none⟩=some (iT q):=by rw [hW,hX];simp
 have x2:W.cell? ⟨X,2,none⟩=some (iT d):=by rw [hW,hX];simp
 have x3:W.cell? ⟨X,3,none⟩=some (.string t):=by rw [hW,hX];simp
 have x4:W.cell? ⟨X,4,none⟩=some (iT n):=by rw [hW,hX];simp
 have kW:Bl w W:=by rw [hW];exact bZ
 have hWs:w.heap.size+1≤W.heap.size:=by rw [hW];simp
 have HXW:Hid (X=w.heap.size):=hX;have HKW:Hid (Bl w W):=kW;have HWS:Hid (w.heap.size+1≤W.heap.size):=hWs;obtain ⟨i0,hi,hz0,hz1,hz2⟩:=info_parts Tryz.infoEnt;go_enter Tryz.func159,Tryz.ntmps159
 go_upto_block 0 with fail
 rw [← hW,← hX];clear hW hX kW hL hWs hE;go_cut [5] (fun kv wz=>∃j:Nat,kv=iT j∧j≤len∧jF L (s,q,d,t,n) len=j∧Bl W wz)
 case first =>
  go_wp2_with fail
  go_loopw [5] (fun kv wr=>∃j:Nat,j≤len∧kv=iT j∧Bl W wr∧jF L (s,q,d,t,n) len=jF L (s,q,d,t,n) j) (fun kv _=>(intOf kv).toNat)
  case atStart=>exact ⟨len,Nat.le_refl _,rfl,Below.refl _ _,rfl⟩
  case round =>
   obtain ⟨j,hj,rfl,hb,hpl⟩:=hrel;have HPL:Hid (jF L (s,q,d,t,n) len=jF L (s,q,d,t,n) j):=hpl;clear hpl;by_cases hj0:j=0
   · have hj0I:¬(0:Int)<(j:Int):=by omega
     have hj0d:decide ((0:Int)<(j:Int))=false:=decide_eq_false hj0I;have HJ:Hid (jF L (s,q,d,t,n) len=j):=by show jF L (s,q,d,t,n) len=j;rw [HPL.out,hj0];rfl
     have hj0N:¬0<j:=by omega
     have hj0e:decide (0<j)=false:=decide_eq_false hj0N;clear hj0;go_wp2_with fail
     have y0:=cell_later hb x0;have y1:=cell_later hb x1;have y2:=cell_later hb x2;have y3:=cell_later hb x3;have y4:=cell_later hb x4;have k0:Bl wr wr.drew:=(Below.refl _ wr).drew;have HMK:Hid (∀w',Bl wr w'→(w'.cell? ⟨X,0,none⟩=some (.string s)∧w'.cell? ⟨X,1,none⟩=some (iT q)∧w'.cell? ⟨X,2,none⟩=some (iT d)∧w'.cell? ⟨X,3,none⟩=some (.string t)∧w'.cell? ⟨X,4,none⟩=some (iT n)∧X<w'.heap.size)):=fun w' kk=>⟨cell_later kk y0,cell_later kk y1,cell_later kk y2,cell_later kk y3,cell_later kk y4,World.block_lt_of_cell? _ _ (cell_later kk y0)⟩
     refine eC HMK k0 fun aa=>?_
     refine aO 0 9 aa ?_;refine aI 9 fun K hK=>?_
     go_simp;refine hK.out _ _ (HMK.out _ k0) fun aa=>?_
     (try go_frame);refine aO 10 1 aa ?_;refine dN ?_;have KZ:Hid (Bl W wr.drew):=hb.trans (k0.mono hb.size);clear k0 HMK aa y0 y1 y2 y3 y4 hb;go_wp2;go_meet
     exact ⟨j,rfl,hj,HJ.out,KZ.out⟩
   · have hjp:(0:Int)<(j:Int):=by omega
     have hjpN:0<j:=by omega
     have hj1:(0:Int)≤(j:Int) - 1:=by omega
     have hj2:(j:Int) - 1<(len:Int):=by omega
     have hj3:(1:Int)≤(j:Int):=by omega
     have hj4:(j:Int)≤(len:Int):=by omega
     have hjt:((j:Int) - 1).toNat=j - 1:=by omega
     have wj:IntKind.i64.wrap ((j:Int) - 1)=(j:Int) - 1:=by rw [IntWalk.i64_left];unfold wrap64;omega
     have hbb:b<W.heap.size:=Nat.lt_of_lt_of_le hbw HKW.out.size;obtain ⟨s',q',d',t',n',hg',hlw',g0',g1',g2',g3',g4'⟩:=(HL.out.keep HKW.out).ent hb hbb (j - 1) (by omega);have HG:Hid (L[j - 1]?=some (s',q',d',t',n')):=hg';simp only [Nat.zero_add] at g0' g1' g2' g3' g4';clear hg' hlw';obtain ⟨B,hB⟩:=aS (b7 s q s' q');have CL:Hid (∀w,Calls Tryz.prog 144 #[.agg #[.string s,iT q,iT d,.string t,iT n],.agg #[.string s',iT q',iT d',.string t',iT n']] w fun e w'=>e=.returned (.bool B)∧Bl w w'):=by rw [hB];exact fun w=>sy s t s' t' q d n q' d' n' w
     have HPB:Hid (jF L (s,q,d,t,n) j=if B=true then jF L (s,q,d,t,n) (j - 1) else j):=by
      show jF L (s,q,d,t,n) j=_
      obtain ⟨i,rfl⟩:∃i,j=i+1:=⟨j - 1,by omega⟩;rw [hB];conv=>lhs;unfold jF
      have hg:=HG.out;simp only [Nat.add_sub_cancel] at hg ⊢;simp only [hg]
     clear hB;go_wp2_with fail
     have y0:=cell_later hb x0;have y1:=cell_later hb x1;have y2:=cell_later hb x2;have y3:=cell_later hb x3;have y4:=cell_later hb x4;have k0:Bl wr wr.drew:=(Below.refl _ wr).drew;have HMK:Hid (∀w',Bl wr w'→(w'.cell? ⟨X,0,none⟩=some (.string s)∧w'.cell? ⟨X,1,none⟩=some (iT q)∧w'.cell? ⟨X,2,none⟩=some (iT d)∧w'.cell? ⟨X,3,none⟩=some (.string t)∧w'.cell? ⟨X,4,none⟩=some (iT n)∧X<w'.heap.size∧w'.cell? ⟨b,(j - 1)*5,none⟩=some (.string s')∧w'.cell? ⟨b,(j - 1)*5+1,none⟩=some (iT q')∧w'.cell? ⟨b,(j - 1)*5+2,none⟩=some (iT d')∧w'.cell? ⟨b,(j - 1)*5+3,none⟩=some (.string t')∧w'.cell? ⟨b,(j - 1)*5+4,none⟩=some (iT n')∧b<w'.heap.size)):=fun w' kk=>⟨cell_later kk y0,cell_later kk y1,cell_later kk y2,cell_later kk y3,cell_later kk y4,World.block_lt_of_cell? _ _ (cell_later kk y0),cell_later kk g0',cell_later kk g1',cell_later kk g2',cell_later kk g3',cell_later kk g4',World.block_lt_of_cell? _ _ (cell_later kk g0')⟩
     refine eC HMK k0 fun aa=>?_
     refine aO 0 9 aa ?_;refine aI 9 fun K hK=>?_
     go_simp;refine (CL.out _).mono ?_;rintro e w1 ⟨rfl,b1⟩;have k1:Bl wr w1:=k0.trans (b1.mono k0.size);go_wp2_with fail
     refine hK.out _ _ (HMK.out _ k1) fun aa=>?_
     (try go_frame);refine aO 10 1 aa ?_;refine dN ?_;cases B with
     | true =>
      go_wp2;go_roundw
      case rel=>exact ⟨j - 1,by omega,by congr 1;omega,hb.trans (k1.mono hb.size),by rw [HPL.out,HPB.out];rfl⟩
      case measure=>simp [intOf];omega
     | false =>
      have HJ:Hid (jF L (s,q,d,t,n) len=j):=by show jF L (s,q,d,t,n) len=j;rw [HPL.out,HPB.out];rfl
      have KZ:Hid (Bl W w1):=hb.trans (k1.mono hb.size);clear k0 k1 HMK aa y0 y1 y2 y3 y4 hb b1 g0' g1' g2' g3' g4';go_wp2;go_meet
      exact ⟨j,rfl,hj,HJ.out,KZ.out⟩
 case rest =>
  obtain ⟨j,rfl,hj,hJ,kz⟩:=hcut;obtain ⟨wz,hwz⟩:=aS wc;rw [← hwz] at kz ⊢;have HJ:Hid (jF L (s,q,d,t,n) len=j):=hJ;clear hwz hJ;have kzw:Bl w wz:=HKW.out.trans (kz.mono HKW.out.size);have hzs:w.heap.size+1≤wz.heap.size:=Nat.le_trans HWS.out kz.size;have z0:=cell_later kz x0;have z1:=cell_later kz x1;have z2:=cell_later kz x2;have z3:=cell_later kz x3;have z4:=cell_later kz x4;have HLz:Hid (aj wz (pT b) len cap L):=HL.out.keep kzw;have HPUT:Hid (d5 L (s,q,d,t,n)=L.take j++([(s,q,d,t,n)]++L.drop j)):=by show d5 L (s,q,d,t,n)=_;unfold d5;rw [HLEN.out,HJ.out]
  have HW7:Hid (∀l ∈ L.take j++[(s,q,d,t,n)],ec l):=fun l hl=>by rcases List.mem_append.1 hl with h1 | h1;exact HENTS.out l (List.mem_of_mem_take h1);simp only [List.mem_singleton] at h1;subst h1;exact HEW.out
  have HW9:Hid (∀l ∈ d5 L (s,q,d,t,n),ec l):=fun l hl=>by rw [HPUT.out,← List.append_assoc] at hl;rcases List.mem_append.1 hl with h1 | h1;exact HW7.out l h1;exact HENTS.out l (List.mem_of_mem_drop h1)
  have kt:Bl wz (wz.alloc (.cells #[] 50)):=bZ;have HT0:Hid (ay (wz.alloc (.cells #[] 50)) (w.heap.size+1) wz.heap.size 0 0 []):=bQ wz _ hzs;have HLT:Hid (aj (wz.alloc (.cells #[] 50)) (pT b) len cap L):=HLz.out.keep kt;have HS0:Hid (fm w (wz.alloc (.cells #[] 50)) X wz.heap.size 0 0 s t q d n []):=⟨kzw.trans (kt.mono kzw.size),Nat.le_trans hzs kt.size,cell_later kt z0,cell_later kt z1,cell_later kt z2,cell_later kt z3,cell_later kt z4,HT0.out⟩;clear kz z0 z1 z2 z3 z4 kt kzw HLz;go_upto_region 4 with fail
  go_cut [6] (fun tv wt=>∃gt ct,tv=sL gt (len - j) ct∧fm w wt X gt (len - j) ct s t q d n (L.drop j))
  case first =>
   by_cases hck:cap=j
   · subst hck;have HL0:Hid (len - cap=0):=by show len - cap=0;omega
     have HD0:Hid (L.drop cap=[]):=List.drop_of_length_le (by rw [HLEN.out];omega);go_wp2;go_meet
     exact ⟨wz.heap.size,0,by rw [HL0.out],by rw [HL0.out,HD0.out];exact HS0.out⟩
   · have hckI:¬(cap:Int)=(j:Int):=by omega
     have HFL:Hid ((aE (L.drop j)).length=(len - j)*5):=by show _=_;rw [bi,List.length_drop,HLEN.out]
     go_wp2_with (at_builtin;refine wpList_append_own _ rfl _ _ 28 rfl (w.heap.size+1) 50 i0 _ 5 56 Tryz.underlying28 hi hz0 hz1 hz2 rfl (by decide) _ _ _ rfl HT0.out.owns ⟨b,j*5,none⟩ (len - j) (cap - j) (aE (L.drop j)) rfl HFL.out (xK HLT.out j) (aQ _) (by unfold maxLen;omega) (by omega) HS0.out.hi ?_;intro vt wt hownt hgrowt hnilt;obtain ⟨gt,ct,rfl⟩:=oh hownt (fun e=>by cases (hnilt.1 e).1))
     have hz':=HS0.out;have nXo:some X≠(sL (wz.heap.size) 0 0).ownBlock:=by have h1:=HXW.out;simp [Value.ownBlock];omega
     have ST:Hid (fm w wt X gt (len - j) ct s t q d n (L.drop j)):=⟨hz'.low.grown hgrowt hz'.low.size (fun k e=>by have h1:wz.heap.size=k:=Option.some.inj e;omega),Nat.le_trans hz'.hi hgrowt.size,hgrowt.cell hz'.x0 nXo,hgrowt.cell hz'.x1 nXo,hgrowt.cell hz'.x2 nXo,hgrowt.cell hz'.x3 nXo,hgrowt.cell hz'.x4 nXo,⟨by first | exact hownt | (have h0:=hownt;rw [Nat.zero_add] at h0;exact h0),by rw [List.length_drop,HLEN.out],fun l hl=>HENTS.out l (List.mem_of_mem_drop hl)⟩⟩;clear hownt hgrowt hnilt hz' nXo;try simp only [Nat.zero_add]
     go_meet
     exact ⟨gt,ct,rfl,ST.out⟩
  case rest =>
   obtain ⟨gt,ct,rfl,hst⟩:=hcut;obtain ⟨wt,hwt⟩:=aS wc;rw [← hwt] at hst ⊢;have ST:Hid (fm w wt X gt (len - j) ct s t q d n (L.drop j)):=hst;have hnt:j+1+(len - j)=len+1:=by omega
   clear hwt hst HT0 HLT HS0 hzs;have k0:fm w wt.drew X gt (len - j) ct s t q d n (L.drop j):=ST.out.below (Below.refl _ wt).drew;have HMK:Hid (∀w',fm w w' X gt (len - j) ct s t q d n (L.drop j)→(w'.cell? ⟨X,0,none⟩=some (.string s)∧w'.cell? ⟨X,1,none⟩=some (iT q)∧w'.cell? ⟨X,2,none⟩=some (iT d)∧w'.cell? ⟨X,3,none⟩=some (.string t)∧w'.cell? ⟨X,4,none⟩=some (iT n)∧X<w'.heap.size)):=fun w' kk=>⟨kk.x0,kk.x1,kk.x2,kk.x3,kk.x4,kk.lt⟩
   have HLD:Hid (∀w',Bl w w'→aj w' (pT b) j cap (L.take j)):=fun w' kk=>xJ (HL.out.keep kk) (by omega)
   have hgt:=ST.out.tl.lt;have hjc:j≤cap:=by omega
   have hjcI:(j:Int)≤(cap:Int):=by omega
   go_wp2_with fail
   refine eC HMK k0 fun aa=>?_
   generalize wt.drew=wd at k0 aa ⊢;refine aO 1 3 aa ?_;refine aO 5 1 aa ?_;refine aO 8 1 aa ?_;refine iU 0 6 (fun K hK=>?_) fun K hK=>?_
   · go_simp;have kA:Bl wd (wd.alloc (.cells #[] 50)):=bZ;have sA:=k0.below kA;have rA:ay (wd.alloc (.cells #[] 50)) wd.heap.size wd.heap.size 0 0 []:=bQ wd _ (Nat.le_refl _);have hga0:w.heap.size+1≤wd.heap.size:=k0.hi;have hgta:gt<wd.heap.size:=k0.tl.lt.2;generalize hga:wd.heap.size=ga at rA hga0 hgta ⊢;generalize wd.alloc (.cells #[] 50)=wa at sA rA kA ⊢;refine hK.out _ _ (HMK.out _ sA) fun aa=>?_
     (try go_frame);refine iU 4 6 (fun K hK=>?_) fun K hK=>?_
     · refine ax rfl (.tmp 27) (.tmp 30) 28 rfl ga 50 i0 _ 5 56 Tryz.underlying28 hi hz0 hz1 hz2 rfl (Nat.succ_pos 4) _ _ _ rfl rA.owns ⟨b,0,none⟩ j cap (aE (L.take j)) rfl ?_ (bO (HLD.out _ sA.low)) (aQ _) ?_ ?_ ?_ ?_
       · rw [bi,List.length_take,HLEN.out];congr 1;omega
       · unfold maxLen;omega
       · omega
       · have:=rA.lt;omega
       intro v4 w4 hown4 hgrow4 hnil4;obtain ⟨g4,c4,rfl⟩:=aG hown4 hnil4;have hgrow4':wa.grownBy w4 (some ga):=hgrow4;have s4:=sA.grown hgrow4' (by omega) (by have:=HXW.out;omega) (by omega);have r4:ay w4 ga g4 j c4 (L.take j):=⟨by first | exact hown4 | (have h0:=hown4;rw [Nat.zero_add] at h0;exact h0),by simp [HLEN.out];omega,fun l hl=>HENTS.out l (List.mem_of_mem_take hl)⟩;simp only [Nat.zero_add];refine hK.out _ _ (HMK.out _ s4) fun aa=>?_
       (try go_frame);refine aI 6 fun K hK=>?_
       go_simp;have kN:Bl w4 (w4.alloc (.cells #[.string s,iT q,iT d,.string t,iT n] 50)):=bZ;have sN:=s4.below kN;have rN:aj (w4.alloc (.cells #[.string s,iT q,iT d,.string t,iT n] 50)) (some ⟨w4.heap.size,0,none⟩) 1 1 [(s,q,d,t,n)]:=dF w4 _ _ _ _ _ HEW.out;have hgn0:w.heap.size+1≤w4.heap.size:=s4.hi;have rR:=r4.below kN;have hgn:g4≠w4.heap.size:=by have:=r4.lt.2;omega
       generalize hgg:w4.heap.size=gn at rN hgn0 hgn ⊢;generalize w4.alloc (.cells #[.string s,iT q,iT d,.string t,iT n] 50)=wn at sN rN rR kN ⊢;refine hK.out _ _ (HMK.out _ sN) fun aa=>?_
       (try go_frame);refine aI 7 fun K hK=>?_
       refine ax rfl (.tmp 31) (.tmp 33) 28 rfl ga 50 i0 _ 5 56 Tryz.underlying28 hi hz0 hz1 hz2 rfl (Nat.succ_pos 4) _ _ _ rfl rR.owns ⟨gn,0,none⟩ 1 1 (aE [(s,q,d,t,n)]) rfl rfl (bO rN) (aQ _) ?_ ?_ ?_ ?_
       · unfold maxLen;omega
       · omega
       · have:=rR.lt;omega
       intro v7 w7 hown7 hgrow7 hnil7;obtain ⟨g7,c7,rfl⟩:=aG hown7 hnil7;have hgrow7':wn.grownBy w7 (some g4):=hgrow7;have s7:=sN.grown hgrow7' (by have:=rR.lt.1;omega) (by have:=rR.lt.1;have:=HXW.out;omega) (by have:=rR.lt.1;omega);have r7:ay w7 ga g7 (j+1) c7 (L.take j++[(s,q,d,t,n)]):=⟨by rw [aU];exact hown7,by simp [HLEN.out];omega,HW7.out⟩;refine hK.out _ _ (HMK.out _ s7) fun aa=>?_
       (try go_frame);refine aI 9 fun K hK=>?_
       refine ax rfl (.tmp 34) (.tmp 35) 28 rfl ga 50 i0 _ 5 56 Tryz.underlying28 hi hz0 hz1 hz2 rfl (Nat.succ_pos 4) _ _ _ rfl r7.owns ⟨gt,0,none⟩ (len - j) ct (aE (L.drop j)) rfl ?_ (bO s7.tl.entsAt) (aQ _) ?_ ?_ ?_ ?_
       · rw [bi,s7.tl.len]
       · unfold maxLen;omega
       · omega
       · have:=r7.lt;omega
       intro v9 w9 hown9 hgrow9 hnil9;obtain ⟨g9,c9,rfl⟩:=aG hown9 hnil9;have hgrow9':w7.grownBy w9 (some g7):=hgrow9;have hb9:Bl w w9:=s7.low.grown hgrow9' s7.low.size (fun k e=>by cases e;have:=r7.lt.1;omega);have z9:X<w9.heap.size:=Nat.lt_of_lt_of_le s7.lt hgrow9.size;refine hK.out _ _ ?_ (fun aa=>?_)
       · have n9:X≠g7:=by have:=r7.lt.1;have:=HXW.out;omega
         exact ⟨(ah hgrow9' (x:=⟨X,0,none⟩) s7.lt n9).trans s7.x0,(ah hgrow9' (x:=⟨X,1,none⟩) s7.lt n9).trans s7.x1,(ah hgrow9' (x:=⟨X,2,none⟩) s7.lt n9).trans s7.x2,(ah hgrow9' (x:=⟨X,3,none⟩) s7.lt n9).trans s7.x3,(ah hgrow9' (x:=⟨X,4,none⟩) s7.lt n9).trans s7.x4,z9⟩
       clear hK K;(try go_frame);refine aO 10 1 aa ?_;refine dN ?_;rw [hnt] at hown9 ⊢;have HO9:Hid (ay w9 w.heap.size g9 (len+1) c9 (d5 L (s,q,d,t,n))):=by
        refine ay.mono (base:=ga) ⟨?_,by rw [lc,HLEN.out],HW9.out⟩ (by omega);rw [HPUT.out,← List.append_assoc,aU];exact hown9
       have HB9:Hid (Bl w w9):=hb9;clear hown9 hgrow9 hnil9 hown7 hgrow7 hnil7 r7 s7 hb9;go_wp2;go_ret;exact ⟨g9,c9,rfl,HO9.out,HB9.out⟩
     · go_simp;have kN:Bl wa (wa.alloc (.cells #[.string s,iT q,iT d,.string t,iT n] 50)):=bZ;have sN:=sA.below kN;have rN:aj (wa.alloc (.cells #[.string s,iT q,iT d,.string t,iT n] 50)) (some ⟨wa.heap.size,0,none⟩) 1 1 [(s,q,d,t,n)]:=dF wa _ _ _ _ _ HEW.out;have hgn0:w.heap.size+1≤wa.heap.size:=sA.hi;have rA':=rA.below kN;have hgn:ga≠wa.heap.size:=by have:=rA.lt.2;omega
       generalize hgg:wa.heap.size=gn at rN hgn0 hgn ⊢;generalize wa.alloc (.cells #[.string s,iT q,iT d,.string t,iT n] 50)=wn at sN rN rA' kN ⊢;refine hK.out _ _ (HMK.out _ sN) fun aa=>?_
       (try go_frame);refine aI 4 fun K hK=>?_
       refine ax rfl (.tmp 27) (.tmp 30) 28 rfl ga 50 i0 _ 5 56 Tryz.underlying28 hi hz0 hz1 hz2 rfl (Nat.succ_pos 4) _ _ _ rfl rA'.owns ⟨b,0,none⟩ j cap (aE (L.take j)) rfl ?_ (bO (HLD.out _ sN.low)) (aQ _) ?_ ?_ ?_ ?_
       · rw [bi,List.length_take,HLEN.out];congr 1;omega
       · unfold maxLen;omega
       · omega
       · have:=rA'.lt;omega
       intro v4 w4 hown4 hgrow4 hnil4;obtain ⟨g4,c4,rfl⟩:=aG hown4 hnil4;have hgrow4':wn.grownBy w4 (some ga):=hgrow4;have s4:=sN.grown hgrow4' (by omega) (by have:=HXW.out;omega) (by omega);have r4:ay w4 ga g4 j c4 (L.take j):=⟨by first | exact hown4 | (have h0:=hown4;rw [Nat.zero_add] at h0;exact h0),by simp [HLEN.out];omega,fun l hl=>HENTS.out l (List.mem_of_mem_take hl)⟩;simp only [Nat.zero_add];have rN4:=rN.grownE hgrow4' (fun e=>hgn e.symm);refine hK.out _ _ (HMK.out _ s4) fun aa=>?_
       (try go_frame);refine aI 7 fun K hK=>?_
       refine ax rfl (.tmp 31) (.tmp 33) 28 rfl ga 50 i0 _ 5 56 Tryz.underlying28 hi hz0 hz1 hz2 rfl (Nat.succ_pos 4) _ _ _ rfl r4.owns ⟨gn,0,none⟩ 1 1 (aE [(s,q,d,t,n)]) rfl rfl (bO rN4) (aQ _) ?_ ?_ ?_ ?_
       · unfold maxLen;omega
       · omega
       · have:=r4.lt;omega
       intro v7 w7 hown7 hgrow7 hnil7;obtain ⟨g7,c7,rfl⟩:=aG hown7 hnil7;have hgrow7':w4.grownBy w7 (some g4):=hgrow7;have s7:=s4.grown hgrow7' (by have:=r4.lt.1;omega) (by have:=r4.lt.1;have:=HXW.out;omega) (by have:=r4.lt.1;omega);have r7:ay w7 ga g7 (j+1) c7 (L.take j++[(s,q,d,t,n)]):=⟨by rw [aU];exact hown7,by simp [HLEN.out];omega,HW7.out⟩;refine hK.out _ _ (HMK.out _ s7) fun aa=>?_
       (try go_frame);refine aI 9 fun K hK=>?_
       refine ax rfl (.tmp 34) (.tmp 35) 28 rfl ga 50 i0 _ 5 56 Tryz.underlying28 hi hz0 hz1 hz2 rfl (Nat.succ_pos 4) _ _ _ rfl r7.owns ⟨gt,0,none⟩ (len - j) ct (aE (L.drop j)) rfl ?_ (bO s7.tl.entsAt) (aQ _) ?_ ?_ ?_ ?_
       · rw [bi,s7.tl.len]
       · unfold maxLen;omega
       · omega
       · have:=r7.lt;omega
       intro v9 w9 hown9 hgrow9 hnil9;obtain ⟨g9,c9,rfl⟩:=aG hown9 hnil9;have hgrow9':w7.grownBy w9 (some g7):=hgrow9;have hb9:Bl w w9:=s7.low.grown hgrow9' s7.low.size (fun k e=>by cases e;have:=r7.lt.1;omega);have z9:X<w9.heap.size:=Nat.lt_of_lt_of_le s7.lt hgrow9.size;refine hK.out _ _ ?_ (fun aa=>?_)
       · have n9:X≠g7:=by have:=r7.lt.1;have:=HXW.out;omega
         exact ⟨(ah hgrow9' (x:=⟨X,0,none⟩) s7.lt n9).trans s7.x0,(ah hgrow9' (x:=⟨X,1,none⟩) s7.lt n9).trans s7.x1,(ah hgrow9' (x:=⟨X,2,none⟩) s7.lt n9).trans s7.x2,(ah hgrow9' (x:=⟨X,3,none⟩) s7.lt n9).trans s7.x3,(ah hgrow9' (x:=⟨X,4,none⟩) s7.lt n9).trans s7.x4,z9⟩
       clear hK K;(try go_frame);refine aO 10 1 aa ?_;refine dN ?_;rw [hnt] at hown9 ⊢;have HO9:Hid (ay w9 w.heap.size g9 (len+1) c9 (d5 L (s,q,d,t,n))):=by
        refine ay.mono (base:=ga) ⟨?_,by rw [lc,HLEN.out],HW9.out⟩ (by omega);rw [HPUT.out,← List.append_assoc,aU];exact hown9
       have HB9:Hid (Bl w w9):=hb9;clear hown9 hgrow9 hnil9 hown7 hgrow7 hnil7 r7 s7 hb9;go_wp2;go_ret;exact ⟨g9,c9,rfl,HO9.out,HB9.out⟩
   · go_simp;have kN:Bl wd (wd.alloc (.cells #[.string s,iT q,iT d,.string t,iT n] 50)):=bZ;have sN:=k0.below kN;have rN:aj (wd.alloc (.cells #[.string s,iT q,iT d,.string t,iT n] 50)) (some ⟨wd.heap.size,0,none⟩) 1 1 [(s,q,d,t,n)]:=dF wd _ _ _ _ _ HEW.out;have hgn0:w.heap.size+1≤wd.heap.size:=k0.hi;generalize hgg:wd.heap.size=gn at rN hgn0 ⊢;generalize wd.alloc (.cells #[.string s,iT q,iT d,.string t,iT n] 50)=wn at sN rN kN ⊢;refine hK.out _ _ (HMK.out _ sN) fun aa=>?_
     (try go_frame);refine aI 0 fun K hK=>?_
     go_simp;have kA:Bl wn (wn.alloc (.cells #[] 50)):=bZ;have rN':=rN.keep kA;have hgn:wn.heap.size≠gn:=by have:=(rN.lies _ rfl (by omega)).1;simp only at this;omega
     have sA:=sN.below kA;have rA:ay (wn.alloc (.cells #[] 50)) wn.heap.size wn.heap.size 0 0 []:=bQ wn _ (Nat.le_refl _);have hga0:w.heap.size+1≤wn.heap.size:=sN.hi;have hgta:gt<wn.heap.size:=sN.tl.lt.2;generalize hga:wn.heap.size=ga at rA hga0 hgta hgn ⊢;generalize wn.alloc (.cells #[] 50)=wa at sA rA kA rN' ⊢;refine hK.out _ _ (HMK.out _ sA) fun aa=>?_
     (try go_frame);refine aI 4 fun K hK=>?_
     refine ax rfl (.tmp 27) (.tmp 30) 28 rfl ga 50 i0 _ 5 56 Tryz.underlying28 hi hz0 hz1 hz2 rfl (Nat.succ_pos 4) _ _ _ rfl rA.owns ⟨b,0,none⟩ j cap (aE (L.take j)) rfl ?_ (bO (HLD.out _ sA.low)) (aQ _) ?_ ?_ ?_ ?_
     · rw [bi,List.length_take,HLEN.out];congr 1;omega
     · unfold maxLen;omega
     · omega
     · have:=rA.lt;omega
     intro v4 w4 hown4 hgrow4 hnil4;obtain ⟨g4,c4,rfl⟩:=aG hown4 hnil4;have hgrow4':wa.grownBy w4 (some ga):=hgrow4;have s4:=sA.grown hgrow4' (by omega) (by have:=HXW.out;omega) (by omega);have r4:ay w4 ga g4 j c4 (L.take j):=⟨by first | exact hown4 | (have h0:=hown4;rw [Nat.zero_add] at h0;exact h0),by simp [HLEN.out];omega,fun l hl=>HENTS.out l (List.mem_of_mem_take hl)⟩;simp only [Nat.zero_add];have rN4:=rN'.grownE hgrow4' (fun e=>hgn e.symm);refine hK.out _ _ (HMK.out _ s4) fun aa=>?_
     (try go_frame);refine aI 7 fun K hK=>?_
     refine ax rfl (.tmp 31) (.tmp 33) 28 rfl ga 50 i0 _ 5 56 Tryz.underlying28 hi hz0 hz1 hz2 rfl (Nat.succ_pos 4) _ _ _ rfl r4.owns ⟨gn,0,none⟩ 1 1 (aE [(s,q,d,t,n)]) rfl rfl (bO rN4) (aQ _) ?_ ?_ ?_ ?_
     · unfold maxLen;omega
     · omega
     · have:=r4.lt;omega
     intro v7 w7 hown7 hgrow7 hnil7;obtain ⟨g7,c7,rfl⟩:=aG hown7 hnil7;have hgrow7':w4.grownBy w7 (some g4):=hgrow7;have s7:=s4.grown hgrow7' (by have:=r4.lt.1;omega) (by have:=r4.lt.1;have:=HXW.out;omega) (by have:=r4.lt.1;omega);have r7:ay w7 ga g7 (j+1) c7 (L.take j++[(s,q,d,t,n)]):=⟨by rw [aU];exact hown7,by simp [HLEN.out];omega,HW7.out⟩;refine hK.out _ _ (HMK.out _ s7) fun aa=>?_
     (try go_frame);refine aI 9 fun K hK=>?_
     refine ax rfl (.tmp 34) (.tmp 35) 28 rfl ga 50 i0 _ 5 56 Tryz.underlying28 hi hz0 hz1 hz2 rfl (Nat.succ_pos 4) _ _ _ rfl r7.owns ⟨gt,0,none⟩ (len - j) ct (aE (L.drop j)) rfl ?_ (bO s7.tl.entsAt) (aQ _) ?_ ?_ ?_ ?_
     · rw [bi,s7.tl.len]
     · unfold maxLen;omega
     · omega
     · have:=r7.lt;omega
     intro v9 w9 hown9 hgrow9 hnil9;obtain ⟨g9,c9,rfl⟩:=aG hown9 hnil9;have hgrow9':w7.grownBy w9 (some g7):=hgrow9;have hb9:Bl w w9:=s7.low.grown hgrow9' s7.low.size (fun k e=>by cases e;have:=r7.lt.1;omega);have z9:X<w9.heap.size:=Nat.lt_of_lt_of_le s7.lt hgrow9.size;refine hK.out _ _ ?_ (fun aa=>?_)
     · have n9:X≠g7:=by have:=r7.lt.1;have:=HXW.out;omega
       exact ⟨(ah hgrow9' (x:=⟨X,0,none⟩) s7.lt n9).trans s7.x0,(ah hgrow9' (x:=⟨X,1,none⟩) s7.lt n9).trans s7.x1,(ah hgrow9' (x:=⟨X,2,none⟩) s7.lt n9).trans s7.x2,(ah hgrow9' (x:=⟨X,3,none⟩) s7.lt n9).trans s7.x3,(ah hgrow9' (x:=⟨X,4,none⟩) s7.lt n9).trans s7.x4,z9⟩
     clear hK K;(try go_frame);refine aO 10 1 aa ?_;refine dN ?_;rw [hnt] at hown9 ⊢;have HO9:Hid (ay w9 w.heap.size g9 (len+1) c9 (d5 L (s,q,d,t,n))):=by
      refine ay.mono (base:=ga) ⟨?_,by rw [lc,HLEN.out],HW9.out⟩ (by omega);rw [HPUT.out,← List.append_assoc,aU];exact hown9
     have HB9:Hid (Bl w w9):=hb9;clear hown9 hgrow9 hnil9 hown7 hgrow7 hnil7 r7 s7 hb9;go_wp2;go_ret;exact ⟨g9,c9,rfl,HO9.out,HB9.out⟩
theorem fY (x y:ac):ltOf (fun x y:ac=>jT x.1 x.2.1 y.1 y.2.1) x y=b7 x.1 x.2.1 y.1 y.2.1:=iB _ _ _ _
theorem qv {ka kb:ByteArray} {qa qb:Int} (h1:b7 ka qa kb qb=false) (h2:b7 kb qb ka qa=false):ka=kb∧qa=qb:=by
 have h:=qw ka kb qa qb;rw [h1,h2] at h;simp at h;exact h
theorem y6:SWO (ltOf (fun x y:ac=>jT x.1 x.2.1 y.1 y.2.1)) where
 irrefl x:=by rw [fY];exact gq _ _
 trans x y z h1 h2:=by rw [fY] at *;exact gN h1 h2
 ntrans x y z h1 h2:=by
  rw [fY] at *;cases h3:b7 x.1 x.2.1 z.1 z.2.1 with
  | false=>rfl
  | true =>
   cases h4:b7 y.1 y.2.1 x.1 x.2.1 with
   | true=>rw [gN h4 h3] at h2;cases h2
   | false =>
    obtain ⟨e1,e2⟩:=qv h1 h4;rw [e1,e2,h2] at h3;cases h3
end Go.Proofs.YtpobkmjicbobdaaGreat
