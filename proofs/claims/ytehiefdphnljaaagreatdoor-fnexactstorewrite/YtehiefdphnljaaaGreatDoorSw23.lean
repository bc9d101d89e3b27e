/- Walks. -/
import Derived.Deep.CutBlock
import Derived.Test.YtehiefdphnljaaaGreatDoorSw22
namespace Go.Proofs.YtehiefdphnljaaaGreatDoor
set_option maxRecDepth 100000
set_option maxHeartbeats 40000000
open Go.RowKit
variable {L LT:List ae} {X b base c ct g gt i nt:Nat} {d q:Int} {s t:ByteArray} {w w' wc wd:World}
def jx (L:List ae) (e:ae):Nat→Nat
 | 0=>0
 | k+1=>match L[k]? with
  | none=>k+1
  | some x=>if b6 e.1 e.2.1 x.1 x.2.1=true then jx L e k else k+1
theorem ti (L:List ae) (e:ae):∀k,jx L e k≤k
 | 0=>Nat.le_refl _
 | k+1=>by
  have ih:=ti L e k
  unfold jx
  split
  · exact Nat.le_refl _
  · split <;> omega
def dq (L:List ae) (e:ae):List ae:=L.take (jx L e L.length)++([e]++L.drop (jx L e L.length))
def bg (L:List ae):List ae:=L.foldl dq []
theorem ki (L:List ae) (e:ae):(dq L e).length=L.length+1:=by
 have:=ti L e L.length;simp [dq];omega
theorem dJ (w:World) (base:Nat) (h:base≤w.heap.size):aE (w.alloc (.cells #[] 59)) base w.heap.size 0 0 []:=by
 have:=World.ownsRow_lit (base:=base) (e:=59) (size:=5) w #[] 0 (by first | exact h | simp) (by first | exact h | simp) (by first | exact h | simp);exact ⟨by simpa [aG] using this,rfl,by simp⟩
theorem gC (w:World) (s t:ByteArray) (q d n:Int) (h:dt (s,q,d,t,n)):an (w.alloc (.cells #[.string s,iT q,iT d,.string t,iT n] 59)) (some ⟨w.heap.size,0,none⟩) 1 1 [(s,q,d,t,n)]:=by
 refine ⟨rfl,Nat.le_refl _,by unfold maxLen;omega,fun l hl=>by simp only [List.mem_singleton] at hl;subst hl;exact h,(fun e=>by cases e),(fun x e _=>by cases e;exact ⟨by simp,rfl⟩),?_⟩;rintro x e i hi;cases e;have:i=0:=by simp at hi;omega
 subst this;exact ⟨by simp,by simp,by simp,by simp,by simp⟩
theorem de {n:Nat} (h:an w (pT b) n c L):∀j u,(aG L)[j]?=some u→w.cell? ((⟨b,0,none⟩:Addr).add j)=some u:=by
 intro j u hj;have hlt:j<(aG L).length:=(List.getElem?_eq_some_iff.1 hj).1;rw [bW] at hlt;have hi:j / 5<L.length:=by omega
 obtain ⟨c0,c1,c2,c3,c4⟩:=h.cells _ rfl (j / 5) hi;obtain ⟨r0,r1,r2,r3,r4⟩:=js L (j / 5) L[j / 5] (List.getElem?_eq_getElem hi);rw [Go.WideShapes.add_plain,Nat.zero_add];simp only [Nat.zero_add] at c0 c1 c2 c3 c4;have:j=j / 5*5∨j=j / 5*5+1∨j=j / 5*5+2∨j=j / 5*5+3∨j=j / 5*5+4:=by omega
 rcases this with e | e | e | e | e
 · rw [← e] at r0 c0;rw [r0] at hj;cases hj;exact c0
 · rw [← e] at r1 c1;rw [r1] at hj;cases hj;exact c1
 · rw [← e] at r2 c2;rw [r2] at hj;cases hj;exact c2
 · rw [← e] at r3 c3;rw [r3] at hj;cases hj;exact c3
 · rw [← e] at r4 c4;rw [r4] at hj;cases hj;exact c4
theorem wI {n k:Nat} (h:an w (pT b) n c L) (hk:k≤n):an w (pT b) k c (L.take k) where
 length:=by have:=h.length;simp;omega
 room:=by have:=h.room;omega
 big:=h.big
 ents:=fun l hl=>h.ents l (List.mem_of_mem_take hl)
 nil:=fun e=>by cases e
 lies:=fun x e hp=>h.lies x e (by omega)
 cells:=fun x e i hi=>by
  have hi':i<L.length:=by simp at hi;omega
  have:=h.cells x e i hi'
  simpa using this
theorem wO {n:Nat} (h:an w (pT b) n c L) (k:Nat):∀j u,(aG (L.drop k))[j]?=some u→w.cell? ((⟨b,k*5,none⟩:Addr).add j)=some u:=by
 intro j u hj;have hf:aG L=aG (L.take k)++aG (L.drop k):=by rw [← bE,List.take_append_drop]
 by_cases hk:k≤L.length
 · have h1:(aG L)[k*5+j]?=some u:=by
    rw [hf,List.getElem?_append_right (by rw [bW,List.length_take];omega),bW,List.length_take,Nat.min_eq_left hk,Nat.add_sub_cancel_left];exact hj
   have h2:=de h _ u h1;rw [Go.WideShapes.add_plain,Nat.zero_add] at h2;rw [Go.WideShapes.add_plain];exact h2
 · rw [List.drop_of_length_le (by omega)] at hj;simp [aG] at hj
theorem bw {e size n:Nat} {v:Value} {xs:List Value} {g0:Addr} {n0 c0 m:Nat} (h:w.ownsRow base e size v n xs) (hn:v=nZ ↔ Value.slice (some g0) n0 c0=nZ∧m=0):∃g c,v=sL g n c :=
 iI h (fun e=>by cases (hn.1 e).1)
structure fa (w wc:World) (X gt nt ct:Nat) (s t:ByteArray) (q d n:Int) (LT:List ae):Prop where
 low:Bl w wc
 hi:w.heap.size+1≤wc.heap.size
 x0:wc.cell? ⟨X,0,none⟩=some (.string s)
 x1:wc.cell? ⟨X,1,none⟩=some (iT q)
 x2:wc.cell? ⟨X,2,none⟩=some (iT d)
 x3:wc.cell? ⟨X,3,none⟩=some (.string t)
 x4:wc.cell? ⟨X,4,none⟩=some (iT n)
 tl:aE wc (w.heap.size+1) gt nt ct LT
theorem fa.lt {n:Int} (h:fa w wc X gt nt ct s t q d n LT):X<wc.heap.size:=World.block_lt_of_cell? _ _ h.x0
theorem fa.below {n:Int} (h:fa w wc X gt nt ct s t q d n LT) (hb:Bl wc wd):fa w wd X gt nt ct s t q d n LT :=
 ⟨h.low.trans (hb.mono h.low.size),Nat.le_trans h.hi hb.size,cell_later hb h.x0,cell_later hb h.x1,cell_later hb h.x2,cell_later hb h.x3,cell_later hb h.x4,h.tl.below hb⟩
theorem fa.grown {n:Int} (h:fa w wc X gt nt ct s t q d n LT) (hg:wc.grownBy wd (some g)) (hw:w.heap.size≤g) (n1:X≠g) (n2:gt≠g):fa w wd X gt nt ct s t q d n LT :=
 ⟨h.low.grown hg h.low.size (fun k e=>by cases e;exact hw),Nat.le_trans h.hi hg.size,(ay hg (x:=⟨X,0,none⟩) h.lt n1).trans h.x0,(ay hg (x:=⟨X,1,none⟩) h.lt n1).trans h.x1,(ay hg (x:=⟨X,2,none⟩) h.lt n1).trans h.x2,(ay hg (x:=⟨X,3,none⟩) h.lt n1).trans h.x3,(ay hg (x:=⟨X,4,none⟩) h.lt n1).trans h.x4,h.tl.grown hg (fun e=>n2 (by cases e;rfl))⟩
theorem an.grownE {len cap:Nat} (h:an w (pT b) len cap L) (hg:w.grownBy w' (some g)) (hne:b≠g):an w' (pT b) len cap L :=
 h.moved hg.size (fun x e hp o=>by
  cases e
  have:=(h.lies _ rfl hp).1
  exact ay hg (x:=⟨b,o,none⟩) this hne)
theorem ur (b len cap:Nat) (L:List ae) (s t:ByteArray) (q d n:Int) (w:World) (hL:an w (pT b) len cap L) (hbw:b<w.heap.size) (hlen:len≤1048576) (hE:dt (s,q,d,t,n)) :
 Calls Tryz.prog 75 #[sL b len cap,.agg #[.string s,iT q,iT d,.string t,iT n]] w fun e w'=>∃g c,e=.returned (sL g (len+1) c)∧aE w' w.heap.size g (len+1) c (dq L (s,q,d,t,n))∧Bl w w':=by
 have HLEN:Hid (L.length=len):=hL.length;have HENTS:Hid (∀l ∈ L,dt l):=hL.ents;have HEW:=ar hE;have hbl:=hL.room;have hbc:=hL.big;unfold maxLen at hbc;have HL:=ar hL;obtain ⟨X,hX⟩:=aw w.heap.size;obtain ⟨W,hW⟩:=aw (w.alloc (.cells #[.string s,iT q,iT d,.string t,iT n] 59));have x0:W.cell? ⟨X,0,none⟩=some (.string s):=by rw [hW,hX];simp
 have x1:W.cell? ⟨X,1,none⟩=some (iT q):=by rw [hW,hX];simp
 have x2:W.cell? ⟨X,2,none⟩=some (iT d):=by rw [hW,hX];simp
 have x3:W.cell? ⟨X,3,none⟩=some (.string t):=by rw [hW,hX];simp
 have x4:W.cell? ⟨X,4,none⟩=some (iT n):=by rw [hW,hX];simp
 have kW:Bl w W:=by rw [hW];exact bZ
 have hWs:w.heap.size+1≤W.heap.size:=by rw [hW];simp
 have HXW:Hid (X=w.heap.size):=hX;have HKW:Hid (Bl w W):=kW;have HWS:Hid (w.heap.size+1≤W.heap.size):=hWs;obtain ⟨i0,hi,hz0,hz1,hz2⟩:=info_parts Tryz.infoEnt;go_enter Tryz.func75,Tryz.ntmps75
 go_upto_block 0 with fail
 rw [← hW,← hX];clear hW hX kW hL hWs hE;go_cut [5] (fun kv wz=>∃j:Nat,kv=iT j∧j≤len∧jx L (s,q,d,t,n) len=j∧Bl W wz)
 case first =>
  go_wp2_with fail
  go_loopw [5] (fun kv wr=>∃j:Nat,j≤len∧kv=iT j∧Bl W wr∧jx L (s,q,d,t,n) len=jx L (s,q,d,t,n) j) (fun kv _=>(intOf kv).toNat)
  case atStart=>exact ⟨len,Nat.le_refl _,rfl,Below.refl _ _,rfl⟩
  case round =>
   obtain ⟨j,hj,rfl,hb,hpl⟩:=hrel;have HPL:Hid (jx L (s,q,d,t,n) len=jx L (s,q,d,t,n) j):=hpl;clear hpl;by_cases hj0:j=0
   · have hj0I:¬(0:Int)<(j:Int):=by omega
     have hj0d:decide ((0:Int)<(j:Int))=false:=decide_eq_false hj0I;have HJ:Hid (jx L (s,q,d,t,n) len=j):=by show jx L (s,q,d,t,n) len=j;rw [HPL.out,hj0];rfl
     have hj0N:¬0<j:=by omega
     have hj0e:decide (0<j)=false:=decide_eq_false hj0N;clear hj0;go_wp2_with fail
     have y0:=cell_later hb x0;have y1:=cell_later hb x1;have y2:=cell_later hb x2;have y3:=cell_later hb x3;have y4:=cell_later hb x4;have k0:Bl wr wr.drew:=(Below.refl _ wr).drew;have HMK:Hid (∀w',Bl wr w'→(w'.cell? ⟨X,0,none⟩=some (.string s)∧w'.cell? ⟨X,1,none⟩=some (iT q)∧w'.cell? ⟨X,2,none⟩=some (iT d)∧w'.cell? ⟨X,3,none⟩=some (.string t)∧w'.cell? ⟨X,4,none⟩=some (iT n)∧X<w'.heap.size)):=fun w' kk=>⟨cell_later kk y0,cell_later kk y1,cell_later kk y2,cell_later kk y3,cell_later kk y4,World.block_lt_of_cell? _ _ (cell_later kk y0)⟩
     refine dC HMK k0 fun aa=>?_
     refine aK 0 9 aa ?_;refine aP 9 fun K hK=>?_
     go_simp;refine hK.out _ _ (HMK.out _ k0) fun aa=>?_
     (try go_frame);refine aK 10 1 aa ?_;refine dN ?_;have KZ:Hid (Bl W wr.drew):=hb.trans (k0.mono hb.size);clear k0 HMK aa y0 y1 y2 y3 y4 hb;go_wp2;go_meet
     exact ⟨j,rfl,hj,HJ.out,KZ.out⟩
   · have hjp:(0:Int)<(j:Int):=by omega
     have hjpN:0<j:=by omega
     have hj1:(0:Int)≤(j:Int) - 1:=by omega
     have hj2:(j:Int) - 1<(len:Int):=by omega
     have hj3:(1:Int)≤(j:Int):=by omega
     have hj4:(j:Int)≤(len:Int):=by omega
     have hjt:((j:Int) - 1).toNat=j - 1:=by omega
     have wj:IntKind.i64.wrap ((j:Int) - 1)=(j:Int) - 1:=by rw [IntWalk.i64_left];unfold wrap64;omega
     have hbb:b<W.heap.size:=Nat.lt_of_lt_of_le hbw HKW.out.size;obtain ⟨s',q',d',t',n',hg',hlw',g0',g1',g2',g3',g4'⟩:=(HL.out.keep HKW.out).ent hb hbb (j - 1) (by omega);have HG:Hid (L[j - 1]?=some (s',q',d',t',n')):=hg';simp only [Nat.zero_add] at g0' g1' g2' g3' g4';clear hg' hlw';obtain ⟨B,hB⟩:=aw (b6 s q s' q');have CL:Hid (∀w,Calls Tryz.prog 102 #[.agg #[.string s,iT q,iT d,.string t,iT n],.agg #[.string s',iT q',iT d',.string t',iT n']] w fun e w'=>e=.returned (.bool B)∧Bl w w'):=by rw [hB];exact fun w=>qS s t s' t' q d n q' d' n' w
     have HPB:Hid (jx L (s,q,d,t,n) j=if B=true then jx L (s,q,d,t,n) (j - 1) else j):=by
      show jx L (s,q,d,t,n) j=_
      obtain ⟨i,rfl⟩:∃i,j=i+1:=⟨j - 1,by omega⟩;rw [hB];conv=>lhs;unfold jx
      have hg:=HG.out;simp only [Nat.add_sub_cancel] at hg ⊢;simp only [hg]
     clear hB;go_wp2_with fail
     have y0:=cell_later hb x0;have y1:=cell_later hb x1;have y2:=cell_later hb x2;have y3:=cell_later hb x3;have y4:=cell_later hb x4;have k0:Bl wr wr.drew:=(Below.refl _ wr).drew;have HMK:Hid (∀w',Bl wr w'→(w'.cell? ⟨X,0,none⟩=some (.string s)∧w'.cell? ⟨X,1,none⟩=some (iT q)∧w'.cell? ⟨X,2,none⟩=some (iT d)∧w'.cell? ⟨X,3,none⟩=some (.string t)∧w'.cell? ⟨X,4,none⟩=some (iT n)∧X<w'.heap.size∧w'.cell? ⟨b,(j - 1)*5,none⟩=some (.string s')∧w'.cell? ⟨b,(j - 1)*5+1,none⟩=some (iT q')∧w'.cell? ⟨b,(j - 1)*5+2,none⟩=some (iT d')∧w'.cell? ⟨b,(j - 1)*5+3,none⟩=some (.string t')∧w'.cell? ⟨b,(j - 1)*5+4,none⟩=some (iT n')∧b<w'.heap.size)):=fun w' kk=>⟨cell_later kk y0,cell_later kk y1,cell_later kk y2,cell_later kk y3,cell_later kk y4,World.block_lt_of_cell? _ _ (cell_later kk y0),cell_later kk g0',cell_later kk g1',cell_later kk g2',cell_later kk g3',cell_later kk g4',World.block_lt_of_cell? _ _ (cell_later kk g0')⟩
     refine dC HMK k0 fun aa=>?_
     refine aK 0 9 aa ?_;refine aP 9 fun K hK=>?_
     go_simp;refine (CL.out _).mono ?_;rintro e w1 ⟨rfl,b1⟩;have k1:Bl wr w1:=k0.trans (b1.mono k0.size);go_wp2_with fail
     refine hK.out _ _ (HMK.out _ k1) fun aa=>?_
     (try go_frame);refine aK 10 1 aa ?_;refine dN ?_;cases B with
     | true =>
      go_wp2;go_roundw
      case rel=>exact ⟨j - 1,by omega,by congr 1;omega,hb.trans (k1.mono hb.size),by rw [HPL.out,HPB.out];rfl⟩
      case measure=>simp [intOf];omega
     | false =>
      have HJ:Hid (jx L (s,q,d,t,n) len=j):=by show jx L (s,q,d,t,n) len=j;rw [HPL.out,HPB.out];rfl
      have KZ:Hid (Bl W w1):=hb.trans (k1.mono hb.size);clear k0 k1 HMK aa y0 y1 y2 y3 y4 hb b1 g0' g1' g2' g3' g4';go_wp2;go_meet
      exact ⟨j,rfl,hj,HJ.out,KZ.out⟩
 case rest =>
  obtain ⟨j,rfl,hj,hJ,kz⟩:=hcut;obtain ⟨wz,hwz⟩:=aw wc;rw [← hwz] at kz ⊢;have HJ:Hid (jx L (s,q,d,t,n) len=j):=hJ;clear hwz hJ;have kzw:Bl w wz:=HKW.out.trans (kz.mono HKW.out.size);have hzs:w.heap.size+1≤wz.heap.size:=Nat.le_trans HWS.out kz.size;have z0:=cell_later kz x0;have z1:=cell_later kz x1;have z2:=cell_later kz x2;have z3:=cell_later kz x3;have z4:=cell_later kz x4;have HLz:Hid (an wz (pT b) len cap L):=HL.out.keep kzw;have HPUT:Hid (dq L (s,q,d,t,n)=L.take j++([(s,q,d,t,n)]++L.drop j)):=by show dq L (s,q,d,t,n)=_;unfold dq;rw [HLEN.out,HJ.out]
  have HW7:Hid (∀l ∈ L.take j++[(s,q,d,t,n)],dt l):=fun l hl=>by rcases List.mem_append.1 hl with h1 | h1;exact HENTS.out l (List.mem_of_mem_take h1);simp only [List.mem_singleton] at h1;subst h1;exact HEW.out
  have HW9:Hid (∀l ∈ dq L (s,q,d,t,n),dt l):=fun l hl=>by rw [HPUT.out,← List.append_assoc] at hl;rcases List.mem_append.1 hl with h1 | h1;exact HW7.out l h1;exact HENTS.out l (List.mem_of_mem_drop h1)
  have kt:Bl wz (wz.alloc (.cells #[] 59)):=bZ;have HT0:Hid (aE (wz.alloc (.cells #[] 59)) (w.heap.size+1) wz.heap.size 0 0 []):=dJ wz _ hzs;have HLT:Hid (an (wz.alloc (.cells #[] 59)) (pT b) len cap L):=HLz.out.keep kt;have HS0:Hid (fa w (wz.alloc (.cells #[] 59)) X wz.heap.size 0 0 s t q d n []):=⟨kzw.trans (kt.mono kzw.size),Nat.le_trans hzs kt.size,cell_later kt z0,cell_later kt z1,cell_later kt z2,cell_later kt z3,cell_later kt z4,HT0.out⟩;clear kz z0 z1 z2 z3 z4 kt kzw HLz;go_upto_region 4 with fail
  go_cut [6] (fun tv wt=>∃gt ct,tv=sL gt (len - j) ct∧fa w wt X gt (len - j) ct s t q d n (L.drop j))
  case first =>
   by_cases hck:cap=j
   · subst hck;have HL0:Hid (len - cap=0):=by show len - cap=0;omega
     have HD0:Hid (L.drop cap=[]):=List.drop_of_length_le (by rw [HLEN.out];omega);go_wp2;go_meet
     exact ⟨wz.heap.size,0,by rw [HL0.out],by rw [HL0.out,HD0.out];exact HS0.out⟩
   · have hckI:¬(cap:Int)=(j:Int):=by omega
     have HFL:Hid ((aG (L.drop j)).length=(len - j)*5):=by show _=_;rw [bW,List.length_drop,HLEN.out]
     go_wp2_with (at_builtin;refine wpList_append_own _ rfl _ _ 33 rfl (w.heap.size+1) 59 i0 _ 5 56 Tryz.underlying33 hi hz0 hz1 hz2 rfl (by decide) _ _ _ rfl HT0.out.owns ⟨b,j*5,none⟩ (len - j) (cap - j) (aG (L.drop j)) rfl HFL.out (wO HLT.out j) (bF _) (by unfold maxLen;omega) (by omega) HS0.out.hi ?_;intro vt wt hownt hgrowt hnilt;obtain ⟨gt,ct,rfl⟩:=iI hownt (fun e=>by cases (hnilt.1 e).1))
     have hz':=HS0.out;have nXo:some X≠(sL (wz.heap.size) 0 0).ownBlock:=by have h1:=HXW.out;simp [Value.ownBlock];omega
     have ST:Hid (fa w wt X gt (len - j) ct s t q d n (L.drop j)):=⟨hz'.low.grown hgrowt hz'.low.size (fun k e=>by have h1:wz.heap.size=k:=Option.some.inj e;omega),Nat.le_trans hz'.hi hgrowt.size,hgrowt.cell hz'.x0 nXo,hgrowt.cell hz'.x1 nXo,hgrowt.cell hz'.x2 nXo,hgrowt.cell hz'.x3 nXo,hgrowt.cell hz'.x4 nXo,⟨by first | exact hownt | (have h0:=hownt;rw [Nat.zero_add] at h0;exact h0),by rw [List.length_drop,HLEN.out],fun l hl=>HENTS.out l (List.mem_of_mem_drop hl)⟩⟩;clear hownt hgrowt hnilt hz' nXo;try simp only [Nat.zero_add]
     go_meet
     exact ⟨gt,ct,rfl,ST.out⟩
  case rest =>
   obtain ⟨gt,ct,rfl,hst⟩:=hcut;obtain ⟨wt,hwt⟩:=aw wc;rw [← hwt] at hst ⊢;have ST:Hid (fa w wt X gt (len - j) ct s t q d n (L.drop j)):=hst;have hnt:j+1+(len - j)=len+1:=by omega
   clear hwt hst HT0 HLT HS0 hzs;have k0:fa w wt.drew X gt (len - j) ct s t q d n (L.drop j):=ST.out.below (Below.refl _ wt).drew;have HMK:Hid (∀w',fa w w' X gt (len - j) ct s t q d n (L.drop j)→(w'.cell? ⟨X,0,none⟩=some (.string s)∧w'.cell? ⟨X,1,none⟩=some (iT q)∧w'.cell? ⟨X,2,none⟩=some (iT d)∧w'.cell? ⟨X,3,none⟩=some (.string t)∧w'.cell? ⟨X,4,none⟩=some (iT n)∧X<w'.heap.size)):=fun w' kk=>⟨kk.x0,kk.x1,kk.x2,kk.x3,kk.x4,kk.lt⟩
   have HLD:Hid (∀w',Bl w w'→an w' (pT b) j cap (L.take j)):=fun w' kk=>wI (HL.out.keep kk) (by omega)
   have hgt:=ST.out.tl.lt;have hjc:j≤cap:=by omega
   have hjcI:(j:Int)≤(cap:Int):=by omega
   go_wp2_with fail
   refine dC HMK k0 fun aa=>?_
   generalize wt.drew=wd at k0 aa ⊢;refine aK 1 3 aa ?_;refine aK 5 1 aa ?_;refine aK 8 1 aa ?_;refine uv 0 6 (fun K hK=>?_) fun K hK=>?_
   · go_simp;have kA:Bl wd (wd.alloc (.cells #[] 59)):=bZ;have sA:=k0.below kA;have rA:aE (wd.alloc (.cells #[] 59)) wd.heap.size wd.heap.size 0 0 []:=dJ wd _ (Nat.le_refl _);have hga0:w.heap.size+1≤wd.heap.size:=k0.hi;have hgta:gt<wd.heap.size:=k0.tl.lt.2;generalize hga:wd.heap.size=ga at rA hga0 hgta ⊢;generalize wd.alloc (.cells #[] 59)=wa at sA rA kA ⊢;refine hK.out _ _ (HMK.out _ sA) fun aa=>?_
     (try go_frame);refine uv 4 6 (fun K hK=>?_) fun K hK=>?_
     · refine aA rfl (.tmp 27) (.tmp 30) 33 rfl ga 59 i0 _ 5 56 Tryz.underlying33 hi hz0 hz1 hz2 rfl (Nat.succ_pos 4) _ _ _ rfl rA.owns ⟨b,0,none⟩ j cap (aG (L.take j)) rfl ?_ (de (HLD.out _ sA.low)) (bF _) ?_ ?_ ?_ ?_
       · rw [bW,List.length_take,HLEN.out];congr 1;omega
       · unfold maxLen;omega
       · omega
       · have:=rA.lt;omega
       intro v4 w4 hown4 hgrow4 hnil4;obtain ⟨g4,c4,rfl⟩:=bw hown4 hnil4;have hgrow4':wa.grownBy w4 (some ga):=hgrow4;have s4:=sA.grown hgrow4' (by omega) (by have:=HXW.out;omega) (by omega);have r4:aE w4 ga g4 j c4 (L.take j):=⟨by first | exact hown4 | (have h0:=hown4;rw [Nat.zero_add] at h0;exact h0),by simp [HLEN.out];omega,fun l hl=>HENTS.out l (List.mem_of_mem_take hl)⟩;simp only [Nat.zero_add];refine hK.out _ _ (HMK.out _ s4) fun aa=>?_
       (try go_frame);refine aP 6 fun K hK=>?_
       go_simp;have kN:Bl w4 (w4.alloc (.cells #[.string s,iT q,iT d,.string t,iT n] 59)):=bZ;have sN:=s4.below kN;have rN:an (w4.alloc (.cells #[.string s,iT q,iT d,.string t,iT n] 59)) (some ⟨w4.heap.size,0,none⟩) 1 1 [(s,q,d,t,n)]:=gC w4 _ _ _ _ _ HEW.out;have hgn0:w.heap.size+1≤w4.heap.size:=s4.hi;have rR:=r4.below kN;have hgn:g4≠w4.heap.size:=by have:=r4.lt.2;omega
       generalize hgg:w4.heap.size=gn at rN hgn0 hgn ⊢;generalize w4.alloc (.cells #[.string s,iT q,iT d,.string t,iT n] 59)=wn at sN rN rR kN ⊢;refine hK.out _ _ (HMK.out _ sN) fun aa=>?_
       (try go_frame);refine aP 7 fun K hK=>?_
       refine aA rfl (.tmp 31) (.tmp 33) 33 rfl ga 59 i0 _ 5 56 Tryz.underlying33 hi hz0 hz1 hz2 rfl (Nat.succ_pos 4) _ _ _ rfl rR.owns ⟨gn,0,none⟩ 1 1 (aG [(s,q,d,t,n)]) rfl rfl (de rN) (bF _) ?_ ?_ ?_ ?_
       · unfold maxLen;omega
       · omega
       · have:=rR.lt;omega
       intro v7 w7 hown7 hgrow7 hnil7;obtain ⟨g7,c7,rfl⟩:=bw hown7 hnil7;have hgrow7':wn.grownBy w7 (some g4):=hgrow7;have s7:=sN.grown hgrow7' (by have:=rR.lt.1;omega) (by have:=rR.lt.1;have:=HXW.out;omega) (by have:=rR.lt.1;omega);have r7:aE w7 ga g7 (j+1) c7 (L.take j++[(s,q,d,t,n)]):=⟨by rw [bE];exact hown7,by simp [HLEN.out];omega,HW7.out⟩;refine hK.out _ _ (HMK.out _ s7) fun aa=>?_
       (try go_frame);refine aP 9 fun K hK=>?_
       refine aA rfl (.tmp 34) (.tmp 35) 33 rfl ga 59 i0 _ 5 56 Tryz.underlying33 hi hz0 hz1 hz2 rfl (Nat.succ_pos 4) _ _ _ rfl r7.owns ⟨gt,0,none⟩ (len - j) ct (aG (L.drop j)) rfl ?_ (de s7.tl.entsAt) (bF _) ?_ ?_ ?_ ?_
       · rw [bW,s7.tl.len]
       · unfold maxLen;omega
       · omega
       · have:=r7.lt;omega
       intro v9 w9 hown9 hgrow9 hnil9;obtain ⟨g9,c9,rfl⟩:=bw hown9 hnil9;have hgrow9':w7.grownBy w9 (some g7):=hgrow9;have hb9:Bl w w9:=s7.low.grown hgrow9' s7.low.size (fun k e=>by cases e;have:=r7.lt.1;omega);have z9:X<w9.heap.size:=Nat.lt_of_lt_of_le s7.lt hgrow9.size;refine hK.out _ _ ?_ (fun aa=>?_)
       · have n9:X≠g7:=by have:=r7.lt.1;have:=HXW.out;omega
         exact ⟨(ay hgrow9' (x:=⟨X,0,none⟩) s7.lt n9).trans s7.x0,(ay hgrow9' (x:=⟨X,1,none⟩) s7.lt n9).trans s7.x1,(ay hgrow9' (x:=⟨X,2,none⟩) s7.lt n9).trans s7.x2,(ay hgrow9' (x:=⟨X,3,none⟩) s7.lt n9).trans s7.x3,(ay hgrow9' (x:=⟨X,4,none⟩) s7.lt n9).trans s7.x4,z9⟩
       clear hK K;(try go_frame);refine aK 10 1 aa ?_;refine dN ?_;rw [hnt] at hown9 ⊢;have HO9:Hid (aE w9 w.heap.size g9 (len+1) c9 (dq L (s,q,d,t,n))):=by
        refine aE.mono (base:=ga) ⟨?_,by rw [ki,HLEN.out],HW9.out⟩ (by omega);rw [HPUT.out,← List.append_assoc,bE];exact hown9
       have HB9:Hid (Bl w w9):=hb9;clear hown9 hgrow9 hnil9 hown7 hgrow7 hnil7 r7 s7 hb9;go_wp2;go_ret;exact ⟨g9,c9,rfl,HO9.out,HB9.out⟩
     · go_simp;have kN:Bl wa (wa.alloc (.cells #[.string s,iT q,iT d,.string t,iT n] 59)):=bZ;have sN:=sA.below kN;have rN:an (wa.alloc (.cells #[.string s,iT q,iT d,.string t,iT n] 59)) (some ⟨wa.heap.size,0,none⟩) 1 1 [(s,q,d,t,n)]:=gC wa _ _ _ _ _ HEW.out;have hgn0:w.heap.size+1≤wa.heap.size:=sA.hi;have rA':=rA.below kN;have hgn:ga≠wa.heap.size:=by have:=rA.lt.2;omega
       generalize hgg:wa.heap.size=gn at rN hgn0 hgn ⊢;generalize wa.alloc (.cells #[.string s,iT q,iT d,.string t,iT n] 59)=wn at sN rN rA' kN ⊢;refine hK.out _ _ (HMK.out _ sN) fun aa=>?_
       (try go_frame);refine aP 4 fun K hK=>?_
       refine aA rfl (.tmp 27) (.tmp 30) 33 rfl ga 59 i0 _ 5 56 Tryz.underlying33 hi hz0 hz1 hz2 rfl (Nat.succ_pos 4) _ _ _ rfl rA'.owns ⟨b,0,none⟩ j cap (aG (L.take j)) rfl ?_ (de (HLD.out _ sN.low)) (bF _) ?_ ?_ ?_ ?_
       · rw [bW,List.length_take,HLEN.out];congr 1;omega
       · unfold maxLen;omega
       · omega
       · have:=rA'.lt;omega
       intro v4 w4 hown4 hgrow4 hnil4;obtain ⟨g4,c4,rfl⟩:=bw hown4 hnil4;have hgrow4':wn.grownBy w4 (some ga):=hgrow4;have s4:=sN.grown hgrow4' (by omega) (by have:=HXW.out;omega) (by omega);have r4:aE w4 ga g4 j c4 (L.take j):=⟨by first | exact hown4 | (have h0:=hown4;rw [Nat.zero_add] at h0;exact h0),by simp [HLEN.out];omega,fun l hl=>HENTS.out l (List.mem_of_mem_take hl)⟩;simp only [Nat.zero_add];have rN4:=rN.grownE hgrow4' (fun e=>hgn e.symm);refine hK.out _ _ (HMK.out _ s4) fun aa=>?_
       (try go_frame);refine aP 7 fun K hK=>?_
       refine aA rfl (.tmp 31) (.tmp 33) 33 rfl ga 59 i0 _ 5 56 Tryz.underlying33 hi hz0 hz1 hz2 rfl (Nat.succ_pos 4) _ _ _ rfl r4.owns ⟨gn,0,none⟩ 1 1 (aG [(s,q,d,t,n)]) rfl rfl (de rN4) (bF _) ?_ ?_ ?_ ?_
       · unfold maxLen;omega
       · omega
       · have:=r4.lt;omega
       intro v7 w7 hown7 hgrow7 hnil7;obtain ⟨g7,c7,rfl⟩:=bw hown7 hnil7;have hgrow7':w4.grownBy w7 (some g4):=hgrow7;have s7:=s4.grown hgrow7' (by have:=r4.lt.1;omega) (by have:=r4.lt.1;have:=HXW.out;omega) (by have:=r4.lt.1;omega);have r7:aE w7 ga g7 (j+1) c7 (L.take j++[(s,q,d,t,n)]):=⟨by rw [bE];exact hown7,by simp [HLEN.out];omega,HW7.out⟩;refine hK.out _ _ (HMK.out _ s7) fun aa=>?_
       (try go_frame);refine aP 9 fun K hK=>?_
       refine aA rfl (.tmp 34) (.tmp 35) 33 rfl ga 59 i0 _ 5 56 Tryz.underlying33 hi hz0 hz1 hz2 rfl (Nat.succ_pos 4) _ _ _ rfl r7.owns ⟨gt,0,none⟩ (len - j) ct (aG (L.drop j)) rfl ?_ (de s7.tl.entsAt) (bF _) ?_ ?_ ?_ ?_
       · rw [bW,s7.tl.len]
       · unfold maxLen;omega
       · omega
       · have:=r7.lt;omega
       intro v9 w9 hown9 hgrow9 hnil9;obtain ⟨g9,c9,rfl⟩:=bw hown9 hnil9;have hgrow9':w7.grownBy w9 (some g7):=hgrow9;have hb9:Bl w w9:=s7.low.grown hgrow9' s7.low.size (fun k e=>by cases e;have:=r7.lt.1;omega);have z9:X<w9.heap.size:=Nat.lt_of_lt_of_le s7.lt hgrow9.size;refine hK.out _ _ ?_ (fun aa=>?_)
       · have n9:X≠g7:=by have:=r7.lt.1;have:=HXW.out;omega
         exact ⟨(ay hgrow9' (x:=⟨X,0,none⟩) s7.lt n9).trans s7.x0,(ay hgrow9' (x:=⟨X,1,none⟩) s7.lt n9).trans s7.x1,(ay hgrow9' (x:=⟨X,2,none⟩) s7.lt n9).trans s7.x2,(ay hgrow9' (x:=⟨X,3,none⟩) s7.lt n9).trans s7.x3,(ay hgrow9' (x:=⟨X,4,none⟩) s7.lt n9).trans s7.x4,z9⟩
       clear hK K;(try go_frame);refine aK 10 1 aa ?_;refine dN ?_;rw [hnt] at hown9 ⊢;have HO9:Hid (aE w9 w.heap.size g9 (len+1) c9 (dq L (s,q,d,t,n))):=by
        refine aE.mono (base:=ga) ⟨?_,by rw [ki,HLEN.out],HW9.out⟩ (by omega);rw [HPUT.out,← List.append_assoc,bE];exact hown9
       have HB9:Hid (Bl w w9):=hb9;clear hown9 hgrow9 hnil9 hown7 hgrow7 hnil7 r7 s7 hb9;go_wp2;go_ret;exact ⟨g9,c9,rfl,HO9.out,HB9.out⟩
   · go_simp;have kN:Bl wd (wd.alloc (.cells #[.string s,iT q,iT d,.string t,iT n] 59)):=bZ;have sN:=k0.below kN;have rN:an (wd.alloc (.cells #[.string s,iT q,iT d,.string t,iT n] 59)) (some ⟨wd.heap.size,0,none⟩) 1 1 [(s,q,d,t,n)]:=gC wd _ _ _ _ _ HEW.out;have hgn0:w.heap.size+1≤wd.heap.size:=k0.hi;generalize hgg:wd.heap.size=gn at rN hgn0 ⊢;generalize wd.alloc (.cells #[.string s,iT q,iT d,.string t,iT n] 59)=wn at sN rN kN ⊢;refine hK.out _ _ (HMK.out _ sN) fun aa=>?_
     (try go_frame);refine aP 0 fun K hK=>?_
     go_simp;have kA:Bl wn (wn.alloc (.cells #[] 59)):=bZ;have rN':=rN.keep kA;have hgn:wn.heap.size≠gn:=by have:=(rN.lies _ rfl (by omega)).1;simp only at this;omega
     have sA:=sN.below kA;have rA:aE (wn.alloc (.cells #[] 59)) wn.heap.size wn.heap.size 0 0 []:=dJ wn _ (Nat.le_refl _);have hga0:w.heap.size+1≤wn.heap.size:=sN.hi;have hgta:gt<wn.heap.size:=sN.tl.lt.2;generalize hga:wn.heap.size=ga at rA hga0 hgta hgn ⊢;generalize wn.alloc (.cells #[] 59)=wa at sA rA kA rN' ⊢;refine hK.out _ _ (HMK.out _ sA) fun aa=>?_
     (try go_frame);refine aP 4 fun K hK=>?_
     refine aA rfl (.tmp 27) (.tmp 30) 33 rfl ga 59 i0 _ 5 56 Tryz.underlying33 hi hz0 hz1 hz2 rfl (Nat.succ_pos 4) _ _ _ rfl rA.owns ⟨b,0,none⟩ j cap (aG (L.take j)) rfl ?_ (de (HLD.out _ sA.low)) (bF _) ?_ ?_ ?_ ?_
     · rw [bW,List.length_take,HLEN.out];congr 1;omega
     · unfold maxLen;omega
     · omega
     · have:=rA.lt;omega
     intro v4 w4 hown4 hgrow4 hnil4;obtain ⟨g4,c4,rfl⟩:=bw hown4 hnil4;have hgrow4':wa.grownBy w4 (some ga):=hgrow4;have s4:=sA.grown hgrow4' (by omega) (by have:=HXW.out;omega) (by omega);have r4:aE w4 ga g4 j c4 (L.take j):=⟨by first | exact hown4 | (have h0:=hown4;rw [Nat.zero_add] at h0;exact h0),by simp [HLEN.out];omega,fun l hl=>HENTS.out l (List.mem_of_mem_take hl)⟩;simp only [Nat.zero_add];have rN4:=rN'.grownE hgrow4' (fun e=>hgn e.symm);refine hK.out _ _ (HMK.out _ s4) fun aa=>?_
     (try go_frame);refine aP 7 fun K hK=>?_
     refine aA rfl (.tmp 31) (.tmp 33) 33 rfl ga 59 i0 _ 5 56 Tryz.underlying33 hi hz0 hz1 hz2 rfl (Nat.succ_pos 4) _ _ _ rfl r4.owns ⟨gn,0,none⟩ 1 1 (aG [(s,q,d,t,n)]) rfl rfl (de rN4) (bF _) ?_ ?_ ?_ ?_
     · unfold maxLen;omega
     · omega
     · have:=r4.lt;omega
     intro v7 w7 hown7 hgrow7 hnil7;obtain ⟨g7,c7,rfl⟩:=bw hown7 hnil7;have hgrow7':w4.grownBy w7 (some g4):=hgrow7;have s7:=s4.grown hgrow7' (by have:=r4.lt.1;omega) (by have:=r4.lt.1;have:=HXW.out;omega) (by have:=r4.lt.1;omega);have r7:aE w7 ga g7 (j+1) c7 (L.take j++[(s,q,d,t,n)]):=⟨by rw [bE];exact hown7,by simp [HLEN.out];omega,HW7.out⟩;refine hK.out _ _ (HMK.out _ s7) fun aa=>?_
     (try go_frame);refine aP 9 fun K hK=>?_
     refine aA rfl (.tmp 34) (.tmp 35) 33 rfl ga 59 i0 _ 5 56 Tryz.underlying33 hi hz0 hz1 hz2 rfl (Nat.succ_pos 4) _ _ _ rfl r7.owns ⟨gt,0,none⟩ (len - j) ct (aG (L.drop j)) rfl ?_ (de s7.tl.entsAt) (bF _) ?_ ?_ ?_ ?_
     · rw [bW,s7.tl.len]
     · unfold maxLen;omega
     · omega
     · have:=r7.lt;omega
     intro v9 w9 hown9 hgrow9 hnil9;obtain ⟨g9,c9,rfl⟩:=bw hown9 hnil9;have hgrow9':w7.grownBy w9 (some g7):=hgrow9;have hb9:Bl w w9:=s7.low.grown hgrow9' s7.low.size (fun k e=>by cases e;have:=r7.lt.1;omega);have z9:X<w9.heap.size:=Nat.lt_of_lt_of_le s7.lt hgrow9.size;refine hK.out _ _ ?_ (fun aa=>?_)
     · have n9:X≠g7:=by have:=r7.lt.1;have:=HXW.out;omega
       exact ⟨(ay hgrow9' (x:=⟨X,0,none⟩) s7.lt n9).trans s7.x0,(ay hgrow9' (x:=⟨X,1,none⟩) s7.lt n9).trans s7.x1,(ay hgrow9' (x:=⟨X,2,none⟩) s7.lt n9).trans s7.x2,(ay hgrow9' (x:=⟨X,3,none⟩) s7.lt n9).trans s7.x3,(ay hgrow9' (x:=⟨X,4,none⟩) s7.lt n9).trans s7.x4,z9⟩
     clear hK K;(try go_frame);refine aK 10 1 aa ?_;refine dN ?_;rw [hnt] at hown9 ⊢;have HO9:Hid (aE w9 w.heap.size g9 (len+1) c9 (dq L (s,q,d,t,n))):=by
      refine aE.mono (base:=ga) ⟨?_,by rw [ki,HLEN.out],HW9.out⟩ (by omega);rw [HPUT.out,← List.append_assoc,bE];exact hown9
     have HB9:Hid (Bl w w9):=hb9;clear hown9 hgrow9 hnil9 hown7 hgrow7 hnil7 r7 s7 hb9;go_wp2;go_ret;exact ⟨g9,c9,rfl,HO9.out,HB9.out⟩
abbrev cu:=Nat × Nat × Nat × Nat × Nat
def strCells (x:cu):List Value:=[.slice (some ⟨x.1,x.2.1,none⟩) x.2.2.1 x.2.2.2.1,iT x.2.2.2.2]
def ei (X:List cu):List Value:=X.flatMap strCells
theorem fQ (x:cu) (X:List cu):ei (x :: X)=.slice (some ⟨x.1,x.2.1,none⟩) x.2.2.1 x.2.2.2.1 :: iT x.2.2.2.2 :: ei X:=rfl
theorem qk (A B:List cu):ei (A++B)=ei A++ei B:=by simp [ei]
theorem wF (X:List cu):(ei X).length=X.length*2:=by
 induction X with
 | nil=>rfl
 | cons x r ih=>rw [fQ,List.length_cons,List.length_cons,ih,List.length_cons];omega
theorem pm:∀(X:List cu) (j:Nat) (x:cu),X[j]?=some x→(ei X)[j*2]?=some (.slice (some ⟨x.1,x.2.1,none⟩) x.2.2.1 x.2.2.2.1)∧(ei X)[j*2+1]?=some (iT x.2.2.2.2)
 | [],j,x,h=>by simp at h
 | y :: X,0,x,h=>by simp at h;subst h;exact ⟨rfl,rfl⟩
 | y :: X,j+1,x,h=>by
  have:=pm X j x (by simpa using h)
  rw [fQ,show (j+1)*2=j*2+1+1 by omega]
  exact ⟨by rw [List.getElem?_cons_succ,List.getElem?_cons_succ];exact this.1,by rw [List.getElem?_cons_succ,List.getElem?_cons_succ];exact this.2⟩
theorem pl:∀(X:List cu) (j:Nat) (x:cu),((ei X).set (j*2) (.slice (some ⟨x.1,x.2.1,none⟩) x.2.2.1 x.2.2.2.1)).set (j*2+1) (iT x.2.2.2.2)=ei (X.set j x)
 | [],j,x=>rfl
 | y :: X,0,x=>rfl
 | y :: X,j+1,x=>by
  have:=pl X j x
  rw [fQ,show (j+1)*2=j*2+1+1 by omega,List.set_cons_succ,List.set_cons_succ,List.set_cons_succ,List.set_cons_succ,this]
  rfl
structure eV (w:World) (base g n c:Nat) (X:List cu):Prop where
 owns:w.ownsRow base 167 2 (sL g n c) n (ei X)
 len:X.length=n
theorem eV.lt {n:Nat} {X:List cu} (h:eV w base g n c X):base≤g∧g<w.heap.size:=h.owns.lt g rfl
theorem eV.grown {n:Nat} {X:List cu} {row:Option Nat} (h:eV w base g n c X) (hg:w.grownBy w' row) (hne:some g≠row):eV w' base g n c X:=⟨h.owns.kept hg (.inr hne),h.len⟩
theorem eV.below {n:Nat} {X:List cu} (h:eV w base g n c X) (hb:Bl w w'):eV w' base g n c X :=
 h.grown (row:=none) ⟨hb.os,hb.tape,hb.output,hb.size,fun k hk _=>hb.block k hk⟩ (by simp)
theorem eV.at2 {n:Nat} {X:List cu} {x:cu} (h:eV w base g n c X) (hx:X[i]?=some x):w.cell? ⟨g,i*2,none⟩=some (.slice (some ⟨x.1,x.2.1,none⟩) x.2.2.1 x.2.2.2.1)∧w.cell? ⟨g,i*2+1,none⟩=some (iT x.2.2.2.2):=by
 have hc:=h.owns.cells (g:=g) rfl;obtain ⟨h0,h1⟩:=pm X i x hx;have a0:=hc _ _ h0;have a1:=hc _ _ h1;rw [Go.WideShapes.add_plain] at a0 a1;simp only [Nat.zero_add] at a0 a1;exact ⟨a0,a1⟩
theorem eV.cells {n:Nat} {X:List cu} (h:eV w base g n c X):∃cc,w.heap[g]?=some (.cells cc 167 (0,0)):=by
 rcases h.owns.2 with ⟨hv,_⟩ | ⟨g',cap,cur,hv,_,hg,_⟩
 · cases hv
 · cases hv;exact ⟨_,hg⟩
def setH (w:World) (g i:Nat) (x:cu):World:=(w.setCell ⟨g,i*2,none⟩ (.slice (some ⟨x.1,x.2.1,none⟩) x.2.2.1 x.2.2.2.1)).setCell ⟨g,i*2+1,none⟩ (iT x.2.2.2.2)
theorem eV.setH {n:Nat} {X:List cu} {x:cu} (h:eV w base g n c X):eV (setH w g i x) base g n c (X.set i x):=by
 have t0:=h.owns.stored (i*2) (.slice (some ⟨x.1,x.2.1,none⟩) x.2.2.1 x.2.2.2.1);have t1:=t0.1.stored (i*2+1) (iT x.2.2.2.2);refine ⟨?_,by simp [h.len]⟩;have h1:=t1.1;rw [pl] at h1;exact h1
theorem eK (w:World) (g o:Nat) (v:Value):w.grownBy (w.setCell ⟨g,o,none⟩ v) (some g) :=
 ⟨rfl,rfl,rfl,by simp [World.setCell],fun k _ hk=>Below.heap_setCell _ _ _ _ (fun e=>hk (by rw [e]))⟩
theorem ij (w:World) (g i:Nat) (x:cu):w.grownBy (Go.Proofs.YtehiefdphnljaaaGreatDoor.setH w g i x) (some g):=(eK _ _ _ _).trans (eK _ _ _ _)
end Go.Proofs.YtehiefdphnljaaaGreatDoor
