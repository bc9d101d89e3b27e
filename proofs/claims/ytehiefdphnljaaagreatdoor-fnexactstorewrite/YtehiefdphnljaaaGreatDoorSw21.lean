/- Walks. -/
import Derived.Test.YtehiefdphnljaaaGreatDoorSw20
import Derived.Maps.AppendAt
namespace Go.Proofs.YtehiefdphnljaaaGreatDoor
set_option maxRecDepth 100000
set_option maxHeartbeats 40000000
open Go.RowKit Go.Shelf
variable {L M:List ae} {P:List (List ae)} {a:Option Addr} {base c e g i j k n:Nat} {l:List UInt8} {row y:Option Nat} {t:ByteArray} {v:Value} {vs:List Value} {w w':World}
def Cb (t:ByteArray) (k:Nat) (w:World) (e:Ending) (w':World):Prop :=
 (∃(L:List ae) (g n c:Nat) (z:Int),eN (t.data.toList.drop k) L∧e=.returned (.tuple #[sL g n c,iT z])∧z=((k+(aY L).length:Nat):Int)∧aE w' w.heap.size g n c L) ∨
 ((∀L,¬eN (t.data.toList.drop k) L)∧∃v,e=.returned (.tuple #[v,iT (-1)]))
theorem zI {u:ByteArray} {m:Int} (hF:eN (t.data.toList.drop k) L)
 (hn:∀(m':Int) (r:List UInt8),-10000000≤m'→m'≤10000000→t.data.toList.drop k=Lib.itoa m'++32 :: r→m=m'∧∃j':Nat,(j:Int)=(j':Int)∧t.data.toList.drop j'=r) (hm:m=(n:Int))
 (hu:u.data.toList=(t.data.toList.drop j).take n) (hM:∀L:List ae,(∀e ∈ L,cN e=true)→L.length≤12→u.data.toList=aT L→M=L):M=L∧n=(aT L).length∧t.data.toList.drop k=Lib.itoa (n:Int)++32 :: t.data.toList.drop j:=by
 obtain ⟨hd,r,hr⟩:=hF;obtain ⟨h1,h2,h3⟩:=cO hd;have hs:=dO hd;have e0:aY L++r=Lib.itoa ((aT L).length:Int)++32 :: (aT L++10 :: r):=by simp [aY]
 rw [e0] at hr;obtain ⟨a1,j',a2,a3⟩:=hn _ _ (by omega) (by omega) hr;obtain rfl:j=j':=by omega
 obtain rfl:n=(aT L).length:=by omega
 refine ⟨hM L h3 h2 ?_,rfl,by rw [a3];exact hr⟩;rw [hu,a3,List.take_left]
theorem pn (t:ByteArray) (k j n:Nat):(t.extract k (j+n+1)).data.toList=(t.data.toList.drop k).take (j+n+1 - k):=dA t k (j+n+1)
theorem AJ (h:aW M=t.extract k (j+n+1)) (hkj:k<j) (hjn:j+n+1≤t.size):eN (t.data.toList.drop k) M∧j+n+1=k+(aY M).length:=by
 have hsz:(aW M).size=j+n+1 - k:=by rw [h,ByteArray.size_extract];omega
 cases hd:bG M with
 | false =>
  rw [iN hd] at hsz;have:(0:Nat)=j+n+1 - k:=hsz;omega
 | true =>
  have h1:=eL hd;rw [h,pn] at h1;refine ⟨⟨hd,(t.data.toList.drop k).drop (j+n+1 - k),?_⟩,?_⟩
  · rw [← h1,List.take_append_drop]
  · rw [← h1,List.length_take,List.length_drop,aN];omega
theorem Bh (h:¬aW M=t.extract k (j+n+1)) (hjt:j≤t.size) (hkj:k<j) (hF:eN (t.data.toList.drop k) L) (hM:M=L) (hn:n=(aT L).length) (hd:t.data.toList.drop k=Lib.itoa (n:Int)++32 :: t.data.toList.drop j):False:=by
 subst hM;apply h;obtain ⟨hdn,r,hr⟩:=hF;have hl:=congrArg List.length hd;rw [List.length_drop,aN,List.length_append,List.length_cons,List.length_drop,aN] at hl;apply ByteArray.ext;apply Array.toList_inj.1;rw [eL hdn,pn,hr,List.take_left'];rw [aY,← hn,List.length_append,List.length_cons,List.length_append,← hn];simp;omega
theorem Av (t:ByteArray) (k:Nat) (w:World) (hk:k≤t.size) (ht:t.size≤1048576) :
 Calls Tryz.prog 109 #[.string t,iT (k:Int)] w fun e w'=>Cb t k w e w'∧Bl w w':=by
 go_enter Tryz.func109,Tryz.ntmps109
 go_wp2_with fail
 refine (oD t k _ hk ht).mono ?_;rintro e w1 ⟨⟨m,z,rfl,hm1,hpl,hkz,hnum⟩,hb1⟩;have HB1:Hid (Bl w w1):=hb1;have hz1:=hb1.size;clear hb1;have HNA:Hid (Bl w (w1.alloc (.cells #[] 59))):=HB1.out.alloc HB1.out.size _;rcases hpl with rfl | ⟨j,rfl,hj⟩
 · have HNX:Hid (∀L,¬eN (t.data.toList.drop k) L):=by
    rintro L ⟨hd,r,hr⟩;have hs:=dO hd;have e0:aY L++r=Lib.itoa ((aT L).length:Int)++32 :: (aT L++10 :: r):=by simp [aY]
    rw [e0] at hr;obtain ⟨_,j',a2,_⟩:=hnum _ _ (by omega) (by omega) hr;omega
   clear hnum;go_wp2;exact bodyPost_ret (v:=.tuple #[sL (w1.heap.size) 0 0,iT (-1)]) (by simp [results,Tryz.results109,go_sem]) rfl ⟨Or.inr ⟨HNX.out,_,rfl⟩,HNA.out⟩
 have HNUM:Hid (∀(m':Int) (r:List UInt8),-10000000≤m'→m'≤10000000→t.data.toList.drop k=Lib.itoa m'++32 :: r→m=m'∧∃j':Nat,(j:Int)=(j':Int)∧t.data.toList.drop j'=r):=hnum;clear hnum;have hkj:=hkz (by omega);clear hkz;have hj0:¬(j:Int)<0:=by omega
 by_cases hm:m<0
 · have HNX:Hid (∀L,¬eN (t.data.toList.drop k) L):=by
    rintro L ⟨hd,r,hr⟩;have hs:=dO hd;have e0:aY L++r=Lib.itoa ((aT L).length:Int)++32 :: (aT L++10 :: r):=by simp [aY]
    rw [e0] at hr;obtain ⟨_,j',a2,_⟩:=HNUM.out _ _ (by omega) (by omega) hr;omega
   go_wp2;exact bodyPost_ret (v:=.tuple #[sL (w1.heap.size) 0 0,iT (-1)]) (by simp [results,Tryz.results109,go_sem]) rfl ⟨Or.inr ⟨HNX.out,_,rfl⟩,HNA.out⟩
 obtain ⟨n,rfl⟩:=Int.eq_ofNat_of_zero_le (show 0≤m by omega);have hwr:IntKind.i64.wrap ((t.size:Int) - (j:Int))=(t.size:Int) - (j:Int):=by rw [IntWalk.i64_left];unfold wrap64;omega
 have hwr1:IntKind.i64.wrap ((t.size:Int) - (j:Int) - 1)=(t.size:Int) - (j:Int) - 1:=by rw [IntWalk.i64_left];unfold wrap64;omega
 by_cases hgt:(t.size:Int) - (j:Int) - 1<(n:Int)
 · have HNX:Hid (∀L,¬eN (t.data.toList.drop k) L):=by
    rintro L ⟨hd,r,hr⟩;have hs:=dO hd;have e0:aY L++r=Lib.itoa ((aT L).length:Int)++32 :: (aT L++10 :: r):=by simp [aY]
    rw [e0] at hr;obtain ⟨a1,j',a2,a3⟩:=HNUM.out _ _ (by omega) (by omega) hr;have hl:=congrArg List.length a3;rw [List.length_drop,aN,List.length_append,List.length_cons] at hl;omega
   go_wp2;exact bodyPost_ret (v:=.tuple #[sL (w1.heap.size) 0 0,iT (-1)]) (by simp [results,Tryz.results109,go_sem]) rfl ⟨Or.inr ⟨HNX.out,_,rfl⟩,HNA.out⟩
 have hwr2:IntKind.i64.wrap ((j:Int)+(n:Int))=(j:Int)+(n:Int):=by rw [IntWalk.i64_left];unfold wrap64;omega
 have hwr3:IntKind.i64.wrap ((j:Int)+(n:Int)+1)=(j:Int)+(n:Int)+1:=by rw [IntWalk.i64_left];unfold wrap64;omega
 have g0:(j:Int)≤(j:Int)+(n:Int):=by omega
 have g1:(j:Int)+(n:Int)≤(t.size:Int):=by omega
 have g2:0≤(j:Int):=by omega
 have g3:0≤(j:Int)+(n:Int):=by omega
 go_wp2_with fail
 obtain ⟨u,hu⟩:=aw (t.extract j (j+n));rw [← hu];have HU:Hid (u.data.toList=(t.data.toList.drop j).take n∧u.size≤1048576):=by
  rw [hu];refine ⟨?_,by rw [ByteArray.size_extract];omega⟩;rw [dA];congr 1
  omega
 clear hu;refine (yx u _ HU.out.2).mono ?_;rintro e w2 ⟨⟨g,x,c,M,rfl,hO,hx,hM⟩,hb2⟩;have HM:Hid (∀L:List ae,(∀e ∈ L,cN e=true)→L.length≤12→u.data.toList=aT L→M=L):=hM;have HB2:Hid (Bl w w2):=HB1.out.trans (hb2.mono HB1.out.size);have HO:Hid (aE w2 w.heap.size g x c M):=hO.mono HB1.out.size;clear hM hb2 hO;have h4:(k:Int)≤(j:Int)+(n:Int)+1:=by omega
 have h5:(j:Int)+(n:Int)+1≤(t.size:Int):=by omega
 have h6:0≤(k:Int):=by omega
 have h7:0≤(j:Int)+(n:Int)+1:=by omega
 have CF:Hid (Calls Tryz.prog 42 #[sL g x c] w2.drew fun e w'=>e=.returned (.string (aW M))∧Below w2.drew.heap.size w2.drew w'):=kX _ _ _ M _ (HO.out.entsAt.keep ((Below.refl _ w2).drew));obtain ⟨F,hF⟩:=aw (aW M);rw [← hF] at CF;have k0:Bl w2 w2.drew:=(Below.refl _ w2).drew;obtain ⟨U,hU⟩:=aw (t.extract k (j+n+1));have HUE:Hid (U=t.extract k (j+n+1)):=hU;by_cases heq:F=U
 · have hq:(F.toList == (t.extract k (j+n+1)).toList)=true:=by rw [← hU,heq];simp
   have hq2:(F.toList == (t.extract k ((j:Int)+(n:Int)+1).toNat).toList)=true:=by rw [show ((j:Int)+(n:Int)+1).toNat=j+n+1 by omega];exact hq
   have HY:Hid (eN (t.data.toList.drop k) M∧j+n+1=k+(aY M).length):=AJ (by rw [← hF,heq,hU]) (by omega) (by omega);clear hU hF heq;go_upto_region 5 with fail
   go_region_held3 (fun w'=>Bl w2 w') (first | with_reducible exact k0 | with_reducible exact k1) (first
    | (go_at_call 42;refine CF.out.mono ?_;rintro e w3 ⟨rfl,hb3⟩;have k1:Bl w2 w3:=k0.trans (hb3.mono k0.size)))
   all_goals
    have HO3:Hid (aE w3 w.heap.size g x c M):=HO.out.below k1;have HB3:Hid (Bl w w3):=HB2.out.trans (k1.mono HB2.out.size);go_wp2;exact bodyPost_ret (v:=.tuple #[sL g x c,iT ((j:Int)+(n:Int)+1)]) (by simp [results,Tryz.results109,go_sem]) rfl ⟨Or.inl ⟨M,g,x,c,_,HY.out.1,rfl,by have:=HY.out.2;omega,HO3.out⟩,HB3.out⟩
 · have hq:(F.toList == (t.extract k (j+n+1)).toList)=false:=by
    rw [← hU,beq_eq_false_iff_ne];intro e;rw [ByteArray.toList_eq,ByteArray.toList_eq] at e;exact heq (ByteArray.ext (Array.toList_inj.1 e))
   have hq2:(F.toList == (t.extract k ((j:Int)+(n:Int)+1).toNat).toList)=false:=by rw [show ((j:Int)+(n:Int)+1).toNat=j+n+1 by omega];exact hq
   have HNX:Hid (∀L,¬eN (t.data.toList.drop k) L):=by
    intro L hL;obtain ⟨a1,a2,a3⟩:=zI hL HNUM.out rfl HU.out.1 HM.out;exact Bh (by rw [← hF,← hU];exact heq) hj (by omega) hL a1 a2 a3
   clear hU hF heq;go_upto_region 5 with fail
   go_region_held3 (fun w'=>Bl w2 w') (first | with_reducible exact k0 | with_reducible exact k1) (first
    | (go_at_call 42;refine CF.out.mono ?_;rintro e w3 ⟨rfl,hb3⟩;have k1:Bl w2 w3:=k0.trans (hb3.mono k0.size)))
   all_goals
    have HB3:Hid (Bl w (w3.alloc (.cells #[] 59))):=(HB2.out.trans (k1.mono HB2.out.size)).alloc (HB2.out.trans (k1.mono HB2.out.size)).size _;go_wp2;exact bodyPost_ret (v:=.tuple #[sL (w3.heap.size) 0 0,iT (-1)]) (by simp [results,Tryz.results109,go_sem]) rfl ⟨Or.inr ⟨HNX.out,_,rfl⟩,HB3.out⟩
structure cI (w:World) (a:Option Addr) (n c:Nat) (P:List (List ae)):Prop where
 length:P.length=n
 room:n≤c
 big:c≤maxLen
 nil:a=none→n=0
 lies:∀x,a=some x→0<n→x.block<w.heap.size∧x.spot=none
 lists:∀x,a=some x→∀i (h:i<P.length),∃s m d,w.cell? ⟨x.block,x.off+i,none⟩=some (.slice s m d)∧an w s m d P[i]
theorem cI.keep (h:cI w a n c P) (hb:Bl w w'):cI w' a n c P where
 length:=h.length
 room:=h.room
 big:=h.big
 nil:=h.nil
 lies:=fun x e hp=>⟨Nat.lt_of_lt_of_le (h.lies x e hp).1 hb.size,(h.lies x e hp).2⟩
 lists:=fun x e i hi=>by
  obtain ⟨s,m,d,c0,hL⟩:=h.lists x e i hi
  exact ⟨s,m,d,cell_later hb c0,hL.keep hb⟩
theorem cI.form (h:cI w a n c P) (hl:1≤n):∃b off,a=some ⟨b,off,none⟩∧b<w.heap.size:=by
 cases a with
 | none=>have:=h.nil rfl;omega
 | some x =>
  obtain ⟨b,off,spot⟩:=x;obtain ⟨h1,h2⟩:=h.lies _ rfl (by omega);simp only at h1 h2;subst h2;exact ⟨b,off,rfl,h1⟩
theorem cI.list {wr:World} {b off:Nat} (h:cI w (some ⟨b,off,none⟩) n c P) (hb:Bl w wr) (k:Nat) (hk:k<n) :
 ∃A s m d,P[k]?=some A∧wr.cell? ⟨b,off+k,none⟩=some (.slice s m d)∧an wr s m d A:=by
 have hk':k<P.length:=by rw [h.length];exact hk
 obtain ⟨s,m,d,c0,hL⟩:=(h.keep hb).lists _ rfl k hk';exact ⟨P[k],s,m,d,List.getElem?_eq_getElem hk',c0,hL⟩
theorem Tryz.infoEntS:(Tryz.prog.info? 33).map (fun i=>(i.zero,i.size,i.bytes))=some (some nZ,1,24):=by kernel_rfl
structure aU (w:World) (base g n c:Nat) (P:List (List ae)) (vs:List Value) (y:Option Nat):Prop where
 owns:w.ownsRow base 33 1 (sL g n c) n vs
 len:P.length=n
 ne:some g≠y
 lists:∀(i:Nat) A,P[i]?=some A→∃s m d,vs[i]?=some (.slice s m d)∧an w s m d A∧∀x,s=some x→0<m→x.block≠g∧some x.block≠y
theorem an.grownB {s:Option Addr} {m d:Nat} {A:List ae} (h:an w s m d A) (hg:w.grownBy w' row) (hne:∀x,s=some x→0<m→some x.block≠row):an w' s m d A :=
 h.moved hg.size (fun x e hp o=>World.cell?_of_block (a:=⟨x.block,o,none⟩) (hg.block x.block (h.lies x e hp).1 (hne x e hp)))
theorem aU.partsAt (h:aU w base g n c P vs y):cI w (pT g) n c P:=by
 have hlt:=(h.owns.lt g rfl).2;have hrc:n≤c∧c≤maxLen:=by
  rcases h.owns.2 with ⟨h',_⟩ | ⟨g',cap',cur,h',_,_,hnc,hcm,_,_⟩
  · simp at h'
  · simp only [Value.slice.injEq,Option.some.injEq,Addr.mk.injEq,and_true,true_and] at h';obtain ⟨rfl,rfl⟩:=h';exact ⟨hnc,hcm⟩
 refine ⟨h.len,hrc.1,hrc.2,(fun e=>by cases e),?_,?_⟩
 · rintro x e _;cases e;exact ⟨hlt,rfl⟩
 · rintro x e i hi;cases e;obtain ⟨s,m,d,hv,hE,_⟩:=h.lists i _ (List.getElem?_eq_getElem hi);refine ⟨s,m,d,?_,hE⟩;have:=h.owns.cellAt i (by rw [← h.len];omega);rw [hv] at this;simpa using this
theorem aU.grown (h:aU w base g n c P vs y) (hg:w.grownBy w' row) (hr:∀k,row=some k→y=some k):aU w' base g n c P vs y where
 owns:=h.owns.kept hg (.inr (fun e=>h.ne (by rw [hr g e.symm])))
 len:=h.len
 ne:=h.ne
 lists:=fun i A hA=>by
  obtain ⟨s,m,d,hv,hE,hx⟩:=h.lists i A hA
  exact ⟨s,m,d,hv,hE.grownB hg (fun x e hp e'=>(hx x e hp).2 (hr _ e'.symm).symm),hx⟩
theorem dg (hb:Bl w w'):w.grownBy w' none:=⟨hb.os,hb.tape,hb.output,hb.size,fun k hk _=>hb.block k hk⟩
theorem aU.below (h:aU w base g n c P vs y) (hb:Bl w w'):aU w' base g n c P vs y:=h.grown (dg hb) (fun k e=>by cases e)
theorem aU.turn (h:aU w base g n c P vs y) {y':Option Nat} (hy:y'=y∨y'=none∨y'=some w.heap.size):aU w base g n c P vs y' where
 owns:=h.owns
 len:=h.len
 ne:=by
  rcases hy with rfl | rfl | rfl
  · exact h.ne
  · exact fun e=>by cases e
  · intro e;have h1:=(h.owns.lt g rfl).2;have h2:=Option.some.inj e;omega
 lists:=fun i A hA=>by
  obtain ⟨s,m,d,hv,hE,hx⟩:=h.lists i A hA;refine ⟨s,m,d,hv,hE,fun x e hp=>⟨(hx x e hp).1,?_⟩⟩;rcases hy with rfl | rfl | rfl
  · exact (hx x e hp).2
  · exact fun e=>by cases e
  · intro e';have h1:=(hE.lies x e hp).1;have h2:=Option.some.inj e';omega
theorem aU.push {g2 c2:Nat} (h:aU w base g n c P vs y) {s:Option Addr} {m d:Nat} {A:List ae}
 (ho:w'.ownsRow base 33 1 (sL g2 (n+1) c2) (n+1) (vs++[.slice s m d])) (hg:w.grownBy w' (some g)) (h2:g2=g∨g2=w.heap.size)
 (hE:an w s m d A) (hx:∀x,s=some x→0<m→x.block≠g):aU w' base g2 (n+1) c2 (P++[A]) (vs++[.slice s m d]) none where
 owns:=ho
 len:=by rw [List.length_append,h.len];rfl
 ne:=fun e=>by cases e
 lists:=fun i B hB=>by
  have hvl:vs.length=n:=by have:=h.owns.1;omega
  by_cases hi:i<n
  · rw [List.getElem?_append_left (by rw [h.len];exact hi)] at hB
    obtain ⟨s',m',d',hv,hE',hx'⟩:=h.lists i B hB
    refine ⟨s',m',d',by rw [List.getElem?_append_left (by rw [hvl];exact hi)];exact hv,hE'.grownB hg (fun x e hp e'=>(hx' x e hp).1 (by cases e';rfl)),fun x e hp=>⟨?_,fun e=>by cases e⟩⟩
    rcases h2 with rfl | rfl
    · exact (hx' x e hp).1
    · have:=(hE'.lies x e hp).1;omega
  · rw [List.getElem?_append_right (by rw [h.len];omega),h.len] at hB
    have hi0:i - n=0:=by
     by_cases e:i - n=0
     · exact e
     · rw [List.getElem?_eq_none (by simp;omega)] at hB;cases hB
    rw [hi0] at hB
    simp at hB
    subst hB
    refine ⟨s,m,d,by rw [List.getElem?_append_right (by rw [hvl];omega),hvl,hi0];rfl,hE.grownB hg (fun x e hp e'=>hx x e hp (by cases e';rfl)),fun x e hp=>⟨?_,fun e=>by cases e⟩⟩
    rcases h2 with rfl | rfl
    · exact hx x e hp
    · have:=(hE.lies x e hp).1;omega
def eE (t:ByteArray) (P:List (List ae)) (k:Nat):Prop:=∀Ms m,ce (t.data.toList.drop k) Ms m→ce t.data.toList (P++Ms) (k+m)
theorem eE.start (t:ByteArray):eE t [] 0:=fun Ms m h=>by simpa using h
theorem eE.next (h:eE t P k) (hL:eN (t.data.toList.drop k) L):eE t (P++[L]) (k+(aY L).length):=by
 intro Ms m hm;obtain ⟨hd,r,hr⟩:=hL;rw [← List.drop_drop,hr,List.drop_left] at hm;have h1:ce (t.data.toList.drop k) (L :: Ms) ((aY L).length+m):=by rw [hr];exact ce.one hd hm
 have h2:=h _ _ h1;rw [List.append_assoc,Nat.add_assoc];exact h2
theorem eE.stop (h:eE t P k) (hn:∀L,¬eN (t.data.toList.drop k) L):ce t.data.toList P k:=by
 have:=h [] 0 (ce.none hn);simpa using this
theorem km (L:List ae):¬eN [] L:=by
 rintro ⟨_,r,hr⟩;have h1:=fg L;have h2:=congrArg List.length hr;rw [List.length_append] at h2;simp at h2;omega
theorem zJ (h:eN (t.data.toList.drop k) L) (hk:k≤t.size):k+(aY L).length≤t.size:=by
 obtain ⟨_,r,hr⟩:=h;have h2:=congrArg List.length hr;rw [List.length_append,List.length_drop,aN] at h2;omega
theorem uK (w:World) (v:Value) (T:TypeId):∀j u,[v][j]?=some u→(w.alloc (.cells #[v] T)).cell? ((⟨w.heap.size,0,none⟩:Addr).add j)=some u:=by
 intro j u hu;rw [Go.WideShapes.add_plain];match j,hu with
 | 0,hu=>simp at hu;subst hu;simp
def RdE (t:ByteArray) (e:Ending) (w':World):Prop:=∃(P:List (List ae)) (k g n c:Nat),e=.returned (.tuple #[sL g n c,iT (k:Int)])∧ce t.data.toList P k∧cI w' (pT g) n c P
theorem yd (t:ByteArray) (w:World) (ht:t.size≤1048576) :
 Calls Tryz.prog 69 #[.string t] w fun e w'=>RdE t e w'∧Bl w w':=by
 obtain ⟨i0,hi,hz0,hz1,hz2⟩:=info_parts Tryz.infoEntS;have HE0:Hid (aU (w.alloc (.cells #[] 33)) w.heap.size w.heap.size 0 0 [] [] none):=by
  have:=World.ownsRow_lit (base:=w.heap.size) (e:=33) (size:=1) w #[] 0 (Nat.le_refl _) (by simp) (by simp);exact ⟨by simpa using this,rfl,by simp,fun i A h=>by simp at h⟩
 have hB0:Bl w (w.alloc (.cells #[] 33)):=bZ;go_enter Tryz.func69,Tryz.ntmps69
 go_wp2;go_loopw [4,5] (fun vv zv wr=>∃(P:List (List ae)) (vs:List Value) (k g n c:Nat),n≤k∧k≤t.size∧zv=iT (k:Int)∧vv=sL g n c∧aU wr w.heap.size g n c P vs none∧eE t P k∧Bl w wr) (fun _ zv _=>t.size - (intOf zv).toNat)
 case atStart=>exact ⟨[],[],0,_,0,0,by omega,by omega,rfl,rfl,HE0.out,eE.start t,hB0⟩
 case round =>
  clear HE0 hB0;obtain ⟨P,vs,k,g,n,c,hnk,hkt,rfl,rfl,hP,hW,hb⟩:=hrel;have HP:Hid (aU wr w.heap.size g n c P vs none):=hP;have HW:Hid (eE t P k):=hW;have HB:Hid (Bl w wr):=hb;have hbz:=hb.size;clear hP hW hb;by_cases hlt:k<t.size
  · have hltI:(k:Int)<(t.size:Int):=by omega
    go_wp2_with fail
    refine (Av t k _ hkt ht).mono ?_;rintro e w1 ⟨he,hb1⟩;have HB1:Hid (Bl w w1):=HB.out.trans (hb1.mono HB.out.size);have HP1:Hid (aU w1 w.heap.size g n c P vs none):=HP.out.below hb1;have HGL:Hid (g<wr.heap.size):=(HP.out.owns.lt g rfl).2;have hb1z:=HB1.out.size;clear hb1;rcases he with ⟨L,gp,m,cp,z,hL,rfl,hz,hO⟩ | ⟨hno,v,rfl⟩
    · have hfl:=zJ hL hkt;have hfp:=fg L;have HWN:Hid (eE t (P++[L]) (k+(aY L).length)):=HW.out.next hL;obtain ⟨K,hK⟩:=aw (k+(aY L).length);rw [← hK] at HWN hfl hz;have hKk:k<K:=by omega
      subst hz;have HOP:Hid (aE w1 wr.heap.size gp m cp L):=hO;have HGP:Hid (g<gp):=by have h1:=HGL.out;have h2:=hO.lt.1;show g<gp;omega
      clear hL hK hO hfp;have hK0:¬(K:Int)<0:=by omega
      have ka:Bl w1 (w1.alloc (.cells #[sL gp m cp] 33)):=bZ;have KA:Hid (Bl w1 (w1.alloc (.cells #[sL gp m cp] 33))):=ka;clear ka;go_wp2_with (at_builtin;refine wpList_append_own_at _ rfl _ _ 110 rfl w.heap.size 33 i0 _ 1 24 Tryz.underlying110 hi hz0 hz1 hz2 rfl (by decide) _ _ _ rfl (HP1.out.owns.alloc _) ⟨w1.heap.size,0,none⟩ 1 1 [sL gp m cp] rfl rfl (uK _ _ _) (by simp [Value.oneCell']) (by unfold maxLen;omega) (by omega) (by simp;omega) ?_;intro v2 w2 hown2 hgrow2 hnil2 hat2;obtain ⟨g2,c2,rfl⟩:=ut hown2 hnil2)
      go_roundw
      case rel =>
       have hgr:(w1.alloc (.cells #[sL gp m cp] 33)).grownBy w2 (some g):=hgrow2;have hP2:=(HP1.out.below KA.out).push (A:=L) hown2 hgr (by
        rcases hat2 with h | h
        · exact .inl (Option.some.inj h)
        · exact .inr (Option.some.inj h)) (HOP.out.below KA.out).entsAt (fun x e _=>by cases e;have:=HGP.out;show gp≠g;omega)
       exact ⟨P++[L],_,K,g2,n+1,c2,by omega,by omega,rfl,rfl,hP2,HWN.out,(HB1.out.trans (KA.out.mono HB1.out.size)).grown hgr (by simp;omega) (fun j e=>by cases e;exact (HP1.out.owns.lt g rfl).1)⟩
      case measure=>simp [intOf];omega
    · have HFIN:Hid (ce t.data.toList P k):=HW.out.stop hno;clear hno;go_wp2;exact bodyPost_ret (v:=.tuple #[sL g n c,iT (k:Int)]) (by simp [results,Tryz.results69,go_sem]) rfl ⟨⟨P,k,g,n,c,rfl,HFIN.out,HP1.out.partsAt⟩,HB1.out⟩
  · have hltI:¬(k:Int)<(t.size:Int):=by omega
    have HFIN:Hid (ce t.data.toList P k):=HW.out.stop (by rw [List.drop_of_length_le (by rw [aN];omega)];exact km);go_wp2;exact bodyPost_ret (v:=.tuple #[sL g n c,iT (k:Int)]) (by simp [results,Tryz.results69,go_sem]) rfl ⟨⟨P,k,g,n,c,rfl,HFIN.out,HP.out.partsAt⟩,HB.out⟩
def lK (gs:List Nat) (P:List (List ae)):List Value:=(gs.zip P).map (fun x=>sL (x.1) x.2.length x.2.length)
theorem yF {gs:List Nat} (h1:gs[i]?=some g) (h2:P[i]?=some L):(lK gs P)[i]?=some (sL g L.length L.length):=by
 rw [lK,List.getElem?_map,List.getElem?_zip_eq_some (z:=(g,L)) |>.2 ⟨h1,h2⟩];rfl
structure cP (w:World) (base:Nat) (v:Value) (gs:List Nat) (P:List (List ae)):Prop where
 row:w.ownsRow base 33 1 v P.length (lK gs P)
 len:gs.length=P.length
 own:∀(i g:Nat) (L:List ae),gs[i]?=some g→P[i]?=some L→aE w base g L.length L.length L
 nd:∀(i j g:Nat),gs[i]?=some g→gs[j]?=some g→i=j
theorem cP.below {gs:List Nat} (h:cP w base v gs P) (hb:Bl w w'):cP w' base v gs P :=
 ⟨kg h.row hb,h.len,fun i g L h1 h2=>(h.own i g L h1 h2).below hb,h.nd⟩
theorem cP.off {gs:List Nat} (h:cP w base v gs P) {i g:Nat} {L:List ae} (h1:gs[i]?=some g) (h2:P[i]?=some L):v.ownBlock≠some g :=
 ms (h.own i g L h1 h2).owns h.row (by decide) rfl
theorem cP.at {gs:List Nat} (h:cP w base v gs P) {i:Nat} (hi:i<P.length):∃g L,gs[i]?=some g∧P[i]?=some L:=by
 have h1:=h.len;exact ⟨_,_,List.getElem?_eq_getElem (by omega),List.getElem?_eq_getElem hi⟩
theorem cP.form {gs:List Nat} (h:cP w base v gs P):∃a c,v=.slice a P.length c:=by
 rcases h.row.2 with ⟨hv,h0⟩ | ⟨g,cap,cur,hv,_⟩
 · exact ⟨none,0,by rw [hv,h0]⟩
 · exact ⟨_,cap,hv⟩
theorem cP.partsAt {gs:List Nat} (h:cP w base (.slice a n c) gs P) (hn:n=P.length):cI w a n c P:=by
 subst hn;rcases h.row.2 with ⟨hv,h0⟩ | ⟨g,cap,cur,hv,_,_,h3,h4,_,_⟩
 · have hP:P=[]:=List.length_eq_zero_iff.1 h0;subst hP;cases hv;exact ⟨rfl,Nat.le_refl _,by unfold maxLen;omega,fun _=>rfl,fun x e=>(by cases e),fun x e=>(by cases e)⟩
 · cases hv;refine ⟨rfl,h3,h4,fun e=>(by cases e),fun x e _=>?_,fun x e i hi=>?_⟩
   · cases e;exact ⟨(h.row.lt g rfl).2,rfl⟩
   · cases e;obtain ⟨q,L,h5,h6⟩:=h.at hi;have hL:P[i]=L:=Option.some.inj ((List.getElem?_eq_getElem hi).symm.trans h6);refine ⟨_,_,_,?_,by rw [hL];exact (h.own i q L h5 h6).entsAt⟩;have hc:=h.row.cellAt i (by omega);rw [yF h5 h6] at hc;simpa using hc
theorem s8 {gs:List Nat} (h:gs.length=P.length):lK (gs++[g]) (P++[L])=lK gs P++[sL g L.length L.length]:=by
 rw [lK,List.zip_append h,List.map_append];rfl
theorem cP.push {v':Value} {gs:List Nat} (h:cP w base v gs P) (hO:aE w base g L.length L.length L) (hnew:∀x ∈ gs,x≠g)
 (ho:w'.ownsRow base 33 1 v' (P.length+1) (lK gs P++[sL g L.length L.length])) (hg:w.grownBy w' v.ownBlock):cP w' base v' (gs++[g]) (P++[L]):=by
 have hgO:v.ownBlock≠some g:=ms hO.owns h.row (by decide) rfl;refine ⟨by rw [s8 h.len,List.length_append];exact ho,by simp [h.len],fun i q K h1 h2=>?_,fun i j q h1 h2=>?_⟩
 · by_cases hi:i<P.length
   · rw [List.getElem?_append_left (by rw [h.len];exact hi)] at h1;rw [List.getElem?_append_left hi] at h2;exact (h.own i q K h1 h2).grown hg (fun e=>h.off h1 h2 e.symm)
   · have hi2:=(List.getElem?_eq_some_iff.1 h2).1;rw [List.length_append] at hi2;have hi3:i=P.length:=by simp at hi2;omega
     subst hi3;rw [List.getElem?_append_right (Nat.le_refl _)] at h2;rw [← h.len,List.getElem?_append_right (Nat.le_refl _)] at h1;simp at h1 h2;subst h1;subst h2;exact hO.grown hg (fun e=>hgO e.symm)
 · have hlt:∀{x:Nat},(gs++[g])[x]?=some q→x<gs.length∨x=gs.length:=fun {x} hx=>by
    have:=(List.getElem?_eq_some_iff.1 hx).1;simp at this;omega
   rcases hlt h1 with a1 | a1 <;> rcases hlt h2 with a2 | a2
   · rw [List.getElem?_append_left a1] at h1;rw [List.getElem?_append_left a2] at h2;exact h.nd i j q h1 h2
   · exfalso
     rw [List.getElem?_append_left a1] at h1;subst a2;simp at h2;subst h2;exact hnew _ (List.mem_of_getElem? h1) rfl
   · exfalso
     rw [List.getElem?_append_left a2] at h2;subst a1;simp at h1;subst h1;exact hnew _ (List.mem_of_getElem? h2) rfl
   · omega
theorem cP.old {gs:List Nat} (h:cP w base v gs P):∀x ∈ gs,x<w.heap.size:=by
 intro x hx;obtain ⟨i,hi⟩:=List.getElem?_of_mem hx;obtain ⟨_,L,_,hL⟩:=h.at (i:=i) (by rw [← h.len];exact (List.getElem?_eq_some_iff.1 hi).1);exact (h.own i x L hi hL).lt.2
def RdZ (t:ByteArray) (base:Nat) (e:Ending) (w':World):Prop:=∃(P:List (List ae)) (k:Nat) (v:Value) (gs:List Nat),e=.returned (.tuple #[v,iT (k:Int)])∧ce t.data.toList P k∧cP w' base v gs P∧P.length≤1048576
theorem cP.gro {A:Nat} {gs:List Nat} (h:cP w base v gs P) (hg:w.grownBy w' (some A)) (hA:A<base):cP w' base v gs P :=
 ⟨uu h.row hg hA,h.len,fun i g L h1 h2=>(h.own i g L h1 h2).grown hg (fun e=>by have h3:=(h.own i g L h1 h2).lt.1;have:=Option.some.inj e;omega),h.nd⟩
theorem Be (t:ByteArray) (w:World) (ht:t.size≤1048576) (hE:iy w.heap.size w) (hT:kQ w.heap.size w) :
 Calls Tryz.prog 140 #[.string t] w fun e w'=>RdZ t (w.heap.size+1) e w'∧Bl w w'∧w.heap.size+1≤w'.heap.size:=by
 obtain ⟨i0,hi,hz0,hz1,hz2⟩:=info_parts Tryz.infoEntS;have HE:=ar hE;have HT:=ar hT;have A0:bT (w.alloc (.cells #[.string t,iT 0] 216)) w.heap.size t 0:=bT.new w 216 t 0 (Nat.zero_le _);have hB0:Bl w (w.alloc (.cells #[.string t,iT 0] 216)):=bZ;clear hE hT;obtain ⟨A,hA⟩:=aw w.heap.size;have HA:Hid (A=w.heap.size):=hA;go_enter Tryz.func140,Tryz.ntmps140
 go_wp2;try simp only [← hA]
 rw [← hA] at A0;go_loopw [5] (fun vv wr=>∃(P:List (List ae)) (gs:List Nat) (k:Nat),cP wr (A+1) vv gs P∧eE t P k∧bT wr A t k∧P.length≤k∧Bl w wr∧A+1≤wr.heap.size) (fun vv _=>t.size+1 - vG vv)
 case atStart=>exact ⟨[],[],0,⟨⟨rfl,Or.inl ⟨rfl,rfl⟩⟩,rfl,fun i g L h=>by simp at h,fun i j g h=>by simp at h⟩,eE.start t,A0,Nat.le_refl _,hB0,by simp [hA]⟩
 case round =>
  clear A0 hB0 hA;obtain ⟨P,gs,k,hP,hW,hL,hpk,hb,hz⟩:=hrel;obtain ⟨ax,cx,rfl⟩:=hP.form;obtain ⟨n,hn⟩:=aw P.length;have HNN:Hid (n=P.length):=hn;rw [← hn] at hP hpk ⊢;clear hn;have HP:Hid (cP wr (A+1) (.slice ax n cx) gs P):=hP;have HW:Hid (eE t P k):=hW;have HB:Hid (Bl w wr):=hb;have HZ:Hid (A+1≤wr.heap.size):=hz;have hkt:=hL.le;have HEW:Hid (iy A wr):=fun w' kk=>HE.out w' (HB.out.trans (kk.mono (by have:=HA.out;omega)))
  have HTW:Hid (kQ A wr):=fun w' kk=>HT.out w' (HB.out.trans (kk.mono (by have:=HA.out;omega)))
  clear hP hW hb hz;go_wp2_with fail
  refine (wZ A A k t _ hL ht (Nat.le_refl _) HEW.out HTW.out).mono ?_;rintro e w1 ⟨he,hg1⟩;have HP1:Hid (cP w1 (A+1) (.slice ax n cx) gs P):=HP.out.gro hg1 (by omega);have HB1:Hid (Bl w w1):=HB.out.grown hg1 HB.out.size (fun x e=>by have:=HA.out;have:=Option.some.inj e;omega);have HZ1:Hid (A+1≤w1.heap.size):=Nat.le_trans HZ.out hg1.size;clear hg1 hL HEW HTW;rcases he with ⟨L,aL,m,c,hF,rfl,hEn,hm,hL1⟩ | ⟨hno,rfl,hL1⟩
  · have HWN:Hid (eE t (P++[L]) (k+(aY L).length)):=HW.out.next hF;have hfp:=fg L;have HF:Hid (eN (t.data.toList.drop k) L):=hF;have HL1:Hid (bT w1 A t (k+(aY L).length)):=hL1;have HML:Hid (L.length=m):=hEn.length;have HTX:Hid (∀e ∈ L,e.1.size≤281474976710656∧e.2.2.2.1.size≤281474976710656):=wy hF.1;have HEN:Hid (an w1 aL m c L):=hEn;clear hF hL1 hEn;go_wp2_with fail
    refine (ip aL m c L _ HEN.out (by omega) HTX.out).mono ?_;rintro e w2 ⟨rfl,hO2,hz2',hb2⟩;have HO2:Hid (aE w2 w1.heap.size w1.heap.size m m L):=hO2;have HP2:Hid (cP w2 (A+1) (.slice ax n cx) gs P):=HP1.out.below hb2;have HB2:Hid (Bl w w2):=HB1.out.trans (hb2.mono HB1.out.size);have HL2:Hid (bT w2 A t (k+(aY L).length)):=HL1.out.below hb2;have HZ2:Hid (A+1≤w2.heap.size):=Nat.le_trans HZ1.out hb2.size;obtain ⟨G,hG⟩:=aw w1.heap.size;have HG:Hid (G=w1.heap.size):=hG;have HNEW:Hid (∀x ∈ gs,x≠G):=fun x hx=>by have:=HP1.out.old x hx;have:=HG.out;omega
    rw [← hG];clear hO2 hb2 hG hz2';have ka:Bl w2 (w2.alloc (.cells #[sL G m m] 33)):=bZ;have KA:Hid (Bl w2 (w2.alloc (.cells #[sL G m m] 33))):=ka;have HPA:Hid (cP (w2.alloc (.cells #[sL G m m] 33)) (A+1) (.slice ax n cx) gs P):=HP2.out.below ka;have HRA:Hid ((w2.alloc (.cells #[sL G m m] 33)).ownsRow (A+1) 33 1 (.slice ax n cx) n (lK gs P)):=by have h1:=HPA.out.row;rw [← HNN.out] at h1;exact h1
    have HBA:Hid (Bl w (w2.alloc (.cells #[sL G m m] 33))):=HB2.out.trans (ka.mono HB2.out.size);have HZA:Hid (A+1≤(w2.alloc (.cells #[sL G m m] 33)).heap.size):=Nat.le_trans HZ2.out ka.size;clear ka;go_wp2_with (at_builtin;refine wpList_append_own _ rfl _ _ 110 rfl (A+1) 33 i0 _ 1 24 Tryz.underlying110 hi hz0 hz1 hz2 rfl (by decide) _ _ _ rfl HRA.out ⟨w2.heap.size,0,none⟩ 1 1 [sL G m m] rfl rfl (uK _ _ _) (by simp [Value.oneCell']) (by unfold maxLen;omega) (by omega) HZA.out ?_;intro v2 w4 hown2 hgrow2 hnil2;obtain ⟨g2,c2,rfl⟩:=iI hown2 (fun e=>by cases (hnil2.1 e).2))
    go_roundw
    case rel =>
     have hap:∀x,(Value.slice ax n cx).ownBlock=some x→A+1≤x:=fun x e=>(HRA.out.lt x e).1
     have hm':=HML.out;have hOA:aE (w2.alloc (.cells #[sL G m m] 33)) (A+1) G L.length L.length L:=by
      rw [hm',HG.out];exact (HO2.out.below (by rw [← HG.out];exact KA.out)).mono HZ1.out
     refine ⟨P++[L],gs++[G],k+(aY L).length,HPA.out.push hOA HNEW.out ?_ hgrow2,HWN.out,(HL2.out.below KA.out).gro hgrow2 (fun e=>by have:=hap _ e;omega),?_,HBA.out.grown hgrow2 HBA.out.size (fun x e=>by have:=hap x e;have:=HA.out;omega),Nat.le_trans HZA.out hgrow2.size⟩
     · rw [hm',← HNN.out];exact hown2
     · rw [List.length_append,← HNN.out];simp;omega
    case measure =>
     have:=HL2.out.le;simp [vG];omega
  · have HFIN:Hid (ce t.data.toList P k):=HW.out.stop hno;have HPL:Hid (P.length≤1048576):=by have:=HNN.out;show _≤_;omega
    clear hno;have HMK:Hid (∀w',Bl w1 w'→(w'.cell? ⟨A,1,none⟩=some (iT (k:Int))∧A<w'.heap.size∧Bl w1 w')):=fun w' kk=>⟨cell_later kk hL1.c1,Nat.lt_of_lt_of_le hL1.lt kk.size,kk⟩
    have k0:Bl w1 w1.drew:=(Below.refl _ w1).drew;go_upto_region 5 with fail
    go_region_held3 (fun w'=>w'.cell? ⟨A,1,none⟩=some (iT (k:Int))∧A<w'.heap.size∧Bl w1 w') (with_reducible exact HMK.out _ k0) (fail)
    all_goals
     go_wp2;exact bodyPost_ret (v:=.tuple #[.slice ax n cx,iT (k:Int)]) (by simp [results,Tryz.results140,go_sem]) rfl ⟨⟨P,k,_,gs,rfl,HFIN.out,by rw [← HA.out];exact HP1.out.below k0,HPL.out⟩,HB1.out.drew,by rw [← HA.out];exact HZ1.out⟩
def nR:List (List ae)→Nat
 | []=>0
 | L :: r=>(aY L).length+nR r
def fu:List (List ae)→List UInt8
 | []=>[]
 | L :: r=>aY L++fu r
theorem fC:∀P,(fu P).length=nR P
 | []=>rfl
 | L :: r=>by rw [fu,nR,List.length_append,fC r]
theorem gJ:∀(A B:List (List ae)),fu (A++B)=fu A++fu B
 | [],B=>rfl
 | L :: A,B=>by rw [List.cons_append,fu,fu,gJ A B,List.append_assoc]
theorem xI (h:P[i]?=some L):fu (P.take (i+1))=fu (P.take i)++aY L:=by
 rw [List.take_add_one,h,Option.toList_some,gJ,fu,fu,List.append_nil]
theorem qK (h:P[i]?=some L):nR (P.take (i+1))=nR (P.take i)+(aY L).length:=by
 rw [← fC,xI h,List.length_append,fC]
theorem jD (h:ce l P e):∀L ∈ P,bG L=true:=by
 induction h with
 | none _=>intro L hL;simp at hL
 | one hd _ ih =>
  intro L hL;rcases List.mem_cons.1 hL with rfl | h1
  · exact hd
  · exact ih L h1
theorem ja (h:ce l P e):l.take e=fu P∧e=nR P:=by
 induction h with
 | none _=>exact ⟨rfl,rfl⟩
 | @one L r Ls k hd hr ih =>
  refine ⟨?_,by rw [nR,← ih.2]⟩;rw [List.take_append,List.take_of_length_le (by omega),fu,show (aY L).length+k - (aY L).length=k by omega,ih.1]
theorem pE:nR (P.take i)≤nR P:=by
 have h:=gJ (P.take i) (P.drop i);rw [List.take_append_drop] at h;rw [← fC,← fC,h,List.length_append];omega
theorem oo:ce [] [] 0:=ce.none km
theorem qE:∀(P:List (List ae)),(∀L ∈ P,bG L=true)→ce (fu P) P (nR P)
 | [],_=>oo
 | L :: P,h=>by
  have ih:=qE P (fun M hM=>h M (List.mem_cons_of_mem _ hM))
  exact ce.one (h L (by simp)) ih
end Go.Proofs.YtehiefdphnljaaaGreatDoor
