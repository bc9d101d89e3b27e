/- Walks. -/
import Derived.Test.YtpobkmjicbobdaaGreatBn04
import Derived.Maps.AppendAt
namespace Go.Proofs.YtpobkmjicbobdaaGreat
set_option maxRecDepth 100000
set_option maxHeartbeats 40000000
open Go.RowKit
variable {A L:List ac} {P:List (List ac)} {a:Option Addr} {b base c cap g i k n off:Nat} {row y:Option Nat} {vs:List Value} {w w':World}
def b9 (e:ac):List Value:=[.string e.1,iT e.2.1,iT e.2.2.1,.string e.2.2.2.1,iT e.2.2.2.2]
def aE (L:List ac):List Value:=L.flatMap b9
theorem aU (A B:List ac):aE (A++B)=aE A++aE B:=by simp [aE]
theorem bi (L:List ac):(aE L).length=L.length*5:=by
 induction L with
 | nil=>rfl
 | cons l r ih=>simp [aE,b9] at ih ⊢;omega
theorem uX (l:ac) (r:List ac):aE (l :: r)=.string l.1 :: iT l.2.1 :: iT l.2.2.1 :: .string l.2.2.2.1 :: iT l.2.2.2.2 :: aE r:=rfl
theorem fs (L:List ac) (j:Nat) (l:ac) (h:L[j]?=some l):iM (aE L) j l:=by
 induction L generalizing j with
 | nil=>simp at h
 | cons a r ih =>
  rw [uX];cases j with
  | zero=>simp at h;subst h;exact ⟨rfl,rfl,rfl,rfl,rfl⟩
  | succ j =>
   simp at h;obtain ⟨h0,h1,h2,h3,h4⟩:=ih j h;refine ⟨?_,?_,?_,?_,?_⟩
   · rw [show (j+1)*5=j*5+1+1+1+1+1 by omega];simpa using h0
   · rw [show (j+1)*5+1=j*5+1+1+1+1+1+1 by omega];simpa using h1
   · rw [show (j+1)*5+2=j*5+2+1+1+1+1+1 by omega];simpa using h2
   · rw [show (j+1)*5+3=j*5+3+1+1+1+1+1 by omega];simpa using h3
   · rw [show (j+1)*5+4=j*5+4+1+1+1+1+1 by omega];simpa using h4
theorem sP {xs:List Value} (hx:xs.length=L.length*5) (hh:∀j l,L[j]?=some l→iM xs j l):xs=aE L:=by
 apply List.ext_getElem?;intro i;by_cases hi:i<L.length*5
 · have hj:i / 5<L.length:=by omega
   obtain ⟨a0,a1,a2,a3,a4⟩:=hh (i / 5) L[i / 5] (List.getElem?_eq_getElem hj);obtain ⟨b0,b1,b2,b3,b4⟩:=fs L (i / 5) L[i / 5] (List.getElem?_eq_getElem hj);have:i=i / 5*5∨i=i / 5*5+1∨i=i / 5*5+2∨i=i / 5*5+3∨i=i / 5*5+4:=by omega
   rcases this with e | e | e | e | e
   · rw [e,a0,b0]
   · rw [e,a1,b1]
   · rw [e,a2,b2]
   · rw [e,a3,b3]
   · rw [e,a4,b4]
 · rw [List.getElem?_eq_none (by omega),List.getElem?_eq_none (by rw [bi];omega)]
theorem aQ (L:List ac):∀u ∈ aE L,u.oneCell'=true:=by
 intro u hu;simp only [aE,List.mem_flatMap,b9,List.mem_cons,List.not_mem_nil,or_false] at hu;obtain ⟨l,_,rfl | rfl | rfl | rfl | rfl⟩:=hu <;> rfl
structure ay (w:World) (base b n cap:Nat) (L:List ac):Prop where
 owns:w.ownsRow base 50 5 (sL b n cap) n (aE L)
 len:L.length=n
 ents:∀l ∈ L,ec l
theorem ay.entsAt (h:ay w base b n cap L):aj w (pT b) n cap L :=
 pY h.owns h.len h.ents (fun j l hl=>fs L j l hl)
theorem ay.lt (h:ay w base b n cap L):base≤b∧b<w.heap.size:=h.owns.lt b rfl
theorem ay.grown (h:ay w base b n cap L) (hg:w.grownBy w' row) (hne:some b≠row):ay w' base b n cap L :=
 ⟨h.owns.kept hg (.inr hne),h.len,h.ents⟩
theorem ay.below (h:ay w base b n cap L) (hb:Bl w w'):ay w' base b n cap L:=h.grown (row:=none) ⟨hb.os,hb.tape,hb.output,hb.size,fun k hk _=>hb.block k hk⟩ (by simp)
theorem ay.setCell (h:ay w base b n cap L) {p:Addr} (hp:p.block≠b) (u:Value):ay (w.setCell p u) base b n cap L :=
 h.grown (row:=some p.block) ⟨rfl,rfl,rfl,by simp [World.setCell],fun k _ hk=>Below.heap_setCell _ _ _ _ (fun e=>hk (by rw [e]))⟩ (fun e=>hp (by cases e;rfl))
theorem ay.mono {base':Nat} (h:ay w base b n cap L) (hb:base'≤base):ay w base' b n cap L:=by
 refine ⟨⟨h.owns.1,?_⟩,h.len,h.ents⟩;rcases h.owns.2 with h2 | ⟨g,cap,cur,hv,hg,r⟩
 · exact Or.inl h2
 · exact Or.inr ⟨g,cap,cur,hv,Nat.le_trans hb hg,r⟩
theorem aj.sub {len j:Nat} (h:aj w (some ⟨b,off,none⟩) len cap L) (hij:i≤j) (hj:j≤len):aj w (some ⟨b,off+i*5,none⟩) (j - i) (cap - i) ((L.drop i).take (j - i)) where
 length:=by have:=h.length;simp;omega
 room:=by have:=h.room;omega
 big:=by have:=h.big;omega
 ents:=fun l hl=>h.ents l (List.mem_of_mem_drop (List.mem_of_mem_take hl))
 nil:=fun e=>by cases e
 lies:=fun x e hp=>by cases e;exact h.lies ⟨b,off,none⟩ rfl (by omega)
 cells:=fun x e k hk=>by
  cases e
  have hk':i+k<L.length:=by simp at hk;omega
  have h1:=h.cells ⟨b,off,none⟩ rfl (i+k) hk'
  have e1:off+(i+k)*5=off+i*5+k*5:=by omega
  simp only [e1] at h1
  simpa using h1
structure cK (w:World) (a:Option Addr) (n c:Nat) (P:List (List ac)):Prop where
 length:P.length=n
 room:n≤c
 big:c≤maxLen
 nil:a=none→n=0
 lies:∀x,a=some x→0<n→x.block<w.heap.size∧x.spot=none
 lists:∀x,a=some x→∀i (h:i<P.length),∃s m d,w.cell? ⟨x.block,x.off+i,none⟩=some (.slice s m d)∧aj w s m d P[i]
theorem cK.keep (h:cK w a n c P) (hb:Bl w w'):cK w' a n c P where
 length:=h.length
 room:=h.room
 big:=h.big
 nil:=h.nil
 lies:=fun x e hp=>⟨Nat.lt_of_lt_of_le (h.lies x e hp).1 hb.size,(h.lies x e hp).2⟩
 lists:=fun x e i hi=>by
  obtain ⟨s,m,d,c0,hL⟩:=h.lists x e i hi
  exact ⟨s,m,d,cell_later hb c0,hL.keep hb⟩
theorem cK.form (h:cK w a n c P) (hl:1≤n):∃b off,a=some ⟨b,off,none⟩∧b<w.heap.size:=by
 cases a with
 | none=>have:=h.nil rfl;omega
 | some x =>
  obtain ⟨b,off,spot⟩:=x;obtain ⟨h1,h2⟩:=h.lies _ rfl (by omega);simp only at h1 h2;subst h2;exact ⟨b,off,rfl,h1⟩
theorem cK.list {wr:World} (h:cK w (some ⟨b,off,none⟩) n c P) (hb:Bl w wr) (k:Nat) (hk:k<n) :
 ∃A s m d,P[k]?=some A∧wr.cell? ⟨b,off+k,none⟩=some (.slice s m d)∧aj wr s m d A:=by
 have hk':k<P.length:=by rw [h.length];exact hk
 obtain ⟨s,m,d,c0,hL⟩:=(h.keep hb).lists _ rfl k hk';exact ⟨P[k],s,m,d,List.getElem?_eq_getElem hk',c0,hL⟩
theorem Tryz.infoEntS:(Tryz.prog.info? 28).map (fun i=>(i.zero,i.size,i.bytes))=some (some nZ,1,24):=by kernel_rfl
structure aX (w:World) (base g n c:Nat) (P:List (List ac)) (vs:List Value) (y:Option Nat):Prop where
 owns:w.ownsRow base 28 1 (sL g n c) n vs
 len:P.length=n
 ne:some g≠y
 lists:∀(i:Nat) A,P[i]?=some A→∃s m d,vs[i]?=some (.slice s m d)∧aj w s m d A∧∀x,s=some x→0<m→x.block≠g∧some x.block≠y
theorem aj.grownB {s:Option Addr} {m d:Nat} (h:aj w s m d A) (hg:w.grownBy w' row) (hne:∀x,s=some x→0<m→some x.block≠row):aj w' s m d A :=
 h.moved hg.size (fun x e hp o=>World.cell?_of_block (a:=⟨x.block,o,none⟩) (hg.block x.block (h.lies x e hp).1 (hne x e hp)))
theorem aX.partsAt (h:aX w base g n c P vs y):cK w (pT g) n c P:=by
 have hlt:=(h.owns.lt g rfl).2;have hrc:n≤c∧c≤maxLen:=by
  rcases h.owns.2 with ⟨h',_⟩ | ⟨g',cap',cur,h',_,_,hnc,hcm,_,_⟩
  · simp at h'
  · simp only [Value.slice.injEq,Option.some.injEq,Addr.mk.injEq,and_true,true_and] at h';obtain ⟨rfl,rfl⟩:=h';exact ⟨hnc,hcm⟩
 refine ⟨h.len,hrc.1,hrc.2,(fun e=>by cases e),?_,?_⟩
 · rintro x e _;cases e;exact ⟨hlt,rfl⟩
 · rintro x e i hi;cases e;obtain ⟨s,m,d,hv,hE,_⟩:=h.lists i _ (List.getElem?_eq_getElem hi);refine ⟨s,m,d,?_,hE⟩;have:=h.owns.cellAt i (by rw [← h.len];omega);rw [hv] at this;simpa using this
theorem aX.grown (h:aX w base g n c P vs y) (hg:w.grownBy w' row) (hr:∀k,row=some k→y=some k):aX w' base g n c P vs y where
 owns:=h.owns.kept hg (.inr (fun e=>h.ne (by rw [hr g e.symm])))
 len:=h.len
 ne:=h.ne
 lists:=fun i A hA=>by
  obtain ⟨s,m,d,hv,hE,hx⟩:=h.lists i A hA
  exact ⟨s,m,d,hv,hE.grownB hg (fun x e hp e'=>(hx x e hp).2 (hr _ e'.symm).symm),hx⟩
theorem dE (hb:Bl w w'):w.grownBy w' none:=⟨hb.os,hb.tape,hb.output,hb.size,fun k hk _=>hb.block k hk⟩
theorem aX.below (h:aX w base g n c P vs y) (hb:Bl w w'):aX w' base g n c P vs y:=h.grown (dE hb) (fun k e=>by cases e)
theorem aX.turn (h:aX w base g n c P vs y) {y':Option Nat} (hy:y'=y∨y'=none∨y'=some w.heap.size):aX w base g n c P vs y' where
 owns:=h.owns
 len:=h.len
 ne:=by
  rcases hy with rfl | rfl | rfl
  · exact h.ne
  · exact fun e=>by cases e
  · intro e;have h1:=(h.owns.lt g rfl).2;have h2:=Option.some.inj e;omega
 lists:=fun i A hA=>by
  obtain ⟨s,m,d,hv,hE,hx⟩:=h.lists i A hA;refine ⟨s,m,d,hv,hE,fun x e hp=>⟨(hx x e hp).1,?_⟩⟩;rcases hy with rfl | rfl | rfl
  · exact (hx x e hp).2
  · exact fun e=>by cases e
  · intro e';have h1:=(hE.lies x e hp).1;have h2:=Option.some.inj e';omega
theorem aX.push {g2 c2:Nat} (h:aX w base g n c P vs y) {s:Option Addr} {m d:Nat} {A:List ac}
 (ho:w'.ownsRow base 28 1 (sL g2 (n+1) c2) (n+1) (vs++[.slice s m d])) (hg:w.grownBy w' (some g)) (h2:g2=g∨g2=w.heap.size)
 (hE:aj w s m d A) (hx:∀x,s=some x→0<m→x.block≠g):aX w' base g2 (n+1) c2 (P++[A]) (vs++[.slice s m d]) none where
 owns:=ho
 len:=by rw [List.length_append,h.len];rfl
 ne:=fun e=>by cases e
 lists:=fun i B hB=>by
  have hvl:vs.length=n:=by have:=h.owns.1;omega
  by_cases hi:i<n
  · rw [List.getElem?_append_left (by rw [h.len];exact hi)] at hB
    obtain ⟨s',m',d',hv,hE',hx'⟩:=h.lists i B hB
    refine ⟨s',m',d',by rw [List.getElem?_append_left (by rw [hvl];exact hi)];exact hv,hE'.grownB hg (fun x e hp e'=>(hx' x e hp).1 (by cases e';rfl)),fun x e hp=>⟨?_,fun e=>by cases e⟩⟩
    rcases h2 with rfl | rfl
    · exact (hx' x e hp).1
    · have:=(hE'.lies x e hp).1;omega
  · rw [List.getElem?_append_right (by rw [h.len];omega),h.len] at hB
    have hi0:i - n=0:=by
     by_cases e:i - n=0
     · exact e
     · rw [List.getElem?_eq_none (by simp;omega)] at hB;cases hB
    rw [hi0] at hB
    simp at hB
    subst hB
    refine ⟨s,m,d,by rw [List.getElem?_append_right (by rw [hvl];omega),hvl,hi0];rfl,hE.grownB hg (fun x e hp e'=>hx x e hp (by cases e';rfl)),fun x e hp=>⟨?_,fun e=>by cases e⟩⟩
    rcases h2 with rfl | rfl
    · exact hx x e hp
    · have:=(hE.lies x e hp).1;omega
def jh (P:List (List ac)) (i k:Nat):Bool:=match P[i]? with | none=>true | some A=>match P[k]? with | none=>true | some B=>iK A B
theorem mu {B:List ac} (h:P[i]?=some A) (h':P[k]?=some B):jh P i k=iK A B:=by
 unfold jh;simp only [h,h']
def mA (P:List (List ac)) (i:Nat):Prop:=∀j k,j<i→j<k→k<P.length→jh P j k=true
def pI (P:List (List ac)) (i k:Nat):Prop:=∀j,i<j→j<k→jh P i j=true
def im (P:List (List ac)):Bool:=(List.range P.length).all fun i=>(List.range P.length).all fun k=>!decide (i<k) || jh P i k
theorem AJ (hi:i<k) (hk:k<P.length) (h:jh P i k=false):im P=false:=by
 rw [Bool.eq_false_iff];intro h1;unfold im at h1;rw [List.all_eq_true] at h1;have h2:=h1 i (List.mem_range.2 (by omega));rw [List.all_eq_true] at h2;have h3:=h2 k (List.mem_range.2 hk);rw [h,decide_eq_true hi] at h3;cases h3
theorem zY (h:mA P P.length):im P=true:=by
 unfold im;rw [List.all_eq_true];intro i hi;rw [List.all_eq_true];intro k hk;by_cases e:i<k
 · rw [h i k (List.mem_range.1 hi) e (List.mem_range.1 hk)];simp
 · rw [decide_eq_false e];rfl
theorem AK (h:pI P i k) (hk:jh P i k=true):pI P i (k+1):=by
 intro j h1 h2;by_cases e:j=k
 · subst e;exact hk
 · exact h j h1 (by omega)
theorem AI (h:mA P i) (hi:pI P i P.length):mA P (i+1):=by
 intro j k h1 h2 h3;by_cases e:j=i
 · subst e;exact hi k h2 h3
 · exact h j k (by omega) h2 h3
theorem yF (sq:Int) (am av ak:Option Addr) (nm cm nv cv nk ck:Nat) (P:List (List ac)) (w:World)
 (hp:∀w1,Bl w w1→Calls Tryz.prog 110 #[.agg #[iT sq,.slice am nm cm,.slice av nv cv,.slice ak nk ck]] w1 fun e w'=>∃a n c,e=.returned (.slice a n c)∧cK w' a n c P∧Bl w1 w') :
 Calls Tryz.prog 91 #[.agg #[iT sq,.slice am nm cm,.slice av nv cv,.slice ak nk ck]] w fun e w'=>e=.returned (.bool (im P))∧Bl w w':=by
 go_enter Tryz.func91,Tryz.ntmps91
 go_wp2_with fail
 refine (hp _ bZ).mono ?_;rintro e w2 ⟨a,n,c,rfl,hP,hb2⟩;have K1:∀o,Bl w (w.alloc o):=fun o=>(Below.refl _ _).alloc (Nat.le_refl _) o
 have K2:Hid (Bl w w2):=(K1 _).trans (hb2.mono (K1 _).size);clear hb2 hp K1;have HLN:Hid (P.length=n):=hP.length;have hr:=hP.room;have hbg:=hP.big;unfold maxLen at hbg;have H:Hid (cK w2 a n c P):=hP;clear hP;go_wp2;go_loopw [4] (fun iv wr=>∃i:Nat,i≤n∧iv=iT i∧Bl w2 wr∧mA P i) (fun iv _=>n - (intOf iv).toNat)
 case atStart=>exact ⟨0,Nat.zero_le _,rfl,Below.refl _ _,fun j k hj=>absurd hj (Nat.not_lt_zero _)⟩
 case round =>
  obtain ⟨i,hi,rfl,hb,hw⟩:=hrel;have HW:Hid (mA P i):=hw;have HB:Hid (Bl w2 wr):=hb;clear hw hb;by_cases hin:i<n
  · have hinI:(i:Int)<(n:Int):=by omega
    obtain ⟨b,off,rfl,hbb⟩:=H.out.form (by omega);go_wp2;go_loopw [5] (fun kv wq=>∃k:Nat,i<k∧k≤n∧kv=iT k∧Bl w2 wq∧pI P i k) (fun kv _=>n - (intOf kv).toNat)
    case atStart=>exact ⟨i+1,by omega,by omega,by go_num,HB.out,fun j h1 h2=>absurd h2 (by omega)⟩
    case round =>
     obtain ⟨k,hik,hk,rfl,hbk,hwk⟩:=hrel;have HWK:Hid (pI P i k):=hwk;have HBK:Hid (Bl w2 wr):=hbk;clear hwk;by_cases hkn:k<n
     · have hknI:(k:Int)<(n:Int):=by omega
       obtain ⟨A,s1,n1,c1,hA,g1,hE1⟩:=H.out.list hbk i hin;obtain ⟨B,s2,n2,c2,hB,g2,hE2⟩:=H.out.list hbk k hkn;have HAT:Hid (jh P i k=iK A B):=mu hA hB;have HKL:Hid (k<P.length):=by show k<P.length;rw [HLN.out];exact hkn
       have zb:=Nat.lt_of_lt_of_le hbb hbk.size;have CA:Hid (∀w',Bl wr w'→Calls Tryz.prog 148 #[.slice s1 n1 c1,.slice s2 n2 c2] w' fun e w''=>e=.returned (.bool (iK A B))∧Bl w' w''):=fun w' kk=>wy s1 s2 n1 c1 n2 c2 A B w' (hE1.keep kk) (hE2.keep kk)
       have HMK:Hid (∀w',Bl wr w'→(w'.cell? ⟨b,off+i,none⟩=some (.slice s1 n1 c1)∧w'.cell? ⟨b,off+k,none⟩=some (.slice s2 n2 c2)∧b<w'.heap.size)):=fun w' kk=>⟨cell_later kk g1,cell_later kk g2,Nat.lt_of_lt_of_le zb kk.size⟩
       have k0:Bl wr wr.drew:=(Below.refl _ wr).drew;clear hA hB g1 g2 hE1 hE2 zb hbk;obtain ⟨O,hO⟩:=aS (iK A B);rw [← hO] at CA HAT;clear hO;cases O with
       | true =>
        go_wp2_with fail
        refine eC HMK k0 fun aa=>?_
        refine aO 0 8 aa ?_;refine aI 8 fun K hK=>?_
        go_simp;refine (CA.out _ k0).mono ?_;rintro e wk1 ⟨rfl,bk1⟩;have k1:Bl wr wk1:=k0.trans (bk1.mono k0.size);go_wp2_with fail
        refine hK.out _ _ (HMK.out _ k1) fun aa=>?_
        (try go_frame);refine aO 9 1 aa ?_;refine dN ?_;have KY:Hid (Bl w2 wk1):=HBK.out.trans (k1.mono HBK.out.size);clear k0 k1 bk1 HMK CA aa;go_wp2;go_roundw
        case rel=>exact ⟨k+1,by omega,by omega,by go_num,KY.out,AK HWK.out HAT.out⟩
        case measure=>simp [intOf];omega
       | false =>
        go_wp2_with fail
        refine eC HMK k0 fun aa=>?_
        refine aO 0 8 aa ?_;refine aI 8 fun K hK=>?_
        go_simp;refine (CA.out _ k0).mono ?_;rintro e wk1 ⟨rfl,bk1⟩;have k1:Bl wr wk1:=k0.trans (bk1.mono k0.size);go_wp2_with fail
        refine hK.out _ _ (HMK.out _ k1) fun aa=>?_
        (try go_frame);refine aO 9 1 aa ?_;refine dN ?_;have KY:Hid (Bl w2 wk1):=HBK.out.trans (k1.mono HBK.out.size);clear k0 k1 bk1 HMK CA aa;go_wp2;go_ret;exact ⟨af (AJ hik HKL.out HAT.out).symm,K2.out.trans (KY.out.mono K2.out.size)⟩
     · have hknI:¬(k:Int)<(n:Int):=by omega
       have HN:Hid (mA P (i+1)):=by
        have h1:=HWK.out;have h2:k=P.length:=by rw [HLN.out];omega
        rw [h2] at h1;exact AI HW.out h1
       go_wp2;go_roundw
       case rel=>exact ⟨i+1,by omega,by go_num,HBK.out,HN.out⟩
       case measure=>simp [intOf];omega
  · have hinI:¬(i:Int)<(n:Int):=by omega
    have HC:Hid (im P=true):=by
     have hw:=HW.out;have hii:i=P.length:=by rw [HLN.out];omega
     rw [hii] at hw;exact zY hw
    go_wp2;go_ret;exact ⟨af HC.out.symm,K2.out.trans (HB.out.mono K2.out.size)⟩
end Go.Proofs.YtpobkmjicbobdaaGreat
