/-
  The document's l4Apart: whether a time that is kept lies between two entries; by a walk of its Go text.
-/
import Derived.Test.YtlmgojlffgkciaaGreatTc00
import Derived.Test.YtlmgojlffgkciaaGreatTc12
import Derived.Deep.RegionHeld3
import Derived.Deep.DeepCutAuto
import Derived.Test.YtlmgojlffgkciaaGreatTc02
import Derived.Sort.Defs
namespace Go.Proofs.YtlmgojlffgkciaaGreat
open Go.RowKit
set_option maxRecDepth 100000
set_option maxHeartbeats 1000000
def cH (S:List Int) (o n:Int):Bool:=S.any (fun s=>decide (o≤s) && decide (s<n))
theorem kX {S:List Int} {o n:Int} {k:Nat} {s:Int} (h:S[k]?=some s):cH (S.take (k+1)) o n=(cH (S.take k) o n || (decide (o≤s) && decide (s<n))):=by
 simp [cH,List.take_add_one,h,List.any_append]
theorem vI {S:List Int} {o n:Int} {k:Nat} (h:cH (S.take k) o n=true):cH S o n=true:=by
 unfold cH at *;rw [List.any_eq_true] at *;obtain ⟨x,hx,hp⟩:=h;exact ⟨x,List.mem_of_mem_take hx,hp⟩
theorem pW (lo:Nat) (a:Option Addr) (n c:Nat) (S:List Int) (o p:Int) (w:World) (h:aT lo w a n c S) :
 Calls Tryz.prog 179 #[.slice a n c,iT o,iT p] w fun e w'=>e=.returned (.bool (cH S o p))∧Bl w w':=by
 have hr:=h.room;have hbg:=h.big;unfold maxLen at hbg;have H:=bc h;clear h;go_enter Tryz.func179,Tryz.ntmps179
 go_wp2;go_loopw [7] (fun i wr=>∃k:Nat,k≤n∧i=iT k∧cH (S.take k) o p=false∧Bl w wr) (fun i _=>n - (intOf i).toNat)
 case atStart=>exact ⟨0,Nat.zero_le _,rfl,rfl,Below.refl _ _⟩
 case round =>
  obtain ⟨k,hk,rfl,hno,hb⟩:=hrel;have HNO:Hid (cH (S.take k) o p=false):=hno;clear hno;by_cases hlt:k<n
  · have hltI:(k:Int)<(n:Int):=by omega
    obtain ⟨b,off,rfl,hbb⟩:=H.out.form (by omega);obtain ⟨s,hs,hw,hc⟩:=H.out.num hb k hlt;have HS:Hid (S[k]?=some s):=hs;have hbr:b<wr.heap.size:=Nat.lt_of_lt_of_le hbb hb.size;clear hs hw;by_cases h1:o≤s
    · by_cases h2:s<p
      · go_wp2;go_ret;have hyes:cH S o p=true:=vI (k:=k+1) (by rw [kX HS.out];simp [h1,h2]);exact ⟨by rw [hyes];rfl,hb⟩
      · go_wp2;go_roundw
        case rel=>exact ⟨k+1,by omega,by go_num,by rw [kX HS.out,HNO.out];simp [h2],hb⟩
        case measure=>simp [intOf];omega
    · go_wp2;go_roundw
      case rel=>exact ⟨k+1,by omega,by go_num,by rw [kX HS.out,HNO.out];simp [h1],hb⟩
      case measure=>simp [intOf];omega
  · have hltI:¬(k:Int)<(n:Int):=by omega
    have hall:S.take k=S:=List.take_of_length_le (by have:=H.out.length;omega);have HALL:Hid (cH S o p=false):=by have:=HNO.out;rw [hall] at this;exact this
    clear hall;go_wp2;go_ret;exact ⟨by rw [HALL.out];rfl,hb⟩
end Go.Proofs.YtlmgojlffgkciaaGreat

namespace Go.Proofs.YtlmgojlffgkciaaGreat
namespace Sq
variable {α κ:Type} [DecidableEq κ]
def putP (r:α→α→Bool) (x:α):List (List α)→List (List α)
 | (y :: c) :: cs=>if r x y then (x :: y :: c) :: cs else [x] :: (y :: c) :: cs
 | cs=>[x] :: cs
def parts (r:α→α→Bool) (L:List α):List (List α):=L.foldr (putP r) []
theorem parts_cons (r:α→α→Bool) (x:α) (L:List α):parts r (x :: L)=putP r x (parts r L):=rfl
theorem gu (r:α→α→Bool) (x:α) (L:List α):∃c cs,parts r (x :: L)=(x :: c) :: cs:=by
 rw [parts_cons];unfold putP;split
 · rename_i y c cs _
   by_cases h:r x y
   · exact ⟨y :: c,cs,by rw [if_pos h]⟩
   · exact ⟨[],(y :: c) :: cs,by rw [if_neg h]⟩
 · exact ⟨[],_,rfl⟩
theorem parts_flat (r:α→α→Bool):∀L:List α,(parts r L).flatten=L
 | []=>rfl
 | x :: L=>by
  rw [parts_cons]
  have ih:=parts_flat r L
  unfold putP
  split
  · rename_i y c cs h
    rw [h] at ih
    by_cases hr:r x y
    · rw [if_pos hr];simpa using ih
    · rw [if_neg hr];simpa using ih
  · simpa using ih
theorem ow (r1 r2:α→α→Bool):∀L:List α,parts (fun x y=>r1 x y && r2 x y) L=(parts r1 L).flatMap (parts r2)
 | []=>rfl
 | x :: L=>by
  have ih:=ow r1 r2 L
  rw [parts_cons,ih]
  match L with
  | []=>rfl
  | y :: R =>
   obtain ⟨c,cs,h⟩:=gu r1 y R
   rw [parts_cons r1 x,h]
   obtain ⟨c',ds,h'⟩:=gu r2 y c
   by_cases e1:r1 x y
   · have e3:putP r1 x ((y :: c) :: cs)=(x :: y :: c) :: cs:=by simp [putP,e1]
     rw [e3,List.flatMap_cons,List.flatMap_cons,parts_cons r2 x,h']
     by_cases e2:r2 x y <;> simp [putP,e1,e2]
   · have e3:putP r1 x ((y :: c) :: cs)=[x] :: (y :: c) :: cs:=by simp [putP,e1]
     rw [e3,List.flatMap_cons,List.flatMap_cons,List.flatMap_cons,h']
     simp [putP,e1,parts]
variable (key:α→κ) (cl:Bool→List α→List α) (bottom:Bool)
def stepP (c:List α) (st:κ × Bool × List α):κ × Bool × List α :=
 match c with
 | []=>st
 | x :: R=>(key x,(if key x=st.1 then st.2.1 else bottom) && (cl (if key x=st.1 then st.2.1 else bottom) (x :: R)).isEmpty,cl (if key x=st.1 then st.2.1 else bottom) (x :: R)++st.2.2)
def stepD (c:List α) (st:Bool × List α):Bool × List α:=(if (cl st.1 c).isEmpty then st.1 else false,cl st.1 c++st.2)
def leftD (Cs:List (List α)):List α:=(Cs.foldr (stepD cl) (bottom,[])).2
theorem Au (a b:Bool):(a && b)=if b=true then a else false:=by cases a <;> cases b <;> rfl
theorem nU (k:κ) (st:κ × Bool × List α) (hk:k≠st.1):∀Cs:List (List α),(∀c ∈ Cs,∃x R,c=x :: R∧key x=k) →
 Cs.foldr (stepP key cl bottom) st=if Cs=[] then st else (k,(Cs.foldr (stepD cl) (bottom,[])).1,(Cs.foldr (stepD cl) (bottom,[])).2++st.2.2)
 | [],_=>by simp
 | c :: Cs,h=>by
  obtain ⟨x,R,rfl,hx⟩:=h c List.mem_cons_self
  have ih:=nU k st hk Cs (fun c hc=>h c (List.mem_cons_of_mem _ hc))
  rw [if_neg (by simp),List.foldr_cons,ih,List.foldr_cons]
  by_cases hC:Cs=[]
  · subst hC
    rw [if_pos rfl]
    simp only [stepP,stepD,List.foldr_nil,hx,if_neg hk,List.append_nil]
    rw [Au]
    congr
  · rw [if_neg hC]
    simp only [stepP,stepD,hx,if_true,List.append_assoc]
    rw [Au]
def vK (k0:κ):List (List α)→Prop
 | []=>True
 | G :: Gs=>(∃x R,G=x :: R∧key x≠k0∧(∀y ∈ G,key y=key x)∧(∀y R' Gs',Gs=(y :: R') :: Gs'→key x≠key y))∧vK k0 Gs
theorem sd (r2:α→α→Bool) (k0:κ):∀Gs:List (List α),vK key k0 Gs →
 ((Gs.flatMap (parts r2)).foldr (stepP key cl bottom) (k0,false,[])).2.2=Gs.flatMap (fun G=>leftD cl bottom (parts r2 G)) ∧
 ((Gs.flatMap (parts r2)).foldr (stepP key cl bottom) (k0,false,[])).1=(match Gs with | (x :: _) :: _=>key x | _=>k0)
 | [],_=>by simp
 | G :: Gs,h=>by
  obtain ⟨⟨x,R,rfl,h0,hall,hnx⟩,hGs⟩:=h
  obtain ⟨i1,i2⟩:=sd r2 k0 Gs hGs
  rw [List.flatMap_cons,List.foldr_append]
  have hne:key x≠((Gs.flatMap (parts r2)).foldr (stepP key cl bottom) (k0,false,[])).1:=by
   rw [i2];split
   · rename_i y R' Gs' ;exact hnx _ _ _ rfl
   · exact h0
  have hcs:∀c ∈ parts r2 (x :: R),∃y R',c=y :: R'∧key y=key x:=by
   intro c hc;have hne:c≠[]:=by
    have key:∀L:List α,∀c ∈ parts r2 L,c≠[]:=by
     intro L;induction L with
     | nil=>intro c hc;simp [parts] at hc
     | cons z L ih =>
      intro c hc;rw [parts_cons] at hc;unfold putP at hc;split at hc
      · rename_i y c' cs hp
        rw [hp] at ih;split at hc
        · rcases List.mem_cons.1 hc with rfl | hc
          · simp
          · exact ih c (List.mem_cons_of_mem _ hc)
        · rcases List.mem_cons.1 hc with rfl | hc
          · simp
          · exact ih c hc
      · rcases List.mem_cons.1 hc with rfl | hc
        · simp
        · exact ih c hc
    exact key _ c hc
   obtain ⟨y,R',rfl⟩:=List.exists_cons_of_ne_nil hne;refine ⟨y,R',rfl,hall y ?_⟩;rw [← parts_flat r2 (x :: R)];exact List.mem_flatten.2 ⟨_,hc,List.mem_cons_self⟩
  rw [nU key cl bottom (key x) _ hne _ hcs];obtain ⟨c,cs,hp⟩:=gu r2 x R;rw [if_neg (by rw [hp];simp)];refine ⟨?_,rfl⟩;rw [List.flatMap_cons,← i1];rfl
theorem lI (k0:κ):∀L:List α,(∀x ∈ L,key x≠k0)→vK key k0 (parts (fun x y=>decide (key x=key y)) L)
 | [],_=>trivial
 | x :: L,h=>by
  have ih:=lI k0 L (fun y hy=>h y (List.mem_cons_of_mem _ hy))
  rw [parts_cons]
  unfold putP
  split
  · rename_i y c cs hp
    rw [hp] at ih
    obtain ⟨⟨z,R,hz,h0,hall,hnx⟩,hcs⟩:=ih
    cases hz
    by_cases e:key x=key y
    · rw [if_pos (by simpa using e)]
      refine ⟨⟨x,y :: c,rfl,h x List.mem_cons_self,?_,?_⟩,hcs⟩
      · intro v hv
        rcases List.mem_cons.1 hv with rfl | hv
        · rfl
        · rw [hall v hv,e]
      · intro v R' Gs' hg;rw [e];exact hnx v R' Gs' hg
    · rw [if_neg (by simpa using e)]
      refine ⟨⟨x,[],rfl,h x List.mem_cons_self,?_,?_⟩,⟨⟨y,c,rfl,h0,hall,hnx⟩,hcs⟩⟩
      · intro v hv;simp at hv;rw [hv]
      · intro v R' Gs' hg;cases hg;exact e
  · refine ⟨⟨x,[],rfl,h x List.mem_cons_self,?_,?_⟩,ih⟩
    · intro v hv;simp at hv;rw [hv]
    · intro v R' Gs' hg
      rename_i hno
      exact absurd hg (hno _ _ _)
theorem squash_same (r2:α→α→Bool) (k0:κ) (L:List α) (h:∀x ∈ L,key x≠k0) :
 ((parts (fun x y=>decide (key x=key y) && r2 x y) L).foldr (stepP key cl bottom) (k0,false,[])).2.2=(parts (fun x y=>decide (key x=key y)) L).flatMap (fun G=>leftD cl bottom (parts r2 G)):=by
 rw [ow];exact (sd key cl bottom r2 k0 _ (lI key k0 L h)).1
end Sq
namespace Sq
variable {α:Type}
theorem mg (r:α→α→Bool):∀A B:List α,(∀x y,A.getLast?=some x→B.head?=some y→r x y=false)→parts r (A++B)=parts r A++parts r B
 | [],B,_=>rfl
 | [x],B,h=>by
  match B with
  | []=>rfl
  | y :: R =>
   obtain ⟨c,cs,hp⟩:=gu r y R
   have hr:=h x y rfl rfl
   rw [List.singleton_append,parts_cons,hp]
   simp [putP,hr,parts]
 | x :: z :: A,B,h=>by
  have ih:=mg r (z :: A) B (fun a b ha hb=>h a b (by rw [List.getLast?_cons_cons];exact ha) hb)
  obtain ⟨c,cs,hp⟩:=gu r z A
  rw [List.cons_append,parts_cons,ih,parts_cons r x,hp]
  by_cases e:r x z <;> simp [putP,e]
theorem jn (r:α→α→Bool):∀A:List α,A≠[]→(∀(j:Nat) x y,A[j]?=some x→A[j+1]?=some y→r x y=true)→parts r A=[A]
 | [],h,_=>absurd rfl h
 | [x],_,_=>rfl
 | x :: z :: A,_,h=>by
  have ih:=jn r (z :: A) (by simp) (fun j a b ha hb=>h (j+1) a b (by simpa using ha) (by simpa using hb))
  have hr:=h 0 x z rfl rfl
  rw [parts_cons,ih]
  simp [putP,hr]
theorem parts_front (r:α→α→Bool) (L:List α) (i k:Nat) (hik:i<k) (hk:k≤L.length) (h1:∀j,i<j→j<k→∀x y,L[j - 1]?=some x→L[j]?=some y→r x y=true)
 (h2:∀x y,L[k - 1]?=some x→L[k]?=some y→r x y=false):parts r (L.drop i)=(L.drop i).take (k - i) :: parts r (L.drop k):=by
 have e:L.drop i=(L.drop i).take (k - i)++L.drop k:=by
  have:=(List.take_append_drop (k - i) (L.drop i)).symm;rw [List.drop_drop,show i+(k - i)=k by omega] at this;exact this
 have hl:((L.drop i).take (k - i)).length=k - i:=by rw [List.length_take,List.length_drop];omega
 conv=>lhs;rw [e]
 rw [mg,jn]
 · rfl
 · intro e;rw [e] at hl;simp at hl;omega
 · intro j x y hx hy;have hj:j+1<k - i:=by rw [← hl];exact (List.getElem?_eq_some_iff.1 hy).1
   rw [List.getElem?_take_of_lt (by omega),List.getElem?_drop] at hx hy;exact h1 (i+(j+1)) (by omega) (by omega) x y (by rw [show i+(j+1) - 1=i+j by omega];exact hx) hy
 · intro x y hx hy;rw [List.getLast?_eq_getElem?,hl,List.getElem?_take_of_lt (by omega),List.getElem?_drop,show i+(k - i - 1)=k - 1 by omega] at hx;rw [List.head?_drop] at hy;exact h2 x y hx hy
theorem parts_back (r:α→α→Bool) (L:List α) (i k:Nat) (hik:i<k) (hk:k≤L.length) (h1:∀j,i<j→j<k→∀x y,L[j - 1]?=some x→L[j]?=some y→r x y=true)
 (h2:0<i→∀x y,L[i - 1]?=some x→L[i]?=some y→r x y=false):parts r (L.take k)=parts r (L.take i)++[(L.drop i).take (k - i)]:=by
 have e:L.take k=L.take i++(L.drop i).take (k - i):=by
  rw [← List.take_add,show i+(k - i)=k by omega]
 have hl:((L.drop i).take (k - i)).length=k - i:=by rw [List.length_take,List.length_drop];omega
 rw [e,mg,jn r ((L.drop i).take (k - i))]
 · intro e;rw [e] at hl;simp at hl;omega
 · intro j x y hx hy;have hj:j+1<k - i:=by rw [← hl];exact (List.getElem?_eq_some_iff.1 hy).1
   rw [List.getElem?_take_of_lt (by omega),List.getElem?_drop] at hx hy;exact h1 (i+(j+1)) (by omega) (by omega) x y (by rw [show i+(j+1) - 1=i+j by omega];exact hx) hy
 · intro x y hx hy;rw [List.getLast?_eq_getElem?,List.length_take,Nat.min_eq_left (by omega)] at hx;by_cases hi:i=0
   · subst hi;simp at hx
   · rw [List.getElem?_take_of_lt (by omega)] at hx;rw [List.head?_take,if_neg (by omega),List.head?_drop] at hy;exact h2 (by omega) x y hx hy
end Sq
end Go.Proofs.YtlmgojlffgkciaaGreat
namespace Go.Proofs.YtlmgojlffgkciaaGreat
def iV (b:Bool):List ac→List ac
 | []=>[]
 | e :: r=>cu b e.1 e.2.1 (e :: r)
def fW (S:List Int) (x y:ac):Bool:=!cH S y.2.1 x.2.1
def fm (x y:ac):Bool:=decide (x.1=y.1)
def eK (S:List Int) (bottom:Bool) (G:List ac):List ac:=Sq.leftD iV bottom (Sq.parts (fW S) G)
def bC (L:List ac) (S:List Int) (bottom:Bool):List ac:=if az L=true then (Sq.parts fm L).flatMap (eK S bottom) else []
theorem tU {c:List ac} {e:ac} (b:Bool) (h:c[0]?=some e):iV b c=cu b e.1 e.2.1 c:=by
 match c,h with
 | x :: r,h=>simp at h;subst h;rfl
theorem rH (b:Bool):∀c:List ac,(iV b c).length≤c.length
 | []=>Nat.le_refl _
 | e :: r=>by
  show (cu b e.1 e.2.1 (e :: r)).length≤(e :: r).length
  unfold cu
  by_cases h1:cq (aG true 0 (e :: r)).2.2=true
  · rw [if_pos h1]
    by_cases h2:b=true∧(aG true 0 (e :: r)).1=2
    · rw [if_pos h2];simp
    · rw [if_neg h2];simp
  · rw [if_neg h1];exact Nat.le_refl _
theorem oN (bottom:Bool):∀P:List (List ac),((P.foldr (Sq.stepD iV) (bottom,[])).2).length≤P.flatten.length
 | []=>Nat.le_refl _
 | c :: P=>by
  have ih:=oN bottom P
  have h:=rH (P.foldr (Sq.stepD iV) (bottom,[])).1 c
  rw [List.foldr_cons,List.flatten_cons,List.length_append]
  generalize P.foldr (Sq.stepD iV) (bottom,[])=st at ih h ⊢
  show (iV st.1 c++st.2).length≤_
  rw [List.length_append]
  omega
theorem mn (S:List Int) (bottom:Bool) (G:List ac):(eK S bottom G).length≤G.length:=by
 have:=oN bottom (Sq.parts (fW S) G);rw [Sq.parts_flat] at this;exact this
theorem xK (bottom:Bool) (P:List (List ac)) (j:Nat) (c:List ac) (h:P[j]?=some c) :
 (P.drop j).foldr (Sq.stepD iV) (bottom,[])=Sq.stepD iV c ((P.drop (j+1)).foldr (Sq.stepD iV) (bottom,[])):=by
 obtain ⟨hj,e⟩:=List.getElem?_eq_some_iff.1 h;rw [List.drop_eq_getElem_cons hj,e];rfl
theorem pb (S:List Int) (bottom:Bool):∀P:List (List ac),(P.flatMap (eK S bottom)).length≤P.flatten.length
 | []=>Nat.le_refl _
 | c :: P=>by
  have ih:=pb S bottom P
  have h:=mn S bottom c
  rw [List.flatMap_cons,List.flatten_cons,List.length_append,List.length_append]
  omega
theorem fM (L:List ac) (S:List Int) (bottom:Bool):(bC L S bottom).length≤L.length:=by
 unfold bC;split
 · have:=pb S bottom (Sq.parts fm L);rwa [Sq.parts_flat] at this
 · simp
theorem ia (r:ac→ac→Bool) (L:List ac) (c:List ac) (h:c ∈ Sq.parts r L):c.length≤L.length∧∀e ∈ c,e ∈ L:=by
 have hf:=Sq.parts_flat r L;refine ⟨?_,fun e he=>by rw [← hf];exact List.mem_flatten.2 ⟨c,h,he⟩⟩;obtain ⟨A,B,e⟩:=List.append_of_mem h;rw [← hf,e];simp;omega
theorem nq (r:ac→ac→Bool):∀(L:List ac) (c:List ac),c ∈ Sq.parts r L→c≠[]
 | [],c,h=>by simp [Sq.parts] at h
 | z :: L,c,h=>by
  have ih:=nq r L
  rw [Sq.parts_cons] at h
  unfold Sq.putP at h
  split at h
  · rename_i y c' cs hp
    rw [hp] at ih
    split at h
    · rcases List.mem_cons.1 h with rfl | h
      · simp
      · exact ih c (List.mem_cons_of_mem _ h)
    · rcases List.mem_cons.1 h with rfl | h
      · simp
      · exact ih c h
  · rcases List.mem_cons.1 h with rfl | h
    · simp
    · exact ih c h
theorem iG {L:List ac} (h:az L=true):∀e ∈ L,(-1000000≤e.2.2.2.2∧e.2.2.2.2≤1000000)∧(1≤e.2.2.1∧e.2.2.1≤3∧(e.2.2.1=2→e.2.2.2.1=⟨#[]⟩))∧e.1≠⟨#[]⟩:=by
 intro e he;obtain ⟨j,hj⟩:=List.getElem?_of_mem he;have hb:=ep h hj;unfold dc at hb;simp only [Bool.and_eq_true,decide_eq_true_eq] at hb;obtain ⟨hk,h1,h2,h3,h4,h5,h6⟩:=hb;refine ⟨⟨h3,h4⟩,?_,?_⟩
 · by_cases d1:e.2.2.1=1
   · exact ⟨by omega,by omega,fun h=>by omega⟩
   · by_cases d2:e.2.2.1=2
     · rw [d2] at h6;simp [fc] at h6;exact ⟨by omega,by omega,fun _=>h6.1⟩
     · by_cases d3:e.2.2.1=3
       · exact ⟨by omega,by omega,fun h=>by omega⟩
       · rw [nC d1 d2 d3] at h6;cases h6
 · intro e0;rw [e0] at hk;simp [eX,ByteArray.size] at hk
end Go.Proofs.YtlmgojlffgkciaaGreat

namespace Go.Proofs.YtlmgojlffgkciaaGreat
open Go.RowKit
attribute [local go_sem] Oper.semAt_some
def wN (b:Bool) (t:ByteArray) (n:Int) (d:Int) (t':ByteArray) (n':Int):iu :=
 if d=1 then (true,t',n') else if d=2 then (false,⟨#[]⟩,0) else if d=3 then (true,t,wrap64 (n+n')) else (b,t,n)
end Go.Proofs.YtlmgojlffgkciaaGreat

namespace Go.Proofs.YtlmgojlffgkciaaGreat
open Go.RowKit
/-! The insertion sort that the library runs is this one. -/
/-! What a key has. -/
def Bg (c : iu) (e : ac) : iu := wN c.1 c.2.1 c.2.2 e.2.2.1 e.2.2.2.1 e.2.2.2.2
end Go.Proofs.YtlmgojlffgkciaaGreat
namespace Go.Proofs.YtlmgojlffgkciaaGreat
open Go.RowKit
/-! What the laws of cells say, of lists alone. -/
def Cg (L : List ac) : Prop := L.Pairwise (fun a b => a.2.1 ≠ b.2.1)
theorem Cg.perm {A B : List ac} (h : Cg A) (p : A.Perm B) : Cg B := (p.pairwise_iff (fun h => Ne.symm h)).1 h
end Go.Proofs.YtlmgojlffgkciaaGreat
namespace Go.Proofs.YtlmgojlffgkciaaGreat
open Go.RowKit
/-! A cell is its last reset and what was added since. -/
end Go.Proofs.YtlmgojlffgkciaaGreat

namespace Go.Proofs.YtlmgojlffgkciaaGreat
def ev (M : List ac) (c : iu) : iu := M.foldr (fun e c => Bg c e) c
def noC : iu := (false, ⟨#[]⟩, 0)
theorem uE {L : List ac} (h : az L = true) : L.Pairwise (fun a b => bQ a.1 a.2.1 b.1 b.2.1 = true) := by
  rw [List.pairwise_iff_getElem]
  intro i j hi hj hij
  exact gq h hij (List.getElem?_eq_getElem hi) (List.getElem?_eq_getElem hj)
/-! One class. -/
open Go.RowKit in
def pL (s : Int) (X : iu) : iu := (true, X.2.1, wrap64 (X.2.2 + s))
theorem BT (X : iu) {e : ac} (h : e.2.2.1 = 1) : Bg X e = (true, e.2.2.2.1, e.2.2.2.2) := by simp [Bg, wN, h]
theorem BS (X : iu) {e : ac} (h : e.2.2.1 = 2) : Bg X e = (false, ⟨#[]⟩, 0) := by simp [Bg, wN, h]
theorem BQ (X : iu) {e : ac} (h : e.2.2.1 = 3) : Bg X e = pL e.2.2.2.2 X := by simp [Bg, wN, h, pL]
open Go.RowKit in
theorem wV (x a b : Int) : wrap64 (wrap64 (x + a) + b) = wrap64 (x + (b + a)) := by unfold wrap64; omega
theorem add_add (a b : Int) (X : iu) : pL a (pL b X) = pL (a + b) X := by
  unfold pL
  simp only [wV]
def Cd (e : ac) : Prop := (e.2.2.1 = 1 ∨ e.2.2.1 = 2 ∨ e.2.2.1 = 3) ∧ (e.2.2.1 = 2 → e.2.2.2.2 = 0)
open Go.RowKit in
theorem qn : ∀ (L : List ac) (acc : Int) (X : iu), (∀ e ∈ L, Cd e) →
    pL acc (ev L X) = (if (aG false acc L).1 = 3 then pL (aG false acc L).2.2 X else (true, (aG false acc L).2.1, wrap64 (aG false acc L).2.2)) ∧ ((aG false acc L).1 = 1 ∨ ((aG false acc L).1 = 3 ∧ (aG false acc L).2.1 = ⟨#[]⟩))
  | [], acc, X, _ => by simp [aG, ev]
  | e :: R, acc, X, h => by
    obtain ⟨hk, h0⟩ := h e List.mem_cons_self
    have e1 : ev (e :: R) X = Bg (ev R X) e := rfl
    rw [e1]
    rcases hk with hk | hk | hk
    · have hj : aG false acc (e :: R) = (1, e.2.2.2.1, acc + e.2.2.2.2) := by simp [aG, hk]
      rw [hj, BT _ hk]
      simp only [pL]
      rw [if_neg (by omega), Int.add_comm]
      exact ⟨rfl, .inl trivial⟩
    · have hj : aG false acc (e :: R) = (1, ⟨#[]⟩, acc + e.2.2.2.2) := by simp [aG, hk]
      rw [hj, BS _ hk, h0 hk]
      simp only [pL]
      rw [if_neg (by omega), Int.add_comm]
      exact ⟨rfl, .inl trivial⟩
    · have hj : aG false acc (e :: R) = aG false (acc + e.2.2.2.2) R := by
        conv => lhs; unfold aG
        rw [if_neg (by omega), if_neg (by omega)]
      rw [hj, BQ _ hk, add_add]
      exact qn R (acc + e.2.2.2.2) X (fun x hx => h x (List.mem_cons_of_mem _ hx))
/-! The classes of a key. -/
/-! All keys. -/
end Go.Proofs.YtlmgojlffgkciaaGreat

namespace Go.Proofs.YtlmgojlffgkciaaGreat
/-! One class and its one entry. -/
theorem xL : ∀ (L : List ac) (acc : Int), (∀ e ∈ L, Cd e) → (aG false acc L).1 = 1 ∨ ((aG false acc L).1 = 3 ∧ (aG false acc L).2.1 = ⟨#[]⟩) := fun L acc h => (qn L acc noC h).2
theorem uZ (e : ac) (R : List ac) (h : ∀ x ∈ e :: R, Cd x) : (aG true 0 (e :: R)).1 = 1 ∨ ((aG true 0 (e :: R)).1 = 2 ∧ (aG true 0 (e :: R)).2.1 = ⟨#[]⟩ ∧ (aG true 0 (e :: R)).2.2 = 0) ∨ ((aG true 0 (e :: R)).1 = 3 ∧ (aG true 0 (e :: R)).2.1 = ⟨#[]⟩) := by
  obtain ⟨hk, h0⟩ := h e List.mem_cons_self
  rcases hk with hk | hk | hk
  · have hj : aG true 0 (e :: R) = (1, e.2.2.2.1, 0 + e.2.2.2.2) := by simp [aG, hk]
    rw [hj]; exact .inl rfl
  · have hj : aG true 0 (e :: R) = (2, ⟨#[]⟩, 0 + e.2.2.2.2) := by simp [aG, hk]
    rw [hj, h0 hk]; exact .inr (.inl ⟨rfl, rfl, rfl⟩)
  · have hj : aG true 0 (e :: R) = aG false (0 + e.2.2.2.2) R := by
      conv => lhs; unfold aG
      rw [if_neg (by omega), if_neg (by omega)]
    rw [hj]
    rcases xL R (0 + e.2.2.2.2) (fun x hx => h x (List.mem_cons_of_mem _ hx)) with h1 | h1
    · exact .inl h1
    · exact .inr (.inr h1)
/-! The classes of a key. -/
def wS (r : ac → ac → Bool) : List (List ac) → Prop
  | c :: d :: cs => (∀ x y, c.getLast? = some x → d.head? = some y → r x y = false) ∧ wS r (d :: cs)
  | _ => True
theorem wS.tail {r : ac → ac → Bool} {c : List ac} {cs : List (List ac)} (h : wS r (c :: cs)) : wS r cs := by
  cases cs with
  | nil => trivial
  | cons d cs => exact h.2
/-! All keys. -/
theorem tx : ∀ (L : List ac) (f : Bool) (acc : Int), (∀ e ∈ L, e.2.2.2.1.size ≤ 60) → (aG f acc L).2.1.size ≤ 60 := by
  intro L
  induction L with
  | nil => intro f acc _; exact Nat.zero_le _
  | cons e R ih =>
    intro f acc h
    unfold aG
    split
    · exact h e (List.mem_cons_self ..)
    · split
      · exact Nat.zero_le _
      · exact ih false _ (fun x hx => h x (List.mem_cons_of_mem _ hx))
def vB (e : ac) : Bool := dc e.1 e.2.1 e.2.2.1 e.2.2.2.1 e.2.2.2.2
theorem wv {e : ac} (h : vB e = true) : Cd e ∧ e.2.2.2.1.size ≤ 60 := by
  unfold vB dc at h
  simp only [Bool.and_eq_true, decide_eq_true_eq] at h
  obtain ⟨_, _, _, _, _, h5, h6⟩ := h
  refine ⟨⟨?_, ?_⟩, h5⟩
  · by_cases d1 : e.2.2.1 = 1
    · exact .inl d1
    · by_cases d2 : e.2.2.1 = 2
      · exact .inr (.inl d2)
      · by_cases d3 : e.2.2.1 = 3
        · exact .inr (.inr d3)
        · rw [nC d1 d2 d3] at h6; cases h6
  · intro d2
    rw [d2, gN] at h6
    simp only [Bool.and_eq_true, decide_eq_true_eq] at h6
    exact h6.2
theorem BI (b : Bool) : ∀ c : List ac, (∀ e ∈ c, vB e = true) → ∀ x ∈ iV b c, vB x = true
  | [], _, x, hx => by cases hx
  | e :: R, h, x, hx => by
    by_cases hs : cq (aG true 0 (e :: R)).2.2 = true
    · have he := h e List.mem_cons_self
      have ht := tx (e :: R) true 0 (fun y hy => (wv (h y hy)).2)
      have hf := uZ e R (fun y hy => (wv (h y hy)).1)
      have hx' : x ∈ cu b e.1 e.2.1 (e :: R) := hx
      unfold cu at hx'
      rw [if_pos hs] at hx'
      obtain ⟨d, t, s, hj⟩ : ∃ d t s, aG true 0 (e :: R) = (d, t, s) := ⟨_, _, _, rfl⟩
      rw [hj] at hs hf ht hx'
      simp only at hs hf ht hx'
      by_cases h2 : b = true ∧ d = 2
      · rw [if_pos h2] at hx'; cases hx'
      · rw [if_neg h2] at hx'
        have hxe := List.mem_singleton.1 hx'
        rw [hxe]
        unfold vB dc at he ⊢
        simp only [Bool.and_eq_true, decide_eq_true_eq, cq] at he hs ⊢
        obtain ⟨a1, a2, a3, _⟩ := he
        refine ⟨a1, a2, a3, hs.1, hs.2, ht, ?_⟩
        by_cases h3 : b = true ∧ d = 3
        · rw [if_pos h3]; exact nz
        · rw [if_neg h3]
          rcases hf with rfl | ⟨rfl, rfl, rfl⟩ | ⟨rfl, rfl⟩
          · exact nz
          · rw [gN]; rfl
          · rw [lG]; rfl
    · have hx' : x ∈ cu b e.1 e.2.1 (e :: R) := hx
      unfold cu at hx'
      rw [if_neg hs] at hx'
      exact h x hx'
theorem ut (p : ac → Prop) (S : List Int) (bottom : Bool) {L : List ac} (hcl : ∀ b c, (∀ e ∈ c, e ∈ L) → c.length ≤ L.length → ∀ x ∈ iV b c, p x) : ∀ x ∈ bC L S bottom, p x := by
  unfold bC
  by_cases hr : az L = true
  · rw [if_pos hr]
    intro x hx
    obtain ⟨G, hG, hxG⟩ := List.mem_flatMap.1 hx
    have key : ∀ Cs : List (List ac), (∀ c ∈ Cs, (∀ e ∈ c, e ∈ L) ∧ c.length ≤ L.length) → ∀ e ∈ (Cs.foldr (Sq.stepD iV) (bottom, [])).2, p e := by
      intro Cs
      induction Cs with
      | nil => intro _ e he; cases he
      | cons c Cs ih =>
        intro h e he
        have ih' := ih (fun x hx => h x (List.mem_cons_of_mem _ hx))
        rw [List.foldr_cons] at he
        generalize Cs.foldr (Sq.stepD iV) (bottom, []) = st at ih' he
        have he' : e ∈ iV st.1 c ++ st.2 := he
        rcases List.mem_append.1 he' with h1 | h1
        · exact hcl _ c (h c List.mem_cons_self).1 (h c List.mem_cons_self).2 e h1
        · exact ih' e h1
    exact key _ (fun c hc => ⟨fun e he => (ia _ _ G hG).2 e ((ia _ _ c hc).2 e he), Nat.le_trans (ia _ _ c hc).1 (ia _ _ G hG).1⟩) x hxG
  · rw [if_neg hr]; intro x hx; cases hx
theorem sf {L : List ac} (h : ∀ e ∈ L, vB e = true) (S : List Int) (bottom : Bool) : ∀ x ∈ bC L S bottom, vB x = true :=
  ut _ S bottom (fun b c hc _ => BI b c (fun e he => h e (hc e he)))
end Go.Proofs.YtlmgojlffgkciaaGreat

namespace Go.Proofs.YtlmgojlffgkciaaGreat
open Go.RowKit
/-! Keys and times of what is left. -/
def kq (e : ac) : ByteArray × Int := (e.1, e.2.1)
theorem BG (b : Bool) : ∀ c : List ac, ((iV b c).map kq).Sublist (c.map kq)
  | [] => List.Sublist.refl _
  | e :: R => by
    show ((cu b e.1 e.2.1 (e :: R)).map kq).Sublist _
    unfold cu
    by_cases h1 : cq (aG true 0 (e :: R)).2.2 = true
    · rw [if_pos h1]
      by_cases h2 : b = true ∧ (aG true 0 (e :: R)).1 = 2
      · rw [if_pos h2]; exact List.nil_sublist _
      · rw [if_neg h2]
        simp only [List.map_cons, List.map_nil, kq]
        exact List.Sublist.cons_cons _ (List.nil_sublist _)
    · rw [if_neg h1]; exact List.Sublist.refl _
theorem tr (bottom : Bool) : ∀ Cs : List (List ac), ((Cs.foldr (Sq.stepD iV) (bottom, [])).2.map kq).Sublist (Cs.flatten.map kq)
  | [] => List.Sublist.refl _
  | c :: Cs => by
    have ih := tr bottom Cs
    rw [List.foldr_cons, List.flatten_cons, List.map_append]
    generalize Cs.foldr (Sq.stepD iV) (bottom, []) = st at ih ⊢
    show ((iV st.1 c ++ st.2).map kq).Sublist _
    rw [List.map_append]
    exact List.Sublist.append (BG _ c) ih
theorem o9 (S : List Int) (bottom : Bool) : ∀ Gs : List (List ac), ((Gs.flatMap (eK S bottom)).map kq).Sublist (Gs.flatten.map kq)
  | [] => List.Sublist.refl _
  | G :: Gs => by
    have ih := o9 S bottom Gs
    have h := tr bottom (Sq.parts (fW S) G)
    rw [Sq.parts_flat] at h
    rw [List.flatMap_cons, List.flatten_cons, List.map_append, List.map_append]
    exact List.Sublist.append h ih
theorem se {L : List ac} (h : L.Pairwise (fun a b => bQ a.1 a.2.1 b.1 b.2.1 = true)) (S : List Int) (bottom : Bool) : (bC L S bottom).Pairwise (fun a b => bQ a.1 a.2.1 b.1 b.2.1 = true) := by
  unfold bC
  by_cases hr : az L = true
  · rw [if_pos hr]
    have hs := o9 S bottom (Sq.parts fm L)
    rw [Sq.parts_flat] at hs
    have h1 : (L.map kq).Pairwise (fun a b => bQ a.1 a.2 b.1 b.2 = true) := List.pairwise_map.2 h
    exact List.pairwise_map.1 (h1.sublist hs)
  · rw [if_neg hr]; exact List.Pairwise.nil
theorem xy {L : List ac} {n : Nat} (hl : L.length = n) (h1 : ∀ e ∈ L, dc e.1 e.2.1 e.2.2.1 e.2.2.2.1 e.2.2.2.2 = true) (h2 : ∀ j, 1 ≤ j → j < n → ∀ x y, L[j - 1]? = some x → L[j]? = some y → bQ x.1 x.2.1 y.1 y.2.1 = true) : az L = true := by
  refine ly (k := n) (fun j hj => ?_) (by omega)
  have hjl : j < L.length := by omega
  have he := List.getElem?_eq_getElem hjl
  match j, hj, hjl, he with
  | 0, _, hjl, he => rw [jS he]; exact h1 _ (List.getElem_mem hjl)
  | j + 1, hj, hjl, he =>
    have hd := List.getElem?_eq_getElem (l := L) (i := j) (by omega)
    rw [ig he hd, h1 _ (List.getElem_mem hjl), h2 (j + 1) (by omega) hj _ _ (show L[j + 1 - 1]? = _ from hd) he]
    rfl
theorem fZ {L : List ac} (hr : az L = true) (S : List Int) (bottom : Bool) : az (bC L S bottom) = true := by
  have hp := se (uE hr) S bottom
  refine xy rfl (sf (fun e he => by obtain ⟨j, hj⟩ := List.getElem?_of_mem he; exact ep hr hj) S bottom) (fun j h1 h2 x y hx hy => ?_)
  obtain ⟨hi, ei⟩ := List.getElem?_eq_some_iff.1 hx
  obtain ⟨hj, ej⟩ := List.getElem?_eq_some_iff.1 hy
  have := (List.pairwise_iff_getElem.1 hp) (j - 1) j hi hj (by omega)
  rw [ei, ej] at this
  exact this
end Go.Proofs.YtlmgojlffgkciaaGreat
