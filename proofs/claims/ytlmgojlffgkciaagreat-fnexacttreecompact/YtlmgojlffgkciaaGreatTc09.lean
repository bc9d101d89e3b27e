/-
  Plain: what the program asks of a tree is what the document asks; no statement of the program stands here.
-/
import Derived.Test.YtlmgojlffgkciaaGreatTc07
import Derived.Test.YtlmgojlffgkciaaGreatTc08
import Derived.Test.YtlmgojlffgkciaaGreatTc00
import Derived.WalkKit
import Derived.WalkSpells
import Derived.WalkLawsBesides
import Derived.Deep.QuietTactic
import Derived.BigQuiet
import Derived.Test.YtlmgojlffgkciaaGreatProg
import Derived.Deep.RegionLaw
import Derived.Deep.DeepCutAuto
namespace Go.Proofs.YtlmgojlffgkciaaGreat
open Go.RowKit
def qd (x y:ac):Prop:=x.1=y.1→y.2.1<x.2.1
theorem kL (x y:ac):(!ff x y)=true ↔ qd x y:=by
 unfold ff qd;by_cases h:x.1=y.1
 · simp [h]
 · simp [h]
def Ov (A B:List ac):Prop:=∀x ∈ A,∀y ∈ B,qd x y
theorem t7 {A B:List ac}:iX A B=true ↔ Ov A B:=by
 unfold iX Ov;simp only [List.all_eq_true,kL]
theorem A4 {P:List (List ac)}:ir P=true ↔ P.Pairwise Ov:=by
 rw [List.pairwise_iff_getElem];unfold ir;simp only [List.all_eq_true,List.mem_range];constructor
 · intro h i j hi hj hij;have:=h i hi j hj;rw [decide_eq_true hij,mB (List.getElem?_eq_getElem hi) (List.getElem?_eq_getElem hj)] at this;exact t7.1 (by simpa using this)
 · intro h i hi j hj;by_cases hij:i<j
   · rw [decide_eq_true hij,mB (List.getElem?_eq_getElem hi) (List.getElem?_eq_getElem hj),t7.2 (h i j hi hj hij)];rfl
   · rw [decide_eq_false hij];rfl
def dt (q:Int):List ac→Bool
 | []=>true
 | e :: L=>dt q L && (decide (1≤e.2.1) && (decide (e.2.1≤q) && L.all (fun y=>!ff e y)))
theorem jT (q:Int) (L:List ac):dt q L=true ↔ L.Pairwise qd∧∀e ∈ L,1≤e.2.1∧e.2.1≤q:=by
 induction L with
 | nil=>simp [dt]
 | cons e L ih =>
  simp only [dt,Bool.and_eq_true,ih,decide_eq_true_eq,List.all_eq_true,kL,List.pairwise_cons,List.mem_cons];constructor
  · rintro ⟨⟨h1,h2⟩,h3,h4,h5⟩;refine ⟨⟨h5,h1⟩,?_⟩;rintro x (rfl | hx)
    · exact ⟨h3,h4⟩
    · exact h2 x hx
  · rintro ⟨⟨h5,h1⟩,h2⟩;exact ⟨⟨h1,fun x hx=>h2 x (.inr hx)⟩,(h2 e (.inl rfl)).1,(h2 e (.inl rfl)).2,h5⟩
def mW:List ac→ByteArray→Int
 | [],_=>0
 | e :: L,k=>if e.1=k then e.2.1 else mW L k
theorem rX (e:ac) (L:List ac) (k:ByteArray):mW (e :: L) k=if e.1=k then e.2.1 else mW L k:=rfl
theorem ug {q:Int} (e:ac):∀L:List ac,dt q L=true→(mW L e.1<e.2.1 ↔ (1≤e.2.1∧∀y ∈ L,qd e y))
 | [],_=>by simp [mW];omega
 | f :: L,h=>by
  have hn:=(jT q (f :: L)).1 h
  rw [List.pairwise_cons] at hn
  have ih:=ug e L (by simp only [dt,Bool.and_eq_true] at h;exact h.1)
  rw [rX]
  by_cases hk:f.1=e.1
  · rw [if_pos hk]
    have hf:=(hn.2 f (List.mem_cons_self ..)).1
    constructor
    · intro h1
      refine ⟨by omega,?_⟩
      intro y hy
      rw [List.mem_cons] at hy
      rcases hy with rfl | hy
      · intro _;exact h1
      · intro e1
        have:=hn.1.1 y hy (hk.trans e1)
        omega
    · rintro ⟨_,h2⟩
      exact h2 f (List.mem_cons_self ..) hk.symm
  · rw [if_neg hk,ih]
    constructor
    · rintro ⟨h1,h2⟩
      refine ⟨h1,?_⟩
      intro y hy
      rw [List.mem_cons] at hy
      rcases hy with rfl | hy
      · intro e1;exact absurd e1.symm hk
      · exact h2 y hy
    · rintro ⟨h1,h2⟩
      exact ⟨h1,fun y hy=>h2 y (List.mem_cons_of_mem _ hy)⟩
theorem uM {q:Int} {e:ac} {L:List ac} (h:dt q L=true) (h1:mW L e.1<e.2.1) (h2:e.2.1≤q):dt q (e :: L)=true:=by
 have:=(ug e L h).1 h1;simp only [dt,h,Bool.true_and,Bool.and_eq_true,decide_eq_true_eq,List.all_eq_true,kL];exact ⟨this.1,h2,this.2⟩
theorem uL {q:Int} {e:ac} {L A:List ac} (h:¬(mW L e.1<e.2.1∧e.2.1≤q)):dt q (A++e :: L)=false:=by
 induction A with
 | nil =>
  rw [List.nil_append,Bool.eq_false_iff];intro h1;have hL:dt q L=true:=by simp only [dt,Bool.and_eq_true] at h1;exact h1.1
  have h3:=(jT q _).1 h1;rw [List.pairwise_cons] at h3;have h4:=h3.2 e (List.mem_cons_self ..);exact h ⟨(ug e L hL).2 ⟨h4.1,h3.1.1⟩,h4.2⟩
 | cons a A ih =>
  rw [List.cons_append,dt,ih];rfl
theorem iF {L:List ac} (h:az L=true):L.Pairwise qd:=by
 rw [List.pairwise_iff_getElem];intro i j hi hj hij hk;rcases eQ (gq h hij (List.getElem?_eq_getElem hi) (List.getElem?_eq_getElem hj)) with h1 | h1
 · rw [hk,dK] at h1;cases h1
 · exact h1.2
theorem jP {L:List ac} (h:az L=true):∀e ∈ L,1≤e.2.1:=by
 intro e he;obtain ⟨j,hj,rfl⟩:=List.getElem_of_mem he;exact (Ae (ep h (List.getElem?_eq_getElem hj))).1
theorem me {L:List ac} (h:az L=true) {e:ac} (he:e ∈ L):aY L=e.1∨Op.bytesLess (aY L).toList e.1.toList=true:=by
 obtain ⟨j,hj,rfl⟩:=List.getElem_of_mem he;obtain ⟨f,hf,hl⟩:=lF (L:=L) (by omega);rw [hl];by_cases h0:j=0
 · subst h0;rw [List.getElem?_eq_getElem hj] at hf;cases hf;exact .inl rfl
 · rcases eQ (gq h (Nat.pos_of_ne_zero h0) hf (List.getElem?_eq_getElem hj)) with h1 | h1
   · exact .inr (by rw [ByteArray.toList_eq,ByteArray.toList_eq];exact h1)
   · exact .inl h1.1
theorem oq {L:List ac} (h:az L=true) {e:ac} (he:e ∈ L):e.1=aR L∨Op.bytesLess e.1.toList (aR L).toList=true:=by
 obtain ⟨j,hj,rfl⟩:=List.getElem_of_mem he;obtain ⟨f,hf,hl⟩:=il (L:=L) (by omega);rw [hl];by_cases h0:j=L.length - 1
 · subst h0;rw [List.getElem?_eq_getElem hj] at hf;cases hf;exact .inl rfl
 · rcases eQ (gq h (by omega:j<L.length - 1) (List.getElem?_eq_getElem hj) hf) with h1 | h1
   · exact .inr (by rw [ByteArray.toList_eq,ByteArray.toList_eq];exact h1)
   · exact .inl h1.1
theorem iH {L:List ac} (h:az L=true) (hn:1≤L.length):aY L=aR L∨Op.bytesLess (aY L).toList (aR L).toList=true:=by
 obtain ⟨f,hf,hl⟩:=il hn;rw [hl];exact me h (List.mem_of_getElem? hf)
theorem t6 {B:List ae} (h:bl B=true) {i:Nat} {p r:ae} (hp:B[i]?=some p) (hr:B[i+1]?=some r):ld p.1 r.1=true:=by
 unfold bl at h;have:=(List.all_eq_true.1 h) (i+1) (List.mem_range.2 (List.getElem?_eq_some_iff.1 hr).1);unfold k7 iW at this;simp only [hr,hp] at this;exact this
theorem j9 {B:List ae} (h:bl B=true) (hok:∀r ∈ B,cW r.1 r.2=true):∀(d i:Nat) {p r:ae},B[i]?=some p→B[i+1+d]?=some r→Op.bytesLess (aR p.1).toList (aY r.1).toList=true
 | 0,i,p,r,hp,hr=>t6 h hp hr
 | d+1,i,p,r,hp,hr=>by
  obtain ⟨hl,_⟩:=List.getElem?_eq_some_iff.1 hr
  have hm:B[i+1+d]?=some (B[i+1+d]'(by omega)):=List.getElem?_eq_getElem _
  have h1:=j9 h hok d i hp hm
  have h2:ld (B[i+1+d]'(by omega)).1 r.1=true:=t6 h hm hr
  have h3:=aO (hok _ (List.mem_of_getElem? hm))
  unfold ld at h2
  rcases iH h3.2.2.1 h3.1 with e | e
  · rw [e] at h1;exact cF _ _ _ h1 h2
  · exact cF _ _ _ (cF _ _ _ h1 e) h2
theorem lT {B:List ae} (h:bl B=true) (hok:∀r ∈ B,cW r.1 r.2=true):(B.reverse.map (·.1)).Pairwise Ov:=by
 rw [List.pairwise_map,List.pairwise_reverse,List.pairwise_iff_getElem];intro i j hi hj hij x hx y hy hk;exfalso
 have h1:=j9 h hok (j - i - 1) i (List.getElem?_eq_getElem hi) (by rw [show i+1+(j - i - 1)=j by omega];exact List.getElem?_eq_getElem hj);have hi3:=(aO (hok _ (List.getElem_mem hi))).2.2.1;have hj3:=(aO (hok _ (List.getElem_mem hj))).2.2.1;have h2:Op.bytesLess y.1.toList (aY B[j].1).toList=true:=by
  rcases oq hi3 hy with e | e
  · rw [e];exact h1
  · exact cF _ _ _ e h1
 have h3:Op.bytesLess y.1.toList x.1.toList=true:=by
  rcases me hj3 hx with e | e
  · rw [← e];exact h2
  · exact cF _ _ _ h2 e
 rw [hk,dK] at h3;cases h3
def du (M:List ac) (A B C:List ae):List (List ac):=M :: (A.reverse.map (·.1)++(B.reverse.map (·.1)++C.reverse.map (·.1)))
theorem fE {X:List ac} {B:List ae}:Ov X (cU B) ↔ ∀b ∈ B.reverse.map (·.1),Ov X b:=by
 unfold Ov cU;simp only [List.mem_flatMap,List.mem_map,List.mem_reverse];constructor
 · rintro h b ⟨r,hr,rfl⟩ x hx y hy;exact h x hx y ⟨r,hr,hy⟩
 · rintro h x hx y ⟨r,hr,hy⟩;exact h r.1 ⟨r,hr,rfl⟩ x hx y hy
theorem wh {X:List ac} {B:List ae}:Ov (cU B) X ↔ ∀b ∈ B.reverse.map (·.1),Ov b X:=by
 unfold Ov cU;simp only [List.mem_flatMap,List.mem_map,List.mem_reverse];constructor
 · rintro h b ⟨r,hr,rfl⟩ x hx y hy;exact h x ⟨r,hr,hx⟩ y hy
 · rintro h x ⟨r,hr,hx⟩ y hy;exact h r.1 ⟨r,hr,rfl⟩ x hx y hy
theorem mJ {M:List ac} {A B C:List ae} (hB:(B.reverse.map (·.1)).Pairwise Ov) (hC:(C.reverse.map (·.1)).Pairwise Ov):(fb M [A,B,C]).Pairwise Ov ↔ (du M A B C).Pairwise Ov:=by
 unfold fb du;simp only [List.headD_cons,List.drop_succ_cons,List.drop_zero,List.map_cons,List.map_nil,List.cons_append,List.pairwise_cons,List.pairwise_append,List.mem_append,List.mem_cons,List.not_mem_nil,or_false,List.Pairwise.nil,and_true,false_implies,implies_true];constructor
 · rintro ⟨h1,h2,h3,h4⟩;have hbc:=h3 _ rfl;refine ⟨?_,h2,⟨hB,hC,?_⟩,?_⟩
   · rintro a (h | h | h)
     · exact h1 a (.inl h)
     · exact fE.1 (h1 _ (.inr (.inl rfl))) a h
     · exact fE.1 (h1 _ (.inr (.inr rfl))) a h
   · intro b hb c hc;exact fE.1 (wh.1 hbc b hb) c hc
   · rintro a ha b (hb | hb)
     · exact fE.1 (h4 a ha _ (.inl rfl)) b hb
     · exact fE.1 (h4 a ha _ (.inr rfl)) b hb
 · rintro ⟨h1,h2,⟨_,_,h3⟩,h4⟩;refine ⟨?_,h2,?_,?_⟩
   · rintro a (h | h | h)
     · exact h1 a (.inl h)
     · rw [h];exact fE.2 (fun b hb=>h1 b (.inr (.inl hb)))
     · rw [h];exact fE.2 (fun b hb=>h1 b (.inr (.inr hb)))
   · intro c hc;rw [hc];exact wh.2 (fun b hb=>fE.2 (fun c hc=>h3 b hb c hc))
   · rintro a ha b (hb | hb)
     · rw [hb];exact fE.2 (fun c hc=>h4 a ha c (.inl hc))
     · rw [hb];exact fE.2 (fun c hc=>h4 a ha c (.inr hc))
theorem ls {B:List ae} {most:Int} {ap:Bool} {q:Int}:ec B most ap q=true ↔ (B.length:Int)≤most∧eR B=false∧(∀r ∈ B,cy r.1 q=true)∧(ap=true→bl B=true):=by
 unfold ec eR bl;simp only [Bool.and_eq_true,decide_eq_true_eq,List.all_eq_true,List.mem_range];constructor
 · rintro ⟨h1,h2⟩;refine ⟨h1,?_,?_,?_⟩
   · rw [List.any_eq_false];intro r hr;obtain ⟨j,hj,rfl⟩:=List.getElem_of_mem hr;have:=h2 j hj;rw [dH (List.getElem?_eq_getElem hj),Bool.and_eq_true] at this;simp [this.1]
   · intro r hr;obtain ⟨j,hj,rfl⟩:=List.getElem_of_mem hr;have:=h2 j hj;rw [dH (List.getElem?_eq_getElem hj),Bool.and_eq_true,Bool.and_eq_true] at this;exact this.2.1
   · intro hap j hj;have:=h2 j hj;rw [dH (List.getElem?_eq_getElem hj),Bool.and_eq_true,Bool.and_eq_true,hap] at this;unfold k7;rw [List.getElem?_eq_getElem hj];simpa using this.2.2
 · rintro ⟨h1,h2,h3,h4⟩;refine ⟨h1,fun j hj=>?_⟩;rw [List.any_eq_false] at h2;have e1:=h2 B[j] (List.getElem_mem hj);have e2:=h3 B[j] (List.getElem_mem hj);rw [dH (List.getElem?_eq_getElem hj),e2];have e1':cW B[j].1 B[j].2=true:=by simpa using e1
   rw [e1'];cases ap with
   | false=>rfl
   | true =>
    have:=h4 rfl j hj;unfold k7 at this;rw [List.getElem?_eq_getElem hj] at this;simpa using this
theorem eM {B:List ae} (h:eR B=false):∀r ∈ B,cW r.1 r.2=true:=by
 unfold eR at h;rw [List.any_eq_false] at h;intro r hr;simpa using h r hr
theorem lZ (q:Int) (M:List ac) (A B C:List ae) (S:List Int) :
 bV q M [A,B,C] S=true ↔ 0≤q∧q≤100000∧dl S q=true∧M.length≤60∧az M=true∧bg A B C=true∧dt q (du M A B C).flatten=true:=by
 have hI:bg A B C=true ↔ ((A.length:Int)≤4∧eR A=false)∧((B.length:Int)≤8∧eR B=false∧bl B=true)∧((C.length:Int)≤8∧eR C=false∧bl C=true):=by
  unfold bg uc mY;simp only [Bool.and_eq_true,decide_eq_true_eq,Bool.not_eq_true']
 have hT:bV q M [A,B,C] S=true ↔ 0≤q∧q≤100000∧M.length≤60∧az M=true∧cy M q=true∧dl S q=true∧(ec A 4 false q=true∧ec B 8 true q=true∧ec C 8 true q=true)∧ir (fb M [A,B,C])=true:=by
  unfold bV gL;simp only [Bool.and_eq_true,decide_eq_true_eq,List.length_cons,List.length_nil,Nat.reduceAdd,true_and]
 rw [hT,hI,ls,ls,ls,jT,A4,List.pairwise_flatten];have hmem:∀{Z:List ae} {l:List ac},l ∈ Z.reverse.map (·.1)→∃r ∈ Z,r.1=l:=by
  intro Z l hl;rw [List.mem_map] at hl;obtain ⟨r,hr,rfl⟩:=hl;exact ⟨r,List.mem_reverse.1 hr,rfl⟩
 have hwi:∀{L:List ac},cy L q=true ↔ ∀e ∈ L,e.2.1≤q:=by
  intro L;unfold cy;simp only [List.all_eq_true,decide_eq_true_eq]
 have hin:∀{l:List ac},l ∈ du M A B C ↔ l=M∨(∃r ∈ A,r.1=l)∨(∃r ∈ B,r.1=l)∨(∃r ∈ C,r.1=l):=by
  intro l;unfold du;simp only [List.mem_cons,List.mem_append,List.mem_map,List.mem_reverse]
 constructor
 · rintro ⟨h1,h2,h3,h4,h5,h6,⟨⟨a1,a2,a3,_⟩,⟨b1,b2,b3,b4⟩,⟨c1,c2,c3,c4⟩⟩,h8⟩;have hB:=lT (b4 rfl) (eM b2);have hC:=lT (c4 rfl) (eM c2);refine ⟨h1,h2,h6,h3,h4,⟨⟨a1,a2⟩,⟨b1,b2,b4 rfl⟩,⟨c1,c2,c4 rfl⟩⟩,⟨?_,(mJ hB hC).1 h8⟩,?_⟩
   · intro l hl;rcases hin.1 hl with rfl | ⟨r,hr,rfl⟩ | ⟨r,hr,rfl⟩ | ⟨r,hr,rfl⟩
     · exact iF h4
     · exact iF (aO (eM a2 r hr)).2.2.1
     · exact iF (aO (eM b2 r hr)).2.2.1
     · exact iF (aO (eM c2 r hr)).2.2.1
   · intro e he;obtain ⟨l,hl,hx⟩:=List.mem_flatten.1 he;clear he;have he:=hx;rcases hin.1 hl with rfl | ⟨r,hr,rfl⟩ | ⟨r,hr,rfl⟩ | ⟨r,hr,rfl⟩
     · exact ⟨jP h4 e he,hwi.1 h5 e he⟩
     · exact ⟨jP (aO (eM a2 r hr)).2.2.1 e he,hwi.1 (a3 r hr) e he⟩
     · exact ⟨jP (aO (eM b2 r hr)).2.2.1 e he,hwi.1 (b3 r hr) e he⟩
     · exact ⟨jP (aO (eM c2 r hr)).2.2.1 e he,hwi.1 (c3 r hr) e he⟩
 · rintro ⟨h1,h2,h6,h3,h4,⟨⟨a1,a2⟩,⟨b1,b2,b4⟩,⟨c1,c2,c4⟩⟩,⟨_,h8⟩,h9⟩;have hB:=lT b4 (eM b2);have hC:=lT c4 (eM c2);have hw:∀l ∈ du M A B C,cy l q=true:=fun l hl=>hwi.2 (fun e he=>(h9 e (List.mem_flatten.2 ⟨l,hl,he⟩)).2)
   exact ⟨h1,h2,h3,h4,hw M (hin.2 (.inl rfl)),h6,⟨⟨a1,a2,fun r hr=>hw _ (hin.2 (.inr (.inl ⟨r,hr,rfl⟩))),fun e=>by cases e⟩,⟨b1,b2,fun r hr=>hw _ (hin.2 (.inr (.inr (.inl ⟨r,hr,rfl⟩)))),fun _=>b4⟩,⟨c1,c2,fun r hr=>hw _ (hin.2 (.inr (.inr (.inr ⟨r,hr,rfl⟩)))),fun _=>c4⟩⟩,(mJ hB hC).2 h8⟩
end Go.Proofs.YtlmgojlffgkciaaGreat

namespace Go.Proofs.YtlmgojlffgkciaaGreat
open Go.RowKit
def fi (B:List ae) (k1 k2:ByteArray) (i j:Nat):Prop :=
 i≤B.length∧j≤B.length∧∀t r,B[t]?=some r→(t<i→Op.bytesLess (aR r.1).toList k1.toList=true)∧(i≤t→Op.bytesLess (aR r.1).toList k1.toList=false)∧(t<j→Op.bytesLess k2.toList (aY r.1).toList=false)∧(j≤t→Op.bytesLess k2.toList (aY r.1).toList=true)
theorem pp {a b c:List UInt8} (h1:a=b∨Op.bytesLess a b=true) (h2:Op.bytesLess b c=true):Op.bytesLess a c=true:=by
 rcases h1 with rfl | h1
 · exact h2
 · exact cF _ _ _ h1 h2
theorem gY {r:ae} (h:cW r.1 r.2=true):az r.1=true∧1≤r.1.length∧r.1.length≤150:=by
 simp [cW] at h;exact ⟨h.2.2.1,by omega,by omega⟩
theorem AS {B:List ae} (ha:bl B=true) (hok:∀r ∈ B,cW r.1 r.2=true) {s t:Nat} {p r:ae} (hs:B[s]?=some p) (ht:B[t]?=some r) (hst:s≤t) (k:ByteArray) (h:Op.bytesLess (aR r.1).toList k.toList=true):Op.bytesLess (aR p.1).toList k.toList=true:=by
 by_cases he:s=t
 · subst he;rw [hs] at ht;cases ht;exact h
 · have h1:=j9 ha hok (t - s - 1) s hs (by rw [← ht];congr 1;omega);obtain ⟨hr,hl,_⟩:=gY (hok r (List.mem_of_getElem? ht));have h2:=iH hr hl;refine cF _ _ _ h1 (pp ?_ h);rcases h2 with h2 | h2
   · exact .inl (by rw [h2])
   · exact .inr h2
theorem Bw {B:List ae} (ha:bl B=true) (hok:∀r ∈ B,cW r.1 r.2=true) {s t:Nat} {p r:ae} (hs:B[s]?=some p) (ht:B[t]?=some r) (hst:s≤t) (k:ByteArray) (h:Op.bytesLess k.toList (aY p.1).toList=true):Op.bytesLess k.toList (aY r.1).toList=true:=by
 by_cases he:s=t
 · subst he;rw [hs] at ht;cases ht;exact h
 · have h1:=j9 ha hok (t - s - 1) s hs (by rw [← ht];congr 1;omega);obtain ⟨hr,hl,_⟩:=gY (hok p (List.mem_of_getElem? hs));have h2:=iH hr hl;refine cF _ _ _ h (pp ?_ h1);rcases h2 with h2 | h2
   · exact .inl (by rw [h2])
   · exact .inr h2
theorem fi.le {B:List ae} {k1 k2:ByteArray} {i j:Nat} (h:fi B k1 k2 i j) (hok:∀r ∈ B,cW r.1 r.2=true) (hk:k1=k2∨Op.bytesLess k1.toList k2.toList=true):i≤j:=by
 by_cases hij:i≤j
 · exact hij
 · exfalso
   have hj:j<B.length:=by have:=h.1;omega
   have hp:=List.getElem?_eq_getElem hj;obtain ⟨h1,_,_,h4⟩:=h.2.2 j _ hp;have h1:=h1 (by omega);have h4:=h4 (Nat.le_refl _);obtain ⟨hr,hl,_⟩:=gY (hok _ (List.getElem_mem hj));have h2:=iH hr hl;have h5:Op.bytesLess (aY B[j].1).toList k1.toList=true:=pp (by rcases h2 with h2 | h2;exact .inl (by rw [h2]);exact .inr h2) h1;have h6:Op.bytesLess (aY B[j].1).toList k2.toList=true:=by
    rcases hk with rfl | hk
    · exact h5
    · exact cF _ _ _ h5 hk
   rw [fQ _ _ h6] at h4;cases h4
end Go.Proofs.YtlmgojlffgkciaaGreat

namespace Go.Proofs.YtlmgojlffgkciaaGreat
open Go.RowKit
def fU (a b:ByteArray):Bool:=Op.bytesLess a.toList b.toList || a.toList == b.toList
def dV (low high:ByteArray) (r:ae):Bool:=fU (aY r.1) high && fU low (aR r.1)
def eW (k:ByteArray) (B:List ae):ByteArray:=B.foldl (fun k r=>if Op.bytesLess (aY r.1).toList k.toList then aY r.1 else k) k
def mw (a b:ByteArray):Bool:=!Op.bytesLess a.toList b.toList && !(a.toList == b.toList)
def dh (k:ByteArray) (B:List ae):ByteArray:=B.foldl (fun k r=>if mw (aR r.1) k then aR r.1 else k) k
theorem qj (k:ByteArray) {B:List ae} {i:Nat} {r:ae} (h:B[i]?=some r):eW k (B.take (i+1))=(if Op.bytesLess (aY r.1).toList (eW k (B.take i)).toList then aY r.1 else eW k (B.take i)):=by
 rw [List.take_add_one,h];unfold eW;rw [List.foldl_append];rfl
theorem fw (k:ByteArray) {B:List ae} {i:Nat} {r:ae} (h:B[i]?=some r):dh k (B.take (i+1))=(if mw (aR r.1) (dh k (B.take i)) then aR r.1 else dh k (B.take i)):=by
 rw [List.take_add_one,h];unfold dh;rw [List.foldl_append];rfl
theorem gQ {B:List ae} {i:Nat} {r:ae} (h:B[i]?=some r) (p:ae→Bool):(B.take (i+1)).filter p=(B.take i).filter p++(if p r then [r] else []):=by
 rw [List.take_add_one,h,List.filter_append];cases hp:p r <;> simp [hp]
def aH (B:List ae):List (List ac):=B.map (·.1)
theorem mO {B:List ae} {i:Nat} {r:ae} (h:B[i]?=some r):aH (B.take (i+1))=aH (B.take i)++[r.1]:=by
 rw [List.take_add_one,h];simp [aH]
def cV (B:List ae):Bool:=B.all (fun r=>decide (r.1.length≤150))
theorem AX {B:List ae} {i:Nat} {r:ae} (h:B[i]?=some r) (hr:150<r.1.length):cV B=false:=by
 unfold cV;rw [List.all_eq_false];exact ⟨r,List.mem_of_getElem? h,by simp;omega⟩
theorem Ab {B:List ae} {n:Nat} (hl:B.length=n) (h:∀j r,j<n→B[j]?=some r→r.1.length≤150):cV B=true:=by
 unfold cV;rw [List.all_eq_true];intro r hr;obtain ⟨j,hj,rfl⟩:=List.getElem_of_mem hr;exact decide_eq_true (h j _ (by omega) (List.getElem?_eq_getElem hj))
end Go.Proofs.YtlmgojlffgkciaaGreat

namespace Go.Proofs.YtlmgojlffgkciaaGreat
open Go.RowKit
theorem dR (a b:ByteArray):fU a b=!Op.bytesLess b.toList a.toList:=by
 unfold fU;by_cases h:a.toList=b.toList
 · rw [h,dK];simp
 · rcases jB _ _ h with h1 | h1
   · rw [h1,fQ _ _ h1];rfl
   · rw [h1,fQ _ _ h1];simp [h]
theorem rp (a b:ByteArray):mw a b=Op.bytesLess b.toList a.toList:=by
 have h:=dR a b;unfold fU at h;unfold mw;rw [← Bool.not_or,h,Bool.not_not]
theorem oF {B:List ae} {i j:Nat} (hij:i≤j):B=B.take i++((B.drop i).take (j - i)++B.drop j):=by
 have h2:(B.drop i).drop (j - i)=B.drop j:=by rw [List.drop_drop];congr 1;omega
 rw [← h2,List.take_append_drop,List.take_append_drop]
theorem mL {B:List ae} {k1 k2:ByteArray} {i j:Nat} (h:fi B k1 k2 i j) (hij:i≤j):B.filter (dV k1 k2)=(B.drop i).take (j - i)∧B.filter (fun r=>!dV k1 k2 r)=B.take i++B.drop j:=by
 have h1:∀r ∈ B.take i,dV k1 k2 r=false:=fun r hr=>by
  obtain ⟨t,ht,rfl⟩:=List.getElem_of_mem hr;rw [List.length_take] at ht;rw [List.getElem_take];have h2:=(h.2.2 t _ (List.getElem?_eq_getElem (show t<B.length by omega))).1 (by omega);unfold dV;rw [dR k1,h2];simp
 have h2:∀r ∈ (B.drop i).take (j - i),dV k1 k2 r=true:=fun r hr=>by
  obtain ⟨t,ht,rfl⟩:=List.getElem_of_mem hr;rw [List.length_take,List.length_drop] at ht;rw [List.getElem_take,List.getElem_drop];have h3:=h.2.2 (i+t) _ (List.getElem?_eq_getElem (show i+t<B.length by omega));unfold dV;rw [dR,dR,h3.2.1 (by omega),h3.2.2.1 (by omega)];rfl
 have h3:∀r ∈ B.drop j,dV k1 k2 r=false:=fun r hr=>by
  obtain ⟨t,ht,rfl⟩:=List.getElem_of_mem hr;rw [List.length_drop] at ht;rw [List.getElem_drop];have h3:=(h.2.2 (j+t) _ (List.getElem?_eq_getElem (show j+t<B.length by omega))).2.2.2 (by omega);unfold dV;rw [dR (aY _),h3];rfl
 constructor
 · conv=>lhs;rw [oF (B:=B) hij]
   rw [List.filter_append,List.filter_append,List.filter_eq_nil_iff.2 (fun r hr=>by rw [h1 r hr];simp),List.filter_eq_self.2 h2,List.filter_eq_nil_iff.2 (fun r hr=>by rw [h3 r hr];simp)];simp
 · conv=>lhs;rw [oF (B:=B) hij]
   rw [List.filter_append,List.filter_append,List.filter_eq_self.2 (fun r hr=>by rw [h1 r hr];rfl),List.filter_eq_nil_iff.2 (fun r hr=>by rw [h2 r hr];simp),List.filter_eq_self.2 (fun r hr=>by rw [h3 r hr];rfl)];simp
theorem ee (a:ByteArray):fU a a=true:=by rw [dR,dK];rfl
theorem ch {a b c:ByteArray} (h1:fU a b=true) (h2:fU b c=true):fU a c=true:=by
 unfold fU at h1 h2 ⊢;simp only [Bool.or_eq_true,beq_iff_eq] at h1 h2 ⊢;rcases h1 with h1 | h1
 · rcases h2 with h2 | h2
   · exact .inl (cF _ _ _ h1 h2)
   · rw [← h2];exact .inl h1
 · rw [h1];exact h2
theorem tu {a b:ByteArray} (h1:fU a b=true) (h2:fU b a=true):a=b:=by
 rw [dR] at h2;unfold fU at h1;simp only [Bool.or_eq_true,beq_iff_eq] at h1;rcases h1 with h1 | h1
 · rw [h1] at h2;cases h2
 · rw [ByteArray.toList_eq,ByteArray.toList_eq] at h1;exact ByteArray.ext (Array.toList_inj.1 h1)
theorem vX:∀(B:List ae) (k:ByteArray),fU (eW k B) k=true∧∀r ∈ B,fU (eW k B) (aY r.1)=true
 | [],k=>⟨ee k,fun r hr=>by cases hr⟩
 | r :: B,k=>by
  have h:∃k',eW k (r :: B)=eW k' B∧fU k' k=true∧fU k' (aY r.1)=true:=by
   refine ⟨if Op.bytesLess (aY r.1).toList k.toList then aY r.1 else k,rfl,?_⟩;cases hl:Op.bytesLess (aY r.1).toList k.toList with
   | true=>exact ⟨by simp only [if_true];unfold fU;rw [hl];rfl,by simp only [if_true];exact ee _⟩
   | false=>exact ⟨by simp only [Bool.false_eq_true,if_false];exact ee _,by simp only [Bool.false_eq_true,if_false];rw [dR,hl];rfl⟩
  obtain ⟨k',h1,h2,h3⟩:=h;obtain ⟨h4,h5⟩:=vX B k';rw [h1];refine ⟨ch h4 h2,fun x hx=>?_⟩;rcases List.mem_cons.1 hx with rfl | hx
  · exact ch h4 h3
  · exact h5 x hx
theorem th:∀(B:List ae) (k:ByteArray),eW k B=k∨∃r ∈ B,eW k B=aY r.1
 | [],k=>.inl rfl
 | r :: B,k=>by
  have e:eW k (r :: B)=eW (if Op.bytesLess (aY r.1).toList k.toList then aY r.1 else k) B:=rfl
  rw [e]
  rcases th B (if Op.bytesLess (aY r.1).toList k.toList then aY r.1 else k) with h | ⟨x,hx,h⟩
  · rw [h]
    split
    · exact .inr ⟨r,by simp,rfl⟩
    · exact .inl rfl
  · exact .inr ⟨x,List.mem_cons_of_mem _ hx,h⟩
theorem tF:∀(B:List ae) (k:ByteArray),fU k (dh k B)=true∧∀r ∈ B,fU (aR r.1) (dh k B)=true
 | [],k=>⟨ee k,fun r hr=>by cases hr⟩
 | r :: B,k=>by
  have h:∃k',dh k (r :: B)=dh k' B∧fU k k'=true∧fU (aR r.1) k'=true:=by
   refine ⟨if mw (aR r.1) k then aR r.1 else k,rfl,?_⟩;rw [rp];cases hl:Op.bytesLess k.toList (aR r.1).toList with
   | true=>exact ⟨by simp only [if_true];unfold fU;rw [hl];rfl,by simp only [if_true];exact ee _⟩
   | false=>exact ⟨by simp only [Bool.false_eq_true,if_false];exact ee _,by simp only [Bool.false_eq_true,if_false];rw [dR,hl];rfl⟩
  obtain ⟨k',h1,h2,h3⟩:=h;obtain ⟨h4,h5⟩:=tF B k';rw [h1];refine ⟨ch h2 h4,fun x hx=>?_⟩;rcases List.mem_cons.1 hx with rfl | hx
  · exact ch h3 h4
  · exact h5 x hx
theorem qv:∀(B:List ae) (k:ByteArray),dh k B=k∨∃r ∈ B,dh k B=aR r.1
 | [],k=>.inl rfl
 | r :: B,k=>by
  have e:dh k (r :: B)=dh (if mw (aR r.1) k then aR r.1 else k) B:=rfl
  rw [e]
  rcases qv B (if mw (aR r.1) k then aR r.1 else k) with h | ⟨x,hx,h⟩
  · rw [h]
    split
    · exact .inr ⟨r,by simp,rfl⟩
    · exact .inl rfl
  · exact .inr ⟨x,List.mem_cons_of_mem _ hx,h⟩
end Go.Proofs.YtlmgojlffgkciaaGreat

namespace Go.Proofs.YtlmgojlffgkciaaGreat
open Go.RowKit
structure pu (w:World) (R:Nat) (a:Option Addr) (len cap P:Nat):Prop where
 c0:w.cell? ⟨R,0,none⟩=some (.slice a len cap)
 c1:w.cell? ⟨R,1,none⟩=some (iT P)
 f1:w.frozen? ⟨R,1,none⟩=false
 few:len≤2000
 bytes:len=0∨∃b off,a=some ⟨b,off,none⟩∧b≠R∧b<w.heap.size∧∀i,i<len→∃z:Nat,z≤255∧w.cell? ⟨b,off+i,none⟩=some (.int .u8 z)
theorem pu.lt {w:World} {R:Nat} {a:Option Addr} {len cap P:Nat} (h:pu w R a len cap P):R<w.heap.size:=World.block_lt_of_cell? w _ h.c0
theorem dS {a b c:World} {R:Option Nat} (h:a.grownBy b R) (k:b.grownBy c R):a.grownBy c R :=
 ⟨k.os.trans h.os,k.tape.trans h.tape,k.output.trans h.output,Nat.le_trans h.size k.size,fun i hi hn=>(k.block i (Nat.lt_of_lt_of_le hi h.size) hn).trans (h.block i hi hn)⟩
theorem aJ {w w':World} {R:Nat} (hg:w.grownBy w' (some R)) {x:Addr} (hx:x.block<w.heap.size) (hn:x.block≠R):w'.cell? x=w.cell? x :=
 World.cell?_of_block (hg.block x.block hx (fun e=>hn (by cases e;rfl)))
theorem pu.below {w w':World} {R:Nat} {a:Option Addr} {len cap P:Nat} (h:pu w R a len cap P) (hb:Bl w w'):pu w' R a len cap P where
 c0:=cell_later hb h.c0
 c1:=cell_later hb h.c1
 f1:=(hb.frozen (p:=⟨R,1,none⟩) h.lt).trans h.f1
 few:=h.few
 bytes:=by
  rcases h.bytes with h0 | ⟨b,off,ha,hb1,hb2,hc⟩
  · exact Or.inl h0
  · exact Or.inr ⟨b,off,ha,hb1,Nat.lt_of_lt_of_le hb2 hb.size,fun i hi=>by obtain ⟨z,hz,hcc⟩:=hc i hi;exact ⟨z,hz,cell_later hb hcc⟩⟩
theorem pu.next {w:World} {R:Nat} {a:Option Addr} {len cap P:Nat} (h:pu w R a len cap P):pu (w.setCell ⟨R,1,none⟩ (iT ((P:Int)+1))) R a len cap (P+1):=by
 refine ⟨?_,?_,?_,h.few,?_⟩
 · rw [World.cell?_setCell_other _ _ _ _ (by simp)];exact h.c0
 · exact World.cell?_setCell_same' _ _ _ (by rw [h.c1];rfl)
 · rw [World.frozen?_setCell];exact h.f1
 · rcases h.bytes with h0 | ⟨b,off,ha,hb1,hb2,hc⟩
   · exact Or.inl h0
   · refine Or.inr ⟨b,off,ha,hb1,by simpa [World.setCell] using hb2,fun i hi=>?_⟩;obtain ⟨z,hz,hcc⟩:=hc i hi;exact ⟨z,hz,by rw [World.cell?_setCell_other _ _ _ _ (fun e=>hb1 (congrArg Addr.block e).symm)];exact hcc⟩
theorem mT {w w':World} {R:Option Nat} (h:Bl w w'):w.grownBy w' R:=⟨h.os,h.tape,h.output,h.size,fun k hk _=>h.block k hk⟩
end Go.Proofs.YtlmgojlffgkciaaGreat

namespace Go.Proofs.YtlmgojlffgkciaaGreat
open Go.RowKit
theorem gk {w w':World} {row:Option Nat} (hg:w.grownBy w' row) {x:Addr} (hx:x.block<w.heap.size) (hn:some x.block≠row):w'.frozen? x=w.frozen? x:=World.frozen?_of_block (hg.block x.block hx hn)
theorem sQ {w:World} {base e size k:Nat} {v:Value} {xs:List Value} (h:w.ownsRow base e size v k xs) (hne:¬v=nZ):∃g cap,v=sL g k cap:=by
 rcases h.2 with ⟨h',_⟩ | ⟨g,cap,_,h',_⟩
 · exact absurd h' hne
 · exact ⟨g,cap,h'⟩
theorem ax {P:Program} {ops:Array Oper} {o:Oper} {a:Act} {w:World} {K:Act→World→Prop} {Q:Exit→Act→World→Prop} {E:Prop}
 (hg:o.guard=none) (s x:Operand) (t:TypeId) (hop:o.op=Op.call { callee:=Callee.builtin Builtin.append,args:=#[s,x],argTypes:=#[t,t] })
 (base:Nat) (e:TypeId) (i:TypeInfo) (z:Value) (size bytes:Nat) (h1:P.underlying t=some (.slice e)) (h2:P.info? e=some i) (h3:i.zero=some z) (h4:i.size=size) (h5:i.bytes=bytes) (h6:z.cells.size=size) (h7:0<size)
 (v:Value) (n:Nat) (olds:List Value) (hs:a.eval s=v) (hown:w.ownsRow base e size v n olds)
 (ad:Addr) (m c:Nat) (news:List Value) (hx:a.eval x=.slice (some ad) m c) (hn:news.length=m*size) (hc:∀j u,news[j]?=some u→w.cell? (ad.add j)=some u) (h1c:∀u ∈ news,u.oneCell'=true)
 (b1:n+m≤maxLen) (b2:(n+m)*bytes≤140737488355328) (b3:base≤w.heap.size)
 (hK:∀v' w',w'.ownsRow base e size v' (n+m) (olds++news)→w.grownBy w' v.ownBlock→(v'=nZ ↔ v=nZ∧m=0)→K (a.put o.dst v') w') :
 if Region.wanted o (yielded ops a.tmps)=true then Oper.wp P o a w K Q else E:=by
 have hw:Region.wanted o (yielded ops a.tmps)=true:=by simp [Region.wanted,hg]
 rw [if_pos hw];obtain ⟨v',w',hrun,r1,r2,r3⟩:=run_append_own (P:=P) w base t o.type e i z size bytes h1 h2 h3 h4 h5 h6 h7 v n olds hown ad m c news hn hc h1c b1 b2 b3;unfold Oper.wp;simp [execOp,hop,resolve,invoke,builtin,hs,hx,hrun,Result.andThen];exact hK v' w' r1 r2 r3
end Go.Proofs.YtlmgojlffgkciaaGreat
