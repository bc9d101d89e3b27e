/- Walks. -/
import Derived.Test.YtpobkmjicbobdaaGreatBn06
import Derived.Test.YtpobkmjicbobdaaGreatBn07
import Derived.Deep.RegionLaw
namespace Go.Proofs.YtpobkmjicbobdaaGreat
set_option maxRecDepth 100000
set_option maxHeartbeats 40000000
open Go.RowKit
variable {L X:List ac} {cap i j len:Nat} {k1 k2:ByteArray} {q:Int} {r:ag} {w w':World}
def oo (x y:ac):Prop:=x.1=y.1→y.2.1<x.2.1
theorem jR (x y:ac):(!fh x y)=true ↔ oo x y:=by
 unfold fh oo;by_cases h:x.1=y.1
 · simp [h]
 · simp [h]
def Ov (A B:List ac):Prop:=∀x ∈ A,∀y ∈ B,oo x y
theorem tN {A B:List ac}:iK A B=true ↔ Ov A B:=by
 unfold iK Ov;simp only [List.all_eq_true,jR]
theorem vJ {P:List (List ac)}:im P=true ↔ P.Pairwise Ov:=by
 rw [List.pairwise_iff_getElem];unfold im;simp only [List.all_eq_true,List.mem_range];constructor
 · intro h i j hi hj hij;have:=h i hi j hj;rw [decide_eq_true hij,mu (List.getElem?_eq_getElem hi) (List.getElem?_eq_getElem hj)] at this;exact tN.1 (by simpa using this)
 · intro h i hi j hj;by_cases hij:i<j
   · rw [decide_eq_true hij,mu (List.getElem?_eq_getElem hi) (List.getElem?_eq_getElem hj),tN.2 (h i j hi hj hij)];rfl
   · rw [decide_eq_false hij];rfl
def dr (q:Int):List ac→Bool
 | []=>true
 | e :: L=>dr q L && (decide (1≤e.2.1) && (decide (e.2.1≤q) && L.all (fun y=>!fh e y)))
theorem jy (q:Int) (L:List ac):dr q L=true ↔ L.Pairwise oo∧∀e ∈ L,1≤e.2.1∧e.2.1≤q:=by
 induction L with
 | nil=>simp [dr]
 | cons e L ih =>
  simp only [dr,Bool.and_eq_true,ih,decide_eq_true_eq,List.all_eq_true,jR,List.pairwise_cons,List.mem_cons];constructor
  · rintro ⟨⟨h1,h2⟩,h3,h4,h5⟩;refine ⟨⟨h5,h1⟩,?_⟩;rintro x (rfl | hx)
    · exact ⟨h3,h4⟩
    · exact h2 x hx
  · rintro ⟨⟨h5,h1⟩,h2⟩;exact ⟨⟨h1,fun x hx=>h2 x (.inr hx)⟩,(h2 e (.inl rfl)).1,(h2 e (.inl rfl)).2,h5⟩
def mQ:List ac→ByteArray→Int
 | [],_=>0
 | e :: L,k=>if e.1=k then e.2.1 else mQ L k
theorem rZ (e:ac) (L:List ac) (k:ByteArray):mQ (e :: L) k=if e.1=k then e.2.1 else mQ L k:=rfl
theorem tY {q:Int} (e:ac):∀L:List ac,dr q L=true→(mQ L e.1<e.2.1 ↔ (1≤e.2.1∧∀y ∈ L,oo e y))
 | [],_=>by simp [mQ];omega
 | f :: L,h=>by
  have hn:=(jy q (f :: L)).1 h
  rw [List.pairwise_cons] at hn
  have ih:=tY e L (by simp only [dr,Bool.and_eq_true] at h;exact h.1)
  rw [rZ]
  by_cases hk:f.1=e.1
  · rw [if_pos hk]
    have hf:=(hn.2 f (List.mem_cons_self ..)).1
    constructor
    · intro h1
      refine ⟨by omega,?_⟩
      intro y hy
      rw [List.mem_cons] at hy
      rcases hy with rfl | hy
      · intro _;exact h1
      · intro e1
        have:=hn.1.1 y hy (hk.trans e1)
        omega
    · rintro ⟨_,h2⟩
      exact h2 f (List.mem_cons_self ..) hk.symm
  · rw [if_neg hk,ih]
    constructor
    · rintro ⟨h1,h2⟩
      refine ⟨h1,?_⟩
      intro y hy
      rw [List.mem_cons] at hy
      rcases hy with rfl | hy
      · intro e1;exact absurd e1.symm hk
      · exact h2 y hy
    · rintro ⟨h1,h2⟩
      exact ⟨h1,fun y hy=>h2 y (List.mem_cons_of_mem _ hy)⟩
theorem uB {e:ac} (h:dr q L=true) (h1:mQ L e.1<e.2.1) (h2:e.2.1≤q):dr q (e :: L)=true:=by
 have:=(tY e L h).1 h1;simp only [dr,h,Bool.true_and,Bool.and_eq_true,decide_eq_true_eq,List.all_eq_true,jR];exact ⟨this.1,h2,this.2⟩
theorem uA {e:ac} {A:List ac} (h:¬(mQ L e.1<e.2.1∧e.2.1≤q)):dr q (A++e :: L)=false:=by
 induction A with
 | nil =>
  rw [List.nil_append,Bool.eq_false_iff];intro h1;have hL:dr q L=true:=by simp only [dr,Bool.and_eq_true] at h1;exact h1.1
  have h3:=(jy q _).1 h1;rw [List.pairwise_cons] at h3;have h4:=h3.2 e (List.mem_cons_self ..);exact h ⟨(tY e L hL).2 ⟨h4.1,h3.1.1⟩,h4.2⟩
 | cons a A ih =>
  rw [List.cons_append,dr,ih];rfl
theorem iz (h:aR L=true):L.Pairwise oo:=by
 rw [List.pairwise_iff_getElem];intro i j hi hj hij hk;rcases eU (f8 h hij (List.getElem?_eq_getElem hi) (List.getElem?_eq_getElem hj)) with h1 | h1
 · rw [hk,dG] at h1;cases h1
 · exact h1.2
theorem js (h:aR L=true):∀e ∈ L,1≤e.2.1:=by
 intro e he;obtain ⟨j,hj,rfl⟩:=List.getElem_of_mem he;exact (tx (fX h (List.getElem?_eq_getElem hj))).1
theorem l7 (h:aR L=true) {e:ac} (he:e ∈ L):bj L=e.1∨Op.bytesLess (bj L).toList e.1.toList=true:=by
 obtain ⟨j,hj,rfl⟩:=List.getElem_of_mem he;obtain ⟨f,hf,hl⟩:=ll (L:=L) (by omega);rw [hl];by_cases h0:j=0
 · subst h0;rw [List.getElem?_eq_getElem hj] at hf;cases hf;exact .inl rfl
 · rcases eU (f8 h (Nat.pos_of_ne_zero h0) hf (List.getElem?_eq_getElem hj)) with h1 | h1
   · exact .inr (by rw [ByteArray.toList_eq,ByteArray.toList_eq];exact h1)
   · exact .inl h1.1
theorem ol (h:aR L=true) {e:ac} (he:e ∈ L):e.1=aT L∨Op.bytesLess e.1.toList (aT L).toList=true:=by
 obtain ⟨j,hj,rfl⟩:=List.getElem_of_mem he;obtain ⟨f,hf,hl⟩:=ij (L:=L) (by omega);rw [hl];by_cases h0:j=L.length - 1
 · subst h0;rw [List.getElem?_eq_getElem hj] at hf;cases hf;exact .inl rfl
 · rcases eU (f8 h (by omega:j<L.length - 1) (List.getElem?_eq_getElem hj) hf) with h1 | h1
   · exact .inr (by rw [ByteArray.toList_eq,ByteArray.toList_eq];exact h1)
   · exact .inl h1.1
theorem iA (h:aR L=true) (hn:1≤L.length):bj L=aT L∨Op.bytesLess (bj L).toList (aT L).toList=true:=by
 obtain ⟨f,hf,hl⟩:=ij hn;rw [hl];exact l7 h (List.mem_of_getElem? hf)
theorem tL {B:List ag} (h:bD B=true) {i:Nat} {p r:ag} (hp:B[i]?=some p) (hr:B[i+1]?=some r):j9 p.1 r.1=true:=by
 unfold bD at h;have:=(List.all_eq_true.1 h) (i+1) (List.mem_range.2 (List.getElem?_eq_some_iff.1 hr).1);unfold jG gT at this;simp only [hr,hp] at this;exact this
theorem jC {B:List ag} (h:bD B=true) (hok:∀r ∈ B,dv r.1 r.2=true):∀(d i:Nat) {p r:ag},B[i]?=some p→B[i+1+d]?=some r→Op.bytesLess (aT p.1).toList (bj r.1).toList=true
 | 0,i,p,r,hp,hr=>tL h hp hr
 | d+1,i,p,r,hp,hr=>by
  obtain ⟨hl,_⟩:=List.getElem?_eq_some_iff.1 hr
  have hm:B[i+1+d]?=some (B[i+1+d]'(by omega)):=List.getElem?_eq_getElem _
  have h1:=jC h hok d i hp hm
  have h2:j9 (B[i+1+d]'(by omega)).1 r.1=true:=tL h hm hr
  have h3:=bK (hok _ (List.mem_of_getElem? hm))
  unfold j9 at h2
  rcases iA h3.2.2.1 h3.1 with e | e
  · rw [e] at h1;exact cq _ _ _ h1 h2
  · exact cq _ _ _ (cq _ _ _ h1 e) h2
theorem lE {B:List ag} (h:bD B=true) (hok:∀r ∈ B,dv r.1 r.2=true):(B.reverse.map (·.1)).Pairwise Ov:=by
 rw [List.pairwise_map,List.pairwise_reverse,List.pairwise_iff_getElem];intro i j hi hj hij x hx y hy hk;exfalso
 have h1:=jC h hok (j - i - 1) i (List.getElem?_eq_getElem hi) (by rw [show i+1+(j - i - 1)=j by omega];exact List.getElem?_eq_getElem hj);have hi3:=(bK (hok _ (List.getElem_mem hi))).2.2.1;have hj3:=(bK (hok _ (List.getElem_mem hj))).2.2.1;have h2:Op.bytesLess y.1.toList (bj B[j].1).toList=true:=by
  rcases ol hi3 hy with e | e
  · rw [e];exact h1
  · exact cq _ _ _ e h1
 have h3:Op.bytesLess y.1.toList x.1.toList=true:=by
  rcases l7 hj3 hx with e | e
  · rw [← e];exact h2
  · exact cq _ _ _ h2 e
 rw [hk,dG] at h3;cases h3
def cU (M:List ac) (A B C:List ag):List (List ac):=M :: (A.reverse.map (·.1)++(B.reverse.map (·.1)++C.reverse.map (·.1)))
theorem fD {B:List ag}:Ov X (bm B) ↔ ∀b ∈ B.reverse.map (·.1),Ov X b:=by
 unfold Ov bm;simp only [List.mem_flatMap,List.mem_map,List.mem_reverse];constructor
 · rintro h b ⟨r,hr,rfl⟩ x hx y hy;exact h x hx y ⟨r,hr,hy⟩
 · rintro h x hx y ⟨r,hr,hy⟩;exact h r.1 ⟨r,hr,rfl⟩ x hx y hy
theorem vw {B:List ag}:Ov (bm B) X ↔ ∀b ∈ B.reverse.map (·.1),Ov b X:=by
 unfold Ov bm;simp only [List.mem_flatMap,List.mem_map,List.mem_reverse];constructor
 · rintro h b ⟨r,hr,rfl⟩ x hx y hy;exact h x ⟨r,hr,hx⟩ y hy
 · rintro h x ⟨r,hr,hx⟩ y hy;exact h r.1 ⟨r,hr,rfl⟩ x hx y hy
theorem mG {M:List ac} {A B C:List ag} (hB:(B.reverse.map (·.1)).Pairwise Ov) (hC:(C.reverse.map (·.1)).Pairwise Ov):(eo M [A,B,C]).Pairwise Ov ↔ (cU M A B C).Pairwise Ov:=by
 unfold eo cU;simp only [List.headD_cons,List.drop_succ_cons,List.drop_zero,List.map_cons,List.map_nil,List.cons_append,List.pairwise_cons,List.pairwise_append,List.mem_append,List.mem_cons,List.not_mem_nil,or_false,List.Pairwise.nil,and_true,false_implies,implies_true];constructor
 · rintro ⟨h1,h2,h3,h4⟩;have hbc:=h3 _ rfl;refine ⟨?_,h2,⟨hB,hC,?_⟩,?_⟩
   · rintro a (h | h | h)
     · exact h1 a (.inl h)
     · exact fD.1 (h1 _ (.inr (.inl rfl))) a h
     · exact fD.1 (h1 _ (.inr (.inr rfl))) a h
   · intro b hb c hc;exact fD.1 (vw.1 hbc b hb) c hc
   · rintro a ha b (hb | hb)
     · exact fD.1 (h4 a ha _ (.inl rfl)) b hb
     · exact fD.1 (h4 a ha _ (.inr rfl)) b hb
 · rintro ⟨h1,h2,⟨_,_,h3⟩,h4⟩;refine ⟨?_,h2,?_,?_⟩
   · rintro a (h | h | h)
     · exact h1 a (.inl h)
     · rw [h];exact fD.2 (fun b hb=>h1 b (.inr (.inl hb)))
     · rw [h];exact fD.2 (fun b hb=>h1 b (.inr (.inr hb)))
   · intro c hc;rw [hc];exact vw.2 (fun b hb=>fD.2 (fun c hc=>h3 b hb c hc))
   · rintro a ha b (hb | hb)
     · rw [hb];exact fD.2 (fun c hc=>h4 a ha c (.inl hc))
     · rw [hb];exact fD.2 (fun c hc=>h4 a ha c (.inr hc))
theorem dk {B:List ag} {most:Int} {ap:Bool}:dl B most ap q=true ↔ (B.length:Int)≤most∧eN B=false∧(∀r ∈ B,bW r.1 q=true)∧(ap=true→bD B=true):=by
 unfold dl eN bD;simp only [Bool.and_eq_true,decide_eq_true_eq,List.all_eq_true,List.mem_range];constructor
 · rintro ⟨h1,h2⟩;refine ⟨h1,?_,?_,?_⟩
   · rw [List.any_eq_false];intro r hr;obtain ⟨j,hj,rfl⟩:=List.getElem_of_mem hr;have:=h2 j hj;rw [dy (List.getElem?_eq_getElem hj),Bool.and_eq_true] at this;simp [this.1]
   · intro r hr;obtain ⟨j,hj,rfl⟩:=List.getElem_of_mem hr;have:=h2 j hj;rw [dy (List.getElem?_eq_getElem hj),Bool.and_eq_true,Bool.and_eq_true] at this;exact this.2.1
   · intro hap j hj;have:=h2 j hj;rw [dy (List.getElem?_eq_getElem hj),Bool.and_eq_true,Bool.and_eq_true,hap] at this;unfold jG;rw [List.getElem?_eq_getElem hj];simpa using this.2.2
 · rintro ⟨h1,h2,h3,h4⟩;refine ⟨h1,fun j hj=>?_⟩;rw [List.any_eq_false] at h2;have e1:=h2 B[j] (List.getElem_mem hj);have e2:=h3 B[j] (List.getElem_mem hj);rw [dy (List.getElem?_eq_getElem hj),e2];have e1':dv B[j].1 B[j].2=true:=by simpa using e1
   rw [e1'];cases ap with
   | false=>rfl
   | true =>
    have:=h4 rfl j hj;unfold jG at this;rw [List.getElem?_eq_getElem hj] at this;simpa using this
theorem dm {B:List ag} (h:eN B=false):∀r ∈ B,dv r.1 r.2=true:=by
 unfold eN at h;rw [List.any_eq_false] at h;intro r hr;simpa using h r hr
theorem jn (q:Int) (M:List ac) (A B C:List ag) (S:List Int) :
 bc q M [A,B,C] S=true ↔ 0≤q∧q≤100000∧cu S q=true∧M.length≤60∧aR M=true∧bu A B C=true∧dr q (cU M A B C).flatten=true:=by
 have hI:bu A B C=true ↔ ((A.length:Int)≤4∧eN A=false)∧((B.length:Int)≤8∧eN B=false∧bD B=true)∧((C.length:Int)≤8∧eN C=false∧bD C=true):=by
  unfold bu sZ oy;simp only [Bool.and_eq_true,decide_eq_true_eq,Bool.not_eq_true']
 have hT:bc q M [A,B,C] S=true ↔ 0≤q∧q≤100000∧M.length≤60∧aR M=true∧bW M q=true∧cu S q=true∧(dl A 4 false q=true∧dl B 8 true q=true∧dl C 8 true q=true)∧im (eo M [A,B,C])=true:=by
  unfold bc eM;simp only [Bool.and_eq_true,decide_eq_true_eq,List.length_cons,List.length_nil,Nat.reduceAdd,true_and]
 rw [hT,hI,dk,dk,dk,jy,vJ,List.pairwise_flatten];have hmem:∀{Z:List ag} {l:List ac},l ∈ Z.reverse.map (·.1)→∃r ∈ Z,r.1=l:=by
  intro Z l hl;rw [List.mem_map] at hl;obtain ⟨r,hr,rfl⟩:=hl;exact ⟨r,List.mem_reverse.1 hr,rfl⟩
 have hwi:∀{L:List ac},bW L q=true ↔ ∀e ∈ L,e.2.1≤q:=by
  intro L;unfold bW;simp only [List.all_eq_true,decide_eq_true_eq]
 have hin:∀{l:List ac},l ∈ cU M A B C ↔ l=M∨(∃r ∈ A,r.1=l)∨(∃r ∈ B,r.1=l)∨(∃r ∈ C,r.1=l):=by
  intro l;unfold cU;simp only [List.mem_cons,List.mem_append,List.mem_map,List.mem_reverse]
 constructor
 · rintro ⟨h1,h2,h3,h4,h5,h6,⟨⟨a1,a2,a3,_⟩,⟨b1,b2,b3,b4⟩,⟨c1,c2,c3,c4⟩⟩,h8⟩;have hB:=lE (b4 rfl) (dm b2);have hC:=lE (c4 rfl) (dm c2);refine ⟨h1,h2,h6,h3,h4,⟨⟨a1,a2⟩,⟨b1,b2,b4 rfl⟩,⟨c1,c2,c4 rfl⟩⟩,⟨?_,(mG hB hC).1 h8⟩,?_⟩
   · intro l hl;rcases hin.1 hl with rfl | ⟨r,hr,rfl⟩ | ⟨r,hr,rfl⟩ | ⟨r,hr,rfl⟩
     · exact iz h4
     · exact iz (bK (dm a2 r hr)).2.2.1
     · exact iz (bK (dm b2 r hr)).2.2.1
     · exact iz (bK (dm c2 r hr)).2.2.1
   · intro e he;obtain ⟨l,hl,hx⟩:=List.mem_flatten.1 he;clear he;have he:=hx;rcases hin.1 hl with rfl | ⟨r,hr,rfl⟩ | ⟨r,hr,rfl⟩ | ⟨r,hr,rfl⟩
     · exact ⟨js h4 e he,hwi.1 h5 e he⟩
     · exact ⟨js (bK (dm a2 r hr)).2.2.1 e he,hwi.1 (a3 r hr) e he⟩
     · exact ⟨js (bK (dm b2 r hr)).2.2.1 e he,hwi.1 (b3 r hr) e he⟩
     · exact ⟨js (bK (dm c2 r hr)).2.2.1 e he,hwi.1 (c3 r hr) e he⟩
 · rintro ⟨h1,h2,h6,h3,h4,⟨⟨a1,a2⟩,⟨b1,b2,b4⟩,⟨c1,c2,c4⟩⟩,⟨_,h8⟩,h9⟩;have hB:=lE b4 (dm b2);have hC:=lE c4 (dm c2);have hw:∀l ∈ cU M A B C,bW l q=true:=fun l hl=>hwi.2 (fun e he=>(h9 e (List.mem_flatten.2 ⟨l,hl,he⟩)).2)
   exact ⟨h1,h2,h3,h4,hw M (hin.2 (.inl rfl)),h6,⟨⟨a1,a2,fun r hr=>hw _ (hin.2 (.inr (.inl ⟨r,hr,rfl⟩))),fun e=>by cases e⟩,⟨b1,b2,fun r hr=>hw _ (hin.2 (.inr (.inr (.inl ⟨r,hr,rfl⟩)))),fun _=>b4⟩,⟨c1,c2,fun r hr=>hw _ (hin.2 (.inr (.inr (.inr ⟨r,hr,rfl⟩)))),fun _=>c4⟩⟩,(mG hB hC).2 h8⟩
def jL (B:List ag) (k1 k2:ByteArray) (i j:Nat):Prop :=
 i≤B.length∧j≤B.length∧∀t r,B[t]?=some r→(t<i→Op.bytesLess (aT r.1).toList k1.toList=true)∧(i≤t→Op.bytesLess (aT r.1).toList k1.toList=false)∧(t<j→Op.bytesLess k2.toList (bj r.1).toList=false)∧(j≤t→Op.bytesLess k2.toList (bj r.1).toList=true)
theorem ps {a b c:List UInt8} (h1:a=b∨Op.bytesLess a b=true) (h2:Op.bytesLess b c=true):Op.bytesLess a c=true:=by
 rcases h1 with rfl | h1
 · exact h2
 · exact cq _ _ _ h1 h2
theorem lZ (h:dv r.1 r.2=true):aR r.1=true∧1≤r.1.length∧r.1.length≤150:=by
 simp [dv] at h;exact ⟨h.2.2.1,by omega,by omega⟩
theorem Aw {B:List ag} (ha:bD B=true) (hok:∀r ∈ B,dv r.1 r.2=true) {s t:Nat} {p r:ag} (hs:B[s]?=some p) (ht:B[t]?=some r) (hst:s≤t) (k:ByteArray) (h:Op.bytesLess (aT r.1).toList k.toList=true):Op.bytesLess (aT p.1).toList k.toList=true:=by
 by_cases he:s=t
 · subst he;rw [hs] at ht;cases ht;exact h
 · have h1:=jC ha hok (t - s - 1) s hs (by rw [← ht];congr 1;omega);obtain ⟨hr,hl,_⟩:=lZ (hok r (List.mem_of_getElem? ht));have h2:=iA hr hl;refine cq _ _ _ h1 (ps ?_ h);rcases h2 with h2 | h2
   · exact .inl (by rw [h2])
   · exact .inr h2
theorem A9 {B:List ag} (ha:bD B=true) (hok:∀r ∈ B,dv r.1 r.2=true) {s t:Nat} {p r:ag} (hs:B[s]?=some p) (ht:B[t]?=some r) (hst:s≤t) (k:ByteArray) (h:Op.bytesLess k.toList (bj p.1).toList=true):Op.bytesLess k.toList (bj r.1).toList=true:=by
 by_cases he:s=t
 · subst he;rw [hs] at ht;cases ht;exact h
 · have h1:=jC ha hok (t - s - 1) s hs (by rw [← ht];congr 1;omega);obtain ⟨hr,hl,_⟩:=lZ (hok p (List.mem_of_getElem? hs));have h2:=iA hr hl;refine cq _ _ _ h (ps ?_ h1);rcases h2 with h2 | h2
   · exact .inl (by rw [h2])
   · exact .inr h2
theorem jL.le {B:List ag} (h:jL B k1 k2 i j) (hok:∀r ∈ B,dv r.1 r.2=true) (hk:k1=k2∨Op.bytesLess k1.toList k2.toList=true):i≤j:=by
 by_cases hij:i≤j
 · exact hij
 · exfalso
   have hj:j<B.length:=by have:=h.1;omega
   have hp:=List.getElem?_eq_getElem hj;obtain ⟨h1,_,_,h4⟩:=h.2.2 j _ hp;have h1:=h1 (by omega);have h4:=h4 (Nat.le_refl _);obtain ⟨hr,hl,_⟩:=lZ (hok _ (List.getElem_mem hj));have h2:=iA hr hl;have h5:Op.bytesLess (bj B[j].1).toList k1.toList=true:=ps (by rcases h2 with h2 | h2;exact .inl (by rw [h2]);exact .inr h2) h1;have h6:Op.bytesLess (bj B[j].1).toList k2.toList=true:=by
    rcases hk with rfl | hk
    · exact h5
    · exact cq _ _ _ h5 hk
   rw [fI _ _ h6] at h4;cases h4
def fc (a b:ByteArray):Bool:=Op.bytesLess a.toList b.toList || a.toList == b.toList
def dW (low high:ByteArray) (r:ag):Bool:=fc (bj r.1) high && fc low (aT r.1)
def fb (k:ByteArray) (B:List ag):ByteArray:=B.foldl (fun k r=>if Op.bytesLess (bj r.1).toList k.toList then bj r.1 else k) k
def mn (a b:ByteArray):Bool:=!Op.bytesLess a.toList b.toList && !(a.toList == b.toList)
def dc (k:ByteArray) (B:List ag):ByteArray:=B.foldl (fun k r=>if mn (aT r.1) k then aT r.1 else k) k
theorem qu (k:ByteArray) {B:List ag} {i:Nat} {r:ag} (h:B[i]?=some r):fb k (B.take (i+1))=(if Op.bytesLess (bj r.1).toList (fb k (B.take i)).toList then bj r.1 else fb k (B.take i)):=by
 rw [List.take_add_one,h];unfold fb;rw [List.foldl_append];rfl
theorem fq (k:ByteArray) {B:List ag} {i:Nat} {r:ag} (h:B[i]?=some r):dc k (B.take (i+1))=(if mn (aT r.1) (dc k (B.take i)) then aT r.1 else dc k (B.take i)):=by
 rw [List.take_add_one,h];unfold dc;rw [List.foldl_append];rfl
theorem gS {B:List ag} (h:B[i]?=some r) (p:ag→Bool):(B.take (i+1)).filter p=(B.take i).filter p++(if p r then [r] else []):=by
 rw [List.take_add_one,h,List.filter_append];cases hp:p r <;> simp [hp]
def bn (B:List ag):List (List ac):=B.map (·.1)
theorem te {B:List ag} (h:B[i]?=some r):bn (B.take (i+1))=bn (B.take i)++[r.1]:=by
 rw [List.take_add_one,h];simp [bn]
def gy (B:List ag):Bool:=B.all (fun r=>decide (r.1.length≤150))
theorem AA {B:List ag} (h:B[i]?=some r) (hr:150<r.1.length):gy B=false:=by
 unfold gy;rw [List.all_eq_false];exact ⟨r,List.mem_of_getElem? h,by simp;omega⟩
theorem zF {B:List ag} {n:Nat} (hl:B.length=n) (h:∀j r,j<n→B[j]?=some r→r.1.length≤150):gy B=true:=by
 unfold gy;rw [List.all_eq_true];intro r hr;obtain ⟨j,hj,rfl⟩:=List.getElem_of_mem hr;exact decide_eq_true (h j _ (by omega) (List.getElem?_eq_getElem hj))
theorem dt (a b:ByteArray):fc a b=!Op.bytesLess b.toList a.toList:=by
 unfold fc;by_cases h:a.toList=b.toList
 · rw [h,dG];simp
 · rcases jg _ _ h with h1 | h1
   · rw [h1,fI _ _ h1];rfl
   · rw [h1,fI _ _ h1];simp [h]
theorem rt (a b:ByteArray):mn a b=Op.bytesLess b.toList a.toList:=by
 have h:=dt a b;unfold fc at h;unfold mn;rw [← Bool.not_or,h,Bool.not_not]
theorem oz {B:List ag} (hij:i≤j):B=B.take i++((B.drop i).take (j - i)++B.drop j):=by
 have h2:(B.drop i).drop (j - i)=B.drop j:=by rw [List.drop_drop];congr 1;omega
 rw [← h2,List.take_append_drop,List.take_append_drop]
theorem mJ {B:List ag} (h:jL B k1 k2 i j) (hij:i≤j):B.filter (dW k1 k2)=(B.drop i).take (j - i)∧B.filter (fun r=>!dW k1 k2 r)=B.take i++B.drop j:=by
 have h1:∀r ∈ B.take i,dW k1 k2 r=false:=fun r hr=>by
  obtain ⟨t,ht,rfl⟩:=List.getElem_of_mem hr;rw [List.length_take] at ht;rw [List.getElem_take];have h2:=(h.2.2 t _ (List.getElem?_eq_getElem (show t<B.length by omega))).1 (by omega);unfold dW;rw [dt k1,h2];simp
 have h2:∀r ∈ (B.drop i).take (j - i),dW k1 k2 r=true:=fun r hr=>by
  obtain ⟨t,ht,rfl⟩:=List.getElem_of_mem hr;rw [List.length_take,List.length_drop] at ht;rw [List.getElem_take,List.getElem_drop];have h3:=h.2.2 (i+t) _ (List.getElem?_eq_getElem (show i+t<B.length by omega));unfold dW;rw [dt,dt,h3.2.1 (by omega),h3.2.2.1 (by omega)];rfl
 have h3:∀r ∈ B.drop j,dW k1 k2 r=false:=fun r hr=>by
  obtain ⟨t,ht,rfl⟩:=List.getElem_of_mem hr;rw [List.length_drop] at ht;rw [List.getElem_drop];have h3:=(h.2.2 (j+t) _ (List.getElem?_eq_getElem (show j+t<B.length by omega))).2.2.2 (by omega);unfold dW;rw [dt (bj _),h3];rfl
 constructor
 · conv=>lhs;rw [oz (B:=B) hij]
   rw [List.filter_append,List.filter_append,List.filter_eq_nil_iff.2 (fun r hr=>by rw [h1 r hr];simp),List.filter_eq_self.2 h2,List.filter_eq_nil_iff.2 (fun r hr=>by rw [h3 r hr];simp)];simp
 · conv=>lhs;rw [oz (B:=B) hij]
   rw [List.filter_append,List.filter_append,List.filter_eq_self.2 (fun r hr=>by rw [h1 r hr];rfl),List.filter_eq_nil_iff.2 (fun r hr=>by rw [h2 r hr];simp),List.filter_eq_self.2 (fun r hr=>by rw [h3 r hr];rfl)];simp
theorem eG (a:ByteArray):fc a a=true:=by rw [dt,dG];rfl
theorem cG {a b c:ByteArray} (h1:fc a b=true) (h2:fc b c=true):fc a c=true:=by
 unfold fc at h1 h2 ⊢;simp only [Bool.or_eq_true,beq_iff_eq] at h1 h2 ⊢;rcases h1 with h1 | h1
 · rcases h2 with h2 | h2
   · exact .inl (cq _ _ _ h1 h2)
   · rw [← h2];exact .inl h1
 · rw [h1];exact h2
theorem oK {a b:ByteArray} (h1:fc a b=true) (h2:fc b a=true):a=b:=by
 rw [dt] at h2;unfold fc at h1;simp only [Bool.or_eq_true,beq_iff_eq] at h1;rcases h1 with h1 | h1
 · rw [h1] at h2;cases h2
 · rw [ByteArray.toList_eq,ByteArray.toList_eq] at h1;exact ByteArray.ext (Array.toList_inj.1 h1)
theorem vq:∀(B:List ag) (k:ByteArray),fc (fb k B) k=true∧∀r ∈ B,fc (fb k B) (bj r.1)=true
 | [],k=>⟨eG k,fun r hr=>by cases hr⟩
 | r :: B,k=>by
  have h:∃k',fb k (r :: B)=fb k' B∧fc k' k=true∧fc k' (bj r.1)=true:=by
   refine ⟨if Op.bytesLess (bj r.1).toList k.toList then bj r.1 else k,rfl,?_⟩;cases hl:Op.bytesLess (bj r.1).toList k.toList with
   | true=>exact ⟨by simp only [if_true];unfold fc;rw [hl];rfl,by simp only [if_true];exact eG _⟩
   | false=>exact ⟨by simp only [Bool.false_eq_true,if_false];exact eG _,by simp only [Bool.false_eq_true,if_false];rw [dt,hl];rfl⟩
  obtain ⟨k',h1,h2,h3⟩:=h;obtain ⟨h4,h5⟩:=vq B k';rw [h1];refine ⟨cG h4 h2,fun x hx=>?_⟩;rcases List.mem_cons.1 hx with rfl | hx
  · exact cG h4 h3
  · exact h5 x hx
theorem s9:∀(B:List ag) (k:ByteArray),fb k B=k∨∃r ∈ B,fb k B=bj r.1
 | [],k=>.inl rfl
 | r :: B,k=>by
  have e:fb k (r :: B)=fb (if Op.bytesLess (bj r.1).toList k.toList then bj r.1 else k) B:=rfl
  rw [e]
  rcases s9 B (if Op.bytesLess (bj r.1).toList k.toList then bj r.1 else k) with h | ⟨x,hx,h⟩
  · rw [h]
    split
    · exact .inr ⟨r,by simp,rfl⟩
    · exact .inl rfl
  · exact .inr ⟨x,List.mem_cons_of_mem _ hx,h⟩
theorem tr:∀(B:List ag) (k:ByteArray),fc k (dc k B)=true∧∀r ∈ B,fc (aT r.1) (dc k B)=true
 | [],k=>⟨eG k,fun r hr=>by cases hr⟩
 | r :: B,k=>by
  have h:∃k',dc k (r :: B)=dc k' B∧fc k k'=true∧fc (aT r.1) k'=true:=by
   refine ⟨if mn (aT r.1) k then aT r.1 else k,rfl,?_⟩;rw [rt];cases hl:Op.bytesLess k.toList (aT r.1).toList with
   | true=>exact ⟨by simp only [if_true];unfold fc;rw [hl];rfl,by simp only [if_true];exact eG _⟩
   | false=>exact ⟨by simp only [Bool.false_eq_true,if_false];exact eG _,by simp only [Bool.false_eq_true,if_false];rw [dt,hl];rfl⟩
  obtain ⟨k',h1,h2,h3⟩:=h;obtain ⟨h4,h5⟩:=tr B k';rw [h1];refine ⟨cG h2 h4,fun x hx=>?_⟩;rcases List.mem_cons.1 hx with rfl | hx
  · exact cG h3 h4
  · exact h5 x hx
theorem qH:∀(B:List ag) (k:ByteArray),dc k B=k∨∃r ∈ B,dc k B=aT r.1
 | [],k=>.inl rfl
 | r :: B,k=>by
  have e:dc k (r :: B)=dc (if mn (aT r.1) k then aT r.1 else k) B:=rfl
  rw [e]
  rcases qH B (if mn (aT r.1) k then aT r.1 else k) with h | ⟨x,hx,h⟩
  · rw [h]
    split
    · exact .inr ⟨r,by simp,rfl⟩
    · exact .inl rfl
  · exact .inr ⟨x,List.mem_cons_of_mem _ hx,h⟩
structure aW (w:World) (R:Nat) (a:Option Addr) (len cap P:Nat):Prop where
 c0:w.cell? ⟨R,0,none⟩=some (.slice a len cap)
 c1:w.cell? ⟨R,1,none⟩=some (iT P)
 f1:w.frozen? ⟨R,1,none⟩=false
 few:len≤2000
 two:∀o,w.cell? ⟨R,o+2,none⟩=none
 bytes:len=0∨∃b off,a=some ⟨b,off,none⟩∧b≠R∧b<w.heap.size∧∀i,i<len→∃z:Nat,z≤255∧w.cell? ⟨b,off+i,none⟩=some (.int .u8 z)
theorem aW.lt {R:Nat} {a:Option Addr} {P:Nat} (h:aW w R a len cap P):R<w.heap.size:=World.block_lt_of_cell? w _ h.c0
theorem ae {a b c:World} {R:Option Nat} (h:a.grownBy b R) (k:b.grownBy c R):a.grownBy c R :=
 ⟨k.os.trans h.os,k.tape.trans h.tape,k.output.trans h.output,Nat.le_trans h.size k.size,fun i hi hn=>(k.block i (Nat.lt_of_lt_of_le hi h.size) hn).trans (h.block i hi hn)⟩
theorem ah {R:Nat} (hg:w.grownBy w' (some R)) {x:Addr} (hx:x.block<w.heap.size) (hn:x.block≠R):w'.cell? x=w.cell? x :=
 World.cell?_of_block (hg.block x.block hx (fun e=>hn (by cases e;rfl)))
theorem aW.below {R:Nat} {a:Option Addr} {P:Nat} (h:aW w R a len cap P) (hb:Bl w w'):aW w' R a len cap P where
 c0:=cell_later hb h.c0
 c1:=cell_later hb h.c1
 f1:=(hb.frozen (p:=⟨R,1,none⟩) h.lt).trans h.f1
 few:=h.few
 two:=fun o=>(World.cell?_of_block (a:=⟨R,o+2,none⟩) (hb.block R h.lt)).trans (h.two o)
 bytes:=by
  rcases h.bytes with h0 | ⟨b,off,ha,hb1,hb2,hc⟩
  · exact Or.inl h0
  · exact Or.inr ⟨b,off,ha,hb1,Nat.lt_of_lt_of_le hb2 hb.size,fun i hi=>by obtain ⟨z,hz,hcc⟩:=hc i hi;exact ⟨z,hz,cell_later hb hcc⟩⟩
theorem aW.next {R:Nat} {a:Option Addr} {P:Nat} (h:aW w R a len cap P):aW (w.setCell ⟨R,1,none⟩ (iT ((P:Int)+1))) R a len cap (P+1):=by
 refine ⟨?_,?_,?_,h.few,fun o=>?_,?_⟩
 · rw [World.cell?_setCell_other _ _ _ _ (by simp)];exact h.c0
 · exact World.cell?_setCell_same' _ _ _ (by rw [h.c1];rfl)
 · rw [World.frozen?_setCell];exact h.f1
 · rw [World.cell?_setCell_other _ _ _ _ (by simp)];exact h.two o
 · rcases h.bytes with h0 | ⟨b,off,ha,hb1,hb2,hc⟩
   · exact Or.inl h0
   · refine Or.inr ⟨b,off,ha,hb1,by simpa [World.setCell] using hb2,fun i hi=>?_⟩;obtain ⟨z,hz,hcc⟩:=hc i hi;exact ⟨z,hz,by rw [World.cell?_setCell_other _ _ _ _ (fun e=>hb1 (congrArg Addr.block e).symm)];exact hcc⟩
theorem iH (w:World) (R:Nat) (v:Value):w.grownBy (w.setCell ⟨R,1,none⟩ v) (some R) :=
 ⟨rfl,rfl,rfl,by simp [World.setCell],fun k _ hk=>Below.heap_setCell _ _ _ _ (fun e=>hk (by rw [e]))⟩
theorem aL {R:Option Nat} (h:Bl w w'):w.grownBy w' R:=⟨h.os,h.tape,h.output,h.size,fun k hk _=>h.block k hk⟩
def AW (n q:Int):Prop:=0≤q∧(1≤n→q<n)
theorem Ag (a b:Nat) (ha:a<4611686018427387904) (hb:b<4611686018427387904):bits .xor .i64 (a:Int) (b:Int)=((a ^^^ b:Nat):Int):=by
 have hx:a ^^^ b<2 ^ 62:=Nat.xor_lt_two_pow (by omega) (by omega);have h1:(BitVec.ofInt 64 (a:Int)).toNat=a:=by
  rw [BitVec.ofInt_natCast,BitVec.toNat_ofNat];exact Nat.mod_eq_of_lt (by omega)
 have h2:(BitVec.ofInt 64 (b:Int)).toNat=b:=by
  rw [BitVec.ofInt_natCast,BitVec.toNat_ofNat];exact Nat.mod_eq_of_lt (by omega)
 show IntKind.i64.wrap ((BitVec.ofInt 64 (a:Int) ^^^ BitVec.ofInt 64 (b:Int)).toNat:Int)=_
 rw [BitVec.toNat_xor,h1,h2,IntKind.wrap_i64];omega
theorem ip (n:Int) (h0:0≤n) (h1:n≤9223372036854775807):wrap64 n=n:=by
 unfold wrap64;omega
theorem yQ (z y P len:Nat) (n:Int) (hz:z≤255) (hy:y≤255) (hP:P<100000) (hn:1≤n) :
 AW n ((bits BinOp.xor IntKind.i64 (wrap64 (↑z*131+↑y*1117+↑P*29+wrap64 (wrap64 (↑P / ↑len)*53))) (wrap64 ((wrap64 (↑z*131+↑y*1117+↑P*29+wrap64 (wrap64 (↑P / ↑len)*53))).tdiv 64))).tmod n):=by
 have hq:((P:Int) / (len:Int))=((P / len:Nat):Int):=(Int.natCast_ediv P len).symm;have hle:P / len≤P:=Nat.div_le_self _ _;rw [hq];generalize P / len=Q at hle;rw [ip (Q:Int) (by omega) (by omega),ip ((Q:Int)*53) (by omega) (by omega),ip _ (by omega) (by omega)];have e:(↑z*131+↑y*1117+↑P*29+↑Q*53:Int)=((z*131+y*1117+P*29+Q*53:Nat):Int):=by omega
 rw [e];have hX:z*131+y*1117+P*29+Q*53<100000000:=by omega
 generalize z*131+y*1117+P*29+Q*53=X at hX;have e2:((X:Int).tdiv 64)=((X / 64:Nat):Int):=by
  rw [Int.tdiv_eq_ediv_of_nonneg (by omega)];omega
 rw [e2,ip _ (by omega) (by omega),Ag _ _ (by omega) (by omega)];generalize X ^^^ X / 64=Y;rw [Int.tmod_eq_emod_of_nonneg (by omega)];exact ⟨Int.emod_nonneg _ (by omega),fun _=>Int.emod_lt_of_pos _ (by omega)⟩
theorem aV {row:Option Nat} (hg:w.grownBy w' row) {x:Addr} (hx:x.block<w.heap.size) (hn:some x.block≠row):w'.frozen? x=w.frozen? x:=World.frozen?_of_block (hg.block x.block hx hn)
theorem oh {base e size k:Nat} {v:Value} {xs:List Value} (h:w.ownsRow base e size v k xs) (hne:¬v=nZ):∃g cap,v=sL g k cap:=by
 rcases h.2 with ⟨h',_⟩ | ⟨g,cap,_,h',_⟩
 · exact absurd h' hne
 · exact ⟨g,cap,h'⟩
theorem ax {P:Program} {ops:Array Oper} {o:Oper} {a:Act} {w:World} {K:Act→World→Prop} {Q:Exit→Act→World→Prop} {E:Prop}
 (hg:o.guard=none) (s x:Operand) (t:TypeId) (hop:o.op=Op.call { callee:=Callee.builtin Builtin.append,args:=#[s,x],argTypes:=#[t,t] })
 (base:Nat) (e:TypeId) (i:TypeInfo) (z:Value) (size bytes:Nat) (h1:P.underlying t=some (.slice e)) (h2:P.info? e=some i) (h3:i.zero=some z) (h4:i.size=size) (h5:i.bytes=bytes) (h6:z.cells.size=size) (h7:0<size)
 (v:Value) (n:Nat) (olds:List Value) (hs:a.eval s=v) (hown:w.ownsRow base e size v n olds)
 (ad:Addr) (m c:Nat) (news:List Value) (hx:a.eval x=.slice (some ad) m c) (hn:news.length=m*size) (hc:∀j u,news[j]?=some u→w.cell? (ad.add j)=some u) (h1c:∀u ∈ news,u.oneCell'=true)
 (b1:n+m≤maxLen) (b2:(n+m)*bytes≤140737488355328) (b3:base≤w.heap.size)
 (hK:∀v' w',w'.ownsRow base e size v' (n+m) (olds++news)→w.grownBy w' v.ownBlock→(v'=nZ ↔ v=nZ∧m=0)→K (a.put o.dst v') w') :
 if Region.wanted o (yielded ops a.tmps)=true then Oper.wp P o a w K Q else E:=by
 have hw:Region.wanted o (yielded ops a.tmps)=true:=by simp [Region.wanted,hg]
 rw [if_pos hw];obtain ⟨v',w',hrun,r1,r2,r3⟩:=run_append_own (P:=P) w base t o.type e i z size bytes h1 h2 h3 h4 h5 h6 h7 v n olds hown ad m c news hn hc h1c b1 b2 b3;unfold Oper.wp;simp [execOp,hop,resolve,invoke,builtin,hs,hx,hrun,Result.andThen];exact hK v' w' r1 r2 r3
end Go.Proofs.YtpobkmjicbobdaaGreat
