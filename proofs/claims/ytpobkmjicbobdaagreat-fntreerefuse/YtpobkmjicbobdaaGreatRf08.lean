/- Walks. -/
import Derived.Test.YtpobkmjicbobdaaGreatRf06
import Derived.Test.YtpobkmjicbobdaaGreatRf07
import Derived.Deep.RegionLaw
namespace Go.Proofs.YtpobkmjicbobdaaGreat
set_option maxRecDepth 100000
set_option maxHeartbeats 40000000
open Go.RowKit
variable {L X:List ac} {cap i j len:Nat} {k1 k2:ByteArray} {q:Int} {r:af} {w w':World}
def ou (x y:ac):Prop:=x.1=y.1→y.2.1<x.2.1
theorem jO (x y:ac):(!fi x y)=true ↔ ou x y:=by
 unfold fi ou;by_cases h:x.1=y.1
 · simp [h]
 · simp [h]
def Ov (A B:List ac):Prop:=∀x ∈ A,∀y ∈ B,ou x y
theorem tz {A B:List ac}:iI A B=true ↔ Ov A B:=by
 unfold iI Ov;simp only [List.all_eq_true,jO]
theorem vy {P:List (List ac)}:ij P=true ↔ P.Pairwise Ov:=by
 rw [List.pairwise_iff_getElem];unfold ij;simp only [List.all_eq_true,List.mem_range];constructor
 · intro h i j hi hj hij;have:=h i hi j hj;rw [decide_eq_true hij,mt (List.getElem?_eq_getElem hi) (List.getElem?_eq_getElem hj)] at this;exact tz.1 (by simpa using this)
 · intro h i hi j hj;by_cases hij:i<j
   · rw [decide_eq_true hij,mt (List.getElem?_eq_getElem hi) (List.getElem?_eq_getElem hj),tz.2 (h i j hi hj hij)];rfl
   · rw [decide_eq_false hij];rfl
def du (q:Int):List ac→Bool
 | []=>true
 | e :: L=>du q L && (decide (1≤e.2.1) && (decide (e.2.1≤q) && L.all (fun y=>!fi e y)))
theorem jr (q:Int) (L:List ac):du q L=true ↔ L.Pairwise ou∧∀e ∈ L,1≤e.2.1∧e.2.1≤q:=by
 induction L with
 | nil=>simp [du]
 | cons e L ih =>
  simp only [du,Bool.and_eq_true,ih,decide_eq_true_eq,List.all_eq_true,jO,List.pairwise_cons,List.mem_cons];constructor
  · rintro ⟨⟨h1,h2⟩,h3,h4,h5⟩;refine ⟨⟨h5,h1⟩,?_⟩;rintro x (rfl | hx)
    · exact ⟨h3,h4⟩
    · exact h2 x hx
  · rintro ⟨⟨h5,h1⟩,h2⟩;exact ⟨⟨h1,fun x hx=>h2 x (.inr hx)⟩,(h2 e (.inl rfl)).1,(h2 e (.inl rfl)).2,h5⟩
def mN:List ac→ByteArray→Int
 | [],_=>0
 | e :: L,k=>if e.1=k then e.2.1 else mN L k
theorem rG (e:ac) (L:List ac) (k:ByteArray):mN (e :: L) k=if e.1=k then e.2.1 else mN L k:=rfl
theorem tL {q:Int} (e:ac):∀L:List ac,du q L=true→(mN L e.1<e.2.1 ↔ (1≤e.2.1∧∀y ∈ L,ou e y))
 | [],_=>by simp [mN];omega
 | f :: L,h=>by
  have hn:=(jr q (f :: L)).1 h
  rw [List.pairwise_cons] at hn
  have ih:=tL e L (by simp only [du,Bool.and_eq_true] at h;exact h.1)
  rw [rG]
  by_cases hk:f.1=e.1
  · rw [if_pos hk]
    have hf:=(hn.2 f (List.mem_cons_self ..)).1
    constructor
    · intro h1
      refine ⟨by omega,?_⟩
      intro y hy
      rw [List.mem_cons] at hy
      rcases hy with rfl | hy
      · intro _;exact h1
      · intro e1
        have:=hn.1.1 y hy (hk.trans e1)
        omega
    · rintro ⟨_,h2⟩
      exact h2 f (List.mem_cons_self ..) hk.symm
  · rw [if_neg hk,ih]
    constructor
    · rintro ⟨h1,h2⟩
      refine ⟨h1,?_⟩
      intro y hy
      rw [List.mem_cons] at hy
      rcases hy with rfl | hy
      · intro e1;exact absurd e1.symm hk
      · exact h2 y hy
    · rintro ⟨h1,h2⟩
      exact ⟨h1,fun y hy=>h2 y (List.mem_cons_of_mem _ hy)⟩
theorem ur {e:ac} (h:du q L=true) (h1:mN L e.1<e.2.1) (h2:e.2.1≤q):du q (e :: L)=true:=by
 have:=(tL e L h).1 h1;simp only [du,h,Bool.true_and,Bool.and_eq_true,decide_eq_true_eq,List.all_eq_true,jO];exact ⟨this.1,h2,this.2⟩
theorem uq {e:ac} {A:List ac} (h:¬(mN L e.1<e.2.1∧e.2.1≤q)):du q (A++e :: L)=false:=by
 induction A with
 | nil =>
  rw [List.nil_append,Bool.eq_false_iff];intro h1;have hL:du q L=true:=by simp only [du,Bool.and_eq_true] at h1;exact h1.1
  have h3:=(jr q _).1 h1;rw [List.pairwise_cons] at h3;have h4:=h3.2 e (List.mem_cons_self ..);exact h ⟨(tL e L hL).2 ⟨h4.1,h3.1.1⟩,h4.2⟩
 | cons a A ih =>
  rw [List.cons_append,du,ih];rfl
theorem ix (h:aJ L=true):L.Pairwise ou:=by
 rw [List.pairwise_iff_getElem];intro i j hi hj hij hk;rcases eW (f7 h hij (List.getElem?_eq_getElem hi) (List.getElem?_eq_getElem hj)) with h1 | h1
 · rw [hk,dM] at h1;cases h1
 · exact h1.2
theorem jm (h:aJ L=true):∀e ∈ L,1≤e.2.1:=by
 intro e he;obtain ⟨j,hj,rfl⟩:=List.getElem_of_mem he;exact (tc (fq h (List.getElem?_eq_getElem hj))).1
theorem l6 (h:aJ L=true) {e:ac} (he:e ∈ L):bc L=e.1∨Op.bytesLess (bc L).toList e.1.toList=true:=by
 obtain ⟨j,hj,rfl⟩:=List.getElem_of_mem he;obtain ⟨f,hf,hl⟩:=lh (L:=L) (by omega);rw [hl];by_cases h0:j=0
 · subst h0;rw [List.getElem?_eq_getElem hj] at hf;cases hf;exact .inl rfl
 · rcases eW (f7 h (Nat.pos_of_ne_zero h0) hf (List.getElem?_eq_getElem hj)) with h1 | h1
   · exact .inr (by rw [ByteArray.toList_eq,ByteArray.toList_eq];exact h1)
   · exact .inl h1.1
theorem om (h:aJ L=true) {e:ac} (he:e ∈ L):e.1=aQ L∨Op.bytesLess e.1.toList (aQ L).toList=true:=by
 obtain ⟨j,hj,rfl⟩:=List.getElem_of_mem he;obtain ⟨f,hf,hl⟩:=ie (L:=L) (by omega);rw [hl];by_cases h0:j=L.length - 1
 · subst h0;rw [List.getElem?_eq_getElem hj] at hf;cases hf;exact .inl rfl
 · rcases eW (f7 h (by omega:j<L.length - 1) (List.getElem?_eq_getElem hj) hf) with h1 | h1
   · exact .inr (by rw [ByteArray.toList_eq,ByteArray.toList_eq];exact h1)
   · exact .inl h1.1
theorem iy (h:aJ L=true) (hn:1≤L.length):bc L=aQ L∨Op.bytesLess (bc L).toList (aQ L).toList=true:=by
 obtain ⟨f,hf,hl⟩:=ie hn;rw [hl];exact l6 h (List.mem_of_getElem? hf)
theorem tw {B:List af} (h:bn B=true) {i:Nat} {p r:af} (hp:B[i]?=some p) (hr:B[i+1]?=some r):jZ p.1 r.1=true:=by
 unfold bn at h;have:=(List.all_eq_true.1 h) (i+1) (List.mem_range.2 (List.getElem?_eq_some_iff.1 hr).1);unfold jD gM at this;simp only [hr,hp] at this;exact this
theorem jw {B:List af} (h:bn B=true) (hok:∀r ∈ B,dr r.1 r.2=true):∀(d i:Nat) {p r:af},B[i]?=some p→B[i+1+d]?=some r→Op.bytesLess (aQ p.1).toList (bc r.1).toList=true
 | 0,i,p,r,hp,hr=>tw h hp hr
 | d+1,i,p,r,hp,hr=>by
  obtain ⟨hl,_⟩:=List.getElem?_eq_some_iff.1 hr
  have hm:B[i+1+d]?=some (B[i+1+d]'(by omega)):=List.getElem?_eq_getElem _
  have h1:=jw h hok d i hp hm
  have h2:jZ (B[i+1+d]'(by omega)).1 r.1=true:=tw h hm hr
  have h3:=bC (hok _ (List.mem_of_getElem? hm))
  unfold jZ at h2
  rcases iy h3.2.2.1 h3.1 with e | e
  · rw [e] at h1;exact b9 _ _ _ h1 h2
  · exact b9 _ _ _ (b9 _ _ _ h1 e) h2
theorem ls {B:List af} (h:bn B=true) (hok:∀r ∈ B,dr r.1 r.2=true):(B.reverse.map (·.1)).Pairwise Ov:=by
 rw [List.pairwise_map,List.pairwise_reverse,List.pairwise_iff_getElem];intro i j hi hj hij x hx y hy hk;exfalso
 have h1:=jw h hok (j - i - 1) i (List.getElem?_eq_getElem hi) (by rw [show i+1+(j - i - 1)=j by omega];exact List.getElem?_eq_getElem hj);have hi3:=(bC (hok _ (List.getElem_mem hi))).2.2.1;have hj3:=(bC (hok _ (List.getElem_mem hj))).2.2.1;have h2:Op.bytesLess y.1.toList (bc B[j].1).toList=true:=by
  rcases om hi3 hy with e | e
  · rw [e];exact h1
  · exact b9 _ _ _ e h1
 have h3:Op.bytesLess y.1.toList x.1.toList=true:=by
  rcases l6 hj3 hx with e | e
  · rw [← e];exact h2
  · exact b9 _ _ _ h2 e
 rw [hk,dM] at h3;cases h3
def dw (M:List ac) (A B C:List af):List (List ac):=M :: (A.reverse.map (·.1)++(B.reverse.map (·.1)++C.reverse.map (·.1)))
theorem fD {B:List af}:Ov X (bw B) ↔ ∀b ∈ B.reverse.map (·.1),Ov X b:=by
 unfold Ov bw;simp only [List.mem_flatMap,List.mem_map,List.mem_reverse];constructor
 · rintro h b ⟨r,hr,rfl⟩ x hx y hy;exact h x hx y ⟨r,hr,hy⟩
 · rintro h x hx y ⟨r,hr,hy⟩;exact h r.1 ⟨r,hr,rfl⟩ x hx y hy
theorem vi {B:List af}:Ov (bw B) X ↔ ∀b ∈ B.reverse.map (·.1),Ov b X:=by
 unfold Ov bw;simp only [List.mem_flatMap,List.mem_map,List.mem_reverse];constructor
 · rintro h b ⟨r,hr,rfl⟩ x hx y hy;exact h x ⟨r,hr,hx⟩ y hy
 · rintro h x ⟨r,hr,hx⟩ y hy;exact h r.1 ⟨r,hr,rfl⟩ x hx y hy
theorem mF {M:List ac} {A B C:List af} (hB:(B.reverse.map (·.1)).Pairwise Ov) (hC:(C.reverse.map (·.1)).Pairwise Ov):(eO M [A,B,C]).Pairwise Ov ↔ (dw M A B C).Pairwise Ov:=by
 unfold eO dw;simp only [List.headD_cons,List.drop_succ_cons,List.drop_zero,List.map_cons,List.map_nil,List.cons_append,List.pairwise_cons,List.pairwise_append,List.mem_append,List.mem_cons,List.not_mem_nil,or_false,List.Pairwise.nil,and_true,false_implies,implies_true];constructor
 · rintro ⟨h1,h2,h3,h4⟩;have hbc:=h3 _ rfl;refine ⟨?_,h2,⟨hB,hC,?_⟩,?_⟩
   · rintro a (h | h | h)
     · exact h1 a (.inl h)
     · exact fD.1 (h1 _ (.inr (.inl rfl))) a h
     · exact fD.1 (h1 _ (.inr (.inr rfl))) a h
   · intro b hb c hc;exact fD.1 (vi.1 hbc b hb) c hc
   · rintro a ha b (hb | hb)
     · exact fD.1 (h4 a ha _ (.inl rfl)) b hb
     · exact fD.1 (h4 a ha _ (.inr rfl)) b hb
 · rintro ⟨h1,h2,⟨_,_,h3⟩,h4⟩;refine ⟨?_,h2,?_,?_⟩
   · rintro a (h | h | h)
     · exact h1 a (.inl h)
     · rw [h];exact fD.2 (fun b hb=>h1 b (.inr (.inl hb)))
     · rw [h];exact fD.2 (fun b hb=>h1 b (.inr (.inr hb)))
   · intro c hc;rw [hc];exact vi.2 (fun b hb=>fD.2 (fun c hc=>h3 b hb c hc))
   · rintro a ha b (hb | hb)
     · rw [hb];exact fD.2 (fun c hc=>h4 a ha c (.inl hc))
     · rw [hb];exact fD.2 (fun c hc=>h4 a ha c (.inr hc))
theorem cY {B:List af} {most:Int} {ap:Bool}:dq B most ap q=true ↔ (B.length:Int)≤most∧eG B=false∧(∀r ∈ B,bJ r.1 q=true)∧(ap=true→bn B=true):=by
 unfold dq eG bn;simp only [Bool.and_eq_true,decide_eq_true_eq,List.all_eq_true,List.mem_range];constructor
 · rintro ⟨h1,h2⟩;refine ⟨h1,?_,?_,?_⟩
   · rw [List.any_eq_false];intro r hr;obtain ⟨j,hj,rfl⟩:=List.getElem_of_mem hr;have:=h2 j hj;rw [dJ (List.getElem?_eq_getElem hj),Bool.and_eq_true] at this;simp [this.1]
   · intro r hr;obtain ⟨j,hj,rfl⟩:=List.getElem_of_mem hr;have:=h2 j hj;rw [dJ (List.getElem?_eq_getElem hj),Bool.and_eq_true,Bool.and_eq_true] at this;exact this.2.1
   · intro hap j hj;have:=h2 j hj;rw [dJ (List.getElem?_eq_getElem hj),Bool.and_eq_true,Bool.and_eq_true,hap] at this;unfold jD;rw [List.getElem?_eq_getElem hj];simpa using this.2.2
 · rintro ⟨h1,h2,h3,h4⟩;refine ⟨h1,fun j hj=>?_⟩;rw [List.any_eq_false] at h2;have e1:=h2 B[j] (List.getElem_mem hj);have e2:=h3 B[j] (List.getElem_mem hj);rw [dJ (List.getElem?_eq_getElem hj),e2];have e1':dr B[j].1 B[j].2=true:=by simpa using e1
   rw [e1'];cases ap with
   | false=>rfl
   | true =>
    have:=h4 rfl j hj;unfold jD at this;rw [List.getElem?_eq_getElem hj] at this;simpa using this
theorem cZ {B:List af} (h:eG B=false):∀r ∈ B,dr r.1 r.2=true:=by
 unfold eG at h;rw [List.any_eq_false] at h;intro r hr;simpa using h r hr
theorem lN (q:Int) (M:List ac) (A B C:List af) (S:List Int) :
 aZ q M [A,B,C] S=true ↔ 0≤q∧q≤100000∧b7 S q=true∧M.length≤60∧aJ M=true∧bj A B C=true∧du q (dw M A B C).flatten=true:=by
 have hI:bj A B C=true ↔ ((A.length:Int)≤4∧eG A=false)∧((B.length:Int)≤8∧eG B=false∧bn B=true)∧((C.length:Int)≤8∧eG C=false∧bn C=true):=by
  unfold bj tF pC;simp only [Bool.and_eq_true,decide_eq_true_eq,Bool.not_eq_true']
 have hT:aZ q M [A,B,C] S=true ↔ 0≤q∧q≤100000∧M.length≤60∧aJ M=true∧bJ M q=true∧b7 S q=true∧(dq A 4 false q=true∧dq B 8 true q=true∧dq C 8 true q=true)∧ij (eO M [A,B,C])=true:=by
  unfold aZ eC;simp only [Bool.and_eq_true,decide_eq_true_eq,List.length_cons,List.length_nil,Nat.reduceAdd,true_and]
 rw [hT,hI,cY,cY,cY,jr,vy,List.pairwise_flatten];have hmem:∀{Z:List af} {l:List ac},l ∈ Z.reverse.map (·.1)→∃r ∈ Z,r.1=l:=by
  intro Z l hl;rw [List.mem_map] at hl;obtain ⟨r,hr,rfl⟩:=hl;exact ⟨r,List.mem_reverse.1 hr,rfl⟩
 have hwi:∀{L:List ac},bJ L q=true ↔ ∀e ∈ L,e.2.1≤q:=by
  intro L;unfold bJ;simp only [List.all_eq_true,decide_eq_true_eq]
 have hin:∀{l:List ac},l ∈ dw M A B C ↔ l=M∨(∃r ∈ A,r.1=l)∨(∃r ∈ B,r.1=l)∨(∃r ∈ C,r.1=l):=by
  intro l;unfold dw;simp only [List.mem_cons,List.mem_append,List.mem_map,List.mem_reverse]
 constructor
 · rintro ⟨h1,h2,h3,h4,h5,h6,⟨⟨a1,a2,a3,_⟩,⟨b1,b2,b3,b4⟩,⟨c1,c2,c3,c4⟩⟩,h8⟩;have hB:=ls (b4 rfl) (cZ b2);have hC:=ls (c4 rfl) (cZ c2);refine ⟨h1,h2,h6,h3,h4,⟨⟨a1,a2⟩,⟨b1,b2,b4 rfl⟩,⟨c1,c2,c4 rfl⟩⟩,⟨?_,(mF hB hC).1 h8⟩,?_⟩
   · intro l hl;rcases hin.1 hl with rfl | ⟨r,hr,rfl⟩ | ⟨r,hr,rfl⟩ | ⟨r,hr,rfl⟩
     · exact ix h4
     · exact ix (bC (cZ a2 r hr)).2.2.1
     · exact ix (bC (cZ b2 r hr)).2.2.1
     · exact ix (bC (cZ c2 r hr)).2.2.1
   · intro e he;obtain ⟨l,hl,hx⟩:=List.mem_flatten.1 he;clear he;have he:=hx;rcases hin.1 hl with rfl | ⟨r,hr,rfl⟩ | ⟨r,hr,rfl⟩ | ⟨r,hr,rfl⟩
     · exact ⟨jm h4 e he,hwi.1 h5 e he⟩
     · exact ⟨jm (bC (cZ a2 r hr)).2.2.1 e he,hwi.1 (a3 r hr) e he⟩
     · exact ⟨jm (bC (cZ b2 r hr)).2.2.1 e he,hwi.1 (b3 r hr) e he⟩
     · exact ⟨jm (bC (cZ c2 r hr)).2.2.1 e he,hwi.1 (c3 r hr) e he⟩
 · rintro ⟨h1,h2,h6,h3,h4,⟨⟨a1,a2⟩,⟨b1,b2,b4⟩,⟨c1,c2,c4⟩⟩,⟨_,h8⟩,h9⟩;have hB:=ls b4 (cZ b2);have hC:=ls c4 (cZ c2);have hw:∀l ∈ dw M A B C,bJ l q=true:=fun l hl=>hwi.2 (fun e he=>(h9 e (List.mem_flatten.2 ⟨l,hl,he⟩)).2)
   exact ⟨h1,h2,h3,h4,hw M (hin.2 (.inl rfl)),h6,⟨⟨a1,a2,fun r hr=>hw _ (hin.2 (.inr (.inl ⟨r,hr,rfl⟩))),fun e=>by cases e⟩,⟨b1,b2,fun r hr=>hw _ (hin.2 (.inr (.inr (.inl ⟨r,hr,rfl⟩)))),fun _=>b4⟩,⟨c1,c2,fun r hr=>hw _ (hin.2 (.inr (.inr (.inr ⟨r,hr,rfl⟩)))),fun _=>c4⟩⟩,(mF hB hC).2 h8⟩
def jI (B:List af) (k1 k2:ByteArray) (i j:Nat):Prop :=
 i≤B.length∧j≤B.length∧∀t r,B[t]?=some r→(t<i→Op.bytesLess (aQ r.1).toList k1.toList=true)∧(i≤t→Op.bytesLess (aQ r.1).toList k1.toList=false)∧(t<j→Op.bytesLess k2.toList (bc r.1).toList=false)∧(j≤t→Op.bytesLess k2.toList (bc r.1).toList=true)
theorem pm {a b c:List UInt8} (h1:a=b∨Op.bytesLess a b=true) (h2:Op.bytesLess b c=true):Op.bytesLess a c=true:=by
 rcases h1 with rfl | h1
 · exact h2
 · exact b9 _ _ _ h1 h2
theorem lW (h:dr r.1 r.2=true):aJ r.1=true∧1≤r.1.length∧r.1.length≤150:=by
 simp [dr] at h;exact ⟨h.2.2.1,by omega,by omega⟩
theorem Am {B:List af} (ha:bn B=true) (hok:∀r ∈ B,dr r.1 r.2=true) {s t:Nat} {p r:af} (hs:B[s]?=some p) (ht:B[t]?=some r) (hst:s≤t) (k:ByteArray) (h:Op.bytesLess (aQ r.1).toList k.toList=true):Op.bytesLess (aQ p.1).toList k.toList=true:=by
 by_cases he:s=t
 · subst he;rw [hs] at ht;cases ht;exact h
 · have h1:=jw ha hok (t - s - 1) s hs (by rw [← ht];congr 1;omega);obtain ⟨hr,hl,_⟩:=lW (hok r (List.mem_of_getElem? ht));have h2:=iy hr hl;refine b9 _ _ _ h1 (pm ?_ h);rcases h2 with h2 | h2
   · exact .inl (by rw [h2])
   · exact .inr h2
theorem AS {B:List af} (ha:bn B=true) (hok:∀r ∈ B,dr r.1 r.2=true) {s t:Nat} {p r:af} (hs:B[s]?=some p) (ht:B[t]?=some r) (hst:s≤t) (k:ByteArray) (h:Op.bytesLess k.toList (bc p.1).toList=true):Op.bytesLess k.toList (bc r.1).toList=true:=by
 by_cases he:s=t
 · subst he;rw [hs] at ht;cases ht;exact h
 · have h1:=jw ha hok (t - s - 1) s hs (by rw [← ht];congr 1;omega);obtain ⟨hr,hl,_⟩:=lW (hok p (List.mem_of_getElem? hs));have h2:=iy hr hl;refine b9 _ _ _ h (pm ?_ h1);rcases h2 with h2 | h2
   · exact .inl (by rw [h2])
   · exact .inr h2
theorem jI.le {B:List af} (h:jI B k1 k2 i j) (hok:∀r ∈ B,dr r.1 r.2=true) (hk:k1=k2∨Op.bytesLess k1.toList k2.toList=true):i≤j:=by
 by_cases hij:i≤j
 · exact hij
 · exfalso
   have hj:j<B.length:=by have:=h.1;omega
   have hp:=List.getElem?_eq_getElem hj;obtain ⟨h1,_,_,h4⟩:=h.2.2 j _ hp;have h1:=h1 (by omega);have h4:=h4 (Nat.le_refl _);obtain ⟨hr,hl,_⟩:=lW (hok _ (List.getElem_mem hj));have h2:=iy hr hl;have h5:Op.bytesLess (bc B[j].1).toList k1.toList=true:=pm (by rcases h2 with h2 | h2;exact .inl (by rw [h2]);exact .inr h2) h1;have h6:Op.bytesLess (bc B[j].1).toList k2.toList=true:=by
    rcases hk with rfl | hk
    · exact h5
    · exact b9 _ _ _ h5 hk
   rw [fI _ _ h6] at h4;cases h4
def fb (a b:ByteArray):Bool:=Op.bytesLess a.toList b.toList || a.toList == b.toList
def ec (low high:ByteArray) (r:af):Bool:=fb (bc r.1) high && fb low (aQ r.1)
def fa (k:ByteArray) (B:List af):ByteArray:=B.foldl (fun k r=>if Op.bytesLess (bc r.1).toList k.toList then bc r.1 else k) k
def mn (a b:ByteArray):Bool:=!Op.bytesLess a.toList b.toList && !(a.toList == b.toList)
def de (k:ByteArray) (B:List af):ByteArray:=B.foldl (fun k r=>if mn (aQ r.1) k then aQ r.1 else k) k
theorem qm (k:ByteArray) {B:List af} {i:Nat} {r:af} (h:B[i]?=some r):fa k (B.take (i+1))=(if Op.bytesLess (bc r.1).toList (fa k (B.take i)).toList then bc r.1 else fa k (B.take i)):=by
 rw [List.take_add_one,h];unfold fa;rw [List.foldl_append];rfl
theorem ft (k:ByteArray) {B:List af} {i:Nat} {r:af} (h:B[i]?=some r):de k (B.take (i+1))=(if mn (aQ r.1) (de k (B.take i)) then aQ r.1 else de k (B.take i)):=by
 rw [List.take_add_one,h];unfold de;rw [List.foldl_append];rfl
theorem gL {B:List af} (h:B[i]?=some r) (p:af→Bool):(B.take (i+1)).filter p=(B.take i).filter p++(if p r then [r] else []):=by
 rw [List.take_add_one,h,List.filter_append];cases hp:p r <;> simp [hp]
def bh (B:List af):List (List ac):=B.map (·.1)
theorem sS {B:List af} (h:B[i]?=some r):bh (B.take (i+1))=bh (B.take i)++[r.1]:=by
 rw [List.take_add_one,h];simp [bh]
def gm (B:List af):Bool:=B.all (fun r=>decide (r.1.length≤150))
theorem Aq {B:List af} (h:B[i]?=some r) (hr:150<r.1.length):gm B=false:=by
 unfold gm;rw [List.all_eq_false];exact ⟨r,List.mem_of_getElem? h,by simp;omega⟩
theorem zt {B:List af} {n:Nat} (hl:B.length=n) (h:∀j r,j<n→B[j]?=some r→r.1.length≤150):gm B=true:=by
 unfold gm;rw [List.all_eq_true];intro r hr;obtain ⟨j,hj,rfl⟩:=List.getElem_of_mem hr;exact decide_eq_true (h j _ (by omega) (List.getElem?_eq_getElem hj))
theorem dx (a b:ByteArray):fb a b=!Op.bytesLess b.toList a.toList:=by
 unfold fb;by_cases h:a.toList=b.toList
 · rw [h,dM];simp
 · rcases jc _ _ h with h1 | h1
   · rw [h1,fI _ _ h1];rfl
   · rw [h1,fI _ _ h1];simp [h]
theorem rc (a b:ByteArray):mn a b=Op.bytesLess b.toList a.toList:=by
 have h:=dx a b;unfold fb at h;unfold mn;rw [← Bool.not_or,h,Bool.not_not]
theorem oz {B:List af} (hij:i≤j):B=B.take i++((B.drop i).take (j - i)++B.drop j):=by
 have h2:(B.drop i).drop (j - i)=B.drop j:=by rw [List.drop_drop];congr 1;omega
 rw [← h2,List.take_append_drop,List.take_append_drop]
theorem mI {B:List af} (h:jI B k1 k2 i j) (hij:i≤j):B.filter (ec k1 k2)=(B.drop i).take (j - i)∧B.filter (fun r=>!ec k1 k2 r)=B.take i++B.drop j:=by
 have h1:∀r ∈ B.take i,ec k1 k2 r=false:=fun r hr=>by
  obtain ⟨t,ht,rfl⟩:=List.getElem_of_mem hr;rw [List.length_take] at ht;rw [List.getElem_take];have h2:=(h.2.2 t _ (List.getElem?_eq_getElem (show t<B.length by omega))).1 (by omega);unfold ec;rw [dx k1,h2];simp
 have h2:∀r ∈ (B.drop i).take (j - i),ec k1 k2 r=true:=fun r hr=>by
  obtain ⟨t,ht,rfl⟩:=List.getElem_of_mem hr;rw [List.length_take,List.length_drop] at ht;rw [List.getElem_take,List.getElem_drop];have h3:=h.2.2 (i+t) _ (List.getElem?_eq_getElem (show i+t<B.length by omega));unfold ec;rw [dx,dx,h3.2.1 (by omega),h3.2.2.1 (by omega)];rfl
 have h3:∀r ∈ B.drop j,ec k1 k2 r=false:=fun r hr=>by
  obtain ⟨t,ht,rfl⟩:=List.getElem_of_mem hr;rw [List.length_drop] at ht;rw [List.getElem_drop];have h3:=(h.2.2 (j+t) _ (List.getElem?_eq_getElem (show j+t<B.length by omega))).2.2.2 (by omega);unfold ec;rw [dx (bc _),h3];rfl
 constructor
 · conv=>lhs;rw [oz (B:=B) hij]
   rw [List.filter_append,List.filter_append,List.filter_eq_nil_iff.2 (fun r hr=>by rw [h1 r hr];simp),List.filter_eq_self.2 h2,List.filter_eq_nil_iff.2 (fun r hr=>by rw [h3 r hr];simp)];simp
 · conv=>lhs;rw [oz (B:=B) hij]
   rw [List.filter_append,List.filter_append,List.filter_eq_self.2 (fun r hr=>by rw [h1 r hr];rfl),List.filter_eq_nil_iff.2 (fun r hr=>by rw [h2 r hr];simp),List.filter_eq_self.2 (fun r hr=>by rw [h3 r hr];rfl)];simp
theorem eK (a:ByteArray):fb a a=true:=by rw [dx,dM];rfl
theorem cy {a b c:ByteArray} (h1:fb a b=true) (h2:fb b c=true):fb a c=true:=by
 unfold fb at h1 h2 ⊢;simp only [Bool.or_eq_true,beq_iff_eq] at h1 h2 ⊢;rcases h1 with h1 | h1
 · rcases h2 with h2 | h2
   · exact .inl (b9 _ _ _ h1 h2)
   · rw [← h2];exact .inl h1
 · rw [h1];exact h2
theorem oJ {a b:ByteArray} (h1:fb a b=true) (h2:fb b a=true):a=b:=by
 rw [dx] at h2;unfold fb at h1;simp only [Bool.or_eq_true,beq_iff_eq] at h1;rcases h1 with h1 | h1
 · rw [h1] at h2;cases h2
 · rw [ByteArray.toList_eq,ByteArray.toList_eq] at h1;exact ByteArray.ext (Array.toList_inj.1 h1)
theorem vg:∀(B:List af) (k:ByteArray),fb (fa k B) k=true∧∀r ∈ B,fb (fa k B) (bc r.1)=true
 | [],k=>⟨eK k,fun r hr=>by cases hr⟩
 | r :: B,k=>by
  have h:∃k',fa k (r :: B)=fa k' B∧fb k' k=true∧fb k' (bc r.1)=true:=by
   refine ⟨if Op.bytesLess (bc r.1).toList k.toList then bc r.1 else k,rfl,?_⟩;cases hl:Op.bytesLess (bc r.1).toList k.toList with
   | true=>exact ⟨by simp only [if_true];unfold fb;rw [hl];rfl,by simp only [if_true];exact eK _⟩
   | false=>exact ⟨by simp only [Bool.false_eq_true,if_false];exact eK _,by simp only [Bool.false_eq_true,if_false];rw [dx,hl];rfl⟩
  obtain ⟨k',h1,h2,h3⟩:=h;obtain ⟨h4,h5⟩:=vg B k';rw [h1];refine ⟨cy h4 h2,fun x hx=>?_⟩;rcases List.mem_cons.1 hx with rfl | hx
  · exact cy h4 h3
  · exact h5 x hx
theorem sP:∀(B:List af) (k:ByteArray),fa k B=k∨∃r ∈ B,fa k B=bc r.1
 | [],k=>.inl rfl
 | r :: B,k=>by
  have e:fa k (r :: B)=fa (if Op.bytesLess (bc r.1).toList k.toList then bc r.1 else k) B:=rfl
  rw [e]
  rcases sP B (if Op.bytesLess (bc r.1).toList k.toList then bc r.1 else k) with h | ⟨x,hx,h⟩
  · rw [h]
    split
    · exact .inr ⟨r,by simp,rfl⟩
    · exact .inl rfl
  · exact .inr ⟨x,List.mem_cons_of_mem _ hx,h⟩
theorem s6:∀(B:List af) (k:ByteArray),fb k (de k B)=true∧∀r ∈ B,fb (aQ r.1) (de k B)=true
 | [],k=>⟨eK k,fun r hr=>by cases hr⟩
 | r :: B,k=>by
  have h:∃k',de k (r :: B)=de k' B∧fb k k'=true∧fb (aQ r.1) k'=true:=by
   refine ⟨if mn (aQ r.1) k then aQ r.1 else k,rfl,?_⟩;rw [rc];cases hl:Op.bytesLess k.toList (aQ r.1).toList with
   | true=>exact ⟨by simp only [if_true];unfold fb;rw [hl];rfl,by simp only [if_true];exact eK _⟩
   | false=>exact ⟨by simp only [Bool.false_eq_true,if_false];exact eK _,by simp only [Bool.false_eq_true,if_false];rw [dx,hl];rfl⟩
  obtain ⟨k',h1,h2,h3⟩:=h;obtain ⟨h4,h5⟩:=s6 B k';rw [h1];refine ⟨cy h2 h4,fun x hx=>?_⟩;rcases List.mem_cons.1 hx with rfl | hx
  · exact cy h3 h4
  · exact h5 x hx
theorem qx:∀(B:List af) (k:ByteArray),de k B=k∨∃r ∈ B,de k B=aQ r.1
 | [],k=>.inl rfl
 | r :: B,k=>by
  have e:de k (r :: B)=de (if mn (aQ r.1) k then aQ r.1 else k) B:=rfl
  rw [e]
  rcases qx B (if mn (aQ r.1) k then aQ r.1 else k) with h | ⟨x,hx,h⟩
  · rw [h]
    split
    · exact .inr ⟨r,by simp,rfl⟩
    · exact .inl rfl
  · exact .inr ⟨x,List.mem_cons_of_mem _ hx,h⟩
structure aU (w:World) (R:Nat) (a:Option Addr) (len cap P:Nat):Prop where
 c0:w.cell? ⟨R,0,none⟩=some (.slice a len cap)
 c1:w.cell? ⟨R,1,none⟩=some (iT P)
 f1:w.frozen? ⟨R,1,none⟩=false
 few:len≤2000
 two:∀o,w.cell? ⟨R,o+2,none⟩=none
 bytes:len=0∨∃b off,a=some ⟨b,off,none⟩∧b≠R∧b<w.heap.size∧∀i,i<len→∃z:Nat,z≤255∧w.cell? ⟨b,off+i,none⟩=some (.int .u8 z)
theorem aU.lt {R:Nat} {a:Option Addr} {P:Nat} (h:aU w R a len cap P):R<w.heap.size:=World.block_lt_of_cell? w _ h.c0
theorem ae {a b c:World} {R:Option Nat} (h:a.grownBy b R) (k:b.grownBy c R):a.grownBy c R :=
 ⟨k.os.trans h.os,k.tape.trans h.tape,k.output.trans h.output,Nat.le_trans h.size k.size,fun i hi hn=>(k.block i (Nat.lt_of_lt_of_le hi h.size) hn).trans (h.block i hi hn)⟩
theorem ag {R:Nat} (hg:w.grownBy w' (some R)) {x:Addr} (hx:x.block<w.heap.size) (hn:x.block≠R):w'.cell? x=w.cell? x :=
 World.cell?_of_block (hg.block x.block hx (fun e=>hn (by cases e;rfl)))
theorem aU.below {R:Nat} {a:Option Addr} {P:Nat} (h:aU w R a len cap P) (hb:Bl w w'):aU w' R a len cap P where
 c0:=cell_later hb h.c0
 c1:=cell_later hb h.c1
 f1:=(hb.frozen (p:=⟨R,1,none⟩) h.lt).trans h.f1
 few:=h.few
 two:=fun o=>(World.cell?_of_block (a:=⟨R,o+2,none⟩) (hb.block R h.lt)).trans (h.two o)
 bytes:=by
  rcases h.bytes with h0 | ⟨b,off,ha,hb1,hb2,hc⟩
  · exact Or.inl h0
  · exact Or.inr ⟨b,off,ha,hb1,Nat.lt_of_lt_of_le hb2 hb.size,fun i hi=>by obtain ⟨z,hz,hcc⟩:=hc i hi;exact ⟨z,hz,cell_later hb hcc⟩⟩
theorem aU.next {R:Nat} {a:Option Addr} {P:Nat} (h:aU w R a len cap P):aU (w.setCell ⟨R,1,none⟩ (iT ((P:Int)+1))) R a len cap (P+1):=by
 refine ⟨?_,?_,?_,h.few,fun o=>?_,?_⟩
 · rw [World.cell?_setCell_other _ _ _ _ (by simp)];exact h.c0
 · exact World.cell?_setCell_same' _ _ _ (by rw [h.c1];rfl)
 · rw [World.frozen?_setCell];exact h.f1
 · rw [World.cell?_setCell_other _ _ _ _ (by simp)];exact h.two o
 · rcases h.bytes with h0 | ⟨b,off,ha,hb1,hb2,hc⟩
   · exact Or.inl h0
   · refine Or.inr ⟨b,off,ha,hb1,by simpa [World.setCell] using hb2,fun i hi=>?_⟩;obtain ⟨z,hz,hcc⟩:=hc i hi;exact ⟨z,hz,by rw [World.cell?_setCell_other _ _ _ _ (fun e=>hb1 (congrArg Addr.block e).symm)];exact hcc⟩
theorem iF (w:World) (R:Nat) (v:Value):w.grownBy (w.setCell ⟨R,1,none⟩ v) (some R) :=
 ⟨rfl,rfl,rfl,by simp [World.setCell],fun k _ hk=>Below.heap_setCell _ _ _ _ (fun e=>hk (by rw [e]))⟩
theorem aF {R:Option Nat} (h:Bl w w'):w.grownBy w' R:=⟨h.os,h.tape,h.output,h.size,fun k hk _=>h.block k hk⟩
def AL (n q:Int):Prop:=0≤q∧(1≤n→q<n)
theorem z7 (a b:Nat) (ha:a<4611686018427387904) (hb:b<4611686018427387904):bits .xor .i64 (a:Int) (b:Int)=((a ^^^ b:Nat):Int):=by
 have hx:a ^^^ b<2 ^ 62:=Nat.xor_lt_two_pow (by omega) (by omega);have h1:(BitVec.ofInt 64 (a:Int)).toNat=a:=by
  rw [BitVec.ofInt_natCast,BitVec.toNat_ofNat];exact Nat.mod_eq_of_lt (by omega)
 have h2:(BitVec.ofInt 64 (b:Int)).toNat=b:=by
  rw [BitVec.ofInt_natCast,BitVec.toNat_ofNat];exact Nat.mod_eq_of_lt (by omega)
 show IntKind.i64.wrap ((BitVec.ofInt 64 (a:Int) ^^^ BitVec.ofInt 64 (b:Int)).toNat:Int)=_
 rw [BitVec.toNat_xor,h1,h2,IntKind.wrap_i64];omega
theorem il (n:Int) (h0:0≤n) (h1:n≤9223372036854775807):wrap64 n=n:=by
 unfold wrap64;omega
theorem yF (z y P len:Nat) (n:Int) (hz:z≤255) (hy:y≤255) (hP:P<100000) (hn:1≤n) :
 AL n ((bits BinOp.xor IntKind.i64 (wrap64 (↑z*131+↑y*1117+↑P*29+wrap64 (wrap64 (↑P / ↑len)*53))) (wrap64 ((wrap64 (↑z*131+↑y*1117+↑P*29+wrap64 (wrap64 (↑P / ↑len)*53))).tdiv 64))).tmod n):=by
 have hq:((P:Int) / (len:Int))=((P / len:Nat):Int):=(Int.natCast_ediv P len).symm;have hle:P / len≤P:=Nat.div_le_self _ _;rw [hq];generalize P / len=Q at hle;rw [il (Q:Int) (by omega) (by omega),il ((Q:Int)*53) (by omega) (by omega),il _ (by omega) (by omega)];have e:(↑z*131+↑y*1117+↑P*29+↑Q*53:Int)=((z*131+y*1117+P*29+Q*53:Nat):Int):=by omega
 rw [e];have hX:z*131+y*1117+P*29+Q*53<100000000:=by omega
 generalize z*131+y*1117+P*29+Q*53=X at hX;have e2:((X:Int).tdiv 64)=((X / 64:Nat):Int):=by
  rw [Int.tdiv_eq_ediv_of_nonneg (by omega)];omega
 rw [e2,il _ (by omega) (by omega),z7 _ _ (by omega) (by omega)];generalize X ^^^ X / 64=Y;rw [Int.tmod_eq_emod_of_nonneg (by omega)];exact ⟨Int.emod_nonneg _ (by omega),fun _=>Int.emod_lt_of_pos _ (by omega)⟩
theorem aS {row:Option Nat} (hg:w.grownBy w' row) {x:Addr} (hx:x.block<w.heap.size) (hn:some x.block≠row):w'.frozen? x=w.frozen? x:=World.frozen?_of_block (hg.block x.block hx hn)
theorem ol {base e size k:Nat} {v:Value} {xs:List Value} (h:w.ownsRow base e size v k xs) (hne:¬v=nZ):∃g cap,v=sL g k cap:=by
 rcases h.2 with ⟨h',_⟩ | ⟨g,cap,_,h',_⟩
 · exact absurd h' hne
 · exact ⟨g,cap,h'⟩
theorem au {P:Program} {ops:Array Oper} {o:Oper} {a:Act} {w:World} {K:Act→World→Prop} {Q:Exit→Act→World→Prop} {E:Prop}
 (hg:o.guard=none) (s x:Operand) (t:TypeId) (hop:o.op=Op.call { callee:=Callee.builtin Builtin.append,args:=#[s,x],argTypes:=#[t,t] })
 (base:Nat) (e:TypeId) (i:TypeInfo) (z:Value) (size bytes:Nat) (h1:P.underlying t=some (.slice e)) (h2:P.info? e=some i) (h3:i.zero=some z) (h4:i.size=size) (h5:i.bytes=bytes) (h6:z.cells.size=size) (h7:0<size)
 (v:Value) (n:Nat) (olds:List Value) (hs:a.eval s=v) (hown:w.ownsRow base e size v n olds)
 (ad:Addr) (m c:Nat) (news:List Value) (hx:a.eval x=.slice (some ad) m c) (hn:news.length=m*size) (hc:∀j u,news[j]?=some u→w.cell? (ad.add j)=some u) (h1c:∀u ∈ news,u.oneCell'=true)
 (b1:n+m≤maxLen) (b2:(n+m)*bytes≤140737488355328) (b3:base≤w.heap.size)
 (hK:∀v' w',w'.ownsRow base e size v' (n+m) (olds++news)→w.grownBy w' v.ownBlock→(v'=nZ ↔ v=nZ∧m=0)→K (a.put o.dst v') w') :
 if Region.wanted o (yielded ops a.tmps)=true then Oper.wp P o a w K Q else E:=by
 have hw:Region.wanted o (yielded ops a.tmps)=true:=by simp [Region.wanted,hg]
 rw [if_pos hw];obtain ⟨v',w',hrun,r1,r2,r3⟩:=run_append_own (P:=P) w base t o.type e i z size bytes h1 h2 h3 h4 h5 h6 h7 v n olds hown ad m c news hn hc h1c b1 b2 b3;unfold Oper.wp;simp [execOp,hop,resolve,invoke,builtin,hs,hx,hrun,Result.andThen];exact hK v' w' r1 r2 r3
end Go.Proofs.YtpobkmjicbobdaaGreat
