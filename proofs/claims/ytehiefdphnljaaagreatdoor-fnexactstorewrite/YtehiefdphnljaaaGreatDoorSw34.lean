/- Walks. -/
import Derived.Test.YtehiefdphnljaaaGreatDoorSw32
import Derived.Test.YtehiefdphnljaaaGreatDoorSw33
namespace Go.Proofs.YtehiefdphnljaaaGreatDoor
set_option maxRecDepth 100000
set_option maxHeartbeats 40000000
open Go.RowKit Go.Shelf
variable {L M X:List ae} {P:List (List ae)} {e:ae} {n:Nat} {q:Int} {vs:List Value} {w:World}
def oP (x y:ae):Prop:=x.1=y.1→y.2.1<x.2.1
theorem jI (x y:ae):(!eS x y)=true ↔ oP x y:=by
 unfold eS oP;by_cases h:x.1=y.1
 · simp [h]
 · simp [h]
def Ov (A B:List ae):Prop:=∀x ∈ A,∀y ∈ B,oP x y
theorem sx {A B:List ae}:ir A B=true ↔ Ov A B:=by
 unfold ir Ov;simp only [List.all_eq_true,jI]
theorem AQ:gG P=true ↔ P.Pairwise Ov:=by
 rw [List.pairwise_iff_getElem];unfold gG;simp only [List.all_eq_true,List.mem_range];constructor
 · intro h i j hi hj hij;have:=h i hi j hj;rw [decide_eq_true hij,lC (List.getElem?_eq_getElem hi) (List.getElem?_eq_getElem hj)] at this;exact sx.1 (by simpa using this)
 · intro h i hi j hj;by_cases hij:i<j
   · rw [decide_eq_true hij,lC (List.getElem?_eq_getElem hi) (List.getElem?_eq_getElem hj),sx.2 (h i j hi hj hij)];rfl
   · rw [decide_eq_false hij];rfl
def cY (q:Int):List ae→Bool
 | []=>true
 | e :: L=>cY q L && (decide (1≤e.2.1) && (decide (e.2.1≤q) && L.all (fun y=>!eS e y)))
theorem li (q:Int) (L:List ae):cY q L=true ↔ L.Pairwise oP∧∀e ∈ L,1≤e.2.1∧e.2.1≤q:=by
 induction L with
 | nil=>simp [cY]
 | cons e L ih =>
  simp only [cY,Bool.and_eq_true,ih,decide_eq_true_eq,List.all_eq_true,jI,List.pairwise_cons,List.mem_cons];constructor
  · rintro ⟨⟨h1,h2⟩,h3,h4,h5⟩;refine ⟨⟨h5,h1⟩,?_⟩;rintro x (rfl | hx)
    · exact ⟨h3,h4⟩
    · exact h2 x hx
  · rintro ⟨⟨h5,h1⟩,h2⟩;exact ⟨⟨h1,fun x hx=>h2 x (.inr hx)⟩,(h2 e (.inl rfl)).1,(h2 e (.inl rfl)).2,h5⟩
def l8:List ae→ByteArray→Int
 | [],_=>0
 | e :: L,k=>if e.1=k then e.2.1 else l8 L k
theorem qG (e:ae) (L:List ae) (k:ByteArray):l8 (e :: L) k=if e.1=k then e.2.1 else l8 L k:=rfl
theorem sI {q:Int} (e:ae):∀L:List ae,cY q L=true→(l8 L e.1<e.2.1 ↔ (1≤e.2.1∧∀y ∈ L,oP e y))
 | [],_=>by simp [l8];omega
 | f :: L,h=>by
  have hn:=(li q (f :: L)).1 h
  rw [List.pairwise_cons] at hn
  have ih:=sI e L (by simp only [cY,Bool.and_eq_true] at h;exact h.1)
  rw [qG]
  by_cases hk:f.1=e.1
  · rw [if_pos hk]
    have hf:=(hn.2 f (List.mem_cons_self ..)).1
    constructor
    · intro h1
      refine ⟨by omega,?_⟩
      intro y hy
      rw [List.mem_cons] at hy
      rcases hy with rfl | hy
      · intro _;exact h1
      · intro e1
        have:=hn.1.1 y hy (hk.trans e1)
        omega
    · rintro ⟨_,h2⟩
      exact h2 f (List.mem_cons_self ..) hk.symm
  · rw [if_neg hk,ih]
    constructor
    · rintro ⟨h1,h2⟩
      refine ⟨h1,?_⟩
      intro y hy
      rw [List.mem_cons] at hy
      rcases hy with rfl | hy
      · intro e1;exact absurd e1.symm hk
      · exact h2 y hy
    · rintro ⟨h1,h2⟩
      exact ⟨h1,fun y hy=>h2 y (List.mem_cons_of_mem _ hy)⟩
theorem tx (h:cY q L=true) (h1:l8 L e.1<e.2.1) (h2:e.2.1≤q):cY q (e :: L)=true:=by
 have:=(sI e L h).1 h1;simp only [cY,h,Bool.true_and,Bool.and_eq_true,decide_eq_true_eq,List.all_eq_true,jI];exact ⟨this.1,h2,this.2⟩
theorem tw {A:List ae} (h:¬(l8 L e.1<e.2.1∧e.2.1≤q)):cY q (A++e :: L)=false:=by
 induction A with
 | nil =>
  rw [List.nil_append,Bool.eq_false_iff];intro h1;have hL:cY q L=true:=by simp only [cY,Bool.and_eq_true] at h1;exact h1.1
  have h3:=(li q _).1 h1;rw [List.pairwise_cons] at h3;have h4:=h3.2 e (List.mem_cons_self ..);exact h ⟨(sI e L hL).2 ⟨h4.1,h3.1.1⟩,h4.2⟩
 | cons a A ih =>
  rw [List.cons_append,cY,ih];rfl
theorem gQ (h:bz L=true):L.Pairwise oP:=by
 rw [List.pairwise_iff_getElem];intro i j hi hj hij hk;rcases eC (gU h hij (List.getElem?_eq_getElem hi) (List.getElem?_eq_getElem hj)) with h1 | h1
 · rw [hk,eD] at h1;cases h1
 · exact h1.2
theorem jg (h:bz L=true):∀e ∈ L,1≤e.2.1:=by
 intro e he;obtain ⟨j,hj,rfl⟩:=List.getElem_of_mem he;exact (zL (oO h (List.getElem?_eq_getElem hj))).1
theorem oN (h:bz L=true) {e:ae} (he:e ∈ L):gZ L=e.1∨Op.bytesLess (gZ L).toList e.1.toList=true:=by
 obtain ⟨j,hj,rfl⟩:=List.getElem_of_mem he;obtain ⟨f,hf,hl⟩:=pS (L:=L) (by omega);rw [hl];by_cases h0:j=0
 · subst h0;rw [List.getElem?_eq_getElem hj] at hf;cases hf;exact .inl rfl
 · rcases eC (gU h (Nat.pos_of_ne_zero h0) hf (List.getElem?_eq_getElem hj)) with h1 | h1
   · exact .inr (by rw [ByteArray.toList_eq,ByteArray.toList_eq];exact h1)
   · exact .inl h1.1
theorem te (h:bz L=true) {e:ae} (he:e ∈ L):e.1=e9 L∨Op.bytesLess e.1.toList (e9 L).toList=true:=by
 obtain ⟨j,hj,rfl⟩:=List.getElem_of_mem he;obtain ⟨f,hf,hl⟩:=kD (L:=L) (by omega);rw [hl];by_cases h0:j=L.length - 1
 · subst h0;rw [List.getElem?_eq_getElem hj] at hf;cases hf;exact .inl rfl
 · rcases eC (gU h (by omega:j<L.length - 1) (List.getElem?_eq_getElem hj) hf) with h1 | h1
   · exact .inr (by rw [ByteArray.toList_eq,ByteArray.toList_eq];exact h1)
   · exact .inl h1.1
theorem tf (h:bz L=true) (hn:1≤L.length):gZ L=e9 L∨Op.bytesLess (gZ L).toList (e9 L).toList=true:=by
 obtain ⟨f,hf,hl⟩:=kD hn;rw [hl];exact oN h (List.mem_of_getElem? hf)
theorem sv {B:List aq} (h:bY B=true) {i:Nat} {p r:aq} (hp:B[i]?=some p) (hr:B[i+1]?=some r):jR p.1 r.1=true:=by
 unfold bY at h;have:=(List.all_eq_true.1 h) (i+1) (List.mem_range.2 (List.getElem?_eq_some_iff.1 hr).1);unfold jQ iq at this;simp only [hr,hp] at this;exact this
theorem pu {B:List aq} (h:bY B=true) (hok:∀r ∈ B,dZ r.1 r.2=true):∀(d i:Nat) {p r:aq},B[i]?=some p→B[i+1+d]?=some r→Op.bytesLess (e9 p.1).toList (gZ r.1).toList=true
 | 0,i,p,r,hp,hr=>sv h hp hr
 | d+1,i,p,r,hp,hr=>by
  obtain ⟨hl,_⟩:=List.getElem?_eq_some_iff.1 hr
  have hm:B[i+1+d]?=some (B[i+1+d]'(by omega)):=List.getElem?_eq_getElem _
  have h1:=pu h hok d i hp hm
  have h2:jR (B[i+1+d]'(by omega)).1 r.1=true:=sv h hm hr
  have h3:=bI (hok _ (List.mem_of_getElem? hm))
  unfold jR at h2
  rcases tf h3.2.2.1 h3.1 with e | e
  · rw [e] at h1;exact dP _ _ _ h1 h2
  · exact dP _ _ _ (dP _ _ _ h1 e) h2
theorem kO {B:List aq} (h:bY B=true) (hok:∀r ∈ B,dZ r.1 r.2=true):(B.reverse.map (·.1)).Pairwise Ov:=by
 rw [List.pairwise_map,List.pairwise_reverse,List.pairwise_iff_getElem];intro i j hi hj hij x hx y hy hk;exfalso
 have h1:=pu h hok (j - i - 1) i (List.getElem?_eq_getElem hi) (by rw [show i+1+(j - i - 1)=j by omega];exact List.getElem?_eq_getElem hj);have hi3:=(bI (hok _ (List.getElem_mem hi))).2.2.1;have hj3:=(bI (hok _ (List.getElem_mem hj))).2.2.1;have h2:Op.bytesLess y.1.toList (gZ B[j].1).toList=true:=by
  rcases te hi3 hy with e | e
  · rw [e];exact h1
  · exact dP _ _ _ e h1
 have h3:Op.bytesLess y.1.toList x.1.toList=true:=by
  rcases oN hj3 hx with e | e
  · rw [← e];exact h2
  · exact dP _ _ _ h2 e
 rw [hk,eD] at h3;cases h3
def dr (M:List ae) (A B C:List aq):List (List ae):=M :: (A.reverse.map (·.1)++(B.reverse.map (·.1)++C.reverse.map (·.1)))
theorem fk {B:List aq}:Ov X (du B) ↔ ∀b ∈ B.reverse.map (·.1),Ov X b:=by
 unfold Ov du;simp only [List.mem_flatMap,List.mem_map,List.mem_reverse];constructor
 · rintro h b ⟨r,hr,rfl⟩ x hx y hy;exact h x hx y ⟨r,hr,hy⟩
 · rintro h x hx y ⟨r,hr,hy⟩;exact h r.1 ⟨r,hr,rfl⟩ x hx y hy
theorem uE {B:List aq}:Ov (du B) X ↔ ∀b ∈ B.reverse.map (·.1),Ov b X:=by
 unfold Ov du;simp only [List.mem_flatMap,List.mem_map,List.mem_reverse];constructor
 · rintro h b ⟨r,hr,rfl⟩ x hx y hy;exact h x ⟨r,hr,hx⟩ y hy
 · rintro h x ⟨r,hr,hx⟩ y hy;exact h r.1 ⟨r,hr,rfl⟩ x hx y hy
theorem lL {A B C:List aq} (hB:(B.reverse.map (·.1)).Pairwise Ov) (hC:(C.reverse.map (·.1)).Pairwise Ov):(fw M [A,B,C]).Pairwise Ov ↔ (dr M A B C).Pairwise Ov:=by
 unfold fw dr;simp only [List.headD_cons,List.drop_succ_cons,List.drop_zero,List.map_cons,List.map_nil,List.cons_append,List.pairwise_cons,List.pairwise_append,List.mem_append,List.mem_cons,List.not_mem_nil,or_false,List.Pairwise.nil,and_true,false_implies,implies_true];constructor
 · rintro ⟨h1,h2,h3,h4⟩;have hbc:=h3 _ rfl;refine ⟨?_,h2,⟨hB,hC,?_⟩,?_⟩
   · rintro a (h | h | h)
     · exact h1 a (.inl h)
     · exact fk.1 (h1 _ (.inr (.inl rfl))) a h
     · exact fk.1 (h1 _ (.inr (.inr rfl))) a h
   · intro b hb c hc;exact fk.1 (uE.1 hbc b hb) c hc
   · rintro a ha b (hb | hb)
     · exact fk.1 (h4 a ha _ (.inl rfl)) b hb
     · exact fk.1 (h4 a ha _ (.inr rfl)) b hb
 · rintro ⟨h1,h2,⟨_,_,h3⟩,h4⟩;refine ⟨?_,h2,?_,?_⟩
   · rintro a (h | h | h)
     · exact h1 a (.inl h)
     · rw [h];exact fk.2 (fun b hb=>h1 b (.inr (.inl hb)))
     · rw [h];exact fk.2 (fun b hb=>h1 b (.inr (.inr hb)))
   · intro c hc;rw [hc];exact uE.2 (fun b hb=>fk.2 (fun c hc=>h3 b hb c hc))
   · rintro a ha b (hb | hb)
     · rw [hb];exact fk.2 (fun c hc=>h4 a ha c (.inl hc))
     · rw [hb];exact fk.2 (fun c hc=>h4 a ha c (.inr hc))
theorem mQ {B:List aq} {most:Int} {ap:Bool}:dM B most ap q=true ↔ (B.length:Int)≤most∧eT B=false∧(∀r ∈ B,cj r.1 q=true)∧(ap=true→bY B=true):=by
 unfold dM eT bY;simp only [Bool.and_eq_true,decide_eq_true_eq,List.all_eq_true,List.mem_range];constructor
 · rintro ⟨h1,h2⟩;refine ⟨h1,?_,?_,?_⟩
   · rw [List.any_eq_false];intro r hr;obtain ⟨j,hj,rfl⟩:=List.getElem_of_mem hr;have:=h2 j hj;rw [df (List.getElem?_eq_getElem hj),Bool.and_eq_true] at this;simp [this.1]
   · intro r hr;obtain ⟨j,hj,rfl⟩:=List.getElem_of_mem hr;have:=h2 j hj;rw [df (List.getElem?_eq_getElem hj),Bool.and_eq_true,Bool.and_eq_true] at this;exact this.2.1
   · intro hap j hj;have:=h2 j hj;rw [df (List.getElem?_eq_getElem hj),Bool.and_eq_true,Bool.and_eq_true,hap] at this;unfold jQ;rw [List.getElem?_eq_getElem hj];simpa using this.2.2
 · rintro ⟨h1,h2,h3,h4⟩;refine ⟨h1,fun j hj=>?_⟩;rw [List.any_eq_false] at h2;have e1:=h2 B[j] (List.getElem_mem hj);have e2:=h3 B[j] (List.getElem_mem hj);rw [df (List.getElem?_eq_getElem hj),e2];have e1':dZ B[j].1 B[j].2=true:=by simpa using e1
   rw [e1'];cases ap with
   | false=>rfl
   | true =>
    have:=h4 rfl j hj;unfold jQ at this;rw [List.getElem?_eq_getElem hj] at this;simpa using this
theorem eo {B:List aq} (h:eT B=false):∀r ∈ B,dZ r.1 r.2=true:=by
 unfold eT at h;rw [List.any_eq_false] at h;intro r hr;simpa using h r hr
theorem ou (q:Int) (M:List ae) (A B C:List aq) (S:List Int) :
 bn q M [A,B,C] S=true ↔ 0≤q∧q≤100000∧cW S q=true∧M.length≤60∧bz M=true∧aZ A B C=true∧cY q (dr M A B C).flatten=true:=by
 have hI:aZ A B C=true ↔ ((A.length:Int)≤4∧eT A=false)∧((B.length:Int)≤8∧eT B=false∧bY B=true)∧((C.length:Int)≤8∧eT C=false∧bY C=true):=by
  unfold aZ sD nS;simp only [Bool.and_eq_true,decide_eq_true_eq,Bool.not_eq_true']
 have hT:bn q M [A,B,C] S=true ↔ 0≤q∧q≤100000∧M.length≤60∧bz M=true∧cj M q=true∧cW S q=true∧(dM A 4 false q=true∧dM B 8 true q=true∧dM C 8 true q=true)∧gG (fw M [A,B,C])=true:=by
  unfold bn ji;simp only [Bool.and_eq_true,decide_eq_true_eq,List.length_cons,List.length_nil,Nat.reduceAdd,true_and]
 rw [hT,hI,mQ,mQ,mQ,li,AQ,List.pairwise_flatten];have hmem:∀{Z:List aq} {l:List ae},l ∈ Z.reverse.map (·.1)→∃r ∈ Z,r.1=l:=by
  intro Z l hl;rw [List.mem_map] at hl;obtain ⟨r,hr,rfl⟩:=hl;exact ⟨r,List.mem_reverse.1 hr,rfl⟩
 have hwi:∀{L:List ae},cj L q=true ↔ ∀e ∈ L,e.2.1≤q:=by
  intro L;unfold cj;simp only [List.all_eq_true,decide_eq_true_eq]
 have hin:∀{l:List ae},l ∈ dr M A B C ↔ l=M∨(∃r ∈ A,r.1=l)∨(∃r ∈ B,r.1=l)∨(∃r ∈ C,r.1=l):=by
  intro l;unfold dr;simp only [List.mem_cons,List.mem_append,List.mem_map,List.mem_reverse]
 constructor
 · rintro ⟨h1,h2,h3,h4,h5,h6,⟨⟨a1,a2,a3,_⟩,⟨b1,b2,b3,b4⟩,⟨c1,c2,c3,c4⟩⟩,h8⟩;have hB:=kO (b4 rfl) (eo b2);have hC:=kO (c4 rfl) (eo c2);refine ⟨h1,h2,h6,h3,h4,⟨⟨a1,a2⟩,⟨b1,b2,b4 rfl⟩,⟨c1,c2,c4 rfl⟩⟩,⟨?_,(lL hB hC).1 h8⟩,?_⟩
   · intro l hl;rcases hin.1 hl with rfl | ⟨r,hr,rfl⟩ | ⟨r,hr,rfl⟩ | ⟨r,hr,rfl⟩
     · exact gQ h4
     · exact gQ (bI (eo a2 r hr)).2.2.1
     · exact gQ (bI (eo b2 r hr)).2.2.1
     · exact gQ (bI (eo c2 r hr)).2.2.1
   · intro e he;obtain ⟨l,hl,hx⟩:=List.mem_flatten.1 he;clear he;have he:=hx;rcases hin.1 hl with rfl | ⟨r,hr,rfl⟩ | ⟨r,hr,rfl⟩ | ⟨r,hr,rfl⟩
     · exact ⟨jg h4 e he,hwi.1 h5 e he⟩
     · exact ⟨jg (bI (eo a2 r hr)).2.2.1 e he,hwi.1 (a3 r hr) e he⟩
     · exact ⟨jg (bI (eo b2 r hr)).2.2.1 e he,hwi.1 (b3 r hr) e he⟩
     · exact ⟨jg (bI (eo c2 r hr)).2.2.1 e he,hwi.1 (c3 r hr) e he⟩
 · rintro ⟨h1,h2,h6,h3,h4,⟨⟨a1,a2⟩,⟨b1,b2,b4⟩,⟨c1,c2,c4⟩⟩,⟨_,h8⟩,h9⟩;have hB:=kO b4 (eo b2);have hC:=kO c4 (eo c2);have hw:∀l ∈ dr M A B C,cj l q=true:=fun l hl=>hwi.2 (fun e he=>(h9 e (List.mem_flatten.2 ⟨l,hl,he⟩)).2)
   exact ⟨h1,h2,h3,h4,hw M (hin.2 (.inl rfl)),h6,⟨⟨a1,a2,fun r hr=>hw _ (hin.2 (.inr (.inl ⟨r,hr,rfl⟩))),fun e=>by cases e⟩,⟨b1,b2,fun r hr=>hw _ (hin.2 (.inr (.inr (.inl ⟨r,hr,rfl⟩)))),fun _=>b4⟩,⟨c1,c2,fun r hr=>hw _ (hin.2 (.inr (.inr (.inr ⟨r,hr,rfl⟩)))),fun _=>c4⟩⟩,(lL hB hC).2 h8⟩
section
attribute [local go_sem] Oper.semAt_some
def ec (w:World) (vs:List Value) (P:List (List ae)):Prop:=vs.length=P.length∧∀(i:Nat) A,P[i]?=some A→∃s m d,vs[i]?=some (.slice s m d)∧an w s m d A
theorem ec.one {s:Option Addr} {m d:Nat} {A:List ae} (h:an w s m d A):ec w [.slice s m d] [A]:=by
 refine ⟨rfl,fun i B hB=>?_⟩;cases i with
 | zero=>simp at hB;subst hB;exact ⟨s,m,d,rfl,h⟩
 | succ i=>simp at hB
theorem ec.append {vs':List Value} {P':List (List ae)} (h:ec w vs P) (h':ec w vs' P'):ec w (vs++vs') (P++P'):=by
 refine ⟨by rw [List.length_append,List.length_append,h.1,h'.1],fun i A hA=>?_⟩;by_cases hi:i<P.length
 · rw [List.getElem?_append_left hi] at hA;rw [List.getElem?_append_left (by rw [h.1];exact hi)];exact h.2 i A hA
 · rw [List.getElem?_append_right (by omega)] at hA;rw [List.getElem?_append_right (by rw [h.1];omega),h.1];exact h'.2 _ A hA
theorem ec.map {α:Type} {f:α→Value} {g:α→List ae} (h:∀x,∃s m d,f x=.slice s m d∧an w s m d (g x)) (L:List α):ec w (L.map f) (L.map g):=by
 refine ⟨by simp,fun i A hA=>?_⟩;rw [List.getElem?_map] at hA ⊢;cases hx:L[i]? with
 | none=>rw [hx] at hA;cases hA
 | some x =>
  rw [hx] at hA;simp at hA;subst hA;obtain ⟨s,m,d,e,hE⟩:=h x;exact ⟨s,m,d,by simp [e],hE⟩
theorem ec.keep {w':World} (h:ec w vs P) (hb:Bl w w'):ec w' vs P :=
 ⟨h.1,fun i A hA=>by obtain ⟨s,m,d,e,hE⟩:=h.2 i A hA;exact ⟨s,m,d,e,hE.keep hb⟩⟩
theorem nF {α β:Type} (B:List α) (d:α) (f:α→β):(bJ B.length 0).map (fun x=>f ((B[x.1]?).getD d))=B.reverse.map f:=by
 unfold bJ;rw [List.drop_zero,List.map_reverse,List.map_reverse];congr 1
 apply List.ext_getElem
 · simp
 · intro i h1 h2;simp at h1;simp
theorem wP {α β:Type} (B:List α) (d:α) (f:α→β) (h:B.length=n):(bJ n 0).map (fun x=>f ((B[x.1]?).getD d))=B.reverse.map f:=by
 subst h;exact nF B d f
theorem aF.heads {lo:Nat} {a:Option Addr} {c:Nat} {B:List aq} (h:aF lo w a n c B) :
 ∃t:Nat→Option Addr × Nat × Nat,(∀b o,a=some ⟨b,o,none⟩→1≤n→b<w.heap.size∧∀i,i<n→w.cell? ⟨b,o+i*2,none⟩=some (.slice (t i).1 (t i).2.1 (t i).2.2)∧w.cell? ⟨b,o+i*2+1,none⟩=some (iT ((B[i]?).getD ([],0)).2)) ∧
  ∀i,i<n→an w (t i).1 (t i).2.1 (t i).2.2 ((B[i]?).getD ([],0)).1:=by
 have hl:=h.length;by_cases hn:1≤n
 · obtain ⟨b,o,rfl,hb⟩:=h.form hn;have each:∀i,i<n→∃t:Option Addr × Nat × Nat,w.cell? ⟨b,o+i*2,none⟩=some (.slice t.1 t.2.1 t.2.2)∧w.cell? ⟨b,o+i*2+1,none⟩=some (iT ((B[i]?).getD ([],0)).2)∧an w t.1 t.2.1 t.2.2 ((B[i]?).getD ([],0)).1:=by
    intro i hi;obtain ⟨_,s,m,d,c0,c1,hE⟩:=h.runs _ rfl i (by omega);refine ⟨(s,m,d),c0,?_,?_⟩
    · rw [List.getElem?_eq_getElem (by omega:i<B.length)];exact c1
    · rw [List.getElem?_eq_getElem (by omega:i<B.length)];exact hE.1
   obtain ⟨t,ht⟩:=Deep.choose_lt each;refine ⟨t,?_,fun i hi=>(ht i hi).2.2⟩;rintro b' o' e _;cases e;exact ⟨hb,fun i hi=>⟨(ht i hi).1,(ht i hi).2.1⟩⟩
 · exact ⟨fun _=>(none,0,0),fun b o e h1=>absurd h1 hn,fun i hi=>absurd hi (by omega)⟩
def ia (M:List ae) (V:List (List aq)) (i:Nat):List (List ae):=M :: (V.take i).flatMap (fun B=>B.reverse.map (·.1))
theorem pW {V:List (List aq)} {i:Nat} {B:List aq} (h:V[i]?=some B):ia M V (i+1)=ia M V i++B.reverse.map (·.1):=by
 unfold ia;rw [List.take_add_one,h];simp
theorem rD (M:List ae) (A B C:List aq):ia M [A,B,C] 3=dr M A B C:=by
 unfold ia dr;simp
def Ak (w0 w:World) (P:List (List ae)) (e:Ending) (w':World):Prop:=(∃g n c vs,e=.returned (sL g n c)∧w'.ownsRow w.heap.size 33 1 (sL g n c) n vs∧ec w0 vs P)∧Bl w w'
theorem vV (lo:Nat) (q:Int) (am ak:Option Addr) (nm cm nk ck:Nat) (a0 a1 a2:Option Addr) (n0 c0 n1 c1 n2 c2:Nat) (M:List ae) (A B C:List aq) (w0 w:World) (hw0:Bl w0 w) (hM:an w0 am nm cm M) (h0:aF lo w0 a0 n0 c0 A) (h1:aF lo w0 a1 n1 c1 B) (h2:aF lo w0 a2 n2 c2 C) (s0:n0≤8) (s1:n1≤8) (s2:n2≤8) :
 CallsIn Fence.wide 4 Tryz.prog 150 #[.agg #[iT q,.slice am nm cm,.slice a0 n0 c0,.slice a1 n1 c1,.slice a2 n2 c2,.slice ak nk ck]] w (Ak w0 w (dr M A B C)):=by
 have HW0:=ar hw0;clear hw0;have HL:Hid (∀i,i<3→∃ai ni ci Bi,(∀w',(Instr.index 84 (.agg #[.slice a0 n0 c0,.slice a1 n1 c1,.slice a2 n2 c2]) (iT (i:Nat))).run Tryz.prog w'=.ok (.slice ai ni ci) w')∧aF lo w0 ai ni ci Bi∧ni≤8∧[A,B,C][i]?=some Bi):=by
  intro i hi;have:i=0∨i=1∨i=2:=by omega
  rcases this with rfl | rfl | rfl
  · exact ⟨a0,n0,c0,A,fun w'=>zt w' _ _ _ _ _ _ _ _ _,h0,s0,rfl⟩
  · exact ⟨a1,n1,c1,B,fun w'=>zj w' _ _ _ _ _ _ _ _ _,h1,s1,rfl⟩
  · exact ⟨a2,n2,c2,C,fun w'=>zi w' _ _ _ _ _ _ _ _ _,h2,s2,rfl⟩
 clear h0 h1 h2 s0 s1 s2;have HM:=ar hM;clear hM;obtain ⟨i0,hi,hz0,hz1,hz2⟩:=info_parts Tryz.infoEntS;refine callsIn_of_wp_marks Tryz.func150 rfl trivial ?_ rfl;simp only [Tryz.ntmps150,List.size_toArray,List.length_cons,List.length_nil,Nat.reduceAdd,Nat.reduceSub,Array.replicate_succ,Array.replicate_zero,List.push_toArray,List.append_toArray,List.nil_append,List.cons_append];gi_wp2
 obtain ⟨W0,hW0⟩:=aw ((((w.alloc (.cells #[iT q,.slice am nm cm,.slice a0 n0 c0,.slice a1 n1 c1,.slice a2 n2 c2,.slice ak nk ck] 86)).alloc (.cells #[.slice am nm cm] 33)).alloc (.cells #[sL (w.heap.size+1) 1 1] 110)));have hB0:Bl w W0:=by rw [hW0];exact (((Below.refl _ w).alloc (Nat.le_refl _) _).alloc (by simp) _).alloc (by simp;omega) _
 have bA0:Boxed W0 (w.heap.size+1+1) 110 (sL (w.heap.size+1) 1 1):=by
  have:=Boxed.new ((w.alloc (.cells #[iT q,.slice am nm cm,.slice a0 n0 c0,.slice a1 n1 c1,.slice a2 n2 c2,.slice ak nk ck] 86)).alloc (.cells #[.slice am nm cm] 33)) 110 (sL (w.heap.size+1) 1 1);rw [World.size_alloc,World.size_alloc] at this;rw [hW0];exact this
 have hr0:W0.ownsRow w.heap.size 33 1 (sL (w.heap.size+1) 1 1) 1 [.slice am nm cm]:=by
  have:=(World.ownsRow_lit (base:=w.heap.size) (e:=33) (size:=1) (w.alloc (.cells #[iT q,.slice am nm cm,.slice a0 n0 c0,.slice a1 n1 c1,.slice a2 n2 c2,.slice ak nk ck] 86)) #[.slice am nm cm] 1 (by simp) (by unfold maxLen;omega) rfl).alloc (.cells #[sL (w.heap.size+1) 1 1] 110);rw [World.size_alloc] at this;rw [hW0];exact this
 rw [← hW0];clear hW0;refine wpIn_loop (fun a' W=>∃(i:Nat) (ds:List Nat) (u5 u14 u15 u16 u17 u25:Value) (v:Value) (vs:List Value),a'={ tmps:=#[.agg #[iT q,.slice am nm cm,.slice a0 n0 c0,.slice a1 n1 c1,.slice a2 n2 c2,.slice ak nk ck],.pointer (some ⟨w.heap.size,0,none⟩),nZ,.pointer (some ⟨w.heap.size+1+1,0,none⟩),undef,u5,undef,undef,.pointer (some ⟨w.heap.size,1,none⟩),.slice am nm cm,sL (w.heap.size+1) 1 1,.pointer (some ⟨w.heap.size,2,none⟩),.agg #[.slice a0 n0 c0,.slice a1 n1 c1,.slice a2 n2 c2],iT (i:Nat),u14,u15,u16,u17,undef,undef,undef,undef,undef,undef,undef,u25,undef],defers:=mu ds } ∧
  i≤3∧Boxed W (w.heap.size+1+1) 110 v∧W.ownsRow w.heap.size 33 1 v vs.length vs∧ec w0 vs (ia M [A,B,C] i)∧vs.length≤1+8*i∧1≤vs.length∧cK w.heap.size W ds∧Bl w W) (fun a' _=>3 - (intOf (a'.tmps.getD 13 undef)).toNat) ?_ ?_
 · exact ⟨0,[],undef,undef,undef,undef,undef,undef,_,[.slice am nm cm],rfl,by omega,bA0,hr0,ec.one HM.out,by simp,by simp,⟨List.nodup_nil,fun D hD=>by cases hD⟩,hB0⟩
 rintro a' W ⟨i,ds,u5,u14,u15,u16,u17,u25,v,vs,rfl,hi3,bA,hrow,hH,hvl,hv1,hmk,hB⟩;clear hB0 bA0 hr0;have HH:Hid (ec w0 vs (ia M [A,B,C] i)):=hH;have HMK:Hid (cK w.heap.size W ds):=hmk;have HB:Hid (Bl w W):=hB;have hsW:=hB.size;clear hH hmk hB;by_cases hlt:i<3
 · have hltI:(i:Int)<3:=by omega
   have wi:IntKind.i64.wrap ((i:Int)+1)=((i+1:Nat):Int):=by rw [IntWalk.i64_left];unfold wrap64;omega
   obtain ⟨ai,ni,ci,Bi,hidx,hRi,hni,hVi⟩:=HL.out i hlt;have HR:Hid (aF lo w0 ai ni ci Bi):=hRi;have HV:Hid ([A,B,C][i]?=some Bi):=hVi;clear hRi hVi;gi_wp2_with (refine ⟨trivial,?_⟩;gi_at_call 171;refine (z8 _ _ _ _ _).mono ?_;rintro e w' ⟨rfl,rfl⟩)
   obtain ⟨t,ht1,ht2⟩:=HR.out.heads;have bP:=Boxed.new W 83 (.slice ai ni ci);have hB1:Bl w (W.alloc (.cells #[.slice ai ni ci] 83)):=HB.out.alloc hsW _;have hB01:=HW0.out.trans (hB1.mono HW0.out.size);have bA1:=bA.alloc (.cells #[.slice ai ni ci] 83);have hrow1:=hrow.alloc (.cells #[.slice ai ni ci] 83);have hmk1:=HMK.out.others (KeepsOthers.alloc W (.cells #[.slice ai ni ci] 83));have hmlt:∀D ∈ ds,D<W.heap.size:=fun D hD=>(Array.getElem?_eq_some_iff.1 (HMK.out.2 D hD).2).1
   have hbl:=bA.lt;have HT2:Hid (∀i,i<ni→an w0 (t i).1 (t i).2.1 (t i).2.2 ((Bi[i]?).getD ([],0)).1):=ht2;have HMLT:Hid (∀D ∈ ds,D<W.heap.size):=hmlt;clear ht2;refine wpIn_rangeFunc_ownH rfl (by omega) (gf:=186) (lb:=#[.pointer (some ⟨W.heap.size,0,none⟩)]) rfl trivial (enters_of Tryz.func186 (by kernel_rfl) rfl)
    (sm (4 - 1) (by omega) W.heap.size (fun k=>k<w.heap.size∨k=W.heap.size) ai ni ci (fun i=>.slice (t i).1 (t i).2.1 (t i).2.2) (fun i=>iT ((Bi[i]?).getD ([],0)).2) _ (.inr rfl) bP.cell (fun h=>by obtain ⟨b,o,e,_⟩:=HR.out.form h;exact ⟨b,o,e⟩) HR.out.room HR.out.big (fun k hk=>by simp;omega) (fun b o e h1=>⟨.inl (Nat.lt_of_lt_of_le (ht1 b o e h1).1 HW0.out.size),fun i hi=>⟨cell_later hB01 ((ht1 b o e h1).2 i hi).1,cell_later hB01 ((ht1 b o e h1).2 i hi).2⟩⟩))
    bc.trans (mx (fun k hk=>by simp;omega)) (Below.refl _ _) (fun _=>rfl)
    (fun pre W'=>(∃v',Boxed W' (w.heap.size+1+1) 110 v'∧W'.ownsRow w.heap.size 33 1 v' (vs.length+pre.length) (vs++pre.map (fun x=>Value.slice (t x.1).1 (t x.1).2.1 (t x.1).2.2))∧True)∧(Boxed W' W.heap.size 83 (.slice ai ni ci)∧(Bl w W'∧cK w.heap.size W' ds)))
    (fun _ _ _=>False)
    (OwnFrom.and (Own.from (holdsRow_own w.heap.size (w.heap.size+1+1) 110 33 1 (fun pre:List (Fin ni)=>vs.length+pre.length) (fun pre=>vs++pre.map (fun x=>Value.slice (t x.1).1 (t x.1).2.1 (t x.1).2.2)) (fun _ _=>True)) _) (OwnFrom.and (Own.from (boxed_own _ _ _) _) (OwnFrom.and (ownFrom_below (Nat.le_refl _) (by simp;omega)) (oS (fun D hD=>by have:=hmlt D hD;simp;omega)))))
    (fun _ _ _ _ _ hs _ _=>hs)
    ⟨⟨v,bA1,by simpa using hrow1,trivial⟩,bP,hB1,hmk1⟩
    (fun x a' W'=>∃Bx,w.heap.size+1+1<Bx∧W'.cell? ⟨Bx,0,none⟩=some (.slice (t x.1).1 (t x.1).2.1 (t x.1).2.2)∧a'={ tmps:=#[.agg #[iT q,.slice am nm cm,.slice a0 n0 c0,.slice a1 n1 c1,.slice a2 n2 c2,.slice ak nk ck],.pointer (some ⟨w.heap.size,0,none⟩),nZ,.pointer (some ⟨w.heap.size+1+1,0,none⟩),undef,.slice ai ni ci,undef,.pointer (pT Bx),.pointer (some ⟨w.heap.size,1,none⟩),.slice am nm cm,sL (w.heap.size+1) 1 1,.pointer (some ⟨w.heap.size,2,none⟩),.agg #[.slice a0 n0 c0,.slice a1 n1 c1,.slice a2 n2 c2],iT (i:Nat),.bool true,.slice ai ni ci,.slice ai ni ci,.func (.func 186) #[] #[.pointer (some ⟨W.heap.size,0,none⟩)],iT (x.1:Nat),.agg #[.slice (t x.1).1 (t x.1).2.1 (t x.1).2.2,iT ((Bi[x.1]?).getD ([],0)).2],undef,undef,undef,undef,undef,u25,undef],defers:=[] })
    (fun x a' _ X Y row hs hg hr=>by obtain ⟨Bx,h1,h2,h3⟩:=hs;exact ⟨Bx,h1,cell_kept h2 hg (fun r e=>(hr r e).2),h3⟩)
    ?assign ?body ?done ?stop
   case assign =>
    rintro l pre x W2 K ⟨⟨v2,bA2,hrow2,_⟩,bP2,hB2,hmk2⟩ hK;have hlt2:=bA2.lt;gi_wp2
    exact hK _ _ ((KeepsOthers.alloc _ _).from _) (lr ((Below.refl _ W2).alloc hB2.size _) bP2 (bP2.alloc _)) ⟨⟨v2,bA2.alloc _,hrow2.alloc _,trivial⟩,bP2.alloc _,hB2.alloc hB2.size _,hmk2.others (KeepsOthers.alloc _ _)⟩ ⟨W2.heap.size,hlt2,by simp,rfl⟩
   case body =>
    rintro l pre x a' W2 hl _ ⟨⟨v2,bA2,hrow2,_⟩,bP2,hB2,hmk2⟩ ⟨Bx,hBx,cx,rfl⟩ hpl;have cA:=bA2.cell;have HMK2:Hid (cK w.heap.size W2 ds):=hmk2;have HB2:Hid (Bl w W2):=hB2;have hs2:=hB2.size;clear hmk2 hB2;gi_wp2_with (gi_at_builtin;refine wpListIn_append_own _ rfl _ _ 110 rfl w.heap.size 33 i0 nZ 1 24 Tryz.underlying110 hi hz0 hz1 hz2 rfl (by decide) _ _ _ rfl (hrow2.alloc _) ⟨W2.heap.size,0,none⟩ 1 1 [Value.slice (t x.1).1 (t x.1).2.1 (t x.1).2.2] rfl rfl (cell_one_new _ _ _) (by simp [Value.oneCell']) (by unfold maxLen;omega) (by omega) (by simp;omega) ?_;intro v' w1 hown' hgrow _;obtain ⟨g',cap',rfl⟩:=ownsRow_succ hown';obtain ⟨hv1,hv2,hr2,hk2,hb2⟩:=bA2.appended (by decide) hrow2 hs2 (by omega) hown' hgrow;have hc1:=hv1.cell;have hf1:=hv1.frozen)
    have bP3:Boxed (w1.setCell ⟨w.heap.size+1+1,0,none⟩ (sL g' (vs.length+pre.length+1) cap')) W.heap.size 83 (.slice ai ni ci):=((bP2.alloc _).kept hgrow (bP2.not_row (by decide) hrow2)).other (by omega) _;refine ⟨hk2.from _,lr hb2 bP2 bP3,⟨⟨_,hv2,?_,trivial⟩,bP3,HB2.out.trans hb2,HMK2.out.others hk2⟩⟩;rw [List.map_append,List.length_append,← List.append_assoc];exact hr2
   case done =>
    rintro D xs W2 hD rfl ⟨⟨v2,bA2,hrow2,_⟩,bP2,hB2,hmk2⟩ hK;gi_wp2
    have hmp:=wP Bi ([],0) (·.1) HR.out.length;have hdl:(bJ ni 0).length=ni:=by rw [kJ];rfl
    refine ⟨⟨i+1,D :: ds,_,_,_,_,_,_,v2,vs++(bJ ni 0).map (fun x=>Value.slice (t x.1).1 (t x.1).2.1 (t x.1).2.2),rfl,by omega,bA2,?_,?_,?_,?_,?_,hB2⟩,?_⟩
    · rw [List.length_append,List.length_map];exact hrow2
    · rw [pW HV.out,← hmp];exact HH.out.append (ec.map (α:=Fin ni) (fun x=>⟨_,_,_,rfl,HT2.out x.1 x.2⟩) _)
    · rw [List.length_append,List.length_map,hdl];omega
    · rw [List.length_append];omega
    · simp at hD;refine ⟨List.nodup_cons.2 ⟨fun h=>by have:=HMLT.out D h;omega,hmk2.1⟩,fun D' hD'=>?_⟩;rcases List.mem_cons.1 hD' with rfl | h
      · exact ⟨by omega,hK⟩
      · exact hmk2.2 D' h
    · simp [intOf];omega
   case stop =>
    rintro D c pre W2 _ _ h _;exact h.elim
 · have hi:i=3:=by omega
   subst hi;obtain ⟨n',hn'⟩:∃n',vs.length=n'+1:=⟨vs.length - 1,by omega⟩;rw [hn'] at hrow;obtain ⟨g,c,rfl⟩:=ownsRow_succ hrow;have cA:=bA.cell;gi_wp2
   refine ig ds W HMK.out (fun W' hb' hc'=>?_);refine ⟨_,results_tmp rfl _ _ _,⟨g,n'+1,c,vs,rfl,?_,?_⟩,HB.out.trans hb'⟩
   · refine ⟨hrow.1,?_⟩;rcases hrow.2 with hn | ⟨g1,cap1,cur1,e1,hb1,hgb,rest⟩
     · exact .inl hn
     · exact .inr ⟨g1,cap1,cur1,e1,hb1,hc' g1 _ hgb rfl,rest⟩
   · rw [← rD];exact HH.out
end
end Go.Proofs.YtehiefdphnljaaaGreatDoor
