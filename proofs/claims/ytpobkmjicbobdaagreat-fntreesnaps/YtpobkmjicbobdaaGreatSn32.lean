/- Walks. -/
import Derived.Test.YtpobkmjicbobdaaGreatSn27
namespace Go.Proofs.YtpobkmjicbobdaaGreat
set_option maxRecDepth 100000
set_option maxHeartbeats 40000000
open Go.RowKit
variable {C N T Z:List af} {K L M X:List ac} {S:List Int} {e:ac} {nx p q:Int}
theorem dr {A B:List af}:aW q M [A,B,C] S=true ↔ 0≤q∧q≤100000∧M.length≤60∧aL M=true∧bH M q=true∧bF S q=true∧(cZ A 4 false q=true∧cZ B 8 true q=true∧cZ C 8 true q=true)∧(eF M [A,B,C]).Pairwise Ov:=by
 rw [← uM];unfold aW ez;simp only [Bool.and_eq_true,decide_eq_true_eq,List.length_cons,List.length_nil,Nat.reduceAdd,true_and]
theorem cW:bH L q=true ↔ ∀e ∈ L,e.2.1≤q:=by
 unfold bH;simp only [List.all_eq_true,decide_eq_true_eq]
theorem uP (h:bH L q=true) (hp:q≤p):bH L p=true:=cW.2 (fun e he=>by have:=cW.1 h e he;omega)
theorem qj {B:List af} {most:Int} {ap:Bool} (h:cZ B most ap q=true) (hp:q≤p):cZ B most ap p=true:=by
 rw [cL] at h ⊢;exact ⟨h.1,h.2.1,fun r hr=>uP (h.2.2.1 r hr) hp,h.2.2.2⟩
theorem yB (h:bF S q=true) (hp:q≤p):bF S p=true:=by
 unfold bF at h ⊢;rw [Bool.and_eq_true] at h ⊢;refine ⟨h.1,?_⟩;rw [List.all_eq_true] at h ⊢;intro j hj;have h1:=h.2 j hj;unfold cy at h1 ⊢;cases hs:S[j]? with
 | none=>rfl
 | some s =>
  rw [hs] at h1;simp only [Bool.and_eq_true,decide_eq_true_eq] at h1 ⊢;exact ⟨h1.1,by omega,h1.2.2⟩
theorem yE {A B:List ac} (h:Ov A X) (hf:∀e ∈ B,∃y ∈ A,e.1=y.1∧e.2.1=y.2.1):Ov B X:=fun x hx y hy hk=>by
 obtain ⟨z,hz,h1,h2⟩:=hf x hx
 have:=h z hz y hy (by rw [← h1];exact hk)
 omega
theorem lj (S:List Int) (b:Bool):∀e ∈ bC L S b,∃y ∈ L,e.1=y.1∧e.2.1=y.2.1 :=
 mI (fun e=>∃y ∈ L,e.1=y.1∧e.2.1=y.2.1) S b (fun b c hc _ x hx=>by
  obtain ⟨y,hy,h1,h2⟩:=yS b c x hx
  exact ⟨y,hc y hy,h1,h2⟩)
theorem fX (M:List ac) (A B C:List af):eF M [A,B,C]=M :: (A.reverse.map (·.1)++[bo B,bo C]):=rfl
theorem sW {A B:List af} (h:aW q M [A,B,C] S=true) (hM:M≠[]) (hA:A.length<4):aW q [] [A++[nS M S],B,C] S=true:=by
 obtain ⟨h1,h2,h3,h4,h5,h6,⟨ha,hb,hc⟩,hp⟩:=dr.1 h;refine dr.2 ⟨h1,h2,by simp,rfl,rfl,h6,⟨?_,hb,hc⟩,?_⟩
 · rw [cL] at ha ⊢;refine ⟨by simp;omega,?_,fun r hr=>?_,fun e=>by cases e⟩
   · unfold ee;rw [List.any_eq_false];intro r hr;rcases List.mem_append.1 hr with hr | hr
     · simpa using cP ha.2.1 r hr
     · rw [List.mem_singleton.1 hr];have e1:1≤(bC M S false).length:=List.length_pos_iff.2 (qW h4 hM S);have e2:(bC M S false).length≤150:=Nat.le_trans (iC M S false) (by omega);have e4:dl (bC M S false) ((cQ (bC M S false):Nat):Int)=true:=by
        unfold dl;rw [ia h4 S false,decide_eq_true e1,decide_eq_true e2];simp
       simp only [nS,e4];simp
   · rcases List.mem_append.1 hr with hr | hr
     · exact ha.2.2.1 r hr
     · rw [List.mem_singleton.1 hr];refine cW.2 (fun e he=>?_);obtain ⟨y,hy,_,h8⟩:=lj S false e he;have:=cW.1 h5 y hy;omega
 · rw [fX] at hp ⊢;rw [List.reverse_append];have hp':=List.pairwise_cons.1 hp;refine List.pairwise_cons.2 ⟨(fun X _ x hx=>by cases hx),?_⟩;show (bC M S false :: (A.reverse.map (·.1)++[bo B,bo C])).Pairwise Ov
   exact List.pairwise_cons.2 ⟨fun X hX=>yE (hp'.1 X hX) (lj S false),hp'.2⟩
theorem fb:bF S q=true ↔ S.length≤4∧(∀s ∈ S,0≤s∧s≤q)∧S.Pairwise (·<·):=by
 unfold bF;simp only [Bool.and_eq_true,decide_eq_true_eq,List.all_eq_true,List.mem_range];constructor
 · rintro ⟨h1,h2⟩;have hs:∀j (hj:j<S.length),0≤S[j]∧S[j]≤q:=fun j hj=>by
    have h3:=h2 j hj;unfold cy at h3;rw [List.getElem?_eq_getElem hj] at h3;simp only [Bool.and_eq_true,decide_eq_true_eq] at h3;exact ⟨h3.1,h3.2.1⟩
   have hn:∀j (hj:j+1<S.length),S[j]<S[j+1]:=fun j hj=>by
    have h3:=h2 (j+1) hj;rw [iV (List.getElem?_eq_getElem hj) (List.getElem?_eq_getElem (by omega))] at h3;simp only [Bool.and_eq_true,decide_eq_true_eq] at h3;exact h3.2.2
   refine ⟨h1,fun s hs'=>by obtain ⟨j,hj,rfl⟩:=List.getElem_of_mem hs';exact hs j hj,?_⟩;rw [List.pairwise_iff_getElem];intro i j hi hj hij;obtain ⟨d,rfl⟩:∃d,j=i+1+d:=⟨j - i - 1,by omega⟩;clear hij;induction d with
   | zero=>exact hn i hj
   | succ d ih=>exact Int.lt_trans (ih (by omega)) (hn (i+1+d) (by omega))
 · rintro ⟨h1,h2,h3⟩;rw [List.pairwise_iff_getElem] at h3;refine ⟨h1,fun j hj=>?_⟩;have h4:=h2 S[j] (List.getElem_mem hj);cases j with
   | zero=>rw [lm (List.getElem?_eq_getElem hj)];simp only [Bool.and_eq_true,decide_eq_true_eq];exact h4
   | succ i =>
    rw [iV (List.getElem?_eq_getElem hj) (List.getElem?_eq_getElem (by omega))];simp only [Bool.and_eq_true,decide_eq_true_eq];exact ⟨h4.1,h4.2,h3 i (i+1) (by omega) hj (by omega)⟩
theorem o4 {A B:List af} (h:aW q M [A,B,C] S=true) (hS:S.length<4) (hq:q ∉ S):aW q M [A,B,C] (S++[q])=true:=by
 obtain ⟨h1,h2,h3,h4,h5,h6,hr,hp⟩:=dr.1 h;refine dr.2 ⟨h1,h2,h3,h4,h5,?_,hr,hp⟩;obtain ⟨k1,k2,k3⟩:=fb.1 h6;refine fb.2 ⟨by simp;omega,fun s hs=>?_,List.pairwise_append.2 ⟨k3,by simp,fun a ha b hb=>?_⟩⟩
 · rcases List.mem_append.1 hs with hs | hs
   · exact k2 s hs
   · rw [List.mem_singleton.1 hs];exact ⟨h1,Int.le_refl _⟩
 · rw [List.mem_singleton.1 hb];have h7:=(k2 a ha).2;have h8:a≠q:=fun e=>hq (by rw [← e];exact ha)
   omega
theorem o5 {A B:List af} (h:aW q M [A,B,C] S=true) (x:Int):aW q M [A,B,C] (bn S x)=true:=by
 obtain ⟨h1,h2,h3,h4,h5,h6,hr,hp⟩:=dr.1 h;refine dr.2 ⟨h1,h2,h3,h4,h5,?_,hr,hp⟩;obtain ⟨k1,k2,k3⟩:=fb.1 h6;refine fb.2 ⟨Nat.le_trans (sa S x) k1,fun s hs=>k2 s (nX hs),?_⟩;exact List.Pairwise.sublist List.filter_sublist k3
theorem xp:∀(D M:List ac),D.foldl d4 (bw M)=bw (M++D)
 | D,M=>by unfold bw;rw [List.foldl_append]
theorem s5 (h:e ∈ eP q K):∃i,i<K.length∧e.2.1=q+1+i:=by
 obtain ⟨i,hi,rfl⟩:=List.getElem_of_mem h;rw [fj] at hi;exact ⟨i,hi,by simp [eP,zU]⟩
theorem uV (q:Int) (K:List ac):fu (eP q K):=by
 unfold fu;rw [List.pairwise_iff_getElem];intro i j hi hj hij h;have h2:=h.2;simp [eP,zU] at h2;omega
theorem sU {A B:List af} (h:aW q M [A,B,C] S=true) (hw:fK q M K=true):aW (q+K.length) ((eP q K).foldl d4 M) [A,B,C] S=true:=by
 obtain ⟨h1,h2,h3,h4,h5,h6,⟨ha,hb,hc⟩,hp⟩:=dr.1 h;unfold fK at hw;simp only [Bool.and_eq_true,decide_eq_true_eq] at hw;obtain ⟨w1,w2,w3,w4⟩:=hw;have hM:=tc h4;have e:(eP q K).foldl d4 M=bw (M++eP q K):=by
  have:=xp (eP q K) M;rw [hM] at this;exact this
 have hK:(K.length:Int)=((eP q K).length:Int):=by rw [fj]
 have hs:∀x ∈ eP q K,cK x.1 x.2.1 x.2.2.1 x.2.2.2.1 x.2.2.2.2=true:=fun x hx=>by
  obtain ⟨i,hi⟩:=List.getElem?_of_mem hx;exact uU w4 hi
 have hq:q+K.length≤100000:=by
  obtain ⟨x,hx⟩:∃x,(eP q K)[K.length - 1]?=some x:=⟨_,List.getElem?_eq_getElem (by rw [fj];omega)⟩;have h7:=hs x (List.mem_of_getElem? hx);have h8:=(r8 h7).2;have h9:x.2.1=q+1+((K.length - 1:Nat):Int):=by
   have:=(List.getElem?_eq_some_iff.1 hx).2;rw [← this];simp [eP,zU]
  omega
 have hu:fu (M++eP q K):=by
  refine List.pairwise_append.2 ⟨p7 h4,uV q K,fun a ha' b hb' hab=>?_⟩;have h7:=cW.1 h5 a ha';obtain ⟨i,_,h8⟩:=s5 hb';have:=hab.2;omega
 have hr:aL (bw (M++eP q K))=true:=by
  obtain ⟨k1,k2⟩:=bG (M++eP q K);refine fs (li k1 (fW hu k2.symm)) (fun x hx=>?_);rcases List.mem_append.1 (k2.subset hx) with h7 | h7
  · obtain ⟨j,hj⟩:=List.getElem?_of_mem h7;exact fc h4 hj
  · exact hs x h7
 have hmem:∀x ∈ bw (M++eP q K),x ∈ M∨x ∈ eP q K:=fun x hx=>List.mem_append.1 ((bG _).2.subset hx)
 rw [e];refine dr.2 ⟨by omega,hq,?_,hr,?_,yB h6 (by omega),⟨qj ha (by omega),qj hb (by omega),qj hc (by omega)⟩,?_⟩
 · rw [iU,List.length_append,fj];exact w3
 · refine cW.2 (fun x hx=>?_);rcases hmem x hx with h7 | h7
   · have:=cW.1 h5 x h7;omega
   · obtain ⟨i,hi,h8⟩:=s5 h7;omega
 · rw [fX] at hp ⊢;have hp':=List.pairwise_cons.1 hp;refine List.pairwise_cons.2 ⟨fun X hX x hx y hy hk=>?_,hp'.2⟩;rcases hmem x hx with h7 | h7
   · exact hp'.1 X hX x h7 y hy hk
   · obtain ⟨i,_,h8⟩:=s5 h7;have:y.2.1≤q:=by
      rcases List.mem_append.1 hX with hX | hX
      · obtain ⟨r,hr',rfl⟩:=List.mem_map.1 hX;exact cW.1 ((cL.1 ha).2.2.1 r (List.mem_reverse.1 hr')) y hy
      · have hf:∀{Z:List af},cZ Z 8 true q=true→y ∈ bo Z→y.2.1≤q:=fun {Z} hZ hyZ=>by
         obtain ⟨r,hr',hy'⟩:=List.mem_flatMap.1 hyZ;exact cW.1 ((cL.1 hZ).2.2.1 r hr') y hy'
        rcases List.mem_cons.1 hX with rfl | hX
        · exact hf hb hy
        · rw [List.mem_singleton.1 hX] at hy;exact hf hc hy
     omega
theorem p8 {A B:List af} (htb:aW q M [A,B,C] S=true):(A.length≤4∧B.length≤8∧C.length≤8)∧(∀Z ∈ [A,B,C],∀r ∈ Z,dl r.1 r.2=true)∧bi B=true∧bi C=true:=by
 have h8:ez [A,B,C] q=true:=(aY htb).2.2.2.2.2.2.2.1;unfold ez at h8;simp only [Bool.and_eq_true] at h8;obtain ⟨hA,hB,hC⟩:=h8;rw [cL] at hA hB hC;have hb:∀{Z:List af},ee Z=false→∀r ∈ Z,dl r.1 r.2=true:=fun {Z} h r hr=>by
  unfold ee at h;rw [List.any_eq_false] at h;simpa using h r hr
 refine ⟨⟨by have:=hA.1;omega,by have:=hB.1;omega,by have:=hC.1;omega⟩,fun Z hZ=>?_,hB.2.2.2 rfl,hC.2.2.2 rfl⟩;simp only [List.mem_cons,List.not_mem_nil,or_false] at hZ;rcases hZ with rfl | rfl | rfl
 · exact hb hA.2.1
 · exact hb hB.2.1
 · exact hb hC.2.1
theorem nU (B:List af):bo B=(bd B).flatten:=rfl
theorem uj {A B:List af} (htb:aW q M [A,B,C] S=true):fu ((bd A).flatten++((bd B).flatten++(bd C).flatten)):=by
 have h:=fW (qP htb) (tA M A B C);exact List.Pairwise.sublist (List.sublist_append_right _ _) h
theorem js (h:∀r ∈ Z,dl r.1 r.2=true):∀r ∈ Z,aL r.1=true∧1≤r.1.length:=fun r hr=>⟨(bu (h r hr)).2.2.1,(bu (h r hr)).1⟩
theorem zj {A B:List af} (htb:aW q M [A,B,C] S=true) (hA:1≤A.length):fq A B:=by
 obtain ⟨_,h2,h3,_⟩:=p8 htb;exact ⟨hA,js (h2 A (by simp)),js (h2 B (by simp)),h3,List.Pairwise.sublist (List.Sublist.append (List.Sublist.refl _) (List.sublist_append_left _ _)) (uj htb)⟩
theorem zi {A B:List af} (htb:aW q M [A,B,C] S=true) {p:Nat} (hp:p<B.length):fq ((B.drop p).take 1) C:=by
 obtain ⟨_,h2,_,h4⟩:=p8 htb;have hs:((B.drop p).take 1).Sublist B:=(List.take_sublist _ _).trans (List.drop_sublist _ _);refine ⟨by rw [List.length_take,List.length_drop];omega,fun r hr=>js (h2 B (by simp)) r (hs.subset hr),js (h2 C (by simp)),h4,?_⟩;exact List.Pairwise.sublist ((List.Sublist.append (lL (hs.map _)) (List.Sublist.refl _)).trans (List.sublist_append_right _ _)) (uj htb)
theorem vp (h:∀r ∈ Z,r.1.length≤150):(bd Z).flatten.length≤150*Z.length:=by
 induction Z with
 | nil=>simp [bd]
 | cons r Z ih =>
  have h1:=h r (by simp);have h2:=ih (fun x hx=>h x (by simp [hx]));simp only [bd,List.map_cons,List.flatten_cons,List.length_append,List.length_cons] at h2 ⊢;omega
theorem uL (hT:∀r ∈ T,r.1.length≤150) (hN:∀r ∈ N,r.1.length≤150) (hl:T.length+N.length≤100):(bd (dq T N)).flatten.length≤100000:=by
 have h:=vp (Z:=dq T N) (fun r hr=>by
  rcases List.mem_append.1 hr with h1 | h1
  · exact hT r h1
  · exact hN r ((jy T N).subset h1))
 have h2:(dq T N).length≤T.length+N.length:=by
  unfold dq;rw [List.length_append];have:=(jy T N).length_le;omega
 omega
theorem jP {V:List (List af)} (htb:aW q M V S=true):S.length≤4:=by
 have h1:=(aY htb).2.2.2.2.2.2.1;unfold bF at h1;rw [Bool.and_eq_true] at h1;exact of_decide_eq_true h1.1
def wH (x y:af):Prop:=Op.bytesLess (aP x.1).toList (ba y.1).toList=true
theorem ou (h:bi Z=true) (hok:∀r ∈ Z,aL r.1=true∧1≤r.1.length):Z.Pairwise wH:=by
 rw [List.pairwise_iff_getElem];intro i j hi hj hij;exact eu h hok (j - i - 1) i (by omega) _ _ (List.getElem?_eq_getElem hi) (by rw [show i+(j - i - 1+1)=j by omega];exact List.getElem?_eq_getElem hj)
theorem sE (h:Z.Pairwise wH):bi Z=true:=by
 unfold bi;rw [List.all_eq_true];intro i hi;have hl:=List.mem_range.1 hi;cases i with
 | zero=>unfold jm f8;rw [List.getElem?_eq_getElem hl]
 | succ i =>
  rw [jg (List.getElem?_eq_getElem hl) (by omega) (by rw [Nat.add_sub_cancel];exact List.getElem?_eq_getElem (by omega))];exact List.pairwise_iff_getElem.1 h i (i+1) (by omega) hl (by omega)
theorem vk (ha:bi N=true) (hok:∀r ∈ N,dl r.1 r.2=true) (k1 k2:ByteArray):∃i j,mi N k1 k2 i j:=by
 refine ⟨N.findIdx (fun r=>!Op.bytesLess (aP r.1).toList k1.toList),N.findIdx (fun r=>Op.bytesLess k2.toList (ba r.1).toList),List.findIdx_le_length,List.findIdx_le_length,fun t r ht=>⟨fun h=>?_,fun h=>?_,fun h=>?_,fun h=>?_⟩⟩
 · have h1:=List.not_of_lt_findIdx h;have hr:=(List.getElem?_eq_some_iff.1 ht).2;rw [hr] at h1;simpa using h1
 · have hl:=(List.getElem?_eq_some_iff.1 ht).1;have h1:=List.findIdx_getElem (w:=Nat.lt_of_le_of_lt h hl);cases hc:Op.bytesLess (aP r.1).toList k1.toList with
   | false=>rfl
   | true =>
    have:=yM ha hok (List.getElem?_eq_getElem (Nat.lt_of_le_of_lt h hl)) ht h k1 hc;rw [this] at h1;cases h1
 · have h1:=List.not_of_lt_findIdx h;have hr:=(List.getElem?_eq_some_iff.1 ht).2;rw [hr] at h1;simpa using h1
 · have hl:=(List.getElem?_eq_some_iff.1 ht).1;have h1:=List.findIdx_getElem (w:=Nat.lt_of_le_of_lt h hl);exact zA ha hok (List.getElem?_eq_getElem (Nat.lt_of_le_of_lt h hl)) ht h k2 h1
theorem tD {a b:ByteArray} (h:eR a b=true) (hn:a≠b):Op.bytesLess a.toList b.toList=true:=by
 cases hl:Op.bytesLess a.toList b.toList with
 | true=>rfl
 | false =>
  have h2:eR b a=true:=by rw [dh,hl];rfl
  exact absurd (nE h h2) hn
theorem pQ (L:List ac):∀k,k≤L.length→(∀r ∈ (eG L k).1,∃a b,a<b∧b≤(eG L k).2∧r=dV L a b∧(b<L.length→gM L b≠gM L (b - 1)))∧(eG L k).1.Pairwise (fun r s=>∃a b c d,a<b∧b≤c∧c<d∧d≤L.length∧r=dV L a b∧s=dV L c d∧gM L b≠gM L (b - 1))∧(eG L k).2≤k
 | 0,_=>⟨(fun r h=>by cases h),List.Pairwise.nil,Nat.le_refl _⟩
 | k+1,hk=>by
  obtain ⟨h2,h3,h1⟩:=pQ L k (by omega)
  obtain ⟨B,f,hB⟩:∃B f,eG L k=(B,f):=⟨_,_,rfl⟩
  rw [hB] at h1 h2 h3
  simp only at h1 h2 h3
  cases hc:fA L f (k+1) with
  | false=>rw [qI hB hc];exact ⟨h2,h3,by omega⟩
  | true =>
   rw [oh hB hc]
   refine ⟨fun r hr=>?_,?_,Nat.le_refl _⟩
   · rcases List.mem_append.1 hr with h | h
     · obtain ⟨a,b,x1,x2,x3,x4⟩:=h2 r h
       exact ⟨a,b,x1,by show b≤k+1;omega,x3,x4⟩
     · rw [List.mem_singleton] at h
       refine ⟨f,k+1,by omega,Nat.le_refl _,h,fun hl e=>?_⟩
       unfold fA at hc
       simp only [Bool.or_eq_true,Bool.and_eq_true,decide_eq_true_eq,Bool.not_eq_true',decide_eq_false_iff_not] at hc
       rcases hc with hc | hc
       · omega
       · exact hc.2 e
   · rw [List.pairwise_append]
     refine ⟨h3,List.pairwise_singleton _ _,fun r hr s hs=>?_⟩
     rw [List.mem_singleton] at hs
     obtain ⟨a,b,x1,x2,x3,x4⟩:=h2 r hr
     exact ⟨a,b,f,k+1,x1,x2,by omega,hk,x3,hs,x4 (by omega)⟩
theorem tq {a b:Nat} (hab:a<b) (hb:b≤L.length):aP (dV L a b).1=gM L (b - 1):=by
 unfold aP gM;rw [pq hb];show (match ((L.drop a).take (b - a))[b - a - 1]? with | some e=>e.1 | none=>⟨#[]⟩)=_
 rw [List.getElem?_take_of_lt (by omega),List.getElem?_drop,show a+(b - a - 1)=b - 1 by omega];cases L[b - 1]? <;> rfl
theorem yQ (hw:kK L):(dk L).Pairwise wH:=by
 refine (pQ L L.length (Nat.le_refl _)).2.1.imp ?_;rintro r s ⟨a,b,c,d,h1,h2,h3,h4,rfl,rfl,h5⟩;unfold wH;rw [tq h1 (by omega),lA h3];have e1:=lg hw (a:=b - 1) (c:=b) (by omega) (by omega);have e2:=lg hw (a:=b) (c:=c) (by omega) (by omega);have e3:=tD e1 (fun e=>h5 e.symm);rcases Bool.or_eq_true _ _ ▸ (show (Op.bytesLess (gM L b).toList (gM L c).toList || (gM L b).toList == (gM L c).toList)=true from e2) with e | e
 · exact cq _ _ _ e3 e
 · have:(gM L b).toList=(gM L c).toList:=by simpa using e
   rw [← this];exact e3
theorem rF:∀r ∈ dP T N C S nx,∀e ∈ r.1,∃y,(y ∈ (bd T).flatten∨y ∈ (bd N).flatten)∧e.1=y.1∧e.2.1=y.2.1:=by
 intro r hr e he;rcases iZ _ _ hr with h1 | h1
 · exact ⟨e,.inr (List.mem_flatten.2 ⟨r.1,List.mem_map.2 ⟨r,(List.mem_filter.1 h1).1,rfl⟩,he⟩),rfl,rfl⟩
 · obtain ⟨y,hy,e1,e2⟩:=lj S _ e (qF h1 e he);have hy2:=(bG _).2.subset hy;unfold dq at hy2;rw [lD] at hy2;refine ⟨y,?_,e1,e2⟩;rcases List.mem_append.1 hy2 with h2 | h2
   · exact .inl h2
   · exact .inr ((lL ((jy T N).map _)).subset h2)
theorem rD (h:aL L=true) (a b:Nat):aL (dV L a b).1=true:=by
 have hs:((L.drop a).take (b - a)).Sublist L:=(List.take_sublist _ _).trans (List.drop_sublist _ _);refine fs (List.Pairwise.sublist hs (fC h)) (fun e he=>?_);obtain ⟨j,hj⟩:=List.getElem?_of_mem (hs.subset he);exact fc h hj
theorem xw (h:fq T N) (hN:∀r ∈ N,dl r.1 r.2=true) (hok:tw T N C S nx=true):(∀r ∈ dP T N C S nx,dl r.1 r.2=true)∧(dP T N C S nx).length≤8∧bi (dP T N C S nx)=true:=by
 have hsq:=ia h.right S (jo T N C nx);unfold tw at hok;rw [Bool.and_eq_true,decide_eq_true_eq] at hok;refine ⟨fun r hr=>?_,hok.2,?_⟩
 · have hf:=hok.1;unfold fS at hf;have h150:=of_decide_eq_true ((List.all_eq_true.1 hf) r hr);rcases iZ _ _ hr with h1 | h1
   · exact hN r (List.mem_filter.1 h1).1
   · have hn:=lM h1;obtain ⟨a,b,x1,x2,rfl⟩:=qG h1;unfold dl;rw [decide_eq_true hn,decide_eq_true h150,show aL (dV (qZ T N C S nx) a b).1=true from rD hsq a b];simp [dV]
 · obtain ⟨i,j,hm⟩:=vk h.ap hN (gL T) (eO T);rw [h.runs C S nx hm];have hall:=ou h.ap h.nok;obtain ⟨hij,hin,hoff⟩:=h.cut hm;have hLH:=qm h.t0 h.tok;have hT:∀r ∈ T,∀x ∈ r.1,eR (gL T) x.1=true∧eR x.1 (eO T)=true:=fun r hr x hx=>by
    have:=dM (bG (bd T).flatten).1 (e:=x) ((bG _).2.symm.subset (List.mem_flatten.2 ⟨r.1,List.mem_map.2 ⟨r,hr,rfl⟩,hx⟩));rwa [hLH.1,hLH.2] at this
   have hIn:∀r ∈ yL T N,∃t,i≤t∧t<j∧N[t]?=some r:=fun r hr=>by
    rw [hin] at hr;obtain ⟨t,ht⟩:=List.getElem?_of_mem hr;have hl:=(List.getElem?_eq_some_iff.1 ht).1;rw [List.length_take,List.length_drop] at hl;rw [List.getElem?_take_of_lt (by omega),List.getElem?_drop] at ht;exact ⟨i+t,by omega,by omega,ht⟩
   have hlt:∀{a b c:ByteArray},Op.bytesLess a.toList b.toList=true→eR b c=true→Op.bytesLess a.toList c.toList=true:=fun {a b c} h1 h2=>by
    unfold eR at h2;rw [Bool.or_eq_true] at h2;rcases h2 with h2 | h2
    · exact cq _ _ _ h1 h2
    · have e:b.toList=c.toList:=by simpa using h2
      rw [← e];exact h1
   have hkey:∀r ∈ dk (qZ T N C S nx),∀e ∈ r.1,(∀(u:Nat) (x:af),u<i→N[u]?=some x→Op.bytesLess (aP x.1).toList e.1.toList=true)∧(∀(u:Nat) (z:af),j≤u→N[u]?=some z→Op.bytesLess e.1.toList (ba z.1).toList=true):=fun r hr e he=>by
    obtain ⟨r',hr',y,hy,e2⟩:=p9 (qF hr e he);rw [← e2];refine ⟨fun u x hu hx=>?_,fun u z hu hz=>?_⟩
    · rcases List.mem_append.1 hr' with h1 | h1
      · exact hlt ((hm.2.2 _ _ hx).1 hu) (hT r' h1 y hy).1
      · obtain ⟨t,t1,t2,t3⟩:=hIn r' h1;have hok':=h.nok _ (List.mem_of_getElem? t3);have htl:=(List.getElem?_eq_some_iff.1 t3).1;exact hlt (eu h.ap h.nok (t - u - 1) u (by omega) x r' hx (by rw [show u+(t - u - 1+1)=t by omega];exact t3)) (dM (eo hok'.1) hy).1
    · rcases List.mem_append.1 hr' with h1 | h1
      · exact fQ (hT r' h1 y hy).2 ((hm.2.2 _ _ hz).2.2.2 hu)
      · obtain ⟨t,t1,t2,t3⟩:=hIn r' h1;have hok':=h.nok _ (List.mem_of_getElem? t3);have hzl:=(List.getElem?_eq_some_iff.1 hz).1;exact fQ (dM (eo hok'.1) hy).2 (eu h.ap h.nok (u - t - 1) t (by omega) r' z t3 (by rw [show t+(u - t - 1+1)=u by omega];exact hz))
   refine sE (List.pairwise_append.2 ⟨List.pairwise_append.2 ⟨List.Pairwise.sublist (List.take_sublist _ _) hall,yQ (eo hsq),fun x hx r hr=>?_⟩,List.Pairwise.sublist (List.drop_sublist _ _) hall,fun x hx z hz=>?_⟩)
   · obtain ⟨u,hu⟩:=List.getElem?_of_mem hx;have hul:=(List.getElem?_eq_some_iff.1 hu).1;rw [List.length_take] at hul;rw [List.getElem?_take_of_lt (by omega)] at hu;obtain ⟨e,he,e1⟩:=jx (lM hr);unfold wH;rw [e1];exact (hkey r hr e he).1 u x (by omega) hu
   · obtain ⟨u,hu⟩:=List.getElem?_of_mem hz;rw [List.getElem?_drop] at hu;have hul:=(List.getElem?_eq_some_iff.1 hu).1;rcases List.mem_append.1 hx with h1 | h1
     · obtain ⟨v,hv⟩:=List.getElem?_of_mem h1;have hvl:=(List.getElem?_eq_some_iff.1 hv).1;rw [List.length_take] at hvl;rw [List.getElem?_take_of_lt (by omega)] at hv;exact eu h.ap h.nok (j+u - v - 1) v (by omega) x z hv (by rw [show v+(j+u - v - 1+1)=j+u by omega];exact hu)
     · have hn:=lM h1;obtain ⟨e,he,e1⟩:∃e ∈ x.1,aP x.1=e.1:=by
        have hl:x.1.length - 1<x.1.length:=by omega
        exact ⟨x.1[x.1.length - 1],List.getElem_mem hl,by unfold aP;rw [List.getElem?_eq_getElem hl]⟩
       unfold wH;rw [e1];exact (hkey x h1 e he).2 (j+u) z (by omega) hu
theorem su (h:∀r ∈ Z,dl r.1 r.2=true):ee Z=false:=by
 unfold ee;rw [List.any_eq_false];intro r hr;simp [h r hr]
theorem fp:e ∈ bo Z ↔ ∃r ∈ Z,e ∈ r.1:=List.mem_flatMap
theorem lC:e ∈ (bd Z).flatten ↔ ∃r ∈ Z,e ∈ r.1:=by rw [← nU];exact fp
theorem jX:∀e ∈ bo (dP T N C S nx),∃y,((∃r ∈ T,y ∈ r.1)∨y ∈ bo N)∧e.1=y.1∧e.2.1=y.2.1:=fun e he=>by
 obtain ⟨r,hr,he'⟩:=fp.1 he
 obtain ⟨y,hy,e1,e2⟩:=rF r hr e he'
 refine ⟨y,?_,e1,e2⟩
 rcases hy with hy | hy
 · exact .inl (lC.1 hy)
 · exact .inr (by rw [nU];exact hy)
theorem ps (h:fq T N) (hN:cZ N 8 true q=true) (hT:∀r ∈ T,bH r.1 q=true) (hok:tw T N C S nx=true):cZ (dP T N C S nx) 8 true q=true:=by
 obtain ⟨n1,n2,n3⟩:=xw h (cP (cL.1 hN).2.1) hok;refine cL.2 ⟨by omega,su n1,fun r hr=>cW.2 (fun e he=>?_),fun _=>n3⟩;obtain ⟨y,hy,_,e2⟩:=rF r hr e he;rw [e2];rcases hy with hy | hy
 · obtain ⟨r',hr',hy'⟩:=lC.1 hy;exact cW.1 (hT r' hr') y hy'
 · obtain ⟨r',hr',hy'⟩:=lC.1 hy;exact cW.1 ((cL.1 hN).2.2.1 r' hr') y hy'
theorem ur {Y:List ac} (h:∀y ∈ Y,∃z,(∀x ∈ X,mX x z)∧y.1=z.1∧y.2.1=z.2.1):Ov X Y:=fun x hx y hy hk=>by
 obtain ⟨z,hz,e1,e2⟩:=h y hy
 have:=hz x hx (by rw [← e1];exact hk)
 omega
theorem oT {A B:List af} (h:aW q M [A,B,C] S=true) (hA:1≤A.length) (hok:tw A B C S 1=true):aW q M [[],dP A B C S 1,C] S=true:=by
 have hc:=zj h hA;obtain ⟨h1,h2,h3,h4,h5,h6,⟨ha,hb,hcc⟩,hp⟩:=dr.1 h;refine dr.2 ⟨h1,h2,h3,h4,h5,h6,⟨rfl,ps hc hb (cL.1 ha).2.2.1 hok,hcc⟩,?_⟩;rw [fX] at hp ⊢;obtain ⟨pM,pR⟩:=List.pairwise_cons.1 hp;obtain ⟨_,pBC,pX⟩:=List.pairwise_append.1 pR;have hBC:Ov (bo B) (bo C):=(List.pairwise_cons.1 pBC).1 _ (by simp);have hMA:∀r ∈ A,Ov M r.1:=fun r hr=>pM r.1 (List.mem_append_left _ (List.mem_map.2 ⟨r,List.mem_reverse.2 hr,rfl⟩))
 have hAC:∀r ∈ A,Ov r.1 (bo C):=fun r hr=>pX r.1 (List.mem_map.2 ⟨r,List.mem_reverse.2 hr,rfl⟩) _ (by simp)
 have hMB:Ov M (bo B):=pM _ (by simp);have hMC:Ov M (bo C):=pM _ (by simp);have hMN:Ov M (bo (dP A B C S 1)):=ur (fun y hy=>by
  obtain ⟨z,hz,e1,e2⟩:=jX y hy;refine ⟨z,fun x hx=>?_,e1,e2⟩;rcases hz with ⟨r,hr,hz⟩ | hz
  · exact hMA r hr x hx z hz
  · exact hMB x hx z hz)
 have hNC:Ov (bo (dP A B C S 1)) (bo C):=fun x hx y hy hk=>by
  obtain ⟨z,hz,e1,e2⟩:=jX x hx;have:y.2.1<z.2.1:=by
   rcases hz with ⟨r,hr,hz⟩ | hz
   · exact hAC r hr z hz y hy (by rw [← e1];exact hk)
   · exact hBC z hz y hy (by rw [← e1];exact hk)
  omega
 refine List.pairwise_cons.2 ⟨fun X hX=>?_,List.pairwise_cons.2 ⟨fun X hX=>?_,List.pairwise_singleton _ _⟩⟩
 · simp only [List.reverse_nil,List.map_nil,List.nil_append,List.mem_cons,List.not_mem_nil,or_false] at hX;rcases hX with rfl | rfl
   · exact hMN
   · exact hMC
 · rw [List.mem_singleton.1 hX];exact hNC
theorem oS {A B:List af} (h:aW q M [A,B,C] S=true) {p:Nat} (hpl:p<B.length) (hok:tw ((B.drop p).take 1) C C S 2=true):aW q M [A,B.take p++B.drop (p+1),dP ((B.drop p).take 1) C C S 2] S=true:=by
 have hc:=zi h hpl;obtain ⟨h1,h2,h3,h4,h5,h6,⟨ha,hb,hcc⟩,hp⟩:=dr.1 h;obtain ⟨b1,b2,b3,b4⟩:=cL.1 hb;have hT:∀r ∈ (B.drop p).take 1,r ∈ B:=fun r hr=>List.mem_of_mem_drop (List.mem_of_mem_take hr)
 have hsub:(B.take p++B.drop (p+1)).Sublist B:=by
  have e:B.take p++B.drop p=B:=List.take_append_drop p B;conv=>rhs;rw [← e]
  exact List.Sublist.append (List.Sublist.refl _) (by rw [← List.drop_drop];exact List.drop_sublist _ _)
 have hfar:=ou (b4 rfl) (js (cP b2));have hB':cZ (B.take p++B.drop (p+1)) 8 true q=true:=cL.2 ⟨by have:=hsub.length_le;omega,su (fun r hr=>cP b2 r (hsub.subset hr)),fun r hr=>b3 r (hsub.subset hr),fun _=>sE (List.Pairwise.sublist hsub hfar)⟩;refine dr.2 ⟨h1,h2,h3,h4,h5,h6,⟨ha,hB',ps hc hcc (fun r hr=>b3 r (hT r hr)) hok⟩,?_⟩;rw [fX] at hp ⊢;obtain ⟨pM,pR⟩:=List.pairwise_cons.1 hp;obtain ⟨pA,pBC,pX⟩:=List.pairwise_append.1 pR;have hBC:Ov (bo B) (bo C):=(List.pairwise_cons.1 pBC).1 _ (by simp);have hup:∀(X:List ac),Ov X (bo B)→Ov X (bo C)→Ov X (bo (B.take p++B.drop (p+1)))∧Ov X (bo (dP ((B.drop p).take 1) C C S 2)):=fun X x1 x2=>by
  refine ⟨fun x hx y hy=>?_,ur (fun y hy=>?_)⟩
  · obtain ⟨r,hr,hy'⟩:=fp.1 hy;exact x1 x hx y (fp.2 ⟨r,hsub.subset hr,hy'⟩)
  · obtain ⟨z,hz,e1,e2⟩:=jX y hy;refine ⟨z,fun x hx=>?_,e1,e2⟩;rcases hz with ⟨r,hr,hz⟩ | hz
    · exact x1 x hx z (fp.2 ⟨r,hT r hr,hz⟩)
    · exact x2 x hx z hz
 have hin:∀{r:af} {e:ac},r ∈ B→e ∈ r.1→eR (ba r.1) e.1=true∧eR e.1 (aP r.1)=true:=fun {r e} hr he=>dM (eo (js (cP b2) r hr).1) he
 have hlast:Ov (bo (B.take p++B.drop (p+1))) (bo (dP ((B.drop p).take 1) C C S 2)):=fun x hx y hy hk=>by
  obtain ⟨z,hz,e1,e2⟩:=jX y hy;rcases hz with ⟨r,hr,hz⟩ | hz
  · exfalso
    have hrB:B[p]?=some r:=by
     obtain ⟨t,ht⟩:=List.getElem?_of_mem hr;have hl:=(List.getElem?_eq_some_iff.1 ht).1;rw [List.length_take] at hl;rw [List.getElem?_take_of_lt (by omega),List.getElem?_drop] at ht;rw [show p=p+t by omega];exact ht
    obtain ⟨s,hs,hx'⟩:=fp.1 hx;have hkz:x.1=z.1:=hk.trans e1;have no:∀{u v:Nat} {a b:af} {ea eb:ac},u<v→B[u]?=some a→B[v]?=some b→ea ∈ a.1→eb ∈ b.1→ea.1=eb.1→False:=fun {u v a b ea eb} huv hu hv h7 h8 h9=>by
     have hvl:=(List.getElem?_eq_some_iff.1 hv).1;have f1:=eu (b4 rfl) (js (cP b2)) (v - u - 1) u (by omega) a b hu (by rw [show u+(v - u - 1+1)=v by omega];exact hv);have g1:=(hin (List.mem_of_getElem? hu) h7).2;have g2:=(hin (List.mem_of_getElem? hv) h8).1;have g3:=fQ g1 f1;rw [dh] at g2;rw [h9] at g3;rw [g3] at g2;cases g2
    rcases List.mem_append.1 hs with hs | hs
    · obtain ⟨u,hu⟩:=List.getElem?_of_mem hs;have hl:=(List.getElem?_eq_some_iff.1 hu).1;rw [List.length_take] at hl;rw [List.getElem?_take_of_lt (by omega)] at hu;exact no (by omega) hu hrB hx' hz hkz
    · obtain ⟨u,hu⟩:=List.getElem?_of_mem hs;rw [List.getElem?_drop] at hu;exact no (by omega) hrB hu hz hx' hkz.symm
  · have:=hBC x (by obtain ⟨s,hs,hx'⟩:=fp.1 hx;exact fp.2 ⟨s,hsub.subset hs,hx'⟩) z hz (hk.trans e1);omega
 refine List.pairwise_cons.2 ⟨fun X hX=>?_,List.pairwise_append.2 ⟨pA,List.pairwise_cons.2 ⟨fun X hX=>?_,List.pairwise_singleton _ _⟩,fun a ha' b hb'=>?_⟩⟩
 · rcases List.mem_append.1 hX with hX | hX
   · exact pM X (List.mem_append_left _ hX)
   · have:=hup M (pM _ (by simp)) (pM _ (by simp));rcases List.mem_cons.1 hX with rfl | hX
     · exact this.1
     · rw [List.mem_singleton.1 hX];exact this.2
 · rw [List.mem_singleton.1 hX];exact hlast
 · have:=hup a (pX a ha' _ (by simp)) (pX a ha' _ (by simp));rcases List.mem_cons.1 hb' with rfl | hb'
   · exact this.1
   · rw [List.mem_singleton.1 hb'];exact this.2
end Go.Proofs.YtpobkmjicbobdaaGreat
