/- Walks. -/
import Derived.Test.YtpobkmjicbobdaaGreatBc18
namespace Go.Proofs.YtpobkmjicbobdaaGreat
set_option maxRecDepth 100000
set_option maxHeartbeats 40000000
open Go.RowKit
variable {C N T Z:List aj} {K L M X:List ae} {S:List Int} {e:ae} {nx p q:Int}
theorem dF {A B:List aj}:aY q M [A,B,C] S=true ↔ 0≤q∧q≤100000∧M.length≤60∧aJ M=true∧bX M q=true∧cC S q=true∧(dG A 4 false q=true∧dG B 8 true q=true∧dG C 8 true q=true)∧(eP M [A,B,C]).Pairwise Ov:=by
 rw [← yM];unfold aY ef;simp only [FJ,decide_eq_true_eq,F5,Gz,Nat.reduceAdd,true_and]
theorem dh:bX L q=true ↔ ∀e ∈ L,e.2.1≤q:=by
 unfold bX;simp only [FZ,decide_eq_true_eq]
theorem yO (h:bX L q=true) (hp:q≤p):bX L p=true:=dh.2 (fun e b=>by have:=dh.1 h e b;omega)
theorem tm {B:List aj} {b:Int} {d:Bool} (h:dG B b d q=true) (hp:q≤p):dG B b d p=true:=by
 rw [cE] at h ⊢;exact ⟨h.1,h.2.1,fun r hr=>yO (h.2.2.1 r hr) hp,h.2.2.2⟩
theorem Dn (h:cC S q=true) (hp:q≤p):cC S p=true:=by
 unfold cC at h ⊢;rw [FJ] at h ⊢;refine ⟨h.1,?_⟩;rw [FZ] at h ⊢;intro j b;have h1:=h.2 j b;unfold cV at h1 ⊢;cases hs:S[j]? with
 | none=>rfl
 | some s =>
  rw [hs] at h1;simp only [FJ,decide_eq_true_eq] at h1 ⊢;exact ⟨h1.1,by omega,h1.2.2⟩
theorem Dq {A B:List ae} (h:Ov A X) (hf:∀e ∈ B,∃y ∈ A,e.1=y.1∧e.2.1=y.2.1):Ov B X:=fun x hx y hy hk=>by
 obtain ⟨z,hz,h1,h2⟩:=hf x hx
 have:=h z hz y hy (by rw [← h1];exact hk)
 omega
theorem j9 (S:List Int) (b:Bool):∀e ∈ bU L S b,∃y ∈ L,e.1=y.1∧e.2.1=y.2.1 :=
 pm (fun e=>∃y ∈ L,e.1=y.1∧e.2.1=y.2.1) S b (fun b c hc _ x hx=>by
  obtain ⟨y,hy,h1,h2⟩:=DJ b c x hx
  exact ⟨y,hc y hy,h1,h2⟩)
theorem iy (M:List ae) (A B C:List aj):eP M [A,B,C]=M :: (A.reverse.map (·.1)++[bi B,bi C]):=rfl
theorem vS {A B:List aj} (h:aY q M [A,B,C] S=true) (hM:M≠[]) (hA:A.length<4):aY q [] [A++[lK M S],B,C] S=true:=by
 obtain ⟨h1,h2,h3,h4,h5,h6,⟨ha,hb,hc⟩,hp⟩:=dF.1 h;refine dF.2 ⟨h1,h2,by simp,rfl,rfl,h6,⟨?_,hb,hc⟩,?_⟩
 · rw [cE] at ha ⊢;refine ⟨by simp;omega,?_,fun r hr=>?_,fun e=>by cases e⟩
   · unfold eT;rw [Hc];intro r hr;rcases FI.1 hr with hr | hr
     · simpa using dt ha.2.1 r hr
     · rw [FL.1 hr];have e1:1≤(bU M S false).length:=List.length_pos_iff.2 (uj h4 hM S);have e2:(bU M S false).length≤150:=FK (jH M S false) (by omega);have e4:cF (bU M S false) ((du (bU M S false):Nat):Int)=true:=by
        unfold cF;rw [jd h4 S false,decide_eq_true e1,decide_eq_true e2];simp
       simp only [lK,e4];simp
   · rcases FI.1 hr with hr | hr
     · exact ha.2.2.1 r hr
     · rw [FL.1 hr];refine dh.2 (fun e f=>?_);obtain ⟨y,hy,_,g⟩:=j9 S false e f;have:=dh.1 h5 y hy;omega
 · rw [iy] at hp ⊢;rw [List.reverse_append];have b:=FR.1 hp;refine FR.2 ⟨(fun X _ x hx=>by cases hx),?_⟩;show (bU M S false :: (A.reverse.map (·.1)++[bi B,bi C])).Pairwise Ov
   exact FR.2 ⟨fun X d=>Dq (b.1 X d) (j9 S false),b.2⟩
theorem f7:cC S q=true ↔ S.length≤4∧(∀s ∈ S,0≤s∧s≤q)∧S.Pairwise (·<·):=by
 unfold cC;simp only [FJ,decide_eq_true_eq,FZ,Gh];constructor
 · rintro ⟨h1,h2⟩;have hs:∀j (b:j<S.length),0≤S[j]∧S[j]≤q:=fun j b=>by
    have h3:=h2 j b;unfold cV at h3;rw [j' b] at h3;simp only [FJ,decide_eq_true_eq] at h3;exact ⟨h3.1,h3.2.1⟩
   have hn:∀j (b:j+1<S.length),S[j]<S[j+1]:=fun j b=>by
    have h3:=h2 (j+1) b;rw [ki (j' b) (j' (by omega))] at h3;simp only [FJ,decide_eq_true_eq] at h3;exact h3.2.2
   refine ⟨h1,fun s f=>by obtain ⟨j,b,rfl⟩:=F7 f;exact hs j b,?_⟩;rw [F2];intro i j hi b g;obtain ⟨d,rfl⟩:∃d,j=i+1+d:=⟨j - i - 1,by omega⟩;clear g;induction d with
   | zero=>exact hn i b
   | succ d m=>exact Int.lt_trans (m (by omega)) (hn (i+1+d) (by omega))
 · rintro ⟨h1,h2,h3⟩;rw [F2] at h3;refine ⟨h1,fun j b=>?_⟩;have h4:=h2 S[j] (F8 b);cases j with
   | zero=>rw [mO (j' b)];simp only [FJ,decide_eq_true_eq];exact h4
   | succ i =>
    rw [ki (j' b) (j' (by omega))];simp only [FJ,decide_eq_true_eq];exact ⟨h4.1,h4.2,h3 i (i+1) (by omega) b (by omega)⟩
theorem yR {A B:List aj} (h:aY q M [A,B,C] S=true) (hS:S.length<4) (hq:q ∉ S):aY q M [A,B,C] (S++[q])=true:=by
 obtain ⟨h1,h2,h3,h4,h5,h6,hr,hp⟩:=dF.1 h;refine dF.2 ⟨h1,h2,h3,h4,h5,?_,hr,hp⟩;obtain ⟨k1,k2,k3⟩:=f7.1 h6;refine f7.2 ⟨by simp;omega,fun s hs=>?_,Gl.2 ⟨k3,by simp,fun a ha b hb=>?_⟩⟩
 · rcases FI.1 hs with hs | hs
   · exact k2 s hs
   · rw [FL.1 hs];exact ⟨h1,Int.le_refl _⟩
 · rw [FL.1 hb];have h7:=(k2 a ha).2;have d:a≠q:=fun e=>hq (by rw [← e];exact ha)
   omega
theorem yS {A B:List aj} (h:aY q M [A,B,C] S=true) (x:Int):aY q M [A,B,C] (gG S x)=true:=by
 obtain ⟨h1,h2,h3,h4,h5,h6,hr,hp⟩:=dF.1 h;refine dF.2 ⟨h1,h2,h3,h4,h5,?_,hr,hp⟩;obtain ⟨k1,k2,k3⟩:=f7.1 h6;refine f7.2 ⟨FK (Cq S x) k1,fun s hs=>k2 s (Cp hs),?_⟩;exact GH List.filter_sublist k3
theorem Bt:∀(D M:List ae),D.foldl eE (bD M)=bD (M++D)
 | D,M=>by unfold bD;rw [List.foldl_append]
theorem vX (h:e ∈ fs q K):∃i,i<K.length∧e.2.1=q+1+i:=by
 obtain ⟨i,hi,rfl⟩:=F7 h;rw [fJ] at hi;exact ⟨i,hi,by simp [fs,EL]⟩
theorem y7 (q:Int) (K:List ae):fS (fs q K):=by
 unfold fS;rw [F2];intro i j hi d b h;have h2:=h.2;simp [fs,EL] at h2;omega
theorem vR {A B:List aj} (h:aY q M [A,B,C] S=true) (hw:gX q M K=true):aY (q+K.length) ((fs q K).foldl eE M) [A,B,C] S=true:=by
 obtain ⟨h1,h2,h3,h4,h5,h6,⟨ha,hb,hc⟩,hp⟩:=dF.1 h;unfold gX at hw;simp only [FJ,decide_eq_true_eq] at hw;obtain ⟨Q,O,J,E⟩:=hw;have hM:=v6 h4;have e:(fs q K).foldl eE M=bD (M++fs q K):=by
  have:=Bt (fs q K) M;rw [hM] at this;exact this
 have hK:(K.length:Int)=((fs q K).length:Int):=by rw [fJ]
 have hs:∀x ∈ fs q K,dm x.1 x.2.1 x.2.2.1 x.2.2.2.1 x.2.2.2.2=true:=fun x hx=>by
  obtain ⟨i,hi⟩:=F' hx;exact yY E hi
 have hq:q+K.length≤100000:=by
  obtain ⟨x,hx⟩:∃x,(fs q K)[K.length - 1]?=some x:=⟨_,j' (by rw [fJ];omega)⟩;have h7:=hs x (Fw hx);have s:=(mv h7).2;have R:x.2.1=q+1+((K.length - 1:Nat):Int):=by
   have:=(E'.1 hx).2;rw [← this];simp [fs,EL]
  omega
 have H:fS (M++fs q K):=by
  refine Gl.2 ⟨tc h4,y7 q K,fun a n b t o=>?_⟩;have h7:=dh.1 h5 a n;obtain ⟨i,_,s⟩:=vX t;have:=o.2;omega
 have hr:aJ (bD (M++fs q K))=true:=by
  obtain ⟨k1,k2⟩:=bO (M++fs q K);refine gK (mK k1 (iu H k2.symm)) (fun x hx=>?_);rcases FI.1 (k2.subset hx) with h7 | h7
  · obtain ⟨j,I⟩:=F' h7;exact d9 h4 I
  · exact hs x h7
 have d:∀x ∈ bD (M++fs q K),x ∈ M∨x ∈ fs q K:=fun x hx=>FI.1 ((bO _).2.subset hx)
 rw [e];refine dF.2 ⟨by omega,hq,?_,hr,?_,Dn h6 (by omega),⟨tm ha (by omega),tm hb (by omega),tm hc (by omega)⟩,?_⟩
 · rw [kf,Fy,fJ];exact J
 · refine dh.2 (fun x hx=>?_);rcases d x hx with h7 | h7
   · have:=dh.1 h5 x h7;omega
   · obtain ⟨i,hi,s⟩:=vX h7;omega
 · rw [iy] at hp ⊢;have m:=FR.1 hp;refine FR.2 ⟨fun X f x hx y hy hk=>?_,m.2⟩;rcases d x hx with h7 | h7
   · exact m.1 X f x h7 y hy hk
   · obtain ⟨i,_,s⟩:=vX h7;have:y.2.1≤q:=by
      rcases FI.1 f with f | f
      · obtain ⟨r,g,rfl⟩:=Gp.1 f;exact dh.1 ((cE.1 ha).2.2.1 r (Hm.1 g)) y hy
      · have hf:∀{Z:List aj},dG Z 8 true q=true→y ∈ bi Z→y.2.1≤q:=fun {Z} F u=>by
         obtain ⟨r,g,D⟩:=He.1 u;exact dh.1 ((cE.1 F).2.2.1 r g) y D
        rcases FF.1 f with rfl | f
        · exact hf hb hy
        · rw [FL.1 f] at hy;exact hf hc hy
     omega
theorem td {A B:List aj} (htb:aY q M [A,B,C] S=true):(A.length≤4∧B.length≤8∧C.length≤8)∧(∀Z ∈ [A,B,C],∀r ∈ Z,cF r.1 r.2=true)∧bu B=true∧bu C=true:=by
 have b:ef [A,B,C] q=true:=(aZ htb).2.2.2.2.2.2.2.1;unfold ef at b;simp only [FJ] at b;obtain ⟨hA,hB,hC⟩:=b;rw [cE] at hA hB hC;have hb:∀{Z:List aj},eT Z=false→∀r ∈ Z,cF r.1 r.2=true:=fun {Z} h r hr=>by
  unfold eT at h;rw [Hc] at h;simpa using h r hr
 refine ⟨⟨by have:=hA.1;omega,by have:=hB.1;omega,by have:=hC.1;omega⟩,fun Z d=>?_,hB.2.2.2 rfl,hC.2.2.2 rfl⟩;simp only [FF,F4,or_false] at d;rcases d with rfl | rfl | rfl
 · exact hb hA.2.1
 · exact hb hB.2.1
 · exact hb hC.2.1
theorem qm (B:List aj):bi B=(bG B).flatten:=rfl
theorem xY {A B:List aj} (htb:aY q M [A,B,C] S=true):fS ((bG A).flatten++((bG B).flatten++(bG C).flatten)):=by
 have h:=iu (jE htb) (ic M A B C);exact GH (List.sublist_append_right _ _) h
theorem ly (h:∀r ∈ Z,cF r.1 r.2=true):∀r ∈ Z,aJ r.1=true∧1≤r.1.length:=fun r hr=>⟨(bF (h r hr)).2.2.1,(bF (h r hr)).1⟩
theorem D6 {A B:List aj} (htb:aY q M [A,B,C] S=true) (hA:1≤A.length):gJ A B:=by
 obtain ⟨_,h2,h3,_⟩:=td htb;exact ⟨hA,ly (h2 A (by simp)),ly (h2 B (by simp)),h3,GH (Hl (G3 _) (List.sublist_append_left _ _)) (xY htb)⟩
theorem D5 {A B:List aj} (htb:aY q M [A,B,C] S=true) {p:Nat} (hp:p<B.length):gJ ((B.drop p).take 1) C:=by
 obtain ⟨_,h2,_,h4⟩:=td htb;have hs:((B.drop p).take 1).Sublist B:=(List.take_sublist _ _).trans (Hy _ _);refine ⟨by rw [FC,FN];omega,fun r hr=>ly (h2 B (by simp)) r (hs.subset hr),ly (h2 C (by simp)),h4,?_⟩;exact GH ((Hl (nu (hs.map _)) (G3 _)).trans (List.sublist_append_right _ _)) (xY htb)
theorem zK (h:∀r ∈ Z,r.1.length≤150):(bG Z).flatten.length≤150*Z.length:=by
 induction Z with
 | nil=>simp [bG]
 | cons r Z b =>
  have h1:=h r (by simp);have h2:=b (fun x hx=>h x (by simp [hx]));simp only [bG,Gx,GA,Fy,F5] at h2 ⊢;omega
theorem yL (d:∀r ∈ T,r.1.length≤150) (b:∀r ∈ N,r.1.length≤150) (hl:T.length+N.length≤100):(bG (dQ T N)).flatten.length≤100000:=by
 have h:=zK (Z:=dQ T N) (fun r hr=>by
  rcases FI.1 hr with h1 | h1
  · exact d r h1
  · exact b r ((lG T N).subset h1))
 have h2:(dQ T N).length≤T.length+N.length:=by
  unfold dQ;rw [Fy];have:=(lG T N).length_le;omega
 omega
theorem l8 {V:List (List aj)} (htb:aY q M V S=true):S.length≤4:=by
 have h1:=(aZ htb).2.2.2.2.2.2.1;unfold cC at h1;rw [FJ] at h1;exact of_decide_eq_true h1.1
def AJ (x y:aj):Prop:=Op.bytesLess (aU x.1).toList (bn y.1).toList=true
theorem qH (h:bu Z=true) (b:∀r ∈ Z,aJ r.1=true∧1≤r.1.length):Z.Pairwise AJ:=by
 rw [F2];intro i j hi f d;exact fc h b (j - i - 1) i (by omega) _ _ (j' hi) (by rw [show i+(j - i - 1+1)=j by omega];exact j' f)
theorem vE (h:Z.Pairwise AJ):bu Z=true:=by
 unfold bu;rw [FZ];intro i hi;have hl:=Gh.1 hi;cases i with
 | zero=>unfold li iE;rw [j' hl]
 | succ i =>
  rw [k9 (j' hl) (by omega) (by rw [GG];exact j' (by omega))];exact F2.1 h i (i+1) (by omega) hl (by omega)
theorem zF (ha:bu N=true) (d:∀r ∈ N,cF r.1 r.2=true) (k1 k2:ByteArray):∃i j,f5 N k1 k2 i j:=by
 refine ⟨N.findIdx (fun r=>!Op.bytesLess (aU r.1).toList k1.toList),N.findIdx (fun r=>Op.bytesLess k2.toList (bn r.1).toList),List.findIdx_le_length,List.findIdx_le_length,fun t r b=>⟨fun h=>?_,fun h=>?_,fun h=>?_,fun h=>?_⟩⟩
 · have h1:=List.not_of_lt_findIdx h;have hr:=(E'.1 b).2;rw [hr] at h1;simpa using h1
 · have hl:=(E'.1 b).1;have h1:=List.findIdx_getElem (w:=Hu h hl);cases hc:Op.bytesLess (aU r.1).toList k1.toList with
   | false=>rfl
   | true =>
    have:=yq ha d (j' (Hu h hl)) b h k1 hc;rw [this] at h1;cases h1
 · have h1:=List.not_of_lt_findIdx h;have hr:=(E'.1 b).2;rw [hr] at h1;simpa using h1
 · have hl:=(E'.1 b).1;have h1:=List.findIdx_getElem (w:=Hu h hl);exact BK ha d (j' (Hu h hl)) b h k2 h1
theorem xe {a b:ByteArray} (h:fH a b=true) (hn:a≠b):Op.bytesLess a.toList b.toList=true:=by
 cases hl:Op.bytesLess a.toList b.toList with
 | true=>rfl
 | false =>
  have h2:fH b a=true:=by rw [dL,hl];rfl
  exact absurd (pS h h2) hn
theorem sS (L:List ae):∀k,k≤L.length→(∀r ∈ (fl L k).1,∃a b,a<b∧b≤(fl L k).2∧r=eO L a b∧(b<L.length→iQ L b≠iQ L (b - 1)))∧(fl L k).1.Pairwise (fun r s=>∃a b c d,a<b∧b≤c∧c<d∧d≤L.length∧r=eO L a b∧s=eO L c d∧iQ L b≠iQ L (b - 1))∧(fl L k).2≤k
 | 0,_=>⟨(fun r h=>by cases h),List.Pairwise.nil,Fv _⟩
 | k+1,hk=>by
  obtain ⟨h2,h3,h1⟩:=sS L k (by omega)
  obtain ⟨B,f,hB⟩:∃B f,fl L k=(B,f):=⟨_,_,rfl⟩
  rw [hB] at h1 h2 h3
  simp only at h1 h2 h3
  cases hc:gP L f (k+1) with
  | false=>rw [tS hB hc];exact ⟨h2,h3,by omega⟩
  | true =>
   rw [qB hB hc]
   refine ⟨fun r hr=>?_,?_,Fv _⟩
   · rcases FI.1 hr with h | h
     · obtain ⟨a,b,x1,n,g,m⟩:=h2 r h
       exact ⟨a,b,x1,by show b≤k+1;omega,g,m⟩
     · rw [FL] at h
       refine ⟨f,k+1,by omega,Fv _,h,fun hl e=>?_⟩
       unfold gP at hc
       simp only [Hi,FJ,decide_eq_true_eq,Hq,decide_eq_false_iff_not] at hc
       rcases hc with hc | hc
       · omega
       · exact hc.2 e
   · rw [Gl]
     refine ⟨h3,Hg _ _,fun r hr s hs=>?_⟩
     rw [FL] at hs
     obtain ⟨a,b,x1,n,g,m⟩:=h2 r hr
     exact ⟨a,b,f,k+1,x1,n,by omega,hk,g,hs,m (by omega)⟩
theorem wN {a b:Nat} (d:a<b) (hb:b≤L.length):aU (eO L a b).1=iQ L (b - 1):=by
 unfold aU iQ;rw [rU hb];show (match ((L.drop a).take (b - a))[b - a - 1]? with | some e=>e.1 | none=>⟨#[]⟩)=_
 rw [Ge (by omega),Gg,show a+(b - a - 1)=b - 1 by omega];cases L[b - 1]? <;> rfl
theorem DH (hw:mC L):(dM L).Pairwise AJ:=by
 refine (sS L L.length (Fv _)).2.1.imp ?_;rintro r s ⟨a,b,c,d,h1,h2,h3,h4,rfl,rfl,h5⟩;unfold AJ;rw [wN h1 (by omega),mU h3];have e1:=mI hw (a:=b - 1) (c:=b) (by omega) (by omega);have e2:=mI hw (a:=b) (c:=c) (by omega) (by omega);have e3:=xe e1 (fun e=>h5 e.symm);rcases Hi _ _ ▸ (show (Op.bytesLess (iQ L b).toList (iQ L c).toList || (iQ L b).toList == (iQ L c).toList)=true from e2) with e | e
 · exact cw _ _ _ e3 e
 · have:(iQ L b).toList=(iQ L c).toList:=by simpa using e
   rw [← this];exact e3
theorem pJ:∀r ∈ dX T N C S nx,∀e ∈ r.1,∃y,(y ∈ (bG T).flatten∨y ∈ (bG N).flatten)∧e.1=y.1∧e.2.1=y.2.1:=by
 intro r hr e d;rcases kH _ _ hr with h1 | h1
 · exact ⟨e,.inr (GZ.2 ⟨r.1,Gp.2 ⟨r,(Hj.1 h1).1,rfl⟩,d⟩),rfl,rfl⟩
 · obtain ⟨y,hy,e1,e2⟩:=j9 S _ e (tP h1 e d);have b:=(bO _).2.subset hy;unfold dQ at b;rw [mW] at b;refine ⟨y,?_,e1,e2⟩;rcases FI.1 b with h2 | h2
   · exact .inl h2
   · exact .inr ((nu ((lG T N).map _)).subset h2)
theorem uP (h:aJ L=true) (a b:Nat):aJ (eO L a b).1=true:=by
 have hs:((L.drop a).take (b - a)).Sublist L:=(List.take_sublist _ _).trans (Hy _ _);refine gK (GH hs (gS h)) (fun e d=>?_);obtain ⟨j,f⟩:=F' (hs.subset d);exact d9 h f
theorem BD (h:gJ T N) (W:∀r ∈ N,cF r.1 r.2=true) (g:wT T N C S nx=true):(∀r ∈ dX T N C S nx,cF r.1 r.2=true)∧(dX T N C S nx).length≤8∧bu (dX T N C S nx)=true:=by
 have s:=jd h.right S (ln T N C nx);unfold wT at g;rw [FJ,decide_eq_true_eq] at g;refine ⟨fun r hr=>?_,g.2,?_⟩
 · have hf:=g.1;unfold ik at hf;have B:=of_decide_eq_true ((FZ.1 hf) r hr);rcases kH _ _ hr with h1 | h1
   · exact W r (Hj.1 h1).1
   · have hn:=nH h1;obtain ⟨a,b,x1,x2,rfl⟩:=tQ h1;unfold cF;rw [decide_eq_true hn,decide_eq_true B,show aJ (eO (um T N C S nx) a b).1=true from uP s a b];simp [eO]
 · obtain ⟨i,j,hm⟩:=zF h.ap W (iP T) (fC T);rw [h.runs C S nx hm];have n:=qH h.ap h.nok;obtain ⟨a1,O,R⟩:=h.cut hm;have A:=tp h.t0 h.tok;have U:∀r ∈ T,∀x ∈ r.1,fH (iP T) x.1=true∧fH x.1 (fC T)=true:=fun r hr x hx=>by
    have:=eF (bO (bG T).flatten).1 (e:=x) ((bO _).2.symm.subset (GZ.2 ⟨r.1,Gp.2 ⟨r,hr,rfl⟩,hx⟩));rwa [A.1,A.2] at this
   have E:∀r ∈ Dz T N,∃t,i≤t∧t<j∧N[t]?=some r:=fun r hr=>by
    rw [O] at hr;obtain ⟨t,J⟩:=F' hr;have hl:=(E'.1 J).1;rw [FC,FN] at hl;rw [Ge (by omega),Gg] at J;exact ⟨i+t,by omega,by omega,J⟩
   have H:∀{a b c:ByteArray},Op.bytesLess a.toList b.toList=true→fH b c=true→Op.bytesLess a.toList c.toList=true:=fun {a b c} h1 h2=>by
    unfold fH at h2;rw [Hi] at h2;rcases h2 with h2 | h2
    · exact cw _ _ _ h1 h2
    · have e:b.toList=c.toList:=by simpa using h2
      rw [← e];exact h1
   have m:∀r ∈ dM (um T N C S nx),∀e ∈ r.1,(∀(u:Nat) (x:aj),u<i→N[u]?=some x→Op.bytesLess (aU x.1).toList e.1.toList=true)∧(∀(u:Nat) (z:aj),j≤u→N[u]?=some z→Op.bytesLess e.1.toList (bn z.1).toList=true):=fun r hr e F=>by
    obtain ⟨o,I,y,hy,e2⟩:=te (tP hr e F);rw [← e2];refine ⟨fun u x d hx=>?_,fun u z d hz=>?_⟩
    · rcases FI.1 I with h1 | h1
      · exact H ((hm.2.2 _ _ hx).1 d) (U o h1 y hy).1
      · obtain ⟨t,t1,Y,t3⟩:=E o h1;have f:=h.nok _ (Fw t3);have a3:=(E'.1 t3).1;exact H (fc h.ap h.nok (t - u - 1) u (by omega) x o hx (by rw [show u+(t - u - 1+1)=t by omega];exact t3)) (eF (eY f.1) hy).1
    · rcases FI.1 I with h1 | h1
      · exact ig (U o h1 y hy).2 ((hm.2.2 _ _ hz).2.2.2 d)
      · obtain ⟨t,t1,Y,t3⟩:=E o h1;have f:=h.nok _ (Fw t3);have a2:=(E'.1 hz).1;exact ig (eF (eY f.1) hy).2 (fc h.ap h.nok (u - t - 1) t (by omega) o z t3 (by rw [show t+(u - t - 1+1)=u by omega];exact hz))
   refine vE (Gl.2 ⟨Gl.2 ⟨GH (List.take_sublist _ _) n,DH (eY s),fun x hx r hr=>?_⟩,GH (Hy _ _) n,fun x hx z hz=>?_⟩)
   · obtain ⟨u,d⟩:=F' hx;have D:=(E'.1 d).1;rw [FC] at D;rw [Ge (by omega)] at d;obtain ⟨e,F,e1⟩:=lF (nH hr);unfold AJ;rw [e1];exact (m r hr e F).1 u x (by omega) d
   · obtain ⟨u,d⟩:=F' hz;rw [Gg] at d;have D:=(E'.1 d).1;rcases FI.1 hx with h1 | h1
     · obtain ⟨v,hv⟩:=F' h1;have Q:=(E'.1 hv).1;rw [FC] at Q;rw [Ge (by omega)] at hv;exact fc h.ap h.nok (j+u - v - 1) v (by omega) x z hv (by rw [show v+(j+u - v - 1+1)=j+u by omega];exact d)
     · have hn:=nH h1;obtain ⟨e,F,e1⟩:∃e ∈ x.1,aU x.1=e.1:=by
        have hl:x.1.length - 1<x.1.length:=by omega
        exact ⟨x.1[x.1.length - 1],F8 hl,by unfold aU;rw [j' hl]⟩
       unfold AJ;rw [e1];exact (m x h1 e F).2 (j+u) z (by omega) d
theorem vx (h:∀r ∈ Z,cF r.1 r.2=true):eT Z=false:=by
 unfold eT;rw [Hc];intro r hr;simp [h r hr]
theorem gF:e ∈ bi Z ↔ ∃r ∈ Z,e ∈ r.1:=He
theorem kL:e ∈ (bG Z).flatten ↔ ∃r ∈ Z,e ∈ r.1:=by rw [← qm];exact gF
theorem mi:∀e ∈ bi (dX T N C S nx),∃y,((∃r ∈ T,y ∈ r.1)∨y ∈ bi N)∧e.1=y.1∧e.2.1=y.2.1:=fun e d=>by
 obtain ⟨r,hr,b⟩:=gF.1 d
 obtain ⟨y,hy,e1,e2⟩:=pJ r hr e b
 refine ⟨y,?_,e1,e2⟩
 rcases hy with hy | hy
 · exact .inl (kL.1 hy)
 · exact .inr (by rw [qm];exact hy)
theorem rW (h:gJ T N) (m:dG N 8 true q=true) (n:∀r ∈ T,bX r.1 q=true) (g:wT T N C S nx=true):dG (dX T N C S nx) 8 true q=true:=by
 obtain ⟨o,n2,t⟩:=BD h (dt (cE.1 m).2.1) g;refine cE.2 ⟨by omega,vx o,fun r hr=>dh.2 (fun e s=>?_),fun _=>t⟩;obtain ⟨y,hy,_,e2⟩:=pJ r hr e s;rw [e2];rcases hy with hy | hy
 · obtain ⟨f,b,d⟩:=kL.1 hy;exact dh.1 (n f b) y d
 · obtain ⟨f,b,d⟩:=kL.1 hy;exact dh.1 ((cE.1 m).2.2.1 f b) y d
theorem yg {Y:List ae} (h:∀y ∈ Y,∃z,(∀x ∈ X,pF x z)∧y.1=z.1∧y.2.1=z.2.1):Ov X Y:=fun x hx y hy hk=>by
 obtain ⟨z,hz,e1,e2⟩:=h y hy
 have:=hz x hx (by rw [← e1];exact hk)
 omega
theorem qW {A B:List aj} (h:aY q M [A,B,C] S=true) (hA:1≤A.length) (n:wT A B C S 1=true):aY q M [[],dX A B C S 1,C] S=true:=by
 have hc:=D6 h hA;obtain ⟨h1,h2,h3,h4,h5,h6,⟨ha,hb,g⟩,hp⟩:=dF.1 h;refine dF.2 ⟨h1,h2,h3,h4,h5,h6,⟨rfl,rW hc hb (cE.1 ha).2.2.1 n,g⟩,?_⟩;rw [iy] at hp ⊢;obtain ⟨f,F⟩:=FR.1 hp;obtain ⟨_,s,H⟩:=Gl.1 F;have u:Ov (bi B) (bi C):=(FR.1 s).1 _ (by simp);have D:∀r ∈ A,Ov M r.1:=fun r hr=>f r.1 (Hz _ (Gp.2 ⟨r,Hm.2 hr,rfl⟩))
 have o:∀r ∈ A,Ov r.1 (bi C):=fun r hr=>H r.1 (Gp.2 ⟨r,Hm.2 hr,rfl⟩) _ (by simp)
 have m:Ov M (bi B):=f _ (by simp);have E:Ov M (bi C):=f _ (by simp);have d:Ov M (bi (dX A B C S 1)):=yg (fun y hy=>by
  obtain ⟨z,hz,e1,e2⟩:=mi y hy;refine ⟨z,fun x hx=>?_,e1,e2⟩;rcases hz with ⟨r,hr,hz⟩ | hz
  · exact D r hr x hx z hz
  · exact m x hx z hz)
 have t:Ov (bi (dX A B C S 1)) (bi C):=fun x hx y hy hk=>by
  obtain ⟨z,hz,e1,e2⟩:=mi x hx;have:y.2.1<z.2.1:=by
   rcases hz with ⟨r,hr,hz⟩ | hz
   · exact o r hr z hz y hy (by rw [← e1];exact hk)
   · exact u z hz y hy (by rw [← e1];exact hk)
  omega
 refine FR.2 ⟨fun X b=>?_,FR.2 ⟨fun X b=>?_,Hg _ _⟩⟩
 · simp only [List.reverse_nil,GO,Gb,FF,F4,or_false] at b;rcases b with rfl | rfl
   · exact d
   · exact E
 · rw [FL.1 b];exact t
theorem qV {A B:List aj} (h:aY q M [A,B,C] S=true) {p:Nat} (a1:p<B.length) (Q:wT ((B.drop p).take 1) C C S 2=true):aY q M [A,B.take p++B.drop (p+1),dX ((B.drop p).take 1) C C S 2] S=true:=by
 have hc:=D5 h a1;obtain ⟨h1,h2,h3,h4,h5,h6,⟨ha,hb,a2⟩,hp⟩:=dF.1 h;obtain ⟨b1,b2,b3,b4⟩:=cE.1 hb;have hT:∀r ∈ (B.drop p).take 1,r ∈ B:=fun r hr=>Gf (F9 hr)
 have d:(B.take p++B.drop (p+1)).Sublist B:=by
  have e:B.take p++B.drop p=B:=FX p B;conv=>rhs;rw [← e]
  exact Hl (G3 _) (by rw [← GP];exact Hy _ _)
 have I:=qH (b4 rfl) (ly (dt b2));have U:dG (B.take p++B.drop (p+1)) 8 true q=true:=cE.2 ⟨by have:=d.length_le;omega,vx (fun r hr=>dt b2 r (d.subset hr)),fun r hr=>b3 r (d.subset hr),fun _=>vE (GH d I)⟩;refine dF.2 ⟨h1,h2,h3,h4,h5,h6,⟨ha,U,rW hc a2 (fun r hr=>b3 r (hT r hr)) Q⟩,?_⟩;rw [iy] at hp ⊢;obtain ⟨pM,pR⟩:=FR.1 hp;obtain ⟨pA,R,pX⟩:=Gl.1 pR;have a4:Ov (bi B) (bi C):=(FR.1 R).1 _ (by simp);have H:∀(X:List ae),Ov X (bi B)→Ov X (bi C)→Ov X (bi (B.take p++B.drop (p+1)))∧Ov X (bi (dX ((B.drop p).take 1) C C S 2)):=fun X x1 x2=>by
  refine ⟨fun x hx y hy=>?_,yg (fun y hy=>?_)⟩
  · obtain ⟨r,hr,W⟩:=gF.1 hy;exact x1 x hx y (gF.2 ⟨r,d.subset hr,W⟩)
  · obtain ⟨z,hz,e1,e2⟩:=mi y hy;refine ⟨z,fun x hx=>?_,e1,e2⟩;rcases hz with ⟨r,hr,hz⟩ | hz
    · exact x1 x hx z (gF.2 ⟨r,hT r hr,hz⟩)
    · exact x2 x hx z hz
 have J:∀{r:aj} {e:ae},r ∈ B→e ∈ r.1→fH (bn r.1) e.1=true∧fH e.1 (aU r.1)=true:=fun {r e} hr he=>eF (eY (ly (dt b2) r hr).1) he
 have o:Ov (bi (B.take p++B.drop (p+1))) (bi (dX ((B.drop p).take 1) C C S 2)):=fun x hx y hy hk=>by
  obtain ⟨z,hz,e1,e2⟩:=mi y hy;rcases hz with ⟨r,hr,hz⟩ | hz
  · exfalso
    have F:B[p]?=some r:=by
     obtain ⟨t,O⟩:=F' hr;have hl:=(E'.1 O).1;rw [FC] at hl;rw [Ge (by omega),Gg] at O;rw [show p=p+t by omega];exact O
    obtain ⟨s,hs,g⟩:=gF.1 hx;have D:x.1=z.1:=hk.trans e1;have no:∀{u v:Nat} {a b:aj} {ea eb:ae},u<v→B[u]?=some a→B[v]?=some b→ea ∈ a.1→eb ∈ b.1→ea.1=eb.1→False:=fun {u v a b ea eb} aa m hv h7 h8 h9=>by
     have ah:=(E'.1 hv).1;have f1:=fc (b4 rfl) (ly (dt b2)) (v - u - 1) u (by omega) a b m (by rw [show u+(v - u - 1+1)=v by omega];exact hv);have g1:=(J (Fw m) h7).2;have Y:=(J (Fw hv) h8).1;have g3:=ig g1 f1;rw [dL] at Y;rw [h9] at g3;rw [g3] at Y;cases Y
    rcases FI.1 hs with hs | hs
    · obtain ⟨u,m⟩:=F' hs;have hl:=(E'.1 m).1;rw [FC] at hl;rw [Ge (by omega)] at m;exact no (by omega) m F g hz D
    · obtain ⟨u,m⟩:=F' hs;rw [Gg] at m;exact no (by omega) F m hz g D.symm
  · have:=a4 x (by obtain ⟨s,hs,g⟩:=gF.1 hx;exact gF.2 ⟨s,d.subset hs,g⟩) z hz (hk.trans e1);omega
 refine FR.2 ⟨fun X f=>?_,Gl.2 ⟨pA,FR.2 ⟨fun X f=>?_,Hg _ _⟩,fun a E b n=>?_⟩⟩
 · rcases FI.1 f with f | f
   · exact pM X (Hz _ f)
   · have:=H M (pM _ (by simp)) (pM _ (by simp));rcases FF.1 f with rfl | f
     · exact this.1
     · rw [FL.1 f];exact this.2
 · rw [FL.1 f];exact o
 · have:=H a (pX a E _ (by simp)) (pX a E _ (by simp));rcases FF.1 n with rfl | n
   · exact this.1
   · rw [FL.1 n];exact this.2
def o9 (L:List ae):Prop:=∀e ∈ L,¬e.1.data.toList=[110,111,110,101]
def nR (B:List aj):Prop:=∀p ∈ B,o9 p.1
def mG (M:List ae) (A B C:List aj):Prop:=o9 M∧nR A∧nR B∧nR C
theorem tu:o9 []:=fun _ h=>by cases h
theorem oS:nR []:=fun _ h=>by cases h
theorem o9.app (h:o9 L) (k:o9 K):o9 (L++K):=fun e b=>(FI.1 b).elim (h e) (k e)
theorem nR.app {A B:List aj} (h:nR A) (k:nR B):nR (A++B):=fun p hp=>(FI.1 hp).elim (h p) (k p)
theorem nR.sub {A B:List aj} (h:nR A) (k:∀p ∈ B,p ∈ A):nR B:=fun p hp=>h p (k p hp)
theorem nR.one {m:Int} (h:o9 L):nR [(L,m)]:=fun p hp=>by
 rw [FL] at hp
 subst hp
 exact h
theorem o9.from (h:o9 L) (k:∀e ∈ K,∃y ∈ L,e.1=y.1):o9 K:=fun e b=>by
 obtain ⟨y,hy,e1⟩:=k e b
 rw [e1]
 exact h y hy
theorem o9.stamped (h:o9 K):o9 (fs q K):=h.from fun e b=>by
 obtain ⟨i,hi,rfl⟩:=F7 b
 rw [fJ] at hi
 exact ⟨K[i],F8 hi,by simp [fs,EL]⟩
theorem o9.puts:∀(D:List ae) {M:List ae},o9 M→o9 D→o9 (D.foldl eE M)
 | [],_,h,_=>h
 | x :: D,_,h,k=>o9.puts D (fun e b=>(FI.1 ((uH _ _).mem_iff.1 b)).elim (h e) (fun h1=>by rw [FL] at h1;subst h1;exact k _ FV)) (fun e b=>k e (FY _ b))
theorem mG.flush {A B:List aj} (h:mG M A B C) (S:List Int):mG [] (A++[lK M S]) B C :=
 ⟨tu,h.2.1.app (nR.one (h.1.from fun e b=>by obtain ⟨y,h1,h2,_⟩:=j9 S false e b;exact ⟨y,h1,h2⟩)),h.2.2⟩
theorem nR.runs (f:nR T) (d:nR N) (C:List aj) (S:List Int) (nx:Int):nR (dX T N C S nx):=fun r hr e b=>by
 obtain ⟨y,h1,h2,_⟩:=pJ r hr e b
 rw [h2]
 rcases h1 with h1 | h1 <;> obtain ⟨p,h3,h4⟩:=kL.1 h1
 · exact f p h3 y h4
 · exact d p h3 y h4
theorem mG.compact0 {A B:List aj} (h:mG M A B C) (S:List Int):mG M [] (dX A B C S 1) C:=⟨h.1,oS,nR.runs h.2.1 h.2.2.1 C S 1,h.2.2.2⟩
theorem mG.compact1 {A B:List aj} (h:mG M A B C) (p:Nat) (S:List Int):mG M A (B.take p++B.drop (p+1)) (dX ((B.drop p).take 1) C C S 2) :=
 ⟨h.1,h.2.1,h.2.2.1.sub (fun _ hx=>(FI.1 hx).elim F9 Gf),nR.runs (h.2.2.1.sub fun _ hx=>Gf (F9 hx)) h.2.2.2 C S 2⟩
end Go.Proofs.YtpobkmjicbobdaaGreat
