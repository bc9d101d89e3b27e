/- Walks. -/
import Derived.Test.YtpobkmjicbobdaaGreatBD18
namespace Go.Proofs.YtpobkmjicbobdaaGreat
set_option maxRecDepth 100000
set_option maxHeartbeats 40000000
open Go.RowKit
variable {C N T Z:List af} {K L M X:List ac} {S:List Int} {e:ac} {nx p q:Int}
theorem dR {A B:List af}:aT q M [A,B,C] S=true ↔ 0≤q∧q≤100000∧M.length≤60∧aI M=true∧b9 M q=true∧bX S q=true∧(dF A 4 false q=true∧dF B 8 true q=true∧dF C 8 true q=true)∧(eT M [A,B,C]).Pairwise Ov:=by
 rw [← zA];unfold aT fq;simp only [Gx,decide_eq_true_eq,GR,Hp,Nat.reduceAdd,true_and]
theorem dz:b9 L q=true ↔ ∀e ∈ L,e.2.1≤q:=by
 unfold b9;simp only [GL,decide_eq_true_eq]
theorem zE (h:b9 L q=true) (hp:q≤p):b9 L p=true:=dz.2 (fun e b=>by have:=dz.1 h e b;omega)
theorem tL {B:List af} {b:Int} {d:Bool} (h:dF B b d q=true) (hp:q≤p):dF B b d p=true:=by
 rw [dh] at h ⊢;exact ⟨h.1,h.2.1,fun r hr=>zE (h.2.2.1 r hr) hp,h.2.2.2⟩
theorem D8 (h:bX S q=true) (hp:q≤p):bX S p=true:=by
 unfold bX at h ⊢;rw [Gx] at h ⊢;refine ⟨h.1,?_⟩;rw [GL] at h ⊢;intro j b;have h1:=h.2 j b;unfold cZ at h1 ⊢;cases hs:S[j]? with
 | none=>rfl
 | some s =>
  rw [hs] at h1;simp only [Gx,decide_eq_true_eq] at h1 ⊢;exact ⟨h1.1,by omega,h1.2.2⟩
theorem Ec {A B:List ac} (h:Ov A X) (hf:∀e ∈ B,∃y ∈ A,e.1=y.1∧e.2.1=y.2.1):Ov B X:=fun x hx y hy hk=>by
 obtain ⟨z,hz,h1,h2⟩:=hf x hx
 have:=h z hz y hy (by rw [← h1];exact hk)
 omega
theorem kJ (S:List Int) (b:Bool):∀e ∈ bU L S b,∃y ∈ L,e.1=y.1∧e.2.1=y.2.1 :=
 pE (fun e=>∃y ∈ L,e.1=y.1∧e.2.1=y.2.1) S b (fun b c hc _ x hx=>by
  obtain ⟨y,hy,h1,h2⟩:=Ey b c x hx
  exact ⟨y,hc y hy,h1,h2⟩)
theorem iy (M:List ac) (A B C:List af):eT M [A,B,C]=M :: (A.reverse.map (·.1)++[bo B,bo C]):=rfl
theorem wZ {A B:List af} (h:aT q M [A,B,C] S=true) (hM:M≠[]) (hA:A.length<4):aT q [] [A++[l7 M S],B,C] S=true:=by
 obtain ⟨h1,h2,h3,h4,h5,h6,⟨ha,hb,hc⟩,hp⟩:=dR.1 h;refine dR.2 ⟨h1,h2,by simp,rfl,rfl,h6,⟨?_,hb,hc⟩,?_⟩
 · rw [dh] at ha ⊢;refine ⟨by simp;omega,?_,fun r hr=>?_,fun e=>by cases e⟩
   · unfold eS;rw [Ix];intro r hr;rcases Gw.1 hr with hr | hr
     · simpa using dr ha.2.1 r hr
     · rw [GC.1 hr];have e1:1≤(bU M S false).length:=List.length_pos_iff.2 (uL h4 hM S);have e2:(bU M S false).length≤150:=Gq (jJ M S false) (by omega);have e4:cP (bU M S false) ((dG (bU M S false):Nat):Int)=true:=by
        unfold cP;rw [ji h4 S false,decide_eq_true e1,decide_eq_true e2];simp
       simp only [l7,e4];simp
   · rcases Gw.1 hr with hr | hr
     · exact ha.2.2.1 r hr
     · rw [GC.1 hr];refine dz.2 (fun e f=>?_);obtain ⟨y,hy,_,g⟩:=kJ S false e f;have:=dz.1 h5 y hy;omega
 · rw [iy] at hp ⊢;rw [List.reverse_append];have b:=GG.1 hp;refine GG.2 ⟨(fun X _ x hx=>by cases hx),?_⟩;show (bU M S false :: (A.reverse.map (·.1)++[bo B,bo C])).Pairwise Ov
   exact GG.2 ⟨fun X d=>Ec (b.1 X d) (kJ S false),b.2⟩
theorem f8:bX S q=true ↔ S.length≤4∧(∀s ∈ S,0≤s∧s≤q)∧S.Pairwise (·<·):=by
 unfold bX;simp only [Gx,decide_eq_true_eq,GL,G7];constructor
 · rintro ⟨h1,h2⟩;have hs:∀j (b:j<S.length),0≤S[j]∧S[j]≤q:=fun j b=>by
    have h3:=h2 j b;unfold cZ at h3;rw [j' b] at h3;simp only [Gx,decide_eq_true_eq] at h3;exact ⟨h3.1,h3.2.1⟩
   have hn:∀j (b:j+1<S.length),S[j]<S[j+1]:=fun j b=>by
    have h3:=h2 (j+1) b;rw [kM (j' b) (j' (by omega))] at h3;simp only [Gx,decide_eq_true_eq] at h3;exact h3.2.2
   refine ⟨h1,fun s f=>by obtain ⟨j,b,rfl⟩:=GT f;exact hs j b,?_⟩;rw [GO];intro i j hi b g;obtain ⟨d,rfl⟩:∃d,j=i+1+d:=⟨j - i - 1,by omega⟩;clear g;induction d with
   | zero=>exact hn i b
   | succ d m=>exact Int.lt_trans (m (by omega)) (hn (i+1+d) (by omega))
 · rintro ⟨h1,h2,h3⟩;rw [GO] at h3;refine ⟨h1,fun j b=>?_⟩;have h4:=h2 S[j] (GQ b);cases j with
   | zero=>rw [nq (j' b)];simp only [Gx,decide_eq_true_eq];exact h4
   | succ i =>
    rw [kM (j' b) (j' (by omega))];simp only [Gx,decide_eq_true_eq];exact ⟨h4.1,h4.2,h3 i (i+1) (by omega) b (by omega)⟩
theorem zH {A B:List af} (h:aT q M [A,B,C] S=true) (hS:S.length<4) (hq:q ∉ S):aT q M [A,B,C] (S++[q])=true:=by
 obtain ⟨h1,h2,h3,h4,h5,h6,hr,hp⟩:=dR.1 h;refine dR.2 ⟨h1,h2,h3,h4,h5,?_,hr,hp⟩;obtain ⟨k1,k2,k3⟩:=f8.1 h6;refine f8.2 ⟨by simp;omega,fun s hs=>?_,Hh.2 ⟨k3,by simp,fun a ha b hb=>?_⟩⟩
 · rcases Gw.1 hs with hs | hs
   · exact k2 s hs
   · rw [GC.1 hs];exact ⟨h1,Int.le_refl _⟩
 · rw [GC.1 hb];have h7:=(k2 a ha).2;have d:a≠q:=fun e=>hq (by rw [← e];exact ha)
   omega
theorem sc {A B:List af} (h:aT q M [A,B,C] S=true) (x:Int):aT q M [A,B,C] (bT S x)=true:=by
 obtain ⟨h1,h2,h3,h4,h5,h6,hr,hp⟩:=dR.1 h;refine dR.2 ⟨h1,h2,h3,h4,h5,?_,hr,hp⟩;obtain ⟨k1,k2,k3⟩:=f8.1 h6;refine f8.2 ⟨Gq (vT S x) k1,fun s hs=>k2 s (mM hs),?_⟩;exact Hw List.filter_sublist k3
theorem Cb:∀(D M:List ac),D.foldl eK (bG M)=bG (M++D)
 | D,M=>by unfold bG;rw [List.foldl_append]
theorem xh (h:e ∈ ft q K):∃i,i<K.length∧e.2.1=q+1+i:=by
 obtain ⟨i,hi,rfl⟩:=GT h;rw [fN] at hi;exact ⟨i,hi,by simp [ft,Fu]⟩
theorem zP (q:Int) (K:List ac):gS (ft q K):=by
 unfold gS;rw [GO];intro i j hi d b h;have h2:=h.2;simp [ft,Fu] at h2;omega
theorem wW {A B:List af} (h:aT q M [A,B,C] S=true) (hw:ie q M K=true):aT (q+K.length) ((ft q K).foldl eK M) [A,B,C] S=true:=by
 obtain ⟨h1,h2,h3,h4,h5,h6,⟨ha,hb,hc⟩,hp⟩:=dR.1 h;unfold ie at hw;simp only [Gx,decide_eq_true_eq] at hw;obtain ⟨O,R,F,E⟩:=hw;have hM:=xp h4;have e:(ft q K).foldl eK M=bG (M++ft q K):=by
  have:=Cb (ft q K) M;rw [hM] at this;exact this
 have hK:(K.length:Int)=((ft q K).length:Int):=by rw [fN]
 have hs:∀x ∈ ft q K,dq x.1 x.2.1 x.2.2.1 x.2.2.2.1 x.2.2.2.2=true:=fun x hx=>by
  obtain ⟨i,hi⟩:=GW hx;exact zM E hi
 have hq:q+K.length≤100000:=by
  obtain ⟨x,hx⟩:∃x,(ft q K)[K.length - 1]?=some x:=⟨_,j' (by rw [fN];omega)⟩;have h7:=hs x (Gk hx);have s:=(mL h7).2;have Q:x.2.1=q+1+((K.length - 1:Nat):Int):=by
   have:=(F'.1 hx).2;rw [← this];simp [ft,Fu]
  omega
 have H:gS (M++ft q K):=by
  refine Hh.2 ⟨tF h4,zP q K,fun a o b D n=>?_⟩;have h7:=dz.1 h5 a o;obtain ⟨i,_,s⟩:=xh D;have:=n.2;omega
 have hr:aI (bG (M++ft q K))=true:=by
  obtain ⟨k1,k2⟩:=bO (M++ft q K);refine gP (nd k1 (ix H k2.symm)) (fun x hx=>?_);rcases Gw.1 (k2.subset hx) with h7 | h7
  · obtain ⟨j,J⟩:=GW h7;exact eC h4 J
  · exact hs x h7
 have f:∀x ∈ bG (M++ft q K),x ∈ M∨x ∈ ft q K:=fun x hx=>Gw.1 ((bO _).2.subset hx)
 rw [e];refine dR.2 ⟨by omega,hq,?_,hr,?_,D8 h6 (by omega),⟨tL ha (by omega),tL hb (by omega),tL hc (by omega)⟩,?_⟩
 · rw [kL,Gj,fN];exact F
 · refine dz.2 (fun x hx=>?_);rcases f x hx with h7 | h7
   · have:=dz.1 h5 x h7;omega
   · obtain ⟨i,hi,s⟩:=xh h7;omega
 · rw [iy] at hp ⊢;have m:=GG.1 hp;refine GG.2 ⟨fun X d x hx y hy hk=>?_,m.2⟩;rcases f x hx with h7 | h7
   · exact m.1 X d x h7 y hy hk
   · obtain ⟨i,_,s⟩:=xh h7;have:y.2.1≤q:=by
      rcases Gw.1 d with d | d
      · obtain ⟨r,g,rfl⟩:=G9.1 d;exact dz.1 ((dh.1 ha).2.2.1 r (IG.1 g)) y hy
      · have hf:∀{Z:List af},dF Z 8 true q=true→y ∈ bo Z→y.2.1≤q:=fun {Z} I t=>by
         obtain ⟨r,g,u⟩:=IA.1 t;exact dz.1 ((dh.1 I).2.2.1 r g) y u
        rcases Gz.1 d with rfl | d
        · exact hf hb hy
        · rw [GC.1 d] at hy;exact hf hc hy
     omega
theorem tG {A B:List af} (d:aT q M [A,B,C] S=true):(A.length≤4∧B.length≤8∧C.length≤8)∧(∀Z ∈ [A,B,C],∀r ∈ Z,cP r.1 r.2=true)∧bi B=true∧bi C=true:=by
 have b:=(aV d).2.2.2.2.2.2.2.1;unfold fq at b;simp only [Gx] at b;obtain ⟨hA,hB,hC⟩:=b;rw [dh] at hA hB hC;have hb:∀{Z:List af},eS Z=false→∀r ∈ Z,cP r.1 r.2=true:=fun {Z} h r hr=>by
  unfold eS at h;rw [Ix] at h;simpa using h r hr
 refine ⟨⟨by have:=hA.1;omega,by have:=hB.1;omega,by have:=hC.1;omega⟩,fun Z f=>?_,hB.2.2.2 rfl,hC.2.2.2 rfl⟩;simp only [Gz,GZ,or_false] at f;rcases f with rfl | rfl | rfl
 · exact hb hA.2.1
 · exact hb hB.2.1
 · exact hb hC.2.1
theorem qJ (B:List af):bo B=(bE B).flatten:=rfl
theorem yM {A B:List af} (b:aT q M [A,B,C] S=true):gS ((bE A).flatten++((bE B).flatten++(bE C).flatten)):=by
 have h:=ix (oC b) (jn M A B C);exact Hw (List.sublist_append_right _ _) h
theorem lP (h:∀r ∈ Z,cP r.1 r.2=true):∀r ∈ Z,aI r.1=true∧1≤r.1.length:=fun r hr=>⟨(bD (h r hr)).2.2.1,(bD (h r hr)).1⟩
theorem EW {A B:List af} (b:aT q M [A,B,C] S=true) (hA:1≤A.length):gN A B:=by
 obtain ⟨_,h2,h3,_⟩:=tG b;exact ⟨hA,lP (h2 A (by simp)),lP (h2 B (by simp)),h3,Hw (IF (In _) (List.sublist_append_left _ _)) (yM b)⟩
theorem EV {A B:List af} (b:aT q M [A,B,C] S=true) {p:Nat} (hp:p<B.length):gN ((B.drop p).take 1) C:=by
 obtain ⟨_,h2,_,h4⟩:=tG b;have hs:((B.drop p).take 1).Sublist B:=(List.take_sublist _ _).trans (IT _ _);refine ⟨by rw [Gn,Gy];omega,fun r hr=>lP (h2 B (by simp)) r (hs.subset hr),lP (h2 C (by simp)),h4,?_⟩;exact Hw ((IF (n8 (hs.map _)) (In _)).trans (List.sublist_append_right _ _)) (yM b)
theorem Ap (h:∀r ∈ Z,r.1.length≤150):(bE Z).flatten.length≤150*Z.length:=by
 induction Z with
 | nil=>simp [bE]
 | cons r Z b =>
  have h1:=h r (by simp);have h2:=b (fun x hx=>h x (by simp [hx]));simp only [bE,If,Hq,Gj,GR] at h2 ⊢;omega
theorem zw (b:∀r ∈ T,r.1.length≤150) (d:∀r ∈ N,r.1.length≤150) (hl:T.length+N.length≤100):(bE (dQ T N)).flatten.length≤100000:=by
 have h:=Ap (Z:=dQ T N) (fun r hr=>by
  rcases Gw.1 hr with h1 | h1
  · exact b r h1
  · exact d r ((lW T N).subset h1))
 have h2:(dQ T N).length≤T.length+N.length:=by
  unfold dQ;rw [Gj];have:=(lW T N).length_le;omega
 omega
theorem mt {V:List (List af)} (b:aT q M V S=true):S.length≤4:=by
 have h1:=(aV b).2.2.2.2.2.2.1;unfold bX at h1;rw [Gx] at h1;exact of_decide_eq_true h1.1
def Bm (x y:af):Prop:=Op.bytesLess (aQ x.1).toList (bh y.1).toList=true
theorem rh (h:bi Z=true) (b:∀r ∈ Z,aI r.1=true∧1≤r.1.length):Z.Pairwise Bm:=by
 rw [GO];intro i j hi d f;exact eZ h b (j - i - 1) i (by omega) _ _ (j' hi) (by rw [show i+(j - i - 1+1)=j by omega];exact j' d)
theorem wI (h:Z.Pairwise Bm):bi Z=true:=by
 unfold bi;rw [GL];intro i hi;have hl:=G7.1 hi;cases i with
 | zero=>unfold lG iE;rw [j' hl]
 | succ i =>
  rw [lq (j' hl) (by omega) (by rw [Hv];exact j' (by omega))];exact GO.1 h i (i+1) (by omega) hl (by omega)
theorem Ak (ha:bi N=true) (d:∀r ∈ N,cP r.1 r.2=true) (k1 k2:ByteArray):∃i j,fZ N k1 k2 i j:=by
 refine ⟨N.findIdx (fun r=>!Op.bytesLess (aQ r.1).toList k1.toList),N.findIdx (fun r=>Op.bytesLess k2.toList (bh r.1).toList),List.findIdx_le_length,List.findIdx_le_length,fun t r b=>⟨fun h=>?_,fun h=>?_,fun h=>?_,fun h=>?_⟩⟩
 · have h1:=List.not_of_lt_findIdx h;have hr:=(F'.1 b).2;rw [hr] at h1;simpa using h1
 · have hl:=(F'.1 b).1;have h1:=List.findIdx_getElem (w:=IL h hl);cases hc:Op.bytesLess (aQ r.1).toList k1.toList with
   | false=>rfl
   | true =>
    have:=y6 ha d (j' (IL h hl)) b h k1 hc;rw [this] at h1;cases h1
 · have h1:=List.not_of_lt_findIdx h;have hr:=(F'.1 b).2;rw [hr] at h1;simpa using h1
 · have hl:=(F'.1 b).1;have h1:=List.findIdx_getElem (w:=IL h hl);exact Cp ha d (j' (IL h hl)) b h k2 h1
theorem xW {a b:ByteArray} (h:fK a b=true) (hn:a≠b):Op.bytesLess a.toList b.toList=true:=by
 cases hl:Op.bytesLess a.toList b.toList with
 | true=>rfl
 | false =>
  have h2:fK b a=true:=by rw [dK,hl];rfl
  exact absurd (qr h h2) hn
theorem tu (L:List ac):∀k,k≤L.length→(∀r ∈ (fh L k).1,∃a b,a<b∧b≤(fh L k).2∧r=eP L a b∧(b<L.length→iS L b≠iS L (b - 1)))∧(fh L k).1.Pairwise (fun r s=>∃a b c d,a<b∧b≤c∧c<d∧d≤L.length∧r=eP L a b∧s=eP L c d∧iS L b≠iS L (b - 1))∧(fh L k).2≤k
 | 0,_=>⟨(fun r h=>by cases h),List.Pairwise.nil,Gg _⟩
 | k+1,hk=>by
  obtain ⟨h2,h3,h1⟩:=tu L k (by omega)
  obtain ⟨B,f,hB⟩:∃B f,fh L k=(B,f):=⟨_,_,rfl⟩
  rw [hB] at h1 h2 h3
  simp only at h1 h2 h3
  cases hc:gU L f (k+1) with
  | false=>rw [ut hB hc];exact ⟨h2,h3,by omega⟩
  | true =>
   rw [qV hB hc]
   refine ⟨fun r hr=>?_,?_,Gg _⟩
   · rcases Gw.1 hr with h | h
     · obtain ⟨a,b,x1,n,m,g⟩:=h2 r h
       exact ⟨a,b,x1,by show b≤k+1;omega,m,g⟩
     · rw [GC] at h
       refine ⟨f,k+1,by omega,Gg _,h,fun hl e=>?_⟩
       unfold gU at hc
       simp only [IE,Gx,decide_eq_true_eq,II,decide_eq_false_iff_not] at hc
       rcases hc with hc | hc
       · omega
       · exact hc.2 e
   · rw [Hh]
     refine ⟨h3,ID _ _,fun r hr s hs=>?_⟩
     rw [GC] at hs
     obtain ⟨a,b,x1,n,m,g⟩:=h2 r hr
     exact ⟨a,b,f,k+1,x1,n,by omega,hk,m,hs,g (by omega)⟩
theorem xJ {a b:Nat} (d:a<b) (hb:b≤L.length):aQ (eP L a b).1=iS L (b - 1):=by
 unfold aQ iS;rw [sJ hb];show (match ((L.drop a).take (b - a))[b - a - 1]? with | some e=>e.1 | none=>⟨#[]⟩)=_
 rw [G3 (by omega),Hb,show a+(b - a - 1)=b - 1 by omega];cases L[b - 1]? <;> rfl
theorem Ew (hw:mS L):(dL L).Pairwise Bm:=by
 refine (tu L L.length (Gg _)).2.1.imp ?_;rintro r s ⟨a,b,c,d,h1,h2,h3,h4,rfl,rfl,h5⟩;unfold Bm;rw [xJ h1 (by omega),nK h3];have e1:=mZ hw (a:=b - 1) (c:=b) (by omega) (by omega);have e2:=mZ hw (a:=b) (c:=c) (by omega) (by omega);have e3:=xW e1 (fun e=>h5 e.symm);rcases IE _ _ ▸ (show (Op.bytesLess (iS L b).toList (iS L c).toList || (iS L b).toList == (iS L c).toList)=true from e2) with e | e
 · exact cG _ _ _ e3 e
 · have:(iS L b).toList=(iS L c).toList:=by simpa using e
   rw [← this];exact e3
theorem qd:∀r ∈ dX T N C S nx,∀e ∈ r.1,∃y,(y ∈ (bE T).flatten∨y ∈ (bE N).flatten)∧e.1=y.1∧e.2.1=y.2.1:=by
 intro r hr e d;rcases k9 _ _ hr with h1 | h1
 · exact ⟨e,.inr (Im.2 ⟨r.1,G9.2 ⟨r,(Iy.1 h1).1,rfl⟩,d⟩),rfl,rfl⟩
 · obtain ⟨y,hy,e1,e2⟩:=kJ S _ e (uq h1 e d);have b:=(bO _).2.subset hy;unfold dQ at b;rw [nM] at b;refine ⟨y,?_,e1,e2⟩;rcases Gw.1 b with h2 | h2
   · exact .inl h2
   · exact .inr ((n8 ((lW T N).map _)).subset h2)
theorem vn (h:aI L=true) (a b:Nat):aI (eP L a b).1=true:=by
 have hs:((L.drop a).take (b - a)).Sublist L:=(List.take_sublist _ _).trans (IT _ _);refine gP (Hw hs (gY h)) (fun e d=>?_);obtain ⟨j,f⟩:=GW (hs.subset d);exact eC h f
theorem Cj (h:gN T N) (W:∀r ∈ N,cP r.1 r.2=true) (g:xO T N C S nx=true):(∀r ∈ dX T N C S nx,cP r.1 r.2=true)∧(dX T N C S nx).length≤8∧bi (dX T N C S nx)=true:=by
 have s:=ji h.right S (lK T N C nx);unfold xO at g;rw [Gx,decide_eq_true_eq] at g;refine ⟨fun r hr=>?_,g.2,?_⟩
 · have hf:=g.1;unfold ip at hf;have I:=of_decide_eq_true ((GL.1 hf) r hr);rcases k9 _ _ hr with h1 | h1
   · exact W r (Iy.1 h1).1
   · have hn:=oc h1;obtain ⟨a,b,x1,x2,rfl⟩:=ur h1;unfold cP;rw [decide_eq_true hn,decide_eq_true I,show aI (eP (uO T N C S nx) a b).1=true from vn s a b];simp [eP]
 · obtain ⟨i,j,hm⟩:=Ak h.ap W (iR T) (fE T);rw [h.runs C S nx hm];have n:=rh h.ap h.nok;obtain ⟨a0,Q,U⟩:=h.cut hm;have F:=tO h.t0 h.tok;have R:∀r ∈ T,∀x ∈ r.1,fK (iR T) x.1=true∧fK x.1 (fE T)=true:=fun r hr x hx=>by
    have:=er (bO (bE T).flatten).1 (e:=x) ((bO _).2.symm.subset (Im.2 ⟨r.1,G9.2 ⟨r,hr,rfl⟩,hx⟩));rwa [F.1,F.2] at this
   have E:∀r ∈ En T N,∃t,i≤t∧t<j∧N[t]?=some r:=fun r hr=>by
    rw [Q] at hr;obtain ⟨t,J⟩:=GW hr;have hl:=(F'.1 J).1;rw [Gn,Gy] at hl;rw [G3 (by omega),Hb] at J;exact ⟨i+t,by omega,by omega,J⟩
   have A:∀{a b c:ByteArray},Op.bytesLess a.toList b.toList=true→fK b c=true→Op.bytesLess a.toList c.toList=true:=fun {a b c} h1 h2=>by
    unfold fK at h2;rw [IE] at h2;rcases h2 with h2 | h2
    · exact cG _ _ _ h1 h2
    · have e:b.toList=c.toList:=by simpa using h2
      rw [← e];exact h1
   have m:∀r ∈ dL (uO T N C S nx),∀e ∈ r.1,(∀(u:Nat) (x:af),u<i→N[u]?=some x→Op.bytesLess (aQ x.1).toList e.1.toList=true)∧(∀(u:Nat) (z:af),j≤u→N[u]?=some z→Op.bytesLess e.1.toList (bh z.1).toList=true):=fun r hr e H=>by
    obtain ⟨o,B,y,hy,e2⟩:=tH (uq hr e H);rw [← e2];refine ⟨fun u x d hx=>?_,fun u z d hz=>?_⟩
    · rcases Gw.1 B with h1 | h1
      · exact A ((hm.2.2 _ _ hx).1 d) (R o h1 y hy).1
      · obtain ⟨t,t1,Y,t3⟩:=E o h1;have f:=h.nok _ (Gk t3);have a1:=(F'.1 t3).1;exact A (eZ h.ap h.nok (t - u - 1) u (by omega) x o hx (by rw [show u+(t - u - 1+1)=t by omega];exact t3)) (er (eU f.1) hy).1
    · rcases Gw.1 B with h1 | h1
      · exact ik (R o h1 y hy).2 ((hm.2.2 _ _ hz).2.2.2 d)
      · obtain ⟨t,t1,Y,t3⟩:=E o h1;have f:=h.nok _ (Gk t3);have a2:=(F'.1 hz).1;exact ik (er (eU f.1) hy).2 (eZ h.ap h.nok (u - t - 1) t (by omega) o z t3 (by rw [show t+(u - t - 1+1)=u by omega];exact hz))
   refine wI (Hh.2 ⟨Hh.2 ⟨Hw (List.take_sublist _ _) n,Ew (eU s),fun x hx r hr=>?_⟩,Hw (IT _ _) n,fun x hx z hz=>?_⟩)
   · obtain ⟨u,d⟩:=GW hx;have D:=(F'.1 d).1;rw [Gn] at D;rw [G3 (by omega)] at d;obtain ⟨e,H,e1⟩:=lV (oc hr);unfold Bm;rw [e1];exact (m r hr e H).1 u x (by omega) d
   · obtain ⟨u,d⟩:=GW hz;rw [Hb] at d;have D:=(F'.1 d).1;rcases Gw.1 hx with h1 | h1
     · obtain ⟨v,hv⟩:=GW h1;have O:=(F'.1 hv).1;rw [Gn] at O;rw [G3 (by omega)] at hv;exact eZ h.ap h.nok (j+u - v - 1) v (by omega) x z hv (by rw [show v+(j+u - v - 1+1)=j+u by omega];exact d)
     · have hn:=oc h1;obtain ⟨e,H,e1⟩:∃e ∈ x.1,aQ x.1=e.1:=by
        have hl:x.1.length - 1<x.1.length:=by omega
        exact ⟨x.1[x.1.length - 1],GQ hl,by unfold aQ;rw [j' hl]⟩
       unfold Bm;rw [e1];exact (m x h1 e H).2 (j+u) z (by omega) d
theorem wh (h:∀r ∈ Z,cP r.1 r.2=true):eS Z=false:=by
 unfold eS;rw [Ix];intro r hr;simp [h r hr]
theorem gL:e ∈ bo Z ↔ ∃r ∈ Z,e ∈ r.1:=IA
theorem lg:e ∈ (bE Z).flatten ↔ ∃r ∈ Z,e ∈ r.1:=by rw [← qJ];exact gL
theorem mB:∀e ∈ bo (dX T N C S nx),∃y,((∃r ∈ T,y ∈ r.1)∨y ∈ bo N)∧e.1=y.1∧e.2.1=y.2.1:=fun e d=>by
 obtain ⟨r,hr,b⟩:=gL.1 d
 obtain ⟨y,hy,e1,e2⟩:=qd r hr e b
 refine ⟨y,?_,e1,e2⟩
 rcases hy with hy | hy
 · exact .inl (lg.1 hy)
 · exact .inr (by rw [qJ];exact hy)
theorem sM (h:gN T N) (m:dF N 8 true q=true) (t:∀r ∈ T,b9 r.1 q=true) (g:xO T N C S nx=true):dF (dX T N C S nx) 8 true q=true:=by
 obtain ⟨s,n2,n⟩:=Cj h (dr (dh.1 m).2.1) g;refine dh.2 ⟨by omega,wh s,fun r hr=>dz.2 (fun e o=>?_),fun _=>n⟩;obtain ⟨y,hy,_,e2⟩:=qd r hr e o;rw [e2];rcases hy with hy | hy
 · obtain ⟨f,b,d⟩:=lg.1 hy;exact dz.1 (t f b) y d
 · obtain ⟨f,b,d⟩:=lg.1 hy;exact dz.1 ((dh.1 m).2.2.1 f b) y d
theorem yT {Y:List ac} (h:∀y ∈ Y,∃z,(∀x ∈ X,pZ x z)∧y.1=z.1∧y.2.1=z.2.1):Ov X Y:=fun x hx y hy hk=>by
 obtain ⟨z,hz,e1,e2⟩:=h y hy
 have:=hz x hx (by rw [← e1];exact hk)
 omega
theorem rK {A B:List af} (h:aT q M [A,B,C] S=true) (hA:1≤A.length) (D:xO A B C S 1=true):aT q M [[],dX A B C S 1,C] S=true:=by
 have hc:=EW h hA;obtain ⟨h1,h2,h3,h4,h5,h6,⟨ha,hb,m⟩,hp⟩:=dR.1 h;refine dR.2 ⟨h1,h2,h3,h4,h5,h6,⟨rfl,sM hc hb (dh.1 ha).2.2.1 D,m⟩,?_⟩;rw [iy] at hp ⊢;obtain ⟨n,F⟩:=GG.1 hp;obtain ⟨_,s,H⟩:=Hh.1 F;have d:Ov (bo B) (bo C):=(GG.1 s).1 _ (by simp);have o:∀r ∈ A,Ov M r.1:=fun r hr=>n r.1 (IU _ (G9.2 ⟨r,IG.2 hr,rfl⟩))
 have E:∀r ∈ A,Ov r.1 (bo C):=fun r hr=>H r.1 (G9.2 ⟨r,IG.2 hr,rfl⟩) _ (by simp)
 have f:Ov M (bo B):=n _ (by simp);have t:Ov M (bo C):=n _ (by simp);have g:Ov M (bo (dX A B C S 1)):=yT (fun y hy=>by
  obtain ⟨z,hz,e1,e2⟩:=mB y hy;refine ⟨z,fun x hx=>?_,e1,e2⟩;rcases hz with ⟨r,hr,hz⟩ | hz
  · exact o r hr x hx z hz
  · exact f x hx z hz)
 have u:Ov (bo (dX A B C S 1)) (bo C):=fun x hx y hy hk=>by
  obtain ⟨z,hz,e1,e2⟩:=mB x hx;have:y.2.1<z.2.1:=by
   rcases hz with ⟨r,hr,hz⟩ | hz
   · exact E r hr z hz y hy (by rw [← e1];exact hk)
   · exact d z hz y hy (by rw [← e1];exact hk)
  omega
 refine GG.2 ⟨fun X b=>?_,GG.2 ⟨fun X b=>?_,ID _ _⟩⟩
 · simp only [List.reverse_nil,IB,GU,Gz,GZ,or_false] at b;rcases b with rfl | rfl
   · exact g
   · exact t
 · rw [GC.1 b];exact u
theorem rJ {A B:List af} (h:aT q M [A,B,C] S=true) {p:Nat} (Q:p<B.length) (Y:xO ((B.drop p).take 1) C C S 2=true):aT q M [A,B.take p++B.drop (p+1),dX ((B.drop p).take 1) C C S 2] S=true:=by
 have hc:=EV h Q;obtain ⟨h1,h2,h3,h4,h5,h6,⟨ha,hb,a1⟩,hp⟩:=dR.1 h;obtain ⟨b1,b2,b3,b4⟩:=dh.1 hb;have hT:∀r ∈ (B.drop p).take 1,r ∈ B:=fun r hr=>Ha (GX hr)
 have d:(B.take p++B.drop (p+1)).Sublist B:=by
  have e:=GK p B;conv=>rhs;rw [← e]
  exact IF (In _) (by rw [← Ie];exact IT _ _)
 have I:=rh (b4 rfl) (lP (dr b2));have a4:dF (B.take p++B.drop (p+1)) 8 true q=true:=dh.2 ⟨by have:=d.length_le;omega,wh (fun r hr=>dr b2 r (d.subset hr)),fun r hr=>b3 r (d.subset hr),fun _=>wI (Hw d I)⟩;refine dR.2 ⟨h1,h2,h3,h4,h5,h6,⟨ha,a4,sM hc a1 (fun r hr=>b3 r (hT r hr)) Y⟩,?_⟩;rw [iy] at hp ⊢;obtain ⟨U,pR⟩:=GG.1 hp;obtain ⟨pA,W,pX⟩:=Hh.1 pR;have O:Ov (bo B) (bo C):=(GG.1 W).1 _ (by simp);have E:∀(X:List ac),Ov X (bo B)→Ov X (bo C)→Ov X (bo (B.take p++B.drop (p+1)))∧Ov X (bo (dX ((B.drop p).take 1) C C S 2)):=fun X x1 x2=>by
  refine ⟨fun x hx y hy=>?_,yT (fun y hy=>?_)⟩
  · obtain ⟨r,hr,a5⟩:=gL.1 hy;exact x1 x hx y (gL.2 ⟨r,d.subset hr,a5⟩)
  · obtain ⟨z,hz,e1,e2⟩:=mB y hy;refine ⟨z,fun x hx=>?_,e1,e2⟩;rcases hz with ⟨r,hr,hz⟩ | hz
    · exact x1 x hx z (gL.2 ⟨r,hT r hr,hz⟩)
    · exact x2 x hx z hz
 have H:∀{r:af} {e:ac},r ∈ B→e ∈ r.1→fK (bh r.1) e.1=true∧fK e.1 (aQ r.1)=true:=fun {r e} hr he=>er (eU (lP (dr b2) r hr).1) he
 have n:Ov (bo (B.take p++B.drop (p+1))) (bo (dX ((B.drop p).take 1) C C S 2)):=fun x hx y hy hk=>by
  obtain ⟨z,hz,e1,e2⟩:=mB y hy;rcases hz with ⟨r,hr,hz⟩ | hz
  · exfalso
    have D:B[p]?=some r:=by
     obtain ⟨t,R⟩:=GW hr;have hl:=(F'.1 R).1;rw [Gn] at hl;rw [G3 (by omega),Hb] at R;rw [show p=p+t by omega];exact R
    obtain ⟨s,hs,f⟩:=gL.1 hx;have F:=hk.trans e1;have no:∀{u v:Nat} {a b:af} {ea eb:ac},u<v→B[u]?=some a→B[v]?=some b→ea ∈ a.1→eb ∈ b.1→ea.1=eb.1→False:=fun {u v a b ea eb} ai m hv h7 h8 h9=>by
     have ag:=(F'.1 hv).1;have f1:=eZ (b4 rfl) (lP (dr b2)) (v - u - 1) u (by omega) a b m (by rw [show u+(v - u - 1+1)=v by omega];exact hv);have g1:=(H (Gk m) h7).2;have g2:=(H (Gk hv) h8).1;have g3:=ik g1 f1;rw [dK] at g2;rw [h9] at g3;rw [g3] at g2;cases g2
    rcases Gw.1 hs with hs | hs
    · obtain ⟨u,m⟩:=GW hs;have hl:=(F'.1 m).1;rw [Gn] at hl;rw [G3 (by omega)] at m;exact no (by omega) m D f hz F
    · obtain ⟨u,m⟩:=GW hs;rw [Hb] at m;exact no (by omega) D m hz f F.symm
  · have:=O x (by obtain ⟨s,hs,f⟩:=gL.1 hx;exact gL.2 ⟨s,d.subset hs,f⟩) z hz (hk.trans e1);omega
 refine GG.2 ⟨fun X g=>?_,Hh.2 ⟨pA,GG.2 ⟨fun X g=>?_,ID _ _⟩,fun a J b o=>?_⟩⟩
 · rcases Gw.1 g with g | g
   · exact U X (IU _ g)
   · have:=E M (U _ (by simp)) (U _ (by simp));rcases Gz.1 g with rfl | g
     · exact this.1
     · rw [GC.1 g];exact this.2
 · rw [GC.1 g];exact n
 · have:=E a (pX a J _ (by simp)) (pX a J _ (by simp));rcases Gz.1 o with rfl | o
   · exact this.1
   · rw [GC.1 o];exact this.2
def pu (L:List ac):Prop:=∀e ∈ L,¬e.1.data.toList=[110,111,110,101]
def oz (B:List af):Prop:=∀p ∈ B,pu p.1
def mX (M:List ac) (A B C:List af):Prop:=pu M∧oz A∧oz B∧oz C
theorem tR:pu []:=fun _ h=>by cases h
theorem pm:oz []:=fun _ h=>by cases h
theorem pu.app (h:pu L) (k:pu K):pu (L++K):=fun e b=>(Gw.1 b).elim (h e) (k e)
theorem oz.app {A B:List af} (h:oz A) (k:oz B):oz (A++B):=fun p hp=>(Gw.1 hp).elim (h p) (k p)
theorem oz.sub {A B:List af} (h:oz A) (k:∀p ∈ B,p ∈ A):oz B:=fun p hp=>h p (k p hp)
theorem oz.one {m:Int} (h:pu L):oz [(L,m)]:=fun p hp=>by
 rw [GC] at hp
 subst hp
 exact h
theorem pu.from (h:pu L) (k:∀e ∈ K,∃y ∈ L,e.1=y.1):pu K:=fun e b=>by
 obtain ⟨y,hy,e1⟩:=k e b
 rw [e1]
 exact h y hy
theorem pu.stamped (h:pu K):pu (ft q K):=h.from fun e b=>by
 obtain ⟨i,hi,rfl⟩:=GT b
 rw [fN] at hi
 exact ⟨K[i],GQ hi,by simp [ft,Fu]⟩
theorem pu.puts:∀(D:List ac) {M:List ac},pu M→pu D→pu (D.foldl eK M)
 | [],_,h,_=>h
 | x :: D,_,h,k=>pu.puts D (fun e b=>(Gw.1 ((ve _ _).mem_iff.1 b)).elim (h e) (fun h1=>by rw [GC] at h1;subst h1;exact k _ GI)) (fun e b=>k e (GM _ b))
theorem mX.flush {A B:List af} (h:mX M A B C) (S:List Int):mX [] (A++[l7 M S]) B C :=
 ⟨tR,h.2.1.app (oz.one (h.1.from fun e b=>by obtain ⟨y,h1,h2,_⟩:=kJ S false e b;exact ⟨y,h1,h2⟩)),h.2.2⟩
theorem oz.runs (d:oz T) (f:oz N) (C:List af) (S:List Int) (nx:Int):oz (dX T N C S nx):=fun r hr e b=>by
 obtain ⟨y,h1,h2,_⟩:=qd r hr e b
 rw [h2]
 rcases h1 with h1 | h1 <;> obtain ⟨p,h3,h4⟩:=lg.1 h1
 · exact d p h3 y h4
 · exact f p h3 y h4
theorem mX.compact0 {A B:List af} (h:mX M A B C) (S:List Int):mX M [] (dX A B C S 1) C:=⟨h.1,pm,oz.runs h.2.1 h.2.2.1 C S 1,h.2.2.2⟩
theorem mX.compact1 {A B:List af} (h:mX M A B C) (p:Nat) (S:List Int):mX M A (B.take p++B.drop (p+1)) (dX ((B.drop p).take 1) C C S 2) :=
 ⟨h.1,h.2.1,h.2.2.1.sub (fun _ hx=>(Gw.1 hx).elim GX Ha),oz.runs (h.2.2.1.sub fun _ hx=>Ha (GX hx)) h.2.2.2 C S 2⟩
end Go.Proofs.YtpobkmjicbobdaaGreat
