/- Walks. -/
import Derived.Test.YtpobkmjicbobdaaGreatBW19
namespace Go.Proofs.YtpobkmjicbobdaaGreat
set_option maxRecDepth 100000
set_option maxHeartbeats 40000000
open Go.RowKit
variable {A B C D N T:List af} {G P base c1 c3 cap cm cs d1 d2 dA dD e1 e2 g g1 g3 gA gD len lo n n1 n2 nD nm ns sz:Nat} {K L M:List ac} {S:List Int} {ab ak am:Option Addr} {e:ac} {nx q:Int} {w w' wi wj:World} {xs:List Value}
theorem uh (d:aP q M [A,B,C] S=true):(A.length≤4∧B.length≤8∧C.length≤8)∧(∀Z ∈ [A,B,C],∀r ∈ Z,cU r.1 r.2=true)∧bn B=true∧bn C=true:=by
 have b:=(aL d).2.2.2.2.2.2.2.1;unfold fa at b;simp only [G2] at b;obtain ⟨hA,hB,hC⟩:=b;rw [cP] at hA hB hC;have hb:∀{Z:List af},eY Z=false→∀r ∈ Z,cU r.1 r.2=true:=fun {Z} h r hr=>by
  unfold eY at h;rw [I5] at h;simpa using h r hr
 refine ⟨⟨by have:=hA.1;omega,by have:=hB.1;omega,by have:=hC.1;omega⟩,fun Z f=>?_,hB.2.2.2 rfl,hC.2.2.2 rfl⟩;simp only [GZ,Hs,or_false] at f;rcases f with rfl | rfl | rfl
 · exact hb hA.2.1
 · exact hb hB.2.1
 · exact hb hC.2.1
theorem rq (B:List af):aW B=(bG B).flatten:=rfl
theorem zj (b:aP q M [A,B,C] S=true):f6 ((bG A).flatten++((bG B).flatten++(bG C).flatten)):=by
 have h:=iI (iJ b) (gG M A B C);exact It (List.sublist_append_right _ _) h
theorem mn {Z:List af} (h:∀r ∈ Z,cU r.1 r.2=true):∀r ∈ Z,aI r.1=true∧1≤r.1.length:=fun r hr=>⟨(bE (h r hr)).2.2.1,(bE (h r hr)).1⟩
theorem Fm (b:aP q M [A,B,C] S=true) (hA:1≤A.length):gX A B:=by
 obtain ⟨_,h2,h3,_⟩:=uh b;exact ⟨hA,mn (h2 A (by simp)),mn (h2 B (by simp)),h3,It (Je (IU _) (List.sublist_append_left _ _)) (zj b)⟩
theorem Fl (b:aP q M [A,B,C] S=true) {p:Nat} (hp:p<B.length):gX ((B.drop p).take 1) C:=by
 obtain ⟨_,h2,_,h4⟩:=uh b;have hs:((B.drop p).take 1).Sublist B:=(List.take_sublist _ _).trans (Jo _ _);refine ⟨by rw [GS,G7];omega,fun r hr=>mn (h2 B (by simp)) r (hs.subset hr),mn (h2 C (by simp)),h4,?_⟩;exact It ((Je (oS (hs.map _)) (IU _)).trans (List.sublist_append_right _ _)) (zj b)
theorem AM {Z:List af} (h:∀r ∈ Z,r.1.length≤150):(bG Z).flatten.length≤150*Z.length:=by
 induction Z with
 | nil=>simp [bG]
 | cons r Z b =>
  have h1:=h r (by simp);have h2:=b (fun x hx=>h x (by simp [hx]));simp only [bG,IH,Ip,GO,Hn] at h2 ⊢;omega
theorem z8 (b:∀r ∈ T,r.1.length≤150) (d:∀r ∈ N,r.1.length≤150) (hl:T.length+N.length≤100):(bG (dW T N)).flatten.length≤100000:=by
 have h:=AM (Z:=dW T N) (fun r hr=>by
  rcases GX.1 hr with h1 | h1
  · exact b r h1
  · exact d r ((mv T N).subset h1))
 have h2:(dW T N).length≤T.length+N.length:=by
  unfold dW;rw [GO];have:=(mv T N).length_le;omega
 omega
theorem mQ {V:List (List af)} (b:aP q M V S=true):S.length≤4:=by
 have h1:=(aL b).2.2.2.2.2.2.1;unfold cG at h1;rw [G2] at h1;exact of_decide_eq_true h1.1
def BT (x y:af):Prop:=Op.bytesLess (aT x.1).toList (bj y.1).toList=true
theorem sa {Z:List af} (h:bn Z=true) (b:∀r ∈ Z,aI r.1=true∧1≤r.1.length):Z.Pairwise BT:=by
 rw [Hl];intro i j hi d f;exact fj h b (j - i - 1) i (by omega) _ _ (j' hi) (by rw [show i+(j - i - 1+1)=j by omega];exact j' d)
theorem xu {Z:List af} (h:Z.Pairwise BT):bn Z=true:=by
 unfold bn;rw [Hf];intro i hi;have hl:=Ia.1 hi;cases i with
 | zero=>unfold l6 iQ;rw [j' hl]
 | succ i =>
  rw [lQ (j' hl) (by omega) (by rw [Is];exact j' (by omega))];exact Hl.1 h i (i+1) (by omega) hl (by omega)
theorem AH (ha:bn N=true) (d:∀r ∈ N,cU r.1 r.2=true) (k1 k2:ByteArray):∃i j,gh N k1 k2 i j:=by
 refine ⟨N.findIdx (fun r=>!Op.bytesLess (aT r.1).toList k1.toList),N.findIdx (fun r=>Op.bytesLess k2.toList (bj r.1).toList),List.findIdx_le_length,List.findIdx_le_length,fun t r b=>⟨fun h=>?_,fun h=>?_,fun h=>?_,fun h=>?_⟩⟩
 · have h1:=List.not_of_lt_findIdx h;have hr:=(F'.1 b).2;rw [hr] at h1;simpa using h1
 · have hl:=(F'.1 b).1;have h1:=List.findIdx_getElem (w:=Jj h hl);cases hc:Op.bytesLess (aT r.1).toList k1.toList with
   | false=>rfl
   | true =>
    have:=zI ha d (j' (Jj h hl)) b h k1 hc;rw [this] at h1;cases h1
 · have h1:=List.not_of_lt_findIdx h;have hr:=(F'.1 b).2;rw [hr] at h1;simpa using h1
 · have hl:=(F'.1 b).1;have h1:=List.findIdx_getElem (w:=Jj h hl);exact Di ha d (j' (Jj h hl)) b h k2 h1
theorem yB {a b:ByteArray} (h:fT a b=true) (hn:a≠b):Op.bytesLess a.toList b.toList=true:=by
 cases hl:Op.bytesLess a.toList b.toList with
 | true=>rfl
 | false =>
  have h2:fT b a=true:=by rw [dQ,hl];rfl
  exact absurd (qR h h2) hn
theorem tW (L:List ac):∀k,k≤L.length→(∀r ∈ (fs L k).1,∃a b,a<b∧b≤(fs L k).2∧r=eU L a b∧(b<L.length→jg L b≠jg L (b - 1)))∧(fs L k).1.Pairwise (fun r s=>∃a b c d,a<b∧b≤c∧c<d∧d≤L.length∧r=eU L a b∧s=eU L c d∧jg L b≠jg L (b - 1))∧(fs L k).2≤k
 | 0,_=>⟨(fun r h=>by cases h),List.Pairwise.nil,GL _⟩
 | k+1,hk=>by
  obtain ⟨h2,h3,h1⟩:=tW L k (by omega)
  obtain ⟨B,f,hB⟩:∃B f,fs L k=(B,f):=⟨_,_,rfl⟩
  rw [hB] at h1 h2 h3
  simp only at h1 h2 h3
  cases hc:ie L f (k+1) with
  | false=>rw [uV hB hc];exact ⟨h2,h3,by omega⟩
  | true =>
   rw [rV hB hc]
   refine ⟨fun r hr=>?_,?_,GL _⟩
   · rcases GX.1 hr with h | h
     · obtain ⟨a,b,x1,t,o,m⟩:=h2 r h
       exact ⟨a,b,x1,by show b≤k+1;omega,o,m⟩
     · rw [G5] at h
       refine ⟨f,k+1,by omega,GL _,h,fun hl e=>?_⟩
       unfold ie at hc
       simp only [Jd,G2,decide_eq_true_eq,Jh,decide_eq_false_iff_not] at hc
       rcases hc with hc | hc
       · omega
       · exact hc.2 e
   · rw [Ih]
     refine ⟨h3,Jb _ _,fun r hr s hs=>?_⟩
     rw [G5] at hs
     obtain ⟨a,b,x1,t,o,m⟩:=h2 r hr
     exact ⟨a,b,f,k+1,x1,t,by omega,hk,o,hs,m (by omega)⟩
theorem yj {a b:Nat} (d:a<b) (hb:b≤L.length):aT (eU L a b).1=jg L (b - 1):=by
 unfold aT jg;rw [tp hb];show (match ((L.drop a).take (b - a))[b - a - 1]? with | some e=>e.1 | none=>⟨#[]⟩)=_
 rw [Hv (by omega),H9,show a+(b - a - 1)=b - 1 by omega];cases L[b - 1]? <;> rfl
theorem EY (hw:nR L):(dR L).Pairwise BT:=by
 refine (tW L L.length (GL _)).2.1.imp ?_;rintro r s ⟨a,b,c,d,h1,h2,h3,h4,rfl,rfl,h5⟩;unfold BT;rw [yj h1 (by omega),oC h3];have e1:=oc hw (a:=b - 1) (c:=b) (by omega) (by omega);have e2:=oc hw (a:=b) (c:=c) (by omega) (by omega);have e3:=yB e1 (fun e=>h5 e.symm);rcases Jd _ _ ▸ (show (Op.bytesLess (jg L b).toList (jg L c).toList || (jg L b).toList == (jg L c).toList)=true from e2) with e | e
 · exact cJ _ _ _ e3 e
 · have:(jg L b).toList=(jg L c).toList:=by simpa using e
   rw [← this];exact e3
theorem qI:∀r ∈ ef T N C S nx,∀e ∈ r.1,∃y,(y ∈ (bG T).flatten∨y ∈ (bG N).flatten)∧e.1=y.1∧e.2.1=y.2.1:=by
 intro r hr e d;rcases lD _ _ hr with h1 | h1
 · exact ⟨e,.inr (IS.2 ⟨r.1,Ib.2 ⟨r,(ID.1 h1).1,rfl⟩,d⟩),rfl,rfl⟩
 · obtain ⟨y,hy,e1,e2⟩:=lm S _ e (uS h1 e d);have b:=(bu _).2.subset hy;unfold dW at b;rw [oF] at b;refine ⟨y,?_,e1,e2⟩;rcases GX.1 b with h2 | h2
   · exact .inl h2
   · exact .inr ((oS ((mv T N).map _)).subset h2)
theorem vU (h:aI L=true) (a b:Nat):aI (eU L a b).1=true:=by
 have hs:((L.drop a).take (b - a)).Sublist L:=(List.take_sublist _ _).trans (Jo _ _);refine gY (It hs (fW h)) (fun e d=>?_);obtain ⟨j,f⟩:=Hr (hs.subset d);exact eo h f
theorem Dc (h:gX T N) (hN:∀r ∈ N,cU r.1 r.2=true) (m:yr T N C S nx=true):(∀r ∈ ef T N C S nx,cU r.1 r.2=true)∧(ef T N C S nx).length≤8∧bn (ef T N C S nx)=true:=by
 have F:=jz h.right S (mc T N C nx);unfold yr at m;rw [G2,decide_eq_true_eq] at m;refine ⟨fun r hr=>?_,m.2,?_⟩
 · have hf:=m.1;unfold iD at hf;have U:=of_decide_eq_true ((Hf.1 hf) r hr);rcases lD _ _ hr with h1 | h1
   · exact hN r (ID.1 h1).1
   · have hn:=oT h1;obtain ⟨a,b,x1,x2,rfl⟩:=uT h1;unfold cU;rw [decide_eq_true hn,decide_eq_true U,show aI (eU (vu T N C S nx) a b).1=true from vU F a b];simp [eU]
 · obtain ⟨i,j,hm⟩:=AH h.ap hN (jf T) (fM T);rw [h.runs C S nx hm];have s:=sa h.ap h.nok;obtain ⟨a3,Y,a0⟩:=h.cut hm;have Q:=us h.t0 h.tok;have Z:∀r ∈ T,∀x ∈ r.1,fT (jf T) x.1=true∧fT x.1 (fM T)=true:=fun r hr x hx=>by
    have:=eK (bu (bG T).flatten).1 (e:=x) ((bu _).2.symm.subset (IS.2 ⟨r.1,Ib.2 ⟨r,hr,rfl⟩,hx⟩));rwa [Q.1,Q.2] at this
   have O:∀r ∈ EP T N,∃t,i≤t∧t<j∧N[t]?=some r:=fun r hr=>by
    rw [Y] at hr;obtain ⟨t,W⟩:=Hr hr;have hl:=(F'.1 W).1;rw [GS,G7] at hl;rw [Hv (by omega),H9] at W;exact ⟨i+t,by omega,by omega,W⟩
   have H:∀{a b c:ByteArray},Op.bytesLess a.toList b.toList=true→fT b c=true→Op.bytesLess a.toList c.toList=true:=fun {a b c} h1 h2=>by
    unfold fT at h2;rw [Jd] at h2;rcases h2 with h2 | h2
    · exact cJ _ _ _ h1 h2
    · have e:b.toList=c.toList:=by simpa using h2
      rw [← e];exact h1
   have o:∀r ∈ dR (vu T N C S nx),∀e ∈ r.1,(∀(u:Nat) (x:af),u<i→N[u]?=some x→Op.bytesLess (aT x.1).toList e.1.toList=true)∧(∀(u:Nat) (z:af),j≤u→N[u]?=some z→Op.bytesLess e.1.toList (bj z.1).toList=true):=fun r hr e R=>by
    obtain ⟨E,I,y,hy,e2⟩:=uj (uS hr e R);rw [← e2];refine ⟨fun u x d hx=>?_,fun u z d hz=>?_⟩
    · rcases GX.1 I with h1 | h1
      · exact H ((hm.2.2 _ _ hx).1 d) (Z E h1 y hy).1
      · obtain ⟨t,t1,t2,t3⟩:=O E h1;have f:=h.nok _ (GP t3);have a4:=(F'.1 t3).1;exact H (fj h.ap h.nok (t - u - 1) u (by omega) x E hx (by rw [show u+(t - u - 1+1)=t by omega];exact t3)) (eK (fb f.1) hy).1
    · rcases GX.1 I with h1 | h1
      · exact ix (Z E h1 y hy).2 ((hm.2.2 _ _ hz).2.2.2 d)
      · obtain ⟨t,t1,t2,t3⟩:=O E h1;have f:=h.nok _ (GP t3);have a5:=(F'.1 hz).1;exact ix (eK (fb f.1) hy).2 (fj h.ap h.nok (u - t - 1) t (by omega) E z t3 (by rw [show t+(u - t - 1+1)=u by omega];exact hz))
   refine xu (Ih.2 ⟨Ih.2 ⟨It (List.take_sublist _ _) s,EY (fb F),fun x hx r hr=>?_⟩,It (Jo _ _) s,fun x hx z hz=>?_⟩)
   · obtain ⟨u,d⟩:=Hr hx;have J:=(F'.1 d).1;rw [GS] at J;rw [Hv (by omega)] at d;obtain ⟨e,R,e1⟩:=mu (oT hr);unfold BT;rw [e1];exact (o r hr e R).1 u x (by omega) d
   · obtain ⟨u,d⟩:=Hr hz;rw [H9] at d;have J:=(F'.1 d).1;rcases GX.1 hx with h1 | h1
     · obtain ⟨v,hv⟩:=Hr h1;have X:=(F'.1 hv).1;rw [GS] at X;rw [Hv (by omega)] at hv;exact fj h.ap h.nok (j+u - v - 1) v (by omega) x z hv (by rw [show v+(j+u - v - 1+1)=j+u by omega];exact d)
     · have hn:=oT h1;obtain ⟨e,R,e1⟩:∃e ∈ x.1,aT x.1=e.1:=by
        have hl:x.1.length - 1<x.1.length:=by omega
        exact ⟨x.1[x.1.length - 1],Hj hl,by unfold aT;rw [j' hl]⟩
       unfold BT;rw [e1];exact (o x h1 e R).2 (j+u) z (by omega) d
theorem xg {Z:List af} (h:∀r ∈ Z,cU r.1 r.2=true):eY Z=false:=by
 unfold eY;rw [I5];intro r hr;simp [h r hr]
theorem gV {Z:List af}:e ∈ aW Z ↔ ∃r ∈ Z,e ∈ r.1:=IR
theorem lG {Z:List af}:e ∈ (bG Z).flatten ↔ ∃r ∈ Z,e ∈ r.1:=by rw [← rq];exact gV
theorem mY:∀e ∈ aW (ef T N C S nx),∃y,((∃r ∈ T,y ∈ r.1)∨y ∈ aW N)∧e.1=y.1∧e.2.1=y.2.1:=fun e d=>by
 obtain ⟨r,hr,b⟩:=gV.1 d
 obtain ⟨y,hy,e1,e2⟩:=qI r hr e b
 refine ⟨y,?_,e1,e2⟩
 rcases hy with hy | hy
 · exact .inl (lG.1 hy)
 · exact .inr (by rw [rq];exact hy)
theorem tr (h:gX T N) (o:dK N 8 true q=true) (u:∀r ∈ T,b6 r.1 q=true) (m:yr T N C S nx=true):dK (ef T N C S nx) 8 true q=true:=by
 obtain ⟨n1,n2,s⟩:=Dc h (dz (cP.1 o).2.1) m;refine cP.2 ⟨by omega,xg n1,fun r hr=>du.2 (fun e t=>?_),fun _=>s⟩;obtain ⟨y,hy,_,e2⟩:=qI r hr e t;rw [e2];rcases hy with hy | hy
 · obtain ⟨f,b,d⟩:=lG.1 hy;exact du.1 (u f b) y d
 · obtain ⟨f,b,d⟩:=lG.1 hy;exact du.1 ((cP.1 o).2.2.1 f b) y d
theorem zA {X Y:List ac} (h:∀y ∈ Y,∃z,(∀x ∈ X,qD x z)∧y.1=z.1∧y.2.1=z.2.1):Ov X Y:=fun x hx y hy hk=>by
 obtain ⟨z,hz,e1,e2⟩:=h y hy
 have:=hz x hx (by rw [← e1];exact hk)
 omega
theorem sF (h:aP q M [A,B,C] S=true) (hA:1≤A.length) (H:yr A B C S 1=true):aP q M [[],ef A B C S 1,C] S=true:=by
 have hc:=Fm h hA;obtain ⟨h1,h2,h3,h4,h5,h6,⟨ha,hb,o⟩,hp⟩:=dJ.1 h;refine dJ.2 ⟨h1,h2,h3,h4,h5,h6,⟨rfl,tr hc hb (cP.1 ha).2.2.1 H,o⟩,?_⟩;rw [iL] at hp ⊢;obtain ⟨s,J⟩:=Hb.1 hp;obtain ⟨_,u,O⟩:=Ih.1 J;have d:Ov (aW B) (aW C):=(Hb.1 u).1 _ (by simp);have t:∀r ∈ A,Ov M r.1:=fun r hr=>s r.1 (Jp _ (Ib.2 ⟨r,Jf.2 hr,rfl⟩))
 have I:∀r ∈ A,Ov r.1 (aW C):=fun r hr=>O r.1 (Ib.2 ⟨r,Jf.2 hr,rfl⟩) _ (by simp)
 have f:Ov M (aW B):=s _ (by simp);have E:Ov M (aW C):=s _ (by simp);have m:Ov M (aW (ef A B C S 1)):=zA (fun y hy=>by
  obtain ⟨z,hz,e1,e2⟩:=mY y hy;refine ⟨z,fun x hx=>?_,e1,e2⟩;rcases hz with ⟨r,hr,hz⟩ | hz
  · exact t r hr x hx z hz
  · exact f x hx z hz)
 have F:Ov (aW (ef A B C S 1)) (aW C):=fun x hx y hy hk=>by
  obtain ⟨z,hz,e1,e2⟩:=mY x hx;have:y.2.1<z.2.1:=by
   rcases hz with ⟨r,hr,hz⟩ | hz
   · exact I r hr z hz y hy (by rw [← e1];exact hk)
   · exact d z hz y hy (by rw [← e1];exact hk)
  omega
 refine Hb.2 ⟨fun X b=>?_,Hb.2 ⟨fun X b=>?_,Jb _ _⟩⟩
 · simp only [List.reverse_nil,I9,Ho,GZ,Hs,or_false] at b;rcases b with rfl | rfl
   · exact m
   · exact E
 · rw [G5.1 b];exact F
theorem sE (h:aP q M [A,B,C] S=true) {p:Nat} (W:p<B.length) (a1:yr ((B.drop p).take 1) C C S 2=true):aP q M [A,B.take p++B.drop (p+1),ef ((B.drop p).take 1) C C S 2] S=true:=by
 have hc:=Fl h W;obtain ⟨h1,h2,h3,h4,h5,h6,⟨ha,hb,a3⟩,hp⟩:=dJ.1 h;obtain ⟨b1,b2,b3,b4⟩:=cP.1 hb;have hT:∀r ∈ (B.drop p).take 1,r ∈ B:=fun r hr=>H8 (Hq hr)
 have d:(B.take p++B.drop (p+1)).Sublist B:=by
  have e:=Hh p B;conv=>rhs;rw [← e]
  exact Je (IU _) (by rw [← IG];exact Jo _ _)
 have Q:=sa (b4 rfl) (mn (dz b2));have a6:dK (B.take p++B.drop (p+1)) 8 true q=true:=cP.2 ⟨by have:=d.length_le;omega,xg (fun r hr=>dz b2 r (d.subset hr)),fun r hr=>b3 r (d.subset hr),fun _=>xu (It d Q)⟩;refine dJ.2 ⟨h1,h2,h3,h4,h5,h6,⟨ha,a6,tr hc a3 (fun r hr=>b3 r (hT r hr)) a1⟩,?_⟩;rw [iL] at hp ⊢;obtain ⟨Z,pR⟩:=Hb.1 hp;obtain ⟨pA,a0,pX⟩:=Ih.1 pR;have U:Ov (aW B) (aW C):=(Hb.1 a0).1 _ (by simp);have I:∀(X:List ac),Ov X (aW B)→Ov X (aW C)→Ov X (aW (B.take p++B.drop (p+1)))∧Ov X (aW (ef ((B.drop p).take 1) C C S 2)):=fun X x1 x2=>by
  refine ⟨fun x hx y hy=>?_,zA (fun y hy=>?_)⟩
  · obtain ⟨r,hr,a7⟩:=gV.1 hy;exact x1 x hx y (gV.2 ⟨r,d.subset hr,a7⟩)
  · obtain ⟨z,hz,e1,e2⟩:=mY y hy;refine ⟨z,fun x hx=>?_,e1,e2⟩;rcases hz with ⟨r,hr,hz⟩ | hz
    · exact x1 x hx z (gV.2 ⟨r,hT r hr,hz⟩)
    · exact x2 x hx z hz
 have O:∀{r:af} {e:ac},r ∈ B→e ∈ r.1→fT (bj r.1) e.1=true∧fT e.1 (aT r.1)=true:=fun {r e} hr he=>eK (fb (mn (dz b2) r hr).1) he
 have E:Ov (aW (B.take p++B.drop (p+1))) (aW (ef ((B.drop p).take 1) C C S 2)):=fun x hx y hy hk=>by
  obtain ⟨z,hz,e1,e2⟩:=mY y hy;rcases hz with ⟨r,hr,hz⟩ | hz
  · exfalso
    have H:B[p]?=some r:=by
     obtain ⟨t,Y⟩:=Hr hr;have hl:=(F'.1 Y).1;rw [GS] at hl;rw [Hv (by omega),H9] at Y;rw [show p=p+t by omega];exact Y
    obtain ⟨s,hs,f⟩:=gV.1 hx;have J:=hk.trans e1;have no:∀{u v:Nat} {a b:af} {ea eb:ac},u<v→B[u]?=some a→B[v]?=some b→ea ∈ a.1→eb ∈ b.1→ea.1=eb.1→False:=fun {u v a b ea eb} aj o hv h7 h8 h9=>by
     have ai:=(F'.1 hv).1;have f1:=fj (b4 rfl) (mn (dz b2)) (v - u - 1) u (by omega) a b o (by rw [show u+(v - u - 1+1)=v by omega];exact hv);have g1:=(O (GP o) h7).2;have g2:=(O (GP hv) h8).1;have g3:=ix g1 f1;rw [dQ] at g2;rw [h9] at g3;rw [g3] at g2;cases g2
    rcases GX.1 hs with hs | hs
    · obtain ⟨u,o⟩:=Hr hs;have hl:=(F'.1 o).1;rw [GS] at hl;rw [Hv (by omega)] at o;exact no (by omega) o H f hz J
    · obtain ⟨u,o⟩:=Hr hs;rw [H9] at o;exact no (by omega) H o hz f J.symm
  · have:=U x (by obtain ⟨s,hs,f⟩:=gV.1 hx;exact gV.2 ⟨s,d.subset hs,f⟩) z hz (hk.trans e1);omega
 refine Hb.2 ⟨fun X m=>?_,Ih.2 ⟨pA,Hb.2 ⟨fun X m=>?_,Jb _ _⟩,fun a R b F=>?_⟩⟩
 · rcases GX.1 m with m | m
   · exact Z X (Jp _ m)
   · have:=I M (Z _ (by simp)) (Z _ (by simp));rcases GZ.1 m with rfl | m
     · exact this.1
     · rw [G5.1 m];exact this.2
 · rw [G5.1 m];exact E
 · have:=I a (pX a R _ (by simp)) (pX a R _ (by simp));rcases GZ.1 F with rfl | F
   · exact this.1
   · rw [G5.1 F];exact this.2
def pU (L:List ac):Prop:=∀e ∈ L,¬e.1.data.toList=[110,111,110,101]
def o5 (B:List af):Prop:=∀p ∈ B,pU p.1
def nY (M:List ac) (A B C:List af):Prop:=pU M∧o5 A∧o5 B∧o5 C
theorem uv:pU []:=fun _ h=>by cases h
theorem pJ:o5 []:=fun _ h=>by cases h
theorem pU.app (h:pU L) (k:pU K):pU (L++K):=fun e b=>(GX.1 b).elim (h e) (k e)
theorem o5.app (h:o5 A) (k:o5 B):o5 (A++B):=fun p hp=>(GX.1 hp).elim (h p) (k p)
theorem o5.sub (h:o5 A) (k:∀p ∈ B,p ∈ A):o5 B:=fun p hp=>h p (k p hp)
theorem o5.one {m:Int} (h:pU L):o5 [(L,m)]:=fun p hp=>by
 rw [G5] at hp
 subst hp
 exact h
theorem pU.from (h:pU L) (k:∀e ∈ K,∃y ∈ L,e.1=y.1):pU K:=fun e b=>by
 obtain ⟨y,hy,e1⟩:=k e b
 rw [e1]
 exact h y hy
theorem pU.stamped (h:pU K):pU (dh q K):=h.from fun e b=>by
 obtain ⟨i,hi,rfl⟩:=Hm b
 rw [fk] at hi
 exact ⟨K[i],Hj hi,by simp [dh,Ey]⟩
theorem pU.puts:∀(D:List ac) {M:List ac},pU M→pU D→pU (D.foldl eI M)
 | [],_,h,_=>h
 | x :: D,_,h,k=>pU.puts D (fun e b=>(GX.1 ((vM _ _).mem_iff.1 b)).elim (h e) (fun h1=>by rw [G5] at h1;subst h1;exact k _ Ha)) (fun e b=>k e (He _ b))
theorem nY.flush (h:nY M A B C) (S:List Int):nY [] (A++[mz M S]) B C :=
 ⟨uv,h.2.1.app (o5.one (h.1.from fun e b=>by obtain ⟨y,h1,h2,_⟩:=lm S false e b;exact ⟨y,h1,h2⟩)),h.2.2⟩
theorem o5.runs (d:o5 T) (f:o5 N) (C:List af) (S:List Int) (nx:Int):o5 (ef T N C S nx):=fun r hr e b=>by
 obtain ⟨y,h1,h2,_⟩:=qI r hr e b
 rw [h2]
 rcases h1 with h1 | h1 <;> obtain ⟨p,h3,h4⟩:=lG.1 h1
 · exact d p h3 y h4
 · exact f p h3 y h4
theorem nY.compact0 (h:nY M A B C) (S:List Int):nY M [] (ef A B C S 1) C:=⟨h.1,pJ,o5.runs h.2.1 h.2.2.1 C S 1,h.2.2.2⟩
theorem nY.compact1 (h:nY M A B C) (p:Nat) (S:List Int):nY M A (B.take p++B.drop (p+1)) (ef ((B.drop p).take 1) C C S 2) :=
 ⟨h.1,h.2.1,h.2.2.1.sub (fun _ hx=>(GX.1 hx).elim Hq H8),o5.runs (h.2.2.1.sub fun _ hx=>H8 (Hq hx)) h.2.2.2 C S 2⟩
def dH (p:Nat→Prop) (w:World) (a:Option Addr) (n c:Nat) (B:List af):Prop :=
 aw 0 w a n c B∧∀x,a=some x→0<n→p x.block∧∀i,i<n→∀s m d,w.cell? ⟨x.block,x.off+i*2,none⟩=some (.slice s m d)→∀y,s=some y→0<m→p y.block
theorem dH.same {p:Nat→Prop} {a:Option Addr} {c:Nat} (h:dH p w a n c B) (hs:w.heap.size≤w'.heap.size) (hc:∀b,p b→b<w.heap.size→w'.heap[b]?=w.heap[b]?):dH p w' a n c B:=by
 have f:∀b,p b→b<w.heap.size→∀o,w'.cell? ⟨b,o,none⟩=w.cell? ⟨b,o,none⟩:=fun b h1 h2 o=>Hz (a:=⟨b,o,none⟩) (hc b h1 h2)
 refine ⟨⟨h.1.length,h.1.room,h.1.big,h.1.nil,fun x e hp=>⟨E' (h.1.lies x e hp).1 hs,(h.1.lies x e hp).2⟩,fun x e i hi=>?_⟩,fun x e hp=>?_⟩
 · have hn:0<n:=by have:=h.1.length;omega
   obtain ⟨hw,s,m,d,c0,c1,hL⟩:=h.1.runs x e i hi;obtain ⟨q1,q2⟩:=h.2 x e hn;have hx:=(h.1.lies x e hn).1;refine ⟨hw,s,m,d,(f _ q1 hx _).trans c0,(f _ q1 hx _).trans c1,?_,fun _ _ _=>GQ _⟩;exact hL.1.moved hs (fun y t hm o=>f _ (q2 i (by have:=h.1.length;omega) s m d c0 y t hm) (hL.1.lies y t hm).1 o)
 · obtain ⟨q1,q2⟩:=h.2 x e hp;have hx:=(h.1.lies x e hp).1;exact ⟨q1,fun i hi s m d r=>q2 i hi s m d ((f _ q1 hx _).symm.trans r)⟩
theorem dH.below {p:Nat→Prop} {a:Option Addr} {c:Nat} (h:dH p w a n c B) (hb:Bl w w'):dH p w' a n c B:=h.same hb.size (fun b _ hl=>hb.block b hl)
theorem dH.imp {p f:Nat→Prop} {a:Option Addr} {c:Nat} (h:dH p w a n c B) (hp:∀b,p b→f b):dH f w a n c B:=⟨h.1,fun x e hn=>⟨hp _ (h.2 x e hn).1,fun i hi s m d hc y o hm=>hp _ ((h.2 x e hn).2 i hi s m d hc y o hm)⟩⟩
theorem aw.toP {p:Nat→Prop} {a:Option Addr} {c:Nat} (h:aw 0 w a n c B) (h1:∀b o s m d k,b<w.heap.size→w.cell? ⟨b,o,none⟩=some (.slice s m d)→w.cell? ⟨b,o+1,none⟩=some (iT k)→(∀y,s=some y→0<m→∃t,w.cell? ⟨y.block,y.off,none⟩=some (.string t))→(m=0→∃r ∈ B,r.1=[])→p b) (h2:∀b o t,b<w.heap.size→w.cell? ⟨b,o,none⟩=some (.string t)→p b):dH p w a n c B:=by
 have f:∀{s:Option Addr} {m d:Nat} {L:List ac},fu 0 w s m d L→∀y,s=some y→0<m→y.block<w.heap.size∧∃t,w.cell? ⟨y.block,y.off,none⟩=some (.string t):=fun {s m d L} hL y u hm=>by
  have hc:=hL.1.cells y u 0 (by have:=hL.1.length;omega);exact ⟨(hL.1.lies y u hm).1,_,by simpa using hc.1⟩
 refine ⟨h,fun x e hn=>?_⟩;have hx:=(h.lies x e hn).1;refine ⟨?_,fun i hi s m d hc y u hm=>?_⟩
 · have hl:0<B.length:=by have:=h.length;omega
   obtain ⟨_,s,m,d,c0,c1,hL⟩:=h.runs x e 0 hl;exact h1 _ _ s m d _ hx c0 c1 (fun y u hm=>(f hL y u hm).2) (fun hm=>⟨B[0],Hj hl,List.eq_nil_of_length_eq_zero (by rw [hL.1.length,hm])⟩)
 · obtain ⟨_,E,H,F,c0,_,hL⟩:=h.runs x e i (by have:=h.length;omega);rw [hc] at c0;cases c0;obtain ⟨q1,t,q2⟩:=f hL y u hm;exact h2 _ _ t q1 q2
theorem aw.lowP {a:Option Addr} {c:Nat} (h:aw 0 w a n c B) {p:Nat→Prop} (hp:∀b,b<w.heap.size→p b):dH p w a n c B:=h.toP (fun b _ _ _ _ _ hb _ _ _ _=>hp b hb) (fun b _ _ hb _=>hp b hb)
theorem aw.boxP {a:Option Addr} {c X:Nat} (h:aw 0 w a n c B) (f:BW w X) {p:Nat→Prop} (hp:∀b,b<w.heap.size→b≠X→p b):dH p w a n c B :=
 h.toP (fun b o s m d k hb h0 h1 _ _=>hp b hb (fun e=>by subst e;exact (f o).2 _ _ _ k h0 h1)) (fun b o t hb h0=>hp b hb (fun e=>by subst e;exact (f o).1 t h0))
theorem tj {f:World} {a:Option Addr} {c Z:Nat} (h:aw 0 f a n c B) (u:BW f Z) (hs:f.heap.size≤w'.heap.size) (hk:∀b,b<f.heap.size→b≠Z→w'.heap[b]?=f.heap[b]?) (hg:f.heap.size≤g∨∀o,f.cell? ⟨g,o,none⟩=none) (hG:f.heap.size≤G):dH (fun b=>b≠g∧b≠G) w' a n c B:=by
 have r:∀b o v,b<f.heap.size→f.cell? ⟨b,o,none⟩=some v→b≠g∧b≠G:=fun b o v hb hc=>by
  refine ⟨fun e=>?_,by omega⟩;subst e;rcases hg with h1 | h1
  · omega
  · rw [h1 o] at hc;cases hc
 have h1:dH (fun b=>(b≠g∧b≠G)∧b≠Z) f a n c B:=h.toP (fun b o s m d k hb h0 h1 _ _=>⟨r b o _ hb h0,fun e=>by subst e;exact (u o).2 _ _ _ k h0 h1⟩) (fun b o t hb h0=>⟨r b o _ hb h0,fun e=>by subst e;exact (u o).1 t h0⟩);exact (h1.same hs (fun b hb hl=>hk b hl hb.2)).imp (fun _ hb=>hb.1)
theorem qv {b:Nat} (h:w.heap[b]?=some (.cells #[] 63 (0,0))) (hl:lo≤b):bo lo w b 0 0 [] :=
 ⟨rfl,(fun p hp=>by cases hp),[],⟨rfl,.inr ⟨b,0,#[],rfl,hl,h,GL _,GQ _,rfl,rfl⟩⟩,fun i p hp=>by simp at hp⟩
theorem tO (w:World) (X:Nat) (u0 u1 u2 u3:Value):∀b,b≠X→((((w.setCell ⟨X,0,none⟩ u0).setCell ⟨X,1,none⟩ u1).setCell ⟨X,2,none⟩ u2).setCell ⟨X,3,none⟩ u3).heap[b]?=w.heap[b]?:=fun b hb=>by
 rw [Below.heap_setCell _ _ _ _ hb,Below.heap_setCell _ _ _ _ hb,Below.heap_setCell _ _ _ _ hb,Below.heap_setCell _ _ _ _ hb]
theorem aw.offR {a:Option Addr} {c R:Nat} (h:aw 0 w a n c B) (u:∀r ∈ B,1≤r.1.length) (hR:bh w R ab len cap P):dH (·≠R) w a n c B:=by
 have f:∀o,w.cell? ⟨R,o,none⟩=some (.slice ab len cap)∨w.cell? ⟨R,o,none⟩=some (iT P)∨w.cell? ⟨R,o,none⟩=none:=fun o=>by
  match o with
  | 0=>exact .inl hR.c0
  | 1=>exact .inr (.inl hR.c1)
  | o+2=>exact .inr (.inr (hR.two o))
 refine h.toP (fun b o s m d k _ h0 h1 h3 h4 e=>?_) (fun b o t _ h0 e=>?_)
 · subst e;rcases f o with h5 | h5 | h5 <;> rw [h0] at h5 <;> cases h5
   by_cases hm:len=0
   · obtain ⟨r,hr,e⟩:=h4 hm;have:=u r hr;rw [e] at this;simp at this
   · rcases hR.bytes with h6 | ⟨b,x,rfl,_,_,hc⟩
     · exact hm h6
     · obtain ⟨t,y⟩:=h3 _ rfl (by omega);obtain ⟨z,_,hz⟩:=hc 0 (by omega);simp only [Ik] at hz;rw [y] at hz;cases hz
 · subst e;rcases f o with h5 | h5 | h5 <;> rw [h0] at h5 <;> cases h5
theorem bo.toP {p:Nat→Prop} {c:Nat} (h:bo base w g n c B) (h1:p g) (h2:∀b sz,base≤b→aq w b 50 sz→p b):dH p w (pT g) n c B:=by
 refine ⟨h.runsIn.mono (GQ _),fun x e hn=>?_⟩;cases e;refine ⟨h1,fun i hi s m d hc y o hm=>?_⟩;obtain ⟨q1,q2,xs,q3,q4⟩:=h;obtain ⟨e,r,a1,a2,a3⟩:=q4 i B[i] (j' (by omega));have f:=q3.cells (g:=g) rfl (i*2) _ a1;rw [G6] at f;rw [hc] at f;have hs:s=some ⟨e,0,none⟩:=by injection f with h1;injection h1
 rw [hs] at o;cases o;obtain ⟨sz,k⟩:=aQ a3.owns;exact h2 _ sz a3.lt.1 k
theorem aq.grown {t X:Nat} (h:aq w g t sz) (hg:w.grownBy w' (some X)) (d:g≠X):aq w' g t sz:=by
 obtain ⟨b,h1,h2⟩:=h;exact ⟨b,(hg.block g (Ii.1 h1).1 (fun e=>d (GN e))).trans h1,h2⟩
structure mL (lo:Nat) (w:World) (am:Option Addr) (nm cm G c:Nat) (ak:Option Addr) (ns cs gA dA:Nat) (e1 n1 d1 e2 n2 d2:Nat) (M:List ac) (A B C:List af) (S:List Int):Prop where
 mem:cE w lo am nm cm M
 row:w.ownsRow lo 61 1 (sL G 3 c) 3 [sL gA A.length dA,sL e1 n1 d1,sL e2 n2 d2]
 rA:bo lo w gA A.length dA A
 rB:dH (fun b=>b≠gA∧b≠G) w (pT e1) n1 d1 B
 rC:dH (fun b=>b≠gA∧b≠G) w (pT e2) n2 d2 C
 sn:bJ lo w ak ns cs S
 sk:∀x,ak=some x→0<ns→∃sz,aq w x.block 3 sz
theorem mL.grown {c:Nat} {X:Nat} (h:mL lo w am nm cm G c ak ns cs gA dA e1 n1 d1 e2 n2 d2 M A B C S) (hg:w.grownBy w' (some X))
 (hm:∀x,am=some x→x.block≠X) (hG:G≠X) (hA:bo lo w' gA A.length dA A) (hB:dH (·≠X) w (pT e1) n1 d1 B) (hC:dH (·≠X) w (pT e2) n2 d2 C) (hk:∀x,ak=some x→0<ns→x.block≠X):mL lo w' am nm cm G c ak ns cs gA dA e1 n1 d1 e2 n2 d2 M A B C S:=by
 have f:∀{a n d} {Z:List af},dH (fun b=>b≠gA∧b≠G) w a n d Z→dH (·≠X) w a n d Z→dH (fun b=>b≠gA∧b≠G) w' a n d Z:=fun {a n d Z} h1 h2=>by
  have h3:dH (fun b=>(b≠gA∧b≠G)∧b≠X) w a n d Z:=⟨h1.1,fun x e hn=>⟨⟨(h1.2 x e hn).1,(h2.2 x e hn).1⟩,fun i hi s m d hc y o hm=>⟨(h1.2 x e hn).2 i hi s m d hc y o hm,(h2.2 x e hn).2 i hi s m d hc y o hm⟩⟩⟩;have h4:=h3.same hg.size (fun b hb hl=>hg.block b hl (fun e=>hb.2 (GN e)));exact ⟨h4.1,fun x e hn=>⟨((h4.2 x e hn).1).1,fun i hi s m d hc y o hm=>((h4.2 x e hn).2 i hi s m d hc y o hm).1⟩⟩
 refine ⟨h.mem.grown hg (fun x e r=>hm x e (GN r)),h.row.kept hg (.inr fun e=>hG (by simpa [Value.ownBlock] using e)),hA,f h.rB hB,f h.rC hC,?_,fun x e hn=>?_⟩
 · refine ⟨h.sn.length,h.sn.room,h.sn.big,h.sn.wfs,h.sn.nil,fun x e hp=>⟨E' (h.sn.lies x e hp).1 hg.size,(h.sn.lies x e hp).2⟩,fun x e i hi=>?_⟩;have hp:0<ns:=by have:=h.sn.length;omega
   exact (Hz (a:=⟨x.block,x.off+i,none⟩) (hg.block _ (h.sn.lies x e hp).1 (fun r=>hk x e hp (GN r)))).trans (h.sn.cells x e i hi)
 · obtain ⟨sz,k⟩:=h.sk x e hn;exact ⟨sz,k.grown hg (hk x e hn)⟩
theorem mL.below {c:Nat} (h:mL lo w am nm cm G c ak ns cs gA dA e1 n1 d1 e2 n2 d2 M A B C S) (hb:Bl w w'):mL lo w' am nm cm G c ak ns cs gA dA e1 n1 d1 e2 n2 d2 M A B C S :=
 ⟨h.mem.below hb,b9 h.row hb,h.rA.below hb,h.rB.below hb,h.rC.below hb,h.sn.keep hb,fun x e hn=>by obtain ⟨sz,k⟩:=h.sk x e hn;exact ⟨sz,k.below hb⟩⟩
theorem mL.box {c:Nat} {X:Nat} (h:mL lo w am nm cm G c ak ns cs gA dA e1 n1 d1 e2 n2 d2 M A B C S) (hk:aq w X 31 sz) (f:BW w X) (hg:w.grownBy w' (some X)):mL lo w' am nm cm G c ak ns cs gA dA e1 n1 d1 e2 n2 d2 M A B C S:=by
 refine h.grown hg (fun x e d=>?_) (fun e=>?_) (h.rA.grown hk (by decide) (by decide) hg) (h.rB.1.boxP f fun b _ hn=>hn) (h.rC.1.boxP f fun b _ hn=>hn) (fun x e hn d=>?_)
 · obtain ⟨g,rfl,h2⟩:=h.mem.own x e;obtain ⟨_,k⟩:=aQ h2.owns;simp only at d;subst d;exact absurd (hk.kind k) (by decide)
 · obtain ⟨_,k⟩:=aQ h.row;rw [e] at k;exact absurd (hk.kind k) (by decide)
 · obtain ⟨_,k⟩:=h.sk x e hn;rw [d] at k;exact absurd (hk.kind k) (by decide)
theorem mL.read {c:Nat} {R:Nat} (h:mL lo w am nm cm G c ak ns cs gA dA e1 n1 d1 e2 n2 d2 M A B C S) (hR:bh w R ab len cap P) (hl:R<lo) (hB:∀r ∈ B,1≤r.1.length) (hC:∀r ∈ C,1≤r.1.length) (hg:w.grownBy w' (some R)):mL lo w' am nm cm G c ak ns cs gA dA e1 n1 d1 e2 n2 d2 M A B C S:=by
 refine h.grown hg (fun x e=>?_) ?_ (h.rA.low hl hg) (h.rB.1.offR hB hR) (h.rC.1.offR hC hR) (fun x e hn=>?_)
 · have:=(h.mem.lt x e).1;omega
 · have:=(h.row.lt G rfl).1;omega
 · have:=(h.sn.lies x e hn).2.2;omega
theorem mL.head {c:Nat} (h:mL lo w am nm cm G c ak ns cs gA dA e1 n1 d1 e2 n2 d2 M A B C S):w.cell? ⟨G,0,none⟩=some (sL gA A.length dA)∧w.cell? ⟨G,1,none⟩=some (sL e1 n1 d1)∧w.cell? ⟨G,2,none⟩=some (sL e2 n2 d2)∧G<w.heap.size∧w.frozen? ⟨G,0,none⟩=false :=
 ⟨h.row.cellAt 0 (by omega),h.row.cellAt 1 (by omega),h.row.cellAt 2 (by omega),(h.row.lt G rfl).2,h.row.frozenAt 0⟩
theorem mL.treeIn {c:Nat} (h:mL lo w am nm cm G c ak ns cs gA dA e1 n1 d1 e2 n2 d2 M A B C S):aZ 0 w am nm cm (pT G) 3 c ak ns cs M [A,B,C] S :=
 ⟨⟨h.mem.entsAt,fun _ _ _=>GQ _⟩,kL (cC h.row).1 (cC h.row).2 h.head.1 h.head.2.1 h.head.2.2.1 (h.rA.runsIn.mono (GQ _)) h.rB.1 h.rC.1,h.sn.lower (GQ _)⟩
theorem cQ.trS {c:Nat} (h:cQ base w g1 nm c1 G 3 c g3 ns c3 M [A,B,C] S) (hl:lo≤base):∃gA dA s E r u,mL lo w (pT g1) nm c1 G c (pT g3) ns c3 gA dA s B.length E r C.length u M A B C S:=by
 obtain ⟨gA,dA,s,E,r,u,hrow,J,O,U,y,t⟩:=h.split;obtain ⟨_,I⟩:=aQ hrow;have F:∀{g n d:Nat} {Z:List af},bo base w g n d Z→∃sz,aq w g 63 sz:=fun f=>by
  obtain ⟨_,_,xs,h3,_⟩:=f;exact aQ h3
 have mk:∀{g n d:Nat} {Z:List af},bo base w g n d Z→gA≠g→dH (fun b=>b≠gA∧b≠G) w (pT g) n d Z:=fun {g n d Z} f o=>by
  obtain ⟨_,H⟩:=F f;obtain ⟨_,Q⟩:=F J;refine f.toP ⟨o.symm,fun e=>?_⟩ (fun b sz _ m=>⟨fun e=>?_,fun e=>?_⟩)
  · rw [e] at H;exact absurd (H.kind I) (by decide)
  · rw [e] at m;exact absurd (m.kind Q) (by decide)
  · rw [e] at m;exact absurd (m.kind I) (by decide)
 obtain ⟨sz,R⟩:=aQ h.sn;exact ⟨gA,dA,s,E,r,u,(cE.some h.mem).mono hl,eN hrow hl,J.mono hl,mk O y,mk U t,(jF h.sn h.slen h.swf).lower hl,fun x e _=>by cases e;exact ⟨sz,R⟩⟩
theorem mL.four {c:Nat} {X:Nat} {z:Int} {a1 a2 a3 b1 b2 b3:Option Addr} {m1 k1 m2 k2 m3 k3 E F x t s u:Nat} (h:mL lo w am nm cm G c ak ns cs gA dA e1 n1 d1 e2 n2 d2 M A B C S) (hk:aq w X 31 4) (r:ay w X (iT z) (.slice b1 E F) (.slice b2 x t) (.slice b3 s u)):mL lo ((((w.setCell ⟨X,0,none⟩ (iT q)).setCell ⟨X,1,none⟩ (.slice a1 m1 k1)).setCell ⟨X,2,none⟩ (.slice a2 m2 k2)).setCell ⟨X,3,none⟩ (.slice a3 m3 k3)) am nm cm G c ak ns cs gA dA e1 n1 d1 e2 n2 d2 M A B C S:=by
 have h0:=h.box hk (gN hk r) (dg w X 0 (iT q));have m:=hk.setCell (b:=X) (o:=0) (iT q);have x0:=r.set0 (iT q);have h1:=h0.box m (gN m x0) (dg _ X 1 (.slice a1 m1 k1));have d:=m.setCell (b:=X) (o:=1) (.slice a1 m1 k1);have x1:=x0.set1 (.slice a1 m1 k1);have h2:=h1.box d (gN d x1) (dg _ X 2 (.slice a2 m2 k2));have f:=d.setCell (b:=X) (o:=2) (.slice a2 m2 k2);have y:=x1.set2 (.slice a2 m2 k2);exact h2.box f (gN f y) (dg _ X 3 (.slice a3 m3 k3))
structure xD (base:Nat) (w:World) (g1 nm c1 G c g3 ns c3 gD nD dD:Nat) (xs:List Value) (M:List ac) (D:List af) (S:List Int):Prop where
 mem:ag w base g1 nm c1 M
 lev:bo base w gD nD dD D
 slen:S.length=ns
 swf:∀z ∈ S,(Lit.int .i64 z).wf=true
 sn:w.ownsRow base 3 1 (sL g3 ns c3) ns (S.map iT)
 row:w.ownsRow base 61 1 (sL G 3 c) 3 xs
theorem xD.below {c:Nat} (h:xD base w g1 nm c1 G c g3 ns c3 gD nD dD xs M D S) (hb:Bl w w'):xD base w' g1 nm c1 G c g3 ns c3 gD nD dD xs M D S :=
 ⟨h.mem.below hb,h.lev.below hb,h.slen,h.swf,b9 h.sn hb,b9 h.row hb⟩
theorem xD.setG {c:Nat} (h:xD base w g1 nm c1 G c g3 ns c3 gD nD dD xs M D S) (o:Nat) (u:Value):xD base (w.setCell ⟨G,o,none⟩ u) g1 nm c1 G c g3 ns c3 gD nD dD (xs.set o u) M D S:=by
 obtain ⟨sz,k⟩:=aQ h.row;have hg:=dg w G o u;have hk:∀{T size n m g c:Nat} {xs:List Value},T≠61→w.ownsRow base T size (sL g m c) n xs→(w.setCell ⟨G,o,none⟩ u).ownsRow base T size (sL g m c) n xs:=fun {T size n m g c xs} b h3=>h3.kept hg (.inr fun e=>by
  have d:g=G:=by simpa [Value.ownBlock] using e
  obtain ⟨_,k3⟩:=aQ h3;rw [d] at k3;exact b (k3.kind k))
 exact ⟨⟨hk (by decide) h.mem.owns,h.mem.len,h.mem.ents⟩,h.lev.grown k (by decide) (by decide) hg,h.slen,h.swf,hk (by decide) h.sn,(h.row.stored o u).1⟩
theorem xD.setX {c X:Nat} (h:xD base w g1 nm c1 G c g3 ns c3 gD nD dD xs M D S) (b:X<base) (o:Nat) (u:Value):xD base (w.setCell ⟨X,o,none⟩ u) g1 nm c1 G c g3 ns c3 gD nD dD xs M D S:=by
 have hg:=dg w X o u;have hk:∀{T size n m g c:Nat} {xs:List Value},w.ownsRow base T size (sL g m c) n xs→(w.setCell ⟨X,o,none⟩ u).ownsRow base T size (sL g m c) n xs:=fun {T size n m g c xs} h3=>h3.kept hg (.inr fun e=>by
  have d:g=X:=by simpa [Value.ownBlock] using e
  have:=(h3.lt g rfl).1;omega)
 exact ⟨⟨hk h.mem.owns,h.mem.len,h.mem.ents⟩,h.lev.low b hg,h.slen,h.swf,hk h.sn,hk h.row⟩
def mJ (lo:Nat) (q:Int) (v:Value) (M:List ac) (A B C:List af) (S:List Int) (ok:Bool) (w:World) (e:Ending) (w':World):Prop :=
 ∃am nm cm av nv cv ak ns cs,e=.returned (.tuple #[.agg #[iT q,.slice am nm cm,.slice av nv cv,.slice ak ns cs],.bool ok])∧Bl w w'∧(ok=false→(.agg #[iT q,.slice am nm cm,.slice av nv cv,.slice ak ns cs]:Value)=v)∧(ok=true→∃G gA dA e1 n1 d1 e2 n2 d2,av=some ⟨G,0,none⟩∧nv=3∧mL lo w' am nm cm G cv ak ns cs gA dA e1 n1 d1 e2 n2 d2 M A B C S)
def dr (lo:Nat) (w:World) (v:Value):Prop :=
 ∃q am nm cm G c ak ns cs gA dA e1 n1 d1 e2 n2 d2 M A B C S,v=.agg #[iT q,.slice am nm cm,sL G 3 c,.slice ak ns cs]∧mL lo w am nm cm G c ak ns cs gA dA e1 n1 d1 e2 n2 d2 M A B C S∧aP q M [A,B,C] S=true∧nY M A B C
structure iG (lo:Nat) (R:Option Nat) (w w':World):Prop where
 os:w'.os=w.os
 tape:w'.tape=w.tape
 output:w'.output=w.output
 size:w.heap.size≤w'.heap.size
 block:∀k,k<w.heap.size→some k≠R→(k<lo∨aq w k 31 4)→w'.heap[k]?=w.heap[k]?
theorem iG.of {R:Option Nat} (h:Bl w w'):iG lo R w w':=⟨h.os,h.tape,h.output,h.size,fun k hk _ _=>h.block k hk⟩
theorem iG.trans {R:Option Nat} {a b c:World} (h:iG lo R a b) (k:iG lo R b c):iG lo R a c :=
 ⟨k.os.trans h.os,k.tape.trans h.tape,k.output.trans h.output,GU h.size k.size,fun i hi hn hc=>(k.block i (E' hi h.size) hn (hc.imp id fun hB=>hB.same (h.block i hi hn (.inr hB)))).trans (h.block i hi hn hc)⟩
theorem iG.next {R:Option Nat} {a b c:World} (h:iG lo R a b) (k:Bl b c):iG lo R a c:=h.trans (iG.of k)
theorem iG.put {Z:Nat} {R:Option Nat} (h:iG lo R w wi) (hg:wi.grownBy wj (some Z)) (hz:lo≤Z) (hk:w.heap.size≤Z∨¬aq wi Z 31 4):iG lo R w wj :=
 ⟨hg.os.trans h.os,hg.tape.trans h.tape,hg.output.trans h.output,GU h.size hg.size,fun k b hn hc=>by
  have h1:=h.block k b hn hc
  refine (hg.block k (E' b h.size) (fun e=>?_)).trans h1
  have d:=GN e
  subst d
  rcases hc with hc | hc
  · omega
  · rcases hk with hk | hk
    · omega
    · exact hk (hc.same h1)⟩
theorem iG.any {Z:Nat} (h:iG lo (some Z) w wi) (hg:wi.grownBy wj (some Z)):iG lo (some Z) w wj :=
 ⟨hg.os.trans h.os,hg.tape.trans h.tape,hg.output.trans h.output,GU h.size hg.size,fun k b hn hc=>(hg.block k (E' b h.size) hn).trans (h.block k b hn hc)⟩
theorem iG.weak {R:Option Nat} (h:iG lo none w wi):iG lo R w wi:=⟨h.os,h.tape,h.output,h.size,fun k hk _ hc=>h.block k hk (by simp) hc⟩
theorem iG.four {Z:Nat} {R:Option Nat} (h:iG lo R w wi) (hz:lo≤Z) (hk:w.heap.size≤Z) (u0 u1 u2 u3:Value):iG lo R w ((((wi.setCell ⟨Z,0,none⟩ u0).setCell ⟨Z,1,none⟩ u1).setCell ⟨Z,2,none⟩ u2).setCell ⟨Z,3,none⟩ u3) :=
 (((h.put (dg _ _ _ _) hz (.inl hk)).put (dg _ _ _ _) hz (.inl hk)).put (dg _ _ _ _) hz (.inl hk)).put (dg _ _ _ _) hz (.inl hk)
def pG (lo:Nat) (w:World) (e:Ending) (w':World):Prop:=∃v ok,e=.returned (.tuple #[v,.bool ok])∧dr lo w' v∧iG lo none w w'
end Go.Proofs.YtpobkmjicbobdaaGreat
