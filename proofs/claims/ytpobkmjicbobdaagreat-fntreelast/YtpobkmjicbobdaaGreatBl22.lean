/- Walks. -/
import Derived.Test.YtpobkmjicbobdaaGreatBl21
namespace Go.Proofs.YtpobkmjicbobdaaGreat
set_option maxRecDepth 100000
set_option maxHeartbeats 40000000
open Go.RowKit
variable {A B C N T Z:List an} {K L M:List ac} {S:List Int} {e:ac} {nx q:Int}
def yj (x y:an):Prop:=Op.bytesLess (aT x.1).toList (bd y.1).toList=true
theorem ph (h:bg Z=true) (b:∀r ∈ Z,aI r.1=true∧1≤r.1.length):Z.Pairwise yj:=by
 rw [Dt];intro i j hi f d;exact eL h b (j - i - 1) i (by omega) _ _ (j' hi) (by rw [show i+(j - i - 1+1)=j by omega];exact j' f)
theorem tQ (h:Z.Pairwise yj):bg Z=true:=by
 unfold bg;rw [Dn];intro i hi;have hl:=DG.1 hi;cases i with
 | zero=>unfold jN gV;rw [j' hl]
 | succ i =>
  rw [jL (j' hl) (by omega) (by rw [DU];exact j' (by omega))];exact Dt.1 h i (i+1) (by omega) hl (by omega)
theorem xk (ha:bg N=true) (d:∀r ∈ N,ch r.1 r.2=true) (k1 k2:ByteArray):∃i j,fC N k1 k2 i j:=by
 refine ⟨N.findIdx (fun r=>!Op.bytesLess (aT r.1).toList k1.toList),N.findIdx (fun r=>Op.bytesLess k2.toList (bd r.1).toList),List.findIdx_le_length,List.findIdx_le_length,fun t r b=>⟨fun h=>?_,fun h=>?_,fun h=>?_,fun h=>?_⟩⟩
 · have h1:=List.not_of_lt_findIdx h;have hr:=(Cx.1 b).2;rw [hr] at h1;simpa using h1
 · have hl:=(Cx.1 b).1;have h1:=List.findIdx_getElem (w:=EN h hl);cases hc:Op.bytesLess (aT r.1).toList k1.toList with
   | false=>rfl
   | true =>
    have:=vK ha d (j' (EN h hl)) b h k1 hc;rw [this] at h1;cases h1
 · have h1:=List.not_of_lt_findIdx h;have hr:=(Cx.1 b).2;rw [hr] at h1;simpa using h1
 · have hl:=(Cx.1 b).1;have h1:=List.findIdx_getElem (w:=EN h hl);exact zf ha d (j' (EN h hl)) b h k2 h1
theorem uN {a b:ByteArray} (h:fi a b=true) (hn:a≠b):Op.bytesLess a.toList b.toList=true:=by
 cases hl:Op.bytesLess a.toList b.toList with
 | true=>rfl
 | false =>
  have h2:fi b a=true:=by rw [du,hl];rfl
  exact absurd (oG h h2) hn
theorem qF (L:List ac):∀k,k≤L.length→(∀r ∈ (eU L k).1,∃a b,a<b∧b≤(eU L k).2∧r=ep L a b∧(b<L.length→il L b≠il L (b - 1)))∧(eU L k).1.Pairwise (fun r s=>∃a b c d,a<b∧b≤c∧c<d∧d≤L.length∧r=ep L a b∧s=ep L c d∧il L b≠il L (b - 1))∧(eU L k).2≤k
 | 0,_=>⟨(fun r h=>by cases h),List.Pairwise.nil,Cy _⟩
 | k+1,hk=>by
  obtain ⟨h2,h3,h1⟩:=qF L k (by omega)
  obtain ⟨B,f,hB⟩:∃B f,eU L k=(B,f):=⟨_,_,rfl⟩
  rw [hB] at h1 h2 h3
  simp only at h1 h2 h3
  cases hc:fY L f (k+1) with
  | false=>rw [rP hB hc];exact ⟨h2,h3,by omega⟩
  | true =>
   rw [o9 hB hc]
   refine ⟨fun r hr=>?_,?_,Cy _⟩
   · rcases Dd.1 hr with h | h
     · obtain ⟨a,b,x1,n,m,g⟩:=h2 r h
       exact ⟨a,b,x1,by show b≤k+1;omega,m,g⟩
     · rw [Df] at h
       refine ⟨f,k+1,by omega,Cy _,h,fun hl e=>?_⟩
       unfold fY at hc
       simp only [EG,Db,decide_eq_true_eq,Bool.not_eq_true',decide_eq_false_iff_not] at hc
       rcases hc with hc | hc
       · omega
       · exact hc.2 e
   · rw [DK]
     refine ⟨h3,EL _ _,fun r hr s hs=>?_⟩
     rw [Df] at hs
     obtain ⟨a,b,x1,n,m,g⟩:=h2 r hr
     exact ⟨a,b,f,k+1,x1,n,by omega,hk,m,hs,g (by omega)⟩
theorem uC {a b:Nat} (d:a<b) (hb:b≤L.length):aT (ep L a b).1=il L (b - 1):=by
 unfold aT il;rw [p7 hb];show (match ((L.drop a).take (b - a))[b - a - 1]? with | some e=>e.1 | none=>⟨#[]⟩)=_
 rw [DI (by omega),DH,show a+(b - a - 1)=b - 1 by omega];cases L[b - 1]? <;> rfl
theorem AI (hw:lJ L):(dw L).Pairwise yj:=by
 refine (qF L L.length (Cy _)).2.1.imp ?_;rintro r s ⟨a,b,c,d,h1,h2,h3,h4,rfl,rfl,h5⟩;unfold yj;rw [uC h1 (by omega),l8 h3];have m:=lP hw (a:=b - 1) (c:=b) (by omega) (by omega);have g:=lP hw (a:=b) (c:=c) (by omega) (by omega);have f:=uN m (fun e=>h5 e.symm);rcases EG _ _ ▸ (show (Op.bytesLess (il L b).toList (il L c).toList || (il L b).toList == (il L c).toList)=true from g) with e | e
 · exact b7 _ _ _ f e
 · have:(il L b).toList=(il L c).toList:=by simpa using e
   rw [← this];exact f
theorem oq:∀r ∈ dG T N C S nx,∀e ∈ r.1,∃y,(y ∈ (bj T).flatten∨y ∈ (bj N).flatten)∧e.1=y.1∧e.2.1=y.2.1:=by
 intro r hr e d;rcases jB _ _ hr with h1 | h1
 · exact ⟨e,.inr (Ew.2 ⟨r.1,DO.2 ⟨r,(EH.1 h1).1,rfl⟩,d⟩),rfl,rfl⟩
 · obtain ⟨y,hy,g,f⟩:=js S _ e (rK h1 e d);have b:=(bK _).2.subset hy;unfold dz at b;rw [ma] at b;refine ⟨y,?_,g,f⟩;rcases Dd.1 b with h2 | h2
   · exact .inl h2
   · exact .inr ((mj ((kj T N).map _)).subset h2)
theorem tc (h:aI L=true) (a b:Nat):aI (ep L a b).1=true:=by
 have hs:((L.drop a).take (b - a)).Sublist L:=(List.take_sublist _ _).trans (ET _ _);refine fU (DV hs (fZ h)) (fun e d=>?_);obtain ⟨j,f⟩:=DF (hs.subset d);exact d4 h f
theorem y7 (h:fT T N) (Y:∀r ∈ N,ch r.1 r.2=true) (g:uG T N C S nx=true):(∀r ∈ dG T N C S nx,ch r.1 r.2=true)∧(dG T N C S nx).length≤8∧bg (dG T N C S nx)=true:=by
 have E:=iB h.right S (jR T N C nx);unfold uG at g;rw [Db,decide_eq_true_eq] at g;refine ⟨fun r hr=>?_,g.2,?_⟩
 · have hf:=g.1;unfold gy at hf;have s:=of_decide_eq_true ((Dn.1 hf) r hr);rcases jB _ _ hr with h1 | h1
   · exact Y r (EH.1 h1).1
   · have hn:=mn h1;obtain ⟨a,b,x1,x2,rfl⟩:=rL h1;unfold ch;rw [decide_eq_true hn,decide_eq_true s,show aI (ep (sy T N C S nx) a b).1=true from tc E a b];simp [ep]
 · obtain ⟨i,j,hm⟩:=xk h.ap Y (ik T) (fc T);rw [h.runs C S nx hm];have n:=ph h.ap h.nok;obtain ⟨a6,Q,X⟩:=h.cut hm;have D:=q9 h.t0 h.tok;have hT:∀r ∈ T,∀x ∈ r.1,fi (ik T) x.1=true∧fi x.1 (fc T)=true:=fun r hr x hx=>by
    have:=dY (bK (bj T).flatten).1 (e:=x) ((bK _).2.symm.subset (Ew.2 ⟨r.1,DO.2 ⟨r,hr,rfl⟩,hx⟩));rwa [D.1,D.2] at this
   have I:∀r ∈ AC T N,∃t,i≤t∧t<j∧N[t]?=some r:=fun r hr=>by
    rw [Q] at hr;obtain ⟨t,U⟩:=DF hr;have hl:=(Cx.1 U).1;rw [C5,Dh] at hl;rw [DI (by omega),DH] at U;exact ⟨i+t,by omega,by omega,U⟩
   have F:∀{a b c:ByteArray},Op.bytesLess a.toList b.toList=true→fi b c=true→Op.bytesLess a.toList c.toList=true:=fun {a b c} h1 h2=>by
    unfold fi at h2;rw [EG] at h2;rcases h2 with h2 | h2
    · exact b7 _ _ _ h1 h2
    · have e:b.toList=c.toList:=by simpa using h2
      rw [← e];exact h1
   have m:∀r ∈ dw (sy T N C S nx),∀e ∈ r.1,(∀(u:Nat) (x:an),u<i→N[u]?=some x→Op.bytesLess (aT x.1).toList e.1.toList=true)∧(∀(u:Nat) (z:an),j≤u→N[u]?=some z→Op.bytesLess e.1.toList (bd z.1).toList=true):=fun r hr e J=>by
    obtain ⟨o,O,y,hy,e2⟩:=qS (rK hr e J);rw [← e2];refine ⟨fun u x d hx=>?_,fun u z d hz=>?_⟩
    · rcases Dd.1 O with h1 | h1
      · exact F ((hm.2.2 _ _ hx).1 d) (hT o h1 y hy).1
      · obtain ⟨t,t1,t2,t3⟩:=I o h1;have f:=h.nok _ (CV t3);have a3:=(Cx.1 t3).1;exact F (eL h.ap h.nok (t - u - 1) u (by omega) x o hx (by rw [show u+(t - u - 1+1)=t by omega];exact t3)) (dY (eF f.1) hy).1
    · rcases Dd.1 O with h1 | h1
      · exact gu (hT o h1 y hy).2 ((hm.2.2 _ _ hz).2.2.2 d)
      · obtain ⟨t,t1,t2,t3⟩:=I o h1;have f:=h.nok _ (CV t3);have a1:=(Cx.1 hz).1;exact gu (dY (eF f.1) hy).2 (eL h.ap h.nok (u - t - 1) t (by omega) o z t3 (by rw [show t+(u - t - 1+1)=u by omega];exact hz))
   refine tQ (DK.2 ⟨DK.2 ⟨DV (List.take_sublist _ _) n,AI (eF E),fun x hx r hr=>?_⟩,DV (ET _ _) n,fun x hx z hz=>?_⟩)
   · obtain ⟨u,d⟩:=DF hx;have H:=(Cx.1 d).1;rw [C5] at H;rw [DI (by omega)] at d;obtain ⟨e,J,R⟩:=kf (mn hr);unfold yj;rw [R];exact (m r hr e J).1 u x (by omega) d
   · obtain ⟨u,d⟩:=DF hz;rw [DH] at d;have H:=(Cx.1 d).1;rcases Dd.1 hx with h1 | h1
     · obtain ⟨v,hv⟩:=DF h1;have W:=(Cx.1 hv).1;rw [C5] at W;rw [DI (by omega)] at hv;exact eL h.ap h.nok (j+u - v - 1) v (by omega) x z hv (by rw [show v+(j+u - v - 1+1)=j+u by omega];exact d)
     · have hn:=mn h1;obtain ⟨e,J,R⟩:∃e ∈ x.1,aT x.1=e.1:=by
        have hl:x.1.length - 1<x.1.length:=by omega
        exact ⟨x.1[x.1.length - 1],Dq hl,by unfold aT;rw [j' hl]⟩
       unfold yj;rw [R];exact (m x h1 e J).2 (j+u) z (by omega) d
theorem tK (h:∀r ∈ Z,ch r.1 r.2=true):eE Z=false:=by
 unfold eE;rw [Es];intro r hr;simp [h r hr]
theorem fQ:e ∈ bC Z ↔ ∃r ∈ Z,e ∈ r.1:=Ej
theorem jE:e ∈ (bj Z).flatten ↔ ∃r ∈ Z,e ∈ r.1:=by rw [← oU];exact fQ
theorem ln:∀e ∈ bC (dG T N C S nx),∃y,((∃r ∈ T,y ∈ r.1)∨y ∈ bC N)∧e.1=y.1∧e.2.1=y.2.1:=fun e g=>by
 obtain ⟨r,hr,b⟩:=fQ.1 g
 obtain ⟨y,hy,f,d⟩:=oq r hr e b
 refine ⟨y,?_,f,d⟩
 rcases hy with hy | hy
 · exact .inl (jE.1 hy)
 · exact .inr (by rw [oU];exact hy)
theorem p9 (h:fT T N) (m:dh N 8 true q=true) (s:∀r ∈ T,bJ r.1 q=true) (f:uG T N C S nx=true):dh (dG T N C S nx) 8 true q=true:=by
 obtain ⟨o,n2,t⟩:=y7 h (dm (cu.1 m).2.1) f;refine cu.2 ⟨by omega,tK o,fun r hr=>cP.2 (fun e u=>?_),fun _=>t⟩;obtain ⟨y,hy,_,n⟩:=oq r hr e u;rw [n];rcases hy with hy | hy
 · obtain ⟨g,d,b⟩:=jE.1 hy;exact cP.1 (s g d) y b
 · obtain ⟨g,d,b⟩:=jE.1 hy;exact cP.1 ((cu.1 m).2.2.1 g d) y b
theorem vC {X Y:List ac} (h:∀y ∈ Y,∃z,(∀x ∈ X,oh x z)∧y.1=z.1∧y.2.1=z.2.1):Ov X Y:=fun x hx y hy hk=>by
 obtain ⟨z,hz,b,d⟩:=h y hy
 have:=hz x hx (by rw [← b];exact hk)
 omega
theorem pw (h:bf q M [A,B,C] S=true) (hA:1≤A.length) (u:uG A B C S 1=true):bf q M [[],dG A B C S 1,C] S=true:=by
 have hc:=A3 h hA;obtain ⟨h1,h2,h3,h4,h5,h6,⟨ha,hb,f⟩,hp⟩:=dM.1 h;refine dM.2 ⟨h1,h2,h3,h4,h5,h6,⟨rfl,p9 hc hb (cu.1 ha).2.2.1 u,f⟩,?_⟩;rw [gM] at hp ⊢;obtain ⟨F,I⟩:=Dm.1 hp;obtain ⟨_,s,J⟩:=DK.1 I;have n:Ov (bC B) (bC C):=(Dm.1 s).1 _ (by simp);have D:∀r ∈ A,Ov M r.1:=fun r hr=>F r.1 (List.mem_append_left _ (DO.2 ⟨r,EC.2 hr,rfl⟩))
 have o:∀r ∈ A,Ov r.1 (bC C):=fun r hr=>J r.1 (DO.2 ⟨r,EC.2 hr,rfl⟩) _ (by simp)
 have t:Ov M (bC B):=F _ (by simp);have E:Ov M (bC C):=F _ (by simp);have g:Ov M (bC (dG A B C S 1)):=vC (fun y hy=>by
  obtain ⟨z,hz,b,H⟩:=ln y hy;refine ⟨z,fun x hx=>?_,b,H⟩;rcases hz with ⟨r,hr,hz⟩ | hz
  · exact D r hr x hx z hz
  · exact t x hx z hz)
 have m:Ov (bC (dG A B C S 1)) (bC C):=fun x hx y hy hk=>by
  obtain ⟨z,hz,b,H⟩:=ln x hx;have:y.2.1<z.2.1:=by
   rcases hz with ⟨r,hr,hz⟩ | hz
   · exact o r hr z hz y hy (by rw [← b];exact hk)
   · exact n z hz y hy (by rw [← b];exact hk)
  omega
 refine Dm.2 ⟨fun X d=>?_,Dm.2 ⟨fun X d=>?_,EL _ _⟩⟩
 · simp only [List.reverse_nil,Ev,DA,Da,Dr,or_false] at d;rcases d with rfl | rfl
   · exact g
   · exact E
 · rw [Df.1 d];exact m
theorem pv (h:bf q M [A,B,C] S=true) {p:Nat} (a5:p<B.length) (R:uG ((B.drop p).take 1) C C S 2=true):bf q M [A,B.take p++B.drop (p+1),dG ((B.drop p).take 1) C C S 2] S=true:=by
 have hc:=AZ h a5;obtain ⟨h1,h2,h3,h4,h5,h6,⟨ha,hb,Q⟩,hp⟩:=dM.1 h;obtain ⟨b1,b2,b3,b4⟩:=cu.1 hb;have hT:∀r ∈ (B.drop p).take 1,r ∈ B:=fun r hr=>DE (Dw hr)
 have d:(B.take p++B.drop (p+1)).Sublist B:=by
  have e:B.take p++B.drop p=B:=Ds p B;conv=>rhs;rw [← e]
  exact EA (Ee _) (by rw [← D5];exact ET _ _)
 have D:=ph (b4 rfl) (jV (dm b2));have U:dh (B.take p++B.drop (p+1)) 8 true q=true:=cu.2 ⟨by have:=d.length_le;omega,tK (fun r hr=>dm b2 r (d.subset hr)),fun r hr=>b3 r (d.subset hr),fun _=>tQ (DV d D)⟩;refine dM.2 ⟨h1,h2,h3,h4,h5,h6,⟨ha,U,p9 hc Q (fun r hr=>b3 r (hT r hr)) R⟩,?_⟩;rw [gM] at hp ⊢;obtain ⟨W,pR⟩:=Dm.1 hp;obtain ⟨pA,a0,pX⟩:=DK.1 pR;have Y:Ov (bC B) (bC C):=(Dm.1 a0).1 _ (by simp);have I:∀(X:List ac),Ov X (bC B)→Ov X (bC C)→Ov X (bC (B.take p++B.drop (p+1)))∧Ov X (bC (dG ((B.drop p).take 1) C C S 2)):=fun X x1 x2=>by
  refine ⟨fun x hx y hy=>?_,vC (fun y hy=>?_)⟩
  · obtain ⟨r,hr,a3⟩:=fQ.1 hy;exact x1 x hx y (fQ.2 ⟨r,d.subset hr,a3⟩)
  · obtain ⟨z,hz,O,e2⟩:=ln y hy;refine ⟨z,fun x hx=>?_,O,e2⟩;rcases hz with ⟨r,hr,hz⟩ | hz
    · exact x1 x hx z (fQ.2 ⟨r,hT r hr,hz⟩)
    · exact x2 x hx z hz
 have F:∀{r:an} {e:ac},r ∈ B→e ∈ r.1→fi (bd r.1) e.1=true∧fi e.1 (aT r.1)=true:=fun {r e} hr he=>dY (eF (jV (dm b2) r hr).1) he
 have n:Ov (bC (B.take p++B.drop (p+1))) (bC (dG ((B.drop p).take 1) C C S 2)):=fun x hx y hy hk=>by
  obtain ⟨z,hz,O,e2⟩:=ln y hy;rcases hz with ⟨r,hr,hz⟩ | hz
  · exfalso
    have E:B[p]?=some r:=by
     obtain ⟨t,ht⟩:=DF hr;have hl:=(Cx.1 ht).1;rw [C5] at hl;rw [DI (by omega),DH] at ht;rw [show p=p+t by omega];exact ht
    obtain ⟨s,hs,g⟩:=fQ.1 hx;have H:x.1=z.1:=hk.trans O;have no:∀{u v:Nat} {a b:an} {ea eb:ac},u<v→B[u]?=some a→B[v]?=some b→ea ∈ a.1→eb ∈ b.1→ea.1=eb.1→False:=fun {u v a b ea eb} al f hv h7 h8 h9=>by
     have ak:=(Cx.1 hv).1;have f1:=eL (b4 rfl) (jV (dm b2)) (v - u - 1) u (by omega) a b f (by rw [show u+(v - u - 1+1)=v by omega];exact hv);have g1:=(F (CV f) h7).2;have g2:=(F (CV hv) h8).1;have g3:=gu g1 f1;rw [du] at g2;rw [h9] at g3;rw [g3] at g2;cases g2
    rcases Dd.1 hs with hs | hs
    · obtain ⟨u,f⟩:=DF hs;have hl:=(Cx.1 f).1;rw [C5] at hl;rw [DI (by omega)] at f;exact no (by omega) f E g hz H
    · obtain ⟨u,f⟩:=DF hs;rw [DH] at f;exact no (by omega) E f hz g H.symm
  · have:=Y x (by obtain ⟨s,hs,g⟩:=fQ.1 hx;exact fQ.2 ⟨s,d.subset hs,g⟩) z hz (hk.trans O);omega
 refine Dm.2 ⟨fun X m=>?_,DK.2 ⟨pA,Dm.2 ⟨fun X m=>?_,EL _ _⟩,fun a J b o=>?_⟩⟩
 · rcases Dd.1 m with m | m
   · exact W X (List.mem_append_left _ m)
   · have:=I M (W _ (by simp)) (W _ (by simp));rcases Da.1 m with rfl | m
     · exact this.1
     · rw [Df.1 m];exact this.2
 · rw [Df.1 m];exact n
 · have:=I a (pX a J _ (by simp)) (pX a J _ (by simp));rcases Da.1 o with rfl | o
   · exact this.1
   · rw [Df.1 o];exact this.2
def nh (L:List ac):Prop:=∀e ∈ L,¬e.1.data.toList=[110,111,110,101]
def mv (B:List an):Prop:=∀p ∈ B,nh p.1
def lN (M:List ac) (A B C:List an):Prop:=nh M∧mv A∧mv B∧mv C
theorem rh:nh []:=fun _ h=>by cases h
theorem mU:mv []:=fun _ h=>by cases h
theorem nh.app (h:nh L) (k:nh K):nh (L++K):=fun e b=>(Dd.1 b).elim (h e) (k e)
theorem mv.app (h:mv A) (k:mv B):mv (A++B):=fun p hp=>(Dd.1 hp).elim (h p) (k p)
theorem mv.sub (h:mv A) (k:∀p ∈ B,p ∈ A):mv B:=fun p hp=>h p (k p hp)
theorem mv.one {m:Int} (h:nh L):mv [(L,m)]:=fun p hp=>by
 rw [Df] at hp
 subst hp
 exact h
theorem nh.from (h:nh L) (k:∀e ∈ K,∃y ∈ L,e.1=y.1):nh K:=fun e d=>by
 obtain ⟨y,hy,b⟩:=k e d
 rw [b]
 exact h y hy
theorem nh.stamped (h:nh K):nh (eZ q K):=h.from fun e b=>by
 obtain ⟨i,hi,rfl⟩:=Du b
 rw [fk] at hi
 exact ⟨K[i],Dq hi,by simp [eZ,BJ]⟩
theorem nh.puts:∀(D:List ac) {M:List ac},nh M→nh D→nh (D.foldl em M)
 | [],_,h,_=>h
 | x :: D,_,h,k=>nh.puts D (fun e b=>(Dd.1 ((sU _ _).mem_iff.1 b)).elim (h e) (fun h1=>by rw [Df] at h1;subst h1;exact k _ Dy)) (fun e b=>k e (DB _ b))
theorem lN.flush (h:lN M A B C) (S:List Int):lN [] (A++[kF M S]) B C :=
 ⟨rh,h.2.1.app (mv.one (h.1.from fun e b=>by obtain ⟨y,h1,h2,_⟩:=js S false e b;exact ⟨y,h1,h2⟩)),h.2.2⟩
theorem mv.runs (d:mv T) (b:mv N) (C:List an) (S:List Int) (nx:Int):mv (dG T N C S nx):=fun r hr e f=>by
 obtain ⟨y,h1,h2,_⟩:=oq r hr e f
 rw [h2]
 rcases h1 with h1 | h1 <;> obtain ⟨p,h3,h4⟩:=jE.1 h1
 · exact d p h3 y h4
 · exact b p h3 y h4
theorem lN.compact0 (h:lN M A B C) (S:List Int):lN M [] (dG A B C S 1) C:=⟨h.1,mU,mv.runs h.2.1 h.2.2.1 C S 1,h.2.2.2⟩
theorem lN.compact1 (h:lN M A B C) (p:Nat) (S:List Int):lN M A (B.take p++B.drop (p+1)) (dG ((B.drop p).take 1) C C S 2) :=
 ⟨h.1,h.2.1,h.2.2.1.sub (fun _ hx=>(Dd.1 hx).elim Dw DE),mv.runs (h.2.2.1.sub fun _ hx=>DE (Dw hx)) h.2.2.2 C S 2⟩
end Go.Proofs.YtpobkmjicbobdaaGreat
