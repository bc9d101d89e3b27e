/- Walks. -/
import Derived.Test.YtpobkmjicbobdaaGreatBn29
namespace Go.Proofs.YtpobkmjicbobdaaGreat
set_option maxRecDepth 100000
set_option maxHeartbeats 40000000
open Go.RowKit
variable {A B C N T Z:List ag} {L M:List ac} {S:List Int} {lo:Nat} {nx q:Int} {v:Value} {w w':World}
theorem qZ (htb:bc q M [A,B,C] S=true):(A.length≤4∧B.length≤8∧C.length≤8)∧(∀Z ∈ [A,B,C],∀r ∈ Z,dv r.1 r.2=true)∧bD B=true∧bD C=true:=by
 have h8:eM [A,B,C] q=true:=(bh htb).2.2.2.2.2.2.2.1;unfold eM at h8;simp only [Bool.and_eq_true] at h8;obtain ⟨hA,hB,hC⟩:=h8;rw [dk] at hA hB hC;have hb:∀{Z:List ag},eN Z=false→∀r ∈ Z,dv r.1 r.2=true:=fun {Z} h r hr=>by
  unfold eN at h;rw [List.any_eq_false] at h;simpa using h r hr
 refine ⟨⟨by have:=hA.1;omega,by have:=hB.1;omega,by have:=hC.1;omega⟩,fun Z hZ=>?_,hB.2.2.2 rfl,hC.2.2.2 rfl⟩;simp only [List.mem_cons,List.not_mem_nil,or_false] at hZ;rcases hZ with rfl | rfl | rfl
 · exact hb hA.2.1
 · exact hb hB.2.1
 · exact hb hC.2.1
theorem pb (B:List ag):bm B=(bn B).flatten:=rfl
theorem vh (htb:bc q M [A,B,C] S=true):fu ((bn A).flatten++((bn B).flatten++(bn C).flatten)):=by
 have h:=gJ (iX htb) (iC M A B C);exact List.Pairwise.sublist (List.sublist_append_right _ _) h
theorem jQ (h:∀r ∈ Z,dv r.1 r.2=true):∀r ∈ Z,aR r.1=true∧1≤r.1.length:=fun r hr=>⟨(bK (h r hr)).2.2.1,(bK (h r hr)).1⟩
theorem AV (htb:bc q M [A,B,C] S=true) (hA:1≤A.length):fK A B:=by
 obtain ⟨_,h2,h3,_⟩:=qZ htb;exact ⟨hA,jQ (h2 A (by simp)),jQ (h2 B (by simp)),h3,List.Pairwise.sublist (List.Sublist.append (List.Sublist.refl _) (List.sublist_append_left _ _)) (vh htb)⟩
theorem AU (htb:bc q M [A,B,C] S=true) {p:Nat} (hp:p<B.length):fK ((B.drop p).take 1) C:=by
 obtain ⟨_,h2,_,h4⟩:=qZ htb;have hs:((B.drop p).take 1).Sublist B:=(List.take_sublist _ _).trans (List.drop_sublist _ _);refine ⟨by rw [List.length_take,List.length_drop];omega,fun r hr=>jQ (h2 B (by simp)) r (hs.subset hr),jQ (h2 C (by simp)),h4,?_⟩;exact List.Pairwise.sublist ((List.Sublist.append (mo (hs.map _)) (List.Sublist.refl _)).trans (List.sublist_append_right _ _)) (vh htb)
theorem wS (h:∀r ∈ Z,r.1.length≤150):(bn Z).flatten.length≤150*Z.length:=by
 induction Z with
 | nil=>simp [bn]
 | cons r Z ih =>
  have h1:=h r (by simp);have h2:=ih (fun x hx=>h x (by simp [hx]));simp only [bn,List.map_cons,List.flatten_cons,List.length_append,List.length_cons] at h2 ⊢;omega
theorem vI (hT:∀r ∈ T,r.1.length≤150) (hN:∀r ∈ N,r.1.length≤150) (hl:T.length+N.length≤100):(bn (dx T N)).flatten.length≤100000:=by
 have h:=wS (Z:=dx T N) (fun r hr=>by
  rcases List.mem_append.1 hr with h1 | h1
  · exact hT r h1
  · exact hN r ((jW T N).subset h1))
 have h2:(dx T N).length≤T.length+N.length:=by
  unfold dx;rw [List.length_append];have:=(jW T N).length_le;omega
 omega
theorem kO {V:List (List ag)} (htb:bc q M V S=true):S.length≤4:=by
 have h1:=(bh htb).2.2.2.2.2.2.1;unfold cu at h1;rw [Bool.and_eq_true] at h1;exact of_decide_eq_true h1.1
def x6 (x y:ag):Prop:=Op.bytesLess (aT x.1).toList (bj y.1).toList=true
theorem pu (h:bD Z=true) (hok:∀r ∈ Z,aR r.1=true∧1≤r.1.length):Z.Pairwise x6:=by
 rw [List.pairwise_iff_getElem];intro i j hi hj hij;exact eI h hok (j - i - 1) i (by omega) _ _ (List.getElem?_eq_getElem hi) (by rw [show i+(j - i - 1+1)=j by omega];exact List.getElem?_eq_getElem hj)
theorem tK (h:Z.Pairwise x6):bD Z=true:=by
 unfold bD;rw [List.all_eq_true];intro i hi;have hl:=List.mem_range.1 hi;cases i with
 | zero=>unfold jG gT;rw [List.getElem?_eq_getElem hl]
 | succ i =>
  rw [jD (List.getElem?_eq_getElem hl) (by omega) (by rw [Nat.add_sub_cancel];exact List.getElem?_eq_getElem (by omega))];exact List.pairwise_iff_getElem.1 h i (i+1) (by omega) hl (by omega)
theorem wN (ha:bD N=true) (hok:∀r ∈ N,dv r.1 r.2=true) (k1 k2:ByteArray):∃i j,jL N k1 k2 i j:=by
 refine ⟨N.findIdx (fun r=>!Op.bytesLess (aT r.1).toList k1.toList),N.findIdx (fun r=>Op.bytesLess k2.toList (bj r.1).toList),List.findIdx_le_length,List.findIdx_le_length,fun t r ht=>⟨fun h=>?_,fun h=>?_,fun h=>?_,fun h=>?_⟩⟩
 · have h1:=List.not_of_lt_findIdx h;have hr:=(List.getElem?_eq_some_iff.1 ht).2;rw [hr] at h1;simpa using h1
 · have hl:=(List.getElem?_eq_some_iff.1 ht).1;have h1:=List.findIdx_getElem (w:=Nat.lt_of_le_of_lt h hl);cases hc:Op.bytesLess (aT r.1).toList k1.toList with
   | false=>rfl
   | true =>
    have:=Aw ha hok (List.getElem?_eq_getElem (Nat.lt_of_le_of_lt h hl)) ht h k1 hc;rw [this] at h1;cases h1
 · have h1:=List.not_of_lt_findIdx h;have hr:=(List.getElem?_eq_some_iff.1 ht).2;rw [hr] at h1;simpa using h1
 · have hl:=(List.getElem?_eq_some_iff.1 ht).1;have h1:=List.findIdx_getElem (w:=Nat.lt_of_le_of_lt h hl);exact A9 ha hok (List.getElem?_eq_getElem (Nat.lt_of_le_of_lt h hl)) ht h k2 h1
theorem uG {a b:ByteArray} (h:fc a b=true) (hn:a≠b):Op.bytesLess a.toList b.toList=true:=by
 cases hl:Op.bytesLess a.toList b.toList with
 | true=>rfl
 | false =>
  have h2:fc b a=true:=by rw [dt,hl];rfl
  exact absurd (oK h h2) hn
theorem qR (L:List ac):∀k,k≤L.length→(∀r ∈ (eP L k).1,∃a b,a<b∧b≤(eP L k).2∧r=em L a b∧(b<L.length→ii L b≠ii L (b - 1)))∧(eP L k).1.Pairwise (fun r s=>∃a b c d,a<b∧b≤c∧c<d∧d≤L.length∧r=em L a b∧s=em L c d∧ii L b≠ii L (b - 1))∧(eP L k).2≤k
 | 0,_=>⟨(fun r h=>by cases h),List.Pairwise.nil,Nat.le_refl _⟩
 | k+1,hk=>by
  obtain ⟨h2,h3,h1⟩:=qR L k (by omega)
  obtain ⟨B,f,hB⟩:∃B f,eP L k=(B,f):=⟨_,_,rfl⟩
  rw [hB] at h1 h2 h3
  simp only at h1 h2 h3
  cases hc:fP L f (k+1) with
  | false=>rw [rO hB hc];exact ⟨h2,h3,by omega⟩
  | true =>
   rw [po hB hc]
   refine ⟨fun r hr=>?_,?_,Nat.le_refl _⟩
   · rcases List.mem_append.1 hr with h | h
     · obtain ⟨a,b,x1,x2,x3,x4⟩:=h2 r h
       exact ⟨a,b,x1,by show b≤k+1;omega,x3,x4⟩
     · rw [List.mem_singleton] at h
       refine ⟨f,k+1,by omega,Nat.le_refl _,h,fun hl e=>?_⟩
       unfold fP at hc
       simp only [Bool.or_eq_true,Bool.and_eq_true,decide_eq_true_eq,Bool.not_eq_true',decide_eq_false_iff_not] at hc
       rcases hc with hc | hc
       · omega
       · exact hc.2 e
   · rw [List.pairwise_append]
     refine ⟨h3,List.pairwise_singleton _ _,fun r hr s hs=>?_⟩
     rw [List.mem_singleton] at hs
     obtain ⟨a,b,x1,x2,x3,x4⟩:=h2 r hr
     exact ⟨a,b,f,k+1,x1,x2,by omega,hk,x3,hs,x4 (by omega)⟩
theorem uv {a b:Nat} (hab:a<b) (hb:b≤L.length):aT (em L a b).1=ii L (b - 1):=by
 unfold aT ii;rw [qp hb];show (match ((L.drop a).take (b - a))[b - a - 1]? with | some e=>e.1 | none=>⟨#[]⟩)=_
 rw [List.getElem?_take_of_lt (by omega),List.getElem?_drop,show a+(b - a - 1)=b - 1 by omega];cases L[b - 1]? <;> rfl
theorem AC (hw:lF L):(du L).Pairwise x6:=by
 refine (qR L L.length (Nat.le_refl _)).2.1.imp ?_;rintro r s ⟨a,b,c,d,h1,h2,h3,h4,rfl,rfl,h5⟩;unfold x6;rw [uv h1 (by omega),l9 h3];have e1:=lO hw (a:=b - 1) (c:=b) (by omega) (by omega);have e2:=lO hw (a:=b) (c:=c) (by omega) (by omega);have e3:=uG e1 (fun e=>h5 e.symm);rcases Bool.or_eq_true _ _ ▸ (show (Op.bytesLess (ii L b).toList (ii L c).toList || (ii L b).toList == (ii L c).toList)=true from e2) with e | e
 · exact cq _ _ _ e3 e
 · have:(ii L b).toList=(ii L c).toList:=by simpa using e
   rw [← this];exact e3
theorem s5:∀r ∈ d4 T N C S nx,∀e ∈ r.1,∃y,(y ∈ (bn T).flatten∨y ∈ (bn N).flatten)∧e.1=y.1∧e.2.1=y.2.1:=by
 intro r hr e he;rcases jw _ _ hr with h1 | h1
 · exact ⟨e,.inr (List.mem_flatten.2 ⟨r.1,List.mem_map.2 ⟨r,(List.mem_filter.1 h1).1,rfl⟩,he⟩),rfl,rfl⟩
 · obtain ⟨y,hy,e1,e2⟩:=lQ S _ e (rJ h1 e he);have hy2:=(bJ _).2.subset hy;unfold dx at hy2;rw [mf] at hy2;refine ⟨y,?_,e1,e2⟩;rcases List.mem_append.1 hy2 with h2 | h2
   · exact .inl h2
   · exact .inr ((mo ((jW T N).map _)).subset h2)
theorem sW (h:aR L=true) (a b:Nat):aR (em L a b).1=true:=by
 have hs:((L.drop a).take (b - a)).Sublist L:=(List.take_sublist _ _).trans (List.drop_sublist _ _);refine fM (List.Pairwise.sublist hs (fT h)) (fun e he=>?_);obtain ⟨j,hj⟩:=List.getElem?_of_mem (hs.subset he);exact fX h hj
theorem yT (h:fK T N) (hN:∀r ∈ N,dv r.1 r.2=true) (hok:uy T N C S nx=true):(∀r ∈ d4 T N C S nx,dv r.1 r.2=true)∧(d4 T N C S nx).length≤8∧bD (d4 T N C S nx)=true:=by
 have hsq:=ix h.right S (jK T N C nx);unfold uy at hok;rw [Bool.and_eq_true,decide_eq_true_eq] at hok;refine ⟨fun r hr=>?_,hok.2,?_⟩
 · have hf:=hok.1;unfold gy at hf;have h150:=of_decide_eq_true ((List.all_eq_true.1 hf) r hr);rcases jw _ _ hr with h1 | h1
   · exact hN r (List.mem_filter.1 h1).1
   · have hn:=ms h1;obtain ⟨a,b,x1,x2,rfl⟩:=rK h1;unfold dv;rw [decide_eq_true hn,decide_eq_true h150,show aR (em (ss T N C S nx) a b).1=true from sW hsq a b];simp [em]
 · obtain ⟨i,j,hm⟩:=wN h.ap hN (ig T) (eZ T);rw [h.runs C S nx hm];have hall:=pu h.ap h.nok;obtain ⟨hij,hin,hoff⟩:=h.cut hm;have hLH:=rj h.t0 h.tok;have hT:∀r ∈ T,∀x ∈ r.1,fc (ig T) x.1=true∧fc x.1 (eZ T)=true:=fun r hr x hx=>by
    have:=dY (bJ (bn T).flatten).1 (e:=x) ((bJ _).2.symm.subset (List.mem_flatten.2 ⟨r.1,List.mem_map.2 ⟨r,hr,rfl⟩,hx⟩));rwa [hLH.1,hLH.2] at this
   have hIn:∀r ∈ Av T N,∃t,i≤t∧t<j∧N[t]?=some r:=fun r hr=>by
    rw [hin] at hr;obtain ⟨t,ht⟩:=List.getElem?_of_mem hr;have hl:=(List.getElem?_eq_some_iff.1 ht).1;rw [List.length_take,List.length_drop] at hl;rw [List.getElem?_take_of_lt (by omega),List.getElem?_drop] at ht;exact ⟨i+t,by omega,by omega,ht⟩
   have hlt:∀{a b c:ByteArray},Op.bytesLess a.toList b.toList=true→fc b c=true→Op.bytesLess a.toList c.toList=true:=fun {a b c} h1 h2=>by
    unfold fc at h2;rw [Bool.or_eq_true] at h2;rcases h2 with h2 | h2
    · exact cq _ _ _ h1 h2
    · have e:b.toList=c.toList:=by simpa using h2
      rw [← e];exact h1
   have hkey:∀r ∈ du (ss T N C S nx),∀e ∈ r.1,(∀(u:Nat) (x:ag),u<i→N[u]?=some x→Op.bytesLess (aT x.1).toList e.1.toList=true)∧(∀(u:Nat) (z:ag),j≤u→N[u]?=some z→Op.bytesLess e.1.toList (bj z.1).toList=true):=fun r hr e he=>by
    obtain ⟨r',hr',y,hy,e2⟩:=q9 (rJ hr e he);rw [← e2];refine ⟨fun u x hu hx=>?_,fun u z hu hz=>?_⟩
    · rcases List.mem_append.1 hr' with h1 | h1
      · exact hlt ((hm.2.2 _ _ hx).1 hu) (hT r' h1 y hy).1
      · obtain ⟨t,t1,t2,t3⟩:=hIn r' h1;have hok':=h.nok _ (List.mem_of_getElem? t3);have htl:=(List.getElem?_eq_some_iff.1 t3).1;exact hlt (eI h.ap h.nok (t - u - 1) u (by omega) x r' hx (by rw [show u+(t - u - 1+1)=t by omega];exact t3)) (dY (eE hok'.1) hy).1
    · rcases List.mem_append.1 hr' with h1 | h1
      · exact gh (hT r' h1 y hy).2 ((hm.2.2 _ _ hz).2.2.2 hu)
      · obtain ⟨t,t1,t2,t3⟩:=hIn r' h1;have hok':=h.nok _ (List.mem_of_getElem? t3);have hzl:=(List.getElem?_eq_some_iff.1 hz).1;exact gh (dY (eE hok'.1) hy).2 (eI h.ap h.nok (u - t - 1) t (by omega) r' z t3 (by rw [show t+(u - t - 1+1)=u by omega];exact hz))
   refine tK (List.pairwise_append.2 ⟨List.pairwise_append.2 ⟨List.Pairwise.sublist (List.take_sublist _ _) hall,AC (eE hsq),fun x hx r hr=>?_⟩,List.Pairwise.sublist (List.drop_sublist _ _) hall,fun x hx z hz=>?_⟩)
   · obtain ⟨u,hu⟩:=List.getElem?_of_mem hx;have hul:=(List.getElem?_eq_some_iff.1 hu).1;rw [List.length_take] at hul;rw [List.getElem?_take_of_lt (by omega)] at hu;obtain ⟨e,he,e1⟩:=jV (ms hr);unfold x6;rw [e1];exact (hkey r hr e he).1 u x (by omega) hu
   · obtain ⟨u,hu⟩:=List.getElem?_of_mem hz;rw [List.getElem?_drop] at hu;have hul:=(List.getElem?_eq_some_iff.1 hu).1;rcases List.mem_append.1 hx with h1 | h1
     · obtain ⟨v,hv⟩:=List.getElem?_of_mem h1;have hvl:=(List.getElem?_eq_some_iff.1 hv).1;rw [List.length_take] at hvl;rw [List.getElem?_take_of_lt (by omega)] at hv;exact eI h.ap h.nok (j+u - v - 1) v (by omega) x z hv (by rw [show v+(j+u - v - 1+1)=j+u by omega];exact hu)
     · have hn:=ms h1;obtain ⟨e,he,e1⟩:∃e ∈ x.1,aT x.1=e.1:=by
        have hl:x.1.length - 1<x.1.length:=by omega
        exact ⟨x.1[x.1.length - 1],List.getElem_mem hl,by unfold aT;rw [List.getElem?_eq_getElem hl]⟩
       unfold x6;rw [e1];exact (hkey x h1 e he).2 (j+u) z (by omega) hu
theorem tG (h:∀r ∈ Z,dv r.1 r.2=true):eN Z=false:=by
 unfold eN;rw [List.any_eq_false];intro r hr;simp [h r hr]
theorem fG {e:ac}:e ∈ bm Z ↔ ∃r ∈ Z,e ∈ r.1:=List.mem_flatMap
theorem me {e:ac}:e ∈ (bn Z).flatten ↔ ∃r ∈ Z,e ∈ r.1:=by rw [← pb];exact fG
theorem lg:∀e ∈ bm (d4 T N C S nx),∃y,((∃r ∈ T,y ∈ r.1)∨y ∈ bm N)∧e.1=y.1∧e.2.1=y.2.1:=fun e he=>by
 obtain ⟨r,hr,he'⟩:=fG.1 he
 obtain ⟨y,hy,e1,e2⟩:=s5 r hr e he'
 refine ⟨y,?_,e1,e2⟩
 rcases hy with hy | hy
 · exact .inl (me.1 hy)
 · exact .inr (by rw [pb];exact hy)
theorem qs (h:fK T N) (hN:dl N 8 true q=true) (hT:∀r ∈ T,bW r.1 q=true) (hok:uy T N C S nx=true):dl (d4 T N C S nx) 8 true q=true:=by
 obtain ⟨n1,n2,n3⟩:=yT h (dm (dk.1 hN).2.1) hok;refine dk.2 ⟨by omega,tG n1,fun r hr=>dg.2 (fun e he=>?_),fun _=>n3⟩;obtain ⟨y,hy,_,e2⟩:=s5 r hr e he;rw [e2];rcases hy with hy | hy
 · obtain ⟨r',hr',hy'⟩:=me.1 hy;exact dg.1 (hT r' hr') y hy'
 · obtain ⟨r',hr',hy'⟩:=me.1 hy;exact dg.1 ((dk.1 hN).2.2.1 r' hr') y hy'
theorem vm {X Y:List ac} (h:∀y ∈ Y,∃z,(∀x ∈ X,oo x z)∧y.1=z.1∧y.2.1=z.2.1):Ov X Y:=fun x hx y hy hk=>by
 obtain ⟨z,hz,e1,e2⟩:=h y hy
 have:=hz x hx (by rw [← e1];exact hk)
 omega
theorem pN (h:bc q M [A,B,C] S=true) (hA:1≤A.length) (hok:uy A B C S 1=true):bc q M [[],d4 A B C S 1,C] S=true:=by
 have hc:=AV h hA;obtain ⟨h1,h2,h3,h4,h5,h6,⟨ha,hb,hcc⟩,hp⟩:=dQ.1 h;refine dQ.2 ⟨h1,h2,h3,h4,h5,h6,⟨rfl,qs hc hb (dk.1 ha).2.2.1 hok,hcc⟩,?_⟩;rw [gL] at hp ⊢;obtain ⟨pM,pR⟩:=List.pairwise_cons.1 hp;obtain ⟨_,pBC,pX⟩:=List.pairwise_append.1 pR;have hBC:Ov (bm B) (bm C):=(List.pairwise_cons.1 pBC).1 _ (by simp);have hMA:∀r ∈ A,Ov M r.1:=fun r hr=>pM r.1 (List.mem_append_left _ (List.mem_map.2 ⟨r,List.mem_reverse.2 hr,rfl⟩))
 have hAC:∀r ∈ A,Ov r.1 (bm C):=fun r hr=>pX r.1 (List.mem_map.2 ⟨r,List.mem_reverse.2 hr,rfl⟩) _ (by simp)
 have hMB:Ov M (bm B):=pM _ (by simp);have hMC:Ov M (bm C):=pM _ (by simp);have hMN:Ov M (bm (d4 A B C S 1)):=vm (fun y hy=>by
  obtain ⟨z,hz,e1,e2⟩:=lg y hy;refine ⟨z,fun x hx=>?_,e1,e2⟩;rcases hz with ⟨r,hr,hz⟩ | hz
  · exact hMA r hr x hx z hz
  · exact hMB x hx z hz)
 have hNC:Ov (bm (d4 A B C S 1)) (bm C):=fun x hx y hy hk=>by
  obtain ⟨z,hz,e1,e2⟩:=lg x hx;have:y.2.1<z.2.1:=by
   rcases hz with ⟨r,hr,hz⟩ | hz
   · exact hAC r hr z hz y hy (by rw [← e1];exact hk)
   · exact hBC z hz y hy (by rw [← e1];exact hk)
  omega
 refine List.pairwise_cons.2 ⟨fun X hX=>?_,List.pairwise_cons.2 ⟨fun X hX=>?_,List.pairwise_singleton _ _⟩⟩
 · simp only [List.reverse_nil,List.map_nil,List.nil_append,List.mem_cons,List.not_mem_nil,or_false] at hX;rcases hX with rfl | rfl
   · exact hMN
   · exact hMC
 · rw [List.mem_singleton.1 hX];exact hNC
theorem pL (h:bc q M [A,B,C] S=true) {p:Nat} (hpl:p<B.length) (hok:uy ((B.drop p).take 1) C C S 2=true):bc q M [A,B.take p++B.drop (p+1),d4 ((B.drop p).take 1) C C S 2] S=true:=by
 have hc:=AU h hpl;obtain ⟨h1,h2,h3,h4,h5,h6,⟨ha,hb,hcc⟩,hp⟩:=dQ.1 h;obtain ⟨b1,b2,b3,b4⟩:=dk.1 hb;have hT:∀r ∈ (B.drop p).take 1,r ∈ B:=fun r hr=>List.mem_of_mem_drop (List.mem_of_mem_take hr)
 have hsub:(B.take p++B.drop (p+1)).Sublist B:=by
  have e:B.take p++B.drop p=B:=List.take_append_drop p B;conv=>rhs;rw [← e]
  exact List.Sublist.append (List.Sublist.refl _) (by rw [← List.drop_drop];exact List.drop_sublist _ _)
 have hfar:=pu (b4 rfl) (jQ (dm b2));have hB':dl (B.take p++B.drop (p+1)) 8 true q=true:=dk.2 ⟨by have:=hsub.length_le;omega,tG (fun r hr=>dm b2 r (hsub.subset hr)),fun r hr=>b3 r (hsub.subset hr),fun _=>tK (List.Pairwise.sublist hsub hfar)⟩;refine dQ.2 ⟨h1,h2,h3,h4,h5,h6,⟨ha,hB',qs hc hcc (fun r hr=>b3 r (hT r hr)) hok⟩,?_⟩;rw [gL] at hp ⊢;obtain ⟨pM,pR⟩:=List.pairwise_cons.1 hp;obtain ⟨pA,pBC,pX⟩:=List.pairwise_append.1 pR;have hBC:Ov (bm B) (bm C):=(List.pairwise_cons.1 pBC).1 _ (by simp);have hup:∀(X:List ac),Ov X (bm B)→Ov X (bm C)→Ov X (bm (B.take p++B.drop (p+1)))∧Ov X (bm (d4 ((B.drop p).take 1) C C S 2)):=fun X x1 x2=>by
  refine ⟨fun x hx y hy=>?_,vm (fun y hy=>?_)⟩
  · obtain ⟨r,hr,hy'⟩:=fG.1 hy;exact x1 x hx y (fG.2 ⟨r,hsub.subset hr,hy'⟩)
  · obtain ⟨z,hz,e1,e2⟩:=lg y hy;refine ⟨z,fun x hx=>?_,e1,e2⟩;rcases hz with ⟨r,hr,hz⟩ | hz
    · exact x1 x hx z (fG.2 ⟨r,hT r hr,hz⟩)
    · exact x2 x hx z hz
 have hin:∀{r:ag} {e:ac},r ∈ B→e ∈ r.1→fc (bj r.1) e.1=true∧fc e.1 (aT r.1)=true:=fun {r e} hr he=>dY (eE (jQ (dm b2) r hr).1) he
 have hlast:Ov (bm (B.take p++B.drop (p+1))) (bm (d4 ((B.drop p).take 1) C C S 2)):=fun x hx y hy hk=>by
  obtain ⟨z,hz,e1,e2⟩:=lg y hy;rcases hz with ⟨r,hr,hz⟩ | hz
  · exfalso
    have hrB:B[p]?=some r:=by
     obtain ⟨t,ht⟩:=List.getElem?_of_mem hr;have hl:=(List.getElem?_eq_some_iff.1 ht).1;rw [List.length_take] at hl;rw [List.getElem?_take_of_lt (by omega),List.getElem?_drop] at ht;rw [show p=p+t by omega];exact ht
    obtain ⟨s,hs,hx'⟩:=fG.1 hx;have hkz:x.1=z.1:=hk.trans e1;have no:∀{u v:Nat} {a b:ag} {ea eb:ac},u<v→B[u]?=some a→B[v]?=some b→ea ∈ a.1→eb ∈ b.1→ea.1=eb.1→False:=fun {u v a b ea eb} huv hu hv h7 h8 h9=>by
     have hvl:=(List.getElem?_eq_some_iff.1 hv).1;have f1:=eI (b4 rfl) (jQ (dm b2)) (v - u - 1) u (by omega) a b hu (by rw [show u+(v - u - 1+1)=v by omega];exact hv);have g1:=(hin (List.mem_of_getElem? hu) h7).2;have g2:=(hin (List.mem_of_getElem? hv) h8).1;have g3:=gh g1 f1;rw [dt] at g2;rw [h9] at g3;rw [g3] at g2;cases g2
    rcases List.mem_append.1 hs with hs | hs
    · obtain ⟨u,hu⟩:=List.getElem?_of_mem hs;have hl:=(List.getElem?_eq_some_iff.1 hu).1;rw [List.length_take] at hl;rw [List.getElem?_take_of_lt (by omega)] at hu;exact no (by omega) hu hrB hx' hz hkz
    · obtain ⟨u,hu⟩:=List.getElem?_of_mem hs;rw [List.getElem?_drop] at hu;exact no (by omega) hrB hu hz hx' hkz.symm
  · have:=hBC x (by obtain ⟨s,hs,hx'⟩:=fG.1 hx;exact fG.2 ⟨s,hsub.subset hs,hx'⟩) z hz (hk.trans e1);omega
 refine List.pairwise_cons.2 ⟨fun X hX=>?_,List.pairwise_append.2 ⟨pA,List.pairwise_cons.2 ⟨fun X hX=>?_,List.pairwise_singleton _ _⟩,fun a ha' b hb'=>?_⟩⟩
 · rcases List.mem_append.1 hX with hX | hX
   · exact pM X (List.mem_append_left _ hX)
   · have:=hup M (pM _ (by simp)) (pM _ (by simp));rcases List.mem_cons.1 hX with rfl | hX
     · exact this.1
     · rw [List.mem_singleton.1 hX];exact this.2
 · rw [List.mem_singleton.1 hX];exact hlast
 · have:=hup a (pX a ha' _ (by simp)) (pX a ha' _ (by simp));rcases List.mem_cons.1 hb' with rfl | hb'
   · exact this.1
   · rw [List.mem_singleton.1 hb'];exact this.2
theorem kF.mono {lo':Nat} {am:Option Addr} {nm cm G c:Nat} {ak:Option Addr} {ns cs gA dA:Nat} {e1 n1 d1 e2 n2 d2:Nat} (h:kF lo w am nm cm G c ak ns cs gA dA e1 n1 d1 e2 n2 d2 M A B C S) (hl:lo'≤lo):kF lo' w am nm cm G c ak ns cs gA dA e1 n1 d1 e2 n2 d2 M A B C S :=
 ⟨h.mem.mono hl,ew h.row hl,h.rA.mono hl,h.rB,h.rC,h.sn.lower hl,h.sk⟩
theorem pp {M A' B' C':_} {ok:Bool} {e:Ending} (hlw:lo≤w.heap.size) (hg:∀w',Bl w w'→cw lo w' v) (htb:ok=true→bc q M [A',B',C'] S=true) (h:jH w.heap.size q v M A' B' C' S ok w e w'):mZ lo w e w':=by
 obtain ⟨am,nm,cm,av,nv,cv,ak,ns,cs,rfl,hb,h0,h1⟩:=h;refine ⟨_,_,rfl,?_,gF.of hb⟩;cases ok with
 | false=>rw [h0 rfl];exact hg _ hb
 | true =>
  obtain ⟨G,gA,dA,e1,n1,d1,e2,n2,d2,rfl,rfl,hT⟩:=h1 rfl;exact ⟨q,am,nm,cm,G,cv,ak,ns,cs,gA,dA,e1,n1,d1,e2,n2,d2,M,A',B',C',S,rfl,hT.mono hlw,htb rfl⟩
theorem cw.below (h:cw lo w v) (hb:Bl w w'):cw lo w' v:=by
 obtain ⟨q,am,nm,cm,G,c,ak,ns,cs,gA,dA,e1,n1,d1,e2,n2,d2,M,A,B,C,S,rfl,hT,htb⟩:=h;exact ⟨q,am,nm,cm,G,c,ak,ns,cs,gA,dA,e1,n1,d1,e2,n2,d2,M,A,B,C,S,rfl,hT.below hb,htb⟩
theorem m9 (htb:bc q M [A,B,C] S=true):∀Z ∈ [A,B,C],Z.length≤100∧∀r ∈ Z,1≤r.1.length∧r.1.length≤10000:=by
 have h8:eM [A,B,C] q=true:=(bh htb).2.2.2.2.2.2.2.1;unfold eM at h8;simp only [Bool.and_eq_true] at h8;intro Z hZm;simp only [List.mem_cons,List.not_mem_nil,or_false] at hZm;rcases hZm with rfl | rfl | rfl
 · exact dh h8.1 (by omega)
 · exact dh h8.2.1 (by omega)
 · exact dh h8.2.2 (by omega)
theorem tC (lo:Nat) (v:Value) (lv pk:Int) (w:World) (h:cw lo w v) (hlw:lo≤w.heap.size):Calls Tryz.prog 56 #[v,iT lv,iT pk] w (mZ lo w):=by
 have hg:=fun w' (hb:Bl w w')=>h.below hb
 obtain ⟨q,am,nm,cm,G,c,ak,ns,cs,gA,dA,e1,n1,d1,e2,n2,d2,M,A,B,C,S,rfl,hT,htb⟩:=h;have hsz:=m9 htb;obtain ⟨⟨hlA,hlB,hlC⟩,hrun,_,_⟩:=qZ htb;have hM:=(bh htb).2.2.1;have hS:=kO htb;have hnm:nm≤1048576:=by have:=hT.mem.len;omega
 have hns:ns≤1048576:=by have:=hT.sn.length;omega
 have h150:∀Z ∈ [A,B,C],∀r ∈ Z,r.1.length≤150:=fun Z hZ r hr=>(bK (hrun Z hZ r hr)).2.1
 have hBl:=hT.rB.1.length;by_cases h0:lv=0∧1≤A.length
 · obtain ⟨rfl,hA1⟩:=h0;have hok:=AV htb hA1;exact (xO 0 q am nm cm G c ak ns cs M A B C S gA 0 A.length dA pk w hT.treeIn hnm hns hsz hT.head.1 (hT.rA.runsIn.mono (Nat.zero_le _)) hA1 (by omega) hok (vI (h150 A (by simp)) (h150 B (by simp)) (by omega))).mono (fun e w' hc=>pp hlw hg (fun ho=>pN htb hA1 ho) hc)
 · by_cases h1:lv=1∧0≤pk∧pk<(n1:Int)
   · obtain ⟨rfl,hp0,hp1⟩:=h1;obtain ⟨p,rfl⟩:=Int.eq_ofNat_of_zero_le hp0;have hp:p<B.length:=by omega
     have hok:=AU htb hp;have hs:((B.drop p).take 1).Sublist B:=(List.take_sublist _ _).trans (List.drop_sublist _ _);exact (xN 0 q am nm cm G c ak ns cs M A B C S e1 n1 d1 p w hT.treeIn hnm hns hsz hT.head.2.1 hT.rB.1 (by omega) (by omega) hok (vI (fun r hr=>h150 B (by simp) r (hs.subset hr)) (h150 C (by simp)) (by have:=hs.length_le;omega))).mono (fun e w' hc=>pp hlw hg (fun ho=>pL htb hp ho) hc)
   · exact (xM 0 q am nm cm G c ak ns cs M A B C S (pT gA) (pT e1) A.length dA n1 d1 lv pk w hT.treeIn hT.head.1 hT.head.2.1 ⟨h0,h1⟩).mono (fun e w' hc=>pp hlw hg (fun ho=>by cases ho) hc)
end Go.Proofs.YtpobkmjicbobdaaGreat
