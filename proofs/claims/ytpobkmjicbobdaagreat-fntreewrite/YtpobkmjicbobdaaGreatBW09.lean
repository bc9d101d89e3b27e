/- Walks. -/
import Derived.Test.YtpobkmjicbobdaaGreatBW08
import Derived.Laws.Cover1
namespace Go.Proofs.YtpobkmjicbobdaaGreat
set_option maxRecDepth 100000
set_option maxHeartbeats 40000000
open Go.RowKit
variable {C N T:List af} {L:List ac} {S:List Int} {base cap g n sz t:Nat} {r:af} {w:World} {xs:List Value}
def jf (T:List af):ByteArray:=match T[0]? with | some r=>fS (bj r.1) T | none=>⟨#[]⟩
def fM (T:List af):ByteArray:=match T[0]? with | some r=>dG (aT r.1) T | none=>⟨#[]⟩
def EP (T N:List af):List af:=N.filter (eG (jf T) (fM T))
def offR (T N:List af):List af:=N.filter (fun r=>!eG (jf T) (fM T) r)
def dW (T N:List af):List af:=T++EP T N
def mc (T N C:List af) (nx:Int):Bool:=decide (nx=2) || decide ((C.filter (eG (jf (dW T N)) (fM (dW T N)))).length=0)
def vu (T N C:List af) (S:List Int) (nx:Int):List ac:=bT (aS (bG (dW T N)).flatten) S (mc T N C nx)
def dR (L:List ac):List af:=(fs L L.length).1
def ef (T N C:List af) (S:List Int) (nx:Int):List af:=dO (offR T N) (dR (vu T N C S nx))
def yr (T N C:List af) (S:List Int) (nx:Int):Bool:=iD (ef T N C S nx) && decide ((ef T N C S nx).length≤8)
theorem fK {a b:ByteArray} (h:Op.bytesLess a.toList b.toList=true):fT a b=true:=by unfold fT;rw [h];rfl
theorem fb (h:aI L=true):nR L:=by
 have:=(bu L).1;rwa [iK (fW h) this (bu L).2.symm]
theorem jx (h:aI L=true) (h1:1≤L.length):fT (bj L) (aT L)=true:=by
 obtain ⟨e,b,e1⟩:=mu h1;rw [e1];exact (eK (fb h) b).2
theorem zC {k1 k2:ByteArray} {i j:Nat} (h:gh N k1 k2 i j) (e:fT k1 k2=true) (b:∀r ∈ N,aI r.1=true∧1≤r.1.length):i≤j:=by
 apply Classical.byContradiction;intro hc;have f:j<N.length:=by have:=h.1;omega
 have hr:=j' f;obtain ⟨a,_,_,d⟩:=h.2.2 j _ hr;have a:=a (by omega);have d:=d (GL _);have hn:=b _ (GP hr);have h1:=cW (cW e (fK d)) (jx hn.1 hn.2);rw [dQ,a] at h1;cases h1
theorem us (h0:1≤T.length) (b:∀r ∈ T,aI r.1=true∧1≤r.1.length):bj (aS (bG T).flatten)=jf T∧aT (aS (bG T).flatten)=fM T:=by
 have hr:=j' (l:=T) (i:=0) (by omega);have:=ye (GP hr) b rfl;unfold jf fM;rw [hr];exact this
theorem DM (h0:1≤T.length) (b:∀r ∈ T,aI r.1=true∧1≤r.1.length):1≤(aS (bG T).flatten).length:=by
 rw [i8];match T,h0,b with
 | r :: T,_,b =>
  have:=(b r (by simp)).2;simp [bG];omega
theorem pl (h0:1≤T.length) (b:∀r ∈ T,aI r.1=true∧1≤r.1.length):fT (jf T) (fM T)=true:=by
 obtain ⟨h1,h2⟩:=us h0 b;rw [← h1,← h2];obtain ⟨e,d,e1⟩:=mu (DM h0 b);rw [e1];exact (eK (bu _).1 d).2
structure gX (T N:List af):Prop where
 t0:1≤T.length
 tok:∀r ∈ T,aI r.1=true∧1≤r.1.length
 nok:∀r ∈ N,aI r.1=true∧1≤r.1.length
 ap:bn N=true
 un:f6 ((bG T).flatten++(bG N).flatten)
theorem mv (T N:List af):(EP T N).Sublist N:=List.filter_sublist
theorem oF (A B:List af):(bG (A++B)).flatten=(bG A).flatten++(bG B).flatten:=by simp [bG]
theorem gX.all (h:gX T N):∀r ∈ dW T N,aI r.1=true∧1≤r.1.length:=fun r hr=>by
 rcases GX.1 hr with h1 | h1
 · exact h.tok r h1
 · exact h.nok r ((mv T N).subset h1)
theorem gX.all0 (h:gX T N):1≤(dW T N).length:=by
 have:=h.t0;unfold dW;rw [GO];omega
theorem oS {A B:List (List ac)} (h:A.Sublist B):A.flatten.Sublist B.flatten:=by
 induction h with
 | slnil=>exact IU _
 | cons a _ b=>rw [Ip];exact b.trans (List.sublist_append_right _ _)
 | cons_cons a _ b=>rw [Ip,Ip];exact Je (IU _) b
theorem gX.unAll (h:gX T N):f6 (bG (dW T N)).flatten:=by
 unfold dW;rw [oF];refine It ?_ h.un;exact Je (IU _) (oS ((mv T N).map _))
theorem yy (b:∀r ∈ T,aI r.1=true∧1≤r.1.length):∀e ∈ (bG T).flatten,dM e.1 e.2.1 e.2.2.1 e.2.2.2.1 e.2.2.2.2=true:=fun e d=>by
 obtain ⟨L,hL,h1⟩:=IS.1 d
 obtain ⟨r,hr,rfl⟩:=Ib.1 hL
 obtain ⟨j,f⟩:=Hr h1
 exact eo (b r hr).1 f
theorem gX.right (h:gX T N):aI (aS (bG (dW T N)).flatten)=true:=by
 obtain ⟨h1,h2⟩:=bu (bG (dW T N)).flatten;exact gY (oh h1 (iI h.unAll h2.symm)) (fun e b=>yy h.all e (h2.subset b))
theorem gX.cut (h:gX T N) {i j:Nat} (hm:gh N (jf T) (fM T) i j):i≤j∧EP T N=(N.drop i).take (j - i)∧offR T N=N.take i++N.drop j:=by
 have b:=zC hm (pl h.t0 h.tok) h.nok;exact ⟨b,ph hm b⟩
theorem gX.merged (h:gX T N) {i j:Nat} (hm:gh N (jf T) (fM T) i j):aS (bG ((N.drop i).take (j - i))++[aS (bG T).flatten]).flatten=aS (bG (dW T N)).flatten:=by
 refine (o9 h.unAll ?_).symm;rw [← (h.cut hm).2.1];unfold dW;rw [oF,IJ];simp only [Ip,List.flatten_nil,Iv];exact List.perm_append_comm.trans (List.Perm.append_left _ (bu _).2.symm)
theorem gX.bare (h:gX T N) (hC:∀r ∈ C,aI r.1=true∧1≤r.1.length) {i j:Nat} (hm:gh C (jf (dW T N)) (fM (dW T N)) i j) (nx:Int):(decide (nx=2) || decide (i=j))=mc T N C nx:=by
 have b:=zC hm (pl h.all0 h.all) hC;have hf:=(ph hm b).1;unfold mc;rw [hf,GS,G7];have:=hm.1;have:=hm.2.1;congr 1
 rw [decide_eq_decide];omega
theorem oc (h:nR L) {a c:Nat} (b:a≤c) (hc:c<L.length):fT (jg L a) (jg L c)=true:=by
 rw [lI (j' (show a<L.length by omega)),lI (j' hc)];by_cases e:a=c
 · subst e;exact fd _
 · exact pY ((Hl.1 h) a c (by omega) hc (by omega))
theorem oC {a b:Nat} (d:a<b):bj (eU L a b).1=jg L a:=by
 have h:(eU L a b).1[0]?=L[a]?:=by
  show ((L.drop a).take (b - a))[0]?=_
  rw [Hv (by omega),H9,Ik]
 unfold bj jg;rw [h];cases L[a]? <;> rfl
theorem tp {a b:Nat} (hb:b≤L.length):(eU L a b).1.length=b - a:=by
 show ((L.drop a).take (b - a)).length=_
 rw [GS,G7];omega
theorem mC (L:List ac):∀k,k≤L.length→(fs L k).2≤k∧(∀r ∈ (fs L k).1,∃a b,a<b∧b≤(fs L k).2∧r=eU L a b)∧(fs L k).1.Pairwise (fun r s=>∃a b c d,a<b∧b≤c∧c<d∧d≤L.length∧r=eU L a b∧s=eU L c d)
 | 0,_=>⟨GL _,(fun r h=>by cases h),List.Pairwise.nil⟩
 | k+1,hk=>by
  obtain ⟨h1,h2,h3⟩:=mC L k (by omega)
  obtain ⟨B,f,hB⟩:∃B f,fs L k=(B,f):=⟨_,_,rfl⟩
  rw [hB] at h1 h2 h3
  simp only at h1 h2 h3
  cases hc:ie L f (k+1) with
  | false=>rw [uV hB hc];exact ⟨by omega,h2,h3⟩
  | true =>
   rw [rV hB hc]
   refine ⟨GL _,fun r hr=>?_,?_⟩
   · rcases GX.1 hr with h | h
     · obtain ⟨a,b,x1,m,e⟩:=h2 r h
       exact ⟨a,b,x1,by show b≤k+1;omega,e⟩
     · rw [G5] at h
       exact ⟨f,k+1,by omega,GL _,h⟩
   · rw [Ih]
     refine ⟨h3,Jb _ _,fun r hr s hs=>?_⟩
     rw [G5] at hs
     obtain ⟨a,b,x1,m,e⟩:=h2 r hr
     exact ⟨a,b,f,k+1,x1,m,by omega,hk,e,hs⟩
theorem uT (h:r ∈ dR L):∃a b,a<b∧b≤L.length∧r=eU L a b:=by
 obtain ⟨h1,h2,_⟩:=mC L L.length (GL _);obtain ⟨a,b,x1,e,d⟩:=h2 r h;exact ⟨a,b,x1,by omega,d⟩
theorem oT (h:r ∈ dR L):1≤r.1.length:=by
 obtain ⟨a,b,x1,d,rfl⟩:=uT h;rw [tp d];omega
theorem uS (h:r ∈ dR L):∀e ∈ r.1,e ∈ L:=by
 obtain ⟨a,b,x1,f,rfl⟩:=uT h;intro e d;exact H8 (Hq d)
theorem zU (h:r ∈ dR L):∃e ∈ L,bj r.1=e.1:=by
 obtain ⟨e,b,e1⟩:=mu (oT h);exact ⟨e,uS h e b,e1⟩
theorem DY (hw:nR L):(dR L).Pairwise (fun a b=>oQ (bj a.1) (bj b.1)=false):=by
 refine (mC L L.length (GL _)).2.2.imp ?_;rintro r s ⟨a,b,c,d,h1,h2,h3,h4,rfl,rfl⟩;rw [oC h1,oC h3,uF];have:=oc hw (a:=a) (c:=c) (by omega) (by omega);rw [dQ] at this;simpa using this
theorem xO {b:Bool} {e:ac} (h:e ∈ bT L S b):∃x ∈ L,x.1=e.1:=by
 unfold bT at h;split at h
 · have hs:=rl S b (Sq.parts fA L);rw [Sq.parts_flat] at hs;obtain ⟨x,hx,e1⟩:=Ib.1 (hs.subset (Ib.2 ⟨e,h,rfl⟩));exact ⟨x,hx,congrArg (fun p:ByteArray × Int=>p.1) e1⟩
 · cases h
theorem fj {N:List af} (h:bn N=true) (b:∀r ∈ N,aI r.1=true∧1≤r.1.length):∀d a,a+(d+1)<N.length→∀x y,N[a]?=some x→N[a+(d+1)]?=some y→Op.bytesLess (aT x.1).toList (bj y.1).toList=true
 | 0,a,hl,x,y,hx,hy=>by
  have h1:=(Hf.1 h) (a+1) (Ia.2 (by omega))
  rw [lQ hy (by omega) (by simpa using hx)] at h1
  exact h1
 | d+1,a,hl,x,y,hx,hy=>by
  have hz:=j' (l:=N) (i:=a+(d+1)) (by omega)
  have o:=fj h b d a (by omega) x _ hx hz
  have h1:=(Hf.1 h) (a+(d+1+1)) (Ia.2 (by omega))
  rw [lQ hy (by omega) (by rw [show a+(d+1+1) - 1=a+(d+1) by omega];exact hz)] at h1
  have f:=b _ (GP hz)
  have e:=jx f.1 f.2
  have e1:fT (aT x.1) (bj y.1)=true:=cW (cW (fK o) e) (fK h1)
  cases hg:Op.bytesLess (aT x.1).toList (bj y.1).toList with
  | true=>rfl
  | false =>
   have e2:fT (bj y.1) (aT x.1)=true:=by rw [dQ,hg];rfl
   have e3:=cW e2 (cW (fK o) e)
   rw [dQ] at e3
   have m:Op.bytesLess (aT (N[a+(d+1)]'(by omega)).1).toList (bj y.1).toList=true:=h1
   rw [m] at e3
   cases e3
theorem ix {a b c:ByteArray} (h1:fT a b=true) (h2:Op.bytesLess b.toList c.toList=true):Op.bytesLess a.toList c.toList=true:=by
 cases hg:Op.bytesLess a.toList c.toList with
 | true=>rfl
 | false =>
  have e2:fT c a=true:=by rw [dQ,hg];rfl
  have e3:=cW e2 h1;rw [dQ,h2] at e3;cases e3
theorem uj {b:Int} {e:ac} (h:e ∈ vu T N C S b):∃r ∈ dW T N,∃x ∈ r.1,x.1=e.1:=by
 obtain ⟨x,hx,e1⟩:=xO h;have hx:=(bu _).2.subset hx;obtain ⟨L,hL,h1⟩:=IS.1 hx;obtain ⟨r,hr,rfl⟩:=Ib.1 hL;exact ⟨r,hr,x,h1,e1⟩
theorem gX.runs (h:gX T N) (C:List af) (S:List Int) (J:Int) {i j:Nat} (hm:gh N (jf T) (fM T) i j):ef T N C S J=N.take i++dR (vu T N C S J)++N.drop j:=by
 obtain ⟨U,H,E⟩:=h.cut hm;have D:=us h.t0 h.tok;have hw:nR (vu T N C S J):=fb (jz h.right S _);have K:∀r ∈ T,∀x ∈ r.1,fT (jf T) x.1=true∧fT x.1 (fM T)=true:=fun r hr x hx=>by
  have:=eK (bu (bG T).flatten).1 (e:=x) ((bu _).2.symm.subset (IS.2 ⟨r.1,Ib.2 ⟨r,hr,rfl⟩,hx⟩));rwa [D.1,D.2] at this
 have O:∀r ∈ EP T N,∃t,i≤t∧t<j∧N[t]?=some r:=fun r hr=>by
  rw [H] at hr;obtain ⟨t,F⟩:=Hr hr;have hl:=(F'.1 F).1;rw [GS,G7] at hl;rw [Hv (by omega),H9] at F;exact ⟨i+t,by omega,by omega,F⟩
 unfold ef;rw [E];refine qF _ _ _ (fun r hr z hz=>?_) (fun x hx r hr=>?_) (DY hw)
 · obtain ⟨e,I,e1⟩:=zU hr;obtain ⟨m,o,x,hx,e2⟩:=uj I;rw [uF,e1,← e2];obtain ⟨u,b⟩:=Hr hz;rw [H9] at b;have B:=(F'.1 b).1;rcases GX.1 o with h1 | h1
   · exact ix (K m h1 x hx).2 ((hm.2.2 _ _ b).2.2.2 (by omega))
   · obtain ⟨t,W,Q,t3⟩:=O m h1;have s:=h.nok _ (GP t3);have:=fj h.ap h.nok (j+u - t - 1) t (by omega) m z t3 (by rw [show t+(j+u - t - 1+1)=j+u by omega];exact b);exact ix (eK (fb s.1) hx).2 this
 · obtain ⟨e,I,e1⟩:=zU hr;obtain ⟨m,o,y,hy,e2⟩:=uj I;obtain ⟨u,b⟩:=Hr (List.mem_of_getLast? hx);have B:=(F'.1 b).1;rw [GS] at B;rw [Hv (by omega)] at b;have d:=h.nok _ (GP b);have A:=jx d.1 d.2;have f:fT (bj x.1) y.1=true:=by
    rcases GX.1 o with h1 | h1
    · exact cW (cW A (fK ((hm.2.2 _ _ b).1 (by omega)))) (K m h1 y hy).1
    · obtain ⟨t,W,Q,t3⟩:=O m h1;have s:=h.nok _ (GP t3);have R:=(F'.1 t3).1;have:=fj h.ap h.nok (t - u - 1) u (by omega) x m b (by rw [show u+(t - u - 1+1)=t by omega];exact t3);exact cW (cW A (fK this)) (eK (fb s.1) hy).1
   rw [uF,e1,← e2];rw [dQ] at f;simpa using f
theorem gX.fits (h:gX T N) (d:∀r ∈ N,r.1.length≤150) (C:List af) (S:List Int) (b:Int) {i j:Nat} (hm:gh N (jf T) (fM T) i j):iD (ef T N C S b)=iD (dR (vu T N C S b)):=by
 rw [h.runs C S b hm];unfold iD;rw [List.all_append,List.all_append];have h1:(N.take i).all (fun r=>decide (r.1.length≤150))=true:=Hf.2 fun r hr=>decide_eq_true (d r (Hq hr))
 have h2:(N.drop j).all (fun r=>decide (r.1.length≤150))=true:=Hf.2 fun r hr=>decide_eq_true (d r (H8 hr))
 rw [h1,h2];simp
theorem mP (m:Int) (s:Option Addr) (n c:Nat) (L:List ac) (w:World) (h:ah w s n c L) (hn:1≤n) :
 Calls Tryz.prog 147 #[.agg #[.slice s n c,iT m]] w fun r w'=>r=.returned (.string (bj L))∧Bl w w':=by
 obtain ⟨b,d,rfl,_⟩:=h.form hn;have hg:=j' (show 0<L.length by have:=h.length;omega);have:=zm m b d n c L w h _ hg;unfold bj;rw [hg];exact this
theorem td (m:Int) (s:Option Addr) (n c:Nat) (L:List ac) (w:World) (h:ah w s n c L) (hn:1≤n) :
 Calls Tryz.prog 146 #[.agg #[.slice s n c,iT m]] w fun r w'=>r=.returned (.string (aT L))∧Bl w w':=by
 obtain ⟨b,d,rfl,_⟩:=h.form hn;have hl:=h.length;have hg:=j' (show L.length - 1<L.length by omega);have:=vz m b d n c L w h _ (by rw [← hl];exact hg) hn;unfold aT;rw [hg];exact this
theorem Cp (m:Int) (s:Option Addr) (n c:Nat) (L:List ac) (low b:ByteArray) (w:World) (h:ah w s n c L) (hn:1≤n) :
 Calls Tryz.prog 222 #[.agg #[.slice s n c,iT m],.string low,.string b] w fun e w'=>e=.returned (.bool (eG low b (L,m)))∧Bl w w':=by
 obtain ⟨X,B⟩:=aG w.heap.size;obtain ⟨W,y⟩:=aG (w.alloc (.cells #[.slice s n c,iT m] 63));have F:Bl w W:=by rw [y];exact bZ
 have x0:W.cell? ⟨X,0,none⟩=some (.slice s n c):=by rw [y,B];simp
 have x1:W.cell? ⟨X,1,none⟩=some (iT m):=by rw [y,B];simp
 have I:X<W.heap.size:=GK _ _ x0;have E:Eq (Bl w W):=F;have Z:=az h;obtain ⟨lo,x⟩:=aG (bj L);obtain ⟨hi,f⟩:=aG (aT L);have Q:Eq (∀w',Bl w w'→Calls Tryz.prog 147 #[.agg #[.slice s n c,iT m]] w' fun r u=>r=.returned (.string lo)∧Bl w' u):=by rw [x];exact fun w' k=>mP m s n c L w' (h.keep k) hn
 have R:Eq (∀w',Bl w w'→Calls Tryz.prog 146 #[.agg #[.slice s n c,iT m]] w' fun r u=>r=.returned (.string hi)∧Bl w' u):=by rw [f];exact fun w' k=>td m s n c L w' (h.keep k) hn
 have H:Eq (eG low b (L,m)=(fT lo b && fT low hi)):=by rw [x,f];rfl
 clear h F x f;go_enter Tryz.func222,Tryz.ntmps222
 go_wp2_with fail
 rw [← y];clear y;refine (Q.o _ E.o).mono ?_;rintro e J ⟨rfl,d⟩;have D:Eq (Bl w J):=E.o.trans (d.mono E.o.size);have x0:=cell_later d x0;have x1:=cell_later d x1;have I:=E' I d.size;rw [← B];clear d B;cases h1:(Op.bytesLess lo.toList b.toList || lo.toList == b.toList) with
 | false =>
  have K:Eq (fT lo b=false):=h1;go_wp2;go_ret;exact ⟨by rw [H.o,K.o];rfl,D.o⟩
 | true =>
  have Y:Eq (fT lo b=true):=h1;go_wp2_with fail
  refine (R.o _ D.o).mono ?_;rintro e U ⟨rfl,A⟩;have O:Eq (Bl w U):=D.o.trans (A.mono D.o.size);clear A;go_wp2;go_ret;exact ⟨by rw [H.o,Y.o];simp [fT],O.o⟩
theorem vA (a:Option Addr) (n c:Nat) (B:List af) (w:World) (h:aw 0 w a n c B) (hn:n≤1048576) :
 Calls Tryz.prog 182 #[.slice a n c] w fun e w'=>e=.returned (.bool (iD B && decide (n≤8)))∧Bl w w':=by
 have R:=az h;have HL:Eq (B.length=n):=h.length;obtain ⟨F,hF⟩:=aG ((iD B && decide (n≤8)));have H:Eq (F=(iD B && decide (n≤8))):=hF;rw [← hF];clear h hF;go_enter Tryz.func182,Tryz.ntmps182
 go_wp2;go_loopw [3] (fun O wr=>∃i:Nat,i≤n∧O=iT i∧(∀j r,j<i→B[j]?=some r→r.1.length≤150)∧wr=w) (fun O _=>n - (intOf O).toNat)
 case atStart=>exact ⟨0,GQ _,rfl,(fun j r K _=>absurd K (H7 _)),rfl⟩
 case round =>
  obtain ⟨i,Y,rfl,D,rfl⟩:=hrel;have x:Eq (∀j r,j<i→B[j]?=some r→r.1.length≤150):=D;clear D;by_cases E:i<n
  · have A:(i:Int)<(n:Int):=by omega
    obtain ⟨b,Z,rfl,X⟩:=R.o.form (by omega);obtain ⟨L,m,s,len,cap,hg,_,c0,_,hE⟩:=R.o.run (Below.refl _ wr) i E;have Q:Eq (B[i]?=some (L,m)):=hg;have y:Eq (L.length=len):=hE.1.length;have hbig:=hE.1.big;have hroom:=hE.1.room;unfold maxLen at hbig;clear hg hE;by_cases W:150<len
    · have f:(len:Int) > 150:=by omega
      have u:(150:Int)<(len:Int):=by omega
      go_wp2;go_ret;exact ⟨by rw [H.o,EV Q.o (by have:=y.o;show 150<L.length;omega)];rfl,Below.refl _ _⟩
    · have f:¬(len:Int) > 150:=by omega
      have u:¬(150:Int)<(len:Int):=by omega
      go_wp2;go_roundw
      case rel =>
       refine ⟨i+1,by omega,by go_num,fun j r K hr=>?_,by first | rfl | trivial⟩;by_cases I:j<i
       · exact x.o j r I hr
       · have:j=i:=by omega
         subst this;rw [Q.o] at hr;cases hr;have:=y.o;show L.length≤150
         omega
      case measure=>simp [intOf];omega
  · have A:¬(i:Int)<(n:Int):=by omega
    have d:Eq (iD B=true):=DO HL.o (fun j r K hr=>x.o j r (by omega) hr);by_cases U:n≤8
    · have J:(n:Int)≤8:=by omega
      go_wp2;go_ret;exact ⟨by rw [H.o,d.o,decide_eq_true U];rfl,Below.refl _ _⟩
    · have J:¬(n:Int)≤8:=by omega
      go_wp2;go_ret;exact ⟨by rw [H.o,d.o,decide_eq_false U];rfl,Below.refl _ _⟩
theorem ol (b Y n c:Nat) (B:List af) (r0:af) (w:World) (h:aw 0 w (some ⟨b,Y,none⟩) n c B) (h0:B[0]?=some r0) (a5:∀r ∈ B,1≤r.1.length) (hn:n≤1048576) :
 Calls Tryz.prog 176 #[sO b Y n c] w fun e w'=>e=.returned (.tuple #[.string (fS (bj r0.1) B),.string (dG (aT r0.1) B)])∧Bl w w':=by
 have HB:=az h;have HL:Eq (B.length=n):=h.length;have al:=az a5;have ai:1≤n:=by have:=(F'.1 h0).1;have:=h.length;omega
 have aA:(0:Int)<(n:Int):=by omega
 have a8:=(h.lies _ rfl (by omega)).1;simp only at a8;have ac:Eq (∀(i:Nat) (w':World),Bl w w'→i<n→∃L m s len cap,B[i]?=some (L,m)∧w'.cell? ⟨b,Y+i*2,none⟩=some (.slice s len cap)∧w'.cell? ⟨b,Y+i*2+1,none⟩=some (iT m)∧b<w'.heap.size ∧
  (∀u,Bl w' u→Calls Tryz.prog 147 #[.agg #[.slice s len cap,iT m]] u fun r K=>r=.returned (.string (bj L))∧Bl u K) ∧
  (∀u,Bl w' u→Calls Tryz.prog 146 #[.agg #[.slice s len cap,iT m]] u fun r K=>r=.returned (.string (aT L))∧Bl u K)):=fun i w' k hi=>by
  obtain ⟨L,m,s,len,cap,hg,_,c0,c1,hE⟩:=HB.o.run k i hi;have hl:1≤len:=by have h1:=al.o _ (GP hg);have h2:=hE.1.length;simp only at h1;omega
  exact ⟨L,m,s,len,cap,hg,c0,c1,E' a8 k.size,fun u k'=>mP m s len cap L u (hE.1.keep k') hl,fun u k'=>td m s len cap L u (hE.1.keep k') hl⟩
 have ab:=az h0;clear h h0 a5 HB;go_enter Tryz.func176,Tryz.ntmps176
 obtain ⟨L,m,s,len,cap,hg,c0,c1,hz,CL,CH⟩:=ac.o 0 w (Below.refl _ _) (by omega);rw [ab.o] at hg;cases hg;simp only [I3,Ik] at c0 c1;go_wp2_with fail
 refine (CL _ (Below.refl _ _)).mono ?_;rintro e w1 ⟨rfl,y⟩;have U:Eq (Bl w w1):=y;have c0:=cell_later y c0;have c1:=cell_later y c1;have hz:=E' hz y.size;clear y;go_wp2_with fail
 refine (CH _ U.o).mono ?_;rintro e w2 ⟨rfl,D⟩;have R:Eq (Bl w w2):=U.o.trans (D.mono U.o.size);clear c0 c1 hz D CL CH U;go_wp2;go_loopw [4,5,6] (fun lv hv iv wr=>∃(i:Nat) (J hi:ByteArray),1≤i∧i≤n∧iv=iT i∧lv=.string J∧hv=.string hi∧J=fS (bj L) (B.take i)∧hi=dG (aT L) (B.take i)∧Bl w wr) (fun _ _ iv _=>n - (intOf iv).toNat)
 case atStart =>
  have e1:B.take 1=[(L,m)]:=by rw [Hc,ab.o];simp
  refine ⟨1,bj L,aT L,GL _,ai,rfl,rfl,rfl,?_,?_,R.o⟩
  · rw [e1];simp [fS,cH]
  · rw [e1];simp [dG,oQ]
 case round =>
  obtain ⟨i,J,hi,ay,aB,rfl,rfl,rfl,aa,ad,hb⟩:=hrel;have a1:Eq (J=fS (bj L) (B.take i)):=aa;have E:Eq (hi=dG (aT L) (B.take i)):=ad;have f:Eq (Bl w wr):=hb;clear aa ad R;by_cases an:i<n
  · have ae:(i:Int)<(n:Int):=by omega
    obtain ⟨L',m',s',ap,aq,hg,c0,c1,hz,CL,CH⟩:=ac.o i wr hb an;have Z:Eq (B[i]?=some (L',m')):=hg;obtain ⟨kl,a0⟩:=aG (bj L');obtain ⟨X,a2⟩:=aG (aT L');have a9:Eq (kl=bj L'):=a0;have F:Eq (X=aT L'):=a2;rw [← a0] at CL;rw [← a2] at CH;have a7:=az CL;have W:=az CH;clear hg hb a0 a2 CL CH;go_wp2_with fail
    refine (a7.o _ (Below.refl _ _)).mono ?_;rintro e w1 ⟨rfl,y⟩;have U:Eq (Bl wr w1):=y;have c0:=cell_later y c0;have c1:=cell_later y c1;have hz:=E' hz y.size;clear y;cases h1:Op.bytesLess kl.toList J.toList with
    | true =>
     have x:Eq (kl=fS (bj L) (B.take (i+1))):=by show _=_;rw [tx _ Z.o,← a1.o,← a9.o,h1];rfl
     go_wp2_with fail
     refine (a7.o _ U.o).mono ?_;rintro e w2 ⟨rfl,D⟩;have R:Eq (Bl wr w2):=U.o.trans (D.mono U.o.size);have c0:=cell_later D c0;have c1:=cell_later D c1;have hz:=E' hz D.size;clear D;go_wp2_with fail
     refine (W.o _ R.o).mono ?_;rintro e K ⟨rfl,A⟩;have H:Eq (Bl wr K):=R.o.trans (A.mono R.o.size);have c0:=cell_later A c0;have c1:=cell_later A c1;have hz:=E' hz A.size;clear A;cases ha:Op.bytesLess X.toList hi.toList with
     | true =>
      have d:Eq (hi=dG (aT L) (B.take (i+1))):=by show _=_;rw [gJ _ Z.o,← E.o,← F.o];simp [oQ,ha]
      have I:Eq (Bl w K):=f.o.trans (H.o.mono f.o.size);clear c0 c1 hz;go_wp2;go_roundw
      case rel=>exact ⟨i+1,kl,hi,by omega,by omega,by go_num,rfl,rfl,x.o,d.o,I.o⟩
      case measure=>simp [intOf];omega
     | false =>
      cases hb:(X.toList == hi.toList) with
      | true =>
       have d:Eq (hi=dG (aT L) (B.take (i+1))):=by show _=_;rw [gJ _ Z.o,← E.o,← F.o];simp [oQ,hb]
       have I:Eq (Bl w K):=f.o.trans (H.o.mono f.o.size);clear c0 c1 hz;go_wp2;go_roundw
       case rel=>exact ⟨i+1,kl,hi,by omega,by omega,by go_num,rfl,rfl,x.o,d.o,I.o⟩
       case measure=>simp [intOf];omega
      | false =>
       have d:Eq (X=dG (aT L) (B.take (i+1))):=by show _=_;rw [gJ _ Z.o,← E.o,← F.o];simp [oQ,ha,hb]
       go_wp2_with fail
       refine (W.o _ H.o).mono ?_;rintro e w4 ⟨rfl,O⟩;have I:Eq (Bl w w4):=f.o.trans ((H.o.trans (O.mono H.o.size)).mono f.o.size);clear O c0 c1 hz;go_wp2;go_roundw
       case rel=>exact ⟨i+1,kl,X,by omega,by omega,by go_num,rfl,rfl,x.o,d.o,I.o⟩
       case measure=>simp [intOf];omega
    | false =>
     have x:Eq (J=fS (bj L) (B.take (i+1))):=by show _=_;rw [tx _ Z.o,← a1.o,← a9.o,h1];rfl
     have R:Eq (Bl wr w1):=U.o;go_wp2_with fail
     refine (W.o _ R.o).mono ?_;rintro e K ⟨rfl,A⟩;have H:Eq (Bl wr K):=R.o.trans (A.mono R.o.size);have c0:=cell_later A c0;have c1:=cell_later A c1;have hz:=E' hz A.size;clear A;cases ha:Op.bytesLess X.toList hi.toList with
     | true =>
      have d:Eq (hi=dG (aT L) (B.take (i+1))):=by show _=_;rw [gJ _ Z.o,← E.o,← F.o];simp [oQ,ha]
      have I:Eq (Bl w K):=f.o.trans (H.o.mono f.o.size);clear c0 c1 hz;go_wp2;go_roundw
      case rel=>exact ⟨i+1,J,hi,by omega,by omega,by go_num,rfl,rfl,x.o,d.o,I.o⟩
      case measure=>simp [intOf];omega
     | false =>
      cases hb:(X.toList == hi.toList) with
      | true =>
       have d:Eq (hi=dG (aT L) (B.take (i+1))):=by show _=_;rw [gJ _ Z.o,← E.o,← F.o];simp [oQ,hb]
       have I:Eq (Bl w K):=f.o.trans (H.o.mono f.o.size);clear c0 c1 hz;go_wp2;go_roundw
       case rel=>exact ⟨i+1,J,hi,by omega,by omega,by go_num,rfl,rfl,x.o,d.o,I.o⟩
       case measure=>simp [intOf];omega
      | false =>
       have d:Eq (X=dG (aT L) (B.take (i+1))):=by show _=_;rw [gJ _ Z.o,← E.o,← F.o];simp [oQ,ha,hb]
       go_wp2_with fail
       refine (W.o _ H.o).mono ?_;rintro e w4 ⟨rfl,O⟩;have I:Eq (Bl w w4):=f.o.trans ((H.o.trans (O.mono H.o.size)).mono f.o.size);clear O c0 c1 hz;go_wp2;go_roundw
       case rel=>exact ⟨i+1,J,X,by omega,by omega,by go_num,rfl,rfl,x.o,d.o,I.o⟩
       case measure=>simp [intOf];omega
  · have ae:¬(i:Int)<(n:Int):=by omega
    have Q:B.take i=B:=GV (by rw [HL.o];omega);have h1:=a1.o;have h2:=E.o;rw [Q] at h1 h2;have H1:Eq (J=fS (bj L) B):=h1;have H2:Eq (hi=dG (aT L) B):=h2;clear h1 h2 Q;go_wp2;exact bodyPost_ret (v:=.tuple #[.string J,.string hi]) (by simp [results,Tryz.results176,go_sem]) rfl ⟨by rw [H1.o,H2.o],f.o⟩
theorem Tryz.infoRun:(Tryz.prog.info? 63).map (fun i=>(i.zero,i.size,i.bytes))=some (some (.agg #[nZ,iT 0]),2,32):=by kernel_rfl
theorem Tryz.infoRunL:(Tryz.prog.info? 61).map (fun i=>(i.zero,i.size,i.bytes))=some (some nZ,1,24):=by kernel_rfl
def lg (B:List af):Prop:=B.length≤1048576∧∀p ∈ B,p.1.length≤1048576
theorem cC {K:Nat} {T:TypeId} (h:w.ownsRow base T K (sL g n cap) n xs):n≤cap∧cap≤maxLen:=by
 rcases h.2 with ⟨h',_⟩ | ⟨m,e,f,h',_,_,d,b,_,_⟩
 · simp at h'
 · simp only [Jn,Ix,Addr.mk.injEq,and_true,true_and] at h';obtain ⟨rfl,rfl⟩:=h';exact ⟨d,b⟩
def aq (w:World) (g t sz:Nat):Prop:=∃cur:Array Value,w.heap[g]?=some (.cells cur t (0,0))∧cur.size=sz
theorem aq.lt (h:aq w g t sz):g<w.heap.size:=by
 obtain ⟨b,h,_⟩:=h;exact (Ii.1 h).1
theorem aq.cell (h:aq w g t sz) {o:Nat} (ho:o<sz):∃v,w.cell? ⟨g,o,none⟩=some v:=by
 obtain ⟨b,h,hs⟩:=h;exact ⟨b[o]'(by omega),by simp [World.cell?,h,Array.getElem?_eq_getElem (show o<b.size by omega)]⟩
theorem aq.frozen (h:aq w g t sz) (o:Nat):w.frozen? ⟨g,o,none⟩=false:=by
 obtain ⟨b,h,hs⟩:=h;simp [World.frozen?,h]
theorem aq.setCell (h:aq w g t sz) {b o:Nat} (v:Value) (_:True:=trivial):aq (w.setCell ⟨b,o,none⟩ v) g t sz:=by
 obtain ⟨d,h,hs⟩:=h;by_cases e:g=b
 · subst e;exact ⟨_,heap_setCell_same w g o d t v h,by simp [hs]⟩
 · exact ⟨d,(Below.heap_setCell _ _ _ _ e).trans h,hs⟩
theorem aq.below {w':World} (h:aq w g t sz) (hb:Bl w w'):aq w' g t sz:=by
 obtain ⟨b,h',hs⟩:=h;exact ⟨b,(hb.block g (Ii.1 h').1).trans h',hs⟩
theorem eR {e size:Nat} (h:w.ownsRow base e size (sL g n cap) n xs):aq w g e (cap*size):=by
 rcases h.2 with ⟨h',_⟩ | ⟨f,d,b,h',_,hg,_,_,hs,_⟩
 · simp at h'
 · simp only [Jn,Ix,Addr.mk.injEq,and_true,true_and] at h';obtain ⟨rfl,rfl⟩:=h';exact ⟨b,hg,hs⟩
theorem aq.kind {t' b:Nat} (h:aq w g t sz) (h':aq w g t' b):t=t':=by
 obtain ⟨e,h1,_⟩:=h;obtain ⟨d,h2,_⟩:=h';rw [h1] at h2;cases h2;rfl
end Go.Proofs.YtpobkmjicbobdaaGreat
