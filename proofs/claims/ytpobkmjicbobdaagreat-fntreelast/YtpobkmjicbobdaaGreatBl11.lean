/- Walks. -/
import Derived.Test.YtpobkmjicbobdaaGreatBl10
import Derived.Laws.Cover1
namespace Go.Proofs.YtpobkmjicbobdaaGreat
set_option maxRecDepth 100000
set_option maxHeartbeats 40000000
open Go.RowKit
variable {C N T:List an} {L:List ac} {S:List Int} {e:ac} {g sz t:Nat} {r:an} {w:World}
def ik (T:List an):ByteArray:=match T[0]? with | some r=>fh (bd r.1) T | none=>⟨#[]⟩
def fc (T:List an):ByteArray:=match T[0]? with | some r=>cW (aT r.1) T | none=>⟨#[]⟩
def AC (T N:List an):List an:=N.filter (dX (ik T) (fc T))
def offR (T N:List an):List an:=N.filter (fun r=>!dX (ik T) (fc T) r)
def dz (T N:List an):List an:=T++AC T N
def jR (T N C:List an) (nx:Int):Bool:=decide (nx=2) || decide ((C.filter (dX (ik (dz T N)) (fc (dz T N)))).length=0)
def sy (T N C:List an) (S:List Int) (nx:Int):List ac:=bG (bF (bj (dz T N)).flatten) S (jR T N C nx)
def dw (L:List ac):List an:=(eU L L.length).1
def dG (T N C:List an) (S:List Int) (nx:Int):List an:=dq (offR T N) (dw (sy T N C S nx))
def uG (T N C:List an) (S:List Int) (nx:Int):Bool:=gy (dG T N C S nx) && decide ((dG T N C S nx).length≤8)
theorem fb {a b:ByteArray} (h:Op.bytesLess a.toList b.toList=true):fi a b=true:=by unfold fi;rw [h];rfl
theorem eF (h:aI L=true):lJ L:=by
 have:=(bK L).1;rwa [ja (fZ h) this (bK L).2.symm]
theorem iz (h:aI L=true) (h1:1≤L.length):fi (bd L) (aT L)=true:=by
 obtain ⟨e,d,b⟩:=kf h1;rw [b];exact (dY (eF h) d).2
theorem vD {k1 k2:ByteArray} {i j:Nat} (h:fC N k1 k2 i j) (b:fi k1 k2=true) (f:∀r ∈ N,aI r.1=true∧1≤r.1.length):i≤j:=by
 apply Classical.byContradiction;intro hc;have m:j<N.length:=by have:=h.1;omega
 have hr:=j' m;obtain ⟨a,_,_,d⟩:=h.2.2 j _ hr;have a:=a (by omega);have d:=d (Cy _);have hn:=f _ (CV hr);have h1:=cw (cw b (fb d)) (iz hn.1 hn.2);rw [du,a] at h1;cases h1
theorem q9 (h0:1≤T.length) (b:∀r ∈ T,aI r.1=true∧1≤r.1.length):bd (bF (bj T).flatten)=ik T∧aT (bF (bj T).flatten)=fc T:=by
 have hr:=j' (l:=T) (i:=0) (by omega);have:=uy (CV hr) b rfl;unfold ik fc;rw [hr];exact this
theorem zI (h0:1≤T.length) (b:∀r ∈ T,aI r.1=true∧1≤r.1.length):1≤(bF (bj T).flatten).length:=by
 rw [ju];match T,h0,b with
 | r :: T,_,b =>
  have:=(b r (by simp)).2;simp [bj];omega
theorem mF (h0:1≤T.length) (b:∀r ∈ T,aI r.1=true∧1≤r.1.length):fi (ik T) (fc T)=true:=by
 obtain ⟨h1,h2⟩:=q9 h0 b;rw [← h1,← h2];obtain ⟨e,f,d⟩:=kf (zI h0 b);rw [d];exact (dY (bK _).1 f).2
structure fT (T N:List an):Prop where
 t0:1≤T.length
 tok:∀r ∈ T,aI r.1=true∧1≤r.1.length
 nok:∀r ∈ N,aI r.1=true∧1≤r.1.length
 ap:bg N=true
 un:fX ((bj T).flatten++(bj N).flatten)
theorem kj (T N:List an):(AC T N).Sublist N:=List.filter_sublist
theorem ma (A B:List an):(bj (A++B)).flatten=(bj A).flatten++(bj B).flatten:=by simp [bj]
theorem fT.all (h:fT T N):∀r ∈ dz T N,aI r.1=true∧1≤r.1.length:=fun r hr=>by
 rcases Dd.1 hr with h1 | h1
 · exact h.tok r h1
 · exact h.nok r ((kj T N).subset h1)
theorem fT.all0 (h:fT T N):1≤(dz T N).length:=by
 have:=h.t0;unfold dz;rw [CW];omega
theorem mj {A B:List (List ac)} (h:A.Sublist B):A.flatten.Sublist B.flatten:=by
 induction h with
 | slnil=>exact Ee _
 | cons a _ d=>rw [DW];exact d.trans (List.sublist_append_right _ _)
 | cons_cons a _ d=>rw [DW,DW];exact EA (Ee _) d
theorem fT.unAll (h:fT T N):fX (bj (dz T N)).flatten:=by
 unfold dz;rw [ma];refine DV ?_ h.un;exact EA (Ee _) (mj ((kj T N).map _))
theorem uL (b:∀r ∈ T,aI r.1=true∧1≤r.1.length):∀e ∈ (bj T).flatten,cT e.1 e.2.1 e.2.2.1 e.2.2.2.1 e.2.2.2.2=true:=fun e d=>by
 obtain ⟨L,hL,h1⟩:=Ew.1 d
 obtain ⟨r,hr,rfl⟩:=DO.1 hL
 obtain ⟨j,f⟩:=DF h1
 exact d4 (b r hr).1 f
theorem fT.right (h:fT T N):aI (bF (bj (dz T N)).flatten)=true:=by
 obtain ⟨h1,h2⟩:=bK (bj (dz T N)).flatten;exact fU (lT h1 (gL h.unAll h2.symm)) (fun e b=>uL h.all e (h2.subset b))
theorem fT.cut (h:fT T N) {i j:Nat} (hm:fC N (ik T) (fc T) i j):i≤j∧AC T N=(N.drop i).take (j - i)∧offR T N=N.take i++N.drop j:=by
 have b:=vD hm (mF h.t0 h.tok) h.nok;exact ⟨b,mE hm b⟩
theorem fT.merged (h:fT T N) {i j:Nat} (hm:fC N (ik T) (fc T) i j):bF (bj ((N.drop i).take (j - i))++[bF (bj T).flatten]).flatten=bF (bj (dz T N)).flatten:=by
 refine (sM h.unAll ?_).symm;rw [← (h.cut hm).2.1];unfold dz;rw [ma,EB];simp only [DW,List.flatten_nil,Eh];exact List.perm_append_comm.trans (List.Perm.append_left _ (bK _).2.symm)
theorem fT.bare (h:fT T N) (hC:∀r ∈ C,aI r.1=true∧1≤r.1.length) {i j:Nat} (hm:fC C (ik (dz T N)) (fc (dz T N)) i j) (nx:Int):(decide (nx=2) || decide (i=j))=jR T N C nx:=by
 have b:=vD hm (mF h.all0 h.all) hC;have hf:=(mE hm b).1;unfold jR;rw [hf,C5,Dh];have:=hm.1;have:=hm.2.1;congr 1
 rw [decide_eq_decide];omega
theorem lP (h:lJ L) {a c:Nat} (b:a≤c) (hc:c<L.length):fi (il L a) (il L c)=true:=by
 rw [jF (j' (show a<L.length by omega)),jF (j' hc)];by_cases e:a=c
 · subst e;exact eI _
 · exact nu ((Dt.1 h) a c (by omega) hc (by omega))
theorem l8 {a b:Nat} (d:a<b):bd (ep L a b).1=il L a:=by
 have h:(ep L a b).1[0]?=L[a]?:=by
  show ((L.drop a).take (b - a))[0]?=_
  rw [DI (by omega),DH,DS]
 unfold bd il;rw [h];cases L[a]? <;> rfl
theorem p7 {a b:Nat} (hb:b≤L.length):(ep L a b).1.length=b - a:=by
 show ((L.drop a).take (b - a)).length=_
 rw [C5,Dh];omega
theorem kK (L:List ac):∀k,k≤L.length→(eU L k).2≤k∧(∀r ∈ (eU L k).1,∃a b,a<b∧b≤(eU L k).2∧r=ep L a b)∧(eU L k).1.Pairwise (fun r s=>∃a b c d,a<b∧b≤c∧c<d∧d≤L.length∧r=ep L a b∧s=ep L c d)
 | 0,_=>⟨Cy _,(fun r h=>by cases h),List.Pairwise.nil⟩
 | k+1,hk=>by
  obtain ⟨h1,h2,h3⟩:=kK L k (by omega)
  obtain ⟨B,f,hB⟩:∃B f,eU L k=(B,f):=⟨_,_,rfl⟩
  rw [hB] at h1 h2 h3
  simp only at h1 h2 h3
  cases hc:fY L f (k+1) with
  | false=>rw [rP hB hc];exact ⟨by omega,h2,h3⟩
  | true =>
   rw [o9 hB hc]
   refine ⟨Cy _,fun r hr=>?_,?_⟩
   · rcases Dd.1 hr with h | h
     · obtain ⟨a,b,x1,n,m⟩:=h2 r h
       exact ⟨a,b,x1,by show b≤k+1;omega,m⟩
     · rw [Df] at h
       exact ⟨f,k+1,by omega,Cy _,h⟩
   · rw [DK]
     refine ⟨h3,EL _ _,fun r hr s hs=>?_⟩
     rw [Df] at hs
     obtain ⟨a,b,x1,n,m⟩:=h2 r hr
     exact ⟨a,b,f,k+1,x1,n,by omega,hk,m,hs⟩
theorem rL (h:r ∈ dw L):∃a b,a<b∧b≤L.length∧r=ep L a b:=by
 obtain ⟨h1,h2,_⟩:=kK L L.length (Cy _);obtain ⟨a,b,x1,f,d⟩:=h2 r h;exact ⟨a,b,x1,by omega,d⟩
theorem mn (h:r ∈ dw L):1≤r.1.length:=by
 obtain ⟨a,b,x1,d,rfl⟩:=rL h;rw [p7 d];omega
theorem rK (h:r ∈ dw L):∀e ∈ r.1,e ∈ L:=by
 obtain ⟨a,b,x1,f,rfl⟩:=rL h;intro e d;exact DE (Dw d)
theorem vV (h:r ∈ dw L):∃e ∈ L,bd r.1=e.1:=by
 obtain ⟨e,d,b⟩:=kf (mn h);exact ⟨e,rK h e d,b⟩
theorem zQ (hw:lJ L):(dw L).Pairwise (fun a b=>mi (bd a.1) (bd b.1)=false):=by
 refine (kK L L.length (Cy _)).2.2.imp ?_;rintro r s ⟨a,b,c,d,h1,h2,h3,h4,rfl,rfl⟩;rw [l8 h1,l8 h3,ry];have:=lP hw (a:=a) (c:=c) (by omega) (by omega);rw [du] at this;simpa using this
theorem uk {b:Bool} (h:e ∈ bG L S b):∃x ∈ L,x.1=e.1:=by
 unfold bG at h;split at h
 · have hs:=oT S b (Sq.parts eY L);rw [Sq.parts_flat] at hs;obtain ⟨x,hx,d⟩:=DO.1 (hs.subset (DO.2 ⟨e,h,rfl⟩));exact ⟨x,hx,congrArg (fun p:ByteArray × Int=>p.1) d⟩
 · cases h
theorem eL {N:List an} (h:bg N=true) (m:∀r ∈ N,aI r.1=true∧1≤r.1.length):∀d a,a+(d+1)<N.length→∀x y,N[a]?=some x→N[a+(d+1)]?=some y→Op.bytesLess (aT x.1).toList (bd y.1).toList=true
 | 0,a,hl,x,y,hx,hy=>by
  have h1:=(Dn.1 h) (a+1) (DG.2 (by omega))
  rw [jL hy (by omega) (by simpa using hx)] at h1
  exact h1
 | d+1,a,hl,x,y,hx,hy=>by
  have hz:=j' (l:=N) (i:=a+(d+1)) (by omega)
  have s:=eL h m d a (by omega) x _ hx hz
  have h1:=(Dn.1 h) (a+(d+1+1)) (DG.2 (by omega))
  rw [jL hy (by omega) (by rw [show a+(d+1+1) - 1=a+(d+1) by omega];exact hz)] at h1
  have f:=m _ (CV hz)
  have b:=iz f.1 f.2
  have A:fi (aT x.1) (bd y.1)=true:=cw (cw (fb s) b) (fb h1)
  cases hg:Op.bytesLess (aT x.1).toList (bd y.1).toList with
  | true=>rfl
  | false =>
   have u:fi (bd y.1) (aT x.1)=true:=by rw [du,hg];rfl
   have o:=cw u (cw (fb s) b)
   rw [du] at o
   have n:Op.bytesLess (aT (N[a+(d+1)]'(by omega)).1).toList (bd y.1).toList=true:=h1
   rw [n] at o
   cases o
theorem gu {a b c:ByteArray} (h1:fi a b=true) (h2:Op.bytesLess b.toList c.toList=true):Op.bytesLess a.toList c.toList=true:=by
 cases hg:Op.bytesLess a.toList c.toList with
 | true=>rfl
 | false =>
  have f:fi c a=true:=by rw [du,hg];rfl
  have d:=cw f h1;rw [du,h2] at d;cases d
theorem qS {b:Int} (h:e ∈ sy T N C S b):∃r ∈ dz T N,∃x ∈ r.1,x.1=e.1:=by
 obtain ⟨x,hx,d⟩:=uk h;have hx:=(bK _).2.subset hx;obtain ⟨L,hL,h1⟩:=Ew.1 hx;obtain ⟨r,hr,rfl⟩:=DO.1 hL;exact ⟨r,hr,x,h1,d⟩
theorem fT.runs (h:fT T N) (C:List an) (S:List Int) (J:Int) {i j:Nat} (hm:fC N (ik T) (fc T) i j):dG T N C S J=N.take i++dw (sy T N C S J)++N.drop j:=by
 obtain ⟨X,E,A⟩:=h.cut hm;have B:=q9 h.t0 h.tok;have hw:lJ (sy T N C S J):=eF (iB h.right S _);have Q:∀r ∈ T,∀x ∈ r.1,fi (ik T) x.1=true∧fi x.1 (fc T)=true:=fun r hr x hx=>by
  have:=dY (bK (bj T).flatten).1 (e:=x) ((bK _).2.symm.subset (Ew.2 ⟨r.1,DO.2 ⟨r,hr,rfl⟩,hx⟩));rwa [B.1,B.2] at this
 have O:∀r ∈ AC T N,∃t,i≤t∧t<j∧N[t]?=some r:=fun r hr=>by
  rw [E] at hr;obtain ⟨t,I⟩:=DF hr;have hl:=(Cx.1 I).1;rw [C5,Dh] at hl;rw [DI (by omega),DH] at I;exact ⟨i+t,by omega,by omega,I⟩
 unfold dG;rw [A];refine ol _ _ _ (fun r hr z hz=>?_) (fun x hx r hr=>?_) (zQ hw)
 · obtain ⟨e,K,H⟩:=vV hr;obtain ⟨n,o,x,hx,F⟩:=qS K;rw [ry,H,← F];obtain ⟨u,b⟩:=DF hz;rw [DH] at b;have D:=(Cx.1 b).1;rcases Dd.1 o with h1 | h1
   · exact gu (Q n h1 x hx).2 ((hm.2.2 _ _ b).2.2.2 (by omega))
   · obtain ⟨t,W,R,t3⟩:=O n h1;have m:=h.nok _ (CV t3);have:=eL h.ap h.nok (j+u - t - 1) t (by omega) n z t3 (by rw [show t+(j+u - t - 1+1)=j+u by omega];exact b);exact gu (dY (eF m.1) hx).2 this
 · obtain ⟨e,K,H⟩:=vV hr;obtain ⟨n,o,y,hy,F⟩:=qS K;obtain ⟨u,b⟩:=DF (List.mem_of_getLast? hx);have D:=(Cx.1 b).1;rw [C5] at D;rw [DI (by omega)] at b;have d:=h.nok _ (CV b);have s:=iz d.1 d.2;have f:fi (bd x.1) y.1=true:=by
    rcases Dd.1 o with h1 | h1
    · exact cw (cw s (fb ((hm.2.2 _ _ b).1 (by omega)))) (Q n h1 y hy).1
    · obtain ⟨t,W,R,t3⟩:=O n h1;have m:=h.nok _ (CV t3);have U:=(Cx.1 t3).1;have:=eL h.ap h.nok (t - u - 1) u (by omega) x n b (by rw [show u+(t - u - 1+1)=t by omega];exact t3);exact cw (cw s (fb this)) (dY (eF m.1) hy).1
   rw [ry,H,← F];rw [du] at f;simpa using f
theorem fT.fits (h:fT T N) (d:∀r ∈ N,r.1.length≤150) (C:List an) (S:List Int) (b:Int) {i j:Nat} (hm:fC N (ik T) (fc T) i j):gy (dG T N C S b)=gy (dw (sy T N C S b)):=by
 rw [h.runs C S b hm];unfold gy;rw [List.all_append,List.all_append];have h1:(N.take i).all (fun r=>decide (r.1.length≤150))=true:=Dn.2 fun r hr=>decide_eq_true (d r (Dw hr))
 have h2:(N.drop j).all (fun r=>decide (r.1.length≤150))=true:=Dn.2 fun r hr=>decide_eq_true (d r (DE hr))
 rw [h1,h2];simp
theorem lc (m:Int) (s:Option Addr) (n c:Nat) (L:List ac) (w:World) (h:ag w s n c L) (hn:1≤n) :
 Calls Tryz.prog 147 #[.agg #[.slice s n c,iT m]] w fun r w'=>r=.returned (.string (bd L))∧Bl w w':=by
 obtain ⟨b,d,rfl,_⟩:=h.form hn;have hg:=j' (show 0<L.length by have:=h.length;omega);have:=vw m b d n c L w h _ hg;unfold bd;rw [hg];exact this
theorem pP (m:Int) (s:Option Addr) (n c:Nat) (L:List ac) (w:World) (h:ag w s n c L) (hn:1≤n) :
 Calls Tryz.prog 146 #[.agg #[.slice s n c,iT m]] w fun r w'=>r=.returned (.string (aT L))∧Bl w w':=by
 obtain ⟨b,d,rfl,_⟩:=h.form hn;have hl:=h.length;have hg:=j' (show L.length - 1<L.length by omega);have:=sF m b d n c L w h _ (by rw [← hl];exact hg) hn;unfold aT;rw [hg];exact this
theorem yH (m:Int) (s:Option Addr) (n c:Nat) (L:List ac) (low b:ByteArray) (w:World) (h:ag w s n c L) (hn:1≤n) :
 Calls Tryz.prog 222 #[.agg #[.slice s n c,iT m],.string low,.string b] w fun e w'=>e=.returned (.bool (dX low b (L,m)))∧Bl w w':=by
 obtain ⟨X,E⟩:=aH w.heap.size;obtain ⟨W,B⟩:=aH (w.alloc (.cells #[.slice s n c,iT m] 63));have J:Bl w W:=by rw [B];exact bZ
 have x0:W.cell? ⟨X,0,none⟩=some (.slice s n c):=by rw [B,E];simp
 have x1:W.cell? ⟨X,1,none⟩=some (iT m):=by rw [B,E];simp
 have I:X<W.heap.size:=Cz _ _ x0;have F:CG (Bl w W):=J;have HE:=bO h;obtain ⟨y,f⟩:=aH (bd L);obtain ⟨hi,u⟩:=aH (aT L);have K:CG (∀w',Bl w w'→Calls Tryz.prog 147 #[.agg #[.slice s n c,iT m]] w' fun r x=>r=.returned (.string y)∧Bl w' x):=by rw [f];exact fun w' k=>lc m s n c L w' (h.keep k) hn
 have Y:CG (∀w',Bl w w'→Calls Tryz.prog 146 #[.agg #[.slice s n c,iT m]] w' fun r x=>r=.returned (.string hi)∧Bl w' x):=by rw [u];exact fun w' k=>pP m s n c L w' (h.keep k) hn
 have H:CG (dX low b (L,m)=(fi y b && fi low hi)):=by rw [f,u];rfl
 clear h J f u;go_enter Tryz.func222,Tryz.ntmps222
 go_wp2_with fail
 rw [← B];clear B;refine (K.o _ F.o).mono ?_;rintro e U ⟨rfl,d⟩;have D:CG (Bl w U):=F.o.trans (d.mono F.o.size);have x0:=cell_later d x0;have x1:=cell_later d x1;have I:=l' I d.size;rw [← E];clear d E;cases h1:(Op.bytesLess y.toList b.toList || y.toList == b.toList) with
 | false =>
  have O:CG (fi y b=false):=h1;go_wp2;go_ret;exact ⟨by rw [H.o,O.o];rfl,D.o⟩
 | true =>
  have Z:CG (fi y b=true):=h1;go_wp2_with fail
  refine (Y.o _ D.o).mono ?_;rintro e R ⟨rfl,A⟩;have Q:CG (Bl w R):=D.o.trans (A.mono D.o.size);clear A;go_wp2;go_ret;exact ⟨by rw [H.o,Z.o];simp [fi],Q.o⟩
theorem sH (a:Option Addr) (n c:Nat) (B:List an) (w:World) (h:ay 0 w a n c B) (hn:n≤1048576) :
 Calls Tryz.prog 182 #[.slice a n c] w fun e w'=>e=.returned (.bool (gy B && decide (n≤8)))∧Bl w w':=by
 have W:=bO h;have HL:CG (B.length=n):=h.length;obtain ⟨F,hF⟩:=aH ((gy B && decide (n≤8)));have E:CG (F=(gy B && decide (n≤8))):=hF;rw [← hF];clear h hF;go_enter Tryz.func182,Tryz.ntmps182
 go_wp2;go_loopw [3] (fun H wr=>∃i:Nat,i≤n∧H=iT i∧(∀j r,j<i→B[j]?=some r→r.1.length≤150)∧wr=w) (fun H _=>n - (intOf H).toNat)
 case atStart=>exact ⟨0,C3 _,rfl,(fun j r O _=>absurd O (DP _)),rfl⟩
 case round =>
  obtain ⟨i,Z,rfl,D,rfl⟩:=hrel;have A:CG (∀j r,j<i→B[j]?=some r→r.1.length≤150):=D;clear D;by_cases I:i<n
  · have x:(i:Int)<(n:Int):=by omega
    obtain ⟨b,Y,rfl,a1⟩:=W.o.form (by omega);obtain ⟨L,m,s,len,X,hg,_,c0,_,hE⟩:=W.o.run (Below.refl _ wr) i I;have R:CG (B[i]?=some (L,m)):=hg;have y:CG (L.length=len):=hE.1.length;have hbig:=hE.1.big;have hroom:=hE.1.room;unfold maxLen at hbig;clear hg hE;by_cases Q:150<len
    · have f:(len:Int) > 150:=by omega
      have u:(150:Int)<(len:Int):=by omega
      go_wp2;go_ret;exact ⟨by rw [E.o,AG R.o (by have:=y.o;show 150<L.length;omega)];rfl,Below.refl _ _⟩
    · have f:¬(len:Int) > 150:=by omega
      have u:¬(150:Int)<(len:Int):=by omega
      go_wp2;go_roundw
      case rel =>
       refine ⟨i+1,by omega,by go_num,fun j r O hr=>?_,by first | rfl | trivial⟩;by_cases K:j<i
       · exact A.o j r K hr
       · have:j=i:=by omega
         subst this;rw [R.o] at hr;cases hr;have:=y.o;show L.length≤150
         omega
      case measure=>simp [intOf];omega
  · have x:¬(i:Int)<(n:Int):=by omega
    have d:CG (gy B=true):=zJ HL.o (fun j r O hr=>A.o j r (by omega) hr);by_cases U:n≤8
    · have J:(n:Int)≤8:=by omega
      go_wp2;go_ret;exact ⟨by rw [E.o,d.o,decide_eq_true U];rfl,Below.refl _ _⟩
    · have J:¬(n:Int)≤8:=by omega
      go_wp2;go_ret;exact ⟨by rw [E.o,d.o,decide_eq_false U];rfl,Below.refl _ _⟩
theorem lU (b W n c:Nat) (B:List an) (r0:an) (w:World) (h:ay 0 w (some ⟨b,W,none⟩) n c B) (h0:B[0]?=some r0) (ag:∀r ∈ B,1≤r.1.length) (hn:n≤1048576) :
 Calls Tryz.prog 176 #[sO b W n c] w fun e w'=>e=.returned (.tuple #[.string (fh (bd r0.1) B),.string (cW (aT r0.1) B)])∧Bl w w':=by
 have HB:=bO h;have HL:CG (B.length=n):=h.length;have ai:=bO ag;have ao:1≤n:=by have:=(Cx.1 h0).1;have:=h.length;omega
 have az:(0:Int)<(n:Int):=by omega
 have af:=(h.lies _ rfl (by omega)).1;simp only at af;have ac:CG (∀(i:Nat) (w':World),Bl w w'→i<n→∃L m s len D,B[i]?=some (L,m)∧w'.cell? ⟨b,W+i*2,none⟩=some (.slice s len D)∧w'.cell? ⟨b,W+i*2+1,none⟩=some (iT m)∧b<w'.heap.size ∧
  (∀x,Bl w' x→Calls Tryz.prog 147 #[.agg #[.slice s len D,iT m]] x fun r J=>r=.returned (.string (bd L))∧Bl x J) ∧
  (∀x,Bl w' x→Calls Tryz.prog 146 #[.agg #[.slice s len D,iT m]] x fun r J=>r=.returned (.string (aT L))∧Bl x J)):=fun i w' k hi=>by
  obtain ⟨L,m,s,len,D,hg,_,c0,c1,hE⟩:=HB.o.run k i hi;have hl:1≤len:=by have h1:=ai.o _ (CV hg);have h2:=hE.1.length;simp only at h1;omega
  exact ⟨L,m,s,len,D,hg,c0,c1,l' af k.size,fun x k'=>lc m s len D L x (hE.1.keep k') hl,fun x k'=>pP m s len D L x (hE.1.keep k') hl⟩
 have ab:=bO h0;clear h h0 ag HB;go_enter Tryz.func176,Tryz.ntmps176
 obtain ⟨L,m,s,len,D,hg,c0,c1,hz,CL,CH⟩:=ac.o 0 w (Below.refl _ _) (by omega);rw [ab.o] at hg;cases hg;simp only [EO,DS] at c0 c1;go_wp2_with fail
 refine (CL _ (Below.refl _ _)).mono ?_;rintro e w1 ⟨rfl,y⟩;have X:CG (Bl w w1):=y;have c0:=cell_later y c0;have c1:=cell_later y c1;have hz:=l' hz y.size;clear y;go_wp2_with fail
 refine (CH _ X.o).mono ?_;rintro e w2 ⟨rfl,E⟩;have U:CG (Bl w w2):=X.o.trans (E.mono X.o.size);clear c0 c1 hz E CL CH X;go_wp2;go_loopw [4,5,6] (fun lv hv iv wr=>∃(i:Nat) (Q hi:ByteArray),1≤i∧i≤n∧iv=iT i∧lv=.string Q∧hv=.string hi∧Q=fh (bd L) (B.take i)∧hi=cW (aT L) (B.take i)∧Bl w wr) (fun _ _ iv _=>n - (intOf iv).toNat)
 case atStart =>
  have e1:B.take 1=[(L,m)]:=by rw [Dl,ab.o];simp
  refine ⟨1,bd L,aT L,Cy _,ao,rfl,rfl,rfl,?_,?_,U.o⟩
  · rw [e1];simp [fh,bU]
  · rw [e1];simp [cW,mi]
 case round =>
  obtain ⟨i,Q,hi,aF,aC,rfl,rfl,rfl,a7,ae,hb⟩:=hrel;have a3:CG (Q=fh (bd L) (B.take i)):=a7;have F:CG (hi=cW (aT L) (B.take i)):=ae;have f:CG (Bl w wr):=hb;clear a7 ae U;by_cases am:i<n
  · have ad:(i:Int)<(n:Int):=by omega
    obtain ⟨L',m',s',av,ar,hg,c0,c1,hz,CL,CH⟩:=ac.o i wr hb am;have HG:CG (B[i]?=some (L',m')):=hg;obtain ⟨kl,a1⟩:=aH (bd L');obtain ⟨Z,a2⟩:=aH (aT L');have aa:CG (kl=bd L'):=a1;have H:CG (Z=aT L'):=a2;rw [← a1] at CL;rw [← a2] at CH;have a8:=bO CL;have Y:=bO CH;clear hg hb a1 a2 CL CH;go_wp2_with fail
    refine (a8.o _ (Below.refl _ _)).mono ?_;rintro e w1 ⟨rfl,y⟩;have X:CG (Bl wr w1):=y;have c0:=cell_later y c0;have c1:=cell_later y c1;have hz:=l' hz y.size;clear y;cases h1:Op.bytesLess kl.toList Q.toList with
    | true =>
     have A:CG (kl=fh (bd L) (B.take (i+1))):=by show _=_;rw [qg _ HG.o,← a3.o,← aa.o,h1];rfl
     go_wp2_with fail
     refine (a8.o _ X.o).mono ?_;rintro e w2 ⟨rfl,E⟩;have U:CG (Bl wr w2):=X.o.trans (E.mono X.o.size);have c0:=cell_later E c0;have c1:=cell_later E c1;have hz:=l' hz E.size;clear E;go_wp2_with fail
     refine (Y.o _ U.o).mono ?_;rintro e J ⟨rfl,u⟩;have O:CG (Bl wr J):=U.o.trans (u.mono U.o.size);have c0:=cell_later u c0;have c1:=cell_later u c1;have hz:=l' hz u.size;clear u;cases ha:Op.bytesLess Z.toList hi.toList with
     | true =>
      have d:CG (hi=cW (aT L) (B.take (i+1))):=by show _=_;rw [fF _ HG.o,← F.o,← H.o];simp [mi,ha]
      have R:CG (Bl w J):=f.o.trans (O.o.mono f.o.size);clear c0 c1 hz;go_wp2;go_roundw
      case rel=>exact ⟨i+1,kl,hi,by omega,by omega,by go_num,rfl,rfl,A.o,d.o,R.o⟩
      case measure=>simp [intOf];omega
     | false =>
      cases hb:(Z.toList == hi.toList) with
      | true =>
       have d:CG (hi=cW (aT L) (B.take (i+1))):=by show _=_;rw [fF _ HG.o,← F.o,← H.o];simp [mi,hb]
       have R:CG (Bl w J):=f.o.trans (O.o.mono f.o.size);clear c0 c1 hz;go_wp2;go_roundw
       case rel=>exact ⟨i+1,kl,hi,by omega,by omega,by go_num,rfl,rfl,A.o,d.o,R.o⟩
       case measure=>simp [intOf];omega
      | false =>
       have d:CG (Z=cW (aT L) (B.take (i+1))):=by show _=_;rw [fF _ HG.o,← F.o,← H.o];simp [mi,ha,hb]
       go_wp2_with fail
       refine (Y.o _ O.o).mono ?_;rintro e w4 ⟨rfl,K⟩;have R:CG (Bl w w4):=f.o.trans ((O.o.trans (K.mono O.o.size)).mono f.o.size);clear K c0 c1 hz;go_wp2;go_roundw
       case rel=>exact ⟨i+1,kl,Z,by omega,by omega,by go_num,rfl,rfl,A.o,d.o,R.o⟩
       case measure=>simp [intOf];omega
    | false =>
     have A:CG (Q=fh (bd L) (B.take (i+1))):=by show _=_;rw [qg _ HG.o,← a3.o,← aa.o,h1];rfl
     have U:CG (Bl wr w1):=X.o;go_wp2_with fail
     refine (Y.o _ U.o).mono ?_;rintro e J ⟨rfl,u⟩;have O:CG (Bl wr J):=U.o.trans (u.mono U.o.size);have c0:=cell_later u c0;have c1:=cell_later u c1;have hz:=l' hz u.size;clear u;cases ha:Op.bytesLess Z.toList hi.toList with
     | true =>
      have d:CG (hi=cW (aT L) (B.take (i+1))):=by show _=_;rw [fF _ HG.o,← F.o,← H.o];simp [mi,ha]
      have R:CG (Bl w J):=f.o.trans (O.o.mono f.o.size);clear c0 c1 hz;go_wp2;go_roundw
      case rel=>exact ⟨i+1,Q,hi,by omega,by omega,by go_num,rfl,rfl,A.o,d.o,R.o⟩
      case measure=>simp [intOf];omega
     | false =>
      cases hb:(Z.toList == hi.toList) with
      | true =>
       have d:CG (hi=cW (aT L) (B.take (i+1))):=by show _=_;rw [fF _ HG.o,← F.o,← H.o];simp [mi,hb]
       have R:CG (Bl w J):=f.o.trans (O.o.mono f.o.size);clear c0 c1 hz;go_wp2;go_roundw
       case rel=>exact ⟨i+1,Q,hi,by omega,by omega,by go_num,rfl,rfl,A.o,d.o,R.o⟩
       case measure=>simp [intOf];omega
      | false =>
       have d:CG (Z=cW (aT L) (B.take (i+1))):=by show _=_;rw [fF _ HG.o,← F.o,← H.o];simp [mi,ha,hb]
       go_wp2_with fail
       refine (Y.o _ O.o).mono ?_;rintro e w4 ⟨rfl,K⟩;have R:CG (Bl w w4):=f.o.trans ((O.o.trans (K.mono O.o.size)).mono f.o.size);clear K c0 c1 hz;go_wp2;go_roundw
       case rel=>exact ⟨i+1,Q,Z,by omega,by omega,by go_num,rfl,rfl,A.o,d.o,R.o⟩
       case measure=>simp [intOf];omega
  · have ad:¬(i:Int)<(n:Int):=by omega
    have I:B.take i=B:=C9 (by rw [HL.o];omega);have h1:=a3.o;have h2:=F.o;rw [I] at h1 h2;have H1:CG (Q=fh (bd L) B):=h1;have H2:CG (hi=cW (aT L) B):=h2;clear h1 h2 I;go_wp2;exact bodyPost_ret (v:=.tuple #[.string Q,.string hi]) (by simp [results,Tryz.results176,go_sem]) rfl ⟨by rw [H1.o,H2.o],f.o⟩
theorem Tryz.infoRun:(Tryz.prog.info? 63).map (fun i=>(i.zero,i.size,i.bytes))=some (some (.agg #[nZ,iT 0]),2,32):=by kernel_rfl
theorem Tryz.infoRunL:(Tryz.prog.info? 61).map (fun i=>(i.zero,i.size,i.bytes))=some (some nZ,1,24):=by kernel_rfl
theorem cQ {base n b K:Nat} {T:TypeId} {xs:List Value} (h:w.ownsRow base T K (sL g n b) n xs):n≤b∧b≤maxLen:=by
 rcases h.2 with ⟨d,_⟩ | ⟨u,o,s,d,_,_,m,f,_,_⟩
 · simp at d
 · simp only [Value.slice.injEq,Er,Addr.mk.injEq,and_true,true_and] at d;obtain ⟨rfl,rfl⟩:=d;exact ⟨m,f⟩
def au (w:World) (g t sz:Nat):Prop:=∃cur:Array Value,w.heap[g]?=some (.cells cur t (0,0))∧cur.size=sz
theorem au.lt (h:au w g t sz):g<w.heap.size:=by
 obtain ⟨b,h,_⟩:=h;exact (DM.1 h).1
theorem au.cell (h:au w g t sz) {o:Nat} (ho:o<sz):∃v,w.cell? ⟨g,o,none⟩=some v:=by
 obtain ⟨b,h,hs⟩:=h;exact ⟨b[o]'(by omega),by simp [World.cell?,h,Array.getElem?_eq_getElem (show o<b.size by omega)]⟩
theorem au.frozen (h:au w g t sz) (o:Nat):w.frozen? ⟨g,o,none⟩=false:=by
 obtain ⟨b,h,hs⟩:=h;simp [World.frozen?,h]
theorem au.setCell (h:au w g t sz) {b o:Nat} (v:Value) (_:True:=trivial):au (w.setCell ⟨b,o,none⟩ v) g t sz:=by
 obtain ⟨d,h,hs⟩:=h;by_cases e:g=b
 · subst e;exact ⟨_,heap_setCell_same w g o d t v h,by simp [hs]⟩
 · exact ⟨d,(Below.heap_setCell _ _ _ _ e).trans h,hs⟩
theorem au.below {w':World} (h:au w g t sz) (hb:Bl w w'):au w' g t sz:=by
 obtain ⟨b,d,hs⟩:=h;exact ⟨b,(hb.block g (DM.1 d).1).trans d,hs⟩
theorem au.kind {t' b:Nat} (h:au w g t sz) (f:au w g t' b):t=t':=by
 obtain ⟨m,h1,_⟩:=h;obtain ⟨d,h2,_⟩:=f;rw [h1] at h2;cases h2;rfl
end Go.Proofs.YtpobkmjicbobdaaGreat
