/- Walks. -/
import Derived.Test.YtpobkmjicbobdaaGreatBn12
import Derived.Laws.Cover1
namespace Go.Proofs.YtpobkmjicbobdaaGreat
set_option maxRecDepth 100000
set_option maxHeartbeats 40000000
open Go.RowKit
variable {C N T:List ag} {G base cap g j k n sz t:Nat} {L:List ac} {S:List Int} {r:ag} {w w':World} {xs:List Value}
def ig (T:List ag):ByteArray:=match T[0]? with | some r=>fb (bj r.1) T | none=>⟨#[]⟩
def eZ (T:List ag):ByteArray:=match T[0]? with | some r=>dc (aT r.1) T | none=>⟨#[]⟩
def Av (T N:List ag):List ag:=N.filter (dW (ig T) (eZ T))
def offR (T N:List ag):List ag:=N.filter (fun r=>!dW (ig T) (eZ T) r)
def dx (T N:List ag):List ag:=T++Av T N
def jK (T N C:List ag) (nx:Int):Bool:=decide (nx=2) || decide ((C.filter (dW (ig (dx T N)) (eZ (dx T N)))).length=0)
def ss (T N C:List ag) (S:List Int) (nx:Int):List ac:=bI (bk (bn (dx T N)).flatten) S (jK T N C nx)
def du (L:List ac):List ag:=(eP L L.length).1
def d4 (T N C:List ag) (S:List Int) (nx:Int):List ag:=dq (offR T N) (du (ss T N C S nx))
def uy (T N C:List ag) (S:List Int) (nx:Int):Bool:=gy (d4 T N C S nx) && decide ((d4 T N C S nx).length≤8)
theorem eY {a b:ByteArray} (h:Op.bytesLess a.toList b.toList=true):fc a b=true:=by unfold fc;rw [h];rfl
theorem eE (h:aR L=true):lF L:=by
 have:=(bJ L).1;rwa [i8 (fT h) this (bJ L).2.symm]
theorem iw (h:aR L=true) (h1:1≤L.length):fc (bj L) (aT L)=true:=by
 obtain ⟨e,he,e1⟩:=jV h1;rw [e1];exact (dY (eE h) he).2
theorem vn {k1 k2:ByteArray} {i:Nat} (h:jL N k1 k2 i j) (hle:fc k1 k2=true) (hok:∀r ∈ N,aR r.1=true∧1≤r.1.length):i≤j:=by
 apply Classical.byContradiction;intro hc;have hj:j<N.length:=by have:=h.1;omega
 have hr:=List.getElem?_eq_getElem hj;obtain ⟨a,_,_,d⟩:=h.2.2 j _ hr;have a:=a (by omega);have d:=d (Nat.le_refl _);have hn:=hok _ (List.mem_of_getElem? hr);have h1:=cG (cG hle (eY d)) (iw hn.1 hn.2);rw [dt,a] at h1;cases h1
theorem rj (h0:1≤T.length) (hok:∀r ∈ T,aR r.1=true∧1≤r.1.length):bj (bk (bn T).flatten)=ig T∧aT (bk (bn T).flatten)=eZ T:=by
 have hr:=List.getElem?_eq_getElem (l:=T) (i:=0) (by omega);have:=us (List.mem_of_getElem? hr) hok rfl;unfold ig eZ;rw [hr];exact this
theorem zD (h0:1≤T.length) (hok:∀r ∈ T,aR r.1=true∧1≤r.1.length):1≤(bk (bn T).flatten).length:=by
 rw [jq];match T,h0,hok with
 | r :: T,_,hok =>
  have:=(hok r (by simp)).2;simp [bn];omega
theorem mK (h0:1≤T.length) (hok:∀r ∈ T,aR r.1=true∧1≤r.1.length):fc (ig T) (eZ T)=true:=by
 obtain ⟨h1,h2⟩:=rj h0 hok;rw [← h1,← h2];obtain ⟨e,he,e1⟩:=jV (zD h0 hok);rw [e1];exact (dY (bJ _).1 he).2
structure fK (T N:List ag):Prop where
 t0:1≤T.length
 tok:∀r ∈ T,aR r.1=true∧1≤r.1.length
 nok:∀r ∈ N,aR r.1=true∧1≤r.1.length
 ap:bD N=true
 un:fu ((bn T).flatten++(bn N).flatten)
theorem jW (T N:List ag):(Av T N).Sublist N:=List.filter_sublist
theorem mf (A B:List ag):(bn (A++B)).flatten=(bn A).flatten++(bn B).flatten:=by simp [bn]
theorem fK.all (h:fK T N):∀r ∈ dx T N,aR r.1=true∧1≤r.1.length:=fun r hr=>by
 rcases List.mem_append.1 hr with h1 | h1
 · exact h.tok r h1
 · exact h.nok r ((jW T N).subset h1)
theorem fK.all0 (h:fK T N):1≤(dx T N).length:=by
 have:=h.t0;unfold dx;rw [List.length_append];omega
theorem mo {A B:List (List ac)} (h:A.Sublist B):A.flatten.Sublist B.flatten:=by
 induction h with
 | slnil=>exact List.Sublist.refl _
 | cons a _ ih=>rw [List.flatten_cons];exact ih.trans (List.sublist_append_right _ _)
 | cons_cons a _ ih=>rw [List.flatten_cons,List.flatten_cons];exact List.Sublist.append (List.Sublist.refl _) ih
theorem fK.unAll (h:fK T N):fu (bn (dx T N)).flatten:=by
 unfold dx;rw [mf];refine List.Pairwise.sublist ?_ h.un;exact List.Sublist.append (List.Sublist.refl _) (mo ((jW T N).map _))
theorem uD (hok:∀r ∈ T,aR r.1=true∧1≤r.1.length):∀e ∈ (bn T).flatten,cX e.1 e.2.1 e.2.2.1 e.2.2.2.1 e.2.2.2.2=true:=fun e he=>by
 obtain ⟨L,hL,h1⟩:=List.mem_flatten.1 he
 obtain ⟨r,hr,rfl⟩:=List.mem_map.1 hL
 obtain ⟨j,hj⟩:=List.getElem?_of_mem h1
 exact fX (hok r hr).1 hj
theorem fK.right (h:fK T N):aR (bk (bn (dx T N)).flatten)=true:=by
 obtain ⟨h1,h2⟩:=bJ (bn (dx T N)).flatten;exact fM (lP h1 (gJ h.unAll h2.symm)) (fun e he=>uD h.all e (h2.subset he))
theorem fK.cut (h:fK T N) {i j:Nat} (hm:jL N (ig T) (eZ T) i j):i≤j∧Av T N=(N.drop i).take (j - i)∧offR T N=N.take i++N.drop j:=by
 have hij:=vn hm (mK h.t0 h.tok) h.nok;exact ⟨hij,mJ hm hij⟩
theorem fK.merged (h:fK T N) {i j:Nat} (hm:jL N (ig T) (eZ T) i j):bk (bn ((N.drop i).take (j - i))++[bk (bn T).flatten]).flatten=bk (bn (dx T N)).flatten:=by
 refine (mE h.unAll ?_).symm;rw [← (h.cut hm).2.1];unfold dx;rw [mf,List.flatten_append];simp only [List.flatten_cons,List.flatten_nil,List.append_nil];exact List.perm_append_comm.trans (List.Perm.append_left _ (bJ _).2.symm)
theorem fK.bare (h:fK T N) (hC:∀r ∈ C,aR r.1=true∧1≤r.1.length) {i j:Nat} (hm:jL C (ig (dx T N)) (eZ (dx T N)) i j) (nx:Int):(decide (nx=2) || decide (i=j))=jK T N C nx:=by
 have hij:=vn hm (mK h.all0 h.all) hC;have hf:=(mJ hm hij).1;unfold jK;rw [hf,List.length_take,List.length_drop];have:=hm.1;have:=hm.2.1;congr 1
 rw [decide_eq_decide];omega
theorem lO (h:lF L) {a c:Nat} (hac:a≤c) (hc:c<L.length):fc (ii L a) (ii L c)=true:=by
 rw [jz (List.getElem?_eq_getElem (show a<L.length by omega)),jz (List.getElem?_eq_getElem hc)];by_cases e:a=c
 · subst e;exact eG _
 · exact nH ((List.pairwise_iff_getElem.1 h) a c (by omega) hc (by omega))
theorem l9 {a b:Nat} (hab:a<b):bj (em L a b).1=ii L a:=by
 have h:(em L a b).1[0]?=L[a]?:=by
  show ((L.drop a).take (b - a))[0]?=_
  rw [List.getElem?_take_of_lt (by omega),List.getElem?_drop,Nat.add_zero]
 unfold bj ii;rw [h];cases L[a]? <;> rfl
theorem qp {a b:Nat} (hb:b≤L.length):(em L a b).1.length=b - a:=by
 show ((L.drop a).take (b - a)).length=_
 rw [List.length_take,List.length_drop];omega
theorem jY (L:List ac):∀k,k≤L.length→(eP L k).2≤k∧(∀r ∈ (eP L k).1,∃a b,a<b∧b≤(eP L k).2∧r=em L a b)∧(eP L k).1.Pairwise (fun r s=>∃a b c d,a<b∧b≤c∧c<d∧d≤L.length∧r=em L a b∧s=em L c d)
 | 0,_=>⟨Nat.le_refl _,(fun r h=>by cases h),List.Pairwise.nil⟩
 | k+1,hk=>by
  obtain ⟨h1,h2,h3⟩:=jY L k (by omega)
  obtain ⟨B,f,hB⟩:∃B f,eP L k=(B,f):=⟨_,_,rfl⟩
  rw [hB] at h1 h2 h3
  simp only at h1 h2 h3
  cases hc:fP L f (k+1) with
  | false=>rw [rO hB hc];exact ⟨by omega,h2,h3⟩
  | true =>
   rw [po hB hc]
   refine ⟨Nat.le_refl _,fun r hr=>?_,?_⟩
   · rcases List.mem_append.1 hr with h | h
     · obtain ⟨a,b,x1,x2,x3⟩:=h2 r h
       exact ⟨a,b,x1,by show b≤k+1;omega,x3⟩
     · rw [List.mem_singleton] at h
       exact ⟨f,k+1,by omega,Nat.le_refl _,h⟩
   · rw [List.pairwise_append]
     refine ⟨h3,List.pairwise_singleton _ _,fun r hr s hs=>?_⟩
     rw [List.mem_singleton] at hs
     obtain ⟨a,b,x1,x2,x3⟩:=h2 r hr
     exact ⟨a,b,f,k+1,x1,x2,by omega,hk,x3,hs⟩
theorem rK (h:r ∈ du L):∃a b,a<b∧b≤L.length∧r=em L a b:=by
 obtain ⟨h1,h2,_⟩:=jY L L.length (Nat.le_refl _);obtain ⟨a,b,x1,x2,x3⟩:=h2 r h;exact ⟨a,b,x1,by omega,x3⟩
theorem ms (h:r ∈ du L):1≤r.1.length:=by
 obtain ⟨a,b,x1,x2,rfl⟩:=rK h;rw [qp x2];omega
theorem rJ (h:r ∈ du L):∀e ∈ r.1,e ∈ L:=by
 obtain ⟨a,b,x1,x2,rfl⟩:=rK h;intro e he;exact List.mem_of_mem_drop (List.mem_of_mem_take he)
theorem vD (h:r ∈ du L):∃e ∈ L,bj r.1=e.1:=by
 obtain ⟨e,he,e1⟩:=jV (ms h);exact ⟨e,rJ h e he,e1⟩
theorem zM (hw:lF L):(du L).Pairwise (fun a b=>mn (bj a.1) (bj b.1)=false):=by
 refine (jY L L.length (Nat.le_refl _)).2.2.imp ?_;rintro r s ⟨a,b,c,d,h1,h2,h3,h4,rfl,rfl⟩;rw [l9 h1,l9 h3,rt];have:=lO hw (a:=a) (c:=c) (by omega) (by omega);rw [dt] at this;simpa using this
theorem uc {b:Bool} {e:ac} (h:e ∈ bI L S b):∃x ∈ L,x.1=e.1:=by
 unfold bI at h;split at h
 · have hs:=o9 S b (Sq.parts eR L);rw [Sq.parts_flat] at hs;obtain ⟨x,hx,e1⟩:=List.mem_map.1 (hs.subset (List.mem_map.2 ⟨e,h,rfl⟩));exact ⟨x,hx,congrArg (fun p:ByteArray × Int=>p.1) e1⟩
 · cases h
theorem eI {N:List ag} (h:bD N=true) (hok:∀r ∈ N,aR r.1=true∧1≤r.1.length):∀d a,a+(d+1)<N.length→∀x y,N[a]?=some x→N[a+(d+1)]?=some y→Op.bytesLess (aT x.1).toList (bj y.1).toList=true
 | 0,a,hl,x,y,hx,hy=>by
  have h1:=(List.all_eq_true.1 h) (a+1) (List.mem_range.2 (by omega))
  rw [jD hy (by omega) (by simpa using hx)] at h1
  exact h1
 | d+1,a,hl,x,y,hx,hy=>by
  have hz:=List.getElem?_eq_getElem (l:=N) (i:=a+(d+1)) (by omega)
  have ih:=eI h hok d a (by omega) x _ hx hz
  have h1:=(List.all_eq_true.1 h) (a+(d+1+1)) (List.mem_range.2 (by omega))
  rw [jD hy (by omega) (by rw [show a+(d+1+1) - 1=a+(d+1) by omega];exact hz)] at h1
  have hzz:=hok _ (List.mem_of_getElem? hz)
  have hlh:=iw hzz.1 hzz.2
  have e1:fc (aT x.1) (bj y.1)=true:=cG (cG (eY ih) hlh) (eY h1)
  cases hg:Op.bytesLess (aT x.1).toList (bj y.1).toList with
  | true=>rfl
  | false =>
   have e2:fc (bj y.1) (aT x.1)=true:=by rw [dt,hg];rfl
   have e3:=cG e2 (cG (eY ih) hlh)
   rw [dt] at e3
   have h1':Op.bytesLess (aT (N[a+(d+1)]'(by omega)).1).toList (bj y.1).toList=true:=h1
   rw [h1'] at e3
   cases e3
theorem gh {a b c:ByteArray} (h1:fc a b=true) (h2:Op.bytesLess b.toList c.toList=true):Op.bytesLess a.toList c.toList=true:=by
 cases hg:Op.bytesLess a.toList c.toList with
 | true=>rfl
 | false =>
  have e2:fc c a=true:=by rw [dt,hg];rfl
  have e3:=cG e2 h1;rw [dt,h2] at e3;cases e3
theorem q9 {nx:Int} {e:ac} (h:e ∈ ss T N C S nx):∃r ∈ dx T N,∃x ∈ r.1,x.1=e.1:=by
 obtain ⟨x,hx,e1⟩:=uc h;have hx:=(bJ _).2.subset hx;obtain ⟨L,hL,h1⟩:=List.mem_flatten.1 hx;obtain ⟨r,hr,rfl⟩:=List.mem_map.1 hL;exact ⟨r,hr,x,h1,e1⟩
theorem fK.runs (h:fK T N) (C:List ag) (S:List Int) (nx:Int) {i j:Nat} (hm:jL N (ig T) (eZ T) i j):d4 T N C S nx=N.take i++du (ss T N C S nx)++N.drop j:=by
 obtain ⟨hij,hin,hoff⟩:=h.cut hm;have hLH:=rj h.t0 h.tok;have hw:lF (ss T N C S nx):=eE (ix h.right S _);have hT:∀r ∈ T,∀x ∈ r.1,fc (ig T) x.1=true∧fc x.1 (eZ T)=true:=fun r hr x hx=>by
  have:=dY (bJ (bn T).flatten).1 (e:=x) ((bJ _).2.symm.subset (List.mem_flatten.2 ⟨r.1,List.mem_map.2 ⟨r,hr,rfl⟩,hx⟩));rwa [hLH.1,hLH.2] at this
 have hN:∀r ∈ Av T N,∃t,i≤t∧t<j∧N[t]?=some r:=fun r hr=>by
  rw [hin] at hr;obtain ⟨t,ht⟩:=List.getElem?_of_mem hr;have hl:=(List.getElem?_eq_some_iff.1 ht).1;rw [List.length_take,List.length_drop] at hl;rw [List.getElem?_take_of_lt (by omega),List.getElem?_drop] at ht;exact ⟨i+t,by omega,by omega,ht⟩
 unfold d4;rw [hoff];refine oq _ _ _ (fun r hr z hz=>?_) (fun x hx r hr=>?_) (zM hw)
 · obtain ⟨e,he,e1⟩:=vD hr;obtain ⟨r',hr',x,hx,e2⟩:=q9 he;rw [rt,e1,← e2];obtain ⟨u,hu⟩:=List.getElem?_of_mem hz;rw [List.getElem?_drop] at hu;have hul:=(List.getElem?_eq_some_iff.1 hu).1;rcases List.mem_append.1 hr' with h1 | h1
   · exact gh (hT r' h1 x hx).2 ((hm.2.2 _ _ hu).2.2.2 (by omega))
   · obtain ⟨t,t1,t2,t3⟩:=hN r' h1;have hok:=h.nok _ (List.mem_of_getElem? t3);have:=eI h.ap h.nok (j+u - t - 1) t (by omega) r' z t3 (by rw [show t+(j+u - t - 1+1)=j+u by omega];exact hu);exact gh (dY (eE hok.1) hx).2 this
 · obtain ⟨e,he,e1⟩:=vD hr;obtain ⟨r',hr',y,hy,e2⟩:=q9 he;obtain ⟨u,hu⟩:=List.getElem?_of_mem (List.mem_of_getLast? hx);have hul:=(List.getElem?_eq_some_iff.1 hu).1;rw [List.length_take] at hul;rw [List.getElem?_take_of_lt (by omega)] at hu;have hokx:=h.nok _ (List.mem_of_getElem? hu);have hxl:=iw hokx.1 hokx.2;have hfin:fc (bj x.1) y.1=true:=by
    rcases List.mem_append.1 hr' with h1 | h1
    · exact cG (cG hxl (eY ((hm.2.2 _ _ hu).1 (by omega)))) (hT r' h1 y hy).1
    · obtain ⟨t,t1,t2,t3⟩:=hN r' h1;have hok:=h.nok _ (List.mem_of_getElem? t3);have htl:=(List.getElem?_eq_some_iff.1 t3).1;have:=eI h.ap h.nok (t - u - 1) u (by omega) x r' hu (by rw [show u+(t - u - 1+1)=t by omega];exact t3);exact cG (cG hxl (eY this)) (dY (eE hok.1) hy).1
   rw [rt,e1,← e2];rw [dt] at hfin;simpa using hfin
theorem fK.fits (h:fK T N) (hN:∀r ∈ N,r.1.length≤150) (C:List ag) (S:List Int) (nx:Int) {i j:Nat} (hm:jL N (ig T) (eZ T) i j):gy (d4 T N C S nx)=gy (du (ss T N C S nx)):=by
 rw [h.runs C S nx hm];unfold gy;rw [List.all_append,List.all_append];have h1:(N.take i).all (fun r=>decide (r.1.length≤150))=true:=List.all_eq_true.2 fun r hr=>decide_eq_true (hN r (List.mem_of_mem_take hr))
 have h2:(N.drop j).all (fun r=>decide (r.1.length≤150))=true:=List.all_eq_true.2 fun r hr=>decide_eq_true (hN r (List.mem_of_mem_drop hr))
 rw [h1,h2];simp
theorem kM (m:Int) (s:Option Addr) (n c:Nat) (L:List ac) (w:World) (h:aj w s n c L) (hn:1≤n) :
 Calls Tryz.prog 147 #[.agg #[.slice s n c,iT m]] w fun r w'=>r=.returned (.string (bj L))∧Bl w w':=by
 obtain ⟨b,off,rfl,_⟩:=h.form hn;have hg:=List.getElem?_eq_getElem (show 0<L.length by have:=h.length;omega);have:=vi m b off n c L w h _ hg;unfold bj;rw [hg];exact this
theorem qd (m:Int) (s:Option Addr) (n c:Nat) (L:List ac) (w:World) (h:aj w s n c L) (hn:1≤n) :
 Calls Tryz.prog 146 #[.agg #[.slice s n c,iT m]] w fun r w'=>r=.returned (.string (aT L))∧Bl w w':=by
 obtain ⟨b,off,rfl,_⟩:=h.form hn;have hl:=h.length;have hg:=List.getElem?_eq_getElem (show L.length - 1<L.length by omega);have:=sD m b off n c L w h _ (by rw [← hl];exact hg) hn;unfold aT;rw [hg];exact this
theorem yA (m:Int) (s:Option Addr) (n c:Nat) (L:List ac) (low high:ByteArray) (w:World) (h:aj w s n c L) (hn:1≤n) :
 Calls Tryz.prog 222 #[.agg #[.slice s n c,iT m],.string low,.string high] w fun e w'=>e=.returned (.bool (dW low high (L,m)))∧Bl w w':=by
 obtain ⟨X,hX⟩:=aS w.heap.size;obtain ⟨W,hW⟩:=aS (w.alloc (.cells #[.slice s n c,iT m] 63));have kW:Bl w W:=by rw [hW];exact bZ
 have x0:W.cell? ⟨X,0,none⟩=some (.slice s n c):=by rw [hW,hX];simp
 have x1:W.cell? ⟨X,1,none⟩=some (iT m):=by rw [hW,hX];simp
 have xz:X<W.heap.size:=World.block_lt_of_cell? _ _ x0;have K0:Hid (Bl w W):=kW;have HE:=b6 h;obtain ⟨lo,hlo⟩:=aS (bj L);obtain ⟨hi,hhi⟩:=aS (aT L);have CL:Hid (∀w',Bl w w'→Calls Tryz.prog 147 #[.agg #[.slice s n c,iT m]] w' fun r w''=>r=.returned (.string lo)∧Bl w' w''):=by rw [hlo];exact fun w' k=>kM m s n c L w' (h.keep k) hn
 have CH:Hid (∀w',Bl w w'→Calls Tryz.prog 146 #[.agg #[.slice s n c,iT m]] w' fun r w''=>r=.returned (.string hi)∧Bl w' w''):=by rw [hhi];exact fun w' k=>qd m s n c L w' (h.keep k) hn
 have HM:Hid (dW low high (L,m)=(fc lo high && fc low hi)):=by rw [hlo,hhi];rfl
 clear h kW hlo hhi;go_enter Tryz.func222,Tryz.ntmps222
 go_wp2_with fail
 rw [← hW];clear hW;refine (CL.out _ K0.out).mono ?_;rintro e w1 ⟨rfl,hb1⟩;have K1:Hid (Bl w w1):=K0.out.trans (hb1.mono K0.out.size);have x0:=cell_later hb1 x0;have x1:=cell_later hb1 x1;have xz:=Nat.lt_of_lt_of_le xz hb1.size;rw [← hX];clear hb1 hX;cases h1:(Op.bytesLess lo.toList high.toList || lo.toList == high.toList) with
 | false =>
  have HF:Hid (fc lo high=false):=h1;go_wp2;go_ret;exact ⟨by rw [HM.out,HF.out];rfl,K1.out⟩
 | true =>
  have HT:Hid (fc lo high=true):=h1;go_wp2_with fail
  refine (CH.out _ K1.out).mono ?_;rintro e w2 ⟨rfl,hb2⟩;have K2:Hid (Bl w w2):=K1.out.trans (hb2.mono K1.out.size);clear hb2;go_wp2;go_ret;exact ⟨by rw [HM.out,HT.out];simp [fc],K2.out⟩
theorem sE (a:Option Addr) (n c:Nat) (B:List ag) (w:World) (h:az 0 w a n c B) (hn:n≤1048576) :
 Calls Tryz.prog 182 #[.slice a n c] w fun e w'=>e=.returned (.bool (gy B && decide (n≤8)))∧Bl w w':=by
 have HB:=b6 h;have HL:Hid (B.length=n):=h.length;obtain ⟨F,hF⟩:=aS ((gy B && decide (n≤8)));have HF:Hid (F=(gy B && decide (n≤8))):=hF;rw [← hF];clear h hF;go_enter Tryz.func182,Tryz.ntmps182
 go_wp2;go_loopw [3] (fun iv wr=>∃i:Nat,i≤n∧iv=iT i∧(∀j r,j<i→B[j]?=some r→r.1.length≤150)∧wr=w) (fun iv _=>n - (intOf iv).toNat)
 case atStart=>exact ⟨0,Nat.zero_le _,rfl,(fun j r hj _=>absurd hj (Nat.not_lt_zero _)),rfl⟩
 case round =>
  obtain ⟨i,hin,rfl,hok,rfl⟩:=hrel;have HOK:Hid (∀j r,j<i→B[j]?=some r→r.1.length≤150):=hok;clear hok;by_cases hlt:i<n
  · have hltI:(i:Int)<(n:Int):=by omega
    obtain ⟨b,off,rfl,hbb⟩:=HB.out.form (by omega);obtain ⟨L,m,s,len,cap,hg,_,c0,_,hE⟩:=HB.out.run (Below.refl _ wr) i hlt;have HG:Hid (B[i]?=some (L,m)):=hg;have HLL:Hid (L.length=len):=hE.1.length;have hbig:=hE.1.big;have hroom:=hE.1.room;unfold maxLen at hbig;clear hg hE;by_cases h150:150<len
    · have h150I:(len:Int) > 150:=by omega
      have h150J:(150:Int)<(len:Int):=by omega
      go_wp2;go_ret;exact ⟨by rw [HF.out,AA HG.out (by have:=HLL.out;show 150<L.length;omega)];rfl,Below.refl _ _⟩
    · have h150I:¬(len:Int) > 150:=by omega
      have h150J:¬(150:Int)<(len:Int):=by omega
      go_wp2;go_roundw
      case rel =>
       refine ⟨i+1,by omega,by go_num,fun j r hj hr=>?_,by first | rfl | trivial⟩;by_cases hji:j<i
       · exact HOK.out j r hji hr
       · have:j=i:=by omega
         subst this;rw [HG.out] at hr;cases hr;have:=HLL.out;show L.length≤150
         omega
      case measure=>simp [intOf];omega
  · have hltI:¬(i:Int)<(n:Int):=by omega
    have HYES:Hid (gy B=true):=zF HL.out (fun j r hj hr=>HOK.out j r (by omega) hr);by_cases h8:n≤8
    · have h8I:(n:Int)≤8:=by omega
      go_wp2;go_ret;exact ⟨by rw [HF.out,HYES.out,decide_eq_true h8];rfl,Below.refl _ _⟩
    · have h8I:¬(n:Int)≤8:=by omega
      go_wp2;go_ret;exact ⟨by rw [HF.out,HYES.out,decide_eq_false h8];rfl,Below.refl _ _⟩
theorem lS (b off n c:Nat) (B:List ag) (r0:ag) (w:World) (h:az 0 w (some ⟨b,off,none⟩) n c B) (h0:B[0]?=some r0) (hne:∀r ∈ B,1≤r.1.length) (hn:n≤1048576) :
 Calls Tryz.prog 176 #[sO b off n c] w fun e w'=>e=.returned (.tuple #[.string (fb (bj r0.1) B),.string (dc (aT r0.1) B)])∧Bl w w':=by
 have HB:=b6 h;have HL:Hid (B.length=n):=h.length;have HNE:=b6 hne;have hn1:1≤n:=by have:=(List.getElem?_eq_some_iff.1 h0).1;have:=h.length;omega
 have hnI:(0:Int)<(n:Int):=by omega
 have hbb:=(h.lies _ rfl (by omega)).1;simp only at hbb;have CLH:Hid (∀(i:Nat) (w':World),Bl w w'→i<n→∃L m s len cap,B[i]?=some (L,m)∧w'.cell? ⟨b,off+i*2,none⟩=some (.slice s len cap)∧w'.cell? ⟨b,off+i*2+1,none⟩=some (iT m)∧b<w'.heap.size ∧
  (∀w'',Bl w' w''→Calls Tryz.prog 147 #[.agg #[.slice s len cap,iT m]] w'' fun r w3=>r=.returned (.string (bj L))∧Bl w'' w3) ∧
  (∀w'',Bl w' w''→Calls Tryz.prog 146 #[.agg #[.slice s len cap,iT m]] w'' fun r w3=>r=.returned (.string (aT L))∧Bl w'' w3)):=fun i w' k hi=>by
  obtain ⟨L,m,s,len,cap,hg,_,c0,c1,hE⟩:=HB.out.run k i hi;have hl:1≤len:=by have h1:=HNE.out _ (List.mem_of_getElem? hg);have h2:=hE.1.length;simp only at h1;omega
  exact ⟨L,m,s,len,cap,hg,c0,c1,Nat.lt_of_lt_of_le hbb k.size,fun w'' k'=>kM m s len cap L w'' (hE.1.keep k') hl,fun w'' k'=>qd m s len cap L w'' (hE.1.keep k') hl⟩
 have HE0:=b6 h0;clear h h0 hne HB;go_enter Tryz.func176,Tryz.ntmps176
 obtain ⟨L,m,s,len,cap,hg,c0,c1,hz,CL,CH⟩:=CLH.out 0 w (Below.refl _ _) (by omega);rw [HE0.out] at hg;cases hg;simp only [Nat.zero_mul,Nat.add_zero] at c0 c1;go_wp2_with fail
 refine (CL _ (Below.refl _ _)).mono ?_;rintro e w1 ⟨rfl,hb1⟩;have K1:Hid (Bl w w1):=hb1;have c0:=cell_later hb1 c0;have c1:=cell_later hb1 c1;have hz:=Nat.lt_of_lt_of_le hz hb1.size;clear hb1;go_wp2_with fail
 refine (CH _ K1.out).mono ?_;rintro e w2 ⟨rfl,hb2⟩;have K2:Hid (Bl w w2):=K1.out.trans (hb2.mono K1.out.size);clear c0 c1 hz hb2 CL CH K1;go_wp2;go_loopw [4,5,6] (fun lv hv iv wr=>∃(i:Nat) (lo hi:ByteArray),1≤i∧i≤n∧iv=iT i∧lv=.string lo∧hv=.string hi∧lo=fb (bj L) (B.take i)∧hi=dc (aT L) (B.take i)∧Bl w wr) (fun _ _ iv _=>n - (intOf iv).toNat)
 case atStart =>
  have e1:B.take 1=[(L,m)]:=by rw [List.take_add_one,HE0.out];simp
  refine ⟨1,bj L,aT L,Nat.le_refl _,hn1,rfl,rfl,rfl,?_,?_,K2.out⟩
  · rw [e1];simp [fb,dG]
  · rw [e1];simp [dc,mn]
 case round =>
  obtain ⟨i,lo,hi,hi1,hin,rfl,rfl,rfl,hlo,hhi,hb⟩:=hrel;have HLO:Hid (lo=fb (bj L) (B.take i)):=hlo;have HHI:Hid (hi=dc (aT L) (B.take i)):=hhi;have HB1:Hid (Bl w wr):=hb;clear hlo hhi K2;by_cases hlt:i<n
  · have hltI:(i:Int)<(n:Int):=by omega
    obtain ⟨L',m',s',len',cap',hg,c0,c1,hz,CL,CH⟩:=CLH.out i wr hb hlt;have HG:Hid (B[i]?=some (L',m')):=hg;obtain ⟨kl,hkl⟩:=aS (bj L');obtain ⟨kh,hkh⟩:=aS (aT L');have HKL:Hid (kl=bj L'):=hkl;have HKH:Hid (kh=aT L'):=hkh;rw [← hkl] at CL;rw [← hkh] at CH;have CL':=b6 CL;have CH':=b6 CH;clear hg hb hkl hkh CL CH;go_wp2_with fail
    refine (CL'.out _ (Below.refl _ _)).mono ?_;rintro e w1 ⟨rfl,hb1⟩;have K1:Hid (Bl wr w1):=hb1;have c0:=cell_later hb1 c0;have c1:=cell_later hb1 c1;have hz:=Nat.lt_of_lt_of_le hz hb1.size;clear hb1;cases h1:Op.bytesLess kl.toList lo.toList with
    | true =>
     have HLO2:Hid (kl=fb (bj L) (B.take (i+1))):=by show _=_;rw [qu _ HG.out,← HLO.out,← HKL.out,h1];rfl
     go_wp2_with fail
     refine (CL'.out _ K1.out).mono ?_;rintro e w2 ⟨rfl,hb2⟩;have K2:Hid (Bl wr w2):=K1.out.trans (hb2.mono K1.out.size);have c0:=cell_later hb2 c0;have c1:=cell_later hb2 c1;have hz:=Nat.lt_of_lt_of_le hz hb2.size;clear hb2;go_wp2_with fail
     refine (CH'.out _ K2.out).mono ?_;rintro e w3 ⟨rfl,hb3⟩;have K3:Hid (Bl wr w3):=K2.out.trans (hb3.mono K2.out.size);have c0:=cell_later hb3 c0;have c1:=cell_later hb3 c1;have hz:=Nat.lt_of_lt_of_le hz hb3.size;clear hb3;cases ha:Op.bytesLess kh.toList hi.toList with
     | true =>
      have HHI2:Hid (hi=dc (aT L) (B.take (i+1))):=by show _=_;rw [fq _ HG.out,← HHI.out,← HKH.out];simp [mn,ha]
      have K4:Hid (Bl w w3):=HB1.out.trans (K3.out.mono HB1.out.size);clear c0 c1 hz;go_wp2;go_roundw
      case rel=>exact ⟨i+1,kl,hi,by omega,by omega,by go_num,rfl,rfl,HLO2.out,HHI2.out,K4.out⟩
      case measure=>simp [intOf];omega
     | false =>
      cases hb:(kh.toList == hi.toList) with
      | true =>
       have HHI2:Hid (hi=dc (aT L) (B.take (i+1))):=by show _=_;rw [fq _ HG.out,← HHI.out,← HKH.out];simp [mn,hb]
       have K4:Hid (Bl w w3):=HB1.out.trans (K3.out.mono HB1.out.size);clear c0 c1 hz;go_wp2;go_roundw
       case rel=>exact ⟨i+1,kl,hi,by omega,by omega,by go_num,rfl,rfl,HLO2.out,HHI2.out,K4.out⟩
       case measure=>simp [intOf];omega
      | false =>
       have HHI2:Hid (kh=dc (aT L) (B.take (i+1))):=by show _=_;rw [fq _ HG.out,← HHI.out,← HKH.out];simp [mn,ha,hb]
       go_wp2_with fail
       refine (CH'.out _ K3.out).mono ?_;rintro e w4 ⟨rfl,hb4⟩;have K4:Hid (Bl w w4):=HB1.out.trans ((K3.out.trans (hb4.mono K3.out.size)).mono HB1.out.size);clear hb4 c0 c1 hz;go_wp2;go_roundw
       case rel=>exact ⟨i+1,kl,kh,by omega,by omega,by go_num,rfl,rfl,HLO2.out,HHI2.out,K4.out⟩
       case measure=>simp [intOf];omega
    | false =>
     have HLO2:Hid (lo=fb (bj L) (B.take (i+1))):=by show _=_;rw [qu _ HG.out,← HLO.out,← HKL.out,h1];rfl
     have K2:Hid (Bl wr w1):=K1.out;go_wp2_with fail
     refine (CH'.out _ K2.out).mono ?_;rintro e w3 ⟨rfl,hb3⟩;have K3:Hid (Bl wr w3):=K2.out.trans (hb3.mono K2.out.size);have c0:=cell_later hb3 c0;have c1:=cell_later hb3 c1;have hz:=Nat.lt_of_lt_of_le hz hb3.size;clear hb3;cases ha:Op.bytesLess kh.toList hi.toList with
     | true =>
      have HHI2:Hid (hi=dc (aT L) (B.take (i+1))):=by show _=_;rw [fq _ HG.out,← HHI.out,← HKH.out];simp [mn,ha]
      have K4:Hid (Bl w w3):=HB1.out.trans (K3.out.mono HB1.out.size);clear c0 c1 hz;go_wp2;go_roundw
      case rel=>exact ⟨i+1,lo,hi,by omega,by omega,by go_num,rfl,rfl,HLO2.out,HHI2.out,K4.out⟩
      case measure=>simp [intOf];omega
     | false =>
      cases hb:(kh.toList == hi.toList) with
      | true =>
       have HHI2:Hid (hi=dc (aT L) (B.take (i+1))):=by show _=_;rw [fq _ HG.out,← HHI.out,← HKH.out];simp [mn,hb]
       have K4:Hid (Bl w w3):=HB1.out.trans (K3.out.mono HB1.out.size);clear c0 c1 hz;go_wp2;go_roundw
       case rel=>exact ⟨i+1,lo,hi,by omega,by omega,by go_num,rfl,rfl,HLO2.out,HHI2.out,K4.out⟩
       case measure=>simp [intOf];omega
      | false =>
       have HHI2:Hid (kh=dc (aT L) (B.take (i+1))):=by show _=_;rw [fq _ HG.out,← HHI.out,← HKH.out];simp [mn,ha,hb]
       go_wp2_with fail
       refine (CH'.out _ K3.out).mono ?_;rintro e w4 ⟨rfl,hb4⟩;have K4:Hid (Bl w w4):=HB1.out.trans ((K3.out.trans (hb4.mono K3.out.size)).mono HB1.out.size);clear hb4 c0 c1 hz;go_wp2;go_roundw
       case rel=>exact ⟨i+1,lo,kh,by omega,by omega,by go_num,rfl,rfl,HLO2.out,HHI2.out,K4.out⟩
       case measure=>simp [intOf];omega
  · have hltI:¬(i:Int)<(n:Int):=by omega
    have hfull:B.take i=B:=List.take_of_length_le (by rw [HL.out];omega);have h1:=HLO.out;have h2:=HHI.out;rw [hfull] at h1 h2;have H1:Hid (lo=fb (bj L) B):=h1;have H2:Hid (hi=dc (aT L) B):=h2;clear h1 h2 hfull;go_wp2;exact bodyPost_ret (v:=.tuple #[.string lo,.string hi]) (by simp [results,Tryz.results176,go_sem]) rfl ⟨by rw [H1.out,H2.out],HB1.out⟩
theorem Tryz.infoRun:(Tryz.prog.info? 63).map (fun i=>(i.zero,i.size,i.bytes))=some (some (.agg #[nZ,iT 0]),2,32):=by kernel_rfl
theorem Tryz.infoRunL:(Tryz.prog.info? 61).map (fun i=>(i.zero,i.size,i.bytes))=some (some nZ,1,24):=by kernel_rfl
def rU (G:Nat) (w:World) (xs:List Value) (j:Nat) (p:ag):Prop :=
 ∃s n c,xs[j*2]?=some (.slice s n c)∧xs[j*2+1]?=some (iT p.2)∧eu (G+1) w s n c p.1
theorem rU.other {p:ag} (h:rU G w xs j p) (hne:j≠k) (u0 u1:Value) (hs:dJ (G+1) w w'):rU G w' ((xs.set (k*2) u0).set (k*2+1) u1) j p:=by
 obtain ⟨s,n,c,h0,h1,h2⟩:=h;refine ⟨s,n,c,?_,?_,h2.same hs⟩ <;> (repeat rw [List.getElem?_set_ne (by omega)]) <;> assumption
theorem cj {K:Nat} {T:TypeId} (h:w.ownsRow base T K (sL g n cap) n xs):n≤cap∧cap≤maxLen:=by
 rcases h.2 with ⟨h',_⟩ | ⟨g',cap',cur,h',_,_,hnc,hcm,_,_⟩
 · simp at h'
 · simp only [Value.slice.injEq,Option.some.injEq,Addr.mk.injEq,and_true,true_and] at h';obtain ⟨rfl,rfl⟩:=h';exact ⟨hnc,hcm⟩
def rX (G:Nat) (w:World) (xs:List Value) (j:Nat) (p:List ag):Prop :=
 ∃s n c,xs[j]?=some (.slice s n c)∧az (G+1) w s n c p
theorem rX.other {p:List ag} (h:rX G w xs j p) (hne:j≠k) (u0:Value) (hs:dJ (G+1) w w'):rX G w' (xs.set k u0) j p:=by
 obtain ⟨s,n,c,h0,h2⟩:=h;exact ⟨s,n,c,by rw [List.getElem?_set_ne (by omega)];exact h0,h2.same hs⟩
def an (w:World) (g t sz:Nat):Prop:=∃cur:Array Value,w.heap[g]?=some (.cells cur t (0,0))∧cur.size=sz
theorem an.lt (h:an w g t sz):g<w.heap.size:=by
 obtain ⟨cur,h,_⟩:=h;exact (Array.getElem?_eq_some_iff.1 h).1
theorem an.cell (h:an w g t sz) {o:Nat} (ho:o<sz):∃v,w.cell? ⟨g,o,none⟩=some v:=by
 obtain ⟨cur,h,hs⟩:=h;exact ⟨cur[o]'(by omega),by simp [World.cell?,h,Array.getElem?_eq_getElem (show o<cur.size by omega)]⟩
theorem an.frozen (h:an w g t sz) (o:Nat):w.frozen? ⟨g,o,none⟩=false:=by
 obtain ⟨cur,h,hs⟩:=h;simp [World.frozen?,h]
theorem an.setCell (h:an w g t sz) {b o:Nat} (v:Value) (_:True:=trivial):an (w.setCell ⟨b,o,none⟩ v) g t sz:=by
 obtain ⟨cur,h,hs⟩:=h;by_cases e:g=b
 · subst e;exact ⟨_,heap_setCell_same w g o cur t v h,by simp [hs]⟩
 · exact ⟨cur,(Below.heap_setCell _ _ _ _ e).trans h,hs⟩
theorem an.below (h:an w g t sz) (hb:Bl w w'):an w' g t sz:=by
 obtain ⟨cur,h',hs⟩:=h;exact ⟨cur,(hb.block g (Array.getElem?_eq_some_iff.1 h').1).trans h',hs⟩
theorem ee {e size:Nat} (h:w.ownsRow base e size (sL g n cap) n xs):an w g e (cap*size):=by
 rcases h.2 with ⟨h',_⟩ | ⟨g',cap',cur,h',_,hg,_,_,hs,_⟩
 · simp at h'
 · simp only [Value.slice.injEq,Option.some.injEq,Addr.mk.injEq,and_true,true_and] at h';obtain ⟨rfl,rfl⟩:=h';exact ⟨cur,hg,hs⟩
theorem an.kind {t' sz':Nat} (h:an w g t sz) (h':an w g t' sz'):t=t':=by
 obtain ⟨cur,h1,_⟩:=h;obtain ⟨cur',h2,_⟩:=h';rw [h1] at h2;cases h2;rfl
end Go.Proofs.YtpobkmjicbobdaaGreat
