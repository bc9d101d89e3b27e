/- Walks. -/
import Derived.Test.YtpobkmjicbobdaaGreatSn13
import Derived.Laws.Cover1
namespace Go.Proofs.YtpobkmjicbobdaaGreat
set_option maxRecDepth 100000
set_option maxHeartbeats 40000000
open Go.RowKit
variable {C N T:List af} {G j k:Nat} {L:List ac} {S:List Int} {e:ac} {r:af} {w w':World} {xs:List Value}
def gL (T:List af):ByteArray:=match T[0]? with | some r=>eQ (ba r.1) T | none=>⟨#[]⟩
def eO (T:List af):ByteArray:=match T[0]? with | some r=>cT (aP r.1) T | none=>⟨#[]⟩
def yL (T N:List af):List af:=N.filter (dK (gL T) (eO T))
def offR (T N:List af):List af:=N.filter (fun r=>!dK (gL T) (eO T) r)
def dq (T N:List af):List af:=T++yL T N
def jo (T N C:List af) (nx:Int):Bool:=decide (nx=2) || decide ((C.filter (dK (gL (dq T N)) (eO (dq T N)))).length=0)
def qZ (T N C:List af) (S:List Int) (nx:Int):List ac:=bC (bw (bd (dq T N)).flatten) S (jo T N C nx)
def dk (L:List ac):List af:=(eG L L.length).1
def dP (T N C:List af) (S:List Int) (nx:Int):List af:=dc (offR T N) (dk (qZ T N C S nx))
def tw (T N C:List af) (S:List Int) (nx:Int):Bool:=fS (dP T N C S nx) && decide ((dP T N C S nx).length≤8)
theorem eN {a b:ByteArray} (h:Op.bytesLess a.toList b.toList=true):eR a b=true:=by unfold eR;rw [h];rfl
theorem eo (h:aL L=true):kK L:=by
 have:=(bG L).1;rwa [iA (fC h) this (bG L).2.symm]
theorem gZ (h:aL L=true) (h1:1≤L.length):eR (ba L) (aP L)=true:=by
 obtain ⟨e,he,e1⟩:=jx h1;rw [e1];exact (dM (eo h) he).2
theorem us {k1 k2:ByteArray} {i:Nat} (h:mi N k1 k2 i j) (hle:eR k1 k2=true) (hok:∀r ∈ N,aL r.1=true∧1≤r.1.length):i≤j:=by
 apply Classical.byContradiction;intro hc;have hj:j<N.length:=by have:=h.1;omega
 have hr:=List.getElem?_eq_getElem hj;obtain ⟨a,_,_,d⟩:=h.2.2 j _ hr;have a:=a (by omega);have d:=d (Nat.le_refl _);have hn:=hok _ (List.mem_of_getElem? hr);have h1:=cn (cn hle (eN d)) (gZ hn.1 hn.2);rw [dh,a] at h1;cases h1
theorem qm (h0:1≤T.length) (hok:∀r ∈ T,aL r.1=true∧1≤r.1.length):ba (bw (bd T).flatten)=gL T∧aP (bw (bd T).flatten)=eO T:=by
 have hr:=List.getElem?_eq_getElem (l:=T) (i:=0) (by omega);have:=tn (List.mem_of_getElem? hr) hok rfl;unfold gL eO;rw [hr];exact this
theorem xX (h0:1≤T.length) (hok:∀r ∈ T,aL r.1=true∧1≤r.1.length):1≤(bw (bd T).flatten).length:=by
 rw [iU];match T,h0,hok with
 | r :: T,_,hok =>
  have:=(hok r (by simp)).2;simp [bd];omega
theorem mb (h0:1≤T.length) (hok:∀r ∈ T,aL r.1=true∧1≤r.1.length):eR (gL T) (eO T)=true:=by
 obtain ⟨h1,h2⟩:=qm h0 hok;rw [← h1,← h2];obtain ⟨e,he,e1⟩:=jx (xX h0 hok);rw [e1];exact (dM (bG _).1 he).2
structure fq (T N:List af):Prop where
 t0:1≤T.length
 tok:∀r ∈ T,aL r.1=true∧1≤r.1.length
 nok:∀r ∈ N,aL r.1=true∧1≤r.1.length
 ap:bi N=true
 un:fu ((bd T).flatten++(bd N).flatten)
theorem jy (T N:List af):(yL T N).Sublist N:=List.filter_sublist
theorem lD (A B:List af):(bd (A++B)).flatten=(bd A).flatten++(bd B).flatten:=by simp [bd]
theorem fq.all (h:fq T N):∀r ∈ dq T N,aL r.1=true∧1≤r.1.length:=fun r hr=>by
 rcases List.mem_append.1 hr with h1 | h1
 · exact h.tok r h1
 · exact h.nok r ((jy T N).subset h1)
theorem fq.all0 (h:fq T N):1≤(dq T N).length:=by
 have:=h.t0;unfold dq;rw [List.length_append];omega
theorem lL {A B:List (List ac)} (h:A.Sublist B):A.flatten.Sublist B.flatten:=by
 induction h with
 | slnil=>exact List.Sublist.refl _
 | cons a _ ih=>rw [List.flatten_cons];exact ih.trans (List.sublist_append_right _ _)
 | cons_cons a _ ih=>rw [List.flatten_cons,List.flatten_cons];exact List.Sublist.append (List.Sublist.refl _) ih
theorem fq.unAll (h:fq T N):fu (bd (dq T N)).flatten:=by
 unfold dq;rw [lD];refine List.Pairwise.sublist ?_ h.un;exact List.Sublist.append (List.Sublist.refl _) (lL ((jy T N).map _))
theorem tB (hok:∀r ∈ T,aL r.1=true∧1≤r.1.length):∀e ∈ (bd T).flatten,cK e.1 e.2.1 e.2.2.1 e.2.2.2.1 e.2.2.2.2=true:=fun e he=>by
 obtain ⟨L,hL,h1⟩:=List.mem_flatten.1 he
 obtain ⟨r,hr,rfl⟩:=List.mem_map.1 hL
 obtain ⟨j,hj⟩:=List.getElem?_of_mem h1
 exact fc (hok r hr).1 hj
theorem fq.right (h:fq T N):aL (bw (bd (dq T N)).flatten)=true:=by
 obtain ⟨h1,h2⟩:=bG (bd (dq T N)).flatten;exact fs (li h1 (fW h.unAll h2.symm)) (fun e he=>tB h.all e (h2.subset he))
theorem fq.cut (h:fq T N) {i j:Nat} (hm:mi N (gL T) (eO T) i j):i≤j∧yL T N=(N.drop i).take (j - i)∧offR T N=N.take i++N.drop j:=by
 have hij:=us hm (mb h.t0 h.tok) h.nok;exact ⟨hij,ma hm hij⟩
theorem fq.merged (h:fq T N) {i j:Nat} (hm:mi N (gL T) (eO T) i j):bw (bd ((N.drop i).take (j - i))++[bw (bd T).flatten]).flatten=bw (bd (dq T N)).flatten:=by
 refine (rj h.unAll ?_).symm;rw [← (h.cut hm).2.1];unfold dq;rw [lD,List.flatten_append];simp only [List.flatten_cons,List.flatten_nil,List.append_nil];exact List.perm_append_comm.trans (List.Perm.append_left _ (bG _).2.symm)
theorem fq.bare (h:fq T N) (hC:∀r ∈ C,aL r.1=true∧1≤r.1.length) {i j:Nat} (hm:mi C (gL (dq T N)) (eO (dq T N)) i j) (nx:Int):(decide (nx=2) || decide (i=j))=jo T N C nx:=by
 have hij:=us hm (mb h.all0 h.all) hC;have hf:=(ma hm hij).1;unfold jo;rw [hf,List.length_take,List.length_drop];have:=hm.1;have:=hm.2.1;congr 1
 rw [decide_eq_decide];omega
theorem lg (h:kK L) {a c:Nat} (hac:a≤c) (hc:c<L.length):eR (gM L a) (gM L c)=true:=by
 rw [jb (List.getElem?_eq_getElem (show a<L.length by omega)),jb (List.getElem?_eq_getElem hc)];by_cases e:a=c
 · subst e;exact er _
 · exact mG ((List.pairwise_iff_getElem.1 h) a c (by omega) hc (by omega))
theorem lA {a b:Nat} (hab:a<b):ba (dV L a b).1=gM L a:=by
 have h:(dV L a b).1[0]?=L[a]?:=by
  show ((L.drop a).take (b - a))[0]?=_
  rw [List.getElem?_take_of_lt (by omega),List.getElem?_drop,Nat.add_zero]
 unfold ba gM;rw [h];cases L[a]? <;> rfl
theorem pq {a b:Nat} (hb:b≤L.length):(dV L a b).1.length=b - a:=by
 show ((L.drop a).take (b - a)).length=_
 rw [List.length_take,List.length_drop];omega
theorem jB (L:List ac):∀k,k≤L.length→(eG L k).2≤k∧(∀r ∈ (eG L k).1,∃a b,a<b∧b≤(eG L k).2∧r=dV L a b)∧(eG L k).1.Pairwise (fun r s=>∃a b c d,a<b∧b≤c∧c<d∧d≤L.length∧r=dV L a b∧s=dV L c d)
 | 0,_=>⟨Nat.le_refl _,(fun r h=>by cases h),List.Pairwise.nil⟩
 | k+1,hk=>by
  obtain ⟨h1,h2,h3⟩:=jB L k (by omega)
  obtain ⟨B,f,hB⟩:∃B f,eG L k=(B,f):=⟨_,_,rfl⟩
  rw [hB] at h1 h2 h3
  simp only at h1 h2 h3
  cases hc:fA L f (k+1) with
  | false=>rw [qI hB hc];exact ⟨by omega,h2,h3⟩
  | true =>
   rw [oh hB hc]
   refine ⟨Nat.le_refl _,fun r hr=>?_,?_⟩
   · rcases List.mem_append.1 hr with h | h
     · obtain ⟨a,b,x1,x2,x3⟩:=h2 r h
       exact ⟨a,b,x1,by show b≤k+1;omega,x3⟩
     · rw [List.mem_singleton] at h
       exact ⟨f,k+1,by omega,Nat.le_refl _,h⟩
   · rw [List.pairwise_append]
     refine ⟨h3,List.pairwise_singleton _ _,fun r hr s hs=>?_⟩
     rw [List.mem_singleton] at hs
     obtain ⟨a,b,x1,x2,x3⟩:=h2 r hr
     exact ⟨a,b,f,k+1,x1,x2,by omega,hk,x3,hs⟩
theorem qG (h:r ∈ dk L):∃a b,a<b∧b≤L.length∧r=dV L a b:=by
 obtain ⟨h1,h2,_⟩:=jB L L.length (Nat.le_refl _);obtain ⟨a,b,x1,x2,x3⟩:=h2 r h;exact ⟨a,b,x1,by omega,x3⟩
theorem lM (h:r ∈ dk L):1≤r.1.length:=by
 obtain ⟨a,b,x1,x2,rfl⟩:=qG h;rw [pq x2];omega
theorem qF (h:r ∈ dk L):∀e ∈ r.1,e ∈ L:=by
 obtain ⟨a,b,x1,x2,rfl⟩:=qG h;intro e he;exact List.mem_of_mem_drop (List.mem_of_mem_take he)
theorem uH (h:r ∈ dk L):∃e ∈ L,ba r.1=e.1:=by
 obtain ⟨e,he,e1⟩:=jx (lM h);exact ⟨e,qF h e he,e1⟩
theorem ya (hw:kK L):(dk L).Pairwise (fun a b=>lK (ba a.1) (ba b.1)=false):=by
 refine (jB L L.length (Nat.le_refl _)).2.2.imp ?_;rintro r s ⟨a,b,c,d,h1,h2,h3,h4,rfl,rfl⟩;rw [lA h1,lA h3,qx];have:=lg hw (a:=a) (c:=c) (by omega) (by omega);rw [dh] at this;simpa using this
theorem s6 {b:Bool} (h:e ∈ bC L S b):∃x ∈ L,x.1=e.1:=by
 unfold bC at h;split at h
 · have hs:=nT S b (Sq.parts eJ L);rw [Sq.parts_flat] at hs;obtain ⟨x,hx,e1⟩:=List.mem_map.1 (hs.subset (List.mem_map.2 ⟨e,h,rfl⟩));exact ⟨x,hx,congrArg (fun p:ByteArray × Int=>p.1) e1⟩
 · cases h
theorem eu {N:List af} (h:bi N=true) (hok:∀r ∈ N,aL r.1=true∧1≤r.1.length):∀d a,a+(d+1)<N.length→∀x y,N[a]?=some x→N[a+(d+1)]?=some y→Op.bytesLess (aP x.1).toList (ba y.1).toList=true
 | 0,a,hl,x,y,hx,hy=>by
  have h1:=(List.all_eq_true.1 h) (a+1) (List.mem_range.2 (by omega))
  rw [jg hy (by omega) (by simpa using hx)] at h1
  exact h1
 | d+1,a,hl,x,y,hx,hy=>by
  have hz:=List.getElem?_eq_getElem (l:=N) (i:=a+(d+1)) (by omega)
  have ih:=eu h hok d a (by omega) x _ hx hz
  have h1:=(List.all_eq_true.1 h) (a+(d+1+1)) (List.mem_range.2 (by omega))
  rw [jg hy (by omega) (by rw [show a+(d+1+1) - 1=a+(d+1) by omega];exact hz)] at h1
  have hzz:=hok _ (List.mem_of_getElem? hz)
  have hlh:=gZ hzz.1 hzz.2
  have e1:eR (aP x.1) (ba y.1)=true:=cn (cn (eN ih) hlh) (eN h1)
  cases hg:Op.bytesLess (aP x.1).toList (ba y.1).toList with
  | true=>rfl
  | false =>
   have e2:eR (ba y.1) (aP x.1)=true:=by rw [dh,hg];rfl
   have e3:=cn e2 (cn (eN ih) hlh)
   rw [dh] at e3
   have h1':Op.bytesLess (aP (N[a+(d+1)]'(by omega)).1).toList (ba y.1).toList=true:=h1
   rw [h1'] at e3
   cases e3
theorem fQ {a b c:ByteArray} (h1:eR a b=true) (h2:Op.bytesLess b.toList c.toList=true):Op.bytesLess a.toList c.toList=true:=by
 cases hg:Op.bytesLess a.toList c.toList with
 | true=>rfl
 | false =>
  have e2:eR c a=true:=by rw [dh,hg];rfl
  have e3:=cn e2 h1;rw [dh,h2] at e3;cases e3
theorem p9 {nx:Int} (h:e ∈ qZ T N C S nx):∃r ∈ dq T N,∃x ∈ r.1,x.1=e.1:=by
 obtain ⟨x,hx,e1⟩:=s6 h;have hx:=(bG _).2.subset hx;obtain ⟨L,hL,h1⟩:=List.mem_flatten.1 hx;obtain ⟨r,hr,rfl⟩:=List.mem_map.1 hL;exact ⟨r,hr,x,h1,e1⟩
theorem fq.runs (h:fq T N) (C:List af) (S:List Int) (nx:Int) {i j:Nat} (hm:mi N (gL T) (eO T) i j):dP T N C S nx=N.take i++dk (qZ T N C S nx)++N.drop j:=by
 obtain ⟨hij,hin,hoff⟩:=h.cut hm;have hLH:=qm h.t0 h.tok;have hw:kK (qZ T N C S nx):=eo (ia h.right S _);have hT:∀r ∈ T,∀x ∈ r.1,eR (gL T) x.1=true∧eR x.1 (eO T)=true:=fun r hr x hx=>by
  have:=dM (bG (bd T).flatten).1 (e:=x) ((bG _).2.symm.subset (List.mem_flatten.2 ⟨r.1,List.mem_map.2 ⟨r,hr,rfl⟩,hx⟩));rwa [hLH.1,hLH.2] at this
 have hN:∀r ∈ yL T N,∃t,i≤t∧t<j∧N[t]?=some r:=fun r hr=>by
  rw [hin] at hr;obtain ⟨t,ht⟩:=List.getElem?_of_mem hr;have hl:=(List.getElem?_eq_some_iff.1 ht).1;rw [List.length_take,List.length_drop] at hl;rw [List.getElem?_take_of_lt (by omega),List.getElem?_drop] at ht;exact ⟨i+t,by omega,by omega,ht⟩
 unfold dP;rw [hoff];refine m9 _ _ _ (fun r hr z hz=>?_) (fun x hx r hr=>?_) (ya hw)
 · obtain ⟨e,he,e1⟩:=uH hr;obtain ⟨r',hr',x,hx,e2⟩:=p9 he;rw [qx,e1,← e2];obtain ⟨u,hu⟩:=List.getElem?_of_mem hz;rw [List.getElem?_drop] at hu;have hul:=(List.getElem?_eq_some_iff.1 hu).1;rcases List.mem_append.1 hr' with h1 | h1
   · exact fQ (hT r' h1 x hx).2 ((hm.2.2 _ _ hu).2.2.2 (by omega))
   · obtain ⟨t,t1,t2,t3⟩:=hN r' h1;have hok:=h.nok _ (List.mem_of_getElem? t3);have:=eu h.ap h.nok (j+u - t - 1) t (by omega) r' z t3 (by rw [show t+(j+u - t - 1+1)=j+u by omega];exact hu);exact fQ (dM (eo hok.1) hx).2 this
 · obtain ⟨e,he,e1⟩:=uH hr;obtain ⟨r',hr',y,hy,e2⟩:=p9 he;obtain ⟨u,hu⟩:=List.getElem?_of_mem (List.mem_of_getLast? hx);have hul:=(List.getElem?_eq_some_iff.1 hu).1;rw [List.length_take] at hul;rw [List.getElem?_take_of_lt (by omega)] at hu;have hokx:=h.nok _ (List.mem_of_getElem? hu);have hxl:=gZ hokx.1 hokx.2;have hfin:eR (ba x.1) y.1=true:=by
    rcases List.mem_append.1 hr' with h1 | h1
    · exact cn (cn hxl (eN ((hm.2.2 _ _ hu).1 (by omega)))) (hT r' h1 y hy).1
    · obtain ⟨t,t1,t2,t3⟩:=hN r' h1;have hok:=h.nok _ (List.mem_of_getElem? t3);have htl:=(List.getElem?_eq_some_iff.1 t3).1;have:=eu h.ap h.nok (t - u - 1) u (by omega) x r' hu (by rw [show u+(t - u - 1+1)=t by omega];exact t3);exact cn (cn hxl (eN this)) (dM (eo hok.1) hy).1
   rw [qx,e1,← e2];rw [dh] at hfin;simpa using hfin
theorem fq.fits (h:fq T N) (hN:∀r ∈ N,r.1.length≤150) (C:List af) (S:List Int) (nx:Int) {i j:Nat} (hm:mi N (gL T) (eO T) i j):fS (dP T N C S nx)=fS (dk (qZ T N C S nx)):=by
 rw [h.runs C S nx hm];unfold fS;rw [List.all_append,List.all_append];have h1:(N.take i).all (fun r=>decide (r.1.length≤150))=true:=List.all_eq_true.2 fun r hr=>decide_eq_true (hN r (List.mem_of_mem_take hr))
 have h2:(N.drop j).all (fun r=>decide (r.1.length≤150))=true:=List.all_eq_true.2 fun r hr=>decide_eq_true (hN r (List.mem_of_mem_drop hr))
 rw [h1,h2];simp
theorem jO (m:Int) (s:Option Addr) (n c:Nat) (L:List ac) (w:World) (h:aq w s n c L) (hn:1≤n) :
 Calls Tryz.prog 147 #[.agg #[.slice s n c,iT m]] w fun r w'=>r=.returned (.string (ba L))∧Bl w w':=by
 obtain ⟨b,off,rfl,_⟩:=h.form hn;have hg:=List.getElem?_eq_getElem (show 0<L.length by have:=h.length;omega);have:=uk m b off n c L w h _ hg;unfold ba;rw [hg];exact this
theorem pe (m:Int) (s:Option Addr) (n c:Nat) (L:List ac) (w:World) (h:aq w s n c L) (hn:1≤n) :
 Calls Tryz.prog 146 #[.agg #[.slice s n c,iT m]] w fun r w'=>r=.returned (.string (aP L))∧Bl w w':=by
 obtain ⟨b,off,rfl,_⟩:=h.form hn;have hl:=h.length;have hg:=List.getElem?_eq_getElem (show L.length - 1<L.length by omega);have:=re m b off n c L w h _ (by rw [← hl];exact hg) hn;unfold aP;rw [hg];exact this
theorem xe (m:Int) (s:Option Addr) (n c:Nat) (L:List ac) (low high:ByteArray) (w:World) (h:aq w s n c L) (hn:1≤n) :
 Calls Tryz.prog 222 #[.agg #[.slice s n c,iT m],.string low,.string high] w fun e w'=>e=.returned (.bool (dK low high (L,m)))∧Bl w w':=by
 obtain ⟨X,hX⟩:=aI w.heap.size;obtain ⟨W,hW⟩:=aI (w.alloc (.cells #[.slice s n c,iT m] 63));have kW:Bl w W:=by rw [hW];exact bZ
 have x0:W.cell? ⟨X,0,none⟩=some (.slice s n c):=by rw [hW,hX];simp
 have x1:W.cell? ⟨X,1,none⟩=some (iT m):=by rw [hW,hX];simp
 have xz:X<W.heap.size:=World.block_lt_of_cell? _ _ x0;have K0:Hid (Bl w W):=kW;have HE:=bQ h;obtain ⟨lo,hlo⟩:=aI (ba L);obtain ⟨hi,hhi⟩:=aI (aP L);have CL:Hid (∀w',Bl w w'→Calls Tryz.prog 147 #[.agg #[.slice s n c,iT m]] w' fun r w''=>r=.returned (.string lo)∧Bl w' w''):=by rw [hlo];exact fun w' k=>jO m s n c L w' (h.keep k) hn
 have CH:Hid (∀w',Bl w w'→Calls Tryz.prog 146 #[.agg #[.slice s n c,iT m]] w' fun r w''=>r=.returned (.string hi)∧Bl w' w''):=by rw [hhi];exact fun w' k=>pe m s n c L w' (h.keep k) hn
 have HM:Hid (dK low high (L,m)=(eR lo high && eR low hi)):=by rw [hlo,hhi];rfl
 clear h kW hlo hhi;go_enter Tryz.func222,Tryz.ntmps222
 go_wp2_with fail
 rw [← hW];clear hW;refine (CL.out _ K0.out).mono ?_;rintro e w1 ⟨rfl,hb1⟩;have K1:Hid (Bl w w1):=K0.out.trans (hb1.mono K0.out.size);have x0:=cell_later hb1 x0;have x1:=cell_later hb1 x1;have xz:=Nat.lt_of_lt_of_le xz hb1.size;rw [← hX];clear hb1 hX;cases h1:(Op.bytesLess lo.toList high.toList || lo.toList == high.toList) with
 | false =>
  have HF:Hid (eR lo high=false):=h1;go_wp2;go_ret;exact ⟨by rw [HM.out,HF.out];rfl,K1.out⟩
 | true =>
  have HT:Hid (eR lo high=true):=h1;go_wp2_with fail
  refine (CH.out _ K1.out).mono ?_;rintro e w2 ⟨rfl,hb2⟩;have K2:Hid (Bl w w2):=K1.out.trans (hb2.mono K1.out.size);clear hb2;go_wp2;go_ret;exact ⟨by rw [HM.out,HT.out];simp [eR],K2.out⟩
theorem rg (a:Option Addr) (n c:Nat) (B:List af) (w:World) (h:aw 0 w a n c B) (hn:n≤1048576) :
 Calls Tryz.prog 182 #[.slice a n c] w fun e w'=>e=.returned (.bool (fS B && decide (n≤8)))∧Bl w w':=by
 have HB:=bQ h;have HL:Hid (B.length=n):=h.length;obtain ⟨F,hF⟩:=aI ((fS B && decide (n≤8)));have HF:Hid (F=(fS B && decide (n≤8))):=hF;rw [← hF];clear h hF;go_enter Tryz.func182,Tryz.ntmps182
 go_wp2;go_loopw [3] (fun iv wr=>∃i:Nat,i≤n∧iv=iT i∧(∀j r,j<i→B[j]?=some r→r.1.length≤150)∧wr=w) (fun iv _=>n - (intOf iv).toNat)
 case atStart=>exact ⟨0,Nat.zero_le _,rfl,(fun j r hj _=>absurd hj (Nat.not_lt_zero _)),rfl⟩
 case round =>
  obtain ⟨i,hin,rfl,hok,rfl⟩:=hrel;have HOK:Hid (∀j r,j<i→B[j]?=some r→r.1.length≤150):=hok;clear hok;by_cases hlt:i<n
  · have hltI:(i:Int)<(n:Int):=by omega
    obtain ⟨b,off,rfl,hbb⟩:=HB.out.form (by omega);obtain ⟨L,m,s,len,cap,hg,_,c0,_,hE⟩:=HB.out.run (Below.refl _ wr) i hlt;have HG:Hid (B[i]?=some (L,m)):=hg;have HLL:Hid (L.length=len):=hE.1.length;have hbig:=hE.1.big;have hroom:=hE.1.room;unfold maxLen at hbig;clear hg hE;by_cases h150:150<len
    · have h150I:(len:Int) > 150:=by omega
      have h150J:(150:Int)<(len:Int):=by omega
      go_wp2;go_ret;exact ⟨by rw [HF.out,yO HG.out (by have:=HLL.out;show 150<L.length;omega)];rfl,Below.refl _ _⟩
    · have h150I:¬(len:Int) > 150:=by omega
      have h150J:¬(150:Int)<(len:Int):=by omega
      go_wp2;go_roundw
      case rel =>
       refine ⟨i+1,by omega,by go_num,fun j r hj hr=>?_,by first | rfl | trivial⟩;by_cases hji:j<i
       · exact HOK.out j r hji hr
       · have:j=i:=by omega
         subst this;rw [HG.out] at hr;cases hr;have:=HLL.out;show L.length≤150
         omega
      case measure=>simp [intOf];omega
  · have hltI:¬(i:Int)<(n:Int):=by omega
    have HYES:Hid (fS B=true):=xY HL.out (fun j r hj hr=>HOK.out j r (by omega) hr);by_cases h8:n≤8
    · have h8I:(n:Int)≤8:=by omega
      go_wp2;go_ret;exact ⟨by rw [HF.out,HYES.out,decide_eq_true h8];rfl,Below.refl _ _⟩
    · have h8I:¬(n:Int)≤8:=by omega
      go_wp2;go_ret;exact ⟨by rw [HF.out,HYES.out,decide_eq_false h8];rfl,Below.refl _ _⟩
theorem lk (b off n c:Nat) (B:List af) (r0:af) (w:World) (h:aw 0 w (some ⟨b,off,none⟩) n c B) (h0:B[0]?=some r0) (hne:∀r ∈ B,1≤r.1.length) (hn:n≤1048576) :
 Calls Tryz.prog 176 #[sO b off n c] w fun e w'=>e=.returned (.tuple #[.string (eQ (ba r0.1) B),.string (cT (aP r0.1) B)])∧Bl w w':=by
 have HB:=bQ h;have HL:Hid (B.length=n):=h.length;have HNE:=bQ hne;have hn1:1≤n:=by have:=(List.getElem?_eq_some_iff.1 h0).1;have:=h.length;omega
 have hnI:(0:Int)<(n:Int):=by omega
 have hbb:=(h.lies _ rfl (by omega)).1;simp only at hbb;have CLH:Hid (∀(i:Nat) (w':World),Bl w w'→i<n→∃L m s len cap,B[i]?=some (L,m)∧w'.cell? ⟨b,off+i*2,none⟩=some (.slice s len cap)∧w'.cell? ⟨b,off+i*2+1,none⟩=some (iT m)∧b<w'.heap.size ∧
  (∀w'',Bl w' w''→Calls Tryz.prog 147 #[.agg #[.slice s len cap,iT m]] w'' fun r w3=>r=.returned (.string (ba L))∧Bl w'' w3) ∧
  (∀w'',Bl w' w''→Calls Tryz.prog 146 #[.agg #[.slice s len cap,iT m]] w'' fun r w3=>r=.returned (.string (aP L))∧Bl w'' w3)):=fun i w' k hi=>by
  obtain ⟨L,m,s,len,cap,hg,_,c0,c1,hE⟩:=HB.out.run k i hi;have hl:1≤len:=by have h1:=HNE.out _ (List.mem_of_getElem? hg);have h2:=hE.1.length;simp only at h1;omega
  exact ⟨L,m,s,len,cap,hg,c0,c1,Nat.lt_of_lt_of_le hbb k.size,fun w'' k'=>jO m s len cap L w'' (hE.1.keep k') hl,fun w'' k'=>pe m s len cap L w'' (hE.1.keep k') hl⟩
 have HE0:=bQ h0;clear h h0 hne HB;go_enter Tryz.func176,Tryz.ntmps176
 obtain ⟨L,m,s,len,cap,hg,c0,c1,hz,CL,CH⟩:=CLH.out 0 w (Below.refl _ _) (by omega);rw [HE0.out] at hg;cases hg;simp only [Nat.zero_mul,Nat.add_zero] at c0 c1;go_wp2_with fail
 refine (CL _ (Below.refl _ _)).mono ?_;rintro e w1 ⟨rfl,hb1⟩;have K1:Hid (Bl w w1):=hb1;have c0:=cell_later hb1 c0;have c1:=cell_later hb1 c1;have hz:=Nat.lt_of_lt_of_le hz hb1.size;clear hb1;go_wp2_with fail
 refine (CH _ K1.out).mono ?_;rintro e w2 ⟨rfl,hb2⟩;have K2:Hid (Bl w w2):=K1.out.trans (hb2.mono K1.out.size);clear c0 c1 hz hb2 CL CH K1;go_wp2;go_loopw [4,5,6] (fun lv hv iv wr=>∃(i:Nat) (lo hi:ByteArray),1≤i∧i≤n∧iv=iT i∧lv=.string lo∧hv=.string hi∧lo=eQ (ba L) (B.take i)∧hi=cT (aP L) (B.take i)∧Bl w wr) (fun _ _ iv _=>n - (intOf iv).toNat)
 case atStart =>
  have e1:B.take 1=[(L,m)]:=by rw [List.take_add_one,HE0.out];simp
  refine ⟨1,ba L,aP L,Nat.le_refl _,hn1,rfl,rfl,rfl,?_,?_,K2.out⟩
  · rw [e1];simp [eQ,dv]
  · rw [e1];simp [cT,lK]
 case round =>
  obtain ⟨i,lo,hi,hi1,hin,rfl,rfl,rfl,hlo,hhi,hb⟩:=hrel;have HLO:Hid (lo=eQ (ba L) (B.take i)):=hlo;have HHI:Hid (hi=cT (aP L) (B.take i)):=hhi;have HB1:Hid (Bl w wr):=hb;clear hlo hhi K2;by_cases hlt:i<n
  · have hltI:(i:Int)<(n:Int):=by omega
    obtain ⟨L',m',s',len',cap',hg,c0,c1,hz,CL,CH⟩:=CLH.out i wr hb hlt;have HG:Hid (B[i]?=some (L',m')):=hg;obtain ⟨kl,hkl⟩:=aI (ba L');obtain ⟨kh,hkh⟩:=aI (aP L');have HKL:Hid (kl=ba L'):=hkl;have HKH:Hid (kh=aP L'):=hkh;rw [← hkl] at CL;rw [← hkh] at CH;have CL':=bQ CL;have CH':=bQ CH;clear hg hb hkl hkh CL CH;go_wp2_with fail
    refine (CL'.out _ (Below.refl _ _)).mono ?_;rintro e w1 ⟨rfl,hb1⟩;have K1:Hid (Bl wr w1):=hb1;have c0:=cell_later hb1 c0;have c1:=cell_later hb1 c1;have hz:=Nat.lt_of_lt_of_le hz hb1.size;clear hb1;cases h1:Op.bytesLess kl.toList lo.toList with
    | true =>
     have HLO2:Hid (kl=eQ (ba L) (B.take (i+1))):=by show _=_;rw [pt _ HG.out,← HLO.out,← HKL.out,h1];rfl
     go_wp2_with fail
     refine (CL'.out _ K1.out).mono ?_;rintro e w2 ⟨rfl,hb2⟩;have K2:Hid (Bl wr w2):=K1.out.trans (hb2.mono K1.out.size);have c0:=cell_later hb2 c0;have c1:=cell_later hb2 c1;have hz:=Nat.lt_of_lt_of_le hz hb2.size;clear hb2;go_wp2_with fail
     refine (CH'.out _ K2.out).mono ?_;rintro e w3 ⟨rfl,hb3⟩;have K3:Hid (Bl wr w3):=K2.out.trans (hb3.mono K2.out.size);have c0:=cell_later hb3 c0;have c1:=cell_later hb3 c1;have hz:=Nat.lt_of_lt_of_le hz hb3.size;clear hb3;cases ha:Op.bytesLess kh.toList hi.toList with
     | true =>
      have HHI2:Hid (hi=cT (aP L) (B.take (i+1))):=by show _=_;rw [fe _ HG.out,← HHI.out,← HKH.out];simp [lK,ha]
      have K4:Hid (Bl w w3):=HB1.out.trans (K3.out.mono HB1.out.size);clear c0 c1 hz;go_wp2;go_roundw
      case rel=>exact ⟨i+1,kl,hi,by omega,by omega,by go_num,rfl,rfl,HLO2.out,HHI2.out,K4.out⟩
      case measure=>simp [intOf];omega
     | false =>
      cases hb:(kh.toList == hi.toList) with
      | true =>
       have HHI2:Hid (hi=cT (aP L) (B.take (i+1))):=by show _=_;rw [fe _ HG.out,← HHI.out,← HKH.out];simp [lK,hb]
       have K4:Hid (Bl w w3):=HB1.out.trans (K3.out.mono HB1.out.size);clear c0 c1 hz;go_wp2;go_roundw
       case rel=>exact ⟨i+1,kl,hi,by omega,by omega,by go_num,rfl,rfl,HLO2.out,HHI2.out,K4.out⟩
       case measure=>simp [intOf];omega
      | false =>
       have HHI2:Hid (kh=cT (aP L) (B.take (i+1))):=by show _=_;rw [fe _ HG.out,← HHI.out,← HKH.out];simp [lK,ha,hb]
       go_wp2_with fail
       refine (CH'.out _ K3.out).mono ?_;rintro e w4 ⟨rfl,hb4⟩;have K4:Hid (Bl w w4):=HB1.out.trans ((K3.out.trans (hb4.mono K3.out.size)).mono HB1.out.size);clear hb4 c0 c1 hz;go_wp2;go_roundw
       case rel=>exact ⟨i+1,kl,kh,by omega,by omega,by go_num,rfl,rfl,HLO2.out,HHI2.out,K4.out⟩
       case measure=>simp [intOf];omega
    | false =>
     have HLO2:Hid (lo=eQ (ba L) (B.take (i+1))):=by show _=_;rw [pt _ HG.out,← HLO.out,← HKL.out,h1];rfl
     have K2:Hid (Bl wr w1):=K1.out;go_wp2_with fail
     refine (CH'.out _ K2.out).mono ?_;rintro e w3 ⟨rfl,hb3⟩;have K3:Hid (Bl wr w3):=K2.out.trans (hb3.mono K2.out.size);have c0:=cell_later hb3 c0;have c1:=cell_later hb3 c1;have hz:=Nat.lt_of_lt_of_le hz hb3.size;clear hb3;cases ha:Op.bytesLess kh.toList hi.toList with
     | true =>
      have HHI2:Hid (hi=cT (aP L) (B.take (i+1))):=by show _=_;rw [fe _ HG.out,← HHI.out,← HKH.out];simp [lK,ha]
      have K4:Hid (Bl w w3):=HB1.out.trans (K3.out.mono HB1.out.size);clear c0 c1 hz;go_wp2;go_roundw
      case rel=>exact ⟨i+1,lo,hi,by omega,by omega,by go_num,rfl,rfl,HLO2.out,HHI2.out,K4.out⟩
      case measure=>simp [intOf];omega
     | false =>
      cases hb:(kh.toList == hi.toList) with
      | true =>
       have HHI2:Hid (hi=cT (aP L) (B.take (i+1))):=by show _=_;rw [fe _ HG.out,← HHI.out,← HKH.out];simp [lK,hb]
       have K4:Hid (Bl w w3):=HB1.out.trans (K3.out.mono HB1.out.size);clear c0 c1 hz;go_wp2;go_roundw
       case rel=>exact ⟨i+1,lo,hi,by omega,by omega,by go_num,rfl,rfl,HLO2.out,HHI2.out,K4.out⟩
       case measure=>simp [intOf];omega
      | false =>
       have HHI2:Hid (kh=cT (aP L) (B.take (i+1))):=by show _=_;rw [fe _ HG.out,← HHI.out,← HKH.out];simp [lK,ha,hb]
       go_wp2_with fail
       refine (CH'.out _ K3.out).mono ?_;rintro e w4 ⟨rfl,hb4⟩;have K4:Hid (Bl w w4):=HB1.out.trans ((K3.out.trans (hb4.mono K3.out.size)).mono HB1.out.size);clear hb4 c0 c1 hz;go_wp2;go_roundw
       case rel=>exact ⟨i+1,lo,kh,by omega,by omega,by go_num,rfl,rfl,HLO2.out,HHI2.out,K4.out⟩
       case measure=>simp [intOf];omega
  · have hltI:¬(i:Int)<(n:Int):=by omega
    have hfull:B.take i=B:=List.take_of_length_le (by rw [HL.out];omega);have h1:=HLO.out;have h2:=HHI.out;rw [hfull] at h1 h2;have H1:Hid (lo=eQ (ba L) B):=h1;have H2:Hid (hi=cT (aP L) B):=h2;clear h1 h2 hfull;go_wp2;exact bodyPost_ret (v:=.tuple #[.string lo,.string hi]) (by simp [results,Tryz.results176,go_sem]) rfl ⟨by rw [H1.out,H2.out],HB1.out⟩
theorem Tryz.infoRun:(Tryz.prog.info? 63).map (fun i=>(i.zero,i.size,i.bytes))=some (some (.agg #[nZ,iT 0]),2,32):=by kernel_rfl
theorem Tryz.infoRunL:(Tryz.prog.info? 61).map (fun i=>(i.zero,i.size,i.bytes))=some (some nZ,1,24):=by kernel_rfl
def iM (B:List af):Prop:=B.length≤1048576∧∀p ∈ B,p.1.length≤1048576
def qM (G:Nat) (w:World) (xs:List Value) (j:Nat) (p:af):Prop :=
 ∃s n c,xs[j*2]?=some (.slice s n c)∧xs[j*2+1]?=some (iT p.2)∧dY (G+1) w s n c p.1
theorem qM.other {p:af} (h:qM G w xs j p) (hne:j≠k) (u0 u1:Value) (hs:cF (G+1) w w'):qM G w' ((xs.set (k*2) u0).set (k*2+1) u1) j p:=by
 obtain ⟨s,n,c,h0,h1,h2⟩:=h;refine ⟨s,n,c,?_,?_,h2.same hs⟩ <;> (repeat rw [List.getElem?_set_ne (by omega)]) <;> assumption
theorem bX {base g n cap K:Nat} {T:TypeId} (h:w.ownsRow base T K (sL g n cap) n xs):n≤cap∧cap≤maxLen:=by
 rcases h.2 with ⟨h',_⟩ | ⟨g',cap',cur,h',_,_,hnc,hcm,_,_⟩
 · simp at h'
 · simp only [Value.slice.injEq,Option.some.injEq,Addr.mk.injEq,and_true,true_and] at h';obtain ⟨rfl,rfl⟩:=h';exact ⟨hnc,hcm⟩
def qN (G:Nat) (w:World) (xs:List Value) (j:Nat) (p:List af):Prop :=
 ∃s n c,xs[j]?=some (.slice s n c)∧aw (G+1) w s n c p
theorem qN.other {p:List af} (h:qN G w xs j p) (hne:j≠k) (u0:Value) (hs:cF (G+1) w w'):qN G w' (xs.set k u0) j p:=by
 obtain ⟨s,n,c,h0,h2⟩:=h;exact ⟨s,n,c,by rw [List.getElem?_set_ne (by omega)];exact h0,h2.same hs⟩
end Go.Proofs.YtpobkmjicbobdaaGreat
