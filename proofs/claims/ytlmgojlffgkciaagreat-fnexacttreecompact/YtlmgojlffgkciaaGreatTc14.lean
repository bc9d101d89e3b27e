/-
  A list of entries of the call's own, or the nil list. No function of the program is walked here.
-/
import Derived.Test.YtlmgojlffgkciaaGreatTc06
import Derived.Test.YtlmgojlffgkciaaGreatTc11
import Derived.Test.YtlmgojlffgkciaaGreatTc13
import Derived.Test.YtlmgojlffgkciaaGreatTc08
import Derived.Laws.Cover1
import Derived.Test.YtlmgojlffgkciaaGreatTc09
import Derived.Test.YtlmgojlffgkciaaGreatTc05
namespace Go.Proofs.YtlmgojlffgkciaaGreat
open Go.RowKit
structure d7 (w:World) (base:Nat) (a:Option Addr) (n c:Nat) (L:List ac):Prop where
 nil:a=none→n=0∧c=0∧L=[]
 own:∀x,a=some x→∃g,x=⟨g,0,none⟩∧aE w base g n c L
theorem d7.some {w:World} {base g n c:Nat} {L:List ac} (h:aE w base g n c L):d7 w base (pT g) n c L:=⟨(fun e=>by cases e),(fun x e=>by cases e;exact ⟨g,rfl,h⟩)⟩
theorem d7.none (w:World) (base:Nat):d7 w base none 0 0 []:=⟨fun _=>⟨rfl,rfl,rfl⟩,fun x e=>by cases e⟩
theorem d7.len {w:World} {base:Nat} {a:Option Addr} {n c:Nat} {L:List ac} (h:d7 w base a n c L):L.length=n:=by
 cases a with
 | none=>obtain ⟨h1,_,h3⟩:=h.nil rfl;rw [h1,h3];rfl
 | some x=>obtain ⟨g,_,h2⟩:=h.own x rfl;exact h2.len
theorem d7.entsAt {w:World} {base:Nat} {a:Option Addr} {n c:Nat} {L:List ac} (h:d7 w base a n c L):af w a n c L:=by
 cases a with
 | none =>
  obtain ⟨h1,h2,h3⟩:=h.nil rfl;subst h1 h2 h3;exact ⟨rfl,Nat.le_refl _,Nat.zero_le _,by simp,fun _=>rfl,(fun x e=>by cases e),(fun x e=>by cases e)⟩
 | some x=>obtain ⟨g,rfl,h2⟩:=h.own x rfl;exact h2.entsAt
theorem d7.lt {w:World} {base:Nat} {a:Option Addr} {n c:Nat} {L:List ac} (h:d7 w base a n c L):∀x,a=.some x→base≤x.block∧x.block<w.heap.size:=fun x e=>by
 obtain ⟨g,rfl,h2⟩:=h.own x e
 exact h2.lt
theorem d7.grown {w w':World} {base:Nat} {a:Option Addr} {n c:Nat} {L:List ac} {row:Option Nat} (h:d7 w base a n c L) (hg:w.grownBy w' row) (hne:∀x,a=.some x→.some x.block≠row):d7 w' base a n c L :=
 ⟨h.nil,fun x e=>by obtain ⟨g,rfl,h2⟩:=h.own x e;exact ⟨g,rfl,h2.grown hg (hne _ e)⟩⟩
theorem d7.mono {w:World} {base base':Nat} {a:Option Addr} {n c:Nat} {L:List ac} (h:d7 w base a n c L) (hb:base'≤base):d7 w base' a n c L :=
 ⟨h.nil,fun x e=>by obtain ⟨g,rfl,h2⟩:=h.own x e;exact ⟨g,rfl,h2.mono hb⟩⟩
theorem o8 {w w':World} (hb:Bl w w'):w.grownBy w' none:=⟨hb.os,hb.tape,hb.output,hb.size,fun k hk _=>hb.block k hk⟩
theorem d7.below {w w':World} {base:Nat} {a:Option Addr} {n c:Nat} {L:List ac} (h:d7 w base a n c L) (hb:Bl w w'):d7 w' base a n c L:=h.grown (o8 hb) (fun x _ e=>by cases e)
theorem qI (w:World) (T:TypeId) (s t:ByteArray) (q d n:Int):∀j u,(aW (s,q,d,t,n))[j]?=some u→(w.alloc (.cells #[.string s,iT q,iT d,.string t,iT n] T)).cell? ((⟨w.heap.size,0,none⟩:Addr).add j)=some u:=by
 intro j u hj;rw [Go.WideShapes.add_plain];match j,hj with
 | 0,hj=>simp [aW] at hj;subst hj;simp
 | 1,hj=>simp [aW] at hj;subst hj;simp
 | 2,hj=>simp [aW] at hj;subst hj;simp
 | 3,hj=>simp [aW] at hj;subst hj;simp
 | 4,hj=>simp [aW] at hj;subst hj;simp
 | j+5,hj=>simp [aW] at hj
theorem vR {W:World} {b b' e e' s s' n n':Nat} {v v':Value} {xs xs':List Value} (h:W.ownsRow b e s v n xs) (h':W.ownsRow b' e' s' v' n' xs') (hne:e≠e') {k:Nat} (hk:v.ownBlock=some k):v'.ownBlock≠some k:=fun hk'=>by
 rcases h.2 with ⟨rfl,_⟩ | ⟨g,cap,cur,rfl,_,hg,_⟩
 · cases hk
 · cases hk
   rcases h'.2 with ⟨rfl,_⟩ | ⟨g',cap',cur',rfl,_,hg',_⟩
   · cases hk'
   · cases hk'
     rw [hg] at hg'
     cases hg'
     exact hne rfl
end Go.Proofs.YtlmgojlffgkciaaGreat

namespace Go.Proofs.YtlmgojlffgkciaaGreat
open Go.RowKit
def pD (L:List ac):Bool:=decide (1≤L.length) && (decide (L.length≤150) && az (aQ L))
def zl (L:List ac):List ac:=if pD L=true then aQ L else []
def zj (L:List ac):Int:=if pD L=true then ((dg (aQ L):Nat):Int) else 0
def BZ (F:List ac) (m:Int) (ok:Bool) (w:World) (e:Ending) (w':World):Prop :=
 ∃a n c,e=.returned (.tuple #[.agg #[.slice a n c,iT m],.bool ok])∧d7 w' w.heap.size a n c F∧Bl w w'
theorem Ba {L:List ac} (h:pD L=false) {w w':World} (hb:Bl w w'):BZ (zl L) (zj L) (pD L) w (.returned (.tuple #[.agg #[nZ,iT 0],.bool false])) w':=by
 unfold zl zj;rw [h];exact ⟨none,0,0,rfl,d7.none _ _,hb⟩
theorem Bt {L:List ac} (h:pD L=true) {w w':World} {g n c:Nat} (ho:aE w' w.heap.size g n c (aQ L)) (hb:Bl w w'):BZ (zl L) (zj L) (pD L) w (.returned (.tuple #[.agg #[sL g n c,iT ((dg (aQ L):Nat):Int)],.bool true])) w':=by
 unfold zl zj;rw [h];exact ⟨_,n,c,rfl,d7.some ho,hb⟩
end Go.Proofs.YtlmgojlffgkciaaGreat

namespace Go.Proofs.YtlmgojlffgkciaaGreat
open Go.RowKit
theorem je {M:List ac} (hs:rL M) (he:∀e ∈ M,dc e.1 e.2.1 e.2.2.1 e.2.2.2.1 e.2.2.2.2=true):az M=true:=by
 refine ly (k:=M.length) ?_ (Nat.le_refl _);intro j hj;have hg:M[j]?=some M[j]:=List.getElem?_eq_getElem hj;match j,hj,hg with
 | 0,hj,hg=>rw [jS hg];exact he _ (List.getElem_mem hj)
 | i+1,hj,hg =>
  have hi:M[i]?=some (M[i]'(by omega)):=List.getElem?_eq_getElem (by omega);rw [ig hg hi,he _ (List.getElem_mem hj)];exact (List.pairwise_iff_getElem.1 hs) i (i+1) (by omega) hj (by omega)
theorem rc {a b:ac} (h:aK b a=false) (hd:¬(a.1=b.1∧a.2.1=b.2.1)):aK a b=true:=by
 have h1:=ql a.1 b.1 a.2.1 b.2.1;unfold aK at h ⊢;rw [h,Bool.or_false] at h1;rw [h1];by_cases e:a.1=b.1
 · have:¬a.2.1=b.2.1:=fun e2=>hd ⟨e,e2⟩
   simp [this]
 · simp [e]
def jD (L:List ac):Prop:=L.Pairwise (fun a b=>¬(a.1=b.1∧a.2.1=b.2.1))
theorem jk {A B:List ac} (h:jD A) (p:A.Perm B):jD B :=
 (List.Perm.pairwise_iff (fun {_ _} h e=>h ⟨e.1.symm,e.2.symm⟩) p).1 h
theorem pP {M:List ac} (hw:kp M) (hu:jD M):rL M:=by
 refine (List.Pairwise.and hw hu).imp ?_;rintro a b ⟨h1,h2⟩;exact rc h1 h2
theorem sE {F G:List ac} (u:jD F) (p:F.Perm G):aQ F=aQ G :=
 fL (pP (bJ F).1 (jk u (bJ F).2.symm)) (bJ G).1 ((bJ F).2.trans (p.trans (bJ G).2.symm))
end Go.Proofs.YtlmgojlffgkciaaGreat

namespace Go.Proofs.YtlmgojlffgkciaaGreat
open Go.RowKit
def gF (T:List ae):ByteArray:=match T[0]? with | some r=>eW (aY r.1) T | none=>⟨#[]⟩
def eD (T:List ae):ByteArray:=match T[0]? with | some r=>dh (aR r.1) T | none=>⟨#[]⟩
def AB (T N:List ae):List ae:=N.filter (dV (gF T) (eD T))
def ki (T N:List ae):List ae:=N.filter (fun r=>!dV (gF T) (eD T) r)
def cf (T N:List ae):List ae:=T++AB T N
def iq (T N C:List ae) (nx:Int):Bool:=decide (nx=2) || decide ((C.filter (dV (gF (cf T N)) (eD (cf T N)))).length=0)
def qN (T N C:List ae) (S:List Int) (nx:Int):List ac:=bC (aQ (aH (cf T N)).flatten) S (iq T N C nx)
def bw (L:List ac):List ae:=(dU L L.length).1
def dw (T N C:List ae) (S:List Int) (nx:Int):List ae:=dr (ki T N) (bw (qN T N C S nx))
def ku (T N C:List ae) (S:List Int) (nx:Int):Bool:=cV (dw T N C S nx) && decide ((dw T N C S nx).length≤8)
theorem eT {a b:ByteArray} (h:Op.bytesLess a.toList b.toList=true):fU a b=true:=by unfold fU;rw [h];rfl
theorem iD {L:List ac} (h:az L=true):kp L:=by
 have:=(bJ L).1;rwa [fL (fa h) this (bJ L).2.symm]
theorem iC {L:List ac} (h:az L=true) (h1:1≤L.length):fU (aY L) (aR L)=true:=by
 obtain ⟨e,he,e1⟩:=mj h1;rw [e1];exact (fp (iD h) he).2
theorem vV {N:List ae} {k1 k2:ByteArray} {i j:Nat} (h:fi N k1 k2 i j) (hle:fU k1 k2=true) (hok:∀r ∈ N,az r.1=true∧1≤r.1.length):i≤j:=by
 apply Classical.byContradiction;intro hc;have hj:j<N.length:=by have:=h.1;omega
 have hr:=List.getElem?_eq_getElem hj;obtain ⟨a,_,_,d⟩:=h.2.2 j _ hr;have a:=a (by omega);have d:=d (Nat.le_refl _);have hn:=hok _ (List.mem_of_getElem? hr);have h1:=ch (ch hle (eT d)) (iC hn.1 hn.2);rw [dR,a] at h1;cases h1
theorem jR {T:List ae} (h0:1≤T.length) (hok:∀r ∈ T,az r.1=true∧1≤r.1.length):aY (aQ (aH T).flatten)=gF T∧aR (aQ (aH T).flatten)=eD T:=by
 have hr:=List.getElem?_eq_getElem (l:=T) (i:=0) (by omega);have:=uH (List.mem_of_getElem? hr) hok rfl;unfold gF eD;rw [hr];exact this
theorem ju {T:List ae} (h0:1≤T.length) (hok:∀r ∈ T,az r.1=true∧1≤r.1.length):1≤(aQ (aH T).flatten).length:=by
 rw [dF];match T,h0,hok with
 | r :: T,_,hok =>
  have:=(hok r (by simp)).2;simp [aH];omega
theorem mN {T:List ae} (h0:1≤T.length) (hok:∀r ∈ T,az r.1=true∧1≤r.1.length):fU (gF T) (eD T)=true:=by
 obtain ⟨h1,h2⟩:=jR h0 hok;rw [← h1,← h2];obtain ⟨e,he,e1⟩:=mj (ju h0 hok);rw [e1];exact (fp (bJ _).1 he).2
structure fD (T N:List ae):Prop where
 t0:1≤T.length
 tok:∀r ∈ T,az r.1=true∧1≤r.1.length
 nok:∀r ∈ N,az r.1=true∧1≤r.1.length
 ap:bl N=true
 un:jD ((aH T).flatten++(aH N).flatten)
theorem ms (T N:List ae):(AB T N).Sublist N:=List.filter_sublist
theorem jU (A B:List ae):(aH (A++B)).flatten=(aH A).flatten++(aH B).flatten:=by simp [aH]
theorem fD.all {T N:List ae} (h:fD T N):∀r ∈ cf T N,az r.1=true∧1≤r.1.length:=fun r hr=>by
 rcases List.mem_append.1 hr with h1 | h1
 · exact h.tok r h1
 · exact h.nok r ((ms T N).subset h1)
theorem fD.all0 {T N:List ae} (h:fD T N):1≤(cf T N).length:=by
 have:=h.t0;unfold cf;rw [List.length_append];omega
theorem qy {A B:List (List ac)} (h:A.Sublist B):A.flatten.Sublist B.flatten:=by
 induction h with
 | slnil=>exact List.Sublist.refl _
 | cons a _ ih=>rw [List.flatten_cons];exact ih.trans (List.sublist_append_right _ _)
 | cons_cons a _ ih=>rw [List.flatten_cons,List.flatten_cons];exact List.Sublist.append (List.Sublist.refl _) ih
theorem fD.unAll {T N:List ae} (h:fD T N):jD (aH (cf T N)).flatten:=by
 unfold cf;rw [jU];refine List.Pairwise.sublist ?_ h.un;exact List.Sublist.append (List.Sublist.refl _) (qy ((ms T N).map _))
theorem uV {T:List ae} (hok:∀r ∈ T,az r.1=true∧1≤r.1.length):∀e ∈ (aH T).flatten,dc e.1 e.2.1 e.2.2.1 e.2.2.2.1 e.2.2.2.2=true:=fun e he=>by
 obtain ⟨L,hL,h1⟩:=List.mem_flatten.1 he
 obtain ⟨r,hr,rfl⟩:=List.mem_map.1 hL
 obtain ⟨j,hj⟩:=List.getElem?_of_mem h1
 exact ep (hok r hr).1 hj
theorem fD.right {T N:List ae} (h:fD T N):az (aQ (aH (cf T N)).flatten)=true:=by
 obtain ⟨h1,h2⟩:=bJ (aH (cf T N)).flatten;exact je (pP h1 (jk h.unAll h2.symm)) (fun e he=>uV h.all e (h2.subset he))
theorem fD.cut {T N:List ae} (h:fD T N) {i j:Nat} (hm:fi N (gF T) (eD T) i j):i≤j∧AB T N=(N.drop i).take (j - i)∧ki T N=N.take i++N.drop j:=by
 have hij:=vV hm (mN h.t0 h.tok) h.nok;exact ⟨hij,mL hm hij⟩
theorem fD.merged {T N:List ae} (h:fD T N) {i j:Nat} (hm:fi N (gF T) (eD T) i j):aQ (aH ((N.drop i).take (j - i))++[aQ (aH T).flatten]).flatten=aQ (aH (cf T N)).flatten:=by
 refine (sE h.unAll ?_).symm;rw [← (h.cut hm).2.1];unfold cf;rw [jU,List.flatten_append];simp only [List.flatten_cons,List.flatten_nil,List.append_nil];exact List.perm_append_comm.trans (List.Perm.append_left _ (bJ _).2.symm)
theorem fD.bare {T N C:List ae} (h:fD T N) (hC:∀r ∈ C,az r.1=true∧1≤r.1.length) {i j:Nat} (hm:fi C (gF (cf T N)) (eD (cf T N)) i j) (nx:Int):(decide (nx=2) || decide (i=j))=iq T N C nx:=by
 have hij:=vV hm (mN h.all0 h.all) hC;have hf:=(mL hm hij).1;unfold iq;rw [hf,List.length_take,List.length_drop];have:=hm.1;have:=hm.2.1;congr 1
 rw [decide_eq_decide];omega
theorem wX {L:List ac} (h:kp L) {a c:Nat} (hac:a≤c) (hc:c<L.length):fU (tw L a) (tw L c)=true:=by
 rw [fG (List.getElem?_eq_getElem (show a<L.length by omega)),fG (List.getElem?_eq_getElem hc)];by_cases e:a=c
 · subst e;exact ee _
 · exact nE ((List.pairwise_iff_getElem.1 h) a c (by omega) hc (by omega))
theorem p9 {L:List ac} {a b:Nat} (hab:a<b):aY (dJ L a b).1=tw L a:=by
 have h:(dJ L a b).1[0]?=L[a]?:=by
  show ((L.drop a).take (b - a))[0]?=_
  rw [List.getElem?_take_of_lt (by omega),List.getElem?_drop,Nat.add_zero]
 unfold aY tw;rw [h];cases L[a]? <;> rfl
theorem xB {L:List ac} {a b:Nat} (hb:b≤L.length):(dJ L a b).1.length=b - a:=by
 show ((L.drop a).take (b - a)).length=_
 rw [List.length_take,List.length_drop];omega
theorem kV (L:List ac):∀k,k≤L.length→(dU L k).2≤k∧(∀r ∈ (dU L k).1,∃a b,a<b∧b≤(dU L k).2∧r=dJ L a b)∧(dU L k).1.Pairwise (fun r s=>∃a b c d,a<b∧b≤c∧c<d∧d≤L.length∧r=dJ L a b∧s=dJ L c d)
 | 0,_=>⟨Nat.le_refl _,(fun r h=>by cases h),List.Pairwise.nil⟩
 | k+1,hk=>by
  obtain ⟨h1,h2,h3⟩:=kV L k (by omega)
  obtain ⟨B,f,hB⟩:∃B f,dU L k=(B,f):=⟨_,_,rfl⟩
  rw [hB] at h1 h2 h3
  simp only at h1 h2 h3
  cases hc:eE L f (k+1) with
  | false=>rw [wL hB hc];exact ⟨by omega,h2,h3⟩
  | true =>
   rw [tQ hB hc]
   refine ⟨Nat.le_refl _,fun r hr=>?_,?_⟩
   · rcases List.mem_append.1 hr with h | h
     · obtain ⟨a,b,x1,x2,x3⟩:=h2 r h
       exact ⟨a,b,x1,by show b≤k+1;omega,x3⟩
     · rw [List.mem_singleton] at h
       exact ⟨f,k+1,by omega,Nat.le_refl _,h⟩
   · rw [List.pairwise_append]
     refine ⟨h3,List.pairwise_singleton _ _,fun r hr s hs=>?_⟩
     rw [List.mem_singleton] at hs
     obtain ⟨a,b,x1,x2,x3⟩:=h2 r hr
     exact ⟨a,b,f,k+1,x1,x2,by omega,hk,x3,hs⟩
theorem wJ {L:List ac} {r:ae} (h:r ∈ bw L):∃a b,a<b∧b≤L.length∧r=dJ L a b:=by
 obtain ⟨h1,h2,_⟩:=kV L L.length (Nat.le_refl _);obtain ⟨a,b,x1,x2,x3⟩:=h2 r h;exact ⟨a,b,x1,by omega,x3⟩
theorem rF {L:List ac} {r:ae} (h:r ∈ bw L):1≤r.1.length:=by
 obtain ⟨a,b,x1,x2,rfl⟩:=wJ h;rw [xB x2];omega
theorem wI {L:List ac} {r:ae} (h:r ∈ bw L):∀e ∈ r.1,e ∈ L:=by
 obtain ⟨a,b,x1,x2,rfl⟩:=wJ h;intro e he;exact List.mem_of_mem_drop (List.mem_of_mem_take he)
theorem wK {L:List ac} {r:ae} (h:r ∈ bw L):∃e ∈ L,aY r.1=e.1:=by
 obtain ⟨e,he,e1⟩:=mj (rF h);exact ⟨e,wI h e he,e1⟩
theorem Aj {L:List ac} (hw:kp L):(bw L).Pairwise (fun a b=>mw (aY a.1) (aY b.1)=false):=by
 refine (kV L L.length (Nat.le_refl _)).2.2.imp ?_;rintro r s ⟨a,b,c,d,h1,h2,h3,h4,rfl,rfl⟩;rw [p9 h1,p9 h3,rp];have:=wX hw (a:=a) (c:=c) (by omega) (by omega);rw [dR] at this;simpa using this
theorem us {L:List ac} {S:List Int} {b:Bool} {e:ac} (h:e ∈ bC L S b):∃x ∈ L,x.1=e.1:=by
 unfold bC at h;split at h
 · have hs:=o9 S b (Sq.parts fm L);rw [Sq.parts_flat] at hs;obtain ⟨x,hx,e1⟩:=List.mem_map.1 (hs.subset (List.mem_map.2 ⟨e,h,rfl⟩));exact ⟨x,hx,congrArg (fun p:ByteArray × Int=>p.1) e1⟩
 · cases h
theorem kZ {N:List ae} (h:bl N=true) (hok:∀r ∈ N,az r.1=true∧1≤r.1.length):∀d a,a+(d+1)<N.length→∀x y,N[a]?=some x→N[a+(d+1)]?=some y→Op.bytesLess (aR x.1).toList (aY y.1).toList=true
 | 0,a,hl,x,y,hx,hy=>by
  have h1:=(List.all_eq_true.1 h) (a+1) (List.mem_range.2 (by omega))
  rw [mA hy (by omega) (by simpa using hx)] at h1
  exact h1
 | d+1,a,hl,x,y,hx,hy=>by
  have hz:=List.getElem?_eq_getElem (l:=N) (i:=a+(d+1)) (by omega)
  have ih:=kZ h hok d a (by omega) x _ hx hz
  have h1:=(List.all_eq_true.1 h) (a+(d+1+1)) (List.mem_range.2 (by omega))
  rw [mA hy (by omega) (by rw [show a+(d+1+1) - 1=a+(d+1) by omega];exact hz)] at h1
  have hzz:=hok _ (List.mem_of_getElem? hz)
  have hlh:=iC hzz.1 hzz.2
  have e1:fU (aR x.1) (aY y.1)=true:=ch (ch (eT ih) hlh) (eT h1)
  cases hg:Op.bytesLess (aR x.1).toList (aY y.1).toList with
  | true=>rfl
  | false =>
   have e2:fU (aY y.1) (aR x.1)=true:=by rw [dR,hg];rfl
   have e3:=ch e2 (ch (eT ih) hlh)
   rw [dR] at e3
   have h1':Op.bytesLess (aR (N[a+(d+1)]'(by omega)).1).toList (aY y.1).toList=true:=h1
   rw [h1'] at e3
   cases e3
theorem oM {a b c:ByteArray} (h1:fU a b=true) (h2:Op.bytesLess b.toList c.toList=true):Op.bytesLess a.toList c.toList=true:=by
 cases hg:Op.bytesLess a.toList c.toList with
 | true=>rfl
 | false =>
  have e2:fU c a=true:=by rw [dR,hg];rfl
  have e3:=ch e2 h1;rw [dR,h2] at e3;cases e3
theorem vN {T N C:List ae} {S:List Int} {nx:Int} {e:ac} (h:e ∈ qN T N C S nx):∃r ∈ cf T N,∃x ∈ r.1,x.1=e.1:=by
 obtain ⟨x,hx,e1⟩:=us h;have hx:=(bJ _).2.subset hx;obtain ⟨L,hL,h1⟩:=List.mem_flatten.1 hx;obtain ⟨r,hr,rfl⟩:=List.mem_map.1 hL;exact ⟨r,hr,x,h1,e1⟩
theorem fD.runs {T N:List ae} (h:fD T N) (C:List ae) (S:List Int) (nx:Int) {i j:Nat} (hm:fi N (gF T) (eD T) i j):dw T N C S nx=N.take i++bw (qN T N C S nx)++N.drop j:=by
 obtain ⟨hij,hin,hoff⟩:=h.cut hm;have hLH:=jR h.t0 h.tok;have hw:kp (qN T N C S nx):=iD (fZ h.right S _);have hT:∀r ∈ T,∀x ∈ r.1,fU (gF T) x.1=true∧fU x.1 (eD T)=true:=fun r hr x hx=>by
  have:=fp (bJ (aH T).flatten).1 (e:=x) ((bJ _).2.symm.subset (List.mem_flatten.2 ⟨r.1,List.mem_map.2 ⟨r,hr,rfl⟩,hx⟩));rwa [hLH.1,hLH.2] at this
 have hN:∀r ∈ AB T N,∃t,i≤t∧t<j∧N[t]?=some r:=fun r hr=>by
  rw [hin] at hr;obtain ⟨t,ht⟩:=List.getElem?_of_mem hr;have hl:=(List.getElem?_eq_some_iff.1 ht).1;rw [List.length_take,List.length_drop] at hl;rw [List.getElem?_take_of_lt (by omega),List.getElem?_drop] at ht;exact ⟨i+t,by omega,by omega,ht⟩
 unfold dw;rw [hoff];refine oy _ _ _ (fun r hr z hz=>?_) (fun x hx r hr=>?_) (Aj hw)
 · obtain ⟨e,he,e1⟩:=wK hr;obtain ⟨r',hr',x,hx,e2⟩:=vN he;rw [rp,e1,← e2];obtain ⟨u,hu⟩:=List.getElem?_of_mem hz;rw [List.getElem?_drop] at hu;have hul:=(List.getElem?_eq_some_iff.1 hu).1;rcases List.mem_append.1 hr' with h1 | h1
   · exact oM (hT r' h1 x hx).2 ((hm.2.2 _ _ hu).2.2.2 (by omega))
   · obtain ⟨t,t1,t2,t3⟩:=hN r' h1;have hok:=h.nok _ (List.mem_of_getElem? t3);have:=kZ h.ap h.nok (j+u - t - 1) t (by omega) r' z t3 (by rw [show t+(j+u - t - 1+1)=j+u by omega];exact hu);exact oM (fp (iD hok.1) hx).2 this
 · obtain ⟨e,he,e1⟩:=wK hr;obtain ⟨r',hr',y,hy,e2⟩:=vN he;obtain ⟨u,hu⟩:=List.getElem?_of_mem (List.mem_of_getLast? hx);have hul:=(List.getElem?_eq_some_iff.1 hu).1;rw [List.length_take] at hul;rw [List.getElem?_take_of_lt (by omega)] at hu;have hokx:=h.nok _ (List.mem_of_getElem? hu);have hxl:=iC hokx.1 hokx.2;have hfin:fU (aY x.1) y.1=true:=by
    rcases List.mem_append.1 hr' with h1 | h1
    · exact ch (ch hxl (eT ((hm.2.2 _ _ hu).1 (by omega)))) (hT r' h1 y hy).1
    · obtain ⟨t,t1,t2,t3⟩:=hN r' h1;have hok:=h.nok _ (List.mem_of_getElem? t3);have htl:=(List.getElem?_eq_some_iff.1 t3).1;have:=kZ h.ap h.nok (t - u - 1) u (by omega) x r' hu (by rw [show u+(t - u - 1+1)=t by omega];exact t3);exact ch (ch hxl (eT this)) (fp (iD hok.1) hy).1
   rw [rp,e1,← e2];rw [dR] at hfin;simpa using hfin
theorem fD.fits {T N:List ae} (h:fD T N) (hN:∀r ∈ N,r.1.length≤150) (C:List ae) (S:List Int) (nx:Int) {i j:Nat} (hm:fi N (gF T) (eD T) i j):cV (dw T N C S nx)=cV (bw (qN T N C S nx)):=by
 rw [h.runs C S nx hm];unfold cV;rw [List.all_append,List.all_append];have h1:(N.take i).all (fun r=>decide (r.1.length≤150))=true:=List.all_eq_true.2 fun r hr=>decide_eq_true (hN r (List.mem_of_mem_take hr))
 have h2:(N.drop j).all (fun r=>decide (r.1.length≤150))=true:=List.all_eq_true.2 fun r hr=>decide_eq_true (hN r (List.mem_of_mem_drop hr))
 rw [h1,h2];simp
end Go.Proofs.YtlmgojlffgkciaaGreat

namespace Go.Proofs.YtlmgojlffgkciaaGreat
open Go.RowKit
set_option maxRecDepth 100000
set_option maxHeartbeats 8000000
theorem ln (m:Int) (s:Option Addr) (n c:Nat) (L:List ac) (w:World) (h:af w s n c L) (hn:1≤n) :
 Calls Tryz.prog 118 #[.agg #[.slice s n c,iT m]] w fun r w'=>r=.returned (.string (aY L))∧Bl w w':=by
 obtain ⟨b,off,rfl,_⟩:=h.form hn;have hg:=List.getElem?_eq_getElem (show 0<L.length by have:=h.length;omega);have:=vO m b off n c L w h _ hg;unfold aY;rw [hg];exact this
theorem pV (m:Int) (s:Option Addr) (n c:Nat) (L:List ac) (w:World) (h:af w s n c L) (hn:1≤n) :
 Calls Tryz.prog 117 #[.agg #[.slice s n c,iT m]] w fun r w'=>r=.returned (.string (aR L))∧Bl w w':=by
 obtain ⟨b,off,rfl,_⟩:=h.form hn;have hl:=h.length;have hg:=List.getElem?_eq_getElem (show L.length - 1<L.length by omega);have:=ss m b off n c L w h _ (by rw [← hl];exact hg) hn;unfold aR;rw [hg];exact this
theorem yV (m:Int) (s:Option Addr) (n c:Nat) (L:List ac) (low high:ByteArray) (w:World) (h:af w s n c L) (hn:1≤n) :
 Calls Tryz.prog 191 #[.agg #[.slice s n c,iT m],.string low,.string high] w fun e w'=>e=.returned (.bool (dV low high (L,m)))∧Bl w w':=by
 obtain ⟨X,hX⟩:=ay w.heap.size;obtain ⟨W,hW⟩:=ay (w.alloc (.cells #[.slice s n c,iT m] 102));have kW:Bl w W:=by rw [hW];exact bZ
 have x0:W.cell? ⟨X,0,none⟩=some (.slice s n c):=by rw [hW,hX];simp
 have x1:W.cell? ⟨X,1,none⟩=some (iT m):=by rw [hW,hX];simp
 have xz:X<W.heap.size:=World.block_lt_of_cell? _ _ x0;have K0:Hid (Bl w W):=kW;have HE:=bc h;obtain ⟨lo,hlo⟩:=ay (aY L);obtain ⟨hi,hhi⟩:=ay (aR L);have CL:Hid (∀w',Bl w w'→Calls Tryz.prog 118 #[.agg #[.slice s n c,iT m]] w' fun r w''=>r=.returned (.string lo)∧Bl w' w''):=by rw [hlo];exact fun w' k=>ln m s n c L w' (h.keep k) hn
 have CH:Hid (∀w',Bl w w'→Calls Tryz.prog 117 #[.agg #[.slice s n c,iT m]] w' fun r w''=>r=.returned (.string hi)∧Bl w' w''):=by rw [hhi];exact fun w' k=>pV m s n c L w' (h.keep k) hn
 have HM:Hid (dV low high (L,m)=(fU lo high && fU low hi)):=by rw [hlo,hhi];rfl
 clear h kW hlo hhi;go_enter Tryz.func191,Tryz.ntmps191
 go_wp2_with fail
 rw [← hW];clear hW;refine (CL.out _ K0.out).mono ?_;rintro e w1 ⟨rfl,hb1⟩;have K1:Hid (Bl w w1):=K0.out.trans (hb1.mono K0.out.size);have x0:=cell_later hb1 x0;have x1:=cell_later hb1 x1;have xz:=Nat.lt_of_lt_of_le xz hb1.size;rw [← hX];clear hb1 hX;cases h1:(Op.bytesLess lo.toList high.toList || lo.toList == high.toList) with
 | false =>
  have HF:Hid (fU lo high=false):=h1;go_wp2;go_ret;exact ⟨by rw [HM.out,HF.out];rfl,K1.out⟩
 | true =>
  have HT:Hid (fU lo high=true):=h1;go_wp2_with fail
  refine (CH.out _ K1.out).mono ?_;rintro e w2 ⟨rfl,hb2⟩;have K2:Hid (Bl w w2):=K1.out.trans (hb2.mono K1.out.size);clear hb2;go_wp2;go_ret;exact ⟨by rw [HM.out,HT.out];simp [fU],K2.out⟩
theorem su (a:Option Addr) (n c:Nat) (B:List ae) (w:World) (h:aj 0 w a n c B) (hn:n≤1048576) :
 Calls Tryz.prog 158 #[.slice a n c] w fun e w'=>e=.returned (.bool (cV B && decide (n≤8)))∧Bl w w':=by
 have HB:=bc h;have HL:Hid (B.length=n):=h.length;obtain ⟨F,hF⟩:=ay ((cV B && decide (n≤8)));have HF:Hid (F=(cV B && decide (n≤8))):=hF;rw [← hF];clear h hF;go_enter Tryz.func158,Tryz.ntmps158
 go_wp2;go_loopw [3] (fun iv wr=>∃i:Nat,i≤n∧iv=iT i∧(∀j r,j<i→B[j]?=some r→r.1.length≤150)∧wr=w) (fun iv _=>n - (intOf iv).toNat)
 case atStart=>exact ⟨0,Nat.zero_le _,rfl,(fun j r hj _=>absurd hj (Nat.not_lt_zero _)),rfl⟩
 case round =>
  obtain ⟨i,hin,rfl,hok,rfl⟩:=hrel;have HOK:Hid (∀j r,j<i→B[j]?=some r→r.1.length≤150):=hok;clear hok;by_cases hlt:i<n
  · have hltI:(i:Int)<(n:Int):=by omega
    obtain ⟨b,off,rfl,hbb⟩:=HB.out.form (by omega);obtain ⟨L,m,s,len,cap,hg,_,c0,_,hE⟩:=HB.out.run (Below.refl _ wr) i hlt;have HG:Hid (B[i]?=some (L,m)):=hg;have HLL:Hid (L.length=len):=hE.1.length;have hbig:=hE.1.big;have hroom:=hE.1.room;unfold maxLen at hbig;clear hg hE;by_cases h150:150<len
    · have h150I:(len:Int) > 150:=by omega
      have h150J:(150:Int)<(len:Int):=by omega
      go_wp2;go_ret;exact ⟨by rw [HF.out,AX HG.out (by have:=HLL.out;show 150<L.length;omega)];rfl,Below.refl _ _⟩
    · have h150I:¬(len:Int) > 150:=by omega
      have h150J:¬(150:Int)<(len:Int):=by omega
      go_wp2;go_roundw
      case rel =>
       refine ⟨i+1,by omega,by go_num,fun j r hj hr=>?_,by first | rfl | trivial⟩;by_cases hji:j<i
       · exact HOK.out j r hji hr
       · have:j=i:=by omega
         subst this;rw [HG.out] at hr;cases hr;have:=HLL.out;show L.length≤150
         omega
      case measure=>simp [intOf];omega
  · have hltI:¬(i:Int)<(n:Int):=by omega
    have HYES:Hid (cV B=true):=Ab HL.out (fun j r hj hr=>HOK.out j r (by omega) hr);by_cases h8:n≤8
    · have h8I:(n:Int)≤8:=by omega
      go_wp2;go_ret;exact ⟨by rw [HF.out,HYES.out,decide_eq_true h8];rfl,Below.refl _ _⟩
    · have h8I:¬(n:Int)≤8:=by omega
      go_wp2;go_ret;exact ⟨by rw [HF.out,HYES.out,decide_eq_false h8];rfl,Below.refl _ _⟩
theorem l8 (b off n c:Nat) (B:List ae) (r0:ae) (w:World) (h:aj 0 w (some ⟨b,off,none⟩) n c B) (h0:B[0]?=some r0) (hne:∀r ∈ B,1≤r.1.length) (hn:n≤1048576) :
 Calls Tryz.prog 152 #[sO b off n c] w fun e w'=>e=.returned (.tuple #[.string (eW (aY r0.1) B),.string (dh (aR r0.1) B)])∧Bl w w':=by
 have HB:=bc h;have HL:Hid (B.length=n):=h.length;have HNE:=bc hne;have hn1:1≤n:=by have:=(List.getElem?_eq_some_iff.1 h0).1;have:=h.length;omega
 have hnI:(0:Int)<(n:Int):=by omega
 have hbb:=(h.lies _ rfl (by omega)).1;simp only at hbb;have CLH:Hid (∀(i:Nat) (w':World),Bl w w'→i<n→∃L m s len cap,B[i]?=some (L,m)∧w'.cell? ⟨b,off+i*2,none⟩=some (.slice s len cap)∧w'.cell? ⟨b,off+i*2+1,none⟩=some (iT m)∧b<w'.heap.size ∧
  (∀w'',Bl w' w''→Calls Tryz.prog 118 #[.agg #[.slice s len cap,iT m]] w'' fun r w3=>r=.returned (.string (aY L))∧Bl w'' w3) ∧
  (∀w'',Bl w' w''→Calls Tryz.prog 117 #[.agg #[.slice s len cap,iT m]] w'' fun r w3=>r=.returned (.string (aR L))∧Bl w'' w3)):=fun i w' k hi=>by
  obtain ⟨L,m,s,len,cap,hg,_,c0,c1,hE⟩:=HB.out.run k i hi;have hl:1≤len:=by have h1:=HNE.out _ (List.mem_of_getElem? hg);have h2:=hE.1.length;simp only at h1;omega
  exact ⟨L,m,s,len,cap,hg,c0,c1,Nat.lt_of_lt_of_le hbb k.size,fun w'' k'=>ln m s len cap L w'' (hE.1.keep k') hl,fun w'' k'=>pV m s len cap L w'' (hE.1.keep k') hl⟩
 have HE0:=bc h0;clear h h0 hne HB;go_enter Tryz.func152,Tryz.ntmps152
 obtain ⟨L,m,s,len,cap,hg,c0,c1,hz,CL,CH⟩:=CLH.out 0 w (Below.refl _ _) (by omega);rw [HE0.out] at hg;cases hg;simp only [Nat.zero_mul,Nat.add_zero] at c0 c1;go_wp2_with fail
 refine (CL _ (Below.refl _ _)).mono ?_;rintro e w1 ⟨rfl,hb1⟩;have K1:Hid (Bl w w1):=hb1;have c0:=cell_later hb1 c0;have c1:=cell_later hb1 c1;have hz:=Nat.lt_of_lt_of_le hz hb1.size;clear hb1;go_wp2_with fail
 refine (CH _ K1.out).mono ?_;rintro e w2 ⟨rfl,hb2⟩;have K2:Hid (Bl w w2):=K1.out.trans (hb2.mono K1.out.size);clear c0 c1 hz hb2 CL CH K1;go_wp2;go_loopw [4,5,6] (fun lv hv iv wr=>∃(i:Nat) (lo hi:ByteArray),1≤i∧i≤n∧iv=iT i∧lv=.string lo∧hv=.string hi∧lo=eW (aY L) (B.take i)∧hi=dh (aR L) (B.take i)∧Bl w wr) (fun _ _ iv _=>n - (intOf iv).toNat)
 case atStart =>
  have e1:B.take 1=[(L,m)]:=by rw [List.take_add_one,HE0.out];simp
  refine ⟨1,aY L,aR L,Nat.le_refl _,hn1,rfl,rfl,rfl,?_,?_,K2.out⟩
  · rw [e1];simp [eW,dK]
  · rw [e1];simp [dh,mw]
 case round =>
  obtain ⟨i,lo,hi,hi1,hin,rfl,rfl,rfl,hlo,hhi,hb⟩:=hrel;have HLO:Hid (lo=eW (aY L) (B.take i)):=hlo;have HHI:Hid (hi=dh (aR L) (B.take i)):=hhi;have HB1:Hid (Bl w wr):=hb;clear hlo hhi K2;by_cases hlt:i<n
  · have hltI:(i:Int)<(n:Int):=by omega
    obtain ⟨L',m',s',len',cap',hg,c0,c1,hz,CL,CH⟩:=CLH.out i wr hb hlt;have HG:Hid (B[i]?=some (L',m')):=hg;obtain ⟨kl,hkl⟩:=ay (aY L');obtain ⟨kh,hkh⟩:=ay (aR L');have HKL:Hid (kl=aY L'):=hkl;have HKH:Hid (kh=aR L'):=hkh;rw [← hkl] at CL;rw [← hkh] at CH;have CL':=bc CL;have CH':=bc CH;clear hg hb hkl hkh CL CH;go_wp2_with fail
    refine (CL'.out _ (Below.refl _ _)).mono ?_;rintro e w1 ⟨rfl,hb1⟩;have K1:Hid (Bl wr w1):=hb1;have c0:=cell_later hb1 c0;have c1:=cell_later hb1 c1;have hz:=Nat.lt_of_lt_of_le hz hb1.size;clear hb1;cases h1:Op.bytesLess kl.toList lo.toList with
    | true =>
     have HLO2:Hid (kl=eW (aY L) (B.take (i+1))):=by show _=_;rw [qj _ HG.out,← HLO.out,← HKL.out,h1];rfl
     go_wp2_with fail
     refine (CL'.out _ K1.out).mono ?_;rintro e w2 ⟨rfl,hb2⟩;have K2:Hid (Bl wr w2):=K1.out.trans (hb2.mono K1.out.size);have c0:=cell_later hb2 c0;have c1:=cell_later hb2 c1;have hz:=Nat.lt_of_lt_of_le hz hb2.size;clear hb2;go_wp2_with fail
     refine (CH'.out _ K2.out).mono ?_;rintro e w3 ⟨rfl,hb3⟩;have K3:Hid (Bl wr w3):=K2.out.trans (hb3.mono K2.out.size);have c0:=cell_later hb3 c0;have c1:=cell_later hb3 c1;have hz:=Nat.lt_of_lt_of_le hz hb3.size;clear hb3;cases ha:Op.bytesLess kh.toList hi.toList with
     | true =>
      have HHI2:Hid (hi=dh (aR L) (B.take (i+1))):=by show _=_;rw [fw _ HG.out,← HHI.out,← HKH.out];simp [mw,ha]
      have K4:Hid (Bl w w3):=HB1.out.trans (K3.out.mono HB1.out.size);clear c0 c1 hz;go_wp2;go_roundw
      case rel=>exact ⟨i+1,kl,hi,by omega,by omega,by go_num,rfl,rfl,HLO2.out,HHI2.out,K4.out⟩
      case measure=>simp [intOf];omega
     | false =>
      cases hb:(kh.toList == hi.toList) with
      | true =>
       have HHI2:Hid (hi=dh (aR L) (B.take (i+1))):=by show _=_;rw [fw _ HG.out,← HHI.out,← HKH.out];simp [mw,hb]
       have K4:Hid (Bl w w3):=HB1.out.trans (K3.out.mono HB1.out.size);clear c0 c1 hz;go_wp2;go_roundw
       case rel=>exact ⟨i+1,kl,hi,by omega,by omega,by go_num,rfl,rfl,HLO2.out,HHI2.out,K4.out⟩
       case measure=>simp [intOf];omega
      | false =>
       have HHI2:Hid (kh=dh (aR L) (B.take (i+1))):=by show _=_;rw [fw _ HG.out,← HHI.out,← HKH.out];simp [mw,ha,hb]
       go_wp2_with fail
       refine (CH'.out _ K3.out).mono ?_;rintro e w4 ⟨rfl,hb4⟩;have K4:Hid (Bl w w4):=HB1.out.trans ((K3.out.trans (hb4.mono K3.out.size)).mono HB1.out.size);clear hb4 c0 c1 hz;go_wp2;go_roundw
       case rel=>exact ⟨i+1,kl,kh,by omega,by omega,by go_num,rfl,rfl,HLO2.out,HHI2.out,K4.out⟩
       case measure=>simp [intOf];omega
    | false =>
     have HLO2:Hid (lo=eW (aY L) (B.take (i+1))):=by show _=_;rw [qj _ HG.out,← HLO.out,← HKL.out,h1];rfl
     have K2:Hid (Bl wr w1):=K1.out;go_wp2_with fail
     refine (CH'.out _ K2.out).mono ?_;rintro e w3 ⟨rfl,hb3⟩;have K3:Hid (Bl wr w3):=K2.out.trans (hb3.mono K2.out.size);have c0:=cell_later hb3 c0;have c1:=cell_later hb3 c1;have hz:=Nat.lt_of_lt_of_le hz hb3.size;clear hb3;cases ha:Op.bytesLess kh.toList hi.toList with
     | true =>
      have HHI2:Hid (hi=dh (aR L) (B.take (i+1))):=by show _=_;rw [fw _ HG.out,← HHI.out,← HKH.out];simp [mw,ha]
      have K4:Hid (Bl w w3):=HB1.out.trans (K3.out.mono HB1.out.size);clear c0 c1 hz;go_wp2;go_roundw
      case rel=>exact ⟨i+1,lo,hi,by omega,by omega,by go_num,rfl,rfl,HLO2.out,HHI2.out,K4.out⟩
      case measure=>simp [intOf];omega
     | false =>
      cases hb:(kh.toList == hi.toList) with
      | true =>
       have HHI2:Hid (hi=dh (aR L) (B.take (i+1))):=by show _=_;rw [fw _ HG.out,← HHI.out,← HKH.out];simp [mw,hb]
       have K4:Hid (Bl w w3):=HB1.out.trans (K3.out.mono HB1.out.size);clear c0 c1 hz;go_wp2;go_roundw
       case rel=>exact ⟨i+1,lo,hi,by omega,by omega,by go_num,rfl,rfl,HLO2.out,HHI2.out,K4.out⟩
       case measure=>simp [intOf];omega
      | false =>
       have HHI2:Hid (kh=dh (aR L) (B.take (i+1))):=by show _=_;rw [fw _ HG.out,← HHI.out,← HKH.out];simp [mw,ha,hb]
       go_wp2_with fail
       refine (CH'.out _ K3.out).mono ?_;rintro e w4 ⟨rfl,hb4⟩;have K4:Hid (Bl w w4):=HB1.out.trans ((K3.out.trans (hb4.mono K3.out.size)).mono HB1.out.size);clear hb4 c0 c1 hz;go_wp2;go_roundw
       case rel=>exact ⟨i+1,lo,kh,by omega,by omega,by go_num,rfl,rfl,HLO2.out,HHI2.out,K4.out⟩
       case measure=>simp [intOf];omega
  · have hltI:¬(i:Int)<(n:Int):=by omega
    have hfull:B.take i=B:=List.take_of_length_le (by rw [HL.out];omega);have h1:=HLO.out;have h2:=HHI.out;rw [hfull] at h1 h2;have H1:Hid (lo=eW (aY L) B):=h1;have H2:Hid (hi=dh (aR L) B):=h2;clear h1 h2 hfull;go_wp2;exact bodyPost_ret (v:=.tuple #[.string lo,.string hi]) (by simp [results,Tryz.results152,go_sem]) rfl ⟨by rw [H1.out,H2.out],HB1.out⟩
end Go.Proofs.YtlmgojlffgkciaaGreat
