/- Walks. -/
import Derived.Test.YtpobkmjicbobdaaGreatBc06
namespace Go.Proofs.YtpobkmjicbobdaaGreat
set_option maxRecDepth 100000
set_option maxHeartbeats 40000000
open Go.RowKit Go.Sort
variable {A L:List ae} {X Z:List aj} {e x y:ae} {f i k:Nat} {r:aj}
def aW (x y:ae):Bool:=bI x.1 x.2.1 y.1 y.2.1
theorem ji {z:ae} (h1:aW x y=false) (h2:aW y z=false):aW x z=false:=by
 have:=BP.ntrans x y z;rw [gW,gW,gW] at this;exact this h1 h2
def mC (L:List ae):Prop:=L.Pairwise (fun a b=>aW b a=false)
def tU (L:List ae):Prop:=L.Pairwise (fun a b=>aW a b=true)
theorem mT (L:List ae) (e:ae):∀n p x,lh L e n≤p→p<n→L[p]?=some x→aW e x=true
 | 0,p,x,_,h2,_=>absurd h2 (Gy _)
 | n+1,p,x,h1,h2,h3=>by
  unfold lh at h1
  cases hn:L[n]? with
  | none=>rw [hn] at h1;simp at h1;omega
  | some y =>
   rw [hn] at h1
   simp only at h1
   by_cases hl:bI e.1 e.2.1 y.1 y.2.1=true
   · rw [if_pos hl] at h1
     by_cases hp:p=n
     · subst hp
       rw [hn] at h3
       cases h3
       exact hl
     · exact mT L e n p x h1 (by omega) h3
   · rw [if_neg hl] at h1
     omega
theorem uM (L:List ae) (e:ae):∀n x,0<lh L e n→L[lh L e n - 1]?=some x→n≤L.length→aW e x=false
 | 0,x,h1,_,_=>absurd h1 (H7 _)
 | n+1,x,h1,h2,h3=>by
  have hn:L[n]?=some (L[n]'(by omega)):=j' (by omega)
  by_cases hl:bI e.1 e.2.1 (L[n]'(by omega)).1 (L[n]'(by omega)).2.1=true
  · have e1:lh L e (n+1)=lh L e n:=by
     conv=>lhs;unfold lh
     simp only [hn,hl,if_true]
    rw [e1] at h1 h2;exact uM L e n x h1 h2 (by omega)
  · have e1:lh L e (n+1)=n+1:=by
     conv=>lhs;unfold lh
     simp only [hn,hl];simp
    rw [e1] at h2;simp only [GG] at h2;rw [hn] at h2;cases h2;simpa [aW] using hl
theorem AP (h:mC L):mC (eE L e):=by
 have s:=wL L e L.length;obtain ⟨k,hk⟩:=aG (lh L e L.length);have hR:∀y ∈ L.drop k,aW e y=true:=by
  intro y hy;obtain ⟨p,hp,rfl⟩:=F7 hy;simp at hp;refine mT L e L.length (k+p) _ (by omega) (by omega) ?_;rw [j' (by omega)];simp
 have hL:∀x ∈ L.take k,aW e x=false:=by
  intro x hx;obtain ⟨p,hp,rfl⟩:=F7 hx;simp at hp;have o:0<k:=by omega
  have g:k - 1<L.length:=by omega
  have h1:aW e (L[k - 1]'g)=false:=uM L e L.length _ (by omega) (by rw [← hk];exact j' g) (Fv _);simp only [Gn];by_cases m:p=k - 1
  · subst m;exact h1
  · have h2:=(F2.1 h) p (k - 1) (by omega) g (by omega);exact ji h1 h2
 have n:mC (L.take k++L.drop k):=by rw [FX];exact h
 have d:=Gl.1 n;unfold eE;rw [← hk];refine Gl.2 ⟨d.1,?_,?_⟩
 · refine Gl.2 ⟨Hg _ _,d.2.1,?_⟩;intro a ha b hb;simp only [FL] at ha;subst ha;exact u6 (hR b hb)
 · intro a ha b hb;rcases FI.1 hb with hb | hb
   · simp only [FL] at hb;subst hb;exact hL a ha
   · exact d.2.2 a ha b hb
theorem uH (L:List ae) (e:ae):(eE L e).Perm (L++[e]):=by
 unfold eE;generalize lh L e L.length=k;have h1:(L.take k++([e]++L.drop k)).Perm (L.take k++(L.drop k++[e])):=List.Perm.append_left _ List.perm_append_comm;have h2:L.take k++(L.drop k++[e])=L++[e]:=by rw [← FT,FX]
 rw [h2] at h1;exact h1
theorem bO (L:List ae):mC (bD L)∧(bD L).Perm L:=by
 have:∀(L A:List ae),mC A→mC (L.foldl eE A)∧(L.foldl eE A).Perm (A++L):=by
  intro L;induction L with
  | nil=>intro A h;exact ⟨h,by simp⟩
  | cons e r b =>
   intro A h;obtain ⟨h1,h2⟩:=b (eE A e) (AP h);refine ⟨h1,?_⟩;rw [List.foldl_cons];refine h2.trans ?_;have:=(uH A e).append_right r;simpa using this
 have h:=this L [] List.Pairwise.nil;simpa [bD] using h
theorem jG {B:List ae} (hA:tU A) (hB:mC B) (d:A.Perm B):A=B:=by
 induction A generalizing B with
 | nil=>exact (List.Perm.nil_eq d)
 | cons a A o =>
  cases B with
  | nil=>exact absurd d.length_eq (by simp)
  | cons b B =>
   have g:a=b:=by
    by_cases e:a=b
    · exact e
    · exfalso
      have hb:b ∈ a :: A:=d.mem_iff.2 (FV ..);have ha:a ∈ b :: B:=d.mem_iff.1 (FV ..);have n:b ∈ A:=(FF.1 hb).resolve_left (fun h=>e h.symm);have m:a ∈ B:=(FF.1 ha).resolve_left e;have h1:=(FR.1 hA).1 b n;have h2:=(FR.1 hB).1 a m;rw [h1] at h2;cases h2
   subst g;rw [o (FR.1 hA).2 (FR.1 hB).2 (List.Perm.cons_inv d)]
theorem gS (h:aJ L=true):tU L:=by
 refine F2.2 ?_;intro i j hi d b;exact ft h b (j' hi) (j' d)
theorem wg (h:L[k]?=some e):bD (L.take (k+1))=eE (bD (L.take k)) e:=by
 unfold bD;rw [FU,h];simp
theorem kf (L:List ae):(bD L).length=L.length:=by
 have:∀(L A:List ae),(L.foldl eE A).length=A.length+L.length:=by
  intro L;induction L with
  | nil=>intro A;simp
  | cons e r b=>intro A;rw [List.foldl_cons,b,mg,F5];omega
 have h:=this L [];simpa [bD] using h
theorem pd (h:aW y x=false):fH x.1 y.1=true:=by
 rw [dL];unfold aW bI at h;rw [Bool.or_eq_false_iff] at h;rw [F1,F1,h.1];rfl
theorem eF (h:mC A) {e:ae} (d:e ∈ A):fH (bn A) e.1=true∧fH e.1 (aU A)=true:=by
 obtain ⟨j,b,rfl⟩:=F7 d;obtain ⟨f,hf,hl⟩:=mn (L:=A) (by omega);obtain ⟨g,hg,hh⟩:=iR (L:=A) (by omega);have hp:=F2.1 h;obtain ⟨h0,rfl⟩:=E'.1 hf;obtain ⟨h1,rfl⟩:=E'.1 hg;rw [hl,hh];constructor
 · by_cases hz:j=0
   · subst hz;exact e9 _
   · exact pd (hp 0 j h0 b (by omega))
 · by_cases hz:j=A.length - 1
   · subst hz;exact e9 _
   · exact pd (hp j (A.length - 1) b h1 (by omega))
theorem lF (h:1≤A.length):∃e ∈ A,bn A=e.1:=by
 obtain ⟨f,hf,hl⟩:=mn (L:=A) (by omega);exact ⟨f,Fw hf,hl⟩
theorem yr (h:1≤A.length):∃e ∈ A,aU A=e.1:=by
 obtain ⟨f,hf,hl⟩:=iR (L:=A) (by omega);exact ⟨f,Fw hf,hl⟩
theorem wJ {B:List aj} {g:aj} (h0:g ∈ B) (n:∀r ∈ B,aJ r.1=true∧1≤r.1.length) {A:List ae} (hA:A=bD (bG B).flatten):bn A=fG (bn g.1) B∧aU A=dw (aU g.1) B:=by
 have hs:=bO (bG B).flatten;rw [← hA] at hs;have b:∀e,e ∈ A ↔ ∃r ∈ B,e ∈ r.1:=fun e=>by
  rw [hs.2.mem_iff,GZ];constructor
  · rintro ⟨l,hl,m⟩;obtain ⟨r,hr,rfl⟩:=Gp.1 hl;exact ⟨r,hr,m⟩
  · rintro ⟨r,hr,m⟩;exact ⟨r.1,Gp.2 ⟨r,hr,rfl⟩,m⟩
 have t:∀r ∈ B,∀e ∈ r.1,fH (bn r.1) e.1=true:=fun r hr e m=>by
  rcases km (n r hr).1 m with h | h
  · rw [h];exact e9 _
  · unfold fH;rw [h];rfl
 have s:∀r ∈ B,∀e ∈ r.1,fH e.1 (aU r.1)=true:=fun r hr e m=>by
  rcases lA (n r hr).1 m with h | h
  · rw [← h];exact e9 _
  · unfold fH;rw [h];rfl
 have u:1≤A.length:=by
  obtain ⟨e,m,_⟩:=lF (n g h0).2;have:e ∈ A:=(b e).2 ⟨g,h0,m⟩;exact List.length_pos_of_mem this
 constructor
 · obtain ⟨e,m,hl⟩:=lF u;obtain ⟨r,hr,o⟩:=(b e).1 m;have h1:fH (fG (bn g.1) B) (bn A)=true:=by rw [hl];exact cK ((yl B _).2 r hr) (t r hr e o)
   have h2:fH (bn A) (fG (bn g.1) B)=true:=by
    have:∃x ∈ B,fG (bn g.1) B=bn x.1:=by
     rcases uW B (bn g.1) with h | h
     · exact ⟨g,h0,h⟩
     · exact h
    obtain ⟨x,hx,e2⟩:=this;obtain ⟨d,hd,e3⟩:=lF (n x hx).2;rw [e2,e3];exact (eF hs.1 ((b d).2 ⟨x,hx,hd⟩)).1
   exact pS h2 h1
 · obtain ⟨e,m,hl⟩:=yr u;obtain ⟨r,hr,o⟩:=(b e).1 m;have h1:fH (aU A) (dw (aU g.1) B)=true:=by rw [hl];exact cK (s r hr e o) ((vf B _).2 r hr)
   have h2:fH (dw (aU g.1) B) (aU A)=true:=by
    have:∃x ∈ B,dw (aU g.1) B=aU x.1:=by
     rcases sC B (aU g.1) with h | h
     · exact ⟨g,h0,h⟩
     · exact h
    obtain ⟨x,hx,e2⟩:=this;obtain ⟨d,hd,e3⟩:=yr (n x hx).2;rw [e2,e3];exact (eF hs.1 ((b d).2 ⟨x,hx,hd⟩)).2
   exact pS h1 h2
def qU (O:List aj) (r:aj):Nat→Nat
 | 0=>0
 | k+1=>match O[k]? with
  | some x=>if nq (bn x.1) (bn r.1) then qU O r k else k+1
  | none=>k+1
def m9 (O:List aj) (r:aj):List aj:=O.take (qU O r O.length)++([r]++O.drop (qU O r O.length))
def dJ (A B:List aj):List aj:=B.foldl m9 A
theorem uL {X Z:List aj} {r:aj} (b:∀z ∈ Z,nq (bn z.1) (bn r.1)=true):∀d,d≤Z.length→qU (X++Z) r (X.length+d)=qU (X++Z) r X.length
 | 0,_=>rfl
 | d+1,h=>by
  have hz:(X++Z)[X.length+d]?=some Z[d]:=by
   rw [Fz (by omega),show X.length+d - X.length=d by omega];exact j' (by omega)
  rw [← G9,qU,hz];simp only [b _ (F8 _),if_true];exact uL b d (by omega)
theorem BW (d:∀z ∈ Z,nq (bn z.1) (bn r.1)=true) (b:∀x,X.getLast?=some x→nq (bn x.1) (bn r.1)=false):m9 (X++Z) r=(X++[r])++Z:=by
 have h1:qU (X++Z) r (X++Z).length=X.length:=by
  rw [Fy,uL d _ (Fv _)];cases hn:X.length with
  | zero=>rfl
  | succ k =>
   obtain ⟨y,hk⟩:∃y,X[k]?=some y:=⟨_,j' (by omega)⟩;have hl:X.getLast?=some y:=by rw [List.getLast?_eq_getElem?,hn];exact hk
   rw [qU,FE (by omega),hk];simp only [b _ hl,Hn,if_false]
 unfold m9;rw [h1];simp
theorem pG:∀(B X Z:List aj),(∀r ∈ B,∀z ∈ Z,nq (bn z.1) (bn r.1)=true)→(∀x,X.getLast?=some x→∀r ∈ B,nq (bn x.1) (bn r.1)=false)→B.Pairwise (fun a b=>nq (bn a.1) (bn b.1)=false)→dJ (X++Z) B=X++B++Z
 | [],X,Z,_,_,_=>by simp [dJ]
 | r :: B,X,Z,d,g,hB=>by
  obtain ⟨h1,h2⟩:=FR.1 hB
  have e:dJ (X++Z) (r :: B)=dJ (m9 (X++Z) r) B:=rfl
  rw [e,BW (d r (by simp)) (fun x hx=>g x hx r (by simp)),pG B (X++[r]) Z (fun s hs=>d s (FY _ hs)) (fun x hx s hs=>?_) h2]
  · simp
  · rw [List.getLast?_append] at hx
    simp at hx
    subst hx
    exact h1 s hs
def iQ (L:List ae) (i:Nat):ByteArray:=match L[i]? with | some e=>e.1 | none=>⟨#[]⟩
theorem kM (h:L[i]?=some e):iQ L i=e.1:=by
 unfold iQ;rw [h]
def gP (L:List ae) (f i:Nat):Bool:=decide (i=L.length) || (decide (20≤i - f) && !decide (iQ L i=iQ L (i - 1)))
theorem yi (L:List ae):(Lit.int .i64 ((du L:Nat):Int)).wf=true:=FW (by have:=ml L;omega)
def eO (L:List ae) (f i:Nat):aj:=((L.drop f).take (i - f),((du ((L.drop f).take (i - f)):Nat):Int))
def fl (L:List ae):Nat→List aj × Nat
 | 0=>([],0)
 | k+1=>if gP L (fl L k).2 (k+1) then ((fl L k).1++[eO L (fl L k).2 (k+1)],k+1) else fl L k
theorem qB {B:List aj} (h:fl L k=(B,f)) (hc:gP L f (k+1)=true):fl L (k+1)=(B++[eO L f (k+1)],k+1):=by
 rw [fl,h];simp [hc]
theorem tS {B:List aj} (h:fl L k=(B,f)) (hc:gP L f (k+1)=false):fl L (k+1)=(B,f):=by
 rw [fl,h];simp [hc]
theorem sT {B:List aj} (hi:1≤i) (h:fl L (i - 1)=(B,f)) (hc:gP L f i=true):fl L i=(B++[eO L f i],i):=by
 obtain ⟨k,rfl⟩:∃k,i=k+1:=⟨i - 1,by omega⟩;exact qB h hc
theorem vn {B:List aj} (hi:1≤i) (h:fl L (i - 1)=(B,f)) (hc:gP L f i=false):fl L i=(B,f):=by
 obtain ⟨k,rfl⟩:∃k,i=k+1:=⟨i - 1,by omega⟩;exact tS h hc
end Go.Proofs.YtpobkmjicbobdaaGreat
namespace Go.Proofs.YtpobkmjicbobdaaGreat
open Go.RowKit
structure cq (w:World) (X:Nat) (v0 v1 v2 v3 v4:Value):Prop where
 c0:w.cell? ⟨X,0,none⟩=some v0
 c1:w.cell? ⟨X,1,none⟩=some v1
 c2:w.cell? ⟨X,2,none⟩=some v2
 c3:w.cell? ⟨X,3,none⟩=some v3
 c4:w.cell? ⟨X,4,none⟩=some v4
 fr:∀o,w.frozen? ⟨X,o,none⟩=false
theorem cq.lt {w:World} {X:Nat} {v0 b d v3 v4:Value} (h:cq w X v0 b d v3 v4):X<w.heap.size:=Fu _ _ h.c0
theorem cq.all {w:World} {X:Nat} {v0 b d v3 v4:Value}(h:cq w X v0 b d v3 v4):w.cell? ⟨X,0,none⟩=some v0∧w.cell? ⟨X,1,none⟩=some b∧w.cell? ⟨X,2,none⟩=some d∧w.cell? ⟨X,3,none⟩=some v3∧w.cell? ⟨X,4,none⟩=some v4∧(∀o,w.frozen? ⟨X,o,none⟩=false)∧X<w.heap.size:=⟨h.c0,h.c1,h.c2,h.c3,h.c4,h.fr,h.lt⟩
theorem cq.new (w:World) (T:TypeId) (v0 b d v3 v4:Value):cq (w.alloc (.cells #[v0,b,d,v3,v4] T)) w.heap.size v0 b d v3 v4 :=
 ⟨by simp,by simp,by simp,by simp,by simp,fun o=>Hh w _ _ o⟩
theorem cq.below {w w':World} {X:Nat} {v0 b d v3 v4:Value} (h:cq w X v0 b d v3 v4) (hb:Bl w w'):cq w' X v0 b d v3 v4 :=
 ⟨cell_later hb h.c0,cell_later hb h.c1,cell_later hb h.c2,cell_later hb h.c3,cell_later hb h.c4,fun o=>(hb.frozen (p:=⟨X,o,none⟩) h.lt).trans (h.fr o)⟩
theorem cq.alloc {w:World} {X:Nat} {v0 b d v3 v4:Value} (h:cq w X v0 b d v3 v4) (o:Obj):cq (w.alloc o) X v0 b d v3 v4:=h.below bZ
theorem cq.grown {w w':World} {X R:Nat} {v0 b d v3 v4:Value} (h:cq w X v0 b d v3 v4) (hg:w.grownBy w' (some R)) (hn:X≠R):cq w' X v0 b d v3 v4 :=
 ⟨(an hg (x:=⟨X,0,none⟩) h.lt hn).trans h.c0,(an hg (x:=⟨X,1,none⟩) h.lt hn).trans h.c1,(an hg (x:=⟨X,2,none⟩) h.lt hn).trans h.c2,(an hg (x:=⟨X,3,none⟩) h.lt hn).trans h.c3,(an hg (x:=⟨X,4,none⟩) h.lt hn).trans h.c4,fun o=>(Hb (hg.block X h.lt (fun e=>hn (by cases e;rfl)))).trans (h.fr o)⟩
theorem cq.other {w:World} {X Y:Nat} {v0 d b v3 v4:Value} (h:cq w X v0 d b v3 v4) (hn:X≠Y) (o:Nat) (v:Value):cq (w.setCell ⟨Y,o,none⟩ v) X v0 d b v3 v4:=by
 have ne:∀i,(⟨Y,o,none⟩:Addr)≠⟨X,i,none⟩:=fun i e=>hn (congrArg Addr.block e).symm
 exact ⟨by rw [Ft _ _ _ _ (ne 0)];exact h.c0,by rw [Ft _ _ _ _ (ne 1)];exact h.c1,by rw [Ft _ _ _ _ (ne 2)];exact h.c2,by rw [Ft _ _ _ _ (ne 3)];exact h.c3,by rw [Ft _ _ _ _ (ne 4)];exact h.c4,fun g=>by rw [FS];exact h.fr g⟩
theorem cq.set0 {w:World} {X:Nat} {v0 b d v3 v4:Value} (h:cq w X v0 b d v3 v4) (v:Value):cq (w.setCell ⟨X,0,none⟩ v) X v b d v3 v4:=by
 refine ⟨FD _ _ _ (by rw [h.c0];rfl),?_,?_,?_,?_,fun g=>by rw [FS];exact h.fr g⟩
 · rw [Ft _ _ _ _ (by simp)];exact h.c1
 · rw [Ft _ _ _ _ (by simp)];exact h.c2
 · rw [Ft _ _ _ _ (by simp)];exact h.c3
 · rw [Ft _ _ _ _ (by simp)];exact h.c4
theorem cq.set1 {w:World} {X:Nat} {v0 d b v3 v4:Value} (h:cq w X v0 d b v3 v4) (v:Value):cq (w.setCell ⟨X,1,none⟩ v) X v0 v b v3 v4:=by
 refine ⟨?_,FD _ _ _ (by rw [h.c1];rfl),?_,?_,?_,fun g=>by rw [FS];exact h.fr g⟩
 · rw [Ft _ _ _ _ (by simp)];exact h.c0
 · rw [Ft _ _ _ _ (by simp)];exact h.c2
 · rw [Ft _ _ _ _ (by simp)];exact h.c3
 · rw [Ft _ _ _ _ (by simp)];exact h.c4
theorem cq.set2 {w:World} {X:Nat} {v0 b d v3 v4:Value} (h:cq w X v0 b d v3 v4) (v:Value):cq (w.setCell ⟨X,2,none⟩ v) X v0 b v v3 v4:=by
 refine ⟨?_,?_,FD _ _ _ (by rw [h.c2];rfl),?_,?_,fun g=>by rw [FS];exact h.fr g⟩
 · rw [Ft _ _ _ _ (by simp)];exact h.c0
 · rw [Ft _ _ _ _ (by simp)];exact h.c1
 · rw [Ft _ _ _ _ (by simp)];exact h.c3
 · rw [Ft _ _ _ _ (by simp)];exact h.c4
theorem cq.set3 {w:World} {X:Nat} {v0 b d v3 v4:Value} (h:cq w X v0 b d v3 v4) (v:Value):cq (w.setCell ⟨X,3,none⟩ v) X v0 b d v v4:=by
 refine ⟨?_,?_,?_,FD _ _ _ (by rw [h.c3];rfl),?_,fun g=>by rw [FS];exact h.fr g⟩
 · rw [Ft _ _ _ _ (by simp)];exact h.c0
 · rw [Ft _ _ _ _ (by simp)];exact h.c1
 · rw [Ft _ _ _ _ (by simp)];exact h.c2
 · rw [Ft _ _ _ _ (by simp)];exact h.c4
theorem cq.set4 {w:World} {X:Nat} {v0 b d v3 v4:Value} (h:cq w X v0 b d v3 v4) (v:Value):cq (w.setCell ⟨X,4,none⟩ v) X v0 b d v3 v:=by
 refine ⟨?_,?_,?_,?_,FD _ _ _ (by rw [h.c4];rfl),fun g=>by rw [FS];exact h.fr g⟩
 · rw [Ft _ _ _ _ (by simp)];exact h.c0
 · rw [Ft _ _ _ _ (by simp)];exact h.c1
 · rw [Ft _ _ _ _ (by simp)];exact h.c2
 · rw [Ft _ _ _ _ (by simp)];exact h.c3
theorem cq.setAll {w:World} {X:Nat} {v0 b d v3 v4:Value} (h:cq w X v0 b d v3 v4) (u0 u1 u2 u3 u4:Value):cq (((((w.setCell ⟨X,0,none⟩ u0).setCell ⟨X,1,none⟩ u1).setCell ⟨X,2,none⟩ u2).setCell ⟨X,3,none⟩ u3).setCell ⟨X,4,none⟩ u4) X u0 u1 u2 u3 u4 :=
 ((((h.set0 u0).set1 u1).set2 u2).set3 u3).set4 u4
theorem bj.other {w:World} {R:Nat} {a:Option Addr} {len g P:Nat} (h:bj w R a len g P) {X:Nat} (t:X≠R) (hB:∀b d,a=some ⟨b,d,none⟩→0<len→b≠X) (o:Nat) (v:Value):bj (w.setCell ⟨X,o,none⟩ v) R a len g P:=by
 have ne:∀i,(⟨X,o,none⟩:Addr)≠⟨R,i,none⟩:=fun i e=>t (congrArg Addr.block e)
 refine ⟨by rw [Ft _ _ _ _ (ne 0)];exact h.c0,by rw [Ft _ _ _ _ (ne 1)];exact h.c1,by rw [FS];exact h.f1,h.few,fun i=>by rw [Ft _ _ _ _ (ne (i+2))];exact h.two i,?_⟩;rcases h.bytes with h0 | ⟨b,d,ha,m,n,hc⟩
 · exact Or.inl h0
 · by_cases h0:len=0
   · exact Or.inl h0
   · refine Or.inr ⟨b,d,ha,m,by simpa [World.setCell] using n,fun i hi=>?_⟩;obtain ⟨z,hz,s⟩:=hc i hi;exact ⟨z,hz,by rw [Ft _ _ _ _ (fun e=>hB b d ha (by omega) (congrArg Addr.block e).symm)];exact s⟩
end Go.Proofs.YtpobkmjicbobdaaGreat
namespace Go.Proofs.YtpobkmjicbobdaaGreat
open Go.RowKit
structure eR (w:World) (X:Nat) (v0 v1 v2:Value):Prop where
 c0:w.cell? ⟨X,0,none⟩=some v0
 c1:w.cell? ⟨X,1,none⟩=some v1
 c2:w.cell? ⟨X,2,none⟩=some v2
 fr:∀o,w.frozen? ⟨X,o,none⟩=false
theorem eR.lt {w:World} {X:Nat} {v0 b d:Value} (h:eR w X v0 b d):X<w.heap.size:=Fu _ _ h.c0
theorem eR.all {w:World} {X:Nat} {v0 b d:Value}(h:eR w X v0 b d):w.cell? ⟨X,0,none⟩=some v0∧w.cell? ⟨X,1,none⟩=some b∧w.cell? ⟨X,2,none⟩=some d∧(∀o,w.frozen? ⟨X,o,none⟩=false)∧X<w.heap.size:=⟨h.c0,h.c1,h.c2,h.fr,h.lt⟩
theorem eR.new (w:World) (T:TypeId) (v0 b v2:Value):eR (w.alloc (.cells #[v0,b,v2] T)) w.heap.size v0 b v2 :=
 ⟨by simp,by simp,by simp,fun o=>Hh w _ _ o⟩
theorem eR.below {w w':World} {X:Nat} {v0 b v2:Value} (h:eR w X v0 b v2) (hb:Bl w w'):eR w' X v0 b v2 :=
 ⟨cell_later hb h.c0,cell_later hb h.c1,cell_later hb h.c2,fun o=>(hb.frozen (p:=⟨X,o,none⟩) h.lt).trans (h.fr o)⟩
theorem eR.alloc {w:World} {X:Nat} {v0 b v2:Value} (h:eR w X v0 b v2) (o:Obj):eR (w.alloc o) X v0 b v2:=h.below bZ
theorem eR.grown {w w':World} {X R:Nat} {v0 b v2:Value} (h:eR w X v0 b v2) (hg:w.grownBy w' (some R)) (hn:X≠R):eR w' X v0 b v2 :=
 ⟨(an hg (x:=⟨X,0,none⟩) h.lt hn).trans h.c0,(an hg (x:=⟨X,1,none⟩) h.lt hn).trans h.c1,(an hg (x:=⟨X,2,none⟩) h.lt hn).trans h.c2,fun o=>(Hb (hg.block X h.lt (fun e=>hn (by cases e;rfl)))).trans (h.fr o)⟩
theorem eR.other {w:World} {X Y:Nat} {v0 b v2:Value} (h:eR w X v0 b v2) (hn:X≠Y) (o:Nat) (v:Value):eR (w.setCell ⟨Y,o,none⟩ v) X v0 b v2:=by
 have ne:∀i,(⟨Y,o,none⟩:Addr)≠⟨X,i,none⟩:=fun i e=>hn (congrArg Addr.block e).symm
 exact ⟨by rw [Ft _ _ _ _ (ne 0)];exact h.c0,by rw [Ft _ _ _ _ (ne 1)];exact h.c1,by rw [Ft _ _ _ _ (ne 2)];exact h.c2,fun d=>by rw [FS];exact h.fr d⟩
theorem eR.setAll {w:World} {X:Nat} {v0 b d:Value} (h:eR w X v0 b d) (u0 u1 u2:Value):eR (((w.setCell ⟨X,0,none⟩ u0).setCell ⟨X,1,none⟩ u1).setCell ⟨X,2,none⟩ u2) X u0 u1 u2:=by
 refine ⟨?_,?_,?_,fun g=>by rw [FS,FS,FS];exact h.fr g⟩
 · rw [Ft _ _ _ _ (by simp),Ft _ _ _ _ (by simp)];exact FD _ _ _ (by rw [h.c0];rfl)
 · rw [Ft _ _ _ _ (by simp)];exact FD _ _ _ (by rw [Ft _ _ _ _ (by simp),h.c1];rfl)
 · exact FD _ _ _ (by rw [Ft _ _ _ _ (by simp),Ft _ _ _ _ (by simp),h.c2];rfl)
end Go.Proofs.YtpobkmjicbobdaaGreat
