/- Walks. -/
import Derived.Test.YtpobkmjicbobdaaGreatBn09
namespace Go.Proofs.YtpobkmjicbobdaaGreat
set_option maxRecDepth 100000
set_option maxHeartbeats 40000000
open Go.RowKit Go.Sort
variable {A L:List ac} {X Z:List ag} {e x y:ac} {f i k:Nat} {r:ag}
def aP (x y:ac):Bool:=b7 x.1 x.2.1 y.1 y.2.1
theorem iE {z:ac} (h1:aP x y=false) (h2:aP y z=false):aP x z=false:=by
 have:=y6.ntrans x y z;rw [fY,fY,fY] at this;exact this h1 h2
def lF (L:List ac):Prop:=L.Pairwise (fun a b=>aP b a=false)
def rQ (L:List ac):Prop:=L.Pairwise (fun a b=>aP a b=true)
theorem l8 (L:List ac) (e:ac):∀n p x,jF L e n≤p→p<n→L[p]?=some x→aP e x=true
 | 0,p,x,_,h2,_=>absurd h2 (Nat.not_lt_zero _)
 | n+1,p,x,h1,h2,h3=>by
  unfold jF at h1
  cases hn:L[n]? with
  | none=>rw [hn] at h1;simp at h1;omega
  | some y =>
   rw [hn] at h1
   simp only at h1
   by_cases hl:b7 e.1 e.2.1 y.1 y.2.1=true
   · rw [if_pos hl] at h1
     by_cases hp:p=n
     · subst hp
       rw [hn] at h3
       cases h3
       exact hl
     · exact l8 L e n p x h1 (by omega) h3
   · rw [if_neg hl] at h1
     omega
theorem sV (L:List ac) (e:ac):∀n x,0<jF L e n→L[jF L e n - 1]?=some x→n≤L.length→aP e x=false
 | 0,x,h1,_,_=>absurd h1 (Nat.lt_irrefl _)
 | n+1,x,h1,h2,h3=>by
  have hn:L[n]?=some (L[n]'(by omega)):=List.getElem?_eq_getElem (by omega)
  by_cases hl:b7 e.1 e.2.1 (L[n]'(by omega)).1 (L[n]'(by omega)).2.1=true
  · have e1:jF L e (n+1)=jF L e n:=by
     conv=>lhs;unfold jF
     simp only [hn,hl,if_true]
    rw [e1] at h1 h2;exact sV L e n x h1 h2 (by omega)
  · have e1:jF L e (n+1)=n+1:=by
     conv=>lhs;unfold jF
     simp only [hn,hl];simp
    rw [e1] at h2;simp only [Nat.add_sub_cancel] at h2;rw [hn] at h2;cases h2;simpa [aP] using hl
theorem yd (h:lF L):lF (d5 L e):=by
 have hle:=uu L e L.length;obtain ⟨k,hk⟩:=aS (jF L e L.length);have hR:∀y ∈ L.drop k,aP e y=true:=by
  intro y hy;obtain ⟨p,hp,rfl⟩:=List.getElem_of_mem hy;simp at hp;refine l8 L e L.length (k+p) _ (by omega) (by omega) ?_;rw [List.getElem?_eq_getElem (by omega)];simp
 have hL:∀x ∈ L.take k,aP e x=false:=by
  intro x hx;obtain ⟨p,hp,rfl⟩:=List.getElem_of_mem hx;simp at hp;have hk1:0<k:=by omega
  have hkl:k - 1<L.length:=by omega
  have h1:aP e (L[k - 1]'hkl)=false:=sV L e L.length _ (by omega) (by rw [← hk];exact List.getElem?_eq_getElem hkl) (Nat.le_refl _);simp only [List.getElem_take];by_cases hpk:p=k - 1
  · subst hpk;exact h1
  · have h2:=(List.pairwise_iff_getElem.1 h) p (k - 1) (by omega) hkl (by omega);exact iE h1 h2
 have hsp:lF (L.take k++L.drop k):=by rw [List.take_append_drop];exact h
 have hsp':=List.pairwise_append.1 hsp;unfold d5;rw [← hk];refine List.pairwise_append.2 ⟨hsp'.1,?_,?_⟩
 · refine List.pairwise_append.2 ⟨List.pairwise_singleton _ _,hsp'.2.1,?_⟩;intro a ha b hb;simp only [List.mem_singleton] at ha;subst ha;exact th (hR b hb)
 · intro a ha b hb;rcases List.mem_append.1 hb with hb | hb
   · simp only [List.mem_singleton] at hb;subst hb;exact hL a ha
   · exact hsp'.2.2 a ha b hb
theorem yN (L:List ac) (e:ac):(d5 L e).Perm (L++[e]):=by
 unfold d5;generalize jF L e L.length=k;have h1:(L.take k++([e]++L.drop k)).Perm (L.take k++(L.drop k++[e])):=List.Perm.append_left _ List.perm_append_comm;have h2:L.take k++(L.drop k++[e])=L++[e]:=by rw [← List.append_assoc,List.take_append_drop]
 rw [h2] at h1;exact h1
theorem bJ (L:List ac):lF (bk L)∧(bk L).Perm L:=by
 have:∀(L A:List ac),lF A→lF (L.foldl d5 A)∧(L.foldl d5 A).Perm (A++L):=by
  intro L;induction L with
  | nil=>intro A h;exact ⟨h,by simp⟩
  | cons e r ih =>
   intro A h;obtain ⟨h1,h2⟩:=ih (d5 A e) (yd h);refine ⟨h1,?_⟩;rw [List.foldl_cons];refine h2.trans ?_;have:=(yN A e).append_right r;simpa using this
 have h:=this L [] List.Pairwise.nil;simpa [bk] using h
theorem i8 {B:List ac} (hA:rQ A) (hB:lF B) (hP:A.Perm B):A=B:=by
 induction A generalizing B with
 | nil=>exact (List.Perm.nil_eq hP)
 | cons a A ih =>
  cases B with
  | nil=>exact absurd hP.length_eq (by simp)
  | cons b B =>
   have hab:a=b:=by
    by_cases e:a=b
    · exact e
    · exfalso
      have hb:b ∈ a :: A:=hP.mem_iff.2 (List.mem_cons_self ..);have ha:a ∈ b :: B:=hP.mem_iff.1 (List.mem_cons_self ..);have hb':b ∈ A:=(List.mem_cons.1 hb).resolve_left (fun h=>e h.symm);have ha':a ∈ B:=(List.mem_cons.1 ha).resolve_left e;have h1:=(List.pairwise_cons.1 hA).1 b hb';have h2:=(List.pairwise_cons.1 hB).1 a ha';rw [h1] at h2;cases h2
   subst hab;rw [ih (List.pairwise_cons.1 hA).2 (List.pairwise_cons.1 hB).2 (List.Perm.cons_inv hP)]
theorem fT (h:aR L=true):rQ L:=by
 refine List.pairwise_iff_getElem.2 ?_;intro i j hi hj hij;exact f8 h hij (List.getElem?_eq_getElem hi) (List.getElem?_eq_getElem hj)
theorem ug (h:L[k]?=some e):bk (L.take (k+1))=d5 (bk (L.take k)) e:=by
 unfold bk;rw [List.take_add_one,h];simp
theorem jq (L:List ac):(bk L).length=L.length:=by
 have:∀(L A:List ac),(L.foldl d5 A).length=A.length+L.length:=by
  intro L;induction L with
  | nil=>intro A;simp
  | cons e r ih=>intro A;rw [List.foldl_cons,ih,lc,List.length_cons];omega
 have h:=this L [];simpa [bk] using h
theorem nH (h:aP y x=false):fc x.1 y.1=true:=by
 rw [dt];unfold aP b7 at h;rw [Bool.or_eq_false_iff] at h;rw [ByteArray.toList_eq,ByteArray.toList_eq,h.1];rfl
theorem dY (h:lF A) {e:ac} (he:e ∈ A):fc (bj A) e.1=true∧fc e.1 (aT A)=true:=by
 obtain ⟨j,hj,rfl⟩:=List.getElem_of_mem he;obtain ⟨f,hf,hl⟩:=ll (L:=A) (by omega);obtain ⟨g,hg,hh⟩:=ij (L:=A) (by omega);have hp:=List.pairwise_iff_getElem.1 h;obtain ⟨h0,rfl⟩:=List.getElem?_eq_some_iff.1 hf;obtain ⟨h1,rfl⟩:=List.getElem?_eq_some_iff.1 hg;rw [hl,hh];constructor
 · by_cases hz:j=0
   · subst hz;exact eG _
   · exact nH (hp 0 j h0 hj (by omega))
 · by_cases hz:j=A.length - 1
   · subst hz;exact eG _
   · exact nH (hp j (A.length - 1) hj h1 (by omega))
theorem jV (h:1≤A.length):∃e ∈ A,bj A=e.1:=by
 obtain ⟨f,hf,hl⟩:=ll (L:=A) (by omega);exact ⟨f,List.mem_of_getElem? hf,hl⟩
theorem vu (h:1≤A.length):∃e ∈ A,aT A=e.1:=by
 obtain ⟨f,hf,hl⟩:=ij (L:=A) (by omega);exact ⟨f,List.mem_of_getElem? hf,hl⟩
theorem us {B:List ag} {r0:ag} (h0:r0 ∈ B) (hok:∀r ∈ B,aR r.1=true∧1≤r.1.length) {A:List ac} (hA:A=bk (bn B).flatten):bj A=fb (bj r0.1) B∧aT A=dc (aT r0.1) B:=by
 have hs:=bJ (bn B).flatten;rw [← hA] at hs;have hmem:∀e,e ∈ A ↔ ∃r ∈ B,e ∈ r.1:=fun e=>by
  rw [hs.2.mem_iff,List.mem_flatten];constructor
  · rintro ⟨l,hl,he⟩;obtain ⟨r,hr,rfl⟩:=List.mem_map.1 hl;exact ⟨r,hr,he⟩
  · rintro ⟨r,hr,he⟩;exact ⟨r.1,List.mem_map.2 ⟨r,hr,rfl⟩,he⟩
 have hlow:∀r ∈ B,∀e ∈ r.1,fc (bj r.1) e.1=true:=fun r hr e he=>by
  rcases l7 (hok r hr).1 he with h | h
  · rw [h];exact eG _
  · unfold fc;rw [h];rfl
 have hhigh:∀r ∈ B,∀e ∈ r.1,fc e.1 (aT r.1)=true:=fun r hr e he=>by
  rcases ol (hok r hr).1 he with h | h
  · rw [← h];exact eG _
  · unfold fc;rw [h];rfl
 have hne:1≤A.length:=by
  obtain ⟨e,he,_⟩:=jV (hok r0 h0).2;have:e ∈ A:=(hmem e).2 ⟨r0,h0,he⟩;exact List.length_pos_of_mem this
 constructor
 · obtain ⟨e,he,hl⟩:=jV hne;obtain ⟨r,hr,her⟩:=(hmem e).1 he;have h1:fc (fb (bj r0.1) B) (bj A)=true:=by rw [hl];exact cG ((vq B _).2 r hr) (hlow r hr e her)
   have h2:fc (bj A) (fb (bj r0.1) B)=true:=by
    have:∃x ∈ B,fb (bj r0.1) B=bj x.1:=by
     rcases s9 B (bj r0.1) with h | h
     · exact ⟨r0,h0,h⟩
     · exact h
    obtain ⟨x,hx,e2⟩:=this;obtain ⟨d,hd,e3⟩:=jV (hok x hx).2;rw [e2,e3];exact (dY hs.1 ((hmem d).2 ⟨x,hx,hd⟩)).1
   exact oK h2 h1
 · obtain ⟨e,he,hl⟩:=vu hne;obtain ⟨r,hr,her⟩:=(hmem e).1 he;have h1:fc (aT A) (dc (aT r0.1) B)=true:=by rw [hl];exact cG (hhigh r hr e her) ((tr B _).2 r hr)
   have h2:fc (dc (aT r0.1) B) (aT A)=true:=by
    have:∃x ∈ B,dc (aT r0.1) B=aT x.1:=by
     rcases qH B (aT r0.1) with h | h
     · exact ⟨r0,h0,h⟩
     · exact h
    obtain ⟨x,hx,e2⟩:=this;obtain ⟨d,hd,e3⟩:=vu (hok x hx).2;rw [e2,e3];exact (dY hs.1 ((hmem d).2 ⟨x,hx,hd⟩)).2
   exact oK h1 h2
def pJ (O:List ag) (r:ag):Nat→Nat
 | 0=>0
 | k+1=>match O[k]? with
  | some x=>if mn (bj x.1) (bj r.1) then pJ O r k else k+1
  | none=>k+1
def mj (O:List ag) (r:ag):List ag:=O.take (pJ O r O.length)++([r]++O.drop (pJ O r O.length))
def dq (A B:List ag):List ag:=B.foldl mj A
theorem sU {X Z:List ag} {r:ag} (hZ:∀z ∈ Z,mn (bj z.1) (bj r.1)=true):∀d,d≤Z.length→pJ (X++Z) r (X.length+d)=pJ (X++Z) r X.length
 | 0,_=>rfl
 | d+1,h=>by
  have hz:(X++Z)[X.length+d]?=some Z[d]:=by
   rw [List.getElem?_append_right (by omega),show X.length+d - X.length=d by omega];exact List.getElem?_eq_getElem (by omega)
  rw [← Nat.add_assoc,pJ,hz];simp only [hZ _ (List.getElem_mem _),if_true];exact sU hZ d (by omega)
theorem zh (hZ:∀z ∈ Z,mn (bj z.1) (bj r.1)=true) (hX:∀x,X.getLast?=some x→mn (bj x.1) (bj r.1)=false):mj (X++Z) r=(X++[r])++Z:=by
 have h1:pJ (X++Z) r (X++Z).length=X.length:=by
  rw [List.length_append,sU hZ _ (Nat.le_refl _)];cases hn:X.length with
  | zero=>rfl
  | succ k =>
   obtain ⟨y,hk⟩:∃y,X[k]?=some y:=⟨_,List.getElem?_eq_getElem (by omega)⟩;have hl:X.getLast?=some y:=by rw [List.getLast?_eq_getElem?,hn];exact hk
   rw [pJ,List.getElem?_append_left (by omega),hk];simp only [hX _ hl,Bool.false_eq_true,if_false]
 unfold mj;rw [h1];simp
theorem oq:∀(B X Z:List ag),(∀r ∈ B,∀z ∈ Z,mn (bj z.1) (bj r.1)=true)→(∀x,X.getLast?=some x→∀r ∈ B,mn (bj x.1) (bj r.1)=false)→B.Pairwise (fun a b=>mn (bj a.1) (bj b.1)=false)→dq (X++Z) B=X++B++Z
 | [],X,Z,_,_,_=>by simp [dq]
 | r :: B,X,Z,hZ,hX,hB=>by
  obtain ⟨h1,h2⟩:=List.pairwise_cons.1 hB
  have e:dq (X++Z) (r :: B)=dq (mj (X++Z) r) B:=rfl
  rw [e,zh (hZ r (by simp)) (fun x hx=>hX x hx r (by simp)),oq B (X++[r]) Z (fun s hs=>hZ s (List.mem_cons_of_mem _ hs)) (fun x hx s hs=>?_) h2]
  · simp
  · rw [List.getLast?_append] at hx
    simp at hx
    subst hx
    exact h1 s hs
def ii (L:List ac) (i:Nat):ByteArray:=match L[i]? with | some e=>e.1 | none=>⟨#[]⟩
theorem jz (h:L[i]?=some e):ii L i=e.1:=by
 unfold ii;rw [h]
def fP (L:List ac) (f i:Nat):Bool:=decide (i=L.length) || (decide (20≤i - f) && !decide (ii L i=ii L (i - 1)))
theorem vo (L:List ac):(Lit.int .i64 ((cZ L:Nat):Int)).wf=true:=WalkArith.wf_i64 (by have:=lj L;omega)
def em (L:List ac) (f i:Nat):ag:=((L.drop f).take (i - f),((cZ ((L.drop f).take (i - f)):Nat):Int))
def eP (L:List ac):Nat→List ag × Nat
 | 0=>([],0)
 | k+1=>if fP L (eP L k).2 (k+1) then ((eP L k).1++[em L (eP L k).2 (k+1)],k+1) else eP L k
theorem po {B:List ag} (h:eP L k=(B,f)) (hc:fP L f (k+1)=true):eP L (k+1)=(B++[em L f (k+1)],k+1):=by
 rw [eP,h];simp [hc]
theorem rO {B:List ag} (h:eP L k=(B,f)) (hc:fP L f (k+1)=false):eP L (k+1)=(B,f):=by
 rw [eP,h];simp [hc]
theorem qS {B:List ag} (hi:1≤i) (h:eP L (i - 1)=(B,f)) (hc:fP L f i=true):eP L i=(B++[em L f i],i):=by
 obtain ⟨k,rfl⟩:∃k,i=k+1:=⟨i - 1,by omega⟩;exact po h hc
theorem tB {B:List ag} (hi:1≤i) (h:eP L (i - 1)=(B,f)) (hc:fP L f i=false):eP L i=(B,f):=by
 obtain ⟨k,rfl⟩:∃k,i=k+1:=⟨i - 1,by omega⟩;exact rO h hc
end Go.Proofs.YtpobkmjicbobdaaGreat
namespace Go.Proofs.YtpobkmjicbobdaaGreat
open Go.RowKit
structure cn (w:World) (X:Nat) (v0 v1 v2 v3 v4:Value):Prop where
 c0:w.cell? ⟨X,0,none⟩=some v0
 c1:w.cell? ⟨X,1,none⟩=some v1
 c2:w.cell? ⟨X,2,none⟩=some v2
 c3:w.cell? ⟨X,3,none⟩=some v3
 c4:w.cell? ⟨X,4,none⟩=some v4
 fr:∀o,w.frozen? ⟨X,o,none⟩=false
theorem cn.lt {w:World} {X:Nat} {v0 v1 v2 v3 v4:Value} (h:cn w X v0 v1 v2 v3 v4):X<w.heap.size:=World.block_lt_of_cell? _ _ h.c0
theorem cn.new (w:World) (T:TypeId) (v0 v1 v2 v3 v4:Value):cn (w.alloc (.cells #[v0,v1,v2,v3,v4] T)) w.heap.size v0 v1 v2 v3 v4 :=
 ⟨by simp,by simp,by simp,by simp,by simp,fun o=>World.frozen?_alloc_new w _ _ o⟩
theorem cn.below {w w':World} {X:Nat} {v0 v1 v2 v3 v4:Value} (h:cn w X v0 v1 v2 v3 v4) (hb:Bl w w'):cn w' X v0 v1 v2 v3 v4 :=
 ⟨cell_later hb h.c0,cell_later hb h.c1,cell_later hb h.c2,cell_later hb h.c3,cell_later hb h.c4,fun o=>(hb.frozen (p:=⟨X,o,none⟩) h.lt).trans (h.fr o)⟩
theorem cn.alloc {w:World} {X:Nat} {v0 v1 v2 v3 v4:Value} (h:cn w X v0 v1 v2 v3 v4) (o:Obj):cn (w.alloc o) X v0 v1 v2 v3 v4:=h.below bZ
theorem cn.grown {w w':World} {X R:Nat} {v0 v1 v2 v3 v4:Value} (h:cn w X v0 v1 v2 v3 v4) (hg:w.grownBy w' (some R)) (hn:X≠R):cn w' X v0 v1 v2 v3 v4 :=
 ⟨(ah hg (x:=⟨X,0,none⟩) h.lt hn).trans h.c0,(ah hg (x:=⟨X,1,none⟩) h.lt hn).trans h.c1,(ah hg (x:=⟨X,2,none⟩) h.lt hn).trans h.c2,(ah hg (x:=⟨X,3,none⟩) h.lt hn).trans h.c3,(ah hg (x:=⟨X,4,none⟩) h.lt hn).trans h.c4,fun o=>(World.frozen?_of_block (hg.block X h.lt (fun e=>hn (by cases e;rfl)))).trans (h.fr o)⟩
theorem cn.other {w:World} {X Y:Nat} {v0 v1 v2 v3 v4:Value} (h:cn w X v0 v1 v2 v3 v4) (hn:X≠Y) (o:Nat) (v:Value):cn (w.setCell ⟨Y,o,none⟩ v) X v0 v1 v2 v3 v4:=by
 have ne:∀i,(⟨Y,o,none⟩:Addr)≠⟨X,i,none⟩:=fun i e=>hn (congrArg Addr.block e).symm
 exact ⟨by rw [World.cell?_setCell_other _ _ _ _ (ne 0)];exact h.c0,by rw [World.cell?_setCell_other _ _ _ _ (ne 1)];exact h.c1,by rw [World.cell?_setCell_other _ _ _ _ (ne 2)];exact h.c2,by rw [World.cell?_setCell_other _ _ _ _ (ne 3)];exact h.c3,by rw [World.cell?_setCell_other _ _ _ _ (ne 4)];exact h.c4,fun o'=>by rw [World.frozen?_setCell];exact h.fr o'⟩
theorem cn.set0 {w:World} {X:Nat} {v0 v1 v2 v3 v4:Value} (h:cn w X v0 v1 v2 v3 v4) (v:Value):cn (w.setCell ⟨X,0,none⟩ v) X v v1 v2 v3 v4:=by
 refine ⟨World.cell?_setCell_same' _ _ _ (by rw [h.c0];rfl),?_,?_,?_,?_,fun o'=>by rw [World.frozen?_setCell];exact h.fr o'⟩
 · rw [World.cell?_setCell_other _ _ _ _ (by simp)];exact h.c1
 · rw [World.cell?_setCell_other _ _ _ _ (by simp)];exact h.c2
 · rw [World.cell?_setCell_other _ _ _ _ (by simp)];exact h.c3
 · rw [World.cell?_setCell_other _ _ _ _ (by simp)];exact h.c4
theorem cn.set1 {w:World} {X:Nat} {v0 v1 v2 v3 v4:Value} (h:cn w X v0 v1 v2 v3 v4) (v:Value):cn (w.setCell ⟨X,1,none⟩ v) X v0 v v2 v3 v4:=by
 refine ⟨?_,World.cell?_setCell_same' _ _ _ (by rw [h.c1];rfl),?_,?_,?_,fun o'=>by rw [World.frozen?_setCell];exact h.fr o'⟩
 · rw [World.cell?_setCell_other _ _ _ _ (by simp)];exact h.c0
 · rw [World.cell?_setCell_other _ _ _ _ (by simp)];exact h.c2
 · rw [World.cell?_setCell_other _ _ _ _ (by simp)];exact h.c3
 · rw [World.cell?_setCell_other _ _ _ _ (by simp)];exact h.c4
theorem cn.set2 {w:World} {X:Nat} {v0 v1 v2 v3 v4:Value} (h:cn w X v0 v1 v2 v3 v4) (v:Value):cn (w.setCell ⟨X,2,none⟩ v) X v0 v1 v v3 v4:=by
 refine ⟨?_,?_,World.cell?_setCell_same' _ _ _ (by rw [h.c2];rfl),?_,?_,fun o'=>by rw [World.frozen?_setCell];exact h.fr o'⟩
 · rw [World.cell?_setCell_other _ _ _ _ (by simp)];exact h.c0
 · rw [World.cell?_setCell_other _ _ _ _ (by simp)];exact h.c1
 · rw [World.cell?_setCell_other _ _ _ _ (by simp)];exact h.c3
 · rw [World.cell?_setCell_other _ _ _ _ (by simp)];exact h.c4
theorem cn.set3 {w:World} {X:Nat} {v0 v1 v2 v3 v4:Value} (h:cn w X v0 v1 v2 v3 v4) (v:Value):cn (w.setCell ⟨X,3,none⟩ v) X v0 v1 v2 v v4:=by
 refine ⟨?_,?_,?_,World.cell?_setCell_same' _ _ _ (by rw [h.c3];rfl),?_,fun o'=>by rw [World.frozen?_setCell];exact h.fr o'⟩
 · rw [World.cell?_setCell_other _ _ _ _ (by simp)];exact h.c0
 · rw [World.cell?_setCell_other _ _ _ _ (by simp)];exact h.c1
 · rw [World.cell?_setCell_other _ _ _ _ (by simp)];exact h.c2
 · rw [World.cell?_setCell_other _ _ _ _ (by simp)];exact h.c4
theorem cn.set4 {w:World} {X:Nat} {v0 v1 v2 v3 v4:Value} (h:cn w X v0 v1 v2 v3 v4) (v:Value):cn (w.setCell ⟨X,4,none⟩ v) X v0 v1 v2 v3 v:=by
 refine ⟨?_,?_,?_,?_,World.cell?_setCell_same' _ _ _ (by rw [h.c4];rfl),fun o'=>by rw [World.frozen?_setCell];exact h.fr o'⟩
 · rw [World.cell?_setCell_other _ _ _ _ (by simp)];exact h.c0
 · rw [World.cell?_setCell_other _ _ _ _ (by simp)];exact h.c1
 · rw [World.cell?_setCell_other _ _ _ _ (by simp)];exact h.c2
 · rw [World.cell?_setCell_other _ _ _ _ (by simp)];exact h.c3
theorem cn.setAll {w:World} {X:Nat} {v0 v1 v2 v3 v4:Value} (h:cn w X v0 v1 v2 v3 v4) (u0 u1 u2 u3 u4:Value):cn (((((w.setCell ⟨X,0,none⟩ u0).setCell ⟨X,1,none⟩ u1).setCell ⟨X,2,none⟩ u2).setCell ⟨X,3,none⟩ u3).setCell ⟨X,4,none⟩ u4) X u0 u1 u2 u3 u4 :=
 ((((h.set0 u0).set1 u1).set2 u2).set3 u3).set4 u4
theorem aW.other {w:World} {R:Nat} {a:Option Addr} {len cap P:Nat} (h:aW w R a len cap P) {X:Nat} (hX:X≠R) (hB:∀b off,a=some ⟨b,off,none⟩→0<len→b≠X) (o:Nat) (v:Value):aW (w.setCell ⟨X,o,none⟩ v) R a len cap P:=by
 have ne:∀i,(⟨X,o,none⟩:Addr)≠⟨R,i,none⟩:=fun i e=>hX (congrArg Addr.block e)
 refine ⟨by rw [World.cell?_setCell_other _ _ _ _ (ne 0)];exact h.c0,by rw [World.cell?_setCell_other _ _ _ _ (ne 1)];exact h.c1,by rw [World.frozen?_setCell];exact h.f1,h.few,fun i=>by rw [World.cell?_setCell_other _ _ _ _ (ne (i+2))];exact h.two i,?_⟩;rcases h.bytes with h0 | ⟨b,off,ha,hb1,hb2,hc⟩
 · exact Or.inl h0
 · by_cases h0:len=0
   · exact Or.inl h0
   · refine Or.inr ⟨b,off,ha,hb1,by simpa [World.setCell] using hb2,fun i hi=>?_⟩;obtain ⟨z,hz,hcc⟩:=hc i hi;exact ⟨z,hz,by rw [World.cell?_setCell_other _ _ _ _ (fun e=>hB b off ha (by omega) (congrArg Addr.block e).symm)];exact hcc⟩
end Go.Proofs.YtpobkmjicbobdaaGreat
namespace Go.Proofs.YtpobkmjicbobdaaGreat
open Go.RowKit
structure iQ (w:World) (X:Nat) (v0 v1 v2:Value):Prop where
 c0:w.cell? ⟨X,0,none⟩=some v0
 c1:w.cell? ⟨X,1,none⟩=some v1
 c2:w.cell? ⟨X,2,none⟩=some v2
 fr:∀o,w.frozen? ⟨X,o,none⟩=false
theorem iQ.lt {w:World} {X:Nat} {v0 v1 v2:Value} (h:iQ w X v0 v1 v2):X<w.heap.size:=World.block_lt_of_cell? _ _ h.c0
theorem iQ.new (w:World) (T:TypeId) (v0 v1 v2:Value):iQ (w.alloc (.cells #[v0,v1,v2] T)) w.heap.size v0 v1 v2 :=
 ⟨by simp,by simp,by simp,fun o=>World.frozen?_alloc_new w _ _ o⟩
theorem iQ.below {w w':World} {X:Nat} {v0 v1 v2:Value} (h:iQ w X v0 v1 v2) (hb:Bl w w'):iQ w' X v0 v1 v2 :=
 ⟨cell_later hb h.c0,cell_later hb h.c1,cell_later hb h.c2,fun o=>(hb.frozen (p:=⟨X,o,none⟩) h.lt).trans (h.fr o)⟩
theorem iQ.alloc {w:World} {X:Nat} {v0 v1 v2:Value} (h:iQ w X v0 v1 v2) (o:Obj):iQ (w.alloc o) X v0 v1 v2:=h.below bZ
theorem iQ.grown {w w':World} {X R:Nat} {v0 v1 v2:Value} (h:iQ w X v0 v1 v2) (hg:w.grownBy w' (some R)) (hn:X≠R):iQ w' X v0 v1 v2 :=
 ⟨(ah hg (x:=⟨X,0,none⟩) h.lt hn).trans h.c0,(ah hg (x:=⟨X,1,none⟩) h.lt hn).trans h.c1,(ah hg (x:=⟨X,2,none⟩) h.lt hn).trans h.c2,fun o=>(World.frozen?_of_block (hg.block X h.lt (fun e=>hn (by cases e;rfl)))).trans (h.fr o)⟩
theorem iQ.other {w:World} {X Y:Nat} {v0 v1 v2:Value} (h:iQ w X v0 v1 v2) (hn:X≠Y) (o:Nat) (v:Value):iQ (w.setCell ⟨Y,o,none⟩ v) X v0 v1 v2:=by
 have ne:∀i,(⟨Y,o,none⟩:Addr)≠⟨X,i,none⟩:=fun i e=>hn (congrArg Addr.block e).symm
 exact ⟨by rw [World.cell?_setCell_other _ _ _ _ (ne 0)];exact h.c0,by rw [World.cell?_setCell_other _ _ _ _ (ne 1)];exact h.c1,by rw [World.cell?_setCell_other _ _ _ _ (ne 2)];exact h.c2,fun o'=>by rw [World.frozen?_setCell];exact h.fr o'⟩
theorem iQ.setAll {w:World} {X:Nat} {v0 v1 v2:Value} (h:iQ w X v0 v1 v2) (u0 u1 u2:Value):iQ (((w.setCell ⟨X,0,none⟩ u0).setCell ⟨X,1,none⟩ u1).setCell ⟨X,2,none⟩ u2) X u0 u1 u2:=by
 refine ⟨?_,?_,?_,fun o'=>by rw [World.frozen?_setCell,World.frozen?_setCell,World.frozen?_setCell];exact h.fr o'⟩
 · rw [World.cell?_setCell_other _ _ _ _ (by simp),World.cell?_setCell_other _ _ _ _ (by simp)];exact World.cell?_setCell_same' _ _ _ (by rw [h.c0];rfl)
 · rw [World.cell?_setCell_other _ _ _ _ (by simp)];exact World.cell?_setCell_same' _ _ _ (by rw [World.cell?_setCell_other _ _ _ _ (by simp),h.c1];rfl)
 · exact World.cell?_setCell_same' _ _ _ (by rw [World.cell?_setCell_other _ _ _ _ (by simp),World.cell?_setCell_other _ _ _ _ (by simp),h.c2];rfl)
end Go.Proofs.YtpobkmjicbobdaaGreat
