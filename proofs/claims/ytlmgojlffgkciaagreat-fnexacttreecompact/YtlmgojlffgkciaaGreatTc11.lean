/-
  What the program's order of entries leaves behind: blocks of its own alone; and that it is an order.
-/
import Derived.Sort.Grow
import Derived.Sort.Statements
import Derived.Shelf.SlSortCmp.InsertionK
import Derived.Test.YtlmgojlffgkciaaGreatTc01
import Derived.Test.YtlmgojlffgkciaaGreatTc00
import Derived.Test.YtlmgojlffgkciaaGreatTc10
import Derived.Test.YtlmgojlffgkciaaGreatTc09
namespace Go.Proofs.YtlmgojlffgkciaaGreat
set_option maxRecDepth 100000
set_option maxHeartbeats 1000000
open Go.RowKit Go.Sort
theorem lc (w:World) (o:Obj):w.alloc o=grow w #[o]:=by
 unfold World.alloc grow;simp
theorem vc (ka ta kb tb:ByteArray) (qa da na qb db nb:Int) (w:World) :
 Calls Tryz.prog 145 #[.agg #[.string ka,iT qa,iT da,.string ta,iT na],.agg #[.string kb,iT qb,iT db,.string tb,iT nb]] w fun e w'=>e=.returned (iT (ic ka qa kb qb))∧∃q os',w'=grow (w.drewN q) os':=by
 obtain ⟨C,hC⟩:=ay (Lib.compareBytes ka.data.toList kb.data.toList);obtain ⟨D,hD⟩:=ay (Lib.compareInt qb qa);have c1:∀w,Calls Tryz.prog 183 #[.string ka,.string kb] w fun e w'=>e=.returned (iT C)∧w'=w:=by rw [hC];exact nS ka kb
 have c2:∀w,Calls Tryz.prog 174 #[iT qb,iT qa] w fun e w'=>e=.returned (iT D)∧w'=w:=by rw [hD];exact kS qb qa
 obtain ⟨O,hO⟩:=ay (if C=0 then D else C);have c3:∀b c w,w.cell? ⟨b,0,none⟩=some (iT C)→w.cell? ⟨b,1,none⟩=some (iT D)→Calls Tryz.prog 182 #[sL b 2 c] w fun e w'=>e=.returned (iT O)∧w'=w:=by
  rw [hO];exact fun b c w g0 g1=>Al C D b c w g0 g1
 unfold ic;rw [← hC,← hD,← hO];clear hC hD hO;go_enter Tryz.func145,Tryz.ntmps145
 go_wp2_with fail
 obtain ⟨X,hX⟩:=ay w.heap.size;obtain ⟨W,hW⟩:=ay ((w.alloc (.cells #[.string ka,iT qa,iT da,.string ta,iT na] 78)).alloc (.cells #[.string kb,iT qb,iT db,.string tb,iT nb] 78));have x0:W.cell? ⟨X,0,none⟩=some (.string ka):=by rw [hW,hX];simp
 have x1:W.cell? ⟨X,1,none⟩=some (iT qa):=by rw [hW,hX];simp
 have y0:W.cell? ⟨X+1,0,none⟩=some (.string kb):=by rw [hW,hX];simp
 have y1:W.cell? ⟨X+1,1,none⟩=some (iT qb):=by rw [hW,hX];simp
 have HWW:Hid (W=(w.alloc (.cells #[.string ka,iT qa,iT da,.string ta,iT na] 78)).alloc (.cells #[.string kb,iT qb,iT db,.string tb,iT nb] 78)):=hW;rw [← hW,← hX];clear hW hX;have k0:Bl W W.drew:=(Below.refl _ W).drew;have HMK:Hid (∀w',Bl W w'→(w'.cell? ⟨X,0,none⟩=some (.string ka)∧w'.cell? ⟨X,1,none⟩=some (iT qa)∧w'.cell? ⟨X+1,0,none⟩=some (.string kb)∧w'.cell? ⟨X+1,1,none⟩=some (iT qb)∧Bl W w')):=fun w' k=>⟨cell_later k x0,cell_later k x1,cell_later k y0,cell_later k y1,k⟩
 go_region_held3 (fun w'=>w'.cell? ⟨X,0,none⟩=some (.string ka)∧w'.cell? ⟨X,1,none⟩=some (iT qa)∧w'.cell? ⟨X+1,0,none⟩=some (.string kb)∧w'.cell? ⟨X+1,1,none⟩=some (iT qb)∧Bl W w') (first | exact HMK.out _ k0 | exact HMK.out _ ((Below.refl _ W).alloc (Nat.le_refl _) _).drew | exact HMK.out _ (k0.alloc (Nat.le_refl _) _)) (first
  | (go_at_call 183;refine (c1 _).mono ?_;rintro e w' ⟨rfl,rfl⟩)
  | (go_at_call 174;refine (c2 _).mono ?_;rintro e w' ⟨rfl,rfl⟩)
  | (go_at_call 182;refine (c3 _ _ _ (qH _ _ _ _ _ (by simp)) (qG _ _ _ _ _ (by simp))).mono ?_;rintro e w' ⟨rfl,rfl⟩))
 go_wp2;go_ret;refine ⟨rfl,1,#[.cells #[.string ka,iT qa,iT da,.string ta,iT na] 78,.cells #[.string kb,iT qb,iT db,.string tb,iT nb] 78,.cells #[iT C,iT D] 3],?_⟩;rw [HWW.out];rw [lc,lc,lc,grow_grow,grow_grow];rfl
theorem fu (x y:ac):ltOf (fun x y:ac=>ic x.1 x.2.1 y.1 y.2.1) x y=bQ x.1 x.2.1 y.1 y.2.1:=iJ _ _ _ _
theorem qk {ka kb:ByteArray} {qa qb:Int} (h1:bQ ka qa kb qb=false) (h2:bQ kb qb ka qa=false):ka=kb∧qa=qb:=by
 have h:=ql ka kb qa qb;rw [h1,h2] at h;simp at h;exact h
theorem tp:SWO (ltOf (fun x y:ac=>ic x.1 x.2.1 y.1 y.2.1)) where
 irrefl x:=by rw [fu];exact iO _ _
 trans x y z h1 h2:=by rw [fu] at *;exact gM h1 h2
 ntrans x y z h1 h2:=by
  rw [fu] at *;cases h3:bQ x.1 x.2.1 z.1 z.2.1 with
  | false=>rfl
  | true =>
   cases h4:bQ y.1 y.2.1 x.1 x.2.1 with
   | true=>rw [gM h4 h3] at h2;cases h2
   | false =>
    obtain ⟨e1,e2⟩:=qk h1 h4;rw [e1,e2,h2] at h3;cases h3
end Go.Proofs.YtlmgojlffgkciaaGreat

namespace Go.Proofs.YtlmgojlffgkciaaGreat
open Go.RowKit Go.Sort
def aK (x y:ac):Bool:=bQ x.1 x.2.1 y.1 y.2.1
theorem iM {x y z:ac} (h1:aK x y=false) (h2:aK y z=false):aK x z=false:=by
 have:=tp.ntrans x y z;rw [fu,fu,fu] at this;exact this h1 h2
def kp (L:List ac):Prop:=L.Pairwise (fun a b=>aK b a=false)
def rL (L:List ac):Prop:=L.Pairwise (fun a b=>aK a b=true)
theorem mf (L:List ac) (e:ac):∀n p x,kf L e n≤p→p<n→L[p]?=some x→aK e x=true
 | 0,p,x,_,h2,_=>absurd h2 (Nat.not_lt_zero _)
 | n+1,p,x,h1,h2,h3=>by
  unfold kf at h1
  cases hn:L[n]? with
  | none=>rw [hn] at h1;simp at h1;omega
  | some y =>
   rw [hn] at h1
   simp only at h1
   by_cases hl:bQ e.1 e.2.1 y.1 y.2.1=true
   · rw [if_pos hl] at h1
     by_cases hp:p=n
     · subst hp
       rw [hn] at h3
       cases h3
       exact hl
     · exact mf L e n p x h1 (by omega) h3
   · rw [if_neg hl] at h1
     omega
theorem sZ (L:List ac) (e:ac):∀n x,0<kf L e n→L[kf L e n - 1]?=some x→n≤L.length→aK e x=false
 | 0,x,h1,_,_=>absurd h1 (Nat.lt_irrefl _)
 | n+1,x,h1,h2,h3=>by
  have hn:L[n]?=some (L[n]'(by omega)):=List.getElem?_eq_getElem (by omega)
  by_cases hl:bQ e.1 e.2.1 (L[n]'(by omega)).1 (L[n]'(by omega)).2.1=true
  · have e1:kf L e (n+1)=kf L e n:=by
     conv=>lhs;unfold kf
     simp only [hn,hl,if_true]
    rw [e1] at h1 h2;exact sZ L e n x h1 h2 (by omega)
  · have e1:kf L e (n+1)=n+1:=by
     conv=>lhs;unfold kf
     simp only [hn,hl];simp
    rw [e1] at h2;simp only [Nat.add_sub_cancel] at h2;rw [hn] at h2;cases h2;simpa [aK] using hl
theorem yH {L:List ac} {e:ac} (h:kp L):kp (f9 L e):=by
 have hle:=uJ L e L.length;obtain ⟨k,hk⟩:=ay (kf L e L.length);have hR:∀y ∈ L.drop k,aK e y=true:=by
  intro y hy;obtain ⟨p,hp,rfl⟩:=List.getElem_of_mem hy;simp at hp;refine mf L e L.length (k+p) _ (by omega) (by omega) ?_;rw [List.getElem?_eq_getElem (by omega)];simp
 have hL:∀x ∈ L.take k,aK e x=false:=by
  intro x hx;obtain ⟨p,hp,rfl⟩:=List.getElem_of_mem hx;simp at hp;have hk1:0<k:=by omega
  have hkl:k - 1<L.length:=by omega
  have h1:aK e (L[k - 1]'hkl)=false:=sZ L e L.length _ (by omega) (by rw [← hk];exact List.getElem?_eq_getElem hkl) (Nat.le_refl _);simp only [List.getElem_take];by_cases hpk:p=k - 1
  · subst hpk;exact h1
  · have h2:=(List.pairwise_iff_getElem.1 h) p (k - 1) (by omega) hkl (by omega);exact iM h1 h2
 have hsp:kp (L.take k++L.drop k):=by rw [List.take_append_drop];exact h
 have hsp':=List.pairwise_append.1 hsp;unfold f9;rw [← hk];refine List.pairwise_append.2 ⟨hsp'.1,?_,?_⟩
 · refine List.pairwise_append.2 ⟨List.pairwise_singleton _ _,hsp'.2.1,?_⟩;intro a ha b hb;simp only [List.mem_singleton] at ha;subst ha;exact tq (hR b hb)
 · intro a ha b hb;rcases List.mem_append.1 hb with hb | hb
   · simp only [List.mem_singleton] at hb;subst hb;exact hL a ha
   · exact hsp'.2.2 a ha b hb
theorem zi (L:List ac) (e:ac):(f9 L e).Perm (L++[e]):=by
 unfold f9;generalize kf L e L.length=k;have h1:(L.take k++([e]++L.drop k)).Perm (L.take k++(L.drop k++[e])):=List.Perm.append_left _ List.perm_append_comm;have h2:L.take k++(L.drop k++[e])=L++[e]:=by rw [← List.append_assoc,List.take_append_drop]
 rw [h2] at h1;exact h1
theorem bJ (L:List ac):kp (aQ L)∧(aQ L).Perm L:=by
 have:∀(L A:List ac),kp A→kp (L.foldl f9 A)∧(L.foldl f9 A).Perm (A++L):=by
  intro L;induction L with
  | nil=>intro A h;exact ⟨h,by simp⟩
  | cons e r ih =>
   intro A h;obtain ⟨h1,h2⟩:=ih (f9 A e) (yH h);refine ⟨h1,?_⟩;rw [List.foldl_cons];refine h2.trans ?_;have:=(zi A e).append_right r;simpa using this
 have h:=this L [] List.Pairwise.nil;simpa [aQ] using h
theorem fL {A B:List ac} (hA:rL A) (hB:kp B) (hP:A.Perm B):A=B:=by
 induction A generalizing B with
 | nil=>exact (List.Perm.nil_eq hP)
 | cons a A ih =>
  cases B with
  | nil=>exact absurd hP.length_eq (by simp)
  | cons b B =>
   have hab:a=b:=by
    by_cases e:a=b
    · exact e
    · exfalso
      have hb:b ∈ a :: A:=hP.mem_iff.2 (List.mem_cons_self ..);have ha:a ∈ b :: B:=hP.mem_iff.1 (List.mem_cons_self ..);have hb':b ∈ A:=(List.mem_cons.1 hb).resolve_left (fun h=>e h.symm);have ha':a ∈ B:=(List.mem_cons.1 ha).resolve_left e;have h1:=(List.pairwise_cons.1 hA).1 b hb';have h2:=(List.pairwise_cons.1 hB).1 a ha';rw [h1] at h2;cases h2
   subst hab;rw [ih (List.pairwise_cons.1 hA).2 (List.pairwise_cons.1 hB).2 (List.Perm.cons_inv hP)]
theorem fa {L:List ac} (h:az L=true):rL L:=by
 refine List.pairwise_iff_getElem.2 ?_;intro i j hi hj hij;exact gq h hij (List.getElem?_eq_getElem hi) (List.getElem?_eq_getElem hj)
theorem sD {L D:List ac} (hW:kp D) (hP:D.Perm L):az D=az (aQ L)∧(az D=true→D=aQ L):=by
 obtain ⟨sW,sP⟩:=bJ L;have hDS:D.Perm (aQ L):=hP.trans sP.symm;cases h1:az D with
 | true =>
  have e:=fL (fa h1) sW hDS;exact ⟨by rw [← e];exact h1.symm,fun _=>e⟩
 | false =>
  cases h2:az (aQ L) with
  | false=>exact ⟨rfl,fun h=>by cases h⟩
  | true =>
   have e:=fL (fa h2) hW hDS.symm;rw [← e,h2] at h1;cases h1
theorem dF (L:List ac):(aQ L).length=L.length:=by
 have:∀(L A:List ac),(L.foldl f9 A).length=A.length+L.length:=by
  intro L;induction L with
  | nil=>intro A;simp
  | cons e r ih=>intro A;rw [List.foldl_cons,ih,lC,List.length_cons];omega
 have h:=this L [];simpa [aQ] using h
end Go.Proofs.YtlmgojlffgkciaaGreat

namespace Go.Proofs.YtlmgojlffgkciaaGreat
open Go.RowKit
theorem nE {x y:ac} (h:aK y x=false):fU x.1 y.1=true:=by
 rw [dR];unfold aK bQ at h;rw [Bool.or_eq_false_iff] at h;rw [ByteArray.toList_eq,ByteArray.toList_eq,h.1];rfl
theorem fp {A:List ac} (h:kp A) {e:ac} (he:e ∈ A):fU (aY A) e.1=true∧fU e.1 (aR A)=true:=by
 obtain ⟨j,hj,rfl⟩:=List.getElem_of_mem he;obtain ⟨f,hf,hl⟩:=lF (L:=A) (by omega);obtain ⟨g,hg,hh⟩:=il (L:=A) (by omega);have hp:=List.pairwise_iff_getElem.1 h;obtain ⟨h0,rfl⟩:=List.getElem?_eq_some_iff.1 hf;obtain ⟨h1,rfl⟩:=List.getElem?_eq_some_iff.1 hg;rw [hl,hh];constructor
 · by_cases hz:j=0
   · subst hz;exact ee _
   · exact nE (hp 0 j h0 hj (by omega))
 · by_cases hz:j=A.length - 1
   · subst hz;exact ee _
   · exact nE (hp j (A.length - 1) hj h1 (by omega))
theorem mj {A:List ac} (h:1≤A.length):∃e ∈ A,aY A=e.1:=by
 obtain ⟨f,hf,hl⟩:=lF (L:=A) (by omega);exact ⟨f,List.mem_of_getElem? hf,hl⟩
theorem we {A:List ac} (h:1≤A.length):∃e ∈ A,aR A=e.1:=by
 obtain ⟨f,hf,hl⟩:=il (L:=A) (by omega);exact ⟨f,List.mem_of_getElem? hf,hl⟩
theorem uH {B:List ae} {r0:ae} (h0:r0 ∈ B) (hok:∀r ∈ B,az r.1=true∧1≤r.1.length) {A:List ac} (hA:A=aQ (aH B).flatten):aY A=eW (aY r0.1) B∧aR A=dh (aR r0.1) B:=by
 have hs:=bJ (aH B).flatten;rw [← hA] at hs;have hmem:∀e,e ∈ A ↔ ∃r ∈ B,e ∈ r.1:=fun e=>by
  rw [hs.2.mem_iff,List.mem_flatten];constructor
  · rintro ⟨l,hl,he⟩;obtain ⟨r,hr,rfl⟩:=List.mem_map.1 hl;exact ⟨r,hr,he⟩
  · rintro ⟨r,hr,he⟩;exact ⟨r.1,List.mem_map.2 ⟨r,hr,rfl⟩,he⟩
 have hlow:∀r ∈ B,∀e ∈ r.1,fU (aY r.1) e.1=true:=fun r hr e he=>by
  rcases me (hok r hr).1 he with h | h
  · rw [h];exact ee _
  · unfold fU;rw [h];rfl
 have hhigh:∀r ∈ B,∀e ∈ r.1,fU e.1 (aR r.1)=true:=fun r hr e he=>by
  rcases oq (hok r hr).1 he with h | h
  · rw [← h];exact ee _
  · unfold fU;rw [h];rfl
 have hne:1≤A.length:=by
  obtain ⟨e,he,_⟩:=mj (hok r0 h0).2;have:e ∈ A:=(hmem e).2 ⟨r0,h0,he⟩;exact List.length_pos_of_mem this
 constructor
 · obtain ⟨e,he,hl⟩:=mj hne;obtain ⟨r,hr,her⟩:=(hmem e).1 he;have h1:fU (eW (aY r0.1) B) (aY A)=true:=by rw [hl];exact ch ((vX B _).2 r hr) (hlow r hr e her)
   have h2:fU (aY A) (eW (aY r0.1) B)=true:=by
    have:∃x ∈ B,eW (aY r0.1) B=aY x.1:=by
     rcases th B (aY r0.1) with h | h
     · exact ⟨r0,h0,h⟩
     · exact h
    obtain ⟨x,hx,e2⟩:=this;obtain ⟨d,hd,e3⟩:=mj (hok x hx).2;rw [e2,e3];exact (fp hs.1 ((hmem d).2 ⟨x,hx,hd⟩)).1
   exact tu h2 h1
 · obtain ⟨e,he,hl⟩:=we hne;obtain ⟨r,hr,her⟩:=(hmem e).1 he;have h1:fU (aR A) (dh (aR r0.1) B)=true:=by rw [hl];exact ch (hhigh r hr e her) ((tF B _).2 r hr)
   have h2:fU (dh (aR r0.1) B) (aR A)=true:=by
    have:∃x ∈ B,dh (aR r0.1) B=aR x.1:=by
     rcases qv B (aR r0.1) with h | h
     · exact ⟨r0,h0,h⟩
     · exact h
    obtain ⟨x,hx,e2⟩:=this;obtain ⟨d,hd,e3⟩:=we (hok x hx).2;rw [e2,e3];exact (fp hs.1 ((hmem d).2 ⟨x,hx,hd⟩)).2
   exact tu h1 h2
end Go.Proofs.YtlmgojlffgkciaaGreat

namespace Go.Proofs.YtlmgojlffgkciaaGreat
open Go.RowKit
def pC (O:List ae) (r:ae):Nat→Nat
 | 0=>0
 | k+1=>match O[k]? with
  | some x=>if mw (aY x.1) (aY r.1) then pC O r k else k+1
  | none=>k+1
def mq (O:List ae) (r:ae):List ae:=O.take (pC O r O.length)++([r]++O.drop (pC O r O.length))
def dr (A B:List ae):List ae:=B.foldl mq A
theorem sY {X Z:List ae} {r:ae} (hZ:∀z ∈ Z,mw (aY z.1) (aY r.1)=true):∀d,d≤Z.length→pC (X++Z) r (X.length+d)=pC (X++Z) r X.length
 | 0,_=>rfl
 | d+1,h=>by
  have hz:(X++Z)[X.length+d]?=some Z[d]:=by
   rw [List.getElem?_append_right (by omega),show X.length+d - X.length=d by omega];exact List.getElem?_eq_getElem (by omega)
  rw [← Nat.add_assoc,pC,hz];simp only [hZ _ (List.getElem_mem _),if_true];exact sY hZ d (by omega)
theorem zK {X Z:List ae} {r:ae} (hZ:∀z ∈ Z,mw (aY z.1) (aY r.1)=true) (hX:∀x,X.getLast?=some x→mw (aY x.1) (aY r.1)=false):mq (X++Z) r=(X++[r])++Z:=by
 have h1:pC (X++Z) r (X++Z).length=X.length:=by
  rw [List.length_append,sY hZ _ (Nat.le_refl _)];cases hn:X.length with
  | zero=>rfl
  | succ k =>
   obtain ⟨y,hk⟩:∃y,X[k]?=some y:=⟨_,List.getElem?_eq_getElem (by omega)⟩;have hl:X.getLast?=some y:=by rw [List.getLast?_eq_getElem?,hn];exact hk
   rw [pC,List.getElem?_append_left (by omega),hk];simp only [hX _ hl,Bool.false_eq_true,if_false]
 unfold mq;rw [h1];simp
theorem oy:∀(B X Z:List ae),(∀r ∈ B,∀z ∈ Z,mw (aY z.1) (aY r.1)=true)→(∀x,X.getLast?=some x→∀r ∈ B,mw (aY x.1) (aY r.1)=false)→B.Pairwise (fun a b=>mw (aY a.1) (aY b.1)=false)→dr (X++Z) B=X++B++Z
 | [],X,Z,_,_,_=>by simp [dr]
 | r :: B,X,Z,hZ,hX,hB=>by
  obtain ⟨h1,h2⟩:=List.pairwise_cons.1 hB
  have e:dr (X++Z) (r :: B)=dr (mq (X++Z) r) B:=rfl
  rw [e,zK (hZ r (by simp)) (fun x hx=>hX x hx r (by simp)),oy B (X++[r]) Z (fun s hs=>hZ s (List.mem_cons_of_mem _ hs)) (fun x hx s hs=>?_) h2]
  · simp
  · rw [List.getLast?_append] at hx
    simp at hx
    subst hx
    exact h1 s hs
end Go.Proofs.YtlmgojlffgkciaaGreat

namespace Go.Proofs.YtlmgojlffgkciaaGreat
open Go.RowKit
def tw (L:List ac) (i:Nat):ByteArray:=match L[i]? with | some e=>e.1 | none=>⟨#[]⟩
theorem fG {L:List ac} {i:Nat} {e:ac} (h:L[i]?=some e):tw L i=e.1:=by
 unfold tw;rw [h]
def eE (L:List ac) (f i:Nat):Bool:=decide (i=L.length) || (decide (20≤i - f) && !decide (tw L i=tw L (i - 1)))
theorem nu (L:List ac):(Lit.int .i64 ((dg L:Nat):Int)).wf=true:=WalkArith.wf_i64 (by have:=zt L;omega)
def dJ (L:List ac) (f i:Nat):ae:=((L.drop f).take (i - f),((dg ((L.drop f).take (i - f)):Nat):Int))
def dU (L:List ac):Nat→List ae × Nat
 | 0=>([],0)
 | k+1=>if eE L (dU L k).2 (k+1) then ((dU L k).1++[dJ L (dU L k).2 (k+1)],k+1) else dU L k
theorem tQ {L:List ac} {k f:Nat} {B:List ae} (h:dU L k=(B,f)) (hc:eE L f (k+1)=true):dU L (k+1)=(B++[dJ L f (k+1)],k+1):=by
 rw [dU,h];simp [hc]
theorem wL {L:List ac} {k f:Nat} {B:List ae} (h:dU L k=(B,f)) (hc:eE L f (k+1)=false):dU L (k+1)=(B,f):=by
 rw [dU,h];simp [hc]
theorem gm {L:List ac} {i f:Nat} {B:List ae} (hi:1≤i) (h:dU L (i - 1)=(B,f)) (hc:eE L f i=true):dU L i=(B++[dJ L f i],i):=by
 obtain ⟨k,rfl⟩:∃k,i=k+1:=⟨i - 1,by omega⟩;exact tQ h hc
theorem lP {L:List ac} {i f:Nat} {B:List ae} (hi:1≤i) (h:dU L (i - 1)=(B,f)) (hc:eE L f i=false):dU L i=(B,f):=by
 obtain ⟨k,rfl⟩:∃k,i=k+1:=⟨i - 1,by omega⟩;exact wL h hc
theorem pm (L:List ac) (k:Nat):∀d,∃X,(dU L (k+d)).1=(dU L k).1++X
 | 0=>⟨[],by simp⟩
 | d+1=>by
  obtain ⟨X,hX⟩:=pm L k d
  rw [Nat.add_succ,dU]
  split
  · exact ⟨X++[dJ L (dU L (k+d)).2 (k+d+1)],by rw [hX];simp⟩
  · exact ⟨X,hX⟩
end Go.Proofs.YtlmgojlffgkciaaGreat

namespace Go.Proofs.YtlmgojlffgkciaaGreat
open Go.RowKit
structure bT (w:World) (X:Nat) (v0 v1 v2 v3 v4:Value):Prop where
 c0:w.cell? ⟨X,0,none⟩=some v0
 c1:w.cell? ⟨X,1,none⟩=some v1
 c2:w.cell? ⟨X,2,none⟩=some v2
 c3:w.cell? ⟨X,3,none⟩=some v3
 c4:w.cell? ⟨X,4,none⟩=some v4
 fr:∀o,w.frozen? ⟨X,o,none⟩=false
theorem bT.lt {w:World} {X:Nat} {v0 v1 v2 v3 v4:Value} (h:bT w X v0 v1 v2 v3 v4):X<w.heap.size:=World.block_lt_of_cell? _ _ h.c0
theorem bT.new (w:World) (T:TypeId) (v0 v1 v2 v3 v4:Value):bT (w.alloc (.cells #[v0,v1,v2,v3,v4] T)) w.heap.size v0 v1 v2 v3 v4 :=
 ⟨by simp,by simp,by simp,by simp,by simp,fun o=>World.frozen?_alloc_new w _ _ o⟩
theorem bT.below {w w':World} {X:Nat} {v0 v1 v2 v3 v4:Value} (h:bT w X v0 v1 v2 v3 v4) (hb:Bl w w'):bT w' X v0 v1 v2 v3 v4 :=
 ⟨cell_later hb h.c0,cell_later hb h.c1,cell_later hb h.c2,cell_later hb h.c3,cell_later hb h.c4,fun o=>(hb.frozen (p:=⟨X,o,none⟩) h.lt).trans (h.fr o)⟩
theorem bT.alloc {w:World} {X:Nat} {v0 v1 v2 v3 v4:Value} (h:bT w X v0 v1 v2 v3 v4) (o:Obj):bT (w.alloc o) X v0 v1 v2 v3 v4:=h.below bZ
theorem bT.grown {w w':World} {X R:Nat} {v0 v1 v2 v3 v4:Value} (h:bT w X v0 v1 v2 v3 v4) (hg:w.grownBy w' (some R)) (hn:X≠R):bT w' X v0 v1 v2 v3 v4 :=
 ⟨(aJ hg (x:=⟨X,0,none⟩) h.lt hn).trans h.c0,(aJ hg (x:=⟨X,1,none⟩) h.lt hn).trans h.c1,(aJ hg (x:=⟨X,2,none⟩) h.lt hn).trans h.c2,(aJ hg (x:=⟨X,3,none⟩) h.lt hn).trans h.c3,(aJ hg (x:=⟨X,4,none⟩) h.lt hn).trans h.c4,fun o=>(World.frozen?_of_block (hg.block X h.lt (fun e=>hn (by cases e;rfl)))).trans (h.fr o)⟩
theorem bT.other {w:World} {X Y:Nat} {v0 v1 v2 v3 v4:Value} (h:bT w X v0 v1 v2 v3 v4) (hn:X≠Y) (o:Nat) (v:Value):bT (w.setCell ⟨Y,o,none⟩ v) X v0 v1 v2 v3 v4:=by
 have ne:∀i,(⟨Y,o,none⟩:Addr)≠⟨X,i,none⟩:=fun i e=>hn (congrArg Addr.block e).symm
 exact ⟨by rw [World.cell?_setCell_other _ _ _ _ (ne 0)];exact h.c0,by rw [World.cell?_setCell_other _ _ _ _ (ne 1)];exact h.c1,by rw [World.cell?_setCell_other _ _ _ _ (ne 2)];exact h.c2,by rw [World.cell?_setCell_other _ _ _ _ (ne 3)];exact h.c3,by rw [World.cell?_setCell_other _ _ _ _ (ne 4)];exact h.c4,fun o'=>by rw [World.frozen?_setCell];exact h.fr o'⟩
theorem bT.set0 {w:World} {X:Nat} {v0 v1 v2 v3 v4:Value} (h:bT w X v0 v1 v2 v3 v4) (v:Value):bT (w.setCell ⟨X,0,none⟩ v) X v v1 v2 v3 v4:=by
 refine ⟨World.cell?_setCell_same' _ _ _ (by rw [h.c0];rfl),?_,?_,?_,?_,fun o'=>by rw [World.frozen?_setCell];exact h.fr o'⟩
 · rw [World.cell?_setCell_other _ _ _ _ (by simp)];exact h.c1
 · rw [World.cell?_setCell_other _ _ _ _ (by simp)];exact h.c2
 · rw [World.cell?_setCell_other _ _ _ _ (by simp)];exact h.c3
 · rw [World.cell?_setCell_other _ _ _ _ (by simp)];exact h.c4
theorem bT.set1 {w:World} {X:Nat} {v0 v1 v2 v3 v4:Value} (h:bT w X v0 v1 v2 v3 v4) (v:Value):bT (w.setCell ⟨X,1,none⟩ v) X v0 v v2 v3 v4:=by
 refine ⟨?_,World.cell?_setCell_same' _ _ _ (by rw [h.c1];rfl),?_,?_,?_,fun o'=>by rw [World.frozen?_setCell];exact h.fr o'⟩
 · rw [World.cell?_setCell_other _ _ _ _ (by simp)];exact h.c0
 · rw [World.cell?_setCell_other _ _ _ _ (by simp)];exact h.c2
 · rw [World.cell?_setCell_other _ _ _ _ (by simp)];exact h.c3
 · rw [World.cell?_setCell_other _ _ _ _ (by simp)];exact h.c4
theorem bT.set2 {w:World} {X:Nat} {v0 v1 v2 v3 v4:Value} (h:bT w X v0 v1 v2 v3 v4) (v:Value):bT (w.setCell ⟨X,2,none⟩ v) X v0 v1 v v3 v4:=by
 refine ⟨?_,?_,World.cell?_setCell_same' _ _ _ (by rw [h.c2];rfl),?_,?_,fun o'=>by rw [World.frozen?_setCell];exact h.fr o'⟩
 · rw [World.cell?_setCell_other _ _ _ _ (by simp)];exact h.c0
 · rw [World.cell?_setCell_other _ _ _ _ (by simp)];exact h.c1
 · rw [World.cell?_setCell_other _ _ _ _ (by simp)];exact h.c3
 · rw [World.cell?_setCell_other _ _ _ _ (by simp)];exact h.c4
theorem bT.set3 {w:World} {X:Nat} {v0 v1 v2 v3 v4:Value} (h:bT w X v0 v1 v2 v3 v4) (v:Value):bT (w.setCell ⟨X,3,none⟩ v) X v0 v1 v2 v v4:=by
 refine ⟨?_,?_,?_,World.cell?_setCell_same' _ _ _ (by rw [h.c3];rfl),?_,fun o'=>by rw [World.frozen?_setCell];exact h.fr o'⟩
 · rw [World.cell?_setCell_other _ _ _ _ (by simp)];exact h.c0
 · rw [World.cell?_setCell_other _ _ _ _ (by simp)];exact h.c1
 · rw [World.cell?_setCell_other _ _ _ _ (by simp)];exact h.c2
 · rw [World.cell?_setCell_other _ _ _ _ (by simp)];exact h.c4
theorem bT.set4 {w:World} {X:Nat} {v0 v1 v2 v3 v4:Value} (h:bT w X v0 v1 v2 v3 v4) (v:Value):bT (w.setCell ⟨X,4,none⟩ v) X v0 v1 v2 v3 v:=by
 refine ⟨?_,?_,?_,?_,World.cell?_setCell_same' _ _ _ (by rw [h.c4];rfl),fun o'=>by rw [World.frozen?_setCell];exact h.fr o'⟩
 · rw [World.cell?_setCell_other _ _ _ _ (by simp)];exact h.c0
 · rw [World.cell?_setCell_other _ _ _ _ (by simp)];exact h.c1
 · rw [World.cell?_setCell_other _ _ _ _ (by simp)];exact h.c2
 · rw [World.cell?_setCell_other _ _ _ _ (by simp)];exact h.c3
theorem bT.setAll {w:World} {X:Nat} {v0 v1 v2 v3 v4:Value} (h:bT w X v0 v1 v2 v3 v4) (u0 u1 u2 u3 u4:Value):bT (((((w.setCell ⟨X,0,none⟩ u0).setCell ⟨X,1,none⟩ u1).setCell ⟨X,2,none⟩ u2).setCell ⟨X,3,none⟩ u3).setCell ⟨X,4,none⟩ u4) X u0 u1 u2 u3 u4 :=
 ((((h.set0 u0).set1 u1).set2 u2).set3 u3).set4 u4
theorem pu.other {w:World} {R:Nat} {a:Option Addr} {len cap P:Nat} (h:pu w R a len cap P) {X:Nat} (hX:X≠R) (hB:∀b off,a=some ⟨b,off,none⟩→0<len→b≠X) (o:Nat) (v:Value):pu (w.setCell ⟨X,o,none⟩ v) R a len cap P:=by
 have ne:∀i,(⟨X,o,none⟩:Addr)≠⟨R,i,none⟩:=fun i e=>hX (congrArg Addr.block e)
 refine ⟨by rw [World.cell?_setCell_other _ _ _ _ (ne 0)];exact h.c0,by rw [World.cell?_setCell_other _ _ _ _ (ne 1)];exact h.c1,by rw [World.frozen?_setCell];exact h.f1,h.few,?_⟩;rcases h.bytes with h0 | ⟨b,off,ha,hb1,hb2,hc⟩
 · exact Or.inl h0
 · by_cases h0:len=0
   · exact Or.inl h0
   · refine Or.inr ⟨b,off,ha,hb1,by simpa [World.setCell] using hb2,fun i hi=>?_⟩;obtain ⟨z,hz,hcc⟩:=hc i hi;exact ⟨z,hz,by rw [World.cell?_setCell_other _ _ _ _ (fun e=>hB b off ha (by omega) (congrArg Addr.block e).symm)];exact hcc⟩
end Go.Proofs.YtlmgojlffgkciaaGreat
namespace Go.Proofs.YtlmgojlffgkciaaGreat
open Go.RowKit
structure jc (w:World) (X:Nat) (v0 v1 v2:Value):Prop where
 c0:w.cell? ⟨X,0,none⟩=some v0
 c1:w.cell? ⟨X,1,none⟩=some v1
 c2:w.cell? ⟨X,2,none⟩=some v2
 fr:∀o,w.frozen? ⟨X,o,none⟩=false
theorem jc.lt {w:World} {X:Nat} {v0 v1 v2:Value} (h:jc w X v0 v1 v2):X<w.heap.size:=World.block_lt_of_cell? _ _ h.c0
theorem jc.new (w:World) (T:TypeId) (v0 v1 v2:Value):jc (w.alloc (.cells #[v0,v1,v2] T)) w.heap.size v0 v1 v2 :=
 ⟨by simp,by simp,by simp,fun o=>World.frozen?_alloc_new w _ _ o⟩
theorem jc.below {w w':World} {X:Nat} {v0 v1 v2:Value} (h:jc w X v0 v1 v2) (hb:Bl w w'):jc w' X v0 v1 v2 :=
 ⟨cell_later hb h.c0,cell_later hb h.c1,cell_later hb h.c2,fun o=>(hb.frozen (p:=⟨X,o,none⟩) h.lt).trans (h.fr o)⟩
theorem jc.alloc {w:World} {X:Nat} {v0 v1 v2:Value} (h:jc w X v0 v1 v2) (o:Obj):jc (w.alloc o) X v0 v1 v2:=h.below bZ
theorem jc.grown {w w':World} {X R:Nat} {v0 v1 v2:Value} (h:jc w X v0 v1 v2) (hg:w.grownBy w' (some R)) (hn:X≠R):jc w' X v0 v1 v2 :=
 ⟨(aJ hg (x:=⟨X,0,none⟩) h.lt hn).trans h.c0,(aJ hg (x:=⟨X,1,none⟩) h.lt hn).trans h.c1,(aJ hg (x:=⟨X,2,none⟩) h.lt hn).trans h.c2,fun o=>(World.frozen?_of_block (hg.block X h.lt (fun e=>hn (by cases e;rfl)))).trans (h.fr o)⟩
theorem jc.other {w:World} {X Y:Nat} {v0 v1 v2:Value} (h:jc w X v0 v1 v2) (hn:X≠Y) (o:Nat) (v:Value):jc (w.setCell ⟨Y,o,none⟩ v) X v0 v1 v2:=by
 have ne:∀i,(⟨Y,o,none⟩:Addr)≠⟨X,i,none⟩:=fun i e=>hn (congrArg Addr.block e).symm
 exact ⟨by rw [World.cell?_setCell_other _ _ _ _ (ne 0)];exact h.c0,by rw [World.cell?_setCell_other _ _ _ _ (ne 1)];exact h.c1,by rw [World.cell?_setCell_other _ _ _ _ (ne 2)];exact h.c2,fun o'=>by rw [World.frozen?_setCell];exact h.fr o'⟩
theorem jc.setAll {w:World} {X:Nat} {v0 v1 v2:Value} (h:jc w X v0 v1 v2) (u0 u1 u2:Value):jc (((w.setCell ⟨X,0,none⟩ u0).setCell ⟨X,1,none⟩ u1).setCell ⟨X,2,none⟩ u2) X u0 u1 u2:=by
 refine ⟨?_,?_,?_,fun o'=>by rw [World.frozen?_setCell,World.frozen?_setCell,World.frozen?_setCell];exact h.fr o'⟩
 · rw [World.cell?_setCell_other _ _ _ _ (by simp),World.cell?_setCell_other _ _ _ _ (by simp)];exact World.cell?_setCell_same' _ _ _ (by rw [h.c0];rfl)
 · rw [World.cell?_setCell_other _ _ _ _ (by simp)];exact World.cell?_setCell_same' _ _ _ (by rw [World.cell?_setCell_other _ _ _ _ (by simp),h.c1];rfl)
 · exact World.cell?_setCell_same' _ _ _ (by rw [World.cell?_setCell_other _ _ _ _ (by simp),World.cell?_setCell_other _ _ _ _ (by simp),h.c2];rfl)
end Go.Proofs.YtlmgojlffgkciaaGreat
