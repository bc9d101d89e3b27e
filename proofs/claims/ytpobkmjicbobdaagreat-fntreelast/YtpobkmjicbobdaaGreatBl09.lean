/- Walks. -/
import Derived.Test.YtpobkmjicbobdaaGreatBl07
import Derived.Deep.AppendLies
namespace Go.Proofs.YtpobkmjicbobdaaGreat
set_option maxRecDepth 100000
set_option maxHeartbeats 40000000
open Go.RowKit
variable {B X Z:List an} {L:List ac} {f i k:Nat} {r:an}
def pt (O:List an) (r:an):Nat→Nat
 | 0=>0
 | k+1=>match O[k]? with
  | some x=>if mi (bd x.1) (bd r.1) then pt O r k else k+1
  | none=>k+1
def me (O:List an) (r:an):List an:=O.take (pt O r O.length)++([r]++O.drop (pt O r O.length))
def dq (A B:List an):List an:=B.foldl me A
theorem sY {X Z:List an} {r:an} (b:∀z ∈ Z,mi (bd z.1) (bd r.1)=true):∀d,d≤Z.length→pt (X++Z) r (X.length+d)=pt (X++Z) r X.length
 | 0,_=>rfl
 | d+1,h=>by
  have hz:(X++Z)[X.length+d]?=some Z[d]:=by
   rw [CU (by omega),show X.length+d - X.length=d by omega];exact j' (by omega)
  rw [← Eo,pt,hz];simp only [b _ (Dq _),if_true];exact sY b d (by omega)
theorem zt (b:∀z ∈ Z,mi (bd z.1) (bd r.1)=true) (d:∀x,X.getLast?=some x→mi (bd x.1) (bd r.1)=false):me (X++Z) r=(X++[r])++Z:=by
 have h1:pt (X++Z) r (X++Z).length=X.length:=by
  rw [CW,sY b _ (Cy _)];cases hn:X.length with
  | zero=>rfl
  | succ k =>
   obtain ⟨y,hk⟩:∃y,X[k]?=some y:=⟨_,j' (by omega)⟩;have hl:X.getLast?=some y:=by rw [List.getLast?_eq_getElem?,hn];exact hk
   rw [pt,C7 (by omega),hk];simp only [d _ hl,EE,if_false]
 unfold me;rw [h1];simp
theorem ol:∀(B X Z:List an),(∀r ∈ B,∀z ∈ Z,mi (bd z.1) (bd r.1)=true)→(∀x,X.getLast?=some x→∀r ∈ B,mi (bd x.1) (bd r.1)=false)→B.Pairwise (fun a b=>mi (bd a.1) (bd b.1)=false)→dq (X++Z) B=X++B++Z
 | [],X,Z,_,_,_=>by simp [dq]
 | r :: B,X,Z,d,g,hB=>by
  obtain ⟨h1,h2⟩:=Dm.1 hB
  have e:dq (X++Z) (r :: B)=dq (me (X++Z) r) B:=rfl
  rw [e,zt (d r (by simp)) (fun x hx=>g x hx r (by simp)),ol B (X++[r]) Z (fun s hs=>d s (DB _ hs)) (fun x hx s hs=>?_) h2]
  · simp
  · rw [List.getLast?_append] at hx
    simp at hx
    subst hx
    exact h1 s hs
def il (L:List ac) (i:Nat):ByteArray:=match L[i]? with | some e=>e.1 | none=>⟨#[]⟩
theorem jF {e:ac} (h:L[i]?=some e):il L i=e.1:=by
 unfold il;rw [h]
def fY (L:List ac) (f i:Nat):Bool:=decide (i=L.length) || (decide (20≤i - f) && !decide (il L i=il L (i - 1)))
theorem vE (L:List ac):(Lit.int .i64 ((cV L:Nat):Int)).wf=true:=Dk (by have:=lq L;omega)
def ep (L:List ac) (f i:Nat):an:=((L.drop f).take (i - f),((cV ((L.drop f).take (i - f)):Nat):Int))
def eU (L:List ac):Nat→List an × Nat
 | 0=>([],0)
 | k+1=>if fY L (eU L k).2 (k+1) then ((eU L k).1++[ep L (eU L k).2 (k+1)],k+1) else eU L k
theorem o9 (h:eU L k=(B,f)) (hc:fY L f (k+1)=true):eU L (k+1)=(B++[ep L f (k+1)],k+1):=by
 rw [eU,h];simp [hc]
theorem rP (h:eU L k=(B,f)) (hc:fY L f (k+1)=false):eU L (k+1)=(B,f):=by
 rw [eU,h];simp [hc]
theorem qG (hi:1≤i) (h:eU L (i - 1)=(B,f)) (hc:fY L f i=true):eU L i=(B++[ep L f i],i):=by
 obtain ⟨k,rfl⟩:∃k,i=k+1:=⟨i - 1,by omega⟩;exact o9 h hc
theorem tF (hi:1≤i) (h:eU L (i - 1)=(B,f)) (hc:fY L f i=false):eU L i=(B,f):=by
 obtain ⟨k,rfl⟩:∃k,i=k+1:=⟨i - 1,by omega⟩;exact rP h hc
end Go.Proofs.YtpobkmjicbobdaaGreat
namespace Go.Proofs.YtpobkmjicbobdaaGreat
open Go.RowKit
structure bW (w:World) (X:Nat) (v0 v1 v2 v3 v4:Value):Prop where
 c0:w.cell? ⟨X,0,none⟩=some v0
 c1:w.cell? ⟨X,1,none⟩=some v1
 c2:w.cell? ⟨X,2,none⟩=some v2
 c3:w.cell? ⟨X,3,none⟩=some v3
 c4:w.cell? ⟨X,4,none⟩=some v4
 fr:∀o,w.frozen? ⟨X,o,none⟩=false
theorem bW.lt {w:World} {X:Nat} {v0 b d v3 v4:Value} (h:bW w X v0 b d v3 v4):X<w.heap.size:=Cz _ _ h.c0
theorem bW.all {w:World} {X:Nat} {v0 b d v3 v4:Value}(h:bW w X v0 b d v3 v4):w.cell? ⟨X,0,none⟩=some v0∧w.cell? ⟨X,1,none⟩=some b∧w.cell? ⟨X,2,none⟩=some d∧w.cell? ⟨X,3,none⟩=some v3∧w.cell? ⟨X,4,none⟩=some v4∧(∀o,w.frozen? ⟨X,o,none⟩=false)∧X<w.heap.size:=⟨h.c0,h.c1,h.c2,h.c3,h.c4,h.fr,h.lt⟩
theorem bW.new (w:World) (T:TypeId) (v0 b d v3 v4:Value):bW (w.alloc (.cells #[v0,b,d,v3,v4] T)) w.heap.size v0 b d v3 v4 :=
 ⟨by simp,by simp,by simp,by simp,by simp,fun o=>Ey w _ _ o⟩
theorem bW.below {w w':World} {X:Nat} {v0 b d v3 v4:Value} (h:bW w X v0 b d v3 v4) (hb:Bl w w'):bW w' X v0 b d v3 v4 :=
 ⟨cell_later hb h.c0,cell_later hb h.c1,cell_later hb h.c2,cell_later hb h.c3,cell_later hb h.c4,fun o=>(hb.frozen (p:=⟨X,o,none⟩) h.lt).trans (h.fr o)⟩
theorem bW.alloc {w:World} {X:Nat} {v0 b d v3 v4:Value} (h:bW w X v0 b d v3 v4) (o:Obj):bW (w.alloc o) X v0 b d v3 v4:=h.below bZ
theorem bW.grown {w w':World} {X R:Nat} {v0 b d v3 v4:Value} (h:bW w X v0 b d v3 v4) (hg:w.grownBy w' (some R)) (hn:X≠R):bW w' X v0 b d v3 v4 :=
 ⟨(aj hg (x:=⟨X,0,none⟩) h.lt hn).trans h.c0,(aj hg (x:=⟨X,1,none⟩) h.lt hn).trans h.c1,(aj hg (x:=⟨X,2,none⟩) h.lt hn).trans h.c2,(aj hg (x:=⟨X,3,none⟩) h.lt hn).trans h.c3,(aj hg (x:=⟨X,4,none⟩) h.lt hn).trans h.c4,fun o=>(Eq (hg.block X h.lt (fun e=>hn (by cases e;rfl)))).trans (h.fr o)⟩
theorem bW.other {w:World} {X Y:Nat} {v0 b d v3 v4:Value} (h:bW w X v0 b d v3 v4) (hn:X≠Y) (o:Nat) (v:Value):bW (w.setCell ⟨Y,o,none⟩ v) X v0 b d v3 v4:=by
 have ne:∀i,(⟨Y,o,none⟩:Addr)≠⟨X,i,none⟩:=fun i e=>hn (congrArg Addr.block e).symm
 exact ⟨by rw [u' _ _ _ _ (ne 0)];exact h.c0,by rw [u' _ _ _ _ (ne 1)];exact h.c1,by rw [u' _ _ _ _ (ne 2)];exact h.c2,by rw [u' _ _ _ _ (ne 3)];exact h.c3,by rw [u' _ _ _ _ (ne 4)];exact h.c4,fun g=>by rw [Dj];exact h.fr g⟩
theorem bW.set0 {w:World} {X:Nat} {v0 b d v3 v4:Value} (h:bW w X v0 b d v3 v4) (v:Value):bW (w.setCell ⟨X,0,none⟩ v) X v b d v3 v4:=by
 refine ⟨C4 _ _ _ (by rw [h.c0];rfl),?_,?_,?_,?_,fun e=>by rw [Dj];exact h.fr e⟩
 · rw [u' _ _ _ _ (by simp)];exact h.c1
 · rw [u' _ _ _ _ (by simp)];exact h.c2
 · rw [u' _ _ _ _ (by simp)];exact h.c3
 · rw [u' _ _ _ _ (by simp)];exact h.c4
theorem bW.set1 {w:World} {X:Nat} {v0 e b v3 v4:Value} (h:bW w X v0 e b v3 v4) (v:Value):bW (w.setCell ⟨X,1,none⟩ v) X v0 v b v3 v4:=by
 refine ⟨?_,C4 _ _ _ (by rw [h.c1];rfl),?_,?_,?_,fun d=>by rw [Dj];exact h.fr d⟩
 · rw [u' _ _ _ _ (by simp)];exact h.c0
 · rw [u' _ _ _ _ (by simp)];exact h.c2
 · rw [u' _ _ _ _ (by simp)];exact h.c3
 · rw [u' _ _ _ _ (by simp)];exact h.c4
theorem bW.set2 {w:World} {X:Nat} {v0 b e v3 v4:Value} (h:bW w X v0 b e v3 v4) (v:Value):bW (w.setCell ⟨X,2,none⟩ v) X v0 b v v3 v4:=by
 refine ⟨?_,?_,C4 _ _ _ (by rw [h.c2];rfl),?_,?_,fun d=>by rw [Dj];exact h.fr d⟩
 · rw [u' _ _ _ _ (by simp)];exact h.c0
 · rw [u' _ _ _ _ (by simp)];exact h.c1
 · rw [u' _ _ _ _ (by simp)];exact h.c3
 · rw [u' _ _ _ _ (by simp)];exact h.c4
theorem bW.set3 {w:World} {X:Nat} {v0 b d v3 v4:Value} (h:bW w X v0 b d v3 v4) (v:Value):bW (w.setCell ⟨X,3,none⟩ v) X v0 b d v v4:=by
 refine ⟨?_,?_,?_,C4 _ _ _ (by rw [h.c3];rfl),?_,fun e=>by rw [Dj];exact h.fr e⟩
 · rw [u' _ _ _ _ (by simp)];exact h.c0
 · rw [u' _ _ _ _ (by simp)];exact h.c1
 · rw [u' _ _ _ _ (by simp)];exact h.c2
 · rw [u' _ _ _ _ (by simp)];exact h.c4
theorem bW.set4 {w:World} {X:Nat} {v0 b d v3 v4:Value} (h:bW w X v0 b d v3 v4) (v:Value):bW (w.setCell ⟨X,4,none⟩ v) X v0 b d v3 v:=by
 refine ⟨?_,?_,?_,?_,C4 _ _ _ (by rw [h.c4];rfl),fun e=>by rw [Dj];exact h.fr e⟩
 · rw [u' _ _ _ _ (by simp)];exact h.c0
 · rw [u' _ _ _ _ (by simp)];exact h.c1
 · rw [u' _ _ _ _ (by simp)];exact h.c2
 · rw [u' _ _ _ _ (by simp)];exact h.c3
theorem bW.setAll {w:World} {X:Nat} {v0 b d v3 v4:Value} (h:bW w X v0 b d v3 v4) (u0 u1 u2 u3 u4:Value):bW (((((w.setCell ⟨X,0,none⟩ u0).setCell ⟨X,1,none⟩ u1).setCell ⟨X,2,none⟩ u2).setCell ⟨X,3,none⟩ u3).setCell ⟨X,4,none⟩ u4) X u0 u1 u2 u3 u4 :=
 ((((h.set0 u0).set1 u1).set2 u2).set3 u3).set4 u4
theorem aZ.other {w:World} {R:Nat} {a:Option Addr} {len g P:Nat} (h:aZ w R a len g P) {X:Nat} (t:X≠R) (hB:∀b d,a=some ⟨b,d,none⟩→0<len→b≠X) (o:Nat) (v:Value):aZ (w.setCell ⟨X,o,none⟩ v) R a len g P:=by
 have ne:∀i,(⟨X,o,none⟩:Addr)≠⟨R,i,none⟩:=fun i e=>t (congrArg Addr.block e)
 refine ⟨by rw [u' _ _ _ _ (ne 0)];exact h.c0,by rw [u' _ _ _ _ (ne 1)];exact h.c1,by rw [Dj];exact h.f1,h.few,fun i=>by rw [u' _ _ _ _ (ne (i+2))];exact h.two i,?_⟩;rcases h.bytes with h0 | ⟨b,d,ha,m,s,hc⟩
 · exact Or.inl h0
 · by_cases h0:len=0
   · exact Or.inl h0
   · refine Or.inr ⟨b,d,ha,m,by simpa [World.setCell] using s,fun i hi=>?_⟩;obtain ⟨z,hz,n⟩:=hc i hi;exact ⟨z,hz,by rw [u' _ _ _ _ (fun e=>hB b d ha (by omega) (congrArg Addr.block e).symm)];exact n⟩
end Go.Proofs.YtpobkmjicbobdaaGreat
namespace Go.Proofs.YtpobkmjicbobdaaGreat
open Go.RowKit
structure ew (w:World) (X:Nat) (v0 v1 v2:Value):Prop where
 c0:w.cell? ⟨X,0,none⟩=some v0
 c1:w.cell? ⟨X,1,none⟩=some v1
 c2:w.cell? ⟨X,2,none⟩=some v2
 fr:∀o,w.frozen? ⟨X,o,none⟩=false
theorem ew.lt {w:World} {X:Nat} {v0 b d:Value} (h:ew w X v0 b d):X<w.heap.size:=Cz _ _ h.c0
theorem ew.all {w:World} {X:Nat} {v0 b d:Value}(h:ew w X v0 b d):w.cell? ⟨X,0,none⟩=some v0∧w.cell? ⟨X,1,none⟩=some b∧w.cell? ⟨X,2,none⟩=some d∧(∀o,w.frozen? ⟨X,o,none⟩=false)∧X<w.heap.size:=⟨h.c0,h.c1,h.c2,h.fr,h.lt⟩
theorem ew.new (w:World) (T:TypeId) (v0 b v2:Value):ew (w.alloc (.cells #[v0,b,v2] T)) w.heap.size v0 b v2 :=
 ⟨by simp,by simp,by simp,fun o=>Ey w _ _ o⟩
theorem ew.below {w w':World} {X:Nat} {v0 b v2:Value} (h:ew w X v0 b v2) (hb:Bl w w'):ew w' X v0 b v2 :=
 ⟨cell_later hb h.c0,cell_later hb h.c1,cell_later hb h.c2,fun o=>(hb.frozen (p:=⟨X,o,none⟩) h.lt).trans (h.fr o)⟩
theorem ew.alloc {w:World} {X:Nat} {v0 b v2:Value} (h:ew w X v0 b v2) (o:Obj):ew (w.alloc o) X v0 b v2:=h.below bZ
theorem ew.grown {w w':World} {X R:Nat} {v0 b v2:Value} (h:ew w X v0 b v2) (hg:w.grownBy w' (some R)) (hn:X≠R):ew w' X v0 b v2 :=
 ⟨(aj hg (x:=⟨X,0,none⟩) h.lt hn).trans h.c0,(aj hg (x:=⟨X,1,none⟩) h.lt hn).trans h.c1,(aj hg (x:=⟨X,2,none⟩) h.lt hn).trans h.c2,fun o=>(Eq (hg.block X h.lt (fun e=>hn (by cases e;rfl)))).trans (h.fr o)⟩
theorem ew.other {w:World} {X Y:Nat} {v0 b v2:Value} (h:ew w X v0 b v2) (hn:X≠Y) (o:Nat) (v:Value):ew (w.setCell ⟨Y,o,none⟩ v) X v0 b v2:=by
 have ne:∀i,(⟨Y,o,none⟩:Addr)≠⟨X,i,none⟩:=fun i e=>hn (congrArg Addr.block e).symm
 exact ⟨by rw [u' _ _ _ _ (ne 0)];exact h.c0,by rw [u' _ _ _ _ (ne 1)];exact h.c1,by rw [u' _ _ _ _ (ne 2)];exact h.c2,fun d=>by rw [Dj];exact h.fr d⟩
theorem ew.setAll {w:World} {X:Nat} {v0 d e:Value} (h:ew w X v0 d e) (u0 u1 u2:Value):ew (((w.setCell ⟨X,0,none⟩ u0).setCell ⟨X,1,none⟩ u1).setCell ⟨X,2,none⟩ u2) X u0 u1 u2:=by
 refine ⟨?_,?_,?_,fun b=>by rw [Dj,Dj,Dj];exact h.fr b⟩
 · rw [u' _ _ _ _ (by simp),u' _ _ _ _ (by simp)];exact C4 _ _ _ (by rw [h.c0];rfl)
 · rw [u' _ _ _ _ (by simp)];exact C4 _ _ _ (by rw [u' _ _ _ _ (by simp),h.c1];rfl)
 · exact C4 _ _ _ (by rw [u' _ _ _ _ (by simp),u' _ _ _ _ (by simp),h.c2];rfl)
end Go.Proofs.YtpobkmjicbobdaaGreat
namespace Go.Proofs.YtpobkmjicbobdaaGreat
open Go.RowKit
set_option maxRecDepth 100000
set_option maxHeartbeats 2000000
attribute [local go_sem] DN
def aX:Bool→Int→List ac→Int × ByteArray × Int
 | _,acc,[]=>(3,⟨#[]⟩,acc)
 | first,acc,e :: R=>if e.2.2.1=1 then (1,e.2.2.2.1,acc+e.2.2.2.2) else if e.2.2.1=2 then ((if first then 2 else 1),⟨#[]⟩,acc+e.2.2.2.2) else aX false (acc+e.2.2.2.2) R
def dH (n:Int):Bool:=decide (-1000000≤n) && decide (n≤1000000)
theorem k9 (n:Int) (w:World):Calls Tryz.prog 200 #[iT n] w fun e w'=>e=.returned (.bool (dH n))∧w'=w:=by
 by_cases h1:-1000000≤n
 · by_cases h2:n≤1000000
   · have b:dH n=true:=by simp [dH,h1,h2]
     rw [b];go_enter Tryz.func200,Tryz.ntmps200
     go_wp2;go_ret;exact ⟨rfl,rfl⟩
   · have b:dH n=false:=by simp [dH,h2]
     rw [b];go_enter Tryz.func200,Tryz.ntmps200
     go_wp2;go_ret;exact ⟨rfl,rfl⟩
 · have b:dH n=false:=by simp [dH,h1]
   rw [b];go_enter Tryz.func200,Tryz.ntmps200
   go_wp2;go_ret;exact ⟨rfl,rfl⟩
theorem yJ (b ab n c:Nat) (L:List ac) (y:ByteArray) (x:Int) (w:World) (hL:ag w (some ⟨b,ab,none⟩) n c L) (hn:1≤n) (bn:n≤1048576) (h0:∃r,L[0]?=some (y,x,r)) (hN:∀e ∈ L,-1000000≤e.2.2.2.2∧e.2.2.2.2≤1000000) :
 Calls Tryz.prog 265 #[sO b ab n c] w fun e w'=>e=.returned (.tuple #[.agg #[.string y,iT x,iT (aX true 0 L).1,.string (aX true 0 L).2.1,iT (aX true 0 L).2.2],.bool (dH (aX true 0 L).2.2)])∧Bl w w':=by
 have hr:=hL.room;have b4:=hL.big;unfold maxLen at b4;have HL:=bO hL;have HN:=bO hN;have a8:=(hL.lies _ rfl (by omega)).1;simp only at a8;obtain ⟨s,q,d,t,nn,hg,_,e0,e1,_⟩:=hL.ent (Below.refl _ w) a8 0 (by omega);obtain ⟨r,aO⟩:=h0;rw [aO] at hg;cases hg;simp only [EO,DS] at e0 e1;clear hL hN aO;have bq:(0:Int)<(n:Int):=by omega
 have bw:0<n:=hn;obtain ⟨R,hR⟩:=aH w.heap.size;obtain ⟨W,hW⟩:=aH (w.alloc (.cells #[.string ⟨#[]⟩,iT 0,iT 0,.string ⟨#[]⟩,iT 0] 50));have kW:Bl w W:=by rw [hW];exact bZ
 have aF:bW W R (.string ⟨#[]⟩) (iT 0) (iT 0) (.string ⟨#[]⟩) (iT 0):=by rw [hW,hR];exact bW.new _ _ _ _ _ _ _
 have av:CG (Bl w W):=kW;have aJ:CG (bW W R (.string ⟨#[]⟩) (iT 0) (iT 0) (.string ⟨#[]⟩) (iT 0)):=aF;have C:CG (w.heap.size≤R):=by show w.heap.size≤R;omega
 have e0:=cell_later kW e0;have e1:=cell_later kW e1;have b3:b<W.heap.size:=l' a8 kW.size;have O:Bl W W.drew:=(Below.refl _ W).drew;have D:CG (∀w',Bl W w'→(w'.cell? ⟨b,ab,none⟩=some (.string y)∧w'.cell? ⟨b,ab+1,none⟩=some (iT x)∧b<w'.heap.size)):=fun w' U=>⟨cell_later U e0,cell_later U e1,l' b3 U.size⟩
 go_enter Tryz.func265,Tryz.ntmps265
 go_upto_region 1 with fail
 rw [← hW,← hR];clear hW hR kW aF;go_cut [4] (fun s4 wx=>∃(X:Nat),s4=.pointer (pT X)∧bW wx X (.string y) (iT x) (iT 3) (.string ⟨#[]⟩) (iT 0)∧W.heap.size≤X∧Bl W wx)
 case first =>
  refine ez D O fun E=>?_
  generalize W.drew=wd at O E ⊢;refine aP 0 9 E ?_;refine aR 9 fun K hK=>?_
  go_simp;have I:=bW.new wd 50 (.string ⟨#[]⟩) (iT 0) (iT 0) (.string ⟨#[]⟩) (iT 0);have ka:=O.alloc O.size (.cells #[.string ⟨#[]⟩,iT 0,iT 0,.string ⟨#[]⟩,iT 0] 50);have Y:=O.size;generalize wd.alloc (.cells #[.string ⟨#[]⟩,iT 0,iT 0,.string ⟨#[]⟩,iT 0] 50)=wA at I ka ⊢;generalize wd.heap.size=X at I Y ⊢;refine hK.o _ _ (D.o _ ka) fun E=>?_
  (try go_frame);refine aR 10 fun K hK=>?_
  have y0:=I.all;have z0:=I.fr 0;have z1:=I.fr 1;have z2:=I.fr 2;have z3:=I.fr 3;have z4:=I.fr 4;have zx:=I.lt;go_simp;have kz:=(((((ka).setCell (p:=⟨X,0,none⟩) Y (.string y)).setCell (p:=⟨X,1,none⟩) Y (iT x)).setCell (p:=⟨X,2,none⟩) Y (iT 3)).setCell (p:=⟨X,3,none⟩) Y (.string ⟨#[]⟩)).setCell (p:=⟨X,4,none⟩) Y (iT 0);have hby:=I.setAll (.string y) (iT x) (iT 3) (.string ⟨#[]⟩) (iT 0);clear y0 z0 z1 z2 z3 z4 zx;refine hK.o _ _ (D.o _ kz) fun E=>?_
  (try go_frame);refine dN ?_;go_wp2;go_meet
  exact ⟨X,rfl,hby,Y,kz⟩
 case rest =>
  obtain ⟨X,rfl,hX,ba,I⟩:=hcut;clear O D e0 e1;have b8:CG (Bl w wc):=av.o.trans (I.mono av.o.size);have b1:CG (bW wc R (.string ⟨#[]⟩) (iT 0) (iT 0) (.string ⟨#[]⟩) (iT 0)):=aJ.o.below I;have A:CG (X≠R):=by have:=aJ.o.lt;show X≠R;omega
  have b9:CG (bW wc X (.string y) (iT x) (iT 3) (.string ⟨#[]⟩) (iT 0)):=hX;have T:CG (w.heap.size≤X):=by have:=av.o.size;show w.heap.size≤X;omega
  clear hX I ba;go_wp2;go_loopw [5] (fun iv wr=>∃(k:Nat) (g:Int),k≤n∧iv=iT k∧bW wr X (.string y) (iT x) (iT 3) (.string ⟨#[]⟩) (iT g)∧bW wr R (.string ⟨#[]⟩) (iT 0) (iT 0) (.string ⟨#[]⟩) (iT 0)∧Bl w wr∧aX (decide (k=0)) g (L.drop k)=aX true 0 L∧-(1000000*(k:Int))≤g∧g≤1000000*(k:Int)) (fun iv _=>n - (intOf iv).toNat)
  case atStart=>exact ⟨0,0,C3 _,rfl,b9.o,b1.o,b8.o,rfl,by omega,by omega⟩
  case round =>
   obtain ⟨k,g,hk,rfl,hX,aE,hb,hj,bo,bl⟩:=hrel;have HX:CG (bW wr X (.string y) (iT x) (iT 3) (.string ⟨#[]⟩) (iT g)):=hX;have a2:CG (bW wr R (.string ⟨#[]⟩) (iT 0) (iT 0) (.string ⟨#[]⟩) (iT 0)):=aE;have HB:CG (Bl w wr):=hb;have HJ:CG (aX (decide (k=0)) g (L.drop k)=aX true 0 L):=hj;obtain ⟨x0,x1,x2,x3,x4,xf⟩:=hX;obtain ⟨r0,r1,r2,r3,r4,rf⟩:=aE;have ah:=xf 2;have ae:=xf 3;have ap:=xf 4;have ak:=rf 0;have ao:=rf 1;have ad:=rf 2;have aj:=rf 3;have al:=rf 4;have lX:=Cz _ _ x0;have lR:=Cz _ _ r0;simp only at lX lR;have b6:=A.o;have Q:R≠X:=fun e=>b6 e.symm
   clear xf rf hj;by_cases b7:k<n
   · have aN:(k:Int)<(n:Int):=by omega
     obtain ⟨s,q,d,t,nn,hg,hw,e0,e1,e2,e3,e4⟩:=HL.o.ent hb a8 k b7;have bs:b<wr.heap.size:=l' a8 hb.size;obtain ⟨m1,m2⟩:=HN.o _ (CV hg);simp only at m1 m2;have aI:L.drop k=(s,q,d,t,nn) :: L.drop (k+1):=by
      have b0:=(Cx.1 hg).1;rw [DR b0,(Cx.1 hg).2]
     have ai:CG (L.drop k=(s,q,d,t,nn) :: L.drop (k+1)):=aI;have bv:wr.heap.size≠X:=by omega
     have bj:X≠wr.heap.size:=by omega
     have bk:R≠wr.heap.size:=by omega
     clear hg hw aI hb;have b5:-9223372036854775808≤g+nn:=by omega
     have bd:g+nn≤9223372036854775807:=by omega
     by_cases aC:d=1
     · subst aC;have HE:CG (aX true 0 L=(1,t,g+nn)):=by show aX true 0 L=_;rw [← HJ.o,ai.o];simp [aX]
       have F:CG (bW ((((wr.setCell ⟨X,4,none⟩ (iT (g+nn))).setCell ⟨X,2,none⟩ (iT 1)).setCell ⟨X,3,none⟩ (.string t)).alloc (.cells #[.string s,iT q,iT 1,.string t,iT nn] 50)) X (.string y) (iT x) (iT 1) (.string t) (iT (g+nn))):=(((HX.o.set4 _).set2 _).set3 _).alloc _;have N:CG (bW ((((wr.setCell ⟨X,4,none⟩ (iT (g+nn))).setCell ⟨X,2,none⟩ (iT 1)).setCell ⟨X,3,none⟩ (.string t)).alloc (.cells #[.string s,iT q,iT 1,.string t,iT nn] 50)) R (.string ⟨#[]⟩) (iT 0) (iT 0) (.string ⟨#[]⟩) (iT 0)):=(((a2.o.other Q _ _).other Q _ _).other Q _ _).alloc _;have H:CG (Bl w ((((wr.setCell ⟨X,4,none⟩ (iT (g+nn))).setCell ⟨X,2,none⟩ (iT 1)).setCell ⟨X,3,none⟩ (.string t)).alloc (.cells #[.string s,iT q,iT 1,.string t,iT nn] 50))):=(((HB.o.setCell (p:=⟨X,4,none⟩) T.o _).setCell (p:=⟨X,2,none⟩) T.o _).setCell (p:=⟨X,3,none⟩) T.o _).alloc (by have:=HB.o.size;simpa [World.setCell] using this) _;go_upto_region 14 with fail
       generalize (((wr.setCell ⟨X,4,none⟩ (iT (g+nn))).setCell ⟨X,2,none⟩ (iT 1)).setCell ⟨X,3,none⟩ (.string t)).alloc (.cells #[.string s,iT q,iT 1,.string t,iT nn] 50)=Wf at F N H ⊢;clear x0 x1 x2 x3 x4 r0 r1 r2 r3 r4 ah ae ap ak ao ad aj al lX lR;have O:Bl Wf Wf.drew:=(Below.refl _ Wf).drew;have D:CG (∀w',Bl Wf w'→(w'.cell? ⟨X,0,none⟩=some (.string y)∧w'.cell? ⟨X,1,none⟩=some (iT x)∧w'.cell? ⟨X,2,none⟩=some (iT 1)∧w'.cell? ⟨X,3,none⟩=some (.string t)∧w'.cell? ⟨X,4,none⟩=some (iT (g+nn))∧X<w'.heap.size)):=fun w' U=>by have h:=F.o.below U;exact ⟨h.c0,h.c1,h.c2,h.c3,h.c4,h.lt⟩
       have a0:CG (∀w',Bl Wf w'→((fun w'=>w'.cell? ⟨X,0,none⟩=some (.string y)∧w'.cell? ⟨X,1,none⟩=some (iT x)∧w'.cell? ⟨X,2,none⟩=some (iT 1)∧w'.cell? ⟨X,3,none⟩=some (.string t)∧w'.cell? ⟨X,4,none⟩=some (iT (g+nn))∧X<w'.heap.size) (((((w'.setCell ⟨R,0,none⟩ (.string y)).setCell ⟨R,1,none⟩ (iT x)).setCell ⟨R,2,none⟩ (iT 1)).setCell ⟨R,3,none⟩ (.string t)).setCell ⟨R,4,none⟩ (iT (g+nn))))):=fun w' U=>by have h:=(((((F.o.below U).other A.o 0 (.string y)).other A.o 1 (iT x)).other A.o 2 (iT 1)).other A.o 3 (.string t)).other A.o 4 (iT (g+nn));exact ⟨h.c0,h.c1,h.c2,h.c3,h.c4,h.lt⟩
       refine ez D O fun E=>?_
       generalize Wf.drew=wd at O E ⊢;refine aP 0 3 E ?_;refine aR 3 fun K hK=>?_
       go_simp;refine (k9 _ _).mono ?_;rintro e w9 ⟨rfl,h9⟩;have k1:Bl Wf w9:=by rw [h9];exact O
       clear h9;go_wp2_with fail
       refine hK.o _ _ (D.o _ k1) fun E=>?_
       (try go_frame);refine aR 4 fun K hK=>?_
       have m:=N.o.below k1;have y0:=m.all;have z0:=m.fr 0;have z1:=m.fr 1;have z2:=m.fr 2;have z3:=m.fr 3;have z4:=m.fr 4;have zx:=m.lt;go_simp;clear y0 z0 z1 z2 z3 z4 zx;refine hK.o _ _ (a0.o _ k1) fun E=>?_
       (try go_frame);refine aP 5 1 E ?_;refine dN ?_;have u:=m.setAll (.string y) (iT x) (iT 1) (.string t) (iT (g+nn));have g0:=u.c0;have g1:=u.c1;have g2:=u.c2;have g3:=u.c3;have g4:=u.c4;have gx:=u.lt;have kz:=(((((H.o.trans (k1.mono H.o.size)).setCell (p:=⟨R,0,none⟩) C.o (.string y)).setCell (p:=⟨R,1,none⟩) C.o (iT x)).setCell (p:=⟨R,2,none⟩) C.o (iT 1)).setCell (p:=⟨R,3,none⟩) C.o (.string t)).setCell (p:=⟨R,4,none⟩) C.o (iT (g+nn));obtain ⟨Wz,J⟩:=aH (((((w9.setCell ⟨R,0,none⟩ (.string y)).setCell ⟨R,1,none⟩ (iT x)).setCell ⟨R,2,none⟩ (iT 1)).setCell ⟨R,3,none⟩ (.string t)).setCell ⟨R,4,none⟩ (iT (g+nn)));rw [← J] at g0 g1 g2 g3 g4 gx kz ⊢;clear J u m E;go_wp2;refine bodyPost_ret (v:=.tuple #[.agg #[.string y,iT x,iT 1,.string t,iT (g+nn)],.bool (dH (g+nn))]) (by simp [results,Tryz.results265,go_sem,g0,g1,g2,g3,g4]) rfl ⟨by rw [HE.o],kz⟩
     · by_cases aB:d=2
       · subst aB;by_cases aD:k=0
         · subst aD;simp only [EO,DS] at e0 e1 e2 e3 e4;have HE:CG (aX true 0 L=(2,⟨#[]⟩,g+nn)):=by show aX true 0 L=_;rw [← HJ.o,ai.o];simp [aX]
           have F:CG (bW ((((wr.setCell ⟨X,4,none⟩ (iT (g+nn))).setCell ⟨X,2,none⟩ (iT 1)).setCell ⟨X,2,none⟩ (iT 2)).alloc (.cells #[.string s,iT q,iT 2,.string t,iT nn] 50)) X (.string y) (iT x) (iT 2) (.string ⟨#[]⟩) (iT (g+nn))):=(((HX.o.set4 _).set2 _).set2 _).alloc _;have N:CG (bW ((((wr.setCell ⟨X,4,none⟩ (iT (g+nn))).setCell ⟨X,2,none⟩ (iT 1)).setCell ⟨X,2,none⟩ (iT 2)).alloc (.cells #[.string s,iT q,iT 2,.string t,iT nn] 50)) R (.string ⟨#[]⟩) (iT 0) (iT 0) (.string ⟨#[]⟩) (iT 0)):=(((a2.o.other Q _ _).other Q _ _).other Q _ _).alloc _;have H:CG (Bl w ((((wr.setCell ⟨X,4,none⟩ (iT (g+nn))).setCell ⟨X,2,none⟩ (iT 1)).setCell ⟨X,2,none⟩ (iT 2)).alloc (.cells #[.string s,iT q,iT 2,.string t,iT nn] 50))):=(((HB.o.setCell (p:=⟨X,4,none⟩) T.o _).setCell (p:=⟨X,2,none⟩) T.o _).setCell (p:=⟨X,2,none⟩) T.o _).alloc (by have:=HB.o.size;simpa [World.setCell] using this) _;go_upto_region 14 with fail
           generalize (((wr.setCell ⟨X,4,none⟩ (iT (g+nn))).setCell ⟨X,2,none⟩ (iT 1)).setCell ⟨X,2,none⟩ (iT 2)).alloc (.cells #[.string s,iT q,iT 2,.string t,iT nn] 50)=Wf at F N H ⊢;clear x0 x1 x2 x3 x4 r0 r1 r2 r3 r4 ah ae ap ak ao ad aj al lX lR;have O:Bl Wf Wf.drew:=(Below.refl _ Wf).drew;have D:CG (∀w',Bl Wf w'→(w'.cell? ⟨X,0,none⟩=some (.string y)∧w'.cell? ⟨X,1,none⟩=some (iT x)∧w'.cell? ⟨X,2,none⟩=some (iT 2)∧w'.cell? ⟨X,3,none⟩=some (.string ⟨#[]⟩)∧w'.cell? ⟨X,4,none⟩=some (iT (g+nn))∧X<w'.heap.size)):=fun w' U=>by have h:=F.o.below U;exact ⟨h.c0,h.c1,h.c2,h.c3,h.c4,h.lt⟩
           have a0:CG (∀w',Bl Wf w'→((fun w'=>w'.cell? ⟨X,0,none⟩=some (.string y)∧w'.cell? ⟨X,1,none⟩=some (iT x)∧w'.cell? ⟨X,2,none⟩=some (iT 2)∧w'.cell? ⟨X,3,none⟩=some (.string ⟨#[]⟩)∧w'.cell? ⟨X,4,none⟩=some (iT (g+nn))∧X<w'.heap.size) (((((w'.setCell ⟨R,0,none⟩ (.string y)).setCell ⟨R,1,none⟩ (iT x)).setCell ⟨R,2,none⟩ (iT 2)).setCell ⟨R,3,none⟩ (.string ⟨#[]⟩)).setCell ⟨R,4,none⟩ (iT (g+nn))))):=fun w' U=>by have h:=(((((F.o.below U).other A.o 0 (.string y)).other A.o 1 (iT x)).other A.o 2 (iT 2)).other A.o 3 (.string ⟨#[]⟩)).other A.o 4 (iT (g+nn));exact ⟨h.c0,h.c1,h.c2,h.c3,h.c4,h.lt⟩
           refine ez D O fun E=>?_
           generalize Wf.drew=wd at O E ⊢;refine aP 0 3 E ?_;refine aR 3 fun K hK=>?_
           go_simp;refine (k9 _ _).mono ?_;rintro e w9 ⟨rfl,h9⟩;have k1:Bl Wf w9:=by rw [h9];exact O
           clear h9;go_wp2_with fail
           refine hK.o _ _ (D.o _ k1) fun E=>?_
           (try go_frame);refine aR 4 fun K hK=>?_
           have m:=N.o.below k1;have y0:=m.all;have z0:=m.fr 0;have z1:=m.fr 1;have z2:=m.fr 2;have z3:=m.fr 3;have z4:=m.fr 4;have zx:=m.lt;go_simp;clear y0 z0 z1 z2 z3 z4 zx;refine hK.o _ _ (a0.o _ k1) fun E=>?_
           (try go_frame);refine aP 5 1 E ?_;refine dN ?_;have u:=m.setAll (.string y) (iT x) (iT 2) (.string ⟨#[]⟩) (iT (g+nn));have g0:=u.c0;have g1:=u.c1;have g2:=u.c2;have g3:=u.c3;have g4:=u.c4;have gx:=u.lt;have kz:=(((((H.o.trans (k1.mono H.o.size)).setCell (p:=⟨R,0,none⟩) C.o (.string y)).setCell (p:=⟨R,1,none⟩) C.o (iT x)).setCell (p:=⟨R,2,none⟩) C.o (iT 2)).setCell (p:=⟨R,3,none⟩) C.o (.string ⟨#[]⟩)).setCell (p:=⟨R,4,none⟩) C.o (iT (g+nn));obtain ⟨Wz,J⟩:=aH (((((w9.setCell ⟨R,0,none⟩ (.string y)).setCell ⟨R,1,none⟩ (iT x)).setCell ⟨R,2,none⟩ (iT 2)).setCell ⟨R,3,none⟩ (.string ⟨#[]⟩)).setCell ⟨R,4,none⟩ (iT (g+nn)));rw [← J] at g0 g1 g2 g3 g4 gx kz ⊢;clear J u m E;go_wp2;refine bodyPost_ret (v:=.tuple #[.agg #[.string y,iT x,iT 2,.string ⟨#[]⟩,iT (g+nn)],.bool (dH (g+nn))]) (by simp [results,Tryz.results265,go_sem,g0,g1,g2,g3,g4]) rfl ⟨by rw [HE.o],kz⟩
         · have bf:¬(k:Int)=0:=by omega
           have HE:CG (aX true 0 L=(1,⟨#[]⟩,g+nn)):=by show aX true 0 L=_;rw [← HJ.o,ai.o];simp [aX,aD]
           have F:CG (bW (((wr.setCell ⟨X,4,none⟩ (iT (g+nn))).setCell ⟨X,2,none⟩ (iT 1)).alloc (.cells #[.string s,iT q,iT 2,.string t,iT nn] 50)) X (.string y) (iT x) (iT 1) (.string ⟨#[]⟩) (iT (g+nn))):=((HX.o.set4 _).set2 _).alloc _;have N:CG (bW (((wr.setCell ⟨X,4,none⟩ (iT (g+nn))).setCell ⟨X,2,none⟩ (iT 1)).alloc (.cells #[.string s,iT q,iT 2,.string t,iT nn] 50)) R (.string ⟨#[]⟩) (iT 0) (iT 0) (.string ⟨#[]⟩) (iT 0)):=((a2.o.other Q _ _).other Q _ _).alloc _;have H:CG (Bl w (((wr.setCell ⟨X,4,none⟩ (iT (g+nn))).setCell ⟨X,2,none⟩ (iT 1)).alloc (.cells #[.string s,iT q,iT 2,.string t,iT nn] 50))):=((HB.o.setCell (p:=⟨X,4,none⟩) T.o _).setCell (p:=⟨X,2,none⟩) T.o _).alloc (by have:=HB.o.size;simpa [World.setCell] using this) _;go_upto_region 14 with fail
           generalize ((wr.setCell ⟨X,4,none⟩ (iT (g+nn))).setCell ⟨X,2,none⟩ (iT 1)).alloc (.cells #[.string s,iT q,iT 2,.string t,iT nn] 50)=Wf at F N H ⊢;clear x0 x1 x2 x3 x4 r0 r1 r2 r3 r4 ah ae ap ak ao ad aj al lX lR;have O:Bl Wf Wf.drew:=(Below.refl _ Wf).drew;have D:CG (∀w',Bl Wf w'→(w'.cell? ⟨X,0,none⟩=some (.string y)∧w'.cell? ⟨X,1,none⟩=some (iT x)∧w'.cell? ⟨X,2,none⟩=some (iT 1)∧w'.cell? ⟨X,3,none⟩=some (.string ⟨#[]⟩)∧w'.cell? ⟨X,4,none⟩=some (iT (g+nn))∧X<w'.heap.size)):=fun w' U=>by have h:=F.o.below U;exact ⟨h.c0,h.c1,h.c2,h.c3,h.c4,h.lt⟩
           have a0:CG (∀w',Bl Wf w'→((fun w'=>w'.cell? ⟨X,0,none⟩=some (.string y)∧w'.cell? ⟨X,1,none⟩=some (iT x)∧w'.cell? ⟨X,2,none⟩=some (iT 1)∧w'.cell? ⟨X,3,none⟩=some (.string ⟨#[]⟩)∧w'.cell? ⟨X,4,none⟩=some (iT (g+nn))∧X<w'.heap.size) (((((w'.setCell ⟨R,0,none⟩ (.string y)).setCell ⟨R,1,none⟩ (iT x)).setCell ⟨R,2,none⟩ (iT 1)).setCell ⟨R,3,none⟩ (.string ⟨#[]⟩)).setCell ⟨R,4,none⟩ (iT (g+nn))))):=fun w' U=>by have h:=(((((F.o.below U).other A.o 0 (.string y)).other A.o 1 (iT x)).other A.o 2 (iT 1)).other A.o 3 (.string ⟨#[]⟩)).other A.o 4 (iT (g+nn));exact ⟨h.c0,h.c1,h.c2,h.c3,h.c4,h.lt⟩
           refine ez D O fun E=>?_
           generalize Wf.drew=wd at O E ⊢;refine aP 0 3 E ?_;refine aR 3 fun K hK=>?_
           go_simp;refine (k9 _ _).mono ?_;rintro e w9 ⟨rfl,h9⟩;have k1:Bl Wf w9:=by rw [h9];exact O
           clear h9;go_wp2_with fail
           refine hK.o _ _ (D.o _ k1) fun E=>?_
           (try go_frame);refine aR 4 fun K hK=>?_
           have m:=N.o.below k1;have y0:=m.all;have z0:=m.fr 0;have z1:=m.fr 1;have z2:=m.fr 2;have z3:=m.fr 3;have z4:=m.fr 4;have zx:=m.lt;go_simp;clear y0 z0 z1 z2 z3 z4 zx;refine hK.o _ _ (a0.o _ k1) fun E=>?_
           (try go_frame);refine aP 5 1 E ?_;refine dN ?_;have u:=m.setAll (.string y) (iT x) (iT 1) (.string ⟨#[]⟩) (iT (g+nn));have g0:=u.c0;have g1:=u.c1;have g2:=u.c2;have g3:=u.c3;have g4:=u.c4;have gx:=u.lt;have kz:=(((((H.o.trans (k1.mono H.o.size)).setCell (p:=⟨R,0,none⟩) C.o (.string y)).setCell (p:=⟨R,1,none⟩) C.o (iT x)).setCell (p:=⟨R,2,none⟩) C.o (iT 1)).setCell (p:=⟨R,3,none⟩) C.o (.string ⟨#[]⟩)).setCell (p:=⟨R,4,none⟩) C.o (iT (g+nn));obtain ⟨Wz,J⟩:=aH (((((w9.setCell ⟨R,0,none⟩ (.string y)).setCell ⟨R,1,none⟩ (iT x)).setCell ⟨R,2,none⟩ (iT 1)).setCell ⟨R,3,none⟩ (.string ⟨#[]⟩)).setCell ⟨R,4,none⟩ (iT (g+nn)));rw [← J] at g0 g1 g2 g3 g4 gx kz ⊢;clear J u m E;go_wp2;refine bodyPost_ret (v:=.tuple #[.agg #[.string y,iT x,iT 1,.string ⟨#[]⟩,iT (g+nn)],.bool (dH (g+nn))]) (by simp [results,Tryz.results265,go_sem,g0,g1,g2,g3,g4]) rfl ⟨by rw [HE.o],kz⟩
       · have HE:CG (aX false (g+nn) (L.drop (k+1))=aX true 0 L):=by show _=aX true 0 L;rw [← HJ.o,ai.o];simp [aX,aC,aB]
         go_wp2;go_roundw
         case rel=>exact ⟨k+1,g+nn,by omega,by go_num,(HX.o.set4 _).alloc _,(a2.o.other Q _ _).alloc _,(HB.o.setCell (p:=⟨X,4,none⟩) T.o _).alloc (by have:=HB.o.size;simpa [World.setCell] using this) _,by simpa using HE.o,by push_cast;omega,by push_cast;omega⟩
         case measure=>simp [intOf];omega
   · have aN:¬(k:Int)<(n:Int):=by omega
     have HE:CG (aX true 0 L=(3,⟨#[]⟩,g)):=by
      show aX true 0 L=_
      rw [← HJ.o,EM (by have:=HL.o.length;omega)];rfl
     have F:CG (bW (wr) X (.string y) (iT x) (iT 3) (.string ⟨#[]⟩) (iT (g))):=HX.o;have N:CG (bW (wr) R (.string ⟨#[]⟩) (iT 0) (iT 0) (.string ⟨#[]⟩) (iT 0)):=a2.o;have H:CG (Bl w (wr)):=HB.o;go_upto_region 14 with fail
     generalize wr=Wf at F N H ⊢;clear x0 x1 x2 x3 x4 r0 r1 r2 r3 r4 ah ae ap ak ao ad aj al lX lR;have O:Bl Wf Wf.drew:=(Below.refl _ Wf).drew;have D:CG (∀w',Bl Wf w'→(w'.cell? ⟨X,0,none⟩=some (.string y)∧w'.cell? ⟨X,1,none⟩=some (iT x)∧w'.cell? ⟨X,2,none⟩=some (iT 3)∧w'.cell? ⟨X,3,none⟩=some (.string ⟨#[]⟩)∧w'.cell? ⟨X,4,none⟩=some (iT (g))∧X<w'.heap.size)):=fun w' U=>by have h:=F.o.below U;exact ⟨h.c0,h.c1,h.c2,h.c3,h.c4,h.lt⟩
     have a0:CG (∀w',Bl Wf w'→((fun w'=>w'.cell? ⟨X,0,none⟩=some (.string y)∧w'.cell? ⟨X,1,none⟩=some (iT x)∧w'.cell? ⟨X,2,none⟩=some (iT 3)∧w'.cell? ⟨X,3,none⟩=some (.string ⟨#[]⟩)∧w'.cell? ⟨X,4,none⟩=some (iT (g))∧X<w'.heap.size) (((((w'.setCell ⟨R,0,none⟩ (.string y)).setCell ⟨R,1,none⟩ (iT x)).setCell ⟨R,2,none⟩ (iT 3)).setCell ⟨R,3,none⟩ (.string ⟨#[]⟩)).setCell ⟨R,4,none⟩ (iT (g))))):=fun w' U=>by have h:=(((((F.o.below U).other A.o 0 (.string y)).other A.o 1 (iT x)).other A.o 2 (iT 3)).other A.o 3 (.string ⟨#[]⟩)).other A.o 4 (iT (g));exact ⟨h.c0,h.c1,h.c2,h.c3,h.c4,h.lt⟩
     refine ez D O fun E=>?_
     generalize Wf.drew=wd at O E ⊢;refine aP 0 3 E ?_;refine aR 3 fun K hK=>?_
     go_simp;refine (k9 _ _).mono ?_;rintro e w9 ⟨rfl,h9⟩;have k1:Bl Wf w9:=by rw [h9];exact O
     clear h9;go_wp2_with fail
     refine hK.o _ _ (D.o _ k1) fun E=>?_
     (try go_frame);refine aR 4 fun K hK=>?_
     have m:=N.o.below k1;have y0:=m.all;have z0:=m.fr 0;have z1:=m.fr 1;have z2:=m.fr 2;have z3:=m.fr 3;have z4:=m.fr 4;have zx:=m.lt;go_simp;clear y0 z0 z1 z2 z3 z4 zx;refine hK.o _ _ (a0.o _ k1) fun E=>?_
     (try go_frame);refine aP 5 1 E ?_;refine dN ?_;have u:=m.setAll (.string y) (iT x) (iT 3) (.string ⟨#[]⟩) (iT (g));have g0:=u.c0;have g1:=u.c1;have g2:=u.c2;have g3:=u.c3;have g4:=u.c4;have gx:=u.lt;have kz:=(((((H.o.trans (k1.mono H.o.size)).setCell (p:=⟨R,0,none⟩) C.o (.string y)).setCell (p:=⟨R,1,none⟩) C.o (iT x)).setCell (p:=⟨R,2,none⟩) C.o (iT 3)).setCell (p:=⟨R,3,none⟩) C.o (.string ⟨#[]⟩)).setCell (p:=⟨R,4,none⟩) C.o (iT (g));obtain ⟨Wz,J⟩:=aH (((((w9.setCell ⟨R,0,none⟩ (.string y)).setCell ⟨R,1,none⟩ (iT x)).setCell ⟨R,2,none⟩ (iT 3)).setCell ⟨R,3,none⟩ (.string ⟨#[]⟩)).setCell ⟨R,4,none⟩ (iT (g)));rw [← J] at g0 g1 g2 g3 g4 gx kz ⊢;clear J u m E;go_wp2;refine bodyPost_ret (v:=.tuple #[.agg #[.string y,iT x,iT 3,.string ⟨#[]⟩,iT (g)],.bool (dH (g))]) (by simp [results,Tryz.results265,go_sem,g0,g1,g2,g3,g4]) rfl ⟨by rw [HE.o],kz⟩
end Go.Proofs.YtpobkmjicbobdaaGreat
namespace Go.Proofs.YtpobkmjicbobdaaGreat
open Go.RowKit
set_option maxRecDepth 100000
set_option maxHeartbeats 2000000
attribute [local go_sem] DN
end Go.Proofs.YtpobkmjicbobdaaGreat
namespace Go.Proofs.YtpobkmjicbobdaaGreat
open Go.RowKit
set_option maxRecDepth 100000
set_option maxHeartbeats 2000000
attribute [local go_sem] DN
def dJ (bare:Bool) (s0:ByteArray) (q0:Int) (L:List ac):List ac :=
 if dH (aX true 0 L).2.2=true then (if bare=true∧(aX true 0 L).1=2 then [] else [(s0,q0,(if bare=true∧(aX true 0 L).1=3 then 1 else (aX true 0 L).1),(aX true 0 L).2.1,(aX true 0 L).2.2)]) else L
theorem uY:∀(L:List ac) (f:Bool) (b:Int),1≤(aX f b L).1∧(aX f b L).1≤3:=by
 intro L;induction L with
 | nil=>intro f b;simp [aX]
 | cons e R d =>
  intro f b;unfold aX;split
  · simp
  · split
    · cases f <;> simp
    · exact d false _
theorem uX:∀(L:List ac) (f:Bool) (b:Int),(∀e ∈ L,e.2.2.2.1.size≤maxLen)→(aX f b L).2.1.size≤maxLen:=by
 intro L;induction L with
 | nil=>intro f b _;exact C3 _
 | cons e R d =>
  intro f b h;unfold aX;split
  · exact h e (Dy ..)
  · split
    · exact C3 _
    · exact d false _ (fun x hx=>h x (DB _ hx))
theorem Cf {z:Int} (h1:-1000000≤z) (h2:z≤1000000):(Lit.int .i64 z).wf=true:=by
 simp only [Lit.wf,IntKind.min,IntKind.max,IntKind.signed,IntKind.bits,Db,decide_eq_true_eq,if_true];omega
theorem ms (w:World) (base:Nat) (h:base≤w.heap.size):af (w.alloc (.cells #[] 50)) base w.heap.size 0 0 []:=by
 have:=Do (base:=base) (e:=50) (size:=5) w #[] 0 (by first | exact h | simp) (by first | exact h | simp) (by first | exact h | simp);exact ⟨by simpa [aC] using this,rfl,by simp⟩
theorem BC (w:World) (base:Nat) (h:base≤w.heap.size) (s t:ByteArray) (q d n:Int) (hw:dR (s,q,d,t,n)):af (w.alloc (.cells #[.string s,iT q,iT d,.string t,iT n] 50)) base w.heap.size 1 1 [(s,q,d,t,n)]:=by
 have:=Do (base:=base) (e:=50) (size:=5) w #[.string s,iT q,iT d,.string t,iT n] 1 h (by unfold maxLen;omega) rfl;exact ⟨by simpa [aC,bD] using this,rfl,by simpa using hw⟩
end Go.Proofs.YtpobkmjicbobdaaGreat
