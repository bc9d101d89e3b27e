/- Walks. -/
import Derived.Test.YtpobkmjicbobdaaGreatBW05
import Derived.Deep.AppendLies
namespace Go.Proofs.YtpobkmjicbobdaaGreat
open Go.RowKit
structure cw (w:World) (X:Nat) (v0 v1 v2 v3 v4:Value):Prop where
 c0:w.cell? ⟨X,0,none⟩=some v0
 c1:w.cell? ⟨X,1,none⟩=some v1
 c2:w.cell? ⟨X,2,none⟩=some v2
 c3:w.cell? ⟨X,3,none⟩=some v3
 c4:w.cell? ⟨X,4,none⟩=some v4
 fr:∀o,w.frozen? ⟨X,o,none⟩=false
theorem cw.lt {w:World} {X:Nat} {v0 d b v3 v4:Value} (h:cw w X v0 d b v3 v4):X<w.heap.size:=GK _ _ h.c0
theorem cw.all {w:World} {X:Nat} {v0 d b v3 v4:Value}(h:cw w X v0 d b v3 v4):w.cell? ⟨X,0,none⟩=some v0∧w.cell? ⟨X,1,none⟩=some d∧w.cell? ⟨X,2,none⟩=some b∧w.cell? ⟨X,3,none⟩=some v3∧w.cell? ⟨X,4,none⟩=some v4∧(∀o,w.frozen? ⟨X,o,none⟩=false)∧X<w.heap.size:=⟨h.c0,h.c1,h.c2,h.c3,h.c4,h.fr,h.lt⟩
theorem cw.new (w:World) (T:TypeId) (v0 d b v3 v4:Value):cw (w.alloc (.cells #[v0,d,b,v3,v4] T)) w.heap.size v0 d b v3 v4 :=
 ⟨by simp,by simp,by simp,by simp,by simp,fun o=>Jc w _ _ o⟩
theorem cw.below {w w':World} {X:Nat} {v0 d b v3 v4:Value} (h:cw w X v0 d b v3 v4) (hb:Bl w w'):cw w' X v0 d b v3 v4 :=
 ⟨cell_later hb h.c0,cell_later hb h.c1,cell_later hb h.c2,cell_later hb h.c3,cell_later hb h.c4,fun o=>(hb.frozen (p:=⟨X,o,none⟩) h.lt).trans (h.fr o)⟩
theorem cw.alloc {w:World} {X:Nat} {v0 d b v3 v4:Value} (h:cw w X v0 d b v3 v4) (o:Obj):cw (w.alloc o) X v0 d b v3 v4:=h.below bZ
theorem cw.grown {w w':World} {X R:Nat} {v0 d b v3 v4:Value} (h:cw w X v0 d b v3 v4) (hg:w.grownBy w' (some R)) (hn:X≠R):cw w' X v0 d b v3 v4 :=
 ⟨(au hg (x:=⟨X,0,none⟩) h.lt hn).trans h.c0,(au hg (x:=⟨X,1,none⟩) h.lt hn).trans h.c1,(au hg (x:=⟨X,2,none⟩) h.lt hn).trans h.c2,(au hg (x:=⟨X,3,none⟩) h.lt hn).trans h.c3,(au hg (x:=⟨X,4,none⟩) h.lt hn).trans h.c4,fun o=>(IT (hg.block X h.lt (fun e=>hn (by cases e;rfl)))).trans (h.fr o)⟩
theorem cw.other {w:World} {X Y:Nat} {v0 d b v3 v4:Value} (h:cw w X v0 d b v3 v4) (hn:X≠Y) (o:Nat) (v:Value):cw (w.setCell ⟨Y,o,none⟩ v) X v0 d b v3 v4:=by
 have ne:∀i,(⟨Y,o,none⟩:Addr)≠⟨X,i,none⟩:=fun i e=>hn (congrArg Addr.block e).symm
 exact ⟨by rw [GM _ _ _ _ (ne 0)];exact h.c0,by rw [GM _ _ _ _ (ne 1)];exact h.c1,by rw [GM _ _ _ _ (ne 2)];exact h.c2,by rw [GM _ _ _ _ (ne 3)];exact h.c3,by rw [GM _ _ _ _ (ne 4)];exact h.c4,fun f=>by rw [G8];exact h.fr f⟩
theorem cw.set0 {w:World} {X:Nat} {v0 d b v3 v4:Value} (h:cw w X v0 d b v3 v4) (v:Value):cw (w.setCell ⟨X,0,none⟩ v) X v d b v3 v4:=by
 refine ⟨G3 _ _ _ (by rw [h.c0];rfl),?_,?_,?_,?_,fun e=>by rw [G8];exact h.fr e⟩
 · rw [GM _ _ _ _ (by simp)];exact h.c1
 · rw [GM _ _ _ _ (by simp)];exact h.c2
 · rw [GM _ _ _ _ (by simp)];exact h.c3
 · rw [GM _ _ _ _ (by simp)];exact h.c4
theorem cw.set1 {w:World} {X:Nat} {v0 e b v3 v4:Value} (h:cw w X v0 e b v3 v4) (v:Value):cw (w.setCell ⟨X,1,none⟩ v) X v0 v b v3 v4:=by
 refine ⟨?_,G3 _ _ _ (by rw [h.c1];rfl),?_,?_,?_,fun d=>by rw [G8];exact h.fr d⟩
 · rw [GM _ _ _ _ (by simp)];exact h.c0
 · rw [GM _ _ _ _ (by simp)];exact h.c2
 · rw [GM _ _ _ _ (by simp)];exact h.c3
 · rw [GM _ _ _ _ (by simp)];exact h.c4
theorem cw.set2 {w:World} {X:Nat} {v0 b e v3 v4:Value} (h:cw w X v0 b e v3 v4) (v:Value):cw (w.setCell ⟨X,2,none⟩ v) X v0 b v v3 v4:=by
 refine ⟨?_,?_,G3 _ _ _ (by rw [h.c2];rfl),?_,?_,fun d=>by rw [G8];exact h.fr d⟩
 · rw [GM _ _ _ _ (by simp)];exact h.c0
 · rw [GM _ _ _ _ (by simp)];exact h.c1
 · rw [GM _ _ _ _ (by simp)];exact h.c3
 · rw [GM _ _ _ _ (by simp)];exact h.c4
theorem cw.set3 {w:World} {X:Nat} {v0 d b v3 v4:Value} (h:cw w X v0 d b v3 v4) (v:Value):cw (w.setCell ⟨X,3,none⟩ v) X v0 d b v v4:=by
 refine ⟨?_,?_,?_,G3 _ _ _ (by rw [h.c3];rfl),?_,fun e=>by rw [G8];exact h.fr e⟩
 · rw [GM _ _ _ _ (by simp)];exact h.c0
 · rw [GM _ _ _ _ (by simp)];exact h.c1
 · rw [GM _ _ _ _ (by simp)];exact h.c2
 · rw [GM _ _ _ _ (by simp)];exact h.c4
theorem cw.set4 {w:World} {X:Nat} {v0 d b v3 v4:Value} (h:cw w X v0 d b v3 v4) (v:Value):cw (w.setCell ⟨X,4,none⟩ v) X v0 d b v3 v:=by
 refine ⟨?_,?_,?_,?_,G3 _ _ _ (by rw [h.c4];rfl),fun e=>by rw [G8];exact h.fr e⟩
 · rw [GM _ _ _ _ (by simp)];exact h.c0
 · rw [GM _ _ _ _ (by simp)];exact h.c1
 · rw [GM _ _ _ _ (by simp)];exact h.c2
 · rw [GM _ _ _ _ (by simp)];exact h.c3
theorem cw.setAll {w:World} {X:Nat} {v0 d b v3 v4:Value} (h:cw w X v0 d b v3 v4) (u0 u1 u2 u3 u4:Value):cw (((((w.setCell ⟨X,0,none⟩ u0).setCell ⟨X,1,none⟩ u1).setCell ⟨X,2,none⟩ u2).setCell ⟨X,3,none⟩ u3).setCell ⟨X,4,none⟩ u4) X u0 u1 u2 u3 u4 :=
 ((((h.set0 u0).set1 u1).set2 u2).set3 u3).set4 u4
theorem bh.other {w:World} {R:Nat} {a:Option Addr} {len f P:Nat} (h:bh w R a len f P) {X:Nat} (s:X≠R) (hB:∀b d,a=some ⟨b,d,none⟩→0<len→b≠X) (o:Nat) (v:Value):bh (w.setCell ⟨X,o,none⟩ v) R a len f P:=by
 have ne:∀i,(⟨X,o,none⟩:Addr)≠⟨R,i,none⟩:=fun i e=>s (congrArg Addr.block e)
 refine ⟨by rw [GM _ _ _ _ (ne 0)];exact h.c0,by rw [GM _ _ _ _ (ne 1)];exact h.c1,by rw [G8];exact h.f1,h.few,fun i=>by rw [GM _ _ _ _ (ne (i+2))];exact h.two i,?_⟩;rcases h.bytes with h0 | ⟨b,d,ha,r,g,hc⟩
 · exact Or.inl h0
 · by_cases h0:len=0
   · exact Or.inl h0
   · refine Or.inr ⟨b,d,ha,r,by simpa [World.setCell] using g,fun i hi=>?_⟩;obtain ⟨z,hz,m⟩:=hc i hi;exact ⟨z,hz,by rw [GM _ _ _ _ (fun e=>hB b d ha (by omega) (congrArg Addr.block e).symm)];exact m⟩
end Go.Proofs.YtpobkmjicbobdaaGreat
namespace Go.Proofs.YtpobkmjicbobdaaGreat
open Go.RowKit
structure f8 (w:World) (X:Nat) (v0 v1 v2:Value):Prop where
 c0:w.cell? ⟨X,0,none⟩=some v0
 c1:w.cell? ⟨X,1,none⟩=some v1
 c2:w.cell? ⟨X,2,none⟩=some v2
 fr:∀o,w.frozen? ⟨X,o,none⟩=false
theorem f8.lt {w:World} {X:Nat} {v0 d b:Value} (h:f8 w X v0 d b):X<w.heap.size:=GK _ _ h.c0
theorem f8.all {w:World} {X:Nat} {v0 d b:Value}(h:f8 w X v0 d b):w.cell? ⟨X,0,none⟩=some v0∧w.cell? ⟨X,1,none⟩=some d∧w.cell? ⟨X,2,none⟩=some b∧(∀o,w.frozen? ⟨X,o,none⟩=false)∧X<w.heap.size:=⟨h.c0,h.c1,h.c2,h.fr,h.lt⟩
theorem f8.new (w:World) (T:TypeId) (v0 b v2:Value):f8 (w.alloc (.cells #[v0,b,v2] T)) w.heap.size v0 b v2 :=
 ⟨by simp,by simp,by simp,fun o=>Jc w _ _ o⟩
theorem f8.below {w w':World} {X:Nat} {v0 b v2:Value} (h:f8 w X v0 b v2) (hb:Bl w w'):f8 w' X v0 b v2 :=
 ⟨cell_later hb h.c0,cell_later hb h.c1,cell_later hb h.c2,fun o=>(hb.frozen (p:=⟨X,o,none⟩) h.lt).trans (h.fr o)⟩
theorem f8.alloc {w:World} {X:Nat} {v0 b v2:Value} (h:f8 w X v0 b v2) (o:Obj):f8 (w.alloc o) X v0 b v2:=h.below bZ
theorem f8.grown {w w':World} {X R:Nat} {v0 b v2:Value} (h:f8 w X v0 b v2) (hg:w.grownBy w' (some R)) (hn:X≠R):f8 w' X v0 b v2 :=
 ⟨(au hg (x:=⟨X,0,none⟩) h.lt hn).trans h.c0,(au hg (x:=⟨X,1,none⟩) h.lt hn).trans h.c1,(au hg (x:=⟨X,2,none⟩) h.lt hn).trans h.c2,fun o=>(IT (hg.block X h.lt (fun e=>hn (by cases e;rfl)))).trans (h.fr o)⟩
theorem f8.other {w:World} {X Y:Nat} {v0 b v2:Value} (h:f8 w X v0 b v2) (hn:X≠Y) (o:Nat) (v:Value):f8 (w.setCell ⟨Y,o,none⟩ v) X v0 b v2:=by
 have ne:∀i,(⟨Y,o,none⟩:Addr)≠⟨X,i,none⟩:=fun i e=>hn (congrArg Addr.block e).symm
 exact ⟨by rw [GM _ _ _ _ (ne 0)];exact h.c0,by rw [GM _ _ _ _ (ne 1)];exact h.c1,by rw [GM _ _ _ _ (ne 2)];exact h.c2,fun d=>by rw [G8];exact h.fr d⟩
theorem f8.setAll {w:World} {X:Nat} {v0 d b:Value} (h:f8 w X v0 d b) (u0 u1 u2:Value):f8 (((w.setCell ⟨X,0,none⟩ u0).setCell ⟨X,1,none⟩ u1).setCell ⟨X,2,none⟩ u2) X u0 u1 u2:=by
 refine ⟨?_,?_,?_,fun e=>by rw [G8,G8,G8];exact h.fr e⟩
 · rw [GM _ _ _ _ (by simp),GM _ _ _ _ (by simp)];exact G3 _ _ _ (by rw [h.c0];rfl)
 · rw [GM _ _ _ _ (by simp)];exact G3 _ _ _ (by rw [GM _ _ _ _ (by simp),h.c1];rfl)
 · exact G3 _ _ _ (by rw [GM _ _ _ _ (by simp),GM _ _ _ _ (by simp),h.c2];rfl)
end Go.Proofs.YtpobkmjicbobdaaGreat
namespace Go.Proofs.YtpobkmjicbobdaaGreat
open Go.RowKit
set_option maxRecDepth 100000
set_option maxHeartbeats 2000000
attribute [local go_sem] Ic
def bg:Bool→Int→List ac→Int × ByteArray × Int
 | _,acc,[]=>(3,⟨#[]⟩,acc)
 | first,acc,e :: R=>if e.2.2.1=1 then (1,e.2.2.2.1,acc+e.2.2.2.2) else if e.2.2.1=2 then ((if first then 2 else 1),⟨#[]⟩,acc+e.2.2.2.2) else bg false (acc+e.2.2.2.2) R
def eC (n:Int):Bool:=decide (-1000000≤n) && decide (n≤1000000)
theorem mO (n:Int) (w:World):Calls Tryz.prog 200 #[iT n] w fun e w'=>e=.returned (.bool (eC n))∧w'=w:=by
 by_cases h1:-1000000≤n
 · by_cases h2:n≤1000000
   · have e1:eC n=true:=by simp [eC,h1,h2]
     rw [e1];go_enter Tryz.func200,Tryz.ntmps200
     go_wp2;go_ret;exact ⟨rfl,rfl⟩
   · have e1:eC n=false:=by simp [eC,h2]
     rw [e1];go_enter Tryz.func200,Tryz.ntmps200
     go_wp2;go_ret;exact ⟨rfl,rfl⟩
 · have e1:eC n=false:=by simp [eC,h1]
   rw [e1];go_enter Tryz.func200,Tryz.ntmps200
   go_wp2;go_ret;exact ⟨rfl,rfl⟩
theorem Cr (b ad n c:Nat) (L:List ac) (u:ByteArray) (x:Int) (w:World) (hL:ah w (some ⟨b,ad,none⟩) n c L) (hn:1≤n) (bn:n≤1048576) (h0:∃r,L[0]?=some (u,x,r)) (hN:∀e ∈ L,-1000000≤e.2.2.2.2∧e.2.2.2.2≤1000000) :
 Calls Tryz.prog 265 #[sO b ad n c] w fun e w'=>e=.returned (.tuple #[.agg #[.string u,iT x,iT (bg true 0 L).1,.string (bg true 0 L).2.1,iT (bg true 0 L).2.2],.bool (eC (bg true 0 L).2.2)])∧Bl w w':=by
 have hr:=hL.room;have b3:=hL.big;unfold maxLen at b3;have HL:=az hL;have HN:=az hN;have Z:=(hL.lies _ rfl (by omega)).1;simp only at Z;obtain ⟨s,q,d,t,nn,hg,_,e0,e1,_⟩:=hL.ent (Below.refl _ w) Z 0 (by omega);obtain ⟨r,aH⟩:=h0;rw [aH] at hg;cases hg;simp only [I3,Ik] at e0 e1;clear hL hN aH;have bh:(0:Int)<(n:Int):=by omega
 have bp:0<n:=hn;obtain ⟨R,hR⟩:=aG w.heap.size;obtain ⟨W,hW⟩:=aG (w.alloc (.cells #[.string ⟨#[]⟩,iT 0,iT 0,.string ⟨#[]⟩,iT 0] 50));have kW:Bl w W:=by rw [hW];exact bZ
 have aJ:cw W R (.string ⟨#[]⟩) (iT 0) (iT 0) (.string ⟨#[]⟩) (iT 0):=by rw [hW,hR];exact cw.new _ _ _ _ _ _ _
 have ap:Eq (Bl w W):=kW;have ay:Eq (cw W R (.string ⟨#[]⟩) (iT 0) (iT 0) (.string ⟨#[]⟩) (iT 0)):=aJ;have A:Eq (w.heap.size≤R):=by show w.heap.size≤R;omega
 have e0:=cell_later kW e0;have e1:=cell_later kW e1;have b6:b<W.heap.size:=E' Z kW.size;have J:Bl W W.drew:=(Below.refl _ W).drew;have B:Eq (∀w',Bl W w'→(w'.cell? ⟨b,ad,none⟩=some (.string u)∧w'.cell? ⟨b,ad+1,none⟩=some (iT x)∧b<w'.heap.size)):=fun w' O=>⟨cell_later O e0,cell_later O e1,E' b6 O.size⟩
 go_enter Tryz.func265,Tryz.ntmps265
 go_upto_region 1 with fail
 rw [← hW,← hR];clear hW hR kW aJ;go_cut [4] (fun s4 wx=>∃(X:Nat),s4=.pointer (pT X)∧cw wx X (.string u) (iT x) (iT 3) (.string ⟨#[]⟩) (iT 0)∧W.heap.size≤X∧Bl W wx)
 case first =>
  refine eJ B J fun C=>?_
  generalize W.drew=wd at J C ⊢;refine aR 0 9 C ?_;refine aV 9 fun K hK=>?_
  go_simp;have F:=cw.new wd 50 (.string ⟨#[]⟩) (iT 0) (iT 0) (.string ⟨#[]⟩) (iT 0);have ka:=J.alloc J.size (.cells #[.string ⟨#[]⟩,iT 0,iT 0,.string ⟨#[]⟩,iT 0] 50);have T:=J.size;generalize wd.alloc (.cells #[.string ⟨#[]⟩,iT 0,iT 0,.string ⟨#[]⟩,iT 0] 50)=wA at F ka ⊢;generalize wd.heap.size=X at F T ⊢;refine hK.o _ _ (B.o _ ka) fun C=>?_
  (try go_frame);refine aV 10 fun K hK=>?_
  have y0:=F.all;have z0:=F.fr 0;have z1:=F.fr 1;have z2:=F.fr 2;have z3:=F.fr 3;have z4:=F.fr 4;have zx:=F.lt;go_simp;have Y:=(((((ka).setCell (p:=⟨X,0,none⟩) T (.string u)).setCell (p:=⟨X,1,none⟩) T (iT x)).setCell (p:=⟨X,2,none⟩) T (iT 3)).setCell (p:=⟨X,3,none⟩) T (.string ⟨#[]⟩)).setCell (p:=⟨X,4,none⟩) T (iT 0);have hby:=F.setAll (.string u) (iT x) (iT 3) (.string ⟨#[]⟩) (iT 0);clear y0 z0 z1 z2 z3 z4 zx;refine hK.o _ _ (B.o _ Y) fun C=>?_
  (try go_frame);refine dN ?_;go_wp2;go_meet
  exact ⟨X,rfl,hby,T,Y⟩
 case rest =>
  obtain ⟨X,rfl,hX,b7,F⟩:=hcut;clear J B e0 e1;have b4:Eq (Bl w wc):=ap.o.trans (F.mono ap.o.size);have aX:Eq (cw wc R (.string ⟨#[]⟩) (iT 0) (iT 0) (.string ⟨#[]⟩) (iT 0)):=ay.o.below F;have y:Eq (X≠R):=by have:=ay.o.lt;show X≠R;omega
  have b2:Eq (cw wc X (.string u) (iT x) (iT 3) (.string ⟨#[]⟩) (iT 0)):=hX;have N:Eq (w.heap.size≤X):=by have:=ap.o.size;show w.heap.size≤X;omega
  clear hX F b7;go_wp2;go_loopw [5] (fun iv wr=>∃(k:Nat) (f:Int),k≤n∧iv=iT k∧cw wr X (.string u) (iT x) (iT 3) (.string ⟨#[]⟩) (iT f)∧cw wr R (.string ⟨#[]⟩) (iT 0) (iT 0) (.string ⟨#[]⟩) (iT 0)∧Bl w wr∧bg (decide (k=0)) f (L.drop k)=bg true 0 L∧-(1000000*(k:Int))≤f∧f≤1000000*(k:Int)) (fun iv _=>n - (intOf iv).toNat)
  case atStart=>exact ⟨0,0,GQ _,rfl,b2.o,aX.o,b4.o,rfl,by omega,by omega⟩
  case round =>
   obtain ⟨k,f,hk,rfl,hX,aA,hb,hj,be,bm⟩:=hrel;have HX:Eq (cw wr X (.string u) (iT x) (iT 3) (.string ⟨#[]⟩) (iT f)):=hX;have a0:Eq (cw wr R (.string ⟨#[]⟩) (iT 0) (iT 0) (.string ⟨#[]⟩) (iT 0)):=aA;have HB:Eq (Bl w wr):=hb;have HJ:Eq (bg (decide (k=0)) f (L.drop k)=bg true 0 L):=hj;obtain ⟨x0,x1,x2,x3,x4,xf⟩:=hX;obtain ⟨r0,r1,r2,r3,r4,rf⟩:=aA;have af:=xf 2;have ai:=xf 3;have al:=xf 4;have a9:=rf 0;have a7:=rf 1;have a8:=rf 2;have am:=rf 3;have aj:=rf 4;have lX:=GK _ _ x0;have lR:=GK _ _ r0;simp only at lX lR;have aW:=y.o;have Q:R≠X:=fun e=>aW e.symm
   clear xf rf hj;by_cases b1:k<n
   · have aK:(k:Int)<(n:Int):=by omega
     obtain ⟨s,q,d,t,nn,hg,hw,e0,e1,e2,e3,e4⟩:=HL.o.ent hb Z k b1;have bi:b<wr.heap.size:=E' Z hb.size;obtain ⟨m1,m2⟩:=HN.o _ (GP hg);simp only at m1 m2;have aL:L.drop k=(s,q,d,t,nn) :: L.drop (k+1):=by
      have b5:=(F'.1 hg).1;rw [Ie b5,(F'.1 hg).2]
     have ak:Eq (L.drop k=(s,q,d,t,nn) :: L.drop (k+1)):=aL;have bl:wr.heap.size≠X:=by omega
     have bo:X≠wr.heap.size:=by omega
     have bf:R≠wr.heap.size:=by omega
     clear hg hw aL hb;have b8:-9223372036854775808≤f+nn:=by omega
     have aY:f+nn≤9223372036854775807:=by omega
     by_cases aE:d=1
     · subst aE;have HE:Eq (bg true 0 L=(1,t,f+nn)):=by show bg true 0 L=_;rw [← HJ.o,ak.o];simp [bg]
       have D:Eq (cw ((((wr.setCell ⟨X,4,none⟩ (iT (f+nn))).setCell ⟨X,2,none⟩ (iT 1)).setCell ⟨X,3,none⟩ (.string t)).alloc (.cells #[.string s,iT q,iT 1,.string t,iT nn] 50)) X (.string u) (iT x) (iT 1) (.string t) (iT (f+nn))):=(((HX.o.set4 _).set2 _).set3 _).alloc _;have H:Eq (cw ((((wr.setCell ⟨X,4,none⟩ (iT (f+nn))).setCell ⟨X,2,none⟩ (iT 1)).setCell ⟨X,3,none⟩ (.string t)).alloc (.cells #[.string s,iT q,iT 1,.string t,iT nn] 50)) R (.string ⟨#[]⟩) (iT 0) (iT 0) (.string ⟨#[]⟩) (iT 0)):=(((a0.o.other Q _ _).other Q _ _).other Q _ _).alloc _;have E:Eq (Bl w ((((wr.setCell ⟨X,4,none⟩ (iT (f+nn))).setCell ⟨X,2,none⟩ (iT 1)).setCell ⟨X,3,none⟩ (.string t)).alloc (.cells #[.string s,iT q,iT 1,.string t,iT nn] 50))):=(((HB.o.setCell (p:=⟨X,4,none⟩) N.o _).setCell (p:=⟨X,2,none⟩) N.o _).setCell (p:=⟨X,3,none⟩) N.o _).alloc (by have:=HB.o.size;simpa [World.setCell] using this) _;go_upto_region 14 with fail
       generalize (((wr.setCell ⟨X,4,none⟩ (iT (f+nn))).setCell ⟨X,2,none⟩ (iT 1)).setCell ⟨X,3,none⟩ (.string t)).alloc (.cells #[.string s,iT q,iT 1,.string t,iT nn] 50)=Wf at D H E ⊢;clear x0 x1 x2 x3 x4 r0 r1 r2 r3 r4 af ai al a9 a7 a8 am aj lX lR;have J:Bl Wf Wf.drew:=(Below.refl _ Wf).drew;have B:Eq (∀w',Bl Wf w'→(w'.cell? ⟨X,0,none⟩=some (.string u)∧w'.cell? ⟨X,1,none⟩=some (iT x)∧w'.cell? ⟨X,2,none⟩=some (iT 1)∧w'.cell? ⟨X,3,none⟩=some (.string t)∧w'.cell? ⟨X,4,none⟩=some (iT (f+nn))∧X<w'.heap.size)):=fun w' O=>by have h:=D.o.below O;exact ⟨h.c0,h.c1,h.c2,h.c3,h.c4,h.lt⟩
       have U:Eq (∀w',Bl Wf w'→((fun w'=>w'.cell? ⟨X,0,none⟩=some (.string u)∧w'.cell? ⟨X,1,none⟩=some (iT x)∧w'.cell? ⟨X,2,none⟩=some (iT 1)∧w'.cell? ⟨X,3,none⟩=some (.string t)∧w'.cell? ⟨X,4,none⟩=some (iT (f+nn))∧X<w'.heap.size) (((((w'.setCell ⟨R,0,none⟩ (.string u)).setCell ⟨R,1,none⟩ (iT x)).setCell ⟨R,2,none⟩ (iT 1)).setCell ⟨R,3,none⟩ (.string t)).setCell ⟨R,4,none⟩ (iT (f+nn))))):=fun w' O=>by have h:=(((((D.o.below O).other y.o 0 (.string u)).other y.o 1 (iT x)).other y.o 2 (iT 1)).other y.o 3 (.string t)).other y.o 4 (iT (f+nn));exact ⟨h.c0,h.c1,h.c2,h.c3,h.c4,h.lt⟩
       refine eJ B J fun C=>?_
       generalize Wf.drew=wd at J C ⊢;refine aR 0 3 C ?_;refine aV 3 fun K hK=>?_
       go_simp;refine (mO _ _).mono ?_;rintro e w9 ⟨rfl,h9⟩;have k1:Bl Wf w9:=by rw [h9];exact J
       clear h9;go_wp2_with fail
       refine hK.o _ _ (B.o _ k1) fun C=>?_
       (try go_frame);refine aV 4 fun K hK=>?_
       have g:=H.o.below k1;have y0:=g.all;have z0:=g.fr 0;have z1:=g.fr 1;have z2:=g.fr 2;have z3:=g.fr 3;have z4:=g.fr 4;have zx:=g.lt;go_simp;clear y0 z0 z1 z2 z3 z4 zx;refine hK.o _ _ (U.o _ k1) fun C=>?_
       (try go_frame);refine aR 5 1 C ?_;refine dN ?_;have m:=g.setAll (.string u) (iT x) (iT 1) (.string t) (iT (f+nn));have g0:=m.c0;have g1:=m.c1;have g2:=m.c2;have g3:=m.c3;have g4:=m.c4;have gx:=m.lt;have Y:=(((((E.o.trans (k1.mono E.o.size)).setCell (p:=⟨R,0,none⟩) A.o (.string u)).setCell (p:=⟨R,1,none⟩) A.o (iT x)).setCell (p:=⟨R,2,none⟩) A.o (iT 1)).setCell (p:=⟨R,3,none⟩) A.o (.string t)).setCell (p:=⟨R,4,none⟩) A.o (iT (f+nn));obtain ⟨Wz,I⟩:=aG (((((w9.setCell ⟨R,0,none⟩ (.string u)).setCell ⟨R,1,none⟩ (iT x)).setCell ⟨R,2,none⟩ (iT 1)).setCell ⟨R,3,none⟩ (.string t)).setCell ⟨R,4,none⟩ (iT (f+nn)));rw [← I] at g0 g1 g2 g3 g4 gx Y ⊢;clear I m g C;go_wp2;refine bodyPost_ret (v:=.tuple #[.agg #[.string u,iT x,iT 1,.string t,iT (f+nn)],.bool (eC (f+nn))]) (by simp [results,Tryz.results265,go_sem,g0,g1,g2,g3,g4]) rfl ⟨by rw [HE.o],Y⟩
     · by_cases aD:d=2
       · subst aD;by_cases aB:k=0
         · subst aB;simp only [I3,Ik] at e0 e1 e2 e3 e4;have HE:Eq (bg true 0 L=(2,⟨#[]⟩,f+nn)):=by show bg true 0 L=_;rw [← HJ.o,ak.o];simp [bg]
           have D:Eq (cw ((((wr.setCell ⟨X,4,none⟩ (iT (f+nn))).setCell ⟨X,2,none⟩ (iT 1)).setCell ⟨X,2,none⟩ (iT 2)).alloc (.cells #[.string s,iT q,iT 2,.string t,iT nn] 50)) X (.string u) (iT x) (iT 2) (.string ⟨#[]⟩) (iT (f+nn))):=(((HX.o.set4 _).set2 _).set2 _).alloc _;have H:Eq (cw ((((wr.setCell ⟨X,4,none⟩ (iT (f+nn))).setCell ⟨X,2,none⟩ (iT 1)).setCell ⟨X,2,none⟩ (iT 2)).alloc (.cells #[.string s,iT q,iT 2,.string t,iT nn] 50)) R (.string ⟨#[]⟩) (iT 0) (iT 0) (.string ⟨#[]⟩) (iT 0)):=(((a0.o.other Q _ _).other Q _ _).other Q _ _).alloc _;have E:Eq (Bl w ((((wr.setCell ⟨X,4,none⟩ (iT (f+nn))).setCell ⟨X,2,none⟩ (iT 1)).setCell ⟨X,2,none⟩ (iT 2)).alloc (.cells #[.string s,iT q,iT 2,.string t,iT nn] 50))):=(((HB.o.setCell (p:=⟨X,4,none⟩) N.o _).setCell (p:=⟨X,2,none⟩) N.o _).setCell (p:=⟨X,2,none⟩) N.o _).alloc (by have:=HB.o.size;simpa [World.setCell] using this) _;go_upto_region 14 with fail
           generalize (((wr.setCell ⟨X,4,none⟩ (iT (f+nn))).setCell ⟨X,2,none⟩ (iT 1)).setCell ⟨X,2,none⟩ (iT 2)).alloc (.cells #[.string s,iT q,iT 2,.string t,iT nn] 50)=Wf at D H E ⊢;clear x0 x1 x2 x3 x4 r0 r1 r2 r3 r4 af ai al a9 a7 a8 am aj lX lR;have J:Bl Wf Wf.drew:=(Below.refl _ Wf).drew;have B:Eq (∀w',Bl Wf w'→(w'.cell? ⟨X,0,none⟩=some (.string u)∧w'.cell? ⟨X,1,none⟩=some (iT x)∧w'.cell? ⟨X,2,none⟩=some (iT 2)∧w'.cell? ⟨X,3,none⟩=some (.string ⟨#[]⟩)∧w'.cell? ⟨X,4,none⟩=some (iT (f+nn))∧X<w'.heap.size)):=fun w' O=>by have h:=D.o.below O;exact ⟨h.c0,h.c1,h.c2,h.c3,h.c4,h.lt⟩
           have U:Eq (∀w',Bl Wf w'→((fun w'=>w'.cell? ⟨X,0,none⟩=some (.string u)∧w'.cell? ⟨X,1,none⟩=some (iT x)∧w'.cell? ⟨X,2,none⟩=some (iT 2)∧w'.cell? ⟨X,3,none⟩=some (.string ⟨#[]⟩)∧w'.cell? ⟨X,4,none⟩=some (iT (f+nn))∧X<w'.heap.size) (((((w'.setCell ⟨R,0,none⟩ (.string u)).setCell ⟨R,1,none⟩ (iT x)).setCell ⟨R,2,none⟩ (iT 2)).setCell ⟨R,3,none⟩ (.string ⟨#[]⟩)).setCell ⟨R,4,none⟩ (iT (f+nn))))):=fun w' O=>by have h:=(((((D.o.below O).other y.o 0 (.string u)).other y.o 1 (iT x)).other y.o 2 (iT 2)).other y.o 3 (.string ⟨#[]⟩)).other y.o 4 (iT (f+nn));exact ⟨h.c0,h.c1,h.c2,h.c3,h.c4,h.lt⟩
           refine eJ B J fun C=>?_
           generalize Wf.drew=wd at J C ⊢;refine aR 0 3 C ?_;refine aV 3 fun K hK=>?_
           go_simp;refine (mO _ _).mono ?_;rintro e w9 ⟨rfl,h9⟩;have k1:Bl Wf w9:=by rw [h9];exact J
           clear h9;go_wp2_with fail
           refine hK.o _ _ (B.o _ k1) fun C=>?_
           (try go_frame);refine aV 4 fun K hK=>?_
           have g:=H.o.below k1;have y0:=g.all;have z0:=g.fr 0;have z1:=g.fr 1;have z2:=g.fr 2;have z3:=g.fr 3;have z4:=g.fr 4;have zx:=g.lt;go_simp;clear y0 z0 z1 z2 z3 z4 zx;refine hK.o _ _ (U.o _ k1) fun C=>?_
           (try go_frame);refine aR 5 1 C ?_;refine dN ?_;have m:=g.setAll (.string u) (iT x) (iT 2) (.string ⟨#[]⟩) (iT (f+nn));have g0:=m.c0;have g1:=m.c1;have g2:=m.c2;have g3:=m.c3;have g4:=m.c4;have gx:=m.lt;have Y:=(((((E.o.trans (k1.mono E.o.size)).setCell (p:=⟨R,0,none⟩) A.o (.string u)).setCell (p:=⟨R,1,none⟩) A.o (iT x)).setCell (p:=⟨R,2,none⟩) A.o (iT 2)).setCell (p:=⟨R,3,none⟩) A.o (.string ⟨#[]⟩)).setCell (p:=⟨R,4,none⟩) A.o (iT (f+nn));obtain ⟨Wz,I⟩:=aG (((((w9.setCell ⟨R,0,none⟩ (.string u)).setCell ⟨R,1,none⟩ (iT x)).setCell ⟨R,2,none⟩ (iT 2)).setCell ⟨R,3,none⟩ (.string ⟨#[]⟩)).setCell ⟨R,4,none⟩ (iT (f+nn)));rw [← I] at g0 g1 g2 g3 g4 gx Y ⊢;clear I m g C;go_wp2;refine bodyPost_ret (v:=.tuple #[.agg #[.string u,iT x,iT 2,.string ⟨#[]⟩,iT (f+nn)],.bool (eC (f+nn))]) (by simp [results,Tryz.results265,go_sem,g0,g1,g2,g3,g4]) rfl ⟨by rw [HE.o],Y⟩
         · have b9:¬(k:Int)=0:=by omega
           have HE:Eq (bg true 0 L=(1,⟨#[]⟩,f+nn)):=by show bg true 0 L=_;rw [← HJ.o,ak.o];simp [bg,aB]
           have D:Eq (cw (((wr.setCell ⟨X,4,none⟩ (iT (f+nn))).setCell ⟨X,2,none⟩ (iT 1)).alloc (.cells #[.string s,iT q,iT 2,.string t,iT nn] 50)) X (.string u) (iT x) (iT 1) (.string ⟨#[]⟩) (iT (f+nn))):=((HX.o.set4 _).set2 _).alloc _;have H:Eq (cw (((wr.setCell ⟨X,4,none⟩ (iT (f+nn))).setCell ⟨X,2,none⟩ (iT 1)).alloc (.cells #[.string s,iT q,iT 2,.string t,iT nn] 50)) R (.string ⟨#[]⟩) (iT 0) (iT 0) (.string ⟨#[]⟩) (iT 0)):=((a0.o.other Q _ _).other Q _ _).alloc _;have E:Eq (Bl w (((wr.setCell ⟨X,4,none⟩ (iT (f+nn))).setCell ⟨X,2,none⟩ (iT 1)).alloc (.cells #[.string s,iT q,iT 2,.string t,iT nn] 50))):=((HB.o.setCell (p:=⟨X,4,none⟩) N.o _).setCell (p:=⟨X,2,none⟩) N.o _).alloc (by have:=HB.o.size;simpa [World.setCell] using this) _;go_upto_region 14 with fail
           generalize ((wr.setCell ⟨X,4,none⟩ (iT (f+nn))).setCell ⟨X,2,none⟩ (iT 1)).alloc (.cells #[.string s,iT q,iT 2,.string t,iT nn] 50)=Wf at D H E ⊢;clear x0 x1 x2 x3 x4 r0 r1 r2 r3 r4 af ai al a9 a7 a8 am aj lX lR;have J:Bl Wf Wf.drew:=(Below.refl _ Wf).drew;have B:Eq (∀w',Bl Wf w'→(w'.cell? ⟨X,0,none⟩=some (.string u)∧w'.cell? ⟨X,1,none⟩=some (iT x)∧w'.cell? ⟨X,2,none⟩=some (iT 1)∧w'.cell? ⟨X,3,none⟩=some (.string ⟨#[]⟩)∧w'.cell? ⟨X,4,none⟩=some (iT (f+nn))∧X<w'.heap.size)):=fun w' O=>by have h:=D.o.below O;exact ⟨h.c0,h.c1,h.c2,h.c3,h.c4,h.lt⟩
           have U:Eq (∀w',Bl Wf w'→((fun w'=>w'.cell? ⟨X,0,none⟩=some (.string u)∧w'.cell? ⟨X,1,none⟩=some (iT x)∧w'.cell? ⟨X,2,none⟩=some (iT 1)∧w'.cell? ⟨X,3,none⟩=some (.string ⟨#[]⟩)∧w'.cell? ⟨X,4,none⟩=some (iT (f+nn))∧X<w'.heap.size) (((((w'.setCell ⟨R,0,none⟩ (.string u)).setCell ⟨R,1,none⟩ (iT x)).setCell ⟨R,2,none⟩ (iT 1)).setCell ⟨R,3,none⟩ (.string ⟨#[]⟩)).setCell ⟨R,4,none⟩ (iT (f+nn))))):=fun w' O=>by have h:=(((((D.o.below O).other y.o 0 (.string u)).other y.o 1 (iT x)).other y.o 2 (iT 1)).other y.o 3 (.string ⟨#[]⟩)).other y.o 4 (iT (f+nn));exact ⟨h.c0,h.c1,h.c2,h.c3,h.c4,h.lt⟩
           refine eJ B J fun C=>?_
           generalize Wf.drew=wd at J C ⊢;refine aR 0 3 C ?_;refine aV 3 fun K hK=>?_
           go_simp;refine (mO _ _).mono ?_;rintro e w9 ⟨rfl,h9⟩;have k1:Bl Wf w9:=by rw [h9];exact J
           clear h9;go_wp2_with fail
           refine hK.o _ _ (B.o _ k1) fun C=>?_
           (try go_frame);refine aV 4 fun K hK=>?_
           have g:=H.o.below k1;have y0:=g.all;have z0:=g.fr 0;have z1:=g.fr 1;have z2:=g.fr 2;have z3:=g.fr 3;have z4:=g.fr 4;have zx:=g.lt;go_simp;clear y0 z0 z1 z2 z3 z4 zx;refine hK.o _ _ (U.o _ k1) fun C=>?_
           (try go_frame);refine aR 5 1 C ?_;refine dN ?_;have m:=g.setAll (.string u) (iT x) (iT 1) (.string ⟨#[]⟩) (iT (f+nn));have g0:=m.c0;have g1:=m.c1;have g2:=m.c2;have g3:=m.c3;have g4:=m.c4;have gx:=m.lt;have Y:=(((((E.o.trans (k1.mono E.o.size)).setCell (p:=⟨R,0,none⟩) A.o (.string u)).setCell (p:=⟨R,1,none⟩) A.o (iT x)).setCell (p:=⟨R,2,none⟩) A.o (iT 1)).setCell (p:=⟨R,3,none⟩) A.o (.string ⟨#[]⟩)).setCell (p:=⟨R,4,none⟩) A.o (iT (f+nn));obtain ⟨Wz,I⟩:=aG (((((w9.setCell ⟨R,0,none⟩ (.string u)).setCell ⟨R,1,none⟩ (iT x)).setCell ⟨R,2,none⟩ (iT 1)).setCell ⟨R,3,none⟩ (.string ⟨#[]⟩)).setCell ⟨R,4,none⟩ (iT (f+nn)));rw [← I] at g0 g1 g2 g3 g4 gx Y ⊢;clear I m g C;go_wp2;refine bodyPost_ret (v:=.tuple #[.agg #[.string u,iT x,iT 1,.string ⟨#[]⟩,iT (f+nn)],.bool (eC (f+nn))]) (by simp [results,Tryz.results265,go_sem,g0,g1,g2,g3,g4]) rfl ⟨by rw [HE.o],Y⟩
       · have HE:Eq (bg false (f+nn) (L.drop (k+1))=bg true 0 L):=by show _=bg true 0 L;rw [← HJ.o,ak.o];simp [bg,aE,aD]
         go_wp2;go_roundw
         case rel=>exact ⟨k+1,f+nn,by omega,by go_num,(HX.o.set4 _).alloc _,(a0.o.other Q _ _).alloc _,(HB.o.setCell (p:=⟨X,4,none⟩) N.o _).alloc (by have:=HB.o.size;simpa [World.setCell] using this) _,by simpa using HE.o,by push_cast;omega,by push_cast;omega⟩
         case measure=>simp [intOf];omega
   · have aK:¬(k:Int)<(n:Int):=by omega
     have HE:Eq (bg true 0 L=(3,⟨#[]⟩,f)):=by
      show bg true 0 L=_
      rw [← HJ.o,Ji (by have:=HL.o.length;omega)];rfl
     have D:Eq (cw (wr) X (.string u) (iT x) (iT 3) (.string ⟨#[]⟩) (iT (f))):=HX.o;have H:Eq (cw (wr) R (.string ⟨#[]⟩) (iT 0) (iT 0) (.string ⟨#[]⟩) (iT 0)):=a0.o;have E:Eq (Bl w (wr)):=HB.o;go_upto_region 14 with fail
     generalize wr=Wf at D H E ⊢;clear x0 x1 x2 x3 x4 r0 r1 r2 r3 r4 af ai al a9 a7 a8 am aj lX lR;have J:Bl Wf Wf.drew:=(Below.refl _ Wf).drew;have B:Eq (∀w',Bl Wf w'→(w'.cell? ⟨X,0,none⟩=some (.string u)∧w'.cell? ⟨X,1,none⟩=some (iT x)∧w'.cell? ⟨X,2,none⟩=some (iT 3)∧w'.cell? ⟨X,3,none⟩=some (.string ⟨#[]⟩)∧w'.cell? ⟨X,4,none⟩=some (iT (f))∧X<w'.heap.size)):=fun w' O=>by have h:=D.o.below O;exact ⟨h.c0,h.c1,h.c2,h.c3,h.c4,h.lt⟩
     have U:Eq (∀w',Bl Wf w'→((fun w'=>w'.cell? ⟨X,0,none⟩=some (.string u)∧w'.cell? ⟨X,1,none⟩=some (iT x)∧w'.cell? ⟨X,2,none⟩=some (iT 3)∧w'.cell? ⟨X,3,none⟩=some (.string ⟨#[]⟩)∧w'.cell? ⟨X,4,none⟩=some (iT (f))∧X<w'.heap.size) (((((w'.setCell ⟨R,0,none⟩ (.string u)).setCell ⟨R,1,none⟩ (iT x)).setCell ⟨R,2,none⟩ (iT 3)).setCell ⟨R,3,none⟩ (.string ⟨#[]⟩)).setCell ⟨R,4,none⟩ (iT (f))))):=fun w' O=>by have h:=(((((D.o.below O).other y.o 0 (.string u)).other y.o 1 (iT x)).other y.o 2 (iT 3)).other y.o 3 (.string ⟨#[]⟩)).other y.o 4 (iT (f));exact ⟨h.c0,h.c1,h.c2,h.c3,h.c4,h.lt⟩
     refine eJ B J fun C=>?_
     generalize Wf.drew=wd at J C ⊢;refine aR 0 3 C ?_;refine aV 3 fun K hK=>?_
     go_simp;refine (mO _ _).mono ?_;rintro e w9 ⟨rfl,h9⟩;have k1:Bl Wf w9:=by rw [h9];exact J
     clear h9;go_wp2_with fail
     refine hK.o _ _ (B.o _ k1) fun C=>?_
     (try go_frame);refine aV 4 fun K hK=>?_
     have g:=H.o.below k1;have y0:=g.all;have z0:=g.fr 0;have z1:=g.fr 1;have z2:=g.fr 2;have z3:=g.fr 3;have z4:=g.fr 4;have zx:=g.lt;go_simp;clear y0 z0 z1 z2 z3 z4 zx;refine hK.o _ _ (U.o _ k1) fun C=>?_
     (try go_frame);refine aR 5 1 C ?_;refine dN ?_;have m:=g.setAll (.string u) (iT x) (iT 3) (.string ⟨#[]⟩) (iT (f));have g0:=m.c0;have g1:=m.c1;have g2:=m.c2;have g3:=m.c3;have g4:=m.c4;have gx:=m.lt;have Y:=(((((E.o.trans (k1.mono E.o.size)).setCell (p:=⟨R,0,none⟩) A.o (.string u)).setCell (p:=⟨R,1,none⟩) A.o (iT x)).setCell (p:=⟨R,2,none⟩) A.o (iT 3)).setCell (p:=⟨R,3,none⟩) A.o (.string ⟨#[]⟩)).setCell (p:=⟨R,4,none⟩) A.o (iT (f));obtain ⟨Wz,I⟩:=aG (((((w9.setCell ⟨R,0,none⟩ (.string u)).setCell ⟨R,1,none⟩ (iT x)).setCell ⟨R,2,none⟩ (iT 3)).setCell ⟨R,3,none⟩ (.string ⟨#[]⟩)).setCell ⟨R,4,none⟩ (iT (f)));rw [← I] at g0 g1 g2 g3 g4 gx Y ⊢;clear I m g C;go_wp2;refine bodyPost_ret (v:=.tuple #[.agg #[.string u,iT x,iT 3,.string ⟨#[]⟩,iT (f)],.bool (eC (f))]) (by simp [results,Tryz.results265,go_sem,g0,g1,g2,g3,g4]) rfl ⟨by rw [HE.o],Y⟩
end Go.Proofs.YtpobkmjicbobdaaGreat
namespace Go.Proofs.YtpobkmjicbobdaaGreat
open Go.RowKit
set_option maxRecDepth 100000
set_option maxHeartbeats 2000000
attribute [local go_sem] Ic
end Go.Proofs.YtpobkmjicbobdaaGreat
namespace Go.Proofs.YtpobkmjicbobdaaGreat
open Go.RowKit
set_option maxRecDepth 100000
set_option maxHeartbeats 2000000
attribute [local go_sem] Ic
def eE (bare:Bool) (s0:ByteArray) (q0:Int) (L:List ac):List ac :=
 if eC (bg true 0 L).2.2=true then (if bare=true∧(bg true 0 L).1=2 then [] else [(s0,q0,(if bare=true∧(bg true 0 L).1=3 then 1 else (bg true 0 L).1),(bg true 0 L).2.1,(bg true 0 L).2.2)]) else L
theorem yN:∀(L:List ac) (f:Bool) (b:Int),1≤(bg f b L).1∧(bg f b L).1≤3:=by
 intro L;induction L with
 | nil=>intro f b;simp [bg]
 | cons e R d =>
  intro f b;unfold bg;split
  · simp
  · split
    · cases f <;> simp
    · exact d false _
theorem yM:∀(L:List ac) (f:Bool) (b:Int),(∀e ∈ L,e.2.2.2.1.size≤maxLen)→(bg f b L).2.1.size≤maxLen:=by
 intro L;induction L with
 | nil=>intro f b _;exact GQ _
 | cons e R d =>
  intro f b h;unfold bg;split
  · exact h e (Ha ..)
  · split
    · exact GQ _
    · exact d false _ (fun x hx=>h x (He _ hx))
theorem Gq {z:Int} (h1:-1000000≤z) (h2:z≤1000000):(Lit.int .i64 z).wf=true:=by
 simp only [Lit.wf,IntKind.min,IntKind.max,IntKind.signed,IntKind.bits,G2,decide_eq_true_eq,if_true];omega
theorem oV (w:World) (base:Nat) (h:base≤w.heap.size):ag (w.alloc (.cells #[] 50)) base w.heap.size 0 0 []:=by
 have:=Hi (base:=base) (e:=50) (size:=5) w #[] 0 (by first | exact h | simp) (by first | exact h | simp) (by first | exact h | simp);exact ⟨by simpa [aF] using this,rfl,by simp⟩
theorem FL (w:World) (base:Nat) (h:base≤w.heap.size) (s t:ByteArray) (q d n:Int) (hw:d9 (s,q,d,t,n)):ag (w.alloc (.cells #[.string s,iT q,iT d,.string t,iT n] 50)) base w.heap.size 1 1 [(s,q,d,t,n)]:=by
 have:=Hi (base:=base) (e:=50) (size:=5) w #[.string s,iT q,iT d,.string t,iT n] 1 h (by unfold maxLen;omega) rfl;exact ⟨by simpa [aF,bi] using this,rfl,by simpa using hw⟩
end Go.Proofs.YtpobkmjicbobdaaGreat
namespace Go.Proofs.YtpobkmjicbobdaaGreat
set_option maxRecDepth 100000
set_option maxHeartbeats 40000000
open Go.RowKit
variable {S:List Int} {k:Nat} {n o:Int}
def gL (S:List Int) (o n:Int):Bool:=S.any (fun s=>decide (o≤s) && decide (s<n))
theorem mD {s:Int} (h:S[k]?=some s):gL (S.take (k+1)) o n=(gL (S.take k) o n || (decide (o≤s) && decide (s<n))):=by
 simp [gL,Hc,h,List.any_append]
theorem zh (h:gL (S.take k) o n=true):gL S o n=true:=by
 unfold gL at *;rw [List.any_eq_true] at *;obtain ⟨x,hx,hp⟩:=h;exact ⟨x,Hq hx,hp⟩
theorem tf (lo:Nat) (a:Option Addr) (n c:Nat) (S:List Int) (o p:Int) (w:World) (h:bJ lo w a n c S) :
 Calls Tryz.prog 246 #[.slice a n c,iT o,iT p] w fun e w'=>e=.returned (.bool (gL S o p))∧Bl w w':=by
 have hr:=h.room;have y:=h.big;unfold maxLen at y;have H:=az h;go_enter Tryz.func246,Tryz.ntmps246
 go_wp2;go_loopw [7] (fun i wr=>∃k:Nat,k≤n∧i=iT k∧gL (S.take k) o p=false∧Bl w wr) (fun i _=>n - (intOf i).toNat)
 case atStart=>exact ⟨0,GQ _,rfl,rfl,Below.refl _ _⟩
 case round =>
  obtain ⟨k,hk,rfl,t,hb⟩:=hrel;have d:=az t;by_cases u:k<n
  · have g:(k:Int)<(n:Int):=by omega
    obtain ⟨b,C,rfl,x⟩:=H.o.form (by omega);obtain ⟨s,hs,hw,hc⟩:=H.o.num hb k u;have A:=az hs;have B:=E' x hb.size;by_cases h1:o≤s
    · by_cases h2:s<p
      · go_wp2;go_ret;have m:gL S o p=true:=zh (k:=k+1) (by rw [mD A.o];simp [h1,h2]);exact ⟨by rw [m];rfl,hb⟩
      · go_wp2;go_roundw
        case rel=>exact ⟨k+1,by omega,by go_num,by rw [mD A.o,d.o];simp [h2],hb⟩
        case measure=>simp [intOf];omega
    · go_wp2;go_roundw
      case rel=>exact ⟨k+1,by omega,by go_num,by rw [mD A.o,d.o];simp [h1],hb⟩
      case measure=>simp [intOf];omega
  · have g:¬(k:Int)<(n:Int):=by omega
    have r:S.take k=S:=GV (by have:=H.o.length;omega);have f:Eq (gL S o p=false):=by have:=d.o;rw [r] at this;exact this
    go_wp2;go_ret;exact ⟨by rw [f.o];rfl,hb⟩
end Go.Proofs.YtpobkmjicbobdaaGreat
namespace Go.Proofs.YtpobkmjicbobdaaGreat
namespace Sq
variable {α κ:Type} [DecidableEq κ]
def putP (r:α→α→Bool) (x:α):List (List α)→List (List α)
 | (y :: c) :: cs=>if r x y then (x :: y :: c) :: cs else [x] :: (y :: c) :: cs
 | cs=>[x] :: cs
def parts (r:α→α→Bool) (L:List α):List (List α):=L.foldr (putP r) []
theorem parts_cons (r:α→α→Bool) (x:α) (L:List α):parts r (x :: L)=putP r x (parts r L):=rfl
theorem qC (r:α→α→Bool) (x:α) (L:List α):∃c cs,parts r (x :: L)=(x :: c) :: cs:=by
 rw [parts_cons];unfold putP;split
 · rename_i y c cs _
   by_cases h:r x y
   · exact ⟨y :: c,cs,by rw [if_pos h]⟩
   · exact ⟨[],(y :: c) :: cs,by rw [if_neg h]⟩
 · exact ⟨[],_,rfl⟩
theorem parts_flat (r:α→α→Bool):∀L:List α,(parts r L).flatten=L
 | []=>rfl
 | x :: L=>by
  rw [parts_cons]
  have b:=parts_flat r L
  unfold putP
  split
  · rename_i y c cs h
    rw [h] at b
    by_cases hr:r x y
    · rw [if_pos hr];simpa using b
    · rw [if_neg hr];simpa using b
  · simpa using b
variable (key:α→κ) (cl:Bool→List α→List α) (bottom:Bool)
def stepD (c:List α) (st:Bool × List α):Bool × List α:=(if (cl st.1 c).isEmpty then st.1 else false,cl st.1 c++st.2)
def leftD (Cs:List (List α)):List α:=(Cs.foldr (stepD cl) (bottom,[])).2
end Sq
namespace Sq
variable {α:Type}
theorem tq (r:α→α→Bool):∀A B:List α,(∀x y,A.getLast?=some x→B.head?=some y→r x y=false)→parts r (A++B)=parts r A++parts r B
 | [],B,_=>rfl
 | [x],B,h=>by
  match B with
  | []=>rfl
  | y :: R =>
   obtain ⟨c,cs,hp⟩:=qC r y R
   have hr:=h x y rfl rfl
   rw [List.singleton_append,parts_cons,hp]
   simp [putP,hr,parts]
 | x :: z :: A,B,h=>by
  have d:=tq r (z :: A) B (fun a b ha hb=>h a b (by rw [List.getLast?_cons_cons];exact ha) hb)
  obtain ⟨c,cs,hp⟩:=qC r z A
  rw [Ht,parts_cons,d,parts_cons r x,hp]
  by_cases e:r x z <;> simp [putP,e]
theorem pg (r:α→α→Bool):∀A:List α,A≠[]→(∀(j:Nat) x y,A[j]?=some x→A[j+1]?=some y→r x y=true)→parts r A=[A]
 | [],h,_=>absurd rfl h
 | [x],_,_=>rfl
 | x :: z :: A,_,h=>by
  have d:=pg r (z :: A) (by simp) (fun j a b ha hb=>h (j+1) a b (by simpa using ha) (by simpa using hb))
  have hr:=h 0 x z rfl rfl
  rw [parts_cons,d]
  simp [putP,hr]
theorem parts_front (r:α→α→Bool) (L:List α) (i k:Nat) (b:i<k) (hk:k≤L.length) (h1:∀j,i<j→j<k→∀x y,L[j - 1]?=some x→L[j]?=some y→r x y=true)
 (h2:∀x y,L[k - 1]?=some x→L[k]?=some y→r x y=false):parts r (L.drop i)=(L.drop i).take (k - i) :: parts r (L.drop k):=by
 have e:L.drop i=(L.drop i).take (k - i)++L.drop k:=by
  have:=(Hh (k - i) (L.drop i)).symm;rw [IG,show i+(k - i)=k by omega] at this;exact this
 have hl:((L.drop i).take (k - i)).length=k - i:=by rw [GS,G7];omega
 conv=>lhs;rw [e]
 rw [tq,pg]
 · rfl
 · intro e;rw [e] at hl;simp at hl;omega
 · intro j x y hx hy;have d:j+1<k - i:=by rw [← hl];exact (F'.1 hy).1
   rw [Hv (by omega),H9] at hx hy;exact h1 (i+(j+1)) (by omega) (by omega) x y (by rw [show i+(j+1) - 1=i+j by omega];exact hx) hy
 · intro x y hx hy;rw [List.getLast?_eq_getElem?,hl,Hv (by omega),H9,show i+(k - i - 1)=k - 1 by omega] at hx;rw [List.head?_drop] at hy;exact h2 x y hx hy
end Sq
end Go.Proofs.YtpobkmjicbobdaaGreat
namespace Go.Proofs.YtpobkmjicbobdaaGreat
def nW (b:Bool):List ac→List ac
 | []=>[]
 | e :: r=>eE b e.1 e.2.1 (e :: r)
def im (S:List Int) (x y:ac):Bool:=!gL S y.2.1 x.2.1
def fA (x y:ac):Bool:=decide (x.1=y.1)
def fc (S:List Int) (bottom:Bool) (G:List ac):List ac:=Sq.leftD nW bottom (Sq.parts (im S) G)
def bT (L:List ac) (S:List Int) (bottom:Bool):List ac:=if aI L=true then (Sq.parts fA L).flatMap (fc S bottom) else []
theorem wU {c:List ac} {e:ac} (b:Bool) (h:c[0]?=some e):nW b c=eE b e.1 e.2.1 c:=by
 match c,h with
 | x :: r,h=>simp at h;subst h;rfl
theorem zV (b:Bool):∀c:List ac,(nW b c).length≤c.length
 | []=>GL _
 | e :: r=>by
  show (eE b e.1 e.2.1 (e :: r)).length≤(e :: r).length
  unfold eE
  by_cases h1:eC (bg true 0 (e :: r)).2.2=true
  · rw [if_pos h1]
    by_cases h2:b=true∧(bg true 0 (e :: r)).1=2
    · rw [if_pos h2];simp
    · rw [if_neg h2];simp
  · rw [if_neg h1];exact GL _
theorem qQ (bottom:Bool):∀P:List (List ac),((P.foldr (Sq.stepD nW) (bottom,[])).2).length≤P.flatten.length
 | []=>GL _
 | c :: P=>by
  have d:=qQ bottom P
  have h:=zV (P.foldr (Sq.stepD nW) (bottom,[])).1 c
  rw [List.foldr_cons,Ip,GO]
  generalize P.foldr (Sq.stepD nW) (bottom,[])=b at d h ⊢
  show (nW b.1 c++b.2).length≤_
  rw [GO]
  omega
theorem oH (S:List Int) (bottom:Bool) (G:List ac):(fc S bottom G).length≤G.length:=by
 have:=qQ bottom (Sq.parts (im S) G);rw [Sq.parts_flat] at this;exact this
theorem AN (bottom:Bool) (P:List (List ac)) (j:Nat) (c:List ac) (h:P[j]?=some c) :
 (P.drop j).foldr (Sq.stepD nW) (bottom,[])=Sq.stepD nW c ((P.drop (j+1)).foldr (Sq.stepD nW) (bottom,[])):=by
 obtain ⟨b,e⟩:=F'.1 h;rw [Ie b,e];rfl
theorem ru (S:List Int) (bottom:Bool):∀P:List (List ac),(P.flatMap (fc S bottom)).length≤P.flatten.length
 | []=>GL _
 | c :: P=>by
  have b:=ru S bottom P
  have h:=oH S bottom c
  rw [I7,Ip,GO,GO]
  omega
theorem kj (L:List ac) (S:List Int) (bottom:Bool):(bT L S bottom).length≤L.length:=by
 unfold bT;split
 · have:=ru S bottom (Sq.parts fA L);rwa [Sq.parts_flat] at this
 · simp
theorem jc (r:ac→ac→Bool) (L:List ac) (c:List ac) (h:c ∈ Sq.parts r L):c.length≤L.length∧∀e ∈ c,e ∈ L:=by
 have hf:=Sq.parts_flat r L;refine ⟨?_,fun e b=>by rw [← hf];exact IS.2 ⟨c,h,b⟩⟩;obtain ⟨A,B,e⟩:=List.append_of_mem h;rw [← hf,e];simp;omega
theorem lC (r:ac→ac→Bool):∀(L:List ac) (c:List ac),c ∈ Sq.parts r L→c≠[]
 | [],c,h=>by simp [Sq.parts] at h
 | z :: L,c,h=>by
  have b:=lC r L
  rw [Sq.parts_cons] at h
  unfold Sq.putP at h
  split at h
  · rename_i y c' cs hp
    rw [hp] at b
    split at h
    · rcases GZ.1 h with rfl | h
      · simp
      · exact b c (He _ h)
    · rcases GZ.1 h with rfl | h
      · simp
      · exact b c h
  · rcases GZ.1 h with rfl | h
    · simp
    · exact b c h
theorem x8 {L:List ac} (h:aI L=true):∀e ∈ L,(-1000000≤e.2.2.2.2∧e.2.2.2.2≤1000000)∧(1≤e.2.2.1∧e.2.2.1≤3∧(e.2.2.1=2→e.2.2.2.1=⟨#[]⟩))∧e.1≠⟨#[]⟩:=by
 intro e f;obtain ⟨j,g⟩:=Hr f;have hb:=eo h g;unfold dM at hb;simp only [G2,decide_eq_true_eq] at hb;obtain ⟨hk,h1,h2,h3,h4,h5,h6⟩:=hb;refine ⟨⟨h3,h4⟩,?_,?_⟩
 · by_cases m:e.2.2.1=1
   · exact ⟨by omega,by omega,fun h=>by omega⟩
   · by_cases b:e.2.2.1=2
     · rw [b] at h6;simp [gT] at h6;exact ⟨by omega,by omega,fun _=>h6.1⟩
     · by_cases d:e.2.2.1=3
       · exact ⟨by omega,by omega,fun h=>by omega⟩
       · rw [pO m b d] at h6;cases h6
 · intro e0;rw [e0] at hk;simp [gZ,ByteArray.size] at hk
end Go.Proofs.YtpobkmjicbobdaaGreat
