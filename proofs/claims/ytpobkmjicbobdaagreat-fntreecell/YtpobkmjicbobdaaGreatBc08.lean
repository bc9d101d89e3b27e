/- Walks. -/
import Derived.Deep.AppendLies
import Derived.Test.YtpobkmjicbobdaaGreatBc07
namespace Go.Proofs.YtpobkmjicbobdaaGreat
open Go.RowKit
set_option maxRecDepth 100000
set_option maxHeartbeats 2000000
attribute [local go_sem] Gi
def bh:Bool→Int→List ae→Int × ByteArray × Int
 | _,acc,[]=>(3,⟨#[]⟩,acc)
 | first,acc,e :: R=>if e.2.2.1=1 then (1,e.2.2.2.1,acc+e.2.2.2.2) else if e.2.2.1=2 then ((if first then 2 else 1),⟨#[]⟩,acc+e.2.2.2.2) else bh false (acc+e.2.2.2.2) R
def dY (n:Int):Bool:=decide (-1000000≤n) && decide (n≤1000000)
theorem l6 (n:Int) (w:World):Calls Tryz.prog 200 #[iT n] w fun e w'=>e=.returned (.bool (dY n))∧w'=w:=by
 by_cases h1:-1000000≤n
 · by_cases h2:n≤1000000
   · have e1:dY n=true:=by simp [dY,h1,h2]
     rw [e1];go_enter Tryz.func200,Tryz.ntmps200
     go_wp2;go_ret;exact ⟨rfl,rfl⟩
   · have e1:dY n=false:=by simp [dY,h2]
     rw [e1];go_enter Tryz.func200,Tryz.ntmps200
     go_wp2;go_ret;exact ⟨rfl,rfl⟩
 · have e1:dY n=false:=by simp [dY,h1]
   rw [e1];go_enter Tryz.func200,Tryz.ntmps200
   go_wp2;go_ret;exact ⟨rfl,rfl⟩
theorem Bc (b an n c:Nat) (L:List ae) (x:ByteArray) (u:Int) (w:World) (hL:ah w (some ⟨b,an,none⟩) n c L) (hn:1≤n) (bn:n≤1048576) (h0:∃r,L[0]?=some (x,u,r)) (hN:∀e ∈ L,-1000000≤e.2.2.2.2∧e.2.2.2.2≤1000000) :
 Calls Tryz.prog 265 #[sO b an n c] w fun e w'=>e=.returned (.tuple #[.agg #[.string x,iT u,iT (bh true 0 L).1,.string (bh true 0 L).2.1,iT (bh true 0 L).2.2],.bool (dY (bh true 0 L).2.2)])∧Bl w w':=by
 have hr:=hL.room;have b6:=hL.big;unfold maxLen at b6;have HL:=bT hL;have HN:=bT hN;have a5:=(hL.lies _ rfl (by omega)).1;simp only at a5;obtain ⟨s,q,d,t,nn,hg,_,e0,e1,_⟩:=hL.ent (Below.refl _ w) a5 0 (by omega);obtain ⟨r,aD⟩:=h0;rw [aD] at hg;cases hg;simp only [G4,Gv] at e0 e1;clear hL hN aD;have bi:(0:Int)<(n:Int):=by omega
 have bd:0<n:=hn;obtain ⟨R,hR⟩:=aG w.heap.size;obtain ⟨W,hW⟩:=aG (w.alloc (.cells #[.string ⟨#[]⟩,iT 0,iT 0,.string ⟨#[]⟩,iT 0] 50));have kW:Bl w W:=by rw [hW];exact bZ
 have aB:cq W R (.string ⟨#[]⟩) (iT 0) (iT 0) (.string ⟨#[]⟩) (iT 0):=by rw [hW,hR];exact cq.new _ _ _ _ _ _ _
 have ar:Eq (Bl w W):=kW;have aK:Eq (cq W R (.string ⟨#[]⟩) (iT 0) (iT 0) (.string ⟨#[]⟩) (iT 0)):=aB;have A:Eq (w.heap.size≤R):=by show w.heap.size≤R;omega
 have e0:=cell_later kW e0;have e1:=cell_later kW e1;have aW:b<W.heap.size:=u' a5 kW.size;have J:Bl W W.drew:=(Below.refl _ W).drew;have B:Eq (∀w',Bl W w'→(w'.cell? ⟨b,an,none⟩=some (.string x)∧w'.cell? ⟨b,an+1,none⟩=some (iT u)∧b<w'.heap.size)):=fun w' N=>⟨cell_later N e0,cell_later N e1,u' aW N.size⟩
 go_enter Tryz.func265,Tryz.ntmps265
 go_upto_region 1 with fail
 rw [← hW,← hR];clear hW hR kW aB;go_cut [4] (fun s4 wx=>∃(X:Nat),s4=.pointer (pT X)∧cq wx X (.string x) (iT u) (iT 3) (.string ⟨#[]⟩) (iT 0)∧W.heap.size≤X∧Bl W wx)
 case first =>
  refine eJ B J fun C=>?_
  generalize W.drew=wd at J C ⊢;refine aP 0 9 C ?_;refine aQ 9 fun K hK=>?_
  go_simp;have F:=cq.new wd 50 (.string ⟨#[]⟩) (iT 0) (iT 0) (.string ⟨#[]⟩) (iT 0);have ka:=J.alloc J.size (.cells #[.string ⟨#[]⟩,iT 0,iT 0,.string ⟨#[]⟩,iT 0] 50);have U:=J.size;generalize wd.alloc (.cells #[.string ⟨#[]⟩,iT 0,iT 0,.string ⟨#[]⟩,iT 0] 50)=wA at F ka ⊢;generalize wd.heap.size=X at F U ⊢;refine hK.o _ _ (B.o _ ka) fun C=>?_
  (try go_frame);refine aQ 10 fun K hK=>?_
  have y0:=F.all;have z0:=F.fr 0;have z1:=F.fr 1;have z2:=F.fr 2;have z3:=F.fr 3;have z4:=F.fr 4;have zx:=F.lt;go_simp;have Y:=(((((ka).setCell (p:=⟨X,0,none⟩) U (.string x)).setCell (p:=⟨X,1,none⟩) U (iT u)).setCell (p:=⟨X,2,none⟩) U (iT 3)).setCell (p:=⟨X,3,none⟩) U (.string ⟨#[]⟩)).setCell (p:=⟨X,4,none⟩) U (iT 0);have hby:=F.setAll (.string x) (iT u) (iT 3) (.string ⟨#[]⟩) (iT 0);clear y0 z0 z1 z2 z3 z4 zx;refine hK.o _ _ (B.o _ Y) fun C=>?_
  (try go_frame);refine dN ?_;go_wp2;go_meet
  exact ⟨X,rfl,hby,U,Y⟩
 case rest =>
  obtain ⟨X,rfl,hX,b5,F⟩:=hcut;clear J B e0 e1;have aY:Eq (Bl w wc):=ar.o.trans (F.mono ar.o.size);have b7:Eq (cq wc R (.string ⟨#[]⟩) (iT 0) (iT 0) (.string ⟨#[]⟩) (iT 0)):=aK.o.below F;have y:Eq (X≠R):=by have:=aK.o.lt;show X≠R;omega
  have b0:Eq (cq wc X (.string x) (iT u) (iT 3) (.string ⟨#[]⟩) (iT 0)):=hX;have Q:Eq (w.heap.size≤X):=by have:=ar.o.size;show w.heap.size≤X;omega
  clear hX F b5;go_wp2;go_loopw [5] (fun iv wr=>∃(k:Nat) (f:Int),k≤n∧iv=iT k∧cq wr X (.string x) (iT u) (iT 3) (.string ⟨#[]⟩) (iT f)∧cq wr R (.string ⟨#[]⟩) (iT 0) (iT 0) (.string ⟨#[]⟩) (iT 0)∧Bl w wr∧bh (decide (k=0)) f (L.drop k)=bh true 0 L∧-(1000000*(k:Int))≤f∧f≤1000000*(k:Int)) (fun iv _=>n - (intOf iv).toNat)
  case atStart=>exact ⟨0,0,FB _,rfl,b0.o,b7.o,aY.o,rfl,by omega,by omega⟩
  case round =>
   obtain ⟨k,f,hk,rfl,hX,aH,hb,hj,bj,bm⟩:=hrel;have HX:Eq (cq wr X (.string x) (iT u) (iT 3) (.string ⟨#[]⟩) (iT f)):=hX;have a0:Eq (cq wr R (.string ⟨#[]⟩) (iT 0) (iT 0) (.string ⟨#[]⟩) (iT 0)):=aH;have HB:Eq (Bl w wr):=hb;have HJ:Eq (bh (decide (k=0)) f (L.drop k)=bh true 0 L):=hj;obtain ⟨x0,x1,x2,x3,x4,xf⟩:=hX;obtain ⟨r0,r1,r2,r3,r4,rf⟩:=aH;have ag:=xf 2;have ai:=xf 3;have ad:=xf 4;have a8:=rf 0;have a9:=rf 1;have a7:=rf 2;have af:=rf 3;have aj:=rf 4;have lX:=Fu _ _ x0;have lR:=Fu _ _ r0;simp only at lX lR;have aX:=y.o;have O:R≠X:=fun e=>aX e.symm
   clear xf rf hj;by_cases b2:k<n
   · have aF:(k:Int)<(n:Int):=by omega
     obtain ⟨s,q,d,t,nn,hg,hw,e0,e1,e2,e3,e4⟩:=HL.o.ent hb a5 k b2;have bk:b<wr.heap.size:=u' a5 hb.size;obtain ⟨m1,m2⟩:=HN.o _ (Fw hg);simp only at m1 m2;have aE:L.drop k=(s,q,d,t,nn) :: L.drop (k+1):=by
      have b1:=(E'.1 hg).1;rw [Gj b1,(E'.1 hg).2]
     have ab:Eq (L.drop k=(s,q,d,t,nn) :: L.drop (k+1)):=aE;have be:wr.heap.size≠X:=by omega
     have bf:X≠wr.heap.size:=by omega
     have bg:R≠wr.heap.size:=by omega
     clear hg hw aE hb;have b4:-9223372036854775808≤f+nn:=by omega
     have aV:f+nn≤9223372036854775807:=by omega
     by_cases aA:d=1
     · subst aA;have HE:Eq (bh true 0 L=(1,t,f+nn)):=by show bh true 0 L=_;rw [← HJ.o,ab.o];simp [bh]
       have D:Eq (cq ((((wr.setCell ⟨X,4,none⟩ (iT (f+nn))).setCell ⟨X,2,none⟩ (iT 1)).setCell ⟨X,3,none⟩ (.string t)).alloc (.cells #[.string s,iT q,iT 1,.string t,iT nn] 50)) X (.string x) (iT u) (iT 1) (.string t) (iT (f+nn))):=(((HX.o.set4 _).set2 _).set3 _).alloc _;have I:Eq (cq ((((wr.setCell ⟨X,4,none⟩ (iT (f+nn))).setCell ⟨X,2,none⟩ (iT 1)).setCell ⟨X,3,none⟩ (.string t)).alloc (.cells #[.string s,iT q,iT 1,.string t,iT nn] 50)) R (.string ⟨#[]⟩) (iT 0) (iT 0) (.string ⟨#[]⟩) (iT 0)):=(((a0.o.other O _ _).other O _ _).other O _ _).alloc _;have E:Eq (Bl w ((((wr.setCell ⟨X,4,none⟩ (iT (f+nn))).setCell ⟨X,2,none⟩ (iT 1)).setCell ⟨X,3,none⟩ (.string t)).alloc (.cells #[.string s,iT q,iT 1,.string t,iT nn] 50))):=(((HB.o.setCell (p:=⟨X,4,none⟩) Q.o _).setCell (p:=⟨X,2,none⟩) Q.o _).setCell (p:=⟨X,3,none⟩) Q.o _).alloc (by have:=HB.o.size;simpa [World.setCell] using this) _;go_upto_region 14 with fail
       generalize (((wr.setCell ⟨X,4,none⟩ (iT (f+nn))).setCell ⟨X,2,none⟩ (iT 1)).setCell ⟨X,3,none⟩ (.string t)).alloc (.cells #[.string s,iT q,iT 1,.string t,iT nn] 50)=Wf at D I E ⊢;clear x0 x1 x2 x3 x4 r0 r1 r2 r3 r4 ag ai ad a8 a9 a7 af aj lX lR;have J:Bl Wf Wf.drew:=(Below.refl _ Wf).drew;have B:Eq (∀w',Bl Wf w'→(w'.cell? ⟨X,0,none⟩=some (.string x)∧w'.cell? ⟨X,1,none⟩=some (iT u)∧w'.cell? ⟨X,2,none⟩=some (iT 1)∧w'.cell? ⟨X,3,none⟩=some (.string t)∧w'.cell? ⟨X,4,none⟩=some (iT (f+nn))∧X<w'.heap.size)):=fun w' N=>by have h:=D.o.below N;exact ⟨h.c0,h.c1,h.c2,h.c3,h.c4,h.lt⟩
       have T:Eq (∀w',Bl Wf w'→((fun w'=>w'.cell? ⟨X,0,none⟩=some (.string x)∧w'.cell? ⟨X,1,none⟩=some (iT u)∧w'.cell? ⟨X,2,none⟩=some (iT 1)∧w'.cell? ⟨X,3,none⟩=some (.string t)∧w'.cell? ⟨X,4,none⟩=some (iT (f+nn))∧X<w'.heap.size) (((((w'.setCell ⟨R,0,none⟩ (.string x)).setCell ⟨R,1,none⟩ (iT u)).setCell ⟨R,2,none⟩ (iT 1)).setCell ⟨R,3,none⟩ (.string t)).setCell ⟨R,4,none⟩ (iT (f+nn))))):=fun w' N=>by have h:=(((((D.o.below N).other y.o 0 (.string x)).other y.o 1 (iT u)).other y.o 2 (iT 1)).other y.o 3 (.string t)).other y.o 4 (iT (f+nn));exact ⟨h.c0,h.c1,h.c2,h.c3,h.c4,h.lt⟩
       refine eJ B J fun C=>?_
       generalize Wf.drew=wd at J C ⊢;refine aP 0 3 C ?_;refine aQ 3 fun K hK=>?_
       go_simp;refine (l6 _ _).mono ?_;rintro e w9 ⟨rfl,h9⟩;have k1:Bl Wf w9:=by rw [h9];exact J
       clear h9;go_wp2_with fail
       refine hK.o _ _ (B.o _ k1) fun C=>?_
       (try go_frame);refine aQ 4 fun K hK=>?_
       have g:=I.o.below k1;have y0:=g.all;have z0:=g.fr 0;have z1:=g.fr 1;have z2:=g.fr 2;have z3:=g.fr 3;have z4:=g.fr 4;have zx:=g.lt;go_simp;clear y0 z0 z1 z2 z3 z4 zx;refine hK.o _ _ (T.o _ k1) fun C=>?_
       (try go_frame);refine aP 5 1 C ?_;refine dN ?_;have m:=g.setAll (.string x) (iT u) (iT 1) (.string t) (iT (f+nn));have g0:=m.c0;have g1:=m.c1;have g2:=m.c2;have g3:=m.c3;have Z:=m.c4;have gx:=m.lt;have Y:=(((((E.o.trans (k1.mono E.o.size)).setCell (p:=⟨R,0,none⟩) A.o (.string x)).setCell (p:=⟨R,1,none⟩) A.o (iT u)).setCell (p:=⟨R,2,none⟩) A.o (iT 1)).setCell (p:=⟨R,3,none⟩) A.o (.string t)).setCell (p:=⟨R,4,none⟩) A.o (iT (f+nn));obtain ⟨Wz,H⟩:=aG (((((w9.setCell ⟨R,0,none⟩ (.string x)).setCell ⟨R,1,none⟩ (iT u)).setCell ⟨R,2,none⟩ (iT 1)).setCell ⟨R,3,none⟩ (.string t)).setCell ⟨R,4,none⟩ (iT (f+nn)));rw [← H] at g0 g1 g2 g3 Z gx Y ⊢;clear H m g C;go_wp2;refine bodyPost_ret (v:=.tuple #[.agg #[.string x,iT u,iT 1,.string t,iT (f+nn)],.bool (dY (f+nn))]) (by simp [results,Tryz.results265,go_sem,g0,g1,g2,g3,Z]) rfl ⟨by rw [HE.o],Y⟩
     · by_cases aL:d=2
       · subst aL;by_cases ay:k=0
         · subst ay;simp only [G4,Gv] at e0 e1 e2 e3 e4;have HE:Eq (bh true 0 L=(2,⟨#[]⟩,f+nn)):=by show bh true 0 L=_;rw [← HJ.o,ab.o];simp [bh]
           have D:Eq (cq ((((wr.setCell ⟨X,4,none⟩ (iT (f+nn))).setCell ⟨X,2,none⟩ (iT 1)).setCell ⟨X,2,none⟩ (iT 2)).alloc (.cells #[.string s,iT q,iT 2,.string t,iT nn] 50)) X (.string x) (iT u) (iT 2) (.string ⟨#[]⟩) (iT (f+nn))):=(((HX.o.set4 _).set2 _).set2 _).alloc _;have I:Eq (cq ((((wr.setCell ⟨X,4,none⟩ (iT (f+nn))).setCell ⟨X,2,none⟩ (iT 1)).setCell ⟨X,2,none⟩ (iT 2)).alloc (.cells #[.string s,iT q,iT 2,.string t,iT nn] 50)) R (.string ⟨#[]⟩) (iT 0) (iT 0) (.string ⟨#[]⟩) (iT 0)):=(((a0.o.other O _ _).other O _ _).other O _ _).alloc _;have E:Eq (Bl w ((((wr.setCell ⟨X,4,none⟩ (iT (f+nn))).setCell ⟨X,2,none⟩ (iT 1)).setCell ⟨X,2,none⟩ (iT 2)).alloc (.cells #[.string s,iT q,iT 2,.string t,iT nn] 50))):=(((HB.o.setCell (p:=⟨X,4,none⟩) Q.o _).setCell (p:=⟨X,2,none⟩) Q.o _).setCell (p:=⟨X,2,none⟩) Q.o _).alloc (by have:=HB.o.size;simpa [World.setCell] using this) _;go_upto_region 14 with fail
           generalize (((wr.setCell ⟨X,4,none⟩ (iT (f+nn))).setCell ⟨X,2,none⟩ (iT 1)).setCell ⟨X,2,none⟩ (iT 2)).alloc (.cells #[.string s,iT q,iT 2,.string t,iT nn] 50)=Wf at D I E ⊢;clear x0 x1 x2 x3 x4 r0 r1 r2 r3 r4 ag ai ad a8 a9 a7 af aj lX lR;have J:Bl Wf Wf.drew:=(Below.refl _ Wf).drew;have B:Eq (∀w',Bl Wf w'→(w'.cell? ⟨X,0,none⟩=some (.string x)∧w'.cell? ⟨X,1,none⟩=some (iT u)∧w'.cell? ⟨X,2,none⟩=some (iT 2)∧w'.cell? ⟨X,3,none⟩=some (.string ⟨#[]⟩)∧w'.cell? ⟨X,4,none⟩=some (iT (f+nn))∧X<w'.heap.size)):=fun w' N=>by have h:=D.o.below N;exact ⟨h.c0,h.c1,h.c2,h.c3,h.c4,h.lt⟩
           have T:Eq (∀w',Bl Wf w'→((fun w'=>w'.cell? ⟨X,0,none⟩=some (.string x)∧w'.cell? ⟨X,1,none⟩=some (iT u)∧w'.cell? ⟨X,2,none⟩=some (iT 2)∧w'.cell? ⟨X,3,none⟩=some (.string ⟨#[]⟩)∧w'.cell? ⟨X,4,none⟩=some (iT (f+nn))∧X<w'.heap.size) (((((w'.setCell ⟨R,0,none⟩ (.string x)).setCell ⟨R,1,none⟩ (iT u)).setCell ⟨R,2,none⟩ (iT 2)).setCell ⟨R,3,none⟩ (.string ⟨#[]⟩)).setCell ⟨R,4,none⟩ (iT (f+nn))))):=fun w' N=>by have h:=(((((D.o.below N).other y.o 0 (.string x)).other y.o 1 (iT u)).other y.o 2 (iT 2)).other y.o 3 (.string ⟨#[]⟩)).other y.o 4 (iT (f+nn));exact ⟨h.c0,h.c1,h.c2,h.c3,h.c4,h.lt⟩
           refine eJ B J fun C=>?_
           generalize Wf.drew=wd at J C ⊢;refine aP 0 3 C ?_;refine aQ 3 fun K hK=>?_
           go_simp;refine (l6 _ _).mono ?_;rintro e w9 ⟨rfl,h9⟩;have k1:Bl Wf w9:=by rw [h9];exact J
           clear h9;go_wp2_with fail
           refine hK.o _ _ (B.o _ k1) fun C=>?_
           (try go_frame);refine aQ 4 fun K hK=>?_
           have g:=I.o.below k1;have y0:=g.all;have z0:=g.fr 0;have z1:=g.fr 1;have z2:=g.fr 2;have z3:=g.fr 3;have z4:=g.fr 4;have zx:=g.lt;go_simp;clear y0 z0 z1 z2 z3 z4 zx;refine hK.o _ _ (T.o _ k1) fun C=>?_
           (try go_frame);refine aP 5 1 C ?_;refine dN ?_;have m:=g.setAll (.string x) (iT u) (iT 2) (.string ⟨#[]⟩) (iT (f+nn));have g0:=m.c0;have g1:=m.c1;have g2:=m.c2;have g3:=m.c3;have Z:=m.c4;have gx:=m.lt;have Y:=(((((E.o.trans (k1.mono E.o.size)).setCell (p:=⟨R,0,none⟩) A.o (.string x)).setCell (p:=⟨R,1,none⟩) A.o (iT u)).setCell (p:=⟨R,2,none⟩) A.o (iT 2)).setCell (p:=⟨R,3,none⟩) A.o (.string ⟨#[]⟩)).setCell (p:=⟨R,4,none⟩) A.o (iT (f+nn));obtain ⟨Wz,H⟩:=aG (((((w9.setCell ⟨R,0,none⟩ (.string x)).setCell ⟨R,1,none⟩ (iT u)).setCell ⟨R,2,none⟩ (iT 2)).setCell ⟨R,3,none⟩ (.string ⟨#[]⟩)).setCell ⟨R,4,none⟩ (iT (f+nn)));rw [← H] at g0 g1 g2 g3 Z gx Y ⊢;clear H m g C;go_wp2;refine bodyPost_ret (v:=.tuple #[.agg #[.string x,iT u,iT 2,.string ⟨#[]⟩,iT (f+nn)],.bool (dY (f+nn))]) (by simp [results,Tryz.results265,go_sem,g0,g1,g2,g3,Z]) rfl ⟨by rw [HE.o],Y⟩
         · have b8:¬(k:Int)=0:=by omega
           have HE:Eq (bh true 0 L=(1,⟨#[]⟩,f+nn)):=by show bh true 0 L=_;rw [← HJ.o,ab.o];simp [bh,ay]
           have D:Eq (cq (((wr.setCell ⟨X,4,none⟩ (iT (f+nn))).setCell ⟨X,2,none⟩ (iT 1)).alloc (.cells #[.string s,iT q,iT 2,.string t,iT nn] 50)) X (.string x) (iT u) (iT 1) (.string ⟨#[]⟩) (iT (f+nn))):=((HX.o.set4 _).set2 _).alloc _;have I:Eq (cq (((wr.setCell ⟨X,4,none⟩ (iT (f+nn))).setCell ⟨X,2,none⟩ (iT 1)).alloc (.cells #[.string s,iT q,iT 2,.string t,iT nn] 50)) R (.string ⟨#[]⟩) (iT 0) (iT 0) (.string ⟨#[]⟩) (iT 0)):=((a0.o.other O _ _).other O _ _).alloc _;have E:Eq (Bl w (((wr.setCell ⟨X,4,none⟩ (iT (f+nn))).setCell ⟨X,2,none⟩ (iT 1)).alloc (.cells #[.string s,iT q,iT 2,.string t,iT nn] 50))):=((HB.o.setCell (p:=⟨X,4,none⟩) Q.o _).setCell (p:=⟨X,2,none⟩) Q.o _).alloc (by have:=HB.o.size;simpa [World.setCell] using this) _;go_upto_region 14 with fail
           generalize ((wr.setCell ⟨X,4,none⟩ (iT (f+nn))).setCell ⟨X,2,none⟩ (iT 1)).alloc (.cells #[.string s,iT q,iT 2,.string t,iT nn] 50)=Wf at D I E ⊢;clear x0 x1 x2 x3 x4 r0 r1 r2 r3 r4 ag ai ad a8 a9 a7 af aj lX lR;have J:Bl Wf Wf.drew:=(Below.refl _ Wf).drew;have B:Eq (∀w',Bl Wf w'→(w'.cell? ⟨X,0,none⟩=some (.string x)∧w'.cell? ⟨X,1,none⟩=some (iT u)∧w'.cell? ⟨X,2,none⟩=some (iT 1)∧w'.cell? ⟨X,3,none⟩=some (.string ⟨#[]⟩)∧w'.cell? ⟨X,4,none⟩=some (iT (f+nn))∧X<w'.heap.size)):=fun w' N=>by have h:=D.o.below N;exact ⟨h.c0,h.c1,h.c2,h.c3,h.c4,h.lt⟩
           have T:Eq (∀w',Bl Wf w'→((fun w'=>w'.cell? ⟨X,0,none⟩=some (.string x)∧w'.cell? ⟨X,1,none⟩=some (iT u)∧w'.cell? ⟨X,2,none⟩=some (iT 1)∧w'.cell? ⟨X,3,none⟩=some (.string ⟨#[]⟩)∧w'.cell? ⟨X,4,none⟩=some (iT (f+nn))∧X<w'.heap.size) (((((w'.setCell ⟨R,0,none⟩ (.string x)).setCell ⟨R,1,none⟩ (iT u)).setCell ⟨R,2,none⟩ (iT 1)).setCell ⟨R,3,none⟩ (.string ⟨#[]⟩)).setCell ⟨R,4,none⟩ (iT (f+nn))))):=fun w' N=>by have h:=(((((D.o.below N).other y.o 0 (.string x)).other y.o 1 (iT u)).other y.o 2 (iT 1)).other y.o 3 (.string ⟨#[]⟩)).other y.o 4 (iT (f+nn));exact ⟨h.c0,h.c1,h.c2,h.c3,h.c4,h.lt⟩
           refine eJ B J fun C=>?_
           generalize Wf.drew=wd at J C ⊢;refine aP 0 3 C ?_;refine aQ 3 fun K hK=>?_
           go_simp;refine (l6 _ _).mono ?_;rintro e w9 ⟨rfl,h9⟩;have k1:Bl Wf w9:=by rw [h9];exact J
           clear h9;go_wp2_with fail
           refine hK.o _ _ (B.o _ k1) fun C=>?_
           (try go_frame);refine aQ 4 fun K hK=>?_
           have g:=I.o.below k1;have y0:=g.all;have z0:=g.fr 0;have z1:=g.fr 1;have z2:=g.fr 2;have z3:=g.fr 3;have z4:=g.fr 4;have zx:=g.lt;go_simp;clear y0 z0 z1 z2 z3 z4 zx;refine hK.o _ _ (T.o _ k1) fun C=>?_
           (try go_frame);refine aP 5 1 C ?_;refine dN ?_;have m:=g.setAll (.string x) (iT u) (iT 1) (.string ⟨#[]⟩) (iT (f+nn));have g0:=m.c0;have g1:=m.c1;have g2:=m.c2;have g3:=m.c3;have Z:=m.c4;have gx:=m.lt;have Y:=(((((E.o.trans (k1.mono E.o.size)).setCell (p:=⟨R,0,none⟩) A.o (.string x)).setCell (p:=⟨R,1,none⟩) A.o (iT u)).setCell (p:=⟨R,2,none⟩) A.o (iT 1)).setCell (p:=⟨R,3,none⟩) A.o (.string ⟨#[]⟩)).setCell (p:=⟨R,4,none⟩) A.o (iT (f+nn));obtain ⟨Wz,H⟩:=aG (((((w9.setCell ⟨R,0,none⟩ (.string x)).setCell ⟨R,1,none⟩ (iT u)).setCell ⟨R,2,none⟩ (iT 1)).setCell ⟨R,3,none⟩ (.string ⟨#[]⟩)).setCell ⟨R,4,none⟩ (iT (f+nn)));rw [← H] at g0 g1 g2 g3 Z gx Y ⊢;clear H m g C;go_wp2;refine bodyPost_ret (v:=.tuple #[.agg #[.string x,iT u,iT 1,.string ⟨#[]⟩,iT (f+nn)],.bool (dY (f+nn))]) (by simp [results,Tryz.results265,go_sem,g0,g1,g2,g3,Z]) rfl ⟨by rw [HE.o],Y⟩
       · have HE:Eq (bh false (f+nn) (L.drop (k+1))=bh true 0 L):=by show _=bh true 0 L;rw [← HJ.o,ab.o];simp [bh,aA,aL]
         go_wp2;go_roundw
         case rel=>exact ⟨k+1,f+nn,by omega,by go_num,(HX.o.set4 _).alloc _,(a0.o.other O _ _).alloc _,(HB.o.setCell (p:=⟨X,4,none⟩) Q.o _).alloc (by have:=HB.o.size;simpa [World.setCell] using this) _,by simpa using HE.o,by push_cast;omega,by push_cast;omega⟩
         case measure=>simp [intOf];omega
   · have aF:¬(k:Int)<(n:Int):=by omega
     have HE:Eq (bh true 0 L=(3,⟨#[]⟩,f)):=by
      show bh true 0 L=_
      rw [← HJ.o,Ht (by have:=HL.o.length;omega)];rfl
     have D:Eq (cq (wr) X (.string x) (iT u) (iT 3) (.string ⟨#[]⟩) (iT (f))):=HX.o;have I:Eq (cq (wr) R (.string ⟨#[]⟩) (iT 0) (iT 0) (.string ⟨#[]⟩) (iT 0)):=a0.o;have E:Eq (Bl w (wr)):=HB.o;go_upto_region 14 with fail
     generalize wr=Wf at D I E ⊢;clear x0 x1 x2 x3 x4 r0 r1 r2 r3 r4 ag ai ad a8 a9 a7 af aj lX lR;have J:Bl Wf Wf.drew:=(Below.refl _ Wf).drew;have B:Eq (∀w',Bl Wf w'→(w'.cell? ⟨X,0,none⟩=some (.string x)∧w'.cell? ⟨X,1,none⟩=some (iT u)∧w'.cell? ⟨X,2,none⟩=some (iT 3)∧w'.cell? ⟨X,3,none⟩=some (.string ⟨#[]⟩)∧w'.cell? ⟨X,4,none⟩=some (iT (f))∧X<w'.heap.size)):=fun w' N=>by have h:=D.o.below N;exact ⟨h.c0,h.c1,h.c2,h.c3,h.c4,h.lt⟩
     have T:Eq (∀w',Bl Wf w'→((fun w'=>w'.cell? ⟨X,0,none⟩=some (.string x)∧w'.cell? ⟨X,1,none⟩=some (iT u)∧w'.cell? ⟨X,2,none⟩=some (iT 3)∧w'.cell? ⟨X,3,none⟩=some (.string ⟨#[]⟩)∧w'.cell? ⟨X,4,none⟩=some (iT (f))∧X<w'.heap.size) (((((w'.setCell ⟨R,0,none⟩ (.string x)).setCell ⟨R,1,none⟩ (iT u)).setCell ⟨R,2,none⟩ (iT 3)).setCell ⟨R,3,none⟩ (.string ⟨#[]⟩)).setCell ⟨R,4,none⟩ (iT (f))))):=fun w' N=>by have h:=(((((D.o.below N).other y.o 0 (.string x)).other y.o 1 (iT u)).other y.o 2 (iT 3)).other y.o 3 (.string ⟨#[]⟩)).other y.o 4 (iT (f));exact ⟨h.c0,h.c1,h.c2,h.c3,h.c4,h.lt⟩
     refine eJ B J fun C=>?_
     generalize Wf.drew=wd at J C ⊢;refine aP 0 3 C ?_;refine aQ 3 fun K hK=>?_
     go_simp;refine (l6 _ _).mono ?_;rintro e w9 ⟨rfl,h9⟩;have k1:Bl Wf w9:=by rw [h9];exact J
     clear h9;go_wp2_with fail
     refine hK.o _ _ (B.o _ k1) fun C=>?_
     (try go_frame);refine aQ 4 fun K hK=>?_
     have g:=I.o.below k1;have y0:=g.all;have z0:=g.fr 0;have z1:=g.fr 1;have z2:=g.fr 2;have z3:=g.fr 3;have z4:=g.fr 4;have zx:=g.lt;go_simp;clear y0 z0 z1 z2 z3 z4 zx;refine hK.o _ _ (T.o _ k1) fun C=>?_
     (try go_frame);refine aP 5 1 C ?_;refine dN ?_;have m:=g.setAll (.string x) (iT u) (iT 3) (.string ⟨#[]⟩) (iT (f));have g0:=m.c0;have g1:=m.c1;have g2:=m.c2;have g3:=m.c3;have Z:=m.c4;have gx:=m.lt;have Y:=(((((E.o.trans (k1.mono E.o.size)).setCell (p:=⟨R,0,none⟩) A.o (.string x)).setCell (p:=⟨R,1,none⟩) A.o (iT u)).setCell (p:=⟨R,2,none⟩) A.o (iT 3)).setCell (p:=⟨R,3,none⟩) A.o (.string ⟨#[]⟩)).setCell (p:=⟨R,4,none⟩) A.o (iT (f));obtain ⟨Wz,H⟩:=aG (((((w9.setCell ⟨R,0,none⟩ (.string x)).setCell ⟨R,1,none⟩ (iT u)).setCell ⟨R,2,none⟩ (iT 3)).setCell ⟨R,3,none⟩ (.string ⟨#[]⟩)).setCell ⟨R,4,none⟩ (iT (f)));rw [← H] at g0 g1 g2 g3 Z gx Y ⊢;clear H m g C;go_wp2;refine bodyPost_ret (v:=.tuple #[.agg #[.string x,iT u,iT 3,.string ⟨#[]⟩,iT (f)],.bool (dY (f))]) (by simp [results,Tryz.results265,go_sem,g0,g1,g2,g3,Z]) rfl ⟨by rw [HE.o],Y⟩
end Go.Proofs.YtpobkmjicbobdaaGreat
namespace Go.Proofs.YtpobkmjicbobdaaGreat
open Go.RowKit
set_option maxRecDepth 100000
set_option maxHeartbeats 2000000
attribute [local go_sem] Gi
end Go.Proofs.YtpobkmjicbobdaaGreat
namespace Go.Proofs.YtpobkmjicbobdaaGreat
open Go.RowKit
set_option maxRecDepth 100000
set_option maxHeartbeats 2000000
attribute [local go_sem] Gi
def d4 (bare:Bool) (s0:ByteArray) (q0:Int) (L:List ae):List ae :=
 if dY (bh true 0 L).2.2=true then (if bare=true∧(bh true 0 L).1=2 then [] else [(s0,q0,(if bare=true∧(bh true 0 L).1=3 then 1 else (bh true 0 L).1),(bh true 0 L).2.1,(bh true 0 L).2.2)]) else L
theorem xw:∀(L:List ae) (f:Bool) (d:Int),1≤(bh f d L).1∧(bh f d L).1≤3:=by
 intro L;induction L with
 | nil=>intro f d;simp [bh]
 | cons e R g =>
  intro f d;unfold bh;split
  · simp
  · split
    · cases f <;> simp
    · exact g false _
theorem xv:∀(L:List ae) (f:Bool) (d:Int),(∀e ∈ L,e.2.2.2.1.size≤maxLen)→(bh f d L).2.1.size≤maxLen:=by
 intro L;induction L with
 | nil=>intro f d _;exact FB _
 | cons e R g =>
  intro f d h;unfold bh;split
  · exact h e (FV ..)
  · split
    · exact FB _
    · exact g false _ (fun x hx=>h x (FY _ hx))
theorem Fb {z:Int} (h1:-1000000≤z) (h2:z≤1000000):(Lit.int .i64 z).wf=true:=by
 simp only [Lit.wf,IntKind.min,IntKind.max,IntKind.signed,IntKind.bits,FJ,decide_eq_true_eq,if_true];omega
theorem nK (w:World) (base:Nat) (h:base≤w.heap.size):ag (w.alloc (.cells #[] 50)) base w.heap.size 0 0 []:=by
 have:=F6 (base:=base) (e:=50) (size:=5) w #[] 0 (by first | exact h | simp) (by first | exact h | simp) (by first | exact h | simp);exact ⟨by simpa [aC] using this,rfl,by simp⟩
theorem EB (w:World) (base:Nat) (h:base≤w.heap.size) (s t:ByteArray) (q d n:Int) (hw:dR (s,q,d,t,n)):ag (w.alloc (.cells #[.string s,iT q,iT d,.string t,iT n] 50)) base w.heap.size 1 1 [(s,q,d,t,n)]:=by
 have:=F6 (base:=base) (e:=50) (size:=5) w #[.string s,iT q,iT d,.string t,iT n] 1 h (by unfold maxLen;omega) rfl;exact ⟨by simpa [aC,aX] using this,rfl,by simpa using hw⟩
end Go.Proofs.YtpobkmjicbobdaaGreat
namespace Go.Proofs.YtpobkmjicbobdaaGreat
set_option maxRecDepth 100000
set_option maxHeartbeats 40000000
open Go.RowKit
variable {S:List Int} {k:Nat} {n o:Int}
def fQ (S:List Int) (o n:Int):Bool:=S.any (fun s=>decide (o≤s) && decide (s<n))
theorem lP {s:Int} (h:S[k]?=some s):fQ (S.take (k+1)) o n=(fQ (S.take k) o n || (decide (o≤s) && decide (s<n))):=by
 simp [fQ,FU,h,List.any_append]
theorem xU (h:fQ (S.take k) o n=true):fQ S o n=true:=by
 unfold fQ at *;rw [List.any_eq_true] at *;obtain ⟨x,hx,hp⟩:=h;exact ⟨x,F9 hx,hp⟩
theorem rJ (D:Nat) (a:Option Addr) (n c:Nat) (S:List Int) (o p:Int) (w:World) (h:b6 D w a n c S) :
 Calls Tryz.prog 246 #[.slice a n c,iT o,iT p] w fun e w'=>e=.returned (.bool (fQ S o p))∧Bl w w':=by
 have hr:=h.room;have x:=h.big;unfold maxLen at x;have H:=bT h;clear h;go_enter Tryz.func246,Tryz.ntmps246
 go_wp2;go_loopw [7] (fun i wr=>∃k:Nat,k≤n∧i=iT k∧fQ (S.take k) o p=false∧Bl w wr) (fun i _=>n - (intOf i).toNat)
 case atStart=>exact ⟨0,FB _,rfl,rfl,Below.refl _ _⟩
 case round =>
  obtain ⟨k,hk,rfl,g,hb⟩:=hrel;have f:Eq (fQ (S.take k) o p=false):=g;clear g;by_cases B:k<n
  · have u:(k:Int)<(n:Int):=by omega
    obtain ⟨b,E,rfl,A⟩:=H.o.form (by omega);obtain ⟨s,hs,hw,hc⟩:=H.o.num hb k B;have y:Eq (S[k]?=some s):=hs;have C:b<wr.heap.size:=u' A hb.size;clear hs hw;by_cases h1:o≤s
    · by_cases h2:s<p
      · go_wp2;go_ret;have r:fQ S o p=true:=xU (k:=k+1) (by rw [lP y.o];simp [h1,h2]);exact ⟨by rw [r];rfl,hb⟩
      · go_wp2;go_roundw
        case rel=>exact ⟨k+1,by omega,by go_num,by rw [lP y.o,f.o];simp [h2],hb⟩
        case measure=>simp [intOf];omega
    · go_wp2;go_roundw
      case rel=>exact ⟨k+1,by omega,by go_num,by rw [lP y.o,f.o];simp [h1],hb⟩
      case measure=>simp [intOf];omega
  · have u:¬(k:Int)<(n:Int):=by omega
    have d:S.take k=S:=FH (by have:=H.o.length;omega);have m:Eq (fQ S o p=false):=by have:=f.o;rw [d] at this;exact this
    clear d;go_wp2;go_ret;exact ⟨by rw [m.o];rfl,hb⟩
end Go.Proofs.YtpobkmjicbobdaaGreat
namespace Go.Proofs.YtpobkmjicbobdaaGreat
namespace Sq
variable {α κ:Type} [DecidableEq κ]
def putP (r:α→α→Bool) (x:α):List (List α)→List (List α)
 | (y :: c) :: cs=>if r x y then (x :: y :: c) :: cs else [x] :: (y :: c) :: cs
 | cs=>[x] :: cs
def parts (r:α→α→Bool) (L:List α):List (List α):=L.foldr (putP r) []
theorem parts_cons (r:α→α→Bool) (x:α) (L:List α):parts r (x :: L)=putP r x (parts r L):=rfl
theorem pE (r:α→α→Bool) (x:α) (L:List α):∃c cs,parts r (x :: L)=(x :: c) :: cs:=by
 rw [parts_cons];unfold putP;split
 · rename_i y c cs _
   by_cases h:r x y
   · exact ⟨y :: c,cs,by rw [if_pos h]⟩
   · exact ⟨[],(y :: c) :: cs,by rw [if_neg h]⟩
 · exact ⟨[],_,rfl⟩
theorem parts_flat (r:α→α→Bool):∀L:List α,(parts r L).flatten=L
 | []=>rfl
 | x :: L=>by
  rw [parts_cons]
  have d:=parts_flat r L
  unfold putP
  split
  · rename_i y c cs h
    rw [h] at d
    by_cases hr:r x y
    · rw [if_pos hr];simpa using d
    · rw [if_neg hr];simpa using d
  · simpa using d
variable (key:α→κ) (cl:Bool→List α→List α) (bottom:Bool)
def stepD (c:List α) (st:Bool × List α):Bool × List α:=(if (cl st.1 c).isEmpty then st.1 else false,cl st.1 c++st.2)
def leftD (Cs:List (List α)):List α:=(Cs.foldr (stepD cl) (bottom,[])).2
end Sq
namespace Sq
variable {α:Type}
theorem rV (r:α→α→Bool):∀A B:List α,(∀x y,A.getLast?=some x→B.head?=some y→r x y=false)→parts r (A++B)=parts r A++parts r B
 | [],B,_=>rfl
 | [x],B,h=>by
  match B with
  | []=>rfl
  | y :: R =>
   obtain ⟨c,cs,hp⟩:=pE r y R
   have hr:=h x y rfl rfl
   rw [List.singleton_append,parts_cons,hp]
   simp [putP,hr,parts]
 | x :: z :: A,B,h=>by
  have d:=rV r (z :: A) B (fun a b ha hb=>h a b (by rw [List.getLast?_cons_cons];exact ha) hb)
  obtain ⟨c,cs,hp⟩:=pE r z A
  rw [Gd,parts_cons,d,parts_cons r x,hp]
  by_cases e:r x z <;> simp [putP,e]
theorem og (r:α→α→Bool):∀A:List α,A≠[]→(∀(j:Nat) x y,A[j]?=some x→A[j+1]?=some y→r x y=true)→parts r A=[A]
 | [],h,_=>absurd rfl h
 | [x],_,_=>rfl
 | x :: z :: A,_,h=>by
  have d:=og r (z :: A) (by simp) (fun j a b ha hb=>h (j+1) a b (by simpa using ha) (by simpa using hb))
  have hr:=h 0 x z rfl rfl
  rw [parts_cons,d]
  simp [putP,hr]
theorem parts_front (r:α→α→Bool) (L:List α) (i k:Nat) (d:i<k) (hk:k≤L.length) (h1:∀j,i<j→j<k→∀x y,L[j - 1]?=some x→L[j]?=some y→r x y=true)
 (h2:∀x y,L[k - 1]?=some x→L[k]?=some y→r x y=false):parts r (L.drop i)=(L.drop i).take (k - i) :: parts r (L.drop k):=by
 have e:L.drop i=(L.drop i).take (k - i)++L.drop k:=by
  have:=(FX (k - i) (L.drop i)).symm;rw [GP,show i+(k - i)=k by omega] at this;exact this
 have hl:((L.drop i).take (k - i)).length=k - i:=by rw [FC,FN];omega
 conv=>lhs;rw [e]
 rw [rV,og]
 · rfl
 · intro e;rw [e] at hl;simp at hl;omega
 · intro j x y hx hy;have f:j+1<k - i:=by rw [← hl];exact (E'.1 hy).1
   rw [Ge (by omega),Gg] at hx hy;exact h1 (i+(j+1)) (by omega) (by omega) x y (by rw [show i+(j+1) - 1=i+j by omega];exact hx) hy
 · intro x y hx hy;rw [List.getLast?_eq_getElem?,hl,Ge (by omega),Gg,show i+(k - i - 1)=k - 1 by omega] at hx;rw [List.head?_drop] at hy;exact h2 x y hx hy
end Sq
end Go.Proofs.YtpobkmjicbobdaaGreat
namespace Go.Proofs.YtpobkmjicbobdaaGreat
def mF (b:Bool):List ae→List ae
 | []=>[]
 | e :: r=>d4 b e.1 e.2.1 (e :: r)
def gV (S:List Int) (x y:ae):Bool:=!fQ S y.2.1 x.2.1
def fp (x y:ae):Bool:=decide (x.1=y.1)
def eZ (S:List Int) (bottom:Bool) (G:List ae):List ae:=Sq.leftD mF bottom (Sq.parts (gV S) G)
def bU (L:List ae) (S:List Int) (bottom:Bool):List ae:=if aJ L=true then (Sq.parts fp L).flatMap (eZ S bottom) else []
theorem vp {c:List ae} {e:ae} (b:Bool) (h:c[0]?=some e):mF b c=d4 b e.1 e.2.1 c:=by
 match c,h with
 | x :: r,h=>simp at h;subst h;rfl
theorem yF (b:Bool):∀c:List ae,(mF b c).length≤c.length
 | []=>Fv _
 | e :: r=>by
  show (d4 b e.1 e.2.1 (e :: r)).length≤(e :: r).length
  unfold d4
  by_cases h1:dY (bh true 0 (e :: r)).2.2=true
  · rw [if_pos h1]
    by_cases h2:b=true∧(bh true 0 (e :: r)).1=2
    · rw [if_pos h2];simp
    · rw [if_neg h2];simp
  · rw [if_neg h1];exact Fv _
theorem pQ (bottom:Bool):∀P:List (List ae),((P.foldr (Sq.stepD mF) (bottom,[])).2).length≤P.flatten.length
 | []=>Fv _
 | c :: P=>by
  have e:=pQ bottom P
  have h:=yF (P.foldr (Sq.stepD mF) (bottom,[])).1 c
  rw [List.foldr_cons,GA,Fy]
  generalize P.foldr (Sq.stepD mF) (bottom,[])=d at e h ⊢
  show (mF d.1 c++d.2).length≤_
  rw [Fy]
  omega
theorem mY (S:List Int) (bottom:Bool) (G:List ae):(eZ S bottom G).length≤G.length:=by
 have:=pQ bottom (Sq.parts (gV S) G);rw [Sq.parts_flat] at this;exact this
theorem zL (bottom:Bool) (P:List (List ae)) (j:Nat) (c:List ae) (h:P[j]?=some c) :
 (P.drop j).foldr (Sq.stepD mF) (bottom,[])=Sq.stepD mF c ((P.drop (j+1)).foldr (Sq.stepD mF) (bottom,[])):=by
 obtain ⟨d,e⟩:=E'.1 h;rw [Gj d,e];rfl
theorem qn (S:List Int) (bottom:Bool):∀P:List (List ae),(P.flatMap (eZ S bottom)).length≤P.flatten.length
 | []=>Fv _
 | c :: P=>by
  have d:=qn S bottom P
  have h:=mY S bottom c
  rw [Hr,GA,Fy,Fy]
  omega
theorem jH (L:List ae) (S:List Int) (bottom:Bool):(bU L S bottom).length≤L.length:=by
 unfold bU;split
 · have:=qn S bottom (Sq.parts fp L);rwa [Sq.parts_flat] at this
 · simp
theorem iM (r:ae→ae→Bool) (L:List ae) (c:List ae) (h:c ∈ Sq.parts r L):c.length≤L.length∧∀e ∈ c,e ∈ L:=by
 have hf:=Sq.parts_flat r L;refine ⟨?_,fun e d=>by rw [← hf];exact GZ.2 ⟨c,h,d⟩⟩;obtain ⟨A,B,e⟩:=List.append_of_mem h;rw [← hf,e];simp;omega
theorem kF (r:ae→ae→Bool):∀(L:List ae) (c:List ae),c ∈ Sq.parts r L→c≠[]
 | [],c,h=>by simp [Sq.parts] at h
 | z :: L,c,h=>by
  have d:=kF r L
  rw [Sq.parts_cons] at h
  unfold Sq.putP at h
  split at h
  · rename_i y c' cs hp
    rw [hp] at d
    split at h
    · rcases FF.1 h with rfl | h
      · simp
      · exact d c (FY _ h)
    · rcases FF.1 h with rfl | h
      · simp
      · exact d c h
  · rcases FF.1 h with rfl | h
    · simp
    · exact d c h
theorem wG {L:List ae} (h:aJ L=true):∀e ∈ L,(-1000000≤e.2.2.2.2∧e.2.2.2.2≤1000000)∧(1≤e.2.2.1∧e.2.2.1≤3∧(e.2.2.1=2→e.2.2.2.1=⟨#[]⟩))∧e.1≠⟨#[]⟩:=by
 intro e m;obtain ⟨j,r⟩:=F' m;have hb:=d9 h r;unfold dm at hb;simp only [FJ,decide_eq_true_eq] at hb;obtain ⟨hk,h1,h2,h3,h4,h5,h6⟩:=hb;refine ⟨⟨h3,h4⟩,?_,?_⟩
 · by_cases f:e.2.2.1=1
   · exact ⟨by omega,by omega,fun h=>by omega⟩
   · by_cases d:e.2.2.1=2
     · rw [d] at h6;simp [fO] at h6;exact ⟨by omega,by omega,fun _=>h6.1⟩
     · by_cases g:e.2.2.1=3
       · exact ⟨by omega,by omega,fun h=>by omega⟩
       · rw [oX f d g] at h6;cases h6
 · intro e0;rw [e0] at hk;simp [fV,ByteArray.size] at hk
end Go.Proofs.YtpobkmjicbobdaaGreat
namespace Go.Proofs.YtpobkmjicbobdaaGreat
set_option maxRecDepth 100000
set_option maxHeartbeats 40000000
open Go.RowKit
variable {b:Bool} {n n':Int} {t t':ByteArray}
section
attribute [local go_sem] Gi
def eW (c:fe):Value:=.agg #[.bool c.1,.string c.2.1,iT c.2.2]
def fY (b:Bool) (t:ByteArray) (n:Int) (d:Int) (t':ByteArray) (n':Int):fe :=
 if d=1 then (true,t',n') else if d=2 then (false,⟨#[]⟩,0) else if d=3 then (true,t,wrap64 (n+n')) else (b,t,n)
theorem yI:fY b t n 1 t' n'=(true,t',n'):=by simp [fY]
theorem yH:fY b t n 2 t' n'=(false,⟨#[]⟩,0):=by simp [fY]
theorem yG:fY b t n 3 t' n'=(true,t,wrap64 (n+n')):=by simp [fY]
theorem yJ {d:Int} (h1:¬d=1) (h2:¬d=2) (h3:¬d=3):fY b t n d t' n'=(b,t,n):=by simp [fY,h1,h2,h3]
theorem xM (b:Bool) (t k t':ByteArray) (n q d n':Int) (w:World) :
 Calls Tryz.prog 311 #[.agg #[],.agg #[.bool b,.string t,iT n],.agg #[.string k,iT q,iT d,.string t',iT n']] w fun e w'=>e=.returned (eW (true,t',n'))∧Bl w w':=by
 go_enter Tryz.func311,Tryz.ntmps311
 go_wp2;refine bodyPost_ret (v:=.agg #[.bool true,.string t',iT n']) (by simp [results,Tryz.results311,go_sem]) rfl ⟨rfl,?_⟩;exact (((bZ.alloc (by simp) _).alloc (by simp;omega) _).alloc (by simp;omega) _)
theorem xN (b:Bool) (t k t':ByteArray) (n q d n':Int) (w:World) :
 Calls Tryz.prog 313 #[.agg #[],.agg #[.bool b,.string t,iT n],.agg #[.string k,iT q,iT d,.string t',iT n']] w fun e w'=>e=.returned (eW (false,⟨#[]⟩,0))∧Bl w w':=by
 go_enter Tryz.func313,Tryz.ntmps313
 go_wp2;refine bodyPost_ret (v:=.agg #[.bool false,.string ⟨#[]⟩,iT 0]) (by simp [results,Tryz.results313,go_sem]) rfl ⟨rfl,?_⟩;exact (((bZ.alloc (by simp) _).alloc (by simp;omega) _).alloc (by simp;omega) _)
theorem xO (b:Bool) (t k t':ByteArray) (n q d n':Int) (w:World) :
 Calls Tryz.prog 315 #[.agg #[],.agg #[.bool b,.string t,iT n],.agg #[.string k,iT q,iT d,.string t',iT n']] w fun e w'=>e=.returned (eW (true,t,wrap64 (n+n')))∧Bl w w':=by
 go_enter Tryz.func315,Tryz.ntmps315
 go_wp2;refine bodyPost_ret (v:=.agg #[.bool true,.string t,iT (wrap64 (n+n'))]) (by simp [results,Tryz.results315,go_sem]) rfl ⟨rfl,?_⟩;exact (((bZ.alloc (by simp) _).alloc (by simp;omega) _).alloc (by simp;omega) _)
theorem As (b:Bool) (t k t':ByteArray) (n q d n':Int) (w:World) :
 Calls Tryz.prog 317 #[.agg #[],.agg #[.bool b,.string t,iT n],.agg #[.string k,iT q,iT d,.string t',iT n']] w fun e w'=>e=.returned (eW (b,t,n))∧Bl w w':=by
 go_enter Tryz.func317,Tryz.ntmps317
 go_wp2;refine bodyPost_ret (v:=.agg #[.bool b,.string t,iT n]) (by simp [results,Tryz.results317,go_sem]) rfl ⟨rfl,?_⟩;exact (((bZ.alloc (by simp) _).alloc (by simp;omega) _).alloc (by simp;omega) _)
end
end Go.Proofs.YtpobkmjicbobdaaGreat
