/-
  The document's l3Sum and l4Join: one entry for a class of entries; by walks of their Go text.
-/
import Derived.Deep.DeepCutAuto
import Derived.Deep.AppendLies
import Derived.Test.YtlmgojlffgkciaaGreatTc00
import Derived.Test.YtlmgojlffgkciaaGreatTc11
import Derived.Test.YtlmgojlffgkciaaGreatTc02
import Derived.Test.YtlmgojlffgkciaaGreatTc06
namespace Go.Proofs.YtlmgojlffgkciaaGreat
open Go.RowKit
set_option maxRecDepth 100000
set_option maxHeartbeats 2000000
attribute [local go_sem] Oper.semAt_some
def aG:Bool→Int→List ac→Int × ByteArray × Int
 | _,acc,[]=>(3,⟨#[]⟩,acc)
 | first,acc,e :: R=>if e.2.2.1=1 then (1,e.2.2.2.1,acc+e.2.2.2.2) else if e.2.2.1=2 then ((if first then 2 else 1),⟨#[]⟩,acc+e.2.2.2.2) else aG false (acc+e.2.2.2.2) R
def cq (n:Int):Bool:=decide (-1000000≤n) && decide (n≤1000000)
theorem lm (n:Int) (w:World):Calls Tryz.prog 166 #[iT n] w fun e w'=>e=.returned (.bool (cq n))∧w'=w:=by
 by_cases h1:-1000000≤n
 · by_cases h2:n≤1000000
   · have e1:cq n=true:=by simp [cq,h1,h2]
     rw [e1];go_enter Tryz.func166,Tryz.ntmps166
     go_wp2;go_ret;exact ⟨rfl,rfl⟩
   · have e1:cq n=false:=by simp [cq,h2]
     rw [e1];go_enter Tryz.func166,Tryz.ntmps166
     go_wp2;go_ret;exact ⟨rfl,rfl⟩
 · have e1:cq n=false:=by simp [cq,h1]
   rw [e1];go_enter Tryz.func166,Tryz.ntmps166
   go_wp2;go_ret;exact ⟨rfl,rfl⟩
theorem yX (b off n c:Nat) (L:List ac) (s0:ByteArray) (q0:Int) (w:World) (hL:af w (some ⟨b,off,none⟩) n c L) (hn:1≤n) (hn2:n≤1048576) (h0:∃r,L[0]?=some (s0,q0,r)) (hN:∀e ∈ L,-1000000≤e.2.2.2.2∧e.2.2.2.2≤1000000) :
 Calls Tryz.prog 200 #[sO b off n c] w fun e w'=>e=.returned (.tuple #[.agg #[.string s0,iT q0,iT (aG true 0 L).1,.string (aG true 0 L).2.1,iT (aG true 0 L).2.2],.bool (cq (aG true 0 L).2.2)])∧Bl w w':=by
 have hr:=hL.room;have hbg:=hL.big;unfold maxLen at hbg;have HL:=bc hL;have HN:=bc hN;have hbb:=(hL.lies _ rfl (by omega)).1;simp only at hbb;obtain ⟨s,q,d,t,nn,hg,_,e0,e1,_⟩:=hL.ent (Below.refl _ w) hbb 0 (by omega);obtain ⟨r,hr0⟩:=h0;rw [hr0] at hg;cases hg;simp only [Nat.zero_mul,Nat.add_zero] at e0 e1;clear hL hN hr0;have hnI:(0:Int)<(n:Int):=by omega
 have hnN:0<n:=hn;obtain ⟨R,hR⟩:=ay w.heap.size;obtain ⟨W,hW⟩:=ay (w.alloc (.cells #[.string ⟨#[]⟩,iT 0,iT 0,.string ⟨#[]⟩,iT 0] 78));have kW:Bl w W:=by rw [hW];exact bZ
 have hRb:bT W R (.string ⟨#[]⟩) (iT 0) (iT 0) (.string ⟨#[]⟩) (iT 0):=by rw [hW,hR];exact bT.new _ _ _ _ _ _ _
 have HKW:Hid (Bl w W):=kW;have HRB:Hid (bT W R (.string ⟨#[]⟩) (iT 0) (iT 0) (.string ⟨#[]⟩) (iT 0)):=hRb;have HRW:Hid (w.heap.size≤R):=by show w.heap.size≤R;omega
 have e0:=cell_later kW e0;have e1:=cell_later kW e1;have hbW:b<W.heap.size:=Nat.lt_of_lt_of_le hbb kW.size;have k0:Bl W W.drew:=(Below.refl _ W).drew;have HMK:Hid (∀w',Bl W w'→(w'.cell? ⟨b,off,none⟩=some (.string s0)∧w'.cell? ⟨b,off+1,none⟩=some (iT q0)∧b<w'.heap.size)):=fun w' kk=>⟨cell_later kk e0,cell_later kk e1,Nat.lt_of_lt_of_le hbW kk.size⟩
 go_enter Tryz.func200,Tryz.ntmps200
 go_upto_region 1 with fail
 rw [← hW,← hR];clear hW hR kW hRb;go_cut [4] (fun s4 wx=>∃(X:Nat),s4=.pointer (pT X)∧bT wx X (.string s0) (iT q0) (iT 3) (.string ⟨#[]⟩) (iT 0)∧W.heap.size≤X∧Bl W wx)
 case first =>
  refine dM HMK k0 fun aa=>?_
  generalize W.drew=wd at k0 aa ⊢;refine aL 0 9 aa ?_;refine aS 9 fun K hK=>?_
  go_simp;have hbx:=bT.new wd 78 (.string ⟨#[]⟩) (iT 0) (iT 0) (.string ⟨#[]⟩) (iT 0);have ka:=k0.alloc k0.size (.cells #[.string ⟨#[]⟩,iT 0,iT 0,.string ⟨#[]⟩,iT 0] 78);have hXw:=k0.size;generalize wd.alloc (.cells #[.string ⟨#[]⟩,iT 0,iT 0,.string ⟨#[]⟩,iT 0] 78)=wA at hbx ka ⊢;generalize wd.heap.size=X at hbx hXw ⊢;refine hK.out _ _ (HMK.out _ ka) fun aa=>?_
  (try go_frame);refine aS 10 fun K hK=>?_
  have y0:=hbx.c0;have y1:=hbx.c1;have y2:=hbx.c2;have y3:=hbx.c3;have y4:=hbx.c4;have z0:=hbx.fr 0;have z1:=hbx.fr 1;have z2:=hbx.fr 2;have z3:=hbx.fr 3;have z4:=hbx.fr 4;have zx:=hbx.lt;go_simp;have kz:=(((((ka).setCell (p:=⟨X,0,none⟩) hXw (.string s0)).setCell (p:=⟨X,1,none⟩) hXw (iT q0)).setCell (p:=⟨X,2,none⟩) hXw (iT 3)).setCell (p:=⟨X,3,none⟩) hXw (.string ⟨#[]⟩)).setCell (p:=⟨X,4,none⟩) hXw (iT 0);have hby:=hbx.setAll (.string s0) (iT q0) (iT 3) (.string ⟨#[]⟩) (iT 0);clear y0 y1 y2 y3 y4 z0 z1 z2 z3 z4 zx;refine hK.out _ _ (HMK.out _ kz) fun aa=>?_
  (try go_frame);refine dN ?_;go_wp2;go_meet
  exact ⟨X,rfl,hby,hXw,kz⟩
 case rest =>
  obtain ⟨X,rfl,hX,hXW,hbx⟩:=hcut;clear k0 HMK e0 e1;have HK0:Hid (Bl w wc):=HKW.out.trans (hbx.mono HKW.out.size);have HR0:Hid (bT wc R (.string ⟨#[]⟩) (iT 0) (iT 0) (.string ⟨#[]⟩) (iT 0)):=HRB.out.below hbx;have HXR:Hid (X≠R):=by have:=HRB.out.lt;show X≠R;omega
  have HX0:Hid (bT wc X (.string s0) (iT q0) (iT 3) (.string ⟨#[]⟩) (iT 0)):=hX;have HXW:Hid (w.heap.size≤X):=by have:=HKW.out.size;show w.heap.size≤X;omega
  clear hX hbx hXW;go_wp2;go_loopw [5] (fun iv wr=>∃(k:Nat) (acc:Int),k≤n∧iv=iT k∧bT wr X (.string s0) (iT q0) (iT 3) (.string ⟨#[]⟩) (iT acc)∧bT wr R (.string ⟨#[]⟩) (iT 0) (iT 0) (.string ⟨#[]⟩) (iT 0)∧Bl w wr∧aG (decide (k=0)) acc (L.drop k)=aG true 0 L∧-(1000000*(k:Int))≤acc∧acc≤1000000*(k:Int)) (fun iv _=>n - (intOf iv).toNat)
  case atStart=>exact ⟨0,0,Nat.zero_le _,rfl,HX0.out,HR0.out,HK0.out,rfl,by omega,by omega⟩
  case round =>
   obtain ⟨k,acc,hk,rfl,hX,hRr,hb,hj,ha1,ha2⟩:=hrel;have HX:Hid (bT wr X (.string s0) (iT q0) (iT 3) (.string ⟨#[]⟩) (iT acc)):=hX;have HRr:Hid (bT wr R (.string ⟨#[]⟩) (iT 0) (iT 0) (.string ⟨#[]⟩) (iT 0)):=hRr;have HB:Hid (Bl w wr):=hb;have HJ:Hid (aG (decide (k=0)) acc (L.drop k)=aG true 0 L):=hj;obtain ⟨x0,x1,x2,x3,x4,xf⟩:=hX;obtain ⟨r0,r1,r2,r3,r4,rf⟩:=hRr;have xf2:=xf 2;have xf3:=xf 3;have xf4:=xf 4;have rf0:=rf 0;have rf1:=rf 1;have rf2:=rf 2;have rf3:=rf 3;have rf4:=rf 4;have lX:=World.block_lt_of_cell? _ _ x0;have lR:=World.block_lt_of_cell? _ _ r0;simp only at lX lR;have nXR:=HXR.out;have nRX:R≠X:=fun e=>nXR e.symm
   clear xf rf hj;by_cases hlt:k<n
   · have hltI:(k:Int)<(n:Int):=by omega
     obtain ⟨s,q,d,t,nn,hg,hw,e0,e1,e2,e3,e4⟩:=HL.out.ent hb hbb k hlt;have hbr:b<wr.heap.size:=Nat.lt_of_lt_of_le hbb hb.size;obtain ⟨m1,m2⟩:=HN.out _ (List.mem_of_getElem? hg);simp only at m1 m2;have hdr:L.drop k=(s,q,d,t,nn) :: L.drop (k+1):=by
      have hkl:=(List.getElem?_eq_some_iff.1 hg).1;rw [List.drop_eq_getElem_cons hkl,(List.getElem?_eq_some_iff.1 hg).2]
     have HDR:Hid (L.drop k=(s,q,d,t,nn) :: L.drop (k+1)):=hdr;have nbX:wr.heap.size≠X:=by omega
     have nXb:X≠wr.heap.size:=by omega
     have nRb:R≠wr.heap.size:=by omega
     clear hg hw hdr hb;have hsum1:-9223372036854775808≤acc+nn:=by omega
     have hsum2:acc+nn≤9223372036854775807:=by omega
     by_cases hd1:d=1
     · subst hd1;have HE:Hid (aG true 0 L=(1,t,acc+nn)):=by show aG true 0 L=_;rw [← HJ.out,HDR.out];simp [aG]
       have HXf:Hid (bT ((((wr.setCell ⟨X,4,none⟩ (iT (acc+nn))).setCell ⟨X,2,none⟩ (iT 1)).setCell ⟨X,3,none⟩ (.string t)).alloc (.cells #[.string s,iT q,iT 1,.string t,iT nn] 78)) X (.string s0) (iT q0) (iT 1) (.string t) (iT (acc+nn))):=(((HX.out.set4 _).set2 _).set3 _).alloc _;have HRf:Hid (bT ((((wr.setCell ⟨X,4,none⟩ (iT (acc+nn))).setCell ⟨X,2,none⟩ (iT 1)).setCell ⟨X,3,none⟩ (.string t)).alloc (.cells #[.string s,iT q,iT 1,.string t,iT nn] 78)) R (.string ⟨#[]⟩) (iT 0) (iT 0) (.string ⟨#[]⟩) (iT 0)):=(((HRr.out.other nRX _ _).other nRX _ _).other nRX _ _).alloc _;have HBf:Hid (Bl w ((((wr.setCell ⟨X,4,none⟩ (iT (acc+nn))).setCell ⟨X,2,none⟩ (iT 1)).setCell ⟨X,3,none⟩ (.string t)).alloc (.cells #[.string s,iT q,iT 1,.string t,iT nn] 78))):=(((HB.out.setCell (p:=⟨X,4,none⟩) HXW.out _).setCell (p:=⟨X,2,none⟩) HXW.out _).setCell (p:=⟨X,3,none⟩) HXW.out _).alloc (by have:=HB.out.size;simpa [World.setCell] using this) _;go_upto_region 14 with fail
       generalize (((wr.setCell ⟨X,4,none⟩ (iT (acc+nn))).setCell ⟨X,2,none⟩ (iT 1)).setCell ⟨X,3,none⟩ (.string t)).alloc (.cells #[.string s,iT q,iT 1,.string t,iT nn] 78)=Wf at HXf HRf HBf ⊢;clear x0 x1 x2 x3 x4 r0 r1 r2 r3 r4 xf2 xf3 xf4 rf0 rf1 rf2 rf3 rf4 lX lR;have k0:Bl Wf Wf.drew:=(Below.refl _ Wf).drew;have HMK:Hid (∀w',Bl Wf w'→(w'.cell? ⟨X,0,none⟩=some (.string s0)∧w'.cell? ⟨X,1,none⟩=some (iT q0)∧w'.cell? ⟨X,2,none⟩=some (iT 1)∧w'.cell? ⟨X,3,none⟩=some (.string t)∧w'.cell? ⟨X,4,none⟩=some (iT (acc+nn))∧X<w'.heap.size)):=fun w' kk=>by have h:=HXf.out.below kk;exact ⟨h.c0,h.c1,h.c2,h.c3,h.c4,h.lt⟩
       have HMS:Hid (∀w',Bl Wf w'→((fun w'=>w'.cell? ⟨X,0,none⟩=some (.string s0)∧w'.cell? ⟨X,1,none⟩=some (iT q0)∧w'.cell? ⟨X,2,none⟩=some (iT 1)∧w'.cell? ⟨X,3,none⟩=some (.string t)∧w'.cell? ⟨X,4,none⟩=some (iT (acc+nn))∧X<w'.heap.size) (((((w'.setCell ⟨R,0,none⟩ (.string s0)).setCell ⟨R,1,none⟩ (iT q0)).setCell ⟨R,2,none⟩ (iT 1)).setCell ⟨R,3,none⟩ (.string t)).setCell ⟨R,4,none⟩ (iT (acc+nn))))):=fun w' kk=>by have h:=(((((HXf.out.below kk).other HXR.out 0 (.string s0)).other HXR.out 1 (iT q0)).other HXR.out 2 (iT 1)).other HXR.out 3 (.string t)).other HXR.out 4 (iT (acc+nn));exact ⟨h.c0,h.c1,h.c2,h.c3,h.c4,h.lt⟩
       refine dM HMK k0 fun aa=>?_
       generalize Wf.drew=wd at k0 aa ⊢;refine aL 0 3 aa ?_;refine aS 3 fun K hK=>?_
       go_simp;refine (lm _ _).mono ?_;rintro e w9 ⟨rfl,h9⟩;have k1:Bl Wf w9:=by rw [h9];exact k0
       clear h9;go_wp2_with fail
       refine hK.out _ _ (HMK.out _ k1) fun aa=>?_
       (try go_frame);refine aS 4 fun K hK=>?_
       have hRk:=HRf.out.below k1;have y0:=hRk.c0;have y1:=hRk.c1;have y2:=hRk.c2;have y3:=hRk.c3;have y4:=hRk.c4;have z0:=hRk.fr 0;have z1:=hRk.fr 1;have z2:=hRk.fr 2;have z3:=hRk.fr 3;have z4:=hRk.fr 4;have zx:=hRk.lt;go_simp;clear y0 y1 y2 y3 y4 z0 z1 z2 z3 z4 zx;refine hK.out _ _ (HMS.out _ k1) fun aa=>?_
       (try go_frame);refine aL 5 1 aa ?_;refine dN ?_;have hRz:=hRk.setAll (.string s0) (iT q0) (iT 1) (.string t) (iT (acc+nn));have g0:=hRz.c0;have g1:=hRz.c1;have g2:=hRz.c2;have g3:=hRz.c3;have g4:=hRz.c4;have gx:=hRz.lt;have kz:=(((((HBf.out.trans (k1.mono HBf.out.size)).setCell (p:=⟨R,0,none⟩) HRW.out (.string s0)).setCell (p:=⟨R,1,none⟩) HRW.out (iT q0)).setCell (p:=⟨R,2,none⟩) HRW.out (iT 1)).setCell (p:=⟨R,3,none⟩) HRW.out (.string t)).setCell (p:=⟨R,4,none⟩) HRW.out (iT (acc+nn));obtain ⟨Wz,hWz⟩:=ay (((((w9.setCell ⟨R,0,none⟩ (.string s0)).setCell ⟨R,1,none⟩ (iT q0)).setCell ⟨R,2,none⟩ (iT 1)).setCell ⟨R,3,none⟩ (.string t)).setCell ⟨R,4,none⟩ (iT (acc+nn)));rw [← hWz] at g0 g1 g2 g3 g4 gx kz ⊢;clear hWz hRz hRk aa;go_wp2;refine bodyPost_ret (v:=.tuple #[.agg #[.string s0,iT q0,iT 1,.string t,iT (acc+nn)],.bool (cq (acc+nn))]) (by simp [results,Tryz.results200,go_sem,g0,g1,g2,g3,g4]) rfl ⟨by rw [HE.out],kz⟩
     · by_cases hd2:d=2
       · subst hd2;by_cases hk0:k=0
         · subst hk0;simp only [Nat.zero_mul,Nat.add_zero] at e0 e1 e2 e3 e4;have HE:Hid (aG true 0 L=(2,⟨#[]⟩,acc+nn)):=by show aG true 0 L=_;rw [← HJ.out,HDR.out];simp [aG]
           have HXf:Hid (bT ((((wr.setCell ⟨X,4,none⟩ (iT (acc+nn))).setCell ⟨X,2,none⟩ (iT 1)).setCell ⟨X,2,none⟩ (iT 2)).alloc (.cells #[.string s,iT q,iT 2,.string t,iT nn] 78)) X (.string s0) (iT q0) (iT 2) (.string ⟨#[]⟩) (iT (acc+nn))):=(((HX.out.set4 _).set2 _).set2 _).alloc _;have HRf:Hid (bT ((((wr.setCell ⟨X,4,none⟩ (iT (acc+nn))).setCell ⟨X,2,none⟩ (iT 1)).setCell ⟨X,2,none⟩ (iT 2)).alloc (.cells #[.string s,iT q,iT 2,.string t,iT nn] 78)) R (.string ⟨#[]⟩) (iT 0) (iT 0) (.string ⟨#[]⟩) (iT 0)):=(((HRr.out.other nRX _ _).other nRX _ _).other nRX _ _).alloc _;have HBf:Hid (Bl w ((((wr.setCell ⟨X,4,none⟩ (iT (acc+nn))).setCell ⟨X,2,none⟩ (iT 1)).setCell ⟨X,2,none⟩ (iT 2)).alloc (.cells #[.string s,iT q,iT 2,.string t,iT nn] 78))):=(((HB.out.setCell (p:=⟨X,4,none⟩) HXW.out _).setCell (p:=⟨X,2,none⟩) HXW.out _).setCell (p:=⟨X,2,none⟩) HXW.out _).alloc (by have:=HB.out.size;simpa [World.setCell] using this) _;go_upto_region 14 with fail
           generalize (((wr.setCell ⟨X,4,none⟩ (iT (acc+nn))).setCell ⟨X,2,none⟩ (iT 1)).setCell ⟨X,2,none⟩ (iT 2)).alloc (.cells #[.string s,iT q,iT 2,.string t,iT nn] 78)=Wf at HXf HRf HBf ⊢;clear x0 x1 x2 x3 x4 r0 r1 r2 r3 r4 xf2 xf3 xf4 rf0 rf1 rf2 rf3 rf4 lX lR;have k0:Bl Wf Wf.drew:=(Below.refl _ Wf).drew;have HMK:Hid (∀w',Bl Wf w'→(w'.cell? ⟨X,0,none⟩=some (.string s0)∧w'.cell? ⟨X,1,none⟩=some (iT q0)∧w'.cell? ⟨X,2,none⟩=some (iT 2)∧w'.cell? ⟨X,3,none⟩=some (.string ⟨#[]⟩)∧w'.cell? ⟨X,4,none⟩=some (iT (acc+nn))∧X<w'.heap.size)):=fun w' kk=>by have h:=HXf.out.below kk;exact ⟨h.c0,h.c1,h.c2,h.c3,h.c4,h.lt⟩
           have HMS:Hid (∀w',Bl Wf w'→((fun w'=>w'.cell? ⟨X,0,none⟩=some (.string s0)∧w'.cell? ⟨X,1,none⟩=some (iT q0)∧w'.cell? ⟨X,2,none⟩=some (iT 2)∧w'.cell? ⟨X,3,none⟩=some (.string ⟨#[]⟩)∧w'.cell? ⟨X,4,none⟩=some (iT (acc+nn))∧X<w'.heap.size) (((((w'.setCell ⟨R,0,none⟩ (.string s0)).setCell ⟨R,1,none⟩ (iT q0)).setCell ⟨R,2,none⟩ (iT 2)).setCell ⟨R,3,none⟩ (.string ⟨#[]⟩)).setCell ⟨R,4,none⟩ (iT (acc+nn))))):=fun w' kk=>by have h:=(((((HXf.out.below kk).other HXR.out 0 (.string s0)).other HXR.out 1 (iT q0)).other HXR.out 2 (iT 2)).other HXR.out 3 (.string ⟨#[]⟩)).other HXR.out 4 (iT (acc+nn));exact ⟨h.c0,h.c1,h.c2,h.c3,h.c4,h.lt⟩
           refine dM HMK k0 fun aa=>?_
           generalize Wf.drew=wd at k0 aa ⊢;refine aL 0 3 aa ?_;refine aS 3 fun K hK=>?_
           go_simp;refine (lm _ _).mono ?_;rintro e w9 ⟨rfl,h9⟩;have k1:Bl Wf w9:=by rw [h9];exact k0
           clear h9;go_wp2_with fail
           refine hK.out _ _ (HMK.out _ k1) fun aa=>?_
           (try go_frame);refine aS 4 fun K hK=>?_
           have hRk:=HRf.out.below k1;have y0:=hRk.c0;have y1:=hRk.c1;have y2:=hRk.c2;have y3:=hRk.c3;have y4:=hRk.c4;have z0:=hRk.fr 0;have z1:=hRk.fr 1;have z2:=hRk.fr 2;have z3:=hRk.fr 3;have z4:=hRk.fr 4;have zx:=hRk.lt;go_simp;clear y0 y1 y2 y3 y4 z0 z1 z2 z3 z4 zx;refine hK.out _ _ (HMS.out _ k1) fun aa=>?_
           (try go_frame);refine aL 5 1 aa ?_;refine dN ?_;have hRz:=hRk.setAll (.string s0) (iT q0) (iT 2) (.string ⟨#[]⟩) (iT (acc+nn));have g0:=hRz.c0;have g1:=hRz.c1;have g2:=hRz.c2;have g3:=hRz.c3;have g4:=hRz.c4;have gx:=hRz.lt;have kz:=(((((HBf.out.trans (k1.mono HBf.out.size)).setCell (p:=⟨R,0,none⟩) HRW.out (.string s0)).setCell (p:=⟨R,1,none⟩) HRW.out (iT q0)).setCell (p:=⟨R,2,none⟩) HRW.out (iT 2)).setCell (p:=⟨R,3,none⟩) HRW.out (.string ⟨#[]⟩)).setCell (p:=⟨R,4,none⟩) HRW.out (iT (acc+nn));obtain ⟨Wz,hWz⟩:=ay (((((w9.setCell ⟨R,0,none⟩ (.string s0)).setCell ⟨R,1,none⟩ (iT q0)).setCell ⟨R,2,none⟩ (iT 2)).setCell ⟨R,3,none⟩ (.string ⟨#[]⟩)).setCell ⟨R,4,none⟩ (iT (acc+nn)));rw [← hWz] at g0 g1 g2 g3 g4 gx kz ⊢;clear hWz hRz hRk aa;go_wp2;refine bodyPost_ret (v:=.tuple #[.agg #[.string s0,iT q0,iT 2,.string ⟨#[]⟩,iT (acc+nn)],.bool (cq (acc+nn))]) (by simp [results,Tryz.results200,go_sem,g0,g1,g2,g3,g4]) rfl ⟨by rw [HE.out],kz⟩
         · have hk0I:¬(k:Int)=0:=by omega
           have HE:Hid (aG true 0 L=(1,⟨#[]⟩,acc+nn)):=by show aG true 0 L=_;rw [← HJ.out,HDR.out];simp [aG,hk0]
           have HXf:Hid (bT (((wr.setCell ⟨X,4,none⟩ (iT (acc+nn))).setCell ⟨X,2,none⟩ (iT 1)).alloc (.cells #[.string s,iT q,iT 2,.string t,iT nn] 78)) X (.string s0) (iT q0) (iT 1) (.string ⟨#[]⟩) (iT (acc+nn))):=((HX.out.set4 _).set2 _).alloc _;have HRf:Hid (bT (((wr.setCell ⟨X,4,none⟩ (iT (acc+nn))).setCell ⟨X,2,none⟩ (iT 1)).alloc (.cells #[.string s,iT q,iT 2,.string t,iT nn] 78)) R (.string ⟨#[]⟩) (iT 0) (iT 0) (.string ⟨#[]⟩) (iT 0)):=((HRr.out.other nRX _ _).other nRX _ _).alloc _;have HBf:Hid (Bl w (((wr.setCell ⟨X,4,none⟩ (iT (acc+nn))).setCell ⟨X,2,none⟩ (iT 1)).alloc (.cells #[.string s,iT q,iT 2,.string t,iT nn] 78))):=((HB.out.setCell (p:=⟨X,4,none⟩) HXW.out _).setCell (p:=⟨X,2,none⟩) HXW.out _).alloc (by have:=HB.out.size;simpa [World.setCell] using this) _;go_upto_region 14 with fail
           generalize ((wr.setCell ⟨X,4,none⟩ (iT (acc+nn))).setCell ⟨X,2,none⟩ (iT 1)).alloc (.cells #[.string s,iT q,iT 2,.string t,iT nn] 78)=Wf at HXf HRf HBf ⊢;clear x0 x1 x2 x3 x4 r0 r1 r2 r3 r4 xf2 xf3 xf4 rf0 rf1 rf2 rf3 rf4 lX lR;have k0:Bl Wf Wf.drew:=(Below.refl _ Wf).drew;have HMK:Hid (∀w',Bl Wf w'→(w'.cell? ⟨X,0,none⟩=some (.string s0)∧w'.cell? ⟨X,1,none⟩=some (iT q0)∧w'.cell? ⟨X,2,none⟩=some (iT 1)∧w'.cell? ⟨X,3,none⟩=some (.string ⟨#[]⟩)∧w'.cell? ⟨X,4,none⟩=some (iT (acc+nn))∧X<w'.heap.size)):=fun w' kk=>by have h:=HXf.out.below kk;exact ⟨h.c0,h.c1,h.c2,h.c3,h.c4,h.lt⟩
           have HMS:Hid (∀w',Bl Wf w'→((fun w'=>w'.cell? ⟨X,0,none⟩=some (.string s0)∧w'.cell? ⟨X,1,none⟩=some (iT q0)∧w'.cell? ⟨X,2,none⟩=some (iT 1)∧w'.cell? ⟨X,3,none⟩=some (.string ⟨#[]⟩)∧w'.cell? ⟨X,4,none⟩=some (iT (acc+nn))∧X<w'.heap.size) (((((w'.setCell ⟨R,0,none⟩ (.string s0)).setCell ⟨R,1,none⟩ (iT q0)).setCell ⟨R,2,none⟩ (iT 1)).setCell ⟨R,3,none⟩ (.string ⟨#[]⟩)).setCell ⟨R,4,none⟩ (iT (acc+nn))))):=fun w' kk=>by have h:=(((((HXf.out.below kk).other HXR.out 0 (.string s0)).other HXR.out 1 (iT q0)).other HXR.out 2 (iT 1)).other HXR.out 3 (.string ⟨#[]⟩)).other HXR.out 4 (iT (acc+nn));exact ⟨h.c0,h.c1,h.c2,h.c3,h.c4,h.lt⟩
           refine dM HMK k0 fun aa=>?_
           generalize Wf.drew=wd at k0 aa ⊢;refine aL 0 3 aa ?_;refine aS 3 fun K hK=>?_
           go_simp;refine (lm _ _).mono ?_;rintro e w9 ⟨rfl,h9⟩;have k1:Bl Wf w9:=by rw [h9];exact k0
           clear h9;go_wp2_with fail
           refine hK.out _ _ (HMK.out _ k1) fun aa=>?_
           (try go_frame);refine aS 4 fun K hK=>?_
           have hRk:=HRf.out.below k1;have y0:=hRk.c0;have y1:=hRk.c1;have y2:=hRk.c2;have y3:=hRk.c3;have y4:=hRk.c4;have z0:=hRk.fr 0;have z1:=hRk.fr 1;have z2:=hRk.fr 2;have z3:=hRk.fr 3;have z4:=hRk.fr 4;have zx:=hRk.lt;go_simp;clear y0 y1 y2 y3 y4 z0 z1 z2 z3 z4 zx;refine hK.out _ _ (HMS.out _ k1) fun aa=>?_
           (try go_frame);refine aL 5 1 aa ?_;refine dN ?_;have hRz:=hRk.setAll (.string s0) (iT q0) (iT 1) (.string ⟨#[]⟩) (iT (acc+nn));have g0:=hRz.c0;have g1:=hRz.c1;have g2:=hRz.c2;have g3:=hRz.c3;have g4:=hRz.c4;have gx:=hRz.lt;have kz:=(((((HBf.out.trans (k1.mono HBf.out.size)).setCell (p:=⟨R,0,none⟩) HRW.out (.string s0)).setCell (p:=⟨R,1,none⟩) HRW.out (iT q0)).setCell (p:=⟨R,2,none⟩) HRW.out (iT 1)).setCell (p:=⟨R,3,none⟩) HRW.out (.string ⟨#[]⟩)).setCell (p:=⟨R,4,none⟩) HRW.out (iT (acc+nn));obtain ⟨Wz,hWz⟩:=ay (((((w9.setCell ⟨R,0,none⟩ (.string s0)).setCell ⟨R,1,none⟩ (iT q0)).setCell ⟨R,2,none⟩ (iT 1)).setCell ⟨R,3,none⟩ (.string ⟨#[]⟩)).setCell ⟨R,4,none⟩ (iT (acc+nn)));rw [← hWz] at g0 g1 g2 g3 g4 gx kz ⊢;clear hWz hRz hRk aa;go_wp2;refine bodyPost_ret (v:=.tuple #[.agg #[.string s0,iT q0,iT 1,.string ⟨#[]⟩,iT (acc+nn)],.bool (cq (acc+nn))]) (by simp [results,Tryz.results200,go_sem,g0,g1,g2,g3,g4]) rfl ⟨by rw [HE.out],kz⟩
       · have HE:Hid (aG false (acc+nn) (L.drop (k+1))=aG true 0 L):=by show _=aG true 0 L;rw [← HJ.out,HDR.out];simp [aG,hd1,hd2]
         go_wp2;go_roundw
         case rel=>exact ⟨k+1,acc+nn,by omega,by go_num,(HX.out.set4 _).alloc _,(HRr.out.other nRX _ _).alloc _,(HB.out.setCell (p:=⟨X,4,none⟩) HXW.out _).alloc (by have:=HB.out.size;simpa [World.setCell] using this) _,by simpa using HE.out,by push_cast;omega,by push_cast;omega⟩
         case measure=>simp [intOf];omega
   · have hltI:¬(k:Int)<(n:Int):=by omega
     have HE:Hid (aG true 0 L=(3,⟨#[]⟩,acc)):=by
      show aG true 0 L=_
      rw [← HJ.out,List.drop_eq_nil_of_le (by have:=HL.out.length;omega)];rfl
     have HXf:Hid (bT (wr) X (.string s0) (iT q0) (iT 3) (.string ⟨#[]⟩) (iT (acc))):=HX.out;have HRf:Hid (bT (wr) R (.string ⟨#[]⟩) (iT 0) (iT 0) (.string ⟨#[]⟩) (iT 0)):=HRr.out;have HBf:Hid (Bl w (wr)):=HB.out;go_upto_region 14 with fail
     generalize wr=Wf at HXf HRf HBf ⊢;clear x0 x1 x2 x3 x4 r0 r1 r2 r3 r4 xf2 xf3 xf4 rf0 rf1 rf2 rf3 rf4 lX lR;have k0:Bl Wf Wf.drew:=(Below.refl _ Wf).drew;have HMK:Hid (∀w',Bl Wf w'→(w'.cell? ⟨X,0,none⟩=some (.string s0)∧w'.cell? ⟨X,1,none⟩=some (iT q0)∧w'.cell? ⟨X,2,none⟩=some (iT 3)∧w'.cell? ⟨X,3,none⟩=some (.string ⟨#[]⟩)∧w'.cell? ⟨X,4,none⟩=some (iT (acc))∧X<w'.heap.size)):=fun w' kk=>by have h:=HXf.out.below kk;exact ⟨h.c0,h.c1,h.c2,h.c3,h.c4,h.lt⟩
     have HMS:Hid (∀w',Bl Wf w'→((fun w'=>w'.cell? ⟨X,0,none⟩=some (.string s0)∧w'.cell? ⟨X,1,none⟩=some (iT q0)∧w'.cell? ⟨X,2,none⟩=some (iT 3)∧w'.cell? ⟨X,3,none⟩=some (.string ⟨#[]⟩)∧w'.cell? ⟨X,4,none⟩=some (iT (acc))∧X<w'.heap.size) (((((w'.setCell ⟨R,0,none⟩ (.string s0)).setCell ⟨R,1,none⟩ (iT q0)).setCell ⟨R,2,none⟩ (iT 3)).setCell ⟨R,3,none⟩ (.string ⟨#[]⟩)).setCell ⟨R,4,none⟩ (iT (acc))))):=fun w' kk=>by have h:=(((((HXf.out.below kk).other HXR.out 0 (.string s0)).other HXR.out 1 (iT q0)).other HXR.out 2 (iT 3)).other HXR.out 3 (.string ⟨#[]⟩)).other HXR.out 4 (iT (acc));exact ⟨h.c0,h.c1,h.c2,h.c3,h.c4,h.lt⟩
     refine dM HMK k0 fun aa=>?_
     generalize Wf.drew=wd at k0 aa ⊢;refine aL 0 3 aa ?_;refine aS 3 fun K hK=>?_
     go_simp;refine (lm _ _).mono ?_;rintro e w9 ⟨rfl,h9⟩;have k1:Bl Wf w9:=by rw [h9];exact k0
     clear h9;go_wp2_with fail
     refine hK.out _ _ (HMK.out _ k1) fun aa=>?_
     (try go_frame);refine aS 4 fun K hK=>?_
     have hRk:=HRf.out.below k1;have y0:=hRk.c0;have y1:=hRk.c1;have y2:=hRk.c2;have y3:=hRk.c3;have y4:=hRk.c4;have z0:=hRk.fr 0;have z1:=hRk.fr 1;have z2:=hRk.fr 2;have z3:=hRk.fr 3;have z4:=hRk.fr 4;have zx:=hRk.lt;go_simp;clear y0 y1 y2 y3 y4 z0 z1 z2 z3 z4 zx;refine hK.out _ _ (HMS.out _ k1) fun aa=>?_
     (try go_frame);refine aL 5 1 aa ?_;refine dN ?_;have hRz:=hRk.setAll (.string s0) (iT q0) (iT 3) (.string ⟨#[]⟩) (iT (acc));have g0:=hRz.c0;have g1:=hRz.c1;have g2:=hRz.c2;have g3:=hRz.c3;have g4:=hRz.c4;have gx:=hRz.lt;have kz:=(((((HBf.out.trans (k1.mono HBf.out.size)).setCell (p:=⟨R,0,none⟩) HRW.out (.string s0)).setCell (p:=⟨R,1,none⟩) HRW.out (iT q0)).setCell (p:=⟨R,2,none⟩) HRW.out (iT 3)).setCell (p:=⟨R,3,none⟩) HRW.out (.string ⟨#[]⟩)).setCell (p:=⟨R,4,none⟩) HRW.out (iT (acc));obtain ⟨Wz,hWz⟩:=ay (((((w9.setCell ⟨R,0,none⟩ (.string s0)).setCell ⟨R,1,none⟩ (iT q0)).setCell ⟨R,2,none⟩ (iT 3)).setCell ⟨R,3,none⟩ (.string ⟨#[]⟩)).setCell ⟨R,4,none⟩ (iT (acc)));rw [← hWz] at g0 g1 g2 g3 g4 gx kz ⊢;clear hWz hRz hRk aa;go_wp2;refine bodyPost_ret (v:=.tuple #[.agg #[.string s0,iT q0,iT 3,.string ⟨#[]⟩,iT (acc)],.bool (cq (acc))]) (by simp [results,Tryz.results200,go_sem,g0,g1,g2,g3,g4]) rfl ⟨by rw [HE.out],kz⟩
end Go.Proofs.YtlmgojlffgkciaaGreat
namespace Go.Proofs.YtlmgojlffgkciaaGreat
open Go.RowKit
set_option maxRecDepth 100000
set_option maxHeartbeats 2000000
attribute [local go_sem] Oper.semAt_some
theorem zN (b off n c:Nat) (L:List ac) (s0:ByteArray) (q0:Int) (w:World) (hL:af w (some ⟨b,off,none⟩) n c L) (hn:1≤n) (hn2:n≤1048576) (h0:∃r,L[0]?=some (s0,q0,r)) (hN:∀e ∈ L,-1000000≤e.2.2.2.2∧e.2.2.2.2≤1000000) (hK:∀e ∈ L,1≤e.2.2.1∧e.2.2.1≤3∧(e.2.2.1=2→e.2.2.2.1=⟨#[]⟩)) :
 Calls Tryz.prog 189 #[sO b off n c] w fun e w'=>e=.returned (.agg #[.string s0,iT q0,iT (aG true 0 L).1,.string (aG true 0 L).2.1,iT (aG true 0 L).2.2])∧Bl w w':=by
 have hr:=hL.room;have hbg:=hL.big;unfold maxLen at hbg;have HL:=bc hL;have HN:=bc hN;have hbb:=(hL.lies _ rfl (by omega)).1;simp only at hbb;obtain ⟨s,q,d,t,nn,hg,_,e0,e1,_⟩:=hL.ent (Below.refl _ w) hbb 0 (by omega);obtain ⟨r,hr0⟩:=h0;rw [hr0] at hg;cases hg;simp only [Nat.zero_mul,Nat.add_zero] at e0 e1;have HKD:=bc hK;clear hL hN hr0 hK;have hnI:(0:Int)<(n:Int):=by omega
 have hnN:0<n:=hn;obtain ⟨R,hR⟩:=ay w.heap.size;obtain ⟨W,hW⟩:=ay (w.alloc (.cells #[.string ⟨#[]⟩,iT 0,iT 0,.string ⟨#[]⟩,iT 0] 78));have kW:Bl w W:=by rw [hW];exact bZ
 have hRb:bT W R (.string ⟨#[]⟩) (iT 0) (iT 0) (.string ⟨#[]⟩) (iT 0):=by rw [hW,hR];exact bT.new _ _ _ _ _ _ _
 have HKW:Hid (Bl w W):=kW;have HRB:Hid (bT W R (.string ⟨#[]⟩) (iT 0) (iT 0) (.string ⟨#[]⟩) (iT 0)):=hRb;have HRW:Hid (w.heap.size≤R):=by show w.heap.size≤R;omega
 have e0:=cell_later kW e0;have e1:=cell_later kW e1;have hbW:b<W.heap.size:=Nat.lt_of_lt_of_le hbb kW.size;have k0:Bl W W.drew:=(Below.refl _ W).drew;have HMK:Hid (∀w',Bl W w'→(w'.cell? ⟨b,off,none⟩=some (.string s0)∧w'.cell? ⟨b,off+1,none⟩=some (iT q0)∧b<w'.heap.size)):=fun w' kk=>⟨cell_later kk e0,cell_later kk e1,Nat.lt_of_lt_of_le hbW kk.size⟩
 go_enter Tryz.func189,Tryz.ntmps189
 go_upto_region 1 with fail
 rw [← hW,← hR];clear hW hR kW hRb;go_cut [3] (fun s3 wx=>∃(X:Nat),s3=.pointer (pT X)∧bT wx X (.string s0) (iT q0) (iT 3) (.string ⟨#[]⟩) (iT 0)∧W.heap.size≤X∧Bl W wx)
 case first =>
  refine dM HMK k0 fun aa=>?_
  generalize W.drew=wd at k0 aa ⊢;refine aL 0 9 aa ?_;refine aS 9 fun K hK=>?_
  go_simp;have hbx:=bT.new wd 78 (.string ⟨#[]⟩) (iT 0) (iT 0) (.string ⟨#[]⟩) (iT 0);have ka:=k0.alloc k0.size (.cells #[.string ⟨#[]⟩,iT 0,iT 0,.string ⟨#[]⟩,iT 0] 78);have hXw:=k0.size;generalize wd.alloc (.cells #[.string ⟨#[]⟩,iT 0,iT 0,.string ⟨#[]⟩,iT 0] 78)=wA at hbx ka ⊢;generalize wd.heap.size=X at hbx hXw ⊢;refine hK.out _ _ (HMK.out _ ka) fun aa=>?_
  (try go_frame);refine aS 10 fun K hK=>?_
  have y0:=hbx.c0;have y1:=hbx.c1;have y2:=hbx.c2;have y3:=hbx.c3;have y4:=hbx.c4;have z0:=hbx.fr 0;have z1:=hbx.fr 1;have z2:=hbx.fr 2;have z3:=hbx.fr 3;have z4:=hbx.fr 4;have zx:=hbx.lt;go_simp;have kz:=(((((ka).setCell (p:=⟨X,0,none⟩) hXw (.string s0)).setCell (p:=⟨X,1,none⟩) hXw (iT q0)).setCell (p:=⟨X,2,none⟩) hXw (iT 3)).setCell (p:=⟨X,3,none⟩) hXw (.string ⟨#[]⟩)).setCell (p:=⟨X,4,none⟩) hXw (iT 0);have hby:=hbx.setAll (.string s0) (iT q0) (iT 3) (.string ⟨#[]⟩) (iT 0);clear y0 y1 y2 y3 y4 z0 z1 z2 z3 z4 zx;refine hK.out _ _ (HMK.out _ kz) fun aa=>?_
  (try go_frame);refine dN ?_;go_wp2;go_meet
  exact ⟨X,rfl,hby,hXw,kz⟩
 case rest =>
  obtain ⟨X,rfl,hX,hXW,hbx⟩:=hcut;clear k0 HMK e0 e1;have HK0:Hid (Bl w wc):=HKW.out.trans (hbx.mono HKW.out.size);have HR0:Hid (bT wc R (.string ⟨#[]⟩) (iT 0) (iT 0) (.string ⟨#[]⟩) (iT 0)):=HRB.out.below hbx;have HXR:Hid (X≠R):=by have:=HRB.out.lt;show X≠R;omega
  have HX0:Hid (bT wc X (.string s0) (iT q0) (iT 3) (.string ⟨#[]⟩) (iT 0)):=hX;have HXW:Hid (w.heap.size≤X):=by have:=HKW.out.size;show w.heap.size≤X;omega
  clear hX hbx hXW;go_wp2;go_loopw [17] (fun iv wr=>∃(k:Nat) (acc:Int),k≤n∧iv=iT k∧bT wr X (.string s0) (iT q0) (iT 3) (.string ⟨#[]⟩) (iT acc)∧bT wr R (.string ⟨#[]⟩) (iT 0) (iT 0) (.string ⟨#[]⟩) (iT 0)∧Bl w wr∧aG (decide (k=0)) acc (L.drop k)=aG true 0 L∧-(1000000*(k:Int))≤acc∧acc≤1000000*(k:Int)) (fun iv _=>n - (intOf iv).toNat)
  case atStart=>exact ⟨0,0,Nat.zero_le _,rfl,HX0.out,HR0.out,HK0.out,rfl,by omega,by omega⟩
  case round =>
   obtain ⟨k,acc,hk,rfl,hX,hRr,hb,hj,ha1,ha2⟩:=hrel;have HX:Hid (bT wr X (.string s0) (iT q0) (iT 3) (.string ⟨#[]⟩) (iT acc)):=hX;have HRr:Hid (bT wr R (.string ⟨#[]⟩) (iT 0) (iT 0) (.string ⟨#[]⟩) (iT 0)):=hRr;have HB:Hid (Bl w wr):=hb;have HJ:Hid (aG (decide (k=0)) acc (L.drop k)=aG true 0 L):=hj;obtain ⟨x0,x1,x2,x3,x4,xf⟩:=hX;obtain ⟨r0,r1,r2,r3,r4,rf⟩:=hRr;have xf2:=xf 2;have xf3:=xf 3;have xf4:=xf 4;have rf0:=rf 0;have rf1:=rf 1;have rf2:=rf 2;have rf3:=rf 3;have rf4:=rf 4;have lX:=World.block_lt_of_cell? _ _ x0;have lR:=World.block_lt_of_cell? _ _ r0;simp only at lX lR;have nXR:=HXR.out;have nRX:R≠X:=fun e=>nXR e.symm
   clear xf rf hj;by_cases hlt:k<n
   · have hltI:(k:Int)<(n:Int):=by omega
     obtain ⟨s,q,d,t,nn,hg,hw,e0,e1,e2,e3,e4⟩:=HL.out.ent hb hbb k hlt;have hbr:b<wr.heap.size:=Nat.lt_of_lt_of_le hbb hb.size;obtain ⟨m1,m2⟩:=HN.out _ (List.mem_of_getElem? hg);simp only at m1 m2;have hdr:L.drop k=(s,q,d,t,nn) :: L.drop (k+1):=by
      have hkl:=(List.getElem?_eq_some_iff.1 hg).1;rw [List.drop_eq_getElem_cons hkl,(List.getElem?_eq_some_iff.1 hg).2]
     have HDR:Hid (L.drop k=(s,q,d,t,nn) :: L.drop (k+1)):=hdr;have nbX:wr.heap.size≠X:=by omega
     have nXb:X≠wr.heap.size:=by omega
     have nRb:R≠wr.heap.size:=by omega
     obtain ⟨kd1,kd2,kd3⟩:=HKD.out _ (List.mem_of_getElem? hg);simp only at kd1 kd2 kd3;have HD:Hid (1≤d∧d≤3):=⟨kd1,kd2⟩;have HT2:Hid (d=2→t=⟨#[]⟩):=kd3;clear hg hw hdr hb kd3;have hsum1:-9223372036854775808≤acc+nn:=by omega
     have hsum2:acc+nn≤9223372036854775807:=by omega
     by_cases hd3:d=3
     · subst hd3;have HE:Hid (aG false (acc+nn) (L.drop (k+1))=aG true 0 L):=by show _=aG true 0 L;rw [← HJ.out,HDR.out];simp [aG]
       go_wp2;go_roundw
       case rel=>exact ⟨k+1,acc+nn,by omega,by go_num,(HX.out.set4 _).alloc _,(HRr.out.other nRX _ _).alloc _,(HB.out.setCell (p:=⟨X,4,none⟩) HXW.out _).alloc (by have:=HB.out.size;simpa [World.setCell] using this) _,by simpa using HE.out,by push_cast;omega,by push_cast;omega⟩
       case measure=>simp [intOf];omega
     · have HXf:Hid (bT ((wr.setCell ⟨X,4,none⟩ (iT (acc+nn))).alloc (.cells #[.string s,iT q,iT d,.string t,iT nn] 78)) X (.string s0) (iT q0) (iT 3) (.string ⟨#[]⟩) (iT (acc+nn))):=(HX.out.set4 _).alloc _;have HRf:Hid (bT ((wr.setCell ⟨X,4,none⟩ (iT (acc+nn))).alloc (.cells #[.string s,iT q,iT d,.string t,iT nn] 78)) R (.string ⟨#[]⟩) (iT 0) (iT 0) (.string ⟨#[]⟩) (iT 0)):=(HRr.out.other nRX _ _).alloc _;have HBf:Hid (Bl w ((wr.setCell ⟨X,4,none⟩ (iT (acc+nn))).alloc (.cells #[.string s,iT q,iT d,.string t,iT nn] 78))):=(HB.out.setCell (p:=⟨X,4,none⟩) HXW.out _).alloc (by have:=HB.out.size;simpa [World.setCell] using this) _;have HYf:Hid (bT ((wr.setCell ⟨X,4,none⟩ (iT (acc+nn))).alloc (.cells #[.string s,iT q,iT d,.string t,iT nn] 78)) wr.heap.size (.string s) (iT q) (iT d) (.string t) (iT nn)):=by
        have:=bT.new (wr.setCell ⟨X,4,none⟩ (iT (acc+nn))) 78 (.string s) (iT q) (iT d) (.string t) (iT nn);simpa [Hid,World.setCell] using this
       go_upto_region 7 with fail
       obtain ⟨Y,hY⟩:=ay wr.heap.size;rw [← hY] at HYf nbX nXb nRb ⊢;generalize (wr.setCell ⟨X,4,none⟩ (iT (acc+nn))).alloc (.cells #[.string s,iT q,iT d,.string t,iT nn] 78)=Wf at HXf HRf HBf HYf ⊢;clear x0 x1 x2 x3 x4 r0 r1 r2 r3 r4 xf2 xf3 xf4 rf0 rf1 rf2 rf3 rf4 lX lR e0 e1 e2 e3 e4 hbr hY;have nYX:Y≠X:=nbX;have k0:Bl Wf Wf.drew:=(Below.refl _ Wf).drew;have HM7:Hid (∀w',Bl Wf w'→(w'.cell? ⟨Y,3,none⟩=some (.string t)∧Y<w'.heap.size∧X<w'.heap.size)):=fun w' kk=>⟨(HYf.out.below kk).c3,(HYf.out.below kk).lt,(HXf.out.below kk).lt⟩
       refine dM HM7 k0 fun aa=>?_
       generalize Wf.drew=wd at k0 aa ⊢;refine aL 0 3 aa ?_;refine aS 3 fun K hK=>?_
       have bx1:=HXf.out.below k0;have by1:=HYf.out.below k0;have br1:=HRf.out.below k0;have bb1:=HBf.out.trans (k0.mono HBf.out.size);have y2:=bx1.c2;have y3:=bx1.c3;have z2:=bx1.fr 2;have z3:=bx1.fr 3;have zx:=bx1.lt;go_simp;clear y2 y3 z2 z3 zx;have mY:(fun w'=>w'.cell? ⟨Y,3,none⟩=some (.string t)∧Y<w'.heap.size∧X<w'.heap.size) ((wd).setCell ⟨X,2,none⟩ (iT 1)):=⟨(by1.other nYX 2 (iT 1)).c3,(by1.other nYX 2 (iT 1)).lt,(bx1.set2 (iT 1)).lt⟩;refine hK.out _ _ (mY) fun aa=>?_
       (try go_frame);refine aL 4 1 aa ?_;refine aS 5 fun K hK=>?_
       have bx2:=bx1.set2 (iT 1);have by2:=by1.other nYX 2 (iT 1);have br2:=br1.other nRX 2 (iT 1);have bb2:=bb1.setCell (p:=⟨X,2,none⟩) HXW.out (iT 1);have y2:=bx2.c2;have y3:=bx2.c3;have z2:=bx2.fr 2;have z3:=bx2.fr 3;have zx:=bx2.lt;go_simp;clear y2 y3 z2 z3 zx;have ok2:(fun w'=>w'.cell? ⟨Y,3,none⟩=some (.string t)∧Y<w'.heap.size∧X<w'.heap.size) (((wd).setCell ⟨X,2,none⟩ (iT 1)).setCell ⟨X,3,none⟩ (.string t)):=⟨(by2.other nYX 3 (.string t)).c3,(by2.other nYX 3 (.string t)).lt,(bx2.set3 (.string t)).lt⟩;refine hK.out _ _ (ok2) fun aa=>?_
       (try go_frame);refine dN ?_;have hXg:=bx2.set3 (.string t);have hYg:=by2.other nYX 3 (.string t);have hRg:=br2.other nRX 3 (.string t);have hBg:=bb2.setCell (p:=⟨X,3,none⟩) HXW.out (.string t);obtain ⟨Wg,hWg⟩:=ay (((wd).setCell ⟨X,2,none⟩ (iT 1)).setCell ⟨X,3,none⟩ (.string t));rw [← hWg] at hXg hYg hRg hBg ⊢;clear hWg aa bx1 by1 br1 bb1 mY bx2 by2 br2 bb2 ok2;have HXg:Hid (bT Wg X (.string s0) (iT q0) (iT 1) (.string t) (iT (acc+nn))):=hXg;have HRg:Hid (bT Wg R (.string ⟨#[]⟩) (iT 0) (iT 0) (.string ⟨#[]⟩) (iT 0)):=hRg;have HBg:Hid (Bl w Wg):=hBg;have yk:=hYg.c2;have lY:=hYg.lt;clear hXg hYg hRg hBg;by_cases hd2:d=2
       · subst hd2;have ht:=HT2.out rfl;subst ht;by_cases hk0:k=0
         · subst hk0;have HE:Hid (aG true 0 L=(2,⟨#[]⟩,acc+nn)):=by show aG true 0 L=_;rw [← HJ.out,HDR.out];simp [aG]
           obtain ⟨x0,x1,x2,x3,x4,xf⟩:=HXg.out;obtain ⟨r0,r1,r2,r3,r4,rf⟩:=HRg.out;have xf2:=xf 2;have rf0:=rf 0;have rf1:=rf 1;have rf2:=rf 2;have rf3:=rf 3;have rf4:=rf 4;have lX:=HXg.out.lt;have lR:=HRg.out.lt;clear xf rf;go_wp2;have hRz:=(HRg.out.other nRX 2 (iT 2)).setAll (.string s0) (iT q0) (iT 2) (.string ⟨#[]⟩) (iT (acc+nn));have g0:=hRz.c0;have g1:=hRz.c1;have g2:=hRz.c2;have g3:=hRz.c3;have g4:=hRz.c4;have kz:Bl w ((((((Wg.setCell ⟨X,2,none⟩ (iT 2)).setCell ⟨R,0,none⟩ (.string s0)).setCell ⟨R,1,none⟩ (iT q0)).setCell ⟨R,2,none⟩ (iT 2)).setCell ⟨R,3,none⟩ (.string ⟨#[]⟩)).setCell ⟨R,4,none⟩ (iT (acc+nn))):=((((((HBg.out.setCell (p:=⟨X,2,none⟩) HXW.out _)).setCell (p:=⟨R,0,none⟩) HRW.out _).setCell (p:=⟨R,1,none⟩) HRW.out _).setCell (p:=⟨R,2,none⟩) HRW.out _).setCell (p:=⟨R,3,none⟩) HRW.out _).setCell (p:=⟨R,4,none⟩) HRW.out _;obtain ⟨Wz,hWz⟩:=ay ((((((Wg.setCell ⟨X,2,none⟩ (iT 2)).setCell ⟨R,0,none⟩ (.string s0)).setCell ⟨R,1,none⟩ (iT q0)).setCell ⟨R,2,none⟩ (iT 2)).setCell ⟨R,3,none⟩ (.string ⟨#[]⟩)).setCell ⟨R,4,none⟩ (iT (acc+nn)));rw [← hWz] at g0 g1 g2 g3 g4 kz ⊢;clear hWz hRz;refine bodyPost_ret (v:=.agg #[.string s0,iT q0,iT 2,.string ⟨#[]⟩,iT (acc+nn)]) (by simp [results,Tryz.results189,go_sem,g0,g1,g2,g3,g4]) rfl ⟨by rw [HE.out],kz⟩
         · have hk0I:¬(k:Int)=0:=by omega
           have HE:Hid (aG true 0 L=(1,⟨#[]⟩,acc+nn)):=by show aG true 0 L=_;rw [← HJ.out,HDR.out];simp [aG,hk0]
           obtain ⟨x0,x1,x2,x3,x4,xf⟩:=HXg.out;obtain ⟨r0,r1,r2,r3,r4,rf⟩:=HRg.out;have xf2:=xf 2;have rf0:=rf 0;have rf1:=rf 1;have rf2:=rf 2;have rf3:=rf 3;have rf4:=rf 4;have lX:=HXg.out.lt;have lR:=HRg.out.lt;clear xf rf;go_wp2;have hRz:=HRg.out.setAll (.string s0) (iT q0) (iT 1) (.string ⟨#[]⟩) (iT (acc+nn));have g0:=hRz.c0;have g1:=hRz.c1;have g2:=hRz.c2;have g3:=hRz.c3;have g4:=hRz.c4;have kz:Bl w (((((Wg.setCell ⟨R,0,none⟩ (.string s0)).setCell ⟨R,1,none⟩ (iT q0)).setCell ⟨R,2,none⟩ (iT 1)).setCell ⟨R,3,none⟩ (.string ⟨#[]⟩)).setCell ⟨R,4,none⟩ (iT (acc+nn))):=(((((HBg.out).setCell (p:=⟨R,0,none⟩) HRW.out _).setCell (p:=⟨R,1,none⟩) HRW.out _).setCell (p:=⟨R,2,none⟩) HRW.out _).setCell (p:=⟨R,3,none⟩) HRW.out _).setCell (p:=⟨R,4,none⟩) HRW.out _;obtain ⟨Wz,hWz⟩:=ay (((((Wg.setCell ⟨R,0,none⟩ (.string s0)).setCell ⟨R,1,none⟩ (iT q0)).setCell ⟨R,2,none⟩ (iT 1)).setCell ⟨R,3,none⟩ (.string ⟨#[]⟩)).setCell ⟨R,4,none⟩ (iT (acc+nn)));rw [← hWz] at g0 g1 g2 g3 g4 kz ⊢;clear hWz hRz;refine bodyPost_ret (v:=.agg #[.string s0,iT q0,iT 1,.string ⟨#[]⟩,iT (acc+nn)]) (by simp [results,Tryz.results189,go_sem,g0,g1,g2,g3,g4]) rfl ⟨by rw [HE.out],kz⟩
       · have hd1:d=1:=by have:=HD.out;omega
         subst hd1;have HE:Hid (aG true 0 L=(1,t,acc+nn)):=by show aG true 0 L=_;rw [← HJ.out,HDR.out];simp [aG]
         obtain ⟨x0,x1,x2,x3,x4,xf⟩:=HXg.out;obtain ⟨r0,r1,r2,r3,r4,rf⟩:=HRg.out;have xf2:=xf 2;have rf0:=rf 0;have rf1:=rf 1;have rf2:=rf 2;have rf3:=rf 3;have rf4:=rf 4;have lX:=HXg.out.lt;have lR:=HRg.out.lt;clear xf rf;go_wp2;have hRz:=HRg.out.setAll (.string s0) (iT q0) (iT 1) (.string t) (iT (acc+nn));have g0:=hRz.c0;have g1:=hRz.c1;have g2:=hRz.c2;have g3:=hRz.c3;have g4:=hRz.c4;have kz:Bl w (((((Wg.setCell ⟨R,0,none⟩ (.string s0)).setCell ⟨R,1,none⟩ (iT q0)).setCell ⟨R,2,none⟩ (iT 1)).setCell ⟨R,3,none⟩ (.string t)).setCell ⟨R,4,none⟩ (iT (acc+nn))):=(((((HBg.out).setCell (p:=⟨R,0,none⟩) HRW.out _).setCell (p:=⟨R,1,none⟩) HRW.out _).setCell (p:=⟨R,2,none⟩) HRW.out _).setCell (p:=⟨R,3,none⟩) HRW.out _).setCell (p:=⟨R,4,none⟩) HRW.out _;obtain ⟨Wz,hWz⟩:=ay (((((Wg.setCell ⟨R,0,none⟩ (.string s0)).setCell ⟨R,1,none⟩ (iT q0)).setCell ⟨R,2,none⟩ (iT 1)).setCell ⟨R,3,none⟩ (.string t)).setCell ⟨R,4,none⟩ (iT (acc+nn)));rw [← hWz] at g0 g1 g2 g3 g4 kz ⊢;clear hWz hRz;refine bodyPost_ret (v:=.agg #[.string s0,iT q0,iT 1,.string t,iT (acc+nn)]) (by simp [results,Tryz.results189,go_sem,g0,g1,g2,g3,g4]) rfl ⟨by rw [HE.out],kz⟩
   · have hltI:¬(k:Int)<(n:Int):=by omega
     have HE:Hid (aG true 0 L=(3,⟨#[]⟩,acc)):=by
      show aG true 0 L=_
      rw [← HJ.out,List.drop_eq_nil_of_le (by have:=HL.out.length;omega)];rfl
     go_wp2;have hRz:=HRr.out.setAll (.string s0) (iT q0) (iT 3) (.string ⟨#[]⟩) (iT acc);have g0:=hRz.c0;have g1:=hRz.c1;have g2:=hRz.c2;have g3:=hRz.c3;have g4:=hRz.c4;have kz:Bl w (((((wr.setCell ⟨R,0,none⟩ (.string s0)).setCell ⟨R,1,none⟩ (iT q0)).setCell ⟨R,2,none⟩ (iT 3)).setCell ⟨R,3,none⟩ (.string ⟨#[]⟩)).setCell ⟨R,4,none⟩ (iT acc)):=(((((HB.out).setCell (p:=⟨R,0,none⟩) HRW.out _).setCell (p:=⟨R,1,none⟩) HRW.out _).setCell (p:=⟨R,2,none⟩) HRW.out _).setCell (p:=⟨R,3,none⟩) HRW.out _).setCell (p:=⟨R,4,none⟩) HRW.out _;obtain ⟨Wz,hWz⟩:=ay (((((wr.setCell ⟨R,0,none⟩ (.string s0)).setCell ⟨R,1,none⟩ (iT q0)).setCell ⟨R,2,none⟩ (iT 3)).setCell ⟨R,3,none⟩ (.string ⟨#[]⟩)).setCell ⟨R,4,none⟩ (iT acc));rw [← hWz] at g0 g1 g2 g3 g4 kz ⊢;clear hWz hRz;refine bodyPost_ret (v:=.agg #[.string s0,iT q0,iT 3,.string ⟨#[]⟩,iT acc]) (by simp [results,Tryz.results189,go_sem,g0,g1,g2,g3,g4]) rfl ⟨by rw [HE.out],kz⟩
end Go.Proofs.YtlmgojlffgkciaaGreat
namespace Go.Proofs.YtlmgojlffgkciaaGreat
open Go.RowKit
set_option maxRecDepth 100000
set_option maxHeartbeats 2000000
attribute [local go_sem] Oper.semAt_some
def cu (bare:Bool) (s0:ByteArray) (q0:Int) (L:List ac):List ac :=
 if cq (aG true 0 L).2.2=true then (if bare=true∧(aG true 0 L).1=2 then [] else [(s0,q0,(if bare=true∧(aG true 0 L).1=3 then 1 else (aG true 0 L).1),(aG true 0 L).2.1,(aG true 0 L).2.2)]) else L
theorem oT:∀(L:List ac) (f:Bool) (acc:Int),1≤(aG f acc L).1∧(aG f acc L).1≤3:=by
 intro L;induction L with
 | nil=>intro f acc;simp [aG]
 | cons e R ih =>
  intro f acc;unfold aG;split
  · simp
  · split
    · cases f <;> simp
    · exact ih false _
theorem oS:∀(L:List ac) (f:Bool) (acc:Int),(∀e ∈ L,e.2.2.2.1.size≤maxLen)→(aG f acc L).2.1.size≤maxLen:=by
 intro L;induction L with
 | nil=>intro f acc _;exact Nat.zero_le _
 | cons e R ih =>
  intro f acc h;unfold aG;split
  · exact h e (List.mem_cons_self ..)
  · split
    · exact Nat.zero_le _
    · exact ih false _ (fun x hx=>h x (List.mem_cons_of_mem _ hx))
theorem BO {z:Int} (h1:-1000000≤z) (h2:z≤1000000):(Lit.int .i64 z).wf=true:=by
 simp only [Lit.wf,IntKind.min,IntKind.max,IntKind.signed,IntKind.bits,Bool.and_eq_true,decide_eq_true_eq,if_true];omega
theorem mz (w:World) (base:Nat) (h:base≤w.heap.size):aE (w.alloc (.cells #[] 78)) base w.heap.size 0 0 []:=by
 have:=World.ownsRow_lit (base:=base) (e:=78) (size:=5) w #[] 0 (by first | exact h | simp) (by first | exact h | simp) (by first | exact h | simp);exact ⟨by simpa [aI] using this,rfl,by simp⟩
theorem Am (w:World) (base:Nat) (h:base≤w.heap.size) (s t:ByteArray) (q d n:Int) (hw:eO (s,q,d,t,n)):aE (w.alloc (.cells #[.string s,iT q,iT d,.string t,iT n] 78)) base w.heap.size 1 1 [(s,q,d,t,n)]:=by
 have:=World.ownsRow_lit (base:=base) (e:=78) (size:=5) w #[.string s,iT q,iT d,.string t,iT n] 1 h (by unfold maxLen;omega) rfl;exact ⟨by simpa [aI,aW] using this,rfl,by simpa using hw⟩
theorem rK (w:World) (o:Obj) (s t:ByteArray) (q d n:Int) (hw:eO (s,q,d,t,n)):af ((w.alloc o).alloc (.cells #[.string s,iT q,iT d,.string t,iT n] 78)) (some ⟨w.heap.size+1,0,none⟩) 1 1 [(s,q,d,t,n)]:=by
 have:=(Am (w.alloc o) 0 (Nat.zero_le _) s t q d n hw).entsAt;simpa using this
def B9 (b:Nat) (w w':World) (e:Ending) (L:List ac):Prop:=∃(a:Option Addr) (n c:Nat),e=.returned (.slice a n c)∧af w' a n c L∧Bl w w'∧∀x,a=some x→x.block=b∨w.heap.size≤x.block
theorem Bh (w:World):af w none 0 0 []:=⟨rfl,Nat.le_refl _,Nat.zero_le _,by simp,fun _=>rfl,(fun x e=>by cases e),(fun x e=>by cases e)⟩
theorem xW (b off n c:Nat) (L:List ac) (s0:ByteArray) (q0:Int) (bare:Bool) (w:World) (hL:af w (some ⟨b,off,none⟩) n c L) (hn:1≤n) (hn2:n≤1048576) (h0:∃r,L[0]?=some (s0,q0,r)) (hN:∀e ∈ L,-1000000≤e.2.2.2.2∧e.2.2.2.2≤1000000) (hK:∀e ∈ L,1≤e.2.2.1∧e.2.2.1≤3∧(e.2.2.1=2→e.2.2.2.1=⟨#[]⟩)) :
 Calls Tryz.prog 148 #[sO b off n c,.bool bare] w fun e w'=>B9 b w w' e (cu bare s0 q0 L):=by
 have HL:=bc hL;obtain ⟨r,hr0⟩:=h0;have hw0:=hL.ents _ (List.mem_of_getElem? hr0);have HTX:Hid ((aG true 0 L).2.1.size≤maxLen):=oS L true 0 (fun e he=>(hL.ents e he).2.2.2.1);have HKD:Hid (1≤(aG true 0 L).1∧(aG true 0 L).1≤3):=oT L true 0;have HW0:Hid (s0.size≤maxLen∧(Lit.int .i64 q0).wf=true):=⟨hw0.1,hw0.2.1⟩;have CJ:=zN b off n c L s0 q0 w hL hn hn2 ⟨r,hr0⟩ hN hK;have HC:Hid (∀d t a,aG true 0 L=(d,t,a)→cu bare s0 q0 L=if cq a=true then (if bare=true∧d=2 then [] else [(s0,q0,(if bare=true∧d=3 then 1 else d),t,a)]) else L):=fun d t a h=>by unfold cu;rw [h]
 obtain ⟨d,t,a,hj⟩:∃d t a,aG true 0 L=(d,t,a):=⟨_,_,_,rfl⟩;have HCL:=HC.out d t a hj;rw [hj] at HTX HKD CJ;have HJ:Hid (cu bare s0 q0 L=if cq a=true then (if bare=true∧d=2 then [] else [(s0,q0,(if bare=true∧d=3 then 1 else d),t,a)]) else L):=HCL;clear HCL hj HC hw0 hr0 hL hN hK;simp only at HTX HKD CJ;go_enter Tryz.func148,Tryz.ntmps148
 go_wp2_with fail
 refine CJ.mono ?_;rintro e w1 ⟨rfl,hb1⟩;have HB1:Hid (Bl w w1):=hb1;clear hb1 CJ;by_cases h1:a≤1000000
 · by_cases h2:-1000000≤a
   · have hs:cq a=true:=by simp [cq,h1,h2]
     have h1':¬a > 1000000:=by omega
     have h2':¬a < -1000000:=by omega
     have HWa:Hid ((Lit.int .i64 a).wf=true):=BO h2 h1;have HWd:Hid ((Lit.int .i64 d).wf=true):=BO (by have:=HKD.out;omega) (by have:=HKD.out;omega);cases bare with
     | true =>
      by_cases hd2:d=2
      · subst hd2;go_wp2;go_ret;exact ⟨none,0,0,rfl,by rw [HJ.out];simp [hs];exact Bh _,HB1.out.alloc HB1.out.size _,fun x e=>by cases e⟩
      · by_cases hd3:d=3
        · subst hd3;have hcl:cu true s0 q0 L=[(s0,q0,1,t,a)]:=by rw [HJ.out];simp [hs]
          go_wp2;go_ret;exact ⟨some ⟨w1.heap.size+1,0,none⟩,1,1,rfl,by rw [hcl];exact rK _ _ _ _ _ _ _ ⟨HW0.out.1,HW0.out.2,BO (z:=1) (by omega) (by omega),HTX.out,HWa.out⟩,(HB1.out.alloc HB1.out.size _).alloc (by have:=HB1.out.size;simp;omega) _,fun x e=>by cases e;exact .inr (by have:=HB1.out.size;show w.heap.size≤w1.heap.size+1;omega)⟩
        · have hcl:cu true s0 q0 L=[(s0,q0,d,t,a)]:=by rw [HJ.out];simp [hs,hd2,hd3]
          go_wp2;go_ret;exact ⟨some ⟨w1.heap.size+1,0,none⟩,1,1,rfl,by rw [hcl];exact rK _ _ _ _ _ _ _ ⟨HW0.out.1,HW0.out.2,HWd.out,HTX.out,HWa.out⟩,(HB1.out.alloc HB1.out.size _).alloc (by have:=HB1.out.size;simp;omega) _,fun x e=>by cases e;exact .inr (by have:=HB1.out.size;show w.heap.size≤w1.heap.size+1;omega)⟩
     | false =>
      have hcl:cu false s0 q0 L=[(s0,q0,d,t,a)]:=by rw [HJ.out];simp [hs]
      go_wp2;go_ret;exact ⟨some ⟨w1.heap.size+1,0,none⟩,1,1,rfl,by rw [hcl];exact rK _ _ _ _ _ _ _ ⟨HW0.out.1,HW0.out.2,HWd.out,HTX.out,HWa.out⟩,(HB1.out.alloc HB1.out.size _).alloc (by have:=HB1.out.size;simp;omega) _,fun x e=>by cases e;exact .inr (by have:=HB1.out.size;show w.heap.size≤w1.heap.size+1;omega)⟩
   · have hs:cq a=false:=by simp [cq,h2]
     have h1':¬1000000<a:=by omega
     have h2':a < -1000000:=by omega
     have hcl:cu bare s0 q0 L=L:=by rw [HJ.out];simp [hs]
     go_wp2;go_ret;exact ⟨_,_,_,rfl,by rw [hcl];exact HL.out.keep (HB1.out.alloc HB1.out.size _),HB1.out.alloc HB1.out.size _,fun x e=>by cases e;exact .inl rfl⟩
 · have hs:cq a=false:=by simp [cq,h1]
   have h1':1000000<a:=by omega
   have hcl:cu bare s0 q0 L=L:=by rw [HJ.out];simp [hs]
   go_wp2;go_ret;exact ⟨_,_,_,rfl,by rw [hcl];exact HL.out.keep (HB1.out.alloc HB1.out.size _),HB1.out.alloc HB1.out.size _,fun x e=>by cases e;exact .inl rfl⟩
end Go.Proofs.YtlmgojlffgkciaaGreat
