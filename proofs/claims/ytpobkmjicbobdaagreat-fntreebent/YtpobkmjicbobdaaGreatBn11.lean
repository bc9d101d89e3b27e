/- Walks. -/
import Derived.Deep.AppendLies
import Derived.Test.YtpobkmjicbobdaaGreatBn10
namespace Go.Proofs.YtpobkmjicbobdaaGreat
open Go.RowKit
set_option maxRecDepth 100000
set_option maxHeartbeats 2000000
attribute [local go_sem] Oper.semAt_some
def aY:Bool→Int→List ac→Int × ByteArray × Int
 | _,acc,[]=>(3,⟨#[]⟩,acc)
 | first,acc,e :: R=>if e.2.2.1=1 then (1,e.2.2.2.1,acc+e.2.2.2.2) else if e.2.2.1=2 then ((if first then 2 else 1),⟨#[]⟩,acc+e.2.2.2.2) else aY false (acc+e.2.2.2.2) R
def dO (n:Int):Bool:=decide (-1000000≤n) && decide (n≤1000000)
theorem kL (n:Int) (w:World):Calls Tryz.prog 200 #[iT n] w fun e w'=>e=.returned (.bool (dO n))∧w'=w:=by
 by_cases h1:-1000000≤n
 · by_cases h2:n≤1000000
   · have e1:dO n=true:=by simp [dO,h1,h2]
     rw [e1];go_enter Tryz.func200,Tryz.ntmps200
     go_wp2;go_ret;exact ⟨rfl,rfl⟩
   · have e1:dO n=false:=by simp [dO,h2]
     rw [e1];go_enter Tryz.func200,Tryz.ntmps200
     go_wp2;go_ret;exact ⟨rfl,rfl⟩
 · have e1:dO n=false:=by simp [dO,h1]
   rw [e1];go_enter Tryz.func200,Tryz.ntmps200
   go_wp2;go_ret;exact ⟨rfl,rfl⟩
theorem yC (b off n c:Nat) (L:List ac) (s0:ByteArray) (q0:Int) (w:World) (hL:aj w (some ⟨b,off,none⟩) n c L) (hn:1≤n) (hn2:n≤1048576) (h0:∃r,L[0]?=some (s0,q0,r)) (hN:∀e ∈ L,-1000000≤e.2.2.2.2∧e.2.2.2.2≤1000000) :
 Calls Tryz.prog 265 #[sO b off n c] w fun e w'=>e=.returned (.tuple #[.agg #[.string s0,iT q0,iT (aY true 0 L).1,.string (aY true 0 L).2.1,iT (aY true 0 L).2.2],.bool (dO (aY true 0 L).2.2)])∧Bl w w':=by
 have hr:=hL.room;have hbg:=hL.big;unfold maxLen at hbg;have HL:=b6 hL;have HN:=b6 hN;have hbb:=(hL.lies _ rfl (by omega)).1;simp only at hbb;obtain ⟨s,q,d,t,nn,hg,_,e0,e1,_⟩:=hL.ent (Below.refl _ w) hbb 0 (by omega);obtain ⟨r,hr0⟩:=h0;rw [hr0] at hg;cases hg;simp only [Nat.zero_mul,Nat.add_zero] at e0 e1;clear hL hN hr0;have hnI:(0:Int)<(n:Int):=by omega
 have hnN:0<n:=hn;obtain ⟨R,hR⟩:=aS w.heap.size;obtain ⟨W,hW⟩:=aS (w.alloc (.cells #[.string ⟨#[]⟩,iT 0,iT 0,.string ⟨#[]⟩,iT 0] 50));have kW:Bl w W:=by rw [hW];exact bZ
 have hRb:cn W R (.string ⟨#[]⟩) (iT 0) (iT 0) (.string ⟨#[]⟩) (iT 0):=by rw [hW,hR];exact cn.new _ _ _ _ _ _ _
 have HKW:Hid (Bl w W):=kW;have HRB:Hid (cn W R (.string ⟨#[]⟩) (iT 0) (iT 0) (.string ⟨#[]⟩) (iT 0)):=hRb;have HRW:Hid (w.heap.size≤R):=by show w.heap.size≤R;omega
 have e0:=cell_later kW e0;have e1:=cell_later kW e1;have hbW:b<W.heap.size:=Nat.lt_of_lt_of_le hbb kW.size;have k0:Bl W W.drew:=(Below.refl _ W).drew;have HMK:Hid (∀w',Bl W w'→(w'.cell? ⟨b,off,none⟩=some (.string s0)∧w'.cell? ⟨b,off+1,none⟩=some (iT q0)∧b<w'.heap.size)):=fun w' kk=>⟨cell_later kk e0,cell_later kk e1,Nat.lt_of_lt_of_le hbW kk.size⟩
 go_enter Tryz.func265,Tryz.ntmps265
 go_upto_region 1 with fail
 rw [← hW,← hR];clear hW hR kW hRb;go_cut [4] (fun s4 wx=>∃(X:Nat),s4=.pointer (pT X)∧cn wx X (.string s0) (iT q0) (iT 3) (.string ⟨#[]⟩) (iT 0)∧W.heap.size≤X∧Bl W wx)
 case first =>
  refine eC HMK k0 fun aa=>?_
  generalize W.drew=wd at k0 aa ⊢;refine aO 0 9 aa ?_;refine aI 9 fun K hK=>?_
  go_simp;have hbx:=cn.new wd 50 (.string ⟨#[]⟩) (iT 0) (iT 0) (.string ⟨#[]⟩) (iT 0);have ka:=k0.alloc k0.size (.cells #[.string ⟨#[]⟩,iT 0,iT 0,.string ⟨#[]⟩,iT 0] 50);have hXw:=k0.size;generalize wd.alloc (.cells #[.string ⟨#[]⟩,iT 0,iT 0,.string ⟨#[]⟩,iT 0] 50)=wA at hbx ka ⊢;generalize wd.heap.size=X at hbx hXw ⊢;refine hK.out _ _ (HMK.out _ ka) fun aa=>?_
  (try go_frame);refine aI 10 fun K hK=>?_
  have y0:=hbx.c0;have y1:=hbx.c1;have y2:=hbx.c2;have y3:=hbx.c3;have y4:=hbx.c4;have z0:=hbx.fr 0;have z1:=hbx.fr 1;have z2:=hbx.fr 2;have z3:=hbx.fr 3;have z4:=hbx.fr 4;have zx:=hbx.lt;go_simp;have kz:=(((((ka).setCell (p:=⟨X,0,none⟩) hXw (.string s0)).setCell (p:=⟨X,1,none⟩) hXw (iT q0)).setCell (p:=⟨X,2,none⟩) hXw (iT 3)).setCell (p:=⟨X,3,none⟩) hXw (.string ⟨#[]⟩)).setCell (p:=⟨X,4,none⟩) hXw (iT 0);have hby:=hbx.setAll (.string s0) (iT q0) (iT 3) (.string ⟨#[]⟩) (iT 0);clear y0 y1 y2 y3 y4 z0 z1 z2 z3 z4 zx;refine hK.out _ _ (HMK.out _ kz) fun aa=>?_
  (try go_frame);refine dN ?_;go_wp2;go_meet
  exact ⟨X,rfl,hby,hXw,kz⟩
 case rest =>
  obtain ⟨X,rfl,hX,hXW,hbx⟩:=hcut;clear k0 HMK e0 e1;have HK0:Hid (Bl w wc):=HKW.out.trans (hbx.mono HKW.out.size);have HR0:Hid (cn wc R (.string ⟨#[]⟩) (iT 0) (iT 0) (.string ⟨#[]⟩) (iT 0)):=HRB.out.below hbx;have HXR:Hid (X≠R):=by have:=HRB.out.lt;show X≠R;omega
  have HX0:Hid (cn wc X (.string s0) (iT q0) (iT 3) (.string ⟨#[]⟩) (iT 0)):=hX;have HXW:Hid (w.heap.size≤X):=by have:=HKW.out.size;show w.heap.size≤X;omega
  clear hX hbx hXW;go_wp2;go_loopw [5] (fun iv wr=>∃(k:Nat) (acc:Int),k≤n∧iv=iT k∧cn wr X (.string s0) (iT q0) (iT 3) (.string ⟨#[]⟩) (iT acc)∧cn wr R (.string ⟨#[]⟩) (iT 0) (iT 0) (.string ⟨#[]⟩) (iT 0)∧Bl w wr∧aY (decide (k=0)) acc (L.drop k)=aY true 0 L∧-(1000000*(k:Int))≤acc∧acc≤1000000*(k:Int)) (fun iv _=>n - (intOf iv).toNat)
  case atStart=>exact ⟨0,0,Nat.zero_le _,rfl,HX0.out,HR0.out,HK0.out,rfl,by omega,by omega⟩
  case round =>
   obtain ⟨k,acc,hk,rfl,hX,hRr,hb,hj,ha1,ha2⟩:=hrel;have HX:Hid (cn wr X (.string s0) (iT q0) (iT 3) (.string ⟨#[]⟩) (iT acc)):=hX;have HRr:Hid (cn wr R (.string ⟨#[]⟩) (iT 0) (iT 0) (.string ⟨#[]⟩) (iT 0)):=hRr;have HB:Hid (Bl w wr):=hb;have HJ:Hid (aY (decide (k=0)) acc (L.drop k)=aY true 0 L):=hj;obtain ⟨x0,x1,x2,x3,x4,xf⟩:=hX;obtain ⟨r0,r1,r2,r3,r4,rf⟩:=hRr;have xf2:=xf 2;have xf3:=xf 3;have xf4:=xf 4;have rf0:=rf 0;have rf1:=rf 1;have rf2:=rf 2;have rf3:=rf 3;have rf4:=rf 4;have lX:=World.block_lt_of_cell? _ _ x0;have lR:=World.block_lt_of_cell? _ _ r0;simp only at lX lR;have nXR:=HXR.out;have nRX:R≠X:=fun e=>nXR e.symm
   clear xf rf hj;by_cases hlt:k<n
   · have hltI:(k:Int)<(n:Int):=by omega
     obtain ⟨s,q,d,t,nn,hg,hw,e0,e1,e2,e3,e4⟩:=HL.out.ent hb hbb k hlt;have hbr:b<wr.heap.size:=Nat.lt_of_lt_of_le hbb hb.size;obtain ⟨m1,m2⟩:=HN.out _ (List.mem_of_getElem? hg);simp only at m1 m2;have hdr:L.drop k=(s,q,d,t,nn) :: L.drop (k+1):=by
      have hkl:=(List.getElem?_eq_some_iff.1 hg).1;rw [List.drop_eq_getElem_cons hkl,(List.getElem?_eq_some_iff.1 hg).2]
     have HDR:Hid (L.drop k=(s,q,d,t,nn) :: L.drop (k+1)):=hdr;have nbX:wr.heap.size≠X:=by omega
     have nXb:X≠wr.heap.size:=by omega
     have nRb:R≠wr.heap.size:=by omega
     clear hg hw hdr hb;have hsum1:-9223372036854775808≤acc+nn:=by omega
     have hsum2:acc+nn≤9223372036854775807:=by omega
     by_cases hd1:d=1
     · subst hd1;have HE:Hid (aY true 0 L=(1,t,acc+nn)):=by show aY true 0 L=_;rw [← HJ.out,HDR.out];simp [aY]
       have HXf:Hid (cn ((((wr.setCell ⟨X,4,none⟩ (iT (acc+nn))).setCell ⟨X,2,none⟩ (iT 1)).setCell ⟨X,3,none⟩ (.string t)).alloc (.cells #[.string s,iT q,iT 1,.string t,iT nn] 50)) X (.string s0) (iT q0) (iT 1) (.string t) (iT (acc+nn))):=(((HX.out.set4 _).set2 _).set3 _).alloc _;have HRf:Hid (cn ((((wr.setCell ⟨X,4,none⟩ (iT (acc+nn))).setCell ⟨X,2,none⟩ (iT 1)).setCell ⟨X,3,none⟩ (.string t)).alloc (.cells #[.string s,iT q,iT 1,.string t,iT nn] 50)) R (.string ⟨#[]⟩) (iT 0) (iT 0) (.string ⟨#[]⟩) (iT 0)):=(((HRr.out.other nRX _ _).other nRX _ _).other nRX _ _).alloc _;have HBf:Hid (Bl w ((((wr.setCell ⟨X,4,none⟩ (iT (acc+nn))).setCell ⟨X,2,none⟩ (iT 1)).setCell ⟨X,3,none⟩ (.string t)).alloc (.cells #[.string s,iT q,iT 1,.string t,iT nn] 50))):=(((HB.out.setCell (p:=⟨X,4,none⟩) HXW.out _).setCell (p:=⟨X,2,none⟩) HXW.out _).setCell (p:=⟨X,3,none⟩) HXW.out _).alloc (by have:=HB.out.size;simpa [World.setCell] using this) _;go_upto_region 14 with fail
       generalize (((wr.setCell ⟨X,4,none⟩ (iT (acc+nn))).setCell ⟨X,2,none⟩ (iT 1)).setCell ⟨X,3,none⟩ (.string t)).alloc (.cells #[.string s,iT q,iT 1,.string t,iT nn] 50)=Wf at HXf HRf HBf ⊢;clear x0 x1 x2 x3 x4 r0 r1 r2 r3 r4 xf2 xf3 xf4 rf0 rf1 rf2 rf3 rf4 lX lR;have k0:Bl Wf Wf.drew:=(Below.refl _ Wf).drew;have HMK:Hid (∀w',Bl Wf w'→(w'.cell? ⟨X,0,none⟩=some (.string s0)∧w'.cell? ⟨X,1,none⟩=some (iT q0)∧w'.cell? ⟨X,2,none⟩=some (iT 1)∧w'.cell? ⟨X,3,none⟩=some (.string t)∧w'.cell? ⟨X,4,none⟩=some (iT (acc+nn))∧X<w'.heap.size)):=fun w' kk=>by have h:=HXf.out.below kk;exact ⟨h.c0,h.c1,h.c2,h.c3,h.c4,h.lt⟩
       have HMS:Hid (∀w',Bl Wf w'→((fun w'=>w'.cell? ⟨X,0,none⟩=some (.string s0)∧w'.cell? ⟨X,1,none⟩=some (iT q0)∧w'.cell? ⟨X,2,none⟩=some (iT 1)∧w'.cell? ⟨X,3,none⟩=some (.string t)∧w'.cell? ⟨X,4,none⟩=some (iT (acc+nn))∧X<w'.heap.size) (((((w'.setCell ⟨R,0,none⟩ (.string s0)).setCell ⟨R,1,none⟩ (iT q0)).setCell ⟨R,2,none⟩ (iT 1)).setCell ⟨R,3,none⟩ (.string t)).setCell ⟨R,4,none⟩ (iT (acc+nn))))):=fun w' kk=>by have h:=(((((HXf.out.below kk).other HXR.out 0 (.string s0)).other HXR.out 1 (iT q0)).other HXR.out 2 (iT 1)).other HXR.out 3 (.string t)).other HXR.out 4 (iT (acc+nn));exact ⟨h.c0,h.c1,h.c2,h.c3,h.c4,h.lt⟩
       refine eC HMK k0 fun aa=>?_
       generalize Wf.drew=wd at k0 aa ⊢;refine aO 0 3 aa ?_;refine aI 3 fun K hK=>?_
       go_simp;refine (kL _ _).mono ?_;rintro e w9 ⟨rfl,h9⟩;have k1:Bl Wf w9:=by rw [h9];exact k0
       clear h9;go_wp2_with fail
       refine hK.out _ _ (HMK.out _ k1) fun aa=>?_
       (try go_frame);refine aI 4 fun K hK=>?_
       have hRk:=HRf.out.below k1;have y0:=hRk.c0;have y1:=hRk.c1;have y2:=hRk.c2;have y3:=hRk.c3;have y4:=hRk.c4;have z0:=hRk.fr 0;have z1:=hRk.fr 1;have z2:=hRk.fr 2;have z3:=hRk.fr 3;have z4:=hRk.fr 4;have zx:=hRk.lt;go_simp;clear y0 y1 y2 y3 y4 z0 z1 z2 z3 z4 zx;refine hK.out _ _ (HMS.out _ k1) fun aa=>?_
       (try go_frame);refine aO 5 1 aa ?_;refine dN ?_;have hRz:=hRk.setAll (.string s0) (iT q0) (iT 1) (.string t) (iT (acc+nn));have g0:=hRz.c0;have g1:=hRz.c1;have g2:=hRz.c2;have g3:=hRz.c3;have g4:=hRz.c4;have gx:=hRz.lt;have kz:=(((((HBf.out.trans (k1.mono HBf.out.size)).setCell (p:=⟨R,0,none⟩) HRW.out (.string s0)).setCell (p:=⟨R,1,none⟩) HRW.out (iT q0)).setCell (p:=⟨R,2,none⟩) HRW.out (iT 1)).setCell (p:=⟨R,3,none⟩) HRW.out (.string t)).setCell (p:=⟨R,4,none⟩) HRW.out (iT (acc+nn));obtain ⟨Wz,hWz⟩:=aS (((((w9.setCell ⟨R,0,none⟩ (.string s0)).setCell ⟨R,1,none⟩ (iT q0)).setCell ⟨R,2,none⟩ (iT 1)).setCell ⟨R,3,none⟩ (.string t)).setCell ⟨R,4,none⟩ (iT (acc+nn)));rw [← hWz] at g0 g1 g2 g3 g4 gx kz ⊢;clear hWz hRz hRk aa;go_wp2;refine bodyPost_ret (v:=.tuple #[.agg #[.string s0,iT q0,iT 1,.string t,iT (acc+nn)],.bool (dO (acc+nn))]) (by simp [results,Tryz.results265,go_sem,g0,g1,g2,g3,g4]) rfl ⟨by rw [HE.out],kz⟩
     · by_cases hd2:d=2
       · subst hd2;by_cases hk0:k=0
         · subst hk0;simp only [Nat.zero_mul,Nat.add_zero] at e0 e1 e2 e3 e4;have HE:Hid (aY true 0 L=(2,⟨#[]⟩,acc+nn)):=by show aY true 0 L=_;rw [← HJ.out,HDR.out];simp [aY]
           have HXf:Hid (cn ((((wr.setCell ⟨X,4,none⟩ (iT (acc+nn))).setCell ⟨X,2,none⟩ (iT 1)).setCell ⟨X,2,none⟩ (iT 2)).alloc (.cells #[.string s,iT q,iT 2,.string t,iT nn] 50)) X (.string s0) (iT q0) (iT 2) (.string ⟨#[]⟩) (iT (acc+nn))):=(((HX.out.set4 _).set2 _).set2 _).alloc _;have HRf:Hid (cn ((((wr.setCell ⟨X,4,none⟩ (iT (acc+nn))).setCell ⟨X,2,none⟩ (iT 1)).setCell ⟨X,2,none⟩ (iT 2)).alloc (.cells #[.string s,iT q,iT 2,.string t,iT nn] 50)) R (.string ⟨#[]⟩) (iT 0) (iT 0) (.string ⟨#[]⟩) (iT 0)):=(((HRr.out.other nRX _ _).other nRX _ _).other nRX _ _).alloc _;have HBf:Hid (Bl w ((((wr.setCell ⟨X,4,none⟩ (iT (acc+nn))).setCell ⟨X,2,none⟩ (iT 1)).setCell ⟨X,2,none⟩ (iT 2)).alloc (.cells #[.string s,iT q,iT 2,.string t,iT nn] 50))):=(((HB.out.setCell (p:=⟨X,4,none⟩) HXW.out _).setCell (p:=⟨X,2,none⟩) HXW.out _).setCell (p:=⟨X,2,none⟩) HXW.out _).alloc (by have:=HB.out.size;simpa [World.setCell] using this) _;go_upto_region 14 with fail
           generalize (((wr.setCell ⟨X,4,none⟩ (iT (acc+nn))).setCell ⟨X,2,none⟩ (iT 1)).setCell ⟨X,2,none⟩ (iT 2)).alloc (.cells #[.string s,iT q,iT 2,.string t,iT nn] 50)=Wf at HXf HRf HBf ⊢;clear x0 x1 x2 x3 x4 r0 r1 r2 r3 r4 xf2 xf3 xf4 rf0 rf1 rf2 rf3 rf4 lX lR;have k0:Bl Wf Wf.drew:=(Below.refl _ Wf).drew;have HMK:Hid (∀w',Bl Wf w'→(w'.cell? ⟨X,0,none⟩=some (.string s0)∧w'.cell? ⟨X,1,none⟩=some (iT q0)∧w'.cell? ⟨X,2,none⟩=some (iT 2)∧w'.cell? ⟨X,3,none⟩=some (.string ⟨#[]⟩)∧w'.cell? ⟨X,4,none⟩=some (iT (acc+nn))∧X<w'.heap.size)):=fun w' kk=>by have h:=HXf.out.below kk;exact ⟨h.c0,h.c1,h.c2,h.c3,h.c4,h.lt⟩
           have HMS:Hid (∀w',Bl Wf w'→((fun w'=>w'.cell? ⟨X,0,none⟩=some (.string s0)∧w'.cell? ⟨X,1,none⟩=some (iT q0)∧w'.cell? ⟨X,2,none⟩=some (iT 2)∧w'.cell? ⟨X,3,none⟩=some (.string ⟨#[]⟩)∧w'.cell? ⟨X,4,none⟩=some (iT (acc+nn))∧X<w'.heap.size) (((((w'.setCell ⟨R,0,none⟩ (.string s0)).setCell ⟨R,1,none⟩ (iT q0)).setCell ⟨R,2,none⟩ (iT 2)).setCell ⟨R,3,none⟩ (.string ⟨#[]⟩)).setCell ⟨R,4,none⟩ (iT (acc+nn))))):=fun w' kk=>by have h:=(((((HXf.out.below kk).other HXR.out 0 (.string s0)).other HXR.out 1 (iT q0)).other HXR.out 2 (iT 2)).other HXR.out 3 (.string ⟨#[]⟩)).other HXR.out 4 (iT (acc+nn));exact ⟨h.c0,h.c1,h.c2,h.c3,h.c4,h.lt⟩
           refine eC HMK k0 fun aa=>?_
           generalize Wf.drew=wd at k0 aa ⊢;refine aO 0 3 aa ?_;refine aI 3 fun K hK=>?_
           go_simp;refine (kL _ _).mono ?_;rintro e w9 ⟨rfl,h9⟩;have k1:Bl Wf w9:=by rw [h9];exact k0
           clear h9;go_wp2_with fail
           refine hK.out _ _ (HMK.out _ k1) fun aa=>?_
           (try go_frame);refine aI 4 fun K hK=>?_
           have hRk:=HRf.out.below k1;have y0:=hRk.c0;have y1:=hRk.c1;have y2:=hRk.c2;have y3:=hRk.c3;have y4:=hRk.c4;have z0:=hRk.fr 0;have z1:=hRk.fr 1;have z2:=hRk.fr 2;have z3:=hRk.fr 3;have z4:=hRk.fr 4;have zx:=hRk.lt;go_simp;clear y0 y1 y2 y3 y4 z0 z1 z2 z3 z4 zx;refine hK.out _ _ (HMS.out _ k1) fun aa=>?_
           (try go_frame);refine aO 5 1 aa ?_;refine dN ?_;have hRz:=hRk.setAll (.string s0) (iT q0) (iT 2) (.string ⟨#[]⟩) (iT (acc+nn));have g0:=hRz.c0;have g1:=hRz.c1;have g2:=hRz.c2;have g3:=hRz.c3;have g4:=hRz.c4;have gx:=hRz.lt;have kz:=(((((HBf.out.trans (k1.mono HBf.out.size)).setCell (p:=⟨R,0,none⟩) HRW.out (.string s0)).setCell (p:=⟨R,1,none⟩) HRW.out (iT q0)).setCell (p:=⟨R,2,none⟩) HRW.out (iT 2)).setCell (p:=⟨R,3,none⟩) HRW.out (.string ⟨#[]⟩)).setCell (p:=⟨R,4,none⟩) HRW.out (iT (acc+nn));obtain ⟨Wz,hWz⟩:=aS (((((w9.setCell ⟨R,0,none⟩ (.string s0)).setCell ⟨R,1,none⟩ (iT q0)).setCell ⟨R,2,none⟩ (iT 2)).setCell ⟨R,3,none⟩ (.string ⟨#[]⟩)).setCell ⟨R,4,none⟩ (iT (acc+nn)));rw [← hWz] at g0 g1 g2 g3 g4 gx kz ⊢;clear hWz hRz hRk aa;go_wp2;refine bodyPost_ret (v:=.tuple #[.agg #[.string s0,iT q0,iT 2,.string ⟨#[]⟩,iT (acc+nn)],.bool (dO (acc+nn))]) (by simp [results,Tryz.results265,go_sem,g0,g1,g2,g3,g4]) rfl ⟨by rw [HE.out],kz⟩
         · have hk0I:¬(k:Int)=0:=by omega
           have HE:Hid (aY true 0 L=(1,⟨#[]⟩,acc+nn)):=by show aY true 0 L=_;rw [← HJ.out,HDR.out];simp [aY,hk0]
           have HXf:Hid (cn (((wr.setCell ⟨X,4,none⟩ (iT (acc+nn))).setCell ⟨X,2,none⟩ (iT 1)).alloc (.cells #[.string s,iT q,iT 2,.string t,iT nn] 50)) X (.string s0) (iT q0) (iT 1) (.string ⟨#[]⟩) (iT (acc+nn))):=((HX.out.set4 _).set2 _).alloc _;have HRf:Hid (cn (((wr.setCell ⟨X,4,none⟩ (iT (acc+nn))).setCell ⟨X,2,none⟩ (iT 1)).alloc (.cells #[.string s,iT q,iT 2,.string t,iT nn] 50)) R (.string ⟨#[]⟩) (iT 0) (iT 0) (.string ⟨#[]⟩) (iT 0)):=((HRr.out.other nRX _ _).other nRX _ _).alloc _;have HBf:Hid (Bl w (((wr.setCell ⟨X,4,none⟩ (iT (acc+nn))).setCell ⟨X,2,none⟩ (iT 1)).alloc (.cells #[.string s,iT q,iT 2,.string t,iT nn] 50))):=((HB.out.setCell (p:=⟨X,4,none⟩) HXW.out _).setCell (p:=⟨X,2,none⟩) HXW.out _).alloc (by have:=HB.out.size;simpa [World.setCell] using this) _;go_upto_region 14 with fail
           generalize ((wr.setCell ⟨X,4,none⟩ (iT (acc+nn))).setCell ⟨X,2,none⟩ (iT 1)).alloc (.cells #[.string s,iT q,iT 2,.string t,iT nn] 50)=Wf at HXf HRf HBf ⊢;clear x0 x1 x2 x3 x4 r0 r1 r2 r3 r4 xf2 xf3 xf4 rf0 rf1 rf2 rf3 rf4 lX lR;have k0:Bl Wf Wf.drew:=(Below.refl _ Wf).drew;have HMK:Hid (∀w',Bl Wf w'→(w'.cell? ⟨X,0,none⟩=some (.string s0)∧w'.cell? ⟨X,1,none⟩=some (iT q0)∧w'.cell? ⟨X,2,none⟩=some (iT 1)∧w'.cell? ⟨X,3,none⟩=some (.string ⟨#[]⟩)∧w'.cell? ⟨X,4,none⟩=some (iT (acc+nn))∧X<w'.heap.size)):=fun w' kk=>by have h:=HXf.out.below kk;exact ⟨h.c0,h.c1,h.c2,h.c3,h.c4,h.lt⟩
           have HMS:Hid (∀w',Bl Wf w'→((fun w'=>w'.cell? ⟨X,0,none⟩=some (.string s0)∧w'.cell? ⟨X,1,none⟩=some (iT q0)∧w'.cell? ⟨X,2,none⟩=some (iT 1)∧w'.cell? ⟨X,3,none⟩=some (.string ⟨#[]⟩)∧w'.cell? ⟨X,4,none⟩=some (iT (acc+nn))∧X<w'.heap.size) (((((w'.setCell ⟨R,0,none⟩ (.string s0)).setCell ⟨R,1,none⟩ (iT q0)).setCell ⟨R,2,none⟩ (iT 1)).setCell ⟨R,3,none⟩ (.string ⟨#[]⟩)).setCell ⟨R,4,none⟩ (iT (acc+nn))))):=fun w' kk=>by have h:=(((((HXf.out.below kk).other HXR.out 0 (.string s0)).other HXR.out 1 (iT q0)).other HXR.out 2 (iT 1)).other HXR.out 3 (.string ⟨#[]⟩)).other HXR.out 4 (iT (acc+nn));exact ⟨h.c0,h.c1,h.c2,h.c3,h.c4,h.lt⟩
           refine eC HMK k0 fun aa=>?_
           generalize Wf.drew=wd at k0 aa ⊢;refine aO 0 3 aa ?_;refine aI 3 fun K hK=>?_
           go_simp;refine (kL _ _).mono ?_;rintro e w9 ⟨rfl,h9⟩;have k1:Bl Wf w9:=by rw [h9];exact k0
           clear h9;go_wp2_with fail
           refine hK.out _ _ (HMK.out _ k1) fun aa=>?_
           (try go_frame);refine aI 4 fun K hK=>?_
           have hRk:=HRf.out.below k1;have y0:=hRk.c0;have y1:=hRk.c1;have y2:=hRk.c2;have y3:=hRk.c3;have y4:=hRk.c4;have z0:=hRk.fr 0;have z1:=hRk.fr 1;have z2:=hRk.fr 2;have z3:=hRk.fr 3;have z4:=hRk.fr 4;have zx:=hRk.lt;go_simp;clear y0 y1 y2 y3 y4 z0 z1 z2 z3 z4 zx;refine hK.out _ _ (HMS.out _ k1) fun aa=>?_
           (try go_frame);refine aO 5 1 aa ?_;refine dN ?_;have hRz:=hRk.setAll (.string s0) (iT q0) (iT 1) (.string ⟨#[]⟩) (iT (acc+nn));have g0:=hRz.c0;have g1:=hRz.c1;have g2:=hRz.c2;have g3:=hRz.c3;have g4:=hRz.c4;have gx:=hRz.lt;have kz:=(((((HBf.out.trans (k1.mono HBf.out.size)).setCell (p:=⟨R,0,none⟩) HRW.out (.string s0)).setCell (p:=⟨R,1,none⟩) HRW.out (iT q0)).setCell (p:=⟨R,2,none⟩) HRW.out (iT 1)).setCell (p:=⟨R,3,none⟩) HRW.out (.string ⟨#[]⟩)).setCell (p:=⟨R,4,none⟩) HRW.out (iT (acc+nn));obtain ⟨Wz,hWz⟩:=aS (((((w9.setCell ⟨R,0,none⟩ (.string s0)).setCell ⟨R,1,none⟩ (iT q0)).setCell ⟨R,2,none⟩ (iT 1)).setCell ⟨R,3,none⟩ (.string ⟨#[]⟩)).setCell ⟨R,4,none⟩ (iT (acc+nn)));rw [← hWz] at g0 g1 g2 g3 g4 gx kz ⊢;clear hWz hRz hRk aa;go_wp2;refine bodyPost_ret (v:=.tuple #[.agg #[.string s0,iT q0,iT 1,.string ⟨#[]⟩,iT (acc+nn)],.bool (dO (acc+nn))]) (by simp [results,Tryz.results265,go_sem,g0,g1,g2,g3,g4]) rfl ⟨by rw [HE.out],kz⟩
       · have HE:Hid (aY false (acc+nn) (L.drop (k+1))=aY true 0 L):=by show _=aY true 0 L;rw [← HJ.out,HDR.out];simp [aY,hd1,hd2]
         go_wp2;go_roundw
         case rel=>exact ⟨k+1,acc+nn,by omega,by go_num,(HX.out.set4 _).alloc _,(HRr.out.other nRX _ _).alloc _,(HB.out.setCell (p:=⟨X,4,none⟩) HXW.out _).alloc (by have:=HB.out.size;simpa [World.setCell] using this) _,by simpa using HE.out,by push_cast;omega,by push_cast;omega⟩
         case measure=>simp [intOf];omega
   · have hltI:¬(k:Int)<(n:Int):=by omega
     have HE:Hid (aY true 0 L=(3,⟨#[]⟩,acc)):=by
      show aY true 0 L=_
      rw [← HJ.out,List.drop_eq_nil_of_le (by have:=HL.out.length;omega)];rfl
     have HXf:Hid (cn (wr) X (.string s0) (iT q0) (iT 3) (.string ⟨#[]⟩) (iT (acc))):=HX.out;have HRf:Hid (cn (wr) R (.string ⟨#[]⟩) (iT 0) (iT 0) (.string ⟨#[]⟩) (iT 0)):=HRr.out;have HBf:Hid (Bl w (wr)):=HB.out;go_upto_region 14 with fail
     generalize wr=Wf at HXf HRf HBf ⊢;clear x0 x1 x2 x3 x4 r0 r1 r2 r3 r4 xf2 xf3 xf4 rf0 rf1 rf2 rf3 rf4 lX lR;have k0:Bl Wf Wf.drew:=(Below.refl _ Wf).drew;have HMK:Hid (∀w',Bl Wf w'→(w'.cell? ⟨X,0,none⟩=some (.string s0)∧w'.cell? ⟨X,1,none⟩=some (iT q0)∧w'.cell? ⟨X,2,none⟩=some (iT 3)∧w'.cell? ⟨X,3,none⟩=some (.string ⟨#[]⟩)∧w'.cell? ⟨X,4,none⟩=some (iT (acc))∧X<w'.heap.size)):=fun w' kk=>by have h:=HXf.out.below kk;exact ⟨h.c0,h.c1,h.c2,h.c3,h.c4,h.lt⟩
     have HMS:Hid (∀w',Bl Wf w'→((fun w'=>w'.cell? ⟨X,0,none⟩=some (.string s0)∧w'.cell? ⟨X,1,none⟩=some (iT q0)∧w'.cell? ⟨X,2,none⟩=some (iT 3)∧w'.cell? ⟨X,3,none⟩=some (.string ⟨#[]⟩)∧w'.cell? ⟨X,4,none⟩=some (iT (acc))∧X<w'.heap.size) (((((w'.setCell ⟨R,0,none⟩ (.string s0)).setCell ⟨R,1,none⟩ (iT q0)).setCell ⟨R,2,none⟩ (iT 3)).setCell ⟨R,3,none⟩ (.string ⟨#[]⟩)).setCell ⟨R,4,none⟩ (iT (acc))))):=fun w' kk=>by have h:=(((((HXf.out.below kk).other HXR.out 0 (.string s0)).other HXR.out 1 (iT q0)).other HXR.out 2 (iT 3)).other HXR.out 3 (.string ⟨#[]⟩)).other HXR.out 4 (iT (acc));exact ⟨h.c0,h.c1,h.c2,h.c3,h.c4,h.lt⟩
     refine eC HMK k0 fun aa=>?_
     generalize Wf.drew=wd at k0 aa ⊢;refine aO 0 3 aa ?_;refine aI 3 fun K hK=>?_
     go_simp;refine (kL _ _).mono ?_;rintro e w9 ⟨rfl,h9⟩;have k1:Bl Wf w9:=by rw [h9];exact k0
     clear h9;go_wp2_with fail
     refine hK.out _ _ (HMK.out _ k1) fun aa=>?_
     (try go_frame);refine aI 4 fun K hK=>?_
     have hRk:=HRf.out.below k1;have y0:=hRk.c0;have y1:=hRk.c1;have y2:=hRk.c2;have y3:=hRk.c3;have y4:=hRk.c4;have z0:=hRk.fr 0;have z1:=hRk.fr 1;have z2:=hRk.fr 2;have z3:=hRk.fr 3;have z4:=hRk.fr 4;have zx:=hRk.lt;go_simp;clear y0 y1 y2 y3 y4 z0 z1 z2 z3 z4 zx;refine hK.out _ _ (HMS.out _ k1) fun aa=>?_
     (try go_frame);refine aO 5 1 aa ?_;refine dN ?_;have hRz:=hRk.setAll (.string s0) (iT q0) (iT 3) (.string ⟨#[]⟩) (iT (acc));have g0:=hRz.c0;have g1:=hRz.c1;have g2:=hRz.c2;have g3:=hRz.c3;have g4:=hRz.c4;have gx:=hRz.lt;have kz:=(((((HBf.out.trans (k1.mono HBf.out.size)).setCell (p:=⟨R,0,none⟩) HRW.out (.string s0)).setCell (p:=⟨R,1,none⟩) HRW.out (iT q0)).setCell (p:=⟨R,2,none⟩) HRW.out (iT 3)).setCell (p:=⟨R,3,none⟩) HRW.out (.string ⟨#[]⟩)).setCell (p:=⟨R,4,none⟩) HRW.out (iT (acc));obtain ⟨Wz,hWz⟩:=aS (((((w9.setCell ⟨R,0,none⟩ (.string s0)).setCell ⟨R,1,none⟩ (iT q0)).setCell ⟨R,2,none⟩ (iT 3)).setCell ⟨R,3,none⟩ (.string ⟨#[]⟩)).setCell ⟨R,4,none⟩ (iT (acc)));rw [← hWz] at g0 g1 g2 g3 g4 gx kz ⊢;clear hWz hRz hRk aa;go_wp2;refine bodyPost_ret (v:=.tuple #[.agg #[.string s0,iT q0,iT 3,.string ⟨#[]⟩,iT (acc)],.bool (dO (acc))]) (by simp [results,Tryz.results265,go_sem,g0,g1,g2,g3,g4]) rfl ⟨by rw [HE.out],kz⟩
end Go.Proofs.YtpobkmjicbobdaaGreat
namespace Go.Proofs.YtpobkmjicbobdaaGreat
open Go.RowKit
set_option maxRecDepth 100000
set_option maxHeartbeats 2000000
attribute [local go_sem] Oper.semAt_some
end Go.Proofs.YtpobkmjicbobdaaGreat
namespace Go.Proofs.YtpobkmjicbobdaaGreat
open Go.RowKit
set_option maxRecDepth 100000
set_option maxHeartbeats 2000000
attribute [local go_sem] Oper.semAt_some
def dP (bare:Bool) (s0:ByteArray) (q0:Int) (L:List ac):List ac :=
 if dO (aY true 0 L).2.2=true then (if bare=true∧(aY true 0 L).1=2 then [] else [(s0,q0,(if bare=true∧(aY true 0 L).1=3 then 1 else (aY true 0 L).1),(aY true 0 L).2.1,(aY true 0 L).2.2)]) else L
theorem uP:∀(L:List ac) (f:Bool) (acc:Int),1≤(aY f acc L).1∧(aY f acc L).1≤3:=by
 intro L;induction L with
 | nil=>intro f acc;simp [aY]
 | cons e R ih =>
  intro f acc;unfold aY;split
  · simp
  · split
    · cases f <;> simp
    · exact ih false _
theorem uO:∀(L:List ac) (f:Bool) (acc:Int),(∀e ∈ L,e.2.2.2.1.size≤maxLen)→(aY f acc L).2.1.size≤maxLen:=by
 intro L;induction L with
 | nil=>intro f acc _;exact Nat.zero_le _
 | cons e R ih =>
  intro f acc h;unfold aY;split
  · exact h e (List.mem_cons_self ..)
  · split
    · exact Nat.zero_le _
    · exact ih false _ (fun x hx=>h x (List.mem_cons_of_mem _ hx))
theorem B8 {z:Int} (h1:-1000000≤z) (h2:z≤1000000):(Lit.int .i64 z).wf=true:=by
 simp only [Lit.wf,IntKind.min,IntKind.max,IntKind.signed,IntKind.bits,Bool.and_eq_true,decide_eq_true_eq,if_true];omega
theorem mt (w:World) (base:Nat) (h:base≤w.heap.size):ay (w.alloc (.cells #[] 50)) base w.heap.size 0 0 []:=by
 have:=World.ownsRow_lit (base:=base) (e:=50) (size:=5) w #[] 0 (by first | exact h | simp) (by first | exact h | simp) (by first | exact h | simp);exact ⟨by simpa [aE] using this,rfl,by simp⟩
theorem Bg (w:World) (base:Nat) (h:base≤w.heap.size) (s t:ByteArray) (q d n:Int) (hw:ec (s,q,d,t,n)):ay (w.alloc (.cells #[.string s,iT q,iT d,.string t,iT n] 50)) base w.heap.size 1 1 [(s,q,d,t,n)]:=by
 have:=World.ownsRow_lit (base:=base) (e:=50) (size:=5) w #[.string s,iT q,iT d,.string t,iT n] 1 h (by unfold maxLen;omega) rfl;exact ⟨by simpa [aE,b9] using this,rfl,by simpa using hw⟩
end Go.Proofs.YtpobkmjicbobdaaGreat
namespace Go.Proofs.YtpobkmjicbobdaaGreat
set_option maxRecDepth 100000
set_option maxHeartbeats 40000000
open Go.RowKit
variable {S:List Int} {k:Nat} {n o:Int}
def fi (S:List Int) (o n:Int):Bool:=S.any (fun s=>decide (o≤s) && decide (s<n))
theorem jZ {s:Int} (h:S[k]?=some s):fi (S.take (k+1)) o n=(fi (S.take k) o n || (decide (o≤s) && decide (s<n))):=by
 simp [fi,List.take_add_one,h,List.any_append]
theorem vf (h:fi (S.take k) o n=true):fi S o n=true:=by
 unfold fi at *;rw [List.any_eq_true] at *;obtain ⟨x,hx,hp⟩:=h;exact ⟨x,List.mem_of_mem_take hx,hp⟩
theorem qh (lo:Nat) (a:Option Addr) (n c:Nat) (S:List Int) (o p:Int) (w:World) (h:bG lo w a n c S) :
 Calls Tryz.prog 246 #[.slice a n c,iT o,iT p] w fun e w'=>e=.returned (.bool (fi S o p))∧Bl w w':=by
 have hr:=h.room;have hbg:=h.big;unfold maxLen at hbg;have H:=b6 h;clear h;go_enter Tryz.func246,Tryz.ntmps246
 go_wp2;go_loopw [7] (fun i wr=>∃k:Nat,k≤n∧i=iT k∧fi (S.take k) o p=false∧Bl w wr) (fun i _=>n - (intOf i).toNat)
 case atStart=>exact ⟨0,Nat.zero_le _,rfl,rfl,Below.refl _ _⟩
 case round =>
  obtain ⟨k,hk,rfl,hno,hb⟩:=hrel;have HNO:Hid (fi (S.take k) o p=false):=hno;clear hno;by_cases hlt:k<n
  · have hltI:(k:Int)<(n:Int):=by omega
    obtain ⟨b,off,rfl,hbb⟩:=H.out.form (by omega);obtain ⟨s,hs,hw,hc⟩:=H.out.num hb k hlt;have HS:Hid (S[k]?=some s):=hs;have hbr:b<wr.heap.size:=Nat.lt_of_lt_of_le hbb hb.size;clear hs hw;by_cases h1:o≤s
    · by_cases h2:s<p
      · go_wp2;go_ret;have hyes:fi S o p=true:=vf (k:=k+1) (by rw [jZ HS.out];simp [h1,h2]);exact ⟨by rw [hyes];rfl,hb⟩
      · go_wp2;go_roundw
        case rel=>exact ⟨k+1,by omega,by go_num,by rw [jZ HS.out,HNO.out];simp [h2],hb⟩
        case measure=>simp [intOf];omega
    · go_wp2;go_roundw
      case rel=>exact ⟨k+1,by omega,by go_num,by rw [jZ HS.out,HNO.out];simp [h1],hb⟩
      case measure=>simp [intOf];omega
  · have hltI:¬(k:Int)<(n:Int):=by omega
    have hall:S.take k=S:=List.take_of_length_le (by have:=H.out.length;omega);have HALL:Hid (fi S o p=false):=by have:=HNO.out;rw [hall] at this;exact this
    clear hall;go_wp2;go_ret;exact ⟨by rw [HALL.out];rfl,hb⟩
end Go.Proofs.YtpobkmjicbobdaaGreat
