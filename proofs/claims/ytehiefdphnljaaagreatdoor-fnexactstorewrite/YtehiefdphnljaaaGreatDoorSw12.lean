/- Walks. -/
import Derived.Test.YtehiefdphnljaaaGreatDoorSw11
import Derived.Lib.ItoaLen
namespace Go.Proofs.YtehiefdphnljaaaGreatDoor
set_option maxRecDepth 100000
set_option maxHeartbeats 40000000
open Go.RowKit
variable {G P Y b hi hi' lo lo' n nd nm ns nv:Nat} {M:List ae} {S:List Int} {U V:List (List aq)} {ak am av d:Option Addr} {bd bs gd gs:Nat→Nat} {ed es:Nat→Nat→Nat} {g0 g1 g5 g6 g8 y0 y1 y2 y3 y4 y5 y6 y7 y8:Value} {w w' w6 wi wj:World}
theorem bQ.lower (h:bQ lo hi w G n V gs bs es) (h1:lo'≤lo) (h2:hi≤hi'):bQ lo' hi' w G n V gs bs es:=by
 obtain ⟨xs,r1,r2⟩:=h.row;exact ⟨h.len,⟨xs,jf r1 h1,r2⟩,h.levs,⟨Nat.le_trans h1 h.bot.1,h.bot.2⟩,h.up,Nat.le_trans h.top h2⟩
theorem bQ.keepP (h:bQ lo hi w G n V gs bs es) (k:aI P (P+1) w w') (hP:P<lo):bQ lo hi w' G n V gs bs es:=by
 obtain ⟨xs,r1,r2⟩:=h.row;have h3:=(r1.lt G rfl).1;have h4:=h.bot.1;exact h.keepO k (.inr (by omega)) (.inr (by omega))
theorem bQ.grownP (h:bQ lo hi w G n V gs bs es) (k:w.grownBy w' (some P)) (hP:P<lo):bQ lo hi w' G n V gs bs es:=h.keepP (aI.of_grown k) hP
theorem dG.upper {b1 b2 b3:Nat} (h:dG lo hi w b1 nm b2 nv b3 ns M V S gs bs es) (h2:hi≤hi'):dG lo hi' w b1 nm b2 nv b3 ns M V S gs bs es:=⟨h.mem,h.levs.lower (Nat.le_refl _) h2,h.sn,h.ahead⟩
def Bt (lo hi:Nat) (w:World) (ub:Nat) (U:List (List aq)):Prop:=∃(gd bd:Nat→Nat) (ed:Nat→Nat→Nat),bQ lo hi w ub 3 U gd bd ed
theorem Bt.lower {ub:Nat} (h:Bt lo hi w ub U) (h1:lo'≤lo) (h2:hi≤hi'):Bt lo' hi' w ub U:=by
 obtain ⟨a,b,c,h⟩:=h;exact ⟨a,b,c,h.lower h1 h2⟩
def Cd (q:Int) (nm nk:Nat) (M:List ae) (V:List (List aq)) (S:List Int) (lg:ByteArray) (sf sd:Int) (U:List (List aq)) (w:World) (e:Ending) (w':World):Prop :=
 ∃(eb vb sb ub m:Nat) (gs bs:Nat→Nat) (es:Nat→Nat→Nat) (gd bd:Nat→Nat) (ed:Nat→Nat→Nat),e=.returned (.agg #[.bool true,iT q,sL eb nm nm,sL vb 3 3,sL sb nk nk,.string lg,iT sf,sL ub 3 3,iT sd])∧bQ w.heap.size m w' ub 3 U gd bd ed∧dG m w'.heap.size w' eb nm vb 3 sb nk M V S gs bs es∧(w.heap.size≤m∧m≤w'.heap.size)∧Bl w w'
def Ce (lg:ByteArray) (sf sd:Int) (U:List (List aq)) (w:World) (e:Ending) (w':World):Prop :=
 ∃(ub:Nat) (gd bd:Nat→Nat) (ed:Nat→Nat→Nat),e=.returned (.agg #[.bool false,iT 0,nZ,nZ,nZ,.string lg,iT sf,sL ub 3 3,iT sd])∧bQ w.heap.size w'.heap.size w' ub 3 U gd bd ed∧Bl w w'
theorem pt (up:Bool) (q:Int) (am ak:Option Addr) (nm cm nk ck:Nat) (a0 a1 a2:Option Addr) (n0 c0 n1 c1 n2 c2:Nat) (M:List ae) (A B C:List aq) (S:List Int) (lg:ByteArray) (sf sd:Int) (d0 d1 d2:Option Addr) (m0 e0 m1 e1 m2 e2:Nat) (U:List (List aq)) (w:World)
 (HT:∀w',Bl w w'→Calls Tryz.prog 89 #[.agg #[iT q,.slice am nm cm,.slice a0 n0 c0,.slice a1 n1 c1,.slice a2 n2 c2,.slice ak nk ck]] w' (Bs q nm nk M [A,B,C] S w'))
 (HD:∀w',Bl w w'→Calls Tryz.prog 88 #[.agg #[.string lg,iT sf,.slice d0 m0 e0,.slice d1 m1 e1,.slice d2 m2 e2,iT sd]] w' (AV lg sf sd U w')) :
 Calls Tryz.prog 49 #[.agg #[.bool up,iT q,.slice am nm cm,.slice a0 n0 c0,.slice a1 n1 c1,.slice a2 n2 c2,.slice ak nk ck,.string lg,iT sf,.slice d0 m0 e0,.slice d1 m1 e1,.slice d2 m2 e2,iT sd]] w fun e w'=>(up=true→Cd q nm nk M [A,B,C] S lg sf sd U w e w')∧(up=false→Ce lg sf sd U w e w'):=by
 obtain ⟨X,hX⟩:=aw w.heap.size;obtain ⟨W0,hW0⟩:=aw ((w.alloc (.cells #[.bool up,iT q,.slice am nm cm,.slice a0 n0 c0,.slice a1 n1 c1,.slice a2 n2 c2,.slice ak nk ck,.string lg,iT sf,.slice d0 m0 e0,.slice d1 m1 e1,.slice d2 m2 e2,iT sd] 90)).alloc (.cells #[.bool false,iT 0,nZ,nZ,nZ,.string ⟨#[]⟩,iT 0,nZ,iT 0] 40));have kW:Bl w W0:=by rw [hW0];exact bZ.alloc (by simp) _
 have x0:W0.cell? ⟨X,0,none⟩=some (.bool up):=by rw [hW0,hX];simp
 have x1:W0.cell? ⟨X,1,none⟩=some (iT q):=by rw [hW0,hX];simp
 have x2:W0.cell? ⟨X,2,none⟩=some (.slice am nm cm):=by rw [hW0,hX];simp
 have x3:W0.cell? ⟨X,3,none⟩=some (.slice a0 n0 c0):=by rw [hW0,hX];simp
 have x4:W0.cell? ⟨X,4,none⟩=some (.slice a1 n1 c1):=by rw [hW0,hX];simp
 have x5:W0.cell? ⟨X,5,none⟩=some (.slice a2 n2 c2):=by rw [hW0,hX];simp
 have x6:W0.cell? ⟨X,6,none⟩=some (.slice ak nk ck):=by rw [hW0,hX];simp
 have x7:W0.cell? ⟨X,7,none⟩=some (.string lg):=by rw [hW0,hX];simp
 have x8:W0.cell? ⟨X,8,none⟩=some (iT sf):=by rw [hW0,hX];simp
 have x9:W0.cell? ⟨X,9,none⟩=some (.slice d0 m0 e0):=by rw [hW0,hX];simp
 have x10:W0.cell? ⟨X,10,none⟩=some (.slice d1 m1 e1):=by rw [hW0,hX];simp
 have x11:W0.cell? ⟨X,11,none⟩=some (.slice d2 m2 e2):=by rw [hW0,hX];simp
 have x12:W0.cell? ⟨X,12,none⟩=some (iT sd):=by rw [hW0,hX];simp
 have br:aC W0 (X+1) (.bool false) (iT 0) nZ nZ nZ (.string ⟨#[]⟩) (iT 0) nZ (iT 0):=by
  have:=aC.new (w.alloc (.cells #[.bool up,iT q,.slice am nm cm,.slice a0 n0 c0,.slice a1 n1 c1,.slice a2 n2 c2,.slice ak nk ck,.string lg,iT sf,.slice d0 m0 e0,.slice d1 m1 e1,.slice d2 m2 e2,iT sd] 90)) 40 (.bool false) (iT 0) nZ nZ nZ (.string ⟨#[]⟩) (iT 0) nZ (iT 0);rw [World.size_alloc] at this;rw [hW0,hX];exact this
 have hsz:W0.heap.size=X+1+1:=by rw [hW0,hX];simp
 have BR:Hid (aC W0 (X+1) (.bool false) (iT 0) nZ nZ nZ (.string ⟨#[]⟩) (iT 0) nZ (iT 0)):=br;have HXW:Hid (X=w.heap.size):=hX;have HSZ:Hid (W0.heap.size=X+1+1):=hsz;have KW:Hid (Bl w W0):=kW;have CT:Hid (∀w',Bl W0 w'→Calls Tryz.prog 89 #[.agg #[iT q,.slice am nm cm,.slice a0 n0 c0,.slice a1 n1 c1,.slice a2 n2 c2,.slice ak nk ck]] w' (Bs q nm nk M [A,B,C] S w')):=fun w' k=>HT w' (kW.trans (k.mono kW.size))
 have CD:Hid (∀w',Bl W0 w'→Calls Tryz.prog 88 #[.agg #[.string lg,iT sf,.slice d0 m0 e0,.slice d1 m1 e1,.slice d2 m2 e2,iT sd]] w' (AV lg sf sd U w')):=fun w' k=>HD w' (kW.trans (k.mono kW.size))
 have k0:Bl W0 W0.drew:=(Below.refl _ W0).drew;have HMK:Hid (∀w',Bl W0 w'→(w'.cell? ⟨X,0,none⟩=some (.bool up)∧w'.cell? ⟨X,7,none⟩=some (.string lg)∧w'.cell? ⟨X,8,none⟩=some (iT sf)∧w'.cell? ⟨X,9,none⟩=some (.slice d0 m0 e0)∧w'.cell? ⟨X,10,none⟩=some (.slice d1 m1 e1)∧w'.cell? ⟨X,11,none⟩=some (.slice d2 m2 e2)∧w'.cell? ⟨X,12,none⟩=some (iT sd)∧X<w'.heap.size)):=fun w' kk=>⟨cell_later kk x0,cell_later kk x7,cell_later kk x8,cell_later kk x9,cell_later kk x10,cell_later kk x11,cell_later kk x12,World.block_lt_of_cell? _ _ (cell_later kk x0)⟩
 clear br kW HT HD hsz;go_enter Tryz.func49,Tryz.ntmps49
 go_upto_region 1 with fail
 rw [← hX,← hW0];clear hX hW0;go_cut [3] (fun s3 wx=>∃(P ub hz:Nat),s3=.pointer (pT P)∧aC wx P (.bool up) (iT 0) nZ nZ nZ (.string lg) (iT sf) (sL ub 3 3) (iT sd)∧(hz≤wx.heap.size∧∀w',wx.grownBy w' (some P)→Bt W0.heap.size hz w' ub U)∧W0.heap.size≤P∧Bl W0 wx)
 case first =>
  refine dC HMK k0 fun aa=>?_
  generalize W0.drew=wd at k0 aa ⊢;refine aK 0 4 aa ?_;refine uv 4 6 (fun K hK=>?_) (fun K hK=>?_)
  · go_simp;refine (CD.out _ k0).mono ?_;rintro e we ⟨ub,gd,bd,ed,rfl,hU0,be⟩;have k0e:Bl W0 we:=k0.trans (be.mono k0.size);obtain ⟨hz,hhz⟩:=aw we.heap.size;rw [← hhz] at hU0;have hU:bQ W0.heap.size hz we ub 3 U gd bd ed:=hU0.lower k0.size (Nat.le_refl _);have hzl:hz≤we.heap.size:=Nat.le_of_eq hhz;have HZL:=ar hzl;clear be hU0 hhz hzl;go_wp2_with fail
    refine hK.out _ _ (HMK.out _ k0e) fun aa=>?_
    (try go_frame);refine aK 5 1 aa ?_;refine aP 6 fun K hK=>?_
    go_simp;have bp:Bl we (we.alloc (.cells #[.bool false,iT 0,nZ,nZ,nZ,.string ⟨#[]⟩,iT 0,nZ,iT 0] 40)):=bZ;have hp:=aC.new we 40 (.bool false) (iT 0) nZ nZ nZ (.string ⟨#[]⟩) (iT 0) nZ (iT 0);have k0ep:Bl W0 (we.alloc (.cells #[.bool false,iT 0,nZ,nZ,nZ,.string ⟨#[]⟩,iT 0,nZ,iT 0] 40)):=k0e.trans (bp.mono k0e.size);have hU:∀w',(we.alloc (.cells #[.bool false,iT 0,nZ,nZ,nZ,.string ⟨#[]⟩,iT 0,nZ,iT 0] 40)).grownBy w' (some we.heap.size)→Bt W0.heap.size hz w' ub U:=fun w' hg=>⟨_,_,_,hU.below (nL bp hg)⟩
    have hzp:=Nat.le_trans HZL.out bp.size;have HZP:=ar hzp;clear hzp HZL;have hPw:W0.heap.size≤we.heap.size:=k0e.size;generalize we.alloc (.cells #[.bool false,iT 0,nZ,nZ,nZ,.string ⟨#[]⟩,iT 0,nZ,iT 0] 40)=wp at hp k0ep bp hU HZP ⊢;generalize we.heap.size=P at hp hPw hU ⊢;clear bp;refine hK.out _ _ (HMK.out _ k0ep) fun aa=>?_
    (try go_frame);refine aP 7 fun K hK=>?_
    have c0:=hp.all;go_simp;have kz:=((((((mf k0ep hPw (.bool up) (iT 0) nZ nZ).setCell (p:=⟨P,4,none⟩) hPw nZ).setCell (p:=⟨P,5,none⟩) hPw (.string lg)).setCell (p:=⟨P,6,none⟩) hPw (iT sf)).setCell (p:=⟨P,7,none⟩) hPw (sL ub 3 3)).setCell (p:=⟨P,8,none⟩) hPw (iT sd));have hq:=(((((((((hp.set0 (.bool up)).set1 (iT 0)).set2 nZ).set3 nZ).set4 nZ).set5 (.string lg)).set6 (iT sf)).set7 (sL ub 3 3)).set8 (iT sd));have hU:=fun w' (hg:World.grownBy _ w' (some P))=>hU w' (fG ((aO ((aO ((aO ((aO ((aO ((aO ((aO ((aO ((aO (fP wp P) 0 (.bool up))) 1 (iT 0))) 2 nZ)) 3 nZ)) 4 nZ)) 5 (.string lg))) 6 (iT sf))) 7 (sL ub 3 3))) 8 (iT sd))) hg)
    clear c0;refine hK.out _ _ (HMK.out _ kz) fun aa=>?_
    (try go_frame);refine dN ?_;go_wp2;go_meet
    exact ⟨P,ub,hz,rfl,hq,⟨by simpa [World.setCell] using HZP.out,hU⟩,hPw,kz⟩
  · go_simp;have bp:Bl wd (wd.alloc (.cells #[.bool false,iT 0,nZ,nZ,nZ,.string ⟨#[]⟩,iT 0,nZ,iT 0] 40)):=bZ;have hp:=aC.new wd 40 (.bool false) (iT 0) nZ nZ nZ (.string ⟨#[]⟩) (iT 0) nZ (iT 0);have k0p:Bl W0 (wd.alloc (.cells #[.bool false,iT 0,nZ,nZ,nZ,.string ⟨#[]⟩,iT 0,nZ,iT 0] 40)):=k0.trans (bp.mono k0.size);have hPw:W0.heap.size≤wd.heap.size:=k0.size;generalize wd.alloc (.cells #[.bool false,iT 0,nZ,nZ,nZ,.string ⟨#[]⟩,iT 0,nZ,iT 0] 40)=wp at hp k0p bp  ⊢;generalize wd.heap.size=P at hp hPw  ⊢;clear bp;refine hK.out _ _ (HMK.out _ k0p) fun aa=>?_
    (try go_frame);refine aP 4 fun K hK=>?_
    go_simp;have lp:=hp.lt;refine (CD.out _ k0p).mono ?_;rintro e we ⟨ub,gd,bd,ed,rfl,hU0,be⟩;have k0pe:Bl W0 we:=k0p.trans (be.mono k0p.size);have hp:=hp.keep be;obtain ⟨hz,hhz⟩:=aw we.heap.size;rw [← hhz] at hU0;have HZP:Hid (hz≤we.heap.size):=Nat.le_of_eq hhz;have hU:∀w',we.grownBy w' (some P)→Bt W0.heap.size hz w' ub U:=fun w' hg=>⟨_,_,_,(hU0.grownP hg lp).lower k0p.size (Nat.le_refl _)⟩
    clear lp hhz;clear be hU0;go_wp2_with fail
    refine hK.out _ _ (HMK.out _ k0pe) fun aa=>?_
    (try go_frame);refine aK 5 1 aa ?_;refine aP 7 fun K hK=>?_
    have c0:=hp.all;go_simp;have kz:=((((((mf k0pe hPw (.bool up) (iT 0) nZ nZ).setCell (p:=⟨P,4,none⟩) hPw nZ).setCell (p:=⟨P,5,none⟩) hPw (.string lg)).setCell (p:=⟨P,6,none⟩) hPw (iT sf)).setCell (p:=⟨P,7,none⟩) hPw (sL ub 3 3)).setCell (p:=⟨P,8,none⟩) hPw (iT sd));have hq:=(((((((((hp.set0 (.bool up)).set1 (iT 0)).set2 nZ).set3 nZ).set4 nZ).set5 (.string lg)).set6 (iT sf)).set7 (sL ub 3 3)).set8 (iT sd));have hU:=fun w' (hg:World.grownBy _ w' (some P))=>hU w' (fG ((aO ((aO ((aO ((aO ((aO ((aO ((aO ((aO ((aO (fP we P) 0 (.bool up))) 1 (iT 0))) 2 nZ)) 3 nZ)) 4 nZ)) 5 (.string lg))) 6 (iT sf))) 7 (sL ub 3 3))) 8 (iT sd))) hg)
    clear c0;refine hK.out _ _ (HMK.out _ kz) fun aa=>?_
    (try go_frame);refine dN ?_;go_wp2;go_meet
    exact ⟨P,ub,hz,rfl,hq,⟨by simpa [World.setCell] using HZP.out,hU⟩,hPw,kz⟩
 case rest =>
  obtain ⟨P,ub,hz,rfl,hbox,⟨hzl,hU⟩,hPw,hbw⟩:=hcut;have HU:=ar hU;have HZL:=ar hzl;have HBW:Hid (Bl W0 wc):=hbw;have y0:=cell_later hbw x0;have zy:=World.block_lt_of_cell? _ _ y0;simp only at zy;clear hU hzl k0 HMK CD;cases up with
  | false =>
   have c0':=hbox.all;have bq:=BR.out.keep hbw;have d0:=bq.all;have HBQ:Hid (aC wc (X+1) (.bool false) (iT 0) nZ nZ nZ (.string ⟨#[]⟩) (iT 0) nZ (iT 0)):=bq;clear bq hbw hbox;go_wp2;refine bodyPost_ret (v:=.agg #[.bool false,iT 0,nZ,nZ,nZ,.string lg,iT sf,sL ub 3 3,iT sd]) ?_ rfl ?_
   · have c:=(((((((((HBQ.out.set0 (.bool false)).set1 (iT 0)).set2 nZ).set3 nZ).set4 nZ).set5 (.string lg)).set6 (iT sf)).set7 (sL ub 3 3)).set8 (iT sd));simp [results,Tryz.results49,go_sem,c.all]
   · obtain ⟨gd,bd,ed,l0⟩:=HU.out wc (fP _ _);refine ⟨ub,gd,bd,ed,rfl,?_,?_⟩
     · have hsz:=HSZ.out;have hxw:=HXW.out;have kf:=dz wc (X+1) (.bool false) (iT 0) nZ nZ nZ (.string lg) (iT sf) (sL ub 3 3) (iT sd);exact (l0.keepP kf (by omega)).lower (by omega) (Nat.le_trans HZL.out kf.size)
     · have hx:w.heap.size≤X+1:=by have:=HXW.out;omega
       exact ((((((((((KW.out.trans (HBW.out.mono KW.out.size)).setCell (p:=⟨X+1,0,none⟩) hx _).setCell (p:=⟨X+1,1,none⟩) hx _).setCell (p:=⟨X+1,2,none⟩) hx _).setCell (p:=⟨X+1,3,none⟩) hx _).setCell (p:=⟨X+1,4,none⟩) hx _).setCell (p:=⟨X+1,5,none⟩) hx _).setCell (p:=⟨X+1,6,none⟩) hx _).setCell (p:=⟨X+1,7,none⟩) hx _).setCell (p:=⟨X+1,8,none⟩) hx _)
  | true =>
   have y1:=cell_later hbw x1;have y2:=cell_later hbw x2;have y3:=cell_later hbw x3;have y4:=cell_later hbw x4;have y5:=cell_later hbw x5;have y6:=cell_later hbw x6;have HBX:Hid (aC wc P (.bool true) (iT 0) nZ nZ nZ (.string lg) (iT sf) (sL ub 3 3) (iT sd)):=hbox;clear hbw hbox;go_wp2_with fail
   refine (CT.out _ HBW.out).mono ?_;rintro e w2 ⟨eb,vb,sb,gs,bs,es,rfl,_,hT,hb2⟩;have hbox:=HBX.out.keep hb2;have c0':=hbox.all;have K2:Hid (Bl W0 w2):=HBW.out.trans (hb2.mono HBW.out.size);have bq:=BR.out.keep K2.out;have hPl:=HBX.out.lt;obtain ⟨w3,hw3⟩:=aw (((((w2.setCell ⟨P,1,none⟩ (iT q)).setCell ⟨P,2,none⟩ (sL eb nm nm)).setCell ⟨P,3,none⟩ (sL vb 3 3)).setCell ⟨P,4,none⟩ (sL sb nk nk)));have HB3:Hid (aC w3 P (.bool true) (iT q) (sL eb nm nm) (sL vb 3 3) (sL sb nk nk) (.string lg) (iT sf) (sL ub 3 3) (iT sd)):=by rw [hw3];exact ((((hbox.set1 (iT q)).set2 (sL eb nm nm)).set3 (sL vb 3 3)).set4 (sL sb nk nk))
   have g23:w2.grownBy w3 (some P):=by rw [hw3];exact (aO ((aO ((aO ((aO (fP w2 P) 1 (iT q))) 2 (sL eb nm nm))) 3 (sL vb 3 3))) 4 (sL sb nk nk))
   have K3:Hid (Bl W0 w3):=by rw [hw3];exact ((((K2.out.setCell (p:=⟨P,1,none⟩) hPw _).setCell (p:=⟨P,2,none⟩) hPw _).setCell (p:=⟨P,3,none⟩) hPw _).setCell (p:=⟨P,4,none⟩) hPw _)
   obtain ⟨mz,hmz⟩:=aw wc.heap.size;obtain ⟨tz,htz⟩:=aw w2.heap.size;rw [← hmz,← htz] at hT;have hT3:dG mz tz w3 eb nm vb 3 sb nk M [A,B,C] S gs bs es:=hT.keepO (lo':=P) (hi':=P+1) (aI.of_grown g23) (by omega);have HMZ:Hid (P<mz∧hz≤mz∧tz≤w3.heap.size∧mz≤tz):=by
    have h1:=HZL.out;have h2:=g23.size;have h3:=hb2.size;show _∧_∧_∧_
    omega
   have HT3:=ar hT3;have HU3:=ar (HU.out w3 (fG (ww hb2) g23));have hXP:P≠X+1:=by have:=HSZ.out;omega
   have HBQ:Hid (aC w3 (X+1) (.bool false) (iT 0) nZ nZ nZ (.string ⟨#[]⟩) (iT 0) nZ (iT 0)):=by rw [hw3];exact ((((bq.other hXP _).other hXP _).other hXP _).other hXP _)
   have p0:=HB3.out.all;have d0:=HBQ.out.all;have HWC:Hid (W0.heap.size≤wc.heap.size):=HBW.out.size;clear hb2 hT hT3 g23 bq hbox hmz htz;go_upto_region 4 with fail
   try rw [← hw3]
   clear hw3;go_wp2;refine bodyPost_ret (v:=.agg #[.bool true,iT q,sL eb nm nm,sL vb 3 3,sL sb nk nk,.string lg,iT sf,sL ub 3 3,iT sd]) ?_ rfl ?_
   · have c:=(((((((((HBQ.out.set0 (.bool true)).set1 (iT q)).set2 (sL eb nm nm)).set3 (sL vb 3 3)).set4 (sL sb nk nk)).set5 (.string lg)).set6 (iT sf)).set7 (sL ub 3 3)).set8 (iT sd));simp [results,Tryz.results49,go_sem,c.all]
   · obtain ⟨gd,bd,ed,l3⟩:=HU3.out;refine ⟨eb,vb,sb,ub,mz,gs,bs,es,gd,bd,ed,rfl,?_,?_,?_,?_⟩
     · have hsz:=HSZ.out;have hxw:=HXW.out;have kf:=dz w3 (X+1) (.bool true) (iT q) (sL eb nm nm) (sL vb 3 3) (sL sb nk nk) (.string lg) (iT sf) (sL ub 3 3) (iT sd);exact (l3.keepP kf (by omega)).lower (by omega) HMZ.out.2.1
     · have hsz:=HSZ.out;have hmz:=HMZ.out;have kf:=dz w3 (X+1) (.bool true) (iT q) (sL eb nm nm) (sL vb 3 3) (sL sb nk nk) (.string lg) (iT sf) (sL ub 3 3) (iT sd);exact (HT3.out.keepO kf (by omega)).upper (Nat.le_trans hmz.2.2.1 kf.size)
     · have hsz:=HSZ.out;have hxw:=HXW.out;have hmz:=HMZ.out;have kf:=dz w3 (X+1) (.bool true) (iT q) (sL eb nm nm) (sL vb 3 3) (sL sb nk nk) (.string lg) (iT sf) (sL ub 3 3) (iT sd);exact ⟨by omega,Nat.le_trans hmz.2.2.2 (Nat.le_trans hmz.2.2.1 kf.size)⟩
     · have hx:w.heap.size≤X+1:=by have:=HXW.out;omega
       exact ((((((((((KW.out.trans (K3.out.mono KW.out.size)).setCell (p:=⟨X+1,0,none⟩) hx _).setCell (p:=⟨X+1,1,none⟩) hx _).setCell (p:=⟨X+1,2,none⟩) hx _).setCell (p:=⟨X+1,3,none⟩) hx _).setCell (p:=⟨X+1,4,none⟩) hx _).setCell (p:=⟨X+1,5,none⟩) hx _).setCell (p:=⟨X+1,6,none⟩) hx _).setCell (p:=⟨X+1,7,none⟩) hx _).setCell (p:=⟨X+1,8,none⟩) hx _)
def Cj (ok up:Bool) (A B C:Prop):Prop:=(ok=false→A)∧(ok=true→up=true→B)∧(ok=true→up=false→C)
theorem aC.keepO {u0 u1 u2 u3 u4 u5 u6 u7 u8:Value} (h:aC w b u0 u1 u2 u3 u4 u5 u6 u7 u8) (k:aI lo hi w w') (hb:b<lo∨hi≤b):aC w' b u0 u1 u2 u3 u4 u5 u6 u7 u8 :=
 ⟨dK k hb h.c0,dK k hb h.c1,dK k hb h.c2,dK k hb h.c3,dK k hb h.c4,dK k hb h.c5,dK k hb h.c6,dK k hb h.c7,dK k hb h.c8,fun o=>(World.frozen?_of_block (k.block b h.lt hb)).trans (h.fz o)⟩
def gH (lo hi:Nat) (w:World) (d:Option Addr) (nd:Nat) (U:List (List aq)) (gd bd:Nat→Nat) (ed:Nat→Nat→Nat):Prop :=
 (∃b,d=some ⟨b,0,none⟩∧bQ lo hi w b nd U gd bd ed)∨(d=none∧nd=0∧U=[])
theorem gH.below (h:gH lo hi w d nd U gd bd ed) (hb:Bl w w'):gH lo hi w' d nd U gd bd ed:=by
 rcases h with ⟨b,h1,h2⟩ | h
 · exact .inl ⟨b,h1,h2.below hb⟩
 · exact .inr h
theorem gH.keepO (h:gH lo hi w d nd U gd bd ed) (k:aI lo' hi' w w') (hd:hi'≤lo∨hi≤lo'):gH lo hi w' d nd U gd bd ed:=by
 rcases h with ⟨b,h1,h2⟩ | h
 · obtain ⟨xs,r1,_⟩:=h2.row;have g1:=(r1.lt b rfl).1;have g2:=h2.bot;have g3:=h2.top;have g4:=h2.up 0 nd (by omega) (by omega);exact .inl ⟨b,h1,h2.keepO k (by omega) (by omega)⟩
 · exact .inr h
theorem pX (lo:Nat) (w:World):au lo w none 0 0 [] :=
 ⟨rfl,Nat.le_refl _,Nat.zero_le _,fun _=>rfl,(fun x e=>by cases e),(fun x e=>by cases e)⟩
theorem gH.levelsIn (h:gH lo hi w d nd U gd bd ed):au 0 w d nd nd U:=by
 rcases h with ⟨b,rfl,h2⟩ | ⟨rfl,rfl,rfl⟩
 · exact h2.levelsIn.mono (Nat.zero_le _)
 · exact pX 0 w
theorem gH.len (h:gH lo hi w d nd U gd bd ed):U.length=nd:=by
 rcases h with ⟨b,rfl,h2⟩ | ⟨rfl,rfl,rfl⟩
 · exact h2.len
 · rfl
structure Wh where
 m:Nat
 gs:Nat→Nat
 bs:Nat→Nat
 es:Nat→Nat→Nat
 gd:Nat→Nat
 bd:Nat→Nat
 ed:Nat→Nat→Nat
structure fV (lo hi:Nat) (w:World) (am:Option Addr) (nm:Nat) (av:Option Addr) (nv:Nat) (ak:Option Addr) (ns:Nat) (d:Option Addr) (nd:Nat) (M:List ae) (V:List (List aq)) (S:List Int) (U:List (List aq)) (h:Wh):Prop where
 ord:lo≤h.m∧h.m≤hi
 tree:iZ h.m hi w am nm av nv ak ns M V S h.gs h.bs h.es
 disk:gH lo h.m w d nd U h.gd h.bd h.ed
theorem fV.below {x:Wh} (h:fV lo hi w am nm av nv ak ns d nd M V S U x) (hb:Bl w w'):fV lo hi w' am nm av nv ak ns d nd M V S U x:=⟨h.ord,h.tree.below hb,h.disk.below hb⟩
theorem fV.keepO {x:Wh} (h:fV lo hi w am nm av nv ak ns d nd M V S U x) (k:aI lo' hi' w w') (hd:hi'≤lo):fV lo hi w' am nm av nv ak ns d nd M V S U x:=⟨h.ord,h.tree.keepO k (Nat.le_trans hd h.ord.1),h.disk.keepO k (.inl hd)⟩
theorem fV.storeIn {x:Wh} (h:fV lo hi w am nm av nv ak ns d nd M V S U x) (hw:∀z ∈ S,(Lit.int .i64 z).wf=true):bU 0 w am nm nm av nv nv ak ns ns d nd nd M V S U:=⟨h.tree.treeIn hw,h.disk.levelsIn⟩
theorem tF (lg:ByteArray) (sf sd:Int) (lo hi nd k:Nat) (d:Option Addr) (U:List (List aq)) (gd bd:Nat→Nat) (ed:Nat→Nat→Nat) (w:World) (hR:gH lo hi w d nd U gd bd ed) (h0:nd≤1048576) (h2:∀B ∈ U,B.length≤1048576∧∀p ∈ B,p.1.length≤1048576) (hk:1≤k) (hn:k+cZ U≤1000000000) :
 Calls Tryz.prog 30 #[.agg #[.string lg,iT sf,.slice d nd nd,iT sd],iT k] w fun e w'=>e=.returned (iT ((k+cZ U:Nat):Int))∧gH lo hi w' d nd (eu k U) gd bd ed∧aI lo hi w w':=by
 obtain ⟨W,hW⟩:=aw (w.alloc (.cells #[.string lg,iT sf,.slice d nd nd,iT sd] 38));have kW:Bl w W:=by rw [hW];exact bZ
 have hRW:=hR.below kW;have K0:Hid (aI lo hi w W):=aI.of_below kW;obtain ⟨K1,hK1⟩:=aw (k+cZ U);have CL:Calls Tryz.prog 57 #[.slice d nd nd,iT k] W fun e w'=>e=.returned (iT (K1:Int))∧gH lo hi w' d nd (eu k U) gd bd ed∧aI lo hi W w':=by
  rw [hK1];rcases hRW with ⟨b,rfl,h4⟩ | ⟨rfl,rfl,rfl⟩
  · have g2:=h4.bot;have g3:=h4.top;refine (mZ lo hi b nd k U gd bd ed W h4 h0 h2 hk hn).mono ?_;rintro e w' ⟨rfl,h5,h6⟩;exact ⟨rfl,.inl ⟨b,rfl,h5⟩,h6.mono (by omega) (by omega)⟩
  · refine (ky k W).mono ?_;rintro e w' ⟨rfl,rfl⟩;exact ⟨by simp [cZ],.inr ⟨rfl,rfl,by simp [eu]⟩,aI.refl _ _ _⟩
 rw [← hK1];clear kW hR hRW h2 hK1;go_enter Tryz.func30,Tryz.ntmps30
 go_wp2_with fail
 rw [← hW];clear hW;refine CL.mono ?_;rintro e w1 ⟨rfl,hR1,hk1⟩;have HR1:=ar hR1;have HK1:Hid (aI lo hi w w1):=K0.out.trans hk1;clear hR1 hk1 CL;go_wp2;go_ret;exact ⟨rfl,HR1.out,HK1.out⟩
theorem tS (lg:ByteArray) (sf sd:Int) (lo hi nd k:Nat) (d:Option Addr) (U:List (List aq)) (gd bd:Nat→Nat) (ed:Nat→Nat→Nat) (w:World) (hR:gH lo hi w d nd (eu k U) gd bd ed) (h0:nd≤1048576) (h2:∀B ∈ U,B.length≤1048576∧∀p ∈ B,p.1.length≤1048576) (hk:1≤k) (hn:k+cZ U≤1000000000) :
 Calls Tryz.prog 33 #[.agg #[.string lg,iT sf,.slice d nd nd,iT sd],iT k] w fun e w'=>e=.returned (iT ((k+cZ U:Nat):Int))∧Bl w w':=by
 obtain ⟨W,hW⟩:=aw (w.alloc (.cells #[.string lg,iT sf,.slice d nd nd,iT sd] 38));have kW:Bl w W:=by rw [hW];exact bZ
 have hRW:=hR.below kW;have K0:=ar kW;obtain ⟨K1,hK1⟩:=aw (k+cZ U);have CL:Calls Tryz.prog 60 #[.slice d nd nd,iT k] W fun e w'=>e=.returned (iT (K1:Int))∧Bl W w':=by
  rw [hK1];rcases hRW with ⟨b,rfl,h4⟩ | ⟨rfl,rfl,h5⟩
  · exact nu lo hi b nd k U gd bd ed W h4 h0 h2 hk hn
  · have hv:U=[]:=by
     have h8:=congrArg List.length h5;rw [fO] at h8;exact List.length_eq_zero_iff.1 h8
    subst hv;refine (kE k W).mono ?_;rintro e w' ⟨rfl,rfl⟩;exact ⟨by simp [cZ],Below.refl _ _⟩
 rw [← hK1];have hK0:¬(K1:Int)<0:=by omega
 clear kW hR hRW h2 hK1;go_enter Tryz.func33,Tryz.ntmps33
 go_wp2_with fail
 rw [← hW];clear hW;refine CL.mono ?_;rintro e w1 ⟨rfl,hb1⟩;have HB1:Hid (Bl w w1):=K0.out.trans (hb1.mono K0.out.size);clear hb1 CL;go_wp2;go_ret;exact ⟨rfl,HB1.out⟩
def uP (M:List ae) (V:List (List aq)) (S:List Int) (U:List (List aq)):Prop:=Br M V S∧U.length≤1048576∧(∀B ∈ U,B.length≤1048576∧∀p ∈ B,p.1.length≤1048576)∧1+5*M.length+cZ V+S.length+cZ U≤1000000000
def Bv (nm ns:Nat) (V U:List (List aq)):Nat:=1+5*nm+cZ V+ns+cZ U
theorem Bd (up:Bool) (q:Int) (lg:ByteArray) (sf sd:Int) (lo hi nm nv ns nd:Nat) (am av ak d:Option Addr) (M:List ae) (V:List (List aq)) (S:List Int) (U:List (List aq)) (x:Wh) (w:World) (hT:fV lo hi w am nm av nv ak ns d nd M V S U x) (hhi:hi≤w.heap.size) (hf:uP M V S U) :
 Calls Tryz.prog 12 #[.agg #[.bool up,iT q,.slice am nm nm,.slice av nv nv,.slice ak ns ns,.string lg,iT sf,.slice d nd nd,iT sd],iT 1] w fun e w'=>e=.returned (iT (Bv nm ns V U:Int))∧fV lo hi w' am nm av nv ak ns d nd (dc 1 nm) (eu (1+5*nm) V) (gY (1+5*nm+cZ V) ns) (eu (1+5*nm+cZ V+ns) U) x∧aI lo hi w w':=by
 obtain ⟨Y,hY⟩:=aw w.heap.size;obtain ⟨W,hW⟩:=aw (w.alloc (.cells #[.bool up,iT q,.slice am nm nm,.slice av nv nv,.slice ak ns ns,.string lg,iT sf,.slice d nd nd,iT sd] 40));have kW:Bl w W:=by rw [hW];exact bZ
 have bx:aC W Y (.bool up) (iT q) (.slice am nm nm) (.slice av nv nv) (.slice ak ns ns) (.string lg) (iT sf) (.slice d nd nd) (iT sd):=by rw [hW,hY];exact aC.new _ _ _ _ _ _ _ _ _ _ _
 have hTW:=hT.below kW;have hl:=hTW.tree.lens;have hdl:=hTW.disk.len;have hYH:hi≤Y:=by rw [hY];exact hhi
 have hWH:hi≤W.heap.size:=Nat.le_trans hhi kW.size;have hord:=hT.ord;have HT:=ar hTW;have HBX:=ar bx;have K0:Hid (aI lo hi w W):=aI.of_below kW;have CT:=AC q x.m hi nm nv ns am av ak M V S x.gs x.bs x.es W hTW.tree hWH hf.1;obtain ⟨K1,hK1⟩:=aw (1+5*nm+cZ V+ns);obtain ⟨K2,hK2⟩:=aw (K1+cZ U);have hK2':Bv nm ns V U=K2:=by rw [hK2,hK1];rfl
 have hbig:1+5*nm+cZ V+ns+cZ U≤1000000000:=by
  have h1:=hf.2.2.2;rw [hl.1,hl.2.2] at h1;exact h1
 have CD:Hid (∀w',gH lo x.m w' d nd U x.gd x.bd x.ed→Calls Tryz.prog 30 #[.agg #[.string lg,iT sf,.slice d nd nd,iT sd],iT (K1:Int)] w' fun e w''=>e=.returned (iT (K2:Int))∧gH lo x.m w'' d nd (eu K1 U) x.gd x.bd x.ed∧aI lo x.m w' w''):=by
  rw [hK2];have h5:nd≤1048576:=by have:=hf.2.1;omega
  exact fun w' h=>tF lg sf sd lo x.m nd K1 d U x.gd x.bd x.ed w' h h5 hf.2.2.1 (by omega) (by omega)
 rw [← hK1] at CT ⊢;rw [hK2'];have HO:=ar hord;have HYH:=ar hYH;have x5:=bx.all;clear kW bx hT hTW hf hl hdl hYH hord hK1 hK2 hK2' hbig;go_enter Tryz.func12,Tryz.ntmps12
 go_wp2_with fail
 rw [← hW];try rw [← hY]
 clear hW hY;refine CT.mono ?_;rintro e w1 ⟨rfl,hR1,hk1⟩;have h1:=HO.out;have h2:=HYH.out;have b1:=HBX.out.keepO hk1 (.inr (by omega));have HD1:=ar (HT.out.disk.keepO hk1 (.inr (Nat.le_refl _)));have HT1:=ar hR1;have HK1:Hid (aI lo hi w w1):=K0.out.trans (hk1.mono (by omega) (by omega));have y5:=b1.all;clear hR1 hk1 b1 h1 h2 CT x5 hWH;go_wp2_with fail
 refine (CD.out _ HD1.out).mono ?_;rintro e w2 ⟨rfl,hR2,hk2⟩;have HD2:=ar hR2;have HT2:=ar (HT1.out.keepO hk2 (Nat.le_refl _));have h1:=HO.out;have HK2:Hid (aI lo hi w w2):=HK1.out.trans (hk2.mono (Nat.le_refl _) (by omega));clear hR2 hk2 h1 y5;go_wp2;go_ret;exact ⟨rfl,⟨HO.out,HT2.out,HD2.out⟩,HK2.out⟩
theorem Bg (up:Bool) (q:Int) (lg:ByteArray) (sf sd:Int) (lo hi nm nv ns nd:Nat) (am av ak d:Option Addr) (M:List ae) (V:List (List aq)) (S:List Int) (U:List (List aq)) (x:Wh) (w:World) (hT:fV lo hi w am nm av nv ak ns d nd (dc 1 nm) (eu (1+5*nm) V) (gY (1+5*nm+cZ V) ns) (eu (1+5*nm+cZ V+ns) U) x) (hm:M.length=nm) (hs:S.length=ns) (hf:uP M V S U) :
 Calls Tryz.prog 14 #[.agg #[.bool up,iT q,.slice am nm nm,.slice av nv nv,.slice ak ns ns,.string lg,iT sf,.slice d nd nd,iT sd],iT 1] w fun e w'=>e=.returned (iT (Bv nm ns V U:Int))∧Bl w w':=by
 obtain ⟨Y,hY⟩:=aw w.heap.size;obtain ⟨W,hW⟩:=aw (w.alloc (.cells #[.bool up,iT q,.slice am nm nm,.slice av nv nv,.slice ak ns ns,.string lg,iT sf,.slice d nd nd,iT sd] 40));have kW:Bl w W:=by rw [hW];exact bZ
 have bx:aC W Y (.bool up) (iT q) (.slice am nm nm) (.slice av nv nv) (.slice ak ns ns) (.string lg) (iT sf) (.slice d nd nd) (iT sd):=by rw [hW,hY];exact aC.new _ _ _ _ _ _ _ _ _ _ _
 have hTW:=hT.below kW;have HT:=ar hTW;have HBX:=ar bx;have K0:=ar kW;have hdl:=hTW.disk.len;rw [fO] at hdl;have CT:=AF q x.m hi nm nv ns am av ak V x.gs x.bs x.es W hTW.tree M S hm hs hf.1;obtain ⟨K1,hK1⟩:=aw (1+5*nm+cZ V+ns);obtain ⟨K2,hK2⟩:=aw (K1+cZ U);have hK2':Bv nm ns V U=K2:=by rw [hK2,hK1];rfl
 have hbig:1+5*nm+cZ V+ns+cZ U≤1000000000:=by
  have h1:=hf.2.2.2;rw [hm,hs] at h1;exact h1
 have CD:Hid (∀w',Bl W w'→Calls Tryz.prog 33 #[.agg #[.string lg,iT sf,.slice d nd nd,iT sd],iT (K1:Int)] w' fun e w''=>e=.returned (iT (K2:Int))∧Bl w' w''):=by
  have h5:nd≤1048576:=by have:=hf.2.1;omega
  have hd:=hTW.disk;rw [← hK1] at hd;rw [hK2];exact fun w' h=>tS lg sf sd lo x.m nd K1 d U x.gd x.bd x.ed w' (hd.below h) h5 hf.2.2.1 (by omega) (by omega)
 rw [← hK1] at CT;rw [hK2'];have hn1:¬(K1:Int)<0:=by omega
 have hn2:¬(K2:Int)<0:=by omega
 have x5:=bx.all;clear kW bx hT hTW hf hdl hK1 hK2 hK2' hbig;go_enter Tryz.func14,Tryz.ntmps14
 go_wp2_with fail
 rw [← hW];try rw [← hY]
 clear hW hY;refine CT.mono ?_;rintro e w1 ⟨rfl,hb1⟩;have b1:=HBX.out.keep hb1;have HK1:=ar hb1;have HB1:Hid (Bl w w1):=K0.out.trans (hb1.mono K0.out.size);have y5:=b1.all;clear hb1 b1 CT x5;go_wp2_with fail
 refine (CD.out _ HK1.out).mono ?_;rintro e w2 ⟨rfl,hb2⟩;have HB2:Hid (Bl w w2):=HB1.out.trans (hb2.mono HB1.out.size);clear hb2 y5;go_wp2;go_ret;exact ⟨rfl,HB2.out⟩
def BJ (up:Bool) (q:Int) (M:List ae) (V:List (List aq)) (S:List Int) (lg:ByteArray) (sf sd:Int) (U:List (List aq)) (w:World) (e:Ending) (w':World):Prop :=
 ∃am nm av nv ak ns d nd x,e=.returned (.agg #[.bool up,iT q,.slice am nm nm,.slice av nv nv,.slice ak ns ns,.string lg,iT sf,.slice d nd nd,iT sd])∧fV w.heap.size w'.heap.size w' am nm av nv ak ns d nd M V S U x∧Bl w w'
structure dS (w6 wi:World) (Y:Nat) (y0 y1 y2 y3 y4 y5 y6 y7 y8:Value) (G:Nat) (g0 g1:Value) (g5 g6 g8:Value) (lo hi:Nat) (am:Option Addr) (nm:Nat) (av:Option Addr) (nv:Nat) (ak:Option Addr) (ns:Nat) (d:Option Addr) (nd:Nat) (M:List ae) (V:List (List aq)) (S:List Int) (U:List (List aq)) (x:Wh):Prop where
 low:Bl w6 wi
 hy:aC wi Y y0 y1 y2 y3 y4 y5 y6 y7 y8
 hg:aC wi G g0 g1 (.slice am nm nm) (.slice av nv nv) (.slice ak ns ns) g5 g6 (.slice d nd nd) g8
 res:fV lo hi wi am nm av nv ak ns d nd M V S U x
theorem dS.below {x:Wh} (h:dS w6 wi Y y0 y1 y2 y3 y4 y5 y6 y7 y8 G g0 g1 g5 g6 g8 lo hi am nm av nv ak ns d nd M V S U x) (hb:Bl wi wj):dS w6 wj Y y0 y1 y2 y3 y4 y5 y6 y7 y8 G g0 g1 g5 g6 g8 lo hi am nm av nv ak ns d nd M V S U x :=
 ⟨h.low.trans (hb.mono h.low.size),h.hy.keep hb,h.hg.keep hb,h.res.below hb⟩
theorem dS.markX {a:Nat} {x:Wh} (h:dS w6 wi Y y0 y1 y2 y3 y4 y5 y6 y7 y8 G g0 g1 g5 g6 g8 lo hi am nm av nv ak ns d nd M V S U x) (hk:aQ a b wi wj) (ha:w6.heap.size≤a) (hY:b≤Y) (hl:b≤lo) (hG:b≤G):dS w6 wj Y y0 y1 y2 y3 y4 y5 y6 y7 y8 G g0 g1 g5 g6 g8 lo hi am nm av nv ak ns d nd M V S U x :=
 ⟨h.low.trans (hk.below ha h.low.size),h.hy.keepO (aI.of_mark hk) (.inr hY),h.hg.keepO (aI.of_mark hk) (.inr hG),h.res.keepO (aI.of_mark hk) hl⟩
theorem dS.markG {M':List ae} {V':List (List aq)} {S':List Int} {U':List (List aq)} {x:Wh} (h:dS w6 wi Y y0 y1 y2 y3 y4 y5 y6 y7 y8 G g0 g1 g5 g6 g8 lo hi am nm av nv ak ns d nd M V S U x) (hk:aI lo hi wi wj) (hr:fV lo hi wj am nm av nv ak ns d nd M' V' S' U' x) (ha:w6.heap.size≤lo) (hY:Y<lo) (hG:hi≤G):dS w6 wj Y y0 y1 y2 y3 y4 y5 y6 y7 y8 G g0 g1 g5 g6 g8 lo hi am nm av nv ak ns d nd M' V' S' U' x :=
 ⟨h.low.trans (hk.below ha h.low.size),h.hy.keepO hk (.inl hY),h.hg.keepO hk (.inr hG),hr⟩
theorem jV (a:List UInt8):(⟨a.toArray⟩:ByteArray).size=a.length:=by show a.toArray.size=_;simp
end Go.Proofs.YtehiefdphnljaaaGreatDoor
