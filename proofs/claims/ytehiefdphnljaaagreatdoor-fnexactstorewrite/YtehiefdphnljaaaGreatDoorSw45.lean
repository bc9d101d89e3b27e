/- Walks. -/
import Derived.Test.YtehiefdphnljaaaGreatDoorSw44
namespace Go.Proofs.YtehiefdphnljaaaGreatDoor
set_option maxRecDepth 100000
set_option maxHeartbeats 40000000
open Go.RowKit
variable {M:List ae} {P:List (List ae)} {S:List Int} {U V:List (List aq)} {X c k n:Nat} {a:Option Addr} {lg:ByteArray} {q sd sf:Int} {u:Bool} {v:Value} {w:World}
theorem ju {p:Addr} {x:Value} (hX:w.cell? ⟨X,0,none⟩=some (.bool u)) (h:w.cell? p=some x) (hx:∀b,x≠.bool b):(w.setCell ⟨X,0,none⟩ v).cell? p=some x:=by
 by_cases e:(⟨X,0,none⟩:Addr)=p
 · subst e;rw [hX] at h;cases h;exact absurd rfl (hx u)
 · rw [World.cell?_setCell_other _ _ _ _ e];exact h
theorem AK {L:List ae} (hX:w.cell? ⟨X,0,none⟩=some (.bool u)) (h:an w a n c L):an (w.setCell ⟨X,0,none⟩ v) a n c L where
 length:=h.length
 room:=h.room
 big:=h.big
 ents:=h.ents
 nil:=h.nil
 lies:=fun x e hp=>⟨by have:=(h.lies x e hp).1;simpa [World.setCell] using this,(h.lies x e hp).2⟩
 cells:=fun x e i hi=>by
  obtain ⟨h0,h1,h2,h3,h4⟩:=h.cells x e i hi
  exact ⟨ju hX h0 (fun _ e=>by cases e),ju hX h1 (fun _ e=>by cases e),ju hX h2 (fun _ e=>by cases e),ju hX h3 (fun _ e=>by cases e),ju hX h4 (fun _ e=>by cases e)⟩
theorem yJ (hX:w.cell? ⟨X,0,none⟩=some (.bool u)) (h:cI w a n c P):cI (w.setCell ⟨X,0,none⟩ v) a n c P where
 length:=h.length
 room:=h.room
 big:=h.big
 nil:=h.nil
 lies:=fun x e hp=>⟨by have:=(h.lies x e hp).1;simpa [World.setCell] using this,(h.lies x e hp).2⟩
 lists:=fun x e i hi=>by
  obtain ⟨s,m,d,c0,hL⟩:=h.lists x e i hi
  exact ⟨s,m,d,ju hX c0 (fun _ e=>by cases e),AK hX hL⟩
def OpD (lg:ByteArray) (sd:Int) (dv:Option Addr) (nd cd:Nat) (U:List (List aq)) (w:World) (e:Ending) (w':World):Prop:=∃(P:List (List ae)) (k g N cg G cG:Nat) (T:ByteArray),ce lg.data.toList P k∧T=⟨(fu (bD sd P)).toArray⟩∧e=.returned (.agg #[.bool true,iT (bh sd P),sL g N cg,sL G nd cG,nZ,.string T,iT (T.size:Int),.slice dv nd cd,iT sd])∧cT w.heap.size w' (pT g) N cg (bg (P.map (aS sd)).flatten)∧au w.heap.size w' (pT G) nd cG U∧Bl w w'
theorem yi (lo:Nat) (up:Bool) (q:Int) (am av ak dv:Option Addr) (nm cm nv cv ns cs nd cd:Nat) (lg:ByteArray) (sf sd:Int) (U:List (List aq)) (w:World) (hU:au lo w dv nd cd U) (hlg:lg.size≤1048576) (hnd:nd≤100) (hS:∀B ∈ U,B.length≤100∧∀r ∈ B,1≤r.1.length∧r.1.length≤10000) :
 Calls Tryz.prog 39 #[.agg #[.bool up,iT q,.slice am nm cm,.slice av nv cv,.slice ak ns cs,.string lg,iT sf,.slice dv nd cd,iT sd]] w (OpD lg sd dv nd cd U w):=by
 obtain ⟨X,hX⟩:=aw w.heap.size;obtain ⟨W,hW⟩:=aw ((w.alloc (.cells #[.bool up,iT q,.slice am nm cm,.slice av nv cv,.slice ak ns cs,.string lg,iT sf,.slice dv nd cd,iT sd] 40)).alloc (.cells #[.bool false,iT 0,nZ,nZ,nZ,.string ⟨#[]⟩,iT 0,nZ,iT 0] 40));have kW:Bl w W:=by rw [hW];exact bZ.alloc (by simp) _
 have bx:aC W X (.bool up) (iT q) (.slice am nm cm) (.slice av nv cv) (.slice ak ns cs) (.string lg) (iT sf) (.slice dv nd cd) (iT sd):=by rw [hW,hX];exact (aC.new _ _ _ _ _ _ _ _ _ _ _).alloc _
 have br:aC W (X+1) (.bool false) (iT 0) nZ nZ nZ (.string ⟨#[]⟩) (iT 0) nZ (iT 0):=by
  have:=aC.new (w.alloc (.cells #[.bool up,iT q,.slice am nm cm,.slice av nv cv,.slice ak ns cs,.string lg,iT sf,.slice dv nd cd,iT sd] 40)) 40 (.bool false) (iT 0) nZ nZ nZ (.string ⟨#[]⟩) (iT 0) nZ (iT 0);rw [World.size_alloc] at this;rw [hW,hX];exact this
 have HXW:=ar hX;have HBX:=ar bx;have HBR:=ar br;have HKW:=ar kW;have HU:=ar hU;have HS:=ar hS;have CR:=yd lg W hlg;have x0:=bx.c0;have x5:=bx.c5;have xz:=bx.lt;clear kW bx br hU hS;go_enter Tryz.func39,Tryz.ntmps39
 go_upto_region 1 with fail
 rw [← hX,← hW];clear hX hW;go_wp2_with fail
 refine CR.mono ?_;rintro e w1 ⟨⟨P,k,g,n,c,rfl,hwh,hP⟩,hb1⟩;have HWH:=ar hwh;have hz:nR P≤1048576:=by
  have h1:=(ja hwh).2;have h2:=jT hwh;have h3:lg.data.toList.length=lg.size:=by rw [Array.length_toList];rfl
  omega
 have hfl:P.flatten.length≤1048576:=Nat.le_trans (iO P) hz;have CM:=us (pT g) n c P sd w1 hP hfl;have HP1:=ar hP;have HZ:=ar hz;have b1:=HBX.out.keep hb1;have HB1:=ar b1;have HR1:=ar (HBR.out.keep hb1);have K1:Hid (Bl w w1):=HKW.out.trans (hb1.mono HKW.out.size);have a0:=b1.c0;have a8:=b1.c8;have az:=b1.lt;clear hwh hP hb1 hz hfl CR x0 x5 xz b1 HBX HBR;go_wp2_with fail
 refine CM.mono ?_;rintro e w2 ⟨g2,cg,rfl,hO,hb2⟩;obtain ⟨N,hN⟩:=aw (P.map (aS sd)).flatten.length;rw [← hN] at hO ⊢;have b2:=HB1.out.keep hb2;have HB2:=ar b2;have HR2:=ar (HR1.out.keep hb2);have K2:Hid (Bl w w2):=K1.out.trans (hb2.mono K1.out.size);have HG2:Hid (g2≠X∧g2≠X+1):=by
  have h1:=hO.lt.1;have h2:=HB1.out.lt;have h3:=HR1.out.lt;exact ⟨by omega,by omega⟩
 have HGL:Hid (w.heap.size≤g2):=Nat.le_trans K1.out.size hO.lt.1;have HM2:=ar hO.entsAt;have HP3:=ar (yJ (v:=.bool true) b2.c0 (HP1.out.keep hb2));have a0:=b2.c0;have a8:=b2.c8;have af:=b2.fz;have az:=b2.lt;clear hO hb2 hN CM b2 HB1 HR1 HP1;go_upto_region 4 with fail
 obtain ⟨w3,hw3⟩:=aw (w2.setCell ⟨X,0,none⟩ (.bool true));rw [← hw3];rw [← hw3] at HP3;have hx:w.heap.size≤X:=by have:=HXW.out;omega
 have hxx:X≠X+1:=by omega
 have HX:=ar hx;have HXX:=ar hxx;have HB3:Hid (aC w3 X (.bool true) (iT q) (.slice am nm cm) (.slice av nv cv) (.slice ak ns cs) (.string lg) (iT sf) (.slice dv nd cd) (iT sd)):=by rw [hw3];exact HB2.out.set0 _
 have HR3:Hid (aC w3 (X+1) (.bool false) (iT 0) nZ nZ nZ (.string ⟨#[]⟩) (iT 0) nZ (iT 0)):=by rw [hw3];exact HR2.out.other hxx _
 have K3:Hid (Bl w w3):=by rw [hw3];exact K2.out.setCell (p:=⟨X,0,none⟩) hx _
 have HM3:Hid (an w3 (pT g2) N cg (bg (P.map (aS sd)).flatten)):=by rw [hw3];exact HM2.out.setCell _ _ (fun x e _=>by cases e;exact HG2.out.1)
 have CL:=yq (pT g) n c P sd w3 HP3.out (jD HWH.out) HZ.out;have a8:=HB3.out.c8;have az:=HB3.out.lt;clear hw3 HB2 HR2 K2 HM2 a0 af hx hxx;go_wp2_with fail
 refine CL.mono ?_;rintro e w4 ⟨rfl,hb4⟩;obtain ⟨T,hT⟩:∃T:ByteArray,T=⟨(fu (bD sd P)).toArray⟩:=⟨_,rfl⟩;have HT:=ar hT;rw [← hT];have b4:=HB3.out.keep hb4;have HB4:=ar b4;have HR4:=ar (HR3.out.keep hb4);have K4:Hid (Bl w w4):=K3.out.trans (hb4.mono K3.out.size);have HM4:=ar (HM3.out.keep hb4);have a5:=b4.all;clear hb4 hT CL b4 HB3 HR3 K3 HM3 HP3 a8;go_upto_region 6 with fail
 obtain ⟨w6,hw6⟩:=aw ((w4.setCell ⟨X,5,none⟩ (.string T)).setCell ⟨X,6,none⟩ (iT (T.size:Int)));rw [← hw6];have HB6:Hid (aC w6 X (.bool true) (iT q) (.slice am nm cm) (.slice av nv cv) (.slice ak ns cs) (.string T) (iT (T.size:Int)) (.slice dv nd cd) (iT sd)):=by rw [hw6];exact (HB4.out.set5 _).set6 _
 have HR6:Hid (aC w6 (X+1) (.bool false) (iT 0) nZ nZ nZ (.string ⟨#[]⟩) (iT 0) nZ (iT 0)):=by rw [hw6];exact (HR4.out.other HXX.out _).other HXX.out _
 have K6:Hid (Bl w w6):=by rw [hw6];exact (K4.out.setCell (p:=⟨X,5,none⟩) HX.out _).setCell (p:=⟨X,6,none⟩) HX.out _
 have HM6:Hid (an w6 (pT g2) N cg (bg (P.map (aS sd)).flatten)):=by rw [hw6];exact (HM4.out.setCell _ _ (fun x e _=>by cases e;exact HG2.out.1)).setCell _ _ (fun x e _=>by cases e;exact HG2.out.1)
 have CC:=eO lo dv nd cd U w6 (HU.out.keep K6.out) hnd HS.out;have a7:=HB6.out.c7;have az:=HB6.out.lt;clear hw6 HB4 HR4 K4 HM4 a5;go_wp2_with fail
 refine CC.mono ?_;rintro e w7 ⟨G,cG,rfl,hLG,hb7⟩;have HL7:=ar hLG.levelsIn;have b7:=HB6.out.keep hb7;have HB7:=ar b7;have r7:=HR6.out.keep hb7;have HR7:=ar r7;have K7:Hid (Bl w w7):=K6.out.trans (hb7.mono K6.out.size);have HM7:=ar (HM6.out.keep hb7);have HLO:Hid (X+1<w6.heap.size):=HR6.out.lt;have a0:=b7.all;clear hLG hb7 CC b7 r7 HB6 HR6 K6 HM6;go_upto_region 7 with fail
 obtain ⟨w8,hw8⟩:=aw ((((w7.setCell ⟨X,1,none⟩ (iT (bh sd P))).setCell ⟨X,2,none⟩ (sL g2 N cg)).setCell ⟨X,3,none⟩ (sL G nd cG)).setCell ⟨X,4,none⟩ nZ);rw [← hw8];have hxl:X<w6.heap.size:=by have:=HLO.out;omega
 have HB8:Hid (aC w8 X (.bool true) (iT (bh sd P)) (sL g2 N cg) (sL G nd cG) nZ (.string T) (iT (T.size:Int)) (.slice dv nd cd) (iT sd)):=by rw [hw8];exact (((HB7.out.set1 _).set2 _).set3 _).set4 _
 have HR8:Hid (aC w8 (X+1) (.bool false) (iT 0) nZ nZ nZ (.string ⟨#[]⟩) (iT 0) nZ (iT 0)):=by rw [hw8];exact (((HR7.out.other HXX.out _).other HXX.out _).other HXX.out _).other HXX.out _
 have K8:Hid (Bl w w8):=by rw [hw8];exact (((K7.out.setCell (p:=⟨X,1,none⟩) HX.out _).setCell (p:=⟨X,2,none⟩) HX.out _).setCell (p:=⟨X,3,none⟩) HX.out _).setCell (p:=⟨X,4,none⟩) HX.out _
 have HM8:Hid (an w8 (pT g2) N cg (bg (P.map (aS sd)).flatten)):=by rw [hw8];exact (((HM7.out.setCell _ _ (fun x e _=>by cases e;exact HG2.out.1)).setCell _ _ (fun x e _=>by cases e;exact HG2.out.1)).setCell _ _ (fun x e _=>by cases e;exact HG2.out.1)).setCell _ _ (fun x e _=>by cases e;exact HG2.out.1)
 have HL8:Hid (au w6.heap.size w8 (pT G) nd cG U):=by rw [hw8];exact (((HL7.out.same (aM.of_set _ _ hxl)).same (aM.of_set _ _ hxl)).same (aM.of_set _ _ hxl)).same (aM.of_set _ _ hxl)
 have b8:=HB8.out;have r8:=HR8.out;have a0:=b8.all;have r0:=r8.all;have hx1:w.heap.size≤X+1:=by have:=HX.out;omega
 obtain ⟨w9,hw9⟩:=aw ((((((((((w8.setCell ⟨X+1,0,none⟩ (.bool true)).setCell ⟨X+1,1,none⟩ (iT (bh sd P))).setCell ⟨X+1,2,none⟩ (sL g2 N cg)).setCell ⟨X+1,3,none⟩ (sL G nd cG)).setCell ⟨X+1,4,none⟩ nZ).setCell ⟨X+1,5,none⟩ (.string T)).setCell ⟨X+1,6,none⟩ (iT (T.size:Int))).setCell ⟨X+1,7,none⟩ (.slice dv nd cd)).setCell ⟨X+1,8,none⟩ (iT sd)));have HR9:Hid (aC w9 (X+1) (.bool true) (iT (bh sd P)) (sL g2 N cg) (sL G nd cG) nZ (.string T) (iT (T.size:Int)) (.slice dv nd cd) (iT sd)):=by rw [hw9];exact (((((((((HR8.out.set0 _).set1 _).set2 _).set3 _).set4 _).set5 _).set6 _).set7 _).set8 _)
 have K9:Hid (Bl w w9):=by rw [hw9];exact ((((((mf K8.out hx1 _ _ _ _).setCell (p:=⟨X+1,4,none⟩) hx1 _).setCell (p:=⟨X+1,5,none⟩) hx1 _).setCell (p:=⟨X+1,6,none⟩) hx1 _).setCell (p:=⟨X+1,7,none⟩) hx1 _).setCell (p:=⟨X+1,8,none⟩) hx1 _)
 have HM9:Hid (an w9 (pT g2) N cg (bg (P.map (aS sd)).flatten)):=by rw [hw9];exact (((((((((HM8.out.setCell ⟨X+1,0,none⟩ (.bool true) (fun x e _=>by cases e;exact HG2.out.2)).setCell ⟨X+1,1,none⟩ (iT (bh sd P)) (fun x e _=>by cases e;exact HG2.out.2)).setCell ⟨X+1,2,none⟩ (sL g2 N cg) (fun x e _=>by cases e;exact HG2.out.2)).setCell ⟨X+1,3,none⟩ (sL G nd cG) (fun x e _=>by cases e;exact HG2.out.2)).setCell ⟨X+1,4,none⟩ nZ (fun x e _=>by cases e;exact HG2.out.2)).setCell ⟨X+1,5,none⟩ (.string T) (fun x e _=>by cases e;exact HG2.out.2)).setCell ⟨X+1,6,none⟩ (iT (T.size:Int)) (fun x e _=>by cases e;exact HG2.out.2)).setCell ⟨X+1,7,none⟩ (.slice dv nd cd) (fun x e _=>by cases e;exact HG2.out.2)).setCell ⟨X+1,8,none⟩ (iT sd) (fun x e _=>by cases e;exact HG2.out.2))
 have HL9:Hid (au w.heap.size w9 (pT G) nd cG U):=by rw [hw9];exact au.mono (((((((((HL8.out.same (aM.of_set _ _ HLO.out)).same (aM.of_set _ _ HLO.out)).same (aM.of_set _ _ HLO.out)).same (aM.of_set _ _ HLO.out)).same (aM.of_set _ _ HLO.out)).same (aM.of_set _ _ HLO.out)).same (aM.of_set _ _ HLO.out)).same (aM.of_set _ _ HLO.out)).same (aM.of_set _ _ HLO.out)) (by have h1:=HLO.out;have h2:=HX.out;omega)
 have HW9:=ar hw9;clear hw8 hw9 b8 r8 HB7 HR7 K7 HM7 HL7 hxl hx1;go_wp2;rw [← HW9.out];refine bodyPost_ret (v:=.agg #[.bool true,iT (bh sd P),sL g2 N cg,sL G nd cG,nZ,.string T,iT (T.size:Int),.slice dv nd cd,iT sd]) ?_ rfl ⟨P,k,g2,N,cg,G,cG,T,HWH.out,HT.out,rfl,⟨HM9.out,fun x e _=>by cases e;exact HGL.out⟩,HL9.out,K9.out⟩;have e:=HR9.out;simp [results,Tryz.results39,go_sem,e.all]
theorem AX (h0:0≤sd):Am q M V S lg sd U P k=(bn q M V S && (decide (V=U) && tG k lg.size sd P q M)):=by
 have h1:=yY sd P;unfold Am tG;rw [Bool.eq_iff_iff];simp only [Bool.and_eq_true,decide_eq_true_eq];constructor
 · rintro ⟨a,b,c,d,e,f,g⟩;exact ⟨a,b.symm,e,g,f⟩
 · rintro ⟨a,b,e,g,f⟩;exact ⟨a,b.symm,h0,by omega,e,f,g⟩
theorem mB (h:¬(bn sd [] U []=true∧lg.size≤12000∧0≤sf∧sf≤(lg.size:Int))):iR lg sf sd U=false:=by
 cases e:iR lg sf sd U with
 | false=>rfl
 | true =>
  unfold iR at e;simp only [Bool.and_eq_true,decide_eq_true_eq] at e;exact absurd e h
theorem zT (h1:bn sd [] U []=true) (h2:lg.size≤12000) (h3:0≤sf) (h4:sf≤(lg.size:Int)):iR lg sf sd U=true:=by
 unfold iR;rw [h1,decide_eq_true h2,decide_eq_true h3,decide_eq_true h4];rfl
theorem AA {T:ByteArray} {b:Bool} (hw:ce lg.data.toList P k) (hT:T=⟨(fu (bD sd P)).toArray⟩) (h0:0≤sd) (hb:∀P' k',ce T.data.toList P' k'→b=Am (bh sd P) (bg (P.map (aS sd)).flatten) U [] T sd U P' k'):b=bn (bh sd P) (bg (P.map (aS sd)).flatten) U []:=by
 have hd:=jD hw;have hT2:T.data.toList=fu (bD sd P):=by rw [hT]
 have h1:=hb (bD sd P) (nR (bD sd P)) (by rw [hT2];exact qE _ (vH hd));have h2:nR (bD sd P)=T.size:=by rw [← fC,← hT2,Array.length_toList];rfl
 rw [h1,AX h0];unfold tG;rw [h2,vI sd P hd,ln sd P hd];simp
theorem qP (up:Bool) (q:Int) (am av ak dv:Option Addr) (nm cm nv cv ns cs nd cd:Nat) (M:List ae) (V:List (List aq)) (S:List Int) (lg:ByteArray) (sf sd:Int) (U:List (List aq)) (w:World) (hT:aX 0 w am nm cm av nv cv ak ns cs M V S) (hU:au 0 w dv nd cd U) (hlg:lg.size≤1048576) :
 Calls Tryz.prog 18 #[.agg #[.bool up,iT q,.slice am nm cm,.slice av nv cv,.slice ak ns cs,.string lg,iT sf,.slice dv nd cd,iT sd]] w (SoE up q M V S lg sf sd U w):=by
 obtain ⟨X,hX⟩:=aw w.heap.size;obtain ⟨W,hW⟩:=aw (w.alloc (.cells #[.bool up,iT q,.slice am nm cm,.slice av nv cv,.slice ak ns cs,.string lg,iT sf,.slice dv nd cd,iT sd] 40));have kW:Bl w W:=by rw [hW];exact bZ
 have bx:aC W X (.bool up) (iT q) (.slice am nm cm) (.slice av nv cv) (.slice ak ns cs) (.string lg) (iT sf) (.slice dv nd cd) (iT sd):=by rw [hW,hX];exact aC.new _ _ _ _ _ _ _ _ _ _ _
 have HBX:=ar bx;have HKW:=ar kW;have HT:=ar (hT.keep kW);have HU:=ar (hU.keep kW);obtain ⟨TB,hTB⟩:=aw (bn sd [] U []);have HTB:=ar hTB;have CT:=mL 0 sd none dv none 0 0 nd cd 0 0 [] U [] W ⟨⟨kG W _,fun _ _ hp=>absurd hp (Nat.lt_irrefl _)⟩,HU.out,gz 0 W _⟩;rw [← hTB] at CT;have x0:=bx.all;clear kW bx hT hU hTB;go_enter Tryz.func18,Tryz.ntmps18
 go_upto_region 1 with fail
 rw [← hX,← hW];clear hX hW;by_cases e1:lg.size≤12000
 case neg =>
  have e1I:(lg.size:Int) > 12000:=by omega
  have hd:=ar (mB (lg:=lg) (sf:=sf) (sd:=sd) (U:=U) (fun h=>e1 h.2.1));clear CT;go_wp2;go_ret;exact ⟨false,rfl,fun P k _=>by unfold lI;rw [hd.out];rfl,HKW.out⟩
 have e1I:¬(lg.size:Int) > 12000:=by omega
 by_cases e2:sf<0
 · have hd:=ar (mB (lg:=lg) (sf:=sf) (sd:=sd) (U:=U) (fun h=>by have:=h.2.2.1;omega));clear CT;go_wp2;go_ret;exact ⟨false,rfl,fun P k _=>by unfold lI;rw [hd.out];rfl,HKW.out⟩
 by_cases e3:sf > (lg.size:Int)
 · have hd:=ar (mB (lg:=lg) (sf:=sf) (sd:=sd) (U:=U) (fun h=>by have:=h.2.2.2;omega));clear CT;go_wp2;go_ret;exact ⟨false,rfl,fun P k _=>by unfold lI;rw [hd.out];rfl,HKW.out⟩
 go_wp2_with fail
 refine CT.mono ?_;rintro e w1 ⟨rfl,hb1⟩;have K1:Hid (Bl w w1):=HKW.out.trans (hb1.mono HKW.out.size);have KB1:=ar hb1;have b1:=HBX.out.keep hb1;have y0:=b1.all;have HHT:=ar (HT.out.keep hb1);have HHU:=ar (HU.out.keep hb1);clear hb1 CT b1 x0;cases hTv:TB with
 | false =>
  rw [hTv] at HTB;have hd:=ar (mB (lg:=lg) (sf:=sf) (sd:=sd) (U:=U) (fun h=>by rw [← HTB.out] at h;exact Bool.noConfusion h.1));go_wp2;go_ret;exact ⟨false,rfl,fun P k _=>by unfold lI;rw [hd.out];rfl,K1.out⟩
 | true =>
  rw [hTv] at HTB;have HD:=ar (zT (lg:=lg) (sf:=sf) (sd:=sd) (U:=U) HTB.out.symm e1 (by omega) (by omega));have h0:0≤sd:=(bH HTB.out.symm).1;have H0:=ar h0;obtain ⟨p1,p2,p3,p4,p5,p6,p7,p8,p9⟩:=bH HTB.out.symm;have HUL:Hid (nd≤100):=by have:=HU.out.length;show nd≤100;omega
  have HUS:Hid (∀B ∈ U,B.length≤100∧∀r ∈ B,1≤r.1.length∧r.1.length≤10000):=by
   show ∀B ∈ U,_
   match U,p6,p8 with
   | [A,B,C],_,h8 =>
    unfold ji at h8;simp only [Bool.and_eq_true] at h8;intro Z hZ;simp only [List.mem_cons,List.not_mem_nil,or_false] at hZ;rcases hZ with rfl | rfl | rfl
    · exact dy h8.1 (by omega)
    · exact dy h8.2.1 (by omega)
    · exact dy h8.2.2 (by omega)
  clear hTv p1 p2 p3 p4 p5 p6 p7 p8 p9 h0 e1 e1I e2 e3;cases up with
  | true =>
   have CU:=ya 0 true q am av ak dv nm cm nv cv ns cs nd cd M V S lg sf sd U w1 HHT.out HHU.out hlg;go_wp2_with fail
   refine CU.mono ?_;rintro e w2 ⟨b,rfl,hb,hb2⟩;have HR:Hid (∀P k,ce lg.data.toList P k→b=lI true q M V S lg sf sd U P k):=fun P k hw=>by
    rw [hb P k hw,AX H0.out];unfold lI;rw [HD.out];rfl
   have K2:Hid (Bl w w2):=K1.out.trans (hb2.mono K1.out.size);clear hb hb2 CU y0;go_wp2;go_ret;exact ⟨b,rfl,HR.out,K2.out⟩
  | false =>
   have CS:=pF q 0 0 0 am av ak nm cm nv cv ns cs none none none 0 0 0 0 0 0 M V S [] [] [] w1 HHT.out (gm 0 w1);obtain ⟨TS,hTS⟩:=aw (eG q M V S 0 [] [] []);have HTS:=ar hTS;rw [← hTS] at CS;clear hTS;go_wp2_with fail
   refine CS.mono ?_;rintro e w2 ⟨rfl,hb2⟩;have K2:Hid (Bl w w2):=K1.out.trans (hb2.mono K1.out.size);have b2:=(HBX.out.keep KB1.out).keep hb2;have HU2:=ar (HHU.out.keep hb2);have z0:=b2.all;clear hb2 CS b2 y0;cases hSv:TS with
   | false =>
    rw [hSv] at HTS;clear hSv;go_wp2;go_ret;exact ⟨false,rfl,fun P k _=>by unfold lI;rw [HD.out,← HTS.out];rfl,K2.out⟩
   | true =>
    rw [hSv] at HTS;clear hSv;have CO:=yi 0 false q am av ak dv nm cm nv cv ns cs nd cd lg sf sd U w2 HU2.out hlg HUL.out HUS.out;go_wp2_with fail
    refine CO.mono ?_;rintro e w3 ⟨P,k,g,N,cg,G,cG,T,hwh,hT,rfl,hEn,hLv,hb3⟩;have K3:Hid (Bl w w3):=K2.out.trans (hb3.mono K2.out.size);have hTz:T.size≤1048576:=by
     have h1:=(ja hwh).2;have h2:=jT hwh;have h3:lg.data.toList.length=lg.size:=by rw [Array.length_toList];rfl
     have h4:=jl sd P;have h5:T.size=(fu (bD sd P)).length:=by rw [hT];simp [ByteArray.size]
     rw [fC] at h5;omega
    have CU:=ya 0 true (bh sd P) (pT g) (pT G) none dv N cg nd cG 0 0 nd cd (bg (P.map (aS sd)).flatten) U [] T (T.size:Int) sd U w3 ⟨hEn.mono (Nat.zero_le _),hLv.mono (Nat.zero_le _),gz 0 w3 _⟩ (HU2.out.keep hb3) hTz;have HWH:=ar hwh;have HTT:=ar hT;clear hwh hT hEn hLv hb3 hTz CO z0;go_wp2_with fail
    refine CU.mono ?_;rintro e w4 ⟨b,rfl,hb,hb4⟩;have HR:Hid (∀P' k',ce lg.data.toList P' k'→b=lI false q M V S lg sf sd U P' k'):=fun P' k' hw=>by
     obtain ⟨rfl,rfl⟩:=jb HWH.out hw;rw [AA HWH.out HTT.out H0.out hb];unfold lI;rw [HD.out,← HTS.out];rfl
    have K4:Hid (Bl w w4):=K3.out.trans (hb4.mono K3.out.size);clear hb hb4 CU;go_wp2;go_ret;exact ⟨b,rfl,HR.out,K4.out⟩
theorem jM (h:bn q M V S=true):V.length=3∧∀B ∈ V,B.length≤100∧∀r ∈ B,1≤r.1.length∧r.1.length≤10000:=by
 obtain ⟨p1,p2,p3,p4,p5,p6,p7,p8,p9⟩:=bH h;refine ⟨p6,?_⟩;match V,p6,p8 with
 | [A,B,C],_,h8 =>
  unfold ji at h8;simp only [Bool.and_eq_true] at h8;intro Z hZ;simp only [List.mem_cons,List.not_mem_nil,or_false] at hZ;rcases hZ with rfl | rfl | rfl
  · exact dy h8.1 (by omega)
  · exact dy h8.2.1 (by omega)
  · exact dy h8.2.2 (by omega)
theorem yB (htb:bn q M V S=true):S.length≤4:=by
 have h1:=(bH htb).2.2.2.2.2.2.1;unfold cW at h1;rw [Bool.and_eq_true] at h1;exact of_decide_eq_true h1.1
theorem ot {lo nm cm nv cv ns cs:Nat} {w':World} {am av ak:Option Addr} (h:aX lo w am nm cm av nv cv ak ns cs M V S) (hs:aM lo w w'):aX 0 w' am nm cm av nv cv ak ns cs M V S:=by
 have t:=h.same hs;exact ⟨t.mem.mono (Nat.zero_le _),t.levels.mono (Nat.zero_le _),t.snaps.lower (Nat.zero_le _)⟩
theorem uq {up:Bool} (h:lI up q M V S lg sf sd U P k=true):bn sd [] U []=true∧lg.size≤12000∧0≤sf∧sf≤(lg.size:Int):=by
 unfold lI iR at h;simp only [Bool.and_eq_true,decide_eq_true_eq] at h;exact h.1
theorem xY (h:lI true q M V S lg sf sd U P k=true):bn q M V S=true∧V=U:=by
 unfold lI at h;simp only [Bool.and_eq_true,decide_eq_true_eq,if_true] at h;exact ⟨h.2.1,h.2.2.1⟩
theorem Aq (h:lI false q M V S lg sf sd U P k=true):(q=0∧M=[]∧V=[]∧S=[])∧bn (bh sd P) (bg (P.map (aS sd)).flatten) U []=true:=by
 unfold lI eG at h;simp only [Bool.and_eq_true,decide_eq_true_eq,Bool.false_eq_true,if_false] at h;exact ⟨⟨h.2.1.1,h.2.1.2.1,h.2.1.2.2.1,h.2.1.2.2.2⟩,h.2.2⟩
end Go.Proofs.YtehiefdphnljaaaGreatDoor
