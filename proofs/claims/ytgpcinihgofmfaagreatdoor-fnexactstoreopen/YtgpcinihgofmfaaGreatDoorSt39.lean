/-
  What the program's isInLog tells of a store that is up, by a walk of its Go text.
-/
import Derived.Test.YtgpcinihgofmfaaGreatDoorSt37
import Derived.Test.YtgpcinihgofmfaaGreatDoorSt38
import Derived.Test.YtgpcinihgofmfaaGreatDoorSt09
namespace Go.Proofs.YtgpcinihgofmfaaGreatDoor
open Go.RowKit
set_option maxRecDepth 100000
set_option maxHeartbeats 8000000
def tm (k:Nat) (n:Nat) (sd:Int) (P:List (List ae)) (q:Int) (M:List ae):Bool:=decide (k=n) && (decide (bc sd P=q) && decide (bw (P.map (aP sd)).flatten=M))
def LgE (lg:ByteArray) (sd q:Int) (M:List ae) (w:World) (e:Ending) (w':World):Prop:=∃(P:List (List ae)) (k:Nat),bG lg.data.toList P k∧e=.returned (.bool (tm k lg.size sd P q M))∧Bl w w'
theorem vI (q:Int) (am ak:Option Addr) (nm cm nk ck:Nat) (a0 a1 a2:Option Addr) (n0 c0 n1 c1 n2 c2:Nat) (M:List ae) (lg:ByteArray) (sf sd:Int) (d0 d1 d2:Option Addr) (m0 e0 m1 e1 m2 e2:Nat) (w:World) (hM:au w am nm cm M) (hlg:lg.size≤1048576) (hE:fX w.heap.size w) (hT:jI w.heap.size w) :
 Calls Tryz.prog 72 #[.agg #[.bool true,iT q,.slice am nm cm,.slice a0 n0 c0,.slice a1 n1 c1,.slice a2 n2 c2,.slice ak nk ck,.string lg,iT sf,.slice d0 m0 e0,.slice d1 m1 e1,.slice d2 m2 e2,iT sd]] w (LgE lg sd q M w):=by
 obtain ⟨X,hX⟩:=aw w.heap.size;obtain ⟨W,hW⟩:=aw (w.alloc (.cells #[.bool true,iT q,.slice am nm cm,.slice a0 n0 c0,.slice a1 n1 c1,.slice a2 n2 c2,.slice ak nk ck,.string lg,iT sf,.slice d0 m0 e0,.slice d1 m1 e1,.slice d2 m2 e2,iT sd] 68));have kW:Bl w W:=by rw [hW];exact bZ
 have bx:aC W X (.bool true) (iT q) (.slice am nm cm) (.slice a0 n0 c0) (.slice a1 n1 c1) (.slice a2 n2 c2) (.slice ak nk ck) (.string lg) (iT sf) (.slice d0 m0 e0) (.slice d1 m1 e1) (.slice d2 m2 e2) (iT sd):=by rw [hW,hX];exact aC.new _ _ _ _ _ _ _ _ _ _ _ _ _ _ _
 have HBX:=ar bx;have HKW:=ar kW;have HM:=ar (hM.keep kW);have CR:=kK lg sf sd d0 d1 d2 m0 e0 m1 e1 m2 e2 W hlg (fun w' kk=>hE w' (kW.trans (kk.mono kW.size))) (fun w' kk=>hT w' (kW.trans (kk.mono kW.size)));have x7:=bx.c7;have x8:=bx.c8;have x9:=bx.c9;have x10:=bx.c10;have x11:=bx.c11;have x12:=bx.c12;have xz:=bx.lt;clear kW bx hE hT hM;go_enter Tryz.func72,Tryz.ntmps72
 go_upto_region 1 with fail
 rw [← hX,← hW];clear hX hW;go_wp2_with fail
 refine CR.mono ?_;rintro e w1 ⟨P,k,g,N,hwh,hN,rfl,hEn,hb1⟩;have HWH:=ar hwh;have HE1:=ar hEn;have HB1:=ar hb1;clear hwh hN hEn hb1 CR x7 x8 x9 x10 x11 x12 xz;go_upto_region 2 with fail
 obtain ⟨LQ,hLQ⟩:=aw (bc sd P);have HLQ:=ar hLQ;obtain ⟨SL,hSL⟩:=aw (bw (P.map (aP sd)).flatten);have HSL:=ar hSL;rw [← hLQ];obtain ⟨w2,hw2⟩:=aw (w1.alloc (.cells #[iT LQ,sL g N N,.slice d0 m0 e0,.slice d1 m1 e1,.slice d2 m2 e2,nZ] 64));obtain ⟨Y,hY⟩:=aw w1.heap.size;have k2:Bl w1 w2:=by rw [hw2];exact bZ
 have HK2:Hid (Bl W w2):=HB1.out.trans (k2.mono HB1.out.size);have by2:aV w2 Y (iT LQ) (sL g N N) (.slice d0 m0 e0) (.slice d1 m1 e1) (.slice d2 m2 e2) nZ:=by rw [hw2,hY];exact aV.new _ _ _ _ _ _ _ _
 have HXL:=HBX.out.keep HK2.out;have x1:=HXL.c1;have x2:=HXL.c2;have x7:=HXL.c7;have xz:=HXL.lt;have y0:=by2.c0;have y1:=by2.c1;have yz:=by2.lt;have he2:=HE1.out.keep k2;rw [← hSL] at he2;have CE:=lG (pT g) am N N nm cm SL M w2 he2 (HM.out.keep HK2.out);have HKF:Hid (Bl w w2):=HKW.out.trans (HK2.out.mono HKW.out.size);rw [← hw2,← hY];have HR:Hid (∀b,b=(decide (k=lg.size) && (decide (LQ=q) && decide (SL=M)))→b=tm k lg.size sd P q M):=fun b hb=>by rw [hb,HLQ.out,HSL.out];rfl
 clear hw2 hY k2 by2 he2 hLQ hSL HXL HE1;by_cases h1:k=lg.size
 · have h1I:(k:Int)=(lg.size:Int):=by omega
   have h1b:((k:Int) == (lg.size:Int))=true:=by simpa using h1I
   by_cases h2:LQ=q
   · have h2b:(LQ == q)=true:=by simpa using h2
     have hd:(decide (k=lg.size) && (decide (LQ=q) && decide (SL=M)))=decide (SL=M):=by simp [h1,h2]
     rw [hd] at HR;have HR2:=ar (HR.out _ rfl);clear HR;obtain ⟨kk,hkk⟩:∃kk:Int,kk=(k:Int):=⟨_,rfl⟩;rw [← hkk] at h1I h1b ⊢;clear h1 h2 hd hkk;go_wp2_with fail
     refine CE.mono ?_;rintro e w3 ⟨rfl,hb3⟩;go_wp2;go_ret;exact ⟨P,k,HWH.out,by rw [HR2.out];rfl,HKF.out.trans (hb3.mono HKF.out.size)⟩
   · have h2b:(LQ == q)=false:=by simpa using h2
     have hd:(decide (k=lg.size) && (decide (LQ=q) && decide (SL=M)))=false:=by simp [h2]
     rw [hd] at HR;have HR2:=ar (HR.out _ rfl);clear HR hd CE;go_wp2;go_ret;exact ⟨P,k,HWH.out,by rw [HR2.out];rfl,HKF.out⟩
 · have h1I:¬(k:Int)=(lg.size:Int):=by omega
   have h1b:((k:Int) == (lg.size:Int))=false:=by simpa using h1I
   have hd:(decide (k=lg.size) && (decide (LQ=q) && decide (SL=M)))=false:=by simp [h1]
   rw [hd] at HR;have HR2:=ar (HR.out _ rfl);clear HR hd CE;go_wp2;go_ret;exact ⟨P,k,HWH.out,by rw [HR2.out];rfl,HKF.out⟩
end Go.Proofs.YtgpcinihgofmfaaGreatDoor

namespace Go.Proofs.YtgpcinihgofmfaaGreatDoor
open Go.RowKit
set_option maxRecDepth 100000
set_option maxHeartbeats 8000000
theorem kQ (w:World) (a:Option Addr):au w a 0 0 []:=⟨rfl,Nat.le_refl _,Nat.zero_le _,by simp,fun _=>rfl,(fun _ _ h=>absurd h (Nat.lt_irrefl _)),fun _ _ _ h=>absurd h (Nat.not_lt_zero _)⟩
theorem fw (lo:Nat) (w:World) (a:Option Addr):bC lo w a 0 0 []:=⟨rfl,Nat.le_refl _,Nat.zero_le _,by simp,fun _=>rfl,(fun _ _ h=>absurd h (Nat.lt_irrefl _)),fun _ _ _ h=>absurd h (Nat.not_lt_zero _)⟩
def uy (lo:Nat) (w:World) (a0:Option Addr) (n0 c0:Nat) (a1:Option Addr) (n1 c1:Nat) (a2:Option Addr) (n2 c2:Nat) (U:List (List aj)):Prop:=∃A B C,U=[A,B,C]∧aE lo w a0 n0 c0 A∧aE lo w a1 n1 c1 B∧aE lo w a2 n2 c2 C
theorem uy.keep {lo:Nat} {w w':World} {a0 a1 a2:Option Addr} {n0 c0 n1 c1 n2 c2:Nat} {U:List (List aj)} (h:uy lo w a0 n0 c0 a1 n1 c1 a2 n2 c2 U) (hb:Bl w w'):uy lo w' a0 n0 c0 a1 n1 c1 a2 n2 c2 U:=by
 obtain ⟨A,B,C,h1,h2,h3,h4⟩:=h;exact ⟨A,B,C,h1,h2.keep hb,h3.keep hb,h4.keep hb⟩
def ShT (lo:Nat) (sd:Int) (U:List (List aj)) (w W:World) (e:Ending) (w':World):Prop:=∃(z:Int) (a0 a1 a2:Option Addr) (n0 c0 n1 c1 n2 c2:Nat),e=.returned (.tuple #[.agg #[iT z,nZ,.slice a0 n0 c0,.slice a1 n1 c1,.slice a2 n2 c2,nZ],.bool (bn sd [] U [])])∧(bn sd [] U []=true→uy lo w a0 n0 c0 a1 n1 c1 a2 n2 c2 U)∧Bl W w'
theorem AI (lo:Nat) (sd:Int) (dv:Option Addr) (nd cd:Nat) (U:List (List aj)) (w W:World) (hU:ay lo w dv nd cd U) (k:Bl w W) :
 Calls Tryz.prog 69 #[.agg #[iT sd,nZ,.slice dv nd cd,nZ]] W (ShT lo sd U w W):=by
 by_cases hn:nd=3
 · subst hn;obtain ⟨b,o,rfl,_⟩:=hU.form (by omega);obtain ⟨A,a0,n0,c0,hA,l0,hR0⟩:=hU.level (Below.refl _ w) 0 (by omega);obtain ⟨B,a1,n1,c1,hB,l1,hR1⟩:=hU.level (Below.refl _ w) 1 (by omega);obtain ⟨C,a2,n2,c2,hC,l2,hR2⟩:=hU.level (Below.refl _ w) 2 (by omega);have hL:=hU.length;have hV:U=[A,B,C]:=by
    match U,hL with
    | [x,y,z],_ =>
     simp only [List.getElem?_cons_zero,List.getElem?_cons_succ,Option.some.injEq] at hA hB hC;rw [hA,hB,hC]
   subst hV;refine (pc lo sd none none 0 0 b o cd 0 0 [] A B C [] a0 a1 a2 n0 c0 n1 c1 n2 c2 W (kQ W _) (fw lo W _) (hR0.keep k) (hR1.keep k) (hR2.keep k) (cell_later k (by simpa using l0)) (cell_later k l1) (cell_later k l2)).mono ?_;rintro e w' ⟨rfl,hb⟩;exact ⟨sd,a0,a1,a2,n0,c0,n1,c1,n2,c2,rfl,fun _=>⟨A,B,C,rfl,hR0,hR1,hR2⟩,hb⟩
 · refine (lT sd none dv none 0 0 nd cd 0 0 W hn).mono ?_;rintro e w' ⟨rfl,hb⟩;have h0:bn sd [] U []=false:=fD (fun h=>hn (by
    have:=(bJ h).2.2.2.2.2.1;rw [hU.length] at this;exact this))
   exact ⟨0,none,none,none,0,0,0,0,0,0,by rw [h0],(fun h=>by rw [h0] at h;cases h),hb⟩
def jh (lg:ByteArray) (sf sd:Int) (U:List (List aj)):Bool:=bn sd [] U [] && (decide (lg.size≤12000) && (decide (0≤sf) && decide (sf≤(lg.size:Int))))
def BF (lo:Nat) (lg:ByteArray) (sf sd:Int) (U:List (List aj)) (u w:World) (e:Ending) (w':World):Prop:=∃(a0 a1 a2:Option Addr) (n0 c0 n1 c1 n2 c2:Nat),e=.returned (.tuple #[.agg #[.string lg,iT sf,.slice a0 n0 c0,.slice a1 n1 c1,.slice a2 n2 c2,iT sd],.bool (jh lg sf sd U)])∧(jh lg sf sd U=true→uy lo u a0 n0 c0 a1 n1 c1 a2 n2 c2 U)∧Bl w w'
theorem oj (lo:Nat) (lg:ByteArray) (sf sd:Int) (dv:Option Addr) (nd cd:Nat) (U:List (List aj)) (u w:World) (hU:ay lo u dv nd cd U) (ku:Bl u w) :
 Calls Tryz.prog 66 #[.agg #[.string lg,iT sf,.slice dv nd cd,iT sd]] w (BF lo lg sf sd U u w):=by
 obtain ⟨X,hX⟩:=aw w.heap.size;obtain ⟨W,hW⟩:=aw ((w.alloc (.cells #[.string lg,iT sf,.slice dv nd cd,iT sd] 37)).alloc (.cells #[.string ⟨#[]⟩,iT 0,nZ,nZ,nZ,iT 0] 66));have kW:Bl w W:=by rw [hW];exact bZ.alloc (by simp) _
 have bx:bi W X (.string lg) (iT sf) (.slice dv nd cd) (iT sd):=by rw [hW,hX];exact (bi.new _ _ _ _ _ _).alloc _
 have br:aV W (X+1) (.string ⟨#[]⟩) (iT 0) nZ nZ nZ (iT 0):=by
  have:=aV.new (w.alloc (.cells #[.string lg,iT sf,.slice dv nd cd,iT sd] 37)) 66 (.string ⟨#[]⟩) (iT 0) nZ nZ nZ (iT 0);rw [World.size_alloc] at this;rw [hW,hX];exact this
 have HXW:=ar hX;have HBX:=ar bx;have HBR:=ar br;have HKW:=ar kW;have CT:=AI lo sd dv nd cd U u W hU (ku.trans (kW.mono ku.size));have HU:=ar hU;have x0:=bx.c0;have x1:=bx.c1;have x2:=bx.c2;have x3:=bx.c3;have xz:=bx.lt;clear kW bx br hU ku;go_enter Tryz.func66,Tryz.ntmps66
 go_upto_region 1 with fail
 rw [← hX,← hW];clear hX hW;go_wp2_with fail
 refine CT.mono ?_;rintro e w1 ⟨z,a0,a1,a2,n0,c0,n1,c1,n2,c2,rfl,hlv,hb1⟩;obtain ⟨TB,hTB⟩:=aw (bn sd [] U []);have HTB:=ar hTB;rw [← hTB];have HB1:=ar hb1;have HLW:=ar hlv;clear hlv hb1 hTB CT x0 x1 x2 x3 xz;go_upto_region 2 with fail
 obtain ⟨w2,hw2⟩:=aw (w1.alloc (.cells #[iT z,nZ,.slice a0 n0 c0,.slice a1 n1 c1,.slice a2 n2 c2,nZ] 64));obtain ⟨Y,hY⟩:=aw w1.heap.size;have k2:Bl w1 w2:=by rw [hw2];exact bZ
 have HK2:Hid (Bl W w2):=HB1.out.trans (k2.mono HB1.out.size);have by2:aV w2 Y (iT z) nZ (.slice a0 n0 c0) (.slice a1 n1 c1) (.slice a2 n2 c2) nZ:=by rw [hw2,hY];exact aV.new _ _ _ _ _ _ _ _
 have bx2:=HBX.out.keep HK2.out;have br2:=HBR.out.keep HK2.out;have x0:=bx2.c0;have x1:=bx2.c1;have x3:=bx2.c3;have xz:=bx2.lt;have y2:=by2.c2;have y3:=by2.c3;have y4:=by2.c4;have yz:=by2.lt;have r0:=br2.c0;have r1:=br2.c1;have r2:=br2.c2;have r3:=br2.c3;have r4:=br2.c4;have r5:=br2.c5;have rf:=br2.fz;have rz:=br2.lt;have hyx:Y≠X+1:=by
  have h1:=HBR.out.lt;have h2:=HB1.out.size;omega
 have hlw2:TB=true→uy lo u a0 n0 c0 a1 n1 c1 a2 n2 c2 U:=fun h=>HLW.out (by rw [← HTB.out];exact h)
 obtain ⟨DB,hDB⟩:=aw (jh lg sf sd U);have HDB:=ar hDB;have hdb2:DB=(TB && (decide (lg.size≤12000) && (decide (0≤sf) && decide (sf≤(lg.size:Int))))):=by rw [hDB,HTB.out];rfl
 rw [← hw2,← hY];clear hw2 hY k2 by2 hDB HLW HTB;have HBR2:=ar br2;have hx1:w.heap.size≤X+1:=by have:=HXW.out;omega
 obtain ⟨wz,hwz⟩:=aw ((((((w2.setCell ⟨X+1,0,none⟩ (.string lg)).setCell ⟨X+1,1,none⟩ (iT sf)).setCell ⟨X+1,2,none⟩ (.slice a0 n0 c0)).setCell ⟨X+1,3,none⟩ (.slice a1 n1 c1)).setCell ⟨X+1,4,none⟩ (.slice a2 n2 c2)).setCell ⟨X+1,5,none⟩ (iT sd));have HKZ:Hid (Bl w wz):=by
  rw [hwz];exact ((((((HKW.out.trans (HK2.out.mono HKW.out.size)).setCell (p:=⟨X+1,0,none⟩) hx1 _).setCell (p:=⟨X+1,1,none⟩) hx1 _).setCell (p:=⟨X+1,2,none⟩) hx1 _).setCell (p:=⟨X+1,3,none⟩) hx1 _).setCell (p:=⟨X+1,4,none⟩) hx1 _).setCell (p:=⟨X+1,5,none⟩) hx1 _
 have HRZ:Hid (aV wz (X+1) (.string lg) (iT sf) (.slice a0 n0 c0) (.slice a1 n1 c1) (.slice a2 n2 c2) (iT sd)):=by
  rw [hwz];exact (((((br2.set0 _).set1 _).set2 _).set3 _).set4 _).set5 _
 have HFIN:Hid (∀b,b=DB→BF lo lg sf sd U u w (.returned (.tuple #[.agg #[.string lg,iT sf,.slice a0 n0 c0,.slice a1 n1 c1,.slice a2 n2 c2,iT sd],.bool b])) wz):=fun b hb=>by
  refine ⟨a0,a1,a2,n0,c0,n1,c1,n2,c2,by rw [hb,HDB.out],fun h=>?_,HKZ.out⟩;rw [← HDB.out,hdb2,Bool.and_eq_true] at h;exact hlw2 h.1
 have hcs:(TB=false∧DB=false)∨(TB=true∧¬lg.size≤12000∧DB=false)∨(TB=true∧lg.size≤12000∧¬0≤sf∧DB=false)∨(TB=true∧lg.size≤12000∧0≤sf∧¬sf≤(lg.size:Int)∧DB=false)∨(TB=true∧lg.size≤12000∧0≤sf∧sf≤(lg.size:Int)∧DB=true):=by
  cases TB with
  | false=>exact Or.inl ⟨rfl,by rw [hdb2];rfl⟩
  | true =>
   by_cases e1:lg.size≤12000
   · by_cases e2:0≤sf
     · by_cases e3:sf≤(lg.size:Int)
       · exact Or.inr (Or.inr (Or.inr (Or.inr ⟨rfl,e1,e2,e3,by rw [hdb2];simp [e1,e2,e3]⟩)))
       · exact Or.inr (Or.inr (Or.inr (Or.inl ⟨rfl,e1,e2,e3,by rw [hdb2];simp [e1,e2,e3]⟩)))
     · exact Or.inr (Or.inr (Or.inl ⟨rfl,e1,e2,by rw [hdb2];simp [e1,e2]⟩))
   · exact Or.inr (Or.inl ⟨rfl,e1,by rw [hdb2];simp [e1]⟩)
 have HWZ:=ar hwz;clear hdb2 br2 bx2 hwz hyx hx1 hlw2;rcases hcs with ⟨rfl,h9⟩ | ⟨rfl,e1,h9⟩ | ⟨rfl,e1,e2,h9⟩ | ⟨rfl,e1,e2,e3,h9⟩ | ⟨rfl,e1,e2,e3,h9⟩
 · have HF:=ar (HFIN.out _ h9.symm);clear h9 HFIN;go_wp2;rw [← HWZ.out];have e:=HRZ.out;refine bodyPost_ret (v:=.tuple #[.agg #[.string lg,iT sf,.slice a0 n0 c0,.slice a1 n1 c1,.slice a2 n2 c2,iT sd],.bool false]) ?_ rfl HF.out;simp [results,Tryz.results66,go_sem,e.c0,e.c1,e.c2,e.c3,e.c4,e.c5]
 · have e1I:¬(lg.size:Int)≤12000:=by omega
   have HF:=ar (HFIN.out _ h9.symm);clear h9 HFIN;go_wp2;rw [← HWZ.out];have e:=HRZ.out;refine bodyPost_ret (v:=.tuple #[.agg #[.string lg,iT sf,.slice a0 n0 c0,.slice a1 n1 c1,.slice a2 n2 c2,iT sd],.bool false]) ?_ rfl HF.out;simp [results,Tryz.results66,go_sem,e.c0,e.c1,e.c2,e.c3,e.c4,e.c5]
 · have e1I:(lg.size:Int)≤12000:=by omega
   have HF:=ar (HFIN.out _ h9.symm);clear h9 HFIN;go_wp2;rw [← HWZ.out];have e:=HRZ.out;refine bodyPost_ret (v:=.tuple #[.agg #[.string lg,iT sf,.slice a0 n0 c0,.slice a1 n1 c1,.slice a2 n2 c2,iT sd],.bool false]) ?_ rfl HF.out;simp [results,Tryz.results66,go_sem,e.c0,e.c1,e.c2,e.c3,e.c4,e.c5]
 · have e1I:(lg.size:Int)≤12000:=by omega
   have HF:=ar (HFIN.out _ h9.symm);clear h9 HFIN;go_wp2;rw [← HWZ.out];have e:=HRZ.out;refine bodyPost_ret (v:=.tuple #[.agg #[.string lg,iT sf,.slice a0 n0 c0,.slice a1 n1 c1,.slice a2 n2 c2,iT sd],.bool false]) ?_ rfl HF.out;simp [results,Tryz.results66,go_sem,e.c0,e.c1,e.c2,e.c3,e.c4,e.c5]
 · have e1I:(lg.size:Int)≤12000:=by omega
   have HF:=ar (HFIN.out _ h9.symm);clear h9 HFIN;go_wp2;rw [← HWZ.out];have e:=HRZ.out;refine bodyPost_ret (v:=.tuple #[.agg #[.string lg,iT sf,.slice a0 n0 c0,.slice a1 n1 c1,.slice a2 n2 c2,iT sd],.bool true]) ?_ rfl HF.out;simp [results,Tryz.results66,go_sem,e.c0,e.c1,e.c2,e.c3,e.c4,e.c5]
end Go.Proofs.YtgpcinihgofmfaaGreatDoor
