/- Walks. -/
import Derived.Test.YtpobkmjicbobdaaGreatBn41
namespace Go.Proofs.YtpobkmjicbobdaaGreat
set_option maxRecDepth 100000
set_option maxHeartbeats 40000000
open Go.RowKit
variable {M:List ac} {P P' R X Y Z b cap cm cs cv len lo nm ns nv:Nat} {S:List Int} {V:List (List ag)} {a ak am av:Option Addr} {q:Int} {w w' wi wj wt:World} {x0 x1 x2 x3:Value}
def Ce (R:Nat) (a:Option Addr) (len cap P d:Nat) (w:World) (e:Ending) (w':World):Prop:=∃q am nm cm av nv cv ak ns cs P',e=.returned (.agg #[iT q,.slice am nm cm,.slice av nv cv,.slice ak ns cs])∧fw w.heap.size R w' (.agg #[iT q,.slice am nm cm,.slice av nv cv,.slice ak ns cs])∧aW w' R a len cap P'∧P'≤P+d∧w.grownBy w' (some R)∧pw (.agg #[iT q,.slice am nm cm,.slice av nv cv,.slice ak ns cs])
theorem fw.low {lo':Nat} {v:Value} (h:fw lo R w v) (hl:lo'≤lo):fw lo' R w v:=by
 rcases h with h | h
 · obtain ⟨q,am,nm,cm,G,c,ak,ns,cs,gA,dA,e1,n1,d1,e2,n2,d2,M,A,B,C,S,e,hT,htb⟩:=h;exact .inl ⟨q,am,nm,cm,G,c,ak,ns,cs,gA,dA,e1,n1,d1,e2,n2,d2,M,A,B,C,S,e,hT.mono hl,htb⟩
 · exact .inr h
theorem uI (R P:Nat) (a:Option Addr) (len cap:Nat) (w:World) (h:aW w R a len cap P) (hlow:pK a len R) (hP:P<60000) :
 Calls Tryz.prog 78 #[.pointer (pT R)] w (Ce R a len cap P 7000 w):=by
 obtain ⟨Z,hZ⟩:=aS w.heap.size;obtain ⟨W,hW⟩:=aS (w.alloc (.cells #[iT 0,nZ,nZ,nZ] 31));have kW:Bl w W:=by rw [hW];exact bZ
 have br:ar W Z (iT 0) nZ nZ nZ∧an W Z 31 4:=by rw [hW,hZ];exact ⟨ar.new _ _ _ _ _ _,bU w #[iT 0,nZ,nZ,nZ] 31⟩
 have hRw:=h.lt;have HZ:Hid (w.heap.size≤Z∧R<w.heap.size∧pK a len R):=⟨Nat.le_of_eq hZ.symm,hRw,hlow⟩;have HRD:Hid (aW W R a len cap P):=h.below kW;have HKW:Hid (Bl w W):=kW;have HBR:Hid (ar W Z (iT 0) nZ nZ nZ∧an W Z 31 4):=br;clear h hlow br kW hRw;go_enter Tryz.func78,Tryz.ntmps78
 go_wp2_with fail
 rw [← hW,← hZ];clear hW hZ;refine (oO R P a len cap W HRD.out HZ.out.2.2 hP).mono ?_;rintro e w1 ⟨v,P1,rfl,hg1,hR1,hP1,hG1,hs1,_⟩;obtain ⟨q,am,nm,cm,av,nv,cv,ak,ns,cs,rfl⟩:=hg1.val;have HG1:Hid (W.grownBy w1 (some R)):=hG1;have hne:Z≠R:=by have:=HZ.out;omega
 have HB1:Hid (ar w1 Z (iT 0) nZ nZ nZ∧an w1 Z 31 4):=⟨HBR.out.1.grownB hG1 hne,HBR.out.2.grown hG1 hne⟩;go_wp2_with fail
 refine (oP R P1 W.heap.size a len cap _ w1 hR1 HZ.out.2.2 (by omega) (by have:=HKW.out.size;have:=HZ.out;omega) hG1.size hg1).mono ?_;rintro e w2 ⟨v,P2,rfl,ha2,hR2,hP2,hG2,hs2⟩;have HSV:=hs2 hs1;clear hs2 hs1;obtain ⟨q,am,nm,cm,av,nv,cv,ak,ns,cs,rfl⟩:=ha2.val;have HSV:Hid (pw (.agg #[iT q,.slice am nm cm,.slice av nv cv,.slice ak ns cs])):=HSV;have HB2:Hid (ar w2 Z (iT 0) nZ nZ nZ∧an w2 Z 31 4):=⟨HB1.out.1.grownB hG2 hne,HB1.out.2.grown hG2 hne⟩;have HA2:Hid (fw W.heap.size R w2 (.agg #[iT q,.slice am nm cm,.slice av nv cv,.slice ak ns cs])):=ha2;have HY:Hid (aW w2 R a len cap P2∧w.grownBy w2 (some R)):=⟨hR2,ae (aL HKW.out) (ae HG1.out hG2)⟩;have HP2:P2≤P+7000:=by omega
 have r0:=HB2.out.1.c0;have r1:=HB2.out.1.c1;have r2:=HB2.out.1.c2;have r3:=HB2.out.1.c3;have rf:=HB2.out.1.fz;have rz:=HB2.out.1.lt;clear ha2 hR2 hG2 hg1 hR1 hG1 HB1 HG1 HBR HRD;go_wp2;refine bodyPost_ret (v:=.agg #[iT q,.slice am nm cm,.slice av nv cv,.slice ak ns cs]) ?_ rfl ⟨q,am,nm,cm,av,nv,cv,ak,ns,cs,P2,rfl,(HA2.out.four HB2.out.2 HB2.out.1).low HKW.out.size,?_,HP2,?_,HSV.out⟩
 · have e:=(((HB2.out.1.set0 (iT q)).set1 (.slice am nm cm)).set2 (.slice av nv cv)).set3 (.slice ak ns cs);simp [results,Tryz.results78,go_sem,e.c0,e.c1,e.c2,e.c3]
 · have hfar:∀b off,a=some ⟨b,off,none⟩→0<len→b≠Z:=fun b off e hl=>by
    have:=HZ.out;rcases this.2.2 with h0 | h0
    · omega
    · have:=h0 b off e;omega
   exact (((HY.out.1.other hne hfar _ _).other hne hfar _ _).other hne hfar _ _).other hne hfar _ _
 · have hle:w.heap.size≤Z:=HZ.out.1;exact aH (aH (aH (aH HY.out.2 hle (cy _ _ _ _)) hle (cy _ _ _ _)) hle (cy _ _ _ _)) hle (cy _ _ _ _)
def zZ (w:World) (q:Int) (am:Option Addr) (nm cm:Nat) (av:Option Addr) (nv cv:Nat) (ak:Option Addr) (ns cs:Nat) (M:List ac) (V:List (List ag)) (S:List Int):Prop:=(Lit.int .i64 q).wf=true∧bf 0 w am nm cm av nv cv ak ns cs M V S∧rW w av V∧(∃g,ak=some ⟨g,0,none⟩)∧∃g,am=some ⟨g,0,none⟩
theorem rW.keep (h:rW w av V) (hb:Bl w w'):rW w' av V:=fun i B hB=>by
 obtain ⟨b,e,n,c,h1,h2⟩:=h i B hB
 exact ⟨b,e,n,c,h1,cell_later hb h2⟩
theorem zZ.keep (h:zZ w q am nm cm av nv cv ak ns cs M V S) (hb:Bl w w'):zZ w' q am nm cm av nv cv ak ns cs M V S:=⟨h.1,h.2.1.keep hb,h.2.2.1.keep hb,h.2.2.2⟩
def DrX (w:World) (e:Ending) (w':World):Prop:=∃q am nm cm av nv cv ak ns cs M V S,e=.returned (.agg #[iT q,.slice am nm cm,.slice av nv cv,.slice ak ns cs])∧zZ w' q am nm cm av nv cv ak ns cs M V S∧Bl w w'
structure AY (w wi:World) (R X:Nat) (a:Option Addr) (len cap P:Nat):Prop where
 rd:aW wi R a len cap P
 low:pK a len R
 bx:ar wi X (iT 0) nZ nZ nZ
 kx:an wi X 31 4
 bl:Bl w wi
 top:w.heap.size≤X∧X<R
theorem AY.below (h:AY w wi R X a len cap P) (hb:Bl wi wj):AY w wj R X a len cap P :=
 ⟨h.rd.below hb,h.low,h.bx.keep hb,h.kx.below hb,h.bl.trans (hb.mono h.bl.size),h.top⟩
theorem AY.read (h:AY w wi R X a len cap P) (hg:wi.grownBy wj (some R)) (hr:aW wj R a len cap P'):AY w wj R X a len cap P' :=
 have e:X≠R:=by have:=h.top;omega
 ⟨hr,h.low,h.bx.grownB hg e,h.kx.grown hg e,h.bl.grown hg h.bl.size (fun k e=>by cases e;have:=h.top;omega),h.top⟩
theorem mP {W:World} (kA:Bl w W) (hc3:len=0∨∃b off,a=some ⟨b,off,none⟩∧b<w.heap.size∧∀i,i<len→∃z:Nat,z≤255∧w.cell? ⟨b,off+i,none⟩=some (.int .u8 z)):len=0∨∃b off,a=some ⟨b,off,none⟩∧b<W.heap.size∧∀i,i<len→∃z:Nat,z≤255∧W.cell? ⟨b,off+i,none⟩=some (.int .u8 z):=by
 rcases hc3 with h0 | ⟨b,off,ha,hb1,hcc⟩
 · exact Or.inl h0
 · exact Or.inr ⟨b,off,ha,Nat.lt_of_lt_of_le hb1 kA.size,fun i hi=>by obtain ⟨z,hz,hzc⟩:=hcc i hi;exact ⟨z,hz,cell_later kA hzc⟩⟩
theorem s8 {w1:World} (h:aW w1 R a len cap P) (hs:w1.heap.size=R+1):pK a len R:=by
 rcases h.bytes with h0 | ⟨b,off,ha,h1,h2,_⟩
 · exact Or.inl h0
 · exact Or.inr (fun b' off' e=>by rw [ha] at e;cases e;omega)
theorem fw.treX (h:fw lo R w (.agg #[iT q,.slice am nm cm,.slice av nv cv,.slice ak ns cs])) (hk:an w X 31 4) (hX:ar w X (iT 0) nZ nZ nZ) (hs:pw (.agg #[iT q,.slice am nm cm,.slice av nv cv,.slice ak ns cs])) (u0:Int) (a1 a2 a3:Option Addr) (m1 k1 m2 k2 m3 k3:Nat):∃M V S,zZ ((((w.setCell ⟨X,0,none⟩ (iT u0)).setCell ⟨X,1,none⟩ (.slice a1 m1 k1)).setCell ⟨X,2,none⟩ (.slice a2 m2 k2)).setCell ⟨X,3,none⟩ (.slice a3 m3 k3)) q am nm cm av nv cv ak ns cs M V S:=by
 obtain ⟨q',am',nm',cm',av',nv',cv',ak',ns',cs',M,V,S,e,h1,h2,h3,_⟩:=(h.four hk hX).treeIn;cases e;obtain ⟨_,g1,_,_,_,_,_,g3,_,_,e⟩:=hs;exact ⟨M,V,S,h1,h2,h3,⟨g3,by simp at e;simp [e]⟩,⟨g1,by simp at e;simp [e]⟩⟩
def Cl (w:World) (e:Ending) (w':World):Prop:=∃(q:Int) (am:Option Addr) (nm cm:Nat) (av:Option Addr) (nv cv:Nat) (ak:Option Addr) (ns cs:Nat) (M:List ac) (V:List (List ag)) (S:List Int) (q2:Int) (am2:Option Addr) (nm2 cm2:Nat) (av2:Option Addr) (nv2 cv2:Nat) (ak2:Option Addr) (ns2 cs2:Nat) (M2:List ac) (V2:List (List ag)) (S2:List Int),e=.returned (.tuple #[.agg #[iT q,.slice am nm cm,.slice av nv cv,.slice ak ns cs],.agg #[iT q2,.slice am2 nm2 cm2,.slice av2 nv2 cv2,.slice ak2 ns2 cs2]])∧bf 0 w' am nm cm av nv cv ak ns cs M V S∧bf 0 w' am2 nm2 cm2 av2 nv2 cv2 ak2 ns2 cs2 M2 V2 S2∧Bl w w'
structure rS (w wt wi:World) (R X Z Y b:Nat) (a:Option Addr) (len cap P:Nat) (x0 x1 x2 x3:Value) (q:Int) (am:Option Addr) (nm cm:Nat) (av:Option Addr) (nv cv:Nat) (ak:Option Addr) (ns cs:Nat):Prop where
 rd:aW wi R a len cap P
 low:pK a len R
 bx:ar wi X x0 x1 x2 x3
 bz:ar wi Z (iT 0) nZ nZ nZ
 bY:ar wi Y (iT q) (.slice am nm cm) (.slice av nv cv) (.slice ak ns cs)
 kx:an wi X 31 4
 kz:an wi Z 31 4
 kY:an wi Y 31 4
 bl:Bl w wi
 sm:dJ b wt wi
 top:w.heap.size≤X∧X<R∧w.heap.size≤Z∧Z<R∧X≠Z∧R<b∧b≤Y∧b≤wt.heap.size
theorem rS.below (h:rS w wt wi R X Z Y b a len cap P x0 x1 x2 x3 q am nm cm av nv cv ak ns cs) (hb:Bl wi wj):rS w wt wj R X Z Y b a len cap P x0 x1 x2 x3 q am nm cm av nv cv ak ns cs :=
 ⟨h.rd.below hb,h.low,h.bx.keep hb,h.bz.keep hb,h.bY.keep hb,h.kx.below hb,h.kz.below hb,h.kY.below hb,h.bl.trans (hb.mono h.bl.size),h.sm.trans (dJ.of_below hb),h.top⟩
theorem rS.read (h:rS w wt wi R X Z Y b a len cap P x0 x1 x2 x3 q am nm cm av nv cv ak ns cs) (hg:wi.grownBy wj (some R)) (hr:aW wj R a len cap P'):rS w wt wj R X Z Y b a len cap P' x0 x1 x2 x3 q am nm cm av nv cv ak ns cs:=by
 have ht:=h.top;have e1:X≠R:=by omega
 have e2:Z≠R:=by omega
 have e3:Y≠R:=by omega
 exact ⟨hr,h.low,h.bx.grownB hg e1,h.bz.grownB hg e2,h.bY.grownB hg e3,h.kx.grown hg e1,h.kz.grown hg e2,h.kY.grown hg e3,h.bl.grown hg h.bl.size (fun k e=>by cases e;omega),h.sm.trans ⟨hg.size,fun c o hc hl=>World.cell?_of_block (a:=⟨c,o,none⟩) (hg.block c hl (fun e=>by have:=Option.some.inj e;omega))⟩,ht⟩
theorem rS.acted (h:rS w wt wi R X Z Y b a len cap P x0 x1 x2 x3 q am nm cm av nv cv ak ns cs) (hg:gF lo (some R) wi wj) (hr:aW wj R a len cap P') (hlo:wt.heap.size≤lo):rS w wt wj R X Z Y b a len cap P' x0 x1 x2 x3 q am nm cm av nv cv ak ns cs:=by
 have ht:=h.top;have e1:some X≠some R:=fun e=>by have:=Option.some.inj e;omega
 have e2:some Z≠some R:=fun e=>by have:=Option.some.inj e;omega
 have e3:some Y≠some R:=fun e=>by have:=Option.some.inj e;omega
 refine ⟨hr,h.low,h.bx.gr (sz:=0) h.kx e1 hg,h.bz.gr (sz:=0) h.kz e2 hg,h.bY.gr (sz:=0) h.kY e3 hg,h.kx.gr e1 hg,h.kz.gr e2 hg,h.kY.gr e3 hg,?_,⟨Nat.le_trans h.sm.1 hg.size,fun c o hc hl=>?_⟩,ht⟩
 · exact ⟨hg.os.trans h.bl.os,hg.tape.trans h.bl.tape,hg.output.trans h.bl.output,Nat.le_trans h.bl.size hg.size,fun k hk=>(hg.block k (Nat.lt_of_lt_of_le hk h.bl.size) (fun e=>by have:=Option.some.inj e;omega) (.inl (by omega))).trans (h.bl.block k hk)⟩
 · exact (World.cell?_of_block (a:=⟨c,o,none⟩) (hg.block c (Nat.lt_of_lt_of_le hl h.sm.1) (fun e=>by have:=Option.some.inj e;omega) (.inl (by show c<lo;omega)))).trans (h.sm.2 c o hc hl)
theorem rS.fin {q2:Int} {am2:Option Addr} {nm2 cm2:Nat} {av2:Option Addr} {nv2 cv2:Nat} {ak2:Option Addr} {ns2 cs2:Nat} (h:rS w wt wi R X Z Y b a len cap P (iT 0) nZ nZ nZ q am nm cm av nv cv ak ns cs) (ht:bf b wt am nm cm av nv cv ak ns cs M V S) (hu:fw lo R wi (.agg #[iT q2,.slice am2 nm2 cm2,.slice av2 nv2 cv2,.slice ak2 ns2 cs2])) :
 ar (((((((((wi.setCell ⟨X,0,none⟩ (iT q)).setCell ⟨X,1,none⟩ (.slice am nm cm)).setCell ⟨X,2,none⟩ (.slice av nv cv)).setCell ⟨X,3,none⟩ (.slice ak ns cs))).setCell ⟨Z,0,none⟩ (iT q2)).setCell ⟨Z,1,none⟩ (.slice am2 nm2 cm2)).setCell ⟨Z,2,none⟩ (.slice av2 nv2 cv2)).setCell ⟨Z,3,none⟩ (.slice ak2 ns2 cs2)) X (iT q) (.slice am nm cm) (.slice av nv cv) (.slice ak ns cs)∧ar (((((((((wi.setCell ⟨X,0,none⟩ (iT q)).setCell ⟨X,1,none⟩ (.slice am nm cm)).setCell ⟨X,2,none⟩ (.slice av nv cv)).setCell ⟨X,3,none⟩ (.slice ak ns cs))).setCell ⟨Z,0,none⟩ (iT q2)).setCell ⟨Z,1,none⟩ (.slice am2 nm2 cm2)).setCell ⟨Z,2,none⟩ (.slice av2 nv2 cv2)).setCell ⟨Z,3,none⟩ (.slice ak2 ns2 cs2)) Z (iT q2) (.slice am2 nm2 cm2) (.slice av2 nv2 cv2) (.slice ak2 ns2 cs2)∧bf 0 (((((((((wi.setCell ⟨X,0,none⟩ (iT q)).setCell ⟨X,1,none⟩ (.slice am nm cm)).setCell ⟨X,2,none⟩ (.slice av nv cv)).setCell ⟨X,3,none⟩ (.slice ak ns cs))).setCell ⟨Z,0,none⟩ (iT q2)).setCell ⟨Z,1,none⟩ (.slice am2 nm2 cm2)).setCell ⟨Z,2,none⟩ (.slice av2 nv2 cv2)).setCell ⟨Z,3,none⟩ (.slice ak2 ns2 cs2)) am nm cm av nv cv ak ns cs M V S∧(∃M2 V2 S2,bf 0 (((((((((wi.setCell ⟨X,0,none⟩ (iT q)).setCell ⟨X,1,none⟩ (.slice am nm cm)).setCell ⟨X,2,none⟩ (.slice av nv cv)).setCell ⟨X,3,none⟩ (.slice ak ns cs))).setCell ⟨Z,0,none⟩ (iT q2)).setCell ⟨Z,1,none⟩ (.slice am2 nm2 cm2)).setCell ⟨Z,2,none⟩ (.slice av2 nv2 cv2)).setCell ⟨Z,3,none⟩ (.slice ak2 ns2 cs2)) am2 nm2 cm2 av2 nv2 cv2 ak2 ns2 cs2 M2 V2 S2)∧Bl w (((((((((wi.setCell ⟨X,0,none⟩ (iT q)).setCell ⟨X,1,none⟩ (.slice am nm cm)).setCell ⟨X,2,none⟩ (.slice av nv cv)).setCell ⟨X,3,none⟩ (.slice ak ns cs))).setCell ⟨Z,0,none⟩ (iT q2)).setCell ⟨Z,1,none⟩ (.slice am2 nm2 cm2)).setCell ⟨Z,2,none⟩ (.slice av2 nv2 cv2)).setCell ⟨Z,3,none⟩ (.slice ak2 ns2 cs2)):=by
 have ht':=h.top;have e1:X≠Z:=by omega
 have e4:X<b:=by omega
 have e5:Z<b:=by omega
 have hx:=(((h.bx.set0 (iT q)).set1 (.slice am nm cm)).set2 (.slice av nv cv)).set3 (.slice ak ns cs);have hz:=(((h.bz.other (b':=X) (o:=0) e1 (iT q)).other (b':=X) (o:=1) e1 (.slice am nm cm)).other (b':=X) (o:=2) e1 (.slice av nv cv)).other (b':=X) (o:=3) e1 (.slice ak ns cs);have kz:=(((h.kz.setCell (b:=X) (o:=0) (iT q)).setCell (b:=X) (o:=1) (.slice am nm cm)).setCell (b:=X) (o:=2) (.slice av nv cv)).setCell (b:=X) (o:=3) (.slice ak ns cs);have hu1:=hu.four (q:=q) (a1:=am) (m1:=nm) (k1:=cm) (a2:=av) (m2:=nv) (k2:=cv) (a3:=ak) (m3:=ns) (k3:=cs) h.kx h.bx;have hu2:=hu1.four (q:=q2) (a1:=am2) (m1:=nm2) (k1:=cm2) (a2:=av2) (m2:=nv2) (k2:=cv2) (a3:=ak2) (m3:=ns2) (k3:=cs2) kz hz;have bl:=(((h.bl.setCell (p:=⟨X,0,none⟩) ht'.1 (iT q)).setCell (p:=⟨X,1,none⟩) ht'.1 (.slice am nm cm)).setCell (p:=⟨X,2,none⟩) ht'.1 (.slice av nv cv)).setCell (p:=⟨X,3,none⟩) ht'.1 (.slice ak ns cs);have sm:=(((h.sm.trans (dJ.of_set ⟨X,0,none⟩ (iT q) e4)).trans (dJ.of_set ⟨X,1,none⟩ (.slice am nm cm) e4)).trans (dJ.of_set ⟨X,2,none⟩ (.slice av nv cv) e4)).trans (dJ.of_set ⟨X,3,none⟩ (.slice ak ns cs) e4);have sm2:=(((sm.trans (dJ.of_set ⟨Z,0,none⟩ (iT q2) e5)).trans (dJ.of_set ⟨Z,1,none⟩ (.slice am2 nm2 cm2) e5)).trans (dJ.of_set ⟨Z,2,none⟩ (.slice av2 nv2 cv2) e5)).trans (dJ.of_set ⟨Z,3,none⟩ (.slice ak2 ns2 cs2) e5);refine ⟨(((hx.other e1.symm _).other e1.symm _).other e1.symm _).other e1.symm _,(((hz.set0 _).set1 _).set2 _).set3 _,(ht.same sm2).lowR (Nat.zero_le _),?_,(((bl.setCell (p:=⟨Z,0,none⟩) ht'.2.2.1 _).setCell (p:=⟨Z,1,none⟩) ht'.2.2.1 _).setCell (p:=⟨Z,2,none⟩) ht'.2.2.1 _).setCell (p:=⟨Z,3,none⟩) ht'.2.2.1 _⟩;obtain ⟨q',am',nm',cm',av',nv',cv',ak',ns',cs',M2,V2,S2,e,_,h2,_⟩:=hu2.treeIn;cases e;exact ⟨M2,V2,S2,h2⟩
theorem ph (a:Option Addr) (len cap:Nat) (w:World) (hb:iP w a len cap) :
 Calls Tryz.prog 22 #[.slice a len cap] w (Cl w):=by
 obtain ⟨X,hX⟩:=aS w.heap.size;obtain ⟨W0,hW0⟩:=aS (w.alloc (.cells #[iT 0,nZ,nZ,nZ] 31));obtain ⟨Z,hZ⟩:=aS W0.heap.size;obtain ⟨W,hW⟩:=aS (W0.alloc (.cells #[iT 0,nZ,nZ,nZ] 31));have k0:Bl w W0:=by rw [hW0];exact bZ
 have k1:Bl W0 W:=by rw [hW];exact bZ
 have kW:Bl w W:=k0.trans (k1.mono k0.size);have bX:ar W0 X (iT 0) nZ nZ nZ∧an W0 X 31 4:=by rw [hW0,hX];exact ⟨ar.new _ _ _ _ _ _,bU w #[iT 0,nZ,nZ,nZ] 31⟩
 have bZ:ar W Z (iT 0) nZ nZ nZ∧an W Z 31 4:=by rw [hW,hZ];exact ⟨ar.new _ _ _ _ _ _,bU W0 #[iT 0,nZ,nZ,nZ] 31⟩
 have HB:Hid ((ar W X (iT 0) nZ nZ nZ∧an W X 31 4)∧ar W Z (iT 0) nZ nZ nZ∧an W Z 31 4):=⟨⟨bX.1.keep k1,bX.2.below k1⟩,bZ⟩;obtain ⟨hc1,hc2,hc3⟩:=hb;have hc3':=mP kW hc3;have HK:Hid (w.heap.size≤X∧X<Z∧Z<W.heap.size∧Bl w W):=⟨Nat.le_of_eq hX.symm,by rw [hZ];exact bX.1.lt,bZ.1.lt,kW⟩;clear bX bZ k0 k1 kW hc3;go_enter Tryz.func22,Tryz.ntmps22
 go_wp2_with fail
 try rw [← hW0]
 try rw [← hW]
 try rw [← hX]
 have hZX:X+1=Z:=by rw [hZ,hW0,hX];simp
 rw [hZX];clear hW0 hW hX hZ hZX;refine (oM a len cap _ hc1 hc2 hc3').mono ?_;rintro e w1 ⟨len',rfl,hR1,hb1,hsz1⟩;obtain ⟨R,hR⟩:=aS W.heap.size;rw [← hR] at hR1 hsz1;rw [← hR];have HR1:Hid (aW w1 R a len' cap 0∧pK a len' R∧Bl W w1∧Z<R):=⟨hR1,s8 hR1 hsz1,hb1,by rw [hR];exact HK.out.2.2.1⟩;clear hc1 hc2 hc3' hR1 hb1 hsz1 hR;go_wp2_with fail
 refine (oO R 0 a len' cap w1 HR1.out.1 HR1.out.2.1 (by omega)).mono ?_;rintro e w2 ⟨v,P2,rfl,hg2,hR2,hP2,hG2,_,q,am,nm,cm,av,nv,cv,ak,ns,cs,M,V,S,rfl,hT2⟩;obtain ⟨Y,hY⟩:=aS w2.heap.size;obtain ⟨w3,hw3⟩:=aS (w2.alloc (.cells #[iT q,.slice am nm cm,.slice av nv cv,.slice ak ns cs] 31));have k3:Bl w2 w3:=by rw [hw3];exact bZ
 have HT3:Hid (bf w1.heap.size w3 am nm cm av nv cv ak ns cs M V S):=hT2.keep k3;have HG3:Hid (cw w1.heap.size w3 (.agg #[iT q,.slice am nm cm,.slice av nv cv,.slice ak ns cs])):=hg2.below k3;have S3:Hid (rS w w3 w3 R X Z Y w1.heap.size a len' cap P2 (iT 0) nZ nZ nZ q am nm cm av nv cv ak ns cs):=by
  have hk:=HK.out;have hr:=HR1.out;have r1:=hr.1.lt;have bb:=HB.out;have e1:X≠R:=by omega
  have e2:Z≠R:=by omega
  have s2:=hG2.size;have s3:=k3.size;have b2:Bl w w2:=(hk.2.2.2.trans (hr.2.2.1.mono hk.2.2.2.size)).grown hG2 (hk.2.2.2.trans (hr.2.2.1.mono hk.2.2.2.size)).size (fun k e=>by cases e;omega);exact ⟨hR2.below k3,hr.2.1,((bb.1.1.keep hr.2.2.1).grownB hG2 e1).keep k3,((bb.2.1.keep hr.2.2.1).grownB hG2 e2).keep k3,by rw [hw3,hY];exact ar.new _ _ _ _ _ _,((bb.1.2.below hr.2.2.1).grown hG2 e1).below k3,((bb.2.2.below hr.2.2.1).grown hG2 e2).below k3,by rw [hw3,hY];exact bU w2 #[iT q,.slice am nm cm,.slice av nv cv,.slice ak ns cs] 31,b2.trans (k3.mono b2.size),⟨Nat.le_refl _,fun _ _ _ _=>rfl⟩,⟨hk.1,by omega,by omega,by omega,by omega,r1,by rw [hY];exact s2,Nat.le_trans s2 s3⟩⟩
 have HSZ:Hid (R<w1.heap.size):=HR1.out.1.lt;clear hg2 hR2 hG2 hT2 k3 HB HR1 HK;go_upto_region 3 with fail
 rw [← hw3];try rw [← hY]
 clear hw3 hY;have HMK:Hid (∀w',ar w' Y (iT q) (.slice am nm cm) (.slice av nv cv) (.slice ak ns cs)→(fun w':World=>w'.cell? ⟨Y,0,none⟩=some (iT q)∧w'.cell? ⟨Y,1,none⟩=some (.slice am nm cm)∧w'.cell? ⟨Y,2,none⟩=some (.slice av nv cv)∧w'.cell? ⟨Y,3,none⟩=some (.slice ak ns cs)∧Y<w'.heap.size) w'):=fun w' b=>⟨b.c0,b.c1,b.c2,b.c3,b.lt⟩
 go_wp2_with fail
 refine (cF R P2 a len' cap 3 _ S3.out.rd (by omega) (by omega)).mono ?_;rintro e w4 ⟨z,rfl,_,hR4,hg4⟩;have S4:Hid (rS w w3 w4 R X Z Y w1.heap.size a len' cap (P2+1) (iT 0) nZ nZ nZ q am nm cm av nv cv ak ns cs):=S3.out.read hg4 hR4;have HG4:Hid (cw w1.heap.size w4 (.agg #[iT q,.slice am nm cm,.slice av nv cv,.slice ak ns cs])):=HG3.out.read S3.out.rd HSZ.out hg4;clear hR4 hg4 S3 HG3;by_cases hz:z=0
 · subst hz;go_upto_region 4 with fail
   have kd:=(Below.refl w4.heap.size w4).drew;have S5:Hid (rS w w3 w4.drew R X Z Y w1.heap.size a len' cap (P2+1) (iT 0) nZ nZ nZ q am nm cm av nv cv ak ns cs):=S4.out.below kd;have HG5:Hid (cw w1.heap.size w4.drew (.agg #[iT q,.slice am nm cm,.slice av nv cv,.slice ak ns cs])):=HG4.out.below kd;clear kd S4 HG4;refine eC HMK S5.out.bY fun aa=>?_
   generalize w4.drew=wd at aa S5 HG5 ⊢;refine aO 0 2 aa ?_;refine aI 2 fun K hK=>?_
   go_simp;refine (zN w1.heap.size _ wd HG5.out).mono ?_;rintro e w5 ⟨q2,am2,nm2,cm2,av2,nv2,cv2,ak2,ns2,cs2,rfl,hg5,hb5,_,_⟩;have S6:Hid (rS w w3 w5 R X Z Y w1.heap.size a len' cap (P2+1) (iT 0) nZ nZ nZ q am nm cm av nv cv ak ns cs):=S5.out.below hb5;have HU:Hid (fw wd.heap.size R w5 (.agg #[iT q2,.slice am2 nm2 cm2,.slice av2 nv2 cv2,.slice ak2 ns2 cs2])):=.inl hg5;clear hg5 hb5 S5 HG5;go_wp2_with fail
   refine hK.out _ _ (HMK.out _ S6.out.bY) fun aa=>?_
   (try go_frame);have HM1:Hid (ar ((((w5.setCell ⟨X,0,none⟩ (iT q)).setCell ⟨X,1,none⟩ (.slice am nm cm)).setCell ⟨X,2,none⟩ (.slice av nv cv)).setCell ⟨X,3,none⟩ (.slice ak ns cs)) Y (iT q) (.slice am nm cm) (.slice av nv cv) (.slice ak ns cs)):=by
    have hne:X≠Y:=by have:=S6.out.top;omega
    exact (((S6.out.bY.other hne _).other hne _).other hne _).other hne _
   have HM2:Hid (ar ((((((((w5.setCell ⟨X,0,none⟩ (iT q)).setCell ⟨X,1,none⟩ (.slice am nm cm)).setCell ⟨X,2,none⟩ (.slice av nv cv)).setCell ⟨X,3,none⟩ (.slice ak ns cs)).setCell ⟨Z,0,none⟩ (iT q2)).setCell ⟨Z,1,none⟩ (.slice am2 nm2 cm2)).setCell ⟨Z,2,none⟩ (.slice av2 nv2 cv2)).setCell ⟨Z,3,none⟩ (.slice ak2 ns2 cs2)) Y (iT q) (.slice am nm cm) (.slice av nv cv) (.slice ak ns cs)):=by
    have hne:Z≠Y:=by have:=S6.out.top;omega
    exact (((HM1.out.other hne _).other hne _).other hne _).other hne _
   have HZ1:Hid (ar ((((w5.setCell ⟨X,0,none⟩ (iT q)).setCell ⟨X,1,none⟩ (.slice am nm cm)).setCell ⟨X,2,none⟩ (.slice av nv cv)).setCell ⟨X,3,none⟩ (.slice ak ns cs)) Z (iT 0) nZ nZ nZ):=by
    have hne:X≠Z:=by have:=S6.out.top;omega
    exact (((S6.out.bz.other hne _).other hne _).other hne _).other hne _
   refine aI 3 fun K hK=>?_
   have x0:=S6.out.bx.c0;have x1:=S6.out.bx.c1;have x2:=S6.out.bx.c2;have x3:=S6.out.bx.c3;have xf:=S6.out.bx.fz;have xz:=S6.out.bx.lt;go_simp;refine hK.out _ _ (HMK.out _ HM1.out) (fun aa=>?_);clear hK K x0 x1 x2 x3 xf xz;(try go_frame);refine aI 4 fun K hK=>?_
   have x0:=HZ1.out.c0;have x1:=HZ1.out.c1;have x2:=HZ1.out.c2;have x3:=HZ1.out.c3;have xf:=HZ1.out.fz;have xz:=HZ1.out.lt;go_simp;refine hK.out _ _ (HMK.out _ HM2.out) (fun aa=>?_);clear hK K x0 x1 x2 x3 xf xz;(try go_frame);refine dN ?_;clear aa HMK HM1 HM2 HZ1;go_wp2;obtain ⟨f1,f2,f3,⟨M2,V2,S2,f4⟩,f5⟩:=S6.out.fin HT3.out HU.out;refine bodyPost_ret (v:=.tuple #[.agg #[iT q,.slice am nm cm,.slice av nv cv,.slice ak ns cs],.agg #[iT q2,.slice am2 nm2 cm2,.slice av2 nv2 cv2,.slice ak2 ns2 cs2]]) ?_ rfl ⟨q,am,nm,cm,av,nv,cv,ak,ns,cs,M,V,S,q2,am2,nm2,cm2,av2,nv2,cv2,ak2,ns2,cs2,M2,V2,S2,rfl,f3,f4,f5⟩;simp [results,Tryz.results22,go_sem,f1.c0,f1.c1,f1.c2,f1.c3,f2.c0,f2.c1,f2.c2,f2.c3]
 · have hzn:¬z=0:=hz;go_upto_region 5 with fail
   have kd:=(Below.refl w4.heap.size w4).drew;have S5:Hid (rS w w3 w4.drew R X Z Y w1.heap.size a len' cap (P2+1) (iT 0) nZ nZ nZ q am nm cm av nv cv ak ns cs):=S4.out.below kd;have HG5:Hid (cw w1.heap.size w4.drew (.agg #[iT q,.slice am nm cm,.slice av nv cv,.slice ak ns cs])):=HG4.out.below kd;clear kd S4 HG4;refine eC HMK S5.out.bY fun aa=>?_
   generalize w4.drew=wd at aa S5 HG5 ⊢;refine aO 0 4 aa ?_;refine aI 4 fun K hK=>?_
   go_simp;refine (zN w1.heap.size _ wd HG5.out).mono ?_;rintro e w5 ⟨q1,am1,nm1,cm1,av1,nv1,cv1,ak1,ns1,cs1,rfl,hg5,hb5,_,_⟩;have S6:Hid (rS w w3 w5 R X Z Y w1.heap.size a len' cap (P2+1) (iT 0) nZ nZ nZ q am nm cm av nv cv ak ns cs):=S5.out.below hb5;have HU5:Hid (cw wd.heap.size w5 (.agg #[iT q1,.slice am1 nm1 cm1,.slice av1 nv1 cv1,.slice ak1 ns1 cs1])):=hg5;have HLO:Hid (w3.heap.size≤wd.heap.size∧wd.heap.size≤w5.heap.size):=⟨S5.out.sm.1,hb5.size⟩;clear hg5 hb5 S5 HG5;go_wp2_with fail
   refine hK.out _ _ (HMK.out _ S6.out.bY) fun aa=>?_
   (try go_frame);refine aI 5 fun K hK=>?_
   go_simp;have HRL:Hid (R<wd.heap.size):=by have:=HLO.out;have:=S6.out.top;show R<wd.heap.size;omega
   refine (qx R (P2+1) wd.heap.size a len' cap _ w5 S6.out.rd S6.out.low (by omega) HRL.out HLO.out.2 HU5.out).mono ?_;rintro e w6 ⟨v6,P6,rfl,hg6,hR6,hP6,hl6⟩;obtain ⟨q0,am0,nm0,cm0,av0,nv0,cv0,ak0,ns0,cs0,rfl⟩:=hg6.val;have S7:Hid (rS w w3 w6 R X Z Y w1.heap.size a len' cap P6 (iT 0) nZ nZ nZ q am nm cm av nv cv ak ns cs):=S6.out.acted hl6 hR6 HLO.out.1;have HU6:Hid (cw wd.heap.size w6 (.agg #[iT q0,.slice am0 nm0 cm0,.slice av0 nv0 cv0,.slice ak0 ns0 cs0])):=hg6;have HL6:Hid (wd.heap.size≤w6.heap.size):=Nat.le_trans HLO.out.2 hl6.size;clear hg6 hR6 hl6 S6 HU5;go_wp2_with fail
   refine hK.out _ _ (HMK.out _ S7.out.bY) fun aa=>?_
   (try go_frame);refine aI 6 fun K hK=>?_
   go_simp;refine (oP R P6 wd.heap.size a len' cap _ w6 S7.out.rd S7.out.low (by omega) HRL.out HL6.out HU6.out).mono ?_;rintro e w7 ⟨v7,P7,rfl,ha7,hR7,hP7,hG7,_⟩;obtain ⟨q2,am2,nm2,cm2,av2,nv2,cv2,ak2,ns2,cs2,rfl⟩:=ha7.val;have S8:Hid (rS w w3 w7 R X Z Y w1.heap.size a len' cap P7 (iT 0) nZ nZ nZ q am nm cm av nv cv ak ns cs):=S7.out.read hG7 hR7;have HU:Hid (fw wd.heap.size R w7 (.agg #[iT q2,.slice am2 nm2 cm2,.slice av2 nv2 cv2,.slice ak2 ns2 cs2])):=ha7;clear ha7 hR7 hG7 S7 HU6 HL6 HLO HRL;go_wp2_with fail
   refine hK.out _ _ (HMK.out _ S8.out.bY) fun aa=>?_
   (try go_frame);have HM1:Hid (ar ((((w7.setCell ⟨X,0,none⟩ (iT q)).setCell ⟨X,1,none⟩ (.slice am nm cm)).setCell ⟨X,2,none⟩ (.slice av nv cv)).setCell ⟨X,3,none⟩ (.slice ak ns cs)) Y (iT q) (.slice am nm cm) (.slice av nv cv) (.slice ak ns cs)):=by
    have hne:X≠Y:=by have:=S8.out.top;omega
    exact (((S8.out.bY.other hne _).other hne _).other hne _).other hne _
   have HM2:Hid (ar ((((((((w7.setCell ⟨X,0,none⟩ (iT q)).setCell ⟨X,1,none⟩ (.slice am nm cm)).setCell ⟨X,2,none⟩ (.slice av nv cv)).setCell ⟨X,3,none⟩ (.slice ak ns cs)).setCell ⟨Z,0,none⟩ (iT q2)).setCell ⟨Z,1,none⟩ (.slice am2 nm2 cm2)).setCell ⟨Z,2,none⟩ (.slice av2 nv2 cv2)).setCell ⟨Z,3,none⟩ (.slice ak2 ns2 cs2)) Y (iT q) (.slice am nm cm) (.slice av nv cv) (.slice ak ns cs)):=by
    have hne:Z≠Y:=by have:=S8.out.top;omega
    exact (((HM1.out.other hne _).other hne _).other hne _).other hne _
   have HZ1:Hid (ar ((((w7.setCell ⟨X,0,none⟩ (iT q)).setCell ⟨X,1,none⟩ (.slice am nm cm)).setCell ⟨X,2,none⟩ (.slice av nv cv)).setCell ⟨X,3,none⟩ (.slice ak ns cs)) Z (iT 0) nZ nZ nZ):=by
    have hne:X≠Z:=by have:=S8.out.top;omega
    exact (((S8.out.bz.other hne _).other hne _).other hne _).other hne _
   refine aI 7 fun K hK=>?_
   have x0:=S8.out.bx.c0;have x1:=S8.out.bx.c1;have x2:=S8.out.bx.c2;have x3:=S8.out.bx.c3;have xf:=S8.out.bx.fz;have xz:=S8.out.bx.lt;go_simp;refine hK.out _ _ (HMK.out _ HM1.out) (fun aa=>?_);clear hK K x0 x1 x2 x3 xf xz;(try go_frame);refine aI 8 fun K hK=>?_
   have x0:=HZ1.out.c0;have x1:=HZ1.out.c1;have x2:=HZ1.out.c2;have x3:=HZ1.out.c3;have xf:=HZ1.out.fz;have xz:=HZ1.out.lt;go_simp;refine hK.out _ _ (HMK.out _ HM2.out) (fun aa=>?_);clear hK K x0 x1 x2 x3 xf xz;(try go_frame);refine dN ?_;clear aa HMK HM1 HM2 HZ1;go_wp2;obtain ⟨f1,f2,f3,⟨M2,V2,S2,f4⟩,f5⟩:=S8.out.fin HT3.out HU.out;refine bodyPost_ret (v:=.tuple #[.agg #[iT q,.slice am nm cm,.slice av nv cv,.slice ak ns cs],.agg #[iT q2,.slice am2 nm2 cm2,.slice av2 nv2 cv2,.slice ak2 ns2 cs2]]) ?_ rfl ⟨q,am,nm,cm,av,nv,cv,ak,ns,cs,M,V,S,q2,am2,nm2,cm2,av2,nv2,cv2,ak2,ns2,cs2,M2,V2,S2,rfl,f3,f4,f5⟩;simp [results,Tryz.results22,go_sem,f1.c0,f1.c1,f1.c2,f1.c3,f2.c0,f2.c1,f2.c2,f2.c3]
theorem rH (a:Option Addr) (len cap:Nat) (w:World) (hb:iP w a len cap) :
 Calls Tryz.prog 23 #[.slice a len cap] w (DrX w):=by
 obtain ⟨X,hX⟩:=aS w.heap.size;obtain ⟨W,hW⟩:=aS (w.alloc (.cells #[iT 0,nZ,nZ,nZ] 31));have kW:Bl w W:=by rw [hW];exact bZ
 have br:ar W X (iT 0) nZ nZ nZ∧an W X 31 4:=by rw [hW,hX];exact ⟨ar.new _ _ _ _ _ _,bU w #[iT 0,nZ,nZ,nZ] 31⟩
 obtain ⟨hc1,hc2,hc3⟩:=hb;have hc3':=mP kW hc3;have HK:Hid (w.heap.size≤X∧X<W.heap.size∧Bl w W):=⟨Nat.le_of_eq hX.symm,br.1.lt,kW⟩;have HB:Hid (ar W X (iT 0) nZ nZ nZ∧an W X 31 4):=br;clear br kW hc3;go_enter Tryz.func23,Tryz.ntmps23
 go_wp2_with fail
 rw [← hW];try rw [← hX]
 clear hW hX;refine (oM a len cap _ hc1 hc2 hc3').mono ?_;rintro e w1 ⟨len',rfl,hR1,hb1,hsz1⟩;obtain ⟨R,hR⟩:=aS W.heap.size;rw [← hR] at hR1 hsz1;rw [← hR];have S1:Hid (AY w w1 R X a len' cap 0):=⟨hR1,s8 hR1 hsz1,HB.out.1.keep hb1,HB.out.2.below hb1,HK.out.2.2.trans (hb1.mono HK.out.2.2.size),HK.out.1,by rw [hR];exact HK.out.2.1⟩;clear hc1 hc2 hc3' hR1 hb1 hsz1 hR HK HB;go_wp2_with fail
 refine (uI R 0 a len' cap w1 S1.out.rd S1.out.low (by omega)).mono ?_;rintro e w2 ⟨q,am,nm,cm,av,nv,cv,ak,ns,cs,P2,rfl,hA2,hR2,hP2,hG2,hsv⟩;have HSV:Hid (pw (.agg #[iT q,.slice am nm cm,.slice av nv cv,.slice ak ns cs])):=hsv;have S2:Hid (AY w w2 R X a len' cap P2):=S1.out.read hG2 hR2;have HA2:Hid (fw w1.heap.size R w2 (.agg #[iT q,.slice am nm cm,.slice av nv cv,.slice ak ns cs])):=hA2;have HSZ:Hid (R<w1.heap.size∧w1.heap.size≤w2.heap.size):=⟨S1.out.rd.lt,hG2.size⟩;clear S1 hA2 hR2 hG2 hsv;have r0:=S2.out.bx.c0;have r1:=S2.out.bx.c1;have r2:=S2.out.bx.c2;have r3:=S2.out.bx.c3;have rf:=S2.out.bx.fz;have rz:=S2.out.bx.lt;go_wp2;obtain ⟨M,T,S,hT⟩:=HA2.out.treX S2.out.kx S2.out.bx HSV.out q am av ak nm cm nv cv ns cs;refine bodyPost_ret (v:=.agg #[iT q,.slice am nm cm,.slice av nv cv,.slice ak ns cs]) ?_ rfl ⟨q,am,nm,cm,av,nv,cv,ak,ns,cs,M,T,S,rfl,hT,((((S2.out.bl.setCell (p:=⟨X,0,none⟩) S2.out.top.1 _).setCell (p:=⟨X,1,none⟩) S2.out.top.1 _).setCell (p:=⟨X,2,none⟩) S2.out.top.1 _).setCell (p:=⟨X,3,none⟩) S2.out.top.1 _)⟩;have e:=(((S2.out.bx.set0 (iT q)).set1 (.slice am nm cm)).set2 (.slice av nv cv)).set3 (.slice ak ns cs);simp [results,Tryz.results23,go_sem,e.c0,e.c1,e.c2,e.c3]
end Go.Proofs.YtpobkmjicbobdaaGreat
namespace Go.Proofs.YtpobkmjicbobdaaGreat
open Go.RowKit
set_option maxRecDepth 100000
theorem tE {s s':ByteArray} (h:¬s=s'):¬s.toList=s'.toList:=fun e=>h (by
 rw [ByteArray.toList_eq,ByteArray.toList_eq] at e
 obtain ⟨⟨x⟩⟩:=s
 obtain ⟨⟨y⟩⟩:=s'
 simpa using e)
theorem lh (s t:ByteArray) (q d n:Int) (w:World):(binOp .neq 50 (.agg #[.string s,iT q,iT d,.string t,iT n]) (.agg #[.string s,iT q,iT d,.string t,iT n])).run Tryz.prog w=.ok (.bool false) w:=by
 have hs:=run_equalIn_struct (P:=Tryz.prog) w 9999 50 #[.string s,iT q,iT d,.string t,iT n] #[.string s,iT q,iT d,.string t,iT n] (by kernel_rfl) (by kernel_rfl);simp [binOp,Op.equal,Op.maxDepth,hs,go_sem,Tryz.underlying50]
theorem li (s t:ByteArray) (q d n:Int) (s' t':ByteArray) (q' d' n':Int) (w:World) (h:¬((s,q,d,t,n):ac)=(s',q',d',t',n')):(binOp .neq 50 (.agg #[.string s,iT q,iT d,.string t,iT n]) (.agg #[.string s',iT q',iT d',.string t',iT n'])).run Tryz.prog w=.ok (.bool true) w:=by
 have hs:=run_equalIn_struct (P:=Tryz.prog) w 9999 50 #[.string s,iT q,iT d,.string t,iT n] #[.string s',iT q',iT d',.string t',iT n'] (by kernel_rfl) (by kernel_rfl);by_cases h1:s=s'
 · subst h1;by_cases h2:q=q'
   · subst h2;by_cases h3:d=d'
     · subst h3;by_cases h4:t=t'
       · subst h4;have h5:¬n=n':=fun e=>h (by rw [e])
         simp [binOp,Op.equal,Op.maxDepth,hs,go_sem,Tryz.underlying50,h5]
       · have h4':=tE h4;simp [binOp,Op.equal,Op.maxDepth,hs,go_sem,Tryz.underlying50,h4']
     · simp [binOp,Op.equal,Op.maxDepth,hs,go_sem,Tryz.underlying50,h3]
   · simp [binOp,Op.equal,Op.maxDepth,hs,go_sem,Tryz.underlying50,h2]
 · have h4:=tE h1;simp [binOp,Op.equal,Op.maxDepth,hs,go_sem,Tryz.underlying50,h4]
theorem ls {L1 L2:List ac} {k:Nat} {l:ac} (h1:L1[k]?=some l) (h2:L2[k]?=some l) (h:L1.take k=L2.take k):L1.take (k+1)=L2.take (k+1):=by
 rw [List.take_add_one,List.take_add_one,h1,h2,h]
end Go.Proofs.YtpobkmjicbobdaaGreat
namespace Go.Proofs.YtpobkmjicbobdaaGreat
open Go.RowKit
set_option maxRecDepth 100000
end Go.Proofs.YtpobkmjicbobdaaGreat
