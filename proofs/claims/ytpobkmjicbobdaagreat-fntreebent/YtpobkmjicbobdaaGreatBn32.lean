/- Walks. -/
import Derived.Test.YtpobkmjicbobdaaGreatBn26
namespace Go.Proofs.YtpobkmjicbobdaaGreat
set_option maxRecDepth 100000
set_option maxHeartbeats 40000000
open Go.RowKit
theorem vX (lo:Nat) (q:Int) (am:Option Addr) (nm cm:Nat) (av:Option Addr) (nv cv:Nat) (ak:Option Addr) (ns cs:Nat) (M:List ac) (V:List (List ag)) (S:List Int) (w:World) (hT:bf lo w am nm cm av nv cv ak ns cs M V S) (hq:(Lit.int .i64 q).wf=true) (htb:bc q M V S=true) :
 Calls Tryz.prog 36 #[.agg #[iT q,.slice am nm cm,.slice av nv cv,.slice ak ns cs]] w fun e w'=>(ns<4∧q ∉ S→tP q nm nv (ns+1) M V (S++[q]) true w e w')∧(¬(ns<4∧q ∉ S)→tP q nm nv ns M V S false w e w'):=by
 have hsl:=hT.snaps.length;have hns:ns≤4:=by
  have h1:=(bh htb).2.2.2.2.2.2.1;unfold cu at h1;rw [Bool.and_eq_true] at h1;have h2:=of_decide_eq_true h1.1;omega
 have hnm:nm≤60:=by have h1:=(bh htb).2.2.1;have h2:=hT.mem.1.length;omega
 obtain ⟨A,B,C,hV3⟩:=kJ htb;have hnv:nv≤100:=by have h1:=hT.levels.length;rw [hV3] at h1;have h2:([A,B,C]:List (List ag)).length=3:=rfl;omega
 have hlv:∀B ∈ V,B.length≤100∧∀r ∈ B,1≤r.1.length∧r.1.length≤10000:=by
  have h8:eM V q=true:=(bh htb).2.2.2.2.2.2.2.1;rw [hV3] at h8 ⊢;unfold eM at h8;simp only [Bool.and_eq_true] at h8;intro Z hZm;simp only [List.mem_cons,List.not_mem_nil,or_false] at hZm;rcases hZm with rfl | rfl | rfl
  · exact dh h8.1 (by omega)
  · exact dh h8.2.1 (by omega)
  · exact dh h8.2.2 (by omega)
 obtain ⟨Z,hZ⟩:=aS (decide (q ∈ S));have CO:Hid (∀w',Bl w w'→Calls Tryz.prog 27 #[.agg #[iT q,.slice am nm cm,.slice av nv cv,.slice ak ns cs]] w' fun e w''=>e=.returned (.bool true)∧Bl w' w''):=fun w' k=>by
  have:=jN lo q _ _ _ _ _ _ _ _ _ M V S w' (hT.keep k);rw [htb] at this;exact this
 have CC:Hid (∀w',Bl w w'→Calls Tryz.prog 57 #[.agg #[iT q,.slice am nm cm,.slice av nv cv,.slice ak ns cs]] w' fun e w''=>∃g1 c1 G c g3 c3,e=.returned (.agg #[iT q,sL g1 nm c1,sL G nv c,sL g3 ns c3])∧cJ w'.heap.size w'' g1 nm c1 G nv c g3 ns c3 M V S∧Bl w' w''):=fun w' k=>gZ lo q am av ak nm cm nv cv ns cs M V S w' (hT.keep k) (by omega) (by omega) (by omega) hlv
 have CH:Hid (∀w',Bl w w'→Calls Tryz.prog 102 #[.agg #[iT q,.slice am nm cm,.slice av nv cv,.slice ak ns cs],iT q] w' fun e w''=>e=.returned (.bool Z)∧Bl w' w''):=fun w' k=>by rw [hZ];exact Ak lo q q _ _ _ _ _ _ _ _ _ S w' (hT.snaps.keep k) (by omega)
 obtain ⟨i0,hi,hz0,hz1,hz2⟩:=info_parts Tryz.infoInt;obtain ⟨X,hX⟩:=aS w.heap.size;obtain ⟨W,hW⟩:=aS ((w.alloc (.cells #[iT q,.slice am nm cm,.slice av nv cv,.slice ak ns cs] 31)).alloc (.cells #[iT 0,nZ,nZ,nZ] 31));have kW:Bl w W:=by rw [hW];exact bZ.alloc (by simp) _
 have bx:ar W X (iT q) (.slice am nm cm) (.slice av nv cv) (.slice ak ns cs):=by rw [hW,hX];exact (ar.new _ _ _ _ _ _).alloc _
 have br:ar W (X+1) (iT 0) nZ nZ nZ:=by
  have:=ar.new (w.alloc (.cells #[iT q,.slice am nm cm,.slice av nv cv,.slice ak ns cs] 31)) 31 (iT 0) nZ nZ nZ;rw [World.size_alloc] at this;rw [hW,hX];exact this
 have HX:Hid (X=w.heap.size):=hX;have K0:Hid (Bl w W):=kW;have hd:(ns<4∧q ∉ S) ↔ (ns<4∧Z=false):=by rw [hZ];simp
 clear hT kW hlv hsl htb hZ hV3;go_enter Tryz.func36,Tryz.ntmps36
 go_wp2_with fail
 rw [← hX,← hW];clear hX hW;refine (CO.out _ K0.out).mono ?_;rintro e w1 ⟨rfl,hb1⟩;have K1:Hid (Bl w w1):=K0.out.trans (hb1.mono K0.out.size);have bx1:=bx.keep hb1;have br1:=br.keep hb1;have x0:=bx1.c0;have x1:=bx1.c1;have x2:=bx1.c2;have x3:=bx1.c3;have xf:=bx1.fz;have xz:=bx1.lt;clear hb1 bx br;go_wp2_with fail
 clear x0 x1 x2 x3 xf xz;refine (CC.out _ K1.out).mono ?_;rintro e w2 ⟨g1,c1,G,c,g3,c3,rfl,hC2,hb2⟩;obtain ⟨Y,hY⟩:=aS w2.heap.size;obtain ⟨w3,hw3⟩:=aS (w2.alloc (.cells #[iT q,sL g1 nm c1,sL G nv c,sL g3 ns c3] 31));have k3:Bl w2 w3:=by rw [hw3];exact bZ
 have K3:Hid (Bl w w3):=(K1.out.trans (hb2.mono K1.out.size)).trans (k3.mono (Nat.le_trans K1.out.size hb2.size));have HC3:Hid (cJ w1.heap.size w3 g1 nm c1 G nv c g3 ns c3 M V S):=hC2.below k3;have bx3:=(bx1.keep hb2).keep k3;have br3:=(br1.keep hb2).keep k3;have by3:ar w3 Y (iT q) (sL g1 nm c1) (sL G nv c) (sL g3 ns c3):=by rw [hw3,hY];exact ar.new _ _ _ _ _ _
 have HXB:Hid (X+1<w1.heap.size):=br1.lt;have HBB:Hid (w.heap.size≤w1.heap.size):=K1.out.size;have HYX:Hid (X<Y∧X+1<Y):=by rw [hY];exact ⟨(bx1.keep hb2).lt,(br1.keep hb2).lt⟩
 have HB3:Hid (an w3 Y 31 4):=by rw [hw3,hY];exact ⟨_,(by show (w2.heap.push _)[w2.heap.size]?=_;exact Array.getElem?_push_size),rfl⟩
 have HG3:Hid (g3<Y):=by rw [hY];exact (hC2.sn.lt g3 rfl).2
 have x0:=bx3.c0;have x1:=bx3.c1;have x2:=bx3.c2;have x3:=bx3.c3;have xf:=bx3.fz;have xz:=bx3.lt;clear hb2 k3 hC2 bx1 br1;go_upto_region 4 with fail
 rw [← hw3];try rw [← hY]
 clear hw3 hY;go_wp2_with fail
 refine (CH.out _ K3.out).mono ?_;rintro e w4 ⟨rfl,hb4⟩;have K4:Hid (Bl w w4):=K3.out.trans (hb4.mono K3.out.size);have HC4:Hid (cJ w1.heap.size w4 g1 nm c1 G nv c g3 ns c3 M V S):=HC3.out.below hb4;have HB34:Hid (Bl w3 w4):=hb4;have bx4:=bx3.keep hb4;have br4:=br3.keep hb4;have by4:=by3.keep hb4;clear x0 x1 x2 x3 xf xz hb4 bx3 br3 by3;have x0:=bx4.c0;have x1:=bx4.c1;have x2:=bx4.c2;have x3:=bx4.c3;have xf:=bx4.fz;have xz:=bx4.lt;have y0:=by4.c0;have y1:=by4.c1;have y2:=by4.c2;have y3:=by4.c3;have yf:=by4.fz;have yz:=by4.lt;have r0:=br4.c0;have r1:=br4.c1;have r2:=br4.c2;have r3:=br4.c3;have rf:=br4.fz;have rz:=br4.lt;have HCF:Hid (cJ w1.heap.size w4 g1 nm c1 G nv c g3 ns c3 M V S):=HC4.out;cases Z with
 | true =>
  have hok:¬(ns<4∧q ∉ S):=fun h=>by have:=(hd.1 h).2;cases this
  clear hd;go_wp2;refine bodyPost_ret (v:=.tuple #[.agg #[iT q,sL g1 nm c1,sL G nv c,sL g3 (ns) c3],.bool false]) ?_ rfl ⟨fun hn=>absurd hn hok,fun _=>⟨g1,c1,G,c,g3,c3,rfl,?_,?_⟩⟩
  · have e:=(((br4.set0 (iT q)).set1 (sL g1 nm c1)).set2 (sL G nv c)).set3 (sL g3 (ns) c3);simp [results,Tryz.results36,go_sem,e.c0,e.c1,e.c2,e.c3]
  · exact (HCF.out.four HXB.out _ _ _ _).mono HBB.out
  · have hx:w.heap.size≤X+1:=by have:=HX.out;omega
    exact gG K4.out hx _ _ _ _
 | false =>
  by_cases h4:ns<4
  · have hok:ns<4∧q ∉ S:=hd.2 ⟨h4,rfl⟩;have h4I:¬(ns:Int) ≥ 4:=by omega
    have hyx:=HYX.out;have hsn:=HC4.out.sn.alloc (.cells #[iT q] 3);have hwz:=K4.out.size;have HB1:Hid (w1.heap.size≤w4.heap.size):=by have h1:=(HC4.out.sn.lt g3 rfl);show _≤_;omega
    have hb1z:=HB1.out;have HRG:Hid (X+1≠g3):=by have h1:=(HC4.out.sn.lt g3 rfl).1;have h2:=HXB.out;show _≠_;omega
    clear hd HCF;go_upto_region 7 with (at_builtin;refine wpList_append_own _ rfl _ _ 24 rfl w1.heap.size 3 i0 _ 1 8 Tryz.underlying24 hi hz0 hz1 hz2 rfl (by decide) _ _ _ rfl hsn ⟨w4.heap.size,0,none⟩ 1 1 [iT q] rfl rfl (eD _ _ _) (by simp [Value.oneCell']) (by unfold maxLen;omega) (by omega) (by simp;omega) ?_;intro v5 w5 ho5 hg5 hn5;obtain ⟨g4,c4,rfl⟩:=ownsRow_succ ho5;have hg5:(w4.alloc (.cells #[iT q] 3)).grownBy w5 (some g3):=hg5;have by5:=(by4.alloc (.cells #[iT q] 3)).grownB hg5 (by have:=HG3.out;omega);have br5:=(br4.alloc (.cells #[iT q] 3)).grownB hg5 HRG.out;have y0:=by5.c0;have y1:=by5.c1;have y2:=by5.c2;have y3:=by5.c3;have yf:=by5.fz;have yz:=by5.lt)
    have ka:Bl w4 (w4.alloc (.cells #[iT q] 3)):=bZ;have hC5:=(HC4.out.below ka).push hg5 ho5 hq;have K5:Bl w w5:=(K4.out.alloc K4.out.size _).grown hg5 (by simp;omega) (fun k e=>by cases e;exact Nat.le_trans HBB.out (HC4.out.sn.lt g3 rfl).1);obtain ⟨w6,hw6⟩:=aS (w5.setCell ⟨Y,3,none⟩ (sL g4 (ns+1) c4));have hset:w5.grownBy w6 (some Y):=by rw [hw6];exact cy _ _ _ _
    have hB5:an w5 Y 31 4:=by
     obtain ⟨cur,h1,h2⟩:=(HB3.out.below HB34.out).below ka;exact ⟨cur,(hg5.block Y (Array.getElem?_eq_some_iff.1 h1).1 (fun e=>by have:=Option.some.inj e;have:=HG3.out;omega)).trans h1,h2⟩
    have HCF:Hid (cJ w1.heap.size w6 g1 nm c1 G nv c g4 (ns+1) c4 M V (S++[q])):=hC5.kind hB5 (by decide) (by decide) (by decide) (by decide) hset;have by6:ar w6 Y (iT q) (sL g1 nm c1) (sL G nv c) (sL g4 (ns+1) c4):=by rw [hw6];exact by5.set3 _
    have br6:ar w6 (X+1) (iT 0) nZ nZ nZ:=by rw [hw6];exact br5.other (b':=Y) (o:=3) (by omega) _
    have HR6:Hid (ar w6 (X+1) (iT 0) nZ nZ nZ):=br6;have K6:Hid (Bl w w6):=by rw [hw6];exact K5.setCell (p:=⟨Y,3,none⟩) (by show _≤Y;have:=HX.out;omega) _
    rw [← hw6];clear hw6 hB5 hC5 hset y0 y1 y2 y3 yf yz by5 br5 ka K5 x0 x1 x2 x3 xf xz r0 r1 r2 r3 rf rz;have y0:=by6.c0;have y1:=by6.c1;have y2:=by6.c2;have y3:=by6.c3;have yf:=by6.fz;have yz:=by6.lt;have r0:=br6.c0;have r1:=br6.c1;have r2:=br6.c2;have r3:=br6.c3;have rf:=br6.fz;have rz:=br6.lt;go_wp2;refine bodyPost_ret (v:=.tuple #[.agg #[iT q,sL g1 nm c1,sL G nv c,sL g4 (ns+1) c4],.bool true]) ?_ rfl ⟨fun _=>⟨g1,c1,G,c,g4,c4,rfl,?_,?_⟩,fun hn=>absurd hok hn⟩
    · have e:=(((HR6.out.set0 (iT q)).set1 (sL g1 nm c1)).set2 (sL G nv c)).set3 (sL g4 (ns+1) c4);simp [results,Tryz.results36,go_sem,e.c0,e.c1,e.c2,e.c3]
    · exact (HCF.out.four HXB.out _ _ _ _).mono HBB.out
    · have hx:w.heap.size≤X+1:=by have:=HX.out;omega
      exact gG K6.out hx _ _ _ _
  · have hok:¬(ns<4∧q ∉ S):=fun h=>h4 h.1
    have h4I:(ns:Int) ≥ 4:=by omega
    clear hd;go_wp2;refine bodyPost_ret (v:=.tuple #[.agg #[iT q,sL g1 nm c1,sL G nv c,sL g3 (ns) c3],.bool false]) ?_ rfl ⟨fun hn=>absurd hn hok,fun _=>⟨g1,c1,G,c,g3,c3,rfl,?_,?_⟩⟩
    · have e:=(((br4.set0 (iT q)).set1 (sL g1 nm c1)).set2 (sL G nv c)).set3 (sL g3 (ns) c3);simp [results,Tryz.results36,go_sem,e.c0,e.c1,e.c2,e.c3]
    · exact (HCF.out.four HXB.out _ _ _ _).mono HBB.out
    · have hx:w.heap.size≤X+1:=by have:=HX.out;omega
      exact gG K4.out hx _ _ _ _
theorem ui {base nm nv n g1 c1 G c g3 c3:Nat} {q:Int} {M:List ac} {V:List (List ag)} {S:List Int} {ok:Bool} {w w':World} {e:Ending} (he:e=.returned (.tuple #[.agg #[iT q,sL g1 nm c1,sL G nv c,sL g3 n c3],.bool ok])) (hc:cJ base w' g1 nm c1 G nv c g3 n c3 M V S) (hl:w.heap.size≤base) (hb:Bl w w'):∃n,tP q nm nv n M V S ok w e w' :=
 ⟨n,g1,c1,G,c,g3,c3,he,hc.mono hl,hb⟩
theorem wh (lo:Nat) (q:Int) (am:Option Addr) (nm cm:Nat) (av:Option Addr) (nv cv:Nat) (ak:Option Addr) (ns cs:Nat) (M:List ac) (V:List (List ag)) (S:List Int) (sq:Int) (w:World) (hT:bf lo w am nm cm av nv cv ak ns cs M V S) (htb:bc q M V S=true) :
 Calls Tryz.prog 45 #[.agg #[iT q,.slice am nm cm,.slice av nv cv,.slice ak ns cs],iT sq] w (fun e w'=>∃n,tP q nm nv n M V (fH S sq) (decide (sq ∈ S)) w e w'):=by
 have hsl:=hT.snaps.length;have hns:ns≤4:=by
  have h1:=(bh htb).2.2.2.2.2.2.1;unfold cu at h1;rw [Bool.and_eq_true] at h1;have h2:=of_decide_eq_true h1.1;omega
 have hnm:nm≤60:=by have h1:=(bh htb).2.2.1;have h2:=hT.mem.1.length;omega
 obtain ⟨A,B,C,hV3⟩:=kJ htb;have hnv:nv≤100:=by have h1:=hT.levels.length;rw [hV3] at h1;have h2:([A,B,C]:List (List ag)).length=3:=rfl;omega
 have hlv:∀B ∈ V,B.length≤100∧∀r ∈ B,1≤r.1.length∧r.1.length≤10000:=by
  have h8:eM V q=true:=(bh htb).2.2.2.2.2.2.2.1;rw [hV3] at h8 ⊢;unfold eM at h8;simp only [Bool.and_eq_true] at h8;intro Z hZm;simp only [List.mem_cons,List.not_mem_nil,or_false] at hZm;rcases hZm with rfl | rfl | rfl
  · exact dh h8.1 (by omega)
  · exact dh h8.2.1 (by omega)
  · exact dh h8.2.2 (by omega)
 have CO:Hid (∀w',Bl w w'→Calls Tryz.prog 27 #[.agg #[iT q,.slice am nm cm,.slice av nv cv,.slice ak ns cs]] w' fun e w''=>e=.returned (.bool true)∧Bl w' w''):=fun w' k=>by
  have:=jN lo q _ _ _ _ _ _ _ _ _ M V S w' (hT.keep k);rw [htb] at this;exact this
 have CC:Hid (∀w',Bl w w'→Calls Tryz.prog 57 #[.agg #[iT q,.slice am nm cm,.slice av nv cv,.slice ak ns cs]] w' fun e w''=>∃g1 c1 G c g3 c3,e=.returned (.agg #[iT q,sL g1 nm c1,sL G nv c,sL g3 ns c3])∧cJ w'.heap.size w'' g1 nm c1 G nv c g3 ns c3 M V S∧Bl w' w''):=fun w' k=>gZ lo q am av ak nm cm nv cv ns cs M V S w' (hT.keep k) (by omega) (by omega) (by omega) hlv
 obtain ⟨i0,hi,hz0,hz1,hz2⟩:=info_parts Tryz.infoInt;obtain ⟨X,hX⟩:=aS w.heap.size;obtain ⟨W,hW⟩:=aS ((w.alloc (.cells #[iT q,.slice am nm cm,.slice av nv cv,.slice ak ns cs] 31)).alloc (.cells #[iT 0,nZ,nZ,nZ] 31));have kW:Bl w W:=by rw [hW];exact bZ.alloc (by simp) _
 have bx:ar W X (iT q) (.slice am nm cm) (.slice av nv cv) (.slice ak ns cs):=by rw [hW,hX];exact (ar.new _ _ _ _ _ _).alloc _
 have br:ar W (X+1) (iT 0) nZ nZ nZ:=by
  have:=ar.new (w.alloc (.cells #[iT q,.slice am nm cm,.slice av nv cv,.slice ak ns cs] 31)) 31 (iT 0) nZ nZ nZ;rw [World.size_alloc] at this;rw [hW,hX];exact this
 have HX:Hid (X=w.heap.size):=hX;have K0:Hid (Bl w W):=kW;have HIN:Hid (bG lo w ak ns cs S):=hT.snaps;have HSL:Hid (S.length=ns):=hsl;have HSW:Hid (∀z ∈ S,(Lit.int .i64 z).wf=true):=hT.snaps.wfs;clear hT hsl;clear kW hlv htb hV3;go_enter Tryz.func45,Tryz.ntmps45
 go_wp2_with fail
 rw [← hX,← hW];clear hX hW;refine (CO.out _ K0.out).mono ?_;rintro e w1 ⟨rfl,hb1⟩;have K1:Hid (Bl w w1):=K0.out.trans (hb1.mono K0.out.size);have bx1:=bx.keep hb1;have br1:=br.keep hb1;have x0:=bx1.c0;have x1:=bx1.c1;have x2:=bx1.c2;have x3:=bx1.c3;have xf:=bx1.fz;have xz:=bx1.lt;clear hb1 bx br;go_wp2_with fail
 clear x0 x1 x2 x3 xf xz;refine (CC.out _ K1.out).mono ?_;rintro e w2 ⟨g1,c1,G,c,g3,c3,rfl,hC2,hb2⟩;obtain ⟨Y,hY⟩:=aS w2.heap.size;obtain ⟨w3,hw3⟩:=aS (w2.alloc (.cells #[iT q,sL g1 nm c1,sL G nv c,sL g3 ns c3] 31));have k3:Bl w2 w3:=by rw [hw3];exact bZ
 have K3:Hid (Bl w w3):=(K1.out.trans (hb2.mono K1.out.size)).trans (k3.mono (Nat.le_trans K1.out.size hb2.size));have HC3:Hid (cJ w1.heap.size w3 g1 nm c1 G nv c g3 ns c3 M V S):=hC2.below k3;have bx3:=(bx1.keep hb2).keep k3;have br3:=(br1.keep hb2).keep k3;have by3:ar w3 Y (iT q) (sL g1 nm c1) (sL G nv c) (sL g3 ns c3):=by rw [hw3,hY];exact ar.new _ _ _ _ _ _
 have HXB:Hid (X+1<w1.heap.size):=br1.lt;have HBB:Hid (w.heap.size≤w1.heap.size):=K1.out.size;have HYX:Hid (X<Y∧X+1<Y):=by rw [hY];exact ⟨(bx1.keep hb2).lt,(br1.keep hb2).lt⟩
 have HB3:Hid (an w3 Y 31 4):=by rw [hw3,hY];exact ⟨_,(by show (w2.heap.push _)[w2.heap.size]?=_;exact Array.getElem?_push_size),rfl⟩
 have HG3:Hid (g3<Y):=by rw [hY];exact (hC2.sn.lt g3 rfl).2
 clear hb2 k3 hC2 bx1 br1;go_upto_region 4 with fail
 rw [← hw3];try rw [← hY]
 clear hw3 hY;have y0:=by3.c0;have y1:=by3.c1;have y2:=by3.c2;have y3:=by3.c3;have yf:=by3.fz;have yz:=by3.lt;obtain ⟨w4,hw4⟩:=aS ((w3.setCell ⟨Y,3,none⟩ (sL (w3.heap.size) 0 0)).alloc (.cells #[] 3));obtain ⟨ws,hws⟩:=aS (w3.setCell ⟨Y,3,none⟩ (sL (w3.heap.size) 0 0));have hsz:ws.heap.size=w3.heap.size:=by rw [hws];simp [World.setCell]
 have ka:Bl ws w4:=by rw [hw4,← hws];exact bZ
 have hbase:w1.heap.size≤w3.heap.size:=by have h1:=(HC3.out.sn.lt g3 rfl);omega
 have ho4:w4.ownsRow w1.heap.size 3 1 (sL (w3.heap.size) 0 0) 0 []:=by
  refine ⟨rfl,Or.inr ⟨w3.heap.size,0,#[],rfl,hbase,?_,Nat.le_refl _,Nat.zero_le _,rfl,rfl⟩⟩;rw [hw4,← hws,← hsz];show (ws.heap.push _)[ws.heap.size]?=_
  exact Array.getElem?_push_size
 have ST4:Hid (eX w w4 w1.heap.size X Y (iT q) (.slice am nm cm) (.slice av nv cv) (.slice ak ns cs) q g1 nm c1 G nv c w3.heap.size 0 0 M V (fH (S.take 0) sq)):=by
  have hcs:cJ w1.heap.size ws g1 nm c1 G nv c g3 ns c3 M V S:=by rw [hws];exact HC3.out.kind HB3.out (by decide) (by decide) (by decide) (by decide) (cy _ _ _ _)
  have hB5:an ws Y 31 4:=by rw [hws];exact HB3.out.setCell _
  have hbx:ar ws X (iT q) (.slice am nm cm) (.slice av nv cv) (.slice ak ns cs):=by rw [hws];exact bx3.other (by have:=HYX.out;omega) _
  have hbr:ar ws (X+1) (iT 0) nZ nZ nZ:=by rw [hws];exact br3.other (by have:=HYX.out;omega) _
  have hby:ar ws Y (iT q) (sL g1 nm c1) (sL G nv c) (sL (w3.heap.size) 0 0):=by rw [hws];exact by3.set3 _
  have hlow:Bl w ws:=by rw [hws];exact K3.out.setCell (p:=⟨Y,3,none⟩) (by show _≤Y;have:=HX.out;have:=HYX.out;omega) _
  have hyx:=HYX.out;exact ⟨hlow.trans (ka.mono hlow.size),hbx.keep ka,hbr.keep ka,hby.keep ka,⟨(hcs.below ka).mem,(hcs.below ka).levs,rfl,(fun z hz=>by cases hz),ho4⟩,hB5.below ka,⟨HXB.out,hyx.2,HBB.out,by have:=HX.out;omega⟩⟩
 obtain ⟨g4,hg4⟩:=aS w3.heap.size;clear ho4 ka hbase hsz hws;go_wp2;rw [← hw4];rw [← hg4] at ST4;clear hw4 hg4 y0 y1 y2 y3 yf yz bx3 br3 by3 HC3 K3 HB3 HG3 HYX CO CC K1 K0;have HCZ0:Hid (∀(k:Nat) (z:Int),S[k]?=some z→∃bs os,ak=some ⟨bs,os,none⟩∧∀w',Bl w w'→w'.cell? ⟨bs,os+k,none⟩=some (iT z)∧bs<w'.heap.size):=fun k z hz=>by
  have hk:=(List.getElem?_eq_some_iff.1 hz).1;obtain ⟨bs,os,rfl,_⟩:=HIN.out.form (by rw [← HSL.out];omega);refine ⟨bs,os,rfl,fun w' kk=>?_⟩;have h1:=(HIN.out.keep kk).cells _ rfl k hk;have h2:=(HIN.out.keep kk).lies _ rfl (by rw [← HSL.out];omega);rw [(List.getElem?_eq_some_iff.1 hz).2] at h1;exact ⟨h1,h2.1⟩
 go_loopw [7] (fun iv wr=>∃(k g n4 c4:Nat),k≤ns∧iv=iT k∧n4≤k∧eX w wr w1.heap.size X Y (iT q) (.slice am nm cm) (.slice av nv cv) (.slice ak ns cs) q g1 nm c1 G nv c g n4 c4 M V (fH (S.take k) sq)) (fun iv _=>ns - (intOf iv).toNat)
 case atStart=>exact ⟨0,g4,0,0,Nat.zero_le _,rfl,Nat.le_refl _,ST4.out⟩
 case round =>
  clear ST4;obtain ⟨k,g,n4,c4,hk,rfl,hn4,hst⟩:=hrel;have ST:Hid (eX w wr w1.heap.size X Y (iT q) (.slice am nm cm) (.slice av nv cv) (.slice ak ns cs) q g1 nm c1 G nv c g n4 c4 M V (fH (S.take k) sq)):=hst;clear hst;by_cases hlt:k<ns
  · have hltI:(k:Int)<(ns:Int):=by omega
    obtain ⟨z,hz⟩:∃z,S[k]?=some z:=⟨_,List.getElem?_eq_getElem (by rw [HSL.out];exact hlt)⟩;have HZW:Hid ((Lit.int .i64 z).wf=true):=HSW.out z (List.mem_of_getElem? hz);obtain ⟨bs,os,rfl,hcz⟩:=HCZ0.out k z hz;have HCZ:Hid (∀w',Bl w w'→w'.cell? ⟨bs,os+k,none⟩=some (iT z)∧bs<w'.heap.size):=hcz;clear hcz;have x3:=ST.out.bx.c3;have xz:=ST.out.bx.lt;obtain ⟨bz,bl⟩:=HCZ.out _ ST.out.low;by_cases hzs:z=sq
    · subst hzs;have HKS:Hid (eX w wr w1.heap.size X Y (iT q) (.slice am nm cm) (.slice av nv cv) (sO bs os ns cs) q g1 nm c1 G nv c g n4 c4 M V (fH (S.take (k+1)) z)):=by
       show eX _ _ _ _ _ _ _ _ _ _ _ _ _ _ _ _ _ _ _ _ _ _
       rw [qQ hz,if_pos rfl];exact ST.out
      clear hz ST;go_wp2;go_roundw
      case rel=>exact ⟨k+1,g,n4,c4,by omega,by go_num,by omega,HKS.out⟩
      case measure=>simp [intOf];omega
    · have HDT:Hid (fH (S.take (k+1)) sq=fH (S.take k) sq++[z]):=by show _=_;rw [qQ hz,if_neg hzs]
      have hzd:decide (z=sq)=false:=decide_eq_false hzs;have hzb:(z == sq)=false:=by simpa using hzs
      clear hz;have k0:=ST.out.below (Below.refl _ wr).drew;go_wp2_with fail
      clear x3 xz bz bl;refine wp_region_held_drew (S:=(fun w'=>w'.cell? ⟨X,3,none⟩=some (sO bs os ns cs)∧w'.cell? ⟨bs,os+k,none⟩=some (iT z)∧X<w'.heap.size∧bs<w'.heap.size∧Y<w'.heap.size)) (by kernel_rfl) (⟨k0.bx.c3,(HCZ.out _ k0.low).1,k0.bx.lt,(HCZ.out _ k0.low).2,k0.hy.lt⟩) (fun aa=>?_);generalize wr.drew=wd at k0 aa ⊢;refine aO 0 1 aa ?_;refine aO 2 5 aa ?_;refine iU 1 7 (fun K hK=>?_) fun K hK=>?_
      · have q3:=k0.hy.c3;go_simp;clear q3;refine hK.out _ _ (⟨k0.bx.c3,(HCZ.out _ k0.low).1,k0.bx.lt,(HCZ.out _ k0.low).2,k0.hy.lt⟩) fun aa=>?_
        (try go_frame);refine aI 7 fun K hK=>?_
        go_simp;have kc:Bl wd (wd.alloc (.cells #[iT z] 3)):=bZ;have kb:=k0.below kc;have hcn:=eD wd (iT z) 3;generalize wd.heap.size=gb at hcn ⊢;generalize wd.alloc (.cells #[iT z] 3)=wb at kb hcn ⊢;refine hK.out _ _ (⟨kb.bx.c3,(HCZ.out _ kb.low).1,kb.bx.lt,(HCZ.out _ kb.low).2,kb.hy.lt⟩) fun aa=>?_
        (try go_frame);refine aI 8 fun K hK=>?_
        refine ax rfl (.tmp 31) (.tmp 37) 24 rfl w1.heap.size 3 i0 _ 1 8 Tryz.underlying24 hi hz0 hz1 hz2 rfl (by decide) _ _ _ rfl kb.cp.sn ⟨gb,0,none⟩ 1 1 [iT z] rfl rfl hcn (by simp [Value.oneCell']) ?_ ?_ ?_ ?_
        · unfold maxLen;omega
        · omega
        · have h1:=(kb.cp.sn.lt g rfl);omega
        intro v8 w8 ho8 hg8 hn8;obtain ⟨g8,c8,rfl⟩:=ownsRow_succ ho8;have hg8':wb.grownBy w8 (some g):=hg8;have hlow8:Bl w w8:=kb.low.grown hg8' kb.low.size (fun k e=>by cases e;have h1:=(kb.cp.sn.lt g rfl).1;have h2:=kb.lows;omega);refine hK.out _ _ (⟨(kb.bx.grownB hg8' kb.ne.1).c3,(HCZ.out _ hlow8).1,(kb.bx.grownB hg8' kb.ne.1).lt,(HCZ.out _ hlow8).2,(kb.hy.grownB hg8' kb.ne.2.2).lt⟩) fun aa=>?_
        (try go_frame);refine aO 9 1 aa ?_;refine aI 10 fun K hK=>?_
        have by8:=kb.hy.grownB hg8' kb.ne.2.2;have q3:=by8.c3;have qf:=by8.fz 3;have qz:=by8.lt;go_simp;have ks:=kb.push hg8' ho8 HZW.out;clear q3 qf qz by8;refine hK.out _ _ (⟨ks.bx.c3,(HCZ.out _ ks.low).1,ks.bx.lt,(HCZ.out _ ks.low).2,ks.hy.lt⟩) fun aa=>?_
        (try go_frame);refine dN ?_;have HKS:Hid (eX w (w8.setCell ⟨Y,3,none⟩ (sL g8 (n4+1) c8)) w1.heap.size X Y (iT q) (.slice am nm cm) (.slice av nv cv) (sO bs os ns cs) q g1 nm c1 G nv c g8 (n4+1) c8 M V (fH (S.take (k+1)) sq)):=by rw [HDT.out];exact ks
        generalize w8.setCell ⟨Y,3,none⟩ (sL g8 (n4+1) c8)=w9 at HKS ⊢;clear ks kb k0 hg8' ho8 hlow8 hcn aa;go_wp2;go_roundw
        case rel=>exact ⟨k+1,g8,n4+1,c8,by omega,by go_num,by omega,HKS.out⟩
        case measure=>simp [intOf];omega
      · go_simp;have kc:Bl wd (wd.alloc (.cells #[iT z] 3)):=bZ;have kb:=k0.below kc;have hcn:=eD wd (iT z) 3;generalize wd.heap.size=gb at hcn ⊢;generalize wd.alloc (.cells #[iT z] 3)=wb at kb hcn ⊢;refine hK.out _ _ (⟨kb.bx.c3,(HCZ.out _ kb.low).1,kb.bx.lt,(HCZ.out _ kb.low).2,kb.hy.lt⟩) fun aa=>?_
        (try go_frame);refine aI 1 fun K hK=>?_
        have q3:=kb.hy.c3;go_simp;clear q3;refine hK.out _ _ (⟨kb.bx.c3,(HCZ.out _ kb.low).1,kb.bx.lt,(HCZ.out _ kb.low).2,kb.hy.lt⟩) fun aa=>?_
        (try go_frame);refine aI 8 fun K hK=>?_
        refine ax rfl (.tmp 31) (.tmp 37) 24 rfl w1.heap.size 3 i0 _ 1 8 Tryz.underlying24 hi hz0 hz1 hz2 rfl (by decide) _ _ _ rfl kb.cp.sn ⟨gb,0,none⟩ 1 1 [iT z] rfl rfl hcn (by simp [Value.oneCell']) ?_ ?_ ?_ ?_
        · unfold maxLen;omega
        · omega
        · have h1:=(kb.cp.sn.lt g rfl);omega
        intro v8 w8 ho8 hg8 hn8;obtain ⟨g8,c8,rfl⟩:=ownsRow_succ ho8;have hg8':wb.grownBy w8 (some g):=hg8;have hlow8:Bl w w8:=kb.low.grown hg8' kb.low.size (fun k e=>by cases e;have h1:=(kb.cp.sn.lt g rfl).1;have h2:=kb.lows;omega);refine hK.out _ _ (⟨(kb.bx.grownB hg8' kb.ne.1).c3,(HCZ.out _ hlow8).1,(kb.bx.grownB hg8' kb.ne.1).lt,(HCZ.out _ hlow8).2,(kb.hy.grownB hg8' kb.ne.2.2).lt⟩) fun aa=>?_
        (try go_frame);refine aO 9 1 aa ?_;refine aI 10 fun K hK=>?_
        have by8:=kb.hy.grownB hg8' kb.ne.2.2;have q3:=by8.c3;have qf:=by8.fz 3;have qz:=by8.lt;go_simp;have ks:=kb.push hg8' ho8 HZW.out;clear q3 qf qz by8;refine hK.out _ _ (⟨ks.bx.c3,(HCZ.out _ ks.low).1,ks.bx.lt,(HCZ.out _ ks.low).2,ks.hy.lt⟩) fun aa=>?_
        (try go_frame);refine dN ?_;have HKS:Hid (eX w (w8.setCell ⟨Y,3,none⟩ (sL g8 (n4+1) c8)) w1.heap.size X Y (iT q) (.slice am nm cm) (.slice av nv cv) (sO bs os ns cs) q g1 nm c1 G nv c g8 (n4+1) c8 M V (fH (S.take (k+1)) sq)):=by rw [HDT.out];exact ks
        generalize w8.setCell ⟨Y,3,none⟩ (sL g8 (n4+1) c8)=w9 at HKS ⊢;clear ks kb k0 hg8' ho8 hlow8 hcn aa;go_wp2;go_roundw
        case rel=>exact ⟨k+1,g8,n4+1,c8,by omega,by go_num,by omega,HKS.out⟩
        case measure=>simp [intOf];omega
  · have hltI:¬(k:Int)<(ns:Int):=by omega
    have HTK:Hid (S.take k=S):=List.take_of_length_le (by rw [HSL.out];omega);have x3:=ST.out.bx.c3;have xz:=ST.out.bx.lt;have k0:=ST.out.below (Below.refl _ wr).drew;go_wp2_with fail
    clear x3 xz;refine wp_region_held_drew (S:=(fun w'=>w'.cell? ⟨Y,0,none⟩=some (iT q)∧w'.cell? ⟨Y,1,none⟩=some (sL g1 nm c1)∧w'.cell? ⟨Y,2,none⟩=some (sL G nv c)∧w'.cell? ⟨Y,3,none⟩=some (sL g n4 c4)∧w'.cell? ⟨X,3,none⟩=some (.slice ak ns cs)∧X<w'.heap.size∧Y<w'.heap.size)) (by kernel_rfl) (⟨k0.hy.c0,k0.hy.c1,k0.hy.c2,k0.hy.c3,k0.bx.c3,k0.bx.lt,k0.hy.lt⟩) (fun aa=>?_);generalize wr.drew=wd at k0 aa ⊢;refine aO 0 8 aa ?_;refine aI 8 fun K hK=>?_
    have r0:=k0.br.c0;have r1:=k0.br.c1;have r2:=k0.br.c2;have r3:=k0.br.c3;have rf:=k0.br.fz;have rz:=k0.br.lt;have hxy:X+1≠Y:=by have:=k0.lows;omega
    have hxx:X+1≠X:=by omega
    have by4:=(((k0.hy.other (b':=X+1) (o:=0) hxy (iT q)).other (b':=X+1) (o:=1) hxy (sL g1 nm c1)).other (b':=X+1) (o:=2) hxy (sL G nv c)).other (b':=X+1) (o:=3) hxy (sL g n4 c4);have bx4:=(((k0.bx.other (b':=X+1) (o:=0) hxx (iT q)).other (b':=X+1) (o:=1) hxx (sL g1 nm c1)).other (b':=X+1) (o:=2) hxx (sL G nv c)).other (b':=X+1) (o:=3) hxx (sL g n4 c4);go_simp;clear r0 r1 r2 r3 rf rz;refine hK.out _ _ (⟨by4.c0,by4.c1,by4.c2,by4.c3,bx4.c3,bx4.lt,by4.lt⟩) fun aa=>?_
    (try go_frame);refine aO 9 1 aa ?_;refine dN ?_;clear by4 bx4 hxy hxx aa;go_wp2;refine bodyPost_ret (v:=.tuple #[.agg #[iT q,sL g1 nm c1,sL G nv c,sL g n4 c4],.bool (decide ((n4:Int)<(ns:Int)))]) ?_ rfl ?_
    · have e:=(((k0.br.set0 (iT q)).set1 (sL g1 nm c1)).set2 (sL G nv c)).set3 (sL g n4 c4);simp [results,Tryz.results45,go_sem,e.c0,e.c1,e.c2,e.c3]
    · have hl:=k0.lows;have hx:w.heap.size≤X+1:=by omega
      have hc:=k0.cp.four (X:=X+1) hl.1 (iT q) (sL g1 nm c1) (sL G nv c) (sL g n4 c4);have hn4:=k0.cp.slen;rw [HTK.out] at hc hn4;refine ui ?_ hc hl.2.2.1 (gG k0.low hx _ _ _ _);rw [← AB,HSL.out,hn4];simp
end Go.Proofs.YtpobkmjicbobdaaGreat
