/- Walks. -/
import Derived.Test.YtpobkmjicbobdaaGreatBn25
namespace Go.Proofs.YtpobkmjicbobdaaGreat
set_option maxRecDepth 100000
set_option maxHeartbeats 40000000
open Go.RowKit
theorem dS.low {base G n c X:Nat} {w w':World} {V:List (List ag)} (h:dS base w G n c V) (hX:X<base) (hg:w.grownBy w' (some X)):dS base w' G n c V:=by
 obtain ⟨h1,xs,h3,h4,h5⟩:=h;refine ⟨h1,xs,h3.kept hg (.inr fun e=>?_),fun i p hp=>(by obtain ⟨e,d,a1,a3⟩:=h4 i p hp;exact ⟨e,d,a1,a3.low hX hg⟩),h5⟩;have e':G=X:=by simpa [Value.ownBlock] using e
 have:=(h3.lt G rfl).1;omega
theorem qg (lo:Nat) (q:Int) (am av ak:Option Addr) (nm cm nv cv ns cs:Nat) (M:List ac) (V:List (List ag)) (S:List Int) (w:World) (hT:bf lo w am nm cm av nv cv ak ns cs M V S) (hnm:nm≤1048576) (hns:ns≤1048576) (hnv:nv≤100) (hS:∀B ∈ V,B.length≤100∧∀r ∈ B,1≤r.1.length∧r.1.length≤10000) :
 Calls Tryz.prog 57 #[.agg #[iT q,.slice am nm cm,.slice av nv cv,.slice ak ns cs]] w fun e w'=>∃g1 c1 G c g3 c3,e=.returned (.agg #[iT q,sL g1 nm c1,sL G nv c,sL g3 ns c3])∧cJ w.heap.size w' g1 nm c1 G nv c g3 ns c3 M V S∧Bl w w'∧∃b,w.heap.size≤b∧g1<b∧dS b w' G nv c V:=by
 obtain ⟨i0,hi,hz0,hz1,hz2⟩:=info_parts Tryz.infoEnt;obtain ⟨j0,hj,hy0,hy1,hy2⟩:=info_parts Tryz.infoInt;obtain ⟨X,hX⟩:=aS w.heap.size;obtain ⟨W0,hW0⟩:=aS ((w.alloc (.cells #[iT q,.slice am nm cm,.slice av nv cv,.slice ak ns cs] 31)).alloc (.cells #[iT 0,nZ,nZ,nZ] 31));have kW:Bl w W0:=by rw [hW0];exact bZ.alloc (by simp) _
 have bx:ar W0 X (iT q) (.slice am nm cm) (.slice av nv cv) (.slice ak ns cs):=by rw [hW0,hX];exact (ar.new _ _ _ _ _ _).alloc _
 have br:ar W0 (X+1) (iT 0) nZ nZ nZ:=by
  have:=ar.new (w.alloc (.cells #[iT q,.slice am nm cm,.slice av nv cv,.slice ak ns cs] 31)) 31 (iT 0) nZ nZ nZ;rw [World.size_alloc] at this;rw [hW0,hX];exact this
 have HSZ:Hid (W0.heap.size=X+1+1):=by rw [hW0,hX];simp [Hid]
 have HXW:Hid (X=w.heap.size):=hX;have KW:Hid (Bl w W0):=kW;have BX:Hid (ar W0 X (iT q) (.slice am nm cm) (.slice av nv cv) (.slice ak ns cs)):=bx;have BR:Hid (ar W0 (X+1) (iT 0) nZ nZ nZ):=br;have HM:Hid (aj W0 am nm cm M):=hT.mem.1.keep kW;have HS:Hid (bG lo W0 ak ns cs S):=hT.snaps.keep kW;have HML:Hid (M.length=nm):=hT.mem.1.length;have HSL:Hid (S.length=ns):=hT.snaps.length;have HSW:Hid (∀z ∈ S,(Lit.int .i64 z).wf=true):=hT.snaps.wfs;have HV:Hid (bH lo W0 av nv cv V):=hT.levels.keep kW;have CL:Hid (∀w',Bl W0 w'→Calls Tryz.prog 120 #[.slice av nv cv] w' fun e w''=>∃G c,e=.returned (sL G nv c)∧dS w'.heap.size w'' G nv c V∧Bl w' w''):=fun w' k=>(nU lo av nv cv V w' (HV.out.keep k) hnv hS).mono (fun e w'' h=>by obtain ⟨G,c,h1,h2,h3⟩:=h;exact ⟨G,c,h1,h2,h3⟩)
 have k0:Bl W0 W0.drew:=(Below.refl _ W0).drew;have HMK:Hid (∀w',Bl W0 w'→(fun w'=>w'.cell? ⟨X,0,none⟩=some (iT q)∧w'.cell? ⟨X,1,none⟩=some (.slice am nm cm)∧w'.cell? ⟨X,2,none⟩=some (.slice av nv cv)∧w'.cell? ⟨X,3,none⟩=some (.slice ak ns cs)∧X<w'.heap.size) w'):=fun w' kk=>⟨cell_later kk BX.out.c0,cell_later kk BX.out.c1,cell_later kk BX.out.c2,cell_later kk BX.out.c3,Nat.lt_of_lt_of_le BX.out.lt kk.size⟩
 have HMS:Hid (∀(w':World) (u0 u1 u2 u3:Value),Bl W0 w'→(fun w'=>w'.cell? ⟨X,0,none⟩=some (iT q)∧w'.cell? ⟨X,1,none⟩=some (.slice am nm cm)∧w'.cell? ⟨X,2,none⟩=some (.slice av nv cv)∧w'.cell? ⟨X,3,none⟩=some (.slice ak ns cs)∧X<w'.heap.size) ((((w'.setCell ⟨X+1,0,none⟩ u0).setCell ⟨X+1,1,none⟩ u1).setCell ⟨X+1,2,none⟩ u2).setCell ⟨X+1,3,none⟩ u3)):=fun w' u0 u1 u2 u3 kk=>by
  have b:=((((BX.out.keep kk).other (b':=X+1) (o:=0) (by omega) u0).other (b':=X+1) (o:=1) (by omega) u1).other (b':=X+1) (o:=2) (by omega) u2).other (b':=X+1) (o:=3) (by omega) u3;exact ⟨b.c0,b.c1,b.c2,b.c3,b.lt⟩
 clear hT kW bx br hS;go_enter Tryz.func57,Tryz.ntmps57
 go_upto_region 1 with fail
 rw [← hX,← hW0];clear hX hW0;refine eC HMK k0 fun aa=>?_
 generalize W0.drew=wd at k0 aa ⊢;refine aO 0 2 aa ?_;refine aO 3 2 aa ?_;refine aO 6 2 aa ?_;refine aO 10 2 aa ?_;refine iU 2 9 (fun K hK=>?_) fun K hK=>?_
 · go_simp;have kb:Bl wd (wd.alloc (.cells #[] 50)):=bZ;have oE:=bQ wd W0.heap.size k0.size;have k0:=k0.trans (kb.mono k0.size);clear kb;generalize wd.heap.size=ga at oE ⊢;generalize wd.alloc (.cells #[] 50)=w1 at k0 oE ⊢;refine hK.out _ _ (HMK.out _ k0) fun aa=>?_
   (try go_frame);refine iU 5 9 (fun K hK=>?_) fun K hK=>?_
   · refine bC rfl (.tmp 5) (.tmp 7) 28 rfl W0.heap.size 50 i0 _ 5 56 Tryz.underlying28 hi hz0 hz1 hz2 rfl (Nat.succ_pos 4) _ _ _ rfl oE.owns am nm cm (aE M) rfl (by rw [bi,HML.out]) HM.out.nil (gE (HM.out.keep k0)) (aQ _) ?_ ?_ ?_ ?_
     · unfold maxLen;omega
     · omega
     · exact k0.size
     intro v1 w2 ho1 hg1 hn1;obtain ⟨g1,c1,rfl⟩:=aG ho1 hn1;have hg1':w1.grownBy w2 (some ga):=hg1;have k0:Bl W0 w2:=k0.grown hg1' k0.size (fun k e=>by cases e;exact oE.lt.1);have oE:ay w2 W0.heap.size g1 nm c1 M:=⟨by have h1:=ho1;rw [Nat.zero_add] at h1;simpa [aE] using h1,HML.out,HM.out.ents⟩;rw [Nat.zero_add];clear ho1 hg1 hn1 hg1';refine hK.out _ _ (HMK.out _ k0) fun aa=>?_
     (try go_frame);refine iU 8 9 (fun K hK=>?_) fun K hK=>?_
     · go_simp;refine (CL.out _ k0).mono ?_;rintro e w3 ⟨G,c,rfl,oL,kb⟩;have hgl:=oE.lt.2;have oE:=oE.below kb;have k0z:=k0.size;have k0:=k0.trans (kb.mono k0.size);clear kb;go_wp2_with fail
       refine hK.out _ _ (HMK.out _ k0) fun aa=>?_
       (try go_frame);refine aI 9 fun K hK=>?_
       go_simp;have kb:Bl w3 (w3.alloc (.cells #[] 3)):=bZ;have oE:=oE.below kb;have oL:=oL.below kb;have oI:(w3.alloc (.cells #[] 3)).ownsRow W0.heap.size 3 1 (sL (w3.heap.size) 0 0) 0 []:=World.ownsRow_lit (base:=W0.heap.size) (e:=3) (size:=1) w3 #[] 0 k0.size (by simp) (by simp);have k0:=k0.trans (kb.mono k0.size);clear kb;generalize w3.heap.size=gi at oI ⊢;generalize w3.alloc (.cells #[] 3)=w4 at k0 oE oL oI ⊢;refine hK.out _ _ (HMK.out _ k0) fun aa=>?_
       (try go_frame);refine aI 12 fun K hK=>?_
       refine bC rfl (.tmp 12) (.tmp 14) 24 rfl W0.heap.size 3 j0 _ 1 8 Tryz.underlying24 hj hy0 hy1 hy2 rfl (Nat.succ_pos 0) _ _ _ rfl oI ak ns cs (S.map iT) rfl (by rw [List.length_map,HSL.out,Nat.mul_one]) HS.out.nil (eV (HS.out.keep k0)) (by intro u hu;obtain ⟨z,_,rfl⟩:=List.mem_map.1 hu;rfl) ?_ ?_ ?_ ?_
       · unfold maxLen;omega
       · omega
       · exact k0.size
       intro v2 w5 ho2 hg2 hn2;obtain ⟨g3,c3,rfl⟩:=aG ho2 hn2;have hg2':w4.grownBy w5 (some gi):=hg2;have oE:=dw oE oI (by decide) hg2';have oL:=gg oL oI (by decide) (by decide) (by decide) hg2';have k0:Bl W0 w5:=k0.grown hg2' k0.size (fun k e=>by cases e;exact (oI.lt gi rfl).1);have oI:w5.ownsRow W0.heap.size 3 1 (sL g3 ns c3) ns (S.map iT):=by have h1:=ho2;rw [Nat.zero_add,List.nil_append] at h1;exact h1
       rw [Nat.zero_add];clear ho2 hg2 hn2 hg2';refine hK.out _ _ (HMK.out _ k0) fun aa=>?_
       (try go_frame);refine aO 13 1 aa ?_;refine aI 14 fun K hK=>?_
       have bq:=BR.out.keep k0;have d0:=bq.c0;have d1:=bq.c1;have d2:=bq.c2;have d3:=bq.c3;have df:=bq.fz;have dz:=bq.lt;go_simp;clear d0 d1 d2 d3 df dz;refine hK.out _ _ (HMS.out _ _ _ _ _ k0) fun aa=>?_
       (try go_frame);refine dN ?_;clear aa;have HC:Hid (cJ W0.heap.size w5 g1 nm c1 G nv c g3 ns c3 M V S):=⟨oE,oL.mono k0z,HSL.out,HSW.out,oI⟩;have HF:Hid (∃b,W0.heap.size≤b∧g1<b∧dS b w5 G nv c V):=⟨_,k0z,hgl,oL⟩;have HK:Hid (Bl W0 w5):=k0;have HBQ:Hid (ar w5 (X+1) (iT 0) nZ nZ nZ):=bq;clear oE oL oI k0 bq;go_wp2;refine bodyPost_ret (v:=.agg #[iT q,sL g1 nm c1,sL G nv c,sL g3 ns c3]) ?_ rfl ⟨g1,c1,G,c,g3,c3,rfl,?_,?_,?_⟩
       · have e:=(((HBQ.out.set0 (iT q)).set1 (sL g1 nm c1)).set2 (sL G nv c)).set3 (sL g3 ns c3);simp [results,Tryz.results57,go_sem,e.c0,e.c1,e.c2,e.c3]
       · exact (HC.out.four (by have:=HSZ.out;omega) _ _ _ _).mono KW.out.size
       · have hx:w.heap.size≤X+1:=by have:=HXW.out;omega
         exact ((((KW.out.trans (HK.out.mono KW.out.size)).setCell (p:=⟨X+1,0,none⟩) hx _).setCell (p:=⟨X+1,1,none⟩) hx _).setCell (p:=⟨X+1,2,none⟩) hx _).setCell (p:=⟨X+1,3,none⟩) hx _
       · obtain ⟨b,f1,f3,f4⟩:=HF.out;have hXb:X+1<b:=by have:=HSZ.out;omega
         exact ⟨b,Nat.le_trans KW.out.size f1,f3,(((f4.low hXb (cy _ _ _ _)).low hXb (cy _ _ _ _)).low hXb (cy _ _ _ _)).low hXb (cy _ _ _ _)⟩
     · go_simp;have kb:Bl w2 (w2.alloc (.cells #[] 3)):=bZ;have oE:=oE.below kb;have oI:(w2.alloc (.cells #[] 3)).ownsRow W0.heap.size 3 1 (sL (w2.heap.size) 0 0) 0 []:=World.ownsRow_lit (base:=W0.heap.size) (e:=3) (size:=1) w2 #[] 0 k0.size (by simp) (by simp);have k0:=k0.trans (kb.mono k0.size);clear kb;generalize w2.heap.size=gi at oI ⊢;generalize w2.alloc (.cells #[] 3)=w6 at k0 oE oI ⊢;refine hK.out _ _ (HMK.out _ k0) fun aa=>?_
       (try go_frame);refine aI 8 fun K hK=>?_
       go_simp;refine (CL.out _ k0).mono ?_;rintro e w7 ⟨G,c,rfl,oL,kb⟩;have hgl:=oE.lt.2;have oE:=oE.below kb;have oI:=cE oI kb;have k0z:=k0.size;have k0:=k0.trans (kb.mono k0.size);clear kb;go_wp2_with fail
       refine hK.out _ _ (HMK.out _ k0) fun aa=>?_
       (try go_frame);refine aI 12 fun K hK=>?_
       refine bC rfl (.tmp 12) (.tmp 14) 24 rfl W0.heap.size 3 j0 _ 1 8 Tryz.underlying24 hj hy0 hy1 hy2 rfl (Nat.succ_pos 0) _ _ _ rfl oI ak ns cs (S.map iT) rfl (by rw [List.length_map,HSL.out,Nat.mul_one]) HS.out.nil (eV (HS.out.keep k0)) (by intro u hu;obtain ⟨z,_,rfl⟩:=List.mem_map.1 hu;rfl) ?_ ?_ ?_ ?_
       · unfold maxLen;omega
       · omega
       · exact k0.size
       intro v2 w8 ho2 hg2 hn2;obtain ⟨g3,c3,rfl⟩:=aG ho2 hn2;have hg2':w7.grownBy w8 (some gi):=hg2;have oE:=dw oE oI (by decide) hg2';have oL:=gg oL oI (by decide) (by decide) (by decide) hg2';have k0:Bl W0 w8:=k0.grown hg2' k0.size (fun k e=>by cases e;exact (oI.lt gi rfl).1);have oI:w8.ownsRow W0.heap.size 3 1 (sL g3 ns c3) ns (S.map iT):=by have h1:=ho2;rw [Nat.zero_add,List.nil_append] at h1;exact h1
       rw [Nat.zero_add];clear ho2 hg2 hn2 hg2';refine hK.out _ _ (HMK.out _ k0) fun aa=>?_
       (try go_frame);refine aO 13 1 aa ?_;refine aI 14 fun K hK=>?_
       have bq:=BR.out.keep k0;have d0:=bq.c0;have d1:=bq.c1;have d2:=bq.c2;have d3:=bq.c3;have df:=bq.fz;have dz:=bq.lt;go_simp;clear d0 d1 d2 d3 df dz;refine hK.out _ _ (HMS.out _ _ _ _ _ k0) fun aa=>?_
       (try go_frame);refine dN ?_;clear aa;have HC:Hid (cJ W0.heap.size w8 g1 nm c1 G nv c g3 ns c3 M V S):=⟨oE,oL.mono k0z,HSL.out,HSW.out,oI⟩;have HF:Hid (∃b,W0.heap.size≤b∧g1<b∧dS b w8 G nv c V):=⟨_,k0z,hgl,oL⟩;have HK:Hid (Bl W0 w8):=k0;have HBQ:Hid (ar w8 (X+1) (iT 0) nZ nZ nZ):=bq;clear oE oL oI k0 bq;go_wp2;refine bodyPost_ret (v:=.agg #[iT q,sL g1 nm c1,sL G nv c,sL g3 ns c3]) ?_ rfl ⟨g1,c1,G,c,g3,c3,rfl,?_,?_,?_⟩
       · have e:=(((HBQ.out.set0 (iT q)).set1 (sL g1 nm c1)).set2 (sL G nv c)).set3 (sL g3 ns c3);simp [results,Tryz.results57,go_sem,e.c0,e.c1,e.c2,e.c3]
       · exact (HC.out.four (by have:=HSZ.out;omega) _ _ _ _).mono KW.out.size
       · have hx:w.heap.size≤X+1:=by have:=HXW.out;omega
         exact ((((KW.out.trans (HK.out.mono KW.out.size)).setCell (p:=⟨X+1,0,none⟩) hx _).setCell (p:=⟨X+1,1,none⟩) hx _).setCell (p:=⟨X+1,2,none⟩) hx _).setCell (p:=⟨X+1,3,none⟩) hx _
       · obtain ⟨b,f1,f3,f4⟩:=HF.out;have hXb:X+1<b:=by have:=HSZ.out;omega
         exact ⟨b,Nat.le_trans KW.out.size f1,f3,(((f4.low hXb (cy _ _ _ _)).low hXb (cy _ _ _ _)).low hXb (cy _ _ _ _)).low hXb (cy _ _ _ _)⟩
   · go_simp;have kb:Bl w1 (w1.alloc (.cells #[] 3)):=bZ;have oE:=oE.below kb;have oI:(w1.alloc (.cells #[] 3)).ownsRow W0.heap.size 3 1 (sL (w1.heap.size) 0 0) 0 []:=World.ownsRow_lit (base:=W0.heap.size) (e:=3) (size:=1) w1 #[] 0 k0.size (by simp) (by simp);have k0:=k0.trans (kb.mono k0.size);clear kb;generalize w1.heap.size=gi at oI ⊢;generalize w1.alloc (.cells #[] 3)=w9 at k0 oE oI ⊢;refine hK.out _ _ (HMK.out _ k0) fun aa=>?_
     (try go_frame);refine aI 5 fun K hK=>?_
     refine bC rfl (.tmp 5) (.tmp 7) 28 rfl W0.heap.size 50 i0 _ 5 56 Tryz.underlying28 hi hz0 hz1 hz2 rfl (Nat.succ_pos 4) _ _ _ rfl oE.owns am nm cm (aE M) rfl (by rw [bi,HML.out]) HM.out.nil (gE (HM.out.keep k0)) (aQ _) ?_ ?_ ?_ ?_
     · unfold maxLen;omega
     · omega
     · exact k0.size
     intro v1 w10 ho1 hg1 hn1;obtain ⟨g1,c1,rfl⟩:=aG ho1 hn1;have hg1':w9.grownBy w10 (some ga):=hg1;have oI:=cC oI oE.owns (by decide) hg1';have k0:Bl W0 w10:=k0.grown hg1' k0.size (fun k e=>by cases e;exact oE.lt.1);have oE:ay w10 W0.heap.size g1 nm c1 M:=⟨by have h1:=ho1;rw [Nat.zero_add] at h1;simpa [aE] using h1,HML.out,HM.out.ents⟩;rw [Nat.zero_add];clear ho1 hg1 hn1 hg1';refine hK.out _ _ (HMK.out _ k0) fun aa=>?_
     (try go_frame);refine aI 8 fun K hK=>?_
     go_simp;refine (CL.out _ k0).mono ?_;rintro e w11 ⟨G,c,rfl,oL,kb⟩;have hgl:=oE.lt.2;have oE:=oE.below kb;have oI:=cE oI kb;have k0z:=k0.size;have k0:=k0.trans (kb.mono k0.size);clear kb;go_wp2_with fail
     refine hK.out _ _ (HMK.out _ k0) fun aa=>?_
     (try go_frame);refine aI 12 fun K hK=>?_
     refine bC rfl (.tmp 12) (.tmp 14) 24 rfl W0.heap.size 3 j0 _ 1 8 Tryz.underlying24 hj hy0 hy1 hy2 rfl (Nat.succ_pos 0) _ _ _ rfl oI ak ns cs (S.map iT) rfl (by rw [List.length_map,HSL.out,Nat.mul_one]) HS.out.nil (eV (HS.out.keep k0)) (by intro u hu;obtain ⟨z,_,rfl⟩:=List.mem_map.1 hu;rfl) ?_ ?_ ?_ ?_
     · unfold maxLen;omega
     · omega
     · exact k0.size
     intro v2 w12 ho2 hg2 hn2;obtain ⟨g3,c3,rfl⟩:=aG ho2 hn2;have hg2':w11.grownBy w12 (some gi):=hg2;have oE:=dw oE oI (by decide) hg2';have oL:=gg oL oI (by decide) (by decide) (by decide) hg2';have k0:Bl W0 w12:=k0.grown hg2' k0.size (fun k e=>by cases e;exact (oI.lt gi rfl).1);have oI:w12.ownsRow W0.heap.size 3 1 (sL g3 ns c3) ns (S.map iT):=by have h1:=ho2;rw [Nat.zero_add,List.nil_append] at h1;exact h1
     rw [Nat.zero_add];clear ho2 hg2 hn2 hg2';refine hK.out _ _ (HMK.out _ k0) fun aa=>?_
     (try go_frame);refine aO 13 1 aa ?_;refine aI 14 fun K hK=>?_
     have bq:=BR.out.keep k0;have d0:=bq.c0;have d1:=bq.c1;have d2:=bq.c2;have d3:=bq.c3;have df:=bq.fz;have dz:=bq.lt;go_simp;clear d0 d1 d2 d3 df dz;refine hK.out _ _ (HMS.out _ _ _ _ _ k0) fun aa=>?_
     (try go_frame);refine dN ?_;clear aa;have HC:Hid (cJ W0.heap.size w12 g1 nm c1 G nv c g3 ns c3 M V S):=⟨oE,oL.mono k0z,HSL.out,HSW.out,oI⟩;have HF:Hid (∃b,W0.heap.size≤b∧g1<b∧dS b w12 G nv c V):=⟨_,k0z,hgl,oL⟩;have HK:Hid (Bl W0 w12):=k0;have HBQ:Hid (ar w12 (X+1) (iT 0) nZ nZ nZ):=bq;clear oE oL oI k0 bq;go_wp2;refine bodyPost_ret (v:=.agg #[iT q,sL g1 nm c1,sL G nv c,sL g3 ns c3]) ?_ rfl ⟨g1,c1,G,c,g3,c3,rfl,?_,?_,?_⟩
     · have e:=(((HBQ.out.set0 (iT q)).set1 (sL g1 nm c1)).set2 (sL G nv c)).set3 (sL g3 ns c3);simp [results,Tryz.results57,go_sem,e.c0,e.c1,e.c2,e.c3]
     · exact (HC.out.four (by have:=HSZ.out;omega) _ _ _ _).mono KW.out.size
     · have hx:w.heap.size≤X+1:=by have:=HXW.out;omega
       exact ((((KW.out.trans (HK.out.mono KW.out.size)).setCell (p:=⟨X+1,0,none⟩) hx _).setCell (p:=⟨X+1,1,none⟩) hx _).setCell (p:=⟨X+1,2,none⟩) hx _).setCell (p:=⟨X+1,3,none⟩) hx _
     · obtain ⟨b,f1,f3,f4⟩:=HF.out;have hXb:X+1<b:=by have:=HSZ.out;omega
       exact ⟨b,Nat.le_trans KW.out.size f1,f3,(((f4.low hXb (cy _ _ _ _)).low hXb (cy _ _ _ _)).low hXb (cy _ _ _ _)).low hXb (cy _ _ _ _)⟩
 · go_simp;have kb:Bl wd (wd.alloc (.cells #[] 3)):=bZ;have oI:(wd.alloc (.cells #[] 3)).ownsRow W0.heap.size 3 1 (sL (wd.heap.size) 0 0) 0 []:=World.ownsRow_lit (base:=W0.heap.size) (e:=3) (size:=1) wd #[] 0 k0.size (by simp) (by simp);have k0:=k0.trans (kb.mono k0.size);clear kb;generalize wd.heap.size=gi at oI ⊢;generalize wd.alloc (.cells #[] 3)=w13 at k0 oI ⊢;refine hK.out _ _ (HMK.out _ k0) fun aa=>?_
   (try go_frame);refine aI 2 fun K hK=>?_
   go_simp;have kb:Bl w13 (w13.alloc (.cells #[] 50)):=bZ;have oI:=cE oI kb;have oE:=bQ w13 W0.heap.size k0.size;have k0:=k0.trans (kb.mono k0.size);clear kb;generalize w13.heap.size=ga at oE ⊢;generalize w13.alloc (.cells #[] 50)=w14 at k0 oE oI ⊢;refine hK.out _ _ (HMK.out _ k0) fun aa=>?_
   (try go_frame);refine aI 5 fun K hK=>?_
   refine bC rfl (.tmp 5) (.tmp 7) 28 rfl W0.heap.size 50 i0 _ 5 56 Tryz.underlying28 hi hz0 hz1 hz2 rfl (Nat.succ_pos 4) _ _ _ rfl oE.owns am nm cm (aE M) rfl (by rw [bi,HML.out]) HM.out.nil (gE (HM.out.keep k0)) (aQ _) ?_ ?_ ?_ ?_
   · unfold maxLen;omega
   · omega
   · exact k0.size
   intro v1 w15 ho1 hg1 hn1;obtain ⟨g1,c1,rfl⟩:=aG ho1 hn1;have hg1':w14.grownBy w15 (some ga):=hg1;have oI:=cC oI oE.owns (by decide) hg1';have k0:Bl W0 w15:=k0.grown hg1' k0.size (fun k e=>by cases e;exact oE.lt.1);have oE:ay w15 W0.heap.size g1 nm c1 M:=⟨by have h1:=ho1;rw [Nat.zero_add] at h1;simpa [aE] using h1,HML.out,HM.out.ents⟩;rw [Nat.zero_add];clear ho1 hg1 hn1 hg1';refine hK.out _ _ (HMK.out _ k0) fun aa=>?_
   (try go_frame);refine aI 8 fun K hK=>?_
   go_simp;refine (CL.out _ k0).mono ?_;rintro e w16 ⟨G,c,rfl,oL,kb⟩;have hgl:=oE.lt.2;have oE:=oE.below kb;have oI:=cE oI kb;have k0z:=k0.size;have k0:=k0.trans (kb.mono k0.size);clear kb;go_wp2_with fail
   refine hK.out _ _ (HMK.out _ k0) fun aa=>?_
   (try go_frame);refine aI 12 fun K hK=>?_
   refine bC rfl (.tmp 12) (.tmp 14) 24 rfl W0.heap.size 3 j0 _ 1 8 Tryz.underlying24 hj hy0 hy1 hy2 rfl (Nat.succ_pos 0) _ _ _ rfl oI ak ns cs (S.map iT) rfl (by rw [List.length_map,HSL.out,Nat.mul_one]) HS.out.nil (eV (HS.out.keep k0)) (by intro u hu;obtain ⟨z,_,rfl⟩:=List.mem_map.1 hu;rfl) ?_ ?_ ?_ ?_
   · unfold maxLen;omega
   · omega
   · exact k0.size
   intro v2 w17 ho2 hg2 hn2;obtain ⟨g3,c3,rfl⟩:=aG ho2 hn2;have hg2':w16.grownBy w17 (some gi):=hg2;have oE:=dw oE oI (by decide) hg2';have oL:=gg oL oI (by decide) (by decide) (by decide) hg2';have k0:Bl W0 w17:=k0.grown hg2' k0.size (fun k e=>by cases e;exact (oI.lt gi rfl).1);have oI:w17.ownsRow W0.heap.size 3 1 (sL g3 ns c3) ns (S.map iT):=by have h1:=ho2;rw [Nat.zero_add,List.nil_append] at h1;exact h1
   rw [Nat.zero_add];clear ho2 hg2 hn2 hg2';refine hK.out _ _ (HMK.out _ k0) fun aa=>?_
   (try go_frame);refine aO 13 1 aa ?_;refine aI 14 fun K hK=>?_
   have bq:=BR.out.keep k0;have d0:=bq.c0;have d1:=bq.c1;have d2:=bq.c2;have d3:=bq.c3;have df:=bq.fz;have dz:=bq.lt;go_simp;clear d0 d1 d2 d3 df dz;refine hK.out _ _ (HMS.out _ _ _ _ _ k0) fun aa=>?_
   (try go_frame);refine dN ?_;clear aa;have HC:Hid (cJ W0.heap.size w17 g1 nm c1 G nv c g3 ns c3 M V S):=⟨oE,oL.mono k0z,HSL.out,HSW.out,oI⟩;have HF:Hid (∃b,W0.heap.size≤b∧g1<b∧dS b w17 G nv c V):=⟨_,k0z,hgl,oL⟩;have HK:Hid (Bl W0 w17):=k0;have HBQ:Hid (ar w17 (X+1) (iT 0) nZ nZ nZ):=bq;clear oE oL oI k0 bq;go_wp2;refine bodyPost_ret (v:=.agg #[iT q,sL g1 nm c1,sL G nv c,sL g3 ns c3]) ?_ rfl ⟨g1,c1,G,c,g3,c3,rfl,?_,?_,?_⟩
   · have e:=(((HBQ.out.set0 (iT q)).set1 (sL g1 nm c1)).set2 (sL G nv c)).set3 (sL g3 ns c3);simp [results,Tryz.results57,go_sem,e.c0,e.c1,e.c2,e.c3]
   · exact (HC.out.four (by have:=HSZ.out;omega) _ _ _ _).mono KW.out.size
   · have hx:w.heap.size≤X+1:=by have:=HXW.out;omega
     exact ((((KW.out.trans (HK.out.mono KW.out.size)).setCell (p:=⟨X+1,0,none⟩) hx _).setCell (p:=⟨X+1,1,none⟩) hx _).setCell (p:=⟨X+1,2,none⟩) hx _).setCell (p:=⟨X+1,3,none⟩) hx _
   · obtain ⟨b,f1,f3,f4⟩:=HF.out;have hXb:X+1<b:=by have:=HSZ.out;omega
     exact ⟨b,Nat.le_trans KW.out.size f1,f3,(((f4.low hXb (cy _ _ _ _)).low hXb (cy _ _ _ _)).low hXb (cy _ _ _ _)).low hXb (cy _ _ _ _)⟩
theorem gZ (lo:Nat) (q:Int) (am av ak:Option Addr) (nm cm nv cv ns cs:Nat) (M:List ac) (V:List (List ag)) (S:List Int) (w:World) (hT:bf lo w am nm cm av nv cv ak ns cs M V S) (hnm:nm≤1048576) (hns:ns≤1048576) (hnv:nv≤100) (hS:∀B ∈ V,B.length≤100∧∀r ∈ B,1≤r.1.length∧r.1.length≤10000) :
 Calls Tryz.prog 57 #[.agg #[iT q,.slice am nm cm,.slice av nv cv,.slice ak ns cs]] w fun e w'=>∃g1 c1 G c g3 c3,e=.returned (.agg #[iT q,sL g1 nm c1,sL G nv c,sL g3 ns c3])∧cJ w.heap.size w' g1 nm c1 G nv c g3 ns c3 M V S∧Bl w w' :=
 (qg lo q am av ak nm cm nv cv ns cs M V S w hT hnm hns hnv hS).mono (fun e w' h=>by obtain ⟨g1,c1,G,c,g3,c3,h1,h2,h3,_⟩:=h;exact ⟨g1,c1,G,c,g3,c3,h1,h2,h3⟩)

end Go.Proofs.YtpobkmjicbobdaaGreat
