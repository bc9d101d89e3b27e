/- Walks. -/
import Derived.Test.YtehiefdphnljaaaGreatDoorSw44
namespace Go.Proofs.YtehiefdphnljaaaGreatDoor
set_option maxRecDepth 100000
set_option maxHeartbeats 40000000
open Go.RowKit
variable {G T T' X base base' c c' c1 c3 g g' g1 g3 m m' n n' nm ns nv size size':Nat} {M:List ae} {S:List Int} {V:List (List aq)} {w w':World} {xs xs':List Value}
theorem je (h:w.ownsRow base T size (sL g m c) n xs) (hb:Bl w w'):w'.ownsRow base T size (sL g m c) n xs:=h.kept (row:=none) ⟨hb.os,hb.tape,hb.output,hb.size,fun k hk _=>hb.block k hk⟩ (.inr (by simp [Value.ownBlock]))
theorem jH (h:w.ownsRow base T size (sL g m c) n xs) (h':w.ownsRow base' T' size' (sL g' m' c') n' xs') (hT:T≠T') (hg:w.grownBy w' (some g')):w'.ownsRow base T size (sL g m c) n xs:=by
 refine h.kept hg (.inr fun e=>?_);have e':g=g':=by simpa [Value.ownBlock] using e
 subst e';obtain ⟨_,k1⟩:=eR h;obtain ⟨_,k2⟩:=eR h';exact hT (k1.kind k2)
theorem jh {L:List ae} (h:aE w base g n c L) (h':w.ownsRow base' T' size' (sL g' m' c') n' xs') (hT:59≠T') (hg:w.grownBy w' (some g')):aE w' base g n c L:=⟨jH h.owns h' hT hg,h.len,h.ents⟩
theorem ib (h:ep base w g n c V) (h':w.ownsRow base' T' size' (sL g' m' c') n' xs') (t0:T'≠83) (t1:T'≠119) (t2:T'≠59) (hg:w.grownBy w' (some g')):ep base w' g n c V:=by
 obtain ⟨_,k⟩:=eR h';exact h.grown k t0 t1 t2 hg
theorem jp {lo:Nat} {b o:Nat} (h:bC lo w (some ⟨b,o,none⟩) n c S):∀j u,(S.map iT)[j]?=some u→w.cell? ((⟨b,o,none⟩:Addr).add j)=some u:=by
 intro j u hj;rw [Go.WideShapes.add_plain];rw [List.getElem?_map] at hj;cases hx:S[j]? with
 | none=>rw [hx] at hj;cases hj
 | some z =>
  rw [hx] at hj;cases hj;have hjl:j<n:=by rw [← h.length];exact (List.getElem?_eq_some_iff.1 hx).1
  obtain ⟨z',hz',_,cz⟩:=h.num (Below.refl _ w) j hjl;rw [hx] at hz';cases hz';exact cz
structure fA (base:Nat) (w:World) (g1 nm c1 G nv c g3 ns c3:Nat) (M:List ae) (V:List (List aq)) (S:List Int):Prop where
 mem:aE w base g1 nm c1 M
 levs:ep base w G nv c V
 slen:S.length=ns
 swf:∀z ∈ S,(Lit.int .i64 z).wf=true
 sn:w.ownsRow base 3 1 (sL g3 ns c3) ns (S.map iT)
theorem fA.mono (h:fA base w g1 nm c1 G nv c g3 ns c3 M V S) (hb:base'≤base):fA base' w g1 nm c1 G nv c g3 ns c3 M V S:=⟨h.mem.mono hb,h.levs.mono hb,h.slen,h.swf,kZ h.sn hb⟩
theorem dw.low {B:List aq} (h:dw base w g n c B) (hX:X<base) (hg:w.grownBy w' (some X)):dw base w' g n c B:=by
 obtain ⟨h1,h2,xs,h3,h4⟩:=h;refine ⟨h1,h2,xs,h3.kept hg (.inr fun e=>?_),fun i p hp=>?_⟩
 · have e':g=X:=by simpa [Value.ownBlock] using e
   have:=(h3.lt g rfl).1;omega
 · obtain ⟨e,d,a1,a2,a3⟩:=h4 i p hp;exact ⟨e,d,a1,a2,a3.grown hg (fun e'=>by have h5:e=X:=Option.some.inj e';have:=a3.lt.1;omega)⟩
theorem fA.low (h:fA base w g1 nm c1 G nv c g3 ns c3 M V S) (hX:X<base) (hg:w.grownBy w' (some X)):fA base w' g1 nm c1 G nv c g3 ns c3 M V S:=by
 have hk:∀{T size n m g c:Nat} {xs:List Value},w.ownsRow base T size (sL g m c) n xs→w'.ownsRow base T size (sL g m c) n xs:=fun {T size n m g c xs} h3=>h3.kept hg (.inr fun e=>by
  have e':g=X:=by simpa [Value.ownBlock] using e
  have:=(h3.lt g rfl).1;omega)
 obtain ⟨h1,xs,h3,h4,h5⟩:=h.levs;exact ⟨⟨hk h.mem.owns,h.mem.len,h.mem.ents⟩,⟨h1,xs,hk h3,(fun i p hp=>by obtain ⟨e,d,a1,a3⟩:=h4 i p hp;exact ⟨e,d,a1,a3.low hX hg⟩),h5⟩,h.slen,h.swf,hk h.sn⟩
theorem Ax (w:World) (g o:Nat) (u:Value):w.grownBy (w.setCell ⟨g,o,none⟩ u) (some g):=⟨rfl,rfl,rfl,by simp [World.setCell],fun k _ hk=>Below.heap_setCell _ _ _ _ (fun e=>hk (by rw [e]))⟩
theorem fA.four (h:fA base w g1 nm c1 G nv c g3 ns c3 M V S) (hX:X<base) (u0 u1 u2 u3:Value):fA base ((((w.setCell ⟨X,0,none⟩ u0).setCell ⟨X,1,none⟩ u1).setCell ⟨X,2,none⟩ u2).setCell ⟨X,3,none⟩ u3) g1 nm c1 G nv c g3 ns c3 M V S :=
 (((h.low hX (Ax _ _ _ _)).low hX (Ax _ _ _ _)).low hX (Ax _ _ _ _)).low hX (Ax _ _ _ _)
theorem fA.treeIn (h:fA base w g1 nm c1 G nv c g3 ns c3 M V S):aX base w (pT g1) nm c1 (pT G) nv c (pT g3) ns c3 M V S:=by
 have hrc:=dI h.sn;have hl:=h.slen;refine ⟨⟨h.mem.entsAt,fun x e _=>by cases e;exact h.mem.lt.1⟩,h.levs.levelsIn,⟨h.slen,hrc.1,hrc.2,h.swf,(fun e=>by cases e),?_,?_⟩⟩
 · rintro x e _;cases e;exact ⟨(h.sn.lt g3 rfl).2,rfl,(h.sn.lt g3 rfl).1⟩
 · rintro x e i hi;cases e;simp only [Nat.zero_add];have h1:=h.sn.cellAt i (by omega);rw [List.getElem?_map,List.getElem?_eq_getElem hi] at h1;exact h1
theorem yw (lo:Nat) (q:Int) (b1 nm cm:Nat) (av:Option Addr) (nv cv b3 ns cs:Nat) (M:List ae) (V:List (List aq)) (S:List Int) (w:World) (hT:aX lo w (pT b1) nm cm av nv cv (pT b3) ns cs M V S) (hnm:nm≤1048576) (hns:ns≤1048576) (hnv:nv≤100) (hS:∀B ∈ V,B.length≤100∧∀r ∈ B,1≤r.1.length∧r.1.length≤10000) :
 Calls Tryz.prog 43 #[.agg #[iT q,sL b1 nm cm,.slice av nv cv,sL b3 ns cs]] w fun e w'=>∃g1 c1 G c g3 c3,e=.returned (.agg #[iT q,sL g1 nm c1,sL G nv c,sL g3 ns c3])∧fA w.heap.size w' g1 nm c1 G nv c g3 ns c3 M V S∧Bl w w':=by
 obtain ⟨i0,hi,hz0,hz1,hz2⟩:=info_parts Tryz.infoEnt;obtain ⟨j0,hj,hy0,hy1,hy2⟩:=info_parts Tryz.infoInt;obtain ⟨X,hX⟩:=aw w.heap.size;obtain ⟨W0,hW0⟩:=aw ((w.alloc (.cells #[iT q,sL b1 nm cm,.slice av nv cv,sL b3 ns cs] 36)).alloc (.cells #[iT 0,nZ,nZ,nZ] 36));have kW:Bl w W0:=by rw [hW0];exact bZ.alloc (by simp) _
 have bx:bf W0 X (iT q) (sL b1 nm cm) (.slice av nv cv) (sL b3 ns cs):=by rw [hW0,hX];exact (bf.new _ _ _ _ _ _).alloc _
 have br:bf W0 (X+1) (iT 0) nZ nZ nZ:=by
  have:=bf.new (w.alloc (.cells #[iT q,sL b1 nm cm,.slice av nv cv,sL b3 ns cs] 36)) 36 (iT 0) nZ nZ nZ;rw [World.size_alloc] at this;rw [hW0,hX];exact this
 have HSZ:Hid (W0.heap.size=X+1+1):=by rw [hW0,hX];simp [Hid]
 have HXW:Hid (X=w.heap.size):=hX;have KW:Hid (Bl w W0):=kW;have BX:Hid (bf W0 X (iT q) (sL b1 nm cm) (.slice av nv cv) (sL b3 ns cs)):=bx;have BR:Hid (bf W0 (X+1) (iT 0) nZ nZ nZ):=br;have HM:Hid (an W0 (pT b1) nm cm M):=hT.mem.1.keep kW;have HS:Hid (bC lo W0 (pT b3) ns cs S):=hT.snaps.keep kW;have HML:Hid (M.length=nm):=hT.mem.1.length;have HSL:Hid (S.length=ns):=hT.snaps.length;have HSW:Hid (∀z ∈ S,(Lit.int .i64 z).wf=true):=hT.snaps.wfs;have HV:Hid (au lo W0 av nv cv V):=hT.levels.keep kW;have CL:Hid (∀w',Bl W0 w'→Calls Tryz.prog 44 #[.slice av nv cv] w' fun e w''=>∃G c,e=.returned (sL G nv c)∧ep W0.heap.size w'' G nv c V∧Bl w' w''):=fun w' k=>(eO lo av nv cv V w' (HV.out.keep k) hnv hS).mono (fun e w'' h=>by obtain ⟨G,c,h1,h2,h3⟩:=h;exact ⟨G,c,h1,h2.mono k.size,h3⟩)
 have k0:Bl W0 W0.drew:=(Below.refl _ W0).drew;have HMK:Hid (∀w',Bl W0 w'→(fun w'=>w'.cell? ⟨X,0,none⟩=some (iT q)∧w'.cell? ⟨X,1,none⟩=some (sL b1 nm cm)∧w'.cell? ⟨X,2,none⟩=some (.slice av nv cv)∧w'.cell? ⟨X,3,none⟩=some (sL b3 ns cs)∧X<w'.heap.size) w'):=fun w' kk=>⟨cell_later kk BX.out.c0,cell_later kk BX.out.c1,cell_later kk BX.out.c2,cell_later kk BX.out.c3,Nat.lt_of_lt_of_le BX.out.lt kk.size⟩
 have HMS:Hid (∀(w':World) (u0 u1 u2 u3:Value),Bl W0 w'→(fun w'=>w'.cell? ⟨X,0,none⟩=some (iT q)∧w'.cell? ⟨X,1,none⟩=some (sL b1 nm cm)∧w'.cell? ⟨X,2,none⟩=some (.slice av nv cv)∧w'.cell? ⟨X,3,none⟩=some (sL b3 ns cs)∧X<w'.heap.size) ((((w'.setCell ⟨X+1,0,none⟩ u0).setCell ⟨X+1,1,none⟩ u1).setCell ⟨X+1,2,none⟩ u2).setCell ⟨X+1,3,none⟩ u3)):=fun w' u0 u1 u2 u3 kk=>by
  have b:=((((BX.out.keep kk).other (b':=X+1) (o:=0) (by omega) u0).other (b':=X+1) (o:=1) (by omega) u1).other (b':=X+1) (o:=2) (by omega) u2).other (b':=X+1) (o:=3) (by omega) u3;exact ⟨b.c0,b.c1,b.c2,b.c3,b.lt⟩
 clear hT kW bx br hS;go_enter Tryz.func43,Tryz.ntmps43
 go_upto_region 1 with fail
 rw [← hX,← hW0];clear hX hW0;refine dC HMK k0 fun aa=>?_
 generalize W0.drew=wd at k0 aa ⊢;refine aK 0 2 aa ?_;refine aK 3 2 aa ?_;refine aK 6 2 aa ?_;refine aK 10 2 aa ?_;refine uv 2 9 (fun K hK=>?_) fun K hK=>?_
 · go_simp;have kb:Bl wd (wd.alloc (.cells #[] 59)):=bZ;have oE:=dJ wd W0.heap.size k0.size;have k0:=k0.trans (kb.mono k0.size);clear kb;generalize wd.heap.size=ga at oE ⊢;generalize wd.alloc (.cells #[] 59)=w1 at k0 oE ⊢;refine hK.out _ _ (HMK.out _ k0) fun aa=>?_
   (try go_frame);refine uv 5 9 (fun K hK=>?_) fun K hK=>?_
   · refine aA rfl (.tmp 5) (.tmp 7) 33 rfl W0.heap.size 59 i0 _ 5 56 Tryz.underlying33 hi hz0 hz1 hz2 rfl (Nat.succ_pos 4) _ _ _ rfl oE.owns ⟨b1,0,none⟩ nm cm (aG M) rfl (by rw [bW,HML.out]) (dW (HM.out.keep k0)) (bF _) ?_ ?_ ?_ ?_
     · unfold maxLen;omega
     · omega
     · exact k0.size
     intro v1 w2 ho1 hg1 hn1;obtain ⟨g1,c1,rfl⟩:=bw ho1 hn1;have hg1':w1.grownBy w2 (some ga):=hg1;have k0:Bl W0 w2:=k0.grown hg1' k0.size (fun k e=>by cases e;exact oE.lt.1);have oE:aE w2 W0.heap.size g1 nm c1 M:=⟨by have h1:=ho1;rw [Nat.zero_add] at h1;simpa [aG] using h1,HML.out,HM.out.ents⟩;rw [Nat.zero_add];clear ho1 hg1 hn1 hg1';refine hK.out _ _ (HMK.out _ k0) fun aa=>?_
     (try go_frame);refine uv 8 9 (fun K hK=>?_) fun K hK=>?_
     · go_simp;refine (CL.out _ k0).mono ?_;rintro e w3 ⟨G,c,rfl,oL,kb⟩;have oE:=oE.below kb;have k0z:=k0.size;have k0:=k0.trans (kb.mono k0.size);clear kb;go_wp2_with fail
       refine hK.out _ _ (HMK.out _ k0) fun aa=>?_
       (try go_frame);refine aP 9 fun K hK=>?_
       go_simp;have kb:Bl w3 (w3.alloc (.cells #[] 3)):=bZ;have oE:=oE.below kb;have oL:=oL.below kb;have oI:(w3.alloc (.cells #[] 3)).ownsRow W0.heap.size 3 1 (sL (w3.heap.size) 0 0) 0 []:=World.ownsRow_lit (base:=W0.heap.size) (e:=3) (size:=1) w3 #[] 0 k0.size (by simp) (by simp);have k0:=k0.trans (kb.mono k0.size);clear kb;generalize w3.heap.size=gi at oI ⊢;generalize w3.alloc (.cells #[] 3)=w4 at k0 oE oL oI ⊢;refine hK.out _ _ (HMK.out _ k0) fun aa=>?_
       (try go_frame);refine aP 12 fun K hK=>?_
       refine aA rfl (.tmp 12) (.tmp 14) 24 rfl W0.heap.size 3 j0 _ 1 8 Tryz.underlying24 hj hy0 hy1 hy2 rfl (Nat.succ_pos 0) _ _ _ rfl oI ⟨b3,0,none⟩ ns cs (S.map iT) rfl (by rw [List.length_map,HSL.out,Nat.mul_one]) (jp (HS.out.keep k0)) (by intro u hu;obtain ⟨z,_,rfl⟩:=List.mem_map.1 hu;rfl) ?_ ?_ ?_ ?_
       · unfold maxLen;omega
       · omega
       · exact k0.size
       intro v2 w5 ho2 hg2 hn2;obtain ⟨g3,c3,rfl⟩:=bw ho2 hn2;have hg2':w4.grownBy w5 (some gi):=hg2;have oE:=jh oE oI (by decide) hg2';have oL:=ib oL oI (by decide) (by decide) (by decide) hg2';have k0:Bl W0 w5:=k0.grown hg2' k0.size (fun k e=>by cases e;exact (oI.lt gi rfl).1);have oI:w5.ownsRow W0.heap.size 3 1 (sL g3 ns c3) ns (S.map iT):=by have h1:=ho2;rw [Nat.zero_add,List.nil_append] at h1;exact h1
       rw [Nat.zero_add];clear ho2 hg2 hn2 hg2';refine hK.out _ _ (HMK.out _ k0) fun aa=>?_
       (try go_frame);refine aK 13 1 aa ?_;refine aP 14 fun K hK=>?_
       have bq:=BR.out.keep k0;have d0:=bq.all;go_simp;clear d0;refine hK.out _ _ (HMS.out _ _ _ _ _ k0) fun aa=>?_
       (try go_frame);refine dN ?_;clear aa;have HC:Hid (fA W0.heap.size w5 g1 nm c1 G nv c g3 ns c3 M V S):=⟨oE,oL.mono (Nat.le_refl _),HSL.out,HSW.out,oI⟩;have HK:Hid (Bl W0 w5):=k0;have HBQ:Hid (bf w5 (X+1) (iT 0) nZ nZ nZ):=bq;clear oE oL oI k0 bq;go_wp2;refine bodyPost_ret (v:=.agg #[iT q,sL g1 nm c1,sL G nv c,sL g3 ns c3]) ?_ rfl ⟨g1,c1,G,c,g3,c3,rfl,?_,?_⟩
       · have e:=(((HBQ.out.set0 (iT q)).set1 (sL g1 nm c1)).set2 (sL G nv c)).set3 (sL g3 ns c3);simp [results,Tryz.results43,go_sem,e.all]
       · exact (HC.out.four (by have:=HSZ.out;omega) _ _ _ _).mono KW.out.size
       · have hx:w.heap.size≤X+1:=by have:=HXW.out;omega
         exact ((((KW.out.trans (HK.out.mono KW.out.size)).setCell (p:=⟨X+1,0,none⟩) hx _).setCell (p:=⟨X+1,1,none⟩) hx _).setCell (p:=⟨X+1,2,none⟩) hx _).setCell (p:=⟨X+1,3,none⟩) hx _
     · go_simp;have kb:Bl w2 (w2.alloc (.cells #[] 3)):=bZ;have oE:=oE.below kb;have oI:(w2.alloc (.cells #[] 3)).ownsRow W0.heap.size 3 1 (sL (w2.heap.size) 0 0) 0 []:=World.ownsRow_lit (base:=W0.heap.size) (e:=3) (size:=1) w2 #[] 0 k0.size (by simp) (by simp);have k0:=k0.trans (kb.mono k0.size);clear kb;generalize w2.heap.size=gi at oI ⊢;generalize w2.alloc (.cells #[] 3)=w6 at k0 oE oI ⊢;refine hK.out _ _ (HMK.out _ k0) fun aa=>?_
       (try go_frame);refine aP 8 fun K hK=>?_
       go_simp;refine (CL.out _ k0).mono ?_;rintro e w7 ⟨G,c,rfl,oL,kb⟩;have oE:=oE.below kb;have oI:=je oI kb;have k0z:=k0.size;have k0:=k0.trans (kb.mono k0.size);clear kb;go_wp2_with fail
       refine hK.out _ _ (HMK.out _ k0) fun aa=>?_
       (try go_frame);refine aP 12 fun K hK=>?_
       refine aA rfl (.tmp 12) (.tmp 14) 24 rfl W0.heap.size 3 j0 _ 1 8 Tryz.underlying24 hj hy0 hy1 hy2 rfl (Nat.succ_pos 0) _ _ _ rfl oI ⟨b3,0,none⟩ ns cs (S.map iT) rfl (by rw [List.length_map,HSL.out,Nat.mul_one]) (jp (HS.out.keep k0)) (by intro u hu;obtain ⟨z,_,rfl⟩:=List.mem_map.1 hu;rfl) ?_ ?_ ?_ ?_
       · unfold maxLen;omega
       · omega
       · exact k0.size
       intro v2 w8 ho2 hg2 hn2;obtain ⟨g3,c3,rfl⟩:=bw ho2 hn2;have hg2':w7.grownBy w8 (some gi):=hg2;have oE:=jh oE oI (by decide) hg2';have oL:=ib oL oI (by decide) (by decide) (by decide) hg2';have k0:Bl W0 w8:=k0.grown hg2' k0.size (fun k e=>by cases e;exact (oI.lt gi rfl).1);have oI:w8.ownsRow W0.heap.size 3 1 (sL g3 ns c3) ns (S.map iT):=by have h1:=ho2;rw [Nat.zero_add,List.nil_append] at h1;exact h1
       rw [Nat.zero_add];clear ho2 hg2 hn2 hg2';refine hK.out _ _ (HMK.out _ k0) fun aa=>?_
       (try go_frame);refine aK 13 1 aa ?_;refine aP 14 fun K hK=>?_
       have bq:=BR.out.keep k0;have d0:=bq.all;go_simp;clear d0;refine hK.out _ _ (HMS.out _ _ _ _ _ k0) fun aa=>?_
       (try go_frame);refine dN ?_;clear aa;have HC:Hid (fA W0.heap.size w8 g1 nm c1 G nv c g3 ns c3 M V S):=⟨oE,oL.mono (Nat.le_refl _),HSL.out,HSW.out,oI⟩;have HK:Hid (Bl W0 w8):=k0;have HBQ:Hid (bf w8 (X+1) (iT 0) nZ nZ nZ):=bq;clear oE oL oI k0 bq;go_wp2;refine bodyPost_ret (v:=.agg #[iT q,sL g1 nm c1,sL G nv c,sL g3 ns c3]) ?_ rfl ⟨g1,c1,G,c,g3,c3,rfl,?_,?_⟩
       · have e:=(((HBQ.out.set0 (iT q)).set1 (sL g1 nm c1)).set2 (sL G nv c)).set3 (sL g3 ns c3);simp [results,Tryz.results43,go_sem,e.all]
       · exact (HC.out.four (by have:=HSZ.out;omega) _ _ _ _).mono KW.out.size
       · have hx:w.heap.size≤X+1:=by have:=HXW.out;omega
         exact ((((KW.out.trans (HK.out.mono KW.out.size)).setCell (p:=⟨X+1,0,none⟩) hx _).setCell (p:=⟨X+1,1,none⟩) hx _).setCell (p:=⟨X+1,2,none⟩) hx _).setCell (p:=⟨X+1,3,none⟩) hx _
   · go_simp;have kb:Bl w1 (w1.alloc (.cells #[] 3)):=bZ;have oE:=oE.below kb;have oI:(w1.alloc (.cells #[] 3)).ownsRow W0.heap.size 3 1 (sL (w1.heap.size) 0 0) 0 []:=World.ownsRow_lit (base:=W0.heap.size) (e:=3) (size:=1) w1 #[] 0 k0.size (by simp) (by simp);have k0:=k0.trans (kb.mono k0.size);clear kb;generalize w1.heap.size=gi at oI ⊢;generalize w1.alloc (.cells #[] 3)=w9 at k0 oE oI ⊢;refine hK.out _ _ (HMK.out _ k0) fun aa=>?_
     (try go_frame);refine aP 5 fun K hK=>?_
     refine aA rfl (.tmp 5) (.tmp 7) 33 rfl W0.heap.size 59 i0 _ 5 56 Tryz.underlying33 hi hz0 hz1 hz2 rfl (Nat.succ_pos 4) _ _ _ rfl oE.owns ⟨b1,0,none⟩ nm cm (aG M) rfl (by rw [bW,HML.out]) (dW (HM.out.keep k0)) (bF _) ?_ ?_ ?_ ?_
     · unfold maxLen;omega
     · omega
     · exact k0.size
     intro v1 w10 ho1 hg1 hn1;obtain ⟨g1,c1,rfl⟩:=bw ho1 hn1;have hg1':w9.grownBy w10 (some ga):=hg1;have oI:=jH oI oE.owns (by decide) hg1';have k0:Bl W0 w10:=k0.grown hg1' k0.size (fun k e=>by cases e;exact oE.lt.1);have oE:aE w10 W0.heap.size g1 nm c1 M:=⟨by have h1:=ho1;rw [Nat.zero_add] at h1;simpa [aG] using h1,HML.out,HM.out.ents⟩;rw [Nat.zero_add];clear ho1 hg1 hn1 hg1';refine hK.out _ _ (HMK.out _ k0) fun aa=>?_
     (try go_frame);refine aP 8 fun K hK=>?_
     go_simp;refine (CL.out _ k0).mono ?_;rintro e w11 ⟨G,c,rfl,oL,kb⟩;have oE:=oE.below kb;have oI:=je oI kb;have k0z:=k0.size;have k0:=k0.trans (kb.mono k0.size);clear kb;go_wp2_with fail
     refine hK.out _ _ (HMK.out _ k0) fun aa=>?_
     (try go_frame);refine aP 12 fun K hK=>?_
     refine aA rfl (.tmp 12) (.tmp 14) 24 rfl W0.heap.size 3 j0 _ 1 8 Tryz.underlying24 hj hy0 hy1 hy2 rfl (Nat.succ_pos 0) _ _ _ rfl oI ⟨b3,0,none⟩ ns cs (S.map iT) rfl (by rw [List.length_map,HSL.out,Nat.mul_one]) (jp (HS.out.keep k0)) (by intro u hu;obtain ⟨z,_,rfl⟩:=List.mem_map.1 hu;rfl) ?_ ?_ ?_ ?_
     · unfold maxLen;omega
     · omega
     · exact k0.size
     intro v2 w12 ho2 hg2 hn2;obtain ⟨g3,c3,rfl⟩:=bw ho2 hn2;have hg2':w11.grownBy w12 (some gi):=hg2;have oE:=jh oE oI (by decide) hg2';have oL:=ib oL oI (by decide) (by decide) (by decide) hg2';have k0:Bl W0 w12:=k0.grown hg2' k0.size (fun k e=>by cases e;exact (oI.lt gi rfl).1);have oI:w12.ownsRow W0.heap.size 3 1 (sL g3 ns c3) ns (S.map iT):=by have h1:=ho2;rw [Nat.zero_add,List.nil_append] at h1;exact h1
     rw [Nat.zero_add];clear ho2 hg2 hn2 hg2';refine hK.out _ _ (HMK.out _ k0) fun aa=>?_
     (try go_frame);refine aK 13 1 aa ?_;refine aP 14 fun K hK=>?_
     have bq:=BR.out.keep k0;have d0:=bq.all;go_simp;clear d0;refine hK.out _ _ (HMS.out _ _ _ _ _ k0) fun aa=>?_
     (try go_frame);refine dN ?_;clear aa;have HC:Hid (fA W0.heap.size w12 g1 nm c1 G nv c g3 ns c3 M V S):=⟨oE,oL.mono (Nat.le_refl _),HSL.out,HSW.out,oI⟩;have HK:Hid (Bl W0 w12):=k0;have HBQ:Hid (bf w12 (X+1) (iT 0) nZ nZ nZ):=bq;clear oE oL oI k0 bq;go_wp2;refine bodyPost_ret (v:=.agg #[iT q,sL g1 nm c1,sL G nv c,sL g3 ns c3]) ?_ rfl ⟨g1,c1,G,c,g3,c3,rfl,?_,?_⟩
     · have e:=(((HBQ.out.set0 (iT q)).set1 (sL g1 nm c1)).set2 (sL G nv c)).set3 (sL g3 ns c3);simp [results,Tryz.results43,go_sem,e.all]
     · exact (HC.out.four (by have:=HSZ.out;omega) _ _ _ _).mono KW.out.size
     · have hx:w.heap.size≤X+1:=by have:=HXW.out;omega
       exact ((((KW.out.trans (HK.out.mono KW.out.size)).setCell (p:=⟨X+1,0,none⟩) hx _).setCell (p:=⟨X+1,1,none⟩) hx _).setCell (p:=⟨X+1,2,none⟩) hx _).setCell (p:=⟨X+1,3,none⟩) hx _
 · go_simp;have kb:Bl wd (wd.alloc (.cells #[] 3)):=bZ;have oI:(wd.alloc (.cells #[] 3)).ownsRow W0.heap.size 3 1 (sL (wd.heap.size) 0 0) 0 []:=World.ownsRow_lit (base:=W0.heap.size) (e:=3) (size:=1) wd #[] 0 k0.size (by simp) (by simp);have k0:=k0.trans (kb.mono k0.size);clear kb;generalize wd.heap.size=gi at oI ⊢;generalize wd.alloc (.cells #[] 3)=w13 at k0 oI ⊢;refine hK.out _ _ (HMK.out _ k0) fun aa=>?_
   (try go_frame);refine aP 2 fun K hK=>?_
   go_simp;have kb:Bl w13 (w13.alloc (.cells #[] 59)):=bZ;have oI:=je oI kb;have oE:=dJ w13 W0.heap.size k0.size;have k0:=k0.trans (kb.mono k0.size);clear kb;generalize w13.heap.size=ga at oE ⊢;generalize w13.alloc (.cells #[] 59)=w14 at k0 oE oI ⊢;refine hK.out _ _ (HMK.out _ k0) fun aa=>?_
   (try go_frame);refine aP 5 fun K hK=>?_
   refine aA rfl (.tmp 5) (.tmp 7) 33 rfl W0.heap.size 59 i0 _ 5 56 Tryz.underlying33 hi hz0 hz1 hz2 rfl (Nat.succ_pos 4) _ _ _ rfl oE.owns ⟨b1,0,none⟩ nm cm (aG M) rfl (by rw [bW,HML.out]) (dW (HM.out.keep k0)) (bF _) ?_ ?_ ?_ ?_
   · unfold maxLen;omega
   · omega
   · exact k0.size
   intro v1 w15 ho1 hg1 hn1;obtain ⟨g1,c1,rfl⟩:=bw ho1 hn1;have hg1':w14.grownBy w15 (some ga):=hg1;have oI:=jH oI oE.owns (by decide) hg1';have k0:Bl W0 w15:=k0.grown hg1' k0.size (fun k e=>by cases e;exact oE.lt.1);have oE:aE w15 W0.heap.size g1 nm c1 M:=⟨by have h1:=ho1;rw [Nat.zero_add] at h1;simpa [aG] using h1,HML.out,HM.out.ents⟩;rw [Nat.zero_add];clear ho1 hg1 hn1 hg1';refine hK.out _ _ (HMK.out _ k0) fun aa=>?_
   (try go_frame);refine aP 8 fun K hK=>?_
   go_simp;refine (CL.out _ k0).mono ?_;rintro e w16 ⟨G,c,rfl,oL,kb⟩;have oE:=oE.below kb;have oI:=je oI kb;have k0z:=k0.size;have k0:=k0.trans (kb.mono k0.size);clear kb;go_wp2_with fail
   refine hK.out _ _ (HMK.out _ k0) fun aa=>?_
   (try go_frame);refine aP 12 fun K hK=>?_
   refine aA rfl (.tmp 12) (.tmp 14) 24 rfl W0.heap.size 3 j0 _ 1 8 Tryz.underlying24 hj hy0 hy1 hy2 rfl (Nat.succ_pos 0) _ _ _ rfl oI ⟨b3,0,none⟩ ns cs (S.map iT) rfl (by rw [List.length_map,HSL.out,Nat.mul_one]) (jp (HS.out.keep k0)) (by intro u hu;obtain ⟨z,_,rfl⟩:=List.mem_map.1 hu;rfl) ?_ ?_ ?_ ?_
   · unfold maxLen;omega
   · omega
   · exact k0.size
   intro v2 w17 ho2 hg2 hn2;obtain ⟨g3,c3,rfl⟩:=bw ho2 hn2;have hg2':w16.grownBy w17 (some gi):=hg2;have oE:=jh oE oI (by decide) hg2';have oL:=ib oL oI (by decide) (by decide) (by decide) hg2';have k0:Bl W0 w17:=k0.grown hg2' k0.size (fun k e=>by cases e;exact (oI.lt gi rfl).1);have oI:w17.ownsRow W0.heap.size 3 1 (sL g3 ns c3) ns (S.map iT):=by have h1:=ho2;rw [Nat.zero_add,List.nil_append] at h1;exact h1
   rw [Nat.zero_add];clear ho2 hg2 hn2 hg2';refine hK.out _ _ (HMK.out _ k0) fun aa=>?_
   (try go_frame);refine aK 13 1 aa ?_;refine aP 14 fun K hK=>?_
   have bq:=BR.out.keep k0;have d0:=bq.all;go_simp;clear d0;refine hK.out _ _ (HMS.out _ _ _ _ _ k0) fun aa=>?_
   (try go_frame);refine dN ?_;clear aa;have HC:Hid (fA W0.heap.size w17 g1 nm c1 G nv c g3 ns c3 M V S):=⟨oE,oL.mono (Nat.le_refl _),HSL.out,HSW.out,oI⟩;have HK:Hid (Bl W0 w17):=k0;have HBQ:Hid (bf w17 (X+1) (iT 0) nZ nZ nZ):=bq;clear oE oL oI k0 bq;go_wp2;refine bodyPost_ret (v:=.agg #[iT q,sL g1 nm c1,sL G nv c,sL g3 ns c3]) ?_ rfl ⟨g1,c1,G,c,g3,c3,rfl,?_,?_⟩
   · have e:=(((HBQ.out.set0 (iT q)).set1 (sL g1 nm c1)).set2 (sL G nv c)).set3 (sL g3 ns c3);simp [results,Tryz.results43,go_sem,e.all]
   · exact (HC.out.four (by have:=HSZ.out;omega) _ _ _ _).mono KW.out.size
   · have hx:w.heap.size≤X+1:=by have:=HXW.out;omega
     exact ((((KW.out.trans (HK.out.mono KW.out.size)).setCell (p:=⟨X+1,0,none⟩) hx _).setCell (p:=⟨X+1,1,none⟩) hx _).setCell (p:=⟨X+1,2,none⟩) hx _).setCell (p:=⟨X+1,3,none⟩) hx _
end Go.Proofs.YtehiefdphnljaaaGreatDoor
