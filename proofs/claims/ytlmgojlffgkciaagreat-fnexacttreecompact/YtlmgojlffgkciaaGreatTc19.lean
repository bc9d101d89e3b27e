/-
  The document's copy of a tree, by a walk of its Go text.
-/
import Derived.Test.YtlmgojlffgkciaaGreatTc17
import Derived.Test.YtlmgojlffgkciaaGreatTc18
import Derived.Lib.AppendZerosOnto
import Derived.Lib.AppendZeros
import Derived.Test.YtlmgojlffgkciaaGreatTc16
import Derived.Test.YtlmgojlffgkciaaGreatTc09
namespace Go.Proofs.YtlmgojlffgkciaaGreat
open Go.RowKit
set_option maxRecDepth 100000
set_option maxHeartbeats 8000000
theorem de {w w':World} {base T size n m g c:Nat} {xs:List Value} (h:w.ownsRow base T size (sL g m c) n xs) (hb:Bl w w'):w'.ownsRow base T size (sL g m c) n xs:=h.kept (row:=none) ⟨hb.os,hb.tape,hb.output,hb.size,fun k hk _=>hb.block k hk⟩ (.inr (by simp [Value.ownBlock]))
theorem kK {w w':World} {base T size n m g c base' T' size' n' m' g' c':Nat} {xs xs':List Value} (h:w.ownsRow base T size (sL g m c) n xs) (h':w.ownsRow base' T' size' (sL g' m' c') n' xs') (hT:T≠T') (hg:w.grownBy w' (some g')):w'.ownsRow base T size (sL g m c) n xs:=by
 refine h.kept hg (.inr fun e=>?_);have e':g=g':=by simpa [Value.ownBlock] using e
 subst e';obtain ⟨_,k1⟩:=cY h;obtain ⟨_,k2⟩:=cY h';exact hT (k1.kind k2)
theorem ib {w w':World} {base n g c base' T' size' n' m' g' c':Nat} {L:List ac} {xs':List Value} (h:aE w base g n c L) (h':w.ownsRow base' T' size' (sL g' m' c') n' xs') (hT:78≠T') (hg:w.grownBy w' (some g')):aE w' base g n c L:=⟨kK h.owns h' hT hg,h.len,h.ents⟩
theorem gv {w w':World} {base g n c base' T' size' n' m' g' c':Nat} {V:List (List ae)} {xs':List Value} (h:eN base w g n c V) (h':w.ownsRow base' T' size' (sL g' m' c') n' xs') (t0:T'≠64) (t1:T'≠102) (t2:T'≠78) (hg:w.grownBy w' (some g')):eN base w' g n c V:=by
 obtain ⟨_,k⟩:=cY h';exact h.grown k t0 t1 t2 hg
theorem jW {lo:Nat} {w:World} {b o n c:Nat} {S:List Int} (h:aT lo w (some ⟨b,o,none⟩) n c S):∀j u,(S.map iT)[j]?=some u→w.cell? ((⟨b,o,none⟩:Addr).add j)=some u:=by
 intro j u hj;rw [Go.WideShapes.add_plain];rw [List.getElem?_map] at hj;cases hx:S[j]? with
 | none=>rw [hx] at hj;cases hj
 | some z =>
  rw [hx] at hj;cases hj;have hjl:j<n:=by rw [← h.length];exact (List.getElem?_eq_some_iff.1 hx).1
  obtain ⟨z',hz',_,cz⟩:=h.num (Below.refl _ w) j hjl;rw [hx] at hz';cases hz';exact cz
structure dy (base:Nat) (w:World) (g1 nm c1 G nv c g3 ns c3:Nat) (M:List ac) (V:List (List ae)) (S:List Int):Prop where
 mem:aE w base g1 nm c1 M
 levs:eN base w G nv c V
 slen:S.length=ns
 swf:∀z ∈ S,(Lit.int .i64 z).wf=true
 sn:w.ownsRow base 3 1 (sL g3 ns c3) ns (S.map iT)
theorem dy.below {base g1 nm c1 G nv c g3 ns c3:Nat} {w w':World} {M:List ac} {V:List (List ae)} {S:List Int} (h:dy base w g1 nm c1 G nv c g3 ns c3 M V S) (hb:Bl w w'):dy base w' g1 nm c1 G nv c g3 ns c3 M V S:=⟨h.mem.below hb,h.levs.below hb,h.slen,h.swf,de h.sn hb⟩
theorem dy.mono {base base' g1 nm c1 G nv c g3 ns c3:Nat} {w:World} {M:List ac} {V:List (List ae)} {S:List Int} (h:dy base w g1 nm c1 G nv c g3 ns c3 M V S) (hb:base'≤base):dy base' w g1 nm c1 G nv c g3 ns c3 M V S:=⟨h.mem.mono hb,h.levs.mono hb,h.slen,h.swf,jN h.sn hb⟩
theorem bG.low {base g n c X:Nat} {w w':World} {B:List ae} (h:bG base w g n c B) (hX:X<base) (hg:w.grownBy w' (some X)):bG base w' g n c B:=by
 obtain ⟨h1,h2,xs,h3,h4⟩:=h;refine ⟨h1,h2,xs,h3.kept hg (.inr fun e=>?_),fun i p hp=>?_⟩
 · have e':g=X:=by simpa [Value.ownBlock] using e
   have:=(h3.lt g rfl).1;omega
 · obtain ⟨e,d,a1,a2,a3⟩:=h4 i p hp;exact ⟨e,d,a1,a2,a3.grown hg (fun e'=>by have h5:e=X:=Option.some.inj e';have:=a3.lt.1;omega)⟩
theorem dy.low {base g1 nm c1 G nv c g3 ns c3 X:Nat} {w w':World} {M:List ac} {V:List (List ae)} {S:List Int} (h:dy base w g1 nm c1 G nv c g3 ns c3 M V S) (hX:X<base) (hg:w.grownBy w' (some X)):dy base w' g1 nm c1 G nv c g3 ns c3 M V S:=by
 have hk:∀{T size n m g c:Nat} {xs:List Value},w.ownsRow base T size (sL g m c) n xs→w'.ownsRow base T size (sL g m c) n xs:=fun {T size n m g c xs} h3=>h3.kept hg (.inr fun e=>by
  have e':g=X:=by simpa [Value.ownBlock] using e
  have:=(h3.lt g rfl).1;omega)
 obtain ⟨h1,xs,h3,h4,h5⟩:=h.levs;exact ⟨⟨hk h.mem.owns,h.mem.len,h.mem.ents⟩,⟨h1,xs,hk h3,(fun i p hp=>by obtain ⟨e,d,a1,a3⟩:=h4 i p hp;exact ⟨e,d,a1,a3.low hX hg⟩),h5⟩,h.slen,h.swf,hk h.sn⟩
theorem uA (w:World) (g o:Nat) (u:Value):w.grownBy (w.setCell ⟨g,o,none⟩ u) (some g):=⟨rfl,rfl,rfl,by simp [World.setCell],fun k _ hk=>Below.heap_setCell _ _ _ _ (fun e=>hk (by rw [e]))⟩
theorem dy.four {base g1 nm c1 G nv c g3 ns c3 X:Nat} {w:World} {M:List ac} {V:List (List ae)} {S:List Int} (h:dy base w g1 nm c1 G nv c g3 ns c3 M V S) (hX:X<base) (u0 u1 u2 u3:Value):dy base ((((w.setCell ⟨X,0,none⟩ u0).setCell ⟨X,1,none⟩ u1).setCell ⟨X,2,none⟩ u2).setCell ⟨X,3,none⟩ u3) g1 nm c1 G nv c g3 ns c3 M V S :=
 (((h.low hX (uA _ _ _ _)).low hX (uA _ _ _ _)).low hX (uA _ _ _ _)).low hX (uA _ _ _ _)
theorem dy.treeIn {base g1 nm c1 G nv c g3 ns c3:Nat} {w:World} {M:List ac} {V:List (List ae)} {S:List Int} (h:dy base w g1 nm c1 G nv c g3 ns c3 M V S):aM base w (pT g1) nm c1 (pT G) nv c (pT g3) ns c3 M V S:=by
 have hrc:=b6 h.sn;have hl:=h.slen;refine ⟨⟨h.mem.entsAt,fun x e _=>by cases e;exact h.mem.lt.1⟩,h.levs.levelsIn,⟨h.slen,hrc.1,hrc.2,h.swf,(fun e=>by cases e),?_,?_⟩⟩
 · rintro x e _;cases e;exact ⟨(h.sn.lt g3 rfl).2,rfl,(h.sn.lt g3 rfl).1⟩
 · rintro x e i hi;cases e;simp only [Nat.zero_add];have h1:=h.sn.cellAt i (by omega);rw [List.getElem?_map,List.getElem?_eq_getElem hi] at h1;exact h1
theorem lp (lo:Nat) (q:Int) (b1 nm cm:Nat) (av:Option Addr) (nv cv b3 ns cs:Nat) (M:List ac) (V:List (List ae)) (S:List Int) (w:World) (hT:aM lo w (pT b1) nm cm av nv cv (pT b3) ns cs M V S) (hnm:nm≤1048576) (hns:ns≤1048576) (hnv:nv≤100) (hS:∀B ∈ V,B.length≤100∧∀r ∈ B,1≤r.1.length∧r.1.length≤10000) :
 Calls Tryz.prog 38 #[.agg #[iT q,sL b1 nm cm,.slice av nv cv,sL b3 ns cs]] w fun e w'=>∃g1 c1 G c g3 c3,e=.returned (.agg #[iT q,sL g1 nm c1,sL G nv c,sL g3 ns c3])∧dy w.heap.size w' g1 nm c1 G nv c g3 ns c3 M V S∧Bl w w':=by
 obtain ⟨i0,hi,hz0,hz1,hz2⟩:=info_parts Tryz.infoEnt;obtain ⟨j0,hj,hy0,hy1,hy2⟩:=info_parts Tryz.infoInt;obtain ⟨X,hX⟩:=ay w.heap.size;obtain ⟨W0,hW0⟩:=ay ((w.alloc (.cells #[iT q,sL b1 nm cm,.slice av nv cv,sL b3 ns cs] 31)).alloc (.cells #[iT 0,nZ,nZ,nZ] 31));have kW:Bl w W0:=by rw [hW0];exact bZ.alloc (by simp) _
 have bx:aF W0 X (iT q) (sL b1 nm cm) (.slice av nv cv) (sL b3 ns cs):=by rw [hW0,hX];exact (aF.new _ _ _ _ _ _).alloc _
 have br:aF W0 (X+1) (iT 0) nZ nZ nZ:=by
  have:=aF.new (w.alloc (.cells #[iT q,sL b1 nm cm,.slice av nv cv,sL b3 ns cs] 31)) 31 (iT 0) nZ nZ nZ;rw [World.size_alloc] at this;rw [hW0,hX];exact this
 have HSZ:Hid (W0.heap.size=X+1+1):=by rw [hW0,hX];simp [Hid]
 have HXW:Hid (X=w.heap.size):=hX;have KW:Hid (Bl w W0):=kW;have BX:Hid (aF W0 X (iT q) (sL b1 nm cm) (.slice av nv cv) (sL b3 ns cs)):=bx;have BR:Hid (aF W0 (X+1) (iT 0) nZ nZ nZ):=br;have HM:Hid (af W0 (pT b1) nm cm M):=hT.mem.1.keep kW;have HS:Hid (aT lo W0 (pT b3) ns cs S):=hT.snaps.keep kW;have HML:Hid (M.length=nm):=hT.mem.1.length;have HSL:Hid (S.length=ns):=hT.snaps.length;have HSW:Hid (∀z ∈ S,(Lit.int .i64 z).wf=true):=hT.snaps.wfs;have HV:Hid (aX lo W0 av nv cv V):=hT.levels.keep kW;have CL:Hid (∀w',Bl W0 w'→Calls Tryz.prog 77 #[.slice av nv cv] w' fun e w''=>∃G c,e=.returned (sL G nv c)∧eN W0.heap.size w'' G nv c V∧Bl w' w''):=fun w' k=>(oh lo av nv cv V w' (HV.out.keep k) hnv hS).mono (fun e w'' h=>by obtain ⟨G,c,h1,h2,h3⟩:=h;exact ⟨G,c,h1,h2.mono k.size,h3⟩)
 have k0:Bl W0 W0.drew:=(Below.refl _ W0).drew;have HMK:Hid (∀w',Bl W0 w'→(fun w'=>w'.cell? ⟨X,0,none⟩=some (iT q)∧w'.cell? ⟨X,1,none⟩=some (sL b1 nm cm)∧w'.cell? ⟨X,2,none⟩=some (.slice av nv cv)∧w'.cell? ⟨X,3,none⟩=some (sL b3 ns cs)∧X<w'.heap.size) w'):=fun w' kk=>⟨cell_later kk BX.out.c0,cell_later kk BX.out.c1,cell_later kk BX.out.c2,cell_later kk BX.out.c3,Nat.lt_of_lt_of_le BX.out.lt kk.size⟩
 have HMS:Hid (∀(w':World) (u0 u1 u2 u3:Value),Bl W0 w'→(fun w'=>w'.cell? ⟨X,0,none⟩=some (iT q)∧w'.cell? ⟨X,1,none⟩=some (sL b1 nm cm)∧w'.cell? ⟨X,2,none⟩=some (.slice av nv cv)∧w'.cell? ⟨X,3,none⟩=some (sL b3 ns cs)∧X<w'.heap.size) ((((w'.setCell ⟨X+1,0,none⟩ u0).setCell ⟨X+1,1,none⟩ u1).setCell ⟨X+1,2,none⟩ u2).setCell ⟨X+1,3,none⟩ u3)):=fun w' u0 u1 u2 u3 kk=>by
  have b:=((((BX.out.keep kk).other (b':=X+1) (o:=0) (by omega) u0).other (b':=X+1) (o:=1) (by omega) u1).other (b':=X+1) (o:=2) (by omega) u2).other (b':=X+1) (o:=3) (by omega) u3;exact ⟨b.c0,b.c1,b.c2,b.c3,b.lt⟩
 clear hT kW bx br hS;go_enter Tryz.func38,Tryz.ntmps38
 go_upto_region 1 with fail
 rw [← hX,← hW0];clear hX hW0;refine dM HMK k0 fun aa=>?_
 generalize W0.drew=wd at k0 aa ⊢;refine aL 0 2 aa ?_;refine aL 3 2 aa ?_;refine aL 6 2 aa ?_;refine aL 10 2 aa ?_;refine A9 2 9 (fun K hK=>?_) fun K hK=>?_
 · go_simp;have kb:Bl wd (wd.alloc (.cells #[] 78)):=bZ;have oE:=er wd W0.heap.size k0.size;have k0:=k0.trans (kb.mono k0.size);clear kb;generalize wd.heap.size=ga at oE ⊢;generalize wd.alloc (.cells #[] 78)=w1 at k0 oE ⊢;refine hK.out _ _ (HMK.out _ k0) fun aa=>?_
   (try go_frame);refine A9 5 9 (fun K hK=>?_) fun K hK=>?_
   · refine ax rfl (.tmp 5) (.tmp 7) 28 rfl W0.heap.size 78 i0 _ 5 56 Tryz.underlying28 hi hz0 hz1 hz2 rfl (Nat.succ_pos 4) _ _ _ rfl oE.owns ⟨b1,0,none⟩ nm cm (aI M) rfl (by rw [aZ,HML.out]) (fd (HM.out.keep k0)) (bj _) ?_ ?_ ?_ ?_
     · unfold maxLen;omega
     · omega
     · exact k0.size
     intro v1 w2 ho1 hg1 hn1;obtain ⟨g1,c1,rfl⟩:=aU ho1 hn1;have hg1':w1.grownBy w2 (some ga):=hg1;have k0:Bl W0 w2:=k0.grown hg1' k0.size (fun k e=>by cases e;exact oE.lt.1);have oE:aE w2 W0.heap.size g1 nm c1 M:=⟨by have h1:=ho1;rw [Nat.zero_add] at h1;simpa [aI] using h1,HML.out,HM.out.ents⟩;rw [Nat.zero_add];clear ho1 hg1 hn1 hg1';refine hK.out _ _ (HMK.out _ k0) fun aa=>?_
     (try go_frame);refine A9 8 9 (fun K hK=>?_) fun K hK=>?_
     · go_simp;refine (CL.out _ k0).mono ?_;rintro e w3 ⟨G,c,rfl,oL,kb⟩;have oE:=oE.below kb;have k0z:=k0.size;have k0:=k0.trans (kb.mono k0.size);clear kb;go_wp2_with fail
       refine hK.out _ _ (HMK.out _ k0) fun aa=>?_
       (try go_frame);refine aS 9 fun K hK=>?_
       go_simp;have kb:Bl w3 (w3.alloc (.cells #[] 3)):=bZ;have oE:=oE.below kb;have oL:=oL.below kb;have oI:(w3.alloc (.cells #[] 3)).ownsRow W0.heap.size 3 1 (sL (w3.heap.size) 0 0) 0 []:=World.ownsRow_lit (base:=W0.heap.size) (e:=3) (size:=1) w3 #[] 0 k0.size (by simp) (by simp);have k0:=k0.trans (kb.mono k0.size);clear kb;generalize w3.heap.size=gi at oI ⊢;generalize w3.alloc (.cells #[] 3)=w4 at k0 oE oL oI ⊢;refine hK.out _ _ (HMK.out _ k0) fun aa=>?_
       (try go_frame);refine aS 12 fun K hK=>?_
       refine ax rfl (.tmp 12) (.tmp 14) 24 rfl W0.heap.size 3 j0 _ 1 8 Tryz.underlying24 hj hy0 hy1 hy2 rfl (Nat.succ_pos 0) _ _ _ rfl oI ⟨b3,0,none⟩ ns cs (S.map iT) rfl (by rw [List.length_map,HSL.out,Nat.mul_one]) (jW (HS.out.keep k0)) (by intro u hu;obtain ⟨z,_,rfl⟩:=List.mem_map.1 hu;rfl) ?_ ?_ ?_ ?_
       · unfold maxLen;omega
       · omega
       · exact k0.size
       intro v2 w5 ho2 hg2 hn2;obtain ⟨g3,c3,rfl⟩:=aU ho2 hn2;have hg2':w4.grownBy w5 (some gi):=hg2;have oE:=ib oE oI (by decide) hg2';have oL:=gv oL oI (by decide) (by decide) (by decide) hg2';have k0:Bl W0 w5:=k0.grown hg2' k0.size (fun k e=>by cases e;exact (oI.lt gi rfl).1);have oI:w5.ownsRow W0.heap.size 3 1 (sL g3 ns c3) ns (S.map iT):=by have h1:=ho2;rw [Nat.zero_add,List.nil_append] at h1;exact h1
       rw [Nat.zero_add];clear ho2 hg2 hn2 hg2';refine hK.out _ _ (HMK.out _ k0) fun aa=>?_
       (try go_frame);refine aL 13 1 aa ?_;refine aS 14 fun K hK=>?_
       have bq:=BR.out.keep k0;have d0:=bq.c0;have d1:=bq.c1;have d2:=bq.c2;have d3:=bq.c3;have df:=bq.fz;have dz:=bq.lt;go_simp;clear d0 d1 d2 d3 df dz;refine hK.out _ _ (HMS.out _ _ _ _ _ k0) fun aa=>?_
       (try go_frame);refine dN ?_;clear aa;have HC:Hid (dy W0.heap.size w5 g1 nm c1 G nv c g3 ns c3 M V S):=⟨oE,oL.mono (Nat.le_refl _),HSL.out,HSW.out,oI⟩;have HK:Hid (Bl W0 w5):=k0;have HBQ:Hid (aF w5 (X+1) (iT 0) nZ nZ nZ):=bq;clear oE oL oI k0 bq;go_wp2;refine bodyPost_ret (v:=.agg #[iT q,sL g1 nm c1,sL G nv c,sL g3 ns c3]) ?_ rfl ⟨g1,c1,G,c,g3,c3,rfl,?_,?_⟩
       · have e:=(((HBQ.out.set0 (iT q)).set1 (sL g1 nm c1)).set2 (sL G nv c)).set3 (sL g3 ns c3);simp [results,Tryz.results38,go_sem,e.c0,e.c1,e.c2,e.c3]
       · exact (HC.out.four (by have:=HSZ.out;omega) _ _ _ _).mono KW.out.size
       · have hx:w.heap.size≤X+1:=by have:=HXW.out;omega
         exact ((((KW.out.trans (HK.out.mono KW.out.size)).setCell (p:=⟨X+1,0,none⟩) hx _).setCell (p:=⟨X+1,1,none⟩) hx _).setCell (p:=⟨X+1,2,none⟩) hx _).setCell (p:=⟨X+1,3,none⟩) hx _
     · go_simp;have kb:Bl w2 (w2.alloc (.cells #[] 3)):=bZ;have oE:=oE.below kb;have oI:(w2.alloc (.cells #[] 3)).ownsRow W0.heap.size 3 1 (sL (w2.heap.size) 0 0) 0 []:=World.ownsRow_lit (base:=W0.heap.size) (e:=3) (size:=1) w2 #[] 0 k0.size (by simp) (by simp);have k0:=k0.trans (kb.mono k0.size);clear kb;generalize w2.heap.size=gi at oI ⊢;generalize w2.alloc (.cells #[] 3)=w6 at k0 oE oI ⊢;refine hK.out _ _ (HMK.out _ k0) fun aa=>?_
       (try go_frame);refine aS 8 fun K hK=>?_
       go_simp;refine (CL.out _ k0).mono ?_;rintro e w7 ⟨G,c,rfl,oL,kb⟩;have oE:=oE.below kb;have oI:=de oI kb;have k0z:=k0.size;have k0:=k0.trans (kb.mono k0.size);clear kb;go_wp2_with fail
       refine hK.out _ _ (HMK.out _ k0) fun aa=>?_
       (try go_frame);refine aS 12 fun K hK=>?_
       refine ax rfl (.tmp 12) (.tmp 14) 24 rfl W0.heap.size 3 j0 _ 1 8 Tryz.underlying24 hj hy0 hy1 hy2 rfl (Nat.succ_pos 0) _ _ _ rfl oI ⟨b3,0,none⟩ ns cs (S.map iT) rfl (by rw [List.length_map,HSL.out,Nat.mul_one]) (jW (HS.out.keep k0)) (by intro u hu;obtain ⟨z,_,rfl⟩:=List.mem_map.1 hu;rfl) ?_ ?_ ?_ ?_
       · unfold maxLen;omega
       · omega
       · exact k0.size
       intro v2 w8 ho2 hg2 hn2;obtain ⟨g3,c3,rfl⟩:=aU ho2 hn2;have hg2':w7.grownBy w8 (some gi):=hg2;have oE:=ib oE oI (by decide) hg2';have oL:=gv oL oI (by decide) (by decide) (by decide) hg2';have k0:Bl W0 w8:=k0.grown hg2' k0.size (fun k e=>by cases e;exact (oI.lt gi rfl).1);have oI:w8.ownsRow W0.heap.size 3 1 (sL g3 ns c3) ns (S.map iT):=by have h1:=ho2;rw [Nat.zero_add,List.nil_append] at h1;exact h1
       rw [Nat.zero_add];clear ho2 hg2 hn2 hg2';refine hK.out _ _ (HMK.out _ k0) fun aa=>?_
       (try go_frame);refine aL 13 1 aa ?_;refine aS 14 fun K hK=>?_
       have bq:=BR.out.keep k0;have d0:=bq.c0;have d1:=bq.c1;have d2:=bq.c2;have d3:=bq.c3;have df:=bq.fz;have dz:=bq.lt;go_simp;clear d0 d1 d2 d3 df dz;refine hK.out _ _ (HMS.out _ _ _ _ _ k0) fun aa=>?_
       (try go_frame);refine dN ?_;clear aa;have HC:Hid (dy W0.heap.size w8 g1 nm c1 G nv c g3 ns c3 M V S):=⟨oE,oL.mono (Nat.le_refl _),HSL.out,HSW.out,oI⟩;have HK:Hid (Bl W0 w8):=k0;have HBQ:Hid (aF w8 (X+1) (iT 0) nZ nZ nZ):=bq;clear oE oL oI k0 bq;go_wp2;refine bodyPost_ret (v:=.agg #[iT q,sL g1 nm c1,sL G nv c,sL g3 ns c3]) ?_ rfl ⟨g1,c1,G,c,g3,c3,rfl,?_,?_⟩
       · have e:=(((HBQ.out.set0 (iT q)).set1 (sL g1 nm c1)).set2 (sL G nv c)).set3 (sL g3 ns c3);simp [results,Tryz.results38,go_sem,e.c0,e.c1,e.c2,e.c3]
       · exact (HC.out.four (by have:=HSZ.out;omega) _ _ _ _).mono KW.out.size
       · have hx:w.heap.size≤X+1:=by have:=HXW.out;omega
         exact ((((KW.out.trans (HK.out.mono KW.out.size)).setCell (p:=⟨X+1,0,none⟩) hx _).setCell (p:=⟨X+1,1,none⟩) hx _).setCell (p:=⟨X+1,2,none⟩) hx _).setCell (p:=⟨X+1,3,none⟩) hx _
   · go_simp;have kb:Bl w1 (w1.alloc (.cells #[] 3)):=bZ;have oE:=oE.below kb;have oI:(w1.alloc (.cells #[] 3)).ownsRow W0.heap.size 3 1 (sL (w1.heap.size) 0 0) 0 []:=World.ownsRow_lit (base:=W0.heap.size) (e:=3) (size:=1) w1 #[] 0 k0.size (by simp) (by simp);have k0:=k0.trans (kb.mono k0.size);clear kb;generalize w1.heap.size=gi at oI ⊢;generalize w1.alloc (.cells #[] 3)=w9 at k0 oE oI ⊢;refine hK.out _ _ (HMK.out _ k0) fun aa=>?_
     (try go_frame);refine aS 5 fun K hK=>?_
     refine ax rfl (.tmp 5) (.tmp 7) 28 rfl W0.heap.size 78 i0 _ 5 56 Tryz.underlying28 hi hz0 hz1 hz2 rfl (Nat.succ_pos 4) _ _ _ rfl oE.owns ⟨b1,0,none⟩ nm cm (aI M) rfl (by rw [aZ,HML.out]) (fd (HM.out.keep k0)) (bj _) ?_ ?_ ?_ ?_
     · unfold maxLen;omega
     · omega
     · exact k0.size
     intro v1 w10 ho1 hg1 hn1;obtain ⟨g1,c1,rfl⟩:=aU ho1 hn1;have hg1':w9.grownBy w10 (some ga):=hg1;have oI:=kK oI oE.owns (by decide) hg1';have k0:Bl W0 w10:=k0.grown hg1' k0.size (fun k e=>by cases e;exact oE.lt.1);have oE:aE w10 W0.heap.size g1 nm c1 M:=⟨by have h1:=ho1;rw [Nat.zero_add] at h1;simpa [aI] using h1,HML.out,HM.out.ents⟩;rw [Nat.zero_add];clear ho1 hg1 hn1 hg1';refine hK.out _ _ (HMK.out _ k0) fun aa=>?_
     (try go_frame);refine aS 8 fun K hK=>?_
     go_simp;refine (CL.out _ k0).mono ?_;rintro e w11 ⟨G,c,rfl,oL,kb⟩;have oE:=oE.below kb;have oI:=de oI kb;have k0z:=k0.size;have k0:=k0.trans (kb.mono k0.size);clear kb;go_wp2_with fail
     refine hK.out _ _ (HMK.out _ k0) fun aa=>?_
     (try go_frame);refine aS 12 fun K hK=>?_
     refine ax rfl (.tmp 12) (.tmp 14) 24 rfl W0.heap.size 3 j0 _ 1 8 Tryz.underlying24 hj hy0 hy1 hy2 rfl (Nat.succ_pos 0) _ _ _ rfl oI ⟨b3,0,none⟩ ns cs (S.map iT) rfl (by rw [List.length_map,HSL.out,Nat.mul_one]) (jW (HS.out.keep k0)) (by intro u hu;obtain ⟨z,_,rfl⟩:=List.mem_map.1 hu;rfl) ?_ ?_ ?_ ?_
     · unfold maxLen;omega
     · omega
     · exact k0.size
     intro v2 w12 ho2 hg2 hn2;obtain ⟨g3,c3,rfl⟩:=aU ho2 hn2;have hg2':w11.grownBy w12 (some gi):=hg2;have oE:=ib oE oI (by decide) hg2';have oL:=gv oL oI (by decide) (by decide) (by decide) hg2';have k0:Bl W0 w12:=k0.grown hg2' k0.size (fun k e=>by cases e;exact (oI.lt gi rfl).1);have oI:w12.ownsRow W0.heap.size 3 1 (sL g3 ns c3) ns (S.map iT):=by have h1:=ho2;rw [Nat.zero_add,List.nil_append] at h1;exact h1
     rw [Nat.zero_add];clear ho2 hg2 hn2 hg2';refine hK.out _ _ (HMK.out _ k0) fun aa=>?_
     (try go_frame);refine aL 13 1 aa ?_;refine aS 14 fun K hK=>?_
     have bq:=BR.out.keep k0;have d0:=bq.c0;have d1:=bq.c1;have d2:=bq.c2;have d3:=bq.c3;have df:=bq.fz;have dz:=bq.lt;go_simp;clear d0 d1 d2 d3 df dz;refine hK.out _ _ (HMS.out _ _ _ _ _ k0) fun aa=>?_
     (try go_frame);refine dN ?_;clear aa;have HC:Hid (dy W0.heap.size w12 g1 nm c1 G nv c g3 ns c3 M V S):=⟨oE,oL.mono (Nat.le_refl _),HSL.out,HSW.out,oI⟩;have HK:Hid (Bl W0 w12):=k0;have HBQ:Hid (aF w12 (X+1) (iT 0) nZ nZ nZ):=bq;clear oE oL oI k0 bq;go_wp2;refine bodyPost_ret (v:=.agg #[iT q,sL g1 nm c1,sL G nv c,sL g3 ns c3]) ?_ rfl ⟨g1,c1,G,c,g3,c3,rfl,?_,?_⟩
     · have e:=(((HBQ.out.set0 (iT q)).set1 (sL g1 nm c1)).set2 (sL G nv c)).set3 (sL g3 ns c3);simp [results,Tryz.results38,go_sem,e.c0,e.c1,e.c2,e.c3]
     · exact (HC.out.four (by have:=HSZ.out;omega) _ _ _ _).mono KW.out.size
     · have hx:w.heap.size≤X+1:=by have:=HXW.out;omega
       exact ((((KW.out.trans (HK.out.mono KW.out.size)).setCell (p:=⟨X+1,0,none⟩) hx _).setCell (p:=⟨X+1,1,none⟩) hx _).setCell (p:=⟨X+1,2,none⟩) hx _).setCell (p:=⟨X+1,3,none⟩) hx _
 · go_simp;have kb:Bl wd (wd.alloc (.cells #[] 3)):=bZ;have oI:(wd.alloc (.cells #[] 3)).ownsRow W0.heap.size 3 1 (sL (wd.heap.size) 0 0) 0 []:=World.ownsRow_lit (base:=W0.heap.size) (e:=3) (size:=1) wd #[] 0 k0.size (by simp) (by simp);have k0:=k0.trans (kb.mono k0.size);clear kb;generalize wd.heap.size=gi at oI ⊢;generalize wd.alloc (.cells #[] 3)=w13 at k0 oI ⊢;refine hK.out _ _ (HMK.out _ k0) fun aa=>?_
   (try go_frame);refine aS 2 fun K hK=>?_
   go_simp;have kb:Bl w13 (w13.alloc (.cells #[] 78)):=bZ;have oI:=de oI kb;have oE:=er w13 W0.heap.size k0.size;have k0:=k0.trans (kb.mono k0.size);clear kb;generalize w13.heap.size=ga at oE ⊢;generalize w13.alloc (.cells #[] 78)=w14 at k0 oE oI ⊢;refine hK.out _ _ (HMK.out _ k0) fun aa=>?_
   (try go_frame);refine aS 5 fun K hK=>?_
   refine ax rfl (.tmp 5) (.tmp 7) 28 rfl W0.heap.size 78 i0 _ 5 56 Tryz.underlying28 hi hz0 hz1 hz2 rfl (Nat.succ_pos 4) _ _ _ rfl oE.owns ⟨b1,0,none⟩ nm cm (aI M) rfl (by rw [aZ,HML.out]) (fd (HM.out.keep k0)) (bj _) ?_ ?_ ?_ ?_
   · unfold maxLen;omega
   · omega
   · exact k0.size
   intro v1 w15 ho1 hg1 hn1;obtain ⟨g1,c1,rfl⟩:=aU ho1 hn1;have hg1':w14.grownBy w15 (some ga):=hg1;have oI:=kK oI oE.owns (by decide) hg1';have k0:Bl W0 w15:=k0.grown hg1' k0.size (fun k e=>by cases e;exact oE.lt.1);have oE:aE w15 W0.heap.size g1 nm c1 M:=⟨by have h1:=ho1;rw [Nat.zero_add] at h1;simpa [aI] using h1,HML.out,HM.out.ents⟩;rw [Nat.zero_add];clear ho1 hg1 hn1 hg1';refine hK.out _ _ (HMK.out _ k0) fun aa=>?_
   (try go_frame);refine aS 8 fun K hK=>?_
   go_simp;refine (CL.out _ k0).mono ?_;rintro e w16 ⟨G,c,rfl,oL,kb⟩;have oE:=oE.below kb;have oI:=de oI kb;have k0z:=k0.size;have k0:=k0.trans (kb.mono k0.size);clear kb;go_wp2_with fail
   refine hK.out _ _ (HMK.out _ k0) fun aa=>?_
   (try go_frame);refine aS 12 fun K hK=>?_
   refine ax rfl (.tmp 12) (.tmp 14) 24 rfl W0.heap.size 3 j0 _ 1 8 Tryz.underlying24 hj hy0 hy1 hy2 rfl (Nat.succ_pos 0) _ _ _ rfl oI ⟨b3,0,none⟩ ns cs (S.map iT) rfl (by rw [List.length_map,HSL.out,Nat.mul_one]) (jW (HS.out.keep k0)) (by intro u hu;obtain ⟨z,_,rfl⟩:=List.mem_map.1 hu;rfl) ?_ ?_ ?_ ?_
   · unfold maxLen;omega
   · omega
   · exact k0.size
   intro v2 w17 ho2 hg2 hn2;obtain ⟨g3,c3,rfl⟩:=aU ho2 hn2;have hg2':w16.grownBy w17 (some gi):=hg2;have oE:=ib oE oI (by decide) hg2';have oL:=gv oL oI (by decide) (by decide) (by decide) hg2';have k0:Bl W0 w17:=k0.grown hg2' k0.size (fun k e=>by cases e;exact (oI.lt gi rfl).1);have oI:w17.ownsRow W0.heap.size 3 1 (sL g3 ns c3) ns (S.map iT):=by have h1:=ho2;rw [Nat.zero_add,List.nil_append] at h1;exact h1
   rw [Nat.zero_add];clear ho2 hg2 hn2 hg2';refine hK.out _ _ (HMK.out _ k0) fun aa=>?_
   (try go_frame);refine aL 13 1 aa ?_;refine aS 14 fun K hK=>?_
   have bq:=BR.out.keep k0;have d0:=bq.c0;have d1:=bq.c1;have d2:=bq.c2;have d3:=bq.c3;have df:=bq.fz;have dz:=bq.lt;go_simp;clear d0 d1 d2 d3 df dz;refine hK.out _ _ (HMS.out _ _ _ _ _ k0) fun aa=>?_
   (try go_frame);refine dN ?_;clear aa;have HC:Hid (dy W0.heap.size w17 g1 nm c1 G nv c g3 ns c3 M V S):=⟨oE,oL.mono (Nat.le_refl _),HSL.out,HSW.out,oI⟩;have HK:Hid (Bl W0 w17):=k0;have HBQ:Hid (aF w17 (X+1) (iT 0) nZ nZ nZ):=bq;clear oE oL oI k0 bq;go_wp2;refine bodyPost_ret (v:=.agg #[iT q,sL g1 nm c1,sL G nv c,sL g3 ns c3]) ?_ rfl ⟨g1,c1,G,c,g3,c3,rfl,?_,?_⟩
   · have e:=(((HBQ.out.set0 (iT q)).set1 (sL g1 nm c1)).set2 (sL G nv c)).set3 (sL g3 ns c3);simp [results,Tryz.results38,go_sem,e.c0,e.c1,e.c2,e.c3]
   · exact (HC.out.four (by have:=HSZ.out;omega) _ _ _ _).mono KW.out.size
   · have hx:w.heap.size≤X+1:=by have:=HXW.out;omega
     exact ((((KW.out.trans (HK.out.mono KW.out.size)).setCell (p:=⟨X+1,0,none⟩) hx _).setCell (p:=⟨X+1,1,none⟩) hx _).setCell (p:=⟨X+1,2,none⟩) hx _).setCell (p:=⟨X+1,3,none⟩) hx _
end Go.Proofs.YtlmgojlffgkciaaGreat

namespace Go.Proofs.YtlmgojlffgkciaaGreat
open Go.RowKit
def pA (w:World) (p:Nat) (P:List (List Int)):Prop:=p<w.heap.size∧∀(i:Nat) (S:List Int),P[i]?=some S→∃b o c,w.cell? ⟨p,i,none⟩=some (sO b o S.length c)∧aT 0 w (some ⟨b,o,none⟩) S.length c S
theorem pA.keep {w w':World} {p:Nat} {P:List (List Int)} (h:pA w p P) (hb:Bl w w'):pA w' p P :=
 ⟨Nat.lt_of_lt_of_le h.1 hb.size,fun i S hS=>by obtain ⟨b,o,c,h1,h2⟩:=h.2 i S hS;exact ⟨b,o,c,cell_later hb h1,h2.keep hb⟩⟩
end Go.Proofs.YtlmgojlffgkciaaGreat
