/-
  The document's copy of a tree, by a walk of its Go text.
-/
import Derived.Test.YtgpcinihgofmfaaGreatDoorSt41
import Derived.Test.YtgpcinihgofmfaaGreatDoorSt05
import Derived.Deep.DeepCutAuto
import Derived.Test.YtgpcinihgofmfaaGreatDoorSt11
import Derived.Test.YtgpcinihgofmfaaGreatDoorSt10
namespace Go.Proofs.YtgpcinihgofmfaaGreatDoor
open Go.RowKit
set_option maxRecDepth 100000
set_option maxHeartbeats 8000000
theorem gI {w w':World} {base T size n m g c:Nat} {xs:List Value} (h:w.ownsRow base T size (sL g m c) n xs) (hb:Bl w w'):w'.ownsRow base T size (sL g m c) n xs:=h.kept (row:=none) ⟨hb.os,hb.tape,hb.output,hb.size,fun k hk _=>hb.block k hk⟩ (.inr (by simp [Value.ownBlock]))
theorem jO {w w':World} {base T size n m g c base' T' size' n' m' g' c':Nat} {xs xs':List Value} (h:w.ownsRow base T size (sL g m c) n xs) (h':w.ownsRow base' T' size' (sL g' m' c') n' xs') (hT:T≠T') (hg:w.grownBy w' (some g')):w'.ownsRow base T size (sL g m c) n xs:=by
 refine h.kept hg (.inr fun e=>?_);have e':g=g':=by simpa [Value.ownBlock] using e
 subst e';obtain ⟨_,k1⟩:=eS h;obtain ⟨_,k2⟩:=eS h';exact hT (k1.kind k2)
theorem jw {w w':World} {base n g c base' T' size' n' m' g' c':Nat} {L:List ae} {xs':List Value} (h:aT w base g n c L) (h':w.ownsRow base' T' size' (sL g' m' c') n' xs') (hT:123≠T') (hg:w.grownBy w' (some g')):aT w' base g n c L:=⟨jO h.owns h' hT hg,h.len,h.ents⟩
theorem io {w w':World} {base g n c base' T' size' n' m' g' c':Nat} {V:List (List aj)} {xs':List Value} (h:er base w g n c V) (h':w.ownsRow base' T' size' (sL g' m' c') n' xs') (t0:T'≠61) (t1:T'≠122) (t2:T'≠123) (hg:w.grownBy w' (some g')):er base w' g n c V:=by
 obtain ⟨_,k⟩:=eS h';exact h.grown k t0 t1 t2 hg
theorem jA {lo:Nat} {w:World} {b o n c:Nat} {S:List Int} (h:bC lo w (some ⟨b,o,none⟩) n c S):∀j u,(S.map iT)[j]?=some u→w.cell? ((⟨b,o,none⟩:Addr).add j)=some u:=by
 intro j u hj;rw [Go.WideShapes.add_plain];rw [List.getElem?_map] at hj;cases hx:S[j]? with
 | none=>rw [hx] at hj;cases hj
 | some z =>
  rw [hx] at hj;cases hj;have hjl:j<n:=by rw [← h.length];exact (List.getElem?_eq_some_iff.1 hx).1
  obtain ⟨z',hz',_,cz⟩:=h.num (Below.refl _ w) j hjl;rw [hx] at hz';cases hz';exact cz
structure eZ (base:Nat) (w:World) (g1 nm c1 G nv c g3 ns c3:Nat) (M:List ae) (V:List (List aj)) (S:List Int):Prop where
 mem:aT w base g1 nm c1 M
 levs:er base w G nv c V
 slen:S.length=ns
 swf:∀z ∈ S,(Lit.int .i64 z).wf=true
 sn:w.ownsRow base 3 1 (sL g3 ns c3) ns (S.map iT)
theorem eZ.below {base g1 nm c1 G nv c g3 ns c3:Nat} {w w':World} {M:List ae} {V:List (List aj)} {S:List Int} (h:eZ base w g1 nm c1 G nv c g3 ns c3 M V S) (hb:Bl w w'):eZ base w' g1 nm c1 G nv c g3 ns c3 M V S:=⟨h.mem.below hb,h.levs.below hb,h.slen,h.swf,gI h.sn hb⟩
theorem eZ.mono {base base' g1 nm c1 G nv c g3 ns c3:Nat} {w:World} {M:List ae} {V:List (List aj)} {S:List Int} (h:eZ base w g1 nm c1 G nv c g3 ns c3 M V S) (hb:base'≤base):eZ base' w g1 nm c1 G nv c g3 ns c3 M V S:=⟨h.mem.mono hb,h.levs.mono hb,h.slen,h.swf,ll h.sn hb⟩
theorem du.low {base g n c X:Nat} {w w':World} {B:List aj} (h:du base w g n c B) (hX:X<base) (hg:w.grownBy w' (some X)):du base w' g n c B:=by
 obtain ⟨h1,h2,xs,h3,h4⟩:=h;refine ⟨h1,h2,xs,h3.kept hg (.inr fun e=>?_),fun i p hp=>?_⟩
 · have e':g=X:=by simpa [Value.ownBlock] using e
   have:=(h3.lt g rfl).1;omega
 · obtain ⟨e,d,a1,a2,a3⟩:=h4 i p hp;exact ⟨e,d,a1,a2,a3.grown hg (fun e'=>by have h5:e=X:=Option.some.inj e';have:=a3.lt.1;omega)⟩
theorem eZ.low {base g1 nm c1 G nv c g3 ns c3 X:Nat} {w w':World} {M:List ae} {V:List (List aj)} {S:List Int} (h:eZ base w g1 nm c1 G nv c g3 ns c3 M V S) (hX:X<base) (hg:w.grownBy w' (some X)):eZ base w' g1 nm c1 G nv c g3 ns c3 M V S:=by
 have hk:∀{T size n m g c:Nat} {xs:List Value},w.ownsRow base T size (sL g m c) n xs→w'.ownsRow base T size (sL g m c) n xs:=fun {T size n m g c xs} h3=>h3.kept hg (.inr fun e=>by
  have e':g=X:=by simpa [Value.ownBlock] using e
  have:=(h3.lt g rfl).1;omega)
 obtain ⟨h1,xs,h3,h4,h5⟩:=h.levs;exact ⟨⟨hk h.mem.owns,h.mem.len,h.mem.ents⟩,⟨h1,xs,hk h3,(fun i p hp=>by obtain ⟨e,d,a1,a3⟩:=h4 i p hp;exact ⟨e,d,a1,a3.low hX hg⟩),h5⟩,h.slen,h.swf,hk h.sn⟩
theorem zW (w:World) (g o:Nat) (u:Value):w.grownBy (w.setCell ⟨g,o,none⟩ u) (some g):=⟨rfl,rfl,rfl,by simp [World.setCell],fun k _ hk=>Below.heap_setCell _ _ _ _ (fun e=>hk (by rw [e]))⟩
theorem eZ.four {base g1 nm c1 G nv c g3 ns c3 X:Nat} {w:World} {M:List ae} {V:List (List aj)} {S:List Int} (h:eZ base w g1 nm c1 G nv c g3 ns c3 M V S) (hX:X<base) (u0 u1 u2 u3:Value):eZ base ((((w.setCell ⟨X,0,none⟩ u0).setCell ⟨X,1,none⟩ u1).setCell ⟨X,2,none⟩ u2).setCell ⟨X,3,none⟩ u3) g1 nm c1 G nv c g3 ns c3 M V S :=
 (((h.low hX (zW _ _ _ _)).low hX (zW _ _ _ _)).low hX (zW _ _ _ _)).low hX (zW _ _ _ _)
theorem eZ.treeIn {base g1 nm c1 G nv c g3 ns c3:Nat} {w:World} {M:List ae} {V:List (List aj)} {S:List Int} (h:eZ base w g1 nm c1 G nv c g3 ns c3 M V S):aW base w (pT g1) nm c1 (pT G) nv c (pT g3) ns c3 M V S:=by
 have hrc:=dF h.sn;have hl:=h.slen;refine ⟨⟨h.mem.entsAt,fun x e _=>by cases e;exact h.mem.lt.1⟩,h.levs.levelsIn,⟨h.slen,hrc.1,hrc.2,h.swf,(fun e=>by cases e),?_,?_⟩⟩
 · rintro x e _;cases e;exact ⟨(h.sn.lt g3 rfl).2,rfl,(h.sn.lt g3 rfl).1⟩
 · rintro x e i hi;cases e;simp only [Nat.zero_add];have h1:=h.sn.cellAt i (by omega);rw [List.getElem?_map,List.getElem?_eq_getElem hi] at h1;exact h1
theorem xU (lo:Nat) (q:Int) (b1 nm cm:Nat) (av:Option Addr) (nv cv b3 ns cs:Nat) (M:List ae) (V:List (List aj)) (S:List Int) (w:World) (hT:aW lo w (pT b1) nm cm av nv cv (pT b3) ns cs M V S) (hnm:nm≤1048576) (hns:ns≤1048576) (hnv:nv≤100) (hS:∀B ∈ V,B.length≤100∧∀r ∈ B,1≤r.1.length∧r.1.length≤10000) :
 Calls Tryz.prog 44 #[.agg #[iT q,sL b1 nm cm,.slice av nv cv,sL b3 ns cs]] w fun e w'=>∃g1 c1 G c g3 c3,e=.returned (.agg #[iT q,sL g1 nm c1,sL G nv c,sL g3 ns c3])∧eZ w.heap.size w' g1 nm c1 G nv c g3 ns c3 M V S∧Bl w w':=by
 obtain ⟨i0,hi,hz0,hz1,hz2⟩:=info_parts Tryz.infoEnt;obtain ⟨j0,hj,hy0,hy1,hy2⟩:=info_parts Tryz.infoInt;obtain ⟨X,hX⟩:=aw w.heap.size;obtain ⟨W0,hW0⟩:=aw ((w.alloc (.cells #[iT q,sL b1 nm cm,.slice av nv cv,sL b3 ns cs] 35)).alloc (.cells #[iT 0,nZ,nZ,nZ] 35));have kW:Bl w W0:=by rw [hW0];exact bZ.alloc (by simp) _
 have bx:bi W0 X (iT q) (sL b1 nm cm) (.slice av nv cv) (sL b3 ns cs):=by rw [hW0,hX];exact (bi.new _ _ _ _ _ _).alloc _
 have br:bi W0 (X+1) (iT 0) nZ nZ nZ:=by
  have:=bi.new (w.alloc (.cells #[iT q,sL b1 nm cm,.slice av nv cv,sL b3 ns cs] 35)) 35 (iT 0) nZ nZ nZ;rw [World.size_alloc] at this;rw [hW0,hX];exact this
 have HSZ:Hid (W0.heap.size=X+1+1):=by rw [hW0,hX];simp [Hid]
 have HXW:Hid (X=w.heap.size):=hX;have KW:Hid (Bl w W0):=kW;have BX:Hid (bi W0 X (iT q) (sL b1 nm cm) (.slice av nv cv) (sL b3 ns cs)):=bx;have BR:Hid (bi W0 (X+1) (iT 0) nZ nZ nZ):=br;have HM:Hid (au W0 (pT b1) nm cm M):=hT.mem.1.keep kW;have HS:Hid (bC lo W0 (pT b3) ns cs S):=hT.snaps.keep kW;have HML:Hid (M.length=nm):=hT.mem.1.length;have HSL:Hid (S.length=ns):=hT.snaps.length;have HSW:Hid (∀z ∈ S,(Lit.int .i64 z).wf=true):=hT.snaps.wfs;have HV:Hid (ay lo W0 av nv cv V):=hT.levels.keep kW;have CL:Hid (∀w',Bl W0 w'→Calls Tryz.prog 45 #[.slice av nv cv] w' fun e w''=>∃G c,e=.returned (sL G nv c)∧er W0.heap.size w'' G nv c V∧Bl w' w''):=fun w' k=>(eP lo av nv cv V w' (HV.out.keep k) hnv hS).mono (fun e w'' h=>by obtain ⟨G,c,h1,h2,h3⟩:=h;exact ⟨G,c,h1,h2.mono k.size,h3⟩)
 have k0:Bl W0 W0.drew:=(Below.refl _ W0).drew;have HMK:Hid (∀w',Bl W0 w'→(fun w'=>w'.cell? ⟨X,0,none⟩=some (iT q)∧w'.cell? ⟨X,1,none⟩=some (sL b1 nm cm)∧w'.cell? ⟨X,2,none⟩=some (.slice av nv cv)∧w'.cell? ⟨X,3,none⟩=some (sL b3 ns cs)∧X<w'.heap.size) w'):=fun w' kk=>⟨cell_later kk BX.out.c0,cell_later kk BX.out.c1,cell_later kk BX.out.c2,cell_later kk BX.out.c3,Nat.lt_of_lt_of_le BX.out.lt kk.size⟩
 have HMS:Hid (∀(w':World) (u0 u1 u2 u3:Value),Bl W0 w'→(fun w'=>w'.cell? ⟨X,0,none⟩=some (iT q)∧w'.cell? ⟨X,1,none⟩=some (sL b1 nm cm)∧w'.cell? ⟨X,2,none⟩=some (.slice av nv cv)∧w'.cell? ⟨X,3,none⟩=some (sL b3 ns cs)∧X<w'.heap.size) ((((w'.setCell ⟨X+1,0,none⟩ u0).setCell ⟨X+1,1,none⟩ u1).setCell ⟨X+1,2,none⟩ u2).setCell ⟨X+1,3,none⟩ u3)):=fun w' u0 u1 u2 u3 kk=>by
  have b:=((((BX.out.keep kk).other (b':=X+1) (o:=0) (by omega) u0).other (b':=X+1) (o:=1) (by omega) u1).other (b':=X+1) (o:=2) (by omega) u2).other (b':=X+1) (o:=3) (by omega) u3;exact ⟨b.c0,b.c1,b.c2,b.c3,b.lt⟩
 clear hT kW bx br hS;go_enter Tryz.func44,Tryz.ntmps44
 go_upto_region 1 with fail
 rw [← hX,← hW0];clear hX hW0;refine dI HMK k0 fun aa=>?_
 generalize W0.drew=wd at k0 aa ⊢;refine aM 0 2 aa ?_;refine aM 3 2 aa ?_;refine aM 6 2 aa ?_;refine aM 10 2 aa ?_;refine ye 2 9 (fun K hK=>?_) fun K hK=>?_
 · go_simp;have kb:Bl wd (wd.alloc (.cells #[] 123)):=bZ;have oE:=fh wd W0.heap.size k0.size;have k0:=k0.trans (kb.mono k0.size);clear kb;generalize wd.heap.size=ga at oE ⊢;generalize wd.alloc (.cells #[] 123)=w1 at k0 oE ⊢;refine hK.out _ _ (HMK.out _ k0) fun aa=>?_
   (try go_frame);refine ye 5 9 (fun K hK=>?_) fun K hK=>?_
   · refine aH rfl (.tmp 5) (.tmp 7) 32 rfl W0.heap.size 123 i0 _ 5 56 Tryz.underlying32 hi hz0 hz1 hz2 rfl (Nat.succ_pos 4) _ _ _ rfl oE.owns ⟨b1,0,none⟩ nm cm (aQ M) rfl (by rw [bT,HML.out]) (dW (HM.out.keep k0)) (b9 _) ?_ ?_ ?_ ?_
     · unfold maxLen;omega
     · omega
     · exact k0.size
     intro v1 w2 ho1 hg1 hn1;obtain ⟨g1,c1,rfl⟩:=cl ho1 hn1;have hg1':w1.grownBy w2 (some ga):=hg1;have k0:Bl W0 w2:=k0.grown hg1' k0.size (fun k e=>by cases e;exact oE.lt.1);have oE:aT w2 W0.heap.size g1 nm c1 M:=⟨by have h1:=ho1;rw [Nat.zero_add] at h1;simpa [aQ] using h1,HML.out,HM.out.ents⟩;rw [Nat.zero_add];clear ho1 hg1 hn1 hg1';refine hK.out _ _ (HMK.out _ k0) fun aa=>?_
     (try go_frame);refine ye 8 9 (fun K hK=>?_) fun K hK=>?_
     · go_simp;refine (CL.out _ k0).mono ?_;rintro e w3 ⟨G,c,rfl,oL,kb⟩;have oE:=oE.below kb;have k0z:=k0.size;have k0:=k0.trans (kb.mono k0.size);clear kb;go_wp2_with fail
       refine hK.out _ _ (HMK.out _ k0) fun aa=>?_
       (try go_frame);refine aR 9 fun K hK=>?_
       go_simp;have kb:Bl w3 (w3.alloc (.cells #[] 3)):=bZ;have oE:=oE.below kb;have oL:=oL.below kb;have oI:(w3.alloc (.cells #[] 3)).ownsRow W0.heap.size 3 1 (sL (w3.heap.size) 0 0) 0 []:=World.ownsRow_lit (base:=W0.heap.size) (e:=3) (size:=1) w3 #[] 0 k0.size (by simp) (by simp);have k0:=k0.trans (kb.mono k0.size);clear kb;generalize w3.heap.size=gi at oI ⊢;generalize w3.alloc (.cells #[] 3)=w4 at k0 oE oL oI ⊢;refine hK.out _ _ (HMK.out _ k0) fun aa=>?_
       (try go_frame);refine aR 12 fun K hK=>?_
       refine aH rfl (.tmp 12) (.tmp 14) 24 rfl W0.heap.size 3 j0 _ 1 8 Tryz.underlying24 hj hy0 hy1 hy2 rfl (Nat.succ_pos 0) _ _ _ rfl oI ⟨b3,0,none⟩ ns cs (S.map iT) rfl (by rw [List.length_map,HSL.out,Nat.mul_one]) (jA (HS.out.keep k0)) (by intro u hu;obtain ⟨z,_,rfl⟩:=List.mem_map.1 hu;rfl) ?_ ?_ ?_ ?_
       · unfold maxLen;omega
       · omega
       · exact k0.size
       intro v2 w5 ho2 hg2 hn2;obtain ⟨g3,c3,rfl⟩:=cl ho2 hn2;have hg2':w4.grownBy w5 (some gi):=hg2;have oE:=jw oE oI (by decide) hg2';have oL:=io oL oI (by decide) (by decide) (by decide) hg2';have k0:Bl W0 w5:=k0.grown hg2' k0.size (fun k e=>by cases e;exact (oI.lt gi rfl).1);have oI:w5.ownsRow W0.heap.size 3 1 (sL g3 ns c3) ns (S.map iT):=by have h1:=ho2;rw [Nat.zero_add,List.nil_append] at h1;exact h1
       rw [Nat.zero_add];clear ho2 hg2 hn2 hg2';refine hK.out _ _ (HMK.out _ k0) fun aa=>?_
       (try go_frame);refine aM 13 1 aa ?_;refine aR 14 fun K hK=>?_
       have bq:=BR.out.keep k0;have d0:=bq.c0;have d1:=bq.c1;have d2:=bq.c2;have d3:=bq.c3;have df:=bq.fz;have dz:=bq.lt;go_simp;clear d0 d1 d2 d3 df dz;refine hK.out _ _ (HMS.out _ _ _ _ _ k0) fun aa=>?_
       (try go_frame);refine dN ?_;clear aa;have HC:Hid (eZ W0.heap.size w5 g1 nm c1 G nv c g3 ns c3 M V S):=⟨oE,oL.mono (Nat.le_refl _),HSL.out,HSW.out,oI⟩;have HK:Hid (Bl W0 w5):=k0;have HBQ:Hid (bi w5 (X+1) (iT 0) nZ nZ nZ):=bq;clear oE oL oI k0 bq;go_wp2;refine bodyPost_ret (v:=.agg #[iT q,sL g1 nm c1,sL G nv c,sL g3 ns c3]) ?_ rfl ⟨g1,c1,G,c,g3,c3,rfl,?_,?_⟩
       · have e:=(((HBQ.out.set0 (iT q)).set1 (sL g1 nm c1)).set2 (sL G nv c)).set3 (sL g3 ns c3);simp [results,Tryz.results44,go_sem,e.c0,e.c1,e.c2,e.c3]
       · exact (HC.out.four (by have:=HSZ.out;omega) _ _ _ _).mono KW.out.size
       · have hx:w.heap.size≤X+1:=by have:=HXW.out;omega
         exact ((((KW.out.trans (HK.out.mono KW.out.size)).setCell (p:=⟨X+1,0,none⟩) hx _).setCell (p:=⟨X+1,1,none⟩) hx _).setCell (p:=⟨X+1,2,none⟩) hx _).setCell (p:=⟨X+1,3,none⟩) hx _
     · go_simp;have kb:Bl w2 (w2.alloc (.cells #[] 3)):=bZ;have oE:=oE.below kb;have oI:(w2.alloc (.cells #[] 3)).ownsRow W0.heap.size 3 1 (sL (w2.heap.size) 0 0) 0 []:=World.ownsRow_lit (base:=W0.heap.size) (e:=3) (size:=1) w2 #[] 0 k0.size (by simp) (by simp);have k0:=k0.trans (kb.mono k0.size);clear kb;generalize w2.heap.size=gi at oI ⊢;generalize w2.alloc (.cells #[] 3)=w6 at k0 oE oI ⊢;refine hK.out _ _ (HMK.out _ k0) fun aa=>?_
       (try go_frame);refine aR 8 fun K hK=>?_
       go_simp;refine (CL.out _ k0).mono ?_;rintro e w7 ⟨G,c,rfl,oL,kb⟩;have oE:=oE.below kb;have oI:=gI oI kb;have k0z:=k0.size;have k0:=k0.trans (kb.mono k0.size);clear kb;go_wp2_with fail
       refine hK.out _ _ (HMK.out _ k0) fun aa=>?_
       (try go_frame);refine aR 12 fun K hK=>?_
       refine aH rfl (.tmp 12) (.tmp 14) 24 rfl W0.heap.size 3 j0 _ 1 8 Tryz.underlying24 hj hy0 hy1 hy2 rfl (Nat.succ_pos 0) _ _ _ rfl oI ⟨b3,0,none⟩ ns cs (S.map iT) rfl (by rw [List.length_map,HSL.out,Nat.mul_one]) (jA (HS.out.keep k0)) (by intro u hu;obtain ⟨z,_,rfl⟩:=List.mem_map.1 hu;rfl) ?_ ?_ ?_ ?_
       · unfold maxLen;omega
       · omega
       · exact k0.size
       intro v2 w8 ho2 hg2 hn2;obtain ⟨g3,c3,rfl⟩:=cl ho2 hn2;have hg2':w7.grownBy w8 (some gi):=hg2;have oE:=jw oE oI (by decide) hg2';have oL:=io oL oI (by decide) (by decide) (by decide) hg2';have k0:Bl W0 w8:=k0.grown hg2' k0.size (fun k e=>by cases e;exact (oI.lt gi rfl).1);have oI:w8.ownsRow W0.heap.size 3 1 (sL g3 ns c3) ns (S.map iT):=by have h1:=ho2;rw [Nat.zero_add,List.nil_append] at h1;exact h1
       rw [Nat.zero_add];clear ho2 hg2 hn2 hg2';refine hK.out _ _ (HMK.out _ k0) fun aa=>?_
       (try go_frame);refine aM 13 1 aa ?_;refine aR 14 fun K hK=>?_
       have bq:=BR.out.keep k0;have d0:=bq.c0;have d1:=bq.c1;have d2:=bq.c2;have d3:=bq.c3;have df:=bq.fz;have dz:=bq.lt;go_simp;clear d0 d1 d2 d3 df dz;refine hK.out _ _ (HMS.out _ _ _ _ _ k0) fun aa=>?_
       (try go_frame);refine dN ?_;clear aa;have HC:Hid (eZ W0.heap.size w8 g1 nm c1 G nv c g3 ns c3 M V S):=⟨oE,oL.mono (Nat.le_refl _),HSL.out,HSW.out,oI⟩;have HK:Hid (Bl W0 w8):=k0;have HBQ:Hid (bi w8 (X+1) (iT 0) nZ nZ nZ):=bq;clear oE oL oI k0 bq;go_wp2;refine bodyPost_ret (v:=.agg #[iT q,sL g1 nm c1,sL G nv c,sL g3 ns c3]) ?_ rfl ⟨g1,c1,G,c,g3,c3,rfl,?_,?_⟩
       · have e:=(((HBQ.out.set0 (iT q)).set1 (sL g1 nm c1)).set2 (sL G nv c)).set3 (sL g3 ns c3);simp [results,Tryz.results44,go_sem,e.c0,e.c1,e.c2,e.c3]
       · exact (HC.out.four (by have:=HSZ.out;omega) _ _ _ _).mono KW.out.size
       · have hx:w.heap.size≤X+1:=by have:=HXW.out;omega
         exact ((((KW.out.trans (HK.out.mono KW.out.size)).setCell (p:=⟨X+1,0,none⟩) hx _).setCell (p:=⟨X+1,1,none⟩) hx _).setCell (p:=⟨X+1,2,none⟩) hx _).setCell (p:=⟨X+1,3,none⟩) hx _
   · go_simp;have kb:Bl w1 (w1.alloc (.cells #[] 3)):=bZ;have oE:=oE.below kb;have oI:(w1.alloc (.cells #[] 3)).ownsRow W0.heap.size 3 1 (sL (w1.heap.size) 0 0) 0 []:=World.ownsRow_lit (base:=W0.heap.size) (e:=3) (size:=1) w1 #[] 0 k0.size (by simp) (by simp);have k0:=k0.trans (kb.mono k0.size);clear kb;generalize w1.heap.size=gi at oI ⊢;generalize w1.alloc (.cells #[] 3)=w9 at k0 oE oI ⊢;refine hK.out _ _ (HMK.out _ k0) fun aa=>?_
     (try go_frame);refine aR 5 fun K hK=>?_
     refine aH rfl (.tmp 5) (.tmp 7) 32 rfl W0.heap.size 123 i0 _ 5 56 Tryz.underlying32 hi hz0 hz1 hz2 rfl (Nat.succ_pos 4) _ _ _ rfl oE.owns ⟨b1,0,none⟩ nm cm (aQ M) rfl (by rw [bT,HML.out]) (dW (HM.out.keep k0)) (b9 _) ?_ ?_ ?_ ?_
     · unfold maxLen;omega
     · omega
     · exact k0.size
     intro v1 w10 ho1 hg1 hn1;obtain ⟨g1,c1,rfl⟩:=cl ho1 hn1;have hg1':w9.grownBy w10 (some ga):=hg1;have oI:=jO oI oE.owns (by decide) hg1';have k0:Bl W0 w10:=k0.grown hg1' k0.size (fun k e=>by cases e;exact oE.lt.1);have oE:aT w10 W0.heap.size g1 nm c1 M:=⟨by have h1:=ho1;rw [Nat.zero_add] at h1;simpa [aQ] using h1,HML.out,HM.out.ents⟩;rw [Nat.zero_add];clear ho1 hg1 hn1 hg1';refine hK.out _ _ (HMK.out _ k0) fun aa=>?_
     (try go_frame);refine aR 8 fun K hK=>?_
     go_simp;refine (CL.out _ k0).mono ?_;rintro e w11 ⟨G,c,rfl,oL,kb⟩;have oE:=oE.below kb;have oI:=gI oI kb;have k0z:=k0.size;have k0:=k0.trans (kb.mono k0.size);clear kb;go_wp2_with fail
     refine hK.out _ _ (HMK.out _ k0) fun aa=>?_
     (try go_frame);refine aR 12 fun K hK=>?_
     refine aH rfl (.tmp 12) (.tmp 14) 24 rfl W0.heap.size 3 j0 _ 1 8 Tryz.underlying24 hj hy0 hy1 hy2 rfl (Nat.succ_pos 0) _ _ _ rfl oI ⟨b3,0,none⟩ ns cs (S.map iT) rfl (by rw [List.length_map,HSL.out,Nat.mul_one]) (jA (HS.out.keep k0)) (by intro u hu;obtain ⟨z,_,rfl⟩:=List.mem_map.1 hu;rfl) ?_ ?_ ?_ ?_
     · unfold maxLen;omega
     · omega
     · exact k0.size
     intro v2 w12 ho2 hg2 hn2;obtain ⟨g3,c3,rfl⟩:=cl ho2 hn2;have hg2':w11.grownBy w12 (some gi):=hg2;have oE:=jw oE oI (by decide) hg2';have oL:=io oL oI (by decide) (by decide) (by decide) hg2';have k0:Bl W0 w12:=k0.grown hg2' k0.size (fun k e=>by cases e;exact (oI.lt gi rfl).1);have oI:w12.ownsRow W0.heap.size 3 1 (sL g3 ns c3) ns (S.map iT):=by have h1:=ho2;rw [Nat.zero_add,List.nil_append] at h1;exact h1
     rw [Nat.zero_add];clear ho2 hg2 hn2 hg2';refine hK.out _ _ (HMK.out _ k0) fun aa=>?_
     (try go_frame);refine aM 13 1 aa ?_;refine aR 14 fun K hK=>?_
     have bq:=BR.out.keep k0;have d0:=bq.c0;have d1:=bq.c1;have d2:=bq.c2;have d3:=bq.c3;have df:=bq.fz;have dz:=bq.lt;go_simp;clear d0 d1 d2 d3 df dz;refine hK.out _ _ (HMS.out _ _ _ _ _ k0) fun aa=>?_
     (try go_frame);refine dN ?_;clear aa;have HC:Hid (eZ W0.heap.size w12 g1 nm c1 G nv c g3 ns c3 M V S):=⟨oE,oL.mono (Nat.le_refl _),HSL.out,HSW.out,oI⟩;have HK:Hid (Bl W0 w12):=k0;have HBQ:Hid (bi w12 (X+1) (iT 0) nZ nZ nZ):=bq;clear oE oL oI k0 bq;go_wp2;refine bodyPost_ret (v:=.agg #[iT q,sL g1 nm c1,sL G nv c,sL g3 ns c3]) ?_ rfl ⟨g1,c1,G,c,g3,c3,rfl,?_,?_⟩
     · have e:=(((HBQ.out.set0 (iT q)).set1 (sL g1 nm c1)).set2 (sL G nv c)).set3 (sL g3 ns c3);simp [results,Tryz.results44,go_sem,e.c0,e.c1,e.c2,e.c3]
     · exact (HC.out.four (by have:=HSZ.out;omega) _ _ _ _).mono KW.out.size
     · have hx:w.heap.size≤X+1:=by have:=HXW.out;omega
       exact ((((KW.out.trans (HK.out.mono KW.out.size)).setCell (p:=⟨X+1,0,none⟩) hx _).setCell (p:=⟨X+1,1,none⟩) hx _).setCell (p:=⟨X+1,2,none⟩) hx _).setCell (p:=⟨X+1,3,none⟩) hx _
 · go_simp;have kb:Bl wd (wd.alloc (.cells #[] 3)):=bZ;have oI:(wd.alloc (.cells #[] 3)).ownsRow W0.heap.size 3 1 (sL (wd.heap.size) 0 0) 0 []:=World.ownsRow_lit (base:=W0.heap.size) (e:=3) (size:=1) wd #[] 0 k0.size (by simp) (by simp);have k0:=k0.trans (kb.mono k0.size);clear kb;generalize wd.heap.size=gi at oI ⊢;generalize wd.alloc (.cells #[] 3)=w13 at k0 oI ⊢;refine hK.out _ _ (HMK.out _ k0) fun aa=>?_
   (try go_frame);refine aR 2 fun K hK=>?_
   go_simp;have kb:Bl w13 (w13.alloc (.cells #[] 123)):=bZ;have oI:=gI oI kb;have oE:=fh w13 W0.heap.size k0.size;have k0:=k0.trans (kb.mono k0.size);clear kb;generalize w13.heap.size=ga at oE ⊢;generalize w13.alloc (.cells #[] 123)=w14 at k0 oE oI ⊢;refine hK.out _ _ (HMK.out _ k0) fun aa=>?_
   (try go_frame);refine aR 5 fun K hK=>?_
   refine aH rfl (.tmp 5) (.tmp 7) 32 rfl W0.heap.size 123 i0 _ 5 56 Tryz.underlying32 hi hz0 hz1 hz2 rfl (Nat.succ_pos 4) _ _ _ rfl oE.owns ⟨b1,0,none⟩ nm cm (aQ M) rfl (by rw [bT,HML.out]) (dW (HM.out.keep k0)) (b9 _) ?_ ?_ ?_ ?_
   · unfold maxLen;omega
   · omega
   · exact k0.size
   intro v1 w15 ho1 hg1 hn1;obtain ⟨g1,c1,rfl⟩:=cl ho1 hn1;have hg1':w14.grownBy w15 (some ga):=hg1;have oI:=jO oI oE.owns (by decide) hg1';have k0:Bl W0 w15:=k0.grown hg1' k0.size (fun k e=>by cases e;exact oE.lt.1);have oE:aT w15 W0.heap.size g1 nm c1 M:=⟨by have h1:=ho1;rw [Nat.zero_add] at h1;simpa [aQ] using h1,HML.out,HM.out.ents⟩;rw [Nat.zero_add];clear ho1 hg1 hn1 hg1';refine hK.out _ _ (HMK.out _ k0) fun aa=>?_
   (try go_frame);refine aR 8 fun K hK=>?_
   go_simp;refine (CL.out _ k0).mono ?_;rintro e w16 ⟨G,c,rfl,oL,kb⟩;have oE:=oE.below kb;have oI:=gI oI kb;have k0z:=k0.size;have k0:=k0.trans (kb.mono k0.size);clear kb;go_wp2_with fail
   refine hK.out _ _ (HMK.out _ k0) fun aa=>?_
   (try go_frame);refine aR 12 fun K hK=>?_
   refine aH rfl (.tmp 12) (.tmp 14) 24 rfl W0.heap.size 3 j0 _ 1 8 Tryz.underlying24 hj hy0 hy1 hy2 rfl (Nat.succ_pos 0) _ _ _ rfl oI ⟨b3,0,none⟩ ns cs (S.map iT) rfl (by rw [List.length_map,HSL.out,Nat.mul_one]) (jA (HS.out.keep k0)) (by intro u hu;obtain ⟨z,_,rfl⟩:=List.mem_map.1 hu;rfl) ?_ ?_ ?_ ?_
   · unfold maxLen;omega
   · omega
   · exact k0.size
   intro v2 w17 ho2 hg2 hn2;obtain ⟨g3,c3,rfl⟩:=cl ho2 hn2;have hg2':w16.grownBy w17 (some gi):=hg2;have oE:=jw oE oI (by decide) hg2';have oL:=io oL oI (by decide) (by decide) (by decide) hg2';have k0:Bl W0 w17:=k0.grown hg2' k0.size (fun k e=>by cases e;exact (oI.lt gi rfl).1);have oI:w17.ownsRow W0.heap.size 3 1 (sL g3 ns c3) ns (S.map iT):=by have h1:=ho2;rw [Nat.zero_add,List.nil_append] at h1;exact h1
   rw [Nat.zero_add];clear ho2 hg2 hn2 hg2';refine hK.out _ _ (HMK.out _ k0) fun aa=>?_
   (try go_frame);refine aM 13 1 aa ?_;refine aR 14 fun K hK=>?_
   have bq:=BR.out.keep k0;have d0:=bq.c0;have d1:=bq.c1;have d2:=bq.c2;have d3:=bq.c3;have df:=bq.fz;have dz:=bq.lt;go_simp;clear d0 d1 d2 d3 df dz;refine hK.out _ _ (HMS.out _ _ _ _ _ k0) fun aa=>?_
   (try go_frame);refine dN ?_;clear aa;have HC:Hid (eZ W0.heap.size w17 g1 nm c1 G nv c g3 ns c3 M V S):=⟨oE,oL.mono (Nat.le_refl _),HSL.out,HSW.out,oI⟩;have HK:Hid (Bl W0 w17):=k0;have HBQ:Hid (bi w17 (X+1) (iT 0) nZ nZ nZ):=bq;clear oE oL oI k0 bq;go_wp2;refine bodyPost_ret (v:=.agg #[iT q,sL g1 nm c1,sL G nv c,sL g3 ns c3]) ?_ rfl ⟨g1,c1,G,c,g3,c3,rfl,?_,?_⟩
   · have e:=(((HBQ.out.set0 (iT q)).set1 (sL g1 nm c1)).set2 (sL G nv c)).set3 (sL g3 ns c3);simp [results,Tryz.results44,go_sem,e.c0,e.c1,e.c2,e.c3]
   · exact (HC.out.four (by have:=HSZ.out;omega) _ _ _ _).mono KW.out.size
   · have hx:w.heap.size≤X+1:=by have:=HXW.out;omega
     exact ((((KW.out.trans (HK.out.mono KW.out.size)).setCell (p:=⟨X+1,0,none⟩) hx _).setCell (p:=⟨X+1,1,none⟩) hx _).setCell (p:=⟨X+1,2,none⟩) hx _).setCell (p:=⟨X+1,3,none⟩) hx _
end Go.Proofs.YtgpcinihgofmfaaGreatDoor

namespace Go.Proofs.YtgpcinihgofmfaaGreatDoor
open Go.RowKit
set_option maxRecDepth 100000
set_option maxHeartbeats 8000000
def Bt (q:Int) (nm nv ns:Nat) (M:List ae) (V:List (List aj)) (S:List Int) (lg:ByteArray) (sf sd:Int) (nd:Nat) (U:List (List aj)) (w:World) (e:Ending) (w':World):Prop :=
 ∃g1 c1 G c g3 c3 H cH,e=.returned (.agg #[.bool true,iT q,sL g1 nm c1,sL G nv c,sL g3 ns c3,.string lg,iT sf,sL H nd cH,iT sd])∧aW w.heap.size w' (pT g1) nm c1 (pT G) nv c (pT g3) ns c3 M V S∧ay w.heap.size w' (pT H) nd cH U∧Bl w w'
def Bu (lg:ByteArray) (sf sd:Int) (nd:Nat) (U:List (List aj)) (w:World) (e:Ending) (w':World):Prop :=
 ∃H cH,e=.returned (.agg #[.bool false,iT 0,nZ,nZ,nZ,.string lg,iT sf,sL H nd cH,iT sd])∧ay w.heap.size w' (pT H) nd cH U∧Bl w w'
def SCp (up:Bool) (q:Int) (nm nv ns:Nat) (M:List ae) (V:List (List aj)) (S:List Int) (lg:ByteArray) (sf sd:Int) (nd:Nat) (U:List (List aj)) (w:World) (e:Ending) (w':World):Prop :=
 (up=true→Bt q nm nv ns M V S lg sf sd nd U w e w')∧(up=false→Bu lg sf sd nd U w e w')
theorem fK (lo:Nat) (up:Bool) (q:Int) (b1 b3:Nat) (av dv:Option Addr) (nm cm nv cv ns cs nd cd:Nat) (M:List ae) (V:List (List aj)) (S:List Int) (lg:ByteArray) (sf sd:Int) (U:List (List aj)) (w:World) (hT:aW lo w (pT b1) nm cm av nv cv (pT b3) ns cs M V S) (hU:ay lo w dv nd cd U) (hnm:nm≤1048576) (hns:ns≤1048576) (hnv:nv≤100) (hV:∀B ∈ V,B.length≤100∧∀r ∈ B,1≤r.1.length∧r.1.length≤10000) (hnd:nd≤100) (hS:∀B ∈ U,B.length≤100∧∀r ∈ B,1≤r.1.length∧r.1.length≤10000) :
 Calls Tryz.prog 20 #[.agg #[.bool up,iT q,sL b1 nm cm,.slice av nv cv,sL b3 ns cs,.string lg,iT sf,.slice dv nd cd,iT sd]] w (SCp up q nm nv ns M V S lg sf sd nd U w):=by
 obtain ⟨X,hX⟩:=aw w.heap.size;obtain ⟨W,hW⟩:=aw (((w.alloc (.cells #[.bool up,iT q,sL b1 nm cm,.slice av nv cv,sL b3 ns cs,.string lg,iT sf,.slice dv nd cd,iT sd] 39)).alloc (.cells #[.bool false,iT 0,nZ,nZ,nZ,.string ⟨#[]⟩,iT 0,nZ,iT 0] 39)).alloc (.cells #[.bool up,iT q,sL b1 nm cm,.slice av nv cv,sL b3 ns cs,.string lg,iT sf,.slice dv nd cd,iT sd] 39));have kW:Bl w W:=by rw [hW];exact (bZ.alloc (by simp) _).alloc (by simp;omega) _
 have bx:aA W X (.bool up) (iT q) (sL b1 nm cm) (.slice av nv cv) (sL b3 ns cs) (.string lg) (iT sf) (.slice dv nd cd) (iT sd):=by rw [hW,hX];exact ((aA.new _ _ _ _ _ _ _ _ _ _ _).alloc _).alloc _
 have br:aA W (X+1) (.bool false) (iT 0) nZ nZ nZ (.string ⟨#[]⟩) (iT 0) nZ (iT 0):=by
  have:=(aA.new (w.alloc (.cells #[.bool up,iT q,sL b1 nm cm,.slice av nv cv,sL b3 ns cs,.string lg,iT sf,.slice dv nd cd,iT sd] 39)) 39 (.bool false) (iT 0) nZ nZ nZ (.string ⟨#[]⟩) (iT 0) nZ (iT 0)).alloc (.cells #[.bool up,iT q,sL b1 nm cm,.slice av nv cv,sL b3 ns cs,.string lg,iT sf,.slice dv nd cd,iT sd] 39);rw [World.size_alloc] at this;rw [hW,hX];exact this
 have bo:aA W (X+1+1) (.bool up) (iT q) (sL b1 nm cm) (.slice av nv cv) (sL b3 ns cs) (.string lg) (iT sf) (.slice dv nd cd) (iT sd):=by
  have:=aA.new ((w.alloc (.cells #[.bool up,iT q,sL b1 nm cm,.slice av nv cv,sL b3 ns cs,.string lg,iT sf,.slice dv nd cd,iT sd] 39)).alloc (.cells #[.bool false,iT 0,nZ,nZ,nZ,.string ⟨#[]⟩,iT 0,nZ,iT 0] 39)) 39 (.bool up) (iT q) (sL b1 nm cm) (.slice av nv cv) (sL b3 ns cs) (.string lg) (iT sf) (.slice dv nd cd) (iT sd);rw [World.size_alloc,World.size_alloc] at this;rw [hW,hX];exact this
 have hsz:W.heap.size=X+1+1+1:=by rw [hW,hX];simp
 have HXW:=ar hX;have HSZ:=ar hsz;have HKW:=ar kW;have HBX:=ar bx;have HBR:=ar br;have HBO:=ar bo;have HU:=ar hU;have CC:=xU lo q b1 nm cm av nv cv b3 ns cs M V S W (hT.keep kW) hnm hns hnv hV;have x0:=bx.c0;have x1:=bx.c1;have x2:=bx.c2;have x3:=bx.c3;have x4:=bx.c4;have x5:=bx.c5;have x6:=bx.c6;have x7:=bx.c7;have x8:=bx.c8;have xz:=bx.lt;clear kW bx br bo hsz hT hU;go_enter Tryz.func20,Tryz.ntmps20
 go_upto_region 2 with fail
 rw [← hX,← hW];clear hX hW;go_wp2_with fail
 refine CC.mono ?_;rintro e w1 ⟨g1,c1,G,c,g3,c3,rfl,hC,hb1⟩;have HT1:=ar hC.treeIn;have HB1:=ar hb1;have K1:Hid (Bl w w1):=HKW.out.trans (hb1.mono HKW.out.size);have o1:=HBO.out.keep hb1;clear hC hb1 CC x0 x1 x2 x3 x4 x5 x6 x7 x8 xz;have hne1:X+1+1≠X:=by omega
 have hne2:X+1+1≠X+1:=by omega
 have HN:=ar (And.intro hne1 hne2);have xx:=HBX.out.keep HB1.out;have xr:=HBR.out.keep HB1.out;have o1':=o1.c1;have o2:=o1.c2;have o3:=o1.c3;have o4:=o1.c4;have of':=o1.fz;have oz:=o1.lt;have xz:=xx.lt;go_upto_region 3 with fail
 obtain ⟨w2,hw2⟩:=aw ((((w1.setCell ⟨X+1+1,1,none⟩ (iT q)).setCell ⟨X+1+1,2,none⟩ (sL g1 nm c1)).setCell ⟨X+1+1,3,none⟩ (sL G nv c)).setCell ⟨X+1+1,4,none⟩ (sL g3 ns c3));have hPW:X+1+1<W.heap.size:=by have:=HSZ.out;omega
 have hwP:w.heap.size≤X+1+1:=by have:=HXW.out;omega
 have HPW:=ar hPW;have HWP:=ar hwP;have HT2:Hid (aW W.heap.size w2 (pT g1) nm c1 (pT G) nv c (pT g3) ns c3 M V S):=by rw [hw2];exact HT1.out.same ((((aN.of_set _ _ hPW).trans (aN.of_set _ _ hPW)).trans (aN.of_set _ _ hPW)).trans (aN.of_set _ _ hPW))
 have HO2:Hid (aA w2 (X+1+1) (.bool up) (iT q) (sL g1 nm c1) (sL G nv c) (sL g3 ns c3) (.string lg) (iT sf) (.slice dv nd cd) (iT sd)):=by rw [hw2];exact (((o1.set1 _).set2 _).set3 _).set4 _
 have HX2:Hid (aA w2 X (.bool up) (iT q) (sL b1 nm cm) (.slice av nv cv) (sL b3 ns cs) (.string lg) (iT sf) (.slice dv nd cd) (iT sd)):=by rw [hw2];exact (((xx.other HN.out.1 _).other HN.out.1 _).other HN.out.1 _).other HN.out.1 _
 have HR2:Hid (aA w2 (X+1) (.bool false) (iT 0) nZ nZ nZ (.string ⟨#[]⟩) (iT 0) nZ (iT 0)):=by rw [hw2];exact (((xr.other HN.out.2 _).other HN.out.2 _).other HN.out.2 _).other HN.out.2 _
 have K2:Hid (Bl w w2):=by rw [hw2];exact (((K1.out.setCell (p:=⟨X+1+1,1,none⟩) hwP _).setCell (p:=⟨X+1+1,2,none⟩) hwP _).setCell (p:=⟨X+1+1,3,none⟩) hwP _).setCell (p:=⟨X+1+1,4,none⟩) hwP _
 have kw2:W.heap.size≤w2.heap.size:=by rw [hw2];simpa [World.setCell] using HB1.out.size
 have KW2:=ar kw2;clear kw2;rw [← hw2];clear hw2 o1 xx xr hne1 hne2 hPW hwP o1' o2 o3 o4 of' oz xz HT1 HB1 K1 HBX HBR HBO;cases up with
 | true =>
  have CL:=eP lo dv nd cd U w2 (HU.out.keep K2.out) hnd hS;have xx:=HX2.out;have xo:=HO2.out;have y7:=xx.c7;have y0:=xx.c0;have yz:=xx.lt;have oz:=xo.lt;clear xx xo;go_wp2_with fail
  refine CL.mono ?_;rintro e w4 ⟨H,cH,rfl,hL,hb4⟩;have HL4:=ar hL.levelsIn;have o4:=HO2.out.keep hb4;have r4:=HR2.out.keep hb4;have K4:Hid (Bl w w4):=K2.out.trans (hb4.mono K2.out.size);have HT4:=ar (HT2.out.keep hb4);have o7:=o4.c7;have of':=o4.fz;have oz:=o4.lt;have HZ4:Hid (X+1+1<w2.heap.size):=HO2.out.lt;have HWq:Hid (W.heap.size≤w2.heap.size):=KW2.out;clear hb4 hL CL y7 y0 yz;go_upto_region 6 with fail
  obtain ⟨w5,hw5⟩:=aw (w4.setCell ⟨X+1+1,7,none⟩ (sL H nd cH));have HO5:Hid (aA w5 (X+1+1) (.bool true) (iT q) (sL g1 nm c1) (sL G nv c) (sL g3 ns c3) (.string lg) (iT sf) (sL H nd cH) (iT sd)):=by rw [hw5];exact o4.set7 _
  have HR5:Hid (aA w5 (X+1) (.bool false) (iT 0) nZ nZ nZ (.string ⟨#[]⟩) (iT 0) nZ (iT 0)):=by rw [hw5];exact r4.other HN.out.2 _
  have K5:Hid (Bl w w5):=by rw [hw5];exact K4.out.setCell (p:=⟨X+1+1,7,none⟩) HWP.out _
  have HL5:Hid (ay w2.heap.size w5 (pT H) nd cH U):=by rw [hw5];exact HL4.out.same (aN.of_set _ _ HZ4.out)
  have HT5:Hid (aW W.heap.size w5 (pT g1) nm c1 (pT G) nv c (pT g3) ns c3 M V S):=by rw [hw5];exact HT4.out.same (aN.of_set _ _ HPW.out)
  rw [← hw5];clear hw5 o4 r4 o7 of' oz K4 HL4;have o5:=HO5.out;have r5:=HR5.out;have p0:=o5.c0;have p1:=o5.c1;have p2:=o5.c2;have p3:=o5.c3;have p4:=o5.c4;have p5:=o5.c5;have p6:=o5.c6;have p7:=o5.c7;have p8:=o5.c8;have pz:=o5.lt;have u0:=r5.c0;have u1:=r5.c1;have u2:=r5.c2;have u3:=r5.c3;have u4:=r5.c4;have u5:=r5.c5;have u6:=r5.c6;have u7:=r5.c7;have u8:=r5.c8;have uf:=r5.fz;have uz:=r5.lt;have hlt:X+1<w2.heap.size:=by have:=HZ4.out;omega
  have HLT:=ar hlt;obtain ⟨w6,hw6⟩:=aw (((((((((w5.setCell ⟨X+1,0,none⟩ (.bool true)).setCell ⟨X+1,1,none⟩ (iT q)).setCell ⟨X+1,2,none⟩ (sL g1 nm c1)).setCell ⟨X+1,3,none⟩ (sL G nv c)).setCell ⟨X+1,4,none⟩ (sL g3 ns c3)).setCell ⟨X+1,5,none⟩ (.string lg)).setCell ⟨X+1,6,none⟩ (iT sf)).setCell ⟨X+1,7,none⟩ (sL H nd cH)).setCell ⟨X+1,8,none⟩ (iT sd));have HR6:Hid (aA w6 (X+1) (.bool true) (iT q) (sL g1 nm c1) (sL G nv c) (sL g3 ns c3) (.string lg) (iT sf) (sL H nd cH) (iT sd)):=by rw [hw6];exact r5.sets (.bool true) (iT q) (sL g1 nm c1) (sL G nv c) (sL g3 ns c3) (.string lg) (iT sf) (sL H nd cH) (iT sd)
  have K6:Hid (Bl w w6):=by rw [hw6];exact bh K5.out (by have:=HXW.out;omega) (.bool true) (iT q) (sL g1 nm c1) (sL G nv c) (sL g3 ns c3) (.string lg) (iT sf) (sL H nd cH) (iT sd)
  have HL6:Hid (ay w2.heap.size w6 (pT H) nd cH U):=by rw [hw6];exact HL5.out.same (dU w5 (X+1) (.bool true) (iT q) (sL g1 nm c1) (sL G nv c) (sL g3 ns c3) (.string lg) (iT sf) (sL H nd cH) (iT sd) HLT.out)
  have HT6:Hid (aW W.heap.size w6 (pT g1) nm c1 (pT G) nv c (pT g3) ns c3 M V S):=by rw [hw6];exact HT5.out.same (dU w5 (X+1) (.bool true) (iT q) (sL g1 nm c1) (sL G nv c) (sL g3 ns c3) (.string lg) (iT sf) (sL H nd cH) (iT sd) (by have:=HPW.out;omega))
  have HW6:=ar hw6;clear hw6 o5 r5 hlt;go_wp2;rw [← HW6.out];refine bodyPost_ret (v:=.agg #[.bool true,iT q,sL g1 nm c1,sL G nv c,sL g3 ns c3,.string lg,iT sf,sL H nd cH,iT sd]) ?_ rfl ?_
  · have e:=HR6.out;simp [results,Tryz.results20,go_sem,e.c0,e.c1,e.c2,e.c3,e.c4,e.c5,e.c6,e.c7,e.c8]
  · have t:=HT6.out;exact ⟨fun _=>⟨g1,c1,G,c,g3,c3,H,cH,rfl,⟨t.mem.mono HKW.out.size,t.levels.mono HKW.out.size,t.snaps.lower HKW.out.size⟩,HL6.out.mono (by have h1:=HKW.out.size;have h2:=HWq.out;omega),K6.out⟩,fun h=>by cases h⟩
 | false =>
  have xx:=HX2.out;have xo:=HO2.out;have y0:=xx.c0;have yz:=xx.lt;have o1:=xo.c1;have o2:=xo.c2;have o3:=xo.c3;have o4:=xo.c4;have of':=xo.fz;have oz:=xo.lt;go_upto_region 5 with fail
  obtain ⟨w3,hw3⟩:=aw ((((w2.setCell ⟨X+1+1,1,none⟩ (iT 0)).setCell ⟨X+1+1,2,none⟩ nZ).setCell ⟨X+1+1,3,none⟩ nZ).setCell ⟨X+1+1,4,none⟩ nZ);have HO3:Hid (aA w3 (X+1+1) (.bool false) (iT 0) nZ nZ nZ (.string lg) (iT sf) (.slice dv nd cd) (iT sd)):=by rw [hw3];exact (((xo.set1 _).set2 _).set3 _).set4 _
  have HX3:Hid (aA w3 X (.bool false) (iT q) (sL b1 nm cm) (.slice av nv cv) (sL b3 ns cs) (.string lg) (iT sf) (.slice dv nd cd) (iT sd)):=by rw [hw3];exact (((xx.other HN.out.1 _).other HN.out.1 _).other HN.out.1 _).other HN.out.1 _
  have HR3:Hid (aA w3 (X+1) (.bool false) (iT 0) nZ nZ nZ (.string ⟨#[]⟩) (iT 0) nZ (iT 0)):=by rw [hw3];exact (((HR2.out.other HN.out.2 _).other HN.out.2 _).other HN.out.2 _).other HN.out.2 _
  have K3:Hid (Bl w w3):=by rw [hw3];exact (((K2.out.setCell (p:=⟨X+1+1,1,none⟩) HWP.out _).setCell (p:=⟨X+1+1,2,none⟩) HWP.out _).setCell (p:=⟨X+1+1,3,none⟩) HWP.out _).setCell (p:=⟨X+1+1,4,none⟩) HWP.out _
  have kw3:W.heap.size≤w3.heap.size:=by rw [hw3];simpa [World.setCell] using KW2.out
  have KW3:=ar kw3;clear kw3;rw [← hw3];clear hw3 xx xo y0 yz o1 o2 o3 o4 of' oz;have CL:=eP lo dv nd cd U w3 (HU.out.keep K3.out) hnd hS;have xx:=HX3.out;have xo:=HO3.out;have y7:=xx.c7;have y0:=xx.c0;have yz:=xx.lt;have oz:=xo.lt;clear xx xo;go_wp2_with fail
  refine CL.mono ?_;rintro e w4 ⟨H,cH,rfl,hL,hb4⟩;have HL4:=ar hL.levelsIn;have o4:=HO3.out.keep hb4;have r4:=HR3.out.keep hb4;have K4:Hid (Bl w w4):=K3.out.trans (hb4.mono K3.out.size);have o7:=o4.c7;have of':=o4.fz;have oz:=o4.lt;have HZ4:Hid (X+1+1<w3.heap.size):=HO3.out.lt;have HWq:Hid (W.heap.size≤w3.heap.size):=KW3.out;clear hb4 hL CL y7 y0 yz;go_upto_region 6 with fail
  obtain ⟨w5,hw5⟩:=aw (w4.setCell ⟨X+1+1,7,none⟩ (sL H nd cH));have HO5:Hid (aA w5 (X+1+1) (.bool false) (iT 0) nZ nZ nZ (.string lg) (iT sf) (sL H nd cH) (iT sd)):=by rw [hw5];exact o4.set7 _
  have HR5:Hid (aA w5 (X+1) (.bool false) (iT 0) nZ nZ nZ (.string ⟨#[]⟩) (iT 0) nZ (iT 0)):=by rw [hw5];exact r4.other HN.out.2 _
  have K5:Hid (Bl w w5):=by rw [hw5];exact K4.out.setCell (p:=⟨X+1+1,7,none⟩) HWP.out _
  have HL5:Hid (ay w3.heap.size w5 (pT H) nd cH U):=by rw [hw5];exact HL4.out.same (aN.of_set _ _ HZ4.out)
  rw [← hw5];clear hw5 o4 r4 o7 of' oz K4 HL4;have o5:=HO5.out;have r5:=HR5.out;have p0:=o5.c0;have p1:=o5.c1;have p2:=o5.c2;have p3:=o5.c3;have p4:=o5.c4;have p5:=o5.c5;have p6:=o5.c6;have p7:=o5.c7;have p8:=o5.c8;have pz:=o5.lt;have u0:=r5.c0;have u1:=r5.c1;have u2:=r5.c2;have u3:=r5.c3;have u4:=r5.c4;have u5:=r5.c5;have u6:=r5.c6;have u7:=r5.c7;have u8:=r5.c8;have uf:=r5.fz;have uz:=r5.lt;have hlt:X+1<w3.heap.size:=by have:=HZ4.out;omega
  have HLT:=ar hlt;obtain ⟨w6,hw6⟩:=aw (((((((((w5.setCell ⟨X+1,0,none⟩ (.bool false)).setCell ⟨X+1,1,none⟩ (iT 0)).setCell ⟨X+1,2,none⟩ nZ).setCell ⟨X+1,3,none⟩ nZ).setCell ⟨X+1,4,none⟩ nZ).setCell ⟨X+1,5,none⟩ (.string lg)).setCell ⟨X+1,6,none⟩ (iT sf)).setCell ⟨X+1,7,none⟩ (sL H nd cH)).setCell ⟨X+1,8,none⟩ (iT sd));have HR6:Hid (aA w6 (X+1) (.bool false) (iT 0) nZ nZ nZ (.string lg) (iT sf) (sL H nd cH) (iT sd)):=by rw [hw6];exact r5.sets (.bool false) (iT 0) nZ nZ nZ (.string lg) (iT sf) (sL H nd cH) (iT sd)
  have K6:Hid (Bl w w6):=by rw [hw6];exact bh K5.out (by have:=HXW.out;omega) (.bool false) (iT 0) nZ nZ nZ (.string lg) (iT sf) (sL H nd cH) (iT sd)
  have HL6:Hid (ay w3.heap.size w6 (pT H) nd cH U):=by rw [hw6];exact HL5.out.same (dU w5 (X+1) (.bool false) (iT 0) nZ nZ nZ (.string lg) (iT sf) (sL H nd cH) (iT sd) HLT.out)
  have HW6:=ar hw6;clear hw6 o5 r5 hlt;go_wp2;rw [← HW6.out];refine bodyPost_ret (v:=.agg #[.bool false,iT 0,nZ,nZ,nZ,.string lg,iT sf,sL H nd cH,iT sd]) ?_ rfl ?_
  · have e:=HR6.out;simp [results,Tryz.results20,go_sem,e.c0,e.c1,e.c2,e.c3,e.c4,e.c5,e.c6,e.c7,e.c8]
  · exact ⟨(fun h=>by cases h),fun _=>⟨H,cH,rfl,HL6.out.mono (by have h1:=HKW.out.size;have h2:=HWq.out;omega),K6.out⟩⟩
end Go.Proofs.YtgpcinihgofmfaaGreatDoor
