/- Walks. -/
import Derived.Test.YtehiefdphnljaaaGreatDoorSw10
namespace Go.Proofs.YtehiefdphnljaaaGreatDoor
set_option maxRecDepth 100000
set_option maxHeartbeats 40000000
open Go.RowKit
variable {P:Nat} {W w w':World} {op ov:Option Nat}
structure iC (W w:World) (ov op:Option Nat):Prop where
 low:Bl W w
 v:∀b,ov=some b→∃xs,w.ownsRow W.heap.size 83 1 (sL b 3 3) 3 xs
 p:∀b,op=some b→W.heap.size≤b∧aV w b 38 4∧bf w b (.string ⟨#[]⟩) (iT 0) nZ (iT 0)
theorem iC.keep (h:iC W w ov op) (hb:Bl w w'):iC W w' ov op :=
 ⟨h.low.trans (hb.mono h.low.size),fun b e=>by obtain ⟨xs,hx⟩:=h.v b e;exact ⟨xs,dD hx hb⟩,fun b e=>⟨(h.p b e).1,(h.p b e).2.1.below hb,(h.p b e).2.2.keep hb⟩⟩
theorem iC.addV {b:Nat} {xs:List Value} (h:iC W w ov op) (hE:w'.ownsRow W.heap.size 83 1 (sL b 3 3) 3 xs) (hb:w.grownBy w' none):iC W w' (some b) op:=by
 have k:=h.keep ((Below.refl _ _).grown hb (Nat.le_refl _) (by simp));exact ⟨k.low,fun c e=>by cases e;exact ⟨_,hE⟩,k.p⟩
theorem iC.addP (h:iC W w ov op):iC W (w.alloc (.cells #[.string ⟨#[]⟩,iT 0,nZ,iT 0] 38)) ov (some w.heap.size):=by
 have k:=h.keep ((Below.refl _ _).alloc (Nat.le_refl _) (.cells #[.string ⟨#[]⟩,iT 0,nZ,iT 0] 38));exact ⟨k.low,k.v,fun c e=>by cases e;exact ⟨h.low.size,⟨#[.string ⟨#[]⟩,iT 0,nZ,iT 0],by unfold World.alloc;exact Array.getElem?_push_size,rfl⟩,bf.new _ _ _ _ _ _⟩⟩
theorem iC.fin {vb:Nat} (h:iC W w (some vb) (some P)) (lg:ByteArray) (sf sd:Int):∃(xs:List Value),bf ((((w.setCell ⟨P,0,none⟩ (.string lg)).setCell ⟨P,1,none⟩ (iT sf)).setCell ⟨P,2,none⟩ (sL vb 3 3)).setCell ⟨P,3,none⟩ (iT sd)) P (.string lg) (iT sf) (sL vb 3 3) (iT sd)∧((((w.setCell ⟨P,0,none⟩ (.string lg)).setCell ⟨P,1,none⟩ (iT sf)).setCell ⟨P,2,none⟩ (sL vb 3 3)).setCell ⟨P,3,none⟩ (iT sd)).ownsRow W.heap.size 83 1 (sL vb 3 3) 3 xs∧vb≠P∧W.heap.size≤P∧Bl W ((((w.setCell ⟨P,0,none⟩ (.string lg)).setCell ⟨P,1,none⟩ (iT sf)).setCell ⟨P,2,none⟩ (sL vb 3 3)).setCell ⟨P,3,none⟩ (iT sd)):=by
 obtain ⟨hP,kP,bP⟩:=h.p P rfl;obtain ⟨xs,hv⟩:=h.v vb rfl;have kv:=bK hv;have n1:vb≠P:=fun e=>by subst e;exact absurd (kv.kind kP) (by decide)
 exact ⟨xs,(((bP.set0 _).set1 _).set2 _).set3 _,bj (bj (bj (bj hv n1 0 _) n1 1 _) n1 2 _) n1 3 _,n1,hP,mf h.low hP _ _ _ _⟩
def AV (lg:ByteArray) (sf sd:Int) (V:List (List aq)) (w:World) (e:Ending) (w':World):Prop :=
 ∃(vb:Nat) (gs bs:Nat→Nat) (es:Nat→Nat→Nat),e=.returned (.agg #[.string lg,iT sf,sL vb 3 3,iT sd])∧bQ w.heap.size w'.heap.size w' vb 3 V gs bs es∧Bl w w'
theorem Ad (lo:Nat) (lg:ByteArray) (sf sd:Int) (a0 a1 a2:Option Addr) (n0 c0 n1 c1 n2 c2:Nat) (A B C:List aq) (w:World) (h0:aF lo w a0 n0 c0 A) (h1:aF lo w a1 n1 c1 B) (h2:aF lo w a2 n2 c2 C)
 (bl:lg.size≤281474976710656) (b0:eF A) (b1:eF B) (b2:eF C) (e0:er A) (e1:er B) (e2:er C) :
 Calls Tryz.prog 88 #[.agg #[.string lg,iT sf,.slice a0 n0 c0,.slice a1 n1 c1,.slice a2 n2 c2,iT sd]] w (AV lg sf sd [A,B,C] w):=by
 obtain ⟨X,hX⟩:=aw w.heap.size;obtain ⟨W0,hW0⟩:=aw ((w.alloc (.cells #[.string lg,iT sf,.slice a0 n0 c0,.slice a1 n1 c1,.slice a2 n2 c2,iT sd] 88)).alloc (.cells #[.string ⟨#[]⟩,iT 0,nZ,iT 0] 38));have kW:Bl w W0:=by rw [hW0];exact bZ.alloc (by simp) _
 have x0:W0.cell? ⟨X,0,none⟩=some (.string lg):=by rw [hW0,hX];simp
 have x1:W0.cell? ⟨X,1,none⟩=some (iT sf):=by rw [hW0,hX];simp
 have x2:W0.cell? ⟨X,2,none⟩=some (.slice a0 n0 c0):=by rw [hW0,hX];simp
 have x3:W0.cell? ⟨X,3,none⟩=some (.slice a1 n1 c1):=by rw [hW0,hX];simp
 have x4:W0.cell? ⟨X,4,none⟩=some (.slice a2 n2 c2):=by rw [hW0,hX];simp
 have x5:W0.cell? ⟨X,5,none⟩=some (iT sd):=by rw [hW0,hX];simp
 have br:bf W0 (X+1) (.string ⟨#[]⟩) (iT 0) nZ (iT 0):=by
  have:=bf.new (w.alloc (.cells #[.string lg,iT sf,.slice a0 n0 c0,.slice a1 n1 c1,.slice a2 n2 c2,iT sd] 88)) 38 (.string ⟨#[]⟩) (iT 0) nZ (iT 0);rw [World.size_alloc] at this;rw [hW0,hX];exact this
 have hsz:W0.heap.size=X+1+1:=by rw [hW0,hX];simp
 have BR:=ar br;have HXW:=ar hX;have HSZ:=ar hsz;have KW:=ar kW;have CE:Hid (∀w',Calls Tryz.prog 124 #[.string lg] w' fun e w''=>e=.returned (.string lg)∧Bl w' w''):=fun w'=>mG lg w' bl
 have CR0:Hid (∀w',Bl W0 w'→Calls Tryz.prog 125 #[.slice a0 n0 c0] w' fun e w''=>∃b:Nat,e=.returned (sL b n0 n0)∧(∃e1,ch w'.heap.size w''.heap.size w'' b n0 A e1)∧Bl w' w''):=fun w' k=>(gF lo a0 n0 c0 A w' ((h0.keep kW).keep k) b0 e0).mono (fun e w'' h=>⟨_,h.1,h.2.1,h.2.2.2⟩)
 have CR1:Hid (∀w',Bl W0 w'→Calls Tryz.prog 125 #[.slice a1 n1 c1] w' fun e w''=>∃b:Nat,e=.returned (sL b n1 n1)∧(∃e1,ch w'.heap.size w''.heap.size w'' b n1 B e1)∧Bl w' w''):=fun w' k=>(gF lo a1 n1 c1 B w' ((h1.keep kW).keep k) b1 e1).mono (fun e w'' h=>⟨_,h.1,h.2.1,h.2.2.2⟩)
 have CR2:Hid (∀w',Bl W0 w'→Calls Tryz.prog 125 #[.slice a2 n2 c2] w' fun e w''=>∃b:Nat,e=.returned (sL b n2 n2)∧(∃e1,ch w'.heap.size w''.heap.size w'' b n2 C e1)∧Bl w' w''):=fun w' k=>(gF lo a2 n2 c2 C w' ((h2.keep kW).keep k) b2 e2).mono (fun e w'' h=>⟨_,h.1,h.2.1,h.2.2.2⟩)
 have k0:Bl W0 W0.drew:=(Below.refl _ W0).drew;have HMK:Hid (∀w',Bl W0 w'→(w'.cell? ⟨X,0,none⟩=some (.string lg)∧w'.cell? ⟨X,1,none⟩=some (iT sf)∧w'.cell? ⟨X,5,none⟩=some (iT sd)∧X<w'.heap.size)):=fun w' kk=>⟨cell_later kk x0,cell_later kk x1,cell_later kk x5,World.block_lt_of_cell? _ _ (cell_later kk x0)⟩
 clear br kW h0 h1 h2 b0 b1 b2 e0 e1 e2 bl hsz;go_enter Tryz.func88,Tryz.ntmps88
 go_upto_region 1 with fail
 rw [← hX,← hW0];clear hX hW0;go_cut [3] (fun s3 wx=>∃(P vb:Nat) (xs:List Value),s3=.pointer (pT P)∧bf wx P (.string lg) (iT sf) (sL vb 3 3) (iT sd)∧wx.ownsRow W0.heap.size 83 1 (sL vb 3 3) 3 xs∧vb≠P∧W0.heap.size≤P∧Bl W0 wx)
 case first =>
  refine dC HMK k0 fun aa=>?_
  have st:iC W0 W0.drew none none:=⟨k0,(fun _ e=>by cases e),(fun _ e=>by cases e)⟩;generalize W0.drew=wc at k0 st aa ⊢;refine aK 0 2 aa ?_;refine aK 3 2 aa ?_;refine aK 6 2 aa ?_;refine rd3 2 5 9 (fun K hK=>?_) (fun K hK=>?_) (fun K hK=>?_)
  · go_simp;refine (CE.out _).mono ?_;rintro e wc ⟨rfl,be⟩;have st:=st.keep be;clear be;go_wp2_with fail;refine hK.out _ _ (HMK.out _ st.low) (fun aa=>?_);clear hK K;(try go_frame);refine uv 5 9 (fun K hK=>?_) (fun K hK=>?_)
    · refine f7 rfl rfl st.low.size fun wc _ hov hgv=>?_;have st:=st.addV hov hgv;clear hov hgv;refine hK.out _ _ (HMK.out _ st.low) (fun aa=>?_);clear hK K;(try go_frame)
      refine aK 8 1 aa ?_;refine aP 9 (fun K hK=>?_);go_simp;have st:=st.addP;refine hK.out _ _ (HMK.out _ st.low) (fun aa=>?_);clear hK K;generalize wc.alloc (.cells #[.string ⟨#[]⟩,iT 0,nZ,iT 0] 38)=wc at st aa ⊢;(try go_frame);refine aP 10 fun K hK=>?_
      obtain ⟨xs,hF⟩:=st.fin lg sf sd;obtain ⟨hPw,_,hp⟩:=st.p _ rfl;have c0:=hp.all;go_simp;refine hK.out _ _ (HMK.out _ hF.2.2.2.2) (fun aa=>?_);clear hK K;(try go_frame);refine dN ?_;go_wp2;go_meet;exact ⟨_,_,xs,rfl,hF⟩
    · go_simp;have st:=st.addP;refine hK.out _ _ (HMK.out _ st.low) (fun aa=>?_);clear hK K;generalize wc.alloc (.cells #[.string ⟨#[]⟩,iT 0,nZ,iT 0] 38)=wc at st aa ⊢;(try go_frame);refine aP 5 (fun K hK=>?_);refine f7 rfl rfl st.low.size fun wc _ hov hgv=>?_;have st:=st.addV hov hgv;clear hov hgv;refine hK.out _ _ (HMK.out _ st.low) (fun aa=>?_);clear hK K;(try go_frame)
      refine aK 8 1 aa ?_;refine aP 10 fun K hK=>?_
      obtain ⟨xs,hF⟩:=st.fin lg sf sd;obtain ⟨hPw,_,hp⟩:=st.p _ rfl;have c0:=hp.all;go_simp;refine hK.out _ _ (HMK.out _ hF.2.2.2.2) (fun aa=>?_);clear hK K;(try go_frame);refine dN ?_;go_wp2;go_meet;exact ⟨_,_,xs,rfl,hF⟩
  · refine f7 rfl rfl st.low.size fun wc _ hov hgv=>?_;have st:=st.addV hov hgv;clear hov hgv;refine hK.out _ _ (HMK.out _ st.low) (fun aa=>?_);clear hK K;(try go_frame)
    refine uv 2 9 (fun K hK=>?_) (fun K hK=>?_)
    · go_simp;refine (CE.out _).mono ?_;rintro e wc ⟨rfl,be⟩;have st:=st.keep be;clear be;go_wp2_with fail;refine hK.out _ _ (HMK.out _ st.low) (fun aa=>?_);clear hK K;(try go_frame);refine aK 8 1 aa ?_;refine aP 9 (fun K hK=>?_);go_simp;have st:=st.addP;refine hK.out _ _ (HMK.out _ st.low) (fun aa=>?_);clear hK K;generalize wc.alloc (.cells #[.string ⟨#[]⟩,iT 0,nZ,iT 0] 38)=wc at st aa ⊢;(try go_frame);refine aP 10 fun K hK=>?_
      obtain ⟨xs,hF⟩:=st.fin lg sf sd;obtain ⟨hPw,_,hp⟩:=st.p _ rfl;have c0:=hp.all;go_simp;refine hK.out _ _ (HMK.out _ hF.2.2.2.2) (fun aa=>?_);clear hK K;(try go_frame);refine dN ?_;go_wp2;go_meet;exact ⟨_,_,xs,rfl,hF⟩
    · go_simp;have st:=st.addP;refine hK.out _ _ (HMK.out _ st.low) (fun aa=>?_);clear hK K;generalize wc.alloc (.cells #[.string ⟨#[]⟩,iT 0,nZ,iT 0] 38)=wc at st aa ⊢;(try go_frame);refine aP 2 (fun K hK=>?_);go_simp;refine (CE.out _).mono ?_;rintro e wc ⟨rfl,be⟩;have st:=st.keep be;clear be;go_wp2_with fail;refine hK.out _ _ (HMK.out _ st.low) (fun aa=>?_);clear hK K;(try go_frame);refine aK 8 1 aa ?_;refine aP 10 fun K hK=>?_
      obtain ⟨xs,hF⟩:=st.fin lg sf sd;obtain ⟨hPw,_,hp⟩:=st.p _ rfl;have c0:=hp.all;go_simp;refine hK.out _ _ (HMK.out _ hF.2.2.2.2) (fun aa=>?_);clear hK K;(try go_frame);refine dN ?_;go_wp2;go_meet;exact ⟨_,_,xs,rfl,hF⟩
  · go_simp;have st:=st.addP;refine hK.out _ _ (HMK.out _ st.low) (fun aa=>?_);clear hK K;generalize wc.alloc (.cells #[.string ⟨#[]⟩,iT 0,nZ,iT 0] 38)=wc at st aa ⊢;(try go_frame);refine uv 2 5 (fun K hK=>?_) (fun K hK=>?_)
    · go_simp;refine (CE.out _).mono ?_;rintro e wc ⟨rfl,be⟩;have st:=st.keep be;clear be;go_wp2_with fail;refine hK.out _ _ (HMK.out _ st.low) (fun aa=>?_);clear hK K;(try go_frame);refine aP 5 (fun K hK=>?_);refine f7 rfl rfl st.low.size fun wc _ hov hgv=>?_;have st:=st.addV hov hgv;clear hov hgv;refine hK.out _ _ (HMK.out _ st.low) (fun aa=>?_);clear hK K;(try go_frame)
      refine aK 8 1 aa ?_;refine aP 10 fun K hK=>?_
      obtain ⟨xs,hF⟩:=st.fin lg sf sd;obtain ⟨hPw,_,hp⟩:=st.p _ rfl;have c0:=hp.all;go_simp;refine hK.out _ _ (HMK.out _ hF.2.2.2.2) (fun aa=>?_);clear hK K;(try go_frame);refine dN ?_;go_wp2;go_meet;exact ⟨_,_,xs,rfl,hF⟩
    · refine f7 rfl rfl st.low.size fun wc _ hov hgv=>?_;have st:=st.addV hov hgv;clear hov hgv;refine hK.out _ _ (HMK.out _ st.low) (fun aa=>?_);clear hK K;(try go_frame)
      refine aP 2 (fun K hK=>?_);go_simp;refine (CE.out _).mono ?_;rintro e wc ⟨rfl,be⟩;have st:=st.keep be;clear be;go_wp2_with fail;refine hK.out _ _ (HMK.out _ st.low) (fun aa=>?_);clear hK K;(try go_frame);refine aK 8 1 aa ?_;refine aP 10 fun K hK=>?_
      obtain ⟨xs,hF⟩:=st.fin lg sf sd;obtain ⟨hPw,_,hp⟩:=st.p _ rfl;have c0:=hp.c0;have c1:=hp.c1;have c2:=hp.c2;have c3:=hp.c3;have fz:=hp.fz;have zp:=hp.lt;go_simp;refine hK.out _ _ (HMK.out _ hF.2.2.2.2) (fun aa=>?_);clear hK K;(try go_frame);refine dN ?_;go_wp2;go_meet;exact ⟨_,_,xs,rfl,hF⟩
 case rest =>
  obtain ⟨P,vb,xs,rfl,hbox,hrow,hne,hPw,hbw⟩:=hcut;have HNE:=ar hne;have hvw:W0.heap.size≤vb:=(hrow.lt vb rfl).1;have a2':=cell_later hbw x2;have a3':=cell_later hbw x3;have a4':=cell_later hbw x4;have za:=World.block_lt_of_cell? _ _ a2';simp only at za;obtain ⟨Z,hZ⟩:=aw wc.heap.size;have hvZ:vb<Z:=by rw [hZ];exact (hrow.lt vb rfl).2
  have hWZ:W0.heap.size≤Z:=by rw [hZ];exact hbw.size
  have hZ0:Z≤wc.heap.size:=by omega
  have HB0:Hid (bf wc P (.string lg) (iT sf) (sL vb 3 3) (iT sd)∧wc.ownsRow W0.heap.size 83 1 (sL vb 3 3) 3 xs∧Bl W0 wc∧Z≤wc.heap.size):=⟨hbox,hrow,hbw,hZ0⟩;clear k0 HMK CE hbox hrow hbw hne hZ hZ0;go_wp2;go_loopw [17] (fun iv wr=>∃(k:Nat) (xs:List Value) (gs bs:Nat→Nat) (es:Nat→Nat→Nat),k≤3∧iv=iT k∧bf wr P (.string lg) (iT sf) (sL vb 3 3) (iT sd)∧wr.ownsRow W0.heap.size 83 1 (sL vb 3 3) 3 xs∧Bl W0 wr∧mr Z wr xs [A,B,C] k gs bs es∧Z≤wr.heap.size) (fun iv _=>3 - (intOf iv).toNat)
  case atStart=>exact ⟨0,xs,fun _=>0,fun _=>Z,fun _ _=>0,by omega,rfl,HB0.out.1,HB0.out.2.1,HB0.out.2.2.1,⟨rfl,HB0.out.2.2.2,fun _ _ _ _=>Nat.le_refl _,fun j hj=>absurd hj (Nat.not_lt_zero _)⟩,HB0.out.2.2.2⟩
  case round =>
   obtain ⟨k,xs,gs,bs,es,hk,rfl,hbox,hrow,hbw,hhas,hZ1⟩:=hrel;have hne:=HNE.out;have HAS:=ar hhas;have HBW:=ar hbw;have HZ:=ar hZ1;clear hhas a2' a3' a4' za hZ1;have k0:Bl wr wr.drew:=(Below.refl _ wr).drew;have HM5:Hid (∀w',Bl wr w'→(w'.cell? ⟨P,2,none⟩=some (sL vb 3 3)∧P<w'.heap.size∧vb<w'.heap.size)):=fun w' kk=>⟨cell_later kk hbox.c2,Nat.lt_of_lt_of_le hbox.lt kk.size,Nat.lt_of_lt_of_le (hrow.lt vb rfl).2 kk.size⟩
   have HS5:Hid (∀w' o u,Bl wr w'→((w'.setCell ⟨vb,o,none⟩ u).cell? ⟨P,2,none⟩=some (sL vb 3 3)∧P<(w'.setCell ⟨vb,o,none⟩ u).heap.size∧vb<(w'.setCell ⟨vb,o,none⟩ u).heap.size)):=fun w' o u kk=>⟨(ac u (fun e=>hne e.1.symm)).trans (cell_later kk hbox.c2),by simpa [World.setCell] using Nat.lt_of_lt_of_le hbox.lt kk.size,by simpa [World.setCell] using Nat.lt_of_lt_of_le (hrow.lt vb rfl).2 kk.size⟩
   have hcase:k=0∨k=1∨k=2∨k=3:=by omega
   rcases hcase with rfl | rfl | rfl | rfl
   · have hix:=fun w=>zz w a0 a1 a2 n0 c0 n1 c1 n2 c2
     go_wp2_with fail
     refine dC HM5 k0 fun aa=>?_
     refine aK 0 4 aa ?_;refine aP 4 fun K hK=>?_
     go_simp;refine (CR0.out _ (HBW.out.trans (k0.mono HBW.out.size))).mono ?_;rintro e w1 ⟨rb,rfl,⟨e1,hrb⟩,br⟩;have k1:Bl wr w1:=k0.trans (br.mono k0.size);have HRB:=ar hrb;have hdz:wr.heap.size≤wr.drew.heap.size:=k0.size;clear br hrb;go_wp2_with fail
     refine hK.out _ _ (HM5.out _ k1) fun aa=>?_
     (try go_frame);refine aK 5 1 aa ?_;refine aP 6 fun K hK=>?_
     have hr1:=dD hrow k1;have c0:∃v,w1.cell? ⟨vb,0,none⟩=some v:=⟨_,(hr1.cellAt 0 (by omega)).trans (List.getElem?_eq_getElem (by rw [hr1.1];omega))⟩;obtain ⟨v0,c0⟩:=c0;have f0:=hr1.frozenAt 0;go_simp;refine hK.out _ _ (HS5.out _ _ _ k1) fun aa=>?_
     (try go_frame);refine dN ?_;have t0:=(hr1.stored 0 (sL rb n0 n0)).1;have hx3:=hr1.1;have bq:=(hbox.keep k1).other (b':=vb) (o:=0) hne (sL rb n0 n0);have kq:Bl W0 (w1.setCell ⟨vb,0,none⟩ (sL rb n0 n0)):=(HBW.out.trans (k1.mono HBW.out.size)).setCell (p:=⟨vb,0,none⟩) hvw _;have hz1:Z≤(w1.setCell ⟨vb,0,none⟩ (sL rb n0 n0)).heap.size:=by simpa [World.setCell] using Nat.le_trans HZ.out k1.size
     have hh1:=fJ (x:=rb) (n:=n0) (B:=A) HAS.out hx3 k1 rfl rfl hvZ HRB.out hdz rfl;have HT:Hid (_∧_∧_∧_∧_):=⟨bq,t0,kq,hh1,hz1⟩;clear aa k0 k1 HM5 HS5 c0 f0 hr1 t0 bq kq hh1 hz1 hbox hrow HRB;go_wp2;go_roundw
     case rel =>
      obtain ⟨g',b',e',hh⟩:=HT.out.2.2.2.1;exact ⟨0+1,_,g',b',e',by omega,by go_num,HT.out.1,HT.out.2.1,HT.out.2.2.1,hh,HT.out.2.2.2.2⟩
     case measure=>simp [intOf]
   · have hix:=fun w=>zw w a0 a1 a2 n0 c0 n1 c1 n2 c2
     go_wp2_with fail
     refine dC HM5 k0 fun aa=>?_
     refine aK 0 4 aa ?_;refine aP 4 fun K hK=>?_
     go_simp;refine (CR1.out _ (HBW.out.trans (k0.mono HBW.out.size))).mono ?_;rintro e w1 ⟨rb,rfl,⟨e1,hrb⟩,br⟩;have k1:Bl wr w1:=k0.trans (br.mono k0.size);have HRB:=ar hrb;have hdz:wr.heap.size≤wr.drew.heap.size:=k0.size;clear br hrb;go_wp2_with fail
     refine hK.out _ _ (HM5.out _ k1) fun aa=>?_
     (try go_frame);refine aK 5 1 aa ?_;refine aP 6 fun K hK=>?_
     have hr1:=dD hrow k1;have c0:∃v,w1.cell? ⟨vb,1,none⟩=some v:=⟨_,(hr1.cellAt 1 (by omega)).trans (List.getElem?_eq_getElem (by rw [hr1.1];omega))⟩;obtain ⟨v0,c0⟩:=c0;have f0:=hr1.frozenAt 1;go_simp;refine hK.out _ _ (HS5.out _ _ _ k1) fun aa=>?_
     (try go_frame);refine dN ?_;have t0:=(hr1.stored 1 (sL rb n1 n1)).1;have hx3:=hr1.1;have bq:=(hbox.keep k1).other (b':=vb) (o:=1) hne (sL rb n1 n1);have kq:Bl W0 (w1.setCell ⟨vb,1,none⟩ (sL rb n1 n1)):=(HBW.out.trans (k1.mono HBW.out.size)).setCell (p:=⟨vb,1,none⟩) hvw _;have hz1:Z≤(w1.setCell ⟨vb,1,none⟩ (sL rb n1 n1)).heap.size:=by simpa [World.setCell] using Nat.le_trans HZ.out k1.size
     have hh1:=fJ (x:=rb) (n:=n1) (B:=B) HAS.out hx3 k1 rfl rfl hvZ HRB.out hdz rfl;have HT:Hid (_∧_∧_∧_∧_):=⟨bq,t0,kq,hh1,hz1⟩;clear aa k0 k1 HM5 HS5 c0 f0 hr1 t0 bq kq hh1 hz1 hbox hrow HRB;go_wp2;go_roundw
     case rel =>
      obtain ⟨g',b',e',hh⟩:=HT.out.2.2.2.1;exact ⟨1+1,_,g',b',e',by omega,by go_num,HT.out.1,HT.out.2.1,HT.out.2.2.1,hh,HT.out.2.2.2.2⟩
     case measure=>simp [intOf]
   · have hix:=fun w=>zu w a0 a1 a2 n0 c0 n1 c1 n2 c2
     go_wp2_with fail
     refine dC HM5 k0 fun aa=>?_
     refine aK 0 4 aa ?_;refine aP 4 fun K hK=>?_
     go_simp;refine (CR2.out _ (HBW.out.trans (k0.mono HBW.out.size))).mono ?_;rintro e w1 ⟨rb,rfl,⟨e1,hrb⟩,br⟩;have k1:Bl wr w1:=k0.trans (br.mono k0.size);have HRB:=ar hrb;have hdz:wr.heap.size≤wr.drew.heap.size:=k0.size;clear br hrb;go_wp2_with fail
     refine hK.out _ _ (HM5.out _ k1) fun aa=>?_
     (try go_frame);refine aK 5 1 aa ?_;refine aP 6 fun K hK=>?_
     have hr1:=dD hrow k1;have c0:∃v,w1.cell? ⟨vb,2,none⟩=some v:=⟨_,(hr1.cellAt 2 (by omega)).trans (List.getElem?_eq_getElem (by rw [hr1.1];omega))⟩;obtain ⟨v0,c0⟩:=c0;have f0:=hr1.frozenAt 2;go_simp;refine hK.out _ _ (HS5.out _ _ _ k1) fun aa=>?_
     (try go_frame);refine dN ?_;have t0:=(hr1.stored 2 (sL rb n2 n2)).1;have hx3:=hr1.1;have bq:=(hbox.keep k1).other (b':=vb) (o:=2) hne (sL rb n2 n2);have kq:Bl W0 (w1.setCell ⟨vb,2,none⟩ (sL rb n2 n2)):=(HBW.out.trans (k1.mono HBW.out.size)).setCell (p:=⟨vb,2,none⟩) hvw _;have hz1:Z≤(w1.setCell ⟨vb,2,none⟩ (sL rb n2 n2)).heap.size:=by simpa [World.setCell] using Nat.le_trans HZ.out k1.size
     have hh1:=fJ (x:=rb) (n:=n2) (B:=C) HAS.out hx3 k1 rfl rfl hvZ HRB.out hdz rfl;have HT:Hid (_∧_∧_∧_∧_):=⟨bq,t0,kq,hh1,hz1⟩;clear aa k0 k1 HM5 HS5 c0 f0 hr1 t0 bq kq hh1 hz1 hbox hrow HRB;go_wp2;go_roundw
     case rel =>
      obtain ⟨g',b',e',hh⟩:=HT.out.2.2.2.1;exact ⟨2+1,_,g',b',e',by omega,by go_num,HT.out.1,HT.out.2.1,HT.out.2.2.1,hh,HT.out.2.2.2.2⟩
     case measure=>simp [intOf]
   · have c0':=hbox.all;have bq:=BR.out.keep hbw;have d0:=bq.all;have HROW:=ar hrow;have HBQ:=ar bq;clear hrow hbox bq HM5 HS5 k0 hbw;go_wp2;refine bodyPost_ret (v:=.agg #[.string lg,iT sf,sL vb 3 3,iT sd]) ?_ rfl ⟨vb,gs,bs,es,rfl,?_,?_⟩
     · have e:=(((HBQ.out.set0 (.string lg)).set1 (iT sf)).set2 (sL vb 3 3)).set3 (iT sd);simp [results,Tryz.results88,go_sem,e.all]
     · have hsz:=HSZ.out;have hxw:=HXW.out;have hvX:vb≠X+1:=by omega
       have r4:=bj (bj (bj (bj HROW.out hvX 0 (.string lg)) hvX 1 (iT sf)) hvX 2 (sL vb 3 3)) hvX 3 (iT sd);have hset:∀(w':World) (o:Nat) (u:Value),aI (X+1) (X+1+1) w' (w'.setCell ⟨X+1,o,none⟩ u):=fun w' o u=>⟨rfl,rfl,rfl,by simp [World.setCell],fun q _ hq=>Below.heap_setCell _ _ _ _ (fun e=>by have e':q=X+1:=e;omega)⟩
       have h4:=HAS.out.keepO ((((hset wr 0 (.string lg)).trans (hset _ 1 (iT sf))).trans (hset _ 2 (sL vb 3 3))).trans (hset _ 3 (iT sd))) (by omega);exact rE (lo:=w.heap.size) r4 (by omega) (by omega) hvZ rfl h4
     · have hx:w.heap.size≤X+1:=by have:=HXW.out;omega
       exact ((((KW.out.trans (HBW.out.mono KW.out.size)).setCell (p:=⟨X+1,0,none⟩) hx _).setCell (p:=⟨X+1,1,none⟩) hx _).setCell (p:=⟨X+1,2,none⟩) hx _).setCell (p:=⟨X+1,3,none⟩) hx _
theorem fP (w:World) (P:Nat):w.grownBy w (some P):=⟨rfl,rfl,rfl,Nat.le_refl _,fun _ _ _=>rfl⟩
theorem fG {a b c:World} {r:Option Nat} (h:a.grownBy b r) (k:b.grownBy c r):a.grownBy c r:=⟨k.os.trans h.os,k.tape.trans h.tape,k.output.trans h.output,Nat.le_trans h.size k.size,fun i hi hr=>(k.block i (Nat.lt_of_lt_of_le hi h.size) hr).trans (h.block i hi hr)⟩
theorem aO (h:w.grownBy w' (some P)) (o:Nat) (u:Value):w.grownBy (w'.setCell ⟨P,o,none⟩ u) (some P) :=
 fG h ⟨rfl,rfl,rfl,by simp [World.setCell],fun k _ hk=>Below.heap_setCell _ _ _ k (fun e=>hk (by rw [e]))⟩
theorem nL {w1:World} (hb:Bl w w1) (h:w1.grownBy w' (some w.heap.size)):Bl w w' :=
 hb.trans ⟨h.os,h.tape,h.output,h.size,fun k hk=>h.block k (Nat.lt_of_lt_of_le hk hb.size) (fun e=>by cases e;omega)⟩
theorem ww (h:Bl w w'):w.grownBy w' (some P):=⟨h.os,h.tape,h.output,h.size,fun k hk _=>h.block k hk⟩
theorem aI.of_grown (h:w.grownBy w' (some P)):aI P (P+1) w w':=⟨h.os,h.tape,h.output,h.size,fun q hq ho=>h.block q hq (fun e=>by have:=Option.some.inj e;omega)⟩
theorem dz (w:World) (P:Nat) (u0 u1 u2 u3 u4 u5 u6 u7 u8:Value):aI P (P+1) w (((((((((w.setCell ⟨P,0,none⟩ u0).setCell ⟨P,1,none⟩ u1).setCell ⟨P,2,none⟩ u2).setCell ⟨P,3,none⟩ u3).setCell ⟨P,4,none⟩ u4).setCell ⟨P,5,none⟩ u5).setCell ⟨P,6,none⟩ u6).setCell ⟨P,7,none⟩ u7).setCell ⟨P,8,none⟩ u8) :=
 aI.of_grown (aO (aO (aO (aO (aO (aO (aO (aO (aO (fP w P) 0 _) 1 _) 2 _) 3 _) 4 _) 5 _) 6 _) 7 _) 8 _)
theorem dH {lo:Nat} (w:World) (P:Nat) (u0 u1 u2 u3 u4 u5 u6 u7 u8:Value) (h:P<lo):aM lo w (((((((((w.setCell ⟨P,0,none⟩ u0).setCell ⟨P,1,none⟩ u1).setCell ⟨P,2,none⟩ u2).setCell ⟨P,3,none⟩ u3).setCell ⟨P,4,none⟩ u4).setCell ⟨P,5,none⟩ u5).setCell ⟨P,6,none⟩ u6).setCell ⟨P,7,none⟩ u7).setCell ⟨P,8,none⟩ u8) :=
 ((((((((aM.of_set _ _ h).trans (aM.of_set _ _ h)).trans (aM.of_set _ _ h)).trans (aM.of_set _ _ h)).trans (aM.of_set _ _ h)).trans (aM.of_set _ _ h)).trans (aM.of_set _ _ h)).trans (aM.of_set _ _ h)).trans (aM.of_set _ _ h)
theorem cq {B:Nat} (h:Below B w w') (hP:B≤P) (u0 u1 u2 u3 u4 u5 u6 u7 u8:Value):Below B w (((((((((w'.setCell ⟨P,0,none⟩ u0).setCell ⟨P,1,none⟩ u1).setCell ⟨P,2,none⟩ u2).setCell ⟨P,3,none⟩ u3).setCell ⟨P,4,none⟩ u4).setCell ⟨P,5,none⟩ u5).setCell ⟨P,6,none⟩ u6).setCell ⟨P,7,none⟩ u7).setCell ⟨P,8,none⟩ u8) :=
 ((((((mf h hP u0 u1 u2 u3).setCell (p:=⟨P,4,none⟩) hP u4).setCell (p:=⟨P,5,none⟩) hP u5).setCell (p:=⟨P,6,none⟩) hP u6).setCell (p:=⟨P,7,none⟩) hP u7).setCell (p:=⟨P,8,none⟩) hP u8)
theorem aC.sets {b:Nat} {v0 v1 v2 v3 v4 v5 v6 v7 v8:Value} (h:aC w b v0 v1 v2 v3 v4 v5 v6 v7 v8) (u0 u1 u2 u3 u4 u5 u6 u7 u8:Value):aC (((((((((w.setCell ⟨b,0,none⟩ u0).setCell ⟨b,1,none⟩ u1).setCell ⟨b,2,none⟩ u2).setCell ⟨b,3,none⟩ u3).setCell ⟨b,4,none⟩ u4).setCell ⟨b,5,none⟩ u5).setCell ⟨b,6,none⟩ u6).setCell ⟨b,7,none⟩ u7).setCell ⟨b,8,none⟩ u8) b u0 u1 u2 u3 u4 u5 u6 u7 u8 :=
 ((((((((h.set0 u0).set1 u1).set2 u2).set3 u3).set4 u4).set5 u5).set6 u6).set7 u7).set8 u8
end Go.Proofs.YtehiefdphnljaaaGreatDoor
