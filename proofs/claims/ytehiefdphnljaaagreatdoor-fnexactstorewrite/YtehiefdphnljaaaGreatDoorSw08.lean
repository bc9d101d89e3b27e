/- Walks. -/
import Derived.Test.YtehiefdphnljaaaGreatDoorSw05
namespace Go.Proofs.YtehiefdphnljaaaGreatDoor
set_option maxRecDepth 100000
set_option maxHeartbeats 40000000
open Go.RowKit
variable {B:List aq} {G b1 b2 b3 base e g hi hi' j k lo lo' n nm ns:Nat} {L:List ae} {V:List (List aq)} {w w':World} {xs:List Value}
theorem uU (m:Int) (a:Option Addr) (len cap:Nat) (L:List ae) (w:World) (hL:an w a len cap L) (hbig:len≤1048576) :
 Calls Tryz.prog 113 #[.agg #[.slice a len cap,iT m]] w fun e w'=>∃b,e=.returned (.agg #[sL b len len,iT m])∧w.heap.size≤b∧b<w'.heap.size∧aE w' w.heap.size b len len L∧Bl w w':=by
 go_enter Tryz.func113,Tryz.ntmps113
 go_wp2_with fail
 refine (fc _ _ _ L _ (hL.keep ?_) hbig).mono ?_
 · exact (bZ.alloc (by simp) _).alloc (by simp;omega) _
 rintro e w1 ⟨rfl,hL1,hlt1,hb1⟩;simp only [World.size_alloc] at hlt1;obtain ⟨hc1,hf1⟩:=uN hb1;have hz:=hb1.size;simp at hz;have HL1:Hid (aE w1 w.heap.size (w.heap.size+1+1+1) len len L):=by
  have:=hL1.mono (base':=w.heap.size) (by simp;omega);simpa [Hid] using this
 have HZ:Hid (w.heap.size+1+1+1<w1.heap.size):=hlt1;clear hL1 hlt1;go_wp2;refine bodyPost_ret (v:=.agg #[sL (w.heap.size+1+1+1) len len,iT m]) (by simp [results,Tryz.results113,go_sem,hc1]) rfl ⟨w.heap.size+1+1+1,rfl,by omega,by simpa [World.setCell] using HZ.out,?_,?_⟩
 · refine ((((HL1.out.setCell ?_ _).setCell ?_ _).setCell ?_ _).setCell ?_ _) <;> (simp;try omega)
 · have hB:Bl w w1:=((bZ.alloc (by simp) _).alloc (by simp;omega) _).trans (hb1.mono (by simp;omega));exact ((((hB.setCell (p:=⟨w.heap.size+1+1,0,none⟩) (by simp;omega) _).setCell (p:=⟨w.heap.size+1+1,1,none⟩) (by simp;omega) _).setCell (p:=⟨w.heap.size+1,0,none⟩) (by simp) _).setCell (p:=⟨w.heap.size+1,1,none⟩) (by simp) _)
theorem aV.same {t sz:Nat} (h:aV w g t sz) (hf:w'.heap[g]?=w.heap[g]?):aV w' g t sz:=by
 obtain ⟨cur,h1,h2⟩:=h;exact ⟨cur,hf.trans h1,h2⟩
def cC (lo hi:Nat) (w w':World):Prop:=∀q,lo≤q→q<hi→w'.heap[q]?=w.heap[q]?
theorem cC.trans {w'':World} (h:cC lo hi w w') (k:cC lo hi w' w''):cC lo hi w w'':=fun q h1 h2=>(k q h1 h2).trans (h q h1 h2)
theorem cC.of_below (h:Bl w w'):cC lo w.heap.size w w':=fun q _ h2=>h.block q h2
theorem cC.of_set (w:World) {g o:Nat} (v:Value) (hg:g<lo):cC lo hi w (w.setCell ⟨g,o,none⟩ v):=fun q h1 _=>Below.heap_setCell _ _ _ _ (fun e=>by have e':q=g:=e;omega)
theorem eW.far {m:Nat} (h:eW lo hi w g m) (k:cC lo hi w w'):eW lo hi w' g m:=⟨h.1,h.2.1,h.2.2.same (k _ h.1 h.2.1)⟩
theorem d8.far (h:d8 lo hi w g B) (k:cC lo hi w w'):d8 lo hi w' g B :=
 ⟨h.at1,h.at2,h.blk.same (k _ h.at1 h.at2),fun i p hp=>by obtain ⟨e,c,b⟩:=h.runs i p hp;exact ⟨e,(World.cell?_of_block (k _ h.at1 h.at2)).trans c,b.far k⟩⟩
theorem cQ.far (h:cQ lo hi w g V) (k:cC lo hi w w'):cQ lo hi w' g V :=
 ⟨h.at1,h.at2,h.blk.same (k _ h.at1 h.at2),fun i p hp=>by obtain ⟨e,c,b⟩:=h.levs i p hp;exact ⟨e,(World.cell?_of_block (k _ h.at1 h.at2)).trans c,b.far k⟩⟩
def fo (G:Nat) (w:World) (xs:List Value) (j:Nat) (p:aq):Prop :=
 ∃e,xs[j*2]?=some (sL e p.1.length p.1.length)∧xs[j*2+1]?=some (iT p.2)∧cT (G+1) w (pT e) p.1.length p.1.length p.1∧eW (G+1) w.heap.size w e p.1.length
theorem fo.has {p:aq} (h:fo G w xs j p):Aj G w xs j p:=by
 obtain ⟨e,h0,h1,h2,_⟩:=h;exact ⟨_,_,_,h0,h1,h2⟩
theorem fo.other {p:aq} (h:fo G w xs j p) (hne:j≠k) (u0 u1:Value) (hs:aM (G+1) w w') (hf:cC (G+1) w.heap.size w w'):fo G w' ((xs.set (k*2) u0).set (k*2+1) u1) j p:=by
 obtain ⟨e,h0,h1,h2,h3⟩:=h;refine ⟨e,?_,?_,h2.same hs,(h3.far hf).mono (Nat.le_refl _) hs.1⟩ <;> (repeat rw [List.getElem?_set_ne (by omega)]) <;> assumption
theorem pI {m:Int} (h:k*2+1<xs.length) (hn:L.length=n) (hL:cT (G+1) w (pT e) n n L) (hE:eW (G+1) w.heap.size w e n):fo G w ((xs.set (k*2) (sL e n n)).set (k*2+1) (iT m)) k (L,m):=by
 subst hn;refine ⟨e,?_,?_,hL,hE⟩
 · rw [List.getElem?_set_ne (by omega),List.getElem?_set_self (by omega)]
 · rw [List.getElem?_set_self (by simp;omega)]
theorem nW (h:w.ownsRow base 119 2 (sL g n n) n xs) (hn:B.length=n)
 (hh:∀j p,B[j]?=some p→fo g w xs j p):d8 g w.heap.size w g B:=by
 have hlt:=(h.lt g rfl).2;refine ⟨Nat.le_refl _,hlt,by rw [hn];exact bK h,fun i p hp=>?_⟩;obtain ⟨e,h0,_,_,h3⟩:=hh i p hp;have hi:=(List.getElem?_eq_some_iff.1 hp).1;exact ⟨e,(h.cellAt _ (by omega)).trans h0,h3.mono (by omega) (Nat.le_refl _)⟩
theorem uV (lo:Nat) (a:Option Addr) (len cap:Nat) (B:List aq) (w:World) (hP:aF lo w a len cap B) (hS:eF B) :
 Calls Tryz.prog 78 #[.slice a len cap] w fun e w'=>e=.returned (sL (w.heap.size) len len)∧aF w.heap.size w' (some ⟨w.heap.size,0,none⟩) len len B∧d8 w.heap.size w'.heap.size w' w.heap.size B∧w.heap.size<w'.heap.size∧Bl w w':=by
 have HLEN:Hid (B.length=len):=hP.length;have HWF:Hid (∀p ∈ B,(Lit.int .i64 p.2).wf=true):=hP.wfs;have hbig:len≤1048576:=by have:=hP.length;have:=hS.1;omega
 have HSM:=ar hS;have HL:=ar hP;clear hP hS;obtain ⟨i0,hi,hz0,hz1,hz2⟩:=info_parts Tryz.infoRun;go_enter Tryz.func78,Tryz.ntmps78
 go_wp2_with (at_make;refine wpList_make_full _ rfl _ _ 83 rfl w.heap.size 119 i0 _ 2 Tryz.underlying83 hi hz0 hz1 .i64 .i64 _ _ len rfl rfl (by simp) (by simp) (by rw [hz2];omega) (by unfold maxLen;omega) (Nat.le_refl _) ?_;intro w1 hown hgrow)
 have hb1:Bl w w1:=(Below.refl _ _).grown hgrow (Nat.le_refl _) (by simp);have hsz1:w.heap.size<w1.heap.size:=(hown.lt _ rfl).2;go_loopw [4] (fun i wr=>∃(k:Nat) (xs:List Value),k≤len∧i=iT k∧wr.ownsRow w.heap.size 119 2 (sL (w.heap.size) len len) len xs∧Bl w wr∧(∀j p,j<k→B[j]?=some p→fo w.heap.size wr xs j p)) (fun i _=>len - (intOf i).toNat)
 case atStart=>exact ⟨0,_,Nat.zero_le _,rfl,hown,hb1,fun j l h=>absurd h (Nat.not_lt_zero _)⟩
 case round =>
  obtain ⟨k,xs,hk,rfl,ho,hb,hrow⟩:=hrel;have HROW:Hid (∀j p,j<k→B[j]?=some p→fo w.heap.size wr xs j p):=hrow;clear hrow hown hgrow;have hzr:w.heap.size<wr.heap.size:=(ho.lt _ rfl).2;by_cases hlt:k<len
  · obtain ⟨b,off,rfl,hbb⟩:=HL.out.form (by omega);obtain ⟨L,m,s,n,c,hg,_,g0,g1,hLk⟩:=HL.out.run hb k hlt;have hn:n≤1048576:=by
     have:=HSM.out.2 _ (List.mem_of_getElem? hg);have:=hLk.1.length;simp only at *;omega
    have HG:Hid (B[k]?=some (L,m)):=hg;have HBN:Hid (L.length=n):=hLk.1.length;have hbk:b<wr.heap.size:=Nat.lt_of_lt_of_le hbb hb.size;clear hg;have hxl:=ho.1;have HX:Hid (xs.length=len*2):=hxl;clear hxl;have HO:Hid (wr.ownsRow w.heap.size 119 2 (sL (w.heap.size) len len) len xs):=ho;clear ho;go_wp2_with fail
    refine (uU _ _ _ _ L _ hLk.1 hn).mono ?_;rintro e w2 ⟨nb,rfl,hnb1,hnb2,hL2,hb2⟩;have HL2:Hid (cT (w.heap.size+1) w2 (pT nb) n n L):=⟨hL2.entsAt,fun x e _=>by cases e;simp only;omega⟩;have HE2:Hid (eW (w.heap.size+1) w2.heap.size w2 nb n):=⟨by omega,hnb2,bK hL2.owns⟩;clear hL2 hLk;have ho2:w2.ownsRow w.heap.size 119 2 (sL (w.heap.size) len len) len xs:=HO.out.kept (row:=none) ⟨hb2.os,hb2.tape,hb2.output,hb2.size,fun k hk _=>hb2.block k hk⟩ (.inr (by simp [Value.ownBlock]));have c0:∃v,w2.cell? ⟨w.heap.size,k*2,none⟩=some v:=⟨_,(ho2.cellAt _ (by omega)).trans (List.getElem?_eq_getElem (by rw [HX.out];omega))⟩;have c1:∃v,w2.cell? ⟨w.heap.size,k*2+1,none⟩=some v:=⟨_,(ho2.cellAt _ (by omega)).trans (List.getElem?_eq_getElem (by rw [HX.out];omega))⟩;obtain ⟨v0,c0⟩:=c0;obtain ⟨v1,c1⟩:=c1;have f0:w2.frozen? ⟨w.heap.size,k*2,none⟩=false:=ho2.frozenAt _;have f1:w2.frozen? ⟨w.heap.size,k*2+1,none⟩=false:=ho2.frozenAt _;have HO2:Hid (w2.ownsRow w.heap.size 119 2 (sL (w.heap.size) len len) len xs):=ho2;clear ho2;go_wp2;go_roundw
    case rel =>
     have t0:=HO2.out.stored (k*2) (sL nb n n);have t1:=t0.1.stored (k*2+1) (iT m);have hsm:aM (w.heap.size+1) w2 ((w2.setCell ⟨w.heap.size,k*2,none⟩ (sL nb n n)).setCell ⟨w.heap.size,k*2+1,none⟩ (iT m)):=(aM.of_set _ _ (by simp)).trans (aM.of_set _ _ (by simp));have hsf:∀hi,cC (w.heap.size+1) hi w2 ((w2.setCell ⟨w.heap.size,k*2,none⟩ (sL nb n n)).setCell ⟨w.heap.size,k*2+1,none⟩ (iT m)):=fun hi=>(cC.of_set _ _ (by simp)).trans (cC.of_set _ _ (by simp))
     refine ⟨k+1,_,by omega,by go_num,t1.1,?_,?_⟩
     · exact ((hb.trans (hb2.mono hb.size)).setCell (p:=⟨w.heap.size,_,none⟩) (Nat.le_refl _) _).setCell (p:=⟨w.heap.size,_,none⟩) (Nat.le_refl _) _
     · intro j p hj hp;by_cases hjk:j=k
       · subst hjk;rw [HG.out] at hp;cases hp;exact pI (by rw [HX.out];omega) HBN.out (HL2.out.same hsm) ((HE2.out.far (hsf _)).mono (Nat.le_refl _) hsm.1)
       · exact (HROW.out j p (by omega) hp).other hjk _ _ ((aM.of_below hb2).trans hsm) ((cC.of_below hb2).trans (hsf _))
    case measure=>simp [intOf];omega
  · go_wp2;go_ret;have hall:∀j p,B[j]?=some p→fo w.heap.size wr xs j p:=fun j p hp=>HROW.out j p (by have:=(List.getElem?_eq_some_iff.1 hp).1;rw [HLEN.out] at this;omega) hp
    exact ⟨rfl,nV ho HLEN.out HWF.out (fun j p hp=>(hall j p hp).has),nW ho HLEN.out hall,(ho.lt _ rfl).2,hb⟩
def fp (G:Nat) (w:World) (xs:List Value) (j:Nat) (p:List aq):Prop :=
 ∃e,xs[j]?=some (sL e p.length p.length)∧aF (G+1) w (pT e) p.length p.length p∧d8 (G+1) w.heap.size w e p
theorem fp.has {p:List aq} (h:fp G w xs j p):Al G w xs j p:=by
 obtain ⟨e,h0,h2,_⟩:=h;exact ⟨_,_,_,h0,h2⟩
theorem fp.other {p:List aq} (h:fp G w xs j p) (hne:j≠k) (u0:Value) (hs:aM (G+1) w w') (hf:cC (G+1) w.heap.size w w'):fp G w' (xs.set k u0) j p:=by
 obtain ⟨e,h0,h2,h3⟩:=h;exact ⟨e,by rw [List.getElem?_set_ne (by omega)];exact h0,h2.same hs,(h3.far hf).mono (Nat.le_refl _) hs.1⟩
theorem pY (h:k<xs.length) (hn:B.length=n) (hL:aF (G+1) w (pT e) n n B) (hE:d8 (G+1) w.heap.size w e B):fp G w (xs.set k (sL e n n)) k B:=by
 subst hn;exact ⟨e,by rw [List.getElem?_set_self (by omega)],hL,hE⟩
theorem nY (h:w.ownsRow base 83 1 (sL g n n) n xs) (hn:V.length=n)
 (hh:∀j p,V[j]?=some p→fp g w xs j p):cQ g w.heap.size w g V:=by
 have hlt:=(h.lt g rfl).2;refine ⟨Nat.le_refl _,hlt,by rw [hn];exact bK h,fun i p hp=>?_⟩;obtain ⟨e,h0,_,h3⟩:=hh i p hp;have hi:=(List.getElem?_eq_some_iff.1 hp).1;exact ⟨e,(h.cellAt _ (by omega)).trans h0,h3.mono (by omega) (Nat.le_refl _)⟩
theorem mD (lo:Nat) (a:Option Addr) (len cap:Nat) (V:List (List aq)) (w:World) (hP:au lo w a len cap V) (hS:iY V) :
 Calls Tryz.prog 45 #[.slice a len cap] w fun e w'=>e=.returned (sL (w.heap.size) len len)∧au w.heap.size w' (some ⟨w.heap.size,0,none⟩) len len V∧cQ w.heap.size w'.heap.size w' w.heap.size V∧w.heap.size<w'.heap.size∧Bl w w':=by
 have HLEN:Hid (V.length=len):=hP.length;have HWF:Hid (True):=trivial;have hbig:len≤1048576:=by have:=hP.length;have:=hS.1;omega
 have HSM:=ar hS;have HL:=ar hP;clear hP hS;obtain ⟨i0,hi,hz0,hz1,hz2⟩:=info_parts Tryz.infoRunL;go_enter Tryz.func45,Tryz.ntmps45
 go_wp2_with (at_make;refine wpList_make_full _ rfl _ _ 34 rfl w.heap.size 83 i0 _ 1 Tryz.underlying34 hi hz0 hz1 .i64 .i64 _ _ len rfl rfl (by simp) (by simp) (by rw [hz2];omega) (by unfold maxLen;omega) (Nat.le_refl _) ?_;intro w1 hown hgrow)
 have hb1:Bl w w1:=(Below.refl _ _).grown hgrow (Nat.le_refl _) (by simp);have hsz1:w.heap.size<w1.heap.size:=(hown.lt _ rfl).2;go_loopw [4] (fun i wr=>∃(k:Nat) (xs:List Value),k≤len∧i=iT k∧wr.ownsRow w.heap.size 83 1 (sL (w.heap.size) len len) len xs∧Bl w wr∧(∀j p,j<k→V[j]?=some p→fp w.heap.size wr xs j p)) (fun i _=>len - (intOf i).toNat)
 case atStart=>exact ⟨0,_,Nat.zero_le _,rfl,hown,hb1,fun j l h=>absurd h (Nat.not_lt_zero _)⟩
 case round =>
  obtain ⟨k,xs,hk,rfl,ho,hb,hrow⟩:=hrel;have HROW:Hid (∀j p,j<k→V[j]?=some p→fp w.heap.size wr xs j p):=hrow;clear hrow hown hgrow;have hzr:w.heap.size<wr.heap.size:=(ho.lt _ rfl).2;by_cases hlt:k<len
  · obtain ⟨b,off,rfl,hbb⟩:=HL.out.form (by omega);obtain ⟨B,s,n,c,hg,g0,hLk⟩:=HL.out.level hb k hlt;have hn:eF B:=HSM.out.2 _ (List.mem_of_getElem? hg);have HG:Hid (V[k]?=some B):=hg;have HBN:Hid (B.length=n):=hLk.length;have hbk:b<wr.heap.size:=Nat.lt_of_lt_of_le hbb hb.size;clear hg;have hxl:=ho.1;have HX:Hid (xs.length=len*1):=hxl;clear hxl;have HO:Hid (wr.ownsRow w.heap.size 83 1 (sL (w.heap.size) len len) len xs):=ho;clear ho;go_wp2_with fail
    refine (uV lo _ _ _ B _ hLk hn).mono ?_;rintro e w2 ⟨rfl,hL2,hB2,_,hb2⟩;have HL2:Hid (aF (w.heap.size+1) w2 (some ⟨wr.heap.size,0,none⟩) n n B):=hL2.mono hzr;have HE2:Hid (d8 (w.heap.size+1) w2.heap.size w2 wr.heap.size B):=hB2.mono hzr (Nat.le_refl _);clear hB2 hL2 hLk hn;have ho2:w2.ownsRow w.heap.size 83 1 (sL (w.heap.size) len len) len xs:=HO.out.kept (row:=none) ⟨hb2.os,hb2.tape,hb2.output,hb2.size,fun k hk _=>hb2.block k hk⟩ (.inr (by simp [Value.ownBlock]));have c0:∃v,w2.cell? ⟨w.heap.size,k,none⟩=some v:=⟨_,(ho2.cellAt _ (by omega)).trans (List.getElem?_eq_getElem (by rw [HX.out];omega))⟩;obtain ⟨v0,c0⟩:=c0;have f0:w2.frozen? ⟨w.heap.size,k,none⟩=false:=ho2.frozenAt _;have HO2:Hid (w2.ownsRow w.heap.size 83 1 (sL (w.heap.size) len len) len xs):=ho2;clear ho2;go_wp2;go_roundw
    case rel =>
     have t0:=HO2.out.stored k (sL (wr.heap.size) n n);have hsm:aM (w.heap.size+1) w2 (w2.setCell ⟨w.heap.size,k,none⟩ (sL (wr.heap.size) n n)):=aM.of_set _ _ (by simp);have hsf:∀hi,cC (w.heap.size+1) hi w2 (w2.setCell ⟨w.heap.size,k,none⟩ (sL (wr.heap.size) n n)):=fun hi=>cC.of_set _ _ (by simp)
     refine ⟨k+1,_,by omega,by go_num,t0.1,?_,?_⟩
     · exact (hb.trans (hb2.mono hb.size)).setCell (p:=⟨w.heap.size,_,none⟩) (Nat.le_refl _) _
     · intro j p hj hp;by_cases hjk:j=k
       · subst hjk;rw [HG.out] at hp;cases hp;exact pY (by rw [HX.out];omega) HBN.out (HL2.out.same hsm) ((HE2.out.far (hsf _)).mono (Nat.le_refl _) hsm.1)
       · exact (HROW.out j p (by omega) hp).other hjk _ ((aM.of_below hb2).trans hsm) ((cC.of_below hb2).trans (hsf _))
    case measure=>simp [intOf];omega
  · go_wp2;go_ret;have hall:∀j p,V[j]?=some p→fp w.heap.size wr xs j p:=fun j p hp=>HROW.out j p (by have:=(List.getElem?_eq_some_iff.1 hp).1;rw [HLEN.out] at this;omega) hp
    exact ⟨rfl,mg ho HLEN.out HWF.out (fun j p hp=>(hall j p hp).has),nY ho HLEN.out hall,(ho.lt _ rfl).2,hb⟩
theorem uW (lo:Nat) (a:Option Addr) (len cap:Nat) (S:List Int) (w:World) (hP:bC lo w a len cap S) (hbig:len≤1048576) :
 Calls Tryz.prog 46 #[.slice a len cap] w fun e w'=>e=.returned (sL (w.heap.size) len len)∧bC w.heap.size w' (some ⟨w.heap.size,0,none⟩) len len S∧aV w' w.heap.size 3 (len*1)∧w.heap.size<w'.heap.size∧Bl w w':=by
 have HLEN:Hid (S.length=len):=hP.length;have HWF:Hid (∀q ∈ S,(Lit.int .i64 q).wf=true):=hP.wfs;have HL:=ar hP;clear hP;obtain ⟨i0,hi,hz0,hz1,hz2⟩:=info_parts Tryz.infoInt;go_enter Tryz.func46,Tryz.ntmps46
 go_wp2_with (at_make;refine wpList_make_full _ rfl _ _ 24 rfl w.heap.size 3 i0 _ 1 Tryz.underlying24 hi hz0 hz1 .i64 .i64 _ _ len rfl rfl (by simp) (by simp) (by rw [hz2];omega) (by unfold maxLen;omega) (Nat.le_refl _) ?_;intro w1 hown hgrow)
 have hb1:Bl w w1:=(Below.refl _ _).grown hgrow (Nat.le_refl _) (by simp);go_loopw [4] (fun i wr=>∃(k:Nat) (xs:List Value),k≤len∧i=iT k∧wr.ownsRow w.heap.size 3 1 (sL (w.heap.size) len len) len xs∧Bl w wr∧(∀j q,j<k→S[j]?=some q→xs[j]?=some (iT q))) (fun i _=>len - (intOf i).toNat)
 case atStart=>exact ⟨0,_,Nat.zero_le _,rfl,hown,hb1,fun j l h=>absurd h (Nat.not_lt_zero _)⟩
 case round =>
  obtain ⟨k,xs,hk,rfl,ho,hb,hrow⟩:=hrel;have HROW:Hid (∀j q,j<k→S[j]?=some q→xs[j]?=some (iT q)):=hrow;clear hrow hown hgrow;by_cases hlt:k<len
  · obtain ⟨b,off,rfl,hbb⟩:=HL.out.form (by omega);obtain ⟨q,hg,_,g0⟩:=HL.out.num hb k hlt;have HG:Hid (S[k]?=some q):=hg;have hbk:b<wr.heap.size:=Nat.lt_of_lt_of_le hbb hb.size;have hzr:w.heap.size<wr.heap.size:=(ho.lt _ rfl).2;clear hg;have hxl:=ho.1;have HX:Hid (xs.length=len*1):=hxl;clear hxl;have c0:∃v,wr.cell? ⟨w.heap.size,k,none⟩=some v:=⟨_,(ho.cellAt _ (by omega)).trans (List.getElem?_eq_getElem (by rw [HX.out];omega))⟩;obtain ⟨v0,c0⟩:=c0;have f0:wr.frozen? ⟨w.heap.size,k,none⟩=false:=ho.frozenAt _;have HO:Hid (wr.ownsRow w.heap.size 3 1 (sL (w.heap.size) len len) len xs):=ho;clear ho;go_wp2;go_roundw
    case rel =>
     have t0:=HO.out.stored k (iT q);refine ⟨k+1,_,by omega,by go_num,t0.1,hb.setCell (p:=⟨w.heap.size,_,none⟩) (Nat.le_refl _) _,?_⟩;intro j p hj hp;by_cases hjk:j=k
     · subst hjk;rw [HG.out] at hp;cases hp;rw [List.getElem?_set_self (by rw [HX.out];omega)]
     · rw [List.getElem?_set_ne (by omega)];exact HROW.out j p (by omega) hp
    case measure=>simp [intOf];omega
  · go_wp2;go_ret;exact ⟨rfl,n8 ho HLEN.out HWF.out (fun j p hp=>HROW.out j p (by have:=(List.getElem?_eq_some_iff.1 hp).1;rw [HLEN.out] at this;omega) hp),bK ho,(ho.lt _ rfl).2,hb⟩
structure dQ (lo hi:Nat) (w:World) (b1 nm b2:Nat) (V:List (List aq)) (b3 ns:Nat):Prop where
 mem:eW lo hi w b1 nm
 levs:cQ lo hi w b2 V
 sn:lo≤b3∧b3<hi∧aV w b3 3 (ns*1)
theorem dQ.mark (h:dQ lo hi w b1 nm b2 V b3 ns) (k:aQ lo' hi' w w'):dQ lo hi w' b1 nm b2 V b3 ns :=
 ⟨h.mem.mark k,h.levs.mark k,h.sn.1,h.sn.2.1,k.blk _ _ _ h.sn.2.2⟩
theorem dQ.far (h:dQ lo hi w b1 nm b2 V b3 ns) (k:cC lo hi w w'):dQ lo hi w' b1 nm b2 V b3 ns :=
 ⟨h.mem.far k,h.levs.far k,h.sn.1,h.sn.2.1,h.sn.2.2.same (k _ h.sn.1 h.sn.2.1)⟩
theorem dQ.mono (h:dQ lo hi w b1 nm b2 V b3 ns) (h1:lo'≤lo) (h2:hi≤hi'):dQ lo' hi' w b1 nm b2 V b3 ns :=
 ⟨h.mem.mono h1 h2,h.levs.mono h1 h2,Nat.le_trans h1 h.sn.1,Nat.lt_of_lt_of_le h.sn.2.1 h2,h.sn.2.2⟩
def BT (q:Int) (nm nv ns:Nat) (M:List ae) (V:List (List aq)) (S:List Int) (w:World) (e:Ending) (w':World):Prop :=
 ∃b1 b2 b3:Nat,e=.returned (.agg #[iT q,sL b1 nm nm,sL b2 nv nv,sL b3 ns ns])∧aX w.heap.size w' (pT b1) nm nm (pT b2) nv nv (pT b3) ns ns M V S∧dQ w.heap.size w'.heap.size w' b1 nm b2 V b3 ns∧Bl w w'
theorem uT (q:Int) (lo:Nat) (am av ak:Option Addr) (nm cm nv cv ns cs:Nat) (M:List ae) (V:List (List aq)) (S:List Int) (w:World) (h:aX lo w am nm cm av nv cv ak ns cs M V S) (hs:ul M V S) :
 Calls Tryz.prog 21 #[.agg #[iT q,.slice am nm cm,.slice av nv cv,.slice ak ns cs]] w (BT q nm nv ns M V S w):=by
 obtain ⟨X,hX⟩:=aw w.heap.size;obtain ⟨W,hW⟩:=aw (((w.alloc (.cells #[iT q,.slice am nm cm,.slice av nv cv,.slice ak ns cs] 26)).alloc (.cells #[iT 0,nZ,nZ,nZ] 36)).alloc (.cells #[iT q,nZ,nZ,nZ] 36));have kW:Bl w W:=by rw [hW];exact (bZ.alloc (by simp) _).alloc (by simp;omega) _
 have bp:bf W X (iT q) (.slice am nm cm) (.slice av nv cv) (.slice ak ns cs):=by rw [hW,hX];exact ((bf.new _ _ _ _ _ _).alloc _).alloc _
 have br:bf W (X+1) (iT 0) nZ nZ nZ:=by
  have:=(bf.new (w.alloc (.cells #[iT q,.slice am nm cm,.slice av nv cv,.slice ak ns cs] 26)) 36 (iT 0) nZ nZ nZ).alloc (.cells #[iT q,nZ,nZ,nZ] 36);rw [World.size_alloc] at this;rw [hW,hX];exact this
 have bo:bf W (X+1+1) (iT q) nZ nZ nZ:=by
  have:=bf.new ((w.alloc (.cells #[iT q,.slice am nm cm,.slice av nv cv,.slice ak ns cs] 26)).alloc (.cells #[iT 0,nZ,nZ,nZ] 36)) 36 (iT q) nZ nZ nZ;rw [World.size_alloc,World.size_alloc] at this;rw [hW,hX];exact this
 have hsz:W.heap.size=X+1+1+1:=by rw [hW,hX];simp
 have H:=ar h;have HS:=ar hs;have hnm:nm≤1048576:=by have:=h.mem.1.length;have:=hs.1;omega
 have hns:ns≤1048576:=by have:=h.snaps.length;have:=hs.2.2;omega
 have HX:Hid (X=w.heap.size):=hX;have HK:Hid (Bl w W):=kW;clear h hs kW;go_enter Tryz.func21,Tryz.ntmps21
 go_wp2_with fail
 rw [← hX,← hW];clear hX hW;refine (fc _ _ _ M _ (H.out.keep HK.out).mem.1 hnm).mono ?_;rintro e w1 ⟨rfl,hO1,hz1,hb1⟩;have hE1:=hO1.entsAt;have hB1:=bK hO1.owns;clear hO1;obtain ⟨b1,hbe1⟩:=aw W.heap.size;rw [← hbe1] at hE1 hB1 hz1 ⊢;obtain ⟨W1,hW1⟩:=aw (w1.setCell ⟨X+1+1,1,none⟩ (sL b1 nm nm));have bo1:bf W1 (X+1+1) (iT q) (sL b1 nm nm) nZ nZ:=by rw [hW1];exact (bo.keep hb1).set1 _
 have bp1:bf W1 X (iT q) (.slice am nm cm) (.slice av nv cv) (.slice ak ns cs):=by rw [hW1];exact (bp.keep hb1).other (by omega) _
 have br1:bf W1 (X+1) (iT 0) nZ nZ nZ:=by rw [hW1];exact (br.keep hb1).other (by omega) _
 have K1:Hid (Bl w W1):=by rw [hW1];exact (HK.out.trans (hb1.mono HK.out.size)).setCell (p:=⟨X+1+1,1,none⟩) (by show w.heap.size≤X+1+1;have:=HX.out;omega) _
 have S1:Hid (aM (X+3) W W1):=by rw [hW1];exact (aM.of_below hb1).trans (aM.of_set _ _ (by show X+1+1<X+3;omega))
 have hsz1:X+3≤W1.heap.size:=by have:=S1.out.1;omega
 have E1:Hid (cT (X+3) W1 (pT b1) nm nm M):=by rw [hW1];exact cT.same ⟨hE1,fun x e _=>by cases e;show X+3≤b1;omega⟩ (aM.of_set _ _ (by show X+1+1<X+3;omega))
 have F1:Hid (eW (X+3) W1.heap.size W1 b1 nm):=by rw [hW1];exact eW.far ⟨by omega,by simpa [World.setCell] using hz1,hB1⟩ (cC.of_set _ _ (by show X+1+1<X+3;omega))
 have vo:=(bo.keep hb1).c1;have vf:=(bo.keep hb1).fz;have vp:=(bp.keep hb1).c2;have vz:=(bo.keep hb1).lt;have vz':X<w1.heap.size:=by omega
 clear hb1 bo bp br hE1 hbe1 hB1 hz1;go_wp2_with fail
 rw [← hW1];clear hW1 vo vf vp vz vz';refine (mD lo _ _ _ V _ (H.out.keep K1.out).levels HS.out.2.1).mono ?_;rintro e w2 ⟨rfl,hE2,hB2,_,hb2⟩;obtain ⟨b2,hbe2⟩:=aw W1.heap.size;rw [← hbe2] at hE2 hB2 ⊢;obtain ⟨W2,hW2⟩:=aw (w2.setCell ⟨X+1+1,2,none⟩ (sL b2 nv nv));have bo2:bf W2 (X+1+1) (iT q) (sL b1 nm nm) (sL b2 nv nv) nZ:=by rw [hW2];exact (bo1.keep hb2).set2 _
 have bp2:bf W2 X (iT q) (.slice am nm cm) (.slice av nv cv) (.slice ak ns cs):=by rw [hW2];exact (bp1.keep hb2).other (by omega) _
 have br2:bf W2 (X+1) (iT 0) nZ nZ nZ:=by rw [hW2];exact (br1.keep hb2).other (by omega) _
 have K2:Hid (Bl w W2):=by rw [hW2];exact (K1.out.trans (hb2.mono K1.out.size)).setCell (p:=⟨X+1+1,2,none⟩) (by show w.heap.size≤X+1+1;have:=HX.out;omega) _
 have S2:Hid (aM (X+3) W1 W2):=by rw [hW2];exact (aM.of_below hb2).trans (aM.of_set _ _ (by show X+1+1<X+3;omega))
 have hsz2:X+3≤W2.heap.size:=by have:=S2.out.1;omega
 have E2:Hid (au (X+3) W2 (pT b2) nv nv V):=by rw [hW2];exact au.same (hE2.mono (by omega)) (aM.of_set _ _ (by show X+1+1<X+3;omega))
 have E1:Hid (cT (X+3) W2 (pT b1) nm nm M):=E1.out.same S2.out;have D2:Hid (cC (X+3) W1.heap.size W1 W2):=by rw [hW2];exact (cC.of_below hb2).trans (cC.of_set _ _ (by show X+1+1<X+3;omega))
 have F1:Hid (eW (X+3) W2.heap.size W2 b1 nm):=(F1.out.far D2.out).mono (Nat.le_refl _) S2.out.1;have F2:Hid (cQ (X+3) W2.heap.size W2 b2 V):=by
  rw [hW2];exact (cQ.far (hB2.mono (lo':=X+3) (by omega) (Nat.le_refl _)) (cC.of_set _ _ (by show X+1+1<X+3;omega))).mono (Nat.le_refl _) (by simp [World.setCell])
 have vo:=(bo1.keep hb2).c2;have vf:=(bo1.keep hb2).fz;have vp:=(bp1.keep hb2).c3;have vz:=(bo1.keep hb2).lt;have vz':X<w2.heap.size:=by omega
 clear hb2 bo1 bp1 br1 hE2 hbe2 hB2 D2;go_wp2_with fail
 rw [← hW2];clear hW2 vo vf vp vz vz';refine (uW lo _ _ _ S _ (H.out.keep K2.out).snaps hns).mono ?_;rintro e w3 ⟨rfl,hE3,hB3,hz3,hb3⟩;obtain ⟨b3,hbe3⟩:=aw W2.heap.size;rw [← hbe3] at hE3 hB3 hz3 ⊢;obtain ⟨W3,hW3⟩:=aw (w3.setCell ⟨X+1+1,3,none⟩ (sL b3 ns ns));have bo3:bf W3 (X+1+1) (iT q) (sL b1 nm nm) (sL b2 nv nv) (sL b3 ns ns):=by rw [hW3];exact (bo2.keep hb3).set3 _
 have bp3:bf W3 X (iT q) (.slice am nm cm) (.slice av nv cv) (.slice ak ns cs):=by rw [hW3];exact (bp2.keep hb3).other (by omega) _
 have br3:bf W3 (X+1) (iT 0) nZ nZ nZ:=by rw [hW3];exact (br2.keep hb3).other (by omega) _
 have K3:Hid (Bl w W3):=by rw [hW3];exact (K2.out.trans (hb3.mono K2.out.size)).setCell (p:=⟨X+1+1,3,none⟩) (by show w.heap.size≤X+1+1;have:=HX.out;omega) _
 have S3:Hid (aM (X+3) W2 W3):=by rw [hW3];exact (aM.of_below hb3).trans (aM.of_set _ _ (by show X+1+1<X+3;omega))
 have hsz3:X+3≤W3.heap.size:=by have:=S3.out.1;omega
 have E3:Hid (bC (X+3) W3 (pT b3) ns ns S):=by rw [hW3];exact bC.same (hE3.lower (by omega)) (aM.of_set _ _ (by show X+1+1<X+3;omega))
 have E1:Hid (cT (X+3) W3 (pT b1) nm nm M):=E1.out.same S3.out;have E2:Hid (au (X+3) W3 (pT b2) nv nv V):=E2.out.same S3.out;have D3:Hid (cC (X+3) W2.heap.size W2 W3):=by rw [hW3];exact (cC.of_below hb3).trans (cC.of_set _ _ (by show X+1+1<X+3;omega))
 have F:Hid (dQ (X+3) W3.heap.size W3 b1 nm b2 V b3 ns):=⟨(F1.out.far D3.out).mono (Nat.le_refl _) S3.out.1,(F2.out.far D3.out).mono (Nat.le_refl _) S3.out.1,by omega,by rw [hW3];simpa [World.setCell] using hz3,by rw [hW3];exact hB3.setCell _⟩;have vo:=(bo2.keep hb3).c3;have vo0:=(bo2.keep hb3).c0;have vo1:=(bo2.keep hb3).c1;have vo2:=(bo2.keep hb3).c2;have vf:=(bo2.keep hb3).fz;have vr0:=(br2.keep hb3).c0;have vr1:=(br2.keep hb3).c1;have vr2:=(br2.keep hb3).c2;have vr3:=(br2.keep hb3).c3;have vrf:=(br2.keep hb3).fz;have vz:=(bo2.keep hb3).lt;have vz':X+1<w3.heap.size:=by omega
 clear hb3 bo2 bp2 br2 hE3 hbe3 hB3 hz3 D3 F1 F2;go_wp2;rw [← hW3];refine bodyPost_ret (v:=.agg #[iT q,sL b1 nm nm,sL b2 nv nv,sL b3 ns ns]) ?_ rfl ⟨b1,b2,b3,rfl,?_,?_,?_⟩
 · have c0:=(((br3.set0 (iT q)).set1 (sL b1 nm nm)).set2 (sL b2 nv nv)).set3 (sL b3 ns ns);simp [results,Tryz.results21,go_sem,c0.all]
 · have hm:aM (X+3) W3 ((((W3.setCell ⟨X+1,0,none⟩ (iT q)).setCell ⟨X+1,1,none⟩ (sL b1 nm nm)).setCell ⟨X+1,2,none⟩ (sL b2 nv nv)).setCell ⟨X+1,3,none⟩ (sL b3 ns ns)):=(((aM.of_set _ _ (by show X+1<X+3;omega)).trans (aM.of_set _ _ (by show X+1<X+3;omega))).trans (aM.of_set _ _ (by show X+1<X+3;omega))).trans (aM.of_set _ _ (by show X+1<X+3;omega));have hx:=HX.out;exact ⟨(E1.out.same hm).mono (by omega),(E2.out.same hm).mono (by omega),(E3.out.same hm).lower (by omega)⟩
 · have hx:=HX.out;refine (dQ.far (F.out.mono (lo':=X+3) (Nat.le_refl _) (Nat.le_refl _)) ((((cC.of_set _ _ (by show X+1<X+3;omega)).trans (cC.of_set _ _ (by show X+1<X+3;omega))).trans (cC.of_set _ _ (by show X+1<X+3;omega))).trans (cC.of_set _ _ (by show X+1<X+3;omega)))).mono (by omega) (by simp [World.setCell])
 · have hx:w.heap.size≤X+1:=by have:=HX.out;omega
   exact mf K3.out hx _ _ _ _
theorem aQ.cell (h:aQ lo hi w w') {b o:Nat} {v:Value} (hb:b<lo∨hi≤b) (hc:w.cell? ⟨b,o,none⟩=some v):w'.cell? ⟨b,o,none⟩=some v :=
 (World.cell?_of_block (h.far b (World.block_lt_of_cell? _ _ hc) hb)).trans hc
theorem aQ.ownE {c:Nat} (h:aQ lo hi w w') (hO:aE w base g n c L) (hg:g<lo∨hi≤g):aE w' base g n c L:=by
 refine ⟨⟨hO.owns.1,?_⟩,hO.len,hO.ents⟩;have hlt:=hO.lt.2;rcases hO.owns.2 with hn | ⟨g1,cap1,cur1,e1,hb1,hgb,rest⟩
 · exact .inl hn
 · cases e1;exact .inr ⟨g,c,cur1,rfl,hb1,(h.far g hlt hg).trans hgb,rest⟩
def xB (e:ae):Prop:=e.1.size≤281474976710656∧e.2.2.2.1.size≤281474976710656
theorem jF (a:Option Addr) (len cap:Nat) (L:List ae) (left:Int) (w:World) (hL:an w a len cap L) (h0:0≤left) (h1:left≤1048576) :
 Calls Tryz.prog 5 #[.slice a len cap,iT left] w fun e w'=>∃r:Int,e=.returned (iT r)∧(r=-1∨(0≤r∧r+L.length≤left∧∀e ∈ L,xB e))∧Bl w w':=by
 have hbl:=hL.room;have hbc:=hL.big;unfold maxLen at hbc;have HL:=ar hL;have HLN:Hid (L.length=len):=hL.length;clear hL;by_cases hb:left<len
 · go_enter Tryz.func5,Tryz.ntmps5
   go_wp2;go_ret;exact ⟨-1,rfl,Or.inl rfl,Below.refl _ _⟩
 · go_enter Tryz.func5,Tryz.ntmps5
   go_wp2;go_loopw [1,5] (fun l i wr=>∃(k:Nat) (r:Int),k≤len∧i=iT k∧l=iT r∧0≤r∧r+len≤left∧(∀(j:Nat) (e:ae),j<k→L[j]?=some e→xB e)∧Bl w wr) (fun _ i _=>len - (intOf i).toNat)
   case atStart=>exact ⟨0,left - len,Nat.zero_le _,rfl,rfl,by omega,by omega,fun j e hj=>absurd hj (Nat.not_lt_zero j),Below.refl _ _⟩
   case round =>
    obtain ⟨k,r,hk,rfl,rfl,hr0,hr1,htx,hbw⟩:=hrel;have HT:Hid (∀(j:Nat) (e:ae),j<k→L[j]?=some e→xB e):=htx;clear htx;by_cases hlt:k<len
    · obtain ⟨b,off,rfl,hbb⟩:=HL.out.form (by omega);obtain ⟨s,q,d,t,n,hg,hlw,g0,g1,g2,g3,g4⟩:=HL.out.ent hbw hbb k hlt;have hs:=hlw.1;have ht:=hlw.2.2.2.1;simp only at hs ht;have HG:Hid (L[k]?=some (s,q,d,t,n)):=hg;clear hg hlw;by_cases hsz:r<s.size+t.size
      · go_wp2_with (go_at_call 17;refine (xS _ _ _ _ _ _ _ hs ht hr0 (by omega) hsz).mono ?_;rintro e w1 ⟨rfl,hb1⟩)
        go_ret;exact ⟨-1,rfl,Or.inl rfl,hbw.trans (hb1.mono hbw.size)⟩
      · go_wp2_with (go_at_call 17;refine (vd _ _ _ _ _ _ _ (by omega) (by omega)).mono ?_;rintro e w1 ⟨rfl,hb1⟩)
        go_roundw
        case rel =>
         refine ⟨k+1,r - s.size - t.size,by omega,by go_num,rfl,by omega,by omega,fun j e hj he=>?_,hbw.trans (hb1.mono hbw.size)⟩;by_cases hjk:j=k
         · have:=HG.out;rw [hjk,this] at he;cases he;exact ⟨by show s.size≤_;omega,by show t.size≤_;omega⟩
         · exact HT.out j e (by omega) he
        case measure=>simp [intOf];omega
    · go_wp2;go_ret;refine ⟨r,rfl,Or.inr ⟨hr0,by rw [HLN.out];exact hr1,fun e he=>?_⟩,hbw⟩;obtain ⟨j,hj,rfl⟩:=List.getElem_of_mem he;exact HT.out j _ (by have:=HLN.out;omega) (List.getElem?_eq_getElem hj)
end Go.Proofs.YtehiefdphnljaaaGreatDoor
