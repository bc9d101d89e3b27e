/-
  The laws' copy of a run, in memory of the call's own, by a walk of their Go text.
-/
import Derived.Test.YtlmgojlffgkciaaGreatTc06
import Derived.Test.YtlmgojlffgkciaaGreatTc16
import Derived.Test.YtlmgojlffgkciaaGreatTc18
import Derived.Test.YtlmgojlffgkciaaGreatTc21
namespace Go.Proofs.YtlmgojlffgkciaaGreat
open Go.RowKit
set_option maxHeartbeats 400000 in
theorem xd (m:Int) (a:Option Addr) (len cap:Nat) (L:List ac) (w:World) (hL:af w a len cap L) (hbig:len≤1048576) :
 Calls Tryz.prog 120 #[.agg #[.slice a len cap,iT m]] w fun e w'=>∃b,e=.returned (.agg #[sL b len len,iT m])∧w.heap.size≤b∧b<w'.heap.size∧aE w' w.heap.size b len len L∧Bl w w':=by
 go_enter Tryz.func120,Tryz.ntmps120
 go_wp2_with fail
 refine (nK _ _ _ L _ (hL.keep ?_) hbig).mono ?_
 · exact (bZ.alloc (by simp) _).alloc (by simp;omega) _
 rintro e w1 ⟨rfl,hL1,hlt1,hb1⟩;simp only [World.size_alloc] at hlt1;obtain ⟨hc1,hf1⟩:=qJ hb1;have hz:=hb1.size;simp at hz;have HL1:Hid (aE w1 w.heap.size (w.heap.size+1+1+1) len len L):=by
  have:=hL1.mono (base':=w.heap.size) (by simp;omega);simpa [Hid] using this
 have HZ:Hid (w.heap.size+1+1+1<w1.heap.size):=hlt1;clear hL1 hlt1;go_wp2;refine bodyPost_ret (v:=.agg #[sL (w.heap.size+1+1+1) len len,iT m]) (by simp [results,Tryz.results120,go_sem,hc1]) rfl ⟨w.heap.size+1+1+1,rfl,by omega,by simpa [World.setCell] using HZ.out,?_,?_⟩
 · refine ((((HL1.out.setCell ?_ _).setCell ?_ _).setCell ?_ _).setCell ?_ _) <;> (simp;try omega)
 · have hB:Bl w w1:=((bZ.alloc (by simp) _).alloc (by simp;omega) _).trans (hb1.mono (by simp;omega));exact ((((hB.setCell (p:=⟨w.heap.size+1+1,0,none⟩) (by simp;omega) _).setCell (p:=⟨w.heap.size+1+1,1,none⟩) (by simp;omega) _).setCell (p:=⟨w.heap.size+1,0,none⟩) (by simp) _).setCell (p:=⟨w.heap.size+1,1,none⟩) (by simp) _)
end Go.Proofs.YtlmgojlffgkciaaGreat

namespace Go.Proofs.YtlmgojlffgkciaaGreat
open Go.RowKit
theorem aw.same {w w':World} {g t sz:Nat} (h:aw w g t sz) (hf:w'.heap[g]?=w.heap[g]?):aw w' g t sz:=by
 obtain ⟨cur,h1,h2⟩:=h;exact ⟨cur,hf.trans h1,h2⟩
def eI (lo hi:Nat) (w w':World):Prop:=∀q,lo≤q→q<hi→w'.heap[q]?=w.heap[q]?
theorem eI.trans {lo hi:Nat} {w w' w'':World} (h:eI lo hi w w') (k:eI lo hi w' w''):eI lo hi w w'':=fun q h1 h2=>(k q h1 h2).trans (h q h1 h2)
theorem eI.of_below {lo:Nat} {w w':World} (h:Bl w w'):eI lo w.heap.size w w':=fun q _ h2=>h.block q h2
theorem eI.of_set {lo hi:Nat} (w:World) {g o:Nat} (v:Value) (hg:g<lo):eI lo hi w (w.setCell ⟨g,o,none⟩ v):=fun q h1 _=>Below.heap_setCell _ _ _ _ (fun e=>by have e':q=g:=e;omega)
theorem fl.far {lo hi g m:Nat} {w w':World} (h:fl lo hi w g m) (k:eI lo hi w w'):fl lo hi w' g m:=⟨h.1,h.2.1,h.2.2.same (k _ h.1 h.2.1)⟩
theorem eF.far {lo hi g:Nat} {w w':World} {B:List ae} (h:eF lo hi w g B) (k:eI lo hi w w'):eF lo hi w' g B :=
 ⟨h.at1,h.at2,h.blk.same (k _ h.at1 h.at2),fun i p hp=>by obtain ⟨e,c,b⟩:=h.runs i p hp;exact ⟨e,(World.cell?_of_block (k _ h.at1 h.at2)).trans c,b.far k⟩⟩
theorem eG.far {lo hi g:Nat} {w w':World} {V:List (List ae)} (h:eG lo hi w g V) (k:eI lo hi w w'):eG lo hi w' g V :=
 ⟨h.at1,h.at2,h.blk.same (k _ h.at1 h.at2),fun i p hp=>by obtain ⟨e,c,b⟩:=h.levs i p hp;exact ⟨e,(World.cell?_of_block (k _ h.at1 h.at2)).trans c,b.far k⟩⟩
def fI (G:Nat) (w:World) (xs:List Value) (j:Nat) (p:ae):Prop :=
 ∃e,xs[j*2]?=some (sL e p.1.length p.1.length)∧xs[j*2+1]?=some (iT p.2)∧cQ (G+1) w (pT e) p.1.length p.1.length p.1∧fl (G+1) w.heap.size w e p.1.length
theorem fI.has {G:Nat} {w:World} {xs:List Value} {j:Nat} {p:ae} (h:fI G w xs j p):jE G w xs j p:=by
 obtain ⟨e,h0,h1,h2,_⟩:=h;exact ⟨_,_,_,h0,h1,h2⟩
theorem fI.other {G:Nat} {w w':World} {xs:List Value} {j k:Nat} {p:ae} (h:fI G w xs j p) (hne:j≠k) (u0 u1:Value) (hs:bz (G+1) w w') (hf:eI (G+1) w.heap.size w w'):fI G w' ((xs.set (k*2) u0).set (k*2+1) u1) j p:=by
 obtain ⟨e,h0,h1,h2,h3⟩:=h;refine ⟨e,?_,?_,h2.same hs,(h3.far hf).mono (Nat.le_refl _) hs.1⟩ <;> (repeat rw [List.getElem?_set_ne (by omega)]) <;> assumption
theorem qW {G:Nat} {w:World} {xs:List Value} {k:Nat} {m:Int} {e n:Nat} {L:List ac} (h:k*2+1<xs.length) (hn:L.length=n) (hL:cQ (G+1) w (pT e) n n L) (hE:fl (G+1) w.heap.size w e n):fI G w ((xs.set (k*2) (sL e n n)).set (k*2+1) (iT m)) k (L,m):=by
 subst hn;refine ⟨e,?_,?_,hL,hE⟩
 · rw [List.getElem?_set_ne (by omega),List.getElem?_set_self (by omega)]
 · rw [List.getElem?_set_self (by simp;omega)]
theorem pG {w:World} {base g n:Nat} {xs:List Value} {B:List ae} (h:w.ownsRow base 102 2 (sL g n n) n xs) (hn:B.length=n)
 (hh:∀j p,B[j]?=some p→fI g w xs j p):eF g w.heap.size w g B:=by
 have hlt:=(h.lt g rfl).2;refine ⟨Nat.le_refl _,hlt,by rw [hn];exact cj h,fun i p hp=>?_⟩;obtain ⟨e,h0,_,_,h3⟩:=hh i p hp;have hi:=(List.getElem?_eq_some_iff.1 hp).1;exact ⟨e,(h.cellAt _ (by omega)).trans h0,h3.mono (by omega) (Nat.le_refl _)⟩
set_option maxHeartbeats 1600000 in
theorem xg (lo:Nat) (a:Option Addr) (len cap:Nat) (B:List ae) (w:World) (hP:aj lo w a len cap B) (hS:fC B) :
 Calls Tryz.prog 78 #[.slice a len cap] w fun e w'=>e=.returned (sL (w.heap.size) len len)∧aj w.heap.size w' (some ⟨w.heap.size,0,none⟩) len len B∧eF w.heap.size w'.heap.size w' w.heap.size B∧w.heap.size<w'.heap.size∧Bl w w':=by
 have HLEN:Hid (B.length=len):=hP.length;have HWF:Hid (∀p ∈ B,(Lit.int .i64 p.2).wf=true):=hP.wfs;have hbig:len≤1048576:=by have:=hP.length;have:=hS.1;omega
 have HSM:=bc hS;have HL:=bc hP;clear hP hS;obtain ⟨i0,hi,hz0,hz1,hz2⟩:=info_parts Tryz.infoRun;go_enter Tryz.func78,Tryz.ntmps78
 go_wp2_with (at_make;refine wpList_make_full _ rfl _ _ 64 rfl w.heap.size 102 i0 _ 2 Tryz.underlying64 hi hz0 hz1 .i64 .i64 _ _ len rfl rfl (by simp) (by simp) (by rw [hz2];omega) (by unfold maxLen;omega) (Nat.le_refl _) ?_;intro w1 hown hgrow)
 have hb1:Bl w w1:=(Below.refl _ _).grown hgrow (Nat.le_refl _) (by simp);have hsz1:w.heap.size<w1.heap.size:=(hown.lt _ rfl).2;go_loopw [4] (fun i wr=>∃(k:Nat) (xs:List Value),k≤len∧i=iT k∧wr.ownsRow w.heap.size 102 2 (sL (w.heap.size) len len) len xs∧Bl w wr∧(∀j p,j<k→B[j]?=some p→fI w.heap.size wr xs j p)) (fun i _=>len - (intOf i).toNat)
 case atStart=>exact ⟨0,_,Nat.zero_le _,rfl,hown,hb1,fun j l h=>absurd h (Nat.not_lt_zero _)⟩
 case round =>
  obtain ⟨k,xs,hk,rfl,ho,hb,hrow⟩:=hrel;have HROW:Hid (∀j p,j<k→B[j]?=some p→fI w.heap.size wr xs j p):=hrow;clear hrow hown hgrow;have hzr:w.heap.size<wr.heap.size:=(ho.lt _ rfl).2;by_cases hlt:k<len
  · obtain ⟨b,off,rfl,hbb⟩:=HL.out.form (by omega);obtain ⟨L,m,s,n,c,hg,_,g0,g1,hLk⟩:=HL.out.run hb k hlt;have hn:n≤1048576:=by
     have:=HSM.out.2 _ (List.mem_of_getElem? hg);have:=hLk.1.length;simp only at *;omega
    have HG:Hid (B[k]?=some (L,m)):=hg;have HBN:Hid (L.length=n):=hLk.1.length;have hbk:b<wr.heap.size:=Nat.lt_of_lt_of_le hbb hb.size;clear hg;have hxl:=ho.1;have HX:Hid (xs.length=len*2):=hxl;clear hxl;have HO:Hid (wr.ownsRow w.heap.size 102 2 (sL (w.heap.size) len len) len xs):=ho;clear ho;go_wp2_with fail
    refine (xd _ _ _ _ L _ hLk.1 hn).mono ?_;rintro e w2 ⟨nb,rfl,hnb1,hnb2,hL2,hb2⟩;have HL2:Hid (cQ (w.heap.size+1) w2 (pT nb) n n L):=⟨hL2.entsAt,fun x e _=>by cases e;simp only;omega⟩;have HE2:Hid (fl (w.heap.size+1) w2.heap.size w2 nb n):=⟨by omega,hnb2,cj hL2.owns⟩;clear hL2 hLk;have ho2:w2.ownsRow w.heap.size 102 2 (sL (w.heap.size) len len) len xs:=HO.out.kept (row:=none) ⟨hb2.os,hb2.tape,hb2.output,hb2.size,fun k hk _=>hb2.block k hk⟩ (.inr (by simp [Value.ownBlock]));have c0:∃v,w2.cell? ⟨w.heap.size,k*2,none⟩=some v:=⟨_,(ho2.cellAt _ (by omega)).trans (List.getElem?_eq_getElem (by rw [HX.out];omega))⟩;have c1:∃v,w2.cell? ⟨w.heap.size,k*2+1,none⟩=some v:=⟨_,(ho2.cellAt _ (by omega)).trans (List.getElem?_eq_getElem (by rw [HX.out];omega))⟩;obtain ⟨v0,c0⟩:=c0;obtain ⟨v1,c1⟩:=c1;have f0:w2.frozen? ⟨w.heap.size,k*2,none⟩=false:=ho2.frozenAt _;have f1:w2.frozen? ⟨w.heap.size,k*2+1,none⟩=false:=ho2.frozenAt _;have HO2:Hid (w2.ownsRow w.heap.size 102 2 (sL (w.heap.size) len len) len xs):=ho2;clear ho2;go_wp2;go_roundw
    case rel =>
     have t0:=HO2.out.stored (k*2) (sL nb n n);have t1:=t0.1.stored (k*2+1) (iT m);have hsm:bz (w.heap.size+1) w2 ((w2.setCell ⟨w.heap.size,k*2,none⟩ (sL nb n n)).setCell ⟨w.heap.size,k*2+1,none⟩ (iT m)):=(bz.of_set _ _ (by simp)).trans (bz.of_set _ _ (by simp));have hsf:∀hi,eI (w.heap.size+1) hi w2 ((w2.setCell ⟨w.heap.size,k*2,none⟩ (sL nb n n)).setCell ⟨w.heap.size,k*2+1,none⟩ (iT m)):=fun hi=>(eI.of_set _ _ (by simp)).trans (eI.of_set _ _ (by simp))
     refine ⟨k+1,_,by omega,by go_num,t1.1,?_,?_⟩
     · exact ((hb.trans (hb2.mono hb.size)).setCell (p:=⟨w.heap.size,_,none⟩) (Nat.le_refl _) _).setCell (p:=⟨w.heap.size,_,none⟩) (Nat.le_refl _) _
     · intro j p hj hp;by_cases hjk:j=k
       · subst hjk;rw [HG.out] at hp;cases hp;exact qW (by rw [HX.out];omega) HBN.out (HL2.out.same hsm) ((HE2.out.far (hsf _)).mono (Nat.le_refl _) hsm.1)
       · exact (HROW.out j p (by omega) hp).other hjk _ _ ((bz.of_below hb2).trans hsm) ((eI.of_below hb2).trans (hsf _))
    case measure=>simp [intOf];omega
  · go_wp2;go_ret;have hall:∀j p,B[j]?=some p→fI w.heap.size wr xs j p:=fun j p hp=>HROW.out j p (by have:=(List.getElem?_eq_some_iff.1 hp).1;rw [HLEN.out] at this;omega) hp
    exact ⟨rfl,kr ho HLEN.out HWF.out (fun j p hp=>(hall j p hp).has),pG ho HLEN.out hall,(ho.lt _ rfl).2,hb⟩
def fJ (G:Nat) (w:World) (xs:List Value) (j:Nat) (p:List ae):Prop :=
 ∃e,xs[j]?=some (sL e p.length p.length)∧aj (G+1) w (pT e) p.length p.length p∧eF (G+1) w.heap.size w e p
theorem fJ.has {G:Nat} {w:World} {xs:List Value} {j:Nat} {p:List ae} (h:fJ G w xs j p):jF G w xs j p:=by
 obtain ⟨e,h0,h2,_⟩:=h;exact ⟨_,_,_,h0,h2⟩
theorem fJ.other {G:Nat} {w w':World} {xs:List Value} {j k:Nat} {p:List ae} (h:fJ G w xs j p) (hne:j≠k) (u0:Value) (hs:bz (G+1) w w') (hf:eI (G+1) w.heap.size w w'):fJ G w' (xs.set k u0) j p:=by
 obtain ⟨e,h0,h2,h3⟩:=h;exact ⟨e,by rw [List.getElem?_set_ne (by omega)];exact h0,h2.same hs,(h3.far hf).mono (Nat.le_refl _) hs.1⟩
theorem ra {G:Nat} {w:World} {xs:List Value} {k e n:Nat} {B:List ae} (h:k<xs.length) (hn:B.length=n) (hL:aj (G+1) w (pT e) n n B) (hE:eF (G+1) w.heap.size w e B):fJ G w (xs.set k (sL e n n)) k B:=by
 subst hn;exact ⟨e,by rw [List.getElem?_set_self (by omega)],hL,hE⟩
theorem pH {w:World} {base g n:Nat} {xs:List Value} {V:List (List ae)} (h:w.ownsRow base 64 1 (sL g n n) n xs) (hn:V.length=n)
 (hh:∀j p,V[j]?=some p→fJ g w xs j p):eG g w.heap.size w g V:=by
 have hlt:=(h.lt g rfl).2;refine ⟨Nat.le_refl _,hlt,by rw [hn];exact cj h,fun i p hp=>?_⟩;obtain ⟨e,h0,_,h3⟩:=hh i p hp;have hi:=(List.getElem?_eq_some_iff.1 hp).1;exact ⟨e,(h.cellAt _ (by omega)).trans h0,h3.mono (by omega) (Nat.le_refl _)⟩
set_option maxHeartbeats 1600000 in
theorem uj (lo:Nat) (a:Option Addr) (len cap:Nat) (V:List (List ae)) (w:World) (hP:aX lo w a len cap V) (hS:rM V) :
 Calls Tryz.prog 40 #[.slice a len cap] w fun e w'=>e=.returned (sL (w.heap.size) len len)∧aX w.heap.size w' (some ⟨w.heap.size,0,none⟩) len len V∧eG w.heap.size w'.heap.size w' w.heap.size V∧w.heap.size<w'.heap.size∧Bl w w':=by
 have HLEN:Hid (V.length=len):=hP.length;have HWF:Hid (True):=trivial;have hbig:len≤1048576:=by have:=hP.length;have:=hS.1;omega
 have HSM:=bc hS;have HL:=bc hP;clear hP hS;obtain ⟨i0,hi,hz0,hz1,hz2⟩:=info_parts Tryz.infoRunL;go_enter Tryz.func40,Tryz.ntmps40
 go_wp2_with (at_make;refine wpList_make_full _ rfl _ _ 29 rfl w.heap.size 64 i0 _ 1 Tryz.underlying29 hi hz0 hz1 .i64 .i64 _ _ len rfl rfl (by simp) (by simp) (by rw [hz2];omega) (by unfold maxLen;omega) (Nat.le_refl _) ?_;intro w1 hown hgrow)
 have hb1:Bl w w1:=(Below.refl _ _).grown hgrow (Nat.le_refl _) (by simp);have hsz1:w.heap.size<w1.heap.size:=(hown.lt _ rfl).2;go_loopw [4] (fun i wr=>∃(k:Nat) (xs:List Value),k≤len∧i=iT k∧wr.ownsRow w.heap.size 64 1 (sL (w.heap.size) len len) len xs∧Bl w wr∧(∀j p,j<k→V[j]?=some p→fJ w.heap.size wr xs j p)) (fun i _=>len - (intOf i).toNat)
 case atStart=>exact ⟨0,_,Nat.zero_le _,rfl,hown,hb1,fun j l h=>absurd h (Nat.not_lt_zero _)⟩
 case round =>
  obtain ⟨k,xs,hk,rfl,ho,hb,hrow⟩:=hrel;have HROW:Hid (∀j p,j<k→V[j]?=some p→fJ w.heap.size wr xs j p):=hrow;clear hrow hown hgrow;have hzr:w.heap.size<wr.heap.size:=(ho.lt _ rfl).2;by_cases hlt:k<len
  · obtain ⟨b,off,rfl,hbb⟩:=HL.out.form (by omega);obtain ⟨B,s,n,c,hg,g0,hLk⟩:=HL.out.level hb k hlt;have hn:fC B:=HSM.out.2 _ (List.mem_of_getElem? hg);have HG:Hid (V[k]?=some B):=hg;have HBN:Hid (B.length=n):=hLk.length;have hbk:b<wr.heap.size:=Nat.lt_of_lt_of_le hbb hb.size;clear hg;have hxl:=ho.1;have HX:Hid (xs.length=len*1):=hxl;clear hxl;have HO:Hid (wr.ownsRow w.heap.size 64 1 (sL (w.heap.size) len len) len xs):=ho;clear ho;go_wp2_with fail
    refine (xg lo _ _ _ B _ hLk hn).mono ?_;rintro e w2 ⟨rfl,hL2,hB2,_,hb2⟩;have HL2:Hid (aj (w.heap.size+1) w2 (some ⟨wr.heap.size,0,none⟩) n n B):=hL2.mono hzr;have HE2:Hid (eF (w.heap.size+1) w2.heap.size w2 wr.heap.size B):=hB2.mono hzr (Nat.le_refl _);clear hB2 hL2 hLk hn;have ho2:w2.ownsRow w.heap.size 64 1 (sL (w.heap.size) len len) len xs:=HO.out.kept (row:=none) ⟨hb2.os,hb2.tape,hb2.output,hb2.size,fun k hk _=>hb2.block k hk⟩ (.inr (by simp [Value.ownBlock]));have c0:∃v,w2.cell? ⟨w.heap.size,k,none⟩=some v:=⟨_,(ho2.cellAt _ (by omega)).trans (List.getElem?_eq_getElem (by rw [HX.out];omega))⟩;obtain ⟨v0,c0⟩:=c0;have f0:w2.frozen? ⟨w.heap.size,k,none⟩=false:=ho2.frozenAt _;have HO2:Hid (w2.ownsRow w.heap.size 64 1 (sL (w.heap.size) len len) len xs):=ho2;clear ho2;go_wp2;go_roundw
    case rel =>
     have t0:=HO2.out.stored k (sL (wr.heap.size) n n);have hsm:bz (w.heap.size+1) w2 (w2.setCell ⟨w.heap.size,k,none⟩ (sL (wr.heap.size) n n)):=bz.of_set _ _ (by simp);have hsf:∀hi,eI (w.heap.size+1) hi w2 (w2.setCell ⟨w.heap.size,k,none⟩ (sL (wr.heap.size) n n)):=fun hi=>eI.of_set _ _ (by simp)
     refine ⟨k+1,_,by omega,by go_num,t0.1,?_,?_⟩
     · exact (hb.trans (hb2.mono hb.size)).setCell (p:=⟨w.heap.size,_,none⟩) (Nat.le_refl _) _
     · intro j p hj hp;by_cases hjk:j=k
       · subst hjk;rw [HG.out] at hp;cases hp;exact ra (by rw [HX.out];omega) HBN.out (HL2.out.same hsm) ((HE2.out.far (hsf _)).mono (Nat.le_refl _) hsm.1)
       · exact (HROW.out j p (by omega) hp).other hjk _ ((bz.of_below hb2).trans hsm) ((eI.of_below hb2).trans (hsf _))
    case measure=>simp [intOf];omega
  · go_wp2;go_ret;have hall:∀j p,V[j]?=some p→fJ w.heap.size wr xs j p:=fun j p hp=>HROW.out j p (by have:=(List.getElem?_eq_some_iff.1 hp).1;rw [HLEN.out] at this;omega) hp
    exact ⟨rfl,jf ho HLEN.out HWF.out (fun j p hp=>(hall j p hp).has),pH ho HLEN.out hall,(ho.lt _ rfl).2,hb⟩
set_option maxHeartbeats 1600000 in
theorem xh (lo:Nat) (a:Option Addr) (len cap:Nat) (S:List Int) (w:World) (hP:aT lo w a len cap S) (hbig:len≤1048576) :
 Calls Tryz.prog 41 #[.slice a len cap] w fun e w'=>e=.returned (sL (w.heap.size) len len)∧aT w.heap.size w' (some ⟨w.heap.size,0,none⟩) len len S∧aw w' w.heap.size 3 (len*1)∧w.heap.size<w'.heap.size∧Bl w w':=by
 have HLEN:Hid (S.length=len):=hP.length;have HWF:Hid (∀q ∈ S,(Lit.int .i64 q).wf=true):=hP.wfs;have HL:=bc hP;clear hP;obtain ⟨i0,hi,hz0,hz1,hz2⟩:=info_parts Tryz.infoInt;go_enter Tryz.func41,Tryz.ntmps41
 go_wp2_with (at_make;refine wpList_make_full _ rfl _ _ 24 rfl w.heap.size 3 i0 _ 1 Tryz.underlying24 hi hz0 hz1 .i64 .i64 _ _ len rfl rfl (by simp) (by simp) (by rw [hz2];omega) (by unfold maxLen;omega) (Nat.le_refl _) ?_;intro w1 hown hgrow)
 have hb1:Bl w w1:=(Below.refl _ _).grown hgrow (Nat.le_refl _) (by simp);go_loopw [4] (fun i wr=>∃(k:Nat) (xs:List Value),k≤len∧i=iT k∧wr.ownsRow w.heap.size 3 1 (sL (w.heap.size) len len) len xs∧Bl w wr∧(∀j q,j<k→S[j]?=some q→xs[j]?=some (iT q))) (fun i _=>len - (intOf i).toNat)
 case atStart=>exact ⟨0,_,Nat.zero_le _,rfl,hown,hb1,fun j l h=>absurd h (Nat.not_lt_zero _)⟩
 case round =>
  obtain ⟨k,xs,hk,rfl,ho,hb,hrow⟩:=hrel;have HROW:Hid (∀j q,j<k→S[j]?=some q→xs[j]?=some (iT q)):=hrow;clear hrow hown hgrow;by_cases hlt:k<len
  · obtain ⟨b,off,rfl,hbb⟩:=HL.out.form (by omega);obtain ⟨q,hg,_,g0⟩:=HL.out.num hb k hlt;have HG:Hid (S[k]?=some q):=hg;have hbk:b<wr.heap.size:=Nat.lt_of_lt_of_le hbb hb.size;have hzr:w.heap.size<wr.heap.size:=(ho.lt _ rfl).2;clear hg;have hxl:=ho.1;have HX:Hid (xs.length=len*1):=hxl;clear hxl;have c0:∃v,wr.cell? ⟨w.heap.size,k,none⟩=some v:=⟨_,(ho.cellAt _ (by omega)).trans (List.getElem?_eq_getElem (by rw [HX.out];omega))⟩;obtain ⟨v0,c0⟩:=c0;have f0:wr.frozen? ⟨w.heap.size,k,none⟩=false:=ho.frozenAt _;have HO:Hid (wr.ownsRow w.heap.size 3 1 (sL (w.heap.size) len len) len xs):=ho;clear ho;go_wp2;go_roundw
    case rel =>
     have t0:=HO.out.stored k (iT q);refine ⟨k+1,_,by omega,by go_num,t0.1,hb.setCell (p:=⟨w.heap.size,_,none⟩) (Nat.le_refl _) _,?_⟩;intro j p hj hp;by_cases hjk:j=k
     · subst hjk;rw [HG.out] at hp;cases hp;rw [List.getElem?_set_self (by rw [HX.out];omega)]
     · rw [List.getElem?_set_ne (by omega)];exact HROW.out j p (by omega) hp
    case measure=>simp [intOf];omega
  · go_wp2;go_ret;exact ⟨rfl,kF ho HLEN.out HWF.out (fun j p hp=>HROW.out j p (by have:=(List.getElem?_eq_some_iff.1 hp).1;rw [HLEN.out] at this;omega) hp),cj ho,(ho.lt _ rfl).2,hb⟩
structure dZ (lo hi:Nat) (w:World) (b1 nm b2:Nat) (V:List (List ae)) (b3 ns:Nat):Prop where
 mem:fl lo hi w b1 nm
 levs:eG lo hi w b2 V
 sn:lo≤b3∧b3<hi∧aw w b3 3 (ns*1)
theorem dZ.mark {lo hi lo' hi' b1 nm b2 b3 ns:Nat} {w w':World} {V:List (List ae)} (h:dZ lo hi w b1 nm b2 V b3 ns) (k:bh lo' hi' w w'):dZ lo hi w' b1 nm b2 V b3 ns :=
 ⟨h.mem.mark k,h.levs.mark k,h.sn.1,h.sn.2.1,k.blk _ _ _ h.sn.2.2⟩
theorem dZ.far {lo hi b1 nm b2 b3 ns:Nat} {w w':World} {V:List (List ae)} (h:dZ lo hi w b1 nm b2 V b3 ns) (k:eI lo hi w w'):dZ lo hi w' b1 nm b2 V b3 ns :=
 ⟨h.mem.far k,h.levs.far k,h.sn.1,h.sn.2.1,h.sn.2.2.same (k _ h.sn.1 h.sn.2.1)⟩
theorem dZ.mono {lo hi lo' hi' b1 nm b2 b3 ns:Nat} {w:World} {V:List (List ae)} (h:dZ lo hi w b1 nm b2 V b3 ns) (h1:lo'≤lo) (h2:hi≤hi'):dZ lo' hi' w b1 nm b2 V b3 ns :=
 ⟨h.mem.mono h1 h2,h.levs.mono h1 h2,Nat.le_trans h1 h.sn.1,Nat.lt_of_lt_of_le h.sn.2.1 h2,h.sn.2.2⟩
def Ch (q:Int) (nm nv ns:Nat) (M:List ac) (V:List (List ae)) (S:List Int) (w:World) (e:Ending) (w':World):Prop :=
 ∃b1 b2 b3:Nat,e=.returned (.agg #[iT q,sL b1 nm nm,sL b2 nv nv,sL b3 ns ns])∧aM w.heap.size w' (pT b1) nm nm (pT b2) nv nv (pT b3) ns ns M V S∧dZ w.heap.size w'.heap.size w' b1 nm b2 V b3 ns∧Bl w w'
set_option maxHeartbeats 1600000 in
theorem l3 (q:Int) (lo:Nat) (am av ak:Option Addr) (nm cm nv cv ns cs:Nat) (M:List ac) (V:List (List ae)) (S:List Int) (w:World) (h:aM lo w am nm cm av nv cv ak ns cs M V S) (hs:rO M V S) :
 Calls Tryz.prog 12 #[.agg #[iT q,.slice am nm cm,.slice av nv cv,.slice ak ns cs]] w (Ch q nm nv ns M V S w):=by
 obtain ⟨X,hX⟩:=ay w.heap.size;obtain ⟨W,hW⟩:=ay (((w.alloc (.cells #[iT q,.slice am nm cm,.slice av nv cv,.slice ak ns cs] 26)).alloc (.cells #[iT 0,nZ,nZ,nZ] 31)).alloc (.cells #[iT q,nZ,nZ,nZ] 31));have kW:Bl w W:=by rw [hW];exact (bZ.alloc (by simp) _).alloc (by simp;omega) _
 have bp:aF W X (iT q) (.slice am nm cm) (.slice av nv cv) (.slice ak ns cs):=by rw [hW,hX];exact ((aF.new _ _ _ _ _ _).alloc _).alloc _
 have br:aF W (X+1) (iT 0) nZ nZ nZ:=by
  have:=(aF.new (w.alloc (.cells #[iT q,.slice am nm cm,.slice av nv cv,.slice ak ns cs] 26)) 31 (iT 0) nZ nZ nZ).alloc (.cells #[iT q,nZ,nZ,nZ] 31);rw [World.size_alloc] at this;rw [hW,hX];exact this
 have bo:aF W (X+1+1) (iT q) nZ nZ nZ:=by
  have:=aF.new ((w.alloc (.cells #[iT q,.slice am nm cm,.slice av nv cv,.slice ak ns cs] 26)).alloc (.cells #[iT 0,nZ,nZ,nZ] 31)) 31 (iT q) nZ nZ nZ;rw [World.size_alloc,World.size_alloc] at this;rw [hW,hX];exact this
 have hsz:W.heap.size=X+1+1+1:=by rw [hW,hX];simp
 have H:=bc h;have HS:=bc hs;have hnm:nm≤1048576:=by have:=h.mem.1.length;have:=hs.1;omega
 have hns:ns≤1048576:=by have:=h.snaps.length;have:=hs.2.2;omega
 have HX:Hid (X=w.heap.size):=hX;have HK:Hid (Bl w W):=kW;clear h hs kW;go_enter Tryz.func12,Tryz.ntmps12
 go_wp2_with fail
 rw [← hX,← hW];clear hX hW;refine (nK _ _ _ M _ (H.out.keep HK.out).mem.1 hnm).mono ?_;rintro e w1 ⟨rfl,hO1,hz1,hb1⟩;have hE1:=hO1.entsAt;have hB1:=cj hO1.owns;clear hO1;obtain ⟨b1,hbe1⟩:=ay W.heap.size;rw [← hbe1] at hE1 hB1 hz1 ⊢;obtain ⟨W1,hW1⟩:=ay (w1.setCell ⟨X+1+1,1,none⟩ (sL b1 nm nm));have bo1:aF W1 (X+1+1) (iT q) (sL b1 nm nm) nZ nZ:=by rw [hW1];exact (bo.keep hb1).set1 _
 have bp1:aF W1 X (iT q) (.slice am nm cm) (.slice av nv cv) (.slice ak ns cs):=by rw [hW1];exact (bp.keep hb1).other (by omega) _
 have br1:aF W1 (X+1) (iT 0) nZ nZ nZ:=by rw [hW1];exact (br.keep hb1).other (by omega) _
 have K1:Hid (Bl w W1):=by rw [hW1];exact (HK.out.trans (hb1.mono HK.out.size)).setCell (p:=⟨X+1+1,1,none⟩) (by show w.heap.size≤X+1+1;have:=HX.out;omega) _
 have S1:Hid (bz (X+3) W W1):=by rw [hW1];exact (bz.of_below hb1).trans (bz.of_set _ _ (by show X+1+1<X+3;omega))
 have hsz1:X+3≤W1.heap.size:=by have:=S1.out.1;omega
 have E1:Hid (cQ (X+3) W1 (pT b1) nm nm M):=by rw [hW1];exact cQ.same ⟨hE1,fun x e _=>by cases e;show X+3≤b1;omega⟩ (bz.of_set _ _ (by show X+1+1<X+3;omega))
 have F1:Hid (fl (X+3) W1.heap.size W1 b1 nm):=by rw [hW1];exact fl.far ⟨by omega,by simpa [World.setCell] using hz1,hB1⟩ (eI.of_set _ _ (by show X+1+1<X+3;omega))
 have vo:=(bo.keep hb1).c1;have vf:=(bo.keep hb1).fz;have vp:=(bp.keep hb1).c2;have vz:=(bo.keep hb1).lt;have vz':X<w1.heap.size:=by omega
 clear hb1 bo bp br hE1 hbe1 hB1 hz1;go_wp2_with fail
 rw [← hW1];clear hW1 vo vf vp vz vz';refine (uj lo _ _ _ V _ (H.out.keep K1.out).levels HS.out.2.1).mono ?_;rintro e w2 ⟨rfl,hE2,hB2,_,hb2⟩;obtain ⟨b2,hbe2⟩:=ay W1.heap.size;rw [← hbe2] at hE2 hB2 ⊢;obtain ⟨W2,hW2⟩:=ay (w2.setCell ⟨X+1+1,2,none⟩ (sL b2 nv nv));have bo2:aF W2 (X+1+1) (iT q) (sL b1 nm nm) (sL b2 nv nv) nZ:=by rw [hW2];exact (bo1.keep hb2).set2 _
 have bp2:aF W2 X (iT q) (.slice am nm cm) (.slice av nv cv) (.slice ak ns cs):=by rw [hW2];exact (bp1.keep hb2).other (by omega) _
 have br2:aF W2 (X+1) (iT 0) nZ nZ nZ:=by rw [hW2];exact (br1.keep hb2).other (by omega) _
 have K2:Hid (Bl w W2):=by rw [hW2];exact (K1.out.trans (hb2.mono K1.out.size)).setCell (p:=⟨X+1+1,2,none⟩) (by show w.heap.size≤X+1+1;have:=HX.out;omega) _
 have S2:Hid (bz (X+3) W1 W2):=by rw [hW2];exact (bz.of_below hb2).trans (bz.of_set _ _ (by show X+1+1<X+3;omega))
 have hsz2:X+3≤W2.heap.size:=by have:=S2.out.1;omega
 have E2:Hid (aX (X+3) W2 (pT b2) nv nv V):=by rw [hW2];exact aX.same (hE2.mono (by omega)) (bz.of_set _ _ (by show X+1+1<X+3;omega))
 have E1:Hid (cQ (X+3) W2 (pT b1) nm nm M):=E1.out.same S2.out;have D2:Hid (eI (X+3) W1.heap.size W1 W2):=by rw [hW2];exact (eI.of_below hb2).trans (eI.of_set _ _ (by show X+1+1<X+3;omega))
 have F1:Hid (fl (X+3) W2.heap.size W2 b1 nm):=(F1.out.far D2.out).mono (Nat.le_refl _) S2.out.1;have F2:Hid (eG (X+3) W2.heap.size W2 b2 V):=by
  rw [hW2];exact (eG.far (hB2.mono (lo':=X+3) (by omega) (Nat.le_refl _)) (eI.of_set _ _ (by show X+1+1<X+3;omega))).mono (Nat.le_refl _) (by simp [World.setCell])
 have vo:=(bo1.keep hb2).c2;have vf:=(bo1.keep hb2).fz;have vp:=(bp1.keep hb2).c3;have vz:=(bo1.keep hb2).lt;have vz':X<w2.heap.size:=by omega
 clear hb2 bo1 bp1 br1 hE2 hbe2 hB2 D2;go_wp2_with fail
 rw [← hW2];clear hW2 vo vf vp vz vz';refine (xh lo _ _ _ S _ (H.out.keep K2.out).snaps hns).mono ?_;rintro e w3 ⟨rfl,hE3,hB3,hz3,hb3⟩;obtain ⟨b3,hbe3⟩:=ay W2.heap.size;rw [← hbe3] at hE3 hB3 hz3 ⊢;obtain ⟨W3,hW3⟩:=ay (w3.setCell ⟨X+1+1,3,none⟩ (sL b3 ns ns));have bo3:aF W3 (X+1+1) (iT q) (sL b1 nm nm) (sL b2 nv nv) (sL b3 ns ns):=by rw [hW3];exact (bo2.keep hb3).set3 _
 have bp3:aF W3 X (iT q) (.slice am nm cm) (.slice av nv cv) (.slice ak ns cs):=by rw [hW3];exact (bp2.keep hb3).other (by omega) _
 have br3:aF W3 (X+1) (iT 0) nZ nZ nZ:=by rw [hW3];exact (br2.keep hb3).other (by omega) _
 have K3:Hid (Bl w W3):=by rw [hW3];exact (K2.out.trans (hb3.mono K2.out.size)).setCell (p:=⟨X+1+1,3,none⟩) (by show w.heap.size≤X+1+1;have:=HX.out;omega) _
 have S3:Hid (bz (X+3) W2 W3):=by rw [hW3];exact (bz.of_below hb3).trans (bz.of_set _ _ (by show X+1+1<X+3;omega))
 have hsz3:X+3≤W3.heap.size:=by have:=S3.out.1;omega
 have E3:Hid (aT (X+3) W3 (pT b3) ns ns S):=by rw [hW3];exact aT.same (hE3.lower (by omega)) (bz.of_set _ _ (by show X+1+1<X+3;omega))
 have E1:Hid (cQ (X+3) W3 (pT b1) nm nm M):=E1.out.same S3.out;have E2:Hid (aX (X+3) W3 (pT b2) nv nv V):=E2.out.same S3.out;have D3:Hid (eI (X+3) W2.heap.size W2 W3):=by rw [hW3];exact (eI.of_below hb3).trans (eI.of_set _ _ (by show X+1+1<X+3;omega))
 have F:Hid (dZ (X+3) W3.heap.size W3 b1 nm b2 V b3 ns):=⟨(F1.out.far D3.out).mono (Nat.le_refl _) S3.out.1,(F2.out.far D3.out).mono (Nat.le_refl _) S3.out.1,by omega,by rw [hW3];simpa [World.setCell] using hz3,by rw [hW3];exact hB3.setCell _⟩;have vo:=(bo2.keep hb3).c3;have vo0:=(bo2.keep hb3).c0;have vo1:=(bo2.keep hb3).c1;have vo2:=(bo2.keep hb3).c2;have vf:=(bo2.keep hb3).fz;have vr0:=(br2.keep hb3).c0;have vr1:=(br2.keep hb3).c1;have vr2:=(br2.keep hb3).c2;have vr3:=(br2.keep hb3).c3;have vrf:=(br2.keep hb3).fz;have vz:=(bo2.keep hb3).lt;have vz':X+1<w3.heap.size:=by omega
 clear hb3 bo2 bp2 br2 hE3 hbe3 hB3 hz3 D3 F1 F2;go_wp2;rw [← hW3];refine bodyPost_ret (v:=.agg #[iT q,sL b1 nm nm,sL b2 nv nv,sL b3 ns ns]) ?_ rfl ⟨b1,b2,b3,rfl,?_,?_,?_⟩
 · have c0:=(((br3.set0 (iT q)).set1 (sL b1 nm nm)).set2 (sL b2 nv nv)).set3 (sL b3 ns ns);simp [results,Tryz.results12,go_sem,c0.c0,c0.c1,c0.c2,c0.c3]
 · have hm:bz (X+3) W3 ((((W3.setCell ⟨X+1,0,none⟩ (iT q)).setCell ⟨X+1,1,none⟩ (sL b1 nm nm)).setCell ⟨X+1,2,none⟩ (sL b2 nv nv)).setCell ⟨X+1,3,none⟩ (sL b3 ns ns)):=(((bz.of_set _ _ (by show X+1<X+3;omega)).trans (bz.of_set _ _ (by show X+1<X+3;omega))).trans (bz.of_set _ _ (by show X+1<X+3;omega))).trans (bz.of_set _ _ (by show X+1<X+3;omega));have hx:=HX.out;exact ⟨(E1.out.same hm).mono (by omega),(E2.out.same hm).mono (by omega),(E3.out.same hm).lower (by omega)⟩
 · have hx:=HX.out;refine (dZ.far (F.out.mono (lo':=X+3) (Nat.le_refl _) (Nat.le_refl _)) ((((eI.of_set _ _ (by show X+1<X+3;omega)).trans (eI.of_set _ _ (by show X+1<X+3;omega))).trans (eI.of_set _ _ (by show X+1<X+3;omega))).trans (eI.of_set _ _ (by show X+1<X+3;omega)))).mono (by omega) (by simp [World.setCell])
 · have hx:w.heap.size≤X+1:=by have:=HX.out;omega
   exact li K3.out hx _ _ _ _
end Go.Proofs.YtlmgojlffgkciaaGreat

namespace Go.Proofs.YtlmgojlffgkciaaGreat
open Go.RowKit
set_option maxRecDepth 100000
set_option maxHeartbeats 2000000
theorem bh.cell {lo hi:Nat} {w w':World} (h:bh lo hi w w') {b o:Nat} {v:Value} (hb:b<lo∨hi≤b) (hc:w.cell? ⟨b,o,none⟩=some v):w'.cell? ⟨b,o,none⟩=some v :=
 (World.cell?_of_block (h.far b (World.block_lt_of_cell? _ _ hc) hb)).trans hc
theorem tc (q:Int) (lo hi b1 nm b2 nv b3 ns k:Nat) (V:List (List ae)) (w:World) (hB:dZ lo hi w b1 nm b2 V b3 ns) (hV:V.length=nv) (h1:nm≤1048576) (h2:rM V) (h3:ns≤1048576) (hhi:hi≤w.heap.size) (hk:1≤k) (hn:k+5*nm+eP V+ns≤1000000000) :
 Calls Tryz.prog 15 #[.agg #[iT q,sL b1 nm nm,sL b2 nv nv,sL b3 ns ns],iT k] w fun e w'=>(∃r:Nat,e=.returned (iT (r:Int)))∧bh lo hi w w':=by
 obtain ⟨Y,hY⟩:=ay w.heap.size;obtain ⟨W,hW⟩:=ay (w.alloc (.cells #[iT q,sL b1 nm nm,sL b2 nv nv,sL b3 ns ns] 31));have kW:Bl w W:=by rw [hW];exact bZ
 have x2:W.cell? ⟨Y,2,none⟩=some (sL b2 nv nv):=by rw [hW,hY];simp
 have x3:W.cell? ⟨Y,3,none⟩=some (sL b3 ns ns):=by rw [hW,hY];simp
 have M0:Hid (bh lo hi w W):=bh.of_below kW;have HB:=bc hB;have HV:=bc hV;have H2:=bc h2;have hnv:nv≤1048576:=by have:=h2.1;omega
 have HYH:Hid (hi≤Y):=by rw [hY];exact hhi
 have HN:=bc hn;have hn1:k+5*nm≤1000000000:=by omega
 obtain ⟨K2,hK2⟩:∃K2:Nat,K2=k+5*nm+eP V:=⟨_,rfl⟩;have hn2:K2+ns≤1000000000:=by omega
 have CL:Hid (∀w',eG lo hi w' b2 V→Calls Tryz.prog 46 #[sL b2 nv nv,iT ((k+5*nm:Nat):Int)] w' fun e w''=>e=.returned (iT (K2:Int))∧bh lo hi w' w''):=by
  rw [hK2];exact fun w' h=>te lo hi b2 nv (k+5*nm) V w' h hV hnv h2.2 (by omega) (by omega)
 clear hB kW h2 hV hhi hn hK2;go_enter Tryz.func15,Tryz.ntmps15
 go_wp2_with fail
 rw [← hW];try rw [← hY]
 clear hW hY;refine (mM lo hi b1 nm k _ (HB.out.mark M0.out).mem h1 hk hn1).mono ?_;rintro e w1 ⟨rfl,hM1⟩;have x2:=hM1.cell (.inr HYH.out) x2;have x3:=hM1.cell (.inr HYH.out) x3;have M1:Hid (bh lo hi w w1):=M0.out.trans hM1;have z1:=World.block_lt_of_cell? _ _ x2;simp only at z1;obtain ⟨K1,hK1⟩:∃K1:Nat,K1=k+5*nm:=⟨_,rfl⟩;rw [← hK1] at CL ⊢;clear hM1 hK1;go_wp2_with fail
 refine (CL.out _ (HB.out.mark M1.out).levs).mono ?_;rintro e w2 ⟨rfl,hM2⟩;have x3:=hM2.cell (.inr HYH.out) x3;have M2:Hid (bh lo hi w w2):=M1.out.trans hM2;have z1:=World.block_lt_of_cell? _ _ x3;simp only at z1;clear hM2 x2;go_wp2_with fail
 have hs:=(HB.out.mark M2.out).sn;refine (tg lo hi b3 ns K2 _ hs.1 hs.2.1 hs.2.2 hn2).mono ?_;rintro e w3 ⟨rfl,hM3⟩;have M3:Hid (bh lo hi w w3):=M2.out.trans hM3;clear hM3 hs x3;obtain ⟨K3,hK3⟩:∃K3:Nat,K3=K2+ns:=⟨_,rfl⟩;rw [← hK3];clear hK3;go_wp2;go_ret;exact ⟨⟨K3,rfl⟩,M3.out⟩
end Go.Proofs.YtlmgojlffgkciaaGreat
