/- Walks. -/
import Derived.Test.YtehiefdphnljaaaGreatDoorSw05
namespace Go.Proofs.YtehiefdphnljaaaGreatDoor
set_option maxRecDepth 100000
set_option maxHeartbeats 40000000
open Go.RowKit
theorem gF (lo:Nat) (a:Option Addr) (len cap:Nat) (B:List aq) (w:World) (hP:aF lo w a len cap B) (hS:eF B) (hE:er B) :
 Calls Tryz.prog 125 #[.slice a len cap] w fun e w'=>e=.returned (.slice (some ⟨w.heap.size,0,none⟩) len len)∧(∃es,ch w.heap.size w'.heap.size w' w.heap.size len B es)∧w.heap.size<w'.heap.size∧Below w.heap.size w w':=by
 have HLEN:Hid (B.length=len):=hP.length;have HWF:Hid (∀p ∈ B,(Lit.int .i64 p.2).wf=true):=hP.wfs;have hbig:len≤1048576:=by have:=hP.length;have:=hS.1;omega
 have HSM:Hid _:=hS;have HSE:Hid _:=hE;have HL:Hid _:=hP;clear hP hS hE;obtain ⟨i0,hi,hz0,hz1,hz2⟩:=info_parts Tryz.infoRun;go_enter Tryz.func125,Tryz.ntmps125
 go_wp2_with (at_make;refine wpList_make_full _ rfl _ _ 83 rfl w.heap.size 119 i0 _ 2 Tryz.underlying83 hi hz0 hz1 .i64 .i64 _ _ len rfl rfl (by simp) (by simp) (by rw [hz2];omega) (by unfold maxLen;omega) (Nat.le_refl _) ?_;intro w1 hown hgrow)
 have hb1:Below w.heap.size w w1:=(Below.refl _ _).grown hgrow (Nat.le_refl _) (by simp);have hsz1:w.heap.size<w1.heap.size:=(hown.lt _ rfl).2;obtain ⟨G,hG⟩:∃G,w.heap.size=G:=⟨_,rfl⟩;rw [hG] at hown hsz1 ⊢;have HG0:Hid (w.heap.size=G):=hG;have HBW:Hid (Below G w w1):=by show Below G w w1;rw [← hG];exact hb1
 clear hG hb1 hgrow;go_loopw [11] (fun i wr=>∃(k:Nat) (xs:List Value) (es:Nat→Nat),k≤len∧i=.int .i64 k∧wr.ownsRow G 119 2 (.slice (some ⟨G,0,none⟩) len len) len xs∧Below G w wr∧(∀(j:Nat) (p:aq),j<k→B[j]?=some p→xs[j*2]?=some (.slice (some ⟨es j,0,none⟩) p.1.length p.1.length)∧xs[j*2+1]?=some (.int .i64 p.2)∧aE wr (G+1) (es j) p.1.length p.1.length p.1)∧(∀i j,i<j→j<k→es i<es j)∧(∀i,i<k→es i<wr.heap.size)) (fun i _=>len - (intOf i).toNat)
 case atStart=>exact ⟨0,_,fun _=>0,Nat.zero_le _,rfl,hown,HBW.out,(fun j l h=>absurd h (Nat.not_lt_zero _)),(fun i j _ h=>absurd h (Nat.not_lt_zero _)),(fun i h=>absurd h (Nat.not_lt_zero _))⟩
 case round =>
  obtain ⟨k,xs,es,hk,rfl,ho,hb,hrow,hup,htop⟩:=hrel;have HROW:Hid (∀(j:Nat) (p:aq),j<k→B[j]?=some p→xs[j*2]?=some (.slice (some ⟨es j,0,none⟩) p.1.length p.1.length)∧xs[j*2+1]?=some (.int .i64 p.2)∧aE wr (G+1) (es j) p.1.length p.1.length p.1):=hrow;have HUP:Hid (∀i j,i<j→j<k→es i<es j):=hup;have HTOP:Hid (∀i,i<k→es i<wr.heap.size):=htop;clear hrow hown hup htop;have hzr:G<wr.heap.size:=(ho.lt _ rfl).2;have hbw:Below w.heap.size w wr:=by rw [HG0.out];exact hb
  have HB:Hid (Below G w wr):=hb;clear hb;by_cases hlt:k<len
  · have hltI:(k:Int)<(len:Int):=by omega
    obtain ⟨b,off,rfl,hbb⟩:=HL.out.form (by omega);obtain ⟨L,m,s,n,c,hg,_,g0,g1,hLk⟩:=HL.out.run hbw k hlt;have hn:n≤1048576:=by
     have:=HSM.out.2 _ (List.mem_of_getElem? hg);have:=hLk.1.length;simp only at *;omega
    have HSL:Hid (fj L):=HSE.out _ (List.mem_of_getElem? hg);have HG:Hid (B[k]?=some (L,m)):=hg;have HBN:Hid (L.length=n):=hLk.1.length;have hbk:b<wr.heap.size:=Nat.lt_of_lt_of_le hbb hbw.size;have HLK:Hid (an wr s n c L):=hLk.1;have HX:Hid (xs.length=len*2):=ho.1;have HO:Hid (wr.ownsRow G 119 2 (.slice (some ⟨G,0,none⟩) len len) len xs):=ho;clear hg hLk ho hbw;go_upto_region 5 with fail
    obtain ⟨X,hX⟩:∃X,wr.heap.size=X:=⟨_,rfl⟩;obtain ⟨W,hW⟩:=aw (wr.alloc (.cells #[.slice s n c,.int .i64 m] 119));have kW:Below wr.heap.size wr W:=by rw [hW];exact (Below.refl _ _).alloc (Nat.le_refl _) _
    have x0:W.cell? ⟨X,0,none⟩=some (.slice s n c):=by rw [hW,← hX];simp
    have x1:W.cell? ⟨X,1,none⟩=some (.int .i64 m):=by rw [hW,← hX];simp
    have xz:X<W.heap.size:=World.block_lt_of_cell? _ _ x0;have HKW:Hid (Below wr.heap.size wr W):=kW;rw [← hW,hX];clear hW kW hX;have HOW:Hid (W.ownsRow G 119 2 (.slice (some ⟨G,0,none⟩) len len) len xs):=HO.out.kept (row:=none) (lS HKW.out) (.inr (by simp [Value.ownBlock]));have hzW:G<W.heap.size:=Nat.lt_of_lt_of_le hzr HKW.out.size;go_region_with (go_at_call 126;refine (ip s n c L _ ((HLK.out.keep HKW.out).keep ((Below.refl _ W).drew)) hn HSL.out).mono ?_;rintro e w2 ⟨rfl,hown2,hsz2,hb2⟩;have k2:Below W.heap.size W w2:=((Below.refl _ W).drew).trans hb2;have x1':=cell_later k2 x1;have xz':=Nat.lt_of_lt_of_le xz k2.size;have ho2:w2.ownsRow G 119 2 (.slice (some ⟨G,0,none⟩) len len) len xs:=HOW.out.kept (row:=none) (lS k2) (.inr (by simp [Value.ownBlock]));obtain ⟨v0,c0⟩:∃v,w2.cell? ⟨G,k*2,none⟩=some v:=⟨_,(ho2.cellAt _ (by omega)).trans (List.getElem?_eq_getElem (by rw [HX.out];omega))⟩;obtain ⟨v1,c1⟩:∃v,w2.cell? ⟨G,k*2+1,none⟩=some v:=⟨_,(ho2.cellAt _ (by omega)).trans (List.getElem?_eq_getElem (by rw [HX.out];omega))⟩;have f0:w2.frozen? ⟨G,k*2,none⟩=false:=ho2.frozenAt _;have f1:w2.frozen? ⟨G,k*2+1,none⟩=false:=ho2.frozenAt _;have zG:=Nat.lt_of_lt_of_le hzW k2.size)
    all_goals
     have HE2:Hid (aE w2 (G+1) W.heap.size n n L):=hown2.mono hzW;have HZ2:Hid (W.heap.size<w2.heap.size∧wr.heap.size≤W.heap.size):=⟨hsz2,HKW.out.size⟩;have HO2:Hid (w2.ownsRow G 119 2 (.slice (some ⟨G,0,none⟩) len len) len xs):=ho2;have K2:Hid (Below wr.heap.size wr w2):=HKW.out.trans (k2.mono HKW.out.size);clear hown2 hsz2 hb2 k2 ho2 c0 c1 f0 f1 HOW HKW x0 x1 xz;go_wp2;go_roundw
     case rel =>
      have t0:=HO2.out.stored (k*2) (.slice (some ⟨W.heap.size,0,none⟩) n n);have t1:=t0.1.stored (k*2+1) (.int .i64 m);have hgr:=t0.2.trans t1.2;have hz:=HZ2.out;have hss:=hgr.size;refine ⟨k+1,_,fun i=>if i=k then W.heap.size else es i,by omega,by go_num,t1.1,?_,?_,?_,?_⟩
      · exact ((HB.out.trans (K2.out.mono (by omega))).setCell (p:=⟨G,_,none⟩) (Nat.le_refl _) _).setCell (p:=⟨G,_,none⟩) (Nat.le_refl _) _
      · intro j p hj hp;by_cases hjk:j=k
        · subst hjk;rw [HG.out] at hp;cases hp;simp only [if_true,HBN.out];refine ⟨?_,?_,HE2.out.grown hgr (fun e=>?_)⟩
          · rw [List.getElem?_set_ne (by omega),List.getElem?_set_self (by rw [HX.out];omega)]
          · rw [List.getElem?_set_self (by rw [List.length_set,HX.out];omega)]
          · have h1:W.heap.size=G:=Option.some.inj e;omega
        · obtain ⟨h1,h2,h3⟩:=HROW.out j p (by omega) hp;simp only [if_neg hjk];refine ⟨?_,?_,(h3.below K2.out).grown hgr (fun e=>?_)⟩
          · rw [List.getElem?_set_ne (by omega),List.getElem?_set_ne (by omega)];exact h1
          · rw [List.getElem?_set_ne (by omega),List.getElem?_set_ne (by omega)];exact h2
          · have h4:es j=G:=Option.some.inj e;have h5:=h3.lt.1;omega
      · intro i j hij hj;simp only;by_cases hjk:j=k
        · rw [if_pos hjk,if_neg (by omega)];have:=HTOP.out i (by omega);omega
        · rw [if_neg hjk,if_neg (by omega)];exact HUP.out i j hij (by omega)
      · intro i hi';simp only;by_cases hik:i=k
        · rw [if_pos hik];omega
        · rw [if_neg hik];have:=HTOP.out i (by omega);have:=K2.out.size;omega
     case measure=>simp [intOf];omega
  · go_wp2;go_ret;rw [HG0.out];have hlt:∀{i:Nat} {p:aq},B[i]?=some p→i<k:=fun hp=>by have:=(List.getElem?_eq_some_iff.1 hp).1;rw [HLEN.out] at this;omega
    have hkl:k=len:=by omega
    have hup:=HUP.out;have htop:=HTOP.out;rw [hkl] at hup htop;exact ⟨rfl,⟨es,⟨HLEN.out,⟨xs,ho,fun i p hp=>⟨(HROW.out i p (hlt hp) hp).1,(HROW.out i p (hlt hp) hp).2.1⟩⟩,fun i p hp=>(HROW.out i p (hlt hp) hp).2.2.mono (by omega),hup,⟨hzr,htop⟩,HWF.out⟩⟩,hzr,HB.out⟩
end Go.Proofs.YtehiefdphnljaaaGreatDoor
