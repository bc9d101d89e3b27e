/- Walks. -/
import Derived.Test.YtehiefdphnljaaaGreatDoorSw02
namespace Go.Proofs.YtehiefdphnljaaaGreatDoor
set_option maxRecDepth 100000
set_option maxHeartbeats 40000000
open Go.RowKit
variable {B:List aq} {es:Nat→Nat} {g hi j lo n:Nat} {w w':World}
def fl (k:Nat):ae:=(dE k,((k+1:Nat):Int),((k+2:Nat):Int),dE (k+3),((k+4:Nat):Int))
def dc (k n:Nat):List ae:=(List.range n).map (fun j=>fl (k+5*j))
theorem eJ (k n:Nat):(dc k n).length=n:=by simp [dc]
theorem rt {k:Nat} {l:ae} (h:(dc k n)[j]?=some l):j<n∧l=fl (k+5*j):=by
 have h1:=(List.getElem?_eq_some_iff.1 h).1;rw [eJ] at h1;refine ⟨h1,?_⟩;have:(dc k n)[j]?=some (fl (k+5*j)):=by simp [dc,h1]
 rw [this] at h;cases h;rfl
theorem zU (f p:Nat) (acc:List UInt8):(iS f p acc).length≤f+acc.length:=by
 induction f generalizing p acc with
 | zero=>simp [iS]
 | succ f ih =>
  unfold iS;split
  · omega
  · have:=ih (p / 10) (UInt8.ofNat (48+p % 10) :: acc);rw [List.length_cons] at this;omega
theorem mY (k:Nat):(dE k).size≤1+k:=by
 unfold dE;rw [ByteArray.size_append];have:=zU k k [];show 1+(iS k k []).toArray.size≤1+k
 simp at this ⊢;exact this
theorem jU (x:Nat) (h:x≤2000000000):(Lit.int .i64 (x:Int)).wf=true:=by
 simp only [Lit.wf,IntKind.min,IntKind.max,IntKind.signed,IntKind.bits,Bool.and_eq_true,decide_eq_true_eq,if_true];omega
theorem yP (k n:Nat) (h:k+5*n≤1000000000):∀l ∈ dc k n,dt l:=by
 intro l hl;obtain ⟨j,hj,rfl⟩:=List.mem_map.1 hl;have hj':=List.mem_range.1 hj;have s1:=mY (k+5*j);have s2:=mY (k+5*j+3);exact ⟨by show (dE (k+5*j)).size≤maxLen;unfold maxLen;omega,jU _ (by omega),jU _ (by omega),by show (dE (k+5*j+3)).size≤maxLen;unfold maxLen;omega,jU _ (by omega)⟩
theorem oT (base b n cap k:Nat) (L:List ae) (w:World) (hO:aE w base b n cap L) (hk:1≤k) (hn:k+5*n≤1000000000) :
 Calls Tryz.prog 13 #[sL b n cap,iT k] w fun e w'=>e=.returned (iT ((k+5*n:Nat):Int))∧aE w' base b n cap (dc k n)∧w.grownBy w' (some b):=by
 have hbw:=hO.lt.2;have HO0:Hid (w.ownsRow base 59 5 (sL b n cap) n (aG L)):=hO.owns;clear hO;go_enter Tryz.func13,Tryz.ntmps13
 go_wp2;go_loopw [1,5] (fun kv iv wr=>∃(j:Nat) (xs:List Value),j≤n∧iv=iT j∧kv=iT ((k+5*j:Nat):Int)∧wr.ownsRow base 59 5 (sL b n cap) n xs∧w.grownBy wr (some b)∧(∀i,i<j→fx xs i (fl (k+5*i)))) (fun _ iv _=>n - (intOf iv).toNat)
 case atStart=>exact ⟨0,_,Nat.zero_le _,rfl,rfl,HO0.out,⟨rfl,rfl,rfl,Nat.le_refl _,fun _ _ _=>rfl⟩,fun i hi=>absurd hi (Nat.not_lt_zero _)⟩
 case round =>
  obtain ⟨j,xs,hj,rfl,rfl,ho,hg,hrow⟩:=hrel;have HROW:Hid (∀i,i<j→fx xs i (fl (k+5*i))):=hrow;have HO:Hid (wr.ownsRow base 59 5 (sL b n cap) n xs):=ho;have HG:Hid (w.grownBy wr (some b)):=hg;have hbr:=(ho.lt b rfl).2;clear hrow ho hg;obtain ⟨K,hK⟩:=aw (k+5*j);rw [← hK];by_cases hlt:j<n
  · have hK1:1≤K:=by omega
    have hK2:K+5≤1000000000:=by omega
    have HK:Hid (K=k+5*j):=hK;clear hK;go_wp2_with fail
    refine (dV K _ hK1 (by omega)).mono ?_;rintro e w1 ⟨rfl,hb1⟩;have ho1:w1.ownsRow base 59 5 (sL b n cap) n xs:=HO.out.kept (row:=none) ⟨hb1.os,hb1.tape,hb1.output,hb1.size,fun k hk _=>hb1.block k hk⟩ (.inr (by simp [Value.ownBlock]));have c0:∃v,w1.cell? ⟨b,j*5,none⟩=some v:=⟨_,(ho1.cellAt _ (by omega)).trans (List.getElem?_eq_getElem (by rw [ho1.1];omega))⟩;obtain ⟨v0,c0⟩:=c0;have f0:w1.frozen? ⟨b,j*5,none⟩=false:=ho1.frozenAt _;have c1:∃v,w1.cell? ⟨b,j*5+1,none⟩=some v:=⟨_,(ho1.cellAt _ (by omega)).trans (List.getElem?_eq_getElem (by rw [ho1.1];omega))⟩;obtain ⟨v1,c1⟩:=c1;have f1:w1.frozen? ⟨b,j*5+1,none⟩=false:=ho1.frozenAt _;have c2:∃v,w1.cell? ⟨b,j*5+2,none⟩=some v:=⟨_,(ho1.cellAt _ (by omega)).trans (List.getElem?_eq_getElem (by rw [ho1.1];omega))⟩;obtain ⟨v2,c2⟩:=c2;have f2:w1.frozen? ⟨b,j*5+2,none⟩=false:=ho1.frozenAt _;have c3:∃v,w1.cell? ⟨b,j*5+3,none⟩=some v:=⟨_,(ho1.cellAt _ (by omega)).trans (List.getElem?_eq_getElem (by rw [ho1.1];omega))⟩;obtain ⟨v3,c3⟩:=c3;have f3:w1.frozen? ⟨b,j*5+3,none⟩=false:=ho1.frozenAt _;have c4:∃v,w1.cell? ⟨b,j*5+4,none⟩=some v:=⟨_,(ho1.cellAt _ (by omega)).trans (List.getElem?_eq_getElem (by rw [ho1.1];omega))⟩;obtain ⟨v4,c4⟩:=c4;have f4:w1.frozen? ⟨b,j*5+4,none⟩=false:=ho1.frozenAt _;have HO1:Hid (w1.ownsRow base 59 5 (sL b n cap) n xs):=ho1;have hbw1:=(ho1.lt b rfl).2;clear ho1;have CM:Hid (∀w,Calls Tryz.prog 31 #[iT ((K:Int)+1+1+1)] w fun e w'=>e=.returned (.string (dE (K+3)))∧Bl w w'):=by
     have e3:(K:Int)+1+1+1=((K+3:Nat):Int):=by omega
     rw [e3];exact fun w=>dV (K+3) w (by omega) (by omega)
    have HME:Hid (fl (k+5*j)=(dE K,(K:Int)+1,(K:Int)+1+1,dE (K+3),(K:Int)+1+1+1+1)):=by
     show fl (k+5*j)=_
     rw [← HK.out];unfold fl;have a1:((K+1:Nat):Int)=(K:Int)+1:=by omega
     have a2:((K+2:Nat):Int)=(K:Int)+1+1:=by omega
     have a4:((K+4:Nat):Int)=(K:Int)+1+1+1+1:=by omega
     rw [a1,a2,a4]
    go_wp2_with fail
    have t0:=HO1.out.stored (j*5) (.string (dE K));have t1:=t0.1.stored (j*5+1) (iT ((K:Int)+1));have t2:=t1.1.stored (j*5+2) (iT ((K:Int)+1+1));obtain ⟨W1,hW1⟩:=aw ((((w1.setCell ⟨b,j*5,none⟩ (.string (dE K))).setCell ⟨b,j*5+1,none⟩ (iT ((K:Int)+1))).setCell ⟨b,j*5+2,none⟩ (iT ((K:Int)+1+1))));have ho2:W1.ownsRow base 59 5 (sL b n cap) n ((xs.set (j*5) (.string (dE K))).set (j*5+1) (iT ((K:Int)+1)) |>.set (j*5+2) (iT ((K:Int)+1+1))):=by rw [hW1];exact t2.1
    have g1:wr.grownBy W1 (some b):=by rw [hW1];exact ⟨hb1.os,hb1.tape,hb1.output,by have:=hb1.size;simpa [World.setCell] using this,fun q hq hne=>by
     have hqb:q≠b:=fun e=>hne (by rw [e])
     rw [Below.heap_setCell _ _ _ _ hqb,Below.heap_setCell _ _ _ _ hqb,Below.heap_setCell _ _ _ _ hqb];exact hb1.block q hq⟩
    rw [← hW1];clear hW1 t0 t1 t2 c0 c1 c2 c3 c4 f0 f1 f2 f3 f4 hb1;refine (CM.out _).mono ?_;rintro e w2 ⟨rfl,hb2⟩;have ho3:w2.ownsRow base 59 5 (sL b n cap) n ((xs.set (j*5) (.string (dE K))).set (j*5+1) (iT ((K:Int)+1)) |>.set (j*5+2) (iT ((K:Int)+1+1))):=ho2.kept (row:=none) ⟨hb2.os,hb2.tape,hb2.output,hb2.size,fun k hk _=>hb2.block k hk⟩ (.inr (by simp [Value.ownBlock]));have d3:∃v,w2.cell? ⟨b,j*5+3,none⟩=some v:=⟨_,(ho3.cellAt _ (by omega)).trans (List.getElem?_eq_getElem (by rw [ho3.1];omega))⟩;obtain ⟨y3,d3⟩:=d3;have e3:w2.frozen? ⟨b,j*5+3,none⟩=false:=ho3.frozenAt _;have d4:∃v,w2.cell? ⟨b,j*5+4,none⟩=some v:=⟨_,(ho3.cellAt _ (by omega)).trans (List.getElem?_eq_getElem (by rw [ho3.1];omega))⟩;obtain ⟨y4,d4⟩:=d4;have e4:w2.frozen? ⟨b,j*5+4,none⟩=false:=ho3.frozenAt _;have HO3:Hid (w2.ownsRow base 59 5 (sL b n cap) n ((xs.set (j*5) (.string (dE K))).set (j*5+1) (iT ((K:Int)+1)) |>.set (j*5+2) (iT ((K:Int)+1+1)))):=ho3;have hbw2:=(ho3.lt b rfl).2;have hxl:=HO.out.1;have HXL:Hid (xs.length=n*5):=hxl;clear ho3 ho2 hxl;go_wp2;go_roundw
    case rel =>
     have t3:=HO3.out.stored (j*5+3) (.string (dE (K+3)));have t4:=t3.1.stored (j*5+4) (iT ((K:Int)+1+1+1+1));refine ⟨j+1,_,by omega,by go_num,?_,t4.1,?_,?_⟩
     · congr 1;have:=HK.out;omega
     · have G:=HG.out;exact ⟨((hb2.os.trans g1.os).trans G.os),((hb2.tape.trans g1.tape).trans G.tape),((hb2.output.trans g1.output).trans G.output),by have:=hb2.size;have:=g1.size;have:=G.size;simp [World.setCell];omega,fun q hq hne=>by
        have hqb:q≠b:=fun e=>hne (by rw [e])
        rw [Below.heap_setCell _ _ _ _ hqb,Below.heap_setCell _ _ _ _ hqb];have h1:=G.size;have h2:=g1.size;exact (hb2.block q (by omega)).trans ((g1.block q (by omega) hne).trans (G.block q hq hne))⟩
     · intro i hi;by_cases hij:i=j
       · subst hij;rw [HME.out];exact iJ _ _ _ _ _ (by rw [HXL.out];omega)
       · exact gO (HROW.out i (by omega)) hij _ _ _ _ _
    case measure=>simp [intOf];omega
  · have hjn:j=n:=by omega
    subst hjn;have HK:Hid (K=k+5*j):=hK;clear hK;go_wp2;go_ret;refine ⟨gV (by rw [HK.out]),⟨?_,eJ k j,yP k j hn⟩,HG.out⟩;rw [← mS (xs:=xs) (L:=dc k j) (by rw [eJ];exact HO.out.1) (fun i l hl=>by obtain ⟨h1,rfl⟩:=rt hl;exact HROW.out i h1)];exact HO.out
theorem pf (b n cap k:Nat) (w:World) (hL:an w (pT b) n cap (dc k n)) (hk:1≤k) (hn:k+5*n≤1000000000) :
 Calls Tryz.prog 59 #[sL b n cap,iT k] w fun e w'=>e=.returned (iT ((k+5*n:Nat):Int))∧Bl w w':=by
 have HL:=ar hL;clear hL;go_enter Tryz.func59,Tryz.ntmps59
 go_wp2;go_loopw [1,5] (fun kv iv wr=>∃(j:Nat),j≤n∧iv=iT j∧kv=iT ((k+5*j:Nat):Int)∧Bl w wr) (fun _ iv _=>n - (intOf iv).toNat)
 case atStart=>exact ⟨0,Nat.zero_le _,rfl,rfl,Below.refl _ _⟩
 case round =>
  obtain ⟨j,hj,rfl,rfl,hb⟩:=hrel;obtain ⟨K,hK⟩:=aw (k+5*j);rw [← hK];by_cases hlt:j<n
  · have hK1:1≤K:=by omega
    have hK2:K+5≤1000000000:=by omega
    have hbb:=(HL.out.lies _ rfl (by omega)).1;simp only at hbb;have hbr:b<wr.heap.size:=Nat.lt_of_lt_of_le hbb hb.size;have hent:=(HL.out.cells _ rfl j (by rw [eJ];exact hlt)).moved (fun o=>hb.cell (p:=⟨b,o,none⟩) hbb);have hme:(dc k n)[j]'(by rw [eJ];exact hlt)=fl K:=by
     have:=(rt (k:=k) (n:=n) (j:=j) (List.getElem?_eq_getElem (by rw [eJ];exact hlt))).2;rw [this,hK]
    rw [hme] at hent;simp only [Nat.zero_add] at hent;obtain ⟨c0,c1,c2,c3,c4⟩:=hent;unfold fl at c0 c1 c2 c3 c4;simp only at c0 c1 c2 c3 c4;have a1:((K+1:Nat):Int)=(K:Int)+1:=by omega
    have a2:((K+2:Nat):Int)=(K:Int)+1+1:=by omega
    have a4:((K+4:Nat):Int)=(K:Int)+1+1+1+1:=by omega
    rw [a1] at c1;rw [a2] at c2;rw [a4] at c4;clear a1 a2 a4 hme;have HK:Hid (K=k+5*j):=hK;clear hK;have CM0:Hid (∀w,Calls Tryz.prog 31 #[iT (K:Int)] w fun e w'=>e=.returned (.string (dE K))∧Bl w w'):=fun w=>dV K w hK1 (by omega)
    have CM:Hid (∀w,Calls Tryz.prog 31 #[iT ((K:Int)+1+1+1)] w fun e w'=>e=.returned (.string (dE (K+3)))∧Bl w w'):=by
     have e3:(K:Int)+1+1+1=((K+3:Nat):Int):=by omega
     rw [e3];exact fun w=>dV (K+3) w (by omega) (by omega)
    have HMK:Hid (∀w',Bl wr w'→(w'.cell? ⟨b,j*5,none⟩=some (.string (dE K))∧w'.cell? ⟨b,j*5+3,none⟩=some (.string (dE (K+3)))∧b<w'.heap.size)):=fun w' kk=>⟨cell_later kk c0,cell_later kk c3,Nat.lt_of_lt_of_le hbr kk.size⟩
    have k0:Bl wr wr.drew:=(Below.refl _ wr).drew;go_wp2_with fail
    refine dC HMK k0 fun aa=>?_
    refine aK 0 6 aa ?_;refine aP 6 fun K hK=>?_
    go_simp;refine (CM0.out _).mono ?_;rintro e w1 ⟨rfl,bw1⟩;have k1:Bl wr w1:=k0.trans (bw1.mono k0.size);go_wp2_with fail
    refine hK.out _ _ (HMK.out _ k1) (fun aa=>?_);clear hK K;(try go_frame);refine aK 7 1 aa ?_;refine dN ?_;have z1:=cell_later k1 c1;have z2:=cell_later k1 c2;have z4:=cell_later k1 c4;have hbz:=Nat.lt_of_lt_of_le hbr k1.size;go_wp2_with fail
    have k2:Bl wr w1.drew:=k1.trans ((Below.refl _ w1).drew.mono k1.size);refine dC HMK k2 fun aa=>?_
    refine aK 0 6 aa ?_;refine aP 6 fun K hK=>?_
    go_simp;refine (CM.out _).mono ?_;rintro e w3 ⟨rfl,bw3⟩;have k3:Bl wr w3:=k2.trans (bw3.mono k2.size);go_wp2_with fail
    refine hK.out _ _ (HMK.out _ k3) (fun aa=>?_);clear hK K;(try go_frame);refine aK 7 1 aa ?_;refine dN ?_;have y4:=cell_later k3 c4;have hby:=Nat.lt_of_lt_of_le hbr k3.size;clear z1 z2 z4;go_wp2;go_roundw
    case rel=>exact ⟨j+1,by omega,by go_num,by congr 1;have:=HK.out;omega,hb.trans (k3.mono hb.size)⟩
    case measure=>simp [intOf];omega
  · have hjn:j=n:=by omega
    subst hjn;have HK:Hid (K=k+5*j):=hK;clear hK;go_wp2;go_ret;exact ⟨gV (by rw [HK.out]),hb⟩
section
attribute [local go_sem] Oper.semAt_some
structure ch (lo hi:Nat) (w:World) (g n:Nat) (B:List aq) (es:Nat→Nat):Prop where
 len:B.length=n
 row:∃xs,w.ownsRow lo 119 2 (sL g n n) n xs∧∀(i:Nat) (p:aq),B[i]?=some p→xs[i*2]?=some (sL (es i) p.1.length p.1.length)∧xs[i*2+1]?=some (iT p.2)
 ents:∀(i:Nat) (p:aq),B[i]?=some p→aE w lo (es i) p.1.length p.1.length p.1
 up:∀i j,i<j→j<n→es i<es j
 top:g<hi∧∀i,i<n→es i<hi
 wfs:∀p ∈ B,(Lit.int .i64 p.2).wf=true
theorem ch.keepO {lo' hi':Nat} (h:ch lo hi w g n B es) (k:aI lo' hi' w w') (hd:hi≤lo'∨hi'≤lo):ch lo hi w' g n B es:=by
 obtain ⟨xs,h1,h2⟩:=h.row;have hg:=(h1.lt g rfl).1;refine ⟨h.len,⟨xs,k.row h1 (by have:=h.top.1;omega),h2⟩,fun i p hp=>?_,h.up,h.top,h.wfs⟩;have hO:=h.ents i p hp;have hi':=(List.getElem?_eq_some_iff.1 hp).1;exact k.own hO (by have h3:=hO.lt.1;have h4:=h.top.2 i (by rw [← h.len];exact hi');omega)
theorem ch.below (h:ch lo hi w g n B es) (hb:Bl w w'):ch lo hi w' g n B es:=by
 obtain ⟨xs,h1,h2⟩:=h.row;exact ⟨h.len,⟨xs,h1.kept (row:=none) ⟨hb.os,hb.tape,hb.output,hb.size,fun k hk _=>hb.block k hk⟩ (.inr (by simp [Value.ownBlock])),h2⟩,fun i p hp=>(h.ents i p hp).below hb,h.up,h.top,h.wfs⟩
theorem ch.ne (h:ch lo hi w g n B es) {i:Nat} {p:aq} (hp:B[i]?=some p):g≠es i:=by
 intro e;obtain ⟨xs,h1,_⟩:=h.row;have b1:=bK h1;have b2:=bK (h.ents i p hp).owns;rw [← e] at b2;exact absurd (b1.kind b2) (by decide)
theorem ch.cell (h:ch lo hi w g n B es) {i:Nat} {p:aq} (hp:B[i]?=some p):w.cell? ⟨g,i*2,none⟩=some (sL (es i) p.1.length p.1.length)∧w.cell? ⟨g,i*2+1,none⟩=some (iT p.2)∧w.frozen? ⟨g,i*2+1,none⟩=false∧g<w.heap.size:=by
 obtain ⟨xs,h1,h2⟩:=h.row;have hi':=(List.getElem?_eq_some_iff.1 hp).1;rw [h.len] at hi';exact ⟨(h1.cellAt _ (by omega)).trans (h2 i p hp).1,(h1.cellAt _ (by omega)).trans (h2 i p hp).2,h1.frozenAt _,(h1.lt g rfl).2⟩
theorem ch.put {w1:World} {p:aq} (h:ch lo hi w g n B es) (hp:B[j]?=some p) {L:List ae} (hL:L.length=p.1.length) (hO:aE w1 lo (es j) p.1.length p.1.length L) (hg:w.grownBy w1 (some (es j))) (v:Int) (hv:(Lit.int .i64 v).wf=true) :
 ch lo hi (w1.setCell ⟨g,j*2+1,none⟩ (iT v)) g n (B.set j (L,v)) es:=by
 have hne:=h.ne hp;have hjn:j<B.length:=(List.getElem?_eq_some_iff.1 hp).1;obtain ⟨xs,h1,h2⟩:=h.row;have hxl:=h1.1;have hln:=h.len;have r1:=h1.kept hg (.inr (by simpa [Value.ownBlock] using hne));have r2:=(r1.stored (j*2+1) (iT v)).1;refine ⟨by rw [List.length_set];exact h.len,⟨_,r2,fun i q hq=>?_⟩,fun i q hq=>?_,h.up,h.top,fun q hq=>?_⟩
 · by_cases e:j=i
   · subst e;rw [List.getElem?_set_self hjn] at hq;cases hq;rw [List.getElem?_set_ne (by omega),List.getElem?_set_self (by omega)];simp only [hL];exact ⟨(h2 j p hp).1,trivial⟩
   · rw [List.getElem?_set_ne e] at hq;rw [List.getElem?_set_ne (by omega),List.getElem?_set_ne (by omega)];exact h2 i q hq
 · by_cases e:j=i
   · subst e;rw [List.getElem?_set_self hjn] at hq;cases hq;simp only [hL];exact hO.setCell (p:=⟨g,j*2+1,none⟩) hne _
   · rw [List.getElem?_set_ne e] at hq;have hi':=(List.getElem?_eq_some_iff.1 hq).1;refine (((h.ents i q hq).grown hg (fun e'=>?_))).setCell (p:=⟨g,j*2+1,none⟩) (h.ne hq) _;have e2:=Option.some.inj e';rcases Nat.lt_or_gt_of_ne e with h3 | h3
     · have:=h.up j i h3 (by omega);omega
     · have:=h.up i j h3 (by omega);omega
 · rcases List.mem_or_eq_of_mem_set hq with h3 | h3
   · exact h.wfs q h3
   · subst h3;exact hv
def jL (k:Nat):List aq→List aq
 | []=>[]
 | p :: B=>(dc k p.1.length,((k+5*p.1.length:Nat):Int)) :: jL (k+5*p.1.length+1) B
theorem iL:∀(B:List aq) (k:Nat),(jL k B).length=B.length
 | [],_=>rfl
 | p :: B,k=>by simp [jL,iL B]
theorem pM:∀{B:List aq} {k i:Nat} {p:aq},B[i]?=some p→(jL k B)[i]?=some (dc (k+ew (B.take i)) p.1.length,((k+ew (B.take i)+5*p.1.length:Nat):Int))
 | [],_,_,_,h=>by simp at h
 | q :: B,k,0,p,h=>by
  simp at h
  subst h
  simp [jL,ew]
 | q :: B,k,i+1,p,h=>by
  simp at h
  have:=pM (k:=k+5*q.1.length+1) h
  simp only [jL,List.getElem?_cons_succ,List.take_succ_cons]
  rw [this]
  have e:k+5*q.1.length+1+ew (B.take i)=k+ew (q :: B.take i):=by simp only [ew,List.map_cons,List.sum_cons];omega
  rw [e]
theorem rg {α:Type} {A B:List α} {x:α} (hl:A.length=B.length) (hx:A[j]?=some x):(A.take j++B.drop j).set j x=A.take (j+1)++B.drop (j+1):=by
 have hj:=(List.getElem?_eq_some_iff.1 hx).1;apply List.ext_getElem?;intro i;have ht:(A.take j).length=j:=by rw [List.length_take];omega
 have ht1:(A.take (j+1)).length=j+1:=by rw [List.length_take];omega
 by_cases e:j=i
 · subst e;rw [List.getElem?_set_self (by rw [List.length_append,ht,List.length_drop];omega),List.getElem?_append_left (by omega),List.getElem?_take_of_lt (by omega),hx]
 · rw [List.getElem?_set_ne e];by_cases hi:i<j
   · rw [List.getElem?_append_left (by omega),List.getElem?_append_left (by omega),List.getElem?_take_of_lt hi,List.getElem?_take_of_lt (by omega)]
   · rw [List.getElem?_append_right (by omega),List.getElem?_append_right (by omega),ht,ht1,List.getElem?_drop,List.getElem?_drop];congr 1
     omega
theorem uw {α:Type} {A B:List α} {x:α} (hl:A.length=B.length) (hx:B[j]?=some x):(A.take j++B.drop j)[j]?=some x:=by
 have hj:=(List.getElem?_eq_some_iff.1 hx).1;have ht:(A.take j).length=j:=by rw [List.length_take];omega
 rw [List.getElem?_append_right (by omega),ht,List.getElem?_drop];simpa using hx
theorem tD (lo hi g n k:Nat) (B:List aq) (es:Nat→Nat) (w:World) (hR:ch lo hi w g n B es) (hcm:n≤1048576) (hsm:∀p ∈ B,p.1.length≤1048576) (hk:1≤k) (hn:k+ew B≤1000000000) :
 Calls Tryz.prog 99 #[sL g n n,iT k] w fun e w'=>e=.returned (iT ((k+ew B:Nat):Int))∧ch lo hi w' g n (jL k B) es∧aI lo hi w w':=by
 have HLN:Hid (B.length=n):=hR.len;have HR0:=ar hR;have HSM:=ar hsm;have HN:=ar hn;clear hR hsm hn;obtain ⟨D,hD⟩:=aw (jL k B);have HDL:Hid (D.length=B.length):=by rw [hD];exact iL B k
 have HDA:Hid (∀i p,B[i]?=some p→D[i]?=some (dc (k+ew (B.take i)) p.1.length,((k+ew (B.take i)+5*p.1.length:Nat):Int))):=by rw [hD];exact fun i p h=>pM h
 rw [← hD];clear hD;go_enter Tryz.func99,Tryz.ntmps99
 go_wp2;go_loopw [1,5] (fun kv iv wr=>∃(j K:Nat),j≤n∧iv=iT j∧kv=iT (K:Int)∧K=k+ew (B.take j)∧ch lo hi wr g n (D.take j++B.drop j) es∧aI lo hi w wr) (fun _ iv _=>n - (intOf iv).toNat)
 case atStart=>exact ⟨0,k,Nat.zero_le _,rfl,rfl,by simp [ew],by simpa using HR0.out,aI.refl _ _ _⟩
 case round =>
  obtain ⟨j,K,hj,rfl,rfl,hK,hR,hM⟩:=hrel;have HM:Hid (aI lo hi w wr):=hM;have HR:Hid (ch lo hi wr g n (D.take j++B.drop j) es):=hR;have HK:Hid (K=k+ew (B.take j)):=hK;clear hK hM hR;by_cases hlt:j<n
  · have hltI:(j:Int)<(n:Int):=by omega
    obtain ⟨p,hp⟩:∃p,B[j]?=some p:=⟨_,List.getElem?_eq_getElem (by rw [HLN.out];exact hlt)⟩;have hpj:=uw HDL.out hp;obtain ⟨c0,_,_,hgw⟩:=HR.out.cell hpj;have hE:=HR.out.ents j p hpj;have hsp:=HSM.out p (List.mem_of_getElem? hp);have HNX:Hid (ew (B.take (j+1))=ew (B.take j)+(5*p.1.length+1)):=mW hp;have hle:K+5*p.1.length+1≤1000000000:=by
     have a1:=tA B (j+1);have a2:=HNX.out;have a3:=HN.out;have a4:=HK.out;omega
    have hk1:1≤K:=by have:=HK.out;omega
    have HP:Hid (B[j]?=some p):=hp;have HPJ:Hid ((D.take j++B.drop j)[j]?=some p):=hpj;obtain ⟨m,hm⟩:∃m,p.1.length=m:=⟨_,rfl⟩;have HMM:Hid (p.1.length=m):=hm;rw [hm] at c0 hE hsp hle;have CM:Hid (Calls Tryz.prog 13 #[sL (es j) m m,iT (K:Int)] wr fun e w'=>e=.returned (iT ((K+5*m:Nat):Int))∧aE w' lo (es j) m m (dc K m)∧wr.grownBy w' (some (es j))):=oT lo (es j) m m K p.1 wr hE hk1 (by omega);have HLJ:Hid (lo≤es j∧es j<hi∧lo≤g∧g<hi):=⟨hE.lt.1,HR.out.top.2 j hlt,by obtain ⟨xs,h1,_⟩:=HR.out.row;exact (h1.lt g rfl).1,HR.out.top.1⟩;clear hm hE hp hpj;go_wp2_with fail
    refine CM.out.mono ?_;rintro e' w1 ⟨rfl,hO1,hg1⟩;have hx1:g<w1.heap.size:=Nat.lt_of_lt_of_le hgw hg1.size;have hne:=HR.out.ne HPJ.out;have c1:=(HR.out.cell HPJ.out).2.1;have f1:=(HR.out.cell HPJ.out).2.2.1;have c1':w1.cell? ⟨g,j*2+1,none⟩=some (iT p.2):=hg1.cell c1 (fun e=>hne (Option.some.inj e));obtain ⟨xs0,hr0,_⟩:=HR.out.row;have f1':w1.frozen? ⟨g,j*2+1,none⟩=false:=(hr0.kept hg1 (.inr (by simpa [Value.ownBlock] using hne))).frozenAt _;obtain ⟨K1,hK1⟩:∃K1:Nat,K1=K+5*m:=⟨_,rfl⟩;have HK1:Hid (K1=K+5*m):=hK1;rw [← hK1];have hK1b:K1≤1000000000:=by omega
    have HO1:Hid (aE w1 lo (es j) m m (dc K m)):=hO1;have HG1:Hid (wr.grownBy w1 (some (es j))):=hg1;clear hK1 c0 hO1 hg1 c1 f1 hr0 hne;go_wp2;go_roundw
    case rel =>
     have a1:=HNX.out;have a2:=HK.out;have a3:=HK1.out;have a4:=HMM.out;have hl:=HLJ.out;refine ⟨j+1,K1+1,by omega,by go_num,by go_num,by omega,?_,?_⟩
     · have hx:=HDA.out j p HP.out;have hO:=HO1.out;rw [← a4] at hO;have hput:=HR.out.put HPJ.out (L:=dc K p.1.length) (eJ _ _) hO HG1.out (K1:Int) (jU _ (by omega));have he:(dc K p.1.length,(K1:Int))=(dc (k+ew (B.take j)) p.1.length,((k+ew (B.take j)+5*p.1.length:Nat):Int)):=by rw [← a2,a3,← a4]
       rw [he,rg HDL.out hx] at hput;exact hput
     · exact (HM.out.grown HG1.out hl.1 hl.2.1).trans ⟨rfl,rfl,rfl,by simp [World.setCell],fun q _ hq=>Below.heap_setCell _ _ _ _ (fun e=>by have e':q=g:=e;omega)⟩
    case measure=>simp [intOf];omega
  · have hltI:¬(j:Int)<(n:Int):=by omega
    have hjB:B.length≤j:=by rw [HLN.out];omega
    have HKN:Hid (K=k+ew B):=by
     have:=HK.out;rw [List.take_of_length_le hjB] at this;exact this
    have HRN:Hid (ch lo hi wr g n D es):=by
     have:=HR.out;rw [List.take_of_length_le (by rw [HDL.out];exact hjB),List.drop_eq_nil_of_le hjB,List.append_nil] at this;exact this
    clear hjB;go_wp2;go_ret;exact ⟨by have e:=HKN.out;first | rfl | (subst e;rfl) | (rw [e];simp) | (simp [e]),HRN.out,HM.out⟩
theorem tQ (lo hi g n k:Nat) (B:List aq) (es:Nat→Nat) (w:World) (hR:ch lo hi w g n (jL k B) es) (hcm:n≤1048576) (hsm:∀p ∈ B,p.1.length≤1048576) (hk:1≤k) (hn:k+ew B≤1000000000) :
 Calls Tryz.prog 100 #[sL g n n,iT k] w fun e w'=>e=.returned (iT ((k+ew B:Nat):Int))∧Bl w w':=by
 have HLN:Hid (B.length=n):=by have:=hR.len;rw [iL] at this;exact this
 have HR0:=ar hR;have HSM:=ar hsm;have HN:=ar hn;clear hR hsm hn;go_enter Tryz.func100,Tryz.ntmps100
 go_wp2;go_loopw [1,5] (fun kv iv wr=>∃(j K:Nat),j≤n∧iv=iT j∧kv=iT (K:Int)∧K=k+ew (B.take j)∧Bl w wr) (fun _ iv _=>n - (intOf iv).toNat)
 case atStart=>exact ⟨0,k,Nat.zero_le _,rfl,rfl,by simp [ew],Below.refl _ _⟩
 case round =>
  obtain ⟨j,K,hj,rfl,rfl,hK,hM⟩:=hrel;have HM:Hid (Bl w wr):=hM;have HR:Hid (ch lo hi wr g n (jL k B) es):=HR0.out.below hM;have HK:Hid (K=k+ew (B.take j)):=hK;clear hK hM;by_cases hlt:j<n
  · have hltI:(j:Int)<(n:Int):=by omega
    obtain ⟨p,hp⟩:∃p,B[j]?=some p:=⟨_,List.getElem?_eq_getElem (by rw [HLN.out];exact hlt)⟩;have hd:=pM (k:=k) hp;rw [← HK.out] at hd;obtain ⟨c0,c1,_,hgw⟩:=HR.out.cell hd;have hE:=(HR.out.ents j _ hd).entsAt;simp only [eJ] at c0 c1 hE;have hsp:=HSM.out p (List.mem_of_getElem? hp);have HNX:Hid (ew (B.take (j+1))=ew (B.take j)+(5*p.1.length+1)):=mW hp;have hle:K+5*p.1.length+1≤1000000000:=by
     have a1:=tA B (j+1);have a2:=HNX.out;have a3:=HN.out;have a4:=HK.out;omega
    have hk1:1≤K:=by have:=HK.out;omega
    obtain ⟨m,hm⟩:∃m,p.1.length=m:=⟨_,rfl⟩;have HMM:Hid (p.1.length=m):=hm;rw [hm] at c0 c1 hE hsp hle;obtain ⟨K1,hK1⟩:∃K1:Nat,K1=K+5*m:=⟨_,rfl⟩;have HK1:Hid (K1=K+5*m):=hK1;have CM:Hid (Calls Tryz.prog 59 #[sL (es j) m m,iT (K:Int)] wr fun e w'=>e=.returned (iT (K1:Int))∧Bl wr w'):=by rw [hK1];exact pf (es j) m m K wr hE hk1 (by omega)
    rw [← hK1] at c1;have hK1b:K1≤1000000000:=by omega
    clear hm hE hp hd hK1;go_wp2_with fail
    refine CM.out.mono ?_;rintro e' w1 ⟨rfl,hb1⟩;have c1':=cell_later hb1 c1;have hx1:g<w1.heap.size:=Nat.lt_of_lt_of_le hgw hb1.size;have HM1:Hid (Bl w w1):=HM.out.trans (hb1.mono HM.out.size);clear c0 c1 hb1;have hK0:¬(K1:Int)<0:=by omega
    go_wp2;go_roundw
    case rel =>
     have a1:=HNX.out;have a2:=HK.out;have a3:=HK1.out;have a4:=HMM.out;exact ⟨j+1,K1+1,by omega,by go_num,by go_num,by omega,HM1.out⟩
    case measure=>simp [intOf];omega
  · have hltI:¬(j:Int)<(n:Int):=by omega
    have HKN:Hid (K=k+ew B):=by
     have:=HK.out;rw [List.take_of_length_le (by rw [HLN.out];omega)] at this;exact this
    go_wp2;go_ret;exact ⟨by have e:=HKN.out;first | rfl | (subst e;rfl) | (rw [e];simp) | (simp [e]),HM.out⟩
end
end Go.Proofs.YtehiefdphnljaaaGreatDoor
