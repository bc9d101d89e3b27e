/- Walks. -/
import Derived.Deep.CutBlock
import Derived.Test.YtpobkmjicbobdaaGreatSn04
namespace Go.Proofs.YtpobkmjicbobdaaGreat
set_option maxRecDepth 100000
set_option maxHeartbeats 40000000
open Go.RowKit
variable {B:List af} {L:List ac} {ap:Bool} {i k:Nat} {most q:Int} {r:af} {xs:List Value}
theorem mJ (a:Option Addr) (n c:Nat) (M:List ac) (q:Int) (w:World) (h:aq w a n c M) :
 Calls Tryz.prog 88 #[.slice a n c,iT q] w fun e w'=>e=.returned (.bool (bH M q))∧w'=w:=by
 have hr:=h.room;have hbg:=h.big;unfold maxLen at hbg;have HLN:Hid (M.length=n):=h.length;have H:=bQ h;clear h;go_enter Tryz.func88,Tryz.ntmps88
 go_wp2;go_loopw [5] (fun i wr=>∃k:Nat,k≤n∧i=iT k∧wr=w∧bH (M.take k) q=true) (fun i _=>n - (intOf i).toNat)
 case atStart=>exact ⟨0,Nat.zero_le _,rfl,rfl,by simp [bH]⟩
 case round =>
  obtain ⟨k,hk,rfl,rfl,hw⟩:=hrel;have HW:Hid (bH (M.take k) q=true):=hw;clear hw;by_cases hlt:k<n
  · have hltI:(k:Int)<(n:Int):=by omega
    obtain ⟨b,off,rfl,hbb⟩:=H.out.form (by omega);obtain ⟨s,qe,d,t,nn,hg,_,g0,g1,g2,g3,g4⟩:=H.out.ent (Below.refl _ wr) hbb k hlt;have HG:Hid (M[k]?=some (s,qe,d,t,nn)):=hg;clear hg;by_cases hq:q<qe
    · go_wp2;go_ret;exact ⟨ag (uQ HG.out (by simp only;omega)).symm,rfl⟩
    · go_wp2;go_roundw
      case rel=>exact ⟨k+1,by omega,by go_num,by first | rfl | trivial,qO HW.out HG.out (by simp only;omega)⟩
      case measure=>simp [intOf];omega
  · go_wp2;go_ret;have hall:=HW.out;rw [List.take_of_length_le (by rw [HLN.out];omega)] at hall;exact ⟨ag hall.symm,rfl⟩
theorem vD (lo:Nat) (a:Option Addr) (n c:Nat) (S:List Int) (q:Int) (w:World) (h:aH lo w a n c S) :
 Calls Tryz.prog 196 #[.slice a n c,iT q] w fun e w'=>e=.returned (.bool (bF S q))∧w'=w:=by
 have hr:=h.room;have hbg:=h.big;unfold maxLen at hbg;have HLN:Hid (S.length=n):=h.length;have H:=bQ h;clear h;by_cases hm:4<n
 · go_enter Tryz.func196,Tryz.ntmps196
   go_wp2;go_ret;exact ⟨ag (te (by rw [HLN.out];exact hm)).symm,rfl⟩
 go_enter Tryz.func196,Tryz.ntmps196
 go_wp2;go_loopw [12] (fun i wr=>∃k:Nat,k≤n∧i=iT k∧wr=w∧io S q k) (fun i _=>n - (intOf i).toNat)
 case atStart=>exact ⟨0,Nat.zero_le _,rfl,rfl,fun j hj=>absurd hj (Nat.not_lt_zero _)⟩
 case round =>
  obtain ⟨k,hk,rfl,rfl,hw⟩:=hrel;have HW:Hid (io S q k):=hw;clear hw;by_cases hlt:k<n
  · have hltI:(k:Int)<(n:Int):=by omega
    have hkl:k<S.length:=by rw [HLN.out];exact hlt
    have HKL:Hid (k<S.length):=hkl;clear hkl;obtain ⟨b,off,rfl,hbb⟩:=H.out.form (by omega);obtain ⟨s,hg,_,g0⟩:=H.out.num (Below.refl _ wr) k hlt;have HG:Hid (S[k]?=some s):=hg;clear hg;by_cases hs0:s<0
    · go_wp2;go_ret;exact ⟨ag (gE HKL.out (rl HG.out hs0)).symm,rfl⟩
    by_cases hsq:q<s
    · go_wp2;go_ret;exact ⟨ag (gE HKL.out (pi HG.out hsq)).symm,rfl⟩
    by_cases hk0:k=0
    · subst hk0;simp only [Nat.add_zero] at g0;have HN:Hid (cy S q 0=true):=by show cy S q 0=true;rw [lm HG.out,decide_eq_true (show 0≤s by omega),decide_eq_true (show s≤q by omega)];rfl
      go_wp2;go_roundw
      case rel=>exact ⟨0+1,by omega,by go_num,by first | rfl | trivial,gY HW.out HN.out⟩
      case measure=>simp [intOf];omega
    · have hkp:(0:Int)<(k:Int):=by omega
      have hj1:(0:Int)≤(k:Int) - 1:=by omega
      have hj2:(k:Int) - 1<(n:Int):=by omega
      have hjt:((k:Int) - 1).toNat=k - 1:=by omega
      have wj:IntKind.i64.wrap ((k:Int) - 1)=(k:Int) - 1:=by rw [IntWalk.i64_left];unfold wrap64;omega
      obtain ⟨p,hp,_,e0⟩:=H.out.num (Below.refl _ wr) (k - 1) (by omega);obtain ⟨j,rfl⟩:∃j,k=j+1:=⟨k - 1,by omega⟩;simp only [Nat.add_sub_cancel] at hp e0 hjt;have HSU:=iV (q:=q) HG.out hp;have HSU':Hid (cy S q (j+1)=(decide (0≤s) && (decide (s≤q) && decide (p<s)))):=HSU;clear hp HSU;by_cases hps:p<s
      · have HN:Hid (cy S q (j+1)=true):=by show cy S q (j+1)=true;rw [HSU'.out,decide_eq_true (show 0≤s by omega),decide_eq_true (show s≤q by omega),decide_eq_true hps];rfl
        go_wp2;go_roundw
        case rel=>exact ⟨j+1+1,by omega,by go_num,by first | rfl | trivial,gY HW.out HN.out⟩
        case measure=>simp [intOf];omega
      · have HN:Hid (cy S q (j+1)=false):=by show cy S q (j+1)=false;rw [HSU'.out,decide_eq_false hps];simp
        go_wp2;go_ret;exact ⟨ag (gE HKL.out HN.out).symm,rfl⟩
  · go_wp2;go_ret;refine ⟨ag ?_,rfl⟩;have hkn:k=S.length:=by rw [HLN.out];omega
    have hw:=HW.out;rw [hkn] at hw;rw [ph hw,decide_eq_true (by rw [HLN.out];omega)]
theorem uk (m:Int) (b off n c:Nat) (L:List ac) (w:World) (h:aq w (some ⟨b,off,none⟩) n c L) (e:ac) (h0:L[0]?=some e) :
 Calls Tryz.prog 147 #[.agg #[sO b off n c,iT m]] w fun r w'=>r=.returned (.string e.1)∧Bl w w':=by
 have hl:=(List.getElem?_eq_some_iff.1 h0).1;rw [h.length] at hl;have hnI:(0:Int)<(n:Int):=by omega
 have kW:Bl w (w.alloc (.cells #[sO b off n c,iT m] 63)):=bZ;have hbb:=(h.lies _ rfl hl).1;simp only at hbb;obtain ⟨s,q,d,t,nn,hg,_,g0,_⟩:=h.ent (Below.refl _ w) hbb 0 hl;rw [h0] at hg;cases hg;simp only [Nat.zero_mul,Nat.add_zero] at g0;clear h h0;go_enter Tryz.func147,Tryz.ntmps147
 go_wp2;go_ret;exact ⟨rfl,kW⟩
theorem re (m:Int) (b off n c:Nat) (L:List ac) (w:World) (h:aq w (some ⟨b,off,none⟩) n c L) (e:ac) (h0:L[n - 1]?=some e) (hn:1≤n) :
 Calls Tryz.prog 146 #[.agg #[sO b off n c,iT m]] w fun r w'=>r=.returned (.string e.1)∧Bl w w':=by
 have hr:=h.room;have hbg:=h.big;unfold maxLen at hbg;have hj1:(0:Int)≤(n:Int) - 1:=by omega
 have hj2:(n:Int) - 1<(n:Int):=by omega
 have hjt:((n:Int) - 1).toNat=n - 1:=by omega
 have wj:IntKind.i64.wrap ((n:Int) - 1)=(n:Int) - 1:=by rw [IntWalk.i64_left];unfold wrap64;omega
 have kW:Bl w (w.alloc (.cells #[sO b off n c,iT m] 63)):=bZ;have hbb:=(h.lies _ rfl (by omega)).1;simp only at hbb;obtain ⟨s,q,d,t,nn,hg,_,g0,_⟩:=h.ent (Below.refl _ w) hbb (n - 1) (by omega);rw [h0] at hg;cases hg;clear h h0;go_enter Tryz.func146,Tryz.ntmps146
 go_wp2;go_ret;exact ⟨rfl,kW⟩
theorem vG (m:Int) (a:Option Addr) (n c:Nat) (L:List ac) (w:World) (h:aq w a n c L) :
 Calls Tryz.prog 233 #[.agg #[.slice a n c,iT m]] w fun r w'=>r=.returned (.bool (!dl L m))∧Bl w w':=by
 have kW:Bl w (w.alloc (.cells #[.slice a n c,iT m] 63)):=bZ;go_enter Tryz.func233,Tryz.ntmps233
 go_wp2_with fail
 refine (vE _ _ _ L m _ (h.keep kW)).mono ?_;rintro e w1 ⟨rfl,hb1⟩;go_wp2;go_ret;exact ⟨rfl,kW.trans (hb1.mono kW.size)⟩
theorem uX (q:Int) (lo:Nat) (v0 v1:Value) (a:Option Addr) (n c:Nat) (S:List Int) (w:World) (h:aH lo w a n c S) :
 Calls Tryz.prog 89 #[.agg #[iT q,v0,v1,.slice a n c]] w fun e w'=>e=.returned (.bool (bF S q))∧Bl w w':=by
 have hr:=h.room;have hbg:=h.big;unfold maxLen at hbg;have HLN:Hid (S.length=n):=h.length;obtain ⟨X,hX⟩:=aI w.heap.size;obtain ⟨W,hW⟩:=aI (w.alloc (.cells #[iT q,v0,v1,.slice a n c] 31));have kW:Bl w W:=by rw [hW];exact bZ
 have x0:W.cell? ⟨X,0,none⟩=some (iT q):=by rw [hW,hX];simp
 have x3:W.cell? ⟨X,3,none⟩=some (.slice a n c):=by rw [hW,hX];simp
 have H:Hid (aH lo W a n c S):=h.keep kW;have KW:Hid (Bl w W):=kW;have zx:=World.block_lt_of_cell? _ _ x0;simp only at zx;have HP:Hid (∀e w',(e=Ending.returned (.bool (bF S q))∧Bl W w')→e=Ending.returned (.bool (bF S q))∧Bl w w'):=fun e w' hh=>⟨hh.1,KW.out.trans (hh.2.mono KW.out.size)⟩
 clear h kW;go_enter Tryz.func89,Tryz.ntmps89
 go_upto_block 0 with fail
 rw [← hX,← hW];clear hX hW;go_wp2;go_loopw [3] (fun i wr=>∃k:Nat,k≤n∧i=iT k∧Bl W wr∧io S q k) (fun i _=>n - (intOf i).toNat)
 case atStart=>exact ⟨0,Nat.zero_le _,rfl,Below.refl _ _,fun j hj=>absurd hj (Nat.not_lt_zero _)⟩
 case round =>
  obtain ⟨k,hk,rfl,hb,hw⟩:=hrel;have HW:Hid (io S q k):=hw;have HB:Hid (Bl W wr):=hb;have y0:=cell_later hb x0;have y3:=cell_later hb x3;have zy:=World.block_lt_of_cell? _ _ y0;simp only at zy;clear hw;by_cases hlt:k<n
  · have hltI:(k:Int)<(n:Int):=by omega
    have hkl:k<S.length:=by rw [HLN.out];exact hlt
    have HKL:Hid (k<S.length):=hkl;clear hkl;obtain ⟨b,off,rfl,hbb⟩:=H.out.form (by omega);obtain ⟨s,hg,_,g0⟩:=H.out.num hb k hlt;have HG:Hid (S[k]?=some s):=hg;have zb:=Nat.lt_of_lt_of_le hbb hb.size;have k0:Bl wr wr.drew:=(Below.refl _ wr).drew;have HMK:Hid (∀w',Bl wr w'→(w'.cell? ⟨X,0,none⟩=some (iT q)∧w'.cell? ⟨X,3,none⟩=some (sO b off n c)∧X<w'.heap.size∧w'.cell? ⟨b,off+k,none⟩=some (iT s)∧b<w'.heap.size)):=fun w' kk=>⟨cell_later kk y0,cell_later kk y3,Nat.lt_of_lt_of_le zy kk.size,cell_later kk g0,Nat.lt_of_lt_of_le zb kk.size⟩
    have KZ:Hid (Bl W wr.drew):=HB.out.trans (k0.mono HB.out.size);clear hg hb;by_cases hs0:s<0
    · have hs0d:decide (s<0)=true:=decide_eq_true hs0;go_wp2_with fail
      refine eD HMK k0 fun aa=>?_
      refine aO 0 34 aa ?_;refine dN ?_;clear k0 HMK aa;go_wp2;go_ret;exact HP.out _ _ ⟨ag (gE HKL.out (rl HG.out hs0)).symm,KZ.out⟩
    have hs0d:decide (s<0)=false:=decide_eq_false hs0;by_cases hsq:q<s
    · have hsqd:decide (q<s)=true:=decide_eq_true hsq;go_wp2_with fail
      refine eD HMK k0 fun aa=>?_
      refine aO 0 34 aa ?_;refine dN ?_;clear k0 HMK aa;go_wp2;go_ret;exact HP.out _ _ ⟨ag (gE HKL.out (pi HG.out hsq)).symm,KZ.out⟩
    have hsqd:decide (q<s)=false:=decide_eq_false hsq;by_cases hk0:k=0
    · subst hk0;simp only [Nat.add_zero] at g0 HMK;have HN:Hid (cy S q 0=true):=by show cy S q 0=true;rw [lm HG.out,decide_eq_true (show 0≤s by omega),decide_eq_true (show s≤q by omega)];rfl
      go_wp2_with fail
      refine eD HMK k0 fun aa=>?_
      refine aO 0 34 aa ?_;refine dN ?_;clear k0 HMK aa;go_wp2;go_roundw
      case rel=>exact ⟨0+1,by omega,by go_num,KZ.out,gY HW.out HN.out⟩
      case measure=>simp [intOf];omega
    · have hkp:(0:Int)<(k:Int):=by omega
      have hkpN:0<k:=by omega
      have hkpM:decide (0<k)=true:=decide_eq_true hkpN;have hj1:(0:Int)≤(k:Int) - 1:=by omega
      have hj2:(k:Int) - 1<(n:Int):=by omega
      have hj3:(1:Int)≤(k:Int):=by omega
      have hjt:((k:Int) - 1).toNat=k - 1:=by omega
      have wj:IntKind.i64.wrap ((k:Int) - 1)=(k:Int) - 1:=by rw [IntWalk.i64_left];unfold wrap64;omega
      obtain ⟨p,hp,_,e0⟩:=H.out.num HB.out (k - 1) (by omega);have HM2:Hid (∀w',Bl wr w'→(w'.cell? ⟨X,0,none⟩=some (iT q)∧w'.cell? ⟨X,3,none⟩=some (sO b off n c)∧X<w'.heap.size∧w'.cell? ⟨b,off+k,none⟩=some (iT s)∧b<w'.heap.size∧w'.cell? ⟨b,off+(k - 1),none⟩=some (iT p))):=fun w' kk=>⟨cell_later kk y0,cell_later kk y3,Nat.lt_of_lt_of_le zy kk.size,cell_later kk g0,Nat.lt_of_lt_of_le zb kk.size,cell_later kk e0⟩
      have HSU:Hid (cy S q k=(decide (0≤s) && (decide (s≤q) && decide (p<s)))):=by
       obtain ⟨j,rfl⟩:∃j,k=j+1:=⟨k - 1,by omega⟩;exact iV HG.out hp
      clear hp HMK;by_cases hps:p<s
      · have HN:Hid (cy S q k=true):=by show cy S q k=true;rw [HSU.out,decide_eq_true (show 0≤s by omega),decide_eq_true (show s≤q by omega),decide_eq_true hps];rfl
        have hps':¬s≤p:=by omega
        have hpsd:decide (s≤p)=false:=decide_eq_false hps';go_wp2_with fail
        refine eD HM2 k0 fun aa=>?_
        refine aO 0 34 aa ?_;refine dN ?_;clear k0 HM2 aa;go_wp2;go_roundw
        case rel=>exact ⟨k+1,by omega,by go_num,KZ.out,gY HW.out HN.out⟩
        case measure=>simp [intOf];omega
      · have HN:Hid (cy S q k=false):=by show cy S q k=false;rw [HSU.out,decide_eq_false hps];simp
        have hps':s≤p:=by omega
        have hpsd:decide (s≤p)=true:=decide_eq_true hps';go_wp2_with fail
        refine eD HM2 k0 fun aa=>?_
        refine aO 0 34 aa ?_;refine dN ?_;clear k0 HM2 aa;go_wp2;go_ret;exact HP.out _ _ ⟨ag (gE HKL.out HN.out).symm,KZ.out⟩
  · have hltI:¬(k:Int)<(n:Int):=by omega
    have hres:bF S q=decide ((n:Int)≤4):=by
     have hkn:k=S.length:=by rw [HLN.out];omega
     have hw:=HW.out;rw [hkn] at hw;rw [ph hw,HLN.out];by_cases h4:n≤4
     · rw [decide_eq_true h4,decide_eq_true (by omega)]
     · rw [decide_eq_false h4,decide_eq_false (by omega)]
    have HRS:Hid (bF S q=decide ((n:Int)≤4)):=hres;clear hres;go_wp2;go_ret;exact HP.out _ _ ⟨ag HRS.out.symm,HB.out⟩
def eW (x y:ac):Bool:=decide (x.1=y.1) && decide (x.2.1≤y.2.1)
def im (A B:List ac):Bool:=A.all (fun x=>B.all (fun y=>!eW x y))
theorem ow {α:Type} {L:List α} {f:α→Bool} {e:α} (h:(L.take k).all f=true) (hk:L[k]?=some e) (he:f e=true):(L.take (k+1)).all f=true:=by
 rw [List.take_add_one,hk];simp [List.all_append,h,he]
theorem yk {α:Type} {L:List α} {f:α→Bool} {e:α} (hk:L[k]?=some e) (he:f e=false):L.all f=false:=by
 rw [Bool.eq_false_iff];intro h;rw [List.all_eq_true] at h;rw [h e (List.mem_of_getElem? hk)] at he;cases he
theorem vc (a1 a2:Option Addr) (n1 c1 n2 c2:Nat) (A B:List ac) (w:World) (h1:aq w a1 n1 c1 A) (h2:aq w a2 n2 c2 B) :
 Calls Tryz.prog 148 #[.slice a1 n1 c1,.slice a2 n2 c2] w fun e w'=>e=.returned (.bool (im A B))∧Bl w w':=by
 have HN1:Hid (A.length=n1):=h1.length;have HN2:Hid (B.length=n2):=h2.length;have hr1:=h1.room;have hb1:=h1.big;have hr2:=h2.room;have hb2:=h2.big;unfold maxLen at hb1 hb2;have H1:=bQ h1;have H2:=bQ h2;clear h1 h2;go_enter Tryz.func148,Tryz.ntmps148
 go_wp2;go_loopw [5] (fun iv wr=>∃i:Nat,i≤n1∧iv=iT i∧Bl w wr∧(A.take i).all (fun x=>B.all (fun y=>!eW x y))=true) (fun iv _=>n1 - (intOf iv).toNat)
 case atStart=>exact ⟨0,Nat.zero_le _,rfl,Below.refl _ _,by simp⟩
 case round =>
  obtain ⟨i,hi,rfl,hb,hw⟩:=hrel;have HW:Hid ((A.take i).all (fun x=>B.all (fun y=>!eW x y))=true):=hw;have HB:Hid (Bl w wr):=hb;clear hw;by_cases hin:i<n1
  · have hinI:(i:Int)<(n1:Int):=by omega
    obtain ⟨b1,o1,rfl,hx1⟩:=H1.out.form (by omega);obtain ⟨s,q,d,t,nn,hg,_,_⟩:=H1.out.ent hb hx1 i hin;have HG:Hid (A[i]?=some (s,q,d,t,nn)):=hg;clear hg hb;go_wp2;go_loopw [6] (fun kv wq=>∃k:Nat,k≤n2∧kv=iT k∧Bl w wq∧(B.take k).all (fun y=>!eW (s,q,d,t,nn) y)=true) (fun kv _=>n2 - (intOf kv).toNat)
    case atStart=>exact ⟨0,Nat.zero_le _,rfl,HB.out,by simp⟩
    case round =>
     obtain ⟨k,hk,rfl,hbk,hwk⟩:=hrel;have HWK:Hid ((B.take k).all (fun y=>!eW (s,q,d,t,nn) y)=true):=hwk;have HBK:Hid (Bl w wr):=hbk;clear hwk;by_cases hkn:k<n2
     · have hknI:(k:Int)<(n2:Int):=by omega
       obtain ⟨b2,o2,rfl,hx2⟩:=H2.out.form (by omega);obtain ⟨s1,q1,d1,t1,nn1,hL1,_,g0,g1,_⟩:=H1.out.ent hbk hx1 i hin;rw [HG.out] at hL1;cases hL1;obtain ⟨s',q',d',t',nn',hF,_,e0,e1,_⟩:=H2.out.ent hbk hx2 k hkn;have HF:Hid (B[k]?=some (s',q',d',t',nn')):=hF;have z1:=Nat.lt_of_lt_of_le hx1 hbk.size;have z2:=Nat.lt_of_lt_of_le hx2 hbk.size;have k0:Bl wr wr.drew:=(Below.refl _ wr).drew;have HMK:Hid (∀w',Bl wr w'→(w'.cell? ⟨b1,o1+i*5,none⟩=some (.string s)∧w'.cell? ⟨b1,o1+i*5+1,none⟩=some (iT q)∧b1<w'.heap.size∧w'.cell? ⟨b2,o2+k*5,none⟩=some (.string s')∧w'.cell? ⟨b2,o2+k*5+1,none⟩=some (iT q')∧b2<w'.heap.size)):=fun w' kk=>⟨cell_later kk g0,cell_later kk g1,Nat.lt_of_lt_of_le z1 kk.size,cell_later kk e0,cell_later kk e1,Nat.lt_of_lt_of_le z2 kk.size⟩
       have KZ:Hid (Bl w wr.drew):=HBK.out.trans (k0.mono HBK.out.size);clear hF hbk;by_cases hs:s=s'
       · subst hs;by_cases hq:q≤q'
         · have hqd:decide (q≤q')=true:=decide_eq_true hq;have HC:Hid ((!eW (s,q,d,t,nn) (s,q',d',t',nn'))=false):=by show (!eW _ _)=false;unfold eW;simp [hq]
           go_wp2_with fail
           refine eD HMK k0 fun aa=>?_
           refine aO 0 24 aa ?_;refine dN ?_;clear k0 HMK aa;go_wp2;go_ret;exact ⟨ag (yk HG.out (yk HF.out HC.out)).symm,KZ.out⟩
         · have hqd:decide (q≤q')=false:=decide_eq_false hq;have HC:Hid ((!eW (s,q,d,t,nn) (s,q',d',t',nn'))=true):=by show (!eW _ _)=true;unfold eW;simp [hq]
           go_wp2_with fail
           refine eD HMK k0 fun aa=>?_
           refine aO 0 24 aa ?_;refine dN ?_;clear k0 HMK aa;go_wp2;go_roundw
           case rel=>exact ⟨k+1,by omega,by go_num,KZ.out,ow HWK.out HF.out HC.out⟩
           case measure=>simp [intOf];omega
       · have hne:¬s.toList=s'.toList:=by
          rw [ByteArray.toList_eq,ByteArray.toList_eq];intro h;exact hs (ByteArray.ext (Array.toList_inj.1 h))
         have hne':(s.toList == s'.toList)=false:=by simpa using hne
         have HC:Hid ((!eW (s,q,d,t,nn) (s',q',d',t',nn'))=true):=by show (!eW _ _)=true;unfold eW;simp [hs]
         clear hs;go_wp2_with fail
         refine eD HMK k0 fun aa=>?_
         refine aO 0 24 aa ?_;refine dN ?_;clear k0 HMK aa;go_wp2;go_roundw
         case rel=>exact ⟨k+1,by omega,by go_num,KZ.out,ow HWK.out HF.out HC.out⟩
         case measure=>simp [intOf];omega
     · have hknI:¬(k:Int)<(n2:Int):=by omega
       have HC:Hid (B.all (fun y=>!eW (s,q,d,t,nn) y)=true):=by
        have:=HWK.out;rw [List.take_of_length_le (by rw [HN2.out];omega)] at this;exact this
       go_wp2;go_roundw
       case rel=>exact ⟨i+1,by omega,by go_num,HBK.out,ow (f:=fun x=>B.all (fun y=>!eW x y)) HW.out HG.out HC.out⟩
       case measure=>simp [intOf];omega
  · have hinI:¬(i:Int)<(n1:Int):=by omega
    have HC:Hid (im A B=true):=by
     have:=HW.out;rw [List.take_of_length_le (by rw [HN1.out];omega)] at this;exact this
    go_wp2;go_ret;exact ⟨ag HC.out.symm,HB.out⟩
def ba (L:List ac):ByteArray:=match L[0]? with | some e=>e.1 | none=>⟨#[]⟩
def aP (L:List ac):ByteArray:=match L[L.length - 1]? with | some e=>e.1 | none=>⟨#[]⟩
def jE (A B:List ac):Bool:=Op.bytesLess (aP A).toList (ba B).toList
def f8 (B:List af) (r:af) (i:Nat):Bool:=match i with | 0=>true | j+1=>match B[j]? with | none=>true | some p=>jE p.1 r.1
def eI (B:List af) (ap:Bool) (q:Int) (i:Nat):Bool :=
 match B[i]? with
 | none=>true
 | some r=>dl r.1 r.2 && (bH r.1 q && (!ap || f8 B r i))
def oC (B:List af) (ap:Bool) (q:Int) (k:Nat):Prop:=∀j,j<k→eI B ap q j=true
def cZ (B:List af) (most:Int) (ap:Bool) (q:Int):Bool:=decide ((B.length:Int)≤most) && (List.range B.length).all (eI B ap q)
theorem vf (h:most<(B.length:Int)):cZ B most ap q=false:=by
 unfold cZ;rw [decide_eq_false (by omega)];rfl
theorem ql (hk:k<B.length) (h:eI B ap q k=false):cZ B most ap q=false:=by
 unfold cZ;rw [Bool.and_eq_false_iff];right
 rw [Bool.eq_false_iff];intro h1;rw [List.all_eq_true] at h1;rw [h1 k (List.mem_range.2 hk)] at h;cases h
theorem xk (h:oC B ap q B.length) (hm:(B.length:Int)≤most):cZ B most ap q=true:=by
 unfold cZ;rw [decide_eq_true hm,Bool.true_and,List.all_eq_true];intro j hj;exact h j (List.mem_range.1 hj)
theorem lp (h:oC B ap q k) (hk:eI B ap q k=true):oC B ap q (k+1):=by
 intro j hj;by_cases e:j=k
 · subst e;exact hk
 · exact h j (by omega)
theorem dt (h:B[i]?=some r):eI B ap q i=(dl r.1 r.2 && (bH r.1 q && (!ap || f8 B r i))):=by
 unfold eI;simp only [h]
theorem th {p:af} (h:B[i]?=some r) (hi:0<i) (hp:B[i - 1]?=some p):eI B ap q i=(dl r.1 r.2 && (bH r.1 q && (!ap || jE p.1 r.1))):=by
 obtain ⟨j,rfl⟩:∃j,i=j+1:=⟨i - 1,by omega⟩;simp only [Nat.add_sub_cancel] at hp;rw [dt h];unfold f8;simp only [hp]
theorem jZ (h:1≤L.length):∃e,L[0]?=some e∧ba L=e.1:=by
 have hg:L[0]?=some L[0]:=List.getElem?_eq_getElem (by omega);exact ⟨_,hg,by unfold ba;rw [hg]⟩
theorem gN (h:1≤L.length):∃e,L[L.length - 1]?=some e∧aP L=e.1:=by
 have hg:L[L.length - 1]?=some (L[L.length - 1]'(by omega)):=List.getElem?_eq_getElem (by omega);exact ⟨_,hg,by unfold aP;rw [hg]⟩
theorem mK (lo:Nat) (a:Option Addr) (n c:Nat) (B:List af) (most:Int) (ap:Bool) (q:Int) (w:World) (h:aw lo w a n c B) :
 Calls Tryz.prog 90 #[.slice a n c,iT most,.bool ap,iT q] w fun e w'=>e=.returned (.bool (cZ B most ap q))∧Bl w w':=by
 have HLN:Hid (B.length=n):=h.length;have hr:=h.room;have hbg:=h.big;unfold maxLen at hbg;have H:=bQ h;clear h;by_cases hm:most<(n:Int)
 · go_enter Tryz.func90,Tryz.ntmps90
   go_wp2;go_ret;exact ⟨ag (vf (by rw [HLN.out];exact hm)).symm,Below.refl _ _⟩
 go_enter Tryz.func90,Tryz.ntmps90
 go_wp2;go_loopw [9] (fun iv wr=>∃i:Nat,i≤n∧iv=iT i∧Bl w wr∧oC B ap q i) (fun iv _=>n - (intOf iv).toNat)
 case atStart=>exact ⟨0,Nat.zero_le _,rfl,Below.refl _ _,fun j hj=>absurd hj (Nat.not_lt_zero _)⟩
 case round =>
  obtain ⟨i,hi,rfl,hb,hw⟩:=hrel;have HW:Hid (oC B ap q i):=hw;have HB:Hid (Bl w wr):=hb;clear hw;by_cases hin:i<n
  · have hinI:(i:Int)<(n:Int):=by omega
    have HKL:Hid (i<B.length):=by show i<B.length;rw [HLN.out];exact hin
    obtain ⟨b,off,rfl,hbb⟩:=H.out.form (by omega);obtain ⟨L,m,s,ns,cs,hg,_,g0,g1,hE⟩:=H.out.run hb i hin;have HG:Hid (B[i]?=some (L,m)):=hg;have HE:Hid (dY lo wr s ns cs L):=hE;have zb:=Nat.lt_of_lt_of_le hbb hb.size;clear hg hb hE;obtain ⟨O,hO⟩:=aI (dl L m);go_wp2_with fail
    refine (uZ _ _ _ L m wr HE.out.1).mono ?_;rw [← hO];rintro e w1 ⟨rfl,hb1⟩;have g0:=cell_later hb1 g0;have g1:=cell_later hb1 g1;have zb:=Nat.lt_of_lt_of_le zb hb1.size;have K1:Hid (Bl w w1):=HB.out.trans (hb1.mono HB.out.size);have E1:Hid (aq w1 s ns cs L):=HE.out.1.keep hb1;clear hb1;cases hOv:O with
    | false =>
     have HN:Hid (eI B ap q i=false):=by show eI B ap q i=false;rw [dt HG.out,← hO,hOv];rfl
     go_wp2;go_ret;exact ⟨ag (ql HKL.out HN.out).symm,K1.out⟩
    | true =>
     have HRB:Hid (dl L m=true):=by rw [← hO];exact hOv
     clear hO hOv;obtain ⟨T,hT⟩:=aI (bH L q);go_wp2_with fail
     refine (mJ _ _ _ L q w1 E1.out).mono ?_;rw [← hT];rintro e wr2 ⟨rfl,rfl⟩;cases hTv:T with
     | false =>
      have HN:Hid (eI B ap q i=false):=by show eI B ap q i=false;rw [dt HG.out,HRB.out,← hT,hTv];rfl
      go_wp2;go_ret;exact ⟨ag (ql HKL.out HN.out).symm,K1.out⟩
     | true =>
      have HWI:Hid (bH L q=true):=by rw [← hT];exact hTv
      clear hT hTv;have k0:Bl wr2 wr2.drew:=(Below.refl _ wr2).drew;have KZ:Hid (Bl w wr2.drew):=K1.out.trans (k0.mono K1.out.size);have HMK:Hid (∀w',Bl wr2 w'→(b<w'.heap.size)):=fun w' kk=>Nat.lt_of_lt_of_le zb kk.size
      cases ap with
      | false =>
      have HN:Hid (eI B false q i=true):=by show eI B false q i=true;rw [dt HG.out,HRB.out,HWI.out];rfl
      go_wp2_with fail
      refine eD HMK k0 fun aa=>?_
      refine aO 0 11 aa ?_;refine aO 12 4 aa ?_;refine aJ 11 fun K hK=>?_
      go_simp;refine hK.out _ _ (HMK.out _ k0) fun aa=>?_
      (try go_frame);refine aJ 16 fun K hK=>?_
      go_simp;refine hK.out _ _ (HMK.out _ k0) fun aa=>?_
      (try go_frame);refine aO 17 2 aa ?_;refine dN ?_;clear k0 HMK aa;go_wp2;go_roundw
      case rel=>exact ⟨i+1,by omega,by go_num,KZ.out,lp HW.out HN.out⟩
      case measure=>simp [intOf];omega
      | true =>
       by_cases hi0:i=0
       · subst hi0;have HN:Hid (eI B true q 0=true):=by show eI B true q 0=true;rw [dt HG.out,HRB.out,HWI.out];rfl
         go_wp2_with fail
         refine eD HMK k0 fun aa=>?_
         refine aO 0 11 aa ?_;refine aO 12 4 aa ?_;refine aJ 11 fun K hK=>?_
         go_simp;refine hK.out _ _ (HMK.out _ k0) fun aa=>?_
         (try go_frame);refine aJ 16 fun K hK=>?_
         go_simp;refine hK.out _ _ (HMK.out _ k0) fun aa=>?_
         (try go_frame);refine aO 17 2 aa ?_;refine dN ?_;clear k0 HMK aa;go_wp2;go_roundw
         case rel=>exact ⟨0+1,by omega,by go_num,KZ.out,lp HW.out HN.out⟩
         case measure=>simp [intOf];omega
       · have hip:(0:Int)<(i:Int):=by omega
         have hipN:0<i:=by omega
         have hipD:decide (0<i)=true:=decide_eq_true hipN;have hj1:(0:Int)≤(i:Int) - 1:=by omega
         have hj2:(i:Int) - 1<(n:Int):=by omega
         have hj3:(1:Int)≤(i:Int):=by omega
         have hjt:((i:Int) - 1).toNat=i - 1:=by omega
         have wj:IntKind.i64.wrap ((i:Int) - 1)=(i:Int) - 1:=by rw [IntWalk.i64_left];unfold wrap64;omega
         obtain ⟨Lp,mp,sp,np,cp,hp,_,p0,p1,hEp⟩:=H.out.run K1.out (i - 1) (by omega);have hRp:dl Lp mp=true:=by
          have h1:=HW.out (i - 1) (by omega);rw [dt hp] at h1;simp only [Bool.and_eq_true] at h1;exact h1.1
         have l1:=(bu HRB.out).1;have l2:=(bu hRp).1;obtain ⟨el,hel,hlow⟩:=jZ l1;obtain ⟨eh,heh,hhigh⟩:=gN l2;have hns:=E1.out.length;have hnp:=hEp.1.length;obtain ⟨bs,os,rfl,_⟩:=E1.out.form (by omega);obtain ⟨bp,op,rfl,_⟩:=hEp.1.form (by omega);rw [hnp] at heh;have CH:Hid (∀w',Bl wr2 w'→Calls Tryz.prog 146 #[.agg #[sO bp op np cp,iT mp]] w' fun r w''=>r=.returned (.string eh.1)∧Bl w' w''):=fun w' k=>re mp bp op np cp Lp w' (hEp.1.keep k) eh heh (by omega)
         have CLO:Hid (∀w',Bl wr2 w'→Calls Tryz.prog 147 #[.agg #[sO bs os ns cs,iT m]] w' fun r w''=>r=.returned (.string el.1)∧Bl w' w''):=fun w' k=>uk m bs os ns cs L w' (E1.out.keep k) el hel
         have HAT:Hid (eI B true q i=Op.bytesLess eh.1.toList el.1.toList):=by
          show eI B true q i=_
          rw [th HG.out hipN hp,HRB.out,HWI.out];simp only [Bool.true_and,Bool.not_true,Bool.false_or];unfold jE;rw [hlow,hhigh]
         have HM1:Hid (∀w',Bl wr2 w'→(w'.cell? ⟨b,off+i*2,none⟩=some (sO bs os ns cs)∧w'.cell? ⟨b,off+i*2+1,none⟩=some (iT m)∧w'.cell? ⟨b,off+(i - 1)*2,none⟩=some (sO bp op np cp)∧w'.cell? ⟨b,off+(i - 1)*2+1,none⟩=some (iT mp)∧b<w'.heap.size)):=fun w' kk=>⟨cell_later kk g0,cell_later kk g1,cell_later kk p0,cell_later kk p1,Nat.lt_of_lt_of_le zb kk.size⟩
         clear HMK hp hEp hRp l1 l2 hel heh hlow hhigh hns hnp g0 g1 p0 p1 zb HE;obtain ⟨sh,hsh⟩:=aI eh.1;obtain ⟨sl,hsl⟩:=aI el.1;rw [← hsh] at CH HAT;rw [← hsl] at CLO HAT;clear hsh hsl;cases hcmp:Op.bytesLess sh.toList sl.toList with
         | true =>
          have HN:Hid (eI B true q i=true):=by show eI B true q i=true;rw [HAT.out];exact hcmp
          go_wp2_with fail
          refine eD HM1 k0 fun aa=>?_
          refine aO 0 11 aa ?_;refine aO 12 4 aa ?_;refine aJ 11 fun K hK=>?_
          go_simp;refine (CH.out _ k0).mono ?_;rintro e wk1 ⟨rfl,bk1⟩;have k1:Bl wr2 wk1:=k0.trans (bk1.mono k0.size);go_wp2_with fail
          refine hK.out _ _ (HM1.out _ k1) fun aa=>?_
          (try go_frame);refine aJ 16 fun K hK=>?_
          go_simp;refine (CLO.out _ k1).mono ?_;rintro e wk2 ⟨rfl,bk2⟩;have k2:Bl wr2 wk2:=k1.trans (bk2.mono k1.size);go_wp2_with fail
          refine hK.out _ _ (HM1.out _ k2) fun aa=>?_
          (try go_frame);refine aO 17 2 aa ?_;refine dN ?_;have KY:Hid (Bl w wk2):=K1.out.trans (k2.mono K1.out.size);clear k0 k1 k2 bk1 bk2 HM1 aa;go_wp2;go_roundw
          case rel=>exact ⟨i+1,by omega,by go_num,KY.out,lp HW.out HN.out⟩
          case measure=>simp [intOf];omega
         | false =>
          have HN:Hid (eI B true q i=false):=by show eI B true q i=false;rw [HAT.out];exact hcmp
          go_wp2_with fail
          refine eD HM1 k0 fun aa=>?_
          refine aO 0 11 aa ?_;refine aO 12 4 aa ?_;refine aJ 11 fun K hK=>?_
          go_simp;refine (CH.out _ k0).mono ?_;rintro e wk1 ⟨rfl,bk1⟩;have k1:Bl wr2 wk1:=k0.trans (bk1.mono k0.size);go_wp2_with fail
          refine hK.out _ _ (HM1.out _ k1) fun aa=>?_
          (try go_frame);refine aJ 16 fun K hK=>?_
          go_simp;refine (CLO.out _ k1).mono ?_;rintro e wk2 ⟨rfl,bk2⟩;have k2:Bl wr2 wk2:=k1.trans (bk2.mono k1.size);go_wp2_with fail
          refine hK.out _ _ (HM1.out _ k2) fun aa=>?_
          (try go_frame);refine aO 17 2 aa ?_;refine dN ?_;have KY:Hid (Bl w wk2):=K1.out.trans (k2.mono K1.out.size);clear k0 k1 k2 bk1 bk2 HM1 aa;go_wp2;go_ret;exact ⟨ag (ql HKL.out HN.out).symm,KY.out⟩
  · have hinI:¬(i:Int)<(n:Int):=by omega
    have HC:Hid (cZ B most ap q=true):=by
     have hw:=HW.out;have hii:i=B.length:=by rw [HLN.out];omega
     rw [hii] at hw;exact xk hw (by rw [HLN.out];omega)
    go_wp2;go_ret;exact ⟨ag HC.out.symm,HB.out⟩
theorem Tryz.infoEnt:(Tryz.prog.info? 50).map (fun i=>(i.zero,i.size,i.bytes))=some (some (.agg #[.string ByteArray.empty,iT 0,iT 0,.string ByteArray.empty,iT 0]),5,56):=by kernel_rfl
def ip (xs:List Value) (j:Nat) (l:ac):Prop:=xs[j*5]?=some (.string l.1)∧xs[j*5+1]?=some (iT l.2.1)∧xs[j*5+2]?=some (iT l.2.2.1)∧xs[j*5+3]?=some (.string l.2.2.2.1)∧xs[j*5+4]?=some (iT l.2.2.2.2)
theorem jR {j:Nat} {l:ac} (h:ip xs j l) (hne:j≠k) (u0 u1 u2 u3 u4:Value):ip (((((xs.set (k*5) u0).set (k*5+1) u1).set (k*5+2) u2).set (k*5+3) u3).set (k*5+4) u4) j l:=by
 obtain ⟨h0,h1,h2,h3,h4⟩:=h;refine ⟨?_,?_,?_,?_,?_⟩ <;> (repeat rw [List.getElem?_set_ne (by omega)]) <;> assumption
theorem l6 (s t:ByteArray) (q d n:Int) (h:k*5+4<xs.length):ip (((((xs.set (k*5) (.string s)).set (k*5+1) (iT q)).set (k*5+2) (iT d)).set (k*5+3) (.string t)).set (k*5+4) (iT n)) k (s,q,d,t,n):=by
 refine ⟨?_,?_,?_,?_,?_⟩
 · rw [List.getElem?_set_ne (by omega),List.getElem?_set_ne (by omega),List.getElem?_set_ne (by omega),List.getElem?_set_ne (by omega),List.getElem?_set_self (by omega)]
 · rw [List.getElem?_set_ne (by omega),List.getElem?_set_ne (by omega),List.getElem?_set_ne (by omega),List.getElem?_set_self (by simp;omega)]
 · rw [List.getElem?_set_ne (by omega),List.getElem?_set_ne (by omega),List.getElem?_set_self (by simp;omega)]
 · rw [List.getElem?_set_ne (by omega),List.getElem?_set_self (by simp;omega)]
 · rw [List.getElem?_set_self (by simp;omega)]
theorem oX {w:World} {base g n cap:Nat} (h:w.ownsRow base 50 5 (sL g n cap) n xs) (hn:L.length=n) (hw:∀l ∈ L,ef l)
 (hh:∀j l,L[j]?=some l→ip xs j l):aq w (pT g) n cap L:=by
 have hlt:=(h.lt g rfl).2;have hrc:n≤cap∧cap≤maxLen:=by
  rcases h.2 with ⟨h',_⟩ | ⟨g',cap',cur,h',_,_,hnc,hcm,_,_⟩
  · simp at h'
  · simp only [Value.slice.injEq,Option.some.injEq,Addr.mk.injEq,and_true,true_and] at h';obtain ⟨rfl,rfl⟩:=h';exact ⟨hnc,hcm⟩
 refine ⟨hn,hrc.1,hrc.2,hw,(fun e=>by cases e),?_,?_⟩
 · rintro x e _;cases e;exact ⟨hlt,rfl⟩
 · rintro x e i hi;cases e;obtain ⟨r0,r1,r2,r3,r4⟩:=hh i L[i] (List.getElem?_eq_getElem hi);rw [hn] at hi;simp only [Nat.zero_add];exact ⟨(h.cellAt _ (by omega)).trans r0,(h.cellAt _ (by omega)).trans r1,(h.cellAt _ (by omega)).trans r2,(h.cellAt _ (by omega)).trans r3,(h.cellAt _ (by omega)).trans r4⟩
end Go.Proofs.YtpobkmjicbobdaaGreat
