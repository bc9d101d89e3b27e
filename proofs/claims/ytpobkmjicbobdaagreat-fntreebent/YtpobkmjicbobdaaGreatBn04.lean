/- Walks. -/
import Derived.Deep.CutBlock
import Derived.Test.YtpobkmjicbobdaaGreatBn03
namespace Go.Proofs.YtpobkmjicbobdaaGreat
set_option maxRecDepth 100000
set_option maxHeartbeats 40000000
open Go.RowKit
variable {B:List ag} {L:List ac} {ap:Bool} {i k:Nat} {most q:Int} {r:ag} {xs:List Value}
theorem nQ (a:Option Addr) (n c:Nat) (M:List ac) (q:Int) (w:World) (h:aj w a n c M) :
 Calls Tryz.prog 88 #[.slice a n c,iT q] w fun e w'=>e=.returned (.bool (bW M q))∧w'=w:=by
 have hr:=h.room;have hbg:=h.big;unfold maxLen at hbg;have HLN:Hid (M.length=n):=h.length;have H:=b6 h;clear h;go_enter Tryz.func88,Tryz.ntmps88
 go_wp2;go_loopw [5] (fun i wr=>∃k:Nat,k≤n∧i=iT k∧wr=w∧bW (M.take k) q=true) (fun i _=>n - (intOf i).toNat)
 case atStart=>exact ⟨0,Nat.zero_le _,rfl,rfl,by simp [bW]⟩
 case round =>
  obtain ⟨k,hk,rfl,rfl,hw⟩:=hrel;have HW:Hid (bW (M.take k) q=true):=hw;clear hw;by_cases hlt:k<n
  · have hltI:(k:Int)<(n:Int):=by omega
    obtain ⟨b,off,rfl,hbb⟩:=H.out.form (by omega);obtain ⟨s,qe,d,t,nn,hg,_,g0,g1,g2,g3,g4⟩:=H.out.ent (Below.refl _ wr) hbb k hlt;have HG:Hid (M[k]?=some (s,qe,d,t,nn)):=hg;clear hg;by_cases hq:q<qe
    · go_wp2;go_ret;exact ⟨af (vN HG.out (by simp only;omega)).symm,rfl⟩
    · go_wp2;go_roundw
      case rel=>exact ⟨k+1,by omega,by go_num,by first | rfl | trivial,rY HW.out HG.out (by simp only;omega)⟩
      case measure=>simp [intOf];omega
  · go_wp2;go_ret;have hall:=HW.out;rw [List.take_of_length_le (by rw [HLN.out];omega)] at hall;exact ⟨af hall.symm,rfl⟩
theorem xi (lo:Nat) (a:Option Addr) (n c:Nat) (S:List Int) (q:Int) (w:World) (h:bG lo w a n c S) :
 Calls Tryz.prog 196 #[.slice a n c,iT q] w fun e w'=>e=.returned (.bool (cu S q))∧w'=w:=by
 have hr:=h.room;have hbg:=h.big;unfold maxLen at hbg;have HLN:Hid (S.length=n):=h.length;have H:=b6 h;clear h;by_cases hm:4<n
 · go_enter Tryz.func196,Tryz.ntmps196
   go_wp2;go_ret;exact ⟨af (uh (by rw [HLN.out];exact hm)).symm,rfl⟩
 go_enter Tryz.func196,Tryz.ntmps196
 go_wp2;go_loopw [12] (fun i wr=>∃k:Nat,k≤n∧i=iT k∧wr=w∧iL S q k) (fun i _=>n - (intOf i).toNat)
 case atStart=>exact ⟨0,Nat.zero_le _,rfl,rfl,fun j hj=>absurd hj (Nat.not_lt_zero _)⟩
 case round =>
  obtain ⟨k,hk,rfl,rfl,hw⟩:=hrel;have HW:Hid (iL S q k):=hw;clear hw;by_cases hlt:k<n
  · have hltI:(k:Int)<(n:Int):=by omega
    have hkl:k<S.length:=by rw [HLN.out];exact hlt
    have HKL:Hid (k<S.length):=hkl;clear hkl;obtain ⟨b,off,rfl,hbb⟩:=H.out.form (by omega);obtain ⟨s,hg,_,g0⟩:=H.out.num (Below.refl _ wr) k hlt;have HG:Hid (S[k]?=some s):=hg;clear hg;by_cases hs0:s<0
    · go_wp2;go_ret;exact ⟨af (ia HKL.out (sJ HG.out hs0)).symm,rfl⟩
    by_cases hsq:q<s
    · go_wp2;go_ret;exact ⟨af (ia HKL.out (ql HG.out hsq)).symm,rfl⟩
    by_cases hk0:k=0
    · subst hk0;simp only [Nat.add_zero] at g0;have HN:Hid (cP S q 0=true):=by show cP S q 0=true;rw [lU HG.out,decide_eq_true (show 0≤s by omega),decide_eq_true (show s≤q by omega)];rfl
      go_wp2;go_roundw
      case rel=>exact ⟨0+1,by omega,by go_num,by first | rfl | trivial,iu HW.out HN.out⟩
      case measure=>simp [intOf];omega
    · have hkp:(0:Int)<(k:Int):=by omega
      have hj1:(0:Int)≤(k:Int) - 1:=by omega
      have hj2:(k:Int) - 1<(n:Int):=by omega
      have hjt:((k:Int) - 1).toNat=k - 1:=by omega
      have wj:IntKind.i64.wrap ((k:Int) - 1)=(k:Int) - 1:=by rw [IntWalk.i64_left];unfold wrap64;omega
      obtain ⟨p,hp,_,e0⟩:=H.out.num (Below.refl _ wr) (k - 1) (by omega);obtain ⟨j,rfl⟩:∃j,k=j+1:=⟨k - 1,by omega⟩;simp only [Nat.add_sub_cancel] at hp e0 hjt;have HSU:=jr (q:=q) HG.out hp;have HSU':Hid (cP S q (j+1)=(decide (0≤s) && (decide (s≤q) && decide (p<s)))):=HSU;clear hp HSU;by_cases hps:p<s
      · have HN:Hid (cP S q (j+1)=true):=by show cP S q (j+1)=true;rw [HSU'.out,decide_eq_true (show 0≤s by omega),decide_eq_true (show s≤q by omega),decide_eq_true hps];rfl
        go_wp2;go_roundw
        case rel=>exact ⟨j+1+1,by omega,by go_num,by first | rfl | trivial,iu HW.out HN.out⟩
        case measure=>simp [intOf];omega
      · have HN:Hid (cP S q (j+1)=false):=by show cP S q (j+1)=false;rw [HSU'.out,decide_eq_false hps];simp
        go_wp2;go_ret;exact ⟨af (ia HKL.out HN.out).symm,rfl⟩
  · go_wp2;go_ret;refine ⟨af ?_,rfl⟩;have hkn:k=S.length:=by rw [HLN.out];omega
    have hw:=HW.out;rw [hkn] at hw;rw [qj hw,decide_eq_true (by rw [HLN.out];omega)]
theorem vi (m:Int) (b off n c:Nat) (L:List ac) (w:World) (h:aj w (some ⟨b,off,none⟩) n c L) (e:ac) (h0:L[0]?=some e) :
 Calls Tryz.prog 147 #[.agg #[sO b off n c,iT m]] w fun r w'=>r=.returned (.string e.1)∧Bl w w':=by
 have hl:=(List.getElem?_eq_some_iff.1 h0).1;rw [h.length] at hl;have hnI:(0:Int)<(n:Int):=by omega
 have kW:Bl w (w.alloc (.cells #[sO b off n c,iT m] 63)):=bZ;have hbb:=(h.lies _ rfl hl).1;simp only at hbb;obtain ⟨s,q,d,t,nn,hg,_,g0,_⟩:=h.ent (Below.refl _ w) hbb 0 hl;rw [h0] at hg;cases hg;simp only [Nat.zero_mul,Nat.add_zero] at g0;clear h h0;go_enter Tryz.func147,Tryz.ntmps147
 go_wp2;go_ret;exact ⟨rfl,kW⟩
theorem sD (m:Int) (b off n c:Nat) (L:List ac) (w:World) (h:aj w (some ⟨b,off,none⟩) n c L) (e:ac) (h0:L[n - 1]?=some e) (hn:1≤n) :
 Calls Tryz.prog 146 #[.agg #[sO b off n c,iT m]] w fun r w'=>r=.returned (.string e.1)∧Bl w w':=by
 have hr:=h.room;have hbg:=h.big;unfold maxLen at hbg;have hj1:(0:Int)≤(n:Int) - 1:=by omega
 have hj2:(n:Int) - 1<(n:Int):=by omega
 have hjt:((n:Int) - 1).toNat=n - 1:=by omega
 have wj:IntKind.i64.wrap ((n:Int) - 1)=(n:Int) - 1:=by rw [IntWalk.i64_left];unfold wrap64;omega
 have kW:Bl w (w.alloc (.cells #[sO b off n c,iT m] 63)):=bZ;have hbb:=(h.lies _ rfl (by omega)).1;simp only at hbb;obtain ⟨s,q,d,t,nn,hg,_,g0,_⟩:=h.ent (Below.refl _ w) hbb (n - 1) (by omega);rw [h0] at hg;cases hg;clear h h0;go_enter Tryz.func146,Tryz.ntmps146
 go_wp2;go_ret;exact ⟨rfl,kW⟩
theorem xm (m:Int) (a:Option Addr) (n c:Nat) (L:List ac) (w:World) (h:aj w a n c L) :
 Calls Tryz.prog 233 #[.agg #[.slice a n c,iT m]] w fun r w'=>r=.returned (.bool (!dv L m))∧Bl w w':=by
 have kW:Bl w (w.alloc (.cells #[.slice a n c,iT m] 63)):=bZ;go_enter Tryz.func233,Tryz.ntmps233
 go_wp2_with fail
 refine (xj _ _ _ L m _ (h.keep kW)).mono ?_;rintro e w1 ⟨rfl,hb1⟩;go_wp2;go_ret;exact ⟨rfl,kW.trans (hb1.mono kW.size)⟩
theorem vW (q:Int) (lo:Nat) (v0 v1:Value) (a:Option Addr) (n c:Nat) (S:List Int) (w:World) (h:bG lo w a n c S) :
 Calls Tryz.prog 89 #[.agg #[iT q,v0,v1,.slice a n c]] w fun e w'=>e=.returned (.bool (cu S q))∧Bl w w':=by
 have hr:=h.room;have hbg:=h.big;unfold maxLen at hbg;have HLN:Hid (S.length=n):=h.length;obtain ⟨X,hX⟩:=aS w.heap.size;obtain ⟨W,hW⟩:=aS (w.alloc (.cells #[iT q,v0,v1,.slice a n c] 31));have kW:Bl w W:=by rw [hW];exact bZ
 have x0:W.cell? ⟨X,0,none⟩=some (iT q):=by rw [hW,hX];simp
 have x3:W.cell? ⟨X,3,none⟩=some (.slice a n c):=by rw [hW,hX];simp
 have H:Hid (bG lo W a n c S):=h.keep kW;have KW:Hid (Bl w W):=kW;have zx:=World.block_lt_of_cell? _ _ x0;simp only at zx;have HP:Hid (∀e w',(e=Ending.returned (.bool (cu S q))∧Bl W w')→e=Ending.returned (.bool (cu S q))∧Bl w w'):=fun e w' hh=>⟨hh.1,KW.out.trans (hh.2.mono KW.out.size)⟩
 clear h kW;go_enter Tryz.func89,Tryz.ntmps89
 go_upto_block 0 with fail
 rw [← hX,← hW];clear hX hW;go_wp2;go_loopw [3] (fun i wr=>∃k:Nat,k≤n∧i=iT k∧Bl W wr∧iL S q k) (fun i _=>n - (intOf i).toNat)
 case atStart=>exact ⟨0,Nat.zero_le _,rfl,Below.refl _ _,fun j hj=>absurd hj (Nat.not_lt_zero _)⟩
 case round =>
  obtain ⟨k,hk,rfl,hb,hw⟩:=hrel;have HW:Hid (iL S q k):=hw;have HB:Hid (Bl W wr):=hb;have y0:=cell_later hb x0;have y3:=cell_later hb x3;have zy:=World.block_lt_of_cell? _ _ y0;simp only at zy;clear hw;by_cases hlt:k<n
  · have hltI:(k:Int)<(n:Int):=by omega
    have hkl:k<S.length:=by rw [HLN.out];exact hlt
    have HKL:Hid (k<S.length):=hkl;clear hkl;obtain ⟨b,off,rfl,hbb⟩:=H.out.form (by omega);obtain ⟨s,hg,_,g0⟩:=H.out.num hb k hlt;have HG:Hid (S[k]?=some s):=hg;have zb:=Nat.lt_of_lt_of_le hbb hb.size;have k0:Bl wr wr.drew:=(Below.refl _ wr).drew;have HMK:Hid (∀w',Bl wr w'→(w'.cell? ⟨X,0,none⟩=some (iT q)∧w'.cell? ⟨X,3,none⟩=some (sO b off n c)∧X<w'.heap.size∧w'.cell? ⟨b,off+k,none⟩=some (iT s)∧b<w'.heap.size)):=fun w' kk=>⟨cell_later kk y0,cell_later kk y3,Nat.lt_of_lt_of_le zy kk.size,cell_later kk g0,Nat.lt_of_lt_of_le zb kk.size⟩
    have KZ:Hid (Bl W wr.drew):=HB.out.trans (k0.mono HB.out.size);clear hg hb;by_cases hs0:s<0
    · have hs0d:decide (s<0)=true:=decide_eq_true hs0;go_wp2_with fail
      refine eC HMK k0 fun aa=>?_
      refine aO 0 34 aa ?_;refine dN ?_;clear k0 HMK aa;go_wp2;go_ret;exact HP.out _ _ ⟨af (ia HKL.out (sJ HG.out hs0)).symm,KZ.out⟩
    have hs0d:decide (s<0)=false:=decide_eq_false hs0;by_cases hsq:q<s
    · have hsqd:decide (q<s)=true:=decide_eq_true hsq;go_wp2_with fail
      refine eC HMK k0 fun aa=>?_
      refine aO 0 34 aa ?_;refine dN ?_;clear k0 HMK aa;go_wp2;go_ret;exact HP.out _ _ ⟨af (ia HKL.out (ql HG.out hsq)).symm,KZ.out⟩
    have hsqd:decide (q<s)=false:=decide_eq_false hsq;by_cases hk0:k=0
    · subst hk0;simp only [Nat.add_zero] at g0 HMK;have HN:Hid (cP S q 0=true):=by show cP S q 0=true;rw [lU HG.out,decide_eq_true (show 0≤s by omega),decide_eq_true (show s≤q by omega)];rfl
      go_wp2_with fail
      refine eC HMK k0 fun aa=>?_
      refine aO 0 34 aa ?_;refine dN ?_;clear k0 HMK aa;go_wp2;go_roundw
      case rel=>exact ⟨0+1,by omega,by go_num,KZ.out,iu HW.out HN.out⟩
      case measure=>simp [intOf];omega
    · have hkp:(0:Int)<(k:Int):=by omega
      have hkpN:0<k:=by omega
      have hkpM:decide (0<k)=true:=decide_eq_true hkpN;have hj1:(0:Int)≤(k:Int) - 1:=by omega
      have hj2:(k:Int) - 1<(n:Int):=by omega
      have hj3:(1:Int)≤(k:Int):=by omega
      have hjt:((k:Int) - 1).toNat=k - 1:=by omega
      have wj:IntKind.i64.wrap ((k:Int) - 1)=(k:Int) - 1:=by rw [IntWalk.i64_left];unfold wrap64;omega
      obtain ⟨p,hp,_,e0⟩:=H.out.num HB.out (k - 1) (by omega);have HM2:Hid (∀w',Bl wr w'→(w'.cell? ⟨X,0,none⟩=some (iT q)∧w'.cell? ⟨X,3,none⟩=some (sO b off n c)∧X<w'.heap.size∧w'.cell? ⟨b,off+k,none⟩=some (iT s)∧b<w'.heap.size∧w'.cell? ⟨b,off+(k - 1),none⟩=some (iT p))):=fun w' kk=>⟨cell_later kk y0,cell_later kk y3,Nat.lt_of_lt_of_le zy kk.size,cell_later kk g0,Nat.lt_of_lt_of_le zb kk.size,cell_later kk e0⟩
      have HSU:Hid (cP S q k=(decide (0≤s) && (decide (s≤q) && decide (p<s)))):=by
       obtain ⟨j,rfl⟩:∃j,k=j+1:=⟨k - 1,by omega⟩;exact jr HG.out hp
      clear hp HMK;by_cases hps:p<s
      · have HN:Hid (cP S q k=true):=by show cP S q k=true;rw [HSU.out,decide_eq_true (show 0≤s by omega),decide_eq_true (show s≤q by omega),decide_eq_true hps];rfl
        have hps':¬s≤p:=by omega
        have hpsd:decide (s≤p)=false:=decide_eq_false hps';go_wp2_with fail
        refine eC HM2 k0 fun aa=>?_
        refine aO 0 34 aa ?_;refine dN ?_;clear k0 HM2 aa;go_wp2;go_roundw
        case rel=>exact ⟨k+1,by omega,by go_num,KZ.out,iu HW.out HN.out⟩
        case measure=>simp [intOf];omega
      · have HN:Hid (cP S q k=false):=by show cP S q k=false;rw [HSU.out,decide_eq_false hps];simp
        have hps':s≤p:=by omega
        have hpsd:decide (s≤p)=true:=decide_eq_true hps';go_wp2_with fail
        refine eC HM2 k0 fun aa=>?_
        refine aO 0 34 aa ?_;refine dN ?_;clear k0 HM2 aa;go_wp2;go_ret;exact HP.out _ _ ⟨af (ia HKL.out HN.out).symm,KZ.out⟩
  · have hltI:¬(k:Int)<(n:Int):=by omega
    have hres:cu S q=decide ((n:Int)≤4):=by
     have hkn:k=S.length:=by rw [HLN.out];omega
     have hw:=HW.out;rw [hkn] at hw;rw [qj hw,HLN.out];by_cases h4:n≤4
     · rw [decide_eq_true h4,decide_eq_true (by omega)]
     · rw [decide_eq_false h4,decide_eq_false (by omega)]
    have HRS:Hid (cu S q=decide ((n:Int)≤4)):=hres;clear hres;go_wp2;go_ret;exact HP.out _ _ ⟨af HRS.out.symm,HB.out⟩
def fh (x y:ac):Bool:=decide (x.1=y.1) && decide (x.2.1≤y.2.1)
def iK (A B:List ac):Bool:=A.all (fun x=>B.all (fun y=>!fh x y))
theorem pv {α:Type} {L:List α} {f:α→Bool} {e:α} (h:(L.take k).all f=true) (hk:L[k]?=some e) (he:f e=true):(L.take (k+1)).all f=true:=by
 rw [List.take_add_one,hk];simp [List.all_append,h,he]
theorem zV {α:Type} {L:List α} {f:α→Bool} {e:α} (hk:L[k]?=some e) (he:f e=false):L.all f=false:=by
 rw [Bool.eq_false_iff];intro h;rw [List.all_eq_true] at h;rw [h e (List.mem_of_getElem? hk)] at he;cases he
theorem wy (a1 a2:Option Addr) (n1 c1 n2 c2:Nat) (A B:List ac) (w:World) (h1:aj w a1 n1 c1 A) (h2:aj w a2 n2 c2 B) :
 Calls Tryz.prog 148 #[.slice a1 n1 c1,.slice a2 n2 c2] w fun e w'=>e=.returned (.bool (iK A B))∧Bl w w':=by
 have HN1:Hid (A.length=n1):=h1.length;have HN2:Hid (B.length=n2):=h2.length;have hr1:=h1.room;have hb1:=h1.big;have hr2:=h2.room;have hb2:=h2.big;unfold maxLen at hb1 hb2;have H1:=b6 h1;have H2:=b6 h2;clear h1 h2;go_enter Tryz.func148,Tryz.ntmps148
 go_wp2;go_loopw [5] (fun iv wr=>∃i:Nat,i≤n1∧iv=iT i∧Bl w wr∧(A.take i).all (fun x=>B.all (fun y=>!fh x y))=true) (fun iv _=>n1 - (intOf iv).toNat)
 case atStart=>exact ⟨0,Nat.zero_le _,rfl,Below.refl _ _,by simp⟩
 case round =>
  obtain ⟨i,hi,rfl,hb,hw⟩:=hrel;have HW:Hid ((A.take i).all (fun x=>B.all (fun y=>!fh x y))=true):=hw;have HB:Hid (Bl w wr):=hb;clear hw;by_cases hin:i<n1
  · have hinI:(i:Int)<(n1:Int):=by omega
    obtain ⟨b1,o1,rfl,hx1⟩:=H1.out.form (by omega);obtain ⟨s,q,d,t,nn,hg,_,_⟩:=H1.out.ent hb hx1 i hin;have HG:Hid (A[i]?=some (s,q,d,t,nn)):=hg;clear hg hb;go_wp2;go_loopw [6] (fun kv wq=>∃k:Nat,k≤n2∧kv=iT k∧Bl w wq∧(B.take k).all (fun y=>!fh (s,q,d,t,nn) y)=true) (fun kv _=>n2 - (intOf kv).toNat)
    case atStart=>exact ⟨0,Nat.zero_le _,rfl,HB.out,by simp⟩
    case round =>
     obtain ⟨k,hk,rfl,hbk,hwk⟩:=hrel;have HWK:Hid ((B.take k).all (fun y=>!fh (s,q,d,t,nn) y)=true):=hwk;have HBK:Hid (Bl w wr):=hbk;clear hwk;by_cases hkn:k<n2
     · have hknI:(k:Int)<(n2:Int):=by omega
       obtain ⟨b2,o2,rfl,hx2⟩:=H2.out.form (by omega);obtain ⟨s1,q1,d1,t1,nn1,hL1,_,g0,g1,_⟩:=H1.out.ent hbk hx1 i hin;rw [HG.out] at hL1;cases hL1;obtain ⟨s',q',d',t',nn',hF,_,e0,e1,_⟩:=H2.out.ent hbk hx2 k hkn;have HF:Hid (B[k]?=some (s',q',d',t',nn')):=hF;have z1:=Nat.lt_of_lt_of_le hx1 hbk.size;have z2:=Nat.lt_of_lt_of_le hx2 hbk.size;have k0:Bl wr wr.drew:=(Below.refl _ wr).drew;have HMK:Hid (∀w',Bl wr w'→(w'.cell? ⟨b1,o1+i*5,none⟩=some (.string s)∧w'.cell? ⟨b1,o1+i*5+1,none⟩=some (iT q)∧b1<w'.heap.size∧w'.cell? ⟨b2,o2+k*5,none⟩=some (.string s')∧w'.cell? ⟨b2,o2+k*5+1,none⟩=some (iT q')∧b2<w'.heap.size)):=fun w' kk=>⟨cell_later kk g0,cell_later kk g1,Nat.lt_of_lt_of_le z1 kk.size,cell_later kk e0,cell_later kk e1,Nat.lt_of_lt_of_le z2 kk.size⟩
       have KZ:Hid (Bl w wr.drew):=HBK.out.trans (k0.mono HBK.out.size);clear hF hbk;by_cases hs:s=s'
       · subst hs;by_cases hq:q≤q'
         · have hqd:decide (q≤q')=true:=decide_eq_true hq;have HC:Hid ((!fh (s,q,d,t,nn) (s,q',d',t',nn'))=false):=by show (!fh _ _)=false;unfold fh;simp [hq]
           go_wp2_with fail
           refine eC HMK k0 fun aa=>?_
           refine aO 0 24 aa ?_;refine dN ?_;clear k0 HMK aa;go_wp2;go_ret;exact ⟨af (zV HG.out (zV HF.out HC.out)).symm,KZ.out⟩
         · have hqd:decide (q≤q')=false:=decide_eq_false hq;have HC:Hid ((!fh (s,q,d,t,nn) (s,q',d',t',nn'))=true):=by show (!fh _ _)=true;unfold fh;simp [hq]
           go_wp2_with fail
           refine eC HMK k0 fun aa=>?_
           refine aO 0 24 aa ?_;refine dN ?_;clear k0 HMK aa;go_wp2;go_roundw
           case rel=>exact ⟨k+1,by omega,by go_num,KZ.out,pv HWK.out HF.out HC.out⟩
           case measure=>simp [intOf];omega
       · have hne:¬s.toList=s'.toList:=by
          rw [ByteArray.toList_eq,ByteArray.toList_eq];intro h;exact hs (ByteArray.ext (Array.toList_inj.1 h))
         have hne':(s.toList == s'.toList)=false:=by simpa using hne
         have HC:Hid ((!fh (s,q,d,t,nn) (s',q',d',t',nn'))=true):=by show (!fh _ _)=true;unfold fh;simp [hs]
         clear hs;go_wp2_with fail
         refine eC HMK k0 fun aa=>?_
         refine aO 0 24 aa ?_;refine dN ?_;clear k0 HMK aa;go_wp2;go_roundw
         case rel=>exact ⟨k+1,by omega,by go_num,KZ.out,pv HWK.out HF.out HC.out⟩
         case measure=>simp [intOf];omega
     · have hknI:¬(k:Int)<(n2:Int):=by omega
       have HC:Hid (B.all (fun y=>!fh (s,q,d,t,nn) y)=true):=by
        have:=HWK.out;rw [List.take_of_length_le (by rw [HN2.out];omega)] at this;exact this
       go_wp2;go_roundw
       case rel=>exact ⟨i+1,by omega,by go_num,HBK.out,pv (f:=fun x=>B.all (fun y=>!fh x y)) HW.out HG.out HC.out⟩
       case measure=>simp [intOf];omega
  · have hinI:¬(i:Int)<(n1:Int):=by omega
    have HC:Hid (iK A B=true):=by
     have:=HW.out;rw [List.take_of_length_le (by rw [HN1.out];omega)] at this;exact this
    go_wp2;go_ret;exact ⟨af HC.out.symm,HB.out⟩
def bj (L:List ac):ByteArray:=match L[0]? with | some e=>e.1 | none=>⟨#[]⟩
def aT (L:List ac):ByteArray:=match L[L.length - 1]? with | some e=>e.1 | none=>⟨#[]⟩
def j9 (A B:List ac):Bool:=Op.bytesLess (aT A).toList (bj B).toList
def gT (B:List ag) (r:ag) (i:Nat):Bool:=match i with | 0=>true | j+1=>match B[j]? with | none=>true | some p=>j9 p.1 r.1
def eQ (B:List ag) (ap:Bool) (q:Int) (i:Nat):Bool :=
 match B[i]? with
 | none=>true
 | some r=>dv r.1 r.2 && (bW r.1 q && (!ap || gT B r i))
def pz (B:List ag) (ap:Bool) (q:Int) (k:Nat):Prop:=∀j,j<k→eQ B ap q j=true
def dl (B:List ag) (most:Int) (ap:Bool) (q:Int):Bool:=decide ((B.length:Int)≤most) && (List.range B.length).all (eQ B ap q)
theorem wI (h:most<(B.length:Int)):dl B most ap q=false:=by
 unfold dl;rw [decide_eq_false (by omega)];rfl
theorem ri (hk:k<B.length) (h:eQ B ap q k=false):dl B most ap q=false:=by
 unfold dl;rw [Bool.and_eq_false_iff];right
 rw [Bool.eq_false_iff];intro h1;rw [List.all_eq_true] at h1;rw [h1 k (List.mem_range.2 hk)] at h;cases h
theorem yJ (h:pz B ap q B.length) (hm:(B.length:Int)≤most):dl B most ap q=true:=by
 unfold dl;rw [decide_eq_true hm,Bool.true_and,List.all_eq_true];intro j hj;exact h j (List.mem_range.1 hj)
theorem lW (h:pz B ap q k) (hk:eQ B ap q k=true):pz B ap q (k+1):=by
 intro j hj;by_cases e:j=k
 · subst e;exact hk
 · exact h j (by omega)
theorem dy (h:B[i]?=some r):eQ B ap q i=(dv r.1 r.2 && (bW r.1 q && (!ap || gT B r i))):=by
 unfold eQ;simp only [h]
theorem uk {p:ag} (h:B[i]?=some r) (hi:0<i) (hp:B[i - 1]?=some p):eQ B ap q i=(dv r.1 r.2 && (bW r.1 q && (!ap || j9 p.1 r.1))):=by
 obtain ⟨j,rfl⟩:∃j,i=j+1:=⟨i - 1,by omega⟩;simp only [Nat.add_sub_cancel] at hp;rw [dy h];unfold gT;simp only [hp]
theorem ll (h:1≤L.length):∃e,L[0]?=some e∧bj L=e.1:=by
 have hg:L[0]?=some L[0]:=List.getElem?_eq_getElem (by omega);exact ⟨_,hg,by unfold bj;rw [hg]⟩
theorem ij (h:1≤L.length):∃e,L[L.length - 1]?=some e∧aT L=e.1:=by
 have hg:L[L.length - 1]?=some (L[L.length - 1]'(by omega)):=List.getElem?_eq_getElem (by omega);exact ⟨_,hg,by unfold aT;rw [hg]⟩
theorem nR (lo:Nat) (a:Option Addr) (n c:Nat) (B:List ag) (most:Int) (ap:Bool) (q:Int) (w:World) (h:az lo w a n c B) :
 Calls Tryz.prog 90 #[.slice a n c,iT most,.bool ap,iT q] w fun e w'=>e=.returned (.bool (dl B most ap q))∧Bl w w':=by
 have HLN:Hid (B.length=n):=h.length;have hr:=h.room;have hbg:=h.big;unfold maxLen at hbg;have H:=b6 h;clear h;by_cases hm:most<(n:Int)
 · go_enter Tryz.func90,Tryz.ntmps90
   go_wp2;go_ret;exact ⟨af (wI (by rw [HLN.out];exact hm)).symm,Below.refl _ _⟩
 go_enter Tryz.func90,Tryz.ntmps90
 go_wp2;go_loopw [9] (fun iv wr=>∃i:Nat,i≤n∧iv=iT i∧Bl w wr∧pz B ap q i) (fun iv _=>n - (intOf iv).toNat)
 case atStart=>exact ⟨0,Nat.zero_le _,rfl,Below.refl _ _,fun j hj=>absurd hj (Nat.not_lt_zero _)⟩
 case round =>
  obtain ⟨i,hi,rfl,hb,hw⟩:=hrel;have HW:Hid (pz B ap q i):=hw;have HB:Hid (Bl w wr):=hb;clear hw;by_cases hin:i<n
  · have hinI:(i:Int)<(n:Int):=by omega
    have HKL:Hid (i<B.length):=by show i<B.length;rw [HLN.out];exact hin
    obtain ⟨b,off,rfl,hbb⟩:=H.out.form (by omega);obtain ⟨L,m,s,ns,cs,hg,_,g0,g1,hE⟩:=H.out.run hb i hin;have HG:Hid (B[i]?=some (L,m)):=hg;have HE:Hid (eu lo wr s ns cs L):=hE;have zb:=Nat.lt_of_lt_of_le hbb hb.size;clear hg hb hE;obtain ⟨O,hO⟩:=aS (dv L m);go_wp2_with fail
    refine (vY _ _ _ L m wr HE.out.1).mono ?_;rw [← hO];rintro e w1 ⟨rfl,hb1⟩;have g0:=cell_later hb1 g0;have g1:=cell_later hb1 g1;have zb:=Nat.lt_of_lt_of_le zb hb1.size;have K1:Hid (Bl w w1):=HB.out.trans (hb1.mono HB.out.size);have E1:Hid (aj w1 s ns cs L):=HE.out.1.keep hb1;clear hb1;cases hOv:O with
    | false =>
     have HN:Hid (eQ B ap q i=false):=by show eQ B ap q i=false;rw [dy HG.out,← hO,hOv];rfl
     go_wp2;go_ret;exact ⟨af (ri HKL.out HN.out).symm,K1.out⟩
    | true =>
     have HRB:Hid (dv L m=true):=by rw [← hO];exact hOv
     clear hO hOv;obtain ⟨T,hT⟩:=aS (bW L q);go_wp2_with fail
     refine (nQ _ _ _ L q w1 E1.out).mono ?_;rw [← hT];rintro e wr2 ⟨rfl,rfl⟩;cases hTv:T with
     | false =>
      have HN:Hid (eQ B ap q i=false):=by show eQ B ap q i=false;rw [dy HG.out,HRB.out,← hT,hTv];rfl
      go_wp2;go_ret;exact ⟨af (ri HKL.out HN.out).symm,K1.out⟩
     | true =>
      have HWI:Hid (bW L q=true):=by rw [← hT];exact hTv
      clear hT hTv;have k0:Bl wr2 wr2.drew:=(Below.refl _ wr2).drew;have KZ:Hid (Bl w wr2.drew):=K1.out.trans (k0.mono K1.out.size);have HMK:Hid (∀w',Bl wr2 w'→(b<w'.heap.size)):=fun w' kk=>Nat.lt_of_lt_of_le zb kk.size
      cases ap with
      | false =>
      have HN:Hid (eQ B false q i=true):=by show eQ B false q i=true;rw [dy HG.out,HRB.out,HWI.out];rfl
      go_wp2_with fail
      refine eC HMK k0 fun aa=>?_
      refine aO 0 11 aa ?_;refine aO 12 4 aa ?_;refine aI 11 fun K hK=>?_
      go_simp;refine hK.out _ _ (HMK.out _ k0) fun aa=>?_
      (try go_frame);refine aI 16 fun K hK=>?_
      go_simp;refine hK.out _ _ (HMK.out _ k0) fun aa=>?_
      (try go_frame);refine aO 17 2 aa ?_;refine dN ?_;clear k0 HMK aa;go_wp2;go_roundw
      case rel=>exact ⟨i+1,by omega,by go_num,KZ.out,lW HW.out HN.out⟩
      case measure=>simp [intOf];omega
      | true =>
       by_cases hi0:i=0
       · subst hi0;have HN:Hid (eQ B true q 0=true):=by show eQ B true q 0=true;rw [dy HG.out,HRB.out,HWI.out];rfl
         go_wp2_with fail
         refine eC HMK k0 fun aa=>?_
         refine aO 0 11 aa ?_;refine aO 12 4 aa ?_;refine aI 11 fun K hK=>?_
         go_simp;refine hK.out _ _ (HMK.out _ k0) fun aa=>?_
         (try go_frame);refine aI 16 fun K hK=>?_
         go_simp;refine hK.out _ _ (HMK.out _ k0) fun aa=>?_
         (try go_frame);refine aO 17 2 aa ?_;refine dN ?_;clear k0 HMK aa;go_wp2;go_roundw
         case rel=>exact ⟨0+1,by omega,by go_num,KZ.out,lW HW.out HN.out⟩
         case measure=>simp [intOf];omega
       · have hip:(0:Int)<(i:Int):=by omega
         have hipN:0<i:=by omega
         have hipD:decide (0<i)=true:=decide_eq_true hipN;have hj1:(0:Int)≤(i:Int) - 1:=by omega
         have hj2:(i:Int) - 1<(n:Int):=by omega
         have hj3:(1:Int)≤(i:Int):=by omega
         have hjt:((i:Int) - 1).toNat=i - 1:=by omega
         have wj:IntKind.i64.wrap ((i:Int) - 1)=(i:Int) - 1:=by rw [IntWalk.i64_left];unfold wrap64;omega
         obtain ⟨Lp,mp,sp,np,cp,hp,_,p0,p1,hEp⟩:=H.out.run K1.out (i - 1) (by omega);have hRp:dv Lp mp=true:=by
          have h1:=HW.out (i - 1) (by omega);rw [dy hp] at h1;simp only [Bool.and_eq_true] at h1;exact h1.1
         have l1:=(bK HRB.out).1;have l2:=(bK hRp).1;obtain ⟨el,hel,hlow⟩:=ll l1;obtain ⟨eh,heh,hhigh⟩:=ij l2;have hns:=E1.out.length;have hnp:=hEp.1.length;obtain ⟨bs,os,rfl,_⟩:=E1.out.form (by omega);obtain ⟨bp,op,rfl,_⟩:=hEp.1.form (by omega);rw [hnp] at heh;have CH:Hid (∀w',Bl wr2 w'→Calls Tryz.prog 146 #[.agg #[sO bp op np cp,iT mp]] w' fun r w''=>r=.returned (.string eh.1)∧Bl w' w''):=fun w' k=>sD mp bp op np cp Lp w' (hEp.1.keep k) eh heh (by omega)
         have CLO:Hid (∀w',Bl wr2 w'→Calls Tryz.prog 147 #[.agg #[sO bs os ns cs,iT m]] w' fun r w''=>r=.returned (.string el.1)∧Bl w' w''):=fun w' k=>vi m bs os ns cs L w' (E1.out.keep k) el hel
         have HAT:Hid (eQ B true q i=Op.bytesLess eh.1.toList el.1.toList):=by
          show eQ B true q i=_
          rw [uk HG.out hipN hp,HRB.out,HWI.out];simp only [Bool.true_and,Bool.not_true,Bool.false_or];unfold j9;rw [hlow,hhigh]
         have HM1:Hid (∀w',Bl wr2 w'→(w'.cell? ⟨b,off+i*2,none⟩=some (sO bs os ns cs)∧w'.cell? ⟨b,off+i*2+1,none⟩=some (iT m)∧w'.cell? ⟨b,off+(i - 1)*2,none⟩=some (sO bp op np cp)∧w'.cell? ⟨b,off+(i - 1)*2+1,none⟩=some (iT mp)∧b<w'.heap.size)):=fun w' kk=>⟨cell_later kk g0,cell_later kk g1,cell_later kk p0,cell_later kk p1,Nat.lt_of_lt_of_le zb kk.size⟩
         clear HMK hp hEp hRp l1 l2 hel heh hlow hhigh hns hnp g0 g1 p0 p1 zb HE;obtain ⟨sh,hsh⟩:=aS eh.1;obtain ⟨sl,hsl⟩:=aS el.1;rw [← hsh] at CH HAT;rw [← hsl] at CLO HAT;clear hsh hsl;cases hcmp:Op.bytesLess sh.toList sl.toList with
         | true =>
          have HN:Hid (eQ B true q i=true):=by show eQ B true q i=true;rw [HAT.out];exact hcmp
          go_wp2_with fail
          refine eC HM1 k0 fun aa=>?_
          refine aO 0 11 aa ?_;refine aO 12 4 aa ?_;refine aI 11 fun K hK=>?_
          go_simp;refine (CH.out _ k0).mono ?_;rintro e wk1 ⟨rfl,bk1⟩;have k1:Bl wr2 wk1:=k0.trans (bk1.mono k0.size);go_wp2_with fail
          refine hK.out _ _ (HM1.out _ k1) fun aa=>?_
          (try go_frame);refine aI 16 fun K hK=>?_
          go_simp;refine (CLO.out _ k1).mono ?_;rintro e wk2 ⟨rfl,bk2⟩;have k2:Bl wr2 wk2:=k1.trans (bk2.mono k1.size);go_wp2_with fail
          refine hK.out _ _ (HM1.out _ k2) fun aa=>?_
          (try go_frame);refine aO 17 2 aa ?_;refine dN ?_;have KY:Hid (Bl w wk2):=K1.out.trans (k2.mono K1.out.size);clear k0 k1 k2 bk1 bk2 HM1 aa;go_wp2;go_roundw
          case rel=>exact ⟨i+1,by omega,by go_num,KY.out,lW HW.out HN.out⟩
          case measure=>simp [intOf];omega
         | false =>
          have HN:Hid (eQ B true q i=false):=by show eQ B true q i=false;rw [HAT.out];exact hcmp
          go_wp2_with fail
          refine eC HM1 k0 fun aa=>?_
          refine aO 0 11 aa ?_;refine aO 12 4 aa ?_;refine aI 11 fun K hK=>?_
          go_simp;refine (CH.out _ k0).mono ?_;rintro e wk1 ⟨rfl,bk1⟩;have k1:Bl wr2 wk1:=k0.trans (bk1.mono k0.size);go_wp2_with fail
          refine hK.out _ _ (HM1.out _ k1) fun aa=>?_
          (try go_frame);refine aI 16 fun K hK=>?_
          go_simp;refine (CLO.out _ k1).mono ?_;rintro e wk2 ⟨rfl,bk2⟩;have k2:Bl wr2 wk2:=k1.trans (bk2.mono k1.size);go_wp2_with fail
          refine hK.out _ _ (HM1.out _ k2) fun aa=>?_
          (try go_frame);refine aO 17 2 aa ?_;refine dN ?_;have KY:Hid (Bl w wk2):=K1.out.trans (k2.mono K1.out.size);clear k0 k1 k2 bk1 bk2 HM1 aa;go_wp2;go_ret;exact ⟨af (ri HKL.out HN.out).symm,KY.out⟩
  · have hinI:¬(i:Int)<(n:Int):=by omega
    have HC:Hid (dl B most ap q=true):=by
     have hw:=HW.out;have hii:i=B.length:=by rw [HLN.out];omega
     rw [hii] at hw;exact yJ hw (by rw [HLN.out];omega)
    go_wp2;go_ret;exact ⟨af HC.out.symm,HB.out⟩
theorem Tryz.infoEnt:(Tryz.prog.info? 50).map (fun i=>(i.zero,i.size,i.bytes))=some (some (.agg #[.string ByteArray.empty,iT 0,iT 0,.string ByteArray.empty,iT 0]),5,56):=by kernel_rfl
def iM (xs:List Value) (j:Nat) (l:ac):Prop:=xs[j*5]?=some (.string l.1)∧xs[j*5+1]?=some (iT l.2.1)∧xs[j*5+2]?=some (iT l.2.2.1)∧xs[j*5+3]?=some (.string l.2.2.2.1)∧xs[j*5+4]?=some (iT l.2.2.2.2)
theorem kQ {j:Nat} {l:ac} (h:iM xs j l) (hne:j≠k) (u0 u1 u2 u3 u4:Value):iM (((((xs.set (k*5) u0).set (k*5+1) u1).set (k*5+2) u2).set (k*5+3) u3).set (k*5+4) u4) j l:=by
 obtain ⟨h0,h1,h2,h3,h4⟩:=h;refine ⟨?_,?_,?_,?_,?_⟩ <;> (repeat rw [List.getElem?_set_ne (by omega)]) <;> assumption
theorem mF (s t:ByteArray) (q d n:Int) (h:k*5+4<xs.length):iM (((((xs.set (k*5) (.string s)).set (k*5+1) (iT q)).set (k*5+2) (iT d)).set (k*5+3) (.string t)).set (k*5+4) (iT n)) k (s,q,d,t,n):=by
 refine ⟨?_,?_,?_,?_,?_⟩
 · rw [List.getElem?_set_ne (by omega),List.getElem?_set_ne (by omega),List.getElem?_set_ne (by omega),List.getElem?_set_ne (by omega),List.getElem?_set_self (by omega)]
 · rw [List.getElem?_set_ne (by omega),List.getElem?_set_ne (by omega),List.getElem?_set_ne (by omega),List.getElem?_set_self (by simp;omega)]
 · rw [List.getElem?_set_ne (by omega),List.getElem?_set_ne (by omega),List.getElem?_set_self (by simp;omega)]
 · rw [List.getElem?_set_ne (by omega),List.getElem?_set_self (by simp;omega)]
 · rw [List.getElem?_set_self (by simp;omega)]
theorem pY {w:World} {base g n cap:Nat} (h:w.ownsRow base 50 5 (sL g n cap) n xs) (hn:L.length=n) (hw:∀l ∈ L,ec l)
 (hh:∀j l,L[j]?=some l→iM xs j l):aj w (pT g) n cap L:=by
 have hlt:=(h.lt g rfl).2;have hrc:n≤cap∧cap≤maxLen:=by
  rcases h.2 with ⟨h',_⟩ | ⟨g',cap',cur,h',_,_,hnc,hcm,_,_⟩
  · simp at h'
  · simp only [Value.slice.injEq,Option.some.injEq,Addr.mk.injEq,and_true,true_and] at h';obtain ⟨rfl,rfl⟩:=h';exact ⟨hnc,hcm⟩
 refine ⟨hn,hrc.1,hrc.2,hw,(fun e=>by cases e),?_,?_⟩
 · rintro x e _;cases e;exact ⟨hlt,rfl⟩
 · rintro x e i hi;cases e;obtain ⟨r0,r1,r2,r3,r4⟩:=hh i L[i] (List.getElem?_eq_getElem hi);rw [hn] at hi;simp only [Nat.zero_add];exact ⟨(h.cellAt _ (by omega)).trans r0,(h.cellAt _ (by omega)).trans r1,(h.cellAt _ (by omega)).trans r2,(h.cellAt _ (by omega)).trans r3,(h.cellAt _ (by omega)).trans r4⟩
end Go.Proofs.YtpobkmjicbobdaaGreat
