/- Walks. -/
import Derived.Test.YtehiefdphnljaaaGreatDoorSw30
namespace Go.Proofs.YtehiefdphnljaaaGreatDoor
set_option maxRecDepth 100000
set_option maxHeartbeats 40000000
open Go.RowKit
variable {L:List ae} {P:List (List ae)} {ap:Bool} {i k:Nat} {most q:Int} {r:aq}
theorem mK (a:Option Addr) (n c:Nat) (M:List ae) (q:Int) (w:World) (h:an w a n c M) :
 Calls Tryz.prog 64 #[.slice a n c,iT q] w fun e w'=>e=.returned (.bool (cj M q))∧w'=w:=by
 have hr:=h.room;have hbg:=h.big;unfold maxLen at hbg;have HLN:Hid (M.length=n):=h.length;have H:=ar h;clear h;go_enter Tryz.func64,Tryz.ntmps64
 go_wp2;go_loopw [5] (fun i wr=>∃k:Nat,k≤n∧i=iT k∧wr=w∧cj (M.take k) q=true) (fun i _=>n - (intOf i).toNat)
 case atStart=>exact ⟨0,Nat.zero_le _,rfl,rfl,by simp [cj]⟩
 case round =>
  obtain ⟨k,hk,rfl,rfl,hw⟩:=hrel;have HW:Hid (cj (M.take k) q=true):=hw;clear hw;by_cases hlt:k<n
  · have hltI:(k:Int)<(n:Int):=by omega
    obtain ⟨b,off,rfl,hbb⟩:=H.out.form (by omega);obtain ⟨s,qe,d,t,nn,hg,_,g0,g1,g2,g3,g4⟩:=H.out.ent (Below.refl _ wr) hbb k hlt;have HG:Hid (M[k]?=some (s,qe,d,t,nn)):=hg;clear hg;by_cases hq:q<qe
    · go_wp2;go_ret;exact ⟨aj (uQ HG.out (by simp only;omega)).symm,rfl⟩
    · go_wp2;go_roundw
      case rel=>exact ⟨k+1,by omega,by go_num,by first | rfl | trivial,qD HW.out HG.out (by simp only;omega)⟩
      case measure=>simp [intOf];omega
  · go_wp2;go_ret;have hall:=HW.out;rw [List.take_of_length_le (by rw [HLN.out];omega)] at hall;exact ⟨aj hall.symm,rfl⟩
theorem vQ (lo:Nat) (a:Option Addr) (n c:Nat) (S:List Int) (q:Int) (w:World) (h:bC lo w a n c S) :
 Calls Tryz.prog 118 #[.slice a n c,iT q] w fun e w'=>e=.returned (.bool (cW S q))∧w'=w:=by
 have hr:=h.room;have hbg:=h.big;unfold maxLen at hbg;have HLN:Hid (S.length=n):=h.length;have H:=ar h;clear h;by_cases hm:4<n
 · go_enter Tryz.func118,Tryz.ntmps118
   go_wp2;go_ret;exact ⟨aj (sW (by rw [HLN.out];exact hm)).symm,rfl⟩
 go_enter Tryz.func118,Tryz.ntmps118
 go_wp2;go_loopw [12] (fun i wr=>∃k:Nat,k≤n∧i=iT k∧wr=w∧iw S q k) (fun i _=>n - (intOf i).toNat)
 case atStart=>exact ⟨0,Nat.zero_le _,rfl,rfl,fun j hj=>absurd hj (Nat.not_lt_zero _)⟩
 case round =>
  obtain ⟨k,hk,rfl,rfl,hw⟩:=hrel;have HW:Hid (iw S q k):=hw;clear hw;by_cases hlt:k<n
  · have hltI:(k:Int)<(n:Int):=by omega
    have hkl:k<S.length:=by rw [HLN.out];exact hlt
    have HKL:Hid (k<S.length):=hkl;clear hkl;obtain ⟨b,off,rfl,hbb⟩:=H.out.form (by omega);obtain ⟨s,hg,_,g0⟩:=H.out.num (Below.refl _ wr) k hlt;have HG:Hid (S[k]?=some s):=hg;clear hg;by_cases hs0:s<0
    · go_wp2;go_ret;exact ⟨aj (gx HKL.out (qW HG.out hs0)).symm,rfl⟩
    by_cases hsq:q<s
    · go_wp2;go_ret;exact ⟨aj (gx HKL.out (oJ HG.out hsq)).symm,rfl⟩
    by_cases hk0:k=0
    · subst hk0;simp only [Nat.add_zero] at g0;have HN:Hid (cJ S q 0=true):=by show cJ S q 0=true;rw [oG HG.out,decide_eq_true (show 0≤s by omega),decide_eq_true (show s≤q by omega)];rfl
      go_wp2;go_roundw
      case rel=>exact ⟨0+1,by omega,by go_num,by first | rfl | trivial,gN HW.out HN.out⟩
      case measure=>simp [intOf];omega
    · have hkp:(0:Int)<(k:Int):=by omega
      have hj1:(0:Int)≤(k:Int) - 1:=by omega
      have hj2:(k:Int) - 1<(n:Int):=by omega
      have hjt:((k:Int) - 1).toNat=k - 1:=by omega
      have wj:IntKind.i64.wrap ((k:Int) - 1)=(k:Int) - 1:=by rw [IntWalk.i64_left];unfold wrap64;omega
      obtain ⟨p,hp,_,e0⟩:=H.out.num (Below.refl _ wr) (k - 1) (by omega);obtain ⟨j,rfl⟩:∃j,k=j+1:=⟨k - 1,by omega⟩;simp only [Nat.add_sub_cancel] at hp e0 hjt;have HSU:=oH (q:=q) HG.out hp;have HSU':Hid (cJ S q (j+1)=(decide (0≤s) && (decide (s≤q) && decide (p<s)))):=HSU;clear hp HSU;by_cases hps:p<s
      · have HN:Hid (cJ S q (j+1)=true):=by show cJ S q (j+1)=true;rw [HSU'.out,decide_eq_true (show 0≤s by omega),decide_eq_true (show s≤q by omega),decide_eq_true hps];rfl
        go_wp2;go_roundw
        case rel=>exact ⟨j+1+1,by omega,by go_num,by first | rfl | trivial,gN HW.out HN.out⟩
        case measure=>simp [intOf];omega
      · have HN:Hid (cJ S q (j+1)=false):=by show cJ S q (j+1)=false;rw [HSU'.out,decide_eq_false hps];simp
        go_wp2;go_ret;exact ⟨aj (gx HKL.out HN.out).symm,rfl⟩
  · go_wp2;go_ret;refine ⟨aj ?_,rfl⟩;have hkn:k=S.length:=by rw [HLN.out];omega
    have hw:=HW.out;rw [hkn] at hw;rw [oF hw,decide_eq_true (by rw [HLN.out];omega)]
theorem Au (m:Int) (b off n c:Nat) (L:List ae) (w:World) (h:an w (some ⟨b,off,none⟩) n c L) (e:ae) (h0:L[0]?=some e) :
 Calls Tryz.prog 105 #[.agg #[sO b off n c,iT m]] w fun r w'=>r=.returned (.string e.1)∧Bl w w':=by
 have hl:=(List.getElem?_eq_some_iff.1 h0).1;rw [h.length] at hl;have hnI:(0:Int)<(n:Int):=by omega
 have kW:Bl w (w.alloc (.cells #[sO b off n c,iT m] 119)):=bZ;have hbb:=(h.lies _ rfl hl).1;simp only at hbb;obtain ⟨s,q,d,t,nn,hg,_,g0,_⟩:=h.ent (Below.refl _ w) hbb 0 hl;rw [h0] at hg;cases hg;simp only [Nat.zero_mul,Nat.add_zero] at g0;clear h h0;go_enter Tryz.func105,Tryz.ntmps105
 go_wp2;go_ret;exact ⟨rfl,kW⟩
theorem yt (m:Int) (b off n c:Nat) (L:List ae) (w:World) (h:an w (some ⟨b,off,none⟩) n c L) (e:ae) (h0:L[n - 1]?=some e) (hn:1≤n) :
 Calls Tryz.prog 104 #[.agg #[sO b off n c,iT m]] w fun r w'=>r=.returned (.string e.1)∧Bl w w':=by
 have hr:=h.room;have hbg:=h.big;unfold maxLen at hbg;have hj1:(0:Int)≤(n:Int) - 1:=by omega
 have hj2:(n:Int) - 1<(n:Int):=by omega
 have hjt:((n:Int) - 1).toNat=n - 1:=by omega
 have wj:IntKind.i64.wrap ((n:Int) - 1)=(n:Int) - 1:=by rw [IntWalk.i64_left];unfold wrap64;omega
 have kW:Bl w (w.alloc (.cells #[sO b off n c,iT m] 119)):=bZ;have hbb:=(h.lies _ rfl (by omega)).1;simp only at hbb;obtain ⟨s,q,d,t,nn,hg,_,g0,_⟩:=h.ent (Below.refl _ w) hbb (n - 1) (by omega);rw [h0] at hg;cases hg;clear h h0;go_enter Tryz.func104,Tryz.ntmps104
 go_wp2;go_ret;exact ⟨rfl,kW⟩
theorem vS (m:Int) (a:Option Addr) (n c:Nat) (L:List ae) (w:World) (h:an w a n c L) :
 Calls Tryz.prog 147 #[.agg #[.slice a n c,iT m]] w fun r w'=>r=.returned (.bool (!dZ L m))∧Bl w w':=by
 have kW:Bl w (w.alloc (.cells #[.slice a n c,iT m] 119)):=bZ;go_enter Tryz.func147,Tryz.ntmps147
 go_wp2_with fail
 refine (vR _ _ _ L m _ (h.keep kW)).mono ?_;rintro e w1 ⟨rfl,hb1⟩;go_wp2;go_ret;exact ⟨rfl,kW.trans (hb1.mono kW.size)⟩
theorem vg (q:Int) (lo:Nat) (v0 v1:Value) (a:Option Addr) (n c:Nat) (S:List Int) (w:World) (h:bC lo w a n c S) :
 Calls Tryz.prog 65 #[.agg #[iT q,v0,v1,.slice a n c]] w fun e w'=>e=.returned (.bool (cW S q))∧Bl w w':=by
 have hr:=h.room;have hbg:=h.big;unfold maxLen at hbg;have HLN:Hid (S.length=n):=h.length;obtain ⟨X,hX⟩:=aw w.heap.size;obtain ⟨W,hW⟩:=aw (w.alloc (.cells #[iT q,v0,v1,.slice a n c] 36));have kW:Bl w W:=by rw [hW];exact bZ
 have x0:W.cell? ⟨X,0,none⟩=some (iT q):=by rw [hW,hX];simp
 have x3:W.cell? ⟨X,3,none⟩=some (.slice a n c):=by rw [hW,hX];simp
 have H:Hid (bC lo W a n c S):=h.keep kW;have KW:Hid (Bl w W):=kW;have zx:=World.block_lt_of_cell? _ _ x0;simp only at zx;have HP:Hid (∀e w',(e=Ending.returned (.bool (cW S q))∧Bl W w')→e=Ending.returned (.bool (cW S q))∧Bl w w'):=fun e w' hh=>⟨hh.1,KW.out.trans (hh.2.mono KW.out.size)⟩
 clear h kW;go_enter Tryz.func65,Tryz.ntmps65
 go_upto_block 0 with fail
 rw [← hX,← hW];clear hX hW;go_wp2;go_loopw [3] (fun i wr=>∃k:Nat,k≤n∧i=iT k∧Bl W wr∧iw S q k) (fun i _=>n - (intOf i).toNat)
 case atStart=>exact ⟨0,Nat.zero_le _,rfl,Below.refl _ _,fun j hj=>absurd hj (Nat.not_lt_zero _)⟩
 case round =>
  obtain ⟨k,hk,rfl,hb,hw⟩:=hrel;have HW:Hid (iw S q k):=hw;have HB:Hid (Bl W wr):=hb;have y0:=cell_later hb x0;have y3:=cell_later hb x3;have zy:=World.block_lt_of_cell? _ _ y0;simp only at zy;clear hw;by_cases hlt:k<n
  · have hltI:(k:Int)<(n:Int):=by omega
    have hkl:k<S.length:=by rw [HLN.out];exact hlt
    have HKL:Hid (k<S.length):=hkl;clear hkl;obtain ⟨b,off,rfl,hbb⟩:=H.out.form (by omega);obtain ⟨s,hg,_,g0⟩:=H.out.num hb k hlt;have HG:Hid (S[k]?=some s):=hg;have zb:=Nat.lt_of_lt_of_le hbb hb.size;have k0:Bl wr wr.drew:=(Below.refl _ wr).drew;have HMK:Hid (∀w',Bl wr w'→(w'.cell? ⟨X,0,none⟩=some (iT q)∧w'.cell? ⟨X,3,none⟩=some (sO b off n c)∧X<w'.heap.size∧w'.cell? ⟨b,off+k,none⟩=some (iT s)∧b<w'.heap.size)):=fun w' kk=>⟨cell_later kk y0,cell_later kk y3,Nat.lt_of_lt_of_le zy kk.size,cell_later kk g0,Nat.lt_of_lt_of_le zb kk.size⟩
    have KZ:Hid (Bl W wr.drew):=HB.out.trans (k0.mono HB.out.size);clear hg hb;by_cases hs0:s<0
    · have hs0d:decide (s<0)=true:=decide_eq_true hs0;go_wp2_with fail
      refine dC HMK k0 fun aa=>?_
      refine aK 0 34 aa ?_;refine dN ?_;clear k0 HMK aa;go_wp2;go_ret;exact HP.out _ _ ⟨aj (gx HKL.out (qW HG.out hs0)).symm,KZ.out⟩
    have hs0d:decide (s<0)=false:=decide_eq_false hs0;by_cases hsq:q<s
    · have hsqd:decide (q<s)=true:=decide_eq_true hsq;go_wp2_with fail
      refine dC HMK k0 fun aa=>?_
      refine aK 0 34 aa ?_;refine dN ?_;clear k0 HMK aa;go_wp2;go_ret;exact HP.out _ _ ⟨aj (gx HKL.out (oJ HG.out hsq)).symm,KZ.out⟩
    have hsqd:decide (q<s)=false:=decide_eq_false hsq;by_cases hk0:k=0
    · subst hk0;simp only [Nat.add_zero] at g0 HMK;have HN:Hid (cJ S q 0=true):=by show cJ S q 0=true;rw [oG HG.out,decide_eq_true (show 0≤s by omega),decide_eq_true (show s≤q by omega)];rfl
      go_wp2_with fail
      refine dC HMK k0 fun aa=>?_
      refine aK 0 34 aa ?_;refine dN ?_;clear k0 HMK aa;go_wp2;go_roundw
      case rel=>exact ⟨0+1,by omega,by go_num,KZ.out,gN HW.out HN.out⟩
      case measure=>simp [intOf];omega
    · have hkp:(0:Int)<(k:Int):=by omega
      have hkpN:0<k:=by omega
      have hkpM:decide (0<k)=true:=decide_eq_true hkpN;have hj1:(0:Int)≤(k:Int) - 1:=by omega
      have hj2:(k:Int) - 1<(n:Int):=by omega
      have hj3:(1:Int)≤(k:Int):=by omega
      have hjt:((k:Int) - 1).toNat=k - 1:=by omega
      have wj:IntKind.i64.wrap ((k:Int) - 1)=(k:Int) - 1:=by rw [IntWalk.i64_left];unfold wrap64;omega
      obtain ⟨p,hp,_,e0⟩:=H.out.num HB.out (k - 1) (by omega);have HM2:Hid (∀w',Bl wr w'→(w'.cell? ⟨X,0,none⟩=some (iT q)∧w'.cell? ⟨X,3,none⟩=some (sO b off n c)∧X<w'.heap.size∧w'.cell? ⟨b,off+k,none⟩=some (iT s)∧b<w'.heap.size∧w'.cell? ⟨b,off+(k - 1),none⟩=some (iT p))):=fun w' kk=>⟨cell_later kk y0,cell_later kk y3,Nat.lt_of_lt_of_le zy kk.size,cell_later kk g0,Nat.lt_of_lt_of_le zb kk.size,cell_later kk e0⟩
      have HSU:Hid (cJ S q k=(decide (0≤s) && (decide (s≤q) && decide (p<s)))):=by
       obtain ⟨j,rfl⟩:∃j,k=j+1:=⟨k - 1,by omega⟩;exact oH HG.out hp
      clear hp HMK;by_cases hps:p<s
      · have HN:Hid (cJ S q k=true):=by show cJ S q k=true;rw [HSU.out,decide_eq_true (show 0≤s by omega),decide_eq_true (show s≤q by omega),decide_eq_true hps];rfl
        have hps':¬s≤p:=by omega
        have hpsd:decide (s≤p)=false:=decide_eq_false hps';go_wp2_with fail
        refine dC HM2 k0 fun aa=>?_
        refine aK 0 34 aa ?_;refine dN ?_;clear k0 HM2 aa;go_wp2;go_roundw
        case rel=>exact ⟨k+1,by omega,by go_num,KZ.out,gN HW.out HN.out⟩
        case measure=>simp [intOf];omega
      · have HN:Hid (cJ S q k=false):=by show cJ S q k=false;rw [HSU.out,decide_eq_false hps];simp
        have hps':s≤p:=by omega
        have hpsd:decide (s≤p)=true:=decide_eq_true hps';go_wp2_with fail
        refine dC HM2 k0 fun aa=>?_
        refine aK 0 34 aa ?_;refine dN ?_;clear k0 HM2 aa;go_wp2;go_ret;exact HP.out _ _ ⟨aj (gx HKL.out HN.out).symm,KZ.out⟩
  · have hltI:¬(k:Int)<(n:Int):=by omega
    have hres:cW S q=decide ((n:Int)≤4):=by
     have hkn:k=S.length:=by rw [HLN.out];omega
     have hw:=HW.out;rw [hkn] at hw;rw [oF hw,HLN.out];by_cases h4:n≤4
     · rw [decide_eq_true h4,decide_eq_true (by omega)]
     · rw [decide_eq_false h4,decide_eq_false (by omega)]
    have HRS:Hid (cW S q=decide ((n:Int)≤4)):=hres;clear hres;go_wp2;go_ret;exact HP.out _ _ ⟨aj HRS.out.symm,HB.out⟩
def eS (x y:ae):Bool:=decide (x.1=y.1) && decide (x.2.1≤y.2.1)
def ir (A B:List ae):Bool:=A.all (fun x=>B.all (fun y=>!eS x y))
theorem nN {α:Type} {L:List α} {f:α→Bool} {e:α} (h:(L.take k).all f=true) (hk:L[k]?=some e) (he:f e=true):(L.take (k+1)).all f=true:=by
 rw [List.take_add_one,hk];simp [List.all_append,h,he]
theorem Af {α:Type} {L:List α} {f:α→Bool} {e:α} (hk:L[k]?=some e) (he:f e=false):L.all f=false:=by
 rw [Bool.eq_false_iff];intro h;rw [List.all_eq_true] at h;rw [h e (List.mem_of_getElem? hk)] at he;cases he
theorem vn (a1 a2:Option Addr) (n1 c1 n2 c2:Nat) (A B:List ae) (w:World) (h1:an w a1 n1 c1 A) (h2:an w a2 n2 c2 B) :
 Calls Tryz.prog 107 #[.slice a1 n1 c1,.slice a2 n2 c2] w fun e w'=>e=.returned (.bool (ir A B))∧Bl w w':=by
 have HN1:Hid (A.length=n1):=h1.length;have HN2:Hid (B.length=n2):=h2.length;have hr1:=h1.room;have hb1:=h1.big;have hr2:=h2.room;have hb2:=h2.big;unfold maxLen at hb1 hb2;have H1:=ar h1;have H2:=ar h2;clear h1 h2;go_enter Tryz.func107,Tryz.ntmps107
 go_wp2;go_loopw [5] (fun iv wr=>∃i:Nat,i≤n1∧iv=iT i∧Bl w wr∧(A.take i).all (fun x=>B.all (fun y=>!eS x y))=true) (fun iv _=>n1 - (intOf iv).toNat)
 case atStart=>exact ⟨0,Nat.zero_le _,rfl,Below.refl _ _,by simp⟩
 case round =>
  obtain ⟨i,hi,rfl,hb,hw⟩:=hrel;have HW:Hid ((A.take i).all (fun x=>B.all (fun y=>!eS x y))=true):=hw;have HB:Hid (Bl w wr):=hb;clear hw;by_cases hin:i<n1
  · have hinI:(i:Int)<(n1:Int):=by omega
    obtain ⟨b1,o1,rfl,hx1⟩:=H1.out.form (by omega);obtain ⟨s,q,d,t,nn,hg,_,_⟩:=H1.out.ent hb hx1 i hin;have HG:Hid (A[i]?=some (s,q,d,t,nn)):=hg;clear hg hb;go_wp2;go_loopw [6] (fun kv wq=>∃k:Nat,k≤n2∧kv=iT k∧Bl w wq∧(B.take k).all (fun y=>!eS (s,q,d,t,nn) y)=true) (fun kv _=>n2 - (intOf kv).toNat)
    case atStart=>exact ⟨0,Nat.zero_le _,rfl,HB.out,by simp⟩
    case round =>
     obtain ⟨k,hk,rfl,hbk,hwk⟩:=hrel;have HWK:Hid ((B.take k).all (fun y=>!eS (s,q,d,t,nn) y)=true):=hwk;have HBK:Hid (Bl w wr):=hbk;clear hwk;by_cases hkn:k<n2
     · have hknI:(k:Int)<(n2:Int):=by omega
       obtain ⟨b2,o2,rfl,hx2⟩:=H2.out.form (by omega);obtain ⟨s1,q1,d1,t1,nn1,hL1,_,g0,g1,_⟩:=H1.out.ent hbk hx1 i hin;rw [HG.out] at hL1;cases hL1;obtain ⟨s',q',d',t',nn',hF,_,e0,e1,_⟩:=H2.out.ent hbk hx2 k hkn;have HF:Hid (B[k]?=some (s',q',d',t',nn')):=hF;have z1:=Nat.lt_of_lt_of_le hx1 hbk.size;have z2:=Nat.lt_of_lt_of_le hx2 hbk.size;have k0:Bl wr wr.drew:=(Below.refl _ wr).drew;have HMK:Hid (∀w',Bl wr w'→(w'.cell? ⟨b1,o1+i*5,none⟩=some (.string s)∧w'.cell? ⟨b1,o1+i*5+1,none⟩=some (iT q)∧b1<w'.heap.size∧w'.cell? ⟨b2,o2+k*5,none⟩=some (.string s')∧w'.cell? ⟨b2,o2+k*5+1,none⟩=some (iT q')∧b2<w'.heap.size)):=fun w' kk=>⟨cell_later kk g0,cell_later kk g1,Nat.lt_of_lt_of_le z1 kk.size,cell_later kk e0,cell_later kk e1,Nat.lt_of_lt_of_le z2 kk.size⟩
       have KZ:Hid (Bl w wr.drew):=HBK.out.trans (k0.mono HBK.out.size);clear hF hbk;by_cases hs:s=s'
       · subst hs;by_cases hq:q≤q'
         · have hqd:decide (q≤q')=true:=decide_eq_true hq;have HC:Hid ((!eS (s,q,d,t,nn) (s,q',d',t',nn'))=false):=by show (!eS _ _)=false;unfold eS;simp [hq]
           go_wp2_with fail
           refine dC HMK k0 fun aa=>?_
           refine aK 0 24 aa ?_;refine dN ?_;clear k0 HMK aa;go_wp2;go_ret;exact ⟨aj (Af HG.out (Af HF.out HC.out)).symm,KZ.out⟩
         · have hqd:decide (q≤q')=false:=decide_eq_false hq;have HC:Hid ((!eS (s,q,d,t,nn) (s,q',d',t',nn'))=true):=by show (!eS _ _)=true;unfold eS;simp [hq]
           go_wp2_with fail
           refine dC HMK k0 fun aa=>?_
           refine aK 0 24 aa ?_;refine dN ?_;clear k0 HMK aa;go_wp2;go_roundw
           case rel=>exact ⟨k+1,by omega,by go_num,KZ.out,nN HWK.out HF.out HC.out⟩
           case measure=>simp [intOf];omega
       · have hne:¬s.toList=s'.toList:=by
          rw [ByteArray.toList_eq,ByteArray.toList_eq];intro h;exact hs (ByteArray.ext (Array.toList_inj.1 h))
         have hne':(s.toList == s'.toList)=false:=by simpa using hne
         have HC:Hid ((!eS (s,q,d,t,nn) (s',q',d',t',nn'))=true):=by show (!eS _ _)=true;unfold eS;simp [hs]
         clear hs;go_wp2_with fail
         refine dC HMK k0 fun aa=>?_
         refine aK 0 24 aa ?_;refine dN ?_;clear k0 HMK aa;go_wp2;go_roundw
         case rel=>exact ⟨k+1,by omega,by go_num,KZ.out,nN HWK.out HF.out HC.out⟩
         case measure=>simp [intOf];omega
     · have hknI:¬(k:Int)<(n2:Int):=by omega
       have HC:Hid (B.all (fun y=>!eS (s,q,d,t,nn) y)=true):=by
        have:=HWK.out;rw [List.take_of_length_le (by rw [HN2.out];omega)] at this;exact this
       go_wp2;go_roundw
       case rel=>exact ⟨i+1,by omega,by go_num,HBK.out,nN (f:=fun x=>B.all (fun y=>!eS x y)) HW.out HG.out HC.out⟩
       case measure=>simp [intOf];omega
  · have hinI:¬(i:Int)<(n1:Int):=by omega
    have HC:Hid (ir A B=true):=by
     have:=HW.out;rw [List.take_of_length_le (by rw [HN1.out];omega)] at this;exact this
    go_wp2;go_ret;exact ⟨aj HC.out.symm,HB.out⟩
def gZ (L:List ae):ByteArray:=match L[0]? with | some e=>e.1 | none=>⟨#[]⟩
def e9 (L:List ae):ByteArray:=match L[L.length - 1]? with | some e=>e.1 | none=>⟨#[]⟩
def jR (A B:List ae):Bool:=Op.bytesLess (e9 A).toList (gZ B).toList
def iq (B:List aq) (r:aq) (i:Nat):Bool:=match i with | 0=>true | j+1=>match B[j]? with | none=>true | some p=>jR p.1 r.1
def ee (B:List aq) (ap:Bool) (q:Int) (i:Nat):Bool :=
 match B[i]? with
 | none=>true
 | some r=>dZ r.1 r.2 && (cj r.1 q && (!ap || iq B r i))
def nO (B:List aq) (ap:Bool) (q:Int) (k:Nat):Prop:=∀j,j<k→ee B ap q j=true
def dM (B:List aq) (most:Int) (ap:Bool) (q:Int):Bool:=decide ((B.length:Int)≤most) && (List.range B.length).all (ee B ap q)
theorem vu {B:List aq} (h:most<(B.length:Int)):dM B most ap q=false:=by
 unfold dM;rw [decide_eq_false (by omega)];rfl
theorem pH {B:List aq} (hk:k<B.length) (h:ee B ap q k=false):dM B most ap q=false:=by
 unfold dM;rw [Bool.and_eq_false_iff];right
 rw [Bool.eq_false_iff];intro h1;rw [List.all_eq_true] at h1;rw [h1 k (List.mem_range.2 hk)] at h;cases h
theorem yE {B:List aq} (h:nO B ap q B.length) (hm:(B.length:Int)≤most):dM B most ap q=true:=by
 unfold dM;rw [decide_eq_true hm,Bool.true_and,List.all_eq_true];intro j hj;exact h j (List.mem_range.1 hj)
theorem kY {B:List aq} (h:nO B ap q k) (hk:ee B ap q k=true):nO B ap q (k+1):=by
 intro j hj;by_cases e:j=k
 · subst e;exact hk
 · exact h j (by omega)
theorem df {B:List aq} (h:B[i]?=some r):ee B ap q i=(dZ r.1 r.2 && (cj r.1 q && (!ap || iq B r i))):=by
 unfold ee;simp only [h]
theorem sZ {B:List aq} {p:aq} (h:B[i]?=some r) (hi:0<i) (hp:B[i - 1]?=some p):ee B ap q i=(dZ r.1 r.2 && (cj r.1 q && (!ap || jR p.1 r.1))):=by
 obtain ⟨j,rfl⟩:∃j,i=j+1:=⟨i - 1,by omega⟩;simp only [Nat.add_sub_cancel] at hp;rw [df h];unfold iq;simp only [hp]
theorem pS (h:1≤L.length):∃e,L[0]?=some e∧gZ L=e.1:=by
 have hg:L[0]?=some L[0]:=List.getElem?_eq_getElem (by omega);exact ⟨_,hg,by unfold gZ;rw [hg]⟩
theorem kD (h:1≤L.length):∃e,L[L.length - 1]?=some e∧e9 L=e.1:=by
 have hg:L[L.length - 1]?=some (L[L.length - 1]'(by omega)):=List.getElem?_eq_getElem (by omega);exact ⟨_,hg,by unfold e9;rw [hg]⟩
theorem mN (lo:Nat) (a:Option Addr) (n c:Nat) (B:List aq) (most:Int) (ap:Bool) (q:Int) (w:World) (h:aF lo w a n c B) :
 Calls Tryz.prog 66 #[.slice a n c,iT most,.bool ap,iT q] w fun e w'=>e=.returned (.bool (dM B most ap q))∧Bl w w':=by
 have HLN:Hid (B.length=n):=h.length;have hr:=h.room;have hbg:=h.big;unfold maxLen at hbg;have H:=ar h;clear h;by_cases hm:most<(n:Int)
 · go_enter Tryz.func66,Tryz.ntmps66
   go_wp2;go_ret;exact ⟨aj (vu (by rw [HLN.out];exact hm)).symm,Below.refl _ _⟩
 go_enter Tryz.func66,Tryz.ntmps66
 go_wp2;go_loopw [9] (fun iv wr=>∃i:Nat,i≤n∧iv=iT i∧Bl w wr∧nO B ap q i) (fun iv _=>n - (intOf iv).toNat)
 case atStart=>exact ⟨0,Nat.zero_le _,rfl,Below.refl _ _,fun j hj=>absurd hj (Nat.not_lt_zero _)⟩
 case round =>
  obtain ⟨i,hi,rfl,hb,hw⟩:=hrel;have HW:Hid (nO B ap q i):=hw;have HB:Hid (Bl w wr):=hb;clear hw;by_cases hin:i<n
  · have hinI:(i:Int)<(n:Int):=by omega
    have HKL:Hid (i<B.length):=by show i<B.length;rw [HLN.out];exact hin
    obtain ⟨b,off,rfl,hbb⟩:=H.out.form (by omega);obtain ⟨L,m,s,ns,cs,hg,_,g0,g1,hE⟩:=H.out.run hb i hin;have HG:Hid (B[i]?=some (L,m)):=hg;have HE:Hid (cT lo wr s ns cs L):=hE;have zb:=Nat.lt_of_lt_of_le hbb hb.size;clear hg hb hE;obtain ⟨O,hO⟩:=aw (dZ L m);go_wp2_with fail
    refine (vh _ _ _ L m wr HE.out.1).mono ?_;rw [← hO];rintro e w1 ⟨rfl,hb1⟩;have g0:=cell_later hb1 g0;have g1:=cell_later hb1 g1;have zb:=Nat.lt_of_lt_of_le zb hb1.size;have K1:Hid (Bl w w1):=HB.out.trans (hb1.mono HB.out.size);have E1:Hid (an w1 s ns cs L):=HE.out.1.keep hb1;clear hb1;cases hOv:O with
    | false =>
     have HN:Hid (ee B ap q i=false):=by show ee B ap q i=false;rw [df HG.out,← hO,hOv];rfl
     go_wp2;go_ret;exact ⟨aj (pH HKL.out HN.out).symm,K1.out⟩
    | true =>
     have HRB:Hid (dZ L m=true):=by rw [← hO];exact hOv
     clear hO hOv;obtain ⟨T,hT⟩:=aw (cj L q);go_wp2_with fail
     refine (mK _ _ _ L q w1 E1.out).mono ?_;rw [← hT];rintro e wr2 ⟨rfl,rfl⟩;cases hTv:T with
     | false =>
      have HN:Hid (ee B ap q i=false):=by show ee B ap q i=false;rw [df HG.out,HRB.out,← hT,hTv];rfl
      go_wp2;go_ret;exact ⟨aj (pH HKL.out HN.out).symm,K1.out⟩
     | true =>
      have HWI:Hid (cj L q=true):=by rw [← hT];exact hTv
      clear hT hTv;have k0:Bl wr2 wr2.drew:=(Below.refl _ wr2).drew;have KZ:Hid (Bl w wr2.drew):=K1.out.trans (k0.mono K1.out.size);have HMK:Hid (∀w',Bl wr2 w'→(b<w'.heap.size)):=fun w' kk=>Nat.lt_of_lt_of_le zb kk.size
      cases ap with
      | false =>
      have HN:Hid (ee B false q i=true):=by show ee B false q i=true;rw [df HG.out,HRB.out,HWI.out];rfl
      go_wp2_with fail
      refine dC HMK k0 fun aa=>?_
      refine aK 0 11 aa ?_;refine aK 12 4 aa ?_;refine aP 11 fun K hK=>?_
      go_simp;refine hK.out _ _ (HMK.out _ k0) fun aa=>?_
      (try go_frame);refine aP 16 fun K hK=>?_
      go_simp;refine hK.out _ _ (HMK.out _ k0) fun aa=>?_
      (try go_frame);refine aK 17 2 aa ?_;refine dN ?_;clear k0 HMK aa;go_wp2;go_roundw
      case rel=>exact ⟨i+1,by omega,by go_num,KZ.out,kY HW.out HN.out⟩
      case measure=>simp [intOf];omega
      | true =>
       by_cases hi0:i=0
       · subst hi0;have HN:Hid (ee B true q 0=true):=by show ee B true q 0=true;rw [df HG.out,HRB.out,HWI.out];rfl
         go_wp2_with fail
         refine dC HMK k0 fun aa=>?_
         refine aK 0 11 aa ?_;refine aK 12 4 aa ?_;refine aP 11 fun K hK=>?_
         go_simp;refine hK.out _ _ (HMK.out _ k0) fun aa=>?_
         (try go_frame);refine aP 16 fun K hK=>?_
         go_simp;refine hK.out _ _ (HMK.out _ k0) fun aa=>?_
         (try go_frame);refine aK 17 2 aa ?_;refine dN ?_;clear k0 HMK aa;go_wp2;go_roundw
         case rel=>exact ⟨0+1,by omega,by go_num,KZ.out,kY HW.out HN.out⟩
         case measure=>simp [intOf];omega
       · have hip:(0:Int)<(i:Int):=by omega
         have hipN:0<i:=by omega
         have hipD:decide (0<i)=true:=decide_eq_true hipN;have hj1:(0:Int)≤(i:Int) - 1:=by omega
         have hj2:(i:Int) - 1<(n:Int):=by omega
         have hj3:(1:Int)≤(i:Int):=by omega
         have hjt:((i:Int) - 1).toNat=i - 1:=by omega
         have wj:IntKind.i64.wrap ((i:Int) - 1)=(i:Int) - 1:=by rw [IntWalk.i64_left];unfold wrap64;omega
         obtain ⟨Lp,mp,sp,np,cp,hp,_,p0,p1,hEp⟩:=H.out.run K1.out (i - 1) (by omega);have hRp:dZ Lp mp=true:=by
          have h1:=HW.out (i - 1) (by omega);rw [df hp] at h1;simp only [Bool.and_eq_true] at h1;exact h1.1
         have l1:=(bI HRB.out).1;have l2:=(bI hRp).1;obtain ⟨el,hel,hlow⟩:=pS l1;obtain ⟨eh,heh,hhigh⟩:=kD l2;have hns:=E1.out.length;have hnp:=hEp.1.length;obtain ⟨bs,os,rfl,_⟩:=E1.out.form (by omega);obtain ⟨bp,op,rfl,_⟩:=hEp.1.form (by omega);rw [hnp] at heh;have CH:Hid (∀w',Bl wr2 w'→Calls Tryz.prog 104 #[.agg #[sO bp op np cp,iT mp]] w' fun r w''=>r=.returned (.string eh.1)∧Bl w' w''):=fun w' k=>yt mp bp op np cp Lp w' (hEp.1.keep k) eh heh (by omega)
         have CLO:Hid (∀w',Bl wr2 w'→Calls Tryz.prog 105 #[.agg #[sO bs os ns cs,iT m]] w' fun r w''=>r=.returned (.string el.1)∧Bl w' w''):=fun w' k=>Au m bs os ns cs L w' (E1.out.keep k) el hel
         have HAT:Hid (ee B true q i=Op.bytesLess eh.1.toList el.1.toList):=by
          show ee B true q i=_
          rw [sZ HG.out hipN hp,HRB.out,HWI.out];simp only [Bool.true_and,Bool.not_true,Bool.false_or];unfold jR;rw [hlow,hhigh]
         have HM1:Hid (∀w',Bl wr2 w'→(w'.cell? ⟨b,off+i*2,none⟩=some (sO bs os ns cs)∧w'.cell? ⟨b,off+i*2+1,none⟩=some (iT m)∧w'.cell? ⟨b,off+(i - 1)*2,none⟩=some (sO bp op np cp)∧w'.cell? ⟨b,off+(i - 1)*2+1,none⟩=some (iT mp)∧b<w'.heap.size)):=fun w' kk=>⟨cell_later kk g0,cell_later kk g1,cell_later kk p0,cell_later kk p1,Nat.lt_of_lt_of_le zb kk.size⟩
         clear HMK hp hEp hRp l1 l2 hel heh hlow hhigh hns hnp g0 g1 p0 p1 zb HE;obtain ⟨sh,hsh⟩:=aw eh.1;obtain ⟨sl,hsl⟩:=aw el.1;rw [← hsh] at CH HAT;rw [← hsl] at CLO HAT;clear hsh hsl;cases hcmp:Op.bytesLess sh.toList sl.toList with
         | true =>
          have HN:Hid (ee B true q i=true):=by show ee B true q i=true;rw [HAT.out];exact hcmp
          go_wp2_with fail
          refine dC HM1 k0 fun aa=>?_
          refine aK 0 11 aa ?_;refine aK 12 4 aa ?_;refine aP 11 fun K hK=>?_
          go_simp;refine (CH.out _ k0).mono ?_;rintro e wk1 ⟨rfl,bk1⟩;have k1:Bl wr2 wk1:=k0.trans (bk1.mono k0.size);go_wp2_with fail
          refine hK.out _ _ (HM1.out _ k1) fun aa=>?_
          (try go_frame);refine aP 16 fun K hK=>?_
          go_simp;refine (CLO.out _ k1).mono ?_;rintro e wk2 ⟨rfl,bk2⟩;have k2:Bl wr2 wk2:=k1.trans (bk2.mono k1.size);go_wp2_with fail
          refine hK.out _ _ (HM1.out _ k2) fun aa=>?_
          (try go_frame);refine aK 17 2 aa ?_;refine dN ?_;have KY:Hid (Bl w wk2):=K1.out.trans (k2.mono K1.out.size);clear k0 k1 k2 bk1 bk2 HM1 aa;go_wp2;go_roundw
          case rel=>exact ⟨i+1,by omega,by go_num,KY.out,kY HW.out HN.out⟩
          case measure=>simp [intOf];omega
         | false =>
          have HN:Hid (ee B true q i=false):=by show ee B true q i=false;rw [HAT.out];exact hcmp
          go_wp2_with fail
          refine dC HM1 k0 fun aa=>?_
          refine aK 0 11 aa ?_;refine aK 12 4 aa ?_;refine aP 11 fun K hK=>?_
          go_simp;refine (CH.out _ k0).mono ?_;rintro e wk1 ⟨rfl,bk1⟩;have k1:Bl wr2 wk1:=k0.trans (bk1.mono k0.size);go_wp2_with fail
          refine hK.out _ _ (HM1.out _ k1) fun aa=>?_
          (try go_frame);refine aP 16 fun K hK=>?_
          go_simp;refine (CLO.out _ k1).mono ?_;rintro e wk2 ⟨rfl,bk2⟩;have k2:Bl wr2 wk2:=k1.trans (bk2.mono k1.size);go_wp2_with fail
          refine hK.out _ _ (HM1.out _ k2) fun aa=>?_
          (try go_frame);refine aK 17 2 aa ?_;refine dN ?_;have KY:Hid (Bl w wk2):=K1.out.trans (k2.mono K1.out.size);clear k0 k1 k2 bk1 bk2 HM1 aa;go_wp2;go_ret;exact ⟨aj (pH HKL.out HN.out).symm,KY.out⟩
  · have hinI:¬(i:Int)<(n:Int):=by omega
    have HC:Hid (dM B most ap q=true):=by
     have hw:=HW.out;have hii:i=B.length:=by rw [HLN.out];omega
     rw [hii] at hw;exact yE hw (by rw [HLN.out];omega)
    go_wp2;go_ret;exact ⟨aj HC.out.symm,HB.out⟩
def iW (P:List (List ae)) (i k:Nat):Bool:=match P[i]? with | none=>true | some A=>match P[k]? with | none=>true | some B=>ir A B
theorem lC {A B:List ae} (h:P[i]?=some A) (h':P[k]?=some B):iW P i k=ir A B:=by
 unfold iW;simp only [h,h']
def lE (P:List (List ae)) (i:Nat):Prop:=∀j k,j<i→j<k→k<P.length→iW P j k=true
def nQ (P:List (List ae)) (i k:Nat):Prop:=∀j,i<j→j<k→iW P i j=true
def gG (P:List (List ae)):Bool:=(List.range P.length).all fun i=>(List.range P.length).all fun k=>!decide (i<k) || iW P i k
theorem AR (hi:i<k) (hk:k<P.length) (h:iW P i k=false):gG P=false:=by
 rw [Bool.eq_false_iff];intro h1;unfold gG at h1;rw [List.all_eq_true] at h1;have h2:=h1 i (List.mem_range.2 (by omega));rw [List.all_eq_true] at h2;have h3:=h2 k (List.mem_range.2 hk);rw [h,decide_eq_true hi] at h3;cases h3
theorem Ag (h:lE P P.length):gG P=true:=by
 unfold gG;rw [List.all_eq_true];intro i hi;rw [List.all_eq_true];intro k hk;by_cases e:i<k
 · rw [h i k (List.mem_range.1 hi) e (List.mem_range.1 hk)];simp
 · rw [decide_eq_false e];rfl
theorem AS (h:nQ P i k) (hk:iW P i k=true):nQ P i (k+1):=by
 intro j h1 h2;by_cases e:j=k
 · subst e;exact hk
 · exact h j h1 (by omega)
theorem AP (h:lE P i) (hi:nQ P i P.length):lE P (i+1):=by
 intro j k h1 h2 h3;by_cases e:j=i
 · subst e;exact hi k h2 h3
 · exact h j k (by omega) h2 h3
theorem yy (sq:Int) (am av ak:Option Addr) (nm cm nv cv nk ck:Nat) (P:List (List ae)) (w:World)
 (hp:∀w1,Bl w w1→Calls Tryz.prog 106 #[.agg #[iT sq,.slice am nm cm,.slice av nv cv,.slice ak nk ck]] w1 fun e w'=>∃a n c,e=.returned (.slice a n c)∧cI w' a n c P∧Bl w1 w') :
 Calls Tryz.prog 67 #[.agg #[iT sq,.slice am nm cm,.slice av nv cv,.slice ak nk ck]] w fun e w'=>e=.returned (.bool (gG P))∧Bl w w':=by
 go_enter Tryz.func67,Tryz.ntmps67
 go_wp2_with fail
 refine (hp _ bZ).mono ?_;rintro e w2 ⟨a,n,c,rfl,hP,hb2⟩;have K1:∀o,Bl w (w.alloc o):=fun o=>(Below.refl _ _).alloc (Nat.le_refl _) o
 have K2:Hid (Bl w w2):=(K1 _).trans (hb2.mono (K1 _).size);clear hb2 hp K1;have HLN:Hid (P.length=n):=hP.length;have hr:=hP.room;have hbg:=hP.big;unfold maxLen at hbg;have H:Hid (cI w2 a n c P):=hP;clear hP;go_wp2;go_loopw [4] (fun iv wr=>∃i:Nat,i≤n∧iv=iT i∧Bl w2 wr∧lE P i) (fun iv _=>n - (intOf iv).toNat)
 case atStart=>exact ⟨0,Nat.zero_le _,rfl,Below.refl _ _,fun j k hj=>absurd hj (Nat.not_lt_zero _)⟩
 case round =>
  obtain ⟨i,hi,rfl,hb,hw⟩:=hrel;have HW:Hid (lE P i):=hw;have HB:Hid (Bl w2 wr):=hb;clear hw hb;by_cases hin:i<n
  · have hinI:(i:Int)<(n:Int):=by omega
    obtain ⟨b,off,rfl,hbb⟩:=H.out.form (by omega);go_wp2;go_loopw [5] (fun kv wq=>∃k:Nat,i<k∧k≤n∧kv=iT k∧Bl w2 wq∧nQ P i k) (fun kv _=>n - (intOf kv).toNat)
    case atStart=>exact ⟨i+1,by omega,by omega,by go_num,HB.out,fun j h1 h2=>absurd h2 (by omega)⟩
    case round =>
     obtain ⟨k,hik,hk,rfl,hbk,hwk⟩:=hrel;have HWK:Hid (nQ P i k):=hwk;have HBK:Hid (Bl w2 wr):=hbk;clear hwk;by_cases hkn:k<n
     · have hknI:(k:Int)<(n:Int):=by omega
       obtain ⟨A,s1,n1,c1,hA,g1,hE1⟩:=H.out.list hbk i hin;obtain ⟨B,s2,n2,c2,hB,g2,hE2⟩:=H.out.list hbk k hkn;have HAT:Hid (iW P i k=ir A B):=lC hA hB;have HKL:Hid (k<P.length):=by show k<P.length;rw [HLN.out];exact hkn
       have zb:=Nat.lt_of_lt_of_le hbb hbk.size;have CA:Hid (∀w',Bl wr w'→Calls Tryz.prog 107 #[.slice s1 n1 c1,.slice s2 n2 c2] w' fun e w''=>e=.returned (.bool (ir A B))∧Bl w' w''):=fun w' kk=>vn s1 s2 n1 c1 n2 c2 A B w' (hE1.keep kk) (hE2.keep kk)
       have HMK:Hid (∀w',Bl wr w'→(w'.cell? ⟨b,off+i,none⟩=some (.slice s1 n1 c1)∧w'.cell? ⟨b,off+k,none⟩=some (.slice s2 n2 c2)∧b<w'.heap.size)):=fun w' kk=>⟨cell_later kk g1,cell_later kk g2,Nat.lt_of_lt_of_le zb kk.size⟩
       have k0:Bl wr wr.drew:=(Below.refl _ wr).drew;clear hA hB g1 g2 hE1 hE2 zb hbk;obtain ⟨O,hO⟩:=aw (ir A B);rw [← hO] at CA HAT;clear hO;cases O with
       | true =>
        go_wp2_with fail
        refine dC HMK k0 fun aa=>?_
        refine aK 0 8 aa ?_;refine aP 8 fun K hK=>?_
        go_simp;refine (CA.out _ k0).mono ?_;rintro e wk1 ⟨rfl,bk1⟩;have k1:Bl wr wk1:=k0.trans (bk1.mono k0.size);go_wp2_with fail
        refine hK.out _ _ (HMK.out _ k1) fun aa=>?_
        (try go_frame);refine aK 9 1 aa ?_;refine dN ?_;have KY:Hid (Bl w2 wk1):=HBK.out.trans (k1.mono HBK.out.size);clear k0 k1 bk1 HMK CA aa;go_wp2;go_roundw
        case rel=>exact ⟨k+1,by omega,by omega,by go_num,KY.out,AS HWK.out HAT.out⟩
        case measure=>simp [intOf];omega
       | false =>
        go_wp2_with fail
        refine dC HMK k0 fun aa=>?_
        refine aK 0 8 aa ?_;refine aP 8 fun K hK=>?_
        go_simp;refine (CA.out _ k0).mono ?_;rintro e wk1 ⟨rfl,bk1⟩;have k1:Bl wr wk1:=k0.trans (bk1.mono k0.size);go_wp2_with fail
        refine hK.out _ _ (HMK.out _ k1) fun aa=>?_
        (try go_frame);refine aK 9 1 aa ?_;refine dN ?_;have KY:Hid (Bl w2 wk1):=HBK.out.trans (k1.mono HBK.out.size);clear k0 k1 bk1 HMK CA aa;go_wp2;go_ret;exact ⟨aj (AR hik HKL.out HAT.out).symm,K2.out.trans (KY.out.mono K2.out.size)⟩
     · have hknI:¬(k:Int)<(n:Int):=by omega
       have HN:Hid (lE P (i+1)):=by
        have h1:=HWK.out;have h2:k=P.length:=by rw [HLN.out];omega
        rw [h2] at h1;exact AP HW.out h1
       go_wp2;go_roundw
       case rel=>exact ⟨i+1,by omega,by go_num,HBK.out,HN.out⟩
       case measure=>simp [intOf];omega
  · have hinI:¬(i:Int)<(n:Int):=by omega
    have HC:Hid (gG P=true):=by
     have hw:=HW.out;have hii:i=P.length:=by rw [HLN.out];omega
     rw [hii] at hw;exact Ag hw
    go_wp2;go_ret;exact ⟨aj HC.out.symm,K2.out.trans (HB.out.mono K2.out.size)⟩
end Go.Proofs.YtehiefdphnljaaaGreatDoor
