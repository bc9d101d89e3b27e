/-
  Pieces of TreeOk of both sides: what is newer, by walks of their Go text.
-/
import Derived.Test.YtgpcinihgofmfaaGreatDoorSt29
import Derived.Test.YtgpcinihgofmfaaGreatDoorSt20
namespace Go.Proofs.YtgpcinihgofmfaaGreatDoor
open Go.RowKit
set_option maxRecDepth 100000
set_option maxHeartbeats 3200000
def eV (x y:ae):Bool:=decide (x.1=y.1) && decide (x.2.1≤y.2.1)
def iC (A B:List ae):Bool:=A.all (fun x=>B.all (fun y=>!eV x y))
theorem nM {α:Type} {L:List α} {f:α→Bool} {k:Nat} {e:α} (h:(L.take k).all f=true) (hk:L[k]?=some e) (he:f e=true):(L.take (k+1)).all f=true:=by
 rw [List.take_add_one,hk];simp [List.all_append,h,he]
theorem zF {α:Type} {L:List α} {f:α→Bool} {k:Nat} {e:α} (hk:L[k]?=some e) (he:f e=false):L.all f=false:=by
 rw [Bool.eq_false_iff];intro h;rw [List.all_eq_true] at h;rw [h e (List.mem_of_getElem? hk)] at he;cases he
theorem uR (a1 a2:Option Addr) (n1 c1 n2 c2:Nat) (A B:List ae) (w:World) (h1:au w a1 n1 c1 A) (h2:au w a2 n2 c2 B) :
 Calls Tryz.prog 125 #[.slice a1 n1 c1,.slice a2 n2 c2] w fun e w'=>e=.returned (.bool (iC A B))∧Bl w w':=by
 have HN1:Hid (A.length=n1):=h1.length;have HN2:Hid (B.length=n2):=h2.length;have hr1:=h1.room;have hb1:=h1.big;have hr2:=h2.room;have hb2:=h2.big;unfold maxLen at hb1 hb2;have H1:=ar h1;have H2:=ar h2;clear h1 h2;go_enter Tryz.func125,Tryz.ntmps125
 go_wp2;go_loopw [5] (fun iv wr=>∃i:Nat,i≤n1∧iv=iT i∧Bl w wr∧(A.take i).all (fun x=>B.all (fun y=>!eV x y))=true) (fun iv _=>n1 - (intOf iv).toNat)
 case atStart=>exact ⟨0,Nat.zero_le _,rfl,Below.refl _ _,by simp⟩
 case round =>
  obtain ⟨i,hi,rfl,hb,hw⟩:=hrel;have HW:Hid ((A.take i).all (fun x=>B.all (fun y=>!eV x y))=true):=hw;have HB:Hid (Bl w wr):=hb;clear hw;by_cases hin:i<n1
  · have hinI:(i:Int)<(n1:Int):=by omega
    obtain ⟨b1,o1,rfl,hx1⟩:=H1.out.form (by omega);obtain ⟨s,q,d,t,nn,hg,_,_⟩:=H1.out.ent hb hx1 i hin;have HG:Hid (A[i]?=some (s,q,d,t,nn)):=hg;clear hg hb;go_wp2;go_loopw [6] (fun kv wq=>∃k:Nat,k≤n2∧kv=iT k∧Bl w wq∧(B.take k).all (fun y=>!eV (s,q,d,t,nn) y)=true) (fun kv _=>n2 - (intOf kv).toNat)
    case atStart=>exact ⟨0,Nat.zero_le _,rfl,HB.out,by simp⟩
    case round =>
     obtain ⟨k,hk,rfl,hbk,hwk⟩:=hrel;have HWK:Hid ((B.take k).all (fun y=>!eV (s,q,d,t,nn) y)=true):=hwk;have HBK:Hid (Bl w wr):=hbk;clear hwk;by_cases hkn:k<n2
     · have hknI:(k:Int)<(n2:Int):=by omega
       obtain ⟨b2,o2,rfl,hx2⟩:=H2.out.form (by omega);obtain ⟨s1,q1,d1,t1,nn1,hL1,_,g0,g1,_⟩:=H1.out.ent hbk hx1 i hin;rw [HG.out] at hL1;cases hL1;obtain ⟨s',q',d',t',nn',hF,_,e0,e1,_⟩:=H2.out.ent hbk hx2 k hkn;have HF:Hid (B[k]?=some (s',q',d',t',nn')):=hF;have z1:=Nat.lt_of_lt_of_le hx1 hbk.size;have z2:=Nat.lt_of_lt_of_le hx2 hbk.size;have k0:Bl wr wr.drew:=(Below.refl _ wr).drew;have HMK:Hid (∀w',Bl wr w'→(w'.cell? ⟨b1,o1+i*5,none⟩=some (.string s)∧w'.cell? ⟨b1,o1+i*5+1,none⟩=some (iT q)∧b1<w'.heap.size∧w'.cell? ⟨b2,o2+k*5,none⟩=some (.string s')∧w'.cell? ⟨b2,o2+k*5+1,none⟩=some (iT q')∧b2<w'.heap.size)):=fun w' kk=>⟨cell_later kk g0,cell_later kk g1,Nat.lt_of_lt_of_le z1 kk.size,cell_later kk e0,cell_later kk e1,Nat.lt_of_lt_of_le z2 kk.size⟩
       have KZ:Hid (Bl w wr.drew):=HBK.out.trans (k0.mono HBK.out.size);clear hF hbk;by_cases hs:s=s'
       · subst hs;by_cases hq:q≤q'
         · have hqd:decide (q≤q')=true:=decide_eq_true hq;have HC:Hid ((!eV (s,q,d,t,nn) (s,q',d',t',nn'))=false):=by show (!eV _ _)=false;unfold eV;simp [hq]
           go_wp2_with fail
           refine dI HMK k0 fun aa=>?_
           refine aM 0 24 aa ?_;refine dN ?_;clear k0 HMK aa;go_wp2;go_ret;exact ⟨aq (zF HG.out (zF HF.out HC.out)).symm,KZ.out⟩
         · have hqd:decide (q≤q')=false:=decide_eq_false hq;have HC:Hid ((!eV (s,q,d,t,nn) (s,q',d',t',nn'))=true):=by show (!eV _ _)=true;unfold eV;simp [hq]
           go_wp2_with fail
           refine dI HMK k0 fun aa=>?_
           refine aM 0 24 aa ?_;refine dN ?_;clear k0 HMK aa;go_wp2;go_roundw
           case rel=>exact ⟨k+1,by omega,by go_num,KZ.out,nM HWK.out HF.out HC.out⟩
           case measure=>simp [intOf];omega
       · have hne:¬s.toList=s'.toList:=by
          rw [ByteArray.toList_eq,ByteArray.toList_eq];intro h;exact hs (ByteArray.ext (Array.toList_inj.1 h))
         have hne':(s.toList == s'.toList)=false:=by simpa using hne
         have HC:Hid ((!eV (s,q,d,t,nn) (s',q',d',t',nn'))=true):=by show (!eV _ _)=true;unfold eV;simp [hs]
         clear hs;go_wp2_with fail
         refine dI HMK k0 fun aa=>?_
         refine aM 0 24 aa ?_;refine dN ?_;clear k0 HMK aa;go_wp2;go_roundw
         case rel=>exact ⟨k+1,by omega,by go_num,KZ.out,nM HWK.out HF.out HC.out⟩
         case measure=>simp [intOf];omega
     · have hknI:¬(k:Int)<(n2:Int):=by omega
       have HC:Hid (B.all (fun y=>!eV (s,q,d,t,nn) y)=true):=by
        have:=HWK.out;rw [List.take_of_length_le (by rw [HN2.out];omega)] at this;exact this
       go_wp2;go_roundw
       case rel=>exact ⟨i+1,by omega,by go_num,HBK.out,nM (f:=fun x=>B.all (fun y=>!eV x y)) HW.out HG.out HC.out⟩
       case measure=>simp [intOf];omega
  · have hinI:¬(i:Int)<(n1:Int):=by omega
    have HC:Hid (iC A B=true):=by
     have:=HW.out;rw [List.take_of_length_le (by rw [HN1.out];omega)] at this;exact this
    go_wp2;go_ret;exact ⟨aq HC.out.symm,HB.out⟩
end Go.Proofs.YtgpcinihgofmfaaGreatDoor

namespace Go.Proofs.YtgpcinihgofmfaaGreatDoor
open Go.RowKit
set_option maxRecDepth 100000
set_option maxHeartbeats 16000000
def il (L:List ae):ByteArray:=match L[0]? with | some e=>e.1 | none=>⟨#[]⟩
def fd (L:List ae):ByteArray:=match L[L.length - 1]? with | some e=>e.1 | none=>⟨#[]⟩
def jY (A B:List ae):Bool:=Op.bytesLess (fd A).toList (il B).toList
def iB (B:List aj) (r:aj) (i:Nat):Bool:=match i with | 0=>true | j+1=>match B[j]? with | none=>true | some p=>jY p.1 r.1
def ee (B:List aj) (ap:Bool) (q:Int) (i:Nat):Bool :=
 match B[i]? with
 | none=>true
 | some r=>dY r.1 r.2 && (cj r.1 q && (!ap || iB B r i))
def nN (B:List aj) (ap:Bool) (q:Int) (k:Nat):Prop:=∀j,j<k→ee B ap q j=true
def dK (B:List aj) (most:Int) (ap:Bool) (q:Int):Bool:=decide ((B.length:Int)≤most) && (List.range B.length).all (ee B ap q)
theorem uT {B:List aj} {most:Int} {ap:Bool} {q:Int} (h:most<(B.length:Int)):dK B most ap q=false:=by
 unfold dK;rw [decide_eq_false (by omega)];rfl
theorem pK {B:List aj} {most:Int} {ap:Bool} {q:Int} {k:Nat} (hk:k<B.length) (h:ee B ap q k=false):dK B most ap q=false:=by
 unfold dK;rw [Bool.and_eq_false_iff];right
 rw [Bool.eq_false_iff];intro h1;rw [List.all_eq_true] at h1;rw [h1 k (List.mem_range.2 hk)] at h;cases h
theorem ya {B:List aj} {most:Int} {ap:Bool} {q:Int} (h:nN B ap q B.length) (hm:(B.length:Int)≤most):dK B most ap q=true:=by
 unfold dK;rw [decide_eq_true hm,Bool.true_and,List.all_eq_true];intro j hj;exact h j (List.mem_range.1 hj)
theorem lj {B:List aj} {ap:Bool} {q:Int} {k:Nat} (h:nN B ap q k) (hk:ee B ap q k=true):nN B ap q (k+1):=by
 intro j hj;by_cases e:j=k
 · subst e;exact hk
 · exact h j (by omega)
theorem cZ {B:List aj} {ap:Bool} {q:Int} {i:Nat} {r:aj} (h:B[i]?=some r):ee B ap q i=(dY r.1 r.2 && (cj r.1 q && (!ap || iB B r i))):=by
 unfold ee;simp only [h]
theorem sM {B:List aj} {ap:Bool} {q:Int} {i:Nat} {r p:aj} (h:B[i]?=some r) (hi:0<i) (hp:B[i - 1]?=some p):ee B ap q i=(dY r.1 r.2 && (cj r.1 q && (!ap || jY p.1 r.1))):=by
 obtain ⟨j,rfl⟩:∃j,i=j+1:=⟨i - 1,by omega⟩;simp only [Nat.add_sub_cancel] at hp;rw [cZ h];unfold iB;simp only [hp]
theorem pU {L:List ae} (h:1≤L.length):∃e,L[0]?=some e∧il L=e.1:=by
 have hg:L[0]?=some L[0]:=List.getElem?_eq_getElem (by omega);exact ⟨_,hg,by unfold il;rw [hg]⟩
theorem kL {L:List ae} (h:1≤L.length):∃e,L[L.length - 1]?=some e∧fd L=e.1:=by
 have hg:L[L.length - 1]?=some (L[L.length - 1]'(by omega)):=List.getElem?_eq_getElem (by omega);exact ⟨_,hg,by unfold fd;rw [hg]⟩
theorem mJ (lo:Nat) (a:Option Addr) (n c:Nat) (B:List aj) (most:Int) (ap:Bool) (q:Int) (w:World) (h:aE lo w a n c B) :
 Calls Tryz.prog 83 #[.slice a n c,iT most,.bool ap,iT q] w fun e w'=>e=.returned (.bool (dK B most ap q))∧Bl w w':=by
 have HLN:Hid (B.length=n):=h.length;have hr:=h.room;have hbg:=h.big;unfold maxLen at hbg;have H:=ar h;clear h;by_cases hm:most<(n:Int)
 · go_enter Tryz.func83,Tryz.ntmps83
   go_wp2;go_ret;exact ⟨aq (uT (by rw [HLN.out];exact hm)).symm,Below.refl _ _⟩
 go_enter Tryz.func83,Tryz.ntmps83
 go_wp2;go_loopw [9] (fun iv wr=>∃i:Nat,i≤n∧iv=iT i∧Bl w wr∧nN B ap q i) (fun iv _=>n - (intOf iv).toNat)
 case atStart=>exact ⟨0,Nat.zero_le _,rfl,Below.refl _ _,fun j hj=>absurd hj (Nat.not_lt_zero _)⟩
 case round =>
  obtain ⟨i,hi,rfl,hb,hw⟩:=hrel;have HW:Hid (nN B ap q i):=hw;have HB:Hid (Bl w wr):=hb;clear hw;by_cases hin:i<n
  · have hinI:(i:Int)<(n:Int):=by omega
    have HKL:Hid (i<B.length):=by show i<B.length;rw [HLN.out];exact hin
    obtain ⟨b,off,rfl,hbb⟩:=H.out.form (by omega);obtain ⟨L,m,s,ns,cs,hg,_,g0,g1,hE⟩:=H.out.run hb i hin;have HG:Hid (B[i]?=some (L,m)):=hg;have HE:Hid (dl lo wr s ns cs L):=hE;have zb:=Nat.lt_of_lt_of_le hbb hb.size;clear hg hb hE;obtain ⟨O,hO⟩:=aw (dY L m);go_wp2_with fail
    refine (uN _ _ _ L m wr HE.out.1).mono ?_;rw [← hO];rintro e w1 ⟨rfl,hb1⟩;have g0:=cell_later hb1 g0;have g1:=cell_later hb1 g1;have zb:=Nat.lt_of_lt_of_le zb hb1.size;have K1:Hid (Bl w w1):=HB.out.trans (hb1.mono HB.out.size);have E1:Hid (au w1 s ns cs L):=HE.out.1.keep hb1;clear hb1;cases hOv:O with
    | false =>
     have HN:Hid (ee B ap q i=false):=by show ee B ap q i=false;rw [cZ HG.out,← hO,hOv];rfl
     go_wp2;go_ret;exact ⟨aq (pK HKL.out HN.out).symm,K1.out⟩
    | true =>
     have HRB:Hid (dY L m=true):=by rw [← hO];exact hOv
     clear hO hOv;obtain ⟨T,hT⟩:=aw (cj L q);go_wp2_with fail
     refine (mH _ _ _ L q w1 E1.out).mono ?_;rw [← hT];rintro e wr2 ⟨rfl,rfl⟩;cases hTv:T with
     | false =>
      have HN:Hid (ee B ap q i=false):=by show ee B ap q i=false;rw [cZ HG.out,HRB.out,← hT,hTv];rfl
      go_wp2;go_ret;exact ⟨aq (pK HKL.out HN.out).symm,K1.out⟩
     | true =>
      have HWI:Hid (cj L q=true):=by rw [← hT];exact hTv
      clear hT hTv;have k0:Bl wr2 wr2.drew:=(Below.refl _ wr2).drew;have KZ:Hid (Bl w wr2.drew):=K1.out.trans (k0.mono K1.out.size);have HMK:Hid (∀w',Bl wr2 w'→(b<w'.heap.size)):=fun w' kk=>Nat.lt_of_lt_of_le zb kk.size
      cases ap with
      | false =>
      have HN:Hid (ee B false q i=true):=by show ee B false q i=true;rw [cZ HG.out,HRB.out,HWI.out];rfl
      go_wp2_with fail
      refine dI HMK k0 fun aa=>?_
      refine aM 0 11 aa ?_;refine aM 12 4 aa ?_;refine aR 11 fun K hK=>?_
      go_simp;refine hK.out _ _ (HMK.out _ k0) fun aa=>?_
      (try go_frame);refine aR 16 fun K hK=>?_
      go_simp;refine hK.out _ _ (HMK.out _ k0) fun aa=>?_
      (try go_frame);refine aM 17 2 aa ?_;refine dN ?_;clear k0 HMK aa;go_wp2;go_roundw
      case rel=>exact ⟨i+1,by omega,by go_num,KZ.out,lj HW.out HN.out⟩
      case measure=>simp [intOf];omega
      | true =>
       by_cases hi0:i=0
       · subst hi0;have HN:Hid (ee B true q 0=true):=by show ee B true q 0=true;rw [cZ HG.out,HRB.out,HWI.out];rfl
         go_wp2_with fail
         refine dI HMK k0 fun aa=>?_
         refine aM 0 11 aa ?_;refine aM 12 4 aa ?_;refine aR 11 fun K hK=>?_
         go_simp;refine hK.out _ _ (HMK.out _ k0) fun aa=>?_
         (try go_frame);refine aR 16 fun K hK=>?_
         go_simp;refine hK.out _ _ (HMK.out _ k0) fun aa=>?_
         (try go_frame);refine aM 17 2 aa ?_;refine dN ?_;clear k0 HMK aa;go_wp2;go_roundw
         case rel=>exact ⟨0+1,by omega,by go_num,KZ.out,lj HW.out HN.out⟩
         case measure=>simp [intOf];omega
       · have hip:(0:Int)<(i:Int):=by omega
         have hipN:0<i:=by omega
         have hipD:decide (0<i)=true:=decide_eq_true hipN;have hj1:(0:Int)≤(i:Int) - 1:=by omega
         have hj2:(i:Int) - 1<(n:Int):=by omega
         have hj3:(1:Int)≤(i:Int):=by omega
         have hjt:((i:Int) - 1).toNat=i - 1:=by omega
         have wj:IntKind.i64.wrap ((i:Int) - 1)=(i:Int) - 1:=by rw [IntWalk.i64_left];unfold wrap64;omega
         obtain ⟨Lp,mp,sp,np,cp,hp,_,p0,p1,hEp⟩:=H.out.run K1.out (i - 1) (by omega);have hRp:dY Lp mp=true:=by
          have h1:=HW.out (i - 1) (by omega);rw [cZ hp] at h1;simp only [Bool.and_eq_true] at h1;exact h1.1
         have l1:=(bD HRB.out).1;have l2:=(bD hRp).1;obtain ⟨el,hel,hlow⟩:=pU l1;obtain ⟨eh,heh,hhigh⟩:=kL l2;have hns:=E1.out.length;have hnp:=hEp.1.length;obtain ⟨bs,os,rfl,_⟩:=E1.out.form (by omega);obtain ⟨bp,op,rfl,_⟩:=hEp.1.form (by omega);rw [hnp] at heh;have CH:Hid (∀w',Bl wr2 w'→Calls Tryz.prog 122 #[.agg #[sO bp op np cp,iT mp]] w' fun r w''=>r=.returned (.string eh.1)∧Bl w' w''):=fun w' k=>xQ mp bp op np cp Lp w' (hEp.1.keep k) eh heh (by omega)
         have CLO:Hid (∀w',Bl wr2 w'→Calls Tryz.prog 123 #[.agg #[sO bs os ns cs,iT m]] w' fun r w''=>r=.returned (.string el.1)∧Bl w' w''):=fun w' k=>zT m bs os ns cs L w' (E1.out.keep k) el hel
         have HAT:Hid (ee B true q i=Op.bytesLess eh.1.toList el.1.toList):=by
          show ee B true q i=_
          rw [sM HG.out hipN hp,HRB.out,HWI.out];simp only [Bool.true_and,Bool.not_true,Bool.false_or];unfold jY;rw [hlow,hhigh]
         have HM1:Hid (∀w',Bl wr2 w'→(w'.cell? ⟨b,off+i*2,none⟩=some (sO bs os ns cs)∧w'.cell? ⟨b,off+i*2+1,none⟩=some (iT m)∧w'.cell? ⟨b,off+(i - 1)*2,none⟩=some (sO bp op np cp)∧w'.cell? ⟨b,off+(i - 1)*2+1,none⟩=some (iT mp)∧b<w'.heap.size)):=fun w' kk=>⟨cell_later kk g0,cell_later kk g1,cell_later kk p0,cell_later kk p1,Nat.lt_of_lt_of_le zb kk.size⟩
         clear HMK hp hEp hRp l1 l2 hel heh hlow hhigh hns hnp g0 g1 p0 p1 zb HE;obtain ⟨sh,hsh⟩:=aw eh.1;obtain ⟨sl,hsl⟩:=aw el.1;rw [← hsh] at CH HAT;rw [← hsl] at CLO HAT;clear hsh hsl;cases hcmp:Op.bytesLess sh.toList sl.toList with
         | true =>
          have HN:Hid (ee B true q i=true):=by show ee B true q i=true;rw [HAT.out];exact hcmp
          go_wp2_with fail
          refine dI HM1 k0 fun aa=>?_
          refine aM 0 11 aa ?_;refine aM 12 4 aa ?_;refine aR 11 fun K hK=>?_
          go_simp;refine (CH.out _ k0).mono ?_;rintro e wk1 ⟨rfl,bk1⟩;have k1:Bl wr2 wk1:=k0.trans (bk1.mono k0.size);go_wp2_with fail
          refine hK.out _ _ (HM1.out _ k1) fun aa=>?_
          (try go_frame);refine aR 16 fun K hK=>?_
          go_simp;refine (CLO.out _ k1).mono ?_;rintro e wk2 ⟨rfl,bk2⟩;have k2:Bl wr2 wk2:=k1.trans (bk2.mono k1.size);go_wp2_with fail
          refine hK.out _ _ (HM1.out _ k2) fun aa=>?_
          (try go_frame);refine aM 17 2 aa ?_;refine dN ?_;have KY:Hid (Bl w wk2):=K1.out.trans (k2.mono K1.out.size);clear k0 k1 k2 bk1 bk2 HM1 aa;go_wp2;go_roundw
          case rel=>exact ⟨i+1,by omega,by go_num,KY.out,lj HW.out HN.out⟩
          case measure=>simp [intOf];omega
         | false =>
          have HN:Hid (ee B true q i=false):=by show ee B true q i=false;rw [HAT.out];exact hcmp
          go_wp2_with fail
          refine dI HM1 k0 fun aa=>?_
          refine aM 0 11 aa ?_;refine aM 12 4 aa ?_;refine aR 11 fun K hK=>?_
          go_simp;refine (CH.out _ k0).mono ?_;rintro e wk1 ⟨rfl,bk1⟩;have k1:Bl wr2 wk1:=k0.trans (bk1.mono k0.size);go_wp2_with fail
          refine hK.out _ _ (HM1.out _ k1) fun aa=>?_
          (try go_frame);refine aR 16 fun K hK=>?_
          go_simp;refine (CLO.out _ k1).mono ?_;rintro e wk2 ⟨rfl,bk2⟩;have k2:Bl wr2 wk2:=k1.trans (bk2.mono k1.size);go_wp2_with fail
          refine hK.out _ _ (HM1.out _ k2) fun aa=>?_
          (try go_frame);refine aM 17 2 aa ?_;refine dN ?_;have KY:Hid (Bl w wk2):=K1.out.trans (k2.mono K1.out.size);clear k0 k1 k2 bk1 bk2 HM1 aa;go_wp2;go_ret;exact ⟨aq (pK HKL.out HN.out).symm,KY.out⟩
  · have hinI:¬(i:Int)<(n:Int):=by omega
    have HC:Hid (dK B most ap q=true):=by
     have hw:=HW.out;have hii:i=B.length:=by rw [HLN.out];omega
     rw [hii] at hw;exact ya hw (by rw [HLN.out];omega)
    go_wp2;go_ret;exact ⟨aq HC.out.symm,HB.out⟩
end Go.Proofs.YtgpcinihgofmfaaGreatDoor

namespace Go.Proofs.YtgpcinihgofmfaaGreatDoor
open Go.RowKit
set_option maxRecDepth 100000
set_option maxHeartbeats 8000000
def jm (P:List (List ae)) (i k:Nat):Bool:=match P[i]? with | none=>true | some A=>match P[k]? with | none=>true | some B=>iC A B
theorem lH {P:List (List ae)} {i k:Nat} {A B:List ae} (h:P[i]?=some A) (h':P[k]?=some B):jm P i k=iC A B:=by
 unfold jm;simp only [h,h']
def lJ (P:List (List ae)) (i:Nat):Prop:=∀j k,j<i→j<k→k<P.length→jm P j k=true
def nT (P:List (List ae)) (i k:Nat):Prop:=∀j,i<j→j<k→jm P i j=true
def gP (P:List (List ae)):Bool:=(List.range P.length).all fun i=>(List.range P.length).all fun k=>!decide (i<k) || jm P i k
theorem Au {P:List (List ae)} {i k:Nat} (hi:i<k) (hk:k<P.length) (h:jm P i k=false):gP P=false:=by
 rw [Bool.eq_false_iff];intro h1;unfold gP at h1;rw [List.all_eq_true] at h1;have h2:=h1 i (List.mem_range.2 (by omega));rw [List.all_eq_true] at h2;have h3:=h2 k (List.mem_range.2 hk);rw [h,decide_eq_true hi] at h3;cases h3
theorem zH {P:List (List ae)} (h:lJ P P.length):gP P=true:=by
 unfold gP;rw [List.all_eq_true];intro i hi;rw [List.all_eq_true];intro k hk;by_cases e:i<k
 · rw [h i k (List.mem_range.1 hi) e (List.mem_range.1 hk)];simp
 · rw [decide_eq_false e];rfl
theorem Av {P:List (List ae)} {i k:Nat} (h:nT P i k) (hk:jm P i k=true):nT P i (k+1):=by
 intro j h1 h2;by_cases e:j=k
 · subst e;exact hk
 · exact h j h1 (by omega)
theorem Ar {P:List (List ae)} {i:Nat} (h:lJ P i) (hi:nT P i P.length):lJ P (i+1):=by
 intro j k h1 h2 h3;by_cases e:j=i
 · subst e;exact hi k h2 h3
 · exact h j k (by omega) h2 h3
theorem xW (sq:Int) (am av ak:Option Addr) (nm cm nv cv nk ck:Nat) (P:List (List ae)) (w:World)
 (hp:∀w1,Bl w w1→Calls Tryz.prog 124 #[.agg #[iT sq,.slice am nm cm,.slice av nv cv,.slice ak nk ck]] w1 fun e w'=>∃a n c,e=.returned (.slice a n c)∧cK w' a n c P∧Bl w1 w') :
 Calls Tryz.prog 84 #[.agg #[iT sq,.slice am nm cm,.slice av nv cv,.slice ak nk ck]] w fun e w'=>e=.returned (.bool (gP P))∧Bl w w':=by
 go_enter Tryz.func84,Tryz.ntmps84
 go_wp2_with fail
 refine (hp _ bZ).mono ?_;rintro e w2 ⟨a,n,c,rfl,hP,hb2⟩;have K1:∀o,Bl w (w.alloc o):=fun o=>(Below.refl _ _).alloc (Nat.le_refl _) o
 have K2:Hid (Bl w w2):=(K1 _).trans (hb2.mono (K1 _).size);clear hb2 hp K1;have HLN:Hid (P.length=n):=hP.length;have hr:=hP.room;have hbg:=hP.big;unfold maxLen at hbg;have H:Hid (cK w2 a n c P):=hP;clear hP;go_wp2;go_loopw [4] (fun iv wr=>∃i:Nat,i≤n∧iv=iT i∧Bl w2 wr∧lJ P i) (fun iv _=>n - (intOf iv).toNat)
 case atStart=>exact ⟨0,Nat.zero_le _,rfl,Below.refl _ _,fun j k hj=>absurd hj (Nat.not_lt_zero _)⟩
 case round =>
  obtain ⟨i,hi,rfl,hb,hw⟩:=hrel;have HW:Hid (lJ P i):=hw;have HB:Hid (Bl w2 wr):=hb;clear hw hb;by_cases hin:i<n
  · have hinI:(i:Int)<(n:Int):=by omega
    obtain ⟨b,off,rfl,hbb⟩:=H.out.form (by omega);go_wp2;go_loopw [5] (fun kv wq=>∃k:Nat,i<k∧k≤n∧kv=iT k∧Bl w2 wq∧nT P i k) (fun kv _=>n - (intOf kv).toNat)
    case atStart=>exact ⟨i+1,by omega,by omega,by go_num,HB.out,fun j h1 h2=>absurd h2 (by omega)⟩
    case round =>
     obtain ⟨k,hik,hk,rfl,hbk,hwk⟩:=hrel;have HWK:Hid (nT P i k):=hwk;have HBK:Hid (Bl w2 wr):=hbk;clear hwk;by_cases hkn:k<n
     · have hknI:(k:Int)<(n:Int):=by omega
       obtain ⟨A,s1,n1,c1,hA,g1,hE1⟩:=H.out.list hbk i hin;obtain ⟨B,s2,n2,c2,hB,g2,hE2⟩:=H.out.list hbk k hkn;have HAT:Hid (jm P i k=iC A B):=lH hA hB;have HKL:Hid (k<P.length):=by show k<P.length;rw [HLN.out];exact hkn
       have zb:=Nat.lt_of_lt_of_le hbb hbk.size;have CA:Hid (∀w',Bl wr w'→Calls Tryz.prog 125 #[.slice s1 n1 c1,.slice s2 n2 c2] w' fun e w''=>e=.returned (.bool (iC A B))∧Bl w' w''):=fun w' kk=>uR s1 s2 n1 c1 n2 c2 A B w' (hE1.keep kk) (hE2.keep kk)
       have HMK:Hid (∀w',Bl wr w'→(w'.cell? ⟨b,off+i,none⟩=some (.slice s1 n1 c1)∧w'.cell? ⟨b,off+k,none⟩=some (.slice s2 n2 c2)∧b<w'.heap.size)):=fun w' kk=>⟨cell_later kk g1,cell_later kk g2,Nat.lt_of_lt_of_le zb kk.size⟩
       have k0:Bl wr wr.drew:=(Below.refl _ wr).drew;clear hA hB g1 g2 hE1 hE2 zb hbk;obtain ⟨O,hO⟩:=aw (iC A B);rw [← hO] at CA HAT;clear hO;cases O with
       | true =>
        go_wp2_with fail
        refine dI HMK k0 fun aa=>?_
        refine aM 0 8 aa ?_;refine aR 8 fun K hK=>?_
        go_simp;refine (CA.out _ k0).mono ?_;rintro e wk1 ⟨rfl,bk1⟩;have k1:Bl wr wk1:=k0.trans (bk1.mono k0.size);go_wp2_with fail
        refine hK.out _ _ (HMK.out _ k1) fun aa=>?_
        (try go_frame);refine aM 9 1 aa ?_;refine dN ?_;have KY:Hid (Bl w2 wk1):=HBK.out.trans (k1.mono HBK.out.size);clear k0 k1 bk1 HMK CA aa;go_wp2;go_roundw
        case rel=>exact ⟨k+1,by omega,by omega,by go_num,KY.out,Av HWK.out HAT.out⟩
        case measure=>simp [intOf];omega
       | false =>
        go_wp2_with fail
        refine dI HMK k0 fun aa=>?_
        refine aM 0 8 aa ?_;refine aR 8 fun K hK=>?_
        go_simp;refine (CA.out _ k0).mono ?_;rintro e wk1 ⟨rfl,bk1⟩;have k1:Bl wr wk1:=k0.trans (bk1.mono k0.size);go_wp2_with fail
        refine hK.out _ _ (HMK.out _ k1) fun aa=>?_
        (try go_frame);refine aM 9 1 aa ?_;refine dN ?_;have KY:Hid (Bl w2 wk1):=HBK.out.trans (k1.mono HBK.out.size);clear k0 k1 bk1 HMK CA aa;go_wp2;go_ret;exact ⟨aq (Au hik HKL.out HAT.out).symm,K2.out.trans (KY.out.mono K2.out.size)⟩
     · have hknI:¬(k:Int)<(n:Int):=by omega
       have HN:Hid (lJ P (i+1)):=by
        have h1:=HWK.out;have h2:k=P.length:=by rw [HLN.out];omega
        rw [h2] at h1;exact Ar HW.out h1
       go_wp2;go_roundw
       case rel=>exact ⟨i+1,by omega,by go_num,HBK.out,HN.out⟩
       case measure=>simp [intOf];omega
  · have hinI:¬(i:Int)<(n:Int):=by omega
    have HC:Hid (gP P=true):=by
     have hw:=HW.out;have hii:i=P.length:=by rw [HLN.out];omega
     rw [hii] at hw;exact zH hw
    go_wp2;go_ret;exact ⟨aq HC.out.symm,K2.out.trans (HB.out.mono K2.out.size)⟩
end Go.Proofs.YtgpcinihgofmfaaGreatDoor
