/- Walks. -/
import Derived.Test.YtehiefdphnljaaaGreatDoorSw16
namespace Go.Proofs.YtehiefdphnljaaaGreatDoor
set_option maxRecDepth 100000
set_option maxHeartbeats 40000000
open Go.RowKit
variable {O Z:ByteArray} {m:Nat}
theorem qT (a:Option Addr) (len cap:Nat) (L:List ae) (w:World) (hL:an w a len cap L) :
 Calls Tryz.prog 76 #[.slice a len cap] w fun e w'=>e=.returned (.bool (bG L))∧Bl w w':=by
 have HLEN:Hid (L.length=len):=hL.length;have hbl:=hL.room;have hbc:=hL.big;unfold maxLen at hbc;have HL:=ar hL;clear hL;go_enter Tryz.func76,Tryz.ntmps76
 go_wp2;go_loopw [3] (fun i wr=>∃k:Nat,k≤len∧i=iT k∧Bl w wr∧dY L k=true) (fun i _=>len - (intOf i).toNat)
 case atStart=>exact ⟨0,Nat.zero_le _,rfl,Below.refl _ _,rfl⟩
 case round =>
  obtain ⟨k,hk,rfl,hb,hall⟩:=hrel;have HALL:Hid (dY L k=true):=hall;clear hall;by_cases hlt:k<len
  · obtain ⟨b,off,rfl,hbb⟩:=HL.out.form (by omega);obtain ⟨s,q,d,t,n,hg,hlw,g0,g1,g2,g3,g4⟩:=HL.out.ent hb hbb k hlt;have HG:Hid (L[k]?=some (s,q,d,t,n)):=hg;have hs:=hlw.1;have ht:=hlw.2.2.2.1;simp only at hs ht;clear hg hlw;cases hv:cV s q d t n with
    | false =>
     have CE:Hid (∀w,Calls Tryz.prog 74 #[.agg #[.string s,iT q,iT d,.string t,iT n]] w fun e w'=>e=.returned (.bool false)∧Bl w w'):=by rw [← hv];exact fun w=>jY s t q d n w hs ht
     go_wp2_with fail
     obtain ⟨W,hW⟩:=aw wr;have kW:Bl wr W:=by rw [hW];exact Below.refl _ _
     have hbr:b<wr.heap.size:=Nat.lt_of_lt_of_le hbb hb.size;have hbW:b<W.heap.size:=Nat.lt_of_lt_of_le hbr kW.size;have z0:=cell_later kW g0;have z1:=cell_later kW g1;have z2:=cell_later kW g2;have z3:=cell_later kW g3;have z4:=cell_later kW g4;have HKW:Hid (Bl w W):=hb.trans (kW.mono hb.size);rw [← hW];clear hW kW;have k0:Bl W W.drew:=(Below.refl _ W).drew;have HMK:Hid (∀w',Bl W w'→(w'.cell? ⟨b,off+k*5,none⟩=some (.string s)∧w'.cell? ⟨b,off+k*5+1,none⟩=some (iT q)∧w'.cell? ⟨b,off+k*5+2,none⟩=some (iT d)∧w'.cell? ⟨b,off+k*5+3,none⟩=some (.string t)∧w'.cell? ⟨b,off+k*5+4,none⟩=some (iT n)∧b<w'.heap.size)):=fun w' kk=>⟨cell_later kk z0,cell_later kk z1,cell_later kk z2,cell_later kk z3,cell_later kk z4,Nat.lt_of_lt_of_le hbW kk.size⟩
     refine dC HMK k0 fun aa=>?_
     refine aK 0 4 aa ?_;refine aP 4 fun K hK=>?_
     go_simp;refine (CE.out _).mono ?_;rintro e w1 ⟨rfl,b1⟩;have k1:Bl W w1:=k0.trans (b1.mono k0.size);go_wp2_with fail
     refine hK.out _ _ (HMK.out _ k1) fun aa=>?_
     (try go_frame);refine aK 5 20 aa ?_;refine dN ?_;go_wp2;go_ret;exact ⟨aj (mA (by rw [HLEN.out];exact hlt) (kU HG.out hv)).symm,HKW.out.trans (k1.mono HKW.out.size)⟩
    | true =>
     have CE:Hid (∀w,Calls Tryz.prog 74 #[.agg #[.string s,iT q,iT d,.string t,iT n]] w fun e w'=>e=.returned (.bool true)∧Bl w w'):=by rw [← hv];exact fun w=>jY s t q d n w hs ht
     by_cases hk0:k=0
     · subst hk0;try simp only [Nat.zero_mul,Nat.add_zero] at g0 g1 g2 g3 g4
       go_wp2_with fail
       obtain ⟨W,hW⟩:=aw wr;have kW:Bl wr W:=by rw [hW];exact Below.refl _ _
       have hbr:b<wr.heap.size:=Nat.lt_of_lt_of_le hbb hb.size;have hbW:b<W.heap.size:=Nat.lt_of_lt_of_le hbr kW.size;have z0:=cell_later kW g0;have z1:=cell_later kW g1;have z2:=cell_later kW g2;have z3:=cell_later kW g3;have z4:=cell_later kW g4;have HKW:Hid (Bl w W):=hb.trans (kW.mono hb.size);rw [← hW];clear hW kW;have k0:Bl W W.drew:=(Below.refl _ W).drew;have HMK:Hid (∀w',Bl W w'→(w'.cell? ⟨b,off,none⟩=some (.string s)∧w'.cell? ⟨b,off+1,none⟩=some (iT q)∧w'.cell? ⟨b,off+2,none⟩=some (iT d)∧w'.cell? ⟨b,off+3,none⟩=some (.string t)∧w'.cell? ⟨b,off+4,none⟩=some (iT n)∧b<w'.heap.size)):=fun w' kk=>⟨cell_later kk z0,cell_later kk z1,cell_later kk z2,cell_later kk z3,cell_later kk z4,Nat.lt_of_lt_of_le hbW kk.size⟩
       refine dC HMK k0 fun aa=>?_
       refine aK 0 4 aa ?_;refine aP 4 fun K hK=>?_
       go_simp;refine (CE.out _).mono ?_;rintro e w1 ⟨rfl,b1⟩;have k1:Bl W w1:=k0.trans (b1.mono k0.size);go_wp2_with fail
       refine hK.out _ _ (HMK.out _ k1) fun aa=>?_
       (try go_frame);refine aK 5 20 aa ?_;refine dN ?_;go_wp2;go_roundw
       case rel=>exact ⟨1,by omega,by go_num,HKW.out.trans (k1.mono HKW.out.size),gM HALL.out (by rw [kT HG.out];exact hv)⟩
       case measure=>simp [intOf];omega
     · obtain ⟨j,rfl⟩:∃j,k=j+1:=⟨k - 1,by omega⟩;obtain ⟨s',q',d',t',n',hg',hlw',g0',g1',g2',g3',g4'⟩:=HL.out.ent hb hbb j (by omega);have HG':Hid (L[j]?=some (s',q',d',t',n')):=hg';have hp:=dX (mH HALL.out (Nat.lt_succ_self j) hg');have hq1:=hp.2.1;have hq2:=hp.2.2.1;simp only at hq1 hq2;clear hg' hlw' hp;have h0j:(0:Int)≤(j:Int)+1:=by omega
       have h0j':(0:Int)<(j:Int)+1:=by omega
       have hjl:(j:Int)<(len:Int):=by omega
       have hjl1:(j:Int)+1<(len:Int):=by omega
       have wj:IntKind.i64.wrap (j:Int)=(j:Int):=by rw [IntWalk.i64_left];unfold wrap64;omega
       have wj1:IntKind.i64.wrap ((j:Int)+1 - 1)=(j:Int):=by rw [IntWalk.i64_left];unfold wrap64;omega
       have wq:IntKind.i64.wrap (q'+1)=q'+1:=by rw [IntWalk.i64_left];unfold wrap64;omega
       by_cases hqq:q=q'+1
       · have hqd:decide (q=q'+1)=true:=decide_eq_true hqq;have hqb:(q == q'+1)=true:=by simpa using hqq
         have hqn:(q != q'+1)=false:=by simpa using hqq
         have HQ:Hid (q=q'+1):=hqq;clear hqq;go_wp2_with fail
         obtain ⟨W,hW⟩:=aw wr;have kW:Bl wr W:=by rw [hW];exact Below.refl _ _
         have hbr:b<wr.heap.size:=Nat.lt_of_lt_of_le hbb hb.size;have hbW:b<W.heap.size:=Nat.lt_of_lt_of_le hbr kW.size;have z0:=cell_later kW g0;have z1:=cell_later kW g1;have z2:=cell_later kW g2;have z3:=cell_later kW g3;have z4:=cell_later kW g4;have y0:=cell_later kW g0';have y1:=cell_later kW g1';have y2:=cell_later kW g2';have y3:=cell_later kW g3';have y4:=cell_later kW g4';have HKW:Hid (Bl w W):=hb.trans (kW.mono hb.size);rw [← hW];clear hW kW;have k0:Bl W W.drew:=(Below.refl _ W).drew;have HMK:Hid (∀w',Bl W w'→(w'.cell? ⟨b,off+(j+1)*5,none⟩=some (.string s)∧w'.cell? ⟨b,off+(j+1)*5+1,none⟩=some (iT q)∧w'.cell? ⟨b,off+(j+1)*5+2,none⟩=some (iT d)∧w'.cell? ⟨b,off+(j+1)*5+3,none⟩=some (.string t)∧w'.cell? ⟨b,off+(j+1)*5+4,none⟩=some (iT n)∧w'.cell? ⟨b,off+j*5,none⟩=some (.string s')∧w'.cell? ⟨b,off+j*5+1,none⟩=some (iT q')∧w'.cell? ⟨b,off+j*5+2,none⟩=some (iT d')∧w'.cell? ⟨b,off+j*5+3,none⟩=some (.string t')∧w'.cell? ⟨b,off+j*5+4,none⟩=some (iT n')∧b<w'.heap.size)):=fun w' kk=>⟨cell_later kk z0,cell_later kk z1,cell_later kk z2,cell_later kk z3,cell_later kk z4,cell_later kk y0,cell_later kk y1,cell_later kk y2,cell_later kk y3,cell_later kk y4,Nat.lt_of_lt_of_le hbW kk.size⟩
         refine dC HMK k0 fun aa=>?_
         refine aK 0 4 aa ?_;refine aP 4 fun K hK=>?_
         go_simp;refine (CE.out _).mono ?_;rintro e w1 ⟨rfl,b1⟩;have k1:Bl W w1:=k0.trans (b1.mono k0.size);go_wp2_with fail
         refine hK.out _ _ (HMK.out _ k1) fun aa=>?_
         (try go_frame);refine aK 5 20 aa ?_;refine dN ?_;go_wp2;go_roundw
         case rel=>exact ⟨j+1+1,by omega,by go_num,HKW.out.trans (k1.mono HKW.out.size),gM HALL.out (by rw [gq HG.out HG'.out,show cN (s,q,d,t,n)=true from hv,decide_eq_true (show (s,q,d,t,n).2.1=(s',q',d',t',n').2.1+1 from HQ.out)];rfl)⟩
         case measure=>simp [intOf];omega
       · have hqd:decide (q=q'+1)=false:=decide_eq_false hqq;have hqb:(q == q'+1)=false:=by simpa using hqq
         have hqn:(q != q'+1)=true:=by simpa using hqq
         have HQ:Hid (¬q=q'+1):=hqq;clear hqq;go_wp2_with fail
         obtain ⟨W,hW⟩:=aw wr;have kW:Bl wr W:=by rw [hW];exact Below.refl _ _
         have hbr:b<wr.heap.size:=Nat.lt_of_lt_of_le hbb hb.size;have hbW:b<W.heap.size:=Nat.lt_of_lt_of_le hbr kW.size;have z0:=cell_later kW g0;have z1:=cell_later kW g1;have z2:=cell_later kW g2;have z3:=cell_later kW g3;have z4:=cell_later kW g4;have y0:=cell_later kW g0';have y1:=cell_later kW g1';have y2:=cell_later kW g2';have y3:=cell_later kW g3';have y4:=cell_later kW g4';have HKW:Hid (Bl w W):=hb.trans (kW.mono hb.size);rw [← hW];clear hW kW;have k0:Bl W W.drew:=(Below.refl _ W).drew;have HMK:Hid (∀w',Bl W w'→(w'.cell? ⟨b,off+(j+1)*5,none⟩=some (.string s)∧w'.cell? ⟨b,off+(j+1)*5+1,none⟩=some (iT q)∧w'.cell? ⟨b,off+(j+1)*5+2,none⟩=some (iT d)∧w'.cell? ⟨b,off+(j+1)*5+3,none⟩=some (.string t)∧w'.cell? ⟨b,off+(j+1)*5+4,none⟩=some (iT n)∧w'.cell? ⟨b,off+j*5,none⟩=some (.string s')∧w'.cell? ⟨b,off+j*5+1,none⟩=some (iT q')∧w'.cell? ⟨b,off+j*5+2,none⟩=some (iT d')∧w'.cell? ⟨b,off+j*5+3,none⟩=some (.string t')∧w'.cell? ⟨b,off+j*5+4,none⟩=some (iT n')∧b<w'.heap.size)):=fun w' kk=>⟨cell_later kk z0,cell_later kk z1,cell_later kk z2,cell_later kk z3,cell_later kk z4,cell_later kk y0,cell_later kk y1,cell_later kk y2,cell_later kk y3,cell_later kk y4,Nat.lt_of_lt_of_le hbW kk.size⟩
         refine dC HMK k0 fun aa=>?_
         refine aK 0 4 aa ?_;refine aP 4 fun K hK=>?_
         go_simp;refine (CE.out _).mono ?_;rintro e w1 ⟨rfl,b1⟩;have k1:Bl W w1:=k0.trans (b1.mono k0.size);go_wp2_with fail
         refine hK.out _ _ (HMK.out _ k1) fun aa=>?_
         (try go_frame);refine aK 5 20 aa ?_;refine dN ?_;go_wp2;go_ret;exact ⟨aj (mA (k:=j+1) (by rw [HLEN.out];exact hlt) (by rw [gq HG.out HG'.out];simp [HQ.out])).symm,HKW.out.trans (k1.mono HKW.out.size)⟩
  · have hkn:k=len:=by omega
    have hst:bG L=(decide (1≤L.length) && decide (L.length≤12)):=zR (by rw [HLEN.out,← hkn];exact HALL.out);rw [HLEN.out] at hst;have HST:Hid (bG L=(decide (1≤len) && decide (len≤12))):=hst;clear hst;by_cases h1:(1:Int)≤(len:Int)
    · by_cases h2:(len:Int)≤12
      · go_wp2;go_ret;exact ⟨aj (by rw [HST.out,decide_eq_true (by omega),decide_eq_true (by omega)];rfl),hb⟩
      · go_wp2;go_ret;exact ⟨aj (by rw [HST.out,decide_eq_false (p:=len≤12) (by omega),Bool.and_false]),hb⟩
    · go_wp2;go_ret;exact ⟨aj (by rw [HST.out,decide_eq_false (p:=1≤len) (by omega)];rfl),hb⟩
theorem rP (a:Option Addr) (len cap:Nat) (L:List ae) (w:World) (hL:an w a len cap L) (h1:1≤len) (h12:len≤12) :
 Calls Tryz.prog 93 #[.slice a len cap] w fun e w'=>e=.returned (.bool (bG L))∧Bl w w':=by
 have HLEN:Hid (L.length=len):=hL.length;have hbl:=hL.room;have hbc:=hL.big;unfold maxLen at hbc;have HL:=ar hL;clear hL;go_enter Tryz.func93,Tryz.ntmps93
 go_wp2;go_loopw [15] (fun i wr=>∃k:Nat,k≤len∧i=iT k∧Bl w wr∧dY L k=true) (fun i _=>len - (intOf i).toNat)
 case atStart=>exact ⟨0,Nat.zero_le _,rfl,Below.refl _ _,rfl⟩
 case round =>
  obtain ⟨k,hk,rfl,hb,hall⟩:=hrel;have HALL:Hid (dY L k=true):=hall;clear hall;by_cases hlt:k<len
  · obtain ⟨b,off,rfl,hbb⟩:=HL.out.form (by omega);obtain ⟨s,q,d,t,n,hg,hlw,g0,g1,g2,g3,g4⟩:=HL.out.ent hb hbb k hlt;have HG:Hid (L[k]?=some (s,q,d,t,n)):=hg;have hs:=hlw.1;have ht:=hlw.2.2.2.1;simp only at hs ht;clear hg hlw;cases hv:cV s q d t n with
    | false =>
     have CE:Hid (∀w,Calls Tryz.prog 91 #[.agg #[.string s,iT q,iT d,.string t,iT n]] w fun e w'=>e=.returned (.bool false)∧Bl w w'):=by rw [← hv];exact fun w=>kC s t q d n w hs
     go_wp2_with fail
     obtain ⟨X,hX⟩:=aw wr.heap.size;obtain ⟨W,hW⟩:=aw (wr.alloc (.cells #[.string s,iT q,iT d,.string t,iT n] 59));have x0:W.cell? ⟨X,0,none⟩=some (.string s):=by rw [hW,hX];simp
     have x1:W.cell? ⟨X,1,none⟩=some (iT q):=by rw [hW,hX];simp
     have x2:W.cell? ⟨X,2,none⟩=some (iT d):=by rw [hW,hX];simp
     have x3:W.cell? ⟨X,3,none⟩=some (.string t):=by rw [hW,hX];simp
     have x4:W.cell? ⟨X,4,none⟩=some (iT n):=by rw [hW,hX];simp
     have kW:Bl wr W:=by rw [hW];exact bZ
     have hbr:b<wr.heap.size:=Nat.lt_of_lt_of_le hbb hb.size;have hbW:b<W.heap.size:=Nat.lt_of_lt_of_le hbr kW.size;have HKW:Hid (Bl w W):=hb.trans (kW.mono hb.size);rw [← hW,← hX];clear hW hX kW;have k0:Bl W W.drew:=(Below.refl _ W).drew;have HMK:Hid (∀w',Bl W w'→(w'.cell? ⟨X,0,none⟩=some (.string s)∧w'.cell? ⟨X,1,none⟩=some (iT q)∧w'.cell? ⟨X,2,none⟩=some (iT d)∧w'.cell? ⟨X,3,none⟩=some (.string t)∧w'.cell? ⟨X,4,none⟩=some (iT n)∧X<w'.heap.size)):=fun w' kk=>⟨cell_later kk x0,cell_later kk x1,cell_later kk x2,cell_later kk x3,cell_later kk x4,World.block_lt_of_cell? _ _ (cell_later kk x0)⟩
     refine dC HMK k0 fun aa=>?_
     refine aK 0 1 aa ?_;refine aP 1 fun K hK=>?_
     go_simp;refine (CE.out _).mono ?_;rintro e w1 ⟨rfl,b1⟩;have k1:Bl W w1:=k0.trans (b1.mono k0.size);go_wp2_with fail
     refine hK.out _ _ (HMK.out _ k1) fun aa=>?_
     (try go_frame);refine aK 2 17 aa ?_;refine dN ?_;go_wp2;go_ret;exact ⟨aj (mA (by rw [HLEN.out];exact hlt) (kU HG.out hv)).symm,HKW.out.trans (k1.mono HKW.out.size)⟩
    | true =>
     have CE:Hid (∀w,Calls Tryz.prog 91 #[.agg #[.string s,iT q,iT d,.string t,iT n]] w fun e w'=>e=.returned (.bool true)∧Bl w w'):=by rw [← hv];exact fun w=>kC s t q d n w hs
     by_cases hk0:k=0
     · subst hk0;try simp only [Nat.zero_mul,Nat.add_zero] at g0 g1 g2 g3 g4
       go_wp2_with fail
       obtain ⟨X,hX⟩:=aw wr.heap.size;obtain ⟨W,hW⟩:=aw (wr.alloc (.cells #[.string s,iT q,iT d,.string t,iT n] 59));have x0:W.cell? ⟨X,0,none⟩=some (.string s):=by rw [hW,hX];simp
       have x1:W.cell? ⟨X,1,none⟩=some (iT q):=by rw [hW,hX];simp
       have x2:W.cell? ⟨X,2,none⟩=some (iT d):=by rw [hW,hX];simp
       have x3:W.cell? ⟨X,3,none⟩=some (.string t):=by rw [hW,hX];simp
       have x4:W.cell? ⟨X,4,none⟩=some (iT n):=by rw [hW,hX];simp
       have kW:Bl wr W:=by rw [hW];exact bZ
       have hbr:b<wr.heap.size:=Nat.lt_of_lt_of_le hbb hb.size;have hbW:b<W.heap.size:=Nat.lt_of_lt_of_le hbr kW.size;have HKW:Hid (Bl w W):=hb.trans (kW.mono hb.size);rw [← hW,← hX];clear hW hX kW;have k0:Bl W W.drew:=(Below.refl _ W).drew;have HMK:Hid (∀w',Bl W w'→(w'.cell? ⟨X,0,none⟩=some (.string s)∧w'.cell? ⟨X,1,none⟩=some (iT q)∧w'.cell? ⟨X,2,none⟩=some (iT d)∧w'.cell? ⟨X,3,none⟩=some (.string t)∧w'.cell? ⟨X,4,none⟩=some (iT n)∧X<w'.heap.size)):=fun w' kk=>⟨cell_later kk x0,cell_later kk x1,cell_later kk x2,cell_later kk x3,cell_later kk x4,World.block_lt_of_cell? _ _ (cell_later kk x0)⟩
       refine dC HMK k0 fun aa=>?_
       refine aK 0 1 aa ?_;refine aP 1 fun K hK=>?_
       go_simp;refine (CE.out _).mono ?_;rintro e w1 ⟨rfl,b1⟩;have k1:Bl W w1:=k0.trans (b1.mono k0.size);go_wp2_with fail
       refine hK.out _ _ (HMK.out _ k1) fun aa=>?_
       (try go_frame);refine aK 2 17 aa ?_;refine dN ?_;go_wp2;go_roundw
       case rel=>exact ⟨1,by omega,by go_num,HKW.out.trans (k1.mono HKW.out.size),gM HALL.out (by rw [kT HG.out];exact hv)⟩
       case measure=>simp [intOf];omega
     · obtain ⟨j,rfl⟩:∃j,k=j+1:=⟨k - 1,by omega⟩;obtain ⟨s',q',d',t',n',hg',hlw',g0',g1',g2',g3',g4'⟩:=HL.out.ent hb hbb j (by omega);have HG':Hid (L[j]?=some (s',q',d',t',n')):=hg';have hp:=dX (mH HALL.out (Nat.lt_succ_self j) hg');have hq1:=hp.2.1;have hq2:=hp.2.2.1;simp only at hq1 hq2;clear hg' hlw' hp;have h0j:(0:Int)≤(j:Int)+1:=by omega
       have h0j':(0:Int)<(j:Int)+1:=by omega
       have hjl:(j:Int)<(len:Int):=by omega
       have hjl1:(j:Int)+1<(len:Int):=by omega
       have wj:IntKind.i64.wrap (j:Int)=(j:Int):=by rw [IntWalk.i64_left];unfold wrap64;omega
       have wj1:IntKind.i64.wrap ((j:Int)+1 - 1)=(j:Int):=by rw [IntWalk.i64_left];unfold wrap64;omega
       have wq:IntKind.i64.wrap (q'+1)=q'+1:=by rw [IntWalk.i64_left];unfold wrap64;omega
       by_cases hqq:q=q'+1
       · have hqd:decide (q=q'+1)=true:=decide_eq_true hqq;have hqb:(q == q'+1)=true:=by simpa using hqq
         have hqn:(q != q'+1)=false:=by simpa using hqq
         have HQ:Hid (q=q'+1):=hqq;clear hqq;go_wp2_with fail
         obtain ⟨X,hX⟩:=aw wr.heap.size;obtain ⟨W,hW⟩:=aw (wr.alloc (.cells #[.string s,iT q,iT d,.string t,iT n] 59));have x0:W.cell? ⟨X,0,none⟩=some (.string s):=by rw [hW,hX];simp
         have x1:W.cell? ⟨X,1,none⟩=some (iT q):=by rw [hW,hX];simp
         have x2:W.cell? ⟨X,2,none⟩=some (iT d):=by rw [hW,hX];simp
         have x3:W.cell? ⟨X,3,none⟩=some (.string t):=by rw [hW,hX];simp
         have x4:W.cell? ⟨X,4,none⟩=some (iT n):=by rw [hW,hX];simp
         have kW:Bl wr W:=by rw [hW];exact bZ
         have hbr:b<wr.heap.size:=Nat.lt_of_lt_of_le hbb hb.size;have hbW:b<W.heap.size:=Nat.lt_of_lt_of_le hbr kW.size;have y0:=cell_later kW g0';have y1:=cell_later kW g1';have y2:=cell_later kW g2';have y3:=cell_later kW g3';have y4:=cell_later kW g4';have HKW:Hid (Bl w W):=hb.trans (kW.mono hb.size);rw [← hW,← hX];clear hW hX kW;have k0:Bl W W.drew:=(Below.refl _ W).drew;have HMK:Hid (∀w',Bl W w'→(w'.cell? ⟨X,0,none⟩=some (.string s)∧w'.cell? ⟨X,1,none⟩=some (iT q)∧w'.cell? ⟨X,2,none⟩=some (iT d)∧w'.cell? ⟨X,3,none⟩=some (.string t)∧w'.cell? ⟨X,4,none⟩=some (iT n)∧X<w'.heap.size∧w'.cell? ⟨b,off+j*5,none⟩=some (.string s')∧w'.cell? ⟨b,off+j*5+1,none⟩=some (iT q')∧w'.cell? ⟨b,off+j*5+2,none⟩=some (iT d')∧w'.cell? ⟨b,off+j*5+3,none⟩=some (.string t')∧w'.cell? ⟨b,off+j*5+4,none⟩=some (iT n')∧b<w'.heap.size)):=fun w' kk=>⟨cell_later kk x0,cell_later kk x1,cell_later kk x2,cell_later kk x3,cell_later kk x4,World.block_lt_of_cell? _ _ (cell_later kk x0),cell_later kk y0,cell_later kk y1,cell_later kk y2,cell_later kk y3,cell_later kk y4,Nat.lt_of_lt_of_le hbW kk.size⟩
         refine dC HMK k0 fun aa=>?_
         refine aK 0 1 aa ?_;refine aP 1 fun K hK=>?_
         go_simp;refine (CE.out _).mono ?_;rintro e w1 ⟨rfl,b1⟩;have k1:Bl W w1:=k0.trans (b1.mono k0.size);go_wp2_with fail
         refine hK.out _ _ (HMK.out _ k1) fun aa=>?_
         (try go_frame);refine aK 2 17 aa ?_;refine dN ?_;go_wp2;go_roundw
         case rel=>exact ⟨j+1+1,by omega,by go_num,HKW.out.trans (k1.mono HKW.out.size),gM HALL.out (by rw [gq HG.out HG'.out,show cN (s,q,d,t,n)=true from hv,decide_eq_true (show (s,q,d,t,n).2.1=(s',q',d',t',n').2.1+1 from HQ.out)];rfl)⟩
         case measure=>simp [intOf];omega
       · have hqd:decide (q=q'+1)=false:=decide_eq_false hqq;have hqb:(q == q'+1)=false:=by simpa using hqq
         have hqn:(q != q'+1)=true:=by simpa using hqq
         have HQ:Hid (¬q=q'+1):=hqq;clear hqq;go_wp2_with fail
         obtain ⟨X,hX⟩:=aw wr.heap.size;obtain ⟨W,hW⟩:=aw (wr.alloc (.cells #[.string s,iT q,iT d,.string t,iT n] 59));have x0:W.cell? ⟨X,0,none⟩=some (.string s):=by rw [hW,hX];simp
         have x1:W.cell? ⟨X,1,none⟩=some (iT q):=by rw [hW,hX];simp
         have x2:W.cell? ⟨X,2,none⟩=some (iT d):=by rw [hW,hX];simp
         have x3:W.cell? ⟨X,3,none⟩=some (.string t):=by rw [hW,hX];simp
         have x4:W.cell? ⟨X,4,none⟩=some (iT n):=by rw [hW,hX];simp
         have kW:Bl wr W:=by rw [hW];exact bZ
         have hbr:b<wr.heap.size:=Nat.lt_of_lt_of_le hbb hb.size;have hbW:b<W.heap.size:=Nat.lt_of_lt_of_le hbr kW.size;have y0:=cell_later kW g0';have y1:=cell_later kW g1';have y2:=cell_later kW g2';have y3:=cell_later kW g3';have y4:=cell_later kW g4';have HKW:Hid (Bl w W):=hb.trans (kW.mono hb.size);rw [← hW,← hX];clear hW hX kW;have k0:Bl W W.drew:=(Below.refl _ W).drew;have HMK:Hid (∀w',Bl W w'→(w'.cell? ⟨X,0,none⟩=some (.string s)∧w'.cell? ⟨X,1,none⟩=some (iT q)∧w'.cell? ⟨X,2,none⟩=some (iT d)∧w'.cell? ⟨X,3,none⟩=some (.string t)∧w'.cell? ⟨X,4,none⟩=some (iT n)∧X<w'.heap.size∧w'.cell? ⟨b,off+j*5,none⟩=some (.string s')∧w'.cell? ⟨b,off+j*5+1,none⟩=some (iT q')∧w'.cell? ⟨b,off+j*5+2,none⟩=some (iT d')∧w'.cell? ⟨b,off+j*5+3,none⟩=some (.string t')∧w'.cell? ⟨b,off+j*5+4,none⟩=some (iT n')∧b<w'.heap.size)):=fun w' kk=>⟨cell_later kk x0,cell_later kk x1,cell_later kk x2,cell_later kk x3,cell_later kk x4,World.block_lt_of_cell? _ _ (cell_later kk x0),cell_later kk y0,cell_later kk y1,cell_later kk y2,cell_later kk y3,cell_later kk y4,Nat.lt_of_lt_of_le hbW kk.size⟩
         refine dC HMK k0 fun aa=>?_
         refine aK 0 1 aa ?_;refine aP 1 fun K hK=>?_
         go_simp;refine (CE.out _).mono ?_;rintro e w1 ⟨rfl,b1⟩;have k1:Bl W w1:=k0.trans (b1.mono k0.size);go_wp2_with fail
         refine hK.out _ _ (HMK.out _ k1) fun aa=>?_
         (try go_frame);refine aK 2 17 aa ?_;refine dN ?_;go_wp2;go_ret;exact ⟨aj (mA (k:=j+1) (by rw [HLEN.out];exact hlt) (by rw [gq HG.out HG'.out];simp [HQ.out])).symm,HKW.out.trans (k1.mono HKW.out.size)⟩
  · have hkn:k=len:=by omega
    go_wp2;go_ret;exact ⟨aj (zP (by rw [HLEN.out];exact h1) (by rw [HLEN.out];exact h12) (by rw [HLEN.out,← hkn];exact HALL.out)).symm,hb⟩
theorem rQ (a:Option Addr) (len cap:Nat) (L:List ae) (w:World) (hL:an w a len cap L) :
 Calls Tryz.prog 93 #[.slice a len cap] w fun e w'=>e=.returned (.bool (bG L))∧Bl w w':=by
 have HLEN:Hid (L.length=len):=hL.length;by_cases h1:(len:Int)<1
 · clear hL;go_enter Tryz.func93,Tryz.ntmps93
   go_wp2;go_ret;exact ⟨aj (rZ (by rw [HLEN.out];omega)).symm,Below.refl _ _⟩
 by_cases h2:(12:Int)<(len:Int)
 · clear hL;go_enter Tryz.func93,Tryz.ntmps93
   go_wp2;go_ret;exact ⟨aj (wQ (by rw [HLEN.out];omega)).symm,Below.refl _ _⟩
 exact rP a len cap L w hL (by omega) (by omega)
def eM (n:Int):ByteArray:=⟨(Lib.itoa n).toArray⟩
theorem fi (n:Int) (h0:-9223372036854775808≤n) (h1:n≤9223372036854775807):(eM n).size≤21:=by
 have:=Lib.itoa_length_le n h0 h1;show (Lib.itoa n).toArray.size≤21
 simpa using this
theorem z7:eM (-9223372036854775808)=⟨#[45,57,50,50,51,51,55,50,48,51,54,56,53,52,55,55,53,56,48,56]⟩:=by
 unfold eM;simp [Lib.itoa,Lib.decDigits]
theorem z6 (u:Nat) (h:1≤u):eM (-(u:Int))=⟨#[45]⟩++eM u:=by
 unfold eM;rw [Lib.itoa_neg u h,Lib.itoa_nonneg];apply ByteArray.ext;apply Array.toList_inj.1;simp
def nJ (d:Nat):UInt8:=UInt8.ofNat (48+d)
theorem zY (d:Nat) (h:d<10):((nJ d).toNat:Int)=48+d:=by
 unfold nJ;simp;omega
theorem fL {a b:ByteArray} (h:a=b):Ending.returned (.string a)=.returned (.string b):=by rw [h]
theorem wT (h:¬m<10) (l:List UInt8):Lib.decDigits (m / 10)++(nJ (m % 10) :: l)=Lib.decDigits m++l:=by
 unfold nJ;rw [Lib.decDigits.eq_1 m,dif_neg h];simp
theorem wS (h:m<10) (l:List UInt8):(nJ m :: l)=Lib.decDigits m++l:=by
 unfold nJ;rw [Lib.decDigits_one h];rfl
theorem AB (c:UInt8) (l:List UInt8):(⟨#[c]⟩:ByteArray)++⟨l.toArray⟩=⟨(c :: l).toArray⟩:=by
 apply ByteArray.ext;apply Array.toList_inj.1;simp
theorem uJ (u:Nat) (w:World) (hu:(u:Int)≤9223372036854775807) :
 Calls Tryz.prog 77 #[iT u] w fun e w'=>e=.returned (.string (eM u))∧Bl w w':=by
 have hcv:∀(w:World) (d:Nat),d<10→(convert 104 9 (sL (w.heap.size) 1 1)).run Tryz.prog (w.alloc (.cells #[.int .u8 (48+(d:Int))] 5))=.ok (.string ⟨#[nJ d]⟩) (w.alloc (.cells #[.int .u8 (48+(d:Int))] 5)):=by
  intro w d hd;exact Lib.run_convert_whole _ 104 5 9 Tryz.underlying104 Tryz.underlying5 Tryz.underlying9 w.heap.size 0 ⟨#[nJ d]⟩ (fun i hi=>by
   have hi0:i=0:=by
    have:i<1:=hi;omega
   subst hi0;show _=some (Value.int .u8 ((nJ d).toNat:Int))
   rw [zY d hd];simp) 1
 go_enter Tryz.func77,Tryz.ntmps77
 go_wp2;go_loopw [0,3] (fun i o wr=>∃(m:Nat) (l:List UInt8),i=iT m∧o=.string ⟨l.toArray⟩∧m≤u∧Lib.decDigits m++l=Lib.decDigits u∧Bl w wr) (fun i _ _=>(intOf i).toNat)
 case atStart=>exact ⟨u,[],rfl,rfl,Nat.le_refl _,by simp,Below.refl _ _⟩
 case round =>
  obtain ⟨m,l,rfl,rfl,hm,hl,hb⟩:=hrel;have hlen:l.length≤21:=by
   have h1:=congrArg List.length hl;have h2:=Lib.itoa_length_le u (by omega) hu;rw [Lib.itoa_nonneg] at h2;simp at h1;omega
  have hsz:(⟨l.toArray⟩:ByteArray).size=l.length:=by show l.toArray.size=_;simp
  have HL:Hid (Lib.decDigits m++l=Lib.decDigits u):=hl;have HSZ:Hid ((⟨l.toArray⟩:ByteArray).size=l.length):=hsz;have g1:¬9223372036854775807<1+(⟨l.toArray⟩:ByteArray).size:=by rw [hsz];omega
  clear hl hsz;by_cases h9:(9:Int)<m
  · have h1:=hcv wr (m % 10) (by omega);rw [show ((m % 10:Nat):Int)=(m:Int) % 10 by omega] at h1;go_wp2;go_roundw
    case rel=>exact ⟨m / 10,nJ (m % 10) :: l,by simp,by rw [AB],by omega,(wT (by omega) l).trans HL.out,hb.alloc hb.size _⟩
    case measure=>simp [intOf];omega
  · have h1:=hcv wr m (by omega);go_wp2;go_ret;have hfin:(⟨(nJ m :: l).toArray⟩:ByteArray)=eM u:=by
     rw [wS (by omega) l,HL.out];unfold eM;rw [Lib.itoa_nonneg]
    exact ⟨fL hfin,hb.alloc hb.size _⟩
theorem kK (n:Int) (w:World) (h0:-9223372036854775808≤n) (h1:n≤9223372036854775807) :
 Calls Tryz.prog 77 #[iT n] w fun e w'=>e=.returned (.string (eM n))∧Bl w w':=by
 by_cases hp:0≤n
 · obtain ⟨u,rfl⟩:∃u:Nat,n=u:=⟨n.toNat,by omega⟩;exact uJ u w h1
 · by_cases hm:n < -9223372036854775807
   · obtain rfl:n=-9223372036854775808:=by omega
     go_enter Tryz.func77,Tryz.ntmps77
     go_wp2;go_ret;exact ⟨fL z7.symm,Below.refl _ _⟩
   · obtain ⟨u,rfl⟩:∃u:Nat,n=-(u:Int):=⟨(-n).toNat,by omega⟩;have hz:=fi u (by omega) (by omega);have g1:¬9223372036854775807<1+(eM u).size:=by omega
     have hd:-(u:Int)<0:=by omega
     have hu0:¬(u:Int)=0:=by omega
     clear hp;go_enter Tryz.func77,Tryz.ntmps77
     go_wp2_with fail
     refine (uJ u _ (by omega)).mono ?_;rintro e w1 ⟨rfl,hb1⟩;go_wp2;go_ret;exact ⟨fL (z6 u (by omega)).symm,hb1⟩
theorem tT {Q D N s t:ByteArray} {q d n:Int} {L:List ae} {k:Nat} (hO:O=⟨(aT (L.take k)).toArray⟩) (hQ:Q=eM q) (hD:D=eM d) (hN:N=eM n) (hZ:Z=eM (t.size:Int)) (hg:L[k]?=some (s,q,d,t,n)) :
 Value.string (O++s++⟨#[32]⟩++Q++⟨#[32]⟩++D++⟨#[32]⟩++N++⟨#[32]⟩++Z++⟨#[32]⟩++t)=.string ⟨(aT (L.take (k+1))).toArray⟩:=by
 subst hO hQ hD hN hZ;rw [nC hg];congr 1
 apply ByteArray.ext;apply Array.toList_inj.1;simp [fH,eM]
theorem ph {l:List UInt8} (hO:O=⟨l.toArray⟩) (hZ:Z=eM (l.length:Int)):Z++⟨#[32]⟩++O++⟨#[10]⟩=⟨(Lib.itoa (l.length:Int)++32 :: (l++[10])).toArray⟩:=by
 subst hO hZ;apply ByteArray.ext;apply Array.toList_inj.1;simp [eM]
theorem kX (a:Option Addr) (len cap:Nat) (L:List ae) (w:World) (hL:an w a len cap L) :
 Calls Tryz.prog 42 #[.slice a len cap] w fun e w'=>e=.returned (.string (aW L))∧Bl w w':=by
 cases hp:bG L with
 | false =>
  go_enter Tryz.func42,Tryz.ntmps42
  go_wp2_with (go_at_call 76;refine (qT _ _ _ L _ hL).mono ?_;rw [hp];rintro e w1 ⟨rfl,hb1⟩)
  go_ret;exact ⟨fL (ly hp).symm,hb1⟩
 | true =>
  obtain ⟨l1,l12,hall⟩:=cO hp;have hlen:=hL.length;obtain ⟨b,off,rfl,hbb⟩:=hL.form (by omega);have HALL:Hid (∀e ∈ L,cN e=true):=hall;have HLEN:Hid (L.length=len):=hlen;have HL:Hid (an w (some ⟨b,off,none⟩) len cap L):=hL;have hle:len≤12:=by omega
  have hbl:=hL.room;have hbc:=hL.big;unfold maxLen at hbc;have HP:Hid (bG L=true):=hp;clear hall hlen l1 l12;go_enter Tryz.func42,Tryz.ntmps42
  go_wp2_with fail
  refine (qT _ _ _ L _ hL).mono ?_;rw [hp];rintro e w1 ⟨rfl,hb1⟩;clear hL hp;go_wp2;go_loopw [3,4] (fun o i wr=>∃k:Nat,k≤len∧i=iT k∧o=.string ⟨(aT (L.take k)).toArray⟩∧Bl w wr) (fun _ i _=>len - (intOf i).toNat)
  case atStart=>exact ⟨0,Nat.zero_le _,rfl,by simp [aT],hb1⟩
  case round =>
   obtain ⟨k,hk,rfl,rfl,hb⟩:=hrel;obtain ⟨O,hO⟩:∃O:ByteArray,O=⟨(aT (L.take k)).toArray⟩:=⟨_,rfl⟩;have HO:Hid (O=⟨(aT (L.take k)).toArray⟩):=hO;have hOz:O.size≤1920:=by
    rw [hO,jV];have e1:=gD (L.take k) (fun l hl=>HALL.out l (List.mem_of_mem_take hl));have e3:(L.take k).length≤k:=by simp;omega
    omega
   rw [← hO];clear hO;by_cases hlt:k<len
   · obtain ⟨s,q,d,t,n,hg,hlw,g0,g1,g2,g3,g4⟩:=HL.out.ent hb hbb k hlt;have hlB:=HALL.out _ (List.mem_of_getElem? hg);obtain ⟨p1,p2,p3,p4,p5,p6,p7,p8⟩:=dX hlB;simp only at p1 p2 p3 p4 p5 p6 p7 p8;have HG:Hid (L[k]?=some (s,q,d,t,n)):=hg;clear hg hlw hlB;obtain ⟨Q,hQ⟩:∃x,x=eM q:=⟨_,rfl⟩;have CQ:Hid (∀w',Calls Tryz.prog 77 #[iT q] w' fun e w''=>e=.returned (.string Q)∧Bl w' w''):=fun w'=>by rw [hQ];exact kK q w' (by omega) (by omega)
     have EQ:Hid (Q=eM q):=hQ;have zQ:Q.size≤21:=by rw [hQ];exact fi q (by omega) (by omega)
     clear hQ;obtain ⟨D,hD⟩:∃x,x=eM d:=⟨_,rfl⟩;have CD:Hid (∀w',Calls Tryz.prog 77 #[iT d] w' fun e w''=>e=.returned (.string D)∧Bl w' w''):=fun w'=>by rw [hD];exact kK d w' (by omega) (by omega)
     have ED:Hid (D=eM d):=hD;have zD:D.size≤21:=by rw [hD];exact fi d (by omega) (by omega)
     clear hD;obtain ⟨N,hN⟩:∃x,x=eM n:=⟨_,rfl⟩;have CN:Hid (∀w',Calls Tryz.prog 77 #[iT n] w' fun e w''=>e=.returned (.string N)∧Bl w' w''):=fun w'=>by rw [hN];exact kK n w' (by omega) (by omega)
     have EN:Hid (N=eM n):=hN;have zN:N.size≤21:=by rw [hN];exact fi n (by omega) (by omega)
     clear hN;obtain ⟨Z,hZ⟩:∃x,x=eM (t.size:Int):=⟨_,rfl⟩;have CZ:Hid (∀w',Calls Tryz.prog 77 #[iT (t.size:Int)] w' fun e w''=>e=.returned (.string Z)∧Bl w' w''):=fun w'=>by rw [hZ];exact kK (t.size:Int) w' (by omega) (by omega)
     have EZ:Hid (Z=eM (t.size:Int)):=hZ;have zZ:Z.size≤21:=by rw [hZ];exact fi (t.size:Int) (by omega) (by omega)
     clear hZ;have q0:¬9223372036854775807<O.size+s.size:=by omega
     have q1:¬9223372036854775807<O.size+s.size+1:=by omega
     have q2:¬9223372036854775807<O.size+s.size+1+Q.size:=by omega
     have q3:¬9223372036854775807<O.size+s.size+1+Q.size+1:=by omega
     have q4:¬9223372036854775807<O.size+s.size+1+Q.size+1+D.size:=by omega
     have q5:¬9223372036854775807<O.size+s.size+1+Q.size+1+D.size+1:=by omega
     have q6:¬9223372036854775807<O.size+s.size+1+Q.size+1+D.size+1+N.size:=by omega
     have q7:¬9223372036854775807<O.size+s.size+1+Q.size+1+D.size+1+N.size+1:=by omega
     have q8:¬9223372036854775807<O.size+s.size+1+Q.size+1+D.size+1+N.size+1+Z.size:=by omega
     have q9:¬9223372036854775807<O.size+s.size+1+Q.size+1+D.size+1+N.size+1+Z.size+1:=by omega
     have q10:¬9223372036854775807<O.size+s.size+1+Q.size+1+D.size+1+N.size+1+Z.size+1+t.size:=by omega
     obtain ⟨W,hW⟩:=aw (wr.alloc (.cells #[.string s,iT q,iT d,.string t,iT n] 59));obtain ⟨X,hX⟩:=aw wr.heap.size;have x0:W.cell? ⟨X,0,none⟩=some (.string s):=by rw [hW,hX];simp
     have x1:W.cell? ⟨X,1,none⟩=some (iT q):=by rw [hW,hX];simp
     have x2:W.cell? ⟨X,2,none⟩=some (iT d):=by rw [hW,hX];simp
     have x3:W.cell? ⟨X,3,none⟩=some (.string t):=by rw [hW,hX];simp
     have x4:W.cell? ⟨X,4,none⟩=some (iT n):=by rw [hW,hX];simp
     have kW:Bl wr W:=by rw [hW];exact bZ
     have hbW:Bl w W:=hb.trans (kW.mono hb.size);have HMK:Hid (∀w',Bl W w'→(w'.cell? ⟨X,0,none⟩=some (.string s)∧w'.cell? ⟨X,1,none⟩=some (iT q)∧w'.cell? ⟨X,2,none⟩=some (iT d)∧w'.cell? ⟨X,3,none⟩=some (.string t)∧w'.cell? ⟨X,4,none⟩=some (iT n)∧Bl W w')):=fun w' k'=>⟨cell_later k' x0,cell_later k' x1,cell_later k' x2,cell_later k' x3,cell_later k' x4,k'⟩
     go_upto_region 8 with fail
     rw [← hW,← hX];clear hW hX kW g0 g1 g2 g3 g4;have k0:Bl W W.drew:=(Below.refl _ W).drew;go_region_held3 (fun w'=>w'.cell? ⟨X,0,none⟩=some (.string s)∧w'.cell? ⟨X,1,none⟩=some (iT q)∧w'.cell? ⟨X,2,none⟩=some (iT d)∧w'.cell? ⟨X,3,none⟩=some (.string t)∧w'.cell? ⟨X,4,none⟩=some (iT n)∧Bl W w') (first | (with_reducible exact HMK.out _ k0) | (with_reducible exact HMK.out _ k1) | (with_reducible exact HMK.out _ k2) | (with_reducible exact HMK.out _ k3) | (with_reducible exact HMK.out _ k4)) (first
      | (go_at_call 77;(with_reducible refine (CZ.out _).mono ?_);rintro e v4 ⟨rfl,hb4⟩;have k4:Bl W v4:=k3.trans (hb4.mono k3.size))
      | (go_at_call 77;(with_reducible refine (CN.out _).mono ?_);rintro e v3 ⟨rfl,hb3⟩;have k3:Bl W v3:=k2.trans (hb3.mono k2.size))
      | (go_at_call 77;(with_reducible refine (CD.out _).mono ?_);rintro e v2 ⟨rfl,hb2⟩;have k2:Bl W v2:=k1.trans (hb2.mono k1.size))
      | (go_at_call 77;(with_reducible refine (CQ.out _).mono ?_);rintro e v1 ⟨rfl,hb1⟩;have k1:Bl W v1:=k0.trans (hb1.mono k0.size)))
     all_goals
      go_wp2;go_roundw
      case rel=>exact ⟨k+1,by omega,by go_num,tT HO.out EQ.out ED.out EN.out EZ.out HG.out,hbW.trans (k4.mono hbW.size)⟩
      case measure=>simp [intOf];omega
   · have hkn:k=len:=by omega
     have hfull:aT (L.take k)=aT L:=by rw [List.take_of_length_le (by rw [HLEN.out];omega)]
     have HO':Hid (O=⟨(aT L).toArray⟩):=by show O=_;rw [HO.out,hfull]
     have hsz:(O.size:Int)=((aT L).length:Int):=by rw [HO'.out,jV]
     have HSZ:Hid ((O.size:Int)=((aT L).length:Int)):=hsz;clear hfull hsz;obtain ⟨Z,hZ⟩:∃x,x=eM (O.size:Int):=⟨_,rfl⟩;have CZ:Hid (∀w',Calls Tryz.prog 77 #[iT (O.size:Int)] w' fun e w''=>e=.returned (.string Z)∧Bl w' w''):=fun w'=>by rw [hZ];exact kK (O.size:Int) w' (by omega) (by omega)
     have EZ:Hid (Z=eM (O.size:Int)):=hZ;have zZ:Z.size≤21:=by rw [hZ];exact fi (O.size:Int) (by omega) (by omega)
     clear hZ;have q1:¬9223372036854775807<Z.size+1:=by omega
     have q2:¬9223372036854775807<Z.size+1+O.size:=by omega
     have q3:¬9223372036854775807<Z.size+1+O.size+1:=by omega
     go_wp2_with fail
     refine (CZ.out _).mono ?_;rintro e w2 ⟨rfl,hb2⟩;go_wp2;go_ret;exact ⟨fL (by rw [jN HP.out];exact ph HO'.out (by rw [EZ.out,HSZ.out])),hb.trans (hb2.mono hb.size)⟩
end Go.Proofs.YtehiefdphnljaaaGreatDoor
