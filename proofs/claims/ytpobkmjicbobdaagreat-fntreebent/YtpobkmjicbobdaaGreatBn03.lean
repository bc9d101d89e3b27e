/- Walks. -/
import Derived.Test.YtpobkmjicbobdaaGreatBn02
namespace Go.Proofs.YtpobkmjicbobdaaGreat
open Go.RowKit
set_option maxRecDepth 100000
set_option maxHeartbeats 1000000
theorem jp (a:Option Addr) (len cap:Nat) (L:List ac) (w:World) (hL:aj w a len cap L) :
 Calls Tryz.prog 87 #[.slice a len cap] w fun e w'=>e=.returned (.bool (aR L))∧Bl w w':=by
 have HLEN:Hid (L.length=len):=hL.length;have hbl:=hL.room;have hbc:=hL.big;unfold maxLen at hbc;have HL:=b6 hL;clear hL;go_enter Tryz.func87,Tryz.ntmps87
 go_wp2;go_loopw [3] (fun i wr=>∃k:Nat,k≤len∧i=iT k∧Bl w wr∧iN L k) (fun i _=>len - (intOf i).toNat)
 case atStart=>exact ⟨0,Nat.zero_le _,rfl,Below.refl _ _,fun j hj=>absurd hj (Nat.not_lt_zero _)⟩
 case round =>
  obtain ⟨k,hk,rfl,hb,hall⟩:=hrel;have HALL:Hid (iN L k):=hall;clear hall;by_cases hlt:k<len
  · obtain ⟨b,off,rfl,hbb⟩:=HL.out.form (by omega);obtain ⟨s,q,d,t,n,hg,hlw,g0,g1,g2,g3,g4⟩:=HL.out.ent hb hbb k hlt;have HG:Hid (L[k]?=some (s,q,d,t,n)):=hg;have hs:=hlw.1;have ht:=hlw.2.2.2.1;simp only at hs ht;clear hg hlw;cases hv:cX s q d t n with
    | false =>
     have CE:Hid (∀w,Calls Tryz.prog 143 #[.agg #[.string s,iT q,iT d,.string t,iT n]] w fun e w'=>e=.returned (.bool false)∧Bl w w'):=by rw [← hv];exact fun w=>re s t q d n w hs ht
     go_wp2_with fail
     have k0:Bl wr wr.drew:=(Below.refl _ wr).drew;have hbr:b<wr.heap.size:=Nat.lt_of_lt_of_le hbb hb.size;have HMK:Hid (∀w',Bl wr w'→(w'.cell? ⟨b,off+k*5,none⟩=some (.string s)∧w'.cell? ⟨b,off+k*5+1,none⟩=some (iT q)∧w'.cell? ⟨b,off+k*5+2,none⟩=some (iT d)∧w'.cell? ⟨b,off+k*5+3,none⟩=some (.string t)∧w'.cell? ⟨b,off+k*5+4,none⟩=some (iT n)∧b<w'.heap.size)):=fun w' kk=>⟨cell_later kk g0,cell_later kk g1,cell_later kk g2,cell_later kk g3,cell_later kk g4,Nat.lt_of_lt_of_le hbr kk.size⟩
     refine eC HMK k0 fun aa=>?_
     refine aO 0 4 aa ?_;refine aI 4 fun K hK=>?_
     go_simp;refine (CE.out _).mono ?_;rintro e w1 ⟨rfl,b1⟩;have k1:Bl wr w1:=k0.trans (b1.mono k0.size);go_wp2_with fail
     refine hK.out _ _ (HMK.out _ k1) fun aa=>?_
     (try go_frame);refine aO 5 14 aa ?_;refine aI 19 fun K hK=>?_
     go_simp;refine hK.out _ _ (HMK.out _ k1) fun aa=>?_
     (try go_frame);refine aO 20 3 aa ?_;refine dN ?_;go_wp2;go_ret;exact ⟨af (kU (by rw [HLEN.out];exact hlt) (ow HG.out hv)).symm,hb.trans (k1.mono hb.size)⟩
    | true =>
     have CE:Hid (∀w,Calls Tryz.prog 143 #[.agg #[.string s,iT q,iT d,.string t,iT n]] w fun e w'=>e=.returned (.bool true)∧Bl w w'):=by rw [← hv];exact fun w=>re s t q d n w hs ht
     by_cases hk0:k=0
     · subst hk0;simp only [Nat.zero_mul,Nat.add_zero] at g0 g1 g2 g3 g4;go_wp2_with fail
       have k0:Bl wr wr.drew:=(Below.refl _ wr).drew;have hbr:b<wr.heap.size:=Nat.lt_of_lt_of_le hbb hb.size;have HMK:Hid (∀w',Bl wr w'→(w'.cell? ⟨b,off,none⟩=some (.string s)∧w'.cell? ⟨b,off+1,none⟩=some (iT q)∧w'.cell? ⟨b,off+2,none⟩=some (iT d)∧w'.cell? ⟨b,off+3,none⟩=some (.string t)∧w'.cell? ⟨b,off+4,none⟩=some (iT n)∧b<w'.heap.size)):=fun w' kk=>⟨cell_later kk g0,cell_later kk g1,cell_later kk g2,cell_later kk g3,cell_later kk g4,Nat.lt_of_lt_of_le hbr kk.size⟩
       refine eC HMK k0 fun aa=>?_
       refine aO 0 4 aa ?_;refine aI 4 fun K hK=>?_
       go_simp;refine (CE.out _).mono ?_;rintro e w1 ⟨rfl,b1⟩;have k1:Bl wr w1:=k0.trans (b1.mono k0.size);go_wp2_with fail
       refine hK.out _ _ (HMK.out _ k1) fun aa=>?_
       (try go_frame);refine aO 5 14 aa ?_;refine aI 19 fun K hK=>?_
       go_simp;refine hK.out _ _ (HMK.out _ k1) fun aa=>?_
       (try go_frame);refine aO 20 3 aa ?_;refine dN ?_;go_wp2;go_roundw
       case rel=>exact ⟨1,by omega,by go_num,hb.trans (k1.mono hb.size),iy HALL.out (by rw [jx HG.out];exact hv)⟩
       case measure=>simp [intOf];omega
     · obtain ⟨j,rfl⟩:∃j,k=j+1:=⟨k - 1,by omega⟩;obtain ⟨s',q',d',t',n',hg',hlw',g0',g1',g2',g3',g4'⟩:=HL.out.ent hb hbb j (by omega);have HG':Hid (L[j]?=some (s',q',d',t',n')):=hg';clear hg' hlw';obtain ⟨B,hB⟩:=aS (b7 s' q' s q);have CL:Hid (∀w,Calls Tryz.prog 144 #[.agg #[.string s',iT q',iT d',.string t',iT n'],.agg #[.string s,iT q,iT d,.string t,iT n]] w fun e w'=>e=.returned (.bool B)∧Bl w w'):=by rw [hB];exact fun w=>sy s' t' s t q' d' n' q d n w
       have HOK:Hid (jU L (j+1)=B):=by
        show jU L (j+1)=B
        rw [ie HG.out HG'.out,hB,hv];rfl
       clear hB;have h0j:(0:Int)≤(j:Int)+1:=by omega
       have h0j':(0:Int)<(j:Int)+1:=by omega
       have hjl:(j:Int)<(len:Int):=by omega
       have wj:IntKind.i64.wrap (j:Int)=(j:Int):=by rw [IntWalk.i64_left];unfold wrap64;omega
       go_wp2_with fail
       have k0:Bl wr wr.drew:=(Below.refl _ wr).drew;have hbr:b<wr.heap.size:=Nat.lt_of_lt_of_le hbb hb.size;have HMK:Hid (∀w',Bl wr w'→(w'.cell? ⟨b,off+j*5,none⟩=some (.string s')∧w'.cell? ⟨b,off+j*5+1,none⟩=some (iT q')∧w'.cell? ⟨b,off+j*5+2,none⟩=some (iT d')∧w'.cell? ⟨b,off+j*5+3,none⟩=some (.string t')∧w'.cell? ⟨b,off+j*5+4,none⟩=some (iT n')∧w'.cell? ⟨b,off+(j+1)*5,none⟩=some (.string s)∧w'.cell? ⟨b,off+(j+1)*5+1,none⟩=some (iT q)∧w'.cell? ⟨b,off+(j+1)*5+2,none⟩=some (iT d)∧w'.cell? ⟨b,off+(j+1)*5+3,none⟩=some (.string t)∧w'.cell? ⟨b,off+(j+1)*5+4,none⟩=some (iT n)∧b<w'.heap.size)):=fun w' kk=>⟨cell_later kk g0',cell_later kk g1',cell_later kk g2',cell_later kk g3',cell_later kk g4',cell_later kk g0,cell_later kk g1,cell_later kk g2,cell_later kk g3,cell_later kk g4,Nat.lt_of_lt_of_le hbr kk.size⟩
       refine eC HMK k0 fun aa=>?_
       refine aO 0 4 aa ?_;refine aI 4 fun K hK=>?_
       go_simp;refine (CE.out _).mono ?_;rintro e w1 ⟨rfl,b1⟩;have k1:Bl wr w1:=k0.trans (b1.mono k0.size);go_wp2_with fail
       refine hK.out _ _ (HMK.out _ k1) fun aa=>?_
       (try go_frame);refine aO 5 14 aa ?_;refine aI 19 fun K hK=>?_
       go_simp;refine (CL.out _).mono ?_;rintro e w2 ⟨rfl,b2⟩;have k2:Bl wr w2:=k1.trans (b2.mono k1.size);go_wp2_with fail
       refine hK.out _ _ (HMK.out _ k2) fun aa=>?_
       (try go_frame);refine aO 20 3 aa ?_;refine dN ?_;cases B with
       | true =>
        go_wp2;go_roundw
        case rel=>exact ⟨j+1+1,by omega,by go_num,hb.trans (k2.mono hb.size),iy HALL.out HOK.out⟩
        case measure=>simp [intOf];omega
       | false =>
        go_wp2;go_ret;exact ⟨af (kU (by rw [HLEN.out];exact hlt) HOK.out).symm,hb.trans (k2.mono hb.size)⟩
  · go_wp2;go_ret;exact ⟨af (kT HALL.out (by rw [HLEN.out];omega)).symm,hb⟩
end Go.Proofs.YtpobkmjicbobdaaGreat
namespace Go.Proofs.YtpobkmjicbobdaaGreat
open Go.RowKit
set_option maxRecDepth 100000
set_option maxHeartbeats 1000000
theorem ml (a:Option Addr) (len cap:Nat) (L:List ac) (w:World) (hL:aj w a len cap L) :
 Calls Tryz.prog 188 #[.slice a len cap] w fun e w'=>e=.returned (.bool (aR L))∧Bl w w':=by
 have HLEN:Hid (L.length=len):=hL.length;have hbl:=hL.room;have hbc:=hL.big;unfold maxLen at hbc;have HL:=b6 hL;clear hL;go_enter Tryz.func188,Tryz.ntmps188
 go_wp2;go_loopw [7] (fun i wr=>∃k:Nat,k≤len∧i=iT k∧Bl w wr∧iN L k) (fun i _=>len - (intOf i).toNat)
 case atStart=>exact ⟨0,Nat.zero_le _,rfl,Below.refl _ _,fun j hj=>absurd hj (Nat.not_lt_zero _)⟩
 case round =>
  obtain ⟨k,hk,rfl,hb,hall⟩:=hrel;have HALL:Hid (iN L k):=hall;clear hall;by_cases hlt:k<len
  · obtain ⟨b,off,rfl,hbb⟩:=HL.out.form (by omega);obtain ⟨s,q,d,t,n,hg,hlw,g0,g1,g2,g3,g4⟩:=HL.out.ent hb hbb k hlt;have HG:Hid (L[k]?=some (s,q,d,t,n)):=hg;have hs:=hlw.1;simp only at hs;clear hg hlw;cases hv:cX s q d t n with
    | false =>
     have CE:Hid (∀w,Calls Tryz.prog 33 #[.agg #[.string s,iT q,iT d,.string t,iT n]] w fun e w'=>e=.returned (.bool false)∧Bl w w'):=by rw [← hv];exact fun w=>vr s t q d n w hs
     go_wp2_with fail
     obtain ⟨X,hX⟩:=aS wr.heap.size;obtain ⟨W,hW⟩:=aS (wr.alloc (.cells #[.string s,iT q,iT d,.string t,iT n] 50));have x0:W.cell? ⟨X,0,none⟩=some (.string s):=by rw [hW,hX];simp
     have x1:W.cell? ⟨X,1,none⟩=some (iT q):=by rw [hW,hX];simp
     have x2:W.cell? ⟨X,2,none⟩=some (iT d):=by rw [hW,hX];simp
     have x3:W.cell? ⟨X,3,none⟩=some (.string t):=by rw [hW,hX];simp
     have x4:W.cell? ⟨X,4,none⟩=some (iT n):=by rw [hW,hX];simp
     have kW:Bl wr W:=by rw [hW];exact bZ
     have hbr:b<wr.heap.size:=Nat.lt_of_lt_of_le hbb hb.size;have hbW:b<W.heap.size:=Nat.lt_of_lt_of_le hbr kW.size;have HKW:Hid (Bl w W):=hb.trans (kW.mono hb.size);rw [← hW,← hX];clear hW hX kW;have k0:Bl W W.drew:=(Below.refl _ W).drew;have HMK:Hid (∀w',Bl W w'→(w'.cell? ⟨X,0,none⟩=some (.string s)∧w'.cell? ⟨X,1,none⟩=some (iT q)∧w'.cell? ⟨X,2,none⟩=some (iT d)∧w'.cell? ⟨X,3,none⟩=some (.string t)∧w'.cell? ⟨X,4,none⟩=some (iT n)∧X<w'.heap.size)):=fun w' kk=>⟨cell_later kk x0,cell_later kk x1,cell_later kk x2,cell_later kk x3,cell_later kk x4,World.block_lt_of_cell? _ _ (cell_later kk x0)⟩
     refine eC HMK k0 fun aa=>?_
     refine aO 0 1 aa ?_;refine aI 1 fun K hK=>?_
     go_simp;refine (CE.out _).mono ?_;rintro e w1 ⟨rfl,b1⟩;have k1:Bl W w1:=k0.trans (b1.mono k0.size);go_wp2_with fail
     refine hK.out _ _ (HMK.out _ k1) fun aa=>?_
     (try go_frame);refine aO 2 11 aa ?_;refine aI 13 fun K hK=>?_
     go_simp;refine hK.out _ _ (HMK.out _ k1) fun aa=>?_
     (try go_frame);refine aO 14 3 aa ?_;refine dN ?_;go_wp2;go_ret;exact ⟨af (kU (by rw [HLEN.out];exact hlt) (ow HG.out hv)).symm,HKW.out.trans (k1.mono HKW.out.size)⟩
    | true =>
     have CE:Hid (∀w,Calls Tryz.prog 33 #[.agg #[.string s,iT q,iT d,.string t,iT n]] w fun e w'=>e=.returned (.bool true)∧Bl w w'):=by rw [← hv];exact fun w=>vr s t q d n w hs
     by_cases hk0:k=0
     · subst hk0;simp only [Nat.zero_mul,Nat.add_zero] at g0 g1 g2 g3 g4;go_wp2_with fail
       obtain ⟨X,hX⟩:=aS wr.heap.size;obtain ⟨W,hW⟩:=aS (wr.alloc (.cells #[.string s,iT q,iT d,.string t,iT n] 50));have x0:W.cell? ⟨X,0,none⟩=some (.string s):=by rw [hW,hX];simp
       have x1:W.cell? ⟨X,1,none⟩=some (iT q):=by rw [hW,hX];simp
       have x2:W.cell? ⟨X,2,none⟩=some (iT d):=by rw [hW,hX];simp
       have x3:W.cell? ⟨X,3,none⟩=some (.string t):=by rw [hW,hX];simp
       have x4:W.cell? ⟨X,4,none⟩=some (iT n):=by rw [hW,hX];simp
       have kW:Bl wr W:=by rw [hW];exact bZ
       have hbr:b<wr.heap.size:=Nat.lt_of_lt_of_le hbb hb.size;have hbW:b<W.heap.size:=Nat.lt_of_lt_of_le hbr kW.size;have HKW:Hid (Bl w W):=hb.trans (kW.mono hb.size);rw [← hW,← hX];clear hW hX kW;have k0:Bl W W.drew:=(Below.refl _ W).drew;have HMK:Hid (∀w',Bl W w'→(w'.cell? ⟨X,0,none⟩=some (.string s)∧w'.cell? ⟨X,1,none⟩=some (iT q)∧w'.cell? ⟨X,2,none⟩=some (iT d)∧w'.cell? ⟨X,3,none⟩=some (.string t)∧w'.cell? ⟨X,4,none⟩=some (iT n)∧X<w'.heap.size)):=fun w' kk=>⟨cell_later kk x0,cell_later kk x1,cell_later kk x2,cell_later kk x3,cell_later kk x4,World.block_lt_of_cell? _ _ (cell_later kk x0)⟩
       refine eC HMK k0 fun aa=>?_
       refine aO 0 1 aa ?_;refine aI 1 fun K hK=>?_
       go_simp;refine (CE.out _).mono ?_;rintro e w1 ⟨rfl,b1⟩;have k1:Bl W w1:=k0.trans (b1.mono k0.size);go_wp2_with fail
       refine hK.out _ _ (HMK.out _ k1) fun aa=>?_
       (try go_frame);refine aO 2 11 aa ?_;refine aI 13 fun K hK=>?_
       go_simp;refine hK.out _ _ (HMK.out _ k1) fun aa=>?_
       (try go_frame);refine aO 14 3 aa ?_;refine dN ?_;go_wp2;go_roundw
       case rel=>exact ⟨1,by omega,by go_num,HKW.out.trans (k1.mono HKW.out.size),iy HALL.out (by rw [jx HG.out];exact hv)⟩
       case measure=>simp [intOf];omega
     · obtain ⟨j,rfl⟩:∃j,k=j+1:=⟨k - 1,by omega⟩;obtain ⟨s',q',d',t',n',hg',hlw',g0',g1',g2',g3',g4'⟩:=HL.out.ent hb hbb j (by omega);have HG':Hid (L[j]?=some (s',q',d',t',n')):=hg';clear hg' hlw';obtain ⟨B,hB⟩:=aS (b7 s' q' s q);have CL:Hid (∀w,Calls Tryz.prog 203 #[.agg #[.string s',iT q',iT d',.string t',iT n'],.agg #[.string s,iT q,iT d,.string t,iT n]] w fun e w'=>e=.returned (.bool B)∧Bl w w'):=by rw [hB];exact fun w=>oV s' t' s t q' d' n' q d n w
       have HOK:Hid (jU L (j+1)=B):=by
        show jU L (j+1)=B
        rw [ie HG.out HG'.out,hB,hv];rfl
       clear hB;have h0j:(0:Int)≤(j:Int)+1:=by omega
       have h0j':(0:Int)<(j:Int)+1:=by omega
       have hjl:(j:Int)<(len:Int):=by omega
       have wj:IntKind.i64.wrap (j:Int)=(j:Int):=by rw [IntWalk.i64_left];unfold wrap64;omega
       go_wp2_with fail
       obtain ⟨X,hX⟩:=aS wr.heap.size;obtain ⟨W,hW⟩:=aS (wr.alloc (.cells #[.string s,iT q,iT d,.string t,iT n] 50));have x0:W.cell? ⟨X,0,none⟩=some (.string s):=by rw [hW,hX];simp
       have x1:W.cell? ⟨X,1,none⟩=some (iT q):=by rw [hW,hX];simp
       have x2:W.cell? ⟨X,2,none⟩=some (iT d):=by rw [hW,hX];simp
       have x3:W.cell? ⟨X,3,none⟩=some (.string t):=by rw [hW,hX];simp
       have x4:W.cell? ⟨X,4,none⟩=some (iT n):=by rw [hW,hX];simp
       have kW:Bl wr W:=by rw [hW];exact bZ
       have hbr:b<wr.heap.size:=Nat.lt_of_lt_of_le hbb hb.size;have hbW:b<W.heap.size:=Nat.lt_of_lt_of_le hbr kW.size;have y0:=cell_later kW g0';have y1:=cell_later kW g1';have y2:=cell_later kW g2';have y3:=cell_later kW g3';have y4:=cell_later kW g4';have HKW:Hid (Bl w W):=hb.trans (kW.mono hb.size);rw [← hW,← hX];clear hW hX kW;have k0:Bl W W.drew:=(Below.refl _ W).drew;have HMK:Hid (∀w',Bl W w'→(w'.cell? ⟨X,0,none⟩=some (.string s)∧w'.cell? ⟨X,1,none⟩=some (iT q)∧w'.cell? ⟨X,2,none⟩=some (iT d)∧w'.cell? ⟨X,3,none⟩=some (.string t)∧w'.cell? ⟨X,4,none⟩=some (iT n)∧X<w'.heap.size∧w'.cell? ⟨b,off+j*5,none⟩=some (.string s')∧w'.cell? ⟨b,off+j*5+1,none⟩=some (iT q')∧w'.cell? ⟨b,off+j*5+2,none⟩=some (iT d')∧w'.cell? ⟨b,off+j*5+3,none⟩=some (.string t')∧w'.cell? ⟨b,off+j*5+4,none⟩=some (iT n')∧b<w'.heap.size)):=fun w' kk=>⟨cell_later kk x0,cell_later kk x1,cell_later kk x2,cell_later kk x3,cell_later kk x4,World.block_lt_of_cell? _ _ (cell_later kk x0),cell_later kk y0,cell_later kk y1,cell_later kk y2,cell_later kk y3,cell_later kk y4,Nat.lt_of_lt_of_le hbW kk.size⟩
       refine eC HMK k0 fun aa=>?_
       refine aO 0 1 aa ?_;refine aI 1 fun K hK=>?_
       go_simp;refine (CE.out _).mono ?_;rintro e w1 ⟨rfl,b1⟩;have k1:Bl W w1:=k0.trans (b1.mono k0.size);go_wp2_with fail
       refine hK.out _ _ (HMK.out _ k1) fun aa=>?_
       (try go_frame);refine aO 2 11 aa ?_;refine aI 13 fun K hK=>?_
       go_simp;refine (CL.out _).mono ?_;rintro e w2 ⟨rfl,b2⟩;have k2:Bl W w2:=k1.trans (b2.mono k1.size);go_wp2_with fail
       refine hK.out _ _ (HMK.out _ k2) fun aa=>?_
       (try go_frame);refine aO 14 3 aa ?_;refine dN ?_;cases B with
       | true =>
        go_wp2;go_roundw
        case rel=>exact ⟨j+1+1,by omega,by go_num,HKW.out.trans (k2.mono HKW.out.size),iy HALL.out HOK.out⟩
        case measure=>simp [intOf];omega
       | false =>
        go_wp2;go_ret;exact ⟨af (kU (by rw [HLEN.out];exact hlt) HOK.out).symm,HKW.out.trans (k2.mono HKW.out.size)⟩
  · go_wp2;go_ret;exact ⟨af (kT HALL.out (by rw [HLEN.out];omega)).symm,hb⟩
end Go.Proofs.YtpobkmjicbobdaaGreat
namespace Go.Proofs.YtpobkmjicbobdaaGreat
open Go.RowKit
set_option maxRecDepth 100000
set_option maxHeartbeats 1000000
theorem vY (a:Option Addr) (len cap:Nat) (L:List ac) (m:Int) (w:World) (hL:aj w a len cap L) :
 Calls Tryz.prog 145 #[.agg #[.slice a len cap,iT m]] w fun e w'=>e=.returned (.bool (dv L m))∧Bl w w':=by
 have HLEN:Hid (L.length=len):=hL.length;have hbl:=hL.room;have hbc:=hL.big;unfold maxLen at hbc;obtain ⟨X,hX⟩:=aS w.heap.size;obtain ⟨W,hW⟩:=aS (w.alloc (.cells #[.slice a len cap,iT m] 63));have x0:W.cell? ⟨X,0,none⟩=some (.slice a len cap):=by rw [hW,hX];simp
 have x1:W.cell? ⟨X,1,none⟩=some (iT m):=by rw [hW,hX];simp
 have kW:Bl w W:=by rw [hW];exact bZ
 have hLW:aj W a len cap L:=hL.keep kW;have k0:Bl W W.drew:=(Below.refl _ W).drew;have HKW:Hid (Bl w W):=kW;have CM:Hid (∀w',Bl W w'→Calls Tryz.prog 201 #[.slice a len cap] w' fun e w''=>e=.returned (iT ((cZ L:Nat):Int))∧Bl w' w''):=fun w' kk=>lT a len cap L w' (hLW.keep kk)
 have HMK:Hid (∀w',Bl W w'→(w'.cell? ⟨X,0,none⟩=some (.slice a len cap)∧w'.cell? ⟨X,1,none⟩=some (iT m)∧X<w'.heap.size)):=fun w' kk=>⟨cell_later kk x0,cell_later kk x1,World.block_lt_of_cell? _ _ (cell_later kk x0)⟩
 have HLW:Hid (aj W a len cap L):=hLW;clear kW hL hLW;by_cases h1:len<1
 · have h1':¬(1:Int)≤(len:Int):=by omega
   have h1d:decide ((1:Int)≤(len:Int))=false:=decide_eq_false h1';go_enter Tryz.func145,Tryz.ntmps145
   go_wp2_with fail
   rw [← hW,← hX];clear hW hX;refine eC HMK k0 fun aa=>?_
   refine aO 0 13 aa ?_;refine aI 13 fun K hK=>?_
   go_simp;refine hK.out _ _ (HMK.out _ k0) fun aa=>?_
   (try go_frame);refine aO 14 6 aa ?_;refine aI 20 fun K hK=>?_
   go_simp;refine hK.out _ _ (HMK.out _ k0) fun aa=>?_
   (try go_frame);refine aO 21 3 aa ?_;refine dN ?_;go_wp2;go_ret;exact ⟨af (sM (by rw [HLEN.out];exact h1)).symm,HKW.out.trans (k0.mono HKW.out.size)⟩
 by_cases h2:150<len
 · have h1':(1:Int)≤(len:Int):=by omega
   have h2':¬(len:Int)≤150:=by omega
   have h2d:decide ((len:Int)≤150)=false:=decide_eq_false h2';go_enter Tryz.func145,Tryz.ntmps145
   go_wp2_with fail
   rw [← hW,← hX];clear hW hX;refine eC HMK k0 fun aa=>?_
   refine aO 0 13 aa ?_;refine aI 13 fun K hK=>?_
   go_simp;refine hK.out _ _ (HMK.out _ k0) fun aa=>?_
   (try go_frame);refine aO 14 6 aa ?_;refine aI 20 fun K hK=>?_
   go_simp;refine hK.out _ _ (HMK.out _ k0) fun aa=>?_
   (try go_frame);refine aO 21 3 aa ?_;refine dN ?_;go_wp2;go_ret;exact ⟨af (qo (by rw [HLEN.out];exact h2)).symm,HKW.out.trans (k0.mono HKW.out.size)⟩
 have h1':(1:Int)≤(len:Int):=by omega
 have h2':(len:Int)≤150:=by omega
 cases hr:aR L with
 | false =>
  have CR:Hid (∀w',Bl W w'→Calls Tryz.prog 87 #[.slice a len cap] w' fun e w''=>e=.returned (.bool false)∧Bl w' w''):=by rw [← hr];exact fun w' kk=>jp a len cap L w' (HLW.out.keep kk)
  go_enter Tryz.func145,Tryz.ntmps145
  go_wp2_with fail
  rw [← hW,← hX];clear hW hX;refine eC HMK k0 fun aa=>?_
  refine aO 0 13 aa ?_;refine aI 13 fun K hK=>?_
  go_simp;refine (CR.out _ k0).mono ?_;rintro e w1 ⟨rfl,b1⟩;have k1:Bl W w1:=k0.trans (b1.mono k0.size);go_wp2_with fail
  refine hK.out _ _ (HMK.out _ k1) fun aa=>?_
  (try go_frame);refine aO 14 6 aa ?_;refine aI 20 fun K hK=>?_
  go_simp;refine hK.out _ _ (HMK.out _ k1) fun aa=>?_
  (try go_frame);refine aO 21 3 aa ?_;refine dN ?_;go_wp2;go_ret;exact ⟨af (og hr).symm,HKW.out.trans (k1.mono HKW.out.size)⟩
 | true =>
  have CR:Hid (∀w',Bl W w'→Calls Tryz.prog 87 #[.slice a len cap] w' fun e w''=>e=.returned (.bool true)∧Bl w' w''):=by rw [← hr];exact fun w' kk=>jp a len cap L w' (HLW.out.keep kk)
  go_enter Tryz.func145,Tryz.ntmps145
  go_wp2_with fail
  rw [← hW,← hX];clear hW hX;refine eC HMK k0 fun aa=>?_
  refine aO 0 13 aa ?_;refine aI 13 fun K hK=>?_
  go_simp;refine (CR.out _ k0).mono ?_;rintro e w1 ⟨rfl,b1⟩;have k1:Bl W w1:=k0.trans (b1.mono k0.size);go_wp2_with fail
  refine hK.out _ _ (HMK.out _ k1) fun aa=>?_
  (try go_frame);refine aO 14 6 aa ?_;refine aI 20 fun K hK=>?_
  go_simp;refine (CM.out _ k1).mono ?_;rintro e w2 ⟨rfl,b2⟩;have k2:Bl W w2:=k1.trans (b2.mono k1.size);go_wp2_with fail
  refine hK.out _ _ (HMK.out _ k2) fun aa=>?_
  (try go_frame);refine aO 21 3 aa ?_;refine dN ?_;go_wp2;go_ret;refine ⟨af ?_,HKW.out.trans (k2.mono HKW.out.size)⟩;rw [qn (by rw [HLEN.out];omega) (by rw [HLEN.out];omega) hr];first | rfl | (rw [Bool.eq_iff_iff];simp)
theorem xj (a:Option Addr) (len cap:Nat) (L:List ac) (m:Int) (w:World) (hL:aj w a len cap L) :
 Calls Tryz.prog 209 #[.agg #[.slice a len cap,iT m]] w fun e w'=>e=.returned (.bool (dv L m))∧Bl w w':=by
 have HLEN:Hid (L.length=len):=hL.length;have hbl:=hL.room;have hbc:=hL.big;unfold maxLen at hbc;obtain ⟨X,hX⟩:=aS w.heap.size;obtain ⟨W,hW⟩:=aS (w.alloc (.cells #[.slice a len cap,iT m] 63));have x0:W.cell? ⟨X,0,none⟩=some (.slice a len cap):=by rw [hW,hX];simp
 have x1:W.cell? ⟨X,1,none⟩=some (iT m):=by rw [hW,hX];simp
 have kW:Bl w W:=by rw [hW];exact bZ
 have hLW:aj W a len cap L:=hL.keep kW;have k0:Bl W W.drew:=(Below.refl _ W).drew;have HKW:Hid (Bl w W):=kW;have CM:Hid (∀w',Bl W w'→Calls Tryz.prog 219 #[.slice a len cap] w' fun e w''=>e=.returned (iT ((cZ L:Nat):Int))∧Bl w' w''):=fun w' kk=>xr a len cap L w' (hLW.keep kk)
 have HMK:Hid (∀w',Bl W w'→(w'.cell? ⟨X,0,none⟩=some (.slice a len cap)∧w'.cell? ⟨X,1,none⟩=some (iT m)∧X<w'.heap.size)):=fun w' kk=>⟨cell_later kk x0,cell_later kk x1,World.block_lt_of_cell? _ _ (cell_later kk x0)⟩
 have HLW:Hid (aj W a len cap L):=hLW;clear kW hL hLW;by_cases h1:len<1
 · have h1':¬(1:Int)≤(len:Int):=by omega
   have h1d:decide ((1:Int)≤(len:Int))=false:=decide_eq_false h1';go_enter Tryz.func209,Tryz.ntmps209
   go_wp2_with fail
   rw [← hW,← hX];clear hW hX;refine eC HMK k0 fun aa=>?_
   refine aO 0 13 aa ?_;refine aI 13 fun K hK=>?_
   go_simp;refine hK.out _ _ (HMK.out _ k0) fun aa=>?_
   (try go_frame);refine aO 14 6 aa ?_;refine aI 20 fun K hK=>?_
   go_simp;refine hK.out _ _ (HMK.out _ k0) fun aa=>?_
   (try go_frame);refine aO 21 3 aa ?_;refine dN ?_;go_wp2;go_ret;exact ⟨af (sM (by rw [HLEN.out];exact h1)).symm,HKW.out.trans (k0.mono HKW.out.size)⟩
 by_cases h2:150<len
 · have h1':(1:Int)≤(len:Int):=by omega
   have h2':¬(len:Int)≤150:=by omega
   have h2d:decide ((len:Int)≤150)=false:=decide_eq_false h2';go_enter Tryz.func209,Tryz.ntmps209
   go_wp2_with fail
   rw [← hW,← hX];clear hW hX;refine eC HMK k0 fun aa=>?_
   refine aO 0 13 aa ?_;refine aI 13 fun K hK=>?_
   go_simp;refine hK.out _ _ (HMK.out _ k0) fun aa=>?_
   (try go_frame);refine aO 14 6 aa ?_;refine aI 20 fun K hK=>?_
   go_simp;refine hK.out _ _ (HMK.out _ k0) fun aa=>?_
   (try go_frame);refine aO 21 3 aa ?_;refine dN ?_;go_wp2;go_ret;exact ⟨af (qo (by rw [HLEN.out];exact h2)).symm,HKW.out.trans (k0.mono HKW.out.size)⟩
 have h1':(1:Int)≤(len:Int):=by omega
 have h2':(len:Int)≤150:=by omega
 cases hr:aR L with
 | false =>
  have CR:Hid (∀w',Bl W w'→Calls Tryz.prog 188 #[.slice a len cap] w' fun e w''=>e=.returned (.bool false)∧Bl w' w''):=by rw [← hr];exact fun w' kk=>ml a len cap L w' (HLW.out.keep kk)
  go_enter Tryz.func209,Tryz.ntmps209
  go_wp2_with fail
  rw [← hW,← hX];clear hW hX;refine eC HMK k0 fun aa=>?_
  refine aO 0 13 aa ?_;refine aI 13 fun K hK=>?_
  go_simp;refine (CR.out _ k0).mono ?_;rintro e w1 ⟨rfl,b1⟩;have k1:Bl W w1:=k0.trans (b1.mono k0.size);go_wp2_with fail
  refine hK.out _ _ (HMK.out _ k1) fun aa=>?_
  (try go_frame);refine aO 14 6 aa ?_;refine aI 20 fun K hK=>?_
  go_simp;refine hK.out _ _ (HMK.out _ k1) fun aa=>?_
  (try go_frame);refine aO 21 3 aa ?_;refine dN ?_;go_wp2;go_ret;exact ⟨af (og hr).symm,HKW.out.trans (k1.mono HKW.out.size)⟩
 | true =>
  have CR:Hid (∀w',Bl W w'→Calls Tryz.prog 188 #[.slice a len cap] w' fun e w''=>e=.returned (.bool true)∧Bl w' w''):=by rw [← hr];exact fun w' kk=>ml a len cap L w' (HLW.out.keep kk)
  go_enter Tryz.func209,Tryz.ntmps209
  go_wp2_with fail
  rw [← hW,← hX];clear hW hX;refine eC HMK k0 fun aa=>?_
  refine aO 0 13 aa ?_;refine aI 13 fun K hK=>?_
  go_simp;refine (CR.out _ k0).mono ?_;rintro e w1 ⟨rfl,b1⟩;have k1:Bl W w1:=k0.trans (b1.mono k0.size);go_wp2_with fail
  refine hK.out _ _ (HMK.out _ k1) fun aa=>?_
  (try go_frame);refine aO 14 6 aa ?_;refine aI 20 fun K hK=>?_
  go_simp;refine (CM.out _ k1).mono ?_;rintro e w2 ⟨rfl,b2⟩;have k2:Bl W w2:=k1.trans (b2.mono k1.size);go_wp2_with fail
  refine hK.out _ _ (HMK.out _ k2) fun aa=>?_
  (try go_frame);refine aO 21 3 aa ?_;refine dN ?_;go_wp2;go_ret;refine ⟨af ?_,HKW.out.trans (k2.mono HKW.out.size)⟩;rw [qn (by rw [HLEN.out];omega) (by rw [HLEN.out];omega) hr];first | rfl | (rw [Bool.eq_iff_iff];simp)
end Go.Proofs.YtpobkmjicbobdaaGreat
