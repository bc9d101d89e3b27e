/-
  What the document's l4Right and l4Mask answer of every list of entries, by walks of their Go text.
-/
import Derived.Deep.LoopGhost
import Derived.Deep.RegionWith
import Derived.Test.YtgpcinihgofmfaaGreatDoorSt00
import Derived.Test.YtgpcinihgofmfaaGreatDoorSt15
import Derived.Test.YtgpcinihgofmfaaGreatDoorSt21
import Derived.Test.YtgpcinihgofmfaaGreatDoorSt28
import Derived.Test.YtgpcinihgofmfaaGreatDoorSt02
import Derived.Test.YtgpcinihgofmfaaGreatDoorSt16
import Derived.Deep.CutBlock
namespace Go.Proofs.YtgpcinihgofmfaaGreatDoor
open Go.RowKit
set_option maxRecDepth 100000
set_option maxHeartbeats 1000000
theorem lh (a:Option Addr) (len cap:Nat) (L:List ae) (w:World) (hL:au w a len cap L) :
 Calls Tryz.prog 80 #[.slice a len cap] w fun e w'=>e=.returned (.bool (bK L))∧Bl w w':=by
 have HLEN:Hid (L.length=len):=hL.length;have hbl:=hL.room;have hbc:=hL.big;unfold maxLen at hbc;have HL:=ar hL;clear hL;go_enter Tryz.func80,Tryz.ntmps80
 go_wp2;go_loopw [3] (fun i wr=>∃k:Nat,k≤len∧i=iT k∧Bl w wr∧iE L k) (fun i _=>len - (intOf i).toNat)
 case atStart=>exact ⟨0,Nat.zero_le _,rfl,Below.refl _ _,fun j hj=>absurd hj (Nat.not_lt_zero _)⟩
 case round =>
  obtain ⟨k,hk,rfl,hb,hall⟩:=hrel;have HALL:Hid (iE L k):=hall;clear hall;by_cases hlt:k<len
  · obtain ⟨b,off,rfl,hbb⟩:=HL.out.form (by omega);obtain ⟨s,q,d,t,n,hg,hlw,g0,g1,g2,g3,g4⟩:=HL.out.ent hb hbb k hlt;have HG:Hid (L[k]?=some (s,q,d,t,n)):=hg;have hs:=hlw.1;have ht:=hlw.2.2.2.1;simp only at hs ht;clear hg hlw;cases hv:dr s q d t n with
    | false =>
     have CE:Hid (∀w,Calls Tryz.prog 119 #[.agg #[.string s,iT q,iT d,.string t,iT n]] w fun e w'=>e=.returned (.bool false)∧Bl w w'):=by rw [← hv];exact fun w=>mi s t q d n w hs ht
     go_wp2_with fail
     have k0:Bl wr wr.drew:=(Below.refl _ wr).drew;have hbr:b<wr.heap.size:=Nat.lt_of_lt_of_le hbb hb.size;have HMK:Hid (∀w',Bl wr w'→(w'.cell? ⟨b,off+k*5,none⟩=some (.string s)∧w'.cell? ⟨b,off+k*5+1,none⟩=some (iT q)∧w'.cell? ⟨b,off+k*5+2,none⟩=some (iT d)∧w'.cell? ⟨b,off+k*5+3,none⟩=some (.string t)∧w'.cell? ⟨b,off+k*5+4,none⟩=some (iT n)∧b<w'.heap.size)):=fun w' kk=>⟨cell_later kk g0,cell_later kk g1,cell_later kk g2,cell_later kk g3,cell_later kk g4,Nat.lt_of_lt_of_le hbr kk.size⟩
     refine dI HMK k0 fun aa=>?_
     refine aM 0 4 aa ?_;refine aR 4 fun K hK=>?_
     go_simp;refine (CE.out _).mono ?_;rintro e w1 ⟨rfl,b1⟩;have k1:Bl wr w1:=k0.trans (b1.mono k0.size);go_wp2_with fail
     refine hK.out _ _ (HMK.out _ k1) fun aa=>?_
     (try go_frame);refine aM 5 14 aa ?_;refine aR 19 fun K hK=>?_
     go_simp;refine hK.out _ _ (HMK.out _ k1) fun aa=>?_
     (try go_frame);refine aM 20 3 aa ?_;refine dN ?_;go_wp2;go_ret;exact ⟨aq (kC (by rw [HLEN.out];exact hlt) (mS HG.out hv)).symm,hb.trans (k1.mono hb.size)⟩
    | true =>
     have CE:Hid (∀w,Calls Tryz.prog 119 #[.agg #[.string s,iT q,iT d,.string t,iT n]] w fun e w'=>e=.returned (.bool true)∧Bl w w'):=by rw [← hv];exact fun w=>mi s t q d n w hs ht
     by_cases hk0:k=0
     · subst hk0;simp only [Nat.zero_mul,Nat.add_zero] at g0 g1 g2 g3 g4;go_wp2_with fail
       have k0:Bl wr wr.drew:=(Below.refl _ wr).drew;have hbr:b<wr.heap.size:=Nat.lt_of_lt_of_le hbb hb.size;have HMK:Hid (∀w',Bl wr w'→(w'.cell? ⟨b,off,none⟩=some (.string s)∧w'.cell? ⟨b,off+1,none⟩=some (iT q)∧w'.cell? ⟨b,off+2,none⟩=some (iT d)∧w'.cell? ⟨b,off+3,none⟩=some (.string t)∧w'.cell? ⟨b,off+4,none⟩=some (iT n)∧b<w'.heap.size)):=fun w' kk=>⟨cell_later kk g0,cell_later kk g1,cell_later kk g2,cell_later kk g3,cell_later kk g4,Nat.lt_of_lt_of_le hbr kk.size⟩
       refine dI HMK k0 fun aa=>?_
       refine aM 0 4 aa ?_;refine aR 4 fun K hK=>?_
       go_simp;refine (CE.out _).mono ?_;rintro e w1 ⟨rfl,b1⟩;have k1:Bl wr w1:=k0.trans (b1.mono k0.size);go_wp2_with fail
       refine hK.out _ _ (HMK.out _ k1) fun aa=>?_
       (try go_frame);refine aM 5 14 aa ?_;refine aR 19 fun K hK=>?_
       go_simp;refine hK.out _ _ (HMK.out _ k1) fun aa=>?_
       (try go_frame);refine aM 20 3 aa ?_;refine dN ?_;go_wp2;go_roundw
       case rel=>exact ⟨1,by omega,by go_num,hb.trans (k1.mono hb.size),ie HALL.out (by rw [oT HG.out];exact hv)⟩
       case measure=>simp [intOf];omega
     · obtain ⟨j,rfl⟩:∃j,k=j+1:=⟨k - 1,by omega⟩;obtain ⟨s',q',d',t',n',hg',hlw',g0',g1',g2',g3',g4'⟩:=HL.out.ent hb hbb j (by omega);have HG':Hid (L[j]?=some (s',q',d',t',n')):=hg';clear hg' hlw';obtain ⟨B,hB⟩:=aw (b6 s' q' s q);have CL:Hid (∀w,Calls Tryz.prog 120 #[.agg #[.string s',iT q',iT d',.string t',iT n'],.agg #[.string s,iT q,iT d,.string t,iT n]] w fun e w'=>e=.returned (.bool B)∧Bl w w'):=by rw [hB];exact fun w=>qQ s' t' s t q' d' n' q d n w
       have HOK:Hid (jT L (j+1)=B):=by
        show jT L (j+1)=B
        rw [lr HG.out HG'.out,hB,hv];rfl
       clear hB;have h0j:(0:Int)≤(j:Int)+1:=by omega
       have h0j':(0:Int)<(j:Int)+1:=by omega
       have hjl:(j:Int)<(len:Int):=by omega
       have wj:IntKind.i64.wrap (j:Int)=(j:Int):=by rw [IntWalk.i64_left];unfold wrap64;omega
       go_wp2_with fail
       have k0:Bl wr wr.drew:=(Below.refl _ wr).drew;have hbr:b<wr.heap.size:=Nat.lt_of_lt_of_le hbb hb.size;have HMK:Hid (∀w',Bl wr w'→(w'.cell? ⟨b,off+j*5,none⟩=some (.string s')∧w'.cell? ⟨b,off+j*5+1,none⟩=some (iT q')∧w'.cell? ⟨b,off+j*5+2,none⟩=some (iT d')∧w'.cell? ⟨b,off+j*5+3,none⟩=some (.string t')∧w'.cell? ⟨b,off+j*5+4,none⟩=some (iT n')∧w'.cell? ⟨b,off+(j+1)*5,none⟩=some (.string s)∧w'.cell? ⟨b,off+(j+1)*5+1,none⟩=some (iT q)∧w'.cell? ⟨b,off+(j+1)*5+2,none⟩=some (iT d)∧w'.cell? ⟨b,off+(j+1)*5+3,none⟩=some (.string t)∧w'.cell? ⟨b,off+(j+1)*5+4,none⟩=some (iT n)∧b<w'.heap.size)):=fun w' kk=>⟨cell_later kk g0',cell_later kk g1',cell_later kk g2',cell_later kk g3',cell_later kk g4',cell_later kk g0,cell_later kk g1,cell_later kk g2,cell_later kk g3,cell_later kk g4,Nat.lt_of_lt_of_le hbr kk.size⟩
       refine dI HMK k0 fun aa=>?_
       refine aM 0 4 aa ?_;refine aR 4 fun K hK=>?_
       go_simp;refine (CE.out _).mono ?_;rintro e w1 ⟨rfl,b1⟩;have k1:Bl wr w1:=k0.trans (b1.mono k0.size);go_wp2_with fail
       refine hK.out _ _ (HMK.out _ k1) fun aa=>?_
       (try go_frame);refine aM 5 14 aa ?_;refine aR 19 fun K hK=>?_
       go_simp;refine (CL.out _).mono ?_;rintro e w2 ⟨rfl,b2⟩;have k2:Bl wr w2:=k1.trans (b2.mono k1.size);go_wp2_with fail
       refine hK.out _ _ (HMK.out _ k2) fun aa=>?_
       (try go_frame);refine aM 20 3 aa ?_;refine dN ?_;cases B with
       | true =>
        go_wp2;go_roundw
        case rel=>exact ⟨j+1+1,by omega,by go_num,hb.trans (k2.mono hb.size),ie HALL.out HOK.out⟩
        case measure=>simp [intOf];omega
       | false =>
        go_wp2;go_ret;exact ⟨aq (kC (by rw [HLEN.out];exact hlt) HOK.out).symm,hb.trans (k2.mono hb.size)⟩
  · go_wp2;go_ret;exact ⟨aq (qY HALL.out (by rw [HLEN.out];omega)).symm,hb⟩
end Go.Proofs.YtgpcinihgofmfaaGreatDoor
namespace Go.Proofs.YtgpcinihgofmfaaGreatDoor
open Go.RowKit
set_option maxRecDepth 100000
set_option maxHeartbeats 1000000
theorem lC (a:Option Addr) (len cap:Nat) (L:List ae) (w:World) (hL:au w a len cap L) :
 Calls Tryz.prog 102 #[.slice a len cap] w fun e w'=>e=.returned (.bool (bK L))∧Bl w w':=by
 have HLEN:Hid (L.length=len):=hL.length;have hbl:=hL.room;have hbc:=hL.big;unfold maxLen at hbc;have HL:=ar hL;clear hL;go_enter Tryz.func102,Tryz.ntmps102
 go_wp2;go_loopw [7] (fun i wr=>∃k:Nat,k≤len∧i=iT k∧Bl w wr∧iE L k) (fun i _=>len - (intOf i).toNat)
 case atStart=>exact ⟨0,Nat.zero_le _,rfl,Below.refl _ _,fun j hj=>absurd hj (Nat.not_lt_zero _)⟩
 case round =>
  obtain ⟨k,hk,rfl,hb,hall⟩:=hrel;have HALL:Hid (iE L k):=hall;clear hall;by_cases hlt:k<len
  · obtain ⟨b,off,rfl,hbb⟩:=HL.out.form (by omega);obtain ⟨s,q,d,t,n,hg,hlw,g0,g1,g2,g3,g4⟩:=HL.out.ent hb hbb k hlt;have HG:Hid (L[k]?=some (s,q,d,t,n)):=hg;have hs:=hlw.1;simp only at hs;clear hg hlw;cases hv:dr s q d t n with
    | false =>
     have CE:Hid (∀w,Calls Tryz.prog 134 #[.agg #[.string s,iT q,iT d,.string t,iT n]] w fun e w'=>e=.returned (.bool false)∧Bl w w'):=by rw [← hv];exact fun w=>ms s t q d n w hs
     go_wp2_with fail
     obtain ⟨X,hX⟩:=aw wr.heap.size;obtain ⟨W,hW⟩:=aw (wr.alloc (.cells #[.string s,iT q,iT d,.string t,iT n] 123));have x0:W.cell? ⟨X,0,none⟩=some (.string s):=by rw [hW,hX];simp
     have x1:W.cell? ⟨X,1,none⟩=some (iT q):=by rw [hW,hX];simp
     have x2:W.cell? ⟨X,2,none⟩=some (iT d):=by rw [hW,hX];simp
     have x3:W.cell? ⟨X,3,none⟩=some (.string t):=by rw [hW,hX];simp
     have x4:W.cell? ⟨X,4,none⟩=some (iT n):=by rw [hW,hX];simp
     have kW:Bl wr W:=by rw [hW];exact bZ
     have hbr:b<wr.heap.size:=Nat.lt_of_lt_of_le hbb hb.size;have hbW:b<W.heap.size:=Nat.lt_of_lt_of_le hbr kW.size;have HKW:Hid (Bl w W):=hb.trans (kW.mono hb.size);rw [← hW,← hX];clear hW hX kW;have k0:Bl W W.drew:=(Below.refl _ W).drew;have HMK:Hid (∀w',Bl W w'→(w'.cell? ⟨X,0,none⟩=some (.string s)∧w'.cell? ⟨X,1,none⟩=some (iT q)∧w'.cell? ⟨X,2,none⟩=some (iT d)∧w'.cell? ⟨X,3,none⟩=some (.string t)∧w'.cell? ⟨X,4,none⟩=some (iT n)∧X<w'.heap.size)):=fun w' kk=>⟨cell_later kk x0,cell_later kk x1,cell_later kk x2,cell_later kk x3,cell_later kk x4,World.block_lt_of_cell? _ _ (cell_later kk x0)⟩
     refine dI HMK k0 fun aa=>?_
     refine aM 0 1 aa ?_;refine aR 1 fun K hK=>?_
     go_simp;refine (CE.out _).mono ?_;rintro e w1 ⟨rfl,b1⟩;have k1:Bl W w1:=k0.trans (b1.mono k0.size);go_wp2_with fail
     refine hK.out _ _ (HMK.out _ k1) fun aa=>?_
     (try go_frame);refine aM 2 11 aa ?_;refine aR 13 fun K hK=>?_
     go_simp;refine hK.out _ _ (HMK.out _ k1) fun aa=>?_
     (try go_frame);refine aM 14 3 aa ?_;refine dN ?_;go_wp2;go_ret;exact ⟨aq (kC (by rw [HLEN.out];exact hlt) (mS HG.out hv)).symm,HKW.out.trans (k1.mono HKW.out.size)⟩
    | true =>
     have CE:Hid (∀w,Calls Tryz.prog 134 #[.agg #[.string s,iT q,iT d,.string t,iT n]] w fun e w'=>e=.returned (.bool true)∧Bl w w'):=by rw [← hv];exact fun w=>ms s t q d n w hs
     by_cases hk0:k=0
     · subst hk0;simp only [Nat.zero_mul,Nat.add_zero] at g0 g1 g2 g3 g4;go_wp2_with fail
       obtain ⟨X,hX⟩:=aw wr.heap.size;obtain ⟨W,hW⟩:=aw (wr.alloc (.cells #[.string s,iT q,iT d,.string t,iT n] 123));have x0:W.cell? ⟨X,0,none⟩=some (.string s):=by rw [hW,hX];simp
       have x1:W.cell? ⟨X,1,none⟩=some (iT q):=by rw [hW,hX];simp
       have x2:W.cell? ⟨X,2,none⟩=some (iT d):=by rw [hW,hX];simp
       have x3:W.cell? ⟨X,3,none⟩=some (.string t):=by rw [hW,hX];simp
       have x4:W.cell? ⟨X,4,none⟩=some (iT n):=by rw [hW,hX];simp
       have kW:Bl wr W:=by rw [hW];exact bZ
       have hbr:b<wr.heap.size:=Nat.lt_of_lt_of_le hbb hb.size;have hbW:b<W.heap.size:=Nat.lt_of_lt_of_le hbr kW.size;have HKW:Hid (Bl w W):=hb.trans (kW.mono hb.size);rw [← hW,← hX];clear hW hX kW;have k0:Bl W W.drew:=(Below.refl _ W).drew;have HMK:Hid (∀w',Bl W w'→(w'.cell? ⟨X,0,none⟩=some (.string s)∧w'.cell? ⟨X,1,none⟩=some (iT q)∧w'.cell? ⟨X,2,none⟩=some (iT d)∧w'.cell? ⟨X,3,none⟩=some (.string t)∧w'.cell? ⟨X,4,none⟩=some (iT n)∧X<w'.heap.size)):=fun w' kk=>⟨cell_later kk x0,cell_later kk x1,cell_later kk x2,cell_later kk x3,cell_later kk x4,World.block_lt_of_cell? _ _ (cell_later kk x0)⟩
       refine dI HMK k0 fun aa=>?_
       refine aM 0 1 aa ?_;refine aR 1 fun K hK=>?_
       go_simp;refine (CE.out _).mono ?_;rintro e w1 ⟨rfl,b1⟩;have k1:Bl W w1:=k0.trans (b1.mono k0.size);go_wp2_with fail
       refine hK.out _ _ (HMK.out _ k1) fun aa=>?_
       (try go_frame);refine aM 2 11 aa ?_;refine aR 13 fun K hK=>?_
       go_simp;refine hK.out _ _ (HMK.out _ k1) fun aa=>?_
       (try go_frame);refine aM 14 3 aa ?_;refine dN ?_;go_wp2;go_roundw
       case rel=>exact ⟨1,by omega,by go_num,HKW.out.trans (k1.mono HKW.out.size),ie HALL.out (by rw [oT HG.out];exact hv)⟩
       case measure=>simp [intOf];omega
     · obtain ⟨j,rfl⟩:∃j,k=j+1:=⟨k - 1,by omega⟩;obtain ⟨s',q',d',t',n',hg',hlw',g0',g1',g2',g3',g4'⟩:=HL.out.ent hb hbb j (by omega);have HG':Hid (L[j]?=some (s',q',d',t',n')):=hg';clear hg' hlw';obtain ⟨B,hB⟩:=aw (b6 s' q' s q);have CL:Hid (∀w,Calls Tryz.prog 135 #[.agg #[.string s',iT q',iT d',.string t',iT n'],.agg #[.string s,iT q,iT d,.string t,iT n]] w fun e w'=>e=.returned (.bool B)∧Bl w w'):=by rw [hB];exact fun w=>m8 s' t' s t q' d' n' q d n w
       have HOK:Hid (jT L (j+1)=B):=by
        show jT L (j+1)=B
        rw [lr HG.out HG'.out,hB,hv];rfl
       clear hB;have h0j:(0:Int)≤(j:Int)+1:=by omega
       have h0j':(0:Int)<(j:Int)+1:=by omega
       have hjl:(j:Int)<(len:Int):=by omega
       have wj:IntKind.i64.wrap (j:Int)=(j:Int):=by rw [IntWalk.i64_left];unfold wrap64;omega
       go_wp2_with fail
       obtain ⟨X,hX⟩:=aw wr.heap.size;obtain ⟨W,hW⟩:=aw (wr.alloc (.cells #[.string s,iT q,iT d,.string t,iT n] 123));have x0:W.cell? ⟨X,0,none⟩=some (.string s):=by rw [hW,hX];simp
       have x1:W.cell? ⟨X,1,none⟩=some (iT q):=by rw [hW,hX];simp
       have x2:W.cell? ⟨X,2,none⟩=some (iT d):=by rw [hW,hX];simp
       have x3:W.cell? ⟨X,3,none⟩=some (.string t):=by rw [hW,hX];simp
       have x4:W.cell? ⟨X,4,none⟩=some (iT n):=by rw [hW,hX];simp
       have kW:Bl wr W:=by rw [hW];exact bZ
       have hbr:b<wr.heap.size:=Nat.lt_of_lt_of_le hbb hb.size;have hbW:b<W.heap.size:=Nat.lt_of_lt_of_le hbr kW.size;have y0:=cell_later kW g0';have y1:=cell_later kW g1';have y2:=cell_later kW g2';have y3:=cell_later kW g3';have y4:=cell_later kW g4';have HKW:Hid (Bl w W):=hb.trans (kW.mono hb.size);rw [← hW,← hX];clear hW hX kW;have k0:Bl W W.drew:=(Below.refl _ W).drew;have HMK:Hid (∀w',Bl W w'→(w'.cell? ⟨X,0,none⟩=some (.string s)∧w'.cell? ⟨X,1,none⟩=some (iT q)∧w'.cell? ⟨X,2,none⟩=some (iT d)∧w'.cell? ⟨X,3,none⟩=some (.string t)∧w'.cell? ⟨X,4,none⟩=some (iT n)∧X<w'.heap.size∧w'.cell? ⟨b,off+j*5,none⟩=some (.string s')∧w'.cell? ⟨b,off+j*5+1,none⟩=some (iT q')∧w'.cell? ⟨b,off+j*5+2,none⟩=some (iT d')∧w'.cell? ⟨b,off+j*5+3,none⟩=some (.string t')∧w'.cell? ⟨b,off+j*5+4,none⟩=some (iT n')∧b<w'.heap.size)):=fun w' kk=>⟨cell_later kk x0,cell_later kk x1,cell_later kk x2,cell_later kk x3,cell_later kk x4,World.block_lt_of_cell? _ _ (cell_later kk x0),cell_later kk y0,cell_later kk y1,cell_later kk y2,cell_later kk y3,cell_later kk y4,Nat.lt_of_lt_of_le hbW kk.size⟩
       refine dI HMK k0 fun aa=>?_
       refine aM 0 1 aa ?_;refine aR 1 fun K hK=>?_
       go_simp;refine (CE.out _).mono ?_;rintro e w1 ⟨rfl,b1⟩;have k1:Bl W w1:=k0.trans (b1.mono k0.size);go_wp2_with fail
       refine hK.out _ _ (HMK.out _ k1) fun aa=>?_
       (try go_frame);refine aM 2 11 aa ?_;refine aR 13 fun K hK=>?_
       go_simp;refine (CL.out _).mono ?_;rintro e w2 ⟨rfl,b2⟩;have k2:Bl W w2:=k1.trans (b2.mono k1.size);go_wp2_with fail
       refine hK.out _ _ (HMK.out _ k2) fun aa=>?_
       (try go_frame);refine aM 14 3 aa ?_;refine dN ?_;cases B with
       | true =>
        go_wp2;go_roundw
        case rel=>exact ⟨j+1+1,by omega,by go_num,HKW.out.trans (k2.mono HKW.out.size),ie HALL.out HOK.out⟩
        case measure=>simp [intOf];omega
       | false =>
        go_wp2;go_ret;exact ⟨aq (kC (by rw [HLEN.out];exact hlt) HOK.out).symm,HKW.out.trans (k2.mono HKW.out.size)⟩
  · go_wp2;go_ret;exact ⟨aq (qY HALL.out (by rw [HLEN.out];omega)).symm,hb⟩
end Go.Proofs.YtgpcinihgofmfaaGreatDoor
namespace Go.Proofs.YtgpcinihgofmfaaGreatDoor
open Go.RowKit
set_option maxRecDepth 100000
set_option maxHeartbeats 1000000
theorem uN (a:Option Addr) (len cap:Nat) (L:List ae) (m:Int) (w:World) (hL:au w a len cap L) :
 Calls Tryz.prog 121 #[.agg #[.slice a len cap,iT m]] w fun e w'=>e=.returned (.bool (dY L m))∧Bl w w':=by
 have HLEN:Hid (L.length=len):=hL.length;have hbl:=hL.room;have hbc:=hL.big;unfold maxLen at hbc;obtain ⟨X,hX⟩:=aw w.heap.size;obtain ⟨W,hW⟩:=aw (w.alloc (.cells #[.slice a len cap,iT m] 122));have x0:W.cell? ⟨X,0,none⟩=some (.slice a len cap):=by rw [hW,hX];simp
 have x1:W.cell? ⟨X,1,none⟩=some (iT m):=by rw [hW,hX];simp
 have kW:Bl w W:=by rw [hW];exact bZ
 have hLW:au W a len cap L:=hL.keep kW;have k0:Bl W W.drew:=(Below.refl _ W).drew;have HKW:Hid (Bl w W):=kW;have CM:Hid (∀w',Bl W w'→Calls Tryz.prog 156 #[.slice a len cap] w' fun e w''=>e=.returned (iT ((fb L:Nat):Int))∧Bl w' w''):=fun w' kk=>uQ a len cap L w' (hLW.keep kk)
 have HMK:Hid (∀w',Bl W w'→(w'.cell? ⟨X,0,none⟩=some (.slice a len cap)∧w'.cell? ⟨X,1,none⟩=some (iT m)∧X<w'.heap.size)):=fun w' kk=>⟨cell_later kk x0,cell_later kk x1,World.block_lt_of_cell? _ _ (cell_later kk x0)⟩
 have HLW:Hid (au W a len cap L):=hLW;clear kW hL hLW;by_cases h1:len<1
 · have h1':¬(1:Int)≤(len:Int):=by omega
   have h1d:decide ((1:Int)≤(len:Int))=false:=decide_eq_false h1';go_enter Tryz.func121,Tryz.ntmps121
   go_wp2_with fail
   rw [← hW,← hX];clear hW hX;refine dI HMK k0 fun aa=>?_
   refine aM 0 13 aa ?_;refine aR 13 fun K hK=>?_
   go_simp;refine hK.out _ _ (HMK.out _ k0) fun aa=>?_
   (try go_frame);refine aM 14 6 aa ?_;refine aR 20 fun K hK=>?_
   go_simp;refine hK.out _ _ (HMK.out _ k0) fun aa=>?_
   (try go_frame);refine aM 21 3 aa ?_;refine dN ?_;go_wp2;go_ret;exact ⟨aq (qW (by rw [HLEN.out];exact h1)).symm,HKW.out.trans (k0.mono HKW.out.size)⟩
 by_cases h2:150<len
 · have h1':(1:Int)≤(len:Int):=by omega
   have h2':¬(len:Int)≤150:=by omega
   have h2d:decide ((len:Int)≤150)=false:=decide_eq_false h2';go_enter Tryz.func121,Tryz.ntmps121
   go_wp2_with fail
   rw [← hW,← hX];clear hW hX;refine dI HMK k0 fun aa=>?_
   refine aM 0 13 aa ?_;refine aR 13 fun K hK=>?_
   go_simp;refine hK.out _ _ (HMK.out _ k0) fun aa=>?_
   (try go_frame);refine aM 14 6 aa ?_;refine aR 20 fun K hK=>?_
   go_simp;refine hK.out _ _ (HMK.out _ k0) fun aa=>?_
   (try go_frame);refine aM 21 3 aa ?_;refine dN ?_;go_wp2;go_ret;exact ⟨aq (oP (by rw [HLEN.out];exact h2)).symm,HKW.out.trans (k0.mono HKW.out.size)⟩
 have h1':(1:Int)≤(len:Int):=by omega
 have h2':(len:Int)≤150:=by omega
 cases hr:bK L with
 | false =>
  have CR:Hid (∀w',Bl W w'→Calls Tryz.prog 80 #[.slice a len cap] w' fun e w''=>e=.returned (.bool false)∧Bl w' w''):=by rw [← hr];exact fun w' kk=>lh a len cap L w' (HLW.out.keep kk)
  go_enter Tryz.func121,Tryz.ntmps121
  go_wp2_with fail
  rw [← hW,← hX];clear hW hX;refine dI HMK k0 fun aa=>?_
  refine aM 0 13 aa ?_;refine aR 13 fun K hK=>?_
  go_simp;refine (CR.out _ k0).mono ?_;rintro e w1 ⟨rfl,b1⟩;have k1:Bl W w1:=k0.trans (b1.mono k0.size);go_wp2_with fail
  refine hK.out _ _ (HMK.out _ k1) fun aa=>?_
  (try go_frame);refine aM 14 6 aa ?_;refine aR 20 fun K hK=>?_
  go_simp;refine hK.out _ _ (HMK.out _ k1) fun aa=>?_
  (try go_frame);refine aM 21 3 aa ?_;refine dN ?_;go_wp2;go_ret;exact ⟨aq (mO hr).symm,HKW.out.trans (k1.mono HKW.out.size)⟩
 | true =>
  have CR:Hid (∀w',Bl W w'→Calls Tryz.prog 80 #[.slice a len cap] w' fun e w''=>e=.returned (.bool true)∧Bl w' w''):=by rw [← hr];exact fun w' kk=>lh a len cap L w' (HLW.out.keep kk)
  go_enter Tryz.func121,Tryz.ntmps121
  go_wp2_with fail
  rw [← hW,← hX];clear hW hX;refine dI HMK k0 fun aa=>?_
  refine aM 0 13 aa ?_;refine aR 13 fun K hK=>?_
  go_simp;refine (CR.out _ k0).mono ?_;rintro e w1 ⟨rfl,b1⟩;have k1:Bl W w1:=k0.trans (b1.mono k0.size);go_wp2_with fail
  refine hK.out _ _ (HMK.out _ k1) fun aa=>?_
  (try go_frame);refine aM 14 6 aa ?_;refine aR 20 fun K hK=>?_
  go_simp;refine (CM.out _ k1).mono ?_;rintro e w2 ⟨rfl,b2⟩;have k2:Bl W w2:=k1.trans (b2.mono k1.size);go_wp2_with fail
  refine hK.out _ _ (HMK.out _ k2) fun aa=>?_
  (try go_frame);refine aM 21 3 aa ?_;refine dN ?_;go_wp2;go_ret;refine ⟨aq ?_,HKW.out.trans (k2.mono HKW.out.size)⟩;rw [oO (by rw [HLEN.out];omega) (by rw [HLEN.out];omega) hr];first | rfl | (rw [Bool.eq_iff_iff];simp)
theorem vC (a:Option Addr) (len cap:Nat) (L:List ae) (m:Int) (w:World) (hL:au w a len cap L) :
 Calls Tryz.prog 164 #[.agg #[.slice a len cap,iT m]] w fun e w'=>e=.returned (.bool (dY L m))∧Bl w w':=by
 have HLEN:Hid (L.length=len):=hL.length;have hbl:=hL.room;have hbc:=hL.big;unfold maxLen at hbc;obtain ⟨X,hX⟩:=aw w.heap.size;obtain ⟨W,hW⟩:=aw (w.alloc (.cells #[.slice a len cap,iT m] 122));have x0:W.cell? ⟨X,0,none⟩=some (.slice a len cap):=by rw [hW,hX];simp
 have x1:W.cell? ⟨X,1,none⟩=some (iT m):=by rw [hW,hX];simp
 have kW:Bl w W:=by rw [hW];exact bZ
 have hLW:au W a len cap L:=hL.keep kW;have k0:Bl W W.drew:=(Below.refl _ W).drew;have HKW:Hid (Bl w W):=kW;have CM:Hid (∀w',Bl W w'→Calls Tryz.prog 185 #[.slice a len cap] w' fun e w''=>e=.returned (iT ((fb L:Nat):Int))∧Bl w' w''):=fun w' kk=>vG a len cap L w' (hLW.keep kk)
 have HMK:Hid (∀w',Bl W w'→(w'.cell? ⟨X,0,none⟩=some (.slice a len cap)∧w'.cell? ⟨X,1,none⟩=some (iT m)∧X<w'.heap.size)):=fun w' kk=>⟨cell_later kk x0,cell_later kk x1,World.block_lt_of_cell? _ _ (cell_later kk x0)⟩
 have HLW:Hid (au W a len cap L):=hLW;clear kW hL hLW;by_cases h1:len<1
 · have h1':¬(1:Int)≤(len:Int):=by omega
   have h1d:decide ((1:Int)≤(len:Int))=false:=decide_eq_false h1';go_enter Tryz.func164,Tryz.ntmps164
   go_wp2_with fail
   rw [← hW,← hX];clear hW hX;refine dI HMK k0 fun aa=>?_
   refine aM 0 13 aa ?_;refine aR 13 fun K hK=>?_
   go_simp;refine hK.out _ _ (HMK.out _ k0) fun aa=>?_
   (try go_frame);refine aM 14 6 aa ?_;refine aR 20 fun K hK=>?_
   go_simp;refine hK.out _ _ (HMK.out _ k0) fun aa=>?_
   (try go_frame);refine aM 21 3 aa ?_;refine dN ?_;go_wp2;go_ret;exact ⟨aq (qW (by rw [HLEN.out];exact h1)).symm,HKW.out.trans (k0.mono HKW.out.size)⟩
 by_cases h2:150<len
 · have h1':(1:Int)≤(len:Int):=by omega
   have h2':¬(len:Int)≤150:=by omega
   have h2d:decide ((len:Int)≤150)=false:=decide_eq_false h2';go_enter Tryz.func164,Tryz.ntmps164
   go_wp2_with fail
   rw [← hW,← hX];clear hW hX;refine dI HMK k0 fun aa=>?_
   refine aM 0 13 aa ?_;refine aR 13 fun K hK=>?_
   go_simp;refine hK.out _ _ (HMK.out _ k0) fun aa=>?_
   (try go_frame);refine aM 14 6 aa ?_;refine aR 20 fun K hK=>?_
   go_simp;refine hK.out _ _ (HMK.out _ k0) fun aa=>?_
   (try go_frame);refine aM 21 3 aa ?_;refine dN ?_;go_wp2;go_ret;exact ⟨aq (oP (by rw [HLEN.out];exact h2)).symm,HKW.out.trans (k0.mono HKW.out.size)⟩
 have h1':(1:Int)≤(len:Int):=by omega
 have h2':(len:Int)≤150:=by omega
 cases hr:bK L with
 | false =>
  have CR:Hid (∀w',Bl W w'→Calls Tryz.prog 102 #[.slice a len cap] w' fun e w''=>e=.returned (.bool false)∧Bl w' w''):=by rw [← hr];exact fun w' kk=>lC a len cap L w' (HLW.out.keep kk)
  go_enter Tryz.func164,Tryz.ntmps164
  go_wp2_with fail
  rw [← hW,← hX];clear hW hX;refine dI HMK k0 fun aa=>?_
  refine aM 0 13 aa ?_;refine aR 13 fun K hK=>?_
  go_simp;refine (CR.out _ k0).mono ?_;rintro e w1 ⟨rfl,b1⟩;have k1:Bl W w1:=k0.trans (b1.mono k0.size);go_wp2_with fail
  refine hK.out _ _ (HMK.out _ k1) fun aa=>?_
  (try go_frame);refine aM 14 6 aa ?_;refine aR 20 fun K hK=>?_
  go_simp;refine hK.out _ _ (HMK.out _ k1) fun aa=>?_
  (try go_frame);refine aM 21 3 aa ?_;refine dN ?_;go_wp2;go_ret;exact ⟨aq (mO hr).symm,HKW.out.trans (k1.mono HKW.out.size)⟩
 | true =>
  have CR:Hid (∀w',Bl W w'→Calls Tryz.prog 102 #[.slice a len cap] w' fun e w''=>e=.returned (.bool true)∧Bl w' w''):=by rw [← hr];exact fun w' kk=>lC a len cap L w' (HLW.out.keep kk)
  go_enter Tryz.func164,Tryz.ntmps164
  go_wp2_with fail
  rw [← hW,← hX];clear hW hX;refine dI HMK k0 fun aa=>?_
  refine aM 0 13 aa ?_;refine aR 13 fun K hK=>?_
  go_simp;refine (CR.out _ k0).mono ?_;rintro e w1 ⟨rfl,b1⟩;have k1:Bl W w1:=k0.trans (b1.mono k0.size);go_wp2_with fail
  refine hK.out _ _ (HMK.out _ k1) fun aa=>?_
  (try go_frame);refine aM 14 6 aa ?_;refine aR 20 fun K hK=>?_
  go_simp;refine (CM.out _ k1).mono ?_;rintro e w2 ⟨rfl,b2⟩;have k2:Bl W w2:=k1.trans (b2.mono k1.size);go_wp2_with fail
  refine hK.out _ _ (HMK.out _ k2) fun aa=>?_
  (try go_frame);refine aM 21 3 aa ?_;refine dN ?_;go_wp2;go_ret;refine ⟨aq ?_,HKW.out.trans (k2.mono HKW.out.size)⟩;rw [oO (by rw [HLEN.out];omega) (by rw [HLEN.out];omega) hr];first | rfl | (rw [Bool.eq_iff_iff];simp)
end Go.Proofs.YtgpcinihgofmfaaGreatDoor

namespace Go.Proofs.YtgpcinihgofmfaaGreatDoor
open Go.RowKit
set_option maxRecDepth 100000
set_option maxHeartbeats 3200000
theorem mH (a:Option Addr) (n c:Nat) (M:List ae) (q:Int) (w:World) (h:au w a n c M) :
 Calls Tryz.prog 81 #[.slice a n c,iT q] w fun e w'=>e=.returned (.bool (cj M q))∧w'=w:=by
 have hr:=h.room;have hbg:=h.big;unfold maxLen at hbg;have HLN:Hid (M.length=n):=h.length;have H:=ar h;clear h;go_enter Tryz.func81,Tryz.ntmps81
 go_wp2;go_loopw [5] (fun i wr=>∃k:Nat,k≤n∧i=iT k∧wr=w∧cj (M.take k) q=true) (fun i _=>n - (intOf i).toNat)
 case atStart=>exact ⟨0,Nat.zero_le _,rfl,rfl,by simp [cj]⟩
 case round =>
  obtain ⟨k,hk,rfl,rfl,hw⟩:=hrel;have HW:Hid (cj (M.take k) q=true):=hw;clear hw;by_cases hlt:k<n
  · have hltI:(k:Int)<(n:Int):=by omega
    obtain ⟨b,off,rfl,hbb⟩:=H.out.form (by omega);obtain ⟨s,qe,d,t,nn,hg,_,g0,g1,g2,g3,g4⟩:=H.out.ent (Below.refl _ wr) hbb k hlt;have HG:Hid (M[k]?=some (s,qe,d,t,nn)):=hg;clear hg;by_cases hq:q<qe
    · go_wp2;go_ret;exact ⟨aq (uA HG.out (by simp only;omega)).symm,rfl⟩
    · go_wp2;go_roundw
      case rel=>exact ⟨k+1,by omega,by go_num,by first | rfl | trivial,qE HW.out HG.out (by simp only;omega)⟩
      case measure=>simp [intOf];omega
  · go_wp2;go_ret;have hall:=HW.out;rw [List.take_of_length_le (by rw [HLN.out];omega)] at hall;exact ⟨aq hall.symm,rfl⟩
theorem vB (lo:Nat) (a:Option Addr) (n c:Nat) (S:List Int) (q:Int) (w:World) (h:bC lo w a n c S) :
 Calls Tryz.prog 101 #[.slice a n c,iT q] w fun e w'=>e=.returned (.bool (cV S q))∧w'=w:=by
 have hr:=h.room;have hbg:=h.big;unfold maxLen at hbg;have HLN:Hid (S.length=n):=h.length;have H:=ar h;clear h;by_cases hm:4<n
 · go_enter Tryz.func101,Tryz.ntmps101
   go_wp2;go_ret;exact ⟨aq (sI (by rw [HLN.out];exact hm)).symm,rfl⟩
 go_enter Tryz.func101,Tryz.ntmps101
 go_wp2;go_loopw [12] (fun i wr=>∃k:Nat,k≤n∧i=iT k∧wr=w∧iD S q k) (fun i _=>n - (intOf i).toNat)
 case atStart=>exact ⟨0,Nat.zero_le _,rfl,rfl,fun j hj=>absurd hj (Nat.not_lt_zero _)⟩
 case round =>
  obtain ⟨k,hk,rfl,rfl,hw⟩:=hrel;have HW:Hid (iD S q k):=hw;clear hw;by_cases hlt:k<n
  · have hltI:(k:Int)<(n:Int):=by omega
    have hkl:k<S.length:=by rw [HLN.out];exact hlt
    have HKL:Hid (k<S.length):=hkl;clear hkl;obtain ⟨b,off,rfl,hbb⟩:=H.out.form (by omega);obtain ⟨s,hg,_,g0⟩:=H.out.num (Below.refl _ wr) k hlt;have HG:Hid (S[k]?=some s):=hg;clear hg;by_cases hs0:s<0
    · go_wp2;go_ret;exact ⟨aq (gH HKL.out (qU HG.out hs0)).symm,rfl⟩
    by_cases hsq:q<s
    · go_wp2;go_ret;exact ⟨aq (gH HKL.out (oN HG.out hsq)).symm,rfl⟩
    by_cases hk0:k=0
    · subst hk0;simp only [Nat.add_zero] at g0;have HN:Hid (cJ S q 0=true):=by show cJ S q 0=true;rw [oK HG.out,decide_eq_true (show 0≤s by omega),decide_eq_true (show s≤q by omega)];rfl
      go_wp2;go_roundw
      case rel=>exact ⟨0+1,by omega,by go_num,by first | rfl | trivial,ib HW.out HN.out⟩
      case measure=>simp [intOf];omega
    · have hkp:(0:Int)<(k:Int):=by omega
      have hj1:(0:Int)≤(k:Int) - 1:=by omega
      have hj2:(k:Int) - 1<(n:Int):=by omega
      have hjt:((k:Int) - 1).toNat=k - 1:=by omega
      have wj:IntKind.i64.wrap ((k:Int) - 1)=(k:Int) - 1:=by rw [IntWalk.i64_left];unfold wrap64;omega
      obtain ⟨p,hp,_,e0⟩:=H.out.num (Below.refl _ wr) (k - 1) (by omega);obtain ⟨j,rfl⟩:∃j,k=j+1:=⟨k - 1,by omega⟩;simp only [Nat.add_sub_cancel] at hp e0 hjt;have HSU:=oM (q:=q) HG.out hp;have HSU':Hid (cJ S q (j+1)=(decide (0≤s) && (decide (s≤q) && decide (p<s)))):=HSU;clear hp HSU;by_cases hps:p<s
      · have HN:Hid (cJ S q (j+1)=true):=by show cJ S q (j+1)=true;rw [HSU'.out,decide_eq_true (show 0≤s by omega),decide_eq_true (show s≤q by omega),decide_eq_true hps];rfl
        go_wp2;go_roundw
        case rel=>exact ⟨j+1+1,by omega,by go_num,by first | rfl | trivial,ib HW.out HN.out⟩
        case measure=>simp [intOf];omega
      · have HN:Hid (cJ S q (j+1)=false):=by show cJ S q (j+1)=false;rw [HSU'.out,decide_eq_false hps];simp
        go_wp2;go_ret;exact ⟨aq (gH HKL.out HN.out).symm,rfl⟩
  · go_wp2;go_ret;refine ⟨aq ?_,rfl⟩;have hkn:k=S.length:=by rw [HLN.out];omega
    have hw:=HW.out;rw [hkn] at hw;rw [oJ hw,decide_eq_true (by rw [HLN.out];omega)]
theorem zT (m:Int) (b off n c:Nat) (L:List ae) (w:World) (h:au w (some ⟨b,off,none⟩) n c L) (e:ae) (h0:L[0]?=some e) :
 Calls Tryz.prog 123 #[.agg #[sO b off n c,iT m]] w fun r w'=>r=.returned (.string e.1)∧Bl w w':=by
 have hl:=(List.getElem?_eq_some_iff.1 h0).1;rw [h.length] at hl;have hnI:(0:Int)<(n:Int):=by omega
 have kW:Bl w (w.alloc (.cells #[sO b off n c,iT m] 122)):=bZ;have hbb:=(h.lies _ rfl hl).1;simp only at hbb;obtain ⟨s,q,d,t,nn,hg,_,g0,_⟩:=h.ent (Below.refl _ w) hbb 0 hl;rw [h0] at hg;cases hg;simp only [Nat.zero_mul,Nat.add_zero] at g0;clear h h0;go_enter Tryz.func123,Tryz.ntmps123
 go_wp2;go_ret;exact ⟨rfl,kW⟩
theorem xQ (m:Int) (b off n c:Nat) (L:List ae) (w:World) (h:au w (some ⟨b,off,none⟩) n c L) (e:ae) (h0:L[n - 1]?=some e) (hn:1≤n) :
 Calls Tryz.prog 122 #[.agg #[sO b off n c,iT m]] w fun r w'=>r=.returned (.string e.1)∧Bl w w':=by
 have hr:=h.room;have hbg:=h.big;unfold maxLen at hbg;have hj1:(0:Int)≤(n:Int) - 1:=by omega
 have hj2:(n:Int) - 1<(n:Int):=by omega
 have hjt:((n:Int) - 1).toNat=n - 1:=by omega
 have wj:IntKind.i64.wrap ((n:Int) - 1)=(n:Int) - 1:=by rw [IntWalk.i64_left];unfold wrap64;omega
 have kW:Bl w (w.alloc (.cells #[sO b off n c,iT m] 122)):=bZ;have hbb:=(h.lies _ rfl (by omega)).1;simp only at hbb;obtain ⟨s,q,d,t,nn,hg,_,g0,_⟩:=h.ent (Below.refl _ w) hbb (n - 1) (by omega);rw [h0] at hg;cases hg;clear h h0;go_enter Tryz.func122,Tryz.ntmps122
 go_wp2;go_ret;exact ⟨rfl,kW⟩
theorem vD (m:Int) (a:Option Addr) (n c:Nat) (L:List ae) (w:World) (h:au w a n c L) :
 Calls Tryz.prog 138 #[.agg #[.slice a n c,iT m]] w fun r w'=>r=.returned (.bool (!dY L m))∧Bl w w':=by
 have kW:Bl w (w.alloc (.cells #[.slice a n c,iT m] 122)):=bZ;go_enter Tryz.func138,Tryz.ntmps138
 go_wp2_with fail
 refine (vC _ _ _ L m _ (h.keep kW)).mono ?_;rintro e w1 ⟨rfl,hb1⟩;go_wp2;go_ret;exact ⟨rfl,kW.trans (hb1.mono kW.size)⟩
theorem uM (q:Int) (lo:Nat) (v0 v1:Value) (a:Option Addr) (n c:Nat) (S:List Int) (w:World) (h:bC lo w a n c S) :
 Calls Tryz.prog 82 #[.agg #[iT q,v0,v1,.slice a n c]] w fun e w'=>e=.returned (.bool (cV S q))∧Bl w w':=by
 have hr:=h.room;have hbg:=h.big;unfold maxLen at hbg;have HLN:Hid (S.length=n):=h.length;obtain ⟨X,hX⟩:=aw w.heap.size;obtain ⟨W,hW⟩:=aw (w.alloc (.cells #[iT q,v0,v1,.slice a n c] 35));have kW:Bl w W:=by rw [hW];exact bZ
 have x0:W.cell? ⟨X,0,none⟩=some (iT q):=by rw [hW,hX];simp
 have x3:W.cell? ⟨X,3,none⟩=some (.slice a n c):=by rw [hW,hX];simp
 have H:Hid (bC lo W a n c S):=h.keep kW;have KW:Hid (Bl w W):=kW;have zx:=World.block_lt_of_cell? _ _ x0;simp only at zx;have HP:Hid (∀e w',(e=Ending.returned (.bool (cV S q))∧Bl W w')→e=Ending.returned (.bool (cV S q))∧Bl w w'):=fun e w' hh=>⟨hh.1,KW.out.trans (hh.2.mono KW.out.size)⟩
 clear h kW;go_enter Tryz.func82,Tryz.ntmps82
 go_upto_block 0 with fail
 rw [← hX,← hW];clear hX hW;go_wp2;go_loopw [3] (fun i wr=>∃k:Nat,k≤n∧i=iT k∧Bl W wr∧iD S q k) (fun i _=>n - (intOf i).toNat)
 case atStart=>exact ⟨0,Nat.zero_le _,rfl,Below.refl _ _,fun j hj=>absurd hj (Nat.not_lt_zero _)⟩
 case round =>
  obtain ⟨k,hk,rfl,hb,hw⟩:=hrel;have HW:Hid (iD S q k):=hw;have HB:Hid (Bl W wr):=hb;have y0:=cell_later hb x0;have y3:=cell_later hb x3;have zy:=World.block_lt_of_cell? _ _ y0;simp only at zy;clear hw;by_cases hlt:k<n
  · have hltI:(k:Int)<(n:Int):=by omega
    have hkl:k<S.length:=by rw [HLN.out];exact hlt
    have HKL:Hid (k<S.length):=hkl;clear hkl;obtain ⟨b,off,rfl,hbb⟩:=H.out.form (by omega);obtain ⟨s,hg,_,g0⟩:=H.out.num hb k hlt;have HG:Hid (S[k]?=some s):=hg;have zb:=Nat.lt_of_lt_of_le hbb hb.size;have k0:Bl wr wr.drew:=(Below.refl _ wr).drew;have HMK:Hid (∀w',Bl wr w'→(w'.cell? ⟨X,0,none⟩=some (iT q)∧w'.cell? ⟨X,3,none⟩=some (sO b off n c)∧X<w'.heap.size∧w'.cell? ⟨b,off+k,none⟩=some (iT s)∧b<w'.heap.size)):=fun w' kk=>⟨cell_later kk y0,cell_later kk y3,Nat.lt_of_lt_of_le zy kk.size,cell_later kk g0,Nat.lt_of_lt_of_le zb kk.size⟩
    have KZ:Hid (Bl W wr.drew):=HB.out.trans (k0.mono HB.out.size);clear hg hb;by_cases hs0:s<0
    · have hs0d:decide (s<0)=true:=decide_eq_true hs0;go_wp2_with fail
      refine dI HMK k0 fun aa=>?_
      refine aM 0 34 aa ?_;refine dN ?_;clear k0 HMK aa;go_wp2;go_ret;exact HP.out _ _ ⟨aq (gH HKL.out (qU HG.out hs0)).symm,KZ.out⟩
    have hs0d:decide (s<0)=false:=decide_eq_false hs0;by_cases hsq:q<s
    · have hsqd:decide (q<s)=true:=decide_eq_true hsq;go_wp2_with fail
      refine dI HMK k0 fun aa=>?_
      refine aM 0 34 aa ?_;refine dN ?_;clear k0 HMK aa;go_wp2;go_ret;exact HP.out _ _ ⟨aq (gH HKL.out (oN HG.out hsq)).symm,KZ.out⟩
    have hsqd:decide (q<s)=false:=decide_eq_false hsq;by_cases hk0:k=0
    · subst hk0;simp only [Nat.add_zero] at g0 HMK;have HN:Hid (cJ S q 0=true):=by show cJ S q 0=true;rw [oK HG.out,decide_eq_true (show 0≤s by omega),decide_eq_true (show s≤q by omega)];rfl
      go_wp2_with fail
      refine dI HMK k0 fun aa=>?_
      refine aM 0 34 aa ?_;refine dN ?_;clear k0 HMK aa;go_wp2;go_roundw
      case rel=>exact ⟨0+1,by omega,by go_num,KZ.out,ib HW.out HN.out⟩
      case measure=>simp [intOf];omega
    · have hkp:(0:Int)<(k:Int):=by omega
      have hkpN:0<k:=by omega
      have hkpM:decide (0<k)=true:=decide_eq_true hkpN;have hj1:(0:Int)≤(k:Int) - 1:=by omega
      have hj2:(k:Int) - 1<(n:Int):=by omega
      have hj3:(1:Int)≤(k:Int):=by omega
      have hjt:((k:Int) - 1).toNat=k - 1:=by omega
      have wj:IntKind.i64.wrap ((k:Int) - 1)=(k:Int) - 1:=by rw [IntWalk.i64_left];unfold wrap64;omega
      obtain ⟨p,hp,_,e0⟩:=H.out.num HB.out (k - 1) (by omega);have HM2:Hid (∀w',Bl wr w'→(w'.cell? ⟨X,0,none⟩=some (iT q)∧w'.cell? ⟨X,3,none⟩=some (sO b off n c)∧X<w'.heap.size∧w'.cell? ⟨b,off+k,none⟩=some (iT s)∧b<w'.heap.size∧w'.cell? ⟨b,off+(k - 1),none⟩=some (iT p))):=fun w' kk=>⟨cell_later kk y0,cell_later kk y3,Nat.lt_of_lt_of_le zy kk.size,cell_later kk g0,Nat.lt_of_lt_of_le zb kk.size,cell_later kk e0⟩
      have HSU:Hid (cJ S q k=(decide (0≤s) && (decide (s≤q) && decide (p<s)))):=by
       obtain ⟨j,rfl⟩:∃j,k=j+1:=⟨k - 1,by omega⟩;exact oM HG.out hp
      clear hp HMK;by_cases hps:p<s
      · have HN:Hid (cJ S q k=true):=by show cJ S q k=true;rw [HSU.out,decide_eq_true (show 0≤s by omega),decide_eq_true (show s≤q by omega),decide_eq_true hps];rfl
        have hps':¬s≤p:=by omega
        have hpsd:decide (s≤p)=false:=decide_eq_false hps';go_wp2_with fail
        refine dI HM2 k0 fun aa=>?_
        refine aM 0 34 aa ?_;refine dN ?_;clear k0 HM2 aa;go_wp2;go_roundw
        case rel=>exact ⟨k+1,by omega,by go_num,KZ.out,ib HW.out HN.out⟩
        case measure=>simp [intOf];omega
      · have HN:Hid (cJ S q k=false):=by show cJ S q k=false;rw [HSU.out,decide_eq_false hps];simp
        have hps':s≤p:=by omega
        have hpsd:decide (s≤p)=true:=decide_eq_true hps';go_wp2_with fail
        refine dI HM2 k0 fun aa=>?_
        refine aM 0 34 aa ?_;refine dN ?_;clear k0 HM2 aa;go_wp2;go_ret;exact HP.out _ _ ⟨aq (gH HKL.out HN.out).symm,KZ.out⟩
  · have hltI:¬(k:Int)<(n:Int):=by omega
    have hres:cV S q=decide ((n:Int)≤4):=by
     have hkn:k=S.length:=by rw [HLN.out];omega
     have hw:=HW.out;rw [hkn] at hw;rw [oJ hw,HLN.out];by_cases h4:n≤4
     · rw [decide_eq_true h4,decide_eq_true (by omega)]
     · rw [decide_eq_false h4,decide_eq_false (by omega)]
    have HRS:Hid (cV S q=decide ((n:Int)≤4)):=hres;clear hres;go_wp2;go_ret;exact HP.out _ _ ⟨aq HRS.out.symm,HB.out⟩
end Go.Proofs.YtgpcinihgofmfaaGreatDoor
