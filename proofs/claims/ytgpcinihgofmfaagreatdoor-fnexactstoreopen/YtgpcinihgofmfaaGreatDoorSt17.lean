/-
  What the document's l9Dec writes of every number: its numeral; by a walk of its Go text.
-/
import Derived.Lib.SlBytesRow
import Derived.Lib.ItoaMem
import Derived.Lib.ItoaLen
import Derived.Test.YtgpcinihgofmfaaGreatDoorSt00
import Derived.Test.YtgpcinihgofmfaaGreatDoorSt16
import Derived.Test.YtgpcinihgofmfaaGreatDoorSt12
import Derived.Shelf.Strconv.Itoa3
import Derived.Test.YtgpcinihgofmfaaGreatDoorProg
import Derived.Lib.AppendIntMem
import Derived.Test.YtgpcinihgofmfaaGreatDoorSt14
namespace Go.Proofs.YtgpcinihgofmfaaGreatDoor
open Go.RowKit
set_option maxRecDepth 100000
set_option maxHeartbeats 2000000
def eN (n:Int):ByteArray:=⟨(Lib.itoa n).toArray⟩
theorem fk (n:Int) (h0:-9223372036854775808≤n) (h1:n≤9223372036854775807):(eN n).size≤21:=by
 have:=Lib.itoa_length_le n h0 h1;show (Lib.itoa n).toArray.size≤21
 simpa using this
theorem zq:eN (-9223372036854775808)=⟨#[45,57,50,50,51,51,55,50,48,51,54,56,53,52,55,55,53,56,48,56]⟩:=by
 unfold eN;simp [Lib.itoa,Lib.decDigits]
theorem zm (u:Nat) (h:1≤u):eN (-(u:Int))=⟨#[45]⟩++eN u:=by
 unfold eN;rw [Lib.itoa_neg u h,Lib.itoa_nonneg];apply ByteArray.ext;apply Array.toList_inj.1;simp
def nH (d:Nat):UInt8:=UInt8.ofNat (48+d)
theorem zl (d:Nat) (h:d<10):((nH d).toNat:Int)=48+d:=by
 unfold nH;simp;omega
theorem fN {a b:ByteArray} (h:a=b):Ending.returned (.string a)=.returned (.string b):=by rw [h]
theorem wE {m:Nat} (h:¬m<10) (l:List UInt8):Lib.decDigits (m / 10)++(nH (m % 10) :: l)=Lib.decDigits m++l:=by
 unfold nH;rw [Lib.decDigits.eq_1 m,dif_neg h];simp
theorem wD {m:Nat} (h:m<10) (l:List UInt8):(nH m :: l)=Lib.decDigits m++l:=by
 unfold nH;rw [Lib.decDigits_one h];rfl
theorem Ac (c:UInt8) (l:List UInt8):(⟨#[c]⟩:ByteArray)++⟨l.toArray⟩=⟨(c :: l).toArray⟩:=by
 apply ByteArray.ext;apply Array.toList_inj.1;simp
theorem ut (u:Nat) (w:World) (hu:(u:Int)≤9223372036854775807) :
 Calls Tryz.prog 133 #[iT u] w fun e w'=>e=.returned (.string (eN u))∧Bl w w':=by
 have hcv:∀(w:World) (d:Nat),d<10→(convert 138 9 (sL (w.heap.size) 1 1)).run Tryz.prog (w.alloc (.cells #[.int .u8 (48+(d:Int))] 5))=.ok (.string ⟨#[nH d]⟩) (w.alloc (.cells #[.int .u8 (48+(d:Int))] 5)):=by
  intro w d hd;exact Lib.run_convert_whole _ 138 5 9 Tryz.underlying138 Tryz.underlying5 Tryz.underlying9 w.heap.size 0 ⟨#[nH d]⟩ (fun i hi=>by
   have hi0:i=0:=by
    have:i<1:=hi;omega
   subst hi0;show _=some (Value.int .u8 ((nH d).toNat:Int))
   rw [zl d hd];simp) 1
 go_enter Tryz.func133,Tryz.ntmps133
 go_wp2;go_loopw [0,3] (fun i o wr=>∃(m:Nat) (l:List UInt8),i=iT m∧o=.string ⟨l.toArray⟩∧m≤u∧Lib.decDigits m++l=Lib.decDigits u∧Bl w wr) (fun i _ _=>(intOf i).toNat)
 case atStart=>exact ⟨u,[],rfl,rfl,Nat.le_refl _,by simp,Below.refl _ _⟩
 case round =>
  obtain ⟨m,l,rfl,rfl,hm,hl,hb⟩:=hrel;have hlen:l.length≤21:=by
   have h1:=congrArg List.length hl;have h2:=Lib.itoa_length_le u (by omega) hu;rw [Lib.itoa_nonneg] at h2;simp at h1;omega
  have hsz:(⟨l.toArray⟩:ByteArray).size=l.length:=by show l.toArray.size=_;simp
  have HL:Hid (Lib.decDigits m++l=Lib.decDigits u):=hl;have HSZ:Hid ((⟨l.toArray⟩:ByteArray).size=l.length):=hsz;have g1:¬9223372036854775807<1+(⟨l.toArray⟩:ByteArray).size:=by rw [hsz];omega
  clear hl hsz;by_cases h9:(9:Int)<m
  · have h1:=hcv wr (m % 10) (by omega);rw [show ((m % 10:Nat):Int)=(m:Int) % 10 by omega] at h1;go_wp2;go_roundw
    case rel=>exact ⟨m / 10,nH (m % 10) :: l,by simp,by rw [Ac],by omega,(wE (by omega) l).trans HL.out,hb.alloc hb.size _⟩
    case measure=>simp [intOf];omega
  · have h1:=hcv wr m (by omega);go_wp2;go_ret;have hfin:(⟨(nH m :: l).toArray⟩:ByteArray)=eN u:=by
     rw [wD (by omega) l,HL.out];unfold eN;rw [Lib.itoa_nonneg]
    exact ⟨fN hfin,hb.alloc hb.size _⟩
theorem kU (n:Int) (w:World) (h0:-9223372036854775808≤n) (h1:n≤9223372036854775807) :
 Calls Tryz.prog 133 #[iT n] w fun e w'=>e=.returned (.string (eN n))∧Bl w w':=by
 by_cases hp:0≤n
 · obtain ⟨u,rfl⟩:∃u:Nat,n=u:=⟨n.toNat,by omega⟩;exact ut u w h1
 · by_cases hm:n < -9223372036854775807
   · obtain rfl:n=-9223372036854775808:=by omega
     go_enter Tryz.func133,Tryz.ntmps133
     go_wp2;go_ret;exact ⟨fN zq.symm,Below.refl _ _⟩
   · obtain ⟨u,rfl⟩:∃u:Nat,n=-(u:Int):=⟨(-n).toNat,by omega⟩;have hz:=fk u (by omega) (by omega);have g1:¬9223372036854775807<1+(eN u).size:=by omega
     have hd:-(u:Int)<0:=by omega
     have hu0:¬(u:Int)=0:=by omega
     clear hp;go_enter Tryz.func133,Tryz.ntmps133
     go_wp2_with fail
     refine (ut u _ (by omega)).mono ?_;rintro e w1 ⟨rfl,hb1⟩;go_wp2;go_ret;exact ⟨fN (zm u (by omega)).symm,hb1⟩
end Go.Proofs.YtgpcinihgofmfaaGreatDoor

namespace Go.Proofs.YtgpcinihgofmfaaGreatDoor
open Go.RowKit
set_option maxRecDepth 100000
set_option maxHeartbeats 2000000
theorem tG {O Q D N Z s t:ByteArray} {q d n:Int} {L:List ae} {k:Nat} (hO:O=⟨(aU (L.take k)).toArray⟩) (hQ:Q=eN q) (hD:D=eN d) (hN:N=eN n) (hZ:Z=eN (t.size:Int)) (hg:L[k]?=some (s,q,d,t,n)) :
 Value.string (O++s++⟨#[32]⟩++Q++⟨#[32]⟩++D++⟨#[32]⟩++N++⟨#[32]⟩++Z++⟨#[32]⟩++t)=.string ⟨(aU (L.take (k+1))).toArray⟩:=by
 subst hO hQ hD hN hZ;rw [nz hg];congr 1
 apply ByteArray.ext;apply Array.toList_inj.1;simp [fI,eN]
theorem pl {O Z:ByteArray} {l:List UInt8} (hO:O=⟨l.toArray⟩) (hZ:Z=eN (l.length:Int)):Z++⟨#[32]⟩++O++⟨#[10]⟩=⟨(Lib.itoa (l.length:Int)++32 :: (l++[10])).toArray⟩:=by
 subst hO hZ;apply ByteArray.ext;apply Array.toList_inj.1;simp [eN]
theorem oH (a:Option Addr) (len cap:Nat) (L:List ae) (w:World) (hL:au w a len cap L) :
 Calls Tryz.prog 98 #[.slice a len cap] w fun e w'=>e=.returned (.string (de L))∧Bl w w':=by
 cases hp:bF L with
 | false =>
  go_enter Tryz.func98,Tryz.ntmps98
  go_wp2_with (go_at_call 132;refine (qR _ _ _ L _ hL).mono ?_;rw [hp];rintro e w1 ⟨rfl,hb1⟩)
  go_ret;exact ⟨fN (pm hp).symm,hb1⟩
 | true =>
  obtain ⟨l1,l12,hall⟩:=dg hp;have hlen:=hL.length;obtain ⟨b,off,rfl,hbb⟩:=hL.form (by omega);have HALL:Hid (∀e ∈ L,cQ e=true):=hall;have HLEN:Hid (L.length=len):=hlen;have HL:Hid (au w (some ⟨b,off,none⟩) len cap L):=hL;have hle:len≤12:=by omega
  have hbl:=hL.room;have hbc:=hL.big;unfold maxLen at hbc;have HP:Hid (bF L=true):=hp;clear hall hlen l1 l12;go_enter Tryz.func98,Tryz.ntmps98
  go_wp2_with fail
  refine (qR _ _ _ L _ hL).mono ?_;rw [hp];rintro e w1 ⟨rfl,hb1⟩;clear hL hp;go_wp2;go_loopw [3,4] (fun o i wr=>∃k:Nat,k≤len∧i=iT k∧o=.string ⟨(aU (L.take k)).toArray⟩∧Bl w wr) (fun _ i _=>len - (intOf i).toNat)
  case atStart=>exact ⟨0,Nat.zero_le _,rfl,by simp [aU],hb1⟩
  case round =>
   obtain ⟨k,hk,rfl,rfl,hb⟩:=hrel;obtain ⟨O,hO⟩:∃O:ByteArray,O=⟨(aU (L.take k)).toArray⟩:=⟨_,rfl⟩;have HO:Hid (O=⟨(aU (L.take k)).toArray⟩):=hO;have hOz:O.size≤1920:=by
    rw [hO,kj];have e1:=jD (L.take k) (fun l hl=>HALL.out l (List.mem_of_mem_take hl));have e3:(L.take k).length≤k:=by simp;omega
    omega
   rw [← hO];clear hO;by_cases hlt:k<len
   · obtain ⟨s,q,d,t,n,hg,hlw,g0,g1,g2,g3,g4⟩:=HL.out.ent hb hbb k hlt;have hlB:=HALL.out _ (List.mem_of_getElem? hg);obtain ⟨p1,p2,p3,p4,p5,p6,p7,p8⟩:=dH hlB;simp only at p1 p2 p3 p4 p5 p6 p7 p8;have HG:Hid (L[k]?=some (s,q,d,t,n)):=hg;clear hg hlw hlB;obtain ⟨Q,hQ⟩:∃x,x=eN q:=⟨_,rfl⟩;have CQ:Hid (∀w',Calls Tryz.prog 133 #[iT q] w' fun e w''=>e=.returned (.string Q)∧Bl w' w''):=fun w'=>by rw [hQ];exact kU q w' (by omega) (by omega)
     have EQ:Hid (Q=eN q):=hQ;have zQ:Q.size≤21:=by rw [hQ];exact fk q (by omega) (by omega)
     clear hQ;obtain ⟨D,hD⟩:∃x,x=eN d:=⟨_,rfl⟩;have CD:Hid (∀w',Calls Tryz.prog 133 #[iT d] w' fun e w''=>e=.returned (.string D)∧Bl w' w''):=fun w'=>by rw [hD];exact kU d w' (by omega) (by omega)
     have ED:Hid (D=eN d):=hD;have zD:D.size≤21:=by rw [hD];exact fk d (by omega) (by omega)
     clear hD;obtain ⟨N,hN⟩:∃x,x=eN n:=⟨_,rfl⟩;have CN:Hid (∀w',Calls Tryz.prog 133 #[iT n] w' fun e w''=>e=.returned (.string N)∧Bl w' w''):=fun w'=>by rw [hN];exact kU n w' (by omega) (by omega)
     have EN:Hid (N=eN n):=hN;have zN:N.size≤21:=by rw [hN];exact fk n (by omega) (by omega)
     clear hN;obtain ⟨Z,hZ⟩:∃x,x=eN (t.size:Int):=⟨_,rfl⟩;have CZ:Hid (∀w',Calls Tryz.prog 133 #[iT (t.size:Int)] w' fun e w''=>e=.returned (.string Z)∧Bl w' w''):=fun w'=>by rw [hZ];exact kU (t.size:Int) w' (by omega) (by omega)
     have EZ:Hid (Z=eN (t.size:Int)):=hZ;have zZ:Z.size≤21:=by rw [hZ];exact fk (t.size:Int) (by omega) (by omega)
     clear hZ;have q0:¬9223372036854775807<O.size+s.size:=by omega
     have q1:¬9223372036854775807<O.size+s.size+1:=by omega
     have q2:¬9223372036854775807<O.size+s.size+1+Q.size:=by omega
     have q3:¬9223372036854775807<O.size+s.size+1+Q.size+1:=by omega
     have q4:¬9223372036854775807<O.size+s.size+1+Q.size+1+D.size:=by omega
     have q5:¬9223372036854775807<O.size+s.size+1+Q.size+1+D.size+1:=by omega
     have q6:¬9223372036854775807<O.size+s.size+1+Q.size+1+D.size+1+N.size:=by omega
     have q7:¬9223372036854775807<O.size+s.size+1+Q.size+1+D.size+1+N.size+1:=by omega
     have q8:¬9223372036854775807<O.size+s.size+1+Q.size+1+D.size+1+N.size+1+Z.size:=by omega
     have q9:¬9223372036854775807<O.size+s.size+1+Q.size+1+D.size+1+N.size+1+Z.size+1:=by omega
     have q10:¬9223372036854775807<O.size+s.size+1+Q.size+1+D.size+1+N.size+1+Z.size+1+t.size:=by omega
     obtain ⟨W,hW⟩:=aw (wr.alloc (.cells #[.string s,iT q,iT d,.string t,iT n] 123));obtain ⟨X,hX⟩:=aw wr.heap.size;have x0:W.cell? ⟨X,0,none⟩=some (.string s):=by rw [hW,hX];simp
     have x1:W.cell? ⟨X,1,none⟩=some (iT q):=by rw [hW,hX];simp
     have x2:W.cell? ⟨X,2,none⟩=some (iT d):=by rw [hW,hX];simp
     have x3:W.cell? ⟨X,3,none⟩=some (.string t):=by rw [hW,hX];simp
     have x4:W.cell? ⟨X,4,none⟩=some (iT n):=by rw [hW,hX];simp
     have kW:Bl wr W:=by rw [hW];exact bZ
     have hbW:Bl w W:=hb.trans (kW.mono hb.size);have HMK:Hid (∀w',Bl W w'→(w'.cell? ⟨X,0,none⟩=some (.string s)∧w'.cell? ⟨X,1,none⟩=some (iT q)∧w'.cell? ⟨X,2,none⟩=some (iT d)∧w'.cell? ⟨X,3,none⟩=some (.string t)∧w'.cell? ⟨X,4,none⟩=some (iT n)∧Bl W w')):=fun w' k'=>⟨cell_later k' x0,cell_later k' x1,cell_later k' x2,cell_later k' x3,cell_later k' x4,k'⟩
     go_upto_region 8 with fail
     rw [← hW,← hX];clear hW hX kW g0 g1 g2 g3 g4;have k0:Bl W W.drew:=(Below.refl _ W).drew;go_region_held3 (fun w'=>w'.cell? ⟨X,0,none⟩=some (.string s)∧w'.cell? ⟨X,1,none⟩=some (iT q)∧w'.cell? ⟨X,2,none⟩=some (iT d)∧w'.cell? ⟨X,3,none⟩=some (.string t)∧w'.cell? ⟨X,4,none⟩=some (iT n)∧Bl W w') (first | (with_reducible exact HMK.out _ k0) | (with_reducible exact HMK.out _ k1) | (with_reducible exact HMK.out _ k2) | (with_reducible exact HMK.out _ k3) | (with_reducible exact HMK.out _ k4)) (first
      | (go_at_call 133;(with_reducible refine (CZ.out _).mono ?_);rintro e v4 ⟨rfl,hb4⟩;have k4:Bl W v4:=k3.trans (hb4.mono k3.size))
      | (go_at_call 133;(with_reducible refine (CN.out _).mono ?_);rintro e v3 ⟨rfl,hb3⟩;have k3:Bl W v3:=k2.trans (hb3.mono k2.size))
      | (go_at_call 133;(with_reducible refine (CD.out _).mono ?_);rintro e v2 ⟨rfl,hb2⟩;have k2:Bl W v2:=k1.trans (hb2.mono k1.size))
      | (go_at_call 133;(with_reducible refine (CQ.out _).mono ?_);rintro e v1 ⟨rfl,hb1⟩;have k1:Bl W v1:=k0.trans (hb1.mono k0.size)))
     all_goals
      go_wp2;go_roundw
      case rel=>exact ⟨k+1,by omega,by go_num,tG HO.out EQ.out ED.out EN.out EZ.out HG.out,hbW.trans (k4.mono hbW.size)⟩
      case measure=>simp [intOf];omega
   · have hkn:k=len:=by omega
     have hfull:aU (L.take k)=aU L:=by rw [List.take_of_length_le (by rw [HLEN.out];omega)]
     have HO':Hid (O=⟨(aU L).toArray⟩):=by show O=_;rw [HO.out,hfull]
     have hsz:(O.size:Int)=((aU L).length:Int):=by rw [HO'.out,kj]
     have HSZ:Hid ((O.size:Int)=((aU L).length:Int)):=hsz;clear hfull hsz;obtain ⟨Z,hZ⟩:∃x,x=eN (O.size:Int):=⟨_,rfl⟩;have CZ:Hid (∀w',Calls Tryz.prog 133 #[iT (O.size:Int)] w' fun e w''=>e=.returned (.string Z)∧Bl w' w''):=fun w'=>by rw [hZ];exact kU (O.size:Int) w' (by omega) (by omega)
     have EZ:Hid (Z=eN (O.size:Int)):=hZ;have zZ:Z.size≤21:=by rw [hZ];exact fk (O.size:Int) (by omega) (by omega)
     clear hZ;have q1:¬9223372036854775807<Z.size+1:=by omega
     have q2:¬9223372036854775807<Z.size+1+O.size:=by omega
     have q3:¬9223372036854775807<Z.size+1+O.size+1:=by omega
     go_wp2_with fail
     refine (CZ.out _).mono ?_;rintro e w2 ⟨rfl,hb2⟩;go_wp2;go_ret;exact ⟨fN (by rw [nu HP.out];exact pl HO'.out (by rw [EZ.out,HSZ.out])),hb.trans (hb2.mono hb.size)⟩
end Go.Proofs.YtgpcinihgofmfaaGreatDoor

namespace Go.Proofs.YtgpcinihgofmfaaGreatDoor
open Go.Shelf
def Tryz.lays171_ren : Go.Shelf.Ren := ⟨fun | 171 => 147 | 243 => 175 | 246 => 191 | 283 => 199 | 284 => 200 | 285 => 201 | 286 => 202 | 129 => 211 | 317 => 210 | 318 => 212 | 319 => 213 | 320 => 214 | 337 => 218 | 338 => 219 | n => n, fun | 3 => 3 | 9 => 9 | 2 => 2 | 4 => 4 | 171 => 240 | 0 => 0 | 53 => 241 | 37 => 138 | 5 => 5 | 173 => 244 | 212 => 253 | 51 => 254 | 20 => 20 | 213 => 255 | 46 => 256 | 232 => 268 | 233 => 269 | n => n, fun | 17 => 1 | 18 => 4 | 19 => 5 | n => n⟩
theorem Tryz.lays171 : Go.Proofs.LaysM.n171 Tryz.prog Tryz.lays171_ren := {
  mixed := by kernel_rfl
  f129 := Tryz.func211.trans (congrArg some (by kernel_rfl))
  f171 := Tryz.func147.trans (congrArg some (by kernel_rfl))
  f243 := Tryz.func175.trans (congrArg some (by kernel_rfl))
  f246 := Tryz.func191.trans (congrArg some (by kernel_rfl))
  f283 := Tryz.func199.trans (congrArg some (by kernel_rfl))
  f284 := Tryz.func200.trans (congrArg some (by kernel_rfl))
  f285 := Tryz.func201.trans (congrArg some (by kernel_rfl))
  f286 := Tryz.func202.trans (congrArg some (by kernel_rfl))
  f317 := Tryz.func210.trans (congrArg some (by kernel_rfl))
  f318 := Tryz.func212.trans (congrArg some (by kernel_rfl))
  f319 := Tryz.func213.trans (congrArg some (by kernel_rfl))
  f320 := Tryz.func214.trans (congrArg some (by kernel_rfl))
  f337 := Tryz.func218.trans (congrArg some (by kernel_rfl))
  f338 := Tryz.func219.trans (congrArg some (by kernel_rfl))
  t0 := Tryz.underlying0
  a0 := Tryz.isAgg0
  z0 := Tryz.sizeOf0
  v0 := Tryz.zeroValue0
  t2 := Tryz.underlying2
  a2 := Tryz.isAgg2
  z2 := Tryz.sizeOf2
  v2 := Tryz.zeroValue2
  t3 := Tryz.underlying3
  a3 := Tryz.isAgg3
  z3 := Tryz.sizeOf3
  v3 := Tryz.zeroValue3
  t4 := Tryz.underlying4
  a4 := Tryz.isAgg4
  z4 := Tryz.sizeOf4
  v4 := Tryz.zeroValue4
  t5 := Tryz.underlying5
  a5 := Tryz.isAgg5
  z5 := Tryz.sizeOf5
  v5 := Tryz.zeroValue5
  t9 := Tryz.underlying9
  a9 := Tryz.isAgg9
  z9 := Tryz.sizeOf9
  v9 := Tryz.zeroValue9
  t20 := Tryz.underlying20
  a20 := Tryz.isAgg20
  z20 := Tryz.sizeOf20
  v20 := Tryz.zeroValue20
  t37 := Tryz.underlying138
  a37 := Tryz.isAgg138
  z37 := Tryz.sizeOf138
  v37 := Tryz.zeroValue138
  t46 := Tryz.underlying256
  a46 := Tryz.isAgg256
  z46 := Tryz.sizeOf256
  v46 := Tryz.zeroValue256
  t51 := Tryz.underlying254
  a51 := Tryz.isAgg254
  z51 := Tryz.sizeOf254
  v51 := Tryz.zeroValue254
  t53 := Tryz.underlying241
  a53 := Tryz.isAgg241
  z53 := Tryz.sizeOf241
  v53 := Tryz.zeroValue241
  t171 := Tryz.underlying240
  a171 := Tryz.isAgg240
  z171 := Tryz.sizeOf240
  v171 := Tryz.zeroValue240
  t173 := Tryz.underlying244
  a173 := Tryz.isAgg244
  z173 := Tryz.sizeOf244
  v173 := Tryz.zeroValue244
  t212 := Tryz.underlying253
  a212 := Tryz.isAgg253
  z212 := Tryz.sizeOf253
  v212 := Tryz.zeroValue253
  t213 := Tryz.underlying255
  a213 := Tryz.isAgg255
  z213 := Tryz.sizeOf255
  t232 := Tryz.underlying268
  a232 := Tryz.isAgg268
  z232 := Tryz.sizeOf268
  v232 := Tryz.zeroValue268
  t233 := Tryz.underlying269
  a233 := Tryz.isAgg269
  z233 := Tryz.sizeOf269
  v233 := Tryz.zeroValue269
  g17 := by kernel_rfl
  g18 := by kernel_rfl
  g19 := by kernel_rfl
  i0 := by kernel_rfl
  i2 := by kernel_rfl
  i3 := by kernel_rfl
  i4 := by kernel_rfl
  i5 := by kernel_rfl
  i9 := by kernel_rfl
  i20 := by kernel_rfl
  i37 := by kernel_rfl
  i46 := by kernel_rfl
  i51 := by kernel_rfl
  i53 := by kernel_rfl
  i171 := by kernel_rfl
  i173 := by kernel_rfl
  i212 := by kernel_rfl
  i232 := by kernel_rfl
  i233 := by kernel_rfl
  m17 := by kernel_rfl
  m18 := by kernel_rfl
  m19 := by kernel_rfl }

/-- strconv.Itoa. -/
theorem Tryz.itoa_any (n : Int) (h0 : -9223372036854775808 ≤ n) (h1 : n ≤ 9223372036854775807) (w : World) (htab : Lib.TabIs Tryz.prog w "internal/strconv.uint64pow10" .u64 Lib.pow10Tab) :
    Calls Tryz.prog 147 #[.int .i64 n] w fun e w' => e = .returned (.string ⟨(Lib.itoa n).toArray⟩) ∧ ∃ k os, w' = Sort.grow (w.drewN k) os :=
  Any.strconv_Itoa Tryz.lays171 n h0 h1 w htab

end Go.Proofs.YtgpcinihgofmfaaGreatDoor

namespace Go.Proofs.YtgpcinihgofmfaaGreatDoor
set_option maxRecDepth 100000
set_option maxHeartbeats 2000000
open Go.RowKit Go.Shelf
def fa:List Int→List UInt8
 | []=>[]
 | x :: r=>Lib.itoa x++32 :: fa r
theorem pM (A B:List Int):fa (A++B)=fa A++fa B:=by
 induction A with
 | nil=>rfl
 | cons l r ih=>simp [fa,ih]
theorem sZ {L:List Int} {k:Nat} {x:Int} (h:L[k]?=some x):fa (L.take (k+1))=fa (L.take k)++(Lib.itoa x++[32]):=by
 rw [List.take_add_one,h,pM];simp [fa]
theorem wv (k:ByteArray) (q d:Int) (t:ByteArray) (n:Int):fI (k,q,d,t,n)=k.data.toList++[32]++fa [q,d,n,(t.size:Int)]++t.data.toList:=by
 simp [fI,fa]
theorem oU:∀(L:List Int),(∀x ∈ L,-1000000≤x∧x≤1000000)→(fa L).length≤22*L.length
 | [],_=>by simp [fa]
 | l :: r,h=>by
  have hl:=h l (by simp)
  have h1:=Lib.itoa_length_le l (by omega) (by omega)
  have h2:=oU r (fun x hx=>h x (by simp [hx]))
  simp only [fa,List.length_append,List.length_cons]
  omega
theorem xd (B b:Nat) (l:List UInt8) (k t:ByteArray) (q d n:Int) (W w:World) (h:cF B b W w l) (hB:B≤W.heap.size) (hl:l.length≤10000) (hok:cQ (k,q,d,t,n)=true)
 (hT : Lib.TabBelow Tryz.prog B W "internal/strconv.uint64pow10" .u64 Lib.pow10Tab) :
 Calls Tryz.prog 146 #[.pointer (pT b),.agg #[.string k,iT q,iT d,.string t,iT n]] w fun e w'=>e=.returned (.tuple #[])∧cF B b W w' (l++fI (k,q,d,t,n)):=by
 obtain ⟨p1,p2,p3,p4,p5,p6,p7,p8⟩:=dH hok;simp only at p1 p2 p3 p4 p5 p6 p7 p8;have hBw:=h.size hB;have hbw:b<w.heap.size:=by
  rcases h.bld with ⟨_,v,h1,_⟩ | ⟨_,v,h1,_⟩
  · exact (Array.getElem?_eq_some_iff.1 h1).1
  · exact (Array.getElem?_eq_some_iff.1 h1).1
 have HT:=ar hT;obtain ⟨V,hV⟩:=aw (w.alloc (.cells #[.string k,iT q,iT d,.string t,iT n] 123));obtain ⟨X,hX⟩:=aw w.heap.size;have hh:cF B b W V l:=h.below hB (by rw [hV];exact bZ);have HH:Hid (cF B b W V l):=hh;have hXb:X≠b:=by omega
 have HX:Hid (V.heap[X]?=some (.cells #[.string k,iT q,iT d,.string t,iT n] 123 (0,0))):=by show V.heap[X]?=_;rw [hV,hX];exact Array.getElem?_push_size
 have hBV:B≤V.heap.size:=hh.size hB;have c0:V.cell? ⟨X,0,none⟩=some (.string k):=by rw [Lib.cell_of_heap HX.out];rfl
 clear h hh hT;go_enter Tryz.func146,Tryz.ntmps146
 go_upto_region 1 with fail
 rw [← hV,← hX];clear hV hX;go_wp2_with fail
 refine (ml B b l k V V HH.out.here (by omega) hBV).mono ?_;rintro e w1 ⟨rfl,T1⟩;have T1':Hid (cF B b V w1 (l++k.data.toList)):=T1;clear T1;go_wp2_with fail
 refine (rc B b _ 32 32 V w1 T1'.out rfl (by rw [List.length_append,aK];omega) hBV).mono ?_;rintro e w2 ⟨rfl,T2⟩;obtain ⟨l2,hl2⟩:∃x,x=l++k.data.toList++[32]:=⟨_,rfl⟩;rw [← hl2] at T2;have z2:l2.length≤10009:=by rw [hl2,List.length_append,List.length_append,aK];simp;omega
 have E2:Hid (l2=l++k.data.toList++[32]):=hl2;have T2':Hid (cF B b V w2 l2):=T2;have bx:=T2.box HX.out (by decide) hXb;have c1:w2.cell? ⟨X,1,none⟩=some (iT q):=by rw [Lib.cell_of_heap bx];rfl
 have c2:w2.cell? ⟨X,2,none⟩=some (iT d):=by rw [Lib.cell_of_heap bx];rfl
 have c3:w2.cell? ⟨X,3,none⟩=some (.string t):=by rw [Lib.cell_of_heap bx];rfl
 have c4:w2.cell? ⟨X,4,none⟩=some (iT n):=by rw [Lib.cell_of_heap bx];rfl
 clear T2 hl2 T1' bx;obtain ⟨z,hz⟩:∃z:Int,z=(t.size:Int):=⟨_,rfl⟩;have EZ:Hid (z=(t.size:Int)):=hz;have hz0:-1000000≤z∧z≤1000000:=by omega
 obtain ⟨xs,hxs⟩:=aw ([q,d,n,z]);have EX:Hid (xs=[q,d,n,z]):=hxs;have HXS:Hid (∀x ∈ xs,-1000000≤x∧x≤1000000):=by
  show ∀x ∈ xs,-1000000≤x∧x≤1000000
  rw [hxs];intro x hx;simp only [List.mem_cons,List.not_mem_nil,or_false] at hx;rcases hx with rfl | rfl | rfl | rfl <;> omega
 obtain ⟨U,hU⟩:=aw (w2.alloc (.cells #[iT q,iT d,iT n,iT (t.size:Int)] 3));obtain ⟨Y,hY⟩:=aw w2.heap.size;have HY:Hid (U.heap[Y]?=some (.cells #[iT q,iT d,iT n,iT z] 3 (0,0))):=by show U.heap[Y]?=_;rw [hU,hY,hz];exact Array.getElem?_push_size
 have hU':Bl w2 U:=by rw [hU];exact bZ
 have T3:cF B b V U l2:=T2'.out.below hBV hU';have T3':Hid (cF B b V U l2):=T3;have hBU:B≤U.heap.size:=T3.size hBV;have hYb:Y≠b:=by
  have h1:=HH.out.bel.size;have h2:b<w2.heap.size:=by
   rcases T2'.out.bld with ⟨_,v,h1,_⟩ | ⟨_,v,h1,_⟩
   · exact (Array.getElem?_eq_some_iff.1 h1).1
   · exact (Array.getElem?_eq_some_iff.1 h1).1
  omega
 have HXU:Hid (U.heap[X]?=some (.cells #[.string k,iT q,iT d,.string t,iT n] 123 (0,0))):=T3.box HX.out (by decide) hXb;have hlx:xs.length=4:=by rw [hxs];rfl
 have HLX:Hid (xs.length=4):=hlx;clear T3 hU' hz hxs hlx T2';go_wp2;rw [← hU,← hY];clear hU hY;go_loopw [23] (fun i wr=>∃j:Nat,j≤4∧i=iT j∧cF B b U wr (l2++fa (xs.take j))) (fun i _=>4 - (intOf i).toNat)
 case atStart=>exact ⟨0,by omega,rfl,by simpa [fa] using T3'.out.here⟩
 case round =>
  obtain ⟨j,hj,rfl,hT⟩:=hrel;obtain ⟨l3,hl3⟩:∃x,x=l2++fa (xs.take j):=⟨_,rfl⟩;have E3:Hid (l3=l2++fa (xs.take j)):=hl3;have z3:l3.length≤10100:=by
   have h1:=oU (xs.take j) (fun x hx=>HXS.out x (List.mem_of_mem_take hx));have h2:(xs.take j).length≤j:=by simp;omega
   rw [hl3,List.length_append];omega
  rw [← hl3] at hT;have HTT:Hid (cF B b U wr l3):=hT;clear hl3;by_cases hlt:j<4
  · obtain ⟨x,hx⟩:∃x,xs[j]?=some x:=⟨xs[j]'(by rw [HLX.out];exact hlt),List.getElem?_eq_getElem _⟩;have HGX:Hid (xs[j]?=some x):=hx;have hxx:=HXS.out x (List.mem_of_getElem? hx);have by_:=hT.box HY.out (by decide) hYb;have cy:wr.cell? ⟨Y,j,none⟩=some (iT x):=by
     rw [Lib.cell_of_heap by_];have e:(#[iT q,iT d,iT n,iT z]:Array Value)=(xs.map iT).toArray:=by rw [EX.out];rfl
     rw [e];simp [hx]
    have hyl:Y<wr.heap.size:=(Array.getElem?_eq_some_iff.1 by_).1;have hti:=HT.out wr (HH.out.bel.trans (T3'.out.bel.trans hT.bel));have hltI:(j:Int)<4:=by omega
    have hzx:=Lib.itoa_length_le x (by omega) (by omega);clear hx by_ hT;go_wp2_with fail
    refine (Tryz.itoa_any x (by omega) (by omega) wr hti).mono ?_;rintro e w4 ⟨rfl,kk,os,rfl⟩;obtain ⟨w4,hw4⟩:=aw (Sort.grow (wr.drewN kk) os);have hb4:Bl wr w4:=by rw [hw4];exact Lib.below_grow _ _ (Nat.le_refl _) _ _
    rw [← hw4];have T4:Hid (cF B b U w4 l3):=HTT.out.below hBU hb4;clear hw4 hb4 HTT cy hyl hti;go_wp2_with fail
    refine (ml B b l3 ⟨(Lib.itoa x).toArray⟩ U w4 T4.out (by rw [kj];omega) hBU).mono ?_;rintro e w5 ⟨rfl,T5⟩;have T5':Hid (cF B b U w5 (l3++Lib.itoa x)):=show cF B b U w5 (l3++Lib.itoa x) from by simpa using T5
    clear T5 T4;go_wp2_with fail
    refine (rc B b _ 32 32 U w5 T5'.out rfl (by rw [List.length_append];omega) hBU).mono ?_;rintro e w6 ⟨rfl,T6⟩;go_wp2;go_roundw
    case rel =>
     refine ⟨j+1,by omega,by go_num,?_⟩;have e:l2++fa (xs.take (j+1))=l3++Lib.itoa x++[32]:=by rw [sZ HGX.out,E3.out];simp
     rw [e];exact T6
    case measure=>simp [intOf];omega
  · have hj4:j=4:=by omega
    have bx:=hT.box HXU.out (by decide) hXb;have c5:wr.cell? ⟨X,3,none⟩=some (.string t):=by rw [Lib.cell_of_heap bx];rfl
    clear bx;go_wp2_with fail
    refine (ml B b l3 t U wr HTT.out (by omega) hBU).mono ?_;rintro e w7 ⟨rfl,T7⟩;go_wp2;go_end0;refine ⟨rfl,?_⟩;have e:l++fI (k,q,d,t,n)=l3++t.data.toList:=by
     rw [wv,E3.out,hj4,List.take_of_length_le (by rw [HLX.out];omega),EX.out,EZ.out,E2.out];simp
    rw [e];exact HH.out.trans (T3'.out.trans T7)
theorem lD (a : Option Addr) (len cap : Nat) (L : List ae) (w : World) (hL : au w a len cap L) (htab : Lib.TabIs Tryz.prog w "internal/strconv.uint64pow10" .u64 Lib.pow10Tab) :
 Calls Tryz.prog 111 #[.slice a len cap] w fun e w'=>e=.returned (.string (de L))∧Bl w w':=by
 cases hp:bF L with
 | false =>
  go_enter Tryz.func111,Tryz.ntmps111
  go_wp2_with (go_at_call 145;refine (rM _ _ _ L _ hL).mono ?_;rw [hp];rintro e w1 ⟨rfl,hb1⟩)
  go_ret;exact ⟨fN (pm hp).symm,hb1⟩
 | true =>
  obtain ⟨l1,l12,hall⟩:=dg hp;have hlen:=hL.length;obtain ⟨b0,off,rfl,hbb⟩:=hL.form (by omega);have HALL:Hid (∀e ∈ L,cQ e=true):=hall;have HLEN:Hid (L.length=len):=hlen;have HL:Hid (au w (some ⟨b0,off,none⟩) len cap L):=hL;have hle:len≤12:=by omega
  have hbl:=hL.room;have hbc:=hL.big;unfold maxLen at hbc;have HP:Hid (bF L=true):=hp;have HT0:=Lib.tabBelow_of_tabIs htab;clear hall hlen l1 l12;go_enter Tryz.func111,Tryz.ntmps111
  go_wp2_with fail
  refine (rM _ _ _ L _ hL).mono ?_;rw [hp];rintro e w1 ⟨rfl,hb1⟩;clear hL hp;obtain ⟨W,hW⟩:=aw (w1.alloc (.cells #[.pointer none,nZ] 140));obtain ⟨B,hBe⟩:=aw w1.heap.size;have hI:Lib.IsBuilder 140 5 B B [] W:=by rw [hW,hBe];exact Lib.fresh_isBuilder _ _ w1
  have T0:Hid (cF B B W W []):=⟨hI,Lib.OthersKept.refl _ _ _,Below.refl _ _⟩;have kW:Bl w1 W:=by rw [hW];exact bZ
  have hBW:B≤W.heap.size:=by rw [hBe];exact kW.size
  have hwB:w.heap.size≤B:=by rw [hBe];exact hb1.size
  have KW:Hid (Bl w W):=hb1.trans (kW.mono hb1.size);have HT : Hid (Lib.TabBelow Tryz.prog B W "internal/strconv.uint64pow10" .u64 Lib.pow10Tab) := fun w' k => HT0 w' (KW.out.trans (k.mono hwB))
  clear hI HT0 kW;go_wp2;rw [← hW,← hBe];clear hW hBe;go_loopw [11] (fun i wr=>∃j:Nat,j≤len∧i=iT j∧cF B B W wr (aU (L.take j))) (fun i _=>len - (intOf i).toNat)
  case atStart=>exact ⟨0,by omega,rfl,by simpa [aU] using T0.out⟩
  case round =>
   obtain ⟨j,hj,rfl,hT⟩:=hrel;have hb:Bl w wr:=KW.out.trans (hT.bel.mono hwB);have hz:(aU (L.take j)).length≤1920:=by
    have e1:=jD (L.take j) (fun l hl=>HALL.out l (List.mem_of_mem_take hl));have e3:(L.take j).length≤j:=by simp;omega
    omega
   obtain ⟨l,hl⟩:=aw (aU (L.take j));have EL:Hid (l=aU (L.take j)):=hl;rw [← hl] at hT hz;have HTT:Hid (cF B B W wr l):=hT;clear hl hT;by_cases hlt:j<len
   · obtain ⟨s,q,d,t,n,hg,hlw,g0,g1,g2,g3,g4⟩:=HL.out.ent hb hbb j hlt;have hlB:=HALL.out _ (List.mem_of_getElem? hg);have HG:Hid (L[j]?=some (s,q,d,t,n)):=hg;have T1:Hid (cF B B W (wr.alloc (.cells #[.string s,iT q,iT d,.string t,iT n] 123)) l):=HTT.out.below hBW bZ;have hltI:(j:Int)<(len:Int):=by omega
     have hb0:b0<wr.heap.size:=Nat.lt_of_lt_of_le hbb hb.size;clear hg hlw;go_wp2_with fail
     refine (xd B B l s t q d n W _ T1.out hBW (by omega) hlB HT.out).mono ?_;rintro e w3 ⟨rfl,T3⟩;go_wp2;go_roundw
     case rel=>exact ⟨j+1,by omega,by go_num,by rw [nz HG.out,← EL.out];exact T3⟩
     case measure=>simp [intOf];omega
   · have hjn:j=len:=by omega
     have hfull:l=aU L:=by rw [EL.out,List.take_of_length_le (by rw [HLEN.out];omega)]
     have EF:Hid (l=aU L):=hfull;have hbs:(Lib.byteCells l).length=l.length:=by simp [Lib.byteCells]
     have CL:Hid (Calls Tryz.prog 148 #[.pointer (pT B)] wr fun e w'=>e=.returned (iT (l.length:Int))∧w'=wr):=by
      have:=Tryz.Builder_Len B B (Lib.byteCells l) wr HTT.out.bld;rw [hbs] at this;exact this
     obtain ⟨N,hN⟩:∃N:Int,N=(l.length:Int):=⟨_,rfl⟩;have EN:Hid (N=(l.length:Int)):=hN;have hN0:0≤N∧N≤1920:=by omega
     rw [← hN] at CL;have hti:=HT.out wr HTT.out.bel;obtain ⟨Z,hZ⟩:=aw (eN N);have EZ:Hid (Z=eN N):=hZ;have hZz:Z.size≤21:=by rw [hZ];exact fk N (by omega) (by omega)
     have CI:Hid (Calls Tryz.prog 147 #[iT N] wr fun e w'=>e=.returned (.string Z)∧∃k os,w'=Sort.grow (wr.drewN k) os):=by
      show Calls _ _ _ _ _
      rw [hZ];exact Tryz.itoa_any N (by omega) (by omega) wr hti
     obtain ⟨O,hO⟩:∃O:ByteArray,O=⟨l.toArray⟩:=⟨_,rfl⟩;have EO:Hid (O=⟨l.toArray⟩):=hO;have hOz:O.size≤1920:=by rw [hO,kj];exact hz
     have CS:Hid (∀w',cF B B W w' l→Calls Tryz.prog 113 #[.pointer (pT B)] w' fun e w''=>e=.returned (.string O)∧Below B w' w''):=fun w' h=>by rw [hO];exact Tryz.Builder_String_any B B l w' h.bld (h.size hBW)
     clear hfull hN hZ hO hbs hti;have q1:¬9223372036854775807<Z.size+1:=by omega
     have q2:¬9223372036854775807<Z.size+1+O.size:=by omega
     have q3:¬9223372036854775807<Z.size+1+O.size+1:=by omega
     go_wp2_with fail
     refine CL.out.mono ?_;rintro e w4 ⟨rfl,rfl⟩;go_wp2_with fail
     refine CI.out.mono ?_;rintro e w5 ⟨rfl,kk,os,rfl⟩;obtain ⟨w5,hw5⟩:=aw (Sort.grow (w4.drewN kk) os);have hb5:Bl w4 w5:=by rw [hw5];exact Lib.below_grow _ _ (Nat.le_refl _) _ _
     rw [← hw5];have T5:cF B B W w5 l:=HTT.out.below hBW hb5;have K5:Hid (Bl w w5):=KW.out.trans (T5.bel.mono hwB);clear hw5 hb5;go_wp2_with fail
     refine (CS.out _ T5).mono ?_;rintro e w6 ⟨rfl,hb6⟩;go_wp2;go_ret;exact ⟨fN (by rw [nu HP.out,← EF.out];exact pl EO.out (by rw [EZ.out,EN.out])),K5.out.trans (hb6.mono hwB)⟩
end Go.Proofs.YtgpcinihgofmfaaGreatDoor
