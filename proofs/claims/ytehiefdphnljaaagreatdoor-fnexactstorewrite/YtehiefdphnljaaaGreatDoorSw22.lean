/- Walks. -/
import Derived.Test.YtehiefdphnljaaaGreatDoorSw21
namespace Go.Proofs.YtehiefdphnljaaaGreatDoor
set_option maxRecDepth 100000
set_option maxHeartbeats 40000000
open Go.RowKit
variable {L:List ae} {P:List (List ae)} {k:Nat} {q:Int}
theorem uA {e:ae} (hk:L.length=k+1) (h:L[k]?=some e):ef L=e.2.1:=by
 unfold ef;rw [List.getLast?_eq_getElem?,hk,Nat.add_sub_cancel,h]
theorem oV (h:P[k]?=some L) (hq:q<ef L):fu (bD q (P.take (k+1)))=fu (bD q (P.take k))++aY L:=by
 rw [oX h,if_pos hq,gJ];simp [fu]
theorem uz (h:P[k]?=some L) (hq:¬q<ef L):bD q (P.take (k+1))=bD q (P.take k):=by
 rw [oX h,if_neg hq,List.append_nil]
theorem jl (q:Int):∀(P:List (List ae)),nR (bD q P)≤nR P
 | []=>Nat.le_refl _
 | L :: P=>by
  have ih:=jl q P
  unfold bD at ih ⊢
  by_cases hq:q<ef L
  · rw [List.filter_cons_of_pos (by exact decide_eq_true hq)]
    simp only [nR]
    omega
  · rw [List.filter_cons_of_neg (by rw [decide_eq_false hq];decide)]
    simp only [nR]
    omega
theorem wY {O:ByteArray} {l m:List UInt8} {F:ByteArray} (hO:O=⟨l.toArray⟩) (hF:F.data.toList=m):O++F=⟨(l++m).toArray⟩:=by
 apply ByteArray.ext;apply Array.toList_inj.1;rw [ByteArray.data_append,Array.toList_append,hO,hF]
theorem yq (a:Option Addr) (n c:Nat) (P:List (List ae)) (q:Int) (w:World) (hP:cI w a n c P) (hd:∀L ∈ P,bG L=true) (hz:nR P≤1048576) :
 Calls Tryz.prog 73 #[.slice a n c,iT q] w fun e w'=>e=.returned (.string ⟨(fu (bD q P)).toArray⟩)∧Bl w w':=by
 have HP:=ar hP;have HLN:Hid (P.length=n):=hP.length;have HD:=ar hd;have HZ:=ar hz;have hroom:=hP.room;have hbig:=hP.big;unfold maxLen at hbig;clear hP hd hz;go_enter Tryz.func73,Tryz.ntmps73
 go_wp2;go_loopw [5,6] (fun ov iv wr=>∃i:Nat,i≤n∧iv=iT i∧ov=.string ⟨(fu (bD q (P.take i))).toArray⟩∧Bl w wr) (fun _ iv _=>n - (intOf iv).toNat)
 case atStart=>exact ⟨0,Nat.zero_le _,rfl,by simp [bD,fu],Below.refl _ _⟩
 case round =>
  obtain ⟨i,hi,rfl,rfl,hb⟩:=hrel;obtain ⟨O,hO⟩:∃O:ByteArray,O=⟨(fu (bD q (P.take i))).toArray⟩:=⟨_,rfl⟩;have HO:Hid (O=⟨(fu (bD q (P.take i))).toArray⟩):=hO;have hOz:O.size≤1048576:=by
   have h1:=jl q (P.take i);have h2:=pE (P:=P) (i:=i);have h3:=HZ.out;have h4:O.size=(fu (bD q (P.take i))).length:=by rw [hO];simp [ByteArray.size]
   rw [fC] at h4;omega
  rw [← hO];clear hO;by_cases hlt:i<n
  · have hltI:(i:Int)<(n:Int):=by omega
    obtain ⟨b,off,rfl,hbb⟩:=HP.out.form (by omega);obtain ⟨L,s,len,cap,hL,c0,hE⟩:=HP.out.list hb i hlt;have HL:Hid (P[i]?=some L):=hL;have hdn:=HD.out L (List.mem_of_getElem? hL);obtain ⟨l1,l12,_⟩:=cO hdn;have HDN:Hid (bG L=true):=hdn;have hLl:=hE.length;have hlc:=hE.room;have hcb:=hE.big;unfold maxLen at hcb;have hl1:1≤len:=by omega
    obtain ⟨bs,os,rfl,zs⟩:=hE.form (by omega);obtain ⟨es,eq,ed,et,en,hx,hw,e0,e1,e2,e3,e4⟩:=hE.ent (Below.refl _ wr) zs (len - 1) (by omega);have hlast:=uA (by omega) hx;simp only at hlast;have HLA:Hid (ef L=eq):=hlast;have hbr:b<wr.heap.size:=Nat.lt_of_lt_of_le hbb hb.size;have hj1:(0:Int)≤(len:Int) - 1:=by omega
    have hj2:(len:Int) - 1<(len:Int):=by omega
    have hjt:((len:Int) - 1).toNat=len - 1:=by omega
    have wj:IntKind.i64.wrap ((len:Int) - 1)=(len:Int) - 1:=by rw [IntWalk.i64_left];unfold wrap64;omega
    have HB:Hid (Bl w wr.drew):=hb.drew;have CF:=kX (some ⟨bs,os,none⟩) len cap L wr.drew (hE.keep (Below.refl _ _).drew);obtain ⟨F,hF⟩:=aw (aW L);have HF:Hid (F=aW L):=hF;have hFz:F.size≤1000000:=by
     rw [hF];have h1:=eL hdn;have h2:(aW L).size=(aY L).length:=by rw [← h1,Array.length_toList];rfl
     have h3:=dO hdn;have h4:=qK HL.out;have h5:=pE (P:=P) (i:=i+1);have h6:=HZ.out;have h7:(aY L).length≤1048576:=by omega
     have h8:=Lib.itoa_length_le ((aT L).length:Int) (by omega) (by omega);rw [h2];unfold aY;simp only [List.length_append,List.length_cons,List.length_nil];omega
    rw [← hF] at CF;have hcat:¬9223372036854775807<O.size+F.size:=by omega
    clear hL hdn hx hw hlast hLl hE hb hF;by_cases hq:q<eq
    · have HR:Hid (Value.string (O++F)=Value.string ⟨(fu (bD q (P.take (i+1)))).toArray⟩):=by
       show Value.string (O++F)=_
       rw [oV HL.out (by rw [HLA.out];omega),← wY HO.out (F:=F) (by rw [HF.out];exact eL HDN.out)]
      go_wp2;go_region_with (fail)
      go_wp2_with (go_at_call 42;refine CF.mono ?_;rintro e w2 ⟨rfl,hb2⟩)
      go_roundw
      case rel=>exact ⟨i+1,by omega,by go_num,HR.out,HB.out.trans (hb2.mono HB.out.size)⟩
      case measure=>simp [intOf];omega
      case roundEnd=>exact ⟨⟨i+1,by omega,by first | rfl | go_num,HR.out,HB.out.trans (hb2.mono HB.out.size)⟩,by simp [intOf];omega⟩
    · clear CF;have HR:Hid (Value.string O=Value.string ⟨(fu (bD q (P.take (i+1)))).toArray⟩):=by
       show Value.string O=_
       rw [uz HL.out (by rw [HLA.out];omega),← HO.out]
      go_wp2;go_region_with (fail)
      go_wp2;go_roundw
      case rel=>exact ⟨i+1,by omega,by go_num,HR.out,HB.out⟩
      case measure=>simp [intOf];omega
      case roundEnd=>exact ⟨⟨i+1,by omega,by first | rfl | go_num,HR.out,HB.out⟩,by simp [intOf];omega⟩
  · have hltI:¬(i:Int)<(n:Int):=by omega
    have HTA:Hid (P.take i=P):=List.take_of_length_le (by rw [HLN.out];omega);go_wp2;go_ret;refine ⟨?_,hb⟩;have h1:=HO.out;rw [HTA.out] at h1;rw [← h1];rfl
theorem wV (W:World) (x y:Value) (t b:Nat) (hb:b=W.heap.size):(W.alloc (.cells #[x,y] t)).drew.cell? ⟨b,0,none⟩=some x:=by subst hb;simp
theorem wU (W:World) (x y:Value) (t b:Nat) (hb:b=W.heap.size):(W.alloc (.cells #[x,y] t)).drew.cell? ⟨b,1,none⟩=some y:=by subst hb;simp
theorem sQ (a b:ByteArray) (w:World) :
 Calls Tryz.prog 183 #[.string a,.string b] w fun e w'=>e=.returned (iT (Lib.compareBytes a.data.toList b.data.toList))∧w'=w:=by
 go_enter Tryz.func183,Tryz.ntmps183
 go_wp2;rw [run_callFunc_extern Tryz.func204 (by kernel_rfl) (by kernel_rfl) (by kernel_rfl) (e:=Extern.BytealgCompare.compare) (by kernel_rfl),Lib.run_compareString];simp only [Result.andThen];rw [Oper.upon_value];go_wp2;go_ret;exact ⟨rfl,rfl⟩
theorem m9 (x y:Int) (w:World) :
 Calls Tryz.prog 184 #[iT x,iT y] w fun e w'=>e=.returned (iT (Lib.compareInt x y))∧w'=w:=by
 by_cases h1:x<y
 · go_enter Tryz.func184,Tryz.ntmps184
   go_wp2;go_ret;exact ⟨by simp [Lib.compareInt,h1],rfl⟩
 · by_cases h2:x > y
   · have h2':y<x:=h2;go_enter Tryz.func184,Tryz.ntmps184
     go_wp2;go_ret;exact ⟨by simp [Lib.compareInt,h1,h2],rfl⟩
   · have h3:x=y:=by omega
     subst h3;go_enter Tryz.func184,Tryz.ntmps184
     go_wp2;go_ret;exact ⟨by simp [Lib.compareInt],rfl⟩
theorem A7 (x y:Int) (b c:Nat) (w:World) (g0:w.cell? ⟨b,0,none⟩=some (iT x)) (g1:w.cell? ⟨b,1,none⟩=some (iT y)) :
 Calls Tryz.prog 182 #[sL b 2 c] w fun e w'=>e=.returned (iT (if x=0 then y else x))∧w'=w:=by
 go_enter Tryz.func182,Tryz.ntmps182
 go_wp2;go_loop [8] (fun i=>(i=iT 0)∨(i=iT 1∧x=0)∨(i=iT 2∧x=0∧y=0)) (fun i=>2 - (intOf i).toNat)
 case atStart=>exact Or.inl rfl
 case round =>
  rcases hrel with rfl | ⟨rfl,rfl⟩ | ⟨rfl,rfl,rfl⟩
  · by_cases h0:x=0
    · subst h0;go_wp2;go_round
      case rel=>exact Or.inr (Or.inl ⟨by go_num,trivial⟩)
      case measure=>simp [intOf]
    · have h0':(x != 0)=true:=by simpa using h0
      go_wp2;go_ret;exact ⟨rfl,rfl⟩
  · by_cases h0:y=0
    · subst h0;go_wp2;go_round
      case rel=>exact Or.inr (Or.inr ⟨by go_num,trivial,trivial⟩)
      case measure=>simp [intOf]
    · have h0':(y != 0)=true:=by simpa using h0
      go_wp2;go_ret;exact ⟨rfl,rfl⟩
  · go_wp2;go_ret;exact ⟨rfl,rfl⟩
def jJ (ka:ByteArray) (qa:Int) (kb:ByteArray) (qb:Int):Int:=if Lib.compareBytes ka.data.toList kb.data.toList=0 then Lib.compareInt qb qa else Lib.compareBytes ka.data.toList kb.data.toList
theorem pb (ka ta kb tb:ByteArray) (qa da na qb db nb:Int) (w:World) :
 Calls Tryz.prog 165 #[.agg #[.string ka,iT qa,iT da,.string ta,iT na],.agg #[.string kb,iT qb,iT db,.string tb,iT nb]] w fun e w'=>e=.returned (iT (jJ ka qa kb qb))∧Bl w w':=by
 obtain ⟨C,hC⟩:=aw (Lib.compareBytes ka.data.toList kb.data.toList);obtain ⟨D,hD⟩:=aw (Lib.compareInt qb qa);have c1:∀w,Calls Tryz.prog 183 #[.string ka,.string kb] w fun e w'=>e=.returned (iT C)∧w'=w:=by rw [hC];exact sQ ka kb
 have c2:∀w,Calls Tryz.prog 184 #[iT qb,iT qa] w fun e w'=>e=.returned (iT D)∧w'=w:=by rw [hD];exact m9 qb qa
 obtain ⟨O,hO⟩:=aw (if C=0 then D else C);have c3:∀b c w,w.cell? ⟨b,0,none⟩=some (iT C)→w.cell? ⟨b,1,none⟩=some (iT D)→Calls Tryz.prog 182 #[sL b 2 c] w fun e w'=>e=.returned (iT O)∧w'=w:=by
  rw [hO];exact fun b c w g0 g1=>A7 C D b c w g0 g1
 unfold jJ;rw [← hC,← hD,← hO];clear hC hD hO;go_enter Tryz.func165,Tryz.ntmps165
 go_wp2_with fail
 obtain ⟨X,hX⟩:=aw w.heap.size;obtain ⟨W,hW⟩:=aw ((w.alloc (.cells #[.string ka,iT qa,iT da,.string ta,iT na] 59)).alloc (.cells #[.string kb,iT qb,iT db,.string tb,iT nb] 59));have x0:W.cell? ⟨X,0,none⟩=some (.string ka):=by rw [hW,hX];simp
 have x1:W.cell? ⟨X,1,none⟩=some (iT qa):=by rw [hW,hX];simp
 have y0:W.cell? ⟨X+1,0,none⟩=some (.string kb):=by rw [hW,hX];simp
 have y1:W.cell? ⟨X+1,1,none⟩=some (iT qb):=by rw [hW,hX];simp
 have kW:Bl w W:=by rw [hW];exact bZ.alloc (by simp) _
 rw [← hW,← hX];clear hW hX;have HKW:Hid (Bl w W):=kW;clear kW;have k0:Bl W W.drew:=(Below.refl _ W).drew;have HMK:Hid (∀w',Bl W w'→(w'.cell? ⟨X,0,none⟩=some (.string ka)∧w'.cell? ⟨X,1,none⟩=some (iT qa)∧w'.cell? ⟨X+1,0,none⟩=some (.string kb)∧w'.cell? ⟨X+1,1,none⟩=some (iT qb)∧Bl W w')):=fun w' k=>⟨cell_later k x0,cell_later k x1,cell_later k y0,cell_later k y1,k⟩
 go_region_held3 (fun w'=>w'.cell? ⟨X,0,none⟩=some (.string ka)∧w'.cell? ⟨X,1,none⟩=some (iT qa)∧w'.cell? ⟨X+1,0,none⟩=some (.string kb)∧w'.cell? ⟨X+1,1,none⟩=some (iT qb)∧Bl W w') (first | exact HMK.out _ k0 | exact HMK.out _ ((Below.refl _ W).alloc (Nat.le_refl _) _).drew | exact HMK.out _ (k0.alloc (Nat.le_refl _) _)) (first
  | (go_at_call 183;refine (c1 _).mono ?_;rintro e w' ⟨rfl,rfl⟩)
  | (go_at_call 184;refine (c2 _).mono ?_;rintro e w' ⟨rfl,rfl⟩)
  | (go_at_call 182;refine (c3 _ _ _ (wV _ _ _ _ _ (by simp)) (wU _ _ _ _ _ (by simp))).mono ?_;rintro e w' ⟨rfl,rfl⟩))
 go_wp2;go_ret;exact ⟨rfl,HKW.out.trans (((Below.refl _ W).alloc (Nat.le_refl _) _).drew.mono HKW.out.size)⟩
theorem gW (ka kb:ByteArray) (qa qb:Int):decide (jJ ka qa kb qb<0)=b6 ka qa kb qb:=by
 unfold b6 jJ Lib.compareInt;rcases gE ka.data.toList kb.data.toList with ⟨h,h1,h2⟩ | ⟨h,h1,h2⟩ | ⟨h,h1,h2⟩
 · rw [h,h1];rfl
 · have:ka=kb:=by
    apply ByteArray.ext;exact Array.toList_inj.1 h2
   subst this;rw [h,h1];by_cases g:qb<qa
   · simp [g]
   · by_cases g':qb > qa <;> simp [g,g']
 · have:¬ka=kb:=fun e=>h2 (by rw [e])
   rw [h,h1];simp [this]
theorem nf (ka ta kb tb:ByteArray) (qa da na qb db nb:Int) (w:World) :
 Calls Tryz.prog 144 #[.agg #[.string ka,iT qa,iT da,.string ta,iT na],.agg #[.string kb,iT qb,iT db,.string tb,iT nb]] w fun e w'=>e=.returned (.bool (b6 ka qa kb qb))∧Bl w w':=by
 go_enter Tryz.func144,Tryz.ntmps144
 go_wp2_with fail
 refine (pb _ _ _ _ _ _ _ _ _ _ _).mono ?_;rintro e w1 ⟨rfl,hb1⟩;go_wp2;go_ret;exact ⟨aj (gW ka kb qa qb),(bZ.alloc (by simp) _).trans (hb1.mono (by simp;omega))⟩
theorem ll (a:List UInt8):Op.bytesLess a a=false:=by
 rcases gE a a with ⟨_,_,h⟩ | ⟨_,h,_⟩ | ⟨_,h,_⟩
 · exact absurd rfl h
 · exact h
 · exact h
theorem qS (ka ta kb tb:ByteArray) (qa da na qb db nb:Int) (w:World) :
 Calls Tryz.prog 102 #[.agg #[.string ka,iT qa,iT da,.string ta,iT na],.agg #[.string kb,iT qb,iT db,.string tb,iT nb]] w fun e w'=>e=.returned (.bool (b6 ka qa kb qb))∧Bl w w':=by
 by_cases he:ka=kb
 · subst he;have hl:Op.bytesLess ka.toList ka.toList=false:=ll _;by_cases hq:qb<qa
   · go_enter Tryz.func102,Tryz.ntmps102
     go_wp2;go_ret;refine ⟨aj ?_,bZ.alloc (by simp) _⟩;unfold b6;rw [ll];simp [hq]
   · go_enter Tryz.func102,Tryz.ntmps102
     go_wp2;go_ret;refine ⟨aj ?_,bZ.alloc (by simp) _⟩;unfold b6;rw [ll];simp [hq]
 · have hne:¬ka.toList=kb.toList:=by
    rw [ByteArray.toList_eq,ByteArray.toList_eq];intro h;exact he (ByteArray.ext (Array.toList_inj.1 h))
   cases hl:Op.bytesLess ka.toList kb.toList with
   | true =>
    go_enter Tryz.func102,Tryz.ntmps102
    go_wp2;go_ret;refine ⟨aj ?_,bZ.alloc (by simp) _⟩;unfold b6;rw [ByteArray.toList_eq,ByteArray.toList_eq] at hl;simp [hl]
   | false =>
    go_enter Tryz.func102,Tryz.ntmps102
    go_wp2;go_ret;refine ⟨aj ?_,bZ.alloc (by simp) _⟩;unfold b6;rw [ByteArray.toList_eq,ByteArray.toList_eq] at hl;simp [hl,he]
end Go.Proofs.YtehiefdphnljaaaGreatDoor
