/- Walks. -/
import Derived.Shelf.Strconv.Itoa3
import Derived.Lib.AppendIntMem
import Derived.Test.YtehiefdphnljaaaGreatDoorSw17
namespace Go.Proofs.YtehiefdphnljaaaGreatDoor
set_option maxRecDepth 100000
set_option maxHeartbeats 40000000
open Go.RowKit Go.Shelf
def Tryz.lays171_ren : Go.Shelf.Ren := ⟨fun | 171 => 95 | 243 => 135 | 246 => 158 | 283 => 174 | 284 => 175 | 285 => 176 | 286 => 177 | 129 => 188 | 317 => 187 | 318 => 189 | 319 => 190 | 320 => 191 | 337 => 199 | 338 => 200 | n => n, fun | 3 => 3 | 9 => 9 | 2 => 2 | 4 => 4 | 171 => 232 | 0 => 0 | 53 => 233 | 37 => 104 | 5 => 5 | 173 => 236 | 212 => 245 | 51 => 246 | 20 => 20 | 213 => 247 | 46 => 248 | 232 => 253 | 233 => 254 | n => n, fun | 17 => 0 | 18 => 2 | 19 => 3 | n => n⟩
theorem Tryz.lays171 : Go.Proofs.LaysM.n171 Tryz.prog Tryz.lays171_ren := {
  mixed := by kernel_rfl
  f129 := Tryz.func188.trans (congrArg some (by kernel_rfl))
  f171 := Tryz.func95.trans (congrArg some (by kernel_rfl))
  f243 := Tryz.func135.trans (congrArg some (by kernel_rfl))
  f246 := Tryz.func158.trans (congrArg some (by kernel_rfl))
  f283 := Tryz.func174.trans (congrArg some (by kernel_rfl))
  f284 := Tryz.func175.trans (congrArg some (by kernel_rfl))
  f285 := Tryz.func176.trans (congrArg some (by kernel_rfl))
  f286 := Tryz.func177.trans (congrArg some (by kernel_rfl))
  f317 := Tryz.func187.trans (congrArg some (by kernel_rfl))
  f318 := Tryz.func189.trans (congrArg some (by kernel_rfl))
  f319 := Tryz.func190.trans (congrArg some (by kernel_rfl))
  f320 := Tryz.func191.trans (congrArg some (by kernel_rfl))
  f337 := Tryz.func199.trans (congrArg some (by kernel_rfl))
  f338 := Tryz.func200.trans (congrArg some (by kernel_rfl))
  t0 := Tryz.underlying0
  a0 := Tryz.isAgg0
  z0 := Tryz.sizeOf0
  v0 := Tryz.zeroValue0
  t2 := Tryz.underlying2
  a2 := Tryz.isAgg2
  z2 := Tryz.sizeOf2
  v2 := Tryz.zeroValue2
  t3 := Tryz.underlying3
  a3 := Tryz.isAgg3
  z3 := Tryz.sizeOf3
  v3 := Tryz.zeroValue3
  t4 := Tryz.underlying4
  a4 := Tryz.isAgg4
  z4 := Tryz.sizeOf4
  v4 := Tryz.zeroValue4
  t5 := Tryz.underlying5
  a5 := Tryz.isAgg5
  z5 := Tryz.sizeOf5
  v5 := Tryz.zeroValue5
  t9 := Tryz.underlying9
  a9 := Tryz.isAgg9
  z9 := Tryz.sizeOf9
  v9 := Tryz.zeroValue9
  t20 := Tryz.underlying20
  a20 := Tryz.isAgg20
  z20 := Tryz.sizeOf20
  v20 := Tryz.zeroValue20
  t37 := Tryz.underlying104
  a37 := Tryz.isAgg104
  z37 := Tryz.sizeOf104
  v37 := Tryz.zeroValue104
  t46 := Tryz.underlying248
  a46 := Tryz.isAgg248
  z46 := Tryz.sizeOf248
  v46 := Tryz.zeroValue248
  t51 := Tryz.underlying246
  a51 := Tryz.isAgg246
  z51 := Tryz.sizeOf246
  v51 := Tryz.zeroValue246
  t53 := Tryz.underlying233
  a53 := Tryz.isAgg233
  z53 := Tryz.sizeOf233
  v53 := Tryz.zeroValue233
  t171 := Tryz.underlying232
  a171 := Tryz.isAgg232
  z171 := Tryz.sizeOf232
  v171 := Tryz.zeroValue232
  t173 := Tryz.underlying236
  a173 := Tryz.isAgg236
  z173 := Tryz.sizeOf236
  v173 := Tryz.zeroValue236
  t212 := Tryz.underlying245
  a212 := Tryz.isAgg245
  z212 := Tryz.sizeOf245
  v212 := Tryz.zeroValue245
  t213 := Tryz.underlying247
  a213 := Tryz.isAgg247
  z213 := Tryz.sizeOf247
  t232 := Tryz.underlying253
  a232 := Tryz.isAgg253
  z232 := Tryz.sizeOf253
  v232 := Tryz.zeroValue253
  t233 := Tryz.underlying254
  a233 := Tryz.isAgg254
  z233 := Tryz.sizeOf254
  v233 := Tryz.zeroValue254
  g17 := by kernel_rfl
  g18 := by kernel_rfl
  g19 := by kernel_rfl
  i0 := by kernel_rfl
  i2 := by kernel_rfl
  i3 := by kernel_rfl
  i4 := by kernel_rfl
  i5 := by kernel_rfl
  i9 := by kernel_rfl
  i20 := by kernel_rfl
  i37 := by kernel_rfl
  i46 := by kernel_rfl
  i51 := by kernel_rfl
  i53 := by kernel_rfl
  i171 := by kernel_rfl
  i173 := by kernel_rfl
  i212 := by kernel_rfl
  i232 := by kernel_rfl
  i233 := by kernel_rfl
  m17 := by kernel_rfl
  m18 := by kernel_rfl
  m19 := by kernel_rfl }

/-- strconv.Itoa. -/
theorem Tryz.itoa_any (n : Int) (h0 : -9223372036854775808 ≤ n) (h1 : n ≤ 9223372036854775807) (w : World) (htab : Lib.TabIs Tryz.prog w "internal/strconv.uint64pow10" .u64 Lib.pow10Tab) :
    Calls Tryz.prog 95 #[.int .i64 n] w fun e w' => e = .returned (.string ⟨(Lib.itoa n).toArray⟩) ∧ ∃ k os, w' = Sort.grow (w.drewN k) os :=
  Any.strconv_Itoa Tryz.lays171 n h0 h1 w htab
def eX:List Int→List UInt8
 | []=>[]
 | x :: r=>Lib.itoa x++32 :: eX r
theorem pK (A B:List Int):eX (A++B)=eX A++eX B:=by
 induction A with
 | nil=>rfl
 | cons l r ih=>simp [eX,ih]
theorem tu {L:List Int} {k:Nat} {x:Int} (h:L[k]?=some x):eX (L.take (k+1))=eX (L.take k)++(Lib.itoa x++[32]):=by
 rw [List.take_add_one,h,pK];simp [eX]
theorem wN (k:ByteArray) (q d:Int) (t:ByteArray) (n:Int):fH (k,q,d,t,n)=k.data.toList++[32]++eX [q,d,n,(t.size:Int)]++t.data.toList:=by
 simp [fH,eX]
theorem oR:∀(L:List Int),(∀x ∈ L,-1000000≤x∧x≤1000000)→(eX L).length≤22*L.length
 | [],_=>by simp [eX]
 | l :: r,h=>by
  have hl:=h l (by simp)
  have h1:=Lib.itoa_length_le l (by omega) (by omega)
  have h2:=oR r (fun x hx=>h x (by simp [hx]))
  simp only [eX,List.length_append,List.length_cons]
  omega
theorem xD (B b:Nat) (l:List UInt8) (k t:ByteArray) (q d n:Int) (W w:World) (h:cF B b W w l) (hB:B≤W.heap.size) (hl:l.length≤10000) (hok:cN (k,q,d,t,n)=true)
 (hT : Lib.TabBelow Tryz.prog B W "internal/strconv.uint64pow10" .u64 Lib.pow10Tab) :
 Calls Tryz.prog 94 #[.pointer (pT b),.agg #[.string k,iT q,iT d,.string t,iT n]] w fun e w'=>e=.returned (.tuple #[])∧cF B b W w' (l++fH (k,q,d,t,n)):=by
 obtain ⟨p1,p2,p3,p4,p5,p6,p7,p8⟩:=dX hok;simp only at p1 p2 p3 p4 p5 p6 p7 p8;have hBw:=h.size hB;have hbw:b<w.heap.size:=by
  rcases h.bld with ⟨_,v,h1,_⟩ | ⟨_,v,h1,_⟩
  · exact (Array.getElem?_eq_some_iff.1 h1).1
  · exact (Array.getElem?_eq_some_iff.1 h1).1
 have HT:=ar hT;obtain ⟨V,hV⟩:=aw (w.alloc (.cells #[.string k,iT q,iT d,.string t,iT n] 59));obtain ⟨X,hX⟩:=aw w.heap.size;have hh:cF B b W V l:=h.below hB (by rw [hV];exact bZ);have HH:Hid (cF B b W V l):=hh;have hXb:X≠b:=by omega
 have HX:Hid (V.heap[X]?=some (.cells #[.string k,iT q,iT d,.string t,iT n] 59 (0,0))):=by show V.heap[X]?=_;rw [hV,hX];exact Array.getElem?_push_size
 have hBV:B≤V.heap.size:=hh.size hB;have c0:V.cell? ⟨X,0,none⟩=some (.string k):=by rw [Lib.cell_of_heap HX.out];rfl
 clear h hh hT;go_enter Tryz.func94,Tryz.ntmps94
 go_upto_region 1 with fail
 rw [← hV,← hX];clear hV hX;go_wp2_with fail
 refine (mt B b l k V V HH.out.here (by omega) hBV).mono ?_;rintro e w1 ⟨rfl,T1⟩;have T1':Hid (cF B b V w1 (l++k.data.toList)):=T1;clear T1;go_wp2_with fail
 refine (rh B b _ 32 32 V w1 T1'.out rfl (by rw [List.length_append,aN];omega) hBV).mono ?_;rintro e w2 ⟨rfl,T2⟩;obtain ⟨l2,hl2⟩:∃x,x=l++k.data.toList++[32]:=⟨_,rfl⟩;rw [← hl2] at T2;have z2:l2.length≤10009:=by rw [hl2,List.length_append,List.length_append,aN];simp;omega
 have E2:Hid (l2=l++k.data.toList++[32]):=hl2;have T2':Hid (cF B b V w2 l2):=T2;have bx:=T2.box HX.out (by decide) hXb;have c1:w2.cell? ⟨X,1,none⟩=some (iT q):=by rw [Lib.cell_of_heap bx];rfl
 have c2:w2.cell? ⟨X,2,none⟩=some (iT d):=by rw [Lib.cell_of_heap bx];rfl
 have c3:w2.cell? ⟨X,3,none⟩=some (.string t):=by rw [Lib.cell_of_heap bx];rfl
 have c4:w2.cell? ⟨X,4,none⟩=some (iT n):=by rw [Lib.cell_of_heap bx];rfl
 clear T2 hl2 T1' bx;obtain ⟨z,hz⟩:∃z:Int,z=(t.size:Int):=⟨_,rfl⟩;have EZ:Hid (z=(t.size:Int)):=hz;have hz0:-1000000≤z∧z≤1000000:=by omega
 obtain ⟨xs,hxs⟩:=aw ([q,d,n,z]);have EX:Hid (xs=[q,d,n,z]):=hxs;have HXS:Hid (∀x ∈ xs,-1000000≤x∧x≤1000000):=by
  show ∀x ∈ xs,-1000000≤x∧x≤1000000
  rw [hxs];intro x hx;simp only [List.mem_cons,List.not_mem_nil,or_false] at hx;rcases hx with rfl | rfl | rfl | rfl <;> omega
 obtain ⟨U,hU⟩:=aw (w2.alloc (.cells #[iT q,iT d,iT n,iT (t.size:Int)] 3));obtain ⟨Y,hY⟩:=aw w2.heap.size;have HY:Hid (U.heap[Y]?=some (.cells #[iT q,iT d,iT n,iT z] 3 (0,0))):=by show U.heap[Y]?=_;rw [hU,hY,hz];exact Array.getElem?_push_size
 have hU':Bl w2 U:=by rw [hU];exact bZ
 have T3:cF B b V U l2:=T2'.out.below hBV hU';have T3':Hid (cF B b V U l2):=T3;have hBU:B≤U.heap.size:=T3.size hBV;have hYb:Y≠b:=by
  have h1:=HH.out.bel.size;have h2:b<w2.heap.size:=by
   rcases T2'.out.bld with ⟨_,v,h1,_⟩ | ⟨_,v,h1,_⟩
   · exact (Array.getElem?_eq_some_iff.1 h1).1
   · exact (Array.getElem?_eq_some_iff.1 h1).1
  omega
 have HXU:Hid (U.heap[X]?=some (.cells #[.string k,iT q,iT d,.string t,iT n] 59 (0,0))):=T3.box HX.out (by decide) hXb;have hlx:xs.length=4:=by rw [hxs];rfl
 have HLX:Hid (xs.length=4):=hlx;clear T3 hU' hz hxs hlx T2';go_wp2;rw [← hU,← hY];clear hU hY;go_loopw [23] (fun i wr=>∃j:Nat,j≤4∧i=iT j∧cF B b U wr (l2++eX (xs.take j))) (fun i _=>4 - (intOf i).toNat)
 case atStart=>exact ⟨0,by omega,rfl,by simpa [eX] using T3'.out.here⟩
 case round =>
  obtain ⟨j,hj,rfl,hT⟩:=hrel;obtain ⟨l3,hl3⟩:∃x,x=l2++eX (xs.take j):=⟨_,rfl⟩;have E3:Hid (l3=l2++eX (xs.take j)):=hl3;have z3:l3.length≤10100:=by
   have h1:=oR (xs.take j) (fun x hx=>HXS.out x (List.mem_of_mem_take hx));have h2:(xs.take j).length≤j:=by simp;omega
   rw [hl3,List.length_append];omega
  rw [← hl3] at hT;have HTT:Hid (cF B b U wr l3):=hT;clear hl3;by_cases hlt:j<4
  · obtain ⟨x,hx⟩:∃x,xs[j]?=some x:=⟨xs[j]'(by rw [HLX.out];exact hlt),List.getElem?_eq_getElem _⟩;have HGX:Hid (xs[j]?=some x):=hx;have hxx:=HXS.out x (List.mem_of_getElem? hx);have by_:=hT.box HY.out (by decide) hYb;have cy:wr.cell? ⟨Y,j,none⟩=some (iT x):=by
     rw [Lib.cell_of_heap by_];have e:(#[iT q,iT d,iT n,iT z]:Array Value)=(xs.map iT).toArray:=by rw [EX.out];rfl
     rw [e];simp [hx]
    have hyl:Y<wr.heap.size:=(Array.getElem?_eq_some_iff.1 by_).1;have hti:=HT.out wr (HH.out.bel.trans (T3'.out.bel.trans hT.bel));have hltI:(j:Int)<4:=by omega
    have hzx:=Lib.itoa_length_le x (by omega) (by omega);clear hx by_ hT;go_wp2_with fail
    refine (Tryz.itoa_any x (by omega) (by omega) wr hti).mono ?_;rintro e w4 ⟨rfl,kk,os,rfl⟩;obtain ⟨w4,hw4⟩:=aw (Sort.grow (wr.drewN kk) os);have hb4:Bl wr w4:=by rw [hw4];exact Lib.below_grow _ _ (Nat.le_refl _) _ _
    rw [← hw4];have T4:Hid (cF B b U w4 l3):=HTT.out.below hBU hb4;clear hw4 hb4 HTT cy hyl hti;go_wp2_with fail
    refine (mt B b l3 ⟨(Lib.itoa x).toArray⟩ U w4 T4.out (by rw [jV];omega) hBU).mono ?_;rintro e w5 ⟨rfl,T5⟩;have T5':Hid (cF B b U w5 (l3++Lib.itoa x)):=show cF B b U w5 (l3++Lib.itoa x) from by simpa using T5
    clear T5 T4;go_wp2_with fail
    refine (rh B b _ 32 32 U w5 T5'.out rfl (by rw [List.length_append];omega) hBU).mono ?_;rintro e w6 ⟨rfl,T6⟩;go_wp2;go_roundw
    case rel =>
     refine ⟨j+1,by omega,by go_num,?_⟩;have e:l2++eX (xs.take (j+1))=l3++Lib.itoa x++[32]:=by rw [tu HGX.out,E3.out];simp
     rw [e];exact T6
    case measure=>simp [intOf];omega
  · have hj4:j=4:=by omega
    have bx:=hT.box HXU.out (by decide) hXb;have c5:wr.cell? ⟨X,3,none⟩=some (.string t):=by rw [Lib.cell_of_heap bx];rfl
    clear bx;go_wp2_with fail
    refine (mt B b l3 t U wr HTT.out (by omega) hBU).mono ?_;rintro e w7 ⟨rfl,T7⟩;go_wp2;go_end0;refine ⟨rfl,?_⟩;have e:l++fH (k,q,d,t,n)=l3++t.data.toList:=by
     rw [wN,E3.out,hj4,List.take_of_length_le (by rw [HLX.out];omega),EX.out,EZ.out,E2.out];simp
    rw [e];exact HH.out.trans (T3'.out.trans T7)
theorem jr (a : Option Addr) (len cap : Nat) (L : List ae) (w : World) (hL : an w a len cap L) (htab : Lib.TabIs Tryz.prog w "internal/strconv.uint64pow10" .u64 Lib.pow10Tab) :
 Calls Tryz.prog 54 #[.slice a len cap] w fun e w'=>e=.returned (.string (aW L))∧Bl w w':=by
 cases hp:bG L with
 | false =>
  go_enter Tryz.func54,Tryz.ntmps54
  go_wp2_with (go_at_call 93;refine (rQ _ _ _ L _ hL).mono ?_;rw [hp];rintro e w1 ⟨rfl,hb1⟩)
  go_ret;exact ⟨fL (ly hp).symm,hb1⟩
 | true =>
  obtain ⟨l1,l12,hall⟩:=cO hp;have hlen:=hL.length;obtain ⟨b0,off,rfl,hbb⟩:=hL.form (by omega);have HALL:Hid (∀e ∈ L,cN e=true):=hall;have HLEN:Hid (L.length=len):=hlen;have HL:Hid (an w (some ⟨b0,off,none⟩) len cap L):=hL;have hle:len≤12:=by omega
  have hbl:=hL.room;have hbc:=hL.big;unfold maxLen at hbc;have HP:Hid (bG L=true):=hp;have HT0:=Lib.tabBelow_of_tabIs htab;clear hall hlen l1 l12;go_enter Tryz.func54,Tryz.ntmps54
  go_wp2_with fail
  refine (rQ _ _ _ L _ hL).mono ?_;rw [hp];rintro e w1 ⟨rfl,hb1⟩;clear hL hp;obtain ⟨W,hW⟩:=aw (w1.alloc (.cells #[.pointer none,nZ] 135));obtain ⟨B,hBe⟩:=aw w1.heap.size;have hI:Lib.IsBuilder 135 5 B B [] W:=by rw [hW,hBe];exact Lib.fresh_isBuilder _ _ w1
  have T0:Hid (cF B B W W []):=⟨hI,Lib.OthersKept.refl _ _ _,Below.refl _ _⟩;have kW:Bl w1 W:=by rw [hW];exact bZ
  have hBW:B≤W.heap.size:=by rw [hBe];exact kW.size
  have hwB:w.heap.size≤B:=by rw [hBe];exact hb1.size
  have KW:Hid (Bl w W):=hb1.trans (kW.mono hb1.size);have HT : Hid (Lib.TabBelow Tryz.prog B W "internal/strconv.uint64pow10" .u64 Lib.pow10Tab) := fun w' k => HT0 w' (KW.out.trans (k.mono hwB))
  clear hI HT0 kW;go_wp2;rw [← hW,← hBe];clear hW hBe;go_loopw [11] (fun i wr=>∃j:Nat,j≤len∧i=iT j∧cF B B W wr (aT (L.take j))) (fun i _=>len - (intOf i).toNat)
  case atStart=>exact ⟨0,by omega,rfl,by simpa [aT] using T0.out⟩
  case round =>
   obtain ⟨j,hj,rfl,hT⟩:=hrel;have hb:Bl w wr:=KW.out.trans (hT.bel.mono hwB);have hz:(aT (L.take j)).length≤1920:=by
    have e1:=gD (L.take j) (fun l hl=>HALL.out l (List.mem_of_mem_take hl));have e3:(L.take j).length≤j:=by simp;omega
    omega
   obtain ⟨l,hl⟩:=aw (aT (L.take j));have EL:Hid (l=aT (L.take j)):=hl;rw [← hl] at hT hz;have HTT:Hid (cF B B W wr l):=hT;clear hl hT;by_cases hlt:j<len
   · obtain ⟨s,q,d,t,n,hg,hlw,g0,g1,g2,g3,g4⟩:=HL.out.ent hb hbb j hlt;have hlB:=HALL.out _ (List.mem_of_getElem? hg);have HG:Hid (L[j]?=some (s,q,d,t,n)):=hg;have T1:Hid (cF B B W (wr.alloc (.cells #[.string s,iT q,iT d,.string t,iT n] 59)) l):=HTT.out.below hBW bZ;have hltI:(j:Int)<(len:Int):=by omega
     have hb0:b0<wr.heap.size:=Nat.lt_of_lt_of_le hbb hb.size;clear hg hlw;go_wp2_with fail
     refine (xD B B l s t q d n W _ T1.out hBW (by omega) hlB HT.out).mono ?_;rintro e w3 ⟨rfl,T3⟩;go_wp2;go_roundw
     case rel=>exact ⟨j+1,by omega,by go_num,by rw [nC HG.out,← EL.out];exact T3⟩
     case measure=>simp [intOf];omega
   · have hjn:j=len:=by omega
     have hfull:l=aT L:=by rw [EL.out,List.take_of_length_le (by rw [HLEN.out];omega)]
     have EF:Hid (l=aT L):=hfull;have hbs:(Lib.byteCells l).length=l.length:=by simp [Lib.byteCells]
     have CL:Hid (Calls Tryz.prog 96 #[.pointer (pT B)] wr fun e w'=>e=.returned (iT (l.length:Int))∧w'=wr):=by
      have:=Tryz.Builder_Len B B (Lib.byteCells l) wr HTT.out.bld;rw [hbs] at this;exact this
     obtain ⟨N,hN⟩:∃N:Int,N=(l.length:Int):=⟨_,rfl⟩;have EN:Hid (N=(l.length:Int)):=hN;have hN0:0≤N∧N≤1920:=by omega
     rw [← hN] at CL;have hti:=HT.out wr HTT.out.bel;obtain ⟨Z,hZ⟩:=aw (eM N);have EZ:Hid (Z=eM N):=hZ;have hZz:Z.size≤21:=by rw [hZ];exact fi N (by omega) (by omega)
     have CI:Hid (Calls Tryz.prog 95 #[iT N] wr fun e w'=>e=.returned (.string Z)∧∃k os,w'=Sort.grow (wr.drewN k) os):=by
      show Calls _ _ _ _ _
      rw [hZ];exact Tryz.itoa_any N (by omega) (by omega) wr hti
     obtain ⟨O,hO⟩:∃O:ByteArray,O=⟨l.toArray⟩:=⟨_,rfl⟩;have EO:Hid (O=⟨l.toArray⟩):=hO;have hOz:O.size≤1920:=by rw [hO,jV];exact hz
     have CS:Hid (∀w',cF B B W w' l→Calls Tryz.prog 97 #[.pointer (pT B)] w' fun e w''=>e=.returned (.string O)∧Below B w' w''):=fun w' h=>by rw [hO];exact Tryz.Builder_String_any B B l w' h.bld (h.size hBW)
     clear hfull hN hZ hO hbs hti;have q1:¬9223372036854775807<Z.size+1:=by omega
     have q2:¬9223372036854775807<Z.size+1+O.size:=by omega
     have q3:¬9223372036854775807<Z.size+1+O.size+1:=by omega
     go_wp2_with fail
     refine CL.out.mono ?_;rintro e w4 ⟨rfl,rfl⟩;go_wp2_with fail
     refine CI.out.mono ?_;rintro e w5 ⟨rfl,kk,os,rfl⟩;obtain ⟨w5,hw5⟩:=aw (Sort.grow (w4.drewN kk) os);have hb5:Bl w4 w5:=by rw [hw5];exact Lib.below_grow _ _ (Nat.le_refl _) _ _
     rw [← hw5];have T5:cF B B W w5 l:=HTT.out.below hBW hb5;have K5:Hid (Bl w w5):=KW.out.trans (T5.bel.mono hwB);clear hw5 hb5;go_wp2_with fail
     refine (CS.out _ T5).mono ?_;rintro e w6 ⟨rfl,hb6⟩;go_wp2;go_ret;exact ⟨fL (by rw [jN HP.out,← EF.out];exact ph EO.out (by rw [EZ.out,EN.out])),K5.out.trans (hb6.mono hwB)⟩
end Go.Proofs.YtehiefdphnljaaaGreatDoor
