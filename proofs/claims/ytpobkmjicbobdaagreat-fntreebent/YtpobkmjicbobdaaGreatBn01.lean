/- Walks. -/
import Derived.Test.YtpobkmjicbobdaaGreatBn00
import Derived.Deep.RegionHeld3
import Derived.Deep.DeepCutAuto
import Derived.Lib.Walk
import Derived.Deep.RegionWith
import Derived.Deep.QuietTactic
import Derived.BigQuiet
namespace Go.Proofs.YtpobkmjicbobdaaGreat
set_option maxRecDepth 100000
set_option maxHeartbeats 40000000
open Go.RowKit
variable {M:List ac} {S:List Int} {e:ac} {k:Nat} {q s:Int}
def bW (M:List ac) (q:Int):Bool:=M.all (fun e=>decide (e.2.1≤q))
theorem rY (h:bW (M.take k) q=true) (hk:M[k]?=some e) (he:e.2.1≤q):bW (M.take (k+1)) q=true:=by
 unfold bW at h ⊢;rw [List.take_add_one,hk];simp only [Option.toList,List.all_append,h,List.all_cons,List.all_nil,Bool.and_true,Bool.true_and];exact decide_eq_true he
theorem vN (hk:M[k]?=some e) (he:¬e.2.1≤q):bW M q=false:=by
 unfold bW;rw [Bool.eq_false_iff];intro h;rw [List.all_eq_true] at h;exact he (of_decide_eq_true (h e (List.mem_of_getElem? hk)))
def cP (S:List Int) (q:Int) (i:Nat):Bool :=
 match S[i]? with
 | none=>true
 | some s=>decide (0≤s) && (decide (s≤q) && (match i with | 0=>true | j+1=>match S[j]? with | none=>true | some p=>decide (p<s)))
def iL (S:List Int) (q:Int) (k:Nat):Prop:=∀j,j<k→cP S q j=true
def cu (S:List Int) (q:Int):Bool:=decide (S.length≤4) && (List.range S.length).all (cP S q)
theorem uh (h:4<S.length):cu S q=false:=by
 unfold cu;rw [decide_eq_false (by omega)];rfl
theorem ia (hk:k<S.length) (h:cP S q k=false):cu S q=false:=by
 unfold cu;rw [Bool.and_eq_false_iff];right
 rw [Bool.eq_false_iff];intro h1;rw [List.all_eq_true] at h1;rw [h1 k (List.mem_range.2 hk)] at h;cases h
theorem qj (h:iL S q S.length):cu S q=decide (S.length≤4):=by
 unfold cu;have:(List.range S.length).all (cP S q)=true:=by
  rw [List.all_eq_true];intro j hj;exact h j (List.mem_range.1 hj)
 rw [this,Bool.and_true]
theorem iu (h:iL S q k) (hk:cP S q k=true):iL S q (k+1):=by
 intro j hj;by_cases e:j=k
 · subst e;exact hk
 · exact h j (by omega)
theorem lU (h:S[0]?=some s):cP S q 0=(decide (0≤s) && decide (s≤q)):=by
 unfold cP;rw [h];simp
theorem jr {p:Int} {j:Nat} (h:S[j+1]?=some s) (hp:S[j]?=some p):cP S q (j+1)=(decide (0≤s) && (decide (s≤q) && decide (p<s))):=by
 unfold cP;simp only [h,hp]
theorem sJ (h:S[k]?=some s) (hs:s<0):cP S q k=false:=by
 unfold cP;rw [h];simp only;rw [decide_eq_false (by omega)];rfl
theorem ql (h:S[k]?=some s) (hs:q<s):cP S q k=false:=by
 unfold cP;rw [h];simp only;rw [decide_eq_false (p:=s≤q) (by omega)];simp
theorem eL (s:ByteArray) (w:World) (hs:s.size≤maxLen) :
 Calls Tryz.prog 199 #[.string s] w fun e w'=>e=.returned (.bool (fl s))∧w'=w:=by
 unfold maxLen at hs;go_enter Tryz.func199,Tryz.ntmps199
 go_wp2;go_loop [3] (fun i=>∃k:Nat,k≤s.size∧i=iT k∧(s.data.toList.take k).all gH=true) (fun i=>s.size - (intOf i).toNat)
 case atStart=>exact ⟨0,Nat.zero_le _,rfl,rfl⟩
 case round =>
  obtain ⟨k,hk,rfl,hall⟩:=hrel;have HA:Hid ((s.data.toList.take k).all gH=true):=hall;clear hall;by_cases hlt:k<s.size
  · cases hb:gH s[k] with
    | true =>
     have h3:=qy hb;have HB:Hid (gH s[k]=true):=hb;clear hb;rcases h3 with ⟨h31,h32⟩ | ⟨h31,h32⟩
     · go_wp2;go_round
       case rel=>exact ⟨k+1,by omega,by go_num,gV s k hlt HA.out HB.out⟩
       case measure=>simp [intOf];omega
     · go_wp2;go_round
       case rel=>exact ⟨k+1,by omega,by go_num,gV s k hlt HA.out HB.out⟩
       case measure=>simp [intOf];omega
    | false =>
     have h3:=oT hb;have HB:Hid (gH s[k]=false):=hb;clear hb;rcases h3 with h3 | ⟨h3,h4⟩ | h3
     · go_wp2;go_ret;exact ⟨af (fV s k hlt HB.out).symm,rfl⟩
     · go_wp2;go_ret;exact ⟨af (fV s k hlt HB.out).symm,rfl⟩
     · go_wp2;go_ret;exact ⟨af (fV s k hlt HB.out).symm,rfl⟩
  · go_wp2;all_goals
     go_ret;refine ⟨af ?_,rfl⟩;rw [mM s k (by omega) HA.out];first | exact Aj _ (by omega) | exact A4 _ (by omega)
theorem xd (b:Int) (w:World) (h:(97≤b∧b≤122)∨(47≤b∧b≤57)):Calls Tryz.prog 160 #[.int .u8 b] w fun e w'=>e=.returned (.bool true)∧w'=w:=by
 rcases h with ⟨h1,h2⟩ | ⟨h1,h2⟩
 · go_enter Tryz.func160,Tryz.ntmps160
   go_wp2;all_goals
    go_ret;exact ⟨rfl,rfl⟩
 · by_cases h3:b=47
   · subst h3;go_enter Tryz.func160,Tryz.ntmps160
     go_wp2;all_goals
      go_ret;exact ⟨rfl,rfl⟩
   · have h4:48≤b:=by omega
     go_enter Tryz.func160,Tryz.ntmps160
     go_wp2;all_goals
      go_ret;exact ⟨rfl,rfl⟩
theorem zf (b:Int) (w:World) (h:b<47∨(57<b∧b<97)∨122<b):Calls Tryz.prog 160 #[.int .u8 b] w fun e w'=>e=.returned (.bool false)∧w'=w:=by
 have hd:(b == 47)=false:=by rw [beq_eq_false_iff_ne];omega
 have hd':¬b=47:=by omega
 rcases h with h | ⟨h,h'⟩ | h
 · go_enter Tryz.func160,Tryz.ntmps160
   go_wp2;all_goals
    go_ret;exact ⟨af (by first | rfl | (simp;omega) | simp),rfl⟩
 · go_enter Tryz.func160,Tryz.ntmps160
   go_wp2;all_goals
    go_ret;exact ⟨af (by first | rfl | (simp;omega) | simp),rfl⟩
 · go_enter Tryz.func160,Tryz.ntmps160
   go_wp2;all_goals
    go_ret;exact ⟨af (by first | rfl | (simp;omega) | simp),rfl⟩
theorem fE (s:ByteArray) (w:World) (hs:s.size≤maxLen) :
 Calls Tryz.prog 99 #[.string s] w fun e w'=>e=.returned (.bool (fl s))∧w'=w:=by
 unfold maxLen at hs;by_cases h1:s.size<1
 · go_enter Tryz.func99,Tryz.ntmps99
   go_wp2;go_ret;exact ⟨af (uM s h1).symm,rfl⟩
 by_cases h4:8<s.size
 · go_enter Tryz.func99,Tryz.ntmps99
   go_wp2;go_ret;exact ⟨af (y7 s h4).symm,rfl⟩
 go_enter Tryz.func99,Tryz.ntmps99
 go_wp2;go_loop [14] (fun i=>∃k:Nat,k≤s.size∧i=iT k∧(s.data.toList.take k).all gH=true) (fun i=>s.size - (intOf i).toNat)
 case atStart=>exact ⟨0,Nat.zero_le _,rfl,rfl⟩
 case round =>
  obtain ⟨k,hk,rfl,hall⟩:=hrel;have HA:Hid ((s.data.toList.take k).all gH=true):=hall;clear hall;by_cases hlt:k<s.size
  · cases hb:gH s[k] with
    | true =>
     have h3:=qy hb;have H3:Hid ((97≤((s[k]).toNat:Int)∧((s[k]).toNat:Int)≤122)∨(47≤((s[k]).toNat:Int)∧((s[k]).toNat:Int)≤57)):=h3;have HB:Hid (gH s[k]=true):=hb;clear hb h3;go_wp2_with (go_at_call 160;refine (xd _ _ H3.out).mono ?_;rintro e w' ⟨rfl,rfl⟩)
     go_round
     case rel=>exact ⟨k+1,by omega,by go_num,gV s k hlt HA.out HB.out⟩
     case measure=>simp [intOf];omega
    | false =>
     have h3:=oT hb;have H3:Hid (((s[k]).toNat:Int)<47∨(57<((s[k]).toNat:Int)∧((s[k]).toNat:Int)<97)∨122<((s[k]).toNat:Int)):=h3;have HB:Hid (gH s[k]=false):=hb;clear hb h3;go_wp2_with (go_at_call 160;refine (zf _ _ H3.out).mono ?_;rintro e w' ⟨rfl,rfl⟩)
     go_ret;exact ⟨af (fV s k hlt HB.out).symm,rfl⟩
  · go_wp2;go_ret;exact ⟨af (ze s (by omega) (by omega) k (by omega) HA.out).symm,rfl⟩
theorem re (k t:ByteArray) (q d n:Int) (w:World) (hs:k.size≤maxLen) (ht:t.size≤maxLen) :
 Calls Tryz.prog 143 #[.agg #[.string k,iT q,iT d,.string t,iT n]] w fun e w'=>e=.returned (.bool (cX k q d t n))∧Bl w w':=by
 have ht':=ht;unfold maxLen at ht';cases hk:fl k with
 | false =>
  go_enter Tryz.func143,Tryz.ntmps143
  go_wp2_with (first | (go_at_call 199;refine (eL _ _ hs).mono ?_;rintro e w' ⟨rfl,rfl⟩) | go_in)
  go_ret;exact ⟨af (tz hk).symm,bZ⟩
 | true =>
  by_cases h1:q<1
  · go_enter Tryz.func143,Tryz.ntmps143
    go_wp2_with (first | (go_at_call 199;refine (eL _ _ hs).mono ?_;rintro e w' ⟨rfl,rfl⟩) | go_in)
    go_ret;exact ⟨af (vz h1).symm,bZ⟩
  by_cases h2:100000<q
  · go_enter Tryz.func143,Tryz.ntmps143
    go_wp2_with (first | (go_at_call 199;refine (eL _ _ hs).mono ?_;rintro e w' ⟨rfl,rfl⟩) | go_in)
    go_ret;exact ⟨af (vy h2).symm,bZ⟩
  by_cases h3:n < -1000000
  · go_enter Tryz.func143,Tryz.ntmps143
    go_wp2_with (first | (go_at_call 199;refine (eL _ _ hs).mono ?_;rintro e w' ⟨rfl,rfl⟩) | go_in)
    go_ret;exact ⟨af (vB h3).symm,bZ⟩
  by_cases h4:1000000<n
  · go_enter Tryz.func143,Tryz.ntmps143
    go_wp2_with (first | (go_at_call 199;refine (eL _ _ hs).mono ?_;rintro e w' ⟨rfl,rfl⟩) | go_in)
    go_ret;exact ⟨af (vA h4).symm,bZ⟩
  by_cases h5:60<t.size
  · go_enter Tryz.func143,Tryz.ntmps143
    go_wp2_with (first | (go_at_call 199;refine (eL _ _ hs).mono ?_;rintro e w' ⟨rfl,rfl⟩) | go_in)
    go_ret;exact ⟨af (zG h5).symm,bZ⟩
  by_cases d1:d=1
  · subst d1;go_enter Tryz.func143,Tryz.ntmps143
    go_wp2_with (first | (go_at_call 199;refine (eL _ _ hs).mono ?_;rintro e w' ⟨rfl,rfl⟩) | go_in)
    go_ret;refine ⟨af ?_,bZ⟩;rw [d9 hk (by omega) (by omega) (by omega) (by omega) (by omega)];exact nf.symm
  by_cases d2:d=2
  · subst d2;by_cases t0:t=ByteArray.empty
    · subst t0;by_cases n0:n=0
      · subst n0;go_enter Tryz.func143,Tryz.ntmps143
        go_wp2_with (first | (go_at_call 199;refine (eL _ _ hs).mono ?_;rintro e w' ⟨rfl,rfl⟩) | go_in)
        go_ret;refine ⟨af ?_,bZ⟩;rw [d9 hk (by omega) (by omega) (by omega) (by omega) (by omega)];rw [gQ];rfl
      · have n1:(n == 0)=false:=by simpa using n0
        go_enter Tryz.func143,Tryz.ntmps143
        go_wp2_with (first | (go_at_call 199;refine (eL _ _ hs).mono ?_;rintro e w' ⟨rfl,rfl⟩) | go_in)
        go_ret;refine ⟨af ?_,bZ⟩;rw [d9 hk (by omega) (by omega) (by omega) (by omega) (by omega)];rw [gQ];simp [n0]
    · have t1:=fe t0;have t2:=jo t0;go_enter Tryz.func143,Tryz.ntmps143
      go_wp2_with (first | (go_at_call 199;refine (eL _ _ hs).mono ?_;rintro e w' ⟨rfl,rfl⟩) | go_in)
      go_ret;refine ⟨af ?_,bZ⟩;rw [d9 hk (by omega) (by omega) (by omega) (by omega) (by omega)];rw [gQ];simp [t1]
  by_cases d3:d=3
  · subst d3;by_cases t0:t=ByteArray.empty
    · subst t0;go_enter Tryz.func143,Tryz.ntmps143
      go_wp2_with (first | (go_at_call 199;refine (eL _ _ hs).mono ?_;rintro e w' ⟨rfl,rfl⟩) | go_in)
      go_ret;refine ⟨af ?_,bZ⟩;rw [d9 hk (by omega) (by omega) (by omega) (by omega) (by omega)];rw [lm];rfl
    · have t1:=fe t0;have t2:=jo t0;go_enter Tryz.func143,Tryz.ntmps143
      go_wp2_with (first | (go_at_call 199;refine (eL _ _ hs).mono ?_;rintro e w' ⟨rfl,rfl⟩) | go_in)
      go_ret;refine ⟨af ?_,bZ⟩;rw [d9 hk (by omega) (by omega) (by omega) (by omega) (by omega)];rw [lm];simp [t1,t2]
  have e1:(d == 1)=false:=by simpa using d1
  have e2:(d == 2)=false:=by simpa using d2
  have e3:(d == 3)=false:=by simpa using d3
  go_enter Tryz.func143,Tryz.ntmps143
  go_wp2_with (first | (go_at_call 199;refine (eL _ _ hs).mono ?_;rintro e w' ⟨rfl,rfl⟩) | go_in)
  go_ret;refine ⟨af ?_,bZ⟩;rw [d9 hk (by omega) (by omega) (by omega) (by omega) (by omega)];exact (ng d1 d2 d3).symm
theorem xQ (W:World) (x y:Value) (t b:Nat) (hb:b=W.heap.size):(W.alloc (.cells #[x,y] t)).drew.cell? ⟨b,0,none⟩=some x:=by subst hb;simp
theorem xP (W:World) (x y:Value) (t b:Nat) (hb:b=W.heap.size):(W.alloc (.cells #[x,y] t)).drew.cell? ⟨b,1,none⟩=some y:=by subst hb;simp
theorem tZ (a b:ByteArray) (w:World) :
 Calls Tryz.prog 243 #[.string a,.string b] w fun e w'=>e=.returned (iT (Lib.compareBytes a.data.toList b.data.toList))∧w'=w:=by
 go_enter Tryz.func243,Tryz.ntmps243
 go_wp2;rw [run_callFunc_extern Tryz.func275 (by kernel_rfl) (by kernel_rfl) (by kernel_rfl) (e:=Extern.BytealgCompare.compare) (by kernel_rfl),Lib.run_compareString];simp only [Result.andThen];rw [Oper.upon_value];go_wp2;go_ret;exact ⟨rfl,rfl⟩
theorem oU (x y:Int) (w:World) :
 Calls Tryz.prog 170 #[iT x,iT y] w fun e w'=>e=.returned (iT (Lib.compareInt x y))∧w'=w:=by
 by_cases h1:x<y
 · go_enter Tryz.func170,Tryz.ntmps170
   go_wp2;go_ret;exact ⟨by simp [Lib.compareInt,h1],rfl⟩
 · by_cases h2:x > y
   · have h2':y<x:=h2;go_enter Tryz.func170,Tryz.ntmps170
     go_wp2;go_ret;exact ⟨by simp [Lib.compareInt,h1,h2],rfl⟩
   · have h3:x=y:=by omega
     subst h3;go_enter Tryz.func170,Tryz.ntmps170
     go_wp2;go_ret;exact ⟨by simp [Lib.compareInt],rfl⟩
theorem AT (x y:Int) (b c:Nat) (w:World) (g0:w.cell? ⟨b,0,none⟩=some (iT x)) (g1:w.cell? ⟨b,1,none⟩=some (iT y)) :
 Calls Tryz.prog 242 #[sL b 2 c] w fun e w'=>e=.returned (iT (if x=0 then y else x))∧w'=w:=by
 go_enter Tryz.func242,Tryz.ntmps242
 go_wp2;go_loop [8] (fun i=>(i=iT 0)∨(i=iT 1∧x=0)∨(i=iT 2∧x=0∧y=0)) (fun i=>2 - (intOf i).toNat)
 case atStart=>exact Or.inl rfl
 case round =>
  rcases hrel with rfl | ⟨rfl,rfl⟩ | ⟨rfl,rfl,rfl⟩
  · by_cases h0:x=0
    · subst h0;go_wp2;go_round
      case rel=>exact Or.inr (Or.inl ⟨by go_num,trivial⟩)
      case measure=>simp [intOf]
    · have h0':(x != 0)=true:=by simpa using h0
      go_wp2;go_ret;exact ⟨rfl,rfl⟩
  · by_cases h0:y=0
    · subst h0;go_wp2;go_round
      case rel=>exact Or.inr (Or.inr ⟨by go_num,trivial,trivial⟩)
      case measure=>simp [intOf]
    · have h0':(y != 0)=true:=by simpa using h0
      go_wp2;go_ret;exact ⟨rfl,rfl⟩
  · go_wp2;go_ret;exact ⟨rfl,rfl⟩
def jT (ka:ByteArray) (qa:Int) (kb:ByteArray) (qb:Int):Int:=if Lib.compareBytes ka.data.toList kb.data.toList=0 then Lib.compareInt qb qa else Lib.compareBytes ka.data.toList kb.data.toList
theorem qD (ka ta kb tb:ByteArray) (qa da na qb db nb:Int) (w:World) :
 Calls Tryz.prog 218 #[.agg #[.string ka,iT qa,iT da,.string ta,iT na],.agg #[.string kb,iT qb,iT db,.string tb,iT nb]] w fun e w'=>e=.returned (iT (jT ka qa kb qb))∧Bl w w':=by
 obtain ⟨C,hC⟩:=aS (Lib.compareBytes ka.data.toList kb.data.toList);obtain ⟨D,hD⟩:=aS (Lib.compareInt qb qa);have c1:∀w,Calls Tryz.prog 243 #[.string ka,.string kb] w fun e w'=>e=.returned (iT C)∧w'=w:=by rw [hC];exact tZ ka kb
 have c2:∀w,Calls Tryz.prog 170 #[iT qb,iT qa] w fun e w'=>e=.returned (iT D)∧w'=w:=by rw [hD];exact oU qb qa
 obtain ⟨O,hO⟩:=aS (if C=0 then D else C);have c3:∀b c w,w.cell? ⟨b,0,none⟩=some (iT C)→w.cell? ⟨b,1,none⟩=some (iT D)→Calls Tryz.prog 242 #[sL b 2 c] w fun e w'=>e=.returned (iT O)∧w'=w:=by
  rw [hO];exact fun b c w g0 g1=>AT C D b c w g0 g1
 unfold jT;rw [← hC,← hD,← hO];clear hC hD hO;go_enter Tryz.func218,Tryz.ntmps218
 go_wp2_with fail
 obtain ⟨X,hX⟩:=aS w.heap.size;obtain ⟨W,hW⟩:=aS ((w.alloc (.cells #[.string ka,iT qa,iT da,.string ta,iT na] 50)).alloc (.cells #[.string kb,iT qb,iT db,.string tb,iT nb] 50));have x0:W.cell? ⟨X,0,none⟩=some (.string ka):=by rw [hW,hX];simp
 have x1:W.cell? ⟨X,1,none⟩=some (iT qa):=by rw [hW,hX];simp
 have y0:W.cell? ⟨X+1,0,none⟩=some (.string kb):=by rw [hW,hX];simp
 have y1:W.cell? ⟨X+1,1,none⟩=some (iT qb):=by rw [hW,hX];simp
 have kW:Bl w W:=by rw [hW];exact bZ.alloc (by simp) _
 rw [← hW,← hX];clear hW hX;have HKW:Hid (Bl w W):=kW;clear kW;have k0:Bl W W.drew:=(Below.refl _ W).drew;have HMK:Hid (∀w',Bl W w'→(w'.cell? ⟨X,0,none⟩=some (.string ka)∧w'.cell? ⟨X,1,none⟩=some (iT qa)∧w'.cell? ⟨X+1,0,none⟩=some (.string kb)∧w'.cell? ⟨X+1,1,none⟩=some (iT qb)∧Bl W w')):=fun w' k=>⟨cell_later k x0,cell_later k x1,cell_later k y0,cell_later k y1,k⟩
 go_region_held3 (fun w'=>w'.cell? ⟨X,0,none⟩=some (.string ka)∧w'.cell? ⟨X,1,none⟩=some (iT qa)∧w'.cell? ⟨X+1,0,none⟩=some (.string kb)∧w'.cell? ⟨X+1,1,none⟩=some (iT qb)∧Bl W w') (first | exact HMK.out _ k0 | exact HMK.out _ ((Below.refl _ W).alloc (Nat.le_refl _) _).drew | exact HMK.out _ (k0.alloc (Nat.le_refl _) _)) (first
  | (go_at_call 243;refine (c1 _).mono ?_;rintro e w' ⟨rfl,rfl⟩)
  | (go_at_call 170;refine (c2 _).mono ?_;rintro e w' ⟨rfl,rfl⟩)
  | (go_at_call 242;refine (c3 _ _ _ (xQ _ _ _ _ _ (by simp)) (xP _ _ _ _ _ (by simp))).mono ?_;rintro e w' ⟨rfl,rfl⟩))
 go_wp2;go_ret;exact ⟨rfl,HKW.out.trans (((Below.refl _ W).alloc (Nat.le_refl _) _).drew.mono HKW.out.size)⟩
theorem iB (ka kb:ByteArray) (qa qb:Int):decide (jT ka qa kb qb<0)=b7 ka qa kb qb:=by
 unfold b7 jT Lib.compareInt;rcases il ka.data.toList kb.data.toList with ⟨h,h1,h2⟩ | ⟨h,h1,h2⟩ | ⟨h,h1,h2⟩
 · rw [h,h1];rfl
 · have:ka=kb:=by
    apply ByteArray.ext;exact Array.toList_inj.1 h2
   subst this;rw [h,h1];by_cases g:qb<qa
   · simp [g]
   · by_cases g':qb > qa <;> simp [g,g']
 · have:¬ka=kb:=fun e=>h2 (by rw [e])
   rw [h,h1];simp [this]
theorem oV (ka ta kb tb:ByteArray) (qa da na qb db nb:Int) (w:World) :
 Calls Tryz.prog 203 #[.agg #[.string ka,iT qa,iT da,.string ta,iT na],.agg #[.string kb,iT qb,iT db,.string tb,iT nb]] w fun e w'=>e=.returned (.bool (b7 ka qa kb qb))∧Bl w w':=by
 go_enter Tryz.func203,Tryz.ntmps203
 go_wp2_with fail
 refine (qD _ _ _ _ _ _ _ _ _ _ _).mono ?_;rintro e w1 ⟨rfl,hb1⟩;go_wp2;go_ret;exact ⟨af (iB ka kb qa qb),(bZ.alloc (by simp) _).trans (hb1.mono (by simp;omega))⟩
theorem mg (a:List UInt8):Op.bytesLess a a=false:=by
 rcases il a a with ⟨_,_,h⟩ | ⟨_,h,_⟩ | ⟨_,h,_⟩
 · exact absurd rfl h
 · exact h
 · exact h
theorem sy (ka ta kb tb:ByteArray) (qa da na qb db nb:Int) (w:World) :
 Calls Tryz.prog 144 #[.agg #[.string ka,iT qa,iT da,.string ta,iT na],.agg #[.string kb,iT qb,iT db,.string tb,iT nb]] w fun e w'=>e=.returned (.bool (b7 ka qa kb qb))∧Bl w w':=by
 by_cases he:ka=kb
 · subst he;have hl:Op.bytesLess ka.toList ka.toList=false:=mg _;by_cases hq:qb<qa
   · go_enter Tryz.func144,Tryz.ntmps144
     go_wp2;go_ret;refine ⟨af ?_,bZ.alloc (by simp) _⟩;unfold b7;rw [mg];simp [hq]
   · go_enter Tryz.func144,Tryz.ntmps144
     go_wp2;go_ret;refine ⟨af ?_,bZ.alloc (by simp) _⟩;unfold b7;rw [mg];simp [hq]
 · have hne:¬ka.toList=kb.toList:=by
    rw [ByteArray.toList_eq,ByteArray.toList_eq];intro h;exact he (ByteArray.ext (Array.toList_inj.1 h))
   cases hl:Op.bytesLess ka.toList kb.toList with
   | true =>
    go_enter Tryz.func144,Tryz.ntmps144
    go_wp2;go_ret;refine ⟨af ?_,bZ.alloc (by simp) _⟩;unfold b7;rw [ByteArray.toList_eq,ByteArray.toList_eq] at hl;simp [hl]
   | false =>
    go_enter Tryz.func144,Tryz.ntmps144
    go_wp2;go_ret;refine ⟨af ?_,bZ.alloc (by simp) _⟩;unfold b7;rw [ByteArray.toList_eq,ByteArray.toList_eq] at hl;simp [hl,he]
theorem rg (n:Nat) (w:World) (hn:n≤16) :
 Calls Tryz.prog 253 #[iT n] w fun e w'=>e=.returned (iT ((2 ^ n:Nat):Int))∧w'=w:=by
 go_enter Tryz.func253,Tryz.ntmps253
 go_wp2;go_loop [3,4] (fun o i=>∃k p:Nat,k≤n∧i=iT k∧o=iT p∧p=2 ^ k) (fun _ i=>n - (intOf i).toNat)
 case atStart=>exact ⟨0,1,Nat.zero_le _,rfl,rfl,rfl⟩
 case round =>
  obtain ⟨k,p,hk,rfl,rfl,hp⟩:=hrel;have HP:Hid (p=2 ^ k):=hp;have hp2:p≤65536:=by rw [hp];exact Nat.pow_le_pow_right (n:=2) (by omega) (by omega:k≤16)
  clear hp;by_cases hlt:k<n
  · go_wp2;go_round
    case rel=>exact ⟨k+1,p*2,by omega,by go_num,by go_num,by rw [HP.out,Nat.pow_succ]⟩
    case measure=>simp [intOf];omega
  · go_wp2;go_ret;have:k=n:=by omega
    subst this;exact ⟨kV (by have:=HP.out;subst this;simp),rfl⟩
theorem yy (a b:Nat) (w:World) (ha:a<65536) (hb:b<65536) :
 Calls Tryz.prog 236 #[iT a,iT b] w fun e w'=>e=.returned (iT ((a ||| b:Nat):Int))∧w'=w:=by
 obtain ⟨c,hc⟩:=aS (a ||| b);have hcs:c<65536:=by rw [hc];exact ic ha hb
 have HST:Hid (∀i,c / 2 ^ i=c / 2 ^ (i+1)*2+(if a / 2 ^ i % 2=1∨b / 2 ^ i % 2=1 then 1 else 0)):=by rw [hc];exact Ao a b
 rw [← hc];clear hc;go_enter Tryz.func236,Tryz.ntmps236
 go_wp2;go_loop [5,6] (fun o i=>∃(k p:Nat) (x:Int),k≤16∧x=(k:Int) - 1∧i=iT x∧o=iT p∧p=c / 2 ^ k) (fun _ i=>(intOf i+1).toNat)
 case atStart=>exact ⟨16,0,15,Nat.le_refl _,rfl,rfl,rfl,(Nat.div_eq_of_lt hcs).symm⟩
 case round =>
  obtain ⟨k,p,x,hk,hx,rfl,rfl,hp⟩:=hrel;cases k with
  | zero =>
   have hp':p=c:=by simpa using hp
   subst hp';have hx':x=-1:=by omega
   subst hx';clear hx hp;go_wp2;go_ret;exact ⟨rfl,rfl⟩
  | succ j =>
   obtain ⟨z,hz⟩:∃z:Nat,z=2 ^ j:=⟨_,rfl⟩;have hz1:0<z:=by rw [hz];exact Nat.two_pow_pos j
   have hp2:p≤65536:=by rw [hp];exact Nat.le_trans (Nat.div_le_self _ _) (by omega)
   have HB:Hid (∀w,Calls Tryz.prog 253 #[iT j] w fun e w'=>e=.returned (iT (z:Int))∧w'=w):=by rw [hz];exact fun w=>rg j w (by omega)
   have hst:=HST.out j;rw [← hp,← hz] at hst;have HS:Hid (c / z=p*2+(if a / z % 2=1∨b / z % 2=1 then 1 else 0)):=hst;have HZ:Hid (z=2 ^ j):=hz;clear hst hp hz;have hx':x=(j:Int):=by omega
   subst hx';clear hx;obtain ⟨qa,hqa⟩:∃q:Nat,q=a / z:=⟨_,rfl⟩;obtain ⟨qb,hqb⟩:∃q:Nat,q=b / z:=⟨_,rfl⟩;have eA:(a:Int) / (z:Int)=(qa:Int):=by rw [hqa];simp
   have eB:(b:Int) / (z:Int)=(qb:Int):=by rw [hqb];simp
   have la:qa<65536:=by rw [hqa];exact Nat.lt_of_le_of_lt (Nat.div_le_self _ _) ha
   have lb:qb<65536:=by rw [hqb];exact Nat.lt_of_le_of_lt (Nat.div_le_self _ _) hb
   rw [← hqa,← hqb] at HS;clear hqa hqb;by_cases h1:qa % 2=1
   · have h1':(qa:Int) % 2=1:=by omega
     go_wp2_with (go_at_call 253;refine (HB.out _).mono ?_;rintro e w' ⟨rfl,rfl⟩)
     exact ⟨⟨j,p*2+1,(j:Int) - 1,by omega,rfl,rfl,by simp,by rw [← HZ.out,HS.out,if_pos (Or.inl h1)]⟩,by simp [intOf]⟩
   · have h1':¬(qa:Int) % 2=1:=by omega
     by_cases h2:qb % 2=1
     · have h2':(qb:Int) % 2=1:=by omega
       go_wp2_with (go_at_call 253;refine (HB.out _).mono ?_;rintro e w' ⟨rfl,rfl⟩)
       exact ⟨⟨j,p*2+1,(j:Int) - 1,by omega,rfl,rfl,by simp,by rw [← HZ.out,HS.out,if_pos (Or.inr h2)]⟩,by simp [intOf]⟩
     · have h2':((qb:Int) % 2 == 1)=false:=by rw [beq_eq_false_iff_ne];omega
       have h1b:((qa:Int) % 2 == 1)=false:=by rw [beq_eq_false_iff_ne];omega
       go_wp2_with (go_at_call 253;refine (HB.out _).mono ?_;rintro e w' ⟨rfl,rfl⟩)
       exact ⟨⟨j,p*2,(j:Int) - 1,by omega,rfl,rfl,by simp,by rw [← HZ.out,HS.out,if_neg (fun g=>g.elim h1 h2)];rfl⟩,by simp [intOf]⟩
theorem yB (s:ByteArray) (w:World) (hs:s.size≤maxLen) :
 Calls Tryz.prog 237 #[.string s] w fun e w'=>e=.returned (iT ((gM s:Nat):Int))∧w'=w:=by
 unfold maxLen at hs;go_enter Tryz.func237,Tryz.ntmps237
 go_wp2;go_loop [3,4] (fun o i=>∃k h:Nat,k≤s.size∧i=iT k∧o=iT h∧h<65521∧iR (s.data.toList.take k)=h) (fun _ i=>s.size - (intOf i).toNat)
 case atStart=>exact ⟨0,7,Nat.zero_le _,rfl,rfl,by omega,rfl⟩
 case round =>
  obtain ⟨k,h,hk,rfl,rfl,hh,hh2⟩:=hrel;have HH:Hid (iR (s.data.toList.take k)=h):=hh2;clear hh2;by_cases hlt:k<s.size
  · have HC:Hid (iR (s.data.toList.take (k+1))=(31*h+(s[k]).toNat) % 65521):=by
     show iR (s.data.toList.take (k+1))=(31*h+(s[k]).toNat) % 65521
     rw [qI s k hlt,HH.out];rfl
    have hc:(s[k]).toNat<256:=(s[k]).toNat_lt;go_wp2;go_round
    case rel=>exact ⟨k+1,(31*h+(s[k]).toNat) % 65521,by omega,by go_num,by go_num,by omega,HC.out⟩
    case measure=>simp [intOf];omega
  · have hke:k=s.size:=by omega
    have HE:Hid (gM s=2 ^ (h % 16) ||| 2 ^ (h / 16 % 16)):=by
     show gM s=_
     have:=HH.out;rw [List.take_of_length_le (by simp [hke])] at this;unfold gM vp;rw [this]
    obtain ⟨x,hx⟩:=aS (h % 16);obtain ⟨y,hy⟩:=aS (h / 16 % 16);rw [← hx,← hy] at HE;have hx1:x<16:=by omega
    have hy1:y<16:=by omega
    have ex:(h:Int) % 16=(x:Int):=by omega
    have ey:(h:Int) / 16 % 16=(y:Int):=by omega
    obtain ⟨px,hpx⟩:∃p:Nat,p=2 ^ x:=⟨_,rfl⟩;obtain ⟨py,hpy⟩:∃p:Nat,p=2 ^ y:=⟨_,rfl⟩;have CX:Hid (∀w,Calls Tryz.prog 253 #[iT x] w fun e w'=>e=.returned (iT (px:Int))∧w'=w):=by rw [hpx];exact fun w=>rg x w (by omega)
    have CY:Hid (∀w,Calls Tryz.prog 253 #[iT y] w fun e w'=>e=.returned (iT (py:Int))∧w'=w):=by rw [hpy];exact fun w=>rg y w (by omega)
    have hpx1:px<65536:=by rw [hpx];exact fp hx1
    have hpy1:py<65536:=by rw [hpy];exact fp hy1
    rw [← hpx,← hpy] at HE;clear hx hy hpx hpy;have COR:Hid (∀w,Calls Tryz.prog 236 #[iT px,iT py] w fun e w'=>e=.returned (iT ((px ||| py:Nat):Int))∧w'=w):=fun w=>yy px py w hpx1 hpy1
    go_wp2_with fail
    refine (CX.out _).mono ?_;rintro e w' ⟨rfl,rfl⟩;go_wp2_with fail
    refine (CY.out _).mono ?_;rintro e w' ⟨rfl,rfl⟩;go_wp2_with fail
    refine (COR.out _).mono ?_;rintro e w' ⟨rfl,rfl⟩;go_wp2;go_ret;exact ⟨kV (by rw [HE.out]),rfl⟩
theorem vG (a b:Nat) (ha:a<65536) (hb:b<65536):bits .or .i64 (a:Int) (b:Int)=((a ||| b:Nat):Int):=by
 have hc:=ic ha hb;have e:(BitVec.ofInt 64 (a:Int) ||| BitVec.ofInt 64 (b:Int)).toNat=a ||| b:=by
  simp [BitVec.toNat_or];rw [Nat.mod_eq_of_lt (by omega),Nat.mod_eq_of_lt (by omega)]
 have e2:IntKind.i64.wrap (((a ||| b:Nat)):Int)=((a ||| b:Nat):Int):=by
  rw [IntWalk.i64_left];generalize a ||| b=y at hc
  unfold wrap64;omega
 show IntKind.i64.wrap ((BitVec.ofInt 64 (a:Int) ||| BitVec.ofInt 64 (b:Int)).toNat:Int)=_
 rw [e,e2]
theorem sS (x:Nat) (hx:x<16):wrap64 (2 ^ x)=((2 ^ x:Nat):Int):=by
 have hp:=fp hx;have:(2 ^ x:Int)=((2 ^ x:Nat):Int):=by simp
 rw [this];generalize 2 ^ x=y at hp;unfold wrap64;omega
theorem zj (s:ByteArray) (w:World) (hs:s.size≤maxLen) :
 Calls Tryz.prog 244 #[.string s] w fun e w'=>e=.returned (iT ((gM s:Nat):Int))∧Bl w w':=by
 unfold maxLen at hs;go_enter Tryz.func244,Tryz.ntmps244
 go_wp2;go_loop [3,7] (fun o i=>∃k h:Nat,k≤s.size∧i=iT k∧o=iT h∧h<65521∧iR (s.data.toList.take k)=h) (fun _ i=>s.size - (intOf i).toNat)
 case atStart=>exact ⟨0,7,Nat.zero_le _,rfl,rfl,by omega,rfl⟩
 case round =>
  obtain ⟨k,h,hk,rfl,rfl,hh,hh2⟩:=hrel;have HH:Hid (iR (s.data.toList.take k)=h):=hh2;clear hh2;by_cases hlt:k<s.size
  · have HC:Hid (iR (s.data.toList.take (k+1))=(31*h+(s[k]).toNat) % 65521):=by
     show iR (s.data.toList.take (k+1))=(31*h+(s[k]).toNat) % 65521
     rw [qI s k hlt,HH.out];rfl
    have hc:(s[k]).toNat<256:=(s[k]).toNat_lt;go_wp2;go_round
    case rel=>exact ⟨k+1,(31*h+(s[k]).toNat) % 65521,by omega,by go_num,by go_num,by omega,HC.out⟩
    case measure=>simp [intOf];omega
  · have hke:k=s.size:=by omega
    have HE:Hid (gM s=2 ^ (h % 16) ||| 2 ^ (h / 16 % 16)):=by
     show gM s=_
     have:=HH.out;rw [List.take_of_length_le (by simp [hke])] at this;unfold gM vp;rw [this]
    obtain ⟨x,hx⟩:=aS (h % 16);obtain ⟨y,hy⟩:=aS (h / 16 % 16);rw [← hx,← hy] at HE;have hx1:x<16:=by omega
    have hy1:y<16:=by omega
    have ex:(h:Int) % 16=(x:Int):=by omega
    have ey:(h:Int) / 16 % 16=(y:Int):=by omega
    clear hx hy;go_wp2_with fail
    go_quiet (fail)
    go_wp2;go_ret;refine ⟨kV ?_,below_drewN (Below.refl _ _) _⟩;rw [sS x hx1,sS y hy1,vG _ _ (fp hx1) (fp hy1),HE.out]
end Go.Proofs.YtpobkmjicbobdaaGreat
