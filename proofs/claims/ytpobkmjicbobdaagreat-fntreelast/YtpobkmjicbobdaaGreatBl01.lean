/- Walks. -/
import Derived.Test.YtpobkmjicbobdaaGreatBl00
import Derived.Deep.RegionHeld3
import Derived.Deep.DeepCutAuto
import Derived.Lib.Walk
import Derived.Deep.RegionWith
import Derived.Deep.QuietTactic
import Derived.BigQuiet
namespace Go.Proofs.YtpobkmjicbobdaaGreat
set_option maxRecDepth 100000
set_option maxHeartbeats 40000000
open Go.RowKit
variable {M:List ac} {S:List Int} {e:ac} {fuel i k:Nat} {q s:Int} {v:Value} {w:World}
def bJ (M:List ac) (q:Int):Bool:=M.all (fun e=>decide (e.2.1≤q))
theorem rW (h:bJ (M.take k) q=true) (hk:M[k]?=some e) (b:e.2.1≤q):bJ (M.take (k+1)) q=true:=by
 unfold bJ at h ⊢;rw [Dl,hk];simp only [Option.toList,List.all_append,h,List.all_cons,List.all_nil,Bool.and_true,Bool.true_and];exact decide_eq_true b
theorem ww (hk:M[k]?=some e) (b:¬e.2.1≤q):bJ M q=false:=by
 unfold bJ;rw [D7];intro h;rw [Dn] at h;exact b (of_decide_eq_true (h e (CV hk)))
def cF (S:List Int) (q:Int) (i:Nat):Bool :=
 match S[i]? with
 | none=>true
 | some s=>decide (0≤s) && (decide (s≤q) && (match i with | 0=>true | j+1=>match S[j]? with | none=>true | some p=>decide (p<s)))
def iO (S:List Int) (q:Int) (k:Nat):Prop:=∀j,j<k→cF S q j=true
def b9 (S:List Int) (q:Int):Bool:=decide (S.length≤4) && (List.range S.length).all (cF S q)
theorem ur (h:4<S.length):b9 S q=false:=by
 unfold b9;rw [decide_eq_false (by omega)];rfl
theorem ic (hk:k<S.length) (h:cF S q k=false):b9 S q=false:=by
 unfold b9;rw [Bool.and_eq_false_iff];right
 rw [D7];intro h1;rw [Dn] at h1;rw [h1 k (DG.2 hk)] at h;cases h
theorem pV (h:iO S q S.length):b9 S q=decide (S.length≤4):=by
 unfold b9;have:(List.range S.length).all (cF S q)=true:=by
  rw [Dn];intro j b;exact h j (DG.1 b)
 rw [this,Bool.and_true]
theorem iy (h:iO S q k) (hk:cF S q k=true):iO S q (k+1):=by
 intro j b;by_cases e:j=k
 · subst e;exact hk
 · exact h j (by omega)
theorem lW (h:S[0]?=some s):cF S q 0=(decide (0≤s) && decide (s≤q)):=by
 unfold cF;rw [h];simp
theorem jw {p:Int} {j:Nat} (h:S[j+1]?=some s) (hp:S[j]?=some p):cF S q (j+1)=(decide (0≤s) && (decide (s≤q) && decide (p<s))):=by
 unfold cF;simp only [h,hp]
theorem sP (h:S[k]?=some s) (hs:s<0):cF S q k=false:=by
 unfold cF;rw [h];simp only;rw [decide_eq_false (by omega)];rfl
theorem pW (h:S[k]?=some s) (hs:q<s):cF S q k=false:=by
 unfold cF;rw [h];simp only;rw [decide_eq_false (p:=s≤q) (by omega)];simp
theorem eO (s:ByteArray) (w:World) (hs:s.size≤maxLen) :
 Calls Tryz.prog 199 #[.string s] w fun e w'=>e=.returned (.bool (fu s))∧w'=w:=by
 unfold maxLen at hs;go_enter Tryz.func199,Tryz.ntmps199
 go_wp2;go_loop [3] (fun i=>∃k:Nat,k≤s.size∧i=iT k∧(s.data.toList.take k).all gH=true) (fun i=>s.size - (intOf i).toNat)
 case atStart=>exact ⟨0,C3 _,rfl,rfl⟩
 case round =>
  obtain ⟨k,hk,rfl,d⟩:=hrel;have m:CG ((s.data.toList.take k).all gH=true):=d;clear d;by_cases b:k<s.size
  · cases hb:gH s[k] with
    | true =>
     have h3:=ql hb;have f:CG (gH s[k]=true):=hb;clear hb;rcases h3 with ⟨n,g⟩ | ⟨n,g⟩
     · go_wp2;go_round
       case rel=>exact ⟨k+1,by omega,by go_num,gX s k b m.o f.o⟩
       case measure=>simp [intOf];omega
     · go_wp2;go_round
       case rel=>exact ⟨k+1,by omega,by go_num,gX s k b m.o f.o⟩
       case measure=>simp [intOf];omega
    | false =>
     have h3:=oH hb;have f:CG (gH s[k]=false):=hb;clear hb;rcases h3 with h3 | ⟨h3,h4⟩ | h3
     · go_wp2;go_ret;exact ⟨ah (f6 s k b f.o).symm,rfl⟩
     · go_wp2;go_ret;exact ⟨ah (f6 s k b f.o).symm,rfl⟩
     · go_wp2;go_ret;exact ⟨ah (f6 s k b f.o).symm,rfl⟩
  · go_wp2;all_goals
     go_ret;refine ⟨ah ?_,rfl⟩;rw [mH s k (by omega) m.o];first | exact Ai _ (by omega) | exact Bd _ (by omega)
theorem xA (b:Int) (w:World) (h:(97≤b∧b≤122)∨(47≤b∧b≤57)):Calls Tryz.prog 160 #[.int .u8 b] w fun e w'=>e=.returned (.bool true)∧w'=w:=by
 rcases h with ⟨h1,h2⟩ | ⟨h1,h2⟩
 · go_enter Tryz.func160,Tryz.ntmps160
   go_wp2;all_goals
    go_ret;exact ⟨rfl,rfl⟩
 · by_cases h3:b=47
   · subst h3;go_enter Tryz.func160,Tryz.ntmps160
     go_wp2;all_goals
      go_ret;exact ⟨rfl,rfl⟩
   · have h4:48≤b:=by omega
     go_enter Tryz.func160,Tryz.ntmps160
     go_wp2;all_goals
      go_ret;exact ⟨rfl,rfl⟩
theorem zp (b:Int) (w:World) (h:b<47∨(57<b∧b<97)∨122<b):Calls Tryz.prog 160 #[.int .u8 b] w fun e w'=>e=.returned (.bool false)∧w'=w:=by
 have hd:(b == 47)=false:=by rw [beq_eq_false_iff_ne];omega
 have d:¬b=47:=by omega
 rcases h with h | ⟨h,f⟩ | h
 · go_enter Tryz.func160,Tryz.ntmps160
   go_wp2;all_goals
    go_ret;exact ⟨ah (by first | rfl | (simp;omega) | simp),rfl⟩
 · go_enter Tryz.func160,Tryz.ntmps160
   go_wp2;all_goals
    go_ret;exact ⟨ah (by first | rfl | (simp;omega) | simp),rfl⟩
 · go_enter Tryz.func160,Tryz.ntmps160
   go_wp2;all_goals
    go_ret;exact ⟨ah (by first | rfl | (simp;omega) | simp),rfl⟩
theorem fM (s:ByteArray) (w:World) (hs:s.size≤maxLen) :
 Calls Tryz.prog 99 #[.string s] w fun e w'=>e=.returned (.bool (fu s))∧w'=w:=by
 unfold maxLen at hs;by_cases h1:s.size<1
 · go_enter Tryz.func99,Tryz.ntmps99
   go_wp2;go_ret;exact ⟨ah (uV s h1).symm,rfl⟩
 by_cases h4:8<s.size
 · go_enter Tryz.func99,Tryz.ntmps99
   go_wp2;go_ret;exact ⟨ah (zm s h4).symm,rfl⟩
 go_enter Tryz.func99,Tryz.ntmps99
 go_wp2;go_loop [14] (fun i=>∃k:Nat,k≤s.size∧i=iT k∧(s.data.toList.take k).all gH=true) (fun i=>s.size - (intOf i).toNat)
 case atStart=>exact ⟨0,C3 _,rfl,rfl⟩
 case round =>
  obtain ⟨k,hk,rfl,b⟩:=hrel;have m:CG ((s.data.toList.take k).all gH=true):=b;clear b;by_cases d:k<s.size
  · cases hb:gH s[k] with
    | true =>
     have h3:=ql hb;have g:CG ((97≤((s[k]).toNat:Int)∧((s[k]).toNat:Int)≤122)∨(47≤((s[k]).toNat:Int)∧((s[k]).toNat:Int)≤57)):=h3;have f:CG (gH s[k]=true):=hb;clear hb h3;go_wp2_with (go_at_call 160;refine (xA _ _ g.o).mono ?_;rintro e w' ⟨rfl,rfl⟩)
     go_round
     case rel=>exact ⟨k+1,by omega,by go_num,gX s k d m.o f.o⟩
     case measure=>simp [intOf];omega
    | false =>
     have h3:=oH hb;have g:CG (((s[k]).toNat:Int)<47∨(57<((s[k]).toNat:Int)∧((s[k]).toNat:Int)<97)∨122<((s[k]).toNat:Int)):=h3;have f:CG (gH s[k]=false):=hb;clear hb h3;go_wp2_with (go_at_call 160;refine (zp _ _ g.o).mono ?_;rintro e w' ⟨rfl,rfl⟩)
     go_ret;exact ⟨ah (f6 s k d f.o).symm,rfl⟩
  · go_wp2;go_ret;exact ⟨ah (zo s (by omega) (by omega) k (by omega) m.o).symm,rfl⟩
theorem qV (k t:ByteArray) (q d n:Int) (w:World) (hs:k.size≤maxLen) (x:t.size≤maxLen) :
 Calls Tryz.prog 143 #[.agg #[.string k,iT q,iT d,.string t,iT n]] w fun e w'=>e=.returned (.bool (cT k q d t n))∧Bl w w':=by
 have r:=x;unfold maxLen at r;cases hk:fu k with
 | false =>
  go_enter Tryz.func143,Tryz.ntmps143
  go_wp2_with (first | (go_at_call 199;refine (eO _ _ hs).mono ?_;rintro e w' ⟨rfl,rfl⟩) | go_in)
  go_ret;exact ⟨ah (tD hk).symm,bZ⟩
 | true =>
  by_cases h1:q<1
  · go_enter Tryz.func143,Tryz.ntmps143
    go_wp2_with (first | (go_at_call 199;refine (eO _ _ hs).mono ?_;rintro e w' ⟨rfl,rfl⟩) | go_in)
    go_ret;exact ⟨ah (vQ h1).symm,bZ⟩
  by_cases h2:100000<q
  · go_enter Tryz.func143,Tryz.ntmps143
    go_wp2_with (first | (go_at_call 199;refine (eO _ _ hs).mono ?_;rintro e w' ⟨rfl,rfl⟩) | go_in)
    go_ret;exact ⟨ah (vP h2).symm,bZ⟩
  by_cases h3:n < -1000000
  · go_enter Tryz.func143,Tryz.ntmps143
    go_wp2_with (first | (go_at_call 199;refine (eO _ _ hs).mono ?_;rintro e w' ⟨rfl,rfl⟩) | go_in)
    go_ret;exact ⟨ah (vS h3).symm,bZ⟩
  by_cases h4:1000000<n
  · go_enter Tryz.func143,Tryz.ntmps143
    go_wp2_with (first | (go_at_call 199;refine (eO _ _ hs).mono ?_;rintro e w' ⟨rfl,rfl⟩) | go_in)
    go_ret;exact ⟨ah (vR h4).symm,bZ⟩
  by_cases h5:60<t.size
  · go_enter Tryz.func143,Tryz.ntmps143
    go_wp2_with (first | (go_at_call 199;refine (eO _ _ hs).mono ?_;rintro e w' ⟨rfl,rfl⟩) | go_in)
    go_ret;exact ⟨ah (zK h5).symm,bZ⟩
  by_cases f:d=1
  · subst f;go_enter Tryz.func143,Tryz.ntmps143
    go_wp2_with (first | (go_at_call 199;refine (eO _ _ hs).mono ?_;rintro e w' ⟨rfl,rfl⟩) | go_in)
    go_ret;refine ⟨ah ?_,bZ⟩;rw [d5 hk (by omega) (by omega) (by omega) (by omega) (by omega)];exact mW.symm
  by_cases g:d=2
  · subst g;by_cases t0:t=ByteArray.empty
    · subst t0;by_cases m:n=0
      · subst m;go_enter Tryz.func143,Tryz.ntmps143
        go_wp2_with (first | (go_at_call 199;refine (eO _ _ hs).mono ?_;rintro e w' ⟨rfl,rfl⟩) | go_in)
        go_ret;refine ⟨ah ?_,bZ⟩;rw [d5 hk (by omega) (by omega) (by omega) (by omega) (by omega)];rw [gQ];rfl
      · have B:(n == 0)=false:=by simpa using m
        go_enter Tryz.func143,Tryz.ntmps143
        go_wp2_with (first | (go_at_call 199;refine (eO _ _ hs).mono ?_;rintro e w' ⟨rfl,rfl⟩) | go_in)
        go_ret;refine ⟨ah ?_,bZ⟩;rw [d5 hk (by omega) (by omega) (by omega) (by omega) (by omega)];rw [gQ];simp [m]
    · have b:=fl t0;have u:=jr t0;go_enter Tryz.func143,Tryz.ntmps143
      go_wp2_with (first | (go_at_call 199;refine (eO _ _ hs).mono ?_;rintro e w' ⟨rfl,rfl⟩) | go_in)
      go_ret;refine ⟨ah ?_,bZ⟩;rw [d5 hk (by omega) (by omega) (by omega) (by omega) (by omega)];rw [gQ];simp [b]
  by_cases o:d=3
  · subst o;by_cases t0:t=ByteArray.empty
    · subst t0;go_enter Tryz.func143,Tryz.ntmps143
      go_wp2_with (first | (go_at_call 199;refine (eO _ _ hs).mono ?_;rintro e w' ⟨rfl,rfl⟩) | go_in)
      go_ret;refine ⟨ah ?_,bZ⟩;rw [d5 hk (by omega) (by omega) (by omega) (by omega) (by omega)];rw [ly];rfl
    · have b:=fl t0;have u:=jr t0;go_enter Tryz.func143,Tryz.ntmps143
      go_wp2_with (first | (go_at_call 199;refine (eO _ _ hs).mono ?_;rintro e w' ⟨rfl,rfl⟩) | go_in)
      go_ret;refine ⟨ah ?_,bZ⟩;rw [d5 hk (by omega) (by omega) (by omega) (by omega) (by omega)];rw [ly];simp [b,u]
  have A:(d == 1)=false:=by simpa using f
  have y:(d == 2)=false:=by simpa using g
  have C:(d == 3)=false:=by simpa using o
  go_enter Tryz.func143,Tryz.ntmps143
  go_wp2_with (first | (go_at_call 199;refine (eO _ _ hs).mono ?_;rintro e w' ⟨rfl,rfl⟩) | go_in)
  go_ret;refine ⟨ah ?_,bZ⟩;rw [d5 hk (by omega) (by omega) (by omega) (by omega) (by omega)];exact (mX f g o).symm
theorem x9 (W:World) (x y:Value) (t b:Nat) (hb:b=W.heap.size):(W.alloc (.cells #[x,y] t)).drew.cell? ⟨b,0,none⟩=some x:=by subst hb;simp
theorem x8 (W:World) (x y:Value) (t b:Nat) (hb:b=W.heap.size):(W.alloc (.cells #[x,y] t)).drew.cell? ⟨b,1,none⟩=some y:=by subst hb;simp
theorem uh (a b:ByteArray) (w:World) :
 Calls Tryz.prog 243 #[.string a,.string b] w fun e w'=>e=.returned (iT (Lib.compareBytes a.data.toList b.data.toList))∧w'=w:=by
 go_enter Tryz.func243,Tryz.ntmps243
 go_wp2;rw [run_callFunc_extern Tryz.func275 (by kernel_rfl) (by kernel_rfl) (by kernel_rfl) (e:=Extern.BytealgCompare.compare) (by kernel_rfl),Lib.run_compareString];simp only [Result.andThen];rw [Oper.upon_value];go_wp2;go_ret;exact ⟨rfl,rfl⟩
theorem ki (x y:Int) (w:World) :
 Calls Tryz.prog 170 #[iT x,iT y] w fun e w'=>e=.returned (iT (Lib.compareInt x y))∧w'=w:=by
 by_cases h1:x<y
 · go_enter Tryz.func170,Tryz.ntmps170
   go_wp2;go_ret;exact ⟨by simp [Lib.compareInt,h1],rfl⟩
 · by_cases h2:x > y
   · have b:y<x:=h2;go_enter Tryz.func170,Tryz.ntmps170
     go_wp2;go_ret;exact ⟨by simp [Lib.compareInt,h1,h2],rfl⟩
   · have h3:x=y:=by omega
     subst h3;go_enter Tryz.func170,Tryz.ntmps170
     go_wp2;go_ret;exact ⟨by simp [Lib.compareInt],rfl⟩
theorem BW (x y:Int) (b c:Nat) (w:World) (g:w.cell? ⟨b,0,none⟩=some (iT x)) (f:w.cell? ⟨b,1,none⟩=some (iT y)) :
 Calls Tryz.prog 242 #[sL b 2 c] w fun e w'=>e=.returned (iT (if x=0 then y else x))∧w'=w:=by
 go_enter Tryz.func242,Tryz.ntmps242
 go_wp2;go_loop [8] (fun i=>(i=iT 0)∨(i=iT 1∧x=0)∨(i=iT 2∧x=0∧y=0)) (fun i=>2 - (intOf i).toNat)
 case atStart=>exact Or.inl rfl
 case round =>
  rcases hrel with rfl | ⟨rfl,rfl⟩ | ⟨rfl,rfl,rfl⟩
  · by_cases h0:x=0
    · subst h0;go_wp2;go_round
      case rel=>exact Or.inr (Or.inl ⟨by go_num,trivial⟩)
      case measure=>simp [intOf]
    · have d:(x != 0)=true:=by simpa using h0
      go_wp2;go_ret;exact ⟨rfl,rfl⟩
  · by_cases h0:y=0
    · subst h0;go_wp2;go_round
      case rel=>exact Or.inr (Or.inr ⟨by go_num,trivial,trivial⟩)
      case measure=>simp [intOf]
    · have d:(y != 0)=true:=by simpa using h0
      go_wp2;go_ret;exact ⟨rfl,rfl⟩
  · go_wp2;go_ret;exact ⟨rfl,rfl⟩
def tg (ka:ByteArray) (qa:Int) (kb:ByteArray) (qb:Int):Int:=if Lib.compareBytes ka.data.toList kb.data.toList=0 then Lib.compareInt qb qa else Lib.compareBytes ka.data.toList kb.data.toList
theorem mg (f H d E:ByteArray) (g F x m B y:Int) (w:World) :
 Calls Tryz.prog 218 #[.agg #[.string f,iT g,iT F,.string H,iT x],.agg #[.string d,iT m,iT B,.string E,iT y]] w fun e w'=>e=.returned (iT (tg f g d m))∧Bl w w':=by
 obtain ⟨C,hC⟩:=aH (Lib.compareBytes f.data.toList d.data.toList);obtain ⟨D,hD⟩:=aH (Lib.compareInt m g);have c1:∀w,Calls Tryz.prog 243 #[.string f,.string d] w fun e w'=>e=.returned (iT C)∧w'=w:=by rw [hC];exact uh f d
 have c2:∀w,Calls Tryz.prog 170 #[iT m,iT g] w fun e w'=>e=.returned (iT D)∧w'=w:=by rw [hD];exact ki m g
 obtain ⟨O,hO⟩:=aH (if C=0 then D else C);have c3:∀b c w,w.cell? ⟨b,0,none⟩=some (iT C)→w.cell? ⟨b,1,none⟩=some (iT D)→Calls Tryz.prog 242 #[sL b 2 c] w fun e w'=>e=.returned (iT O)∧w'=w:=by
  rw [hO];exact fun b c w J K=>BW C D b c w J K
 unfold tg;rw [← hC,← hD,← hO];clear hC hD hO;go_enter Tryz.func218,Tryz.ntmps218
 go_wp2_with fail
 obtain ⟨X,t⟩:=aH w.heap.size;obtain ⟨W,r⟩:=aH ((w.alloc (.cells #[.string f,iT g,iT F,.string H,iT x] 50)).alloc (.cells #[.string d,iT m,iT B,.string E,iT y] 50));have x0:W.cell? ⟨X,0,none⟩=some (.string f):=by rw [r,t];simp
 have x1:W.cell? ⟨X,1,none⟩=some (iT g):=by rw [r,t];simp
 have y0:W.cell? ⟨X+1,0,none⟩=some (.string d):=by rw [r,t];simp
 have y1:W.cell? ⟨X+1,1,none⟩=some (iT m):=by rw [r,t];simp
 have A:Bl w W:=by rw [r];exact bZ.alloc (by simp) _
 rw [← r,← t];clear r t;have u:CG (Bl w W):=A;clear A;have I:Bl W W.drew:=(Below.refl _ W).drew;have n:CG (∀w',Bl W w'→(w'.cell? ⟨X,0,none⟩=some (.string f)∧w'.cell? ⟨X,1,none⟩=some (iT g)∧w'.cell? ⟨X+1,0,none⟩=some (.string d)∧w'.cell? ⟨X+1,1,none⟩=some (iT m)∧Bl W w')):=fun w' k=>⟨cell_later k x0,cell_later k x1,cell_later k y0,cell_later k y1,k⟩
 go_region_held3 (fun w'=>w'.cell? ⟨X,0,none⟩=some (.string f)∧w'.cell? ⟨X,1,none⟩=some (iT g)∧w'.cell? ⟨X+1,0,none⟩=some (.string d)∧w'.cell? ⟨X+1,1,none⟩=some (iT m)∧Bl W w') (first | exact n.o _ I | exact n.o _ ((Below.refl _ W).alloc (Cy _) _).drew | exact n.o _ (I.alloc (Cy _) _)) (first
  | (go_at_call 243;refine (c1 _).mono ?_;rintro e w' ⟨rfl,rfl⟩)
  | (go_at_call 170;refine (c2 _).mono ?_;rintro e w' ⟨rfl,rfl⟩)
  | (go_at_call 242;refine (c3 _ _ _ (x9 _ _ _ _ _ (by simp)) (x8 _ _ _ _ _ (by simp))).mono ?_;rintro e w' ⟨rfl,rfl⟩))
 go_wp2;go_ret;exact ⟨rfl,u.o.trans (((Below.refl _ W).alloc (Cy _) _).drew.mono u.o.size)⟩
theorem j9 (b kb:ByteArray) (d qb:Int):decide (tg b d kb qb<0)=bo b d kb qb:=by
 unfold bo tg Lib.compareInt;rcases mq b.data.toList kb.data.toList with ⟨h,h1,h2⟩ | ⟨h,h1,h2⟩ | ⟨h,h1,h2⟩
 · rw [h,h1];rfl
 · have:b=kb:=by
    apply Ef;exact Ed.1 h2
   subst this;rw [h,h1];by_cases g:qb<d
   · simp [g]
   · by_cases f:qb > d <;> simp [g,f]
 · have:¬b=kb:=fun e=>h2 (by rw [e])
   rw [h,h1];simp [this]
theorem zw (g x f r:ByteArray) (m o u d n t:Int) (w:World) :
 Calls Tryz.prog 203 #[.agg #[.string g,iT m,iT o,.string x,iT u],.agg #[.string f,iT d,iT n,.string r,iT t]] w fun e w'=>e=.returned (.bool (bo g m f d))∧Bl w w':=by
 go_enter Tryz.func203,Tryz.ntmps203
 go_wp2_with fail
 refine (mg _ _ _ _ _ _ _ _ _ _ _).mono ?_;rintro e y ⟨rfl,b⟩;go_wp2;go_ret;exact ⟨ah (j9 g f m d),(bZ.alloc (by simp) _).trans (b.mono (by simp;omega))⟩
theorem mb (a:List UInt8):Op.bytesLess a a=false:=by
 rcases mq a a with ⟨_,_,h⟩ | ⟨_,h,_⟩ | ⟨_,h,_⟩
 · exact absurd rfl h
 · exact h
 · exact h
theorem sD (b u d o:ByteArray) (g t r f n x:Int) (w:World) :
 Calls Tryz.prog 144 #[.agg #[.string b,iT g,iT t,.string u,iT r],.agg #[.string d,iT f,iT n,.string o,iT x]] w fun e w'=>e=.returned (.bool (bo b g d f))∧Bl w w':=by
 by_cases m:b=d
 · subst m;have hl:Op.bytesLess b.toList b.toList=false:=mb _;by_cases hq:f<g
   · go_enter Tryz.func144,Tryz.ntmps144
     go_wp2;go_ret;refine ⟨ah ?_,bZ.alloc (by simp) _⟩;unfold bo;rw [mb];simp [hq]
   · go_enter Tryz.func144,Tryz.ntmps144
     go_wp2;go_ret;refine ⟨ah ?_,bZ.alloc (by simp) _⟩;unfold bo;rw [mb];simp [hq]
 · have y:¬b.toList=d.toList:=by
    rw [Dp,Dp];intro h;exact m (Ef (Ed.1 h))
   cases hl:Op.bytesLess b.toList d.toList with
   | true =>
    go_enter Tryz.func144,Tryz.ntmps144
    go_wp2;go_ret;refine ⟨ah ?_,bZ.alloc (by simp) _⟩;unfold bo;rw [Dp,Dp] at hl;simp [hl]
   | false =>
    go_enter Tryz.func144,Tryz.ntmps144
    go_wp2;go_ret;refine ⟨ah ?_,bZ.alloc (by simp) _⟩;unfold bo;rw [Dp,Dp] at hl;simp [hl,m]
theorem qW (n:Nat) (w:World) (hn:n≤16) :
 Calls Tryz.prog 253 #[iT n] w fun e w'=>e=.returned (iT ((2 ^ n:Nat):Int))∧w'=w:=by
 go_enter Tryz.func253,Tryz.ntmps253
 go_wp2;go_loop [3,4] (fun o i=>∃k p:Nat,k≤n∧i=iT k∧o=iT p∧p=2 ^ k) (fun _ i=>n - (intOf i).toNat)
 case atStart=>exact ⟨0,1,C3 _,rfl,rfl,rfl⟩
 case round =>
  obtain ⟨k,p,hk,rfl,rfl,hp⟩:=hrel;have b:CG (p=2 ^ k):=hp;have f:p≤65536:=by rw [hp];exact Nat.pow_le_pow_right (n:=2) (by omega) (by omega:k≤16)
  clear hp;by_cases d:k<n
  · go_wp2;go_round
    case rel=>exact ⟨k+1,p*2,by omega,by go_num,by go_num,by rw [b.o,Nat.pow_succ]⟩
    case measure=>simp [intOf];omega
  · go_wp2;go_ret;have:k=n:=by omega
    subst this;exact ⟨lj (by have:=b.o;subst this;simp),rfl⟩
theorem yG (a b:Nat) (w:World) (ha:a<65536) (hb:b<65536) :
 Calls Tryz.prog 236 #[iT a,iT b] w fun e w'=>e=.returned (iT ((a ||| b:Nat):Int))∧w'=w:=by
 obtain ⟨c,hc⟩:=aH (a ||| b);have E:c<65536:=by rw [hc];exact ii ha hb
 have B:CG (∀i,c / 2 ^ i=c / 2 ^ (i+1)*2+(if a / 2 ^ i % 2=1∨b / 2 ^ i % 2=1 then 1 else 0)):=by rw [hc];exact Au a b
 rw [← hc];clear hc;go_enter Tryz.func236,Tryz.ntmps236
 go_wp2;go_loop [5,6] (fun o i=>∃(k p:Nat) (x:Int),k≤16∧x=(k:Int) - 1∧i=iT x∧o=iT p∧p=c / 2 ^ k) (fun _ i=>(intOf i+1).toNat)
 case atStart=>exact ⟨16,0,15,Cy _,rfl,rfl,rfl,(Nat.div_eq_of_lt E).symm⟩
 case round =>
  obtain ⟨k,p,x,hk,hx,rfl,rfl,hp⟩:=hrel;cases k with
  | zero =>
   have C:p=c:=by simpa using hp
   subst C;have m:x=-1:=by omega
   subst m;clear hx hp;go_wp2;go_ret;exact ⟨rfl,rfl⟩
  | succ j =>
   obtain ⟨z,hz⟩:∃z:Nat,z=2 ^ j:=⟨_,rfl⟩;have J:0<z:=by rw [hz];exact Nat.two_pow_pos j
   have I:p≤65536:=by rw [hp];exact C8 (Nat.div_le_self _ _) (by omega)
   have D:CG (∀w,Calls Tryz.prog 253 #[iT j] w fun e w'=>e=.returned (iT (z:Int))∧w'=w):=by rw [hz];exact fun w=>qW j w (by omega)
   have n:=B.o j;rw [← hp,← hz] at n;have u:CG (c / z=p*2+(if a / z % 2=1∨b / z % 2=1 then 1 else 0)):=n;have A:CG (z=2 ^ j):=hz;clear n hp hz;have m:x=(j:Int):=by omega
   subst m;clear hx;obtain ⟨r,d⟩:∃q:Nat,q=a / z:=⟨_,rfl⟩;obtain ⟨t,f⟩:∃q:Nat,q=b / z:=⟨_,rfl⟩;have N:(a:Int) / (z:Int)=(r:Int):=by rw [d];simp
   have L:(b:Int) / (z:Int)=(t:Int):=by rw [f];simp
   have K:r<65536:=by rw [d];exact EN (Nat.div_le_self _ _) ha
   have lb:t<65536:=by rw [f];exact EN (Nat.div_le_self _ _) hb
   rw [← d,← f] at u;clear d f;by_cases h1:r % 2=1
   · have y:(r:Int) % 2=1:=by omega
     go_wp2_with (go_at_call 253;refine (D.o _).mono ?_;rintro e w' ⟨rfl,rfl⟩)
     exact ⟨⟨j,p*2+1,(j:Int) - 1,by omega,rfl,rfl,by simp,by rw [← A.o,u.o,if_pos (Or.inl h1)]⟩,by simp [intOf]⟩
   · have y:¬(r:Int) % 2=1:=by omega
     by_cases h2:t % 2=1
     · have F:(t:Int) % 2=1:=by omega
       go_wp2_with (go_at_call 253;refine (D.o _).mono ?_;rintro e w' ⟨rfl,rfl⟩)
       exact ⟨⟨j,p*2+1,(j:Int) - 1,by omega,rfl,rfl,by simp,by rw [← A.o,u.o,if_pos (Or.inr h2)]⟩,by simp [intOf]⟩
     · have F:((t:Int) % 2 == 1)=false:=by rw [beq_eq_false_iff_ne];omega
       have H:((r:Int) % 2 == 1)=false:=by rw [beq_eq_false_iff_ne];omega
       go_wp2_with (go_at_call 253;refine (D.o _).mono ?_;rintro e w' ⟨rfl,rfl⟩)
       exact ⟨⟨j,p*2,(j:Int) - 1,by omega,rfl,rfl,by simp,by rw [← A.o,u.o,if_neg (fun g=>g.elim h1 h2)];rfl⟩,by simp [intOf]⟩
theorem yI (s:ByteArray) (w:World) (hs:s.size≤maxLen) :
 Calls Tryz.prog 237 #[.string s] w fun e w'=>e=.returned (iT ((gN s:Nat):Int))∧w'=w:=by
 unfold maxLen at hs;go_enter Tryz.func237,Tryz.ntmps237
 go_wp2;go_loop [3,4] (fun o i=>∃k h:Nat,k≤s.size∧i=iT k∧o=iT h∧h<65521∧iS (s.data.toList.take k)=h) (fun _ i=>s.size - (intOf i).toNat)
 case atStart=>exact ⟨0,7,C3 _,rfl,rfl,by omega,rfl⟩
 case round =>
  obtain ⟨k,h,hk,rfl,rfl,hh,f⟩:=hrel;have E:CG (iS (s.data.toList.take k)=h):=f;clear f;by_cases B:k<s.size
  · have H:CG (iS (s.data.toList.take (k+1))=(31*h+(s[k]).toNat) % 65521):=by
     show iS (s.data.toList.take (k+1))=(31*h+(s[k]).toNat) % 65521
     rw [qx s k B,E.o];rfl
    have hc:(s[k]).toNat<256:=(s[k]).toNat_lt;go_wp2;go_round
    case rel=>exact ⟨k+1,(31*h+(s[k]).toNat) % 65521,by omega,by go_num,by go_num,by omega,H.o⟩
    case measure=>simp [intOf];omega
  · have u:k=s.size:=by omega
    have D:CG (gN s=2 ^ (h % 16) ||| 2 ^ (h / 16 % 16)):=by
     show gN s=_
     have:=E.o;rw [C9 (by simp [u])] at this;unfold gN vG;rw [this]
    obtain ⟨x,hx⟩:=aH (h % 16);obtain ⟨y,hy⟩:=aH (h / 16 % 16);rw [← hx,← hy] at D;have A:x<16:=by omega
    have C:y<16:=by omega
    have J:(h:Int) % 16=(x:Int):=by omega
    have K:(h:Int) / 16 % 16=(y:Int):=by omega
    obtain ⟨g,b⟩:∃p:Nat,p=2 ^ x:=⟨_,rfl⟩;obtain ⟨m,d⟩:∃p:Nat,p=2 ^ y:=⟨_,rfl⟩;have I:CG (∀w,Calls Tryz.prog 253 #[iT x] w fun e w'=>e=.returned (iT (g:Int))∧w'=w):=by rw [b];exact fun w=>qW x w (by omega)
    have F:CG (∀w,Calls Tryz.prog 253 #[iT y] w fun e w'=>e=.returned (iT (m:Int))∧w'=w):=by rw [d];exact fun w=>qW y w (by omega)
    have r:g<65536:=by rw [b];exact fD A
    have n:m<65536:=by rw [d];exact fD C
    rw [← b,← d] at D;clear hx hy b d;have t:CG (∀w,Calls Tryz.prog 236 #[iT g,iT m] w fun e w'=>e=.returned (iT ((g ||| m:Nat):Int))∧w'=w):=fun w=>yG g m w r n
    go_wp2_with fail
    refine (I.o _).mono ?_;rintro e w' ⟨rfl,rfl⟩;go_wp2_with fail
    refine (F.o _).mono ?_;rintro e w' ⟨rfl,rfl⟩;go_wp2_with fail
    refine (t.o _).mono ?_;rintro e w' ⟨rfl,rfl⟩;go_wp2;go_ret;exact ⟨lj (by rw [D.o]),rfl⟩
theorem we (a b:Nat) (ha:a<65536) (hb:b<65536):bits .or .i64 (a:Int) (b:Int)=((a ||| b:Nat):Int):=by
 have hc:=ii ha hb;have e:(BitVec.ofInt 64 (a:Int) ||| BitVec.ofInt 64 (b:Int)).toNat=a ||| b:=by
  simp [BitVec.toNat_or];rw [Nat.mod_eq_of_lt (by omega),Nat.mod_eq_of_lt (by omega)]
 have d:IntKind.i64.wrap (((a ||| b:Nat)):Int)=((a ||| b:Nat):Int):=by
  rw [Dg];generalize a ||| b=y at hc
  unfold wrap64;omega
 show IntKind.i64.wrap ((BitVec.ofInt 64 (a:Int) ||| BitVec.ofInt 64 (b:Int)).toNat:Int)=_
 rw [e,d]
theorem sW (x:Nat) (hx:x<16):wrap64 (2 ^ x)=((2 ^ x:Nat):Int):=by
 have hp:=fD hx;have:(2 ^ x:Int)=((2 ^ x:Nat):Int):=by simp
 rw [this];generalize 2 ^ x=y at hp;unfold wrap64;omega
theorem zv (s:ByteArray) (w:World) (hs:s.size≤maxLen) :
 Calls Tryz.prog 244 #[.string s] w fun e w'=>e=.returned (iT ((gN s:Nat):Int))∧Bl w w':=by
 unfold maxLen at hs;go_enter Tryz.func244,Tryz.ntmps244
 go_wp2;go_loop [3,7] (fun o i=>∃k h:Nat,k≤s.size∧i=iT k∧o=iT h∧h<65521∧iS (s.data.toList.take k)=h) (fun _ i=>s.size - (intOf i).toNat)
 case atStart=>exact ⟨0,7,C3 _,rfl,rfl,by omega,rfl⟩
 case round =>
  obtain ⟨k,h,hk,rfl,rfl,hh,b⟩:=hrel;have n:CG (iS (s.data.toList.take k)=h):=b;clear b;by_cases g:k<s.size
  · have t:CG (iS (s.data.toList.take (k+1))=(31*h+(s[k]).toNat) % 65521):=by
     show iS (s.data.toList.take (k+1))=(31*h+(s[k]).toNat) % 65521
     rw [qx s k g,n.o];rfl
    have hc:(s[k]).toNat<256:=(s[k]).toNat_lt;go_wp2;go_round
    case rel=>exact ⟨k+1,(31*h+(s[k]).toNat) % 65521,by omega,by go_num,by go_num,by omega,t.o⟩
    case measure=>simp [intOf];omega
  · have m:k=s.size:=by omega
    have r:CG (gN s=2 ^ (h % 16) ||| 2 ^ (h / 16 % 16)):=by
     show gN s=_
     have:=n.o;rw [C9 (by simp [m])] at this;unfold gN vG;rw [this]
    obtain ⟨x,hx⟩:=aH (h % 16);obtain ⟨y,hy⟩:=aH (h / 16 % 16);rw [← hx,← hy] at r;have f:x<16:=by omega
    have d:y<16:=by omega
    have u:(h:Int) % 16=(x:Int):=by omega
    have A:(h:Int) / 16 % 16=(y:Int):=by omega
    clear hx hy;go_wp2_with fail
    go_quiet (fail)
    go_wp2;go_ret;refine ⟨lj ?_,below_drewN (Below.refl _ _) _⟩;rw [sW x f,sW y d,we _ _ (fD f) (fD d),r.o]
theorem ir {P:Program} {l:List Oper} {Q:Exit→Act→World→Prop} {d:Region.Mode} {S:World→Prop} {f:Oper} {b:Array Bool} {a:Act} (hi:l[i]?=some f)
 (hs:Region.noSelect l.toArray=true) (hf:Region.free d l.toArray b i=true) (hr:(Region.ready d l.toArray b).contains i=true)
 (hQ:∀c a w,Q (.panic c) (a.put f.dst v) w→Q (.panic c) a w) (hy:YieldsIf P l.toArray S f v a) (hS:S w)
 (h:wpAnyH P d l.toArray Q S fuel (b.setIfInBounds i true) (a.put f.dst v) w):wpAnyH P d l.toArray Q S (fuel+1) b a w :=
 wpAnyH_take (by simpa using hi) hs hf hr hQ hy hS h
theorem tkL {P:Program} {l:List Oper} {Q:Exit→Act→World→Prop} {d:Region.Mode} {S:World→Prop} (i:Nat) {oi:Oper} {v:Value} {fuel:Nat} {b:Array Bool} {a:Act} {w:World} (hS:S w)
 (h:wpAnyH P d l.toArray Q S fuel (b.setIfInBounds i true) (a.put oi.dst v) w) (hi:l[i]?=some oi:=by exact rfl) (hs:Region.noSelect l.toArray=true:=by kernel_rfl) (hf:Region.free d l.toArray b i=true:=by kernel_rfl) (hr:(Region.ready d l.toArray b).contains i=true:=by kernel_rfl)
 (hQ:∀c a w,Q (.panic c) (a.put oi.dst v) w→Q (.panic c) a w:=by exact fun _ _ _ h=>h) (hy:YieldsIf P l.toArray S oi v a:=by (refine Or.inl ⟨by rfl,?_⟩;intro w f;(try dsimp only at f);go_simp;try with_reducible rfl)):wpAnyH P d l.toArray Q S (fuel+1) b a w :=
 ir hi hs hf hr hQ hy hS h
theorem tkN {P:Program} {l:List Oper} {Q:Exit→Act→World→Prop} {d:Region.Mode} {S:World→Prop} (i:Nat) {oi:Oper} {fuel:Nat} {b:Array Bool} {a:Act} {w:World} (hS:S w)
 (h:wpAnyH P d l.toArray Q S fuel (b.setIfInBounds i true) (a.put oi.dst undef) w) (hi:l[i]?=some oi:=by exact rfl) (hs:Region.noSelect l.toArray=true:=by kernel_rfl) (hf:Region.free d l.toArray b i=true:=by kernel_rfl) (hr:(Region.ready d l.toArray b).contains i=true:=by kernel_rfl)
 (hQ:∀c a w,Q (.panic c) (a.put oi.dst undef) w→Q (.panic c) a w:=by exact fun _ _ _ h=>h) (hy:YieldsIf P l.toArray S oi undef a:=by exact Or.inr ⟨by rfl,rfl⟩):wpAnyH P d l.toArray Q S (fuel+1) b a w :=
 ir hi hs hf hr hQ hy hS h
theorem qI {P:Program} {l:List Oper} {Q:Exit→Act→World→Prop} {d:Region.Mode} {S:World→Prop} {b:Array Bool} {a:Act} {o:Oper} {g:List Nat} (ho:l[i]?=some o)
 (h:∀f:Act→World→Prop,CN (∀a w,S w→(S w→wpAnyH P d l.toArray Q S fuel (b.setIfInBounds i true) a w)→f a w)→if Region.wanted o (yielded l.toArray a.tmps)=true then Oper.wp P o a w f Q else f (a.put o.dst undef) w)
 (hs:AllReadyH P d l.toArray Q S fuel b a w g):AllReadyH P d l.toArray Q S fuel b a w (i :: g) :=
 AllReadyH.cons (by simpa using ho) h hs
theorem aR {P:Program} {l:List Oper} {Q:Exit→Act→World→Prop} {d:Region.Mode} {S:World→Prop} (i:Nat) {o:Oper} {fuel:Nat} {b:Array Bool} {a:Act} {w:World}
 (h:∀f:Act→World→Prop,CN (∀a w,S w→(S w→wpAnyH P d l.toArray Q S fuel (b.setIfInBounds i true) a w)→f a w)→if Region.wanted o (yielded l.toArray a.tmps)=true then Oper.wp P o a w f Q else f (a.put o.dst undef) w)
 (ho:l[i]?=some o:=by exact rfl) (hr:Region.ready d l.toArray b=[i]:=by kernel_rfl):wpAnyH P d l.toArray Q S (fuel+1) b a w :=
 wpAnyH_ready hr (by simp) (qI ho h AllReadyH.nil)
def qK (P:Program) (md:Region.Mode) (l:List Oper) (Q:Exit → Act → World → Prop) (S:World → Prop) (fuel:Nat) (w:World):Nat → Nat → Array Bool → Act → Prop
 | 0,_,listed,a=>wpAnyH P md l.toArray Q S fuel listed a w
 | n+1,i,listed,a=>∃oi v,(l[i]? = some oi∧Region.noSelect l.toArray=true∧Region.free md l.toArray listed i=true∧(Region.ready md l.toArray listed).contains i=true)∧(∀c a w,Q (.panic c) (a.put oi.dst v) w → Q (.panic c) a w)∧YieldsIf P l.toArray S oi v a∧qK P md l Q S fuel w n (i+1) (listed.setIfInBounds i true) (a.put oi.dst v)
theorem tk0 {P:Program} {d:Region.Mode} {l:List Oper} {Q:Exit → Act → World → Prop} {S:World → Prop} {b:Array Bool} {a:Act} (h:wpAnyH P d l.toArray Q S fuel b a w):qK P d l Q S fuel w 0 i b a:=h
theorem Cw {P:Program} {f:Region.Mode} {l:List Oper} {Q:Exit → Act → World → Prop} {S:World → Prop} {n:Nat} {b:Array Bool} {a:Act} {d:Oper} (hi:l[i]? = some d) (hs:Region.noSelect l.toArray=true) (hf:Region.free f l.toArray b i=true) (hr:(Region.ready f l.toArray b).contains i=true)
 (hQ:∀c a w,Q (.panic c) (a.put d.dst v) w → Q (.panic c) a w) (hy:YieldsIf P l.toArray S d v a) (h:qK P f l Q S fuel w n (i+1) (b.setIfInBounds i true) (a.put d.dst v)):qK P f l Q S fuel w (n+1) i b a:=⟨d,v,⟨hi,hs,hf,hr⟩,hQ,hy,h⟩
theorem Cv {P:Program} {d:Region.Mode} {l:List Oper} {Q:Exit → Act → World → Prop} {S:World → Prop} {fuel:Nat} {w:World} (hS:S w):∀(n i:Nat) (b:Array Bool) (a:Act),qK P d l Q S fuel w n i b a → wpAnyH P d l.toArray Q S (fuel+n) b a w
 | 0,_,_,_,h=>h
 | n+1,_,_,_,⟨_,_,⟨hi,hs,hf,hr⟩,hQ,hy,h⟩=>ir hi hs hf hr hQ hy hS (Cv hS n _ _ _ h)
theorem aP {P:Program} {f:Region.Mode} {l:List Oper} {Q:Exit → Act → World → Prop} {S:World → Prop} (i n:Nat) {b:Array Bool} {a:Act} {g:Prop} (hS:S w) (h:g)
 (e:g → qK P f l Q S fuel w n i b a:=by
  (intro hg; repeat (first | exact tk0 hg | ((refine Cw (v:=?_) rfl (by kernel_rfl) (by kernel_rfl) (by kernel_rfl) (fun _ _ _ h=>h) (Or.inl ⟨by rfl,?_⟩) ?_; rotate_left; · (intro w d; (try dsimp only at d); go_simp; try with_reducible rfl)); try simp only [Act.put,En,ED,Eb]) | (refine Cw (v:=undef) rfl (by kernel_rfl) (by kernel_rfl) (by kernel_rfl) (fun _ _ _ h=>h) (Or.inr ⟨by rfl,rfl⟩) ?_; try simp only [Act.put,En,ED,Eb])))):wpAnyH P f l.toArray Q S (fuel+n) b a w:=Cv hS n i b a (e h)
theorem jX {P:Program} {l:List Oper} {Q:Exit → Act → World → Prop} {f:Region.Mode} {S:World → Prop} (i j:Nat) {o p:Oper} {fuel:Nat} {b:Array Bool} {a:Act} {w:World}
 (h:∀d:Act → World → Prop,CN (∀a w,S w → (S w → wpAnyH P f l.toArray Q S fuel (b.setIfInBounds i true) a w) → d a w) → if Region.wanted o (yielded l.toArray a.tmps)=true then Oper.wp P o a w d Q else d (a.put o.dst undef) w)
 (h2:∀d:Act → World → Prop,CN (∀a w,S w → (S w → wpAnyH P f l.toArray Q S fuel (b.setIfInBounds j true) a w) → d a w) → if Region.wanted p (yielded l.toArray a.tmps)=true then Oper.wp P p a w d Q else d (a.put p.dst undef) w)
 (ho:l[i]? = some o:=by exact rfl) (hp:l[j]? = some p:=by exact rfl) (hr:Region.ready f l.toArray b=[i,j]:=by kernel_rfl):wpAnyH P f l.toArray Q S (fuel+1) b a w:=wpAnyH_ready hr (by simp) (qI ho h (qI hp h2 AllReadyH.nil))
theorem rd3 {P:Program} {l:List Oper} {Q:Exit → Act → World → Prop} {f:Region.Mode} {S:World → Prop} (i j k:Nat) {o p q:Oper} {fuel:Nat} {b:Array Bool} {a:Act} {w:World}
 (h:∀d:Act → World → Prop,CN (∀a w,S w → (S w → wpAnyH P f l.toArray Q S fuel (b.setIfInBounds i true) a w) → d a w) → if Region.wanted o (yielded l.toArray a.tmps)=true then Oper.wp P o a w d Q else d (a.put o.dst undef) w)
 (h2:∀d:Act → World → Prop,CN (∀a w,S w → (S w → wpAnyH P f l.toArray Q S fuel (b.setIfInBounds j true) a w) → d a w) → if Region.wanted p (yielded l.toArray a.tmps)=true then Oper.wp P p a w d Q else d (a.put p.dst undef) w)
 (h3:∀d:Act → World → Prop,CN (∀a w,S w → (S w → wpAnyH P f l.toArray Q S fuel (b.setIfInBounds k true) a w) → d a w) → if Region.wanted q (yielded l.toArray a.tmps)=true then Oper.wp P q a w d Q else d (a.put q.dst undef) w)
 (ho:l[i]? = some o:=by exact rfl) (hp:l[j]? = some p:=by exact rfl) (hq:l[k]? = some q:=by exact rfl) (hr:Region.ready f l.toArray b=[i,j,k]:=by kernel_rfl):wpAnyH P f l.toArray Q S (fuel+1) b a w:=wpAnyH_ready hr (by simp) (qI ho h (qI hp h2 (qI hq h3 AllReadyH.nil)))
theorem ez {P:Program} {b:Array Oper} {Q:Exit → Act → World → Prop} {id:Nat} {a:Act} {R S:World → Prop} (H:CG (∀w',R w' → S w')) (k:R w.drew) (h:S w.drew → wpAnyH P .any b Q S b.size (Array.replicate b.size false) a w.drew) (hm:P.follows .mixedOrders=true:=by kernel_rfl):(Code.region id b true).wp P Q a w:=wp_region_held_drew hm (H.o _ k) h
theorem zL {P:Program} {b:Array Oper} {Q:Exit → Act → World → Prop} {id:Nat} {a:Act} {R S:World → Prop} (H:∀w',R w' → S w') (k:R w.drew) (h:S w.drew → wpAnyH P .any b Q S b.size (Array.replicate b.size false) a w.drew) (hm:P.follows .mixedOrders=true:=by kernel_rfl):(Code.region id b true).wp P Q a w:=wp_region_held_drew hm (H _ k) h
theorem dN {P:Program} {d:Region.Mode} {l:List Oper} {Q:Exit → Act → World → Prop} {S:World → Prop} {fuel:Nat} {b:Array Bool} {a:Act} (h:Q .normal a w) (hr:Region.ready d l.toArray b=[]:=by kernel_rfl):wpAnyH P d l.toArray Q S fuel b a w:=wpAnyH_done hr h _
end Go.Proofs.YtpobkmjicbobdaaGreat
