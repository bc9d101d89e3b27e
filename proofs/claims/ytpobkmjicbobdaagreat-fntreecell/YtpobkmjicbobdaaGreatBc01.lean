/- Walks. -/
import Derived.Test.YtpobkmjicbobdaaGreatBc00
import Derived.Deep.RegionHeld3
import Derived.Deep.DeepCutAuto
import Derived.Lib.Walk
import Derived.Deep.RegionWith
import Derived.Deep.QuietTactic
import Derived.BigQuiet
namespace Go.Proofs.YtpobkmjicbobdaaGreat
set_option maxRecDepth 100000
set_option maxHeartbeats 40000000
open Go.RowKit
variable {fuel i:Nat} {v:Value} {w:World}
theorem fg (s:ByteArray) (w:World) (hs:s.size≤maxLen) :
 Calls Tryz.prog 199 #[.string s] w fun e w'=>e=.returned (.bool (fV s))∧w'=w:=by
 unfold maxLen at hs;go_enter Tryz.func199,Tryz.ntmps199
 go_wp2;go_loop [3] (fun i=>∃k:Nat,k≤s.size∧i=iT k∧(s.data.toList.take k).all ip=true) (fun i=>s.size - (intOf i).toNat)
 case atStart=>exact ⟨0,FB _,rfl,rfl⟩
 case round =>
  obtain ⟨k,hk,rfl,d⟩:=hrel;have n:Eq ((s.data.toList.take k).all ip=true):=d;clear d;by_cases b:k<s.size
  · cases hb:ip s[k] with
    | true =>
     have h3:=sc hb;have f:Eq (ip s[k]=true):=hb;clear hb;rcases h3 with ⟨g,m⟩ | ⟨g,m⟩
     · go_wp2;go_round
       case rel=>exact ⟨k+1,by omega,by go_num,iG s k b n.o f.o⟩
       case measure=>simp [intOf];omega
     · go_wp2;go_round
       case rel=>exact ⟨k+1,by omega,by go_num,iG s k b n.o f.o⟩
       case measure=>simp [intOf];omega
    | false =>
     have h3:=pU hb;have f:Eq (ip s[k]=false):=hb;clear hb;rcases h3 with h3 | ⟨h3,h4⟩ | h3
     · go_wp2;go_ret;exact ⟨aq (gU s k b f.o).symm,rfl⟩
     · go_wp2;go_ret;exact ⟨aq (gU s k b f.o).symm,rfl⟩
     · go_wp2;go_ret;exact ⟨aq (gU s k b f.o).symm,rfl⟩
  · go_wp2;all_goals
     go_ret;refine ⟨aq ?_,rfl⟩;rw [oo s k (by omega) n.o];first | exact Df _ (by omega) | exact Eg _ (by omega)
theorem zQ (b:Int) (w:World) (h:(97≤b∧b≤122)∨(47≤b∧b≤57)):Calls Tryz.prog 160 #[.int .u8 b] w fun e w'=>e=.returned (.bool true)∧w'=w:=by
 rcases h with ⟨h1,h2⟩ | ⟨h1,h2⟩
 · go_enter Tryz.func160,Tryz.ntmps160
   go_wp2;all_goals
    go_ret;exact ⟨rfl,rfl⟩
 · by_cases h3:b=47
   · subst h3;go_enter Tryz.func160,Tryz.ntmps160
     go_wp2;all_goals
      go_ret;exact ⟨rfl,rfl⟩
   · have h4:48≤b:=by omega
     go_enter Tryz.func160,Tryz.ntmps160
     go_wp2;all_goals
      go_ret;exact ⟨rfl,rfl⟩
theorem BU (b:Int) (w:World) (h:b<47∨(57<b∧b<97)∨122<b):Calls Tryz.prog 160 #[.int .u8 b] w fun e w'=>e=.returned (.bool false)∧w'=w:=by
 have hd:(b == 47)=false:=by rw [beq_eq_false_iff_ne];omega
 have d:¬b=47:=by omega
 rcases h with h | ⟨h,h'⟩ | h
 · go_enter Tryz.func160,Tryz.ntmps160
   go_wp2;all_goals
    go_ret;exact ⟨aq (by first | rfl | (simp;omega) | simp),rfl⟩
 · go_enter Tryz.func160,Tryz.ntmps160
   go_wp2;all_goals
    go_ret;exact ⟨aq (by first | rfl | (simp;omega) | simp),rfl⟩
 · go_enter Tryz.func160,Tryz.ntmps160
   go_wp2;all_goals
    go_ret;exact ⟨aq (by first | rfl | (simp;omega) | simp),rfl⟩
theorem gy (s:ByteArray) (w:World) (hs:s.size≤maxLen) :
 Calls Tryz.prog 99 #[.string s] w fun e w'=>e=.returned (.bool (fV s))∧w'=w:=by
 unfold maxLen at hs;by_cases h1:s.size<1
 · go_enter Tryz.func99,Tryz.ntmps99
   go_wp2;go_ret;exact ⟨aq (xt s h1).symm,rfl⟩
 by_cases h4:8<s.size
 · go_enter Tryz.func99,Tryz.ntmps99
   go_wp2;go_ret;exact ⟨aq (BS s h4).symm,rfl⟩
 go_enter Tryz.func99,Tryz.ntmps99
 go_wp2;go_loop [14] (fun i=>∃k:Nat,k≤s.size∧i=iT k∧(s.data.toList.take k).all ip=true) (fun i=>s.size - (intOf i).toNat)
 case atStart=>exact ⟨0,FB _,rfl,rfl⟩
 case round =>
  obtain ⟨k,hk,rfl,b⟩:=hrel;have m:Eq ((s.data.toList.take k).all ip=true):=b;clear b;by_cases d:k<s.size
  · cases hb:ip s[k] with
    | true =>
     have h3:=sc hb;have g:Eq ((97≤((s[k]).toNat:Int)∧((s[k]).toNat:Int)≤122)∨(47≤((s[k]).toNat:Int)∧((s[k]).toNat:Int)≤57)):=h3;have f:Eq (ip s[k]=true):=hb;clear hb h3;go_wp2_with (go_at_call 160;refine (zQ _ _ g.o).mono ?_;rintro e w' ⟨rfl,rfl⟩)
     go_round
     case rel=>exact ⟨k+1,by omega,by go_num,iG s k d m.o f.o⟩
     case measure=>simp [intOf];omega
    | false =>
     have h3:=pU hb;have g:Eq (((s[k]).toNat:Int)<47∨(57<((s[k]).toNat:Int)∧((s[k]).toNat:Int)<97)∨122<((s[k]).toNat:Int)):=h3;have f:Eq (ip s[k]=false):=hb;clear hb h3;go_wp2_with (go_at_call 160;refine (BU _ _ g.o).mono ?_;rintro e w' ⟨rfl,rfl⟩)
     go_ret;exact ⟨aq (gU s k d f.o).symm,rfl⟩
  · go_wp2;go_ret;exact ⟨aq (BT s (by omega) (by omega) k (by omega) m.o).symm,rfl⟩
theorem th (k t:ByteArray) (q d n:Int) (w:World) (hs:k.size≤maxLen) (u:t.size≤maxLen) :
 Calls Tryz.prog 143 #[.agg #[.string k,iT q,iT d,.string t,iT n]] w fun e w'=>e=.returned (.bool (dm k q d t n))∧Bl w w':=by
 have f:=u;unfold maxLen at f;cases hk:fV k with
 | false =>
  go_enter Tryz.func143,Tryz.ntmps143
  go_wp2_with (first | (go_at_call 199;refine (fg _ _ hs).mono ?_;rintro e w' ⟨rfl,rfl⟩) | go_in)
  go_ret;exact ⟨aq (vl hk).symm,bZ⟩
 | true =>
  by_cases h1:q<1
  · go_enter Tryz.func143,Tryz.ntmps143
    go_wp2_with (first | (go_at_call 199;refine (fg _ _ hs).mono ?_;rintro e w' ⟨rfl,rfl⟩) | go_in)
    go_ret;exact ⟨aq (yy h1).symm,bZ⟩
  by_cases h2:100000<q
  · go_enter Tryz.func143,Tryz.ntmps143
    go_wp2_with (first | (go_at_call 199;refine (fg _ _ hs).mono ?_;rintro e w' ⟨rfl,rfl⟩) | go_in)
    go_ret;exact ⟨aq (yx h2).symm,bZ⟩
  by_cases h3:n < -1000000
  · go_enter Tryz.func143,Tryz.ntmps143
    go_wp2_with (first | (go_at_call 199;refine (fg _ _ hs).mono ?_;rintro e w' ⟨rfl,rfl⟩) | go_in)
    go_ret;exact ⟨aq (yB h3).symm,bZ⟩
  by_cases h4:1000000<n
  · go_enter Tryz.func143,Tryz.ntmps143
    go_wp2_with (first | (go_at_call 199;refine (fg _ _ hs).mono ?_;rintro e w' ⟨rfl,rfl⟩) | go_in)
    go_ret;exact ⟨aq (yA h4).symm,bZ⟩
  by_cases h5:60<t.size
  · go_enter Tryz.func143,Tryz.ntmps143
    go_wp2_with (first | (go_at_call 199;refine (fg _ _ hs).mono ?_;rintro e w' ⟨rfl,rfl⟩) | go_in)
    go_ret;exact ⟨aq (Cm h5).symm,bZ⟩
  by_cases b:d=1
  · subst b;go_enter Tryz.func143,Tryz.ntmps143
    go_wp2_with (first | (go_at_call 199;refine (fg _ _ hs).mono ?_;rintro e w' ⟨rfl,rfl⟩) | go_in)
    go_ret;refine ⟨aq ?_,bZ⟩;rw [eG hk (by omega) (by omega) (by omega) (by omega) (by omega)];exact oV.symm
  by_cases o:d=2
  · subst o;by_cases t0:t=ByteArray.empty
    · subst t0;by_cases g:n=0
      · subst g;go_enter Tryz.func143,Tryz.ntmps143
        go_wp2_with (first | (go_at_call 199;refine (fg _ _ hs).mono ?_;rintro e w' ⟨rfl,rfl⟩) | go_in)
        go_ret;refine ⟨aq ?_,bZ⟩;rw [eG hk (by omega) (by omega) (by omega) (by omega) (by omega)];rw [iB];rfl
      · have x:(n == 0)=false:=by simpa using g
        go_enter Tryz.func143,Tryz.ntmps143
        go_wp2_with (first | (go_at_call 199;refine (fg _ _ hs).mono ?_;rintro e w' ⟨rfl,rfl⟩) | go_in)
        go_ret;refine ⟨aq ?_,bZ⟩;rw [eG hk (by omega) (by omega) (by omega) (by omega) (by omega)];rw [iB];simp [g]
    · have r:=fK t0;have s:=jZ t0;go_enter Tryz.func143,Tryz.ntmps143
      go_wp2_with (first | (go_at_call 199;refine (fg _ _ hs).mono ?_;rintro e w' ⟨rfl,rfl⟩) | go_in)
      go_ret;refine ⟨aq ?_,bZ⟩;rw [eG hk (by omega) (by omega) (by omega) (by omega) (by omega)];rw [iB];simp [r]
  by_cases m:d=3
  · subst m;by_cases t0:t=ByteArray.empty
    · subst t0;go_enter Tryz.func143,Tryz.ntmps143
      go_wp2_with (first | (go_at_call 199;refine (fg _ _ hs).mono ?_;rintro e w' ⟨rfl,rfl⟩) | go_in)
      go_ret;refine ⟨aq ?_,bZ⟩;rw [eG hk (by omega) (by omega) (by omega) (by omega) (by omega)];rw [mo];rfl
    · have r:=fK t0;have s:=jZ t0;go_enter Tryz.func143,Tryz.ntmps143
      go_wp2_with (first | (go_at_call 199;refine (fg _ _ hs).mono ?_;rintro e w' ⟨rfl,rfl⟩) | go_in)
      go_ret;refine ⟨aq ?_,bZ⟩;rw [eG hk (by omega) (by omega) (by omega) (by omega) (by omega)];rw [mo];simp [r,s]
  have e1:(d == 1)=false:=by simpa using b
  have e2:(d == 2)=false:=by simpa using o
  have e3:(d == 3)=false:=by simpa using m
  go_enter Tryz.func143,Tryz.ntmps143
  go_wp2_with (first | (go_at_call 199;refine (fg _ _ hs).mono ?_;rintro e w' ⟨rfl,rfl⟩) | go_in)
  go_ret;refine ⟨aq ?_,bZ⟩;rw [eG hk (by omega) (by omega) (by omega) (by omega) (by omega)];exact (oX b o m).symm
theorem Az (W:World) (x y:Value) (t b:Nat) (hb:b=W.heap.size):(W.alloc (.cells #[x,y] t)).drew.cell? ⟨b,0,none⟩=some x:=by subst hb;simp
theorem Ay (W:World) (x y:Value) (t b:Nat) (hb:b=W.heap.size):(W.alloc (.cells #[x,y] t)).drew.cell? ⟨b,1,none⟩=some y:=by subst hb;simp
theorem vV (a b:ByteArray) (w:World) :
 Calls Tryz.prog 243 #[.string a,.string b] w fun e w'=>e=.returned (iT (Lib.compareBytes a.data.toList b.data.toList))∧w'=w:=by
 go_enter Tryz.func243,Tryz.ntmps243
 go_wp2;rw [run_callFunc_extern Tryz.func275 (by kernel_rfl) (by kernel_rfl) (by kernel_rfl) (e:=Extern.BytealgCompare.compare) (by kernel_rfl),Lib.run_compareString];simp only [Result.andThen];rw [Oper.upon_value];go_wp2;go_ret;exact ⟨rfl,rfl⟩
theorem jn (x y:Int) (w:World) :
 Calls Tryz.prog 170 #[iT x,iT y] w fun e w'=>e=.returned (iT (Lib.compareInt x y))∧w'=w:=by
 by_cases h1:x<y
 · go_enter Tryz.func170,Tryz.ntmps170
   go_wp2;go_ret;exact ⟨by simp [Lib.compareInt,h1],rfl⟩
 · by_cases h2:x > y
   · have b:y<x:=h2;go_enter Tryz.func170,Tryz.ntmps170
     go_wp2;go_ret;exact ⟨by simp [Lib.compareInt,h1,h2],rfl⟩
   · have h3:x=y:=by omega
     subst h3;go_enter Tryz.func170,Tryz.ntmps170
     go_wp2;go_ret;exact ⟨by simp [Lib.compareInt],rfl⟩
theorem D4 (x y:Int) (b c:Nat) (w:World) (f:w.cell? ⟨b,0,none⟩=some (iT x)) (g:w.cell? ⟨b,1,none⟩=some (iT y)) :
 Calls Tryz.prog 242 #[sL b 2 c] w fun e w'=>e=.returned (iT (if x=0 then y else x))∧w'=w:=by
 go_enter Tryz.func242,Tryz.ntmps242
 go_wp2;go_loop [8] (fun i=>(i=iT 0)∨(i=iT 1∧x=0)∨(i=iT 2∧x=0∧y=0)) (fun i=>2 - (intOf i).toNat)
 case atStart=>exact Or.inl rfl
 case round =>
  rcases hrel with rfl | ⟨rfl,rfl⟩ | ⟨rfl,rfl,rfl⟩
  · by_cases h0:x=0
    · subst h0;go_wp2;go_round
      case rel=>exact Or.inr (Or.inl ⟨by go_num,trivial⟩)
      case measure=>simp [intOf]
    · have d:(x != 0)=true:=by simpa using h0
      go_wp2;go_ret;exact ⟨rfl,rfl⟩
  · by_cases h0:y=0
    · subst h0;go_wp2;go_round
      case rel=>exact Or.inr (Or.inr ⟨by go_num,trivial,trivial⟩)
      case measure=>simp [intOf]
    · have d:(y != 0)=true:=by simpa using h0
      go_wp2;go_ret;exact ⟨rfl,rfl⟩
  · go_wp2;go_ret;exact ⟨rfl,rfl⟩
def jM (ka:ByteArray) (qa:Int) (kb:ByteArray) (qb:Int):Int:=if Lib.compareBytes ka.data.toList kb.data.toList=0 then Lib.compareInt qb qa else Lib.compareBytes ka.data.toList kb.data.toList
theorem kP (m E g x:ByteArray) (d u y f H F:Int) (w:World) :
 Calls Tryz.prog 218 #[.agg #[.string m,iT d,iT u,.string E,iT y],.agg #[.string g,iT f,iT H,.string x,iT F]] w fun e w'=>e=.returned (iT (jM m d g f))∧Bl w w':=by
 obtain ⟨C,hC⟩:=aG (Lib.compareBytes m.data.toList g.data.toList);obtain ⟨D,hD⟩:=aG (Lib.compareInt f d);have c1:∀w,Calls Tryz.prog 243 #[.string m,.string g] w fun e w'=>e=.returned (iT C)∧w'=w:=by rw [hC];exact vV m g
 have c2:∀w,Calls Tryz.prog 170 #[iT f,iT d] w fun e w'=>e=.returned (iT D)∧w'=w:=by rw [hD];exact jn f d
 obtain ⟨O,hO⟩:=aG (if C=0 then D else C);have c3:∀b c w,w.cell? ⟨b,0,none⟩=some (iT C)→w.cell? ⟨b,1,none⟩=some (iT D)→Calls Tryz.prog 242 #[sL b 2 c] w fun e w'=>e=.returned (iT O)∧w'=w:=by
  rw [hO];exact fun b c w J I=>D4 C D b c w J I
 unfold jM;rw [← hC,← hD,← hO];clear hC hD hO;go_enter Tryz.func218,Tryz.ntmps218
 go_wp2_with fail
 obtain ⟨X,s⟩:=aG w.heap.size;obtain ⟨W,n⟩:=aG ((w.alloc (.cells #[.string m,iT d,iT u,.string E,iT y] 50)).alloc (.cells #[.string g,iT f,iT H,.string x,iT F] 50));have x0:W.cell? ⟨X,0,none⟩=some (.string m):=by rw [n,s];simp
 have x1:W.cell? ⟨X,1,none⟩=some (iT d):=by rw [n,s];simp
 have y0:W.cell? ⟨X+1,0,none⟩=some (.string g):=by rw [n,s];simp
 have y1:W.cell? ⟨X+1,1,none⟩=some (iT f):=by rw [n,s];simp
 have B:Bl w W:=by rw [n];exact bZ.alloc (by simp) _
 rw [← n,← s];clear n s;have t:Eq (Bl w W):=B;clear B;have A:Bl W W.drew:=(Below.refl _ W).drew;have r:Eq (∀w',Bl W w'→(w'.cell? ⟨X,0,none⟩=some (.string m)∧w'.cell? ⟨X,1,none⟩=some (iT d)∧w'.cell? ⟨X+1,0,none⟩=some (.string g)∧w'.cell? ⟨X+1,1,none⟩=some (iT f)∧Bl W w')):=fun w' k=>⟨cell_later k x0,cell_later k x1,cell_later k y0,cell_later k y1,k⟩
 go_region_held3 (fun w'=>w'.cell? ⟨X,0,none⟩=some (.string m)∧w'.cell? ⟨X,1,none⟩=some (iT d)∧w'.cell? ⟨X+1,0,none⟩=some (.string g)∧w'.cell? ⟨X+1,1,none⟩=some (iT f)∧Bl W w') (first | exact r.o _ A | exact r.o _ ((Below.refl _ W).alloc (Fv _) _).drew | exact r.o _ (A.alloc (Fv _) _)) (first
  | (go_at_call 243;refine (c1 _).mono ?_;rintro e w' ⟨rfl,rfl⟩)
  | (go_at_call 170;refine (c2 _).mono ?_;rintro e w' ⟨rfl,rfl⟩)
  | (go_at_call 242;refine (c3 _ _ _ (Az _ _ _ _ _ (by simp)) (Ay _ _ _ _ _ (by simp))).mono ?_;rintro e w' ⟨rfl,rfl⟩))
 go_wp2;go_ret;exact ⟨rfl,t.o.trans (((Below.refl _ W).alloc (Fv _) _).drew.mono t.o.size)⟩
theorem ib (b kb:ByteArray) (d qb:Int):decide (jM b d kb qb<0)=bI b d kb qb:=by
 unfold bI jM Lib.compareInt;rcases iW b.data.toList kb.data.toList with ⟨h,h1,h2⟩ | ⟨h,h1,h2⟩ | ⟨h,h1,h2⟩
 · rw [h,h1];rfl
 · have:b=kb:=by
    apply GX;exact GS.1 h2
   subst this;rw [h,h1];by_cases g:qb<d
   · simp [g]
   · by_cases f:qb > d <;> simp [g,f]
 · have:¬b=kb:=fun e=>h2 (by rw [e])
   rw [h,h1];simp [this]
theorem pZ (f n m t:ByteArray) (b s o g u r:Int) (w:World) :
 Calls Tryz.prog 203 #[.agg #[.string f,iT b,iT s,.string n,iT o],.agg #[.string m,iT g,iT u,.string t,iT r]] w fun e w'=>e=.returned (.bool (bI f b m g))∧Bl w w':=by
 go_enter Tryz.func203,Tryz.ntmps203
 go_wp2_with fail
 refine (kP _ _ _ _ _ _ _ _ _ _ _).mono ?_;rintro e x ⟨rfl,d⟩;go_wp2;go_ret;exact ⟨aq (ib f m b g),(bZ.alloc (by simp) _).trans (d.mono (by simp;omega))⟩
theorem mX (a:List UInt8):Op.bytesLess a a=false:=by
 rcases iW a a with ⟨_,_,h⟩ | ⟨_,h,_⟩ | ⟨_,h,_⟩
 · exact absurd rfl h
 · exact h
 · exact h
theorem ur (b r d s:ByteArray) (f o n g x u:Int) (w:World) :
 Calls Tryz.prog 144 #[.agg #[.string b,iT f,iT o,.string r,iT n],.agg #[.string d,iT g,iT x,.string s,iT u]] w fun e w'=>e=.returned (.bool (bI b f d g))∧Bl w w':=by
 by_cases m:b=d
 · subst m;have hl:Op.bytesLess b.toList b.toList=false:=mX _;by_cases hq:g<f
   · go_enter Tryz.func144,Tryz.ntmps144
     go_wp2;go_ret;refine ⟨aq ?_,bZ.alloc (by simp) _⟩;unfold bI;rw [mX];simp [hq]
   · go_enter Tryz.func144,Tryz.ntmps144
     go_wp2;go_ret;refine ⟨aq ?_,bZ.alloc (by simp) _⟩;unfold bI;rw [mX];simp [hq]
 · have t:¬b.toList=d.toList:=by
    rw [F1,F1];intro h;exact m (GX (GS.1 h))
   cases hl:Op.bytesLess b.toList d.toList with
   | true =>
    go_enter Tryz.func144,Tryz.ntmps144
    go_wp2;go_ret;refine ⟨aq ?_,bZ.alloc (by simp) _⟩;unfold bI;rw [F1,F1] at hl;simp [hl]
   | false =>
    go_enter Tryz.func144,Tryz.ntmps144
    go_wp2;go_ret;refine ⟨aq ?_,bZ.alloc (by simp) _⟩;unfold bI;rw [F1,F1] at hl;simp [hl,m]
theorem tj (n:Nat) (w:World) (hn:n≤16) :
 Calls Tryz.prog 253 #[iT n] w fun e w'=>e=.returned (iT ((2 ^ n:Nat):Int))∧w'=w:=by
 go_enter Tryz.func253,Tryz.ntmps253
 go_wp2;go_loop [3,4] (fun o i=>∃k p:Nat,k≤n∧i=iT k∧o=iT p∧p=2 ^ k) (fun _ i=>n - (intOf i).toNat)
 case atStart=>exact ⟨0,1,FB _,rfl,rfl,rfl⟩
 case round =>
  obtain ⟨k,p,hk,rfl,rfl,hp⟩:=hrel;have b:Eq (p=2 ^ k):=hp;have f:p≤65536:=by rw [hp];exact Nat.pow_le_pow_right (n:=2) (by omega) (by omega:k≤16)
  clear hp;by_cases d:k<n
  · go_wp2;go_round
    case rel=>exact ⟨k+1,p*2,by omega,by go_num,by go_num,by rw [b.o,Nat.pow_succ]⟩
    case measure=>simp [intOf];omega
  · go_wp2;go_ret;have:k=n:=by omega
    subst this;exact ⟨mf (by have:=b.o;subst this;simp),rfl⟩
theorem A9 (a b:Nat) (w:World) (ha:a<65536) (hb:b<65536) :
 Calls Tryz.prog 236 #[iT a,iT b] w fun e w'=>e=.returned (iT ((a ||| b:Nat):Int))∧w'=w:=by
 obtain ⟨c,hc⟩:=aG (a ||| b);have A:c<65536:=by rw [hc];exact iN ha hb
 have D:Eq (∀i,c / 2 ^ i=c / 2 ^ (i+1)*2+(if a / 2 ^ i % 2=1∨b / 2 ^ i % 2=1 then 1 else 0)):=by rw [hc];exact Dr a b
 rw [← hc];clear hc;go_enter Tryz.func236,Tryz.ntmps236
 go_wp2;go_loop [5,6] (fun o i=>∃(k p:Nat) (x:Int),k≤16∧x=(k:Int) - 1∧i=iT x∧o=iT p∧p=c / 2 ^ k) (fun _ i=>(intOf i+1).toNat)
 case atStart=>exact ⟨16,0,15,Fv _,rfl,rfl,rfl,(Nat.div_eq_of_lt A).symm⟩
 case round =>
  obtain ⟨k,p,x,hk,hx,rfl,rfl,hp⟩:=hrel;cases k with
  | zero =>
   have B:p=c:=by simpa using hp
   subst B;have n:x=-1:=by omega
   subst n;clear hx hp;go_wp2;go_ret;exact ⟨rfl,rfl⟩
  | succ j =>
   obtain ⟨z,hz⟩:∃z:Nat,z=2 ^ j:=⟨_,rfl⟩;have H:0<z:=by rw [hz];exact Nat.two_pow_pos j
   have I:p≤65536:=by rw [hp];exact FK (Nat.div_le_self _ _) (by omega)
   have E:Eq (∀w,Calls Tryz.prog 253 #[iT j] w fun e w'=>e=.returned (iT (z:Int))∧w'=w):=by rw [hz];exact fun w=>tj j w (by omega)
   have m:=D.o j;rw [← hp,← hz] at m;have t:Eq (c / z=p*2+(if a / z % 2=1∨b / z % 2=1 then 1 else 0)):=m;have u:Eq (z=2 ^ j):=hz;clear m hp hz;have n:x=(j:Int):=by omega
   subst n;clear hx;obtain ⟨r,d⟩:∃q:Nat,q=a / z:=⟨_,rfl⟩;obtain ⟨s,f⟩:∃q:Nat,q=b / z:=⟨_,rfl⟩;have L:(a:Int) / (z:Int)=(r:Int):=by rw [d];simp
   have K:(b:Int) / (z:Int)=(s:Int):=by rw [f];simp
   have J:r<65536:=by rw [d];exact Hu (Nat.div_le_self _ _) ha
   have lb:s<65536:=by rw [f];exact Hu (Nat.div_le_self _ _) hb
   rw [← d,← f] at t;clear d f;by_cases h1:r % 2=1
   · have C:(r:Int) % 2=1:=by omega
     go_wp2_with (go_at_call 253;refine (E.o _).mono ?_;rintro e w' ⟨rfl,rfl⟩)
     exact ⟨⟨j,p*2+1,(j:Int) - 1,by omega,rfl,rfl,by simp,by rw [← u.o,t.o,if_pos (Or.inl h1)]⟩,by simp [intOf]⟩
   · have C:¬(r:Int) % 2=1:=by omega
     by_cases h2:s % 2=1
     · have y:(s:Int) % 2=1:=by omega
       go_wp2_with (go_at_call 253;refine (E.o _).mono ?_;rintro e w' ⟨rfl,rfl⟩)
       exact ⟨⟨j,p*2+1,(j:Int) - 1,by omega,rfl,rfl,by simp,by rw [← u.o,t.o,if_pos (Or.inr h2)]⟩,by simp [intOf]⟩
     · have y:((s:Int) % 2 == 1)=false:=by rw [beq_eq_false_iff_ne];omega
       have F:((r:Int) % 2 == 1)=false:=by rw [beq_eq_false_iff_ne];omega
       go_wp2_with (go_at_call 253;refine (E.o _).mono ?_;rintro e w' ⟨rfl,rfl⟩)
       exact ⟨⟨j,p*2,(j:Int) - 1,by omega,rfl,rfl,by simp,by rw [← u.o,t.o,if_neg (fun g=>g.elim h1 h2)];rfl⟩,by simp [intOf]⟩
theorem Bb (s:ByteArray) (w:World) (hs:s.size≤maxLen) :
 Calls Tryz.prog 237 #[.string s] w fun e w'=>e=.returned (iT ((iz s:Nat):Int))∧w'=w:=by
 unfold maxLen at hs;go_enter Tryz.func237,Tryz.ntmps237
 go_wp2;go_loop [3,4] (fun o i=>∃k h:Nat,k≤s.size∧i=iT k∧o=iT h∧h<65521∧jy (s.data.toList.take k)=h) (fun _ i=>s.size - (intOf i).toNat)
 case atStart=>exact ⟨0,7,FB _,rfl,rfl,by omega,rfl⟩
 case round =>
  obtain ⟨k,h,hk,rfl,rfl,hh,m⟩:=hrel;have E:Eq (jy (s.data.toList.take k)=h):=m;clear m;by_cases D:k<s.size
  · have I:Eq (jy (s.data.toList.take (k+1))=(31*h+(s[k]).toNat) % 65521):=by
     show jy (s.data.toList.take (k+1))=(31*h+(s[k]).toNat) % 65521
     rw [sD s k D,E.o];rfl
    have hc:(s[k]).toNat<256:=(s[k]).toNat_lt;go_wp2;go_round
    case rel=>exact ⟨k+1,(31*h+(s[k]).toNat) % 65521,by omega,by go_num,by go_num,by omega,I.o⟩
    case measure=>simp [intOf];omega
  · have C:k=s.size:=by omega
    have B:Eq (iz s=2 ^ (h % 16) ||| 2 ^ (h / 16 % 16)):=by
     show iz s=_
     have:=E.o;rw [FH (by simp [C])] at this;unfold iz yj;rw [this]
    obtain ⟨x,hx⟩:=aG (h % 16);obtain ⟨y,hy⟩:=aG (h / 16 % 16);rw [← hx,← hy] at B;have A:x<16:=by omega
    have u:y<16:=by omega
    have K:(h:Int) % 16=(x:Int):=by omega
    have J:(h:Int) / 16 % 16=(y:Int):=by omega
    obtain ⟨g,d⟩:∃p:Nat,p=2 ^ x:=⟨_,rfl⟩;obtain ⟨r,b⟩:∃p:Nat,p=2 ^ y:=⟨_,rfl⟩;have H:Eq (∀w,Calls Tryz.prog 253 #[iT x] w fun e w'=>e=.returned (iT (g:Int))∧w'=w):=by rw [d];exact fun w=>tj x w (by omega)
    have F:Eq (∀w,Calls Tryz.prog 253 #[iT y] w fun e w'=>e=.returned (iT (r:Int))∧w'=w):=by rw [b];exact fun w=>tj y w (by omega)
    have n:g<65536:=by rw [d];exact f8 A
    have f:r<65536:=by rw [b];exact f8 u
    rw [← d,← b] at B;clear hx hy d b;have t:Eq (∀w,Calls Tryz.prog 236 #[iT g,iT r] w fun e w'=>e=.returned (iT ((g ||| r:Nat):Int))∧w'=w):=fun w=>A9 g r w n f
    go_wp2_with fail
    refine (H.o _).mono ?_;rintro e w' ⟨rfl,rfl⟩;go_wp2_with fail
    refine (F.o _).mono ?_;rintro e w' ⟨rfl,rfl⟩;go_wp2_with fail
    refine (t.o _).mono ?_;rintro e w' ⟨rfl,rfl⟩;go_wp2;go_ret;exact ⟨mf (by rw [B.o]),rfl⟩
theorem yK (a b:Nat) (ha:a<65536) (hb:b<65536):bits .or .i64 (a:Int) (b:Int)=((a ||| b:Nat):Int):=by
 have hc:=iN ha hb;have e:(BitVec.ofInt 64 (a:Int) ||| BitVec.ofInt 64 (b:Int)).toNat=a ||| b:=by
  simp [BitVec.toNat_or];rw [Nat.mod_eq_of_lt (by omega),Nat.mod_eq_of_lt (by omega)]
 have e2:IntKind.i64.wrap (((a ||| b:Nat)):Int)=((a ||| b:Nat):Int):=by
  rw [FQ];generalize a ||| b=y at hc
  unfold wrap64;omega
 show IntKind.i64.wrap ((BitVec.ofInt 64 (a:Int) ||| BitVec.ofInt 64 (b:Int)).toNat:Int)=_
 rw [e,e2]
theorem uJ (x:Nat) (hx:x<16):wrap64 (2 ^ x)=((2 ^ x:Nat):Int):=by
 have hp:=f8 hx;have:(2 ^ x:Int)=((2 ^ x:Nat):Int):=by simp
 rw [this];generalize 2 ^ x=y at hp;unfold wrap64;omega
theorem B3 (s:ByteArray) (w:World) (hs:s.size≤maxLen) :
 Calls Tryz.prog 244 #[.string s] w fun e w'=>e=.returned (iT ((iz s:Nat):Int))∧Bl w w':=by
 unfold maxLen at hs;go_enter Tryz.func244,Tryz.ntmps244
 go_wp2;go_loop [3,7] (fun o i=>∃k h:Nat,k≤s.size∧i=iT k∧o=iT h∧h<65521∧jy (s.data.toList.take k)=h) (fun _ i=>s.size - (intOf i).toNat)
 case atStart=>exact ⟨0,7,FB _,rfl,rfl,by omega,rfl⟩
 case round =>
  obtain ⟨k,h,hk,rfl,rfl,hh,f⟩:=hrel;have r:Eq (jy (s.data.toList.take k)=h):=f;clear f;by_cases m:k<s.size
  · have t:Eq (jy (s.data.toList.take (k+1))=(31*h+(s[k]).toNat) % 65521):=by
     show jy (s.data.toList.take (k+1))=(31*h+(s[k]).toNat) % 65521
     rw [sD s k m,r.o];rfl
    have hc:(s[k]).toNat<256:=(s[k]).toNat_lt;go_wp2;go_round
    case rel=>exact ⟨k+1,(31*h+(s[k]).toNat) % 65521,by omega,by go_num,by go_num,by omega,t.o⟩
    case measure=>simp [intOf];omega
  · have g:k=s.size:=by omega
    have n:Eq (iz s=2 ^ (h % 16) ||| 2 ^ (h / 16 % 16)):=by
     show iz s=_
     have:=r.o;rw [FH (by simp [g])] at this;unfold iz yj;rw [this]
    obtain ⟨x,hx⟩:=aG (h % 16);obtain ⟨y,hy⟩:=aG (h / 16 % 16);rw [← hx,← hy] at n;have d:x<16:=by omega
    have b:y<16:=by omega
    have A:(h:Int) % 16=(x:Int):=by omega
    have u:(h:Int) / 16 % 16=(y:Int):=by omega
    clear hx hy;go_wp2_with fail
    go_quiet (fail)
    go_wp2;go_ret;refine ⟨mf ?_,below_drewN (Below.refl _ _) _⟩;rw [uJ x d,uJ y b,yK _ _ (f8 d) (f8 b),n.o]
theorem iZ {P:Program} {l:List Oper} {Q:Exit→Act→World→Prop} {d:Region.Mode} {S:World→Prop} {e:Oper} {b:Array Bool} {a:Act} (hi:l[i]?=some e)
 (hs:Region.noSelect l.toArray=true) (hf:Region.free d l.toArray b i=true) (hr:(Region.ready d l.toArray b).contains i=true)
 (hQ:∀c a w,Q (.panic c) (a.put e.dst v) w→Q (.panic c) a w) (hy:YieldsIf P l.toArray S e v a) (hS:S w)
 (h:wpAnyH P d l.toArray Q S fuel (b.setIfInBounds i true) (a.put e.dst v) w):wpAnyH P d l.toArray Q S (fuel+1) b a w :=
 wpAnyH_take (by simpa using hi) hs hf hr hQ hy hS h
theorem tkL {P:Program} {l:List Oper} {Q:Exit→Act→World→Prop} {d:Region.Mode} {S:World→Prop} (i:Nat) {oi:Oper} {v:Value} {fuel:Nat} {b:Array Bool} {a:Act} {w:World} (hS:S w)
 (h:wpAnyH P d l.toArray Q S fuel (b.setIfInBounds i true) (a.put oi.dst v) w) (hi:l[i]?=some oi:=by exact rfl) (hs:Region.noSelect l.toArray=true:=by kernel_rfl) (hf:Region.free d l.toArray b i=true:=by kernel_rfl) (hr:(Region.ready d l.toArray b).contains i=true:=by kernel_rfl)
 (hQ:∀c a w,Q (.panic c) (a.put oi.dst v) w→Q (.panic c) a w:=by exact fun _ _ _ h=>h) (hy:YieldsIf P l.toArray S oi v a:=by (refine Or.inl ⟨by rfl,?_⟩;intro w e;(try dsimp only at e);go_simp;try with_reducible rfl)):wpAnyH P d l.toArray Q S (fuel+1) b a w :=
 iZ hi hs hf hr hQ hy hS h
theorem tkN {P:Program} {l:List Oper} {Q:Exit→Act→World→Prop} {d:Region.Mode} {S:World→Prop} (i:Nat) {oi:Oper} {fuel:Nat} {b:Array Bool} {a:Act} {w:World} (hS:S w)
 (h:wpAnyH P d l.toArray Q S fuel (b.setIfInBounds i true) (a.put oi.dst undef) w) (hi:l[i]?=some oi:=by exact rfl) (hs:Region.noSelect l.toArray=true:=by kernel_rfl) (hf:Region.free d l.toArray b i=true:=by kernel_rfl) (hr:(Region.ready d l.toArray b).contains i=true:=by kernel_rfl)
 (hQ:∀c a w,Q (.panic c) (a.put oi.dst undef) w→Q (.panic c) a w:=by exact fun _ _ _ h=>h) (hy:YieldsIf P l.toArray S oi undef a:=by exact Or.inr ⟨by rfl,rfl⟩):wpAnyH P d l.toArray Q S (fuel+1) b a w :=
 iZ hi hs hf hr hQ hy hS h
theorem sU {P:Program} {l:List Oper} {Q:Exit→Act→World→Prop} {d:Region.Mode} {S:World→Prop} {b:Array Bool} {a:Act} {o:Oper} {f:List Nat} (ho:l[i]?=some o)
 (h:∀e:Act→World→Prop,FA (∀a w,S w→(S w→wpAnyH P d l.toArray Q S fuel (b.setIfInBounds i true) a w)→e a w)→if Region.wanted o (yielded l.toArray a.tmps)=true then Oper.wp P o a w e Q else e (a.put o.dst undef) w)
 (hs:AllReadyH P d l.toArray Q S fuel b a w f):AllReadyH P d l.toArray Q S fuel b a w (i :: f) :=
 AllReadyH.cons (by simpa using ho) h hs
theorem aQ {P:Program} {l:List Oper} {Q:Exit→Act→World→Prop} {d:Region.Mode} {S:World→Prop} (i:Nat) {o:Oper} {fuel:Nat} {b:Array Bool} {a:Act} {w:World}
 (h:∀e:Act→World→Prop,FA (∀a w,S w→(S w→wpAnyH P d l.toArray Q S fuel (b.setIfInBounds i true) a w)→e a w)→if Region.wanted o (yielded l.toArray a.tmps)=true then Oper.wp P o a w e Q else e (a.put o.dst undef) w)
 (ho:l[i]?=some o:=by exact rfl) (hr:Region.ready d l.toArray b=[i]:=by kernel_rfl):wpAnyH P d l.toArray Q S (fuel+1) b a w :=
 wpAnyH_ready hr (by simp) (sU ho h AllReadyH.nil)
def sW (P:Program) (md:Region.Mode) (l:List Oper) (Q:Exit → Act → World → Prop) (S:World → Prop) (fuel:Nat) (w:World):Nat → Nat → Array Bool → Act → Prop
 | 0,_,listed,a=>wpAnyH P md l.toArray Q S fuel listed a w
 | n+1,i,listed,a=>∃oi v,(l[i]? = some oi∧Region.noSelect l.toArray=true∧Region.free md l.toArray listed i=true∧(Region.ready md l.toArray listed).contains i=true)∧(∀c a w,Q (.panic c) (a.put oi.dst v) w → Q (.panic c) a w)∧YieldsIf P l.toArray S oi v a∧sW P md l Q S fuel w n (i+1) (listed.setIfInBounds i true) (a.put oi.dst v)
theorem tk0 {P:Program} {d:Region.Mode} {l:List Oper} {Q:Exit → Act → World → Prop} {S:World → Prop} {b:Array Bool} {a:Act} (h:wpAnyH P d l.toArray Q S fuel b a w):sW P d l Q S fuel w 0 i b a:=h
theorem Fs {P:Program} {e:Region.Mode} {l:List Oper} {Q:Exit → Act → World → Prop} {S:World → Prop} {n:Nat} {b:Array Bool} {a:Act} {d:Oper} (hi:l[i]? = some d) (hs:Region.noSelect l.toArray=true) (hf:Region.free e l.toArray b i=true) (hr:(Region.ready e l.toArray b).contains i=true)
 (hQ:∀c a w,Q (.panic c) (a.put d.dst v) w → Q (.panic c) a w) (hy:YieldsIf P l.toArray S d v a) (h:sW P e l Q S fuel w n (i+1) (b.setIfInBounds i true) (a.put d.dst v)):sW P e l Q S fuel w (n+1) i b a:=⟨d,v,⟨hi,hs,hf,hr⟩,hQ,hy,h⟩
theorem Fr {P:Program} {d:Region.Mode} {l:List Oper} {Q:Exit → Act → World → Prop} {S:World → Prop} {fuel:Nat} {w:World} (hS:S w):∀(n i:Nat) (b:Array Bool) (a:Act),sW P d l Q S fuel w n i b a → wpAnyH P d l.toArray Q S (fuel+n) b a w
 | 0,_,_,_,h=>h
 | n+1,_,_,_,⟨_,_,⟨hi,hs,hf,hr⟩,hQ,hy,h⟩=>iZ hi hs hf hr hQ hy hS (Fr hS n _ _ _ h)
theorem aP {P:Program} {f:Region.Mode} {l:List Oper} {Q:Exit → Act → World → Prop} {S:World → Prop} (i n:Nat) {b:Array Bool} {a:Act} {g:Prop} (hS:S w) (h:g)
 (e:g → sW P f l Q S fuel w n i b a:=by
  (intro hg; repeat (first | exact tk0 hg | ((refine Fs (v:=?_) rfl (by kernel_rfl) (by kernel_rfl) (by kernel_rfl) (fun _ _ _ h=>h) (Or.inl ⟨by rfl,?_⟩) ?_; rotate_left; · (intro w d; (try dsimp only at d); go_simp; try with_reducible rfl)); try simp only [Act.put,G8,GL,GY]) | (refine Fs (v:=undef) rfl (by kernel_rfl) (by kernel_rfl) (by kernel_rfl) (fun _ _ _ h=>h) (Or.inr ⟨by rfl,rfl⟩) ?_; try simp only [Act.put,G8,GL,GY])))):wpAnyH P f l.toArray Q S (fuel+n) b a w:=Fr hS n i b a (e h)
theorem lg {P:Program} {l:List Oper} {Q:Exit → Act → World → Prop} {e:Region.Mode} {S:World → Prop} (i j:Nat) {o p:Oper} {fuel:Nat} {b:Array Bool} {a:Act} {w:World}
 (h:∀d:Act → World → Prop,FA (∀a w,S w → (S w → wpAnyH P e l.toArray Q S fuel (b.setIfInBounds i true) a w) → d a w) → if Region.wanted o (yielded l.toArray a.tmps)=true then Oper.wp P o a w d Q else d (a.put o.dst undef) w)
 (h2:∀d:Act → World → Prop,FA (∀a w,S w → (S w → wpAnyH P e l.toArray Q S fuel (b.setIfInBounds j true) a w) → d a w) → if Region.wanted p (yielded l.toArray a.tmps)=true then Oper.wp P p a w d Q else d (a.put p.dst undef) w)
 (ho:l[i]? = some o:=by exact rfl) (hp:l[j]? = some p:=by exact rfl) (hr:Region.ready e l.toArray b=[i,j]:=by kernel_rfl):wpAnyH P e l.toArray Q S (fuel+1) b a w:=wpAnyH_ready hr (by simp) (sU ho h (sU hp h2 AllReadyH.nil))
theorem rd3 {P:Program} {l:List Oper} {Q:Exit → Act → World → Prop} {e:Region.Mode} {S:World → Prop} (i j k:Nat) {o p q:Oper} {fuel:Nat} {b:Array Bool} {a:Act} {w:World}
 (h:∀d:Act → World → Prop,FA (∀a w,S w → (S w → wpAnyH P e l.toArray Q S fuel (b.setIfInBounds i true) a w) → d a w) → if Region.wanted o (yielded l.toArray a.tmps)=true then Oper.wp P o a w d Q else d (a.put o.dst undef) w)
 (h2:∀d:Act → World → Prop,FA (∀a w,S w → (S w → wpAnyH P e l.toArray Q S fuel (b.setIfInBounds j true) a w) → d a w) → if Region.wanted p (yielded l.toArray a.tmps)=true then Oper.wp P p a w d Q else d (a.put p.dst undef) w)
 (h3:∀d:Act → World → Prop,FA (∀a w,S w → (S w → wpAnyH P e l.toArray Q S fuel (b.setIfInBounds k true) a w) → d a w) → if Region.wanted q (yielded l.toArray a.tmps)=true then Oper.wp P q a w d Q else d (a.put q.dst undef) w)
 (ho:l[i]? = some o:=by exact rfl) (hp:l[j]? = some p:=by exact rfl) (hq:l[k]? = some q:=by exact rfl) (hr:Region.ready e l.toArray b=[i,j,k]:=by kernel_rfl):wpAnyH P e l.toArray Q S (fuel+1) b a w:=wpAnyH_ready hr (by simp) (sU ho h (sU hp h2 (sU hq h3 AllReadyH.nil)))
theorem eJ {P:Program} {b:Array Oper} {Q:Exit → Act → World → Prop} {id:Nat} {a:Act} {R S:World → Prop} (H:Eq (∀w',R w' → S w')) (k:R w.drew) (h:S w.drew → wpAnyH P .any b Q S b.size (Array.replicate b.size false) a w.drew) (hm:P.follows .mixedOrders=true:=by kernel_rfl):(Code.region id b true).wp P Q a w:=wp_region_held_drew hm (H.o _ k) h
theorem Co {P:Program} {b:Array Oper} {Q:Exit → Act → World → Prop} {id:Nat} {a:Act} {R S:World → Prop} (H:∀w',R w' → S w') (k:R w.drew) (h:S w.drew → wpAnyH P .any b Q S b.size (Array.replicate b.size false) a w.drew) (hm:P.follows .mixedOrders=true:=by kernel_rfl):(Code.region id b true).wp P Q a w:=wp_region_held_drew hm (H _ k) h
theorem dN {P:Program} {d:Region.Mode} {l:List Oper} {Q:Exit → Act → World → Prop} {S:World → Prop} {fuel:Nat} {b:Array Bool} {a:Act} (h:Q .normal a w) (hr:Region.ready d l.toArray b=[]:=by kernel_rfl):wpAnyH P d l.toArray Q S fuel b a w:=wpAnyH_done hr h _
theorem jO (k t:ByteArray) (q n:Int) (w:World) :
 Calls Tryz.prog 100 #[.agg #[.string k,iT q,iT 1,.string t,iT n]] w fun e w'=>e=.returned (.iface 176 (.agg #[]))∧Bl w w':=by
 go_enter Tryz.func100,Tryz.ntmps100
 go_wp2;go_ret;exact ⟨rfl,bZ⟩
theorem jP (k t:ByteArray) (q n:Int) (w:World) :
 Calls Tryz.prog 100 #[.agg #[.string k,iT q,iT 2,.string t,iT n]] w fun e w'=>e=.returned (.iface 177 (.agg #[]))∧Bl w w':=by
 go_enter Tryz.func100,Tryz.ntmps100
 go_wp2;go_ret;exact ⟨rfl,bZ⟩
theorem jQ (k t:ByteArray) (q n:Int) (w:World) :
 Calls Tryz.prog 100 #[.agg #[.string k,iT q,iT 3,.string t,iT n]] w fun e w'=>e=.returned (.iface 178 (.agg #[]))∧Bl w w':=by
 go_enter Tryz.func100,Tryz.ntmps100
 go_wp2;go_ret;exact ⟨rfl,bZ⟩
theorem ll (k t:ByteArray) (q d n:Int) (w:World) (f:¬d=1) (b:¬d=2) (g:¬d=3) :
 Calls Tryz.prog 100 #[.agg #[.string k,iT q,iT d,.string t,iT n]] w fun e w'=>e=.returned (.iface 179 (.agg #[]))∧Bl w w':=by
 have e1:(d == 1)=false:=by simpa using f
 have e2:(d == 2)=false:=by simpa using b
 have e3:(d == 3)=false:=by simpa using g
 go_enter Tryz.func100,Tryz.ntmps100
 go_wp2;go_ret;exact ⟨rfl,bZ⟩
theorem tI (k t:ByteArray) (q n:Int) (w:World) :
 Calls Tryz.prog 312 #[.agg #[],.agg #[.string k,iT q,iT 1,.string t,iT n]] w fun e w'=>e=.returned (.bool (fO 1 t n))∧Bl w w':=by
 go_enter Tryz.func312,Tryz.ntmps312
 go_wp2;go_ret;exact ⟨aq (oV (t:=t) (n:=n)).symm,bZ.alloc (by simp) _⟩
theorem tJ (k t:ByteArray) (q n:Int) (w:World) :
 Calls Tryz.prog 314 #[.agg #[],.agg #[.string k,iT q,iT 2,.string t,iT n]] w fun e w'=>e=.returned (.bool (fO 2 t n))∧Bl w w':=by
 by_cases t0:t=ByteArray.empty
 · subst t0;by_cases b:n=0
   · subst b;go_enter Tryz.func314,Tryz.ntmps314
     go_wp2;all_goals
      go_ret;exact ⟨aq (by rw [iB];rfl),bZ.alloc (by simp) _⟩
   · have f:(n == 0)=false:=by simpa using b
     go_enter Tryz.func314,Tryz.ntmps314
     go_wp2;all_goals
      go_ret;exact ⟨aq (by rw [iB];simp [b]),bZ.alloc (by simp) _⟩
 · have d:=fK t0;have g:=jZ t0;go_enter Tryz.func314,Tryz.ntmps314
   go_wp2;all_goals
    go_ret;exact ⟨aq (by rw [iB];simp [d]),bZ.alloc (by simp) _⟩
theorem tK (k t:ByteArray) (q n:Int) (w:World) :
 Calls Tryz.prog 316 #[.agg #[],.agg #[.string k,iT q,iT 3,.string t,iT n]] w fun e w'=>e=.returned (.bool (fO 3 t n))∧Bl w w':=by
 by_cases t0:t=ByteArray.empty
 · subst t0;go_enter Tryz.func316,Tryz.ntmps316
   go_wp2;all_goals
    go_ret;exact ⟨aq (by rw [mo];rfl),bZ.alloc (by simp) _⟩
 · have b:=fK t0;have d:=jZ t0;go_enter Tryz.func316,Tryz.ntmps316
   go_wp2;all_goals
    go_ret;exact ⟨aq (by rw [mo];simp [b,d]),bZ.alloc (by simp) _⟩
theorem vj (k t:ByteArray) (q d n:Int) (w:World) (f:¬d=1) (b:¬d=2) (g:¬d=3) :
 Calls Tryz.prog 318 #[.agg #[],.agg #[.string k,iT q,iT d,.string t,iT n]] w fun e w'=>e=.returned (.bool (fO d t n))∧Bl w w':=by
 go_enter Tryz.func318,Tryz.ntmps318
 go_wp2;go_ret;exact ⟨aq (oX f b g).symm,bZ.alloc (by simp) _⟩
end Go.Proofs.YtpobkmjicbobdaaGreat
