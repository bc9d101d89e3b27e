/- Walks. -/
import Derived.Test.YtpobkmjicbobdaaGreatBW00
import Derived.Deep.RegionHeld3
import Derived.Deep.DeepCutAuto
import Derived.Lib.Walk
import Derived.Deep.RegionWith
import Derived.Deep.QuietTactic
import Derived.BigQuiet
namespace Go.Proofs.YtpobkmjicbobdaaGreat
set_option maxRecDepth 100000
set_option maxHeartbeats 40000000
open Go.RowKit
variable {fuel i:Nat} {v:Value} {w:World}
theorem ul (k t:ByteArray) (q d n:Int) (w:World) (hs:k.size≤maxLen) (u:t.size≤maxLen) :
 Calls Tryz.prog 143 #[.agg #[.string k,iT q,iT d,.string t,iT n]] w fun e w'=>e=.returned (.bool (dM k q d t n))∧Bl w w':=by
 have b:=u;unfold maxLen at b;cases hk:gZ k with
 | false =>
  go_enter Tryz.func143,Tryz.ntmps143
  go_wp2_with (first | (go_at_call 199;refine (fl _ _ hs).mono ?_;rintro e w' ⟨rfl,rfl⟩) | go_in)
  go_ret;exact ⟨aj (wQ hk).symm,bZ⟩
 | true =>
  by_cases h1:q<1
  · go_enter Tryz.func143,Tryz.ntmps143
    go_wp2_with (first | (go_at_call 199;refine (fl _ _ hs).mono ?_;rintro e w' ⟨rfl,rfl⟩) | go_in)
    go_ret;exact ⟨aj (zO h1).symm,bZ⟩
  by_cases h2:100000<q
  · go_enter Tryz.func143,Tryz.ntmps143
    go_wp2_with (first | (go_at_call 199;refine (fl _ _ hs).mono ?_;rintro e w' ⟨rfl,rfl⟩) | go_in)
    go_ret;exact ⟨aj (zN h2).symm,bZ⟩
  by_cases h3:n < -1000000
  · go_enter Tryz.func143,Tryz.ntmps143
    go_wp2_with (first | (go_at_call 199;refine (fl _ _ hs).mono ?_;rintro e w' ⟨rfl,rfl⟩) | go_in)
    go_ret;exact ⟨aj (zQ h3).symm,bZ⟩
  by_cases h4:1000000<n
  · go_enter Tryz.func143,Tryz.ntmps143
    go_wp2_with (first | (go_at_call 199;refine (fl _ _ hs).mono ?_;rintro e w' ⟨rfl,rfl⟩) | go_in)
    go_ret;exact ⟨aj (zP h4).symm,bZ⟩
  by_cases h5:60<t.size
  · go_enter Tryz.func143,Tryz.ntmps143
    go_wp2_with (first | (go_at_call 199;refine (fl _ _ hs).mono ?_;rintro e w' ⟨rfl,rfl⟩) | go_in)
    go_ret;exact ⟨aj (DQ h5).symm,bZ⟩
  by_cases o:d=1
  · subst o;go_enter Tryz.func143,Tryz.ntmps143
    go_wp2_with (first | (go_at_call 199;refine (fl _ _ hs).mono ?_;rintro e w' ⟨rfl,rfl⟩) | go_in)
    go_ret;refine ⟨aj ?_,bZ⟩;rw [fQ hk (by omega) (by omega) (by omega) (by omega) (by omega)];exact pN.symm
  by_cases f:d=2
  · subst f;by_cases t0:t=ByteArray.empty
    · subst t0;by_cases r:n=0
      · subst r;go_enter Tryz.func143,Tryz.ntmps143
        go_wp2_with (first | (go_at_call 199;refine (fl _ _ hs).mono ?_;rintro e w' ⟨rfl,rfl⟩) | go_in)
        go_ret;refine ⟨aj ?_,bZ⟩;rw [fQ hk (by omega) (by omega) (by omega) (by omega) (by omega)];rw [iO];rfl
      · have x:(n == 0)=false:=by simpa using r
        go_enter Tryz.func143,Tryz.ntmps143
        go_wp2_with (first | (go_at_call 199;refine (fl _ _ hs).mono ?_;rintro e w' ⟨rfl,rfl⟩) | go_in)
        go_ret;refine ⟨aj ?_,bZ⟩;rw [fQ hk (by omega) (by omega) (by omega) (by omega) (by omega)];rw [iO];simp [r]
    · have m:=fV t0;have s:=ll t0;go_enter Tryz.func143,Tryz.ntmps143
      go_wp2_with (first | (go_at_call 199;refine (fl _ _ hs).mono ?_;rintro e w' ⟨rfl,rfl⟩) | go_in)
      go_ret;refine ⟨aj ?_,bZ⟩;rw [fQ hk (by omega) (by omega) (by omega) (by omega) (by omega)];rw [iO];simp [m]
  by_cases g:d=3
  · subst g;by_cases t0:t=ByteArray.empty
    · subst t0;go_enter Tryz.func143,Tryz.ntmps143
      go_wp2_with (first | (go_at_call 199;refine (fl _ _ hs).mono ?_;rintro e w' ⟨rfl,rfl⟩) | go_in)
      go_ret;refine ⟨aj ?_,bZ⟩;rw [fQ hk (by omega) (by omega) (by omega) (by omega) (by omega)];rw [nd];rfl
    · have m:=fV t0;have s:=ll t0;go_enter Tryz.func143,Tryz.ntmps143
      go_wp2_with (first | (go_at_call 199;refine (fl _ _ hs).mono ?_;rintro e w' ⟨rfl,rfl⟩) | go_in)
      go_ret;refine ⟨aj ?_,bZ⟩;rw [fQ hk (by omega) (by omega) (by omega) (by omega) (by omega)];rw [nd];simp [m,s]
  have e1:(d == 1)=false:=by simpa using o
  have e2:(d == 2)=false:=by simpa using f
  have e3:(d == 3)=false:=by simpa using g
  go_enter Tryz.func143,Tryz.ntmps143
  go_wp2_with (first | (go_at_call 199;refine (fl _ _ hs).mono ?_;rintro e w' ⟨rfl,rfl⟩) | go_in)
  go_ret;refine ⟨aj ?_,bZ⟩;rw [fQ hk (by omega) (by omega) (by omega) (by omega) (by omega)];exact (pO o f g).symm
theorem BI (W:World) (x y:Value) (t b:Nat) (hb:b=W.heap.size):(W.alloc (.cells #[x,y] t)).drew.cell? ⟨b,0,none⟩=some x:=by subst hb;simp
theorem BG (W:World) (x y:Value) (t b:Nat) (hb:b=W.heap.size):(W.alloc (.cells #[x,y] t)).drew.cell? ⟨b,1,none⟩=some y:=by subst hb;simp
theorem xL (a b:ByteArray) (w:World) :
 Calls Tryz.prog 243 #[.string a,.string b] w fun e w'=>e=.returned (iT (Lib.compareBytes a.data.toList b.data.toList))∧w'=w:=by
 go_enter Tryz.func243,Tryz.ntmps243
 go_wp2;rw [run_callFunc_extern Tryz.func275 (by kernel_rfl) (by kernel_rfl) (by kernel_rfl) (e:=Extern.BytealgCompare.compare) (by kernel_rfl),Lib.run_compareString];simp only [Result.andThen];rw [Oper.upon_value];go_wp2;go_ret;exact ⟨rfl,rfl⟩
theorem jG (x y:Int) (w:World) :
 Calls Tryz.prog 170 #[iT x,iT y] w fun e w'=>e=.returned (iT (Lib.compareInt x y))∧w'=w:=by
 by_cases h1:x<y
 · go_enter Tryz.func170,Tryz.ntmps170
   go_wp2;go_ret;exact ⟨by simp [Lib.compareInt,h1],rfl⟩
 · by_cases h2:x > y
   · have b:=h2;go_enter Tryz.func170,Tryz.ntmps170
     go_wp2;go_ret;exact ⟨by simp [Lib.compareInt,h1,h2],rfl⟩
   · have h3:x=y:=by omega
     subst h3;go_enter Tryz.func170,Tryz.ntmps170
     go_wp2;go_ret;exact ⟨by simp [Lib.compareInt],rfl⟩
theorem Fk (x y:Int) (b c:Nat) (w:World) (g:w.cell? ⟨b,0,none⟩=some (iT x)) (f:w.cell? ⟨b,1,none⟩=some (iT y)) :
 Calls Tryz.prog 242 #[sL b 2 c] w fun e w'=>e=.returned (iT (if x=0 then y else x))∧w'=w:=by
 go_enter Tryz.func242,Tryz.ntmps242
 go_wp2;go_loop [8] (fun i=>(i=iT 0)∨(i=iT 1∧x=0)∨(i=iT 2∧x=0∧y=0)) (fun i=>2 - (intOf i).toNat)
 case atStart=>exact Or.inl rfl
 case round =>
  rcases hrel with rfl | ⟨rfl,rfl⟩ | ⟨rfl,rfl,rfl⟩
  · by_cases h0:x=0
    · subst h0;go_wp2;go_round
      case rel=>exact Or.inr (Or.inl ⟨by go_num,trivial⟩)
      case measure=>simp [intOf]
    · have d:(x != 0)=true:=by simpa using h0
      go_wp2;go_ret;exact ⟨rfl,rfl⟩
  · by_cases h0:y=0
    · subst h0;go_wp2;go_round
      case rel=>exact Or.inr (Or.inr ⟨by go_num,trivial,trivial⟩)
      case measure=>simp [intOf]
    · have d:(y != 0)=true:=by simpa using h0
      go_wp2;go_ret;exact ⟨rfl,rfl⟩
  · go_wp2;go_ret;exact ⟨rfl,rfl⟩
def kK (ka:ByteArray) (qa:Int) (kb:ByteArray) (qb:Int):Int:=if Lib.compareBytes ka.data.toList kb.data.toList=0 then Lib.compareInt qb qa else Lib.compareBytes ka.data.toList kb.data.toList
theorem lK (d B m E:ByteArray) (g y F f H x:Int) (w:World) :
 Calls Tryz.prog 218 #[.agg #[.string d,iT g,iT y,.string B,iT F],.agg #[.string m,iT f,iT H,.string E,iT x]] w fun e w'=>e=.returned (iT (kK d g m f))∧Bl w w':=by
 obtain ⟨C,hC⟩:=aG (Lib.compareBytes d.data.toList m.data.toList);obtain ⟨D,hD⟩:=aG (Lib.compareInt f g);have c1:∀w,Calls Tryz.prog 243 #[.string d,.string m] w fun e w'=>e=.returned (iT C)∧w'=w:=by rw [hC];exact xL d m
 have J:∀w,Calls Tryz.prog 170 #[iT f,iT g] w fun e w'=>e=.returned (iT D)∧w'=w:=by rw [hD];exact jG f g
 obtain ⟨O,hO⟩:=aG (if C=0 then D else C);have c3:∀b c w,w.cell? ⟨b,0,none⟩=some (iT C)→w.cell? ⟨b,1,none⟩=some (iT D)→Calls Tryz.prog 242 #[sL b 2 c] w fun e w'=>e=.returned (iT O)∧w'=w:=by
  rw [hO];exact fun b c w I K=>Fk C D b c w I K
 unfold kK;rw [← hC,← hD,← hO];clear hC hD hO;go_enter Tryz.func218,Tryz.ntmps218
 go_wp2_with fail
 obtain ⟨X,s⟩:=aG w.heap.size;obtain ⟨W,n⟩:=aG ((w.alloc (.cells #[.string d,iT g,iT y,.string B,iT F] 50)).alloc (.cells #[.string m,iT f,iT H,.string E,iT x] 50));have x0:W.cell? ⟨X,0,none⟩=some (.string d):=by rw [n,s];simp
 have x1:W.cell? ⟨X,1,none⟩=some (iT g):=by rw [n,s];simp
 have y0:W.cell? ⟨X+1,0,none⟩=some (.string m):=by rw [n,s];simp
 have y1:W.cell? ⟨X+1,1,none⟩=some (iT f):=by rw [n,s];simp
 have u:Bl w W:=by rw [n];exact bZ.alloc (by simp) _
 rw [← n,← s];clear n s;have t:Eq (Bl w W):=u;clear u;have A:Bl W W.drew:=(Below.refl _ W).drew;have r:Eq (∀w',Bl W w'→(w'.cell? ⟨X,0,none⟩=some (.string d)∧w'.cell? ⟨X,1,none⟩=some (iT g)∧w'.cell? ⟨X+1,0,none⟩=some (.string m)∧w'.cell? ⟨X+1,1,none⟩=some (iT f)∧Bl W w')):=fun w' k=>⟨cell_later k x0,cell_later k x1,cell_later k y0,cell_later k y1,k⟩
 go_region_held3 (fun w'=>w'.cell? ⟨X,0,none⟩=some (.string d)∧w'.cell? ⟨X,1,none⟩=some (iT g)∧w'.cell? ⟨X+1,0,none⟩=some (.string m)∧w'.cell? ⟨X+1,1,none⟩=some (iT f)∧Bl W w') (first | exact r.o _ A | exact r.o _ ((Below.refl _ W).alloc (GL _) _).drew | exact r.o _ (A.alloc (GL _) _)) (first
  | (go_at_call 243;refine (c1 _).mono ?_;rintro e w' ⟨rfl,rfl⟩)
  | (go_at_call 170;refine (J _).mono ?_;rintro e w' ⟨rfl,rfl⟩)
  | (go_at_call 242;refine (c3 _ _ _ (BI _ _ _ _ _ (by simp)) (BG _ _ _ _ _ (by simp))).mono ?_;rintro e w' ⟨rfl,rfl⟩))
 go_wp2;go_ret;exact ⟨rfl,t.o.trans (((Below.refl _ W).alloc (GL _) _).drew.mono t.o.size)⟩
theorem iu (b kb:ByteArray) (d qb:Int):decide (kK b d kb qb<0)=bI b d kb qb:=by
 unfold bI kK Lib.compareInt;rcases jo b.data.toList kb.data.toList with ⟨h,h1,h2⟩ | ⟨h,h1,h2⟩ | ⟨h,h1,h2⟩
 · rw [h,h1];rfl
 · have:b=kb:=by
    apply IP;exact II.1 h2
   subst this;rw [h,h1];by_cases g:qb<d
   · simp [g]
   · by_cases f:qb > d <;> simp [g,f]
 · have:¬b=kb:=fun e=>h2 (by rw [e])
   rw [h,h1];simp [this]
theorem qW (b t g n:ByteArray) (d r o m s u:Int) (w:World) :
 Calls Tryz.prog 203 #[.agg #[.string b,iT d,iT r,.string t,iT o],.agg #[.string g,iT m,iT s,.string n,iT u]] w fun e w'=>e=.returned (.bool (bI b d g m))∧Bl w w':=by
 go_enter Tryz.func203,Tryz.ntmps203
 go_wp2_with fail
 refine (lK _ _ _ _ _ _ _ _ _ _ _).mono ?_;rintro e x ⟨rfl,f⟩;go_wp2;go_ret;exact ⟨aj (iu b g d m),(bZ.alloc (by simp) _).trans (f.mono (by simp;omega))⟩
theorem oG (a:List UInt8):Op.bytesLess a a=false:=by
 rcases jo a a with ⟨_,_,h⟩ | ⟨_,h,_⟩ | ⟨_,h,_⟩
 · exact absurd rfl h
 · exact h
 · exact h
theorem vx (b x d n:ByteArray) (m t o f u s:Int) (w:World) :
 Calls Tryz.prog 144 #[.agg #[.string b,iT m,iT t,.string x,iT o],.agg #[.string d,iT f,iT u,.string n,iT s]] w fun e w'=>e=.returned (.bool (bI b m d f))∧Bl w w':=by
 by_cases g:b=d
 · subst g;have hl:Op.bytesLess b.toList b.toList=false:=oG _;by_cases hq:f<m
   · go_enter Tryz.func144,Tryz.ntmps144
     go_wp2;go_ret;refine ⟨aj ?_,bZ.alloc (by simp) _⟩;unfold bI;rw [oG];simp [hq]
   · go_enter Tryz.func144,Tryz.ntmps144
     go_wp2;go_ret;refine ⟨aj ?_,bZ.alloc (by simp) _⟩;unfold bI;rw [oG];simp [hq]
 · have r:¬b.toList=d.toList:=by
    rw [Hk,Hk];intro h;exact g (IP (II.1 h))
   cases hl:Op.bytesLess b.toList d.toList with
   | true =>
    go_enter Tryz.func144,Tryz.ntmps144
    go_wp2;go_ret;refine ⟨aj ?_,bZ.alloc (by simp) _⟩;unfold bI;rw [Hk,Hk] at hl;simp [hl]
   | false =>
    go_enter Tryz.func144,Tryz.ntmps144
    go_wp2;go_ret;refine ⟨aj ?_,bZ.alloc (by simp) _⟩;unfold bI;rw [Hk,Hk] at hl;simp [hl,g]
theorem um (n:Nat) (w:World) (hn:n≤16) :
 Calls Tryz.prog 253 #[iT n] w fun e w'=>e=.returned (iT ((2 ^ n:Nat):Int))∧w'=w:=by
 go_enter Tryz.func253,Tryz.ntmps253
 go_wp2;go_loop [3,4] (fun o i=>∃k p:Nat,k≤n∧i=iT k∧o=iT p∧p=2 ^ k) (fun _ i=>n - (intOf i).toNat)
 case atStart=>exact ⟨0,1,GQ _,rfl,rfl,rfl⟩
 case round =>
  obtain ⟨k,p,hk,rfl,rfl,hp⟩:=hrel;have b:Eq (p=2 ^ k):=hp;have f:p≤65536:=by rw [hp];exact Nat.pow_le_pow_right (n:=2) (by omega) (by omega:k≤16)
  clear hp;by_cases d:k<n
  · go_wp2;go_round
    case rel=>exact ⟨k+1,p*2,by omega,by go_num,by go_num,by rw [b.o,Nat.pow_succ]⟩
    case measure=>simp [intOf];omega
  · go_wp2;go_ret;have:k=n:=by omega
    subst this;exact ⟨mV (by have:=b.o;subst this;simp),rfl⟩
theorem Co (a b:Nat) (w:World) (ha:a<65536) (hb:b<65536) :
 Calls Tryz.prog 236 #[iT a,iT b] w fun e w'=>e=.returned (iT ((a ||| b:Nat):Int))∧w'=w:=by
 obtain ⟨c,hc⟩:=aG (a ||| b);have C:c<65536:=by rw [hc];exact jd ha hb
 have E:Eq (∀i,c / 2 ^ i=c / 2 ^ (i+1)*2+(if a / 2 ^ i % 2=1∨b / 2 ^ i % 2=1 then 1 else 0)):=by rw [hc];exact EF a b
 rw [← hc];clear hc;go_enter Tryz.func236,Tryz.ntmps236
 go_wp2;go_loop [5,6] (fun o i=>∃(k p:Nat) (x:Int),k≤16∧x=(k:Int) - 1∧i=iT x∧o=iT p∧p=c / 2 ^ k) (fun _ i=>(intOf i+1).toNat)
 case atStart=>exact ⟨16,0,15,GL _,rfl,rfl,rfl,(Nat.div_eq_of_lt C).symm⟩
 case round =>
  obtain ⟨k,p,x,hk,hx,rfl,rfl,hp⟩:=hrel;cases k with
  | zero =>
   have u:p=c:=by simpa using hp
   subst u;have m:x=-1:=by omega
   subst m;clear hx hp;go_wp2;go_ret;exact ⟨rfl,rfl⟩
  | succ j =>
   obtain ⟨z,hz⟩:∃z:Nat,z=2 ^ j:=⟨_,rfl⟩;have H:0<z:=by rw [hz];exact Nat.two_pow_pos j
   have I:p≤65536:=by rw [hp];exact GU (Nat.div_le_self _ _) (by omega)
   have y:Eq (∀w,Calls Tryz.prog 253 #[iT j] w fun e w'=>e=.returned (iT (z:Int))∧w'=w):=by rw [hz];exact fun w=>um j w (by omega)
   have n:=E.o j;rw [← hp,← hz] at n;have t:Eq (c / z=p*2+(if a / z % 2=1∨b / z % 2=1 then 1 else 0)):=n;have D:Eq (z=2 ^ j):=hz;clear n hp hz;have m:x=(j:Int):=by omega
   subst m;clear hx;obtain ⟨r,f⟩:∃q:Nat,q=a / z:=⟨_,rfl⟩;obtain ⟨s,d⟩:∃q:Nat,q=b / z:=⟨_,rfl⟩;have J:(a:Int) / (z:Int)=(r:Int):=by rw [f];simp
   have K:(b:Int) / (z:Int)=(s:Int):=by rw [d];simp
   have L:r<65536:=by rw [f];exact Jj (Nat.div_le_self _ _) ha
   have lb:s<65536:=by rw [d];exact Jj (Nat.div_le_self _ _) hb
   rw [← f,← d] at t;clear f d;by_cases h1:r % 2=1
   · have B:(r:Int) % 2=1:=by omega
     go_wp2_with (go_at_call 253;refine (y.o _).mono ?_;rintro e w' ⟨rfl,rfl⟩)
     exact ⟨⟨j,p*2+1,(j:Int) - 1,by omega,rfl,rfl,by simp,by rw [← D.o,t.o,if_pos (Or.inl h1)]⟩,by simp [intOf]⟩
   · have B:¬(r:Int) % 2=1:=by omega
     by_cases h2:s % 2=1
     · have A:(s:Int) % 2=1:=by omega
       go_wp2_with (go_at_call 253;refine (y.o _).mono ?_;rintro e w' ⟨rfl,rfl⟩)
       exact ⟨⟨j,p*2+1,(j:Int) - 1,by omega,rfl,rfl,by simp,by rw [← D.o,t.o,if_pos (Or.inr h2)]⟩,by simp [intOf]⟩
     · have A:((s:Int) % 2 == 1)=false:=by rw [beq_eq_false_iff_ne];omega
       have F:((r:Int) % 2 == 1)=false:=by rw [beq_eq_false_iff_ne];omega
       go_wp2_with (go_at_call 253;refine (y.o _).mono ?_;rintro e w' ⟨rfl,rfl⟩)
       exact ⟨⟨j,p*2,(j:Int) - 1,by omega,rfl,rfl,by simp,by rw [← D.o,t.o,if_neg (fun g=>g.elim h1 h2)];rfl⟩,by simp [intOf]⟩
theorem Cq (s:ByteArray) (w:World) (hs:s.size≤maxLen) :
 Calls Tryz.prog 237 #[.string s] w fun e w'=>e=.returned (iT ((iM s:Nat):Int))∧w'=w:=by
 unfold maxLen at hs;go_enter Tryz.func237,Tryz.ntmps237
 go_wp2;go_loop [3,4] (fun o i=>∃k h:Nat,k≤s.size∧i=iT k∧o=iT h∧h<65521∧jT (s.data.toList.take k)=h) (fun _ i=>s.size - (intOf i).toNat)
 case atStart=>exact ⟨0,7,GQ _,rfl,rfl,by omega,rfl⟩
 case round =>
  obtain ⟨k,h,hk,rfl,rfl,hh,m⟩:=hrel;have E:Eq (jT (s.data.toList.take k)=h):=m;clear m;by_cases t:k<s.size
  · have H:Eq (jT (s.data.toList.take (k+1))=(31*h+(s[k]).toNat) % 65521):=by
     show jT (s.data.toList.take (k+1))=(31*h+(s[k]).toNat) % 65521
     rw [tM s k t,E.o];rfl
    have hc:(s[k]).toNat<256:=(s[k]).toNat_lt;go_wp2;go_round
    case rel=>exact ⟨k+1,(31*h+(s[k]).toNat) % 65521,by omega,by go_num,by go_num,by omega,H.o⟩
    case measure=>simp [intOf];omega
  · have B:k=s.size:=by omega
    have C:Eq (iM s=2 ^ (h % 16) ||| 2 ^ (h / 16 % 16)):=by
     show iM s=_
     have:=E.o;rw [GV (by simp [B])] at this;unfold iM zE;rw [this]
    obtain ⟨x,hx⟩:=aG (h % 16);obtain ⟨y,hy⟩:=aG (h / 16 % 16);rw [← hx,← hy] at C;have A:x<16:=by omega
    have u:y<16:=by omega
    have J:(h:Int) % 16=(x:Int):=by omega
    have K:(h:Int) / 16 % 16=(y:Int):=by omega
    obtain ⟨f,b⟩:∃p:Nat,p=2 ^ x:=⟨_,rfl⟩;obtain ⟨n,d⟩:∃p:Nat,p=2 ^ y:=⟨_,rfl⟩;have F:Eq (∀w,Calls Tryz.prog 253 #[iT x] w fun e w'=>e=.returned (iT (f:Int))∧w'=w):=by rw [b];exact fun w=>um x w (by omega)
    have I:Eq (∀w,Calls Tryz.prog 253 #[iT y] w fun e w'=>e=.returned (iT (n:Int))∧w'=w):=by rw [d];exact fun w=>um y w (by omega)
    have g:f<65536:=by rw [b];exact gE A
    have r:n<65536:=by rw [d];exact gE u
    rw [← b,← d] at C;clear hx hy b d;have D:Eq (∀w,Calls Tryz.prog 236 #[iT f,iT n] w fun e w'=>e=.returned (iT ((f ||| n:Nat):Int))∧w'=w):=fun w=>Co f n w g r
    go_wp2_with fail
    refine (F.o _).mono ?_;rintro e w' ⟨rfl,rfl⟩;go_wp2_with fail
    refine (I.o _).mono ?_;rintro e w' ⟨rfl,rfl⟩;go_wp2_with fail
    refine (D.o _).mono ?_;rintro e w' ⟨rfl,rfl⟩;go_wp2;go_ret;exact ⟨mV (by rw [C.o]),rfl⟩
theorem z7 (a b:Nat) (ha:a<65536) (hb:b<65536):bits .or .i64 (a:Int) (b:Int)=((a ||| b:Nat):Int):=by
 have hc:=jd ha hb;have e:(BitVec.ofInt 64 (a:Int) ||| BitVec.ofInt 64 (b:Int)).toNat=a ||| b:=by
  simp [BitVec.toNat_or];rw [Nat.mod_eq_of_lt (by omega),Nat.mod_eq_of_lt (by omega)]
 have e2:IntKind.i64.wrap (((a ||| b:Nat)):Int)=((a ||| b:Nat):Int):=by
  rw [G4];generalize a ||| b=y at hc
  unfold wrap64;omega
 show IntKind.i64.wrap ((BitVec.ofInt 64 (a:Int) ||| BitVec.ofInt 64 (b:Int)).toNat:Int)=_
 rw [e,e2]
theorem vO (x:Nat) (hx:x<16):wrap64 (2 ^ x)=((2 ^ x:Nat):Int):=by
 have hp:=gE hx;have:(2 ^ x:Int)=((2 ^ x:Nat):Int):=by simp
 rw [this];generalize 2 ^ x=y at hp;unfold wrap64;omega
theorem Dw (s:ByteArray) (w:World) (hs:s.size≤maxLen) :
 Calls Tryz.prog 244 #[.string s] w fun e w'=>e=.returned (iT ((iM s:Nat):Int))∧Bl w w':=by
 unfold maxLen at hs;go_enter Tryz.func244,Tryz.ntmps244
 go_wp2;go_loop [3,7] (fun o i=>∃k h:Nat,k≤s.size∧i=iT k∧o=iT h∧h<65521∧jT (s.data.toList.take k)=h) (fun _ i=>s.size - (intOf i).toNat)
 case atStart=>exact ⟨0,7,GQ _,rfl,rfl,by omega,rfl⟩
 case round =>
  obtain ⟨k,h,hk,rfl,rfl,hh,d⟩:=hrel;have n:Eq (jT (s.data.toList.take k)=h):=d;clear d;by_cases g:k<s.size
  · have t:Eq (jT (s.data.toList.take (k+1))=(31*h+(s[k]).toNat) % 65521):=by
     show jT (s.data.toList.take (k+1))=(31*h+(s[k]).toNat) % 65521
     rw [tM s k g,n.o];rfl
    have hc:(s[k]).toNat<256:=(s[k]).toNat_lt;go_wp2;go_round
    case rel=>exact ⟨k+1,(31*h+(s[k]).toNat) % 65521,by omega,by go_num,by go_num,by omega,t.o⟩
    case measure=>simp [intOf];omega
  · have m:k=s.size:=by omega
    have r:Eq (iM s=2 ^ (h % 16) ||| 2 ^ (h / 16 % 16)):=by
     show iM s=_
     have:=n.o;rw [GV (by simp [m])] at this;unfold iM zE;rw [this]
    obtain ⟨x,hx⟩:=aG (h % 16);obtain ⟨y,hy⟩:=aG (h / 16 % 16);rw [← hx,← hy] at r;have f:x<16:=by omega
    have b:y<16:=by omega
    have u:(h:Int) % 16=(x:Int):=by omega
    have A:(h:Int) / 16 % 16=(y:Int):=by omega
    clear hx hy;go_wp2_with fail
    go_quiet (fail)
    go_wp2;go_ret;refine ⟨mV ?_,below_drewN (Below.refl _ _) _⟩;rw [vO x f,vO y b,z7 _ _ (gE f) (gE b),r.o]
theorem js {P:Program} {l:List Oper} {Q:Exit→Act→World→Prop} {d:Region.Mode} {S:World→Prop} {e:Oper} {b:Array Bool} {a:Act} (hi:l[i]?=some e)
 (hs:Region.noSelect l.toArray=true) (hf:Region.free d l.toArray b i=true) (hr:(Region.ready d l.toArray b).contains i=true)
 (hQ:∀c a w,Q (.panic c) (a.put e.dst v) w→Q (.panic c) a w) (hy:YieldsIf P l.toArray S e v a) (hS:S w)
 (h:wpAnyH P d l.toArray Q S fuel (b.setIfInBounds i true) (a.put e.dst v) w):wpAnyH P d l.toArray Q S (fuel+1) b a w :=
 wpAnyH_take (by simpa using hi) hs hf hr hQ hy hS h
theorem tkL {P:Program} {l:List Oper} {Q:Exit→Act→World→Prop} {d:Region.Mode} {S:World→Prop} (i:Nat) {oi:Oper} {v:Value} {fuel:Nat} {b:Array Bool} {a:Act} {w:World} (hS:S w)
 (h:wpAnyH P d l.toArray Q S fuel (b.setIfInBounds i true) (a.put oi.dst v) w) (hi:l[i]?=some oi:=by exact rfl) (hs:Region.noSelect l.toArray=true:=by kernel_rfl) (hf:Region.free d l.toArray b i=true:=by kernel_rfl) (hr:(Region.ready d l.toArray b).contains i=true:=by kernel_rfl)
 (hQ:∀c a w,Q (.panic c) (a.put oi.dst v) w→Q (.panic c) a w:=by exact fun _ _ _ h=>h) (hy:YieldsIf P l.toArray S oi v a:=by (refine Or.inl ⟨by rfl,?_⟩;intro w e;(try dsimp only at e);go_simp;try with_reducible rfl)):wpAnyH P d l.toArray Q S (fuel+1) b a w :=
 js hi hs hf hr hQ hy hS h
theorem tkN {P:Program} {l:List Oper} {Q:Exit→Act→World→Prop} {d:Region.Mode} {S:World→Prop} (i:Nat) {oi:Oper} {fuel:Nat} {b:Array Bool} {a:Act} {w:World} (hS:S w)
 (h:wpAnyH P d l.toArray Q S fuel (b.setIfInBounds i true) (a.put oi.dst undef) w) (hi:l[i]?=some oi:=by exact rfl) (hs:Region.noSelect l.toArray=true:=by kernel_rfl) (hf:Region.free d l.toArray b i=true:=by kernel_rfl) (hr:(Region.ready d l.toArray b).contains i=true:=by kernel_rfl)
 (hQ:∀c a w,Q (.panic c) (a.put oi.dst undef) w→Q (.panic c) a w:=by exact fun _ _ _ h=>h) (hy:YieldsIf P l.toArray S oi undef a:=by exact Or.inr ⟨by rfl,rfl⟩):wpAnyH P d l.toArray Q S (fuel+1) b a w :=
 js hi hs hf hr hQ hy hS h
theorem de {P:Program} {l:List Oper} {Q:Exit→Act→World→Prop} {d:Region.Mode} {S:World→Prop} {b:Array Bool} {a:Act} {o:Oper} {rs:List Nat} (ho:l[i]?=some o)
 (h:∀e:Act→World→Prop,GJ (∀a w,S w→(S w→wpAnyH P d l.toArray Q S fuel (b.setIfInBounds i true) a w)→e a w)→if Region.wanted o (yielded l.toArray a.tmps)=true then Oper.wp P o a w e Q else e (a.put o.dst undef) w)
 (hs:AllReadyH P d l.toArray Q S fuel b a w rs):AllReadyH P d l.toArray Q S fuel b a w (i :: rs) :=
 AllReadyH.cons (by simpa using ho) h hs
theorem aV {P:Program} {l:List Oper} {Q:Exit→Act→World→Prop} {d:Region.Mode} {S:World→Prop} (i:Nat) {o:Oper} {fuel:Nat} {b:Array Bool} {a:Act} {w:World}
 (h:∀e:Act→World→Prop,GJ (∀a w,S w→(S w→wpAnyH P d l.toArray Q S fuel (b.setIfInBounds i true) a w)→e a w)→if Region.wanted o (yielded l.toArray a.tmps)=true then Oper.wp P o a w e Q else e (a.put o.dst undef) w)
 (ho:l[i]?=some o:=by exact rfl) (hr:Region.ready d l.toArray b=[i]:=by kernel_rfl):wpAnyH P d l.toArray Q S (fuel+1) b a w :=
 wpAnyH_ready hr (by simp) (de ho h AllReadyH.nil)
def ub (P:Program) (md:Region.Mode) (l:List Oper) (Q:Exit → Act → World → Prop) (S:World → Prop) (fuel:Nat) (w:World):Nat → Nat → Array Bool → Act → Prop
 | 0,_,listed,a=>wpAnyH P md l.toArray Q S fuel listed a w
 | n+1,i,listed,a=>∃oi v,(l[i]? = some oi∧Region.noSelect l.toArray=true∧Region.free md l.toArray listed i=true∧(Region.ready md l.toArray listed).contains i=true)∧(∀c a w,Q (.panic c) (a.put oi.dst v) w → Q (.panic c) a w)∧YieldsIf P l.toArray S oi v a∧ub P md l Q S fuel w n (i+1) (listed.setIfInBounds i true) (a.put oi.dst v)
theorem tk0 {P:Program} {d:Region.Mode} {l:List Oper} {Q:Exit → Act → World → Prop} {S:World → Prop} {b:Array Bool} {a:Act} (h:wpAnyH P d l.toArray Q S fuel b a w):ub P d l Q S fuel w 0 i b a:=h
theorem GI {P:Program} {e:Region.Mode} {l:List Oper} {Q:Exit → Act → World → Prop} {S:World → Prop} {n:Nat} {b:Array Bool} {a:Act} {d:Oper} (hi:l[i]? = some d) (hs:Region.noSelect l.toArray=true) (hf:Region.free e l.toArray b i=true) (hr:(Region.ready e l.toArray b).contains i=true)
 (hQ:∀c a w,Q (.panic c) (a.put d.dst v) w → Q (.panic c) a w) (hy:YieldsIf P l.toArray S d v a) (h:ub P e l Q S fuel w n (i+1) (b.setIfInBounds i true) (a.put d.dst v)):ub P e l Q S fuel w (n+1) i b a:=⟨d,v,⟨hi,hs,hf,hr⟩,hQ,hy,h⟩
theorem GH {P:Program} {d:Region.Mode} {l:List Oper} {Q:Exit → Act → World → Prop} {S:World → Prop} {fuel:Nat} {w:World} (hS:S w):∀(n i:Nat) (b:Array Bool) (a:Act),ub P d l Q S fuel w n i b a → wpAnyH P d l.toArray Q S (fuel+n) b a w
 | 0,_,_,_,h=>h
 | n+1,_,_,_,⟨_,_,⟨hi,hs,hf,hr⟩,hQ,hy,h⟩=>js hi hs hf hr hQ hy hS (GH hS n _ _ _ h)
theorem aR {P:Program} {f:Region.Mode} {l:List Oper} {Q:Exit → Act → World → Prop} {S:World → Prop} (i n:Nat) {b:Array Bool} {a:Act} {g:Prop} (hS:S w) (h:g)
 (e:g → ub P f l Q S fuel w n i b a:=by
  (intro hg; repeat (first | exact tk0 hg | ((refine GI (v:=?_) rfl (by kernel_rfl) (by kernel_rfl) (by kernel_rfl) (fun _ _ _ h=>h) (Or.inl ⟨by rfl,?_⟩) ?_; rotate_left; · (intro w d; (try dsimp only at d); go_simp; try with_reducible rfl)); try simp only [Act.put,IZ,IC,IQ]) | (refine GI (v:=undef) rfl (by kernel_rfl) (by kernel_rfl) (by kernel_rfl) (fun _ _ _ h=>h) (Or.inr ⟨by rfl,rfl⟩) ?_; try simp only [Act.put,IZ,IC,IQ])))):wpAnyH P f l.toArray Q S (fuel+n) b a w:=GH hS n i b a (e h)
theorem mK {P:Program} {l:List Oper} {Q:Exit → Act → World → Prop} {e:Region.Mode} {S:World → Prop} (i j:Nat) {o p:Oper} {fuel:Nat} {b:Array Bool} {a:Act} {w:World}
 (h:∀d:Act → World → Prop,GJ (∀a w,S w → (S w → wpAnyH P e l.toArray Q S fuel (b.setIfInBounds i true) a w) → d a w) → if Region.wanted o (yielded l.toArray a.tmps)=true then Oper.wp P o a w d Q else d (a.put o.dst undef) w)
 (h2:∀d:Act → World → Prop,GJ (∀a w,S w → (S w → wpAnyH P e l.toArray Q S fuel (b.setIfInBounds j true) a w) → d a w) → if Region.wanted p (yielded l.toArray a.tmps)=true then Oper.wp P p a w d Q else d (a.put p.dst undef) w)
 (ho:l[i]? = some o:=by exact rfl) (hp:l[j]? = some p:=by exact rfl) (hr:Region.ready e l.toArray b=[i,j]:=by kernel_rfl):wpAnyH P e l.toArray Q S (fuel+1) b a w:=wpAnyH_ready hr (by simp) (de ho h (de hp h2 AllReadyH.nil))
theorem rd3 {P:Program} {l:List Oper} {Q:Exit → Act → World → Prop} {e:Region.Mode} {S:World → Prop} (i j k:Nat) {o p q:Oper} {fuel:Nat} {b:Array Bool} {a:Act} {w:World}
 (h:∀d:Act → World → Prop,GJ (∀a w,S w → (S w → wpAnyH P e l.toArray Q S fuel (b.setIfInBounds i true) a w) → d a w) → if Region.wanted o (yielded l.toArray a.tmps)=true then Oper.wp P o a w d Q else d (a.put o.dst undef) w)
 (h2:∀d:Act → World → Prop,GJ (∀a w,S w → (S w → wpAnyH P e l.toArray Q S fuel (b.setIfInBounds j true) a w) → d a w) → if Region.wanted p (yielded l.toArray a.tmps)=true then Oper.wp P p a w d Q else d (a.put p.dst undef) w)
 (h3:∀d:Act → World → Prop,GJ (∀a w,S w → (S w → wpAnyH P e l.toArray Q S fuel (b.setIfInBounds k true) a w) → d a w) → if Region.wanted q (yielded l.toArray a.tmps)=true then Oper.wp P q a w d Q else d (a.put q.dst undef) w)
 (ho:l[i]? = some o:=by exact rfl) (hp:l[j]? = some p:=by exact rfl) (hq:l[k]? = some q:=by exact rfl) (hr:Region.ready e l.toArray b=[i,j,k]:=by kernel_rfl):wpAnyH P e l.toArray Q S (fuel+1) b a w:=wpAnyH_ready hr (by simp) (de ho h (de hp h2 (de hq h3 AllReadyH.nil)))
theorem eJ {P:Program} {b:Array Oper} {Q:Exit → Act → World → Prop} {id:Nat} {a:Act} {R S:World → Prop} (H:Eq (∀w',R w' → S w')) (k:R w.drew) (h:S w.drew → wpAnyH P .any b Q S b.size (Array.replicate b.size false) a w.drew) (hm:P.follows .mixedOrders=true:=by kernel_rfl):(Code.region id b true).wp P Q a w:=wp_region_held_drew hm (H.o _ k) h
theorem DS {P:Program} {b:Array Oper} {Q:Exit → Act → World → Prop} {id:Nat} {a:Act} {R S:World → Prop} (H:∀w',R w' → S w') (k:R w.drew) (h:S w.drew → wpAnyH P .any b Q S b.size (Array.replicate b.size false) a w.drew) (hm:P.follows .mixedOrders=true:=by kernel_rfl):(Code.region id b true).wp P Q a w:=wp_region_held_drew hm (H _ k) h
theorem dN {P:Program} {d:Region.Mode} {l:List Oper} {Q:Exit → Act → World → Prop} {S:World → Prop} {fuel:Nat} {b:Array Bool} {a:Act} (h:Q .normal a w) (hr:Region.ready d l.toArray b=[]:=by kernel_rfl):wpAnyH P d l.toArray Q S fuel b a w:=wpAnyH_done hr h _
theorem iz (k t:ByteArray) (q n:Int) (w:World) :
 Calls Tryz.prog 100 #[.agg #[.string k,iT q,iT 1,.string t,iT n]] w fun e w'=>e=.returned (.iface 176 (.agg #[]))∧Bl w w':=by
 go_enter Tryz.func100,Tryz.ntmps100
 go_wp2;go_ret;exact ⟨rfl,bZ⟩
theorem iA (k t:ByteArray) (q n:Int) (w:World) :
 Calls Tryz.prog 100 #[.agg #[.string k,iT q,iT 2,.string t,iT n]] w fun e w'=>e=.returned (.iface 177 (.agg #[]))∧Bl w w':=by
 go_enter Tryz.func100,Tryz.ntmps100
 go_wp2;go_ret;exact ⟨rfl,bZ⟩
theorem iB (k t:ByteArray) (q n:Int) (w:World) :
 Calls Tryz.prog 100 #[.agg #[.string k,iT q,iT 3,.string t,iT n]] w fun e w'=>e=.returned (.iface 178 (.agg #[]))∧Bl w w':=by
 go_enter Tryz.func100,Tryz.ntmps100
 go_wp2;go_ret;exact ⟨rfl,bZ⟩
theorem iV (k t:ByteArray) (q d n:Int) (w:World) (g:¬d=1) (b:¬d=2) (f:¬d=3) :
 Calls Tryz.prog 100 #[.agg #[.string k,iT q,iT d,.string t,iT n]] w fun e w'=>e=.returned (.iface 179 (.agg #[]))∧Bl w w':=by
 have e1:(d == 1)=false:=by simpa using g
 have e2:(d == 2)=false:=by simpa using b
 have e3:(d == 3)=false:=by simpa using f
 go_enter Tryz.func100,Tryz.ntmps100
 go_wp2;go_ret;exact ⟨rfl,bZ⟩
theorem uL (k t:ByteArray) (q n:Int) (w:World) :
 Calls Tryz.prog 312 #[.agg #[],.agg #[.string k,iT q,iT 1,.string t,iT n]] w fun e w'=>e=.returned (.bool (gT 1 t n))∧Bl w w':=by
 go_enter Tryz.func312,Tryz.ntmps312
 go_wp2;go_ret;exact ⟨aj (pN (t:=t) (n:=n)).symm,bZ.alloc (by simp) _⟩
theorem uM (k t:ByteArray) (q n:Int) (w:World) :
 Calls Tryz.prog 314 #[.agg #[],.agg #[.string k,iT q,iT 2,.string t,iT n]] w fun e w'=>e=.returned (.bool (gT 2 t n))∧Bl w w':=by
 by_cases t0:t=ByteArray.empty
 · subst t0;by_cases b:n=0
   · subst b;go_enter Tryz.func314,Tryz.ntmps314
     go_wp2;all_goals
      go_ret;exact ⟨aj (by rw [iO];rfl),bZ.alloc (by simp) _⟩
   · have g:(n == 0)=false:=by simpa using b
     go_enter Tryz.func314,Tryz.ntmps314
     go_wp2;all_goals
      go_ret;exact ⟨aj (by rw [iO];simp [b]),bZ.alloc (by simp) _⟩
 · have d:=fV t0;have f:=ll t0;go_enter Tryz.func314,Tryz.ntmps314
   go_wp2;all_goals
    go_ret;exact ⟨aj (by rw [iO];simp [d]),bZ.alloc (by simp) _⟩
theorem uN (k t:ByteArray) (q n:Int) (w:World) :
 Calls Tryz.prog 316 #[.agg #[],.agg #[.string k,iT q,iT 3,.string t,iT n]] w fun e w'=>e=.returned (.bool (gT 3 t n))∧Bl w w':=by
 by_cases t0:t=ByteArray.empty
 · subst t0;go_enter Tryz.func316,Tryz.ntmps316
   go_wp2;all_goals
    go_ret;exact ⟨aj (by rw [nd];rfl),bZ.alloc (by simp) _⟩
 · have d:=fV t0;have b:=ll t0;go_enter Tryz.func316,Tryz.ntmps316
   go_wp2;all_goals
    go_ret;exact ⟨aj (by rw [nd];simp [d,b]),bZ.alloc (by simp) _⟩
theorem wO (k t:ByteArray) (q d n:Int) (w:World) (g:¬d=1) (b:¬d=2) (f:¬d=3) :
 Calls Tryz.prog 318 #[.agg #[],.agg #[.string k,iT q,iT d,.string t,iT n]] w fun e w'=>e=.returned (.bool (gT d t n))∧Bl w w':=by
 go_enter Tryz.func318,Tryz.ntmps318
 go_wp2;go_ret;exact ⟨aj (pO g b f).symm,bZ.alloc (by simp) _⟩
section
attribute [local go_sem] Ic
theorem below_drewN {B:Nat} {w':World} (h:Below B w w') (n:Nat):Below B w (w'.drewN n):=h.trans ⟨rfl,rfl,rfl,GL _,fun _ _=>rfl⟩
theorem wJ (k t:ByteArray) (q d n:Int) (w:World) (hs:k.size≤maxLen) (hk:gZ k=false) :
 Calls Tryz.prog 33 #[.agg #[.string k,iT q,iT d,.string t,iT n]] w fun e w'=>e=.returned (.bool (dM k q d t n))∧Bl w w':=by
 go_enter Tryz.func33,Tryz.ntmps33
 go_wp2_with fail
 go_quiet (first | (go_at_call 99;refine Calls.quiet_of_same (v:=.bool false) ((jI _ _ hs).mono (fun e w' h=>by rw [hk] at h;exact h))))
 go_wp2;go_ret;exact ⟨aj (wQ hk).symm,below_drewN bZ _⟩
theorem yR (k t:ByteArray) (q d n:Int) (w:World) (hs:k.size≤maxLen) (hk:gZ k=true) (h1:q<1) :
 Calls Tryz.prog 33 #[.agg #[.string k,iT q,iT d,.string t,iT n]] w fun e w'=>e=.returned (.bool (dM k q d t n))∧Bl w w':=by
 have g:decide (1≤q)=false:=decide_eq_false (by omega);go_enter Tryz.func33,Tryz.ntmps33
 go_wp2_with fail
 go_quiet (first | (go_at_call 99;refine Calls.quiet_of_same (v:=.bool true) ((jI _ _ hs).mono (fun e w' h=>by rw [hk] at h;exact h))))
 go_wp2;go_ret;exact ⟨aj (zO h1).symm,below_drewN bZ _⟩
theorem yQ (k t:ByteArray) (q d n:Int) (w:World) (hs:k.size≤maxLen) (hk:gZ k=true) (h1:1≤q) (h2:100000<q) :
 Calls Tryz.prog 33 #[.agg #[.string k,iT q,iT d,.string t,iT n]] w fun e w'=>e=.returned (.bool (dM k q d t n))∧Bl w w':=by
 have g:decide (q≤100000)=false:=decide_eq_false (by omega);go_enter Tryz.func33,Tryz.ntmps33
 go_wp2_with fail
 go_quiet (first | (go_at_call 99;refine Calls.quiet_of_same (v:=.bool true) ((jI _ _ hs).mono (fun e w' h=>by rw [hk] at h;exact h))))
 go_wp2;go_ret;exact ⟨aj (zN h2).symm,below_drewN bZ _⟩
theorem yT (k t:ByteArray) (q d n:Int) (w:World) (hs:k.size≤maxLen) (hk:gZ k=true) (h1:1≤q) (h2:q≤100000) (h3:n < -1000000) :
 Calls Tryz.prog 33 #[.agg #[.string k,iT q,iT d,.string t,iT n]] w fun e w'=>e=.returned (.bool (dM k q d t n))∧Bl w w':=by
 have g:decide (-1000000≤n)=false:=decide_eq_false (by omega);go_enter Tryz.func33,Tryz.ntmps33
 go_wp2_with fail
 go_quiet (first | (go_at_call 99;refine Calls.quiet_of_same (v:=.bool true) ((jI _ _ hs).mono (fun e w' h=>by rw [hk] at h;exact h))))
 go_wp2;go_ret;exact ⟨aj (zQ h3).symm,below_drewN bZ _⟩
theorem yS (k t:ByteArray) (q d n:Int) (w:World) (hs:k.size≤maxLen) (hk:gZ k=true) (h1:1≤q) (h2:q≤100000) (h3:-1000000≤n) (h4:1000000<n) :
 Calls Tryz.prog 33 #[.agg #[.string k,iT q,iT d,.string t,iT n]] w fun e w'=>e=.returned (.bool (dM k q d t n))∧Bl w w':=by
 have g:decide (n≤1000000)=false:=decide_eq_false (by omega);go_enter Tryz.func33,Tryz.ntmps33
 go_wp2_with fail
 go_quiet (first | (go_at_call 99;refine Calls.quiet_of_same (v:=.bool true) ((jI _ _ hs).mono (fun e w' h=>by rw [hk] at h;exact h))))
 go_wp2;go_ret;exact ⟨aj (zP h4).symm,below_drewN bZ _⟩
theorem A6 (k t:ByteArray) (q d n:Int) (w:World) (hs:k.size≤maxLen) (hk:gZ k=true) (h1:1≤q) (h2:q≤100000) (h3:-1000000≤n) (h4:n≤1000000) (h5:60<t.size) :
 Calls Tryz.prog 33 #[.agg #[.string k,iT q,iT d,.string t,iT n]] w fun e w'=>e=.returned (.bool (dM k q d t n))∧Bl w w':=by
 have g:decide ((t.size:Int)≤60)=false:=decide_eq_false (by omega);go_enter Tryz.func33,Tryz.ntmps33
 go_wp2_with fail
 go_quiet (first | (go_at_call 99;refine Calls.quiet_of_same (v:=.bool true) ((jI _ _ hs).mono (fun e w' h=>by rw [hk] at h;exact h))))
 go_wp2;go_ret;exact ⟨aj (DQ h5).symm,below_drewN bZ _⟩
theorem il (T F : Nat) (k t : ByteArray) (q d n : Int) (w : World) (hs : k.size ≤ maxLen) (B : t.size ≤ 60) (hk : gZ k = true) (h1 : 1 ≤ q) (h2 : q ≤ 100000) (h3 : -1000000 ≤ n) (h4 : n ≤ 1000000) (s : ∀ w, Calls Tryz.prog 100 #[.agg #[.string k, iT q, iT d, .string t, iT n]] w fun e w' => e = .returned (.iface T (.agg #[])) ∧ Bl w w') (y : ∀ w, Calls Tryz.prog F #[.agg #[], .agg #[.string k, iT q, iT d, .string t, iT n]] w fun e w' => e = .returned (.bool (gT d t n)) ∧ Bl w w') (hm : ∀ w : World, (method 400 T (.agg #[]) "loop.example/comptoir/impl.fits").run Tryz.prog w = .ok (F, .agg #[]) w) (K : ∀ (xs : Array Value) (w : World), (callFunc F xs).run Tryz.prog w = .ok (.enter F xs) w) :
 Calls Tryz.prog 33 #[.agg #[.string k,iT q,iT d,.string t,iT n]] w fun e w'=>e=.returned (.bool (dM k q d t n))∧Bl w w':=by
 have H:Eq (dM k q d t n=gT d t n):=fQ hk h1 h2 h3 h4 B;have I:(t.size:Int)≤60:=by omega
 clear B;go_enter Tryz.func33,Tryz.ntmps33
 go_wp2_with fail
 obtain ⟨X,f⟩:=aG w.heap.size;obtain ⟨W,b⟩:=aG (w.alloc (.cells #[.string k,iT q,iT d,.string t,iT n] 50));have x0:W.cell? ⟨X,0,none⟩=some (.string k):=by rw [b,f];simp
 have x1:W.cell? ⟨X,1,none⟩=some (iT q):=by rw [b,f];simp
 have J:W.cell? ⟨X,2,none⟩=some (iT d):=by rw [b,f];simp
 have E:W.cell? ⟨X,3,none⟩=some (.string t):=by rw [b,f];simp
 have D:W.cell? ⟨X,4,none⟩=some (iT n):=by rw [b,f];simp
 have A:Bl w W:=by rw [b];exact bZ
 rw [← b,← f];clear b f;have m:Eq (Bl w W):=A;clear A;have r:Bl W W.drew:=(Below.refl _ W).drew;have g:Eq (∀w',Bl W w'→(w'.cell? ⟨X,0,none⟩=some (.string k)∧w'.cell? ⟨X,1,none⟩=some (iT q)∧w'.cell? ⟨X,2,none⟩=some (iT d)∧w'.cell? ⟨X,3,none⟩=some (.string t)∧w'.cell? ⟨X,4,none⟩=some (iT n)∧X<w'.heap.size∧Bl W w')):=fun w' k=>⟨cell_later k x0,cell_later k x1,cell_later k J,cell_later k E,cell_later k D,GK _ _ (cell_later k x0),k⟩
 go_region_held3 (fun w'=>w'.cell? ⟨X,0,none⟩=some (.string k)∧w'.cell? ⟨X,1,none⟩=some (iT q)∧w'.cell? ⟨X,2,none⟩=some (iT d)∧w'.cell? ⟨X,3,none⟩=some (.string t)∧w'.cell? ⟨X,4,none⟩=some (iT n)∧X<w'.heap.size∧Bl W w') (first | exact g.o _ C | exact g.o _ k1 | exact g.o _ r) (first
  | (go_at_call 99;refine (jI _ _ hs).mono ?_;rw [hk];rintro e w' ⟨rfl,rfl⟩)
  | (go_at_call 100;refine (s _).mono ?_;rintro e w1 ⟨rfl,x⟩;have k1:Bl W w1:=r.trans (x.mono r.size))
  | (refine (y _).mono ?_;rintro e w2 ⟨rfl,u⟩;have C:Bl W w2:=k1.trans (u.mono k1.size)))
 go_wp2;go_ret;exact ⟨aj H.o.symm,m.o.trans (C.mono m.o.size)⟩
theorem uE (k t:ByteArray) (q d n:Int) (w:World) (hs:k.size≤maxLen) :
 Calls Tryz.prog 33 #[.agg #[.string k,iT q,iT d,.string t,iT n]] w fun e w'=>e=.returned (.bool (dM k q d t n))∧Bl w w':=by
 cases hk:gZ k with
 | false=>exact wJ k t q d n w hs hk
 | true =>
  by_cases h1:q<1
  · exact yR k t q d n w hs hk h1
  by_cases h2:100000<q
  · exact yQ k t q d n w hs hk (by omega) h2
  by_cases h3:n < -1000000
  · exact yT k t q d n w hs hk (by omega) (by omega) h3
  by_cases h4:1000000<n
  · exact yS k t q d n w hs hk (by omega) (by omega) (by omega) h4
  by_cases h5:60<t.size
  · exact A6 k t q d n w hs hk (by omega) (by omega) (by omega) (by omega) h5
  by_cases g:d=1
  · subst g;exact il 176 312 k t q 1 n w hs (by omega) hk (by omega) (by omega) (by omega) (by omega) (iz k t q n) (uL k t q n) (fun _=>by kernel_rfl) (fun _ _=>by kernel_rfl)
  by_cases b:d=2
  · subst b;exact il 177 314 k t q 2 n w hs (by omega) hk (by omega) (by omega) (by omega) (by omega) (iA k t q n) (uM k t q n) (fun _=>by kernel_rfl) (fun _ _=>by kernel_rfl)
  by_cases f:d=3
  · subst f;exact il 178 316 k t q 3 n w hs (by omega) hk (by omega) (by omega) (by omega) (by omega) (iB k t q n) (uN k t q n) (fun _=>by kernel_rfl) (fun _ _=>by kernel_rfl)
  exact il 179 318 k t q d n w hs (by omega) hk (by omega) (by omega) (by omega) (by omega) (fun w=>iV k t q d n w g b f) (fun w=>wO k t q d n w g b f) (fun _=>by kernel_rfl) (fun _ _=>by kernel_rfl)
end
end Go.Proofs.YtpobkmjicbobdaaGreat
