/- Walks. -/
import Derived.Test.YtpobkmjicbobdaaGreatBD00
import Derived.Deep.RegionHeld3
import Derived.Deep.DeepCutAuto
import Derived.Lib.Walk
import Derived.Deep.RegionWith
import Derived.Deep.QuietTactic
import Derived.BigQuiet
namespace Go.Proofs.YtpobkmjicbobdaaGreat
set_option maxRecDepth 100000
set_option maxHeartbeats 40000000
open Go.RowKit
variable {fuel i:Nat} {v:Value} {w:World}
theorem tJ (k t:ByteArray) (q d n:Int) (w:World) (hs:k.size≤maxLen) (u:t.size≤maxLen) :
 Calls Tryz.prog 143 #[.agg #[.string k,iT q,iT d,.string t,iT n]] w fun e w'=>e=.returned (.bool (dq k q d t n))∧Bl w w':=by
 have b:=u;unfold maxLen at b;cases hk:fW k with
 | false =>
  go_enter Tryz.func143,Tryz.ntmps143
  go_wp2_with (first | (go_at_call 199;refine (fa _ _ hs).mono ?_;rintro e w' ⟨rfl,rfl⟩) | go_in)
  go_ret;exact ⟨ag (vS hk).symm,bZ⟩
 | true =>
  by_cases h1:q<1
  · go_enter Tryz.func143,Tryz.ntmps143
    go_wp2_with (first | (go_at_call 199;refine (fa _ _ hs).mono ?_;rintro e w' ⟨rfl,rfl⟩) | go_in)
    go_ret;exact ⟨ag (zi h1).symm,bZ⟩
  by_cases h2:100000<q
  · go_enter Tryz.func143,Tryz.ntmps143
    go_wp2_with (first | (go_at_call 199;refine (fa _ _ hs).mono ?_;rintro e w' ⟨rfl,rfl⟩) | go_in)
    go_ret;exact ⟨ag (zh h2).symm,bZ⟩
  by_cases h3:n < -1000000
  · go_enter Tryz.func143,Tryz.ntmps143
    go_wp2_with (first | (go_at_call 199;refine (fa _ _ hs).mono ?_;rintro e w' ⟨rfl,rfl⟩) | go_in)
    go_ret;exact ⟨ag (zl h3).symm,bZ⟩
  by_cases h4:1000000<n
  · go_enter Tryz.func143,Tryz.ntmps143
    go_wp2_with (first | (go_at_call 199;refine (fa _ _ hs).mono ?_;rintro e w' ⟨rfl,rfl⟩) | go_in)
    go_ret;exact ⟨ag (zj h4).symm,bZ⟩
  by_cases h5:60<t.size
  · go_enter Tryz.func143,Tryz.ntmps143
    go_wp2_with (first | (go_at_call 199;refine (fa _ _ hs).mono ?_;rintro e w' ⟨rfl,rfl⟩) | go_in)
    go_ret;exact ⟨ag (Dr h5).symm,bZ⟩
  by_cases o:d=1
  · subst o;go_enter Tryz.func143,Tryz.ntmps143
    go_wp2_with (first | (go_at_call 199;refine (fa _ _ hs).mono ?_;rintro e w' ⟨rfl,rfl⟩) | go_in)
    go_ret;refine ⟨ag ?_,bZ⟩;rw [eE hk (by omega) (by omega) (by omega) (by omega) (by omega)];exact pp.symm
  by_cases f:d=2
  · subst f;by_cases t0:t=ByteArray.empty
    · subst t0;by_cases r:n=0
      · subst r;go_enter Tryz.func143,Tryz.ntmps143
        go_wp2_with (first | (go_at_call 199;refine (fa _ _ hs).mono ?_;rintro e w' ⟨rfl,rfl⟩) | go_in)
        go_ret;refine ⟨ag ?_,bZ⟩;rw [eE hk (by omega) (by omega) (by omega) (by omega) (by omega)];rw [iB];rfl
      · have x:(n == 0)=false:=by simpa using r
        go_enter Tryz.func143,Tryz.ntmps143
        go_wp2_with (first | (go_at_call 199;refine (fa _ _ hs).mono ?_;rintro e w' ⟨rfl,rfl⟩) | go_in)
        go_ret;refine ⟨ag ?_,bZ⟩;rw [eE hk (by omega) (by omega) (by omega) (by omega) (by omega)];rw [iB];simp [r]
    · have m:=fO t0;have s:=kH t0;go_enter Tryz.func143,Tryz.ntmps143
      go_wp2_with (first | (go_at_call 199;refine (fa _ _ hs).mono ?_;rintro e w' ⟨rfl,rfl⟩) | go_in)
      go_ret;refine ⟨ag ?_,bZ⟩;rw [eE hk (by omega) (by omega) (by omega) (by omega) (by omega)];rw [iB];simp [m]
  by_cases g:d=3
  · subst g;by_cases t0:t=ByteArray.empty
    · subst t0;go_enter Tryz.func143,Tryz.ntmps143
      go_wp2_with (first | (go_at_call 199;refine (fa _ _ hs).mono ?_;rintro e w' ⟨rfl,rfl⟩) | go_in)
      go_ret;refine ⟨ag ?_,bZ⟩;rw [eE hk (by omega) (by omega) (by omega) (by omega) (by omega)];rw [mE];rfl
    · have m:=fO t0;have s:=kH t0;go_enter Tryz.func143,Tryz.ntmps143
      go_wp2_with (first | (go_at_call 199;refine (fa _ _ hs).mono ?_;rintro e w' ⟨rfl,rfl⟩) | go_in)
      go_ret;refine ⟨ag ?_,bZ⟩;rw [eE hk (by omega) (by omega) (by omega) (by omega) (by omega)];rw [mE];simp [m,s]
  have e1:(d == 1)=false:=by simpa using o
  have e2:(d == 2)=false:=by simpa using f
  have e3:(d == 3)=false:=by simpa using g
  go_enter Tryz.func143,Tryz.ntmps143
  go_wp2_with (first | (go_at_call 199;refine (fa _ _ hs).mono ?_;rintro e w' ⟨rfl,rfl⟩) | go_in)
  go_ret;refine ⟨ag ?_,bZ⟩;rw [eE hk (by omega) (by omega) (by omega) (by omega) (by omega)];exact (pq o f g).symm
theorem Ba (W:World) (x y:Value) (t b:Nat) (hb:b=W.heap.size):(W.alloc (.cells #[x,y] t)).drew.cell? ⟨b,0,none⟩=some x:=by subst hb;simp
theorem A9 (W:World) (x y:Value) (t b:Nat) (hb:b=W.heap.size):(W.alloc (.cells #[x,y] t)).drew.cell? ⟨b,1,none⟩=some y:=by subst hb;simp
theorem xe (a b:ByteArray) (w:World) :
 Calls Tryz.prog 243 #[.string a,.string b] w fun e w'=>e=.returned (iT (Lib.compareBytes a.data.toList b.data.toList))∧w'=w:=by
 go_enter Tryz.func243,Tryz.ntmps243
 go_wp2;rw [run_callFunc_extern Tryz.func275 (by kernel_rfl) (by kernel_rfl) (by kernel_rfl) (e:=Extern.BytealgCompare.compare) (by kernel_rfl),Lib.run_compareString];simp only [Result.andThen];rw [Oper.upon_value];go_wp2;go_ret;exact ⟨rfl,rfl⟩
theorem jq (x y:Int) (w:World) :
 Calls Tryz.prog 170 #[iT x,iT y] w fun e w'=>e=.returned (iT (Lib.compareInt x y))∧w'=w:=by
 by_cases h1:x<y
 · go_enter Tryz.func170,Tryz.ntmps170
   go_wp2;go_ret;exact ⟨by simp [Lib.compareInt,h1],rfl⟩
 · by_cases h2:x > y
   · have b:=h2;go_enter Tryz.func170,Tryz.ntmps170
     go_wp2;go_ret;exact ⟨by simp [Lib.compareInt,h1,h2],rfl⟩
   · have h3:x=y:=by omega
     subst h3;go_enter Tryz.func170,Tryz.ntmps170
     go_wp2;go_ret;exact ⟨by simp [Lib.compareInt],rfl⟩
theorem EU (x y:Int) (b c:Nat) (w:World) (g:w.cell? ⟨b,0,none⟩=some (iT x)) (f:w.cell? ⟨b,1,none⟩=some (iT y)) :
 Calls Tryz.prog 242 #[sL b 2 c] w fun e w'=>e=.returned (iT (if x=0 then y else x))∧w'=w:=by
 go_enter Tryz.func242,Tryz.ntmps242
 go_wp2;go_loop [8] (fun i=>(i=iT 0)∨(i=iT 1∧x=0)∨(i=iT 2∧x=0∧y=0)) (fun i=>2 - (intOf i).toNat)
 case atStart=>exact Or.inl rfl
 case round =>
  rcases hrel with rfl | ⟨rfl,rfl⟩ | ⟨rfl,rfl,rfl⟩
  · by_cases h0:x=0
    · subst h0;go_wp2;go_round
      case rel=>exact Or.inr (Or.inl ⟨by go_num,trivial⟩)
      case measure=>simp [intOf]
    · have d:(x != 0)=true:=by simpa using h0
      go_wp2;go_ret;exact ⟨rfl,rfl⟩
  · by_cases h0:y=0
    · subst h0;go_wp2;go_round
      case rel=>exact Or.inr (Or.inr ⟨by go_num,trivial,trivial⟩)
      case measure=>simp [intOf]
    · have d:(y != 0)=true:=by simpa using h0
      go_wp2;go_ret;exact ⟨rfl,rfl⟩
  · go_wp2;go_ret;exact ⟨rfl,rfl⟩
def jP (ka:ByteArray) (qa:Int) (kb:ByteArray) (qb:Int):Int:=if Lib.compareBytes ka.data.toList kb.data.toList=0 then Lib.compareInt qb qa else Lib.compareBytes ka.data.toList kb.data.toList
theorem ll (d B m E:ByteArray) (g y F f H x:Int) (w:World) :
 Calls Tryz.prog 218 #[.agg #[.string d,iT g,iT y,.string B,iT F],.agg #[.string m,iT f,iT H,.string E,iT x]] w fun e w'=>e=.returned (iT (jP d g m f))∧Bl w w':=by
 obtain ⟨C,hC⟩:=aF (Lib.compareBytes d.data.toList m.data.toList);obtain ⟨D,hD⟩:=aF (Lib.compareInt f g);have c1:∀w,Calls Tryz.prog 243 #[.string d,.string m] w fun e w'=>e=.returned (iT C)∧w'=w:=by rw [hC];exact xe d m
 have J:∀w,Calls Tryz.prog 170 #[iT f,iT g] w fun e w'=>e=.returned (iT D)∧w'=w:=by rw [hD];exact jq f g
 obtain ⟨O,hO⟩:=aF (if C=0 then D else C);have c3:∀b c w,w.cell? ⟨b,0,none⟩=some (iT C)→w.cell? ⟨b,1,none⟩=some (iT D)→Calls Tryz.prog 242 #[sL b 2 c] w fun e w'=>e=.returned (iT O)∧w'=w:=by
  rw [hO];exact fun b c w I K=>EU C D b c w I K
 unfold jP;rw [← hC,← hD,← hO];clear hC hD hO;go_enter Tryz.func218,Tryz.ntmps218
 go_wp2_with fail
 obtain ⟨X,s⟩:=aF w.heap.size;obtain ⟨W,n⟩:=aF ((w.alloc (.cells #[.string d,iT g,iT y,.string B,iT F] 50)).alloc (.cells #[.string m,iT f,iT H,.string E,iT x] 50));have x0:W.cell? ⟨X,0,none⟩=some (.string d):=by rw [n,s];simp
 have x1:W.cell? ⟨X,1,none⟩=some (iT g):=by rw [n,s];simp
 have y0:W.cell? ⟨X+1,0,none⟩=some (.string m):=by rw [n,s];simp
 have y1:W.cell? ⟨X+1,1,none⟩=some (iT f):=by rw [n,s];simp
 have u:Bl w W:=by rw [n];exact bZ.alloc (by simp) _
 rw [← n,← s];clear n s;have t:Eq (Bl w W):=u;clear u;have A:Bl W W.drew:=(Below.refl _ W).drew;have r:Eq (∀w',Bl W w'→(w'.cell? ⟨X,0,none⟩=some (.string d)∧w'.cell? ⟨X,1,none⟩=some (iT g)∧w'.cell? ⟨X+1,0,none⟩=some (.string m)∧w'.cell? ⟨X+1,1,none⟩=some (iT f)∧Bl W w')):=fun w' k=>⟨cell_later k x0,cell_later k x1,cell_later k y0,cell_later k y1,k⟩
 go_region_held3 (fun w'=>w'.cell? ⟨X,0,none⟩=some (.string d)∧w'.cell? ⟨X,1,none⟩=some (iT g)∧w'.cell? ⟨X+1,0,none⟩=some (.string m)∧w'.cell? ⟨X+1,1,none⟩=some (iT f)∧Bl W w') (first | exact r.o _ A | exact r.o _ ((Below.refl _ W).alloc (Gg _) _).drew | exact r.o _ (A.alloc (Gg _) _)) (first
  | (go_at_call 243;refine (c1 _).mono ?_;rintro e w' ⟨rfl,rfl⟩)
  | (go_at_call 170;refine (J _).mono ?_;rintro e w' ⟨rfl,rfl⟩)
  | (go_at_call 242;refine (c3 _ _ _ (Ba _ _ _ _ _ (by simp)) (A9 _ _ _ _ _ (by simp))).mono ?_;rintro e w' ⟨rfl,rfl⟩))
 go_wp2;go_ret;exact ⟨rfl,t.o.trans (((Below.refl _ W).alloc (Gg _) _).drew.mono t.o.size)⟩
theorem ii (b kb:ByteArray) (d qb:Int):decide (jP b d kb qb<0)=bF b d kb qb:=by
 unfold bF jP Lib.compareInt;rcases iY b.data.toList kb.data.toList with ⟨h,h1,h2⟩ | ⟨h,h1,h2⟩ | ⟨h,h1,h2⟩
 · rw [h,h1];rfl
 · have:b=kb:=by
    apply Io;exact Il.1 h2
   subst this;rw [h,h1];by_cases g:qb<d
   · simp [g]
   · by_cases f:qb > d <;> simp [g,f]
 · have:¬b=kb:=fun e=>h2 (by rw [e])
   rw [h,h1];simp [this]
theorem qw (b t g n:ByteArray) (d r o m s u:Int) (w:World) :
 Calls Tryz.prog 203 #[.agg #[.string b,iT d,iT r,.string t,iT o],.agg #[.string g,iT m,iT s,.string n,iT u]] w fun e w'=>e=.returned (.bool (bF b d g m))∧Bl w w':=by
 go_enter Tryz.func203,Tryz.ntmps203
 go_wp2_with fail
 refine (ll _ _ _ _ _ _ _ _ _ _ _).mono ?_;rintro e x ⟨rfl,f⟩;go_wp2;go_ret;exact ⟨ag (ii b g d m),(bZ.alloc (by simp) _).trans (f.mono (by simp;omega))⟩
theorem nQ (a:List UInt8):Op.bytesLess a a=false:=by
 rcases iY a a with ⟨_,_,h⟩ | ⟨_,h,_⟩ | ⟨_,h,_⟩
 · exact absurd rfl h
 · exact h
 · exact h
theorem uP (b x d n:ByteArray) (m t o f u s:Int) (w:World) :
 Calls Tryz.prog 144 #[.agg #[.string b,iT m,iT t,.string x,iT o],.agg #[.string d,iT f,iT u,.string n,iT s]] w fun e w'=>e=.returned (.bool (bF b m d f))∧Bl w w':=by
 by_cases g:b=d
 · subst g;have hl:Op.bytesLess b.toList b.toList=false:=nQ _;by_cases hq:f<m
   · go_enter Tryz.func144,Tryz.ntmps144
     go_wp2;go_ret;refine ⟨ag ?_,bZ.alloc (by simp) _⟩;unfold bF;rw [nQ];simp [hq]
   · go_enter Tryz.func144,Tryz.ntmps144
     go_wp2;go_ret;refine ⟨ag ?_,bZ.alloc (by simp) _⟩;unfold bF;rw [nQ];simp [hq]
 · have r:¬b.toList=d.toList:=by
    rw [GS,GS];intro h;exact g (Io (Il.1 h))
   cases hl:Op.bytesLess b.toList d.toList with
   | true =>
    go_enter Tryz.func144,Tryz.ntmps144
    go_wp2;go_ret;refine ⟨ag ?_,bZ.alloc (by simp) _⟩;unfold bF;rw [GS,GS] at hl;simp [hl]
   | false =>
    go_enter Tryz.func144,Tryz.ntmps144
    go_wp2;go_ret;refine ⟨ag ?_,bZ.alloc (by simp) _⟩;unfold bF;rw [GS,GS] at hl;simp [hl,g]
theorem tK (n:Nat) (w:World) (hn:n≤16) :
 Calls Tryz.prog 253 #[iT n] w fun e w'=>e=.returned (iT ((2 ^ n:Nat):Int))∧w'=w:=by
 go_enter Tryz.func253,Tryz.ntmps253
 go_wp2;go_loop [3,4] (fun o i=>∃k p:Nat,k≤n∧i=iT k∧o=iT p∧p=2 ^ k) (fun _ i=>n - (intOf i).toNat)
 case atStart=>exact ⟨0,1,Gl _,rfl,rfl,rfl⟩
 case round =>
  obtain ⟨k,p,hk,rfl,rfl,hp⟩:=hrel;have b:Eq (p=2 ^ k):=hp;have f:p≤65536:=by rw [hp];exact Nat.pow_le_pow_right (n:=2) (by omega) (by omega:k≤16)
  clear hp;by_cases d:k<n
  · go_wp2;go_round
    case rel=>exact ⟨k+1,p*2,by omega,by go_num,by go_num,by rw [b.o,Nat.pow_succ]⟩
    case measure=>simp [intOf];omega
  · go_wp2;go_ret;have:k=n:=by omega
    subst this;exact ⟨mz (by have:=b.o;subst this;simp),rfl⟩
theorem BQ (a b:Nat) (w:World) (ha:a<65536) (hb:b<65536) :
 Calls Tryz.prog 236 #[iT a,iT b] w fun e w'=>e=.returned (iT ((a ||| b:Nat):Int))∧w'=w:=by
 obtain ⟨c,hc⟩:=aF (a ||| b);have C:c<65536:=by rw [hc];exact iP ha hb
 have E:Eq (∀i,c / 2 ^ i=c / 2 ^ (i+1)*2+(if a / 2 ^ i % 2=1∨b / 2 ^ i % 2=1 then 1 else 0)):=by rw [hc];exact Ed a b
 rw [← hc];clear hc;go_enter Tryz.func236,Tryz.ntmps236
 go_wp2;go_loop [5,6] (fun o i=>∃(k p:Nat) (x:Int),k≤16∧x=(k:Int) - 1∧i=iT x∧o=iT p∧p=c / 2 ^ k) (fun _ i=>(intOf i+1).toNat)
 case atStart=>exact ⟨16,0,15,Gg _,rfl,rfl,rfl,(Nat.div_eq_of_lt C).symm⟩
 case round =>
  obtain ⟨k,p,x,hk,hx,rfl,rfl,hp⟩:=hrel;cases k with
  | zero =>
   have u:p=c:=by simpa using hp
   subst u;have m:x=-1:=by omega
   subst m;clear hx hp;go_wp2;go_ret;exact ⟨rfl,rfl⟩
  | succ j =>
   obtain ⟨z,hz⟩:∃z:Nat,z=2 ^ j:=⟨_,rfl⟩;have H:0<z:=by rw [hz];exact Nat.two_pow_pos j
   have I:p≤65536:=by rw [hp];exact Gq (Nat.div_le_self _ _) (by omega)
   have y:Eq (∀w,Calls Tryz.prog 253 #[iT j] w fun e w'=>e=.returned (iT (z:Int))∧w'=w):=by rw [hz];exact fun w=>tK j w (by omega)
   have n:=E.o j;rw [← hp,← hz] at n;have t:Eq (c / z=p*2+(if a / z % 2=1∨b / z % 2=1 then 1 else 0)):=n;have D:Eq (z=2 ^ j):=hz;clear n hp hz;have m:x=(j:Int):=by omega
   subst m;clear hx;obtain ⟨r,f⟩:∃q:Nat,q=a / z:=⟨_,rfl⟩;obtain ⟨s,d⟩:∃q:Nat,q=b / z:=⟨_,rfl⟩;have J:(a:Int) / (z:Int)=(r:Int):=by rw [f];simp
   have K:(b:Int) / (z:Int)=(s:Int):=by rw [d];simp
   have L:r<65536:=by rw [f];exact IL (Nat.div_le_self _ _) ha
   have lb:s<65536:=by rw [d];exact IL (Nat.div_le_self _ _) hb
   rw [← f,← d] at t;clear f d;by_cases h1:r % 2=1
   · have B:(r:Int) % 2=1:=by omega
     go_wp2_with (go_at_call 253;refine (y.o _).mono ?_;rintro e w' ⟨rfl,rfl⟩)
     exact ⟨⟨j,p*2+1,(j:Int) - 1,by omega,rfl,rfl,by simp,by rw [← D.o,t.o,if_pos (Or.inl h1)]⟩,by simp [intOf]⟩
   · have B:¬(r:Int) % 2=1:=by omega
     by_cases h2:s % 2=1
     · have A:(s:Int) % 2=1:=by omega
       go_wp2_with (go_at_call 253;refine (y.o _).mono ?_;rintro e w' ⟨rfl,rfl⟩)
       exact ⟨⟨j,p*2+1,(j:Int) - 1,by omega,rfl,rfl,by simp,by rw [← D.o,t.o,if_pos (Or.inr h2)]⟩,by simp [intOf]⟩
     · have A:((s:Int) % 2 == 1)=false:=by rw [beq_eq_false_iff_ne];omega
       have F:((r:Int) % 2 == 1)=false:=by rw [beq_eq_false_iff_ne];omega
       go_wp2_with (go_at_call 253;refine (y.o _).mono ?_;rintro e w' ⟨rfl,rfl⟩)
       exact ⟨⟨j,p*2,(j:Int) - 1,by omega,rfl,rfl,by simp,by rw [← D.o,t.o,if_neg (fun g=>g.elim h1 h2)];rfl⟩,by simp [intOf]⟩
theorem BT (s:ByteArray) (w:World) (hs:s.size≤maxLen) :
 Calls Tryz.prog 237 #[.string s] w fun e w'=>e=.returned (iT ((iz s:Nat):Int))∧w'=w:=by
 unfold maxLen at hs;go_enter Tryz.func237,Tryz.ntmps237
 go_wp2;go_loop [3,4] (fun o i=>∃k h:Nat,k≤s.size∧i=iT k∧o=iT h∧h<65521∧jz (s.data.toList.take k)=h) (fun _ i=>s.size - (intOf i).toNat)
 case atStart=>exact ⟨0,7,Gl _,rfl,rfl,by omega,rfl⟩
 case round =>
  obtain ⟨k,h,hk,rfl,rfl,hh,m⟩:=hrel;have E:Eq (jz (s.data.toList.take k)=h):=m;clear m;by_cases t:k<s.size
  · have H:Eq (jz (s.data.toList.take (k+1))=(31*h+(s[k]).toNat) % 65521):=by
     show jz (s.data.toList.take (k+1))=(31*h+(s[k]).toNat) % 65521
     rw [tf s k t,E.o];rfl
    have hc:(s[k]).toNat<256:=(s[k]).toNat_lt;go_wp2;go_round
    case rel=>exact ⟨k+1,(31*h+(s[k]).toNat) % 65521,by omega,by go_num,by go_num,by omega,H.o⟩
    case measure=>simp [intOf];omega
  · have B:k=s.size:=by omega
    have C:Eq (iz s=2 ^ (h % 16) ||| 2 ^ (h / 16 % 16)):=by
     show iz s=_
     have:=E.o;rw [Gr (by simp [B])] at this;unfold iz yW;rw [this]
    obtain ⟨x,hx⟩:=aF (h % 16);obtain ⟨y,hy⟩:=aF (h / 16 % 16);rw [← hx,← hy] at C;have A:x<16:=by omega
    have u:y<16:=by omega
    have J:(h:Int) % 16=(x:Int):=by omega
    have K:(h:Int) / 16 % 16=(y:Int):=by omega
    obtain ⟨f,b⟩:∃p:Nat,p=2 ^ x:=⟨_,rfl⟩;obtain ⟨n,d⟩:∃p:Nat,p=2 ^ y:=⟨_,rfl⟩;have F:Eq (∀w,Calls Tryz.prog 253 #[iT x] w fun e w'=>e=.returned (iT (f:Int))∧w'=w):=by rw [b];exact fun w=>tK x w (by omega)
    have I:Eq (∀w,Calls Tryz.prog 253 #[iT y] w fun e w'=>e=.returned (iT (n:Int))∧w'=w):=by rw [d];exact fun w=>tK y w (by omega)
    have g:f<65536:=by rw [b];exact f9 A
    have r:n<65536:=by rw [d];exact f9 u
    rw [← b,← d] at C;clear hx hy b d;have D:Eq (∀w,Calls Tryz.prog 236 #[iT f,iT n] w fun e w'=>e=.returned (iT ((f ||| n:Nat):Int))∧w'=w):=fun w=>BQ f n w g r
    go_wp2_with fail
    refine (F.o _).mono ?_;rintro e w' ⟨rfl,rfl⟩;go_wp2_with fail
    refine (I.o _).mono ?_;rintro e w' ⟨rfl,rfl⟩;go_wp2_with fail
    refine (D.o _).mono ?_;rintro e w' ⟨rfl,rfl⟩;go_wp2;go_ret;exact ⟨mz (by rw [C.o]),rfl⟩
theorem zv (a b:Nat) (ha:a<65536) (hb:b<65536):bits .or .i64 (a:Int) (b:Int)=((a ||| b:Nat):Int):=by
 have hc:=iP ha hb;have e:(BitVec.ofInt 64 (a:Int) ||| BitVec.ofInt 64 (b:Int)).toNat=a ||| b:=by
  simp [BitVec.toNat_or];rw [Nat.mod_eq_of_lt (by omega),Nat.mod_eq_of_lt (by omega)]
 have e2:IntKind.i64.wrap (((a ||| b:Nat)):Int)=((a ||| b:Nat):Int):=by
  rw [GB];generalize a ||| b=y at hc
  unfold wrap64;omega
 show IntKind.i64.wrap ((BitVec.ofInt 64 (a:Int) ||| BitVec.ofInt 64 (b:Int)).toNat:Int)=_
 rw [e,e2]
theorem vg (x:Nat) (hx:x<16):wrap64 (2 ^ x)=((2 ^ x:Nat):Int):=by
 have hp:=f9 hx;have:(2 ^ x:Int)=((2 ^ x:Nat):Int):=by simp
 rw [this];generalize 2 ^ x=y at hp;unfold wrap64;omega
theorem C6 (s:ByteArray) (w:World) (hs:s.size≤maxLen) :
 Calls Tryz.prog 244 #[.string s] w fun e w'=>e=.returned (iT ((iz s:Nat):Int))∧Bl w w':=by
 unfold maxLen at hs;go_enter Tryz.func244,Tryz.ntmps244
 go_wp2;go_loop [3,7] (fun o i=>∃k h:Nat,k≤s.size∧i=iT k∧o=iT h∧h<65521∧jz (s.data.toList.take k)=h) (fun _ i=>s.size - (intOf i).toNat)
 case atStart=>exact ⟨0,7,Gl _,rfl,rfl,by omega,rfl⟩
 case round =>
  obtain ⟨k,h,hk,rfl,rfl,hh,d⟩:=hrel;have n:Eq (jz (s.data.toList.take k)=h):=d;clear d;by_cases g:k<s.size
  · have t:Eq (jz (s.data.toList.take (k+1))=(31*h+(s[k]).toNat) % 65521):=by
     show jz (s.data.toList.take (k+1))=(31*h+(s[k]).toNat) % 65521
     rw [tf s k g,n.o];rfl
    have hc:(s[k]).toNat<256:=(s[k]).toNat_lt;go_wp2;go_round
    case rel=>exact ⟨k+1,(31*h+(s[k]).toNat) % 65521,by omega,by go_num,by go_num,by omega,t.o⟩
    case measure=>simp [intOf];omega
  · have m:k=s.size:=by omega
    have r:Eq (iz s=2 ^ (h % 16) ||| 2 ^ (h / 16 % 16)):=by
     show iz s=_
     have:=n.o;rw [Gr (by simp [m])] at this;unfold iz yW;rw [this]
    obtain ⟨x,hx⟩:=aF (h % 16);obtain ⟨y,hy⟩:=aF (h / 16 % 16);rw [← hx,← hy] at r;have f:x<16:=by omega
    have b:y<16:=by omega
    have u:(h:Int) % 16=(x:Int):=by omega
    have A:(h:Int) / 16 % 16=(y:Int):=by omega
    clear hx hy;go_wp2_with fail
    go_quiet (fail)
    go_wp2;go_ret;refine ⟨mz ?_,below_drewN (Below.refl _ _) _⟩;rw [vg x f,vg y b,zv _ _ (f9 f) (f9 b),r.o]
theorem cY {P:Program} {l:List Oper} {Q:Exit→Act→World→Prop} {d:Region.Mode} {S:World→Prop} {e:Oper} {b:Array Bool} {a:Act} (hi:l[i]?=some e)
 (hs:Region.noSelect l.toArray=true) (hf:Region.free d l.toArray b i=true) (hr:(Region.ready d l.toArray b).contains i=true)
 (hQ:∀c a w,Q (.panic c) (a.put e.dst v) w→Q (.panic c) a w) (hy:YieldsIf P l.toArray S e v a) (hS:S w)
 (h:wpAnyH P d l.toArray Q S fuel (b.setIfInBounds i true) (a.put e.dst v) w):wpAnyH P d l.toArray Q S (fuel+1) b a w :=
 wpAnyH_take (by simpa using hi) hs hf hr hQ hy hS h
theorem tkL {P:Program} {l:List Oper} {Q:Exit→Act→World→Prop} {d:Region.Mode} {S:World→Prop} (i:Nat) {oi:Oper} {v:Value} {fuel:Nat} {b:Array Bool} {a:Act} {w:World} (hS:S w)
 (h:wpAnyH P d l.toArray Q S fuel (b.setIfInBounds i true) (a.put oi.dst v) w) (hi:l[i]?=some oi:=by exact rfl) (hs:Region.noSelect l.toArray=true:=by kernel_rfl) (hf:Region.free d l.toArray b i=true:=by kernel_rfl) (hr:(Region.ready d l.toArray b).contains i=true:=by kernel_rfl)
 (hQ:∀c a w,Q (.panic c) (a.put oi.dst v) w→Q (.panic c) a w:=by exact fun _ _ _ h=>h) (hy:YieldsIf P l.toArray S oi v a:=by (refine Or.inl ⟨by rfl,?_⟩;intro w e;(try dsimp only at e);go_simp;try with_reducible rfl)):wpAnyH P d l.toArray Q S (fuel+1) b a w :=
 cY hi hs hf hr hQ hy hS h
theorem tkN {P:Program} {l:List Oper} {Q:Exit→Act→World→Prop} {d:Region.Mode} {S:World→Prop} (i:Nat) {oi:Oper} {fuel:Nat} {b:Array Bool} {a:Act} {w:World} (hS:S w)
 (h:wpAnyH P d l.toArray Q S fuel (b.setIfInBounds i true) (a.put oi.dst undef) w) (hi:l[i]?=some oi:=by exact rfl) (hs:Region.noSelect l.toArray=true:=by kernel_rfl) (hf:Region.free d l.toArray b i=true:=by kernel_rfl) (hr:(Region.ready d l.toArray b).contains i=true:=by kernel_rfl)
 (hQ:∀c a w,Q (.panic c) (a.put oi.dst undef) w→Q (.panic c) a w:=by exact fun _ _ _ h=>h) (hy:YieldsIf P l.toArray S oi undef a:=by exact Or.inr ⟨by rfl,rfl⟩):wpAnyH P d l.toArray Q S (fuel+1) b a w :=
 cY hi hs hf hr hQ hy hS h
theorem cW {P:Program} {l:List Oper} {Q:Exit→Act→World→Prop} {d:Region.Mode} {S:World→Prop} {b:Array Bool} {a:Act} {o:Oper} {rs:List Nat} (ho:l[i]?=some o)
 (h:∀e:Act→World→Prop,GA (∀a w,S w→(S w→wpAnyH P d l.toArray Q S fuel (b.setIfInBounds i true) a w)→e a w)→if Region.wanted o (yielded l.toArray a.tmps)=true then Oper.wp P o a w e Q else e (a.put o.dst undef) w)
 (hs:AllReadyH P d l.toArray Q S fuel b a w rs):AllReadyH P d l.toArray Q S fuel b a w (i :: rs) :=
 AllReadyH.cons (by simpa using ho) h hs
theorem aS {P:Program} {l:List Oper} {Q:Exit→Act→World→Prop} {d:Region.Mode} {S:World→Prop} (i:Nat) {o:Oper} {fuel:Nat} {b:Array Bool} {a:Act} {w:World}
 (h:∀e:Act→World→Prop,GA (∀a w,S w→(S w→wpAnyH P d l.toArray Q S fuel (b.setIfInBounds i true) a w)→e a w)→if Region.wanted o (yielded l.toArray a.tmps)=true then Oper.wp P o a w e Q else e (a.put o.dst undef) w)
 (ho:l[i]?=some o:=by exact rfl) (hr:Region.ready d l.toArray b=[i]:=by kernel_rfl):wpAnyH P d l.toArray Q S (fuel+1) b a w :=
 wpAnyH_ready hr (by simp) (cW ho h AllReadyH.nil)
def tA (P:Program) (md:Region.Mode) (l:List Oper) (Q:Exit → Act → World → Prop) (S:World → Prop) (fuel:Nat) (w:World):Nat → Nat → Array Bool → Act → Prop
 | 0,_,listed,a=>wpAnyH P md l.toArray Q S fuel listed a w
 | n+1,i,listed,a=>∃oi v,(l[i]? = some oi∧Region.noSelect l.toArray=true∧Region.free md l.toArray listed i=true∧(Region.ready md l.toArray listed).contains i=true)∧(∀c a w,Q (.panic c) (a.put oi.dst v) w → Q (.panic c) a w)∧YieldsIf P l.toArray S oi v a∧tA P md l Q S fuel w n (i+1) (listed.setIfInBounds i true) (a.put oi.dst v)
theorem tk0 {P:Program} {d:Region.Mode} {l:List Oper} {Q:Exit → Act → World → Prop} {S:World → Prop} {b:Array Bool} {a:Act} (h:wpAnyH P d l.toArray Q S fuel b a w):tA P d l Q S fuel w 0 i b a:=h
theorem Ge {P:Program} {e:Region.Mode} {l:List Oper} {Q:Exit → Act → World → Prop} {S:World → Prop} {n:Nat} {b:Array Bool} {a:Act} {d:Oper} (hi:l[i]? = some d) (hs:Region.noSelect l.toArray=true) (hf:Region.free e l.toArray b i=true) (hr:(Region.ready e l.toArray b).contains i=true)
 (hQ:∀c a w,Q (.panic c) (a.put d.dst v) w → Q (.panic c) a w) (hy:YieldsIf P l.toArray S d v a) (h:tA P e l Q S fuel w n (i+1) (b.setIfInBounds i true) (a.put d.dst v)):tA P e l Q S fuel w (n+1) i b a:=⟨d,v,⟨hi,hs,hf,hr⟩,hQ,hy,h⟩
theorem Gd {P:Program} {d:Region.Mode} {l:List Oper} {Q:Exit → Act → World → Prop} {S:World → Prop} {fuel:Nat} {w:World} (hS:S w):∀(n i:Nat) (b:Array Bool) (a:Act),tA P d l Q S fuel w n i b a → wpAnyH P d l.toArray Q S (fuel+n) b a w
 | 0,_,_,_,h=>h
 | n+1,_,_,_,⟨_,_,⟨hi,hs,hf,hr⟩,hQ,hy,h⟩=>cY hi hs hf hr hQ hy hS (Gd hS n _ _ _ h)
theorem aO {P:Program} {f:Region.Mode} {l:List Oper} {Q:Exit → Act → World → Prop} {S:World → Prop} (i n:Nat) {b:Array Bool} {a:Act} {g:Prop} (hS:S w) (h:g)
 (e:g → tA P f l Q S fuel w n i b a:=by
  (intro hg; repeat (first | exact tk0 hg | ((refine Ge (v:=?_) rfl (by kernel_rfl) (by kernel_rfl) (by kernel_rfl) (fun _ _ _ h=>h) (Or.inl ⟨by rfl,?_⟩) ?_; rotate_left; · (intro w d; (try dsimp only at d); go_simp; try with_reducible rfl)); try simp only [Act.put,Is,H9,Ik]) | (refine Ge (v:=undef) rfl (by kernel_rfl) (by kernel_rfl) (by kernel_rfl) (fun _ _ _ h=>h) (Or.inr ⟨by rfl,rfl⟩) ?_; try simp only [Act.put,Is,H9,Ik])))):wpAnyH P f l.toArray Q S (fuel+n) b a w:=Gd hS n i b a (e h)
theorem lI {P:Program} {l:List Oper} {Q:Exit → Act → World → Prop} {e:Region.Mode} {S:World → Prop} (i j:Nat) {o p:Oper} {fuel:Nat} {b:Array Bool} {a:Act} {w:World}
 (h:∀d:Act → World → Prop,GA (∀a w,S w → (S w → wpAnyH P e l.toArray Q S fuel (b.setIfInBounds i true) a w) → d a w) → if Region.wanted o (yielded l.toArray a.tmps)=true then Oper.wp P o a w d Q else d (a.put o.dst undef) w)
 (h2:∀d:Act → World → Prop,GA (∀a w,S w → (S w → wpAnyH P e l.toArray Q S fuel (b.setIfInBounds j true) a w) → d a w) → if Region.wanted p (yielded l.toArray a.tmps)=true then Oper.wp P p a w d Q else d (a.put p.dst undef) w)
 (ho:l[i]? = some o:=by exact rfl) (hp:l[j]? = some p:=by exact rfl) (hr:Region.ready e l.toArray b=[i,j]:=by kernel_rfl):wpAnyH P e l.toArray Q S (fuel+1) b a w:=wpAnyH_ready hr (by simp) (cW ho h (cW hp h2 AllReadyH.nil))
theorem rd3 {P:Program} {l:List Oper} {Q:Exit → Act → World → Prop} {e:Region.Mode} {S:World → Prop} (i j k:Nat) {o p q:Oper} {fuel:Nat} {b:Array Bool} {a:Act} {w:World}
 (h:∀d:Act → World → Prop,GA (∀a w,S w → (S w → wpAnyH P e l.toArray Q S fuel (b.setIfInBounds i true) a w) → d a w) → if Region.wanted o (yielded l.toArray a.tmps)=true then Oper.wp P o a w d Q else d (a.put o.dst undef) w)
 (h2:∀d:Act → World → Prop,GA (∀a w,S w → (S w → wpAnyH P e l.toArray Q S fuel (b.setIfInBounds j true) a w) → d a w) → if Region.wanted p (yielded l.toArray a.tmps)=true then Oper.wp P p a w d Q else d (a.put p.dst undef) w)
 (h3:∀d:Act → World → Prop,GA (∀a w,S w → (S w → wpAnyH P e l.toArray Q S fuel (b.setIfInBounds k true) a w) → d a w) → if Region.wanted q (yielded l.toArray a.tmps)=true then Oper.wp P q a w d Q else d (a.put q.dst undef) w)
 (ho:l[i]? = some o:=by exact rfl) (hp:l[j]? = some p:=by exact rfl) (hq:l[k]? = some q:=by exact rfl) (hr:Region.ready e l.toArray b=[i,j,k]:=by kernel_rfl):wpAnyH P e l.toArray Q S (fuel+1) b a w:=wpAnyH_ready hr (by simp) (cW ho h (cW hp h2 (cW hq h3 AllReadyH.nil)))
theorem eJ {P:Program} {b:Array Oper} {Q:Exit → Act → World → Prop} {id:Nat} {a:Act} {R S:World → Prop} (H:Eq (∀w',R w' → S w')) (k:R w.drew) (h:S w.drew → wpAnyH P .any b Q S b.size (Array.replicate b.size false) a w.drew) (hm:P.follows .mixedOrders=true:=by kernel_rfl):(Code.region id b true).wp P Q a w:=wp_region_held_drew hm (H.o _ k) h
theorem Dt {P:Program} {b:Array Oper} {Q:Exit → Act → World → Prop} {id:Nat} {a:Act} {R S:World → Prop} (H:∀w',R w' → S w') (k:R w.drew) (h:S w.drew → wpAnyH P .any b Q S b.size (Array.replicate b.size false) a w.drew) (hm:P.follows .mixedOrders=true:=by kernel_rfl):(Code.region id b true).wp P Q a w:=wp_region_held_drew hm (H _ k) h
theorem dN {P:Program} {d:Region.Mode} {l:List Oper} {Q:Exit → Act → World → Prop} {S:World → Prop} {fuel:Nat} {b:Array Bool} {a:Act} (h:Q .normal a w) (hr:Region.ready d l.toArray b=[]:=by kernel_rfl):wpAnyH P d l.toArray Q S fuel b a w:=wpAnyH_done hr h _
theorem jR (k t:ByteArray) (q n:Int) (w:World) :
 Calls Tryz.prog 100 #[.agg #[.string k,iT q,iT 1,.string t,iT n]] w fun e w'=>e=.returned (.iface 176 (.agg #[]))∧Bl w w':=by
 go_enter Tryz.func100,Tryz.ntmps100
 go_wp2;go_ret;exact ⟨rfl,bZ⟩
theorem jS (k t:ByteArray) (q n:Int) (w:World) :
 Calls Tryz.prog 100 #[.agg #[.string k,iT q,iT 2,.string t,iT n]] w fun e w'=>e=.returned (.iface 177 (.agg #[]))∧Bl w w':=by
 go_enter Tryz.func100,Tryz.ntmps100
 go_wp2;go_ret;exact ⟨rfl,bZ⟩
theorem jT (k t:ByteArray) (q n:Int) (w:World) :
 Calls Tryz.prog 100 #[.agg #[.string k,iT q,iT 3,.string t,iT n]] w fun e w'=>e=.returned (.iface 178 (.agg #[]))∧Bl w w':=by
 go_enter Tryz.func100,Tryz.ntmps100
 go_wp2;go_ret;exact ⟨rfl,bZ⟩
theorem lJ (k t:ByteArray) (q d n:Int) (w:World) (g:¬d=1) (b:¬d=2) (f:¬d=3) :
 Calls Tryz.prog 100 #[.agg #[.string k,iT q,iT d,.string t,iT n]] w fun e w'=>e=.returned (.iface 179 (.agg #[]))∧Bl w w':=by
 have e1:(d == 1)=false:=by simpa using g
 have e2:(d == 2)=false:=by simpa using b
 have e3:(d == 3)=false:=by simpa using f
 go_enter Tryz.func100,Tryz.ntmps100
 go_wp2;go_ret;exact ⟨rfl,bZ⟩
theorem ug (k t:ByteArray) (q n:Int) (w:World) :
 Calls Tryz.prog 312 #[.agg #[],.agg #[.string k,iT q,iT 1,.string t,iT n]] w fun e w'=>e=.returned (.bool (fS 1 t n))∧Bl w w':=by
 go_enter Tryz.func312,Tryz.ntmps312
 go_wp2;go_ret;exact ⟨ag (pp (t:=t) (n:=n)).symm,bZ.alloc (by simp) _⟩
theorem uh (k t:ByteArray) (q n:Int) (w:World) :
 Calls Tryz.prog 314 #[.agg #[],.agg #[.string k,iT q,iT 2,.string t,iT n]] w fun e w'=>e=.returned (.bool (fS 2 t n))∧Bl w w':=by
 by_cases t0:t=ByteArray.empty
 · subst t0;by_cases b:n=0
   · subst b;go_enter Tryz.func314,Tryz.ntmps314
     go_wp2;all_goals
      go_ret;exact ⟨ag (by rw [iB];rfl),bZ.alloc (by simp) _⟩
   · have g:(n == 0)=false:=by simpa using b
     go_enter Tryz.func314,Tryz.ntmps314
     go_wp2;all_goals
      go_ret;exact ⟨ag (by rw [iB];simp [b]),bZ.alloc (by simp) _⟩
 · have d:=fO t0;have f:=kH t0;go_enter Tryz.func314,Tryz.ntmps314
   go_wp2;all_goals
    go_ret;exact ⟨ag (by rw [iB];simp [d]),bZ.alloc (by simp) _⟩
theorem ui (k t:ByteArray) (q n:Int) (w:World) :
 Calls Tryz.prog 316 #[.agg #[],.agg #[.string k,iT q,iT 3,.string t,iT n]] w fun e w'=>e=.returned (.bool (fS 3 t n))∧Bl w w':=by
 by_cases t0:t=ByteArray.empty
 · subst t0;go_enter Tryz.func316,Tryz.ntmps316
   go_wp2;all_goals
    go_ret;exact ⟨ag (by rw [mE];rfl),bZ.alloc (by simp) _⟩
 · have d:=fO t0;have b:=kH t0;go_enter Tryz.func316,Tryz.ntmps316
   go_wp2;all_goals
    go_ret;exact ⟨ag (by rw [mE];simp [d,b]),bZ.alloc (by simp) _⟩
theorem vP (k t:ByteArray) (q d n:Int) (w:World) (g:¬d=1) (b:¬d=2) (f:¬d=3) :
 Calls Tryz.prog 318 #[.agg #[],.agg #[.string k,iT q,iT d,.string t,iT n]] w fun e w'=>e=.returned (.bool (fS d t n))∧Bl w w':=by
 go_enter Tryz.func318,Tryz.ntmps318
 go_wp2;go_ret;exact ⟨ag (pq g b f).symm,bZ.alloc (by simp) _⟩
end Go.Proofs.YtpobkmjicbobdaaGreat
