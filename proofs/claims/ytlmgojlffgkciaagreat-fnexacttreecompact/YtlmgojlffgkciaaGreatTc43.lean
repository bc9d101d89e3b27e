/-
  A contract of the library's slices package at this program, laid by the kit's own command.
-/
import Derived.Ground.Names2Prog
import Derived.Shelf.Slices.SearchI
import Derived.Shelf.Slices.Empties
import Derived.Test.YtlmgojlffgkciaaGreatProg
import Derived.Test.YtlmgojlffgkciaaGreatTc13
import Derived.Test.YtlmgojlffgkciaaGreatTc02
namespace Go.Proofs.YtlmgojlffgkciaaGreat
open Go.Shelf
def Tryz.lays25_ren : Go.Shelf.Ren := ⟨fun | 25 => 214 | 31 => 224 | 32 => 225 | 37 => 197 | n => n, fun | 22 => 24 | 3 => 3 | 4 => 4 | 40 => 197 | 0 => 0 | n => n, fun | n => n⟩
theorem Tryz.lays25 : Go.Proofs.Lays2.n25 Tryz.prog Tryz.lays25_ren := {
  mixed := by kernel_rfl
  f25 := Tryz.func214.trans (congrArg some (by kernel_rfl))
  f31 := Tryz.func224.trans (congrArg some (by kernel_rfl))
  f32 := Tryz.func225.trans (congrArg some (by kernel_rfl))
  f37 := Tryz.func197.trans (congrArg some (by kernel_rfl))
  t0 := Tryz.underlying0
  a0 := Tryz.isAgg0
  z0 := Tryz.sizeOf0
  v0 := Tryz.zeroValue0
  t3 := Tryz.underlying3
  a3 := Tryz.isAgg3
  z3 := Tryz.sizeOf3
  v3 := Tryz.zeroValue3
  t4 := Tryz.underlying4
  a4 := Tryz.isAgg4
  z4 := Tryz.sizeOf4
  v4 := Tryz.zeroValue4
  t22 := Tryz.underlying24
  a22 := Tryz.isAgg24
  z22 := Tryz.sizeOf24
  v22 := Tryz.zeroValue24
  t40 := Tryz.underlying197
  a40 := Tryz.isAgg197
  z40 := Tryz.sizeOf197
  v40 := Tryz.zeroValue197 }
end Go.Proofs.YtlmgojlffgkciaaGreat

namespace Go.Proofs.YtlmgojlffgkciaaGreat
open Go.RowKit
set_option maxRecDepth 100000
set_option maxHeartbeats 2000000
theorem tZ {o p:Int}:∀(K:List Int),K.Pairwise (·≤·)→(K.countP (·<o)=K.length→cH K o p=false)∧(∀k,K[K.countP (·<o)]?=some k→cH K o p=decide (k<p)):=by
 intro K;induction K with
 | nil=>intro _;exact ⟨fun _=>rfl,fun k h=>by simp at h⟩
 | cons x R ih =>
  intro h;obtain ⟨hx,hR⟩:=List.pairwise_cons.1 h;obtain ⟨i1,i2⟩:=ih hR;by_cases hxo:x<o
  · have e1:cH (x :: R) o p=cH R o p:=by
     unfold cH;rw [List.any_cons];have:decide (o≤x)=false:=by simp;omega
     rw [this];simp
    have e2:(x :: R).countP (·<o)=R.countP (·<o)+1:=by rw [List.countP_cons_of_pos (by simpa using hxo)]
    rw [e1,e2];exact ⟨fun h=>i1 (by simpa using h),fun k h=>i2 k (by simpa using h)⟩
  · have e2:(x :: R).countP (·<o)=0:=by
     rw [List.countP_eq_zero];intro y hy;rcases List.mem_cons.1 hy with rfl | hy
     · simpa using hxo
     · have:=hx y hy;simp;omega
    rw [e2];refine ⟨fun h=>by simp at h,fun k h=>?_⟩;simp at h;subst h;unfold cH;by_cases hxp:x<p
    · simp [hxp];left;omega
    · simp [hxp];intro y hy _;have:=hx y hy;omega
theorem vH {K S:List Int} (h:K.Perm S) (o p:Int):cH K o p=cH S o p:=by
 unfold cH;rw [Bool.eq_iff_iff,List.any_eq_true,List.any_eq_true];exact ⟨fun ⟨x,hx,hp⟩=>⟨x,h.mem_iff.1 hx,hp⟩,fun ⟨x,hx,hp⟩=>⟨x,h.mem_iff.2 hx,hp⟩⟩
theorem xw (lo:Nat) (a:Option Addr) (n c:Nat) (K:List Int) (x:Int) (w:World) (h:aT lo w a n c K) (hs:K.Pairwise (·≤·)) (hn:n≤1048576) :
 Calls Tryz.prog 214 #[.slice a n c,iT x] w fun e w'=>e=.returned (.tuple #[iT (K.countP (·<x):Nat),.bool (K.contains x)])∧∃q,w'=w.drewN q:=by
 by_cases h0:n=0
 · subst h0;have hk:K=[]:=List.length_eq_zero_iff.1 h.length;subst hk;refine (Any.slices_BinarySearch_int_empty Tryz.lays25 a c x w).mono ?_;rintro e w' ⟨rfl,rfl⟩;exact ⟨rfl,0,rfl⟩
 · obtain ⟨b,off,rfl,hbb⟩:=h.form (by omega);have hln:=h.length;have hb:=h.big;have hr:=h.room;unfold maxLen at hb;have ht:K.take n=K:=List.take_of_length_le (by omega);have hh:=Any.slices_BinarySearch_int Tryz.lays25 b off n c K x w (by omega) (by omega) (fun j hj=>by rw [h.cells _ rfl j hj];simp [List.getD,hj]) (by rw [ht];exact hs);rw [ht] at hh;exact hh
theorem vY (lo:Nat) (a:Option Addr) (n c:Nat) (K:List Int) (s t s' t':ByteArray) (q d m q' d' m':Int) (w:World) (h:aT lo w a n c K) (hs:K.Pairwise (·≤·)) (hn:n≤1048576) :
 Calls Tryz.prog 188 #[.agg #[.string s,iT q,iT d,.string t,iT m],.agg #[.string s',iT q',iT d',.string t',iT m'],.slice a n c] w fun e w'=>e=.returned (.bool (decide (s=s') && !cH K q' q))∧Bl w w':=by
 obtain ⟨v,hv⟩:=ay (K.countP (·<q'));obtain ⟨A,hA⟩:=ay (cH K q' q);obtain ⟨B,hB⟩:=ay (K.contains q');have hc:=tZ (o:=q') (p:=q) K hs;rw [← hv,← hA] at hc;have HS:Hid (∀w',Bl w w'→Calls Tryz.prog 214 #[.slice a n c,iT q'] w' fun e w''=>e=.returned (.tuple #[iT (v:Nat),.bool B])∧∃q,w''=w'.drewN q):=by rw [hv,hB];exact fun w' hb=>xw lo a n c K q' w' (h.keep hb) hs hn
 have hvn:v≤n:=by rw [hv,← h.length];exact List.countP_le_length
 have hln:=h.length;have HC:Hid ((v=n→A=false)∧∀k,K[v]?=some k→A=decide (k<q)):=by rw [hln] at hc;exact hc
 have H:=bc h;have hbc:=h.big;have hbr:=h.room;unfold maxLen at hbc;rw [← hA];obtain ⟨X,hX⟩:=ay w.heap.size;obtain ⟨W,hW⟩:=ay ((w.alloc (.cells #[.string s,iT q,iT d,.string t,iT m] 78)).alloc (.cells #[.string s',iT q',iT d',.string t',iT m'] 78));have kW:Bl w W:=by rw [hW];exact bZ.alloc (by simp) _
 have x0:W.cell? ⟨X,0,none⟩=some (.string s):=by rw [hW,hX];simp
 have x1:W.cell? ⟨X,1,none⟩=some (iT q):=by rw [hW,hX];simp
 have y0:W.cell? ⟨X+1,0,none⟩=some (.string s'):=by rw [hW,hX];simp
 have hXW:X+1<W.heap.size:=by rw [hW,hX];simp
 clear h hs hv hA hB hc hln;go_enter Tryz.func188,Tryz.ntmps188
 go_wp2_with fail
 rw [← hW,← hX];clear hW;refine (HS.out _ kW).mono ?_;rintro e w1 ⟨rfl,p,hw1⟩;have z0:w1.cell? ⟨X,0,none⟩=some (.string s):=by rw [hw1];exact x0
 have z1:w1.cell? ⟨X,1,none⟩=some (iT q):=by rw [hw1];exact x1
 have z2:w1.cell? ⟨X+1,0,none⟩=some (.string s'):=by rw [hw1];exact y0
 have hXw:X+1<w1.heap.size:=by rw [hw1];exact hXW
 have hXw':X<w1.heap.size:=by omega
 have KW:Hid (Bl w w1):=by rw [hw1];exact ⟨kW.os,kW.tape,kW.output,kW.size,kW.block⟩
 clear hw1 x0 x1 y0 hXW kW HS hX;by_cases hss:s=s'
 · subst hss;have e1:(s.toList == s.toList)=true:=by simp
   by_cases hvv:v=n
   · have hvI:(v:Int)=(n:Int):=by omega
     have HAF:Hid (A=false):=HC.out.1 hvv;subst hvv;clear HC;have k0:Bl w1 w1.drew:=(Below.refl _ w1).drew;have HMK:Hid (∀w',Bl w1 w'→(w'.cell? ⟨X,0,none⟩=some (.string s)∧w'.cell? ⟨X,1,none⟩=some (iT q)∧w'.cell? ⟨X+1,0,none⟩=some (.string s)∧Bl w1 w')):=fun w' kk=>⟨cell_later kk z0,cell_later kk z1,cell_later kk z2,kk⟩
     go_wp2;refine dM HMK k0 fun aa=>?_
     refine aL 0 21 aa ?_;refine dN ?_;go_wp2;go_ret;exact ⟨by rw [HAF.out];simp,KW.out.trans (k0.mono KW.out.size)⟩
   · obtain ⟨b,off,rfl,hbb⟩:=H.out.form (by omega);obtain ⟨k,hk,_,hck⟩:=H.out.num KW.out v (by omega);have HAK:Hid (A=decide (k<q)):=HC.out.2 k hk;have hvI:¬(v:Int)=(n:Int):=by omega
     have hvD:decide ((v:Int)=(n:Int))=false:=by simp;omega
     have hvB:((v:Int) == (n:Int))=false:=by simp;omega
     have hvL:(v:Int)<(n:Int):=by omega
     have hbw:b<w1.heap.size:=Nat.lt_of_lt_of_le hbb KW.out.size;clear HC hk hbb hvv;by_cases hkq:q≤k
     · have HKD:Hid (A=false):=by show A=false;rw [HAK.out];simp;omega
       have k0:Bl w1 w1.drew:=(Below.refl _ w1).drew;have HMK:Hid (∀w',Bl w1 w'→(w'.cell? ⟨X,0,none⟩=some (.string s)∧w'.cell? ⟨X,1,none⟩=some (iT q)∧w'.cell? ⟨X+1,0,none⟩=some (.string s)∧w'.cell? ⟨b,off+v,none⟩=some (iT k)∧Bl w1 w')):=fun w' kk=>⟨cell_later kk z0,cell_later kk z1,cell_later kk z2,cell_later kk hck,kk⟩
       go_wp2;refine dM HMK k0 fun aa=>?_
       refine aL 0 21 aa ?_;refine dN ?_;go_wp2;go_ret;exact ⟨by rw [HKD.out];simp,KW.out.trans (k0.mono KW.out.size)⟩
     · have HKD:Hid (A=true):=by show A=true;rw [HAK.out];simp;omega
       have k0:Bl w1 w1.drew:=(Below.refl _ w1).drew;have HMK:Hid (∀w',Bl w1 w'→(w'.cell? ⟨X,0,none⟩=some (.string s)∧w'.cell? ⟨X,1,none⟩=some (iT q)∧w'.cell? ⟨X+1,0,none⟩=some (.string s)∧w'.cell? ⟨b,off+v,none⟩=some (iT k)∧Bl w1 w')):=fun w' kk=>⟨cell_later kk z0,cell_later kk z1,cell_later kk z2,cell_later kk hck,kk⟩
       go_wp2;refine dM HMK k0 fun aa=>?_
       refine aL 0 21 aa ?_;refine dN ?_;go_wp2;go_ret;exact ⟨by rw [HKD.out];simp;omega,KW.out.trans (k0.mono KW.out.size)⟩
 · have hne:¬s.toList=s'.toList:=by
    rw [ByteArray.toList_eq,ByteArray.toList_eq];intro h;exact hss (ByteArray.ext (Array.toList_inj.1 h))
   have hne':(s.toList == s'.toList)=false:=by simpa using hne
   have HD:Hid (decide (s=s')=false):=by simpa [Hid] using hss
   clear hss HC H;have k0:Bl w1 w1.drew:=(Below.refl _ w1).drew;have HMK:Hid (∀w',Bl w1 w'→(w'.cell? ⟨X,0,none⟩=some (.string s)∧w'.cell? ⟨X,1,none⟩=some (iT q)∧w'.cell? ⟨X+1,0,none⟩=some (.string s')∧Bl w1 w')):=fun w' kk=>⟨cell_later kk z0,cell_later kk z1,cell_later kk z2,kk⟩
   go_wp2;refine dM HMK k0 fun aa=>?_
   refine aL 0 21 aa ?_;refine dN ?_;go_wp2;go_ret;exact ⟨by rw [HD.out];rfl,KW.out.trans (k0.mono KW.out.size)⟩
end Go.Proofs.YtlmgojlffgkciaaGreat
