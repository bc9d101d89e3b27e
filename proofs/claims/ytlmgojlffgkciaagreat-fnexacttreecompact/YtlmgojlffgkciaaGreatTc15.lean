/-
  Rows of entries as the library's sorts see them. No function of the program is walked here.
-/
import Derived.Test.YtlmgojlffgkciaaGreatTc11
import Derived.Test.YtlmgojlffgkciaaGreatTc06
import Derived.Ground.SlsfProg
import Derived.Shelf.SlSortCmp.WholeK
import Derived.Test.YtlmgojlffgkciaaGreatProg
import Derived.Ground.SlgnProg
import Derived.Shelf.SlicesE.Clone
import Derived.Shelf.LaysM
import Derived.Shelf.Strconv.Clone
import Derived.Test.YtlmgojlffgkciaaGreatTc02
import Derived.Test.YtlmgojlffgkciaaGreatTc14
import Derived.Test.YtlmgojlffgkciaaGreatTc04
namespace Go.Proofs.YtlmgojlffgkciaaGreat
open Go.RowKit Go.Sort
theorem five (i:Nat) (j:Nat) (hj:j<5):(i*5+j) / 5=i∧(i*5+j) % 5=j:=by omega
theorem tM (x:ac):(aW x)[0]! = .string x.1∧(aW x)[1]! = iT x.2.1∧(aW x)[2]! = iT x.2.2.1∧(aW x)[3]! = .string x.2.2.2.1∧(aW x)[4]! = iT x.2.2.2.2:=⟨rfl,rfl,rfl,rfl,rfl⟩
theorem oZ {w:World} {base g n c:Nat} {L:List ac} (hO:aE w base g n c L):HoldsK aW 5 w g 0 L.toArray:=by
 intro t ht;rw [size_flatK] at ht;have hl:=hO.len;have hlt:t / 5<L.length:=by simp at ht;omega
 refine ⟨?_,by rw [Nat.zero_add];exact hO.owns.frozenAt _⟩;rw [get_flatK _ _ _ _ ht];obtain ⟨c0,c1,c2,c3,c4⟩:=hO.entsAt.cells _ rfl (t / 5) hlt;have e:(L.toArray)[t / 5]! = L[t / 5]:=by simp [hlt]
 rw [e];obtain ⟨z0,z1,z2,z3,z4⟩:=tM L[t / 5];have hm:t % 5<5:=Nat.mod_lt _ (by omega);have ht5:t=t / 5*5+t % 5:=by omega
 rcases (show t % 5=0∨t % 5=1∨t % 5=2∨t % 5=3∨t % 5=4 by omega) with h | h | h | h | h
 · rw [h,z0];rw [show (0:Nat)+t=0+t / 5*5 by omega];exact c0
 · rw [h,z1];rw [show (0:Nat)+t=0+t / 5*5+1 by omega];exact c1
 · rw [h,z2];rw [show (0:Nat)+t=0+t / 5*5+2 by omega];exact c2
 · rw [h,z3];rw [show (0:Nat)+t=0+t / 5*5+3 by omega];exact c3
 · rw [h,z4];rw [show (0:Nat)+t=0+t / 5*5+4 by omega];exact c4
theorem vA {w:World} {g:Nat} {D:Array ac} (h:HoldsK aW 5 w g 0 D) (i:Nat) (hi:i<D.toList.length):jG w g (0+i*5) D.toList[i]:=by
 have hi':i<D.size:=by simpa using hi
 have e:D[i]! = D.toList[i]:=by simp [hi']
 have key:∀j,j<5→w.cell? ⟨g,0+i*5+j,none⟩=some ((aW D.toList[i])[j]!):=fun j hj=>by
  have hlt:i*5+j<D.size*5:=by omega
  have:=(h (i*5+j) (by rw [size_flatK];exact hlt)).1;rw [get_flatK _ _ _ _ hlt,(five i j hj).1,(five i j hj).2,e] at this;rw [Nat.add_assoc];exact this
 obtain ⟨z0,z1,z2,z3,z4⟩:=tM D.toList[i];exact ⟨by rw [← z0];exact key 0 (by omega),by rw [← z1];exact key 1 (by omega),by rw [← z2];exact key 2 (by omega),by rw [← z3];exact key 3 (by omega),by rw [← z4];exact key 4 (by omega)⟩
theorem lH {w:World} {g n:Nat} {os:Array Obj} (d:Array ac):w.grownBy (sortWorldK aW 5 w g 0 n d os) (some g):=by
 unfold sortWorldK putRowK;refine ⟨rfl,rfl,rfl,by simp,fun k hk hne=>?_⟩;rw [heap_grow_old _ _ (by simpa using hk)];have:g≠k:=fun e=>hne (by rw [e])
 simp [putRow,mapBlock,Sort.ahead,Array.getElem?_modify,this]
end Go.Proofs.YtlmgojlffgkciaaGreat

namespace Go.Proofs.YtlmgojlffgkciaaGreat
open Go.Shelf
def Tryz.sortL_ren : Go.Shelf.Ren := ⟨fun | 6 => 144 | 15 => 181 | 14 => 180 | 28 => 208 | 29 => 209 | 20 => 195 | 21 => 201 | 22 => 202 | 23 => 203 | 24 => 204 | 25 => 205 | 26 => 206 | 27 => 207 | 46 => 216 | 47 => 217 | 48 => 218 | 49 => 219 | 50 => 220 | 57 => 227 | n => n, fun | 22 => 28 | 24 => 78 | 25 => 159 | 3 => 3 | 39 => 197 | 0 => 0 | 53 => 235 | 55 => 237 | 4 => 4 | 46 => 229 | 45 => 228 | 50 => 198 | 5 => 5 | 9 => 9 | 66 => 241 | 70 => 245 | 76 => 249 | 77 => 106 | n => n, fun | n => n⟩
theorem Tryz.sortL : Go.Proofs.SlLaysF0.n6 Tryz.prog Tryz.sortL_ren := {
  mixed := by kernel_rfl
  f6 := ⟨Tryz.f144.name, by decide, Tryz.func144.trans (congrArg some (by kernel_rfl))⟩
  f14 := ⟨Tryz.f180.name, by decide, Tryz.func180.trans (congrArg some (by kernel_rfl))⟩
  f15 := Tryz.func181.trans (congrArg some (by kernel_rfl))
  f20 := ⟨Tryz.f195.name, by decide, Tryz.func195.trans (congrArg some (by kernel_rfl))⟩
  f21 := ⟨Tryz.f201.name, by decide, Tryz.func201.trans (congrArg some (by kernel_rfl))⟩
  f22 := ⟨Tryz.f202.name, by decide, Tryz.func202.trans (congrArg some (by kernel_rfl))⟩
  f23 := ⟨Tryz.f203.name, by decide, Tryz.func203.trans (congrArg some (by kernel_rfl))⟩
  f24 := ⟨Tryz.f204.name, by decide, Tryz.func204.trans (congrArg some (by kernel_rfl))⟩
  f25 := ⟨Tryz.f205.name, by decide, Tryz.func205.trans (congrArg some (by kernel_rfl))⟩
  f26 := ⟨Tryz.f206.name, by decide, Tryz.func206.trans (congrArg some (by kernel_rfl))⟩
  f27 := ⟨Tryz.f207.name, by decide, Tryz.func207.trans (congrArg some (by kernel_rfl))⟩
  f28 := Tryz.func208.trans (congrArg some (by kernel_rfl))
  f29 := Tryz.func209.trans (congrArg some (by kernel_rfl))
  f46 := ⟨Tryz.f216.name, by decide, Tryz.func216.trans (congrArg some (by kernel_rfl))⟩
  f47 := Tryz.func217.trans (congrArg some (by kernel_rfl))
  f48 := Tryz.func218.trans (congrArg some (by kernel_rfl))
  f49 := ⟨Tryz.f219.name, by decide, Tryz.func219.trans (congrArg some (by kernel_rfl))⟩
  f50 := ⟨Tryz.f220.name, by decide, Tryz.func220.trans (congrArg some (by kernel_rfl))⟩
  f57 := ⟨Tryz.f227.name, by decide, Tryz.func227.trans (congrArg some (by kernel_rfl))⟩
  t0 := Tryz.underlying0
  a0 := Tryz.isAgg0
  z0 := Tryz.sizeOf0
  v0 := Tryz.zeroValue0
  t3 := Tryz.underlying3
  a3 := Tryz.isAgg3
  z3 := Tryz.sizeOf3
  v3 := Tryz.zeroValue3
  t4 := Tryz.underlying4
  a4 := Tryz.isAgg4
  z4 := Tryz.sizeOf4
  v4 := Tryz.zeroValue4
  t5 := Tryz.underlying5
  a5 := Tryz.isAgg5
  z5 := Tryz.sizeOf5
  v5 := Tryz.zeroValue5
  t9 := Tryz.underlying9
  a9 := Tryz.isAgg9
  z9 := Tryz.sizeOf9
  v9 := Tryz.zeroValue9
  t22 := Tryz.underlying28
  a22 := Tryz.isAgg28
  z22 := Tryz.sizeOf28
  v22 := Tryz.zeroValue28
  t25 := Tryz.underlying159
  a25 := Tryz.isAgg159
  z25 := Tryz.sizeOf159
  v25 := Tryz.zeroValue159
  t39 := Tryz.underlying197
  a39 := Tryz.isAgg197
  z39 := Tryz.sizeOf197
  v39 := Tryz.zeroValue197
  t45 := Tryz.underlying228
  a45 := Tryz.isAgg228
  z45 := Tryz.sizeOf228
  v45 := Tryz.zeroValue228
  t46 := Tryz.underlying229
  a46 := Tryz.isAgg229
  z46 := Tryz.sizeOf229
  v46 := Tryz.zeroValue229
  t50 := Tryz.underlying198
  a50 := Tryz.isAgg198
  z50 := Tryz.sizeOf198
  v50 := Tryz.zeroValue198
  t53 := Tryz.underlying235
  a53 := Tryz.isAgg235
  z53 := Tryz.sizeOf235
  v53 := Tryz.zeroValue235
  t55 := Tryz.underlying237
  a55 := Tryz.isAgg237
  z55 := Tryz.sizeOf237
  v55 := Tryz.zeroValue237
  t66 := Tryz.underlying241
  a66 := Tryz.isAgg241
  z66 := Tryz.sizeOf241
  v66 := Tryz.zeroValue241
  t70 := Tryz.underlying245
  a70 := Tryz.isAgg245
  z70 := Tryz.sizeOf245
  v70 := Tryz.zeroValue245
  t76 := Tryz.underlying249
  a76 := Tryz.isAgg249
  z76 := Tryz.sizeOf249
  v76 := Tryz.zeroValue249
  t77 := Tryz.underlying106
  a77 := Tryz.isAgg106
  z77 := Tryz.sizeOf106
  v77 := Tryz.zeroValue106 }
end Go.Proofs.YtlmgojlffgkciaaGreat

namespace Go.Proofs.YtlmgojlffgkciaaGreat
open Go.Shelf
def Tryz.cloneL_ren : Go.Shelf.Ren := ⟨fun | 41 => 89 | n => n, fun | 22 => 28 | 23 => 78 | 4 => 4 | n => n, fun | n => n⟩
theorem Tryz.cloneL : Go.Proofs.SlLaysE0.n41 Tryz.prog Tryz.cloneL_ren := {
  mixed := by kernel_rfl
  f41 := ⟨Tryz.f89.name, by decide, Tryz.func89.trans (congrArg some (by kernel_rfl))⟩
  t4 := Tryz.underlying4
  a4 := Tryz.isAgg4
  z4 := Tryz.sizeOf4
  v4 := Tryz.zeroValue4
  t22 := Tryz.underlying28
  a22 := Tryz.isAgg28
  z22 := Tryz.sizeOf28
  v22 := Tryz.zeroValue28 }
end Go.Proofs.YtlmgojlffgkciaaGreat

namespace Go.Proofs.YtlmgojlffgkciaaGreat
set_option maxRecDepth 100000
open Go.RowKit Go.Sort
theorem AJ (base g n c:Nat) (L:List ac) (w:World) (hO:aE w base g n c L) (hn:n≤1048576) :
 Calls Tryz.prog 144 #[sL g n c,.func (.func 145) #[] #[]] w fun e w'=>e=.returned (.tuple #[])∧∃D,kp D∧D.Perm L∧af w' (pT g) n c D∧w.grownBy w' (some g):=by
 have hE:=hO.entsAt;have hl:=hO.len;have hsz:L.toArray.size=n:=by simp [hl]
 have eg:∀args w,(callFunc 145 args).run Tryz.prog w=.ok (.enter 145 args) w:=enters_of Tryz.func145 (by kernel_rfl) rfl;have hcmp:CmpLays Tryz.prog 145 #[] aW 5 (fun x y:ac=>ic x.1 x.2.1 y.1 y.2.1) g 0 L.toArray.size w:=fun m os dk _ x y=>vc x.1 x.2.2.2.1 y.1 y.2.2.2.1 x.2.1 x.2.2.1 x.2.2.2.2 y.2.1 y.2.2.1 y.2.2.2.2 _
 have h:=AnyQ.slices_SortFunc Tryz.sortL 5 Tryz.isAgg78 Tryz.sizeOf78 aW (fun _=>rfl) (fun x v hv=>by simp [aW] at hv;rcases hv with rfl | rfl | rfl | rfl | rfl <;> rfl) (fun x y:ac=>ic x.1 x.2.1 y.1 y.2.1) tp 145 #[] g 0 c L.toArray w eg hcmp (oZ hO) hO.lt.2 (by rw [hsz];omega);rw [hsz] at h;have h':Calls Tryz.prog 144 #[sL g n c,.func (.func 145) #[] #[]] w fun e w'=>e=.returned (.tuple #[])∧∃d' m os,PermIn 0 n L.toArray d'∧SortedIn (ltOf (fun x y:ac=>ic x.1 x.2.1 y.1 y.2.1)) 0 n d'∧w'=sortWorldK aW 5 w g 0 m d' os:=h
 refine h'.mono ?_;rintro e w' ⟨rfl,d',m,os,hp,hs,rfl⟩;have hd:d'.size=n:=hp.1.trans hsz;have hperm:d'.toList.Perm L:=by
  have:=hp.2.2;rw [← hd] at this;have e1:d'.extract 0 d'.size=d':=Array.extract_size;have e2:L.toArray.extract 0 d'.size=L.toArray:=by rw [hd,← hsz];exact Array.extract_size
  rw [e1,e2] at this;exact this
 have hH:=holdsK_sortWorldK_c aW 5 w g 0 L.toArray d' m os (oZ hO) hO.lt.2 hp.1;refine ⟨rfl,d'.toList,?_,hperm,?_,lH d'⟩
 · unfold kp;rw [List.pairwise_iff_getElem];intro i j hi hj hij;have hi':i<d'.size:=by simpa using hi
   have hj':j<d'.size:=by simpa using hj
   have:=hs i j (Nat.zero_le _) hij (by omega);rw [fu] at this;have e1:d'[i]! = d'.toList[i]:=by simp [hi']
   have e2:d'[j]! = d'.toList[j]:=by simp [hj']
   rw [e1,e2] at this;exact this
 · exact ⟨by simpa using hd,hE.room,hE.big,fun l hl'=>hO.ents l (hperm.mem_iff.1 hl'),(fun e=>by cases e),(fun x e _=>by cases e;exact ⟨Nat.lt_of_lt_of_le hO.lt.2 (lH d').size,rfl⟩),(fun x e i hi=>by cases e;exact vA hH i hi)⟩
end Go.Proofs.YtlmgojlffgkciaaGreat

namespace Go.Proofs.YtlmgojlffgkciaaGreat
open Go.Shelf
def Tryz.laysM316_ren : Go.Shelf.Ren := ⟨fun | 316 => 192 | n => n, fun | 9 => 9 | 3 => 3 | 4 => 4 | 37 => 114 | 0 => 0 | 127 => 240 | 5 => 5 | n => n, fun | n => n⟩
theorem Tryz.laysM316 : Go.Proofs.LaysM.n316 Tryz.prog Tryz.laysM316_ren := {
  mixed := by kernel_rfl
  f316 := Tryz.func192.trans (congrArg some (by kernel_rfl))
  t0 := Tryz.underlying0
  a0 := Tryz.isAgg0
  z0 := Tryz.sizeOf0
  v0 := Tryz.zeroValue0
  t3 := Tryz.underlying3
  a3 := Tryz.isAgg3
  z3 := Tryz.sizeOf3
  v3 := Tryz.zeroValue3
  t4 := Tryz.underlying4
  a4 := Tryz.isAgg4
  z4 := Tryz.sizeOf4
  v4 := Tryz.zeroValue4
  t9 := Tryz.underlying9
  a9 := Tryz.isAgg9
  z9 := Tryz.sizeOf9
  v9 := Tryz.zeroValue9
  t37 := Tryz.underlying114
  a37 := Tryz.isAgg114
  z37 := Tryz.sizeOf114
  v37 := Tryz.zeroValue114
  t127 := Tryz.underlying240
  a127 := Tryz.isAgg240
  z127 := Tryz.sizeOf240
  v127 := Tryz.zeroValue240
  t5 := Tryz.underlying5
  a5 := Tryz.isAgg5
  z5 := Tryz.sizeOf5
  v5 := Tryz.zeroValue5
  i0 := by kernel_rfl
  i3 := by kernel_rfl
  i4 := by kernel_rfl
  i5 := by kernel_rfl
  i9 := by kernel_rfl
  i37 := by kernel_rfl
  i127 := by kernel_rfl }
open Go.RowKit in
/-- internal/stringslite.Clone (what strings.Clone calls): "Clone returns a fresh copy of s.": THE SAME BYTES. Of what was there nothing has turned (a new row is laid, and frozen, where s is not empty). (LAID: no walk: one application.) -/
theorem Tryz.stringslite_Clone (s : ByteArray) (w : World) (hlim : s.size ≤ 281474976710656) :
    Calls Tryz.prog 192 #[.string s] w fun e w' => e = .returned (.string s) ∧ Below w.heap.size w w' := Any.stringslite_Clone Tryz.laysM316 s w hlim
end Go.Proofs.YtlmgojlffgkciaaGreat

namespace Go.Proofs.YtlmgojlffgkciaaGreat
open Go.RowKit
set_option maxRecDepth 100000
set_option maxHeartbeats 2000000
theorem sc (s:ByteArray) (w:World) (h:s.size≤281474976710656) :
 Calls Tryz.prog 163 #[.string s] w fun e w'=>e=.returned (.string s)∧Bl w w':=by
 go_enter Tryz.func163,Tryz.ntmps163
 go_wp2_with fail
 refine (Tryz.stringslite_Clone s _ h).mono ?_;rintro e w1 ⟨rfl,hb1⟩;go_wp2;go_ret;exact ⟨rfl,hb1⟩
structure gW (w0 w:World) (X:Nat) (s t:ByteArray) (q d n:Int):Prop where
 low:Below X w0 w
 c0:w.cell? ⟨X,0,none⟩=some (.string s)
 c1:w.cell? ⟨X,1,none⟩=some (iT q)
 c2:w.cell? ⟨X,2,none⟩=some (iT d)
 c3:w.cell? ⟨X,3,none⟩=some (.string t)
 c4:w.cell? ⟨X,4,none⟩=some (iT n)
 fr:∀o,w.frozen? ⟨X,o,none⟩=false
theorem gW.lt {w0 w:World} {X:Nat} {s t:ByteArray} {q d n:Int} (h:gW w0 w X s t q d n):X<w.heap.size:=World.block_lt_of_cell? _ _ h.c0
theorem gW.call {w0 w w':World} {X:Nat} {s t:ByteArray} {q d n:Int} (h:gW w0 w X s t q d n) (hb:Bl w w'):gW w0 w' X s t q d n :=
 ⟨h.low.trans (hb.mono (Nat.le_of_lt h.lt)),cell_later hb h.c0,cell_later hb h.c1,cell_later hb h.c2,cell_later hb h.c3,cell_later hb h.c4,fun o=>(hb.frozen (p:=⟨X,o,none⟩) h.lt).trans (h.fr o)⟩
theorem gW.drew {w0 w:World} {X:Nat} {s t:ByteArray} {q d n:Int} (h:gW w0 w X s t q d n):gW w0 w.drew X s t q d n:=h.call (Below.refl _ w).drew
theorem gW.store0 {w0 w:World} {X:Nat} {s t:ByteArray} {q d n:Int} (h:gW w0 w X s t q d n):gW w0 (w.setCell ⟨X,0,none⟩ (.string s)) X s t q d n :=
 ⟨h.low.setCell (p:=⟨X,0,none⟩) (Nat.le_refl _) _,World.cell?_setCell_same' _ _ _ (by rw [h.c0];rfl),by rw [World.cell?_setCell_other _ _ _ _ (by simp)];exact h.c1,by rw [World.cell?_setCell_other _ _ _ _ (by simp)];exact h.c2,by rw [World.cell?_setCell_other _ _ _ _ (by simp)];exact h.c3,by rw [World.cell?_setCell_other _ _ _ _ (by simp)];exact h.c4,fun o=>by rw [World.frozen?_setCell];exact h.fr o⟩
theorem gW.store3 {w0 w:World} {X:Nat} {s t:ByteArray} {q d n:Int} (h:gW w0 w X s t q d n):gW w0 (w.setCell ⟨X,3,none⟩ (.string t)) X s t q d n :=
 ⟨h.low.setCell (p:=⟨X,3,none⟩) (Nat.le_refl _) _,by rw [World.cell?_setCell_other _ _ _ _ (by simp)];exact h.c0,by rw [World.cell?_setCell_other _ _ _ _ (by simp)];exact h.c1,by rw [World.cell?_setCell_other _ _ _ _ (by simp)];exact h.c2,World.cell?_setCell_same' _ _ _ (by rw [h.c3];rfl),by rw [World.cell?_setCell_other _ _ _ _ (by simp)];exact h.c4,fun o=>by rw [World.frozen?_setCell];exact h.fr o⟩
theorem gW.new (w:World) (T:TypeId) (s t:ByteArray) (q d n:Int):gW w (w.alloc (.cells #[.string s,iT q,iT d,.string t,iT n] T)) w.heap.size s t q d n :=
 ⟨bZ,by simp,by simp,by simp,by simp,by simp,fun o=>World.frozen?_alloc_new w _ _ o⟩
theorem fA (a:Option Addr) (len cap:Nat) (L:List ac) (w:World) (hL:af w a len cap L) (hbig:len≤1048576) (hsm:∀e ∈ L,e.1.size≤281474976710656∧e.2.2.2.1.size≤281474976710656) :
 Calls Tryz.prog 111 #[.slice a len cap] w fun e w'=>e=.returned (sL (w.heap.size) len len)∧aE w' w.heap.size w.heap.size len len L∧w.heap.size<w'.heap.size∧Bl w w':=by
 have HLEN:Hid (L.length=len):=hL.length;have HENTS:Hid (∀l ∈ L,eO l):=hL.ents;have HSM:=bc hsm;have HL:=bc hL;clear hL hsm;obtain ⟨i0,hi,hz0,hz1,hz2⟩:=info_parts Tryz.infoEnt;go_enter Tryz.func111,Tryz.ntmps111
 go_wp2_with (at_make;refine wpList_make_full _ rfl _ _ 28 rfl w.heap.size 78 i0 _ 5 Tryz.underlying28 hi hz0 hz1 .i64 .i64 _ _ len rfl rfl (by simp) (by simp) (by rw [hz2];omega) (by unfold maxLen;omega) (Nat.le_refl _) ?_;intro w1 hown hgrow)
 have hb1:Bl w w1:=(Below.refl _ _).grown hgrow (Nat.le_refl _) (by simp);have hsz1:w.heap.size<w1.heap.size:=(hown.lt _ rfl).2;go_loopw [11] (fun i wr=>∃(k:Nat) (xs:List Value),k≤len∧i=iT k∧wr.ownsRow w.heap.size 78 5 (sL (w.heap.size) len len) len xs∧Bl w wr∧(∀j l,j<k→L[j]?=some l→fg xs j l)) (fun i _=>len - (intOf i).toNat)
 case atStart=>exact ⟨0,_,Nat.zero_le _,rfl,hown,hb1,fun j l h=>absurd h (Nat.not_lt_zero _)⟩
 case round =>
  obtain ⟨k,xs,hk,rfl,ho,hb,hrow⟩:=hrel;have HROW:Hid (∀j l,j<k→L[j]?=some l→fg xs j l):=hrow;clear hrow hown hgrow hb1 hsz1;by_cases hlt:k<len
  · obtain ⟨b,off,rfl,hbb⟩:=HL.out.form (by omega);obtain ⟨s,q,d,t,n,hg,hlw,g0,g1,g2,g3,g4⟩:=HL.out.ent hb hbb k hlt;have HG:Hid (L[k]?=some (s,q,d,t,n)):=hg;obtain ⟨hs,ht⟩:=HSM.out _ (List.mem_of_getElem? hg);simp only at hs ht;clear hg hlw;have HX:Hid (xs.length=len*5):=ho.1;have HO:Hid (wr.ownsRow w.heap.size 78 5 (sL (w.heap.size) len len) len xs):=ho;have hgl:=(ho.lt w.heap.size rfl).2;clear ho;go_wp2_with fail
    obtain ⟨X,hX⟩:=ay wr.heap.size;obtain ⟨W,hW⟩:=ay (wr.alloc (.cells #[.string s,iT q,iT d,.string t,iT n] 78));have kW:gW wr W X s t q d n:=by rw [hW,hX];exact gW.new wr 78 s t q d n
    have hgX:w.heap.size<X:=by rw [hX];exact hgl
    have HXW:Hid (X=wr.heap.size):=hX;rw [← hW,← hX];clear hW hX;have k0:gW wr W.drew X s t q d n:=kW.drew;have HMK:Hid (∀w',gW wr w' X s t q d n→(w'.cell? ⟨X,0,none⟩=some (.string s)∧w'.cell? ⟨X,3,none⟩=some (.string t))):=fun w' kk=>⟨kk.c0,kk.c3⟩
    refine dM HMK k0 fun aa=>?_
    refine aL 0 2 aa ?_;refine aL 3 2 aa ?_;refine aS 2 fun K hK=>?_
    go_simp;refine (sc _ _ hs).mono ?_;rintro e w1 ⟨rfl,b1⟩;have k1:=k0.call b1;go_wp2_with fail
    refine hK.out _ _ (HMK.out _ k1) fun aa=>?_
    (try go_frame);refine aL 6 1 aa ?_;refine aS 5 fun K hK=>?_
    go_simp;refine (sc _ _ ht).mono ?_;rintro e w2 ⟨rfl,b2⟩;have k2:=k1.call b2;go_wp2_with fail
    refine hK.out _ _ (HMK.out _ k2) fun aa=>?_
    (try go_frame);refine aS 7 fun K hK=>?_
    have c3:=k2.c0;have f3:=k2.fr 0;go_simp;have k3:=k2.store0;clear c3 f3;refine hK.out _ _ (HMK.out _ k3) fun aa=>?_
    (try go_frame);refine aL 8 1 aa ?_;refine aS 9 fun K hK=>?_
    have c4:=k3.c3;have f4:=k3.fr 3;go_simp;have k4:=k3.store3;clear c4 f4;refine hK.out _ _ (HMK.out _ k4) fun aa=>?_
    (try go_frame);refine dN ?_;obtain ⟨W4,hW4⟩:=ay (((w2.setCell ⟨X,0,none⟩ (.string s)).setCell ⟨X,3,none⟩ (.string t)));rw [← hW4] at k4 ⊢;have hb2:Bl wr W4:=by have:=k4.low;rw [HXW.out] at this;exact this
    have z0:=k4.c0;have z1:=k4.c1;have z2:=k4.c2;have z3:=k4.c3;have z4:=k4.c4;have hX4:=k4.lt;have K4:Hid (gW wr W4 X s t q d n):=k4;clear hW4 k1 k2 k3 k4 k0 kW b1 b2 HMK aa;have ho2:W4.ownsRow w.heap.size 78 5 (sL (w.heap.size) len len) len xs:=HO.out.kept (row:=none) ⟨hb2.os,hb2.tape,hb2.output,hb2.size,fun k hk _=>hb2.block k hk⟩ (.inr (by simp [Value.ownBlock]));have c0:∃v,W4.cell? ⟨w.heap.size,k*5,none⟩=some v:=⟨_,(ho2.cellAt _ (by omega)).trans (List.getElem?_eq_getElem (by rw [HX.out];omega))⟩;have c1:∃v,W4.cell? ⟨w.heap.size,k*5+1,none⟩=some v:=⟨_,(ho2.cellAt _ (by omega)).trans (List.getElem?_eq_getElem (by rw [HX.out];omega))⟩;have c2:∃v,W4.cell? ⟨w.heap.size,k*5+2,none⟩=some v:=⟨_,(ho2.cellAt _ (by omega)).trans (List.getElem?_eq_getElem (by rw [HX.out];omega))⟩;have c3:∃v,W4.cell? ⟨w.heap.size,k*5+3,none⟩=some v:=⟨_,(ho2.cellAt _ (by omega)).trans (List.getElem?_eq_getElem (by rw [HX.out];omega))⟩;have c4:∃v,W4.cell? ⟨w.heap.size,k*5+4,none⟩=some v:=⟨_,(ho2.cellAt _ (by omega)).trans (List.getElem?_eq_getElem (by rw [HX.out];omega))⟩;obtain ⟨v0,c0⟩:=c0;obtain ⟨v1,c1⟩:=c1;obtain ⟨v2,c2⟩:=c2;obtain ⟨v3,c3⟩:=c3;obtain ⟨v4,c4⟩:=c4;have f0:W4.frozen? ⟨w.heap.size,k*5,none⟩=false:=ho2.frozenAt _;have f1:W4.frozen? ⟨w.heap.size,k*5+1,none⟩=false:=ho2.frozenAt _;have f2:W4.frozen? ⟨w.heap.size,k*5+2,none⟩=false:=ho2.frozenAt _;have f3:W4.frozen? ⟨w.heap.size,k*5+3,none⟩=false:=ho2.frozenAt _;have f4:W4.frozen? ⟨w.heap.size,k*5+4,none⟩=false:=ho2.frozenAt _;have HO2:Hid (W4.ownsRow w.heap.size 78 5 (sL (w.heap.size) len len) len xs):=ho2;clear ho2;go_wp2;go_roundw
    case rel =>
     have t0:=HO2.out.stored (k*5) (.string s);have t1:=t0.1.stored (k*5+1) (iT q);have t2:=t1.1.stored (k*5+2) (iT d);have t3:=t2.1.stored (k*5+3) (.string t);have t4:=t3.1.stored (k*5+4) (iT n);refine ⟨k+1,_,by omega,by go_num,t4.1,?_,?_⟩
     · exact (((((hb.trans (hb2.mono hb.size)).setCell (p:=⟨w.heap.size,_,none⟩) (Nat.le_refl _) _).setCell (p:=⟨w.heap.size,_,none⟩) (Nat.le_refl _) _).setCell (p:=⟨w.heap.size,_,none⟩) (Nat.le_refl _) _).setCell (p:=⟨w.heap.size,_,none⟩) (Nat.le_refl _) _).setCell (p:=⟨w.heap.size,_,none⟩) (Nat.le_refl _) _
     · intro j l hj hl;by_cases hjk:j=k
       · subst hjk;rw [HG.out] at hl;cases hl;exact fO s t q d n (by rw [HX.out];omega)
       · exact e9 (HROW.out j l (by omega) hl) hjk _ _ _ _ _
    case measure=>simp [intOf];omega
  · go_wp2;go_ret;exact ⟨rfl,⟨by rw [← lw (xs:=xs) (L:=L) (by rw [HLEN.out];exact ho.1) (fun j l hl=>HROW.out j l (by have:=(List.getElem?_eq_some_iff.1 hl).1;rw [HLEN.out] at this;omega) hl)];exact ho,HLEN.out,HENTS.out⟩,(ho.lt _ rfl).2,hb⟩
end Go.Proofs.YtlmgojlffgkciaaGreat

namespace Go.Proofs.YtlmgojlffgkciaaGreat
open Go.RowKit
theorem yq (a:Option Addr) (len cap:Nat) (L:List ac) (w:World) (hL:af w a len cap L) (hbig:len≤1048576) (hsm:∀e ∈ L,e.1.size≤281474976710656∧e.2.2.2.1.size≤281474976710656) :
 Calls Tryz.prog 111 #[.slice a len cap] w fun e w'=>∃Z,e=.returned (sL Z len len)∧w.heap.size≤Z∧aE w' w.heap.size Z len len L∧Bl w w':=by
 refine (fA a len cap L w hL hbig hsm).mono ?_;rintro e w' ⟨rfl,h1,_,h2⟩;exact ⟨_,rfl,Nat.le_refl _,h1,h2⟩
theorem yh {k t:ByteArray} {q d n:Int} (h:dc k q d t n=true):k.size≤281474976710656∧t.size≤281474976710656:=by
 simp only [dc,eX,Bool.and_eq_true,decide_eq_true_eq] at h;omega
theorem mH {L:List ac} (h:az L=true):∀e ∈ L,e.1.size≤281474976710656∧e.2.2.2.1.size≤281474976710656:=fun e he=>by
 obtain ⟨i,hi,rfl⟩:=List.getElem_of_mem he
 exact yh (ep h (List.getElem?_eq_getElem hi))
structure yG (w wi:World) (X Y:Nat) (m:Int):Prop where
 all:Bl w wi
 r0:∃v,wi.cell? ⟨X,0,none⟩=some v
 r1:∃v,wi.cell? ⟨X,1,none⟩=some v
 fr:∀o,wi.frozen? ⟨X,o,none⟩=false
 y1:wi.cell? ⟨Y,1,none⟩=some (iT m)
theorem yG.ltX {w wi:World} {X Y:Nat} {m:Int} (h:yG w wi X Y m):X<wi.heap.size:=by
 obtain ⟨v,hv⟩:=h.r0;exact World.block_lt_of_cell? _ _ hv
theorem yG.call {w wi wj:World} {X Y:Nat} {m:Int} (h:yG w wi X Y m) (hb:Bl wi wj):yG w wj X Y m :=
 ⟨h.all.trans (hb.mono h.all.size),by obtain ⟨v,hv⟩:=h.r0;exact ⟨v,cell_later hb hv⟩,by obtain ⟨v,hv⟩:=h.r1;exact ⟨v,cell_later hb hv⟩,fun o=>(hb.frozen (p:=⟨X,o,none⟩) h.ltX).trans (h.fr o),cell_later hb h.y1⟩
theorem qF {w:World} {X o p:Nat} {v u:Value} (h:w.cell? ⟨X,p,none⟩=some v):∃z,(w.setCell ⟨X,o,none⟩ u).cell? ⟨X,p,none⟩=some z:=by
 by_cases hp:p=o
 · subst hp;exact ⟨u,World.cell?_setCell_same' _ _ _ (by rw [h];rfl)⟩
 · exact ⟨v,by rw [World.cell?_setCell_other _ _ _ _ (by intro e;cases e;exact hp rfl)];exact h⟩
theorem yG.store {w wi:World} {X Y:Nat} {m:Int} (h:yG w wi X Y m) (o:Nat) (u:Value) (hXY:X≠Y) (hX:w.heap.size≤X):yG w (wi.setCell ⟨X,o,none⟩ u) X Y m :=
 ⟨h.all.setCell (p:=⟨X,o,none⟩) hX _,by obtain ⟨v,hv⟩:=h.r0;exact qF hv,by obtain ⟨v,hv⟩:=h.r1;exact qF hv,fun q=>by rw [World.frozen?_setCell];exact h.fr q,by rw [World.cell?_setCell_other _ _ _ _ (by intro e;cases e;exact hXY rfl)];exact h.y1⟩
end Go.Proofs.YtlmgojlffgkciaaGreat
