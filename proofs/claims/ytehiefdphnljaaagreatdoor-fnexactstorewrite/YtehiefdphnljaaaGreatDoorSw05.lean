/- Walks. -/
import Derived.Test.YtehiefdphnljaaaGreatDoorSw04
import Derived.Shelf.LaysM
import Derived.Shelf.Strconv.Clone
import Derived.Deep.RegionLaw
import Derived.Laws.CopyOwn
import Derived.Laws.IdiomCopy
namespace Go.Proofs.YtehiefdphnljaaaGreatDoor
set_option maxRecDepth 100000
set_option maxHeartbeats 40000000
open Go.RowKit Go.Shelf
variable {K X Z b base c g k:Nat} {V:List (List aq)} {d q:Int} {s t:ByteArray} {u0 u1 u2 u3:Value} {w w' w0:World} {xs:List Value}
theorem po (a1 a2:Option Addr) (len cap1 cap2:Nat) (L:List ae) (w:World) (h1:an w a1 len cap1 L) (h2:an w a2 len cap2 L) :
 Calls Tryz.prog 11 #[.slice a1 len cap1,.slice a2 len cap2] w fun e w'=>e=.returned (.bool true)∧Bl w w':=by
 by_cases h0:len=0
 · subst h0;go_enter Tryz.func11,Tryz.ntmps11
   go_wp2;go_loopw [5] (fun i wr=>i=iT 0∧Bl w wr) (fun i _=>0)
   case atStart=>exact ⟨rfl,Below.refl _ _⟩
   case round =>
    obtain ⟨rfl,hb⟩:=hrel;go_wp2;go_ret;exact ⟨rfl,hb⟩
 · obtain ⟨b1,o1,rfl,_⟩:=h1.form (by omega);obtain ⟨b2,o2,rfl,_⟩:=h2.form (by omega);exact lV _ _ _ _ _ _ _ L _ h1 h2
theorem wH (m:Int) (a1 a2:Option Addr) (len cap1 cap2:Nat) (L:List ae) (w:World) (h1:an w a1 len cap1 L) (h2:an w a2 len cap2 L) :
 Calls Tryz.prog 136 #[.agg #[.slice a1 len cap1,iT m],.agg #[.slice a2 len cap2,iT m]] w fun e w'=>e=.returned (.bool true)∧Bl w w':=by
 have hB:Bl w ((w.alloc (.cells #[.slice a1 len cap1,iT m] 119)).alloc (.cells #[.slice a2 len cap2,iT m] 119)):=bZ.alloc (by simp) _;go_enter Tryz.func136,Tryz.ntmps136
 go_wp2_with (go_at_call 11;refine (po _ _ _ _ _ L _ (h1.keep hB) (h2.keep hB)).mono ?_;rintro e w1 ⟨rfl,hb1⟩;obtain ⟨hc1,hf1⟩:=uN hb1)
 go_ret;exact ⟨rfl,hB.trans (hb1.mono (by simp;omega))⟩
theorem tZ (lo1 lo2:Nat) (a1 a2:Option Addr) (len cap1 cap2:Nat) (B:List aq) (w:World) (h1:aF lo1 w a1 len cap1 B) (h2:aF lo2 w a2 len cap2 B) :
 Calls Tryz.prog 98 #[.slice a1 len cap1,.slice a2 len cap2] w fun e w'=>e=.returned (.bool true)∧Bl w w':=by
 have hbl:=h1.room;have hbc:=h1.big;unfold maxLen at hbc;have H1:=ar h1;have H2:=ar h2;clear h1 h2;go_enter Tryz.func98,Tryz.ntmps98
 go_wp2;go_loopw [5] (fun i wr=>∃k:Nat,k≤len∧i=iT k∧Bl w wr) (fun i _=>len - (intOf i).toNat)
 case atStart=>exact ⟨0,Nat.zero_le _,rfl,Below.refl _ _⟩
 case round =>
  obtain ⟨k,hk,rfl,hb⟩:=hrel;by_cases hlt:k<len
  · obtain ⟨b1,o1,rfl,hb1⟩:=H1.out.form (by omega);obtain ⟨b2,o2,rfl,hb2⟩:=H2.out.form (by omega);obtain ⟨L,m,s,n,c,hg,_,g0,g1,hLk⟩:=H1.out.run hb k hlt;obtain ⟨L',m',s',n',c',hg',_,q0,q1,hLk'⟩:=H2.out.run hb k hlt;rw [hg] at hg';cases hg';obtain rfl:n'=n:=hLk'.1.length.symm.trans hLk.1.length;have hb1':b1<wr.heap.size:=Nat.lt_of_lt_of_le hb1 hb.size;have hb2':b2<wr.heap.size:=Nat.lt_of_lt_of_le hb2 hb.size;have lk:=hLk.1.keep ((Below.refl _ wr).drew);have lk':=hLk'.1.keep ((Below.refl _ wr).drew);clear hg hLk hLk';have hltI:(k:Int)<(len:Int):=by omega
    go_wp2_with fail
    go_region_with (go_at_call 136;refine (wH _ _ _ _ _ _ L _ lk lk').mono ?_;rintro e w1 ⟨rfl,hb1⟩)
    all_goals
     go_wp2;go_roundw
     case rel=>exact ⟨k+1,by omega,by go_num,hb.drew.trans (hb1.mono hb.size)⟩
     case measure=>simp [intOf];omega
  · go_wp2;go_ret;exact ⟨rfl,hb⟩
theorem lU (lo1 lo2:Nat) (a1 a2:Option Addr) (len cap1 cap2:Nat) (V:List (List aq)) (w:World) (h1:au lo1 w a1 len cap1 V) (h2:au lo2 w a2 len cap2 V) :
 Calls Tryz.prog 55 #[.slice a1 len cap1,.slice a2 len cap2] w fun e w'=>e=.returned (.bool true)∧Bl w w':=by
 have hbl:=h1.room;have hbc:=h1.big;unfold maxLen at hbc;have H1:=ar h1;have H2:=ar h2;clear h1 h2;go_enter Tryz.func55,Tryz.ntmps55
 go_wp2;go_loopw [5] (fun i wr=>∃k:Nat,k≤len∧i=iT k∧Bl w wr) (fun i _=>len - (intOf i).toNat)
 case atStart=>exact ⟨0,Nat.zero_le _,rfl,Below.refl _ _⟩
 case round =>
  obtain ⟨k,hk,rfl,hb⟩:=hrel;by_cases hlt:k<len
  · obtain ⟨b1,o1,rfl,hb1⟩:=H1.out.form (by omega);obtain ⟨b2,o2,rfl,hb2⟩:=H2.out.form (by omega);obtain ⟨B,s,n,c,hg,g0,hLk⟩:=H1.out.level hb k hlt;obtain ⟨B',s',n',c',hg',q0,hLk'⟩:=H2.out.level hb k hlt;rw [hg] at hg';cases hg';obtain rfl:n'=n:=hLk'.length.symm.trans hLk.length;have hb1':b1<wr.heap.size:=Nat.lt_of_lt_of_le hb1 hb.size;have hb2':b2<wr.heap.size:=Nat.lt_of_lt_of_le hb2 hb.size;have lk:=hLk.keep ((Below.refl _ wr).drew);have lk':=hLk'.keep ((Below.refl _ wr).drew);clear hg hLk hLk';have hltI:(k:Int)<(len:Int):=by omega
    go_wp2_with fail
    go_region_with (go_at_call 98;refine (tZ lo1 lo2 _ _ _ _ _ B _ lk lk').mono ?_;rintro e w1 ⟨rfl,hb1⟩)
    all_goals
     go_wp2;go_roundw
     case rel=>exact ⟨k+1,by omega,by go_num,hb.drew.trans (hb1.mono hb.size)⟩
     case measure=>simp [intOf];omega
  · go_wp2;go_ret;exact ⟨rfl,hb⟩
theorem t8 (lo1 lo2:Nat) (a1 a2:Option Addr) (len cap1 cap2:Nat) (S:List Int) (w:World) (h1:bC lo1 w a1 len cap1 S) (h2:bC lo2 w a2 len cap2 S) :
 Calls Tryz.prog 56 #[.slice a1 len cap1,.slice a2 len cap2] w fun e w'=>e=.returned (.bool true)∧Bl w w':=by
 have hbl:=h1.room;have hbc:=h1.big;unfold maxLen at hbc;have H1:=ar h1;have H2:=ar h2;clear h1 h2;go_enter Tryz.func56,Tryz.ntmps56
 go_wp2;go_loopw [5] (fun i wr=>∃k:Nat,k≤len∧i=iT k∧Bl w wr) (fun i _=>len - (intOf i).toNat)
 case atStart=>exact ⟨0,Nat.zero_le _,rfl,Below.refl _ _⟩
 case round =>
  obtain ⟨k,hk,rfl,hb⟩:=hrel;by_cases hlt:k<len
  · obtain ⟨b1,o1,rfl,hb1⟩:=H1.out.form (by omega);obtain ⟨b2,o2,rfl,hb2⟩:=H2.out.form (by omega);obtain ⟨q,hg,_,g0⟩:=H1.out.num hb k hlt;obtain ⟨q',hg',_,q0⟩:=H2.out.num hb k hlt;rw [hg] at hg';cases hg';have hb1':b1<wr.heap.size:=Nat.lt_of_lt_of_le hb1 hb.size;have hb2':b2<wr.heap.size:=Nat.lt_of_lt_of_le hb2 hb.size;clear hg;have hltI:(k:Int)<(len:Int):=by omega
    go_wp2_with fail
    go_quiet (fail)
    go_wp2;go_roundw
    case rel=>exact ⟨k+1,by omega,by go_num,below_drewN hb _⟩
    case measure=>simp [intOf];omega
  · go_wp2;go_ret;exact ⟨rfl,hb⟩
theorem tY (q:Int) (lo1 lo2:Nat) (am av ak:Option Addr) (nm cm nv cv ns cs:Nat) (am' av' ak':Option Addr) (cm' cv' cs':Nat) (M:List ae) (V:List (List aq)) (S:List Int) (w:World) (h1:aX lo1 w am nm cm av nv cv ak ns cs M V S) (h2:aX lo2 w am' nm cm' av' nv cv' ak' ns cs' M V S) :
 Calls Tryz.prog 26 #[.agg #[iT q,.slice am nm cm,.slice av nv cv,.slice ak ns cs],.agg #[iT q,.slice am' nm cm',.slice av' nv cv',.slice ak' ns cs']] w fun e w'=>e=.returned (.bool true)∧Bl w w':=by
 obtain ⟨W,hW⟩:=aw ((w.alloc (.cells #[iT q,.slice am nm cm,.slice av nv cv,.slice ak ns cs] 36)).alloc (.cells #[iT q,.slice am' nm cm',.slice av' nv cv',.slice ak' ns cs'] 36));have hB:Bl w W:=by rw [hW];exact bZ.alloc (by simp) _
 have x2:W.cell? ⟨w.heap.size,2,none⟩=some (.slice av nv cv):=by rw [hW];simp
 have x3:W.cell? ⟨w.heap.size,3,none⟩=some (.slice ak ns cs):=by rw [hW];simp
 have y2:W.cell? ⟨w.heap.size+1,2,none⟩=some (.slice av' nv cv'):=by rw [hW];simp
 have y3:W.cell? ⟨w.heap.size+1,3,none⟩=some (.slice ak' ns cs'):=by rw [hW];simp
 have H1:Hid (aX lo1 W am nm cm av nv cv ak ns cs M V S):=h1.keep hB;have H2:Hid (aX lo2 W am' nm cm' av' nv cv' ak' ns cs' M V S):=h2.keep hB;have HB:Hid (Bl w W):=hB;clear h1 h2 hB;go_enter Tryz.func26,Tryz.ntmps26
 go_wp2_with fail
 rw [← hW];clear hW;refine (po _ _ _ _ _ M _ H1.out.mem.1 H2.out.mem.1).mono ?_;rintro e w1 ⟨rfl,hb1⟩;have x2:=cell_later hb1 x2;have x3:=cell_later hb1 x3;have y2:=cell_later hb1 y2;have y3:=cell_later hb1 y3;have z1:=World.block_lt_of_cell? _ _ x2;have z2:=World.block_lt_of_cell? _ _ y2;simp only at z1 z2;have K1:Hid (Bl W w1):=hb1;clear hb1;go_wp2_with fail
 refine (lU lo1 lo2 _ _ _ _ _ V _ (H1.out.keep K1.out).levels (H2.out.keep K1.out).levels).mono ?_;rintro e w2 ⟨rfl,hb2⟩;have x3:=cell_later hb2 x3;have y3:=cell_later hb2 y3;have z1:=World.block_lt_of_cell? _ _ x3;have z2:=World.block_lt_of_cell? _ _ y3;simp only at z1 z2;have K2:Hid (Bl W w2):=K1.out.trans (hb2.mono K1.out.size);clear hb2 K1;go_wp2_with fail
 refine (t8 lo1 lo2 _ _ _ _ _ S _ (H1.out.keep K2.out).snaps (H2.out.keep K2.out).snaps).mono ?_;rintro e w3 ⟨rfl,hb3⟩;have K3:Hid (Bl W w3):=K2.out.trans (hb3.mono K2.out.size);clear hb3 K2;go_wp2;go_ret;exact ⟨rfl,HB.out.trans (K3.out.mono HB.out.size)⟩
def ul (M:List ae) (V:List (List aq)) (S:List Int):Prop:=M.length≤1048576∧iY V∧S.length≤1048576
structure bf (w:World) (b:Nat) (u0 u1 u2 u3:Value):Prop where
 c0:w.cell? ⟨b,0,none⟩=some u0
 c1:w.cell? ⟨b,1,none⟩=some u1
 c2:w.cell? ⟨b,2,none⟩=some u2
 c3:w.cell? ⟨b,3,none⟩=some u3
 fz:∀o,w.frozen? ⟨b,o,none⟩=false
theorem bf.lt (h:bf w b u0 u1 u2 u3):b<w.heap.size:=World.block_lt_of_cell? w _ h.c0
theorem bf.all(h:bf w b u0 u1 u2 u3):w.cell? ⟨b,0,none⟩=some u0∧w.cell? ⟨b,1,none⟩=some u1∧w.cell? ⟨b,2,none⟩=some u2∧w.cell? ⟨b,3,none⟩=some u3∧(∀o,w.frozen? ⟨b,o,none⟩=false)∧b<w.heap.size:=⟨h.c0,h.c1,h.c2,h.c3,h.fz,h.lt⟩
theorem bf.new (w:World) (t:TypeId) (u0 u1 u2 u3:Value):bf (w.alloc (.cells #[u0,u1,u2,u3] t)) w.heap.size u0 u1 u2 u3:=⟨by simp,by simp,by simp,by simp,fun o=>by simp⟩
theorem bf.below {B:Nat} (h:bf w b u0 u1 u2 u3) (hb:Below B w w') (hB:b<B):bf w' b u0 u1 u2 u3 :=
 ⟨(hb.cell (p:=⟨b,0,none⟩) hB).trans h.c0,(hb.cell (p:=⟨b,1,none⟩) hB).trans h.c1,(hb.cell (p:=⟨b,2,none⟩) hB).trans h.c2,(hb.cell (p:=⟨b,3,none⟩) hB).trans h.c3,fun o=>(hb.frozen (p:=⟨b,o,none⟩) hB).trans (h.fz o)⟩
theorem bf.keep (h:bf w b u0 u1 u2 u3) (hb:Bl w w'):bf w' b u0 u1 u2 u3:=h.below hb h.lt
theorem bf.alloc (h:bf w b u0 u1 u2 u3) (o:Obj):bf (w.alloc o) b u0 u1 u2 u3:=h.keep bZ
theorem ac {o b' o':Nat} (x:Value) (h:¬(b=b'∧o=o')):(w.setCell ⟨b',o',none⟩ x).cell? ⟨b,o,none⟩=w.cell? ⟨b,o,none⟩ :=
 World.cell?_setCell_other _ _ _ _ (fun e=>h (by cases e;exact ⟨rfl,rfl⟩))
theorem bf.other (h:bf w b u0 u1 u2 u3) {b' o:Nat} (hp:b'≠b) (x:Value):bf (w.setCell ⟨b',o,none⟩ x) b u0 u1 u2 u3 :=
 ⟨(ac x (fun e=>hp e.1.symm)).trans h.c0,(ac x (fun e=>hp e.1.symm)).trans h.c1,(ac x (fun e=>hp e.1.symm)).trans h.c2,(ac x (fun e=>hp e.1.symm)).trans h.c3,fun o=>by rw [World.frozen?_setCell];exact h.fz o⟩
theorem bf.set0 (h:bf w b u0 u1 u2 u3) (x:Value):bf (w.setCell ⟨b,0,none⟩ x) b x u1 u2 u3 :=
 ⟨World.cell?_setCell_same' _ _ _ (by rw [h.c0];rfl),(ac x (by simp)).trans h.c1,(ac x (by simp)).trans h.c2,(ac x (by simp)).trans h.c3,fun o=>by rw [World.frozen?_setCell];exact h.fz o⟩
theorem bf.set1 (h:bf w b u0 u1 u2 u3) (x:Value):bf (w.setCell ⟨b,1,none⟩ x) b u0 x u2 u3 :=
 ⟨(ac x (by simp)).trans h.c0,World.cell?_setCell_same' _ _ _ (by rw [h.c1];rfl),(ac x (by simp)).trans h.c2,(ac x (by simp)).trans h.c3,fun o=>by rw [World.frozen?_setCell];exact h.fz o⟩
theorem bf.set2 (h:bf w b u0 u1 u2 u3) (x:Value):bf (w.setCell ⟨b,2,none⟩ x) b u0 u1 x u3 :=
 ⟨(ac x (by simp)).trans h.c0,(ac x (by simp)).trans h.c1,World.cell?_setCell_same' _ _ _ (by rw [h.c2];rfl),(ac x (by simp)).trans h.c3,fun o=>by rw [World.frozen?_setCell];exact h.fz o⟩
theorem bf.set3 (h:bf w b u0 u1 u2 u3) (x:Value):bf (w.setCell ⟨b,3,none⟩ x) b u0 u1 u2 x :=
 ⟨(ac x (by simp)).trans h.c0,(ac x (by simp)).trans h.c1,(ac x (by simp)).trans h.c2,World.cell?_setCell_same' _ _ _ (by rw [h.c3];rfl),fun o=>by rw [World.frozen?_setCell];exact h.fz o⟩
def Tryz.laysM316_ren : Go.Shelf.Ren := ⟨fun | 316 => 152 | n => n, fun | 9 => 9 | 3 => 3 | 4 => 4 | 37 => 104 | 0 => 0 | 127 => 178 | 5 => 5 | n => n, fun | n => n⟩
theorem Tryz.laysM316 : Go.Proofs.LaysM.n316 Tryz.prog Tryz.laysM316_ren := {
  mixed := by kernel_rfl
  f316 := Tryz.func152.trans (congrArg some (by kernel_rfl))
  t0 := Tryz.underlying0
  a0 := Tryz.isAgg0
  z0 := Tryz.sizeOf0
  v0 := Tryz.zeroValue0
  t3 := Tryz.underlying3
  a3 := Tryz.isAgg3
  z3 := Tryz.sizeOf3
  v3 := Tryz.zeroValue3
  t4 := Tryz.underlying4
  a4 := Tryz.isAgg4
  z4 := Tryz.sizeOf4
  v4 := Tryz.zeroValue4
  t9 := Tryz.underlying9
  a9 := Tryz.isAgg9
  z9 := Tryz.sizeOf9
  v9 := Tryz.zeroValue9
  t37 := Tryz.underlying104
  a37 := Tryz.isAgg104
  z37 := Tryz.sizeOf104
  v37 := Tryz.zeroValue104
  t127 := Tryz.underlying178
  a127 := Tryz.isAgg178
  z127 := Tryz.sizeOf178
  v127 := Tryz.zeroValue178
  t5 := Tryz.underlying5
  a5 := Tryz.isAgg5
  z5 := Tryz.sizeOf5
  v5 := Tryz.zeroValue5
  i0 := by kernel_rfl
  i3 := by kernel_rfl
  i4 := by kernel_rfl
  i5 := by kernel_rfl
  i9 := by kernel_rfl
  i37 := by kernel_rfl
  i127 := by kernel_rfl }
open Go.RowKit in
/-- internal/stringslite.Clone (what strings.Clone calls): "Clone returns a fresh copy of s.": THE SAME BYTES. Of what was there nothing has turned (a new row is laid, and frozen, where s is not empty). (LAID: no walk: one application.) -/
theorem Tryz.stringslite_Clone (s : ByteArray) (w : World) (hlim : s.size ≤ 281474976710656) :
    Calls Tryz.prog 152 #[.string s] w fun e w' => e = .returned (.string s) ∧ Below w.heap.size w w' := Any.stringslite_Clone Tryz.laysM316 s w hlim
theorem mG (s:ByteArray) (w:World) (h:s.size≤281474976710656) :
 Calls Tryz.prog 124 #[.string s] w fun e w'=>e=.returned (.string s)∧Bl w w':=by
 go_enter Tryz.func124,Tryz.ntmps124
 go_wp2_with fail
 refine (Tryz.stringslite_Clone s _ h).mono ?_;rintro e w1 ⟨rfl,hb1⟩;go_wp2;go_ret;exact ⟨rfl,hb1⟩
structure gk (w0 w:World) (X:Nat) (s t:ByteArray) (q d n:Int):Prop where
 low:Below X w0 w
 c0:w.cell? ⟨X,0,none⟩=some (.string s)
 c1:w.cell? ⟨X,1,none⟩=some (iT q)
 c2:w.cell? ⟨X,2,none⟩=some (iT d)
 c3:w.cell? ⟨X,3,none⟩=some (.string t)
 c4:w.cell? ⟨X,4,none⟩=some (iT n)
 fr:∀o,w.frozen? ⟨X,o,none⟩=false
theorem gk.lt {n:Int} (h:gk w0 w X s t q d n):X<w.heap.size:=World.block_lt_of_cell? _ _ h.c0
theorem gk.all {n:Int} (h:gk w0 w X s t q d n):w.cell? ⟨X,0,none⟩=some (.string s)∧w.cell? ⟨X,1,none⟩=some (iT q)∧w.cell? ⟨X,2,none⟩=some (iT d)∧w.cell? ⟨X,3,none⟩=some (.string t)∧w.cell? ⟨X,4,none⟩=some (iT n)∧X<w.heap.size:=⟨h.c0,h.c1,h.c2,h.c3,h.c4,h.lt⟩
theorem gk.call {n:Int} (h:gk w0 w X s t q d n) (hb:Bl w w'):gk w0 w' X s t q d n :=
 ⟨h.low.trans (hb.mono (Nat.le_of_lt h.lt)),cell_later hb h.c0,cell_later hb h.c1,cell_later hb h.c2,cell_later hb h.c3,cell_later hb h.c4,fun o=>(hb.frozen (p:=⟨X,o,none⟩) h.lt).trans (h.fr o)⟩
theorem gk.drew {n:Int} (h:gk w0 w X s t q d n):gk w0 w.drew X s t q d n:=h.call (Below.refl _ w).drew
theorem gk.store0 {n:Int} (h:gk w0 w X s t q d n):gk w0 (w.setCell ⟨X,0,none⟩ (.string s)) X s t q d n :=
 ⟨h.low.setCell (p:=⟨X,0,none⟩) (Nat.le_refl _) _,World.cell?_setCell_same' _ _ _ (by rw [h.c0];rfl),by rw [World.cell?_setCell_other _ _ _ _ (by simp)];exact h.c1,by rw [World.cell?_setCell_other _ _ _ _ (by simp)];exact h.c2,by rw [World.cell?_setCell_other _ _ _ _ (by simp)];exact h.c3,by rw [World.cell?_setCell_other _ _ _ _ (by simp)];exact h.c4,fun o=>by rw [World.frozen?_setCell];exact h.fr o⟩
theorem gk.store3 {n:Int} (h:gk w0 w X s t q d n):gk w0 (w.setCell ⟨X,3,none⟩ (.string t)) X s t q d n :=
 ⟨h.low.setCell (p:=⟨X,3,none⟩) (Nat.le_refl _) _,by rw [World.cell?_setCell_other _ _ _ _ (by simp)];exact h.c0,by rw [World.cell?_setCell_other _ _ _ _ (by simp)];exact h.c1,by rw [World.cell?_setCell_other _ _ _ _ (by simp)];exact h.c2,World.cell?_setCell_same' _ _ _ (by rw [h.c3];rfl),by rw [World.cell?_setCell_other _ _ _ _ (by simp)];exact h.c4,fun o=>by rw [World.frozen?_setCell];exact h.fr o⟩
theorem gk.new (w:World) (T:TypeId) (s t:ByteArray) (q d n:Int):gk w (w.alloc (.cells #[.string s,iT q,iT d,.string t,iT n] T)) w.heap.size s t q d n :=
 ⟨bZ,by simp,by simp,by simp,by simp,by simp,fun o=>World.frozen?_alloc_new w _ _ o⟩
theorem ip (a:Option Addr) (len cap:Nat) (L:List ae) (w:World) (hL:an w a len cap L) (hbig:len≤1048576) (hsm:∀e ∈ L,e.1.size≤281474976710656∧e.2.2.2.1.size≤281474976710656) :
 Calls Tryz.prog 126 #[.slice a len cap] w fun e w'=>e=.returned (sL (w.heap.size) len len)∧aE w' w.heap.size w.heap.size len len L∧w.heap.size<w'.heap.size∧Bl w w':=by
 have HLEN:Hid (L.length=len):=hL.length;have HENTS:Hid (∀l ∈ L,dt l):=hL.ents;have HSM:=ar hsm;have HL:=ar hL;clear hL hsm;obtain ⟨i0,hi,hz0,hz1,hz2⟩:=info_parts Tryz.infoEnt;go_enter Tryz.func126,Tryz.ntmps126
 go_wp2_with (at_make;refine wpList_make_full _ rfl _ _ 33 rfl w.heap.size 59 i0 _ 5 Tryz.underlying33 hi hz0 hz1 .i64 .i64 _ _ len rfl rfl (by simp) (by simp) (by rw [hz2];omega) (by unfold maxLen;omega) (Nat.le_refl _) ?_;intro w1 hown hgrow)
 have hb1:Bl w w1:=(Below.refl _ _).grown hgrow (Nat.le_refl _) (by simp);have hsz1:w.heap.size<w1.heap.size:=(hown.lt _ rfl).2;go_loopw [11] (fun i wr=>∃(k:Nat) (xs:List Value),k≤len∧i=iT k∧wr.ownsRow w.heap.size 59 5 (sL (w.heap.size) len len) len xs∧Bl w wr∧(∀j l,j<k→L[j]?=some l→fx xs j l)) (fun i _=>len - (intOf i).toNat)
 case atStart=>exact ⟨0,_,Nat.zero_le _,rfl,hown,hb1,fun j l h=>absurd h (Nat.not_lt_zero _)⟩
 case round =>
  obtain ⟨k,xs,hk,rfl,ho,hb,hrow⟩:=hrel;have HROW:Hid (∀j l,j<k→L[j]?=some l→fx xs j l):=hrow;clear hrow hown hgrow hb1 hsz1;by_cases hlt:k<len
  · obtain ⟨b,off,rfl,hbb⟩:=HL.out.form (by omega);obtain ⟨s,q,d,t,n,hg,hlw,g0,g1,g2,g3,g4⟩:=HL.out.ent hb hbb k hlt;have HG:Hid (L[k]?=some (s,q,d,t,n)):=hg;obtain ⟨hs,ht⟩:=HSM.out _ (List.mem_of_getElem? hg);simp only at hs ht;clear hg hlw;have HX:Hid (xs.length=len*5):=ho.1;have HO:Hid (wr.ownsRow w.heap.size 59 5 (sL (w.heap.size) len len) len xs):=ho;have hgl:=(ho.lt w.heap.size rfl).2;clear ho;go_wp2_with fail
    obtain ⟨X,hX⟩:=aw wr.heap.size;obtain ⟨W,hW⟩:=aw (wr.alloc (.cells #[.string s,iT q,iT d,.string t,iT n] 59));have kW:gk wr W X s t q d n:=by rw [hW,hX];exact gk.new wr 59 s t q d n
    have hgX:w.heap.size<X:=by rw [hX];exact hgl
    have HXW:Hid (X=wr.heap.size):=hX;rw [← hW,← hX];clear hW hX;have k0:gk wr W.drew X s t q d n:=kW.drew;have HMK:Hid (∀w',gk wr w' X s t q d n→(w'.cell? ⟨X,0,none⟩=some (.string s)∧w'.cell? ⟨X,3,none⟩=some (.string t))):=fun w' kk=>⟨kk.c0,kk.c3⟩
    refine dC HMK k0 fun aa=>?_
    refine aK 0 2 aa ?_;refine aK 3 2 aa ?_;refine aP 2 fun K hK=>?_
    go_simp;refine (mG _ _ hs).mono ?_;rintro e w1 ⟨rfl,b1⟩;have k1:=k0.call b1;go_wp2_with fail
    refine hK.out _ _ (HMK.out _ k1) fun aa=>?_
    (try go_frame);refine aK 6 1 aa ?_;refine aP 5 fun K hK=>?_
    go_simp;refine (mG _ _ ht).mono ?_;rintro e w2 ⟨rfl,b2⟩;have k2:=k1.call b2;go_wp2_with fail
    refine hK.out _ _ (HMK.out _ k2) fun aa=>?_
    (try go_frame);refine aP 7 fun K hK=>?_
    have c3:=k2.c0;have f3:=k2.fr 0;go_simp;have k3:=k2.store0;clear c3 f3;refine hK.out _ _ (HMK.out _ k3) fun aa=>?_
    (try go_frame);refine aK 8 1 aa ?_;refine aP 9 fun K hK=>?_
    have c4:=k3.c3;have f4:=k3.fr 3;go_simp;have k4:=k3.store3;clear c4 f4;refine hK.out _ _ (HMK.out _ k4) fun aa=>?_
    (try go_frame);refine dN ?_;obtain ⟨W4,hW4⟩:=aw (((w2.setCell ⟨X,0,none⟩ (.string s)).setCell ⟨X,3,none⟩ (.string t)));rw [← hW4] at k4 ⊢;have hb2:Bl wr W4:=by have:=k4.low;rw [HXW.out] at this;exact this
    have z0:=k4.all;have K4:Hid (gk wr W4 X s t q d n):=k4;clear hW4 k1 k2 k3 k4 k0 kW b1 b2 HMK aa;have ho2:W4.ownsRow w.heap.size 59 5 (sL (w.heap.size) len len) len xs:=HO.out.kept (row:=none) ⟨hb2.os,hb2.tape,hb2.output,hb2.size,fun k hk _=>hb2.block k hk⟩ (.inr (by simp [Value.ownBlock]));have c0:∃v,W4.cell? ⟨w.heap.size,k*5,none⟩=some v:=⟨_,(ho2.cellAt _ (by omega)).trans (List.getElem?_eq_getElem (by rw [HX.out];omega))⟩;have c1:∃v,W4.cell? ⟨w.heap.size,k*5+1,none⟩=some v:=⟨_,(ho2.cellAt _ (by omega)).trans (List.getElem?_eq_getElem (by rw [HX.out];omega))⟩;have c2:∃v,W4.cell? ⟨w.heap.size,k*5+2,none⟩=some v:=⟨_,(ho2.cellAt _ (by omega)).trans (List.getElem?_eq_getElem (by rw [HX.out];omega))⟩;have c3:∃v,W4.cell? ⟨w.heap.size,k*5+3,none⟩=some v:=⟨_,(ho2.cellAt _ (by omega)).trans (List.getElem?_eq_getElem (by rw [HX.out];omega))⟩;have c4:∃v,W4.cell? ⟨w.heap.size,k*5+4,none⟩=some v:=⟨_,(ho2.cellAt _ (by omega)).trans (List.getElem?_eq_getElem (by rw [HX.out];omega))⟩;obtain ⟨v0,c0⟩:=c0;obtain ⟨v1,c1⟩:=c1;obtain ⟨v2,c2⟩:=c2;obtain ⟨v3,c3⟩:=c3;obtain ⟨v4,c4⟩:=c4;have f0:W4.frozen? ⟨w.heap.size,k*5,none⟩=false:=ho2.frozenAt _;have f1:W4.frozen? ⟨w.heap.size,k*5+1,none⟩=false:=ho2.frozenAt _;have f2:W4.frozen? ⟨w.heap.size,k*5+2,none⟩=false:=ho2.frozenAt _;have f3:W4.frozen? ⟨w.heap.size,k*5+3,none⟩=false:=ho2.frozenAt _;have f4:W4.frozen? ⟨w.heap.size,k*5+4,none⟩=false:=ho2.frozenAt _;have HO2:Hid (W4.ownsRow w.heap.size 59 5 (sL (w.heap.size) len len) len xs):=ho2;clear ho2;go_wp2;go_roundw
    case rel =>
     have t0:=HO2.out.stored (k*5) (.string s);have t1:=t0.1.stored (k*5+1) (iT q);have t2:=t1.1.stored (k*5+2) (iT d);have t3:=t2.1.stored (k*5+3) (.string t);have t4:=t3.1.stored (k*5+4) (iT n);refine ⟨k+1,_,by omega,by go_num,t4.1,?_,?_⟩
     · exact (((((hb.trans (hb2.mono hb.size)).setCell (p:=⟨w.heap.size,_,none⟩) (Nat.le_refl _) _).setCell (p:=⟨w.heap.size,_,none⟩) (Nat.le_refl _) _).setCell (p:=⟨w.heap.size,_,none⟩) (Nat.le_refl _) _).setCell (p:=⟨w.heap.size,_,none⟩) (Nat.le_refl _) _).setCell (p:=⟨w.heap.size,_,none⟩) (Nat.le_refl _) _
     · intro j l hj hl;by_cases hjk:j=k
       · subst hjk;rw [HG.out] at hl;cases hl;exact iJ s t q d n (by rw [HX.out];omega)
       · exact gO (HROW.out j l (by omega) hl) hjk _ _ _ _ _
    case measure=>simp [intOf];omega
  · go_wp2;go_ret;exact ⟨rfl,⟨by rw [← mS (xs:=xs) (L:=L) (by rw [HLEN.out];exact ho.1) (fun j l hl=>HROW.out j l (by have:=(List.getElem?_eq_some_iff.1 hl).1;rw [HLEN.out] at this;omega) hl)];exact ho,HLEN.out,HENTS.out⟩,(ho.lt _ rfl).2,hb⟩
theorem il {row:Option Nat} (hg:w.grownBy w' row) {x:Addr} (hx:x.block<w.heap.size) (hn:some x.block≠row):w'.frozen? x=w.frozen? x:=World.frozen?_of_block (hg.block x.block hx hn)
theorem iI {e size:Nat} {v:Value} (h:w.ownsRow base e size v k xs) (hne:¬v=nZ):∃g cap,v=sL g k cap:=by
 rcases h.2 with ⟨h',_⟩ | ⟨g,cap,_,h',_⟩
 · exact absurd h' hne
 · exact ⟨g,cap,h'⟩
theorem aA {P:Program} {ops:Array Oper} {o:Oper} {a:Act} {w:World} {K:Act→World→Prop} {Q:Exit→Act→World→Prop} {E:Prop}
 (hg:o.guard=none) (s x:Operand) (t:TypeId) (hop:o.op=Op.call { callee:=Callee.builtin Builtin.append,args:=#[s,x],argTypes:=#[t,t] })
 (base:Nat) (e:TypeId) (i:TypeInfo) (z:Value) (size bytes:Nat) (h1:P.underlying t=some (.slice e)) (h2:P.info? e=some i) (h3:i.zero=some z) (h4:i.size=size) (h5:i.bytes=bytes) (h6:z.cells.size=size) (h7:0<size)
 (v:Value) (n:Nat) (olds:List Value) (hs:a.eval s=v) (hown:w.ownsRow base e size v n olds)
 (ad:Addr) (m c:Nat) (news:List Value) (hx:a.eval x=.slice (some ad) m c) (hn:news.length=m*size) (hc:∀j u,news[j]?=some u→w.cell? (ad.add j)=some u) (h1c:∀u ∈ news,u.oneCell'=true)
 (b1:n+m≤maxLen) (b2:(n+m)*bytes≤140737488355328) (b3:base≤w.heap.size)
 (hK:∀v' w',w'.ownsRow base e size v' (n+m) (olds++news)→w.grownBy w' v.ownBlock→(v'=nZ ↔ v=nZ∧m=0)→K (a.put o.dst v') w') :
 if Region.wanted o (yielded ops a.tmps)=true then Oper.wp P o a w K Q else E:=by
 have hw:Region.wanted o (yielded ops a.tmps)=true:=by simp [Region.wanted,hg]
 rw [if_pos hw];obtain ⟨v',w',hrun,r1,r2,r3⟩:=run_append_own (P:=P) w base t o.type e i z size bytes h1 h2 h3 h4 h5 h6 h7 v n olds hown ad m c news hn hc h1c b1 b2 b3;unfold Oper.wp;simp [execOp,hop,resolve,invoke,builtin,hs,hx,hrun,Result.andThen];exact hK v' w' r1 r2 r3
theorem iH {P:Program} {ops:Array Oper} {o:Oper} {a:Act} {K:Act→World→Prop} {Q:Exit→Act→World→Prop} {E:Prop}
 (hg:o.guard=none) (l c:Operand) (t:TypeId) (hop:o.op=Op.makeSlice t l c)
 (base:Nat) (e:TypeId) (i:TypeInfo) (z:Value) (size:Nat) (h1:P.underlying t=some (.slice e)) (h2:P.info? e=some i) (h3:i.zero=some z) (h4:i.size=size)
 (kl kc:IntKind) (L C:Int) (n:Nat) (hl:a.eval l=.int kl L) (hc:a.eval c=.int kc C) (hL:L=(n:Int)) (hC:C=(n:Int)) (b2:i.bytes*n≤281474976710656) (b3:n≤maxLen) (b4:base≤w.heap.size)
 (hK:∀w',w'.ownsRow base e size (sL (w.heap.size) n n) n (madeCells z.cells (n*size)).toList→w.grownBy w' none→K (a.put o.dst (sL (w.heap.size) n n)) w') :
 if Region.wanted o (yielded ops a.tmps)=true then Oper.wp P o a w K Q else E:=by
 have hw:Region.wanted o (yielded ops a.tmps)=true:=by simp [Region.wanted,hg]
 rw [if_pos hw];obtain ⟨w',hrun,r1,r2⟩:=run_make_full (P:=P) w base t e i z size h1 h2 h3 h4 kl kc n b2 b3 b4;subst hL;subst hC;unfold Oper.wp;simp [execOp,hop,hl,hc,hrun,Result.andThen];exact hK w' r1 r2
theorem dD {e:TypeId} {n:Nat} (h:w.ownsRow base e K (sL g n c) k xs) (hb:Bl w w'):w'.ownsRow base e K (sL g n c) k xs :=
 h.kept (row:=none) ⟨hb.os,hb.tape,hb.output,hb.size,fun k hk _=>hb.block k hk⟩ (.inr (by simp [Value.ownBlock]))
theorem bj {e:TypeId} {n P:Nat} (h:w.ownsRow base e K (sL g n c) k xs) (hne:g≠P) (o:Nat) (u:Value):(w.setCell ⟨P,o,none⟩ u).ownsRow base e K (sL g n c) k xs :=
 h.kept (row:=some P) ⟨rfl,rfl,rfl,by simp [World.setCell],fun k _ hk=>Below.heap_setCell _ _ _ _ (fun e=>hk (by rw [e]))⟩ (.inr (by simp [Value.ownBlock];exact hne))
def fj (L:List ae):Prop:=∀e ∈ L,e.1.size≤281474976710656∧e.2.2.2.1.size≤281474976710656
def er (B:List aq):Prop:=∀p ∈ B,fj p.1
theorem zz (w:World) (a0 a1 a2:Option Addr) (n0 c0 n1 c1 n2 c2:Nat):(Instr.index 84 (.agg #[.slice a0 n0 c0,.slice a1 n1 c1,.slice a2 n2 c2]) (iT 0)).run Tryz.prog w=.ok (.slice a0 n0 c0) w:=by
 simp [Instr.index,run_underlying Tryz.underlying84,asIntOf,go_sem,Tryz.isAgg83,Tryz.sizeOf83,part]
theorem zw (w:World) (a0 a1 a2:Option Addr) (n0 c0 n1 c1 n2 c2:Nat):(Instr.index 84 (.agg #[.slice a0 n0 c0,.slice a1 n1 c1,.slice a2 n2 c2]) (iT 1)).run Tryz.prog w=.ok (.slice a1 n1 c1) w:=by
 simp [Instr.index,run_underlying Tryz.underlying84,asIntOf,go_sem,Tryz.isAgg83,Tryz.sizeOf83,part]
theorem zu (w:World) (a0 a1 a2:Option Addr) (n0 c0 n1 c1 n2 c2:Nat):(Instr.index 84 (.agg #[.slice a0 n0 c0,.slice a1 n1 c1,.slice a2 n2 c2]) (iT 2)).run Tryz.prog w=.ok (.slice a2 n2 c2) w:=by
 simp [Instr.index,run_underlying Tryz.underlying84,asIntOf,go_sem,Tryz.isAgg83,Tryz.sizeOf83,part]
def xw (Z:Nat) (w:World) (xs:List Value) (V:List (List aq)) (k:Nat):Prop:=∀j,j<k→∃(b n:Nat) (B:List aq),V[j]?=some B∧xs[j]?=some (sL b n n)∧aF Z w (pT b) n n B
theorem xw.same (h:xw Z w xs V k) (hs:aM Z w w'):xw Z w' xs V k:=fun j hj=>by
 obtain ⟨b,n,B,h1,h2,h3⟩:=h j hj
 exact ⟨b,n,B,h1,h2,h3.same hs⟩
theorem rF {lo:Nat} {vb:Nat} (h:w.ownsRow base 83 1 (sL vb 3 3) 3 xs) (hb:lo≤vb) (hZ:lo≤Z) (hV:V.length=3) (h0:xw Z w xs V 3):au lo w (pT vb) 3 3 V:=by
 have hlt:=(h.lt vb rfl).2;refine ⟨hV,Nat.le_refl _,by unfold maxLen;omega,(fun e=>by cases e),(fun x e _=>by cases e;exact ⟨hlt,rfl,hb⟩),?_⟩;rintro x e i hi;cases e;obtain ⟨b,n,B,h1,h2,h3⟩:=h0 i (by omega);rw [List.getElem?_eq_getElem hi] at h1;cases h1;exact ⟨some ⟨b,0,none⟩,n,n,by simp only [Nat.zero_add];exact (h.cellAt i (by omega)).trans h2,h3.mono hZ⟩
theorem dx {R:World→Prop} {b:Nat} (rS:∀w o u,R w→R (w.setCell ⟨b,o,none⟩ u)):∀(cs:List Value) (o:Nat) (w:World),R w→R (w.setCells b o cs)
 | [],_,_,h=>h
 | c :: cs,o,w,h=>dx rS cs (o+1) (w.setCell ⟨b,o,none⟩ c) (rS w o c h)
end Go.Proofs.YtehiefdphnljaaaGreatDoor
