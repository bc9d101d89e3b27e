/-
  Whether nothing lies beneath: isBottom of the program and l5Bare of the document, by walks of their Go text.
-/
import Derived.Test.YtlmgojlffgkciaaGreatTc31
import Derived.Test.YtlmgojlffgkciaaGreatTc33
import Derived.Test.YtlmgojlffgkciaaGreatTc18
import Derived.Test.YtlmgojlffgkciaaGreatTc30
import Derived.RangeFuncBox
import Derived.Test.YtlmgojlffgkciaaGreatTc19
namespace Go.Proofs.YtlmgojlffgkciaaGreat
open Go.RowKit
set_option maxRecDepth 100000
set_option maxHeartbeats 4000000
def A7 (C:List ae) (k1 k2:ByteArray) (lv:Int) (w:World) (e:Ending) (w':World):Prop:=∃i j:Nat,fi C k1 k2 i j∧e=.returned (.bool (decide (lv=2) || decide (i=j)))∧Bl w w'
theorem oY (q:Int) (am:Option Addr) (nm cm:Nat) (a0:Option Addr) (n0 c0:Nat) (a1:Option Addr) (n1 c1:Nat) (a2:Option Addr) (n2 c2:Nat) (ak:Option Addr) (nk ck:Nat) (C:List ae) (k1 k2:ByteArray) (lv:Int) (w:World) (hR:aj 0 w a2 n2 c2 C) (hn:n2≤1000) (ha:bl C=true) (hok:∀r ∈ C,cW r.1 r.2=true) :
 Calls Tryz.prog 106 #[.agg #[iT q,.slice am nm cm,.slice a0 n0 c0,.slice a1 n1 c1,.slice a2 n2 c2,.slice ak nk ck],iT lv,.agg #[.string k1,.string k2]] w (A7 C k1 k2 lv w):=by
 obtain ⟨X,hX⟩:=ay w.heap.size;obtain ⟨W,hW⟩:=ay ((w.alloc (.cells #[iT q,.slice am nm cm,.slice a0 n0 c0,.slice a1 n1 c1,.slice a2 n2 c2,.slice ak nk ck] 67)).alloc (.cells #[.string k1,.string k2] 109));have kW:Bl w W:=by rw [hW];exact bZ.alloc (by simp) _
 have K0:Hid (Bl w W):=kW;have CM:Hid (Calls Tryz.prog 90 #[.slice a2 n2 c2,.agg #[.string k1,.string k2]] W fun e w'=>∃i j:Nat,e=.returned (.tuple #[iT i,iT j])∧fi C k1 k2 i j∧Bl W w'):=jt 0 a2 n2 c2 C k1 k2 W (hR.keep kW) hn ha hok;have HX:Hid (X=w.heap.size):=hX;clear kW hR ha hok;go_enter Tryz.func106,Tryz.ntmps106
 go_wp2_with fail
 rw [← hW];clear hW hX;refine CM.out.mono ?_;rintro e w1 ⟨i,j,rfl,hm,hb1⟩;have K1:Hid (Bl w w1):=K0.out.trans (hb1.mono K0.out.size);have HM:Hid (fi C k1 k2 i j):=hm;clear hm hb1 CM;by_cases h2:lv=2
 · subst h2;go_wp2;go_ret;exact (show A7 C k1 k2 2 w _ _ from ⟨i,j,HM.out,rfl,K1.out⟩)
 · have h2b:(lv == 2)=false:=by simpa using h2
   by_cases hij:i=j
   · subst hij;go_wp2;go_ret;exact (show A7 C k1 k2 lv w _ _ from ⟨i,i,HM.out,by simp,K1.out⟩)
   · have hijI:¬(i:Int)=(j:Int):=by omega
     have hijb:((i:Int) == (j:Int))=false:=by simpa using hijI
     go_wp2;go_ret;exact (show A7 C k1 k2 lv w _ _ from ⟨i,j,HM.out,by simp [h2,hij],K1.out⟩)
theorem sC (q:Int) (m1:Option Addr) (nm cm bv ov cv:Nat) (k1:Option Addr) (ns cs:Nat) (a2:Option Addr) (n2 c2:Nat) (C:List ae) (nx:Int) (b off n c:Nat) (B:List ae) (r0:ae) (w:World) (hl2:w.cell? ⟨bv,ov+2,none⟩=some (.slice a2 n2 c2)) (hC:aj 0 w a2 n2 c2 C) (hnC:n2≤1000) (hneC:∀r ∈ C,1≤r.1.length) (hB:aj 0 w (some ⟨b,off,none⟩) n c B) (h0:B[0]?=some r0) (hne:∀r ∈ B,1≤r.1.length) (hn:n≤1000) :
 Calls Tryz.prog 155 #[.agg #[iT q,.slice m1 nm cm,sO bv ov 3 cv,.slice k1 ns cs],iT nx,sO b off n c] w fun e w'=>e=.returned (.bool (decide (nx=2) || decide ((C.filter (dV (eW (aY r0.1) B) (dh (aR r0.1) B))).length=0)))∧Bl w w':=by
 obtain ⟨X,hX⟩:=ay w.heap.size;obtain ⟨W,hW⟩:=ay (w.alloc (.cells #[iT q,.slice m1 nm cm,sO bv ov 3 cv,.slice k1 ns cs] 31));have kW:Bl w W:=by rw [hW];exact bZ
 have bx:aF W X (iT q) (.slice m1 nm cm) (sO bv ov 3 cv) (.slice k1 ns cs):=by rw [hW,hX];exact aF.new _ _ _ _ _ _
 have K0:Hid (Bl w W):=kW;obtain ⟨lo,hlo⟩:=ay (eW (aY r0.1) B);obtain ⟨hi,hhi⟩:=ay (dh (aR r0.1) B);have CR:Hid (Calls Tryz.prog 152 #[sO b off n c] W fun e w'=>e=.returned (.tuple #[.string lo,.string hi])∧Bl W w'):=by rw [hlo,hhi];exact l8 b off n c B r0 W (hB.keep kW) h0 hne (by omega)
 have CP:Hid (∀w',Bl w w'→Calls Tryz.prog 153 #[.slice a2 n2 c2,.string lo,.string hi] w' fun e w''=>∃g1 n1 c1 g2 n2 c2,e=.returned (.tuple #[sL g1 n1 c1,sL g2 n2 c2])∧aj 0 w'' (pT g1) n1 c1 (C.filter (dV lo hi))∧aj 0 w'' (pT g2) n2 c2 (C.filter (fun r=>!dV lo hi r))∧Bl w' w''):=fun w' k=>og a2 n2 c2 C lo hi w' (hC.keep k) hneC hnC
 rw [← hlo,← hhi];obtain ⟨F,hF⟩:=ay ((decide (nx=2) || decide ((C.filter (dV lo hi)).length=0)));have HF:Hid (F=(decide (nx=2) || decide ((C.filter (dV lo hi)).length=0))):=hF;rw [← hF];have HL2:=bc hl2;clear hF hlo hhi kW hC hneC hB h0 hne hl2;go_enter Tryz.func155,Tryz.ntmps155
 by_cases h2:nx=2
 · subst h2;have kA:Hid (Bl w (w.alloc (.cells #[iT q,.slice m1 nm cm,sO bv ov 3 cv,.slice k1 ns cs] 31))):=bZ;go_wp2;go_ret;exact ⟨by rw [HF.out];simp,kA.out⟩
 · have h2b:(nx == 2)=false:=by simpa using h2
   go_wp2_with fail
   rw [← hW];clear hW;refine CR.out.mono ?_;rintro e w1 ⟨rfl,hb1⟩;have K1:Hid (Bl w w1):=K0.out.trans (hb1.mono K0.out.size);have bx1:=bx.keep hb1;have x2:=bx1.c2;have xz:=bx1.lt;have l2:=cell_later K1.out HL2.out;have lz:=World.block_lt_of_cell? _ _ l2;simp only at lz;rw [← hX];clear hb1 bx bx1 hX;go_wp2_with fail
   refine (CP.out _ K1.out).mono ?_;rintro e w2 ⟨a5,n5,c5,a6,n6,c6,rfl,hR5,_,hb2⟩;have K2:Hid (Bl w w2):=K1.out.trans (hb2.mono K1.out.size);have HN5:Hid ((C.filter (dV lo hi)).length=n5):=hR5.length;clear hR5 hb2 x2 xz l2 lz;by_cases h5:n5=0
   · subst h5;go_wp2;go_ret;exact ⟨by rw [HF.out,HN5.out];simp,K2.out⟩
   · have h5I:¬(n5:Int)=0:=by omega
     have h5b:((n5:Int) == 0)=false:=by simpa using h5I
     go_wp2;go_ret;exact ⟨by rw [HF.out,HN5.out];simp [h2,h5],K2.out⟩
end Go.Proofs.YtlmgojlffgkciaaGreat

namespace Go.Proofs.YtlmgojlffgkciaaGreat
open Go.RowKit
theorem u7 {w:World} {base g n c:Nat} {S:List Int} (h:w.ownsRow base 3 1 (sL g n c) n (S.map iT)) (hl:S.length=n) (hw:∀z ∈ S,(Lit.int .i64 z).wf=true):aT base w (pT g) n c S:=by
 have hrc:=b6 h;refine ⟨hl,hrc.1,hrc.2,hw,(fun e=>by cases e),?_,?_⟩
 · rintro x e _;cases e;exact ⟨(h.lt g rfl).2,rfl,(h.lt g rfl).1⟩
 · rintro x e i hi;cases e;simp only [Nat.zero_add];have h1:=h.cellAt i (by omega);rw [List.getElem?_map,List.getElem?_eq_getElem hi] at h1;exact h1
end Go.Proofs.YtlmgojlffgkciaaGreat
