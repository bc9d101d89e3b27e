/-
  What the program's compaction leans on: runs cut out of nothing, rows put together, and where they lie.
-/
import Derived.Test.YtlmgojlffgkciaaGreatTc36
import Derived.Test.YtlmgojlffgkciaaGreatTc37
import Derived.Test.YtlmgojlffgkciaaGreatTc42
import Derived.Test.YtlmgojlffgkciaaGreatTc46
import Derived.Test.YtlmgojlffgkciaaGreatTc20
namespace Go.Proofs.YtlmgojlffgkciaaGreat
open Go.RowKit
set_option maxRecDepth 100000
set_option maxHeartbeats 4000000
theorem pJ (w:World):Calls Tryz.prog 105 #[nZ] w (rQ [] w):=by
 go_enter Tryz.func105,Tryz.ntmps105
 go_wp2;go_loopw [4,5] (fun rv fv wr=>rv=nZ∧fv=iT 0∧wr=w) (fun _ _ _=>0)
 case atStart=>exact ⟨rfl,rfl,rfl⟩
 case round =>
  obtain ⟨rfl,rfl,rfl⟩:=hrel;go_wp2;exact bodyPost_ret (v:=.tuple #[nZ,.bool true]) (by simp [results,Tryz.results105,go_sem]) rfl (show rQ [] _ _ _ from ⟨nZ,true,0,rfl,rfl,fun _=>jM _ _,(fun e=>by cases e),Below.refl _ _⟩)
theorem mS (base:Nat) (ar:Option Addr) (n c:Nat) (L:List ac) (w:World) (h:d7 w base ar n c L) (hn:n≤100000) (hrt:az L=true) :
 Calls Tryz.prog 105 #[.slice ar n c] w (rQ (bw L) w):=by
 cases ar with
 | none =>
  obtain ⟨rfl,rfl,rfl⟩:=h.nil rfl;exact pJ w
 | some x =>
  obtain ⟨g,rfl,h2⟩:=h.own x rfl;have:=va g n c L w h2.entsAt h2.lt.2 hn hrt;rw [← h2.entsAt.length] at this;rw [← h2.entsAt.length];exact this
theorem vS {w:World} {a:Option Addr} {n c:Nat} {B:List ae} (h:aj 0 w a n c B) (h0:a=none→c=0) (h1:∀x,a=some x→x.spot=none):∃xs,jI w xs B∧gl w (.slice a n c) n xs:=by
 cases a with
 | none =>
  have e1:=h.nil rfl;have e2:=h0 rfl;have e3:=h.length;subst e1 e2;have e4:B=[]:=List.length_eq_zero_iff.1 e3;subst e4;exact ⟨[],⟨rfl,fun i p hp=>by simp at hp⟩,rfl,(fun u hu=>by cases hu),.inl ⟨rfl,rfl⟩⟩
 | some x =>
  obtain ⟨b,o,s⟩:=x;have hs:s=none:=h1 _ rfl;subst hs;exact h.raw
theorem d6.rowIn {base n:Nat} {v:Value} {w:World} {B:List ae} (h:d6 base w v n B):∃a c,v=.slice a n c∧aj 0 w a n c B∧(a=none→c=0)∧∀x,a=some x→x.spot=none:=by
 obtain ⟨xs,h3,h4⟩:=h.row;have hd:jI w xs B:=⟨by have:=h3.1;have:=h.len;omega,fun i p hp=>by
  obtain ⟨e,d,a1,a2,a3⟩:=h4 i p hp;exact ⟨h.wfs p (List.mem_of_getElem? hp),_,_,_,a1,a2,a3.entsAt,fun _ _ _=>Nat.zero_le _⟩⟩
 obtain ⟨a,c,e,h5⟩:=fe h3 hd;refine ⟨a,c,e,h5,fun ea=>?_,fun x ea=>?_⟩
 · rcases h3.2 with ⟨e1,_⟩ | ⟨g,cap,cur,e1,_⟩
   · rw [e] at e1;cases e1;rfl
   · rw [e,ea] at e1;cases e1
 · rcases h3.2 with ⟨e1,_⟩ | ⟨g,cap,cur,e1,_⟩
   · rw [e,ea] at e1;cases e1
   · rw [e,ea] at e1;cases e1;rfl
theorem wM (gb:Nat) (w:World) (v1 v2 v3:Value) (n1 n2 n3:Nat) (xs1 xs2 xs3:List Value) (h1:gl w v1 n1 xs1) (h2:gl w v2 n2 xs2) (h3:gl w v3 n3 xs3) (c0:w.cell? ⟨gb,0,none⟩=some v1) (c1:w.cell? ⟨gb,1,none⟩=some v2) (c2:w.cell? ⟨gb,2,none⟩=some v3) (hs:n1+n2+n3≤1048576) :
 Calls Tryz.prog 100 #[sL gb 3 3] w fun e w'=>∃v,e=.returned v∧w'.ownsRow w.heap.size 102 2 v (n1+n2+n3) (xs1++xs2++xs3)∧Bl w w':=by
 have hP:gE w gb [(n1,xs1),(n2,xs2),(n3,xs3)]:=by
  refine ⟨World.block_lt_of_cell? _ _ c0,fun i n xs hS=>?_⟩;match i,hS with
  | 0,hS=>simp at hS;obtain ⟨rfl,rfl⟩:=hS;exact ⟨_,c0,h1⟩
  | 1,hS=>simp at hS;obtain ⟨rfl,rfl⟩:=hS;exact ⟨_,c1,h2⟩
  | 2,hS=>simp at hS;obtain ⟨rfl,rfl⟩:=hS;exact ⟨_,c2,h3⟩
 have hsum:fq [(n1,xs1),(n2,xs2),(n3,xs3)]=n1+n2+n3:=by simp [fq];omega
 have hfl:io [(n1,xs1),(n2,xs2),(n3,xs3)]=xs1++xs2++xs3:=by simp [io]
 have h:=pn gb 3 _ w hP rfl (by omega) (by rw [hsum];omega);rw [hsum,hfl] at h;exact h
theorem jA (w:World) (x y z:Value) (t:TypeId):(w.alloc (.cells #[x,y,z] t)).cell? ⟨w.heap.size,0,none⟩=some x∧(w.alloc (.cells #[x,y,z] t)).cell? ⟨w.heap.size,1,none⟩=some y∧(w.alloc (.cells #[x,y,z] t)).cell? ⟨w.heap.size,2,none⟩=some z:=⟨by simp,by simp,by simp⟩
theorem d8 (w:World) (X k:Nat) (u:Value):∀b,b≠X→∀o,(w.setCell ⟨X,k,none⟩ u).cell? ⟨b,o,none⟩=w.cell? ⟨b,o,none⟩:=fun b hb o=>by
 simp only [World.cell?,Below.heap_setCell w (⟨X,k,none⟩:Addr) u b hb]
theorem dG (w:World) (X:Nat) (u0 u1 u2 u3 u4 u5:Value):∀b,b≠X→∀o,((((((w.setCell ⟨X,0,none⟩ u0).setCell ⟨X,1,none⟩ u1).setCell ⟨X,2,none⟩ u2).setCell ⟨X,3,none⟩ u3).setCell ⟨X,4,none⟩ u4).setCell ⟨X,5,none⟩ u5).cell? ⟨b,o,none⟩=w.cell? ⟨b,o,none⟩:=fun b hb o=>by
 rw [d8 _ _ _ _ b hb,d8 _ _ _ _ b hb,d8 _ _ _ _ b hb,d8 _ _ _ _ b hb,d8 _ _ _ _ b hb,d8 _ _ _ _ b hb]
theorem dW (w:World) (X:Nat) (u0 u1 u2 u3 u4 u5:Value):((((((w.setCell ⟨X,0,none⟩ u0).setCell ⟨X,1,none⟩ u1).setCell ⟨X,2,none⟩ u2).setCell ⟨X,3,none⟩ u3).setCell ⟨X,4,none⟩ u4).setCell ⟨X,5,none⟩ u5).heap.size=w.heap.size:=by simp [World.setCell]
theorem qZ (a:Option Addr) (n c:Nat) (P:List (List ac)) (nF:Nat) (w:World) (hP:bW w a n c P) (hnF:nF=P.flatten.length) (hn:n≤1048576) (hsum:nF≤1048576) (hsm:∀e ∈ P.flatten,rU e) :
 Calls Tryz.prog 69 #[.slice a n c] w fun e w'=>∃g,e=.returned (sL g nF nF)∧af w' (pT g) nF nF (aQ P.flatten)∧g<w'.heap.size∧Bl w w':=by
 subst hnF;refine (callsIn_wide.1 (xS a n c P w hP hn hsum hsm)).mono ?_;rintro e w' ⟨⟨g,rfl,hO⟩,hb⟩;exact ⟨g,rfl,hO.entsAt,hO.lt.2,hb⟩
theorem ij {T:List ae} (hok:∀r ∈ T,az r.1=true∧1≤r.1.length):∀e ∈ (aH T).flatten,rU e:=fun e he=>by
 obtain ⟨L,hL,h1⟩:=List.mem_flatten.1 he
 obtain ⟨r,hr,rfl⟩:=List.mem_map.1 hL
 exact sS (hok r hr).1 e h1
end Go.Proofs.YtlmgojlffgkciaaGreat
