/-
  What the program's RunSame (and the library's slices.Equal on entries) answer at every two runs, by walks of their Go text.
-/
import Derived.Deep.QuietTactic
import Derived.Deep.LoopGhost
import Derived.BigQuiet
import Derived.Test.YtgpcinihgofmfaaGreatDoorSt37
import Derived.Deep.RegionWith
import Derived.Shelf.GgClosure.Gives
import Derived.Test.YtgpcinihgofmfaaGreatDoorSt01
namespace Go.Proofs.YtgpcinihgofmfaaGreatDoor
open Go.RowKit
set_option maxHeartbeats 800000 in
theorem lG (a1 a2:Option Addr) (n1 c1 n2 c2:Nat) (L1 L2:List ae) (w:World) (h1:au w a1 n1 c1 L1) (h2:au w a2 n2 c2 L2) :
 Calls Tryz.prog 99 #[.slice a1 n1 c1,.slice a2 n2 c2] w fun e w'=>e=.returned (.bool (decide (L1=L2)))∧Bl w w':=by
 have HN1:Hid (L1.length=n1):=h1.length;have HN2:Hid (L2.length=n2):=h2.length;have hr1:=h1.room;have hb1:=h1.big;have hr2:=h2.room;have hb2:=h2.big;unfold maxLen at hb1 hb2;have H1:=ar h1;have H2:=ar h2;clear h1 h2;by_cases hn:n1=n2
 · subst hn;go_enter Tryz.func99,Tryz.ntmps99
   go_wp2;go_loopw [13] (fun i wr=>∃k:Nat,k≤n1∧i=iT k∧Bl w wr∧L1.take k=L2.take k) (fun i _=>n1 - (intOf i).toNat)
   case atStart=>exact ⟨0,Nat.zero_le _,rfl,Below.refl _ _,rfl⟩
   case round =>
    obtain ⟨k,hk,rfl,hb,heq⟩:=hrel;have HEQ:Hid (L1.take k=L2.take k):=heq;clear heq;by_cases hlt:k<n1
    · obtain ⟨x1,o1,rfl,hx1⟩:=H1.out.form (by omega);obtain ⟨x2,o2,rfl,hx2⟩:=H2.out.form (by omega);obtain ⟨s,q,d,t,n,hg,_,g0,g1,g2,g3,g4⟩:=H1.out.ent hb hx1 k hlt;obtain ⟨s',q',d',t',n',hg',_,p0,p1,p2,p3,p4⟩:=H2.out.ent hb hx2 k hlt;have HG:Hid (L1[k]?=some (s,q,d,t,n)):=hg;have HG':Hid (L2[k]?=some (s',q',d',t',n')):=hg';have hltI:(k:Int)<(n1:Int):=by omega
      clear hg hg';by_cases hl:(s,q,d,t,n)=(s',q',d',t',n')
      · cases hl;have hne:=kG s t q d n;go_wp2_with fail
        go_quiet (fail)
        go_wp2;go_roundw
        case rel=>exact ⟨k+1,by omega,by go_num,below_drewN hb _,kR HG.out HG'.out HEQ.out⟩
        case measure=>simp [intOf];omega
      · have hne:=fun w=>kH s t q d n s' t' q' d' n' w hl
        have HD:Hid (¬(s,q,d,t,n)=(s',q',d',t',n')):=hl;clear hl;go_wp2_with fail
        go_quiet (fail)
        go_wp2;go_ret;refine ⟨aq (decide_eq_false ?_).symm,below_drewN hb _⟩;intro e;rw [e,HG'.out] at HG;exact HD.out (by simpa [Hid] using HG.symm)
    · go_wp2;go_ret;refine ⟨aq (decide_eq_true ?_).symm,hb⟩;have:=HEQ.out;rw [List.take_of_length_le (by rw [HN1.out];omega),List.take_of_length_le (by rw [HN2.out];omega)] at this;exact this
 · go_enter Tryz.func99,Tryz.ntmps99
   go_wp2;go_ret;refine ⟨aq (decide_eq_false ?_).symm,Below.refl _ _⟩;intro e;rw [e,HN2.out] at HN1;exact hn HN1.out.symm
def fu (i1:Int) (L1:List ae) (i2:Int) (L2:List ae):Bool:=decide (i1=i2) && decide (L1=L2)
set_option maxHeartbeats 400000 in
theorem lU (i1 i2:Int) (a1 a2:Option Addr) (n1 c1 n2 c2:Nat) (L1 L2:List ae) (w:World) (h1:au w a1 n1 c1 L1) (h2:au w a2 n2 c2 L2) :
 Calls Tryz.prog 106 #[.agg #[.slice a1 n1 c1,iT i1],.agg #[.slice a2 n2 c2,iT i2]] w fun e w'=>e=.returned (.bool (fu i1 L1 i2 L2))∧Bl w w':=by
 have hB:Bl w ((w.alloc (.cells #[.slice a1 n1 c1,iT i1] 122)).alloc (.cells #[.slice a2 n2 c2,iT i2] 122)):=bZ.alloc (by simp) _;by_cases hi:i1=i2
 · subst hi;go_enter Tryz.func106,Tryz.ntmps106
   go_wp2_with (go_at_call 99;refine (lG _ _ _ _ _ _ L1 L2 _ (h1.keep hB) (h2.keep hB)).mono ?_;rintro e w1 ⟨rfl,hb1⟩)
   go_ret;exact ⟨aq (by simp [fu]),hB.trans (hb1.mono (by simp;omega))⟩
 · have hd:(i1 == i2)=false:=by simpa using hi
   clear h1 h2;go_enter Tryz.func106,Tryz.ntmps106
   go_wp2;go_ret;exact ⟨aq (by simp [fu,hi]),hB⟩
end Go.Proofs.YtgpcinihgofmfaaGreatDoor

namespace Go.Proofs.YtgpcinihgofmfaaGreatDoor
open Go.RowKit
set_option maxHeartbeats 800000 in
theorem sH (a1 a2:Option Addr) (n1 c1 n2 c2:Nat) (L1 L2:List ae) (w:World) (h1:au w a1 n1 c1 L1) (h2:au w a2 n2 c2 L2) :
 Calls Tryz.prog 86 #[.slice a1 n1 c1,.slice a2 n2 c2] w fun e w'=>e=.returned (.bool (decide (L1=L2)))∧Bl w w':=by
 have HN1:Hid (L1.length=n1):=h1.length;have HN2:Hid (L2.length=n2):=h2.length;have hr1:=h1.room;have hb1:=h1.big;have hr2:=h2.room;have hb2:=h2.big;unfold maxLen at hb1 hb2;have H1:=ar h1;have H2:=ar h2;clear h1 h2;by_cases hn:n1=n2
 · subst hn;go_enter Tryz.func86,Tryz.ntmps86
   go_wp2;go_loopw [5] (fun i wr=>∃k:Nat,k≤n1∧i=iT k∧Bl w wr∧L1.take k=L2.take k) (fun i _=>n1 - (intOf i).toNat)
   case atStart=>exact ⟨0,Nat.zero_le _,rfl,Below.refl _ _,rfl⟩
   case round =>
    obtain ⟨k,hk,rfl,hb,heq⟩:=hrel;have HEQ:Hid (L1.take k=L2.take k):=heq;clear heq;by_cases hlt:k<n1
    · obtain ⟨x1,o1,rfl,hx1⟩:=H1.out.form (by omega);obtain ⟨x2,o2,rfl,hx2⟩:=H2.out.form (by omega);obtain ⟨s,q,d,t,n,hg,_,g0,g1,g2,g3,g4⟩:=H1.out.ent hb hx1 k hlt;obtain ⟨s',q',d',t',n',hg',_,p0,p1,p2,p3,p4⟩:=H2.out.ent hb hx2 k hlt;have HG:Hid (L1[k]?=some (s,q,d,t,n)):=hg;have HG':Hid (L2[k]?=some (s',q',d',t',n')):=hg';have hltI:(k:Int)<(n1:Int):=by omega
      clear hg hg';by_cases hl:(s,q,d,t,n)=(s',q',d',t',n')
      · cases hl;have hne:=kG s t q d n;go_wp2_with fail
        go_quiet (fail)
        go_wp2;go_roundw
        case rel=>exact ⟨k+1,by omega,by go_num,below_drewN hb _,kR HG.out HG'.out HEQ.out⟩
        case measure=>simp [intOf];omega
      · have hne:=fun w=>kH s t q d n s' t' q' d' n' w hl
        have HD:Hid (¬(s,q,d,t,n)=(s',q',d',t',n')):=hl;clear hl;go_wp2_with fail
        go_quiet (fail)
        go_wp2;go_ret;refine ⟨aq (decide_eq_false ?_).symm,below_drewN hb _⟩;intro e;rw [e,HG'.out] at HG;exact HD.out (by simpa [Hid] using HG.symm)
    · go_wp2;go_ret;refine ⟨aq (decide_eq_true ?_).symm,hb⟩;have:=HEQ.out;rw [List.take_of_length_le (by rw [HN1.out];omega),List.take_of_length_le (by rw [HN2.out];omega)] at this;exact this
 · go_enter Tryz.func86,Tryz.ntmps86
   go_wp2;go_ret;refine ⟨aq (decide_eq_false ?_).symm,Below.refl _ _⟩;intro e;rw [e,HN2.out] at HN1;exact hn HN1.out.symm
set_option maxHeartbeats 400000 in
theorem lM (i1 i2:Int) (a1 a2:Option Addr) (n1 c1 n2 c2:Nat) (L1 L2:List ae) (w:World) (h1:au w a1 n1 c1 L1) (h2:au w a2 n2 c2 L2) :
 Calls Tryz.prog 126 #[.agg #[.slice a1 n1 c1,iT i1],.agg #[.slice a2 n2 c2,iT i2]] w fun e w'=>e=.returned (.bool (fu i1 L1 i2 L2))∧Bl w w':=by
 have hB:Bl w ((w.alloc (.cells #[.slice a1 n1 c1,iT i1] 122)).alloc (.cells #[.slice a2 n2 c2,iT i2] 122)):=bZ.alloc (by simp) _;by_cases hi:i1=i2
 · subst hi;go_enter Tryz.func126,Tryz.ntmps126
   go_wp2_with (go_at_call 86;refine (sH _ _ _ _ _ _ L1 L2 _ (h1.keep hB) (h2.keep hB)).mono ?_;rintro e w1 ⟨rfl,hb1⟩)
   go_ret;exact ⟨aq (by simp [fu]),hB.trans (hb1.mono (by simp;omega))⟩
 · have hd:(i1 == i2)=false:=by simpa using hi
   clear h1 h2;go_enter Tryz.func126,Tryz.ntmps126
   go_wp2;go_ret;exact ⟨aq (by simp [fu,hi]),hB⟩
end Go.Proofs.YtgpcinihgofmfaaGreatDoor

namespace Go.Proofs.YtgpcinihgofmfaaGreatDoor
open Go.RowKit
instance decRun:DecidableEq aj:=instDecidableEqProd
theorem dS {α:Type} {B1 B2:List α} {k:Nat} {x y:α} (h1:B1[k]?=some x) (h2:B2[k]?=some y) (hs:x=y) (h:B1.take k=B2.take k):B1.take (k+1)=B2.take (k+1):=by
 subst hs;rw [List.take_add_one,List.take_add_one,h1,h2,h]
theorem fP {α:Type} {B1 B2:List α} {k:Nat} {x y:α} (h1:B1[k]?=some x) (h2:B2[k]?=some y) (hs:¬x=y):¬B1=B2:=by
 rintro rfl;rw [h1] at h2;cases h2;exact hs rfl
theorem f6 {m m':Int} {L L':List ae}:fu m L m' L'=decide (((L,m):aj)=(L',m')):=by
 unfold fu;by_cases h1:m=m' <;> by_cases h2:L=L' <;> simp [h1,h2]
set_option maxHeartbeats 1600000 in
theorem uU (lo1 lo2:Nat) (a1 a2:Option Addr) (n1 c1 n2 c2:Nat) (B1 B2:List aj) (w:World) (h1:aE lo1 w a1 n1 c1 B1) (h2:aE lo2 w a2 n2 c2 B2) :
 Calls Tryz.prog 105 #[.slice a1 n1 c1,.slice a2 n2 c2,.func (.func 106) #[] #[]] w fun e w'=>e=.returned (.bool (decide (B1=B2)))∧Bl w w':=by
 have HN1:Hid (B1.length=n1):=h1.length;have HN2:Hid (B2.length=n2):=h2.length;have hr1:=h1.room;have hb1:=h1.big;have hr2:=h2.room;have hb2:=h2.big;unfold maxLen at hb1 hb2;have H1:=ar h1;have H2:=ar h2;have eg:∀args w,(callFunc 106 args).run Tryz.prog w=.ok (.enter 106 args) w:=enters_of Tryz.func106 (by kernel_rfl) rfl;clear h1 h2;by_cases hn:n1=n2
 · subst hn;go_enter Tryz.func105,Tryz.ntmps105
   go_wp2;go_loopw [17] (fun i wr=>∃k:Nat,k≤n1∧i=iT k∧Bl w wr∧B1.take k=B2.take k) (fun i _=>n1 - (intOf i).toNat)
   case atStart=>exact ⟨0,Nat.zero_le _,rfl,Below.refl _ _,rfl⟩
   case round =>
    obtain ⟨k,hk,rfl,hb,heq⟩:=hrel;have HEQ:Hid (B1.take k=B2.take k):=heq;clear heq;by_cases hlt:k<n1
    · obtain ⟨x1,o1,rfl,hx1⟩:=H1.out.form (by omega);obtain ⟨x2,o2,rfl,hx2⟩:=H2.out.form (by omega);obtain ⟨L,m,s,n,c,hg,_,g0,g1,hL⟩:=H1.out.run hb k hlt;obtain ⟨L',m',s',n',c',hg',_,q0,q1,hL'⟩:=H2.out.run hb k hlt;have HG:Hid (B1[k]?=some (L,m)):=hg;have HG':Hid (B2[k]?=some (L',m')):=hg';have hltI:(k:Int)<(n1:Int):=by omega
      have y1:x1<wr.heap.size:=Nat.lt_of_lt_of_le hx1 hb.size;have y2:x2<wr.heap.size:=Nat.lt_of_lt_of_le hx2 hb.size;clear hg hg';have k2:Bl wr ((wr.alloc (.cells #[.slice s n c,iT m] 122)).alloc (.cells #[.slice s' n' c',iT m'] 122)):=bZ.alloc (by simp) _;obtain ⟨q,hq⟩:∃q,decide (((L,m):aj)=(L',m'))=q:=⟨_,rfl⟩;have HQ:Hid (decide (((L,m):aj)=(L',m'))=q):=hq;clear hq;cases q with
      | true =>
       go_wp2_with (go_at_fn 106;refine (lU _ _ _ _ _ _ _ _ L L' _ (hL.1.keep k2) (hL'.1.keep k2)).mono ?_;rw [f6,HQ.out];rintro e w1 ⟨rfl,hb1⟩)
       go_roundw
       case rel=>exact ⟨k+1,by omega,by go_num,hb.trans ((k2.trans (hb1.mono k2.size)).mono hb.size),dS HG.out HG'.out (of_decide_eq_true HQ.out) HEQ.out⟩
       case measure=>simp [intOf];omega
      | false =>
       go_wp2_with (go_at_fn 106;refine (lU _ _ _ _ _ _ _ _ L L' _ (hL.1.keep k2) (hL'.1.keep k2)).mono ?_;rw [f6,HQ.out];rintro e w1 ⟨rfl,hb1⟩)
       go_ret;exact ⟨aq (decide_eq_false (fP HG.out HG'.out (of_decide_eq_false HQ.out))).symm,hb.trans ((k2.trans (hb1.mono k2.size)).mono hb.size)⟩
    · go_wp2;go_ret;refine ⟨aq (decide_eq_true ?_).symm,hb⟩;have:=HEQ.out;rw [List.take_of_length_le (by rw [HN1.out];omega),List.take_of_length_le (by rw [HN2.out];omega)] at this;exact this
 · go_enter Tryz.func105,Tryz.ntmps105
   go_wp2;go_ret;refine ⟨aq (decide_eq_false ?_).symm,Below.refl _ _⟩;intro e;rw [e,HN2.out] at HN1;exact hn HN1.out.symm
set_option maxHeartbeats 400000 in
theorem iL (lo1 lo2:Nat) (a1 a2:Option Addr) (n1 c1 n2 c2:Nat) (B1 B2:List aj) (w:World) (h1:aE lo1 w a1 n1 c1 B1) (h2:aE lo2 w a2 n2 c2 B2) :
 Calls Tryz.prog 71 #[.slice a1 n1 c1,.slice a2 n2 c2] w fun e w'=>e=.returned (.bool (decide (B1=B2)))∧Bl w w':=by
 go_enter Tryz.func71,Tryz.ntmps71
 go_wp2_with (go_at_call 105;refine (uU lo1 lo2 _ _ _ _ _ _ B1 B2 _ h1 h2).mono ?_;rintro e w1 ⟨rfl,hb1⟩)
 go_ret;exact ⟨rfl,hb1⟩
set_option maxHeartbeats 1600000 in
theorem lR (lo1 lo2:Nat) (a1 a2:Option Addr) (n1 c1 n2 c2:Nat) (B1 B2:List (List aj)) (w:World) (h1:ay lo1 w a1 n1 c1 B1) (h2:ay lo2 w a2 n2 c2 B2) :
 Calls Tryz.prog 70 #[.slice a1 n1 c1,.slice a2 n2 c2,.func (.func 71) #[] #[]] w fun e w'=>e=.returned (.bool (decide (B1=B2)))∧Bl w w':=by
 have HN1:Hid (B1.length=n1):=h1.length;have HN2:Hid (B2.length=n2):=h2.length;have hr1:=h1.room;have hb1:=h1.big;have hr2:=h2.room;have hb2:=h2.big;unfold maxLen at hb1 hb2;have H1:=ar h1;have H2:=ar h2;have eg:∀args w,(callFunc 71 args).run Tryz.prog w=.ok (.enter 71 args) w:=enters_of Tryz.func71 (by kernel_rfl) rfl;clear h1 h2;by_cases hn:n1=n2
 · subst hn;go_enter Tryz.func70,Tryz.ntmps70
   go_wp2;go_loopw [17] (fun i wr=>∃k:Nat,k≤n1∧i=iT k∧Bl w wr∧B1.take k=B2.take k) (fun i _=>n1 - (intOf i).toNat)
   case atStart=>exact ⟨0,Nat.zero_le _,rfl,Below.refl _ _,rfl⟩
   case round =>
    obtain ⟨k,hk,rfl,hb,heq⟩:=hrel;have HEQ:Hid (B1.take k=B2.take k):=heq;clear heq;by_cases hlt:k<n1
    · obtain ⟨x1,o1,rfl,hx1⟩:=H1.out.form (by omega);obtain ⟨x2,o2,rfl,hx2⟩:=H2.out.form (by omega);obtain ⟨B,s,n,c,hg,g0,hL⟩:=H1.out.level hb k hlt;obtain ⟨B',s',n',c',hg',q0,hL'⟩:=H2.out.level hb k hlt;have HG:Hid (B1[k]?=some B):=hg;have HG':Hid (B2[k]?=some B'):=hg';have hltI:(k:Int)<(n1:Int):=by omega
      have y1:x1<wr.heap.size:=Nat.lt_of_lt_of_le hx1 hb.size;have y2:x2<wr.heap.size:=Nat.lt_of_lt_of_le hx2 hb.size;clear hg hg';obtain ⟨q,hq⟩:∃q,decide (B=B')=q:=⟨_,rfl⟩;have HQ:Hid (decide (B=B')=q):=hq;clear hq;cases q with
      | true =>
       go_wp2_with (go_at_fn 71;refine (iL lo1 lo2 _ _ _ _ _ _ B B' _ hL hL').mono ?_;rw [HQ.out];rintro e w1 ⟨rfl,hb1⟩)
       go_roundw
       case rel=>exact ⟨k+1,by omega,by go_num,hb.trans ((hb1).mono hb.size),dS HG.out HG'.out (of_decide_eq_true HQ.out) HEQ.out⟩
       case measure=>simp [intOf];omega
      | false =>
       go_wp2_with (go_at_fn 71;refine (iL lo1 lo2 _ _ _ _ _ _ B B' _ hL hL').mono ?_;rw [HQ.out];rintro e w1 ⟨rfl,hb1⟩)
       go_ret;exact ⟨aq (decide_eq_false (fP HG.out HG'.out (of_decide_eq_false HQ.out))).symm,hb.trans ((hb1).mono hb.size)⟩
    · go_wp2;go_ret;refine ⟨aq (decide_eq_true ?_).symm,hb⟩;have:=HEQ.out;rw [List.take_of_length_le (by rw [HN1.out];omega),List.take_of_length_le (by rw [HN2.out];omega)] at this;exact this
 · go_enter Tryz.func70,Tryz.ntmps70
   go_wp2;go_ret;refine ⟨aq (decide_eq_false ?_).symm,Below.refl _ _⟩;intro e;rw [e,HN2.out] at HN1;exact hn HN1.out.symm
set_option maxHeartbeats 1600000 in
theorem vy (lo1 lo2:Nat) (a1 a2:Option Addr) (n1 c1 n2 c2:Nat) (B1 B2:List Int) (w:World) (h1:bC lo1 w a1 n1 c1 B1) (h2:bC lo2 w a2 n2 c2 B2) :
 Calls Tryz.prog 100 #[.slice a1 n1 c1,.slice a2 n2 c2] w fun e w'=>e=.returned (.bool (decide (B1=B2)))∧Bl w w':=by
 have HN1:Hid (B1.length=n1):=h1.length;have HN2:Hid (B2.length=n2):=h2.length;have hr1:=h1.room;have hb1:=h1.big;have hr2:=h2.room;have hb2:=h2.big;unfold maxLen at hb1 hb2;have H1:=ar h1;have H2:=ar h2;clear h1 h2;by_cases hn:n1=n2
 · subst hn;go_enter Tryz.func100,Tryz.ntmps100
   go_wp2;go_loopw [13] (fun i wr=>∃k:Nat,k≤n1∧i=iT k∧Bl w wr∧B1.take k=B2.take k) (fun i _=>n1 - (intOf i).toNat)
   case atStart=>exact ⟨0,Nat.zero_le _,rfl,Below.refl _ _,rfl⟩
   case round =>
    obtain ⟨k,hk,rfl,hb,heq⟩:=hrel;have HEQ:Hid (B1.take k=B2.take k):=heq;clear heq;by_cases hlt:k<n1
    · obtain ⟨x1,o1,rfl,hx1⟩:=H1.out.form (by omega);obtain ⟨x2,o2,rfl,hx2⟩:=H2.out.form (by omega);obtain ⟨q,hg,_,g0⟩:=H1.out.num hb k hlt;obtain ⟨q',hg',_,q0⟩:=H2.out.num hb k hlt;have HG:Hid (B1[k]?=some q):=hg;have HG':Hid (B2[k]?=some q'):=hg';have hltI:(k:Int)<(n1:Int):=by omega
      have y1:x1<wr.heap.size:=Nat.lt_of_lt_of_le hx1 hb.size;have y2:x2<wr.heap.size:=Nat.lt_of_lt_of_le hx2 hb.size;clear hg hg';by_cases hq:q=q'
      · subst hq;go_wp2_with fail
        go_quiet (fail)
        go_wp2;go_roundw
        case rel=>exact ⟨k+1,by omega,by go_num,below_drewN hb _,dS HG.out HG'.out rfl HEQ.out⟩
        case measure=>simp [intOf];omega
      · have HQ:Hid (¬q=q'):=hq;have hd:(q == q')=false:=by simpa using hq
        go_wp2_with fail
        go_quiet (fail)
        go_wp2;go_ret;exact ⟨aq (decide_eq_false (fP HG.out HG'.out HQ.out)).symm,below_drewN hb _⟩
    · go_wp2;go_ret;refine ⟨aq (decide_eq_true ?_).symm,hb⟩;have:=HEQ.out;rw [List.take_of_length_le (by rw [HN1.out];omega),List.take_of_length_le (by rw [HN2.out];omega)] at this;exact this
 · go_enter Tryz.func100,Tryz.ntmps100
   go_wp2;go_ret;refine ⟨aq (decide_eq_false ?_).symm,Below.refl _ _⟩;intro e;rw [e,HN2.out] at HN1;exact hn HN1.out.symm
set_option maxHeartbeats 1600000 in
theorem xP (lo1 lo2:Nat) (a1 a2:Option Addr) (n1 c1 n2 c2:Nat) (B1 B2:List Int) (w:World) (h1:bC lo1 w a1 n1 c1 B1) (h2:bC lo2 w a2 n2 c2 B2) :
 Calls Tryz.prog 87 #[.slice a1 n1 c1,.slice a2 n2 c2] w fun e w'=>e=.returned (.bool (decide (B1=B2)))∧Bl w w':=by
 have HN1:Hid (B1.length=n1):=h1.length;have HN2:Hid (B2.length=n2):=h2.length;have hr1:=h1.room;have hb1:=h1.big;have hr2:=h2.room;have hb2:=h2.big;unfold maxLen at hb1 hb2;have H1:=ar h1;have H2:=ar h2;clear h1 h2;by_cases hn:n1=n2
 · subst hn;go_enter Tryz.func87,Tryz.ntmps87
   go_wp2;go_loopw [5] (fun i wr=>∃k:Nat,k≤n1∧i=iT k∧Bl w wr∧B1.take k=B2.take k) (fun i _=>n1 - (intOf i).toNat)
   case atStart=>exact ⟨0,Nat.zero_le _,rfl,Below.refl _ _,rfl⟩
   case round =>
    obtain ⟨k,hk,rfl,hb,heq⟩:=hrel;have HEQ:Hid (B1.take k=B2.take k):=heq;clear heq;by_cases hlt:k<n1
    · obtain ⟨x1,o1,rfl,hx1⟩:=H1.out.form (by omega);obtain ⟨x2,o2,rfl,hx2⟩:=H2.out.form (by omega);obtain ⟨q,hg,_,g0⟩:=H1.out.num hb k hlt;obtain ⟨q',hg',_,q0⟩:=H2.out.num hb k hlt;have HG:Hid (B1[k]?=some q):=hg;have HG':Hid (B2[k]?=some q'):=hg';have hltI:(k:Int)<(n1:Int):=by omega
      have y1:x1<wr.heap.size:=Nat.lt_of_lt_of_le hx1 hb.size;have y2:x2<wr.heap.size:=Nat.lt_of_lt_of_le hx2 hb.size;clear hg hg';by_cases hq:q=q'
      · subst hq;go_wp2_with fail
        go_quiet (fail)
        go_wp2;go_roundw
        case rel=>exact ⟨k+1,by omega,by go_num,below_drewN hb _,dS HG.out HG'.out rfl HEQ.out⟩
        case measure=>simp [intOf];omega
      · have HQ:Hid (¬q=q'):=hq;have hd:(q == q')=false:=by simpa using hq
        go_wp2_with fail
        go_quiet (fail)
        go_wp2;go_ret;exact ⟨aq (decide_eq_false (fP HG.out HG'.out HQ.out)).symm,below_drewN hb _⟩
    · go_wp2;go_ret;refine ⟨aq (decide_eq_true ?_).symm,hb⟩;have:=HEQ.out;rw [List.take_of_length_le (by rw [HN1.out];omega),List.take_of_length_le (by rw [HN2.out];omega)] at this;exact this
 · go_enter Tryz.func87,Tryz.ntmps87
   go_wp2;go_ret;refine ⟨aq (decide_eq_false ?_).symm,Below.refl _ _⟩;intro e;rw [e,HN2.out] at HN1;exact hn HN1.out.symm
end Go.Proofs.YtgpcinihgofmfaaGreatDoor

namespace Go.Proofs.YtgpcinihgofmfaaGreatDoor
open Go.RowKit
set_option maxHeartbeats 3200000 in
theorem mK (lo1 lo2:Nat) (a1 a2:Option Addr) (n1 c1 n2 c2:Nat) (B1 B2:List (List aj)) (w:World) (h1:ay lo1 w a1 n1 c1 B1) (h2:ay lo2 w a2 n2 c2 B2) :
 Calls Tryz.prog 85 #[.slice a1 n1 c1,.slice a2 n2 c2] w fun e w'=>e=.returned (.bool (decide (B1=B2)))∧Bl w w':=by
 have HN1:Hid (B1.length=n1):=h1.length;have HN2:Hid (B2.length=n2):=h2.length;have hr1:=h1.room;have hb1:=h1.big;have hr2:=h2.room;have hb2:=h2.big;unfold maxLen at hb1 hb2;have H1:=ar h1;have H2:=ar h2;clear h1 h2;by_cases hn:n1=n2
 · subst hn;go_enter Tryz.func85,Tryz.ntmps85
   go_wp2;go_loopw [5] (fun i wr=>∃k:Nat,k≤n1∧i=iT k∧Bl w wr∧B1.take k=B2.take k) (fun i _=>n1 - (intOf i).toNat)
   case atStart=>exact ⟨0,Nat.zero_le _,rfl,Below.refl _ _,rfl⟩
   case round =>
    obtain ⟨k,hk,rfl,hb,heq⟩:=hrel;have HEQ:Hid (B1.take k=B2.take k):=heq;clear heq;by_cases hlt:k<n1
    · obtain ⟨x1,o1,rfl,hx1⟩:=H1.out.form (by omega);obtain ⟨x2,o2,rfl,hx2⟩:=H2.out.form (by omega);obtain ⟨B,s,n,c,hg,g0,hL⟩:=H1.out.level hb k hlt;obtain ⟨B',s',n',c',hg',q0,hL'⟩:=H2.out.level hb k hlt;have HG:Hid (B1[k]?=some B):=hg;have HG':Hid (B2[k]?=some B'):=hg';have hltI:(k:Int)<(n1:Int):=by omega
      have y1:x1<wr.heap.size:=Nat.lt_of_lt_of_le hx1 hb.size;have y2:x2<wr.heap.size:=Nat.lt_of_lt_of_le hx2 hb.size;have rn:=hL.room;have rb:=hL.big;have rn':=hL'.room;have rb':=hL'.big;unfold maxLen at rb rb';have HLN:Hid (B.length=n):=hL.length;have HLN':Hid (B'.length=n'):=hL'.length;have HL:Hid (aE lo1 wr s n c B):=hL;have HL':Hid (aE lo2 wr s' n' c' B'):=hL';clear hg hg' hL hL';by_cases hnn:n=n'
      · subst hnn;go_wp2_with fail
        go_quiet (fail)
        go_wp2;go_loopw [6] (fun i wq=>∃j:Nat,j≤n∧i=iT j∧Bl wr wq∧B.take j=B'.take j) (fun i _=>n - (intOf i).toNat)
        case atStart=>exact ⟨0,Nat.zero_le _,rfl,below_drewN (Below.refl _ _) _,rfl⟩
        case round =>
         obtain ⟨j,hj,rfl,hbq,heqj⟩:=hrel;have HEQJ:Hid (B.take j=B'.take j):=heqj;clear heqj;have g0:=cell_later hbq g0;have q0:=cell_later hbq q0;have y1:x1<wr.heap.size:=Nat.lt_of_lt_of_le y1 hbq.size;have y2:x2<wr.heap.size:=Nat.lt_of_lt_of_le y2 hbq.size;by_cases hjt:j<n
         · obtain ⟨u1,p1,rfl,hu1⟩:=HL.out.form (by omega);obtain ⟨u2,p2,rfl,hu2⟩:=HL'.out.form (by omega);obtain ⟨L,m,t,e,d,hG,_,r0,r1,hE⟩:=HL.out.run hbq j hjt;obtain ⟨L',m',t',e',d',hG',_,r0',r1',hE'⟩:=HL'.out.run hbq j hjt;have HGG:Hid (B[j]?=some (L,m)):=hG;have HGG':Hid (B'[j]?=some (L',m')):=hG';have hjtI:(j:Int)<(n:Int):=by omega
           have z1:u1<wr.heap.size:=Nat.lt_of_lt_of_le hu1 hbq.size;have z2:u2<wr.heap.size:=Nat.lt_of_lt_of_le hu2 hbq.size;have lk:=hE.1.keep ((Below.refl _ wr).drew);have lk':=hE'.1.keep ((Below.refl _ wr).drew);clear hG hG' hE hE';obtain ⟨q,hq⟩:∃q,decide (((L,m):aj)=(L',m'))=q:=⟨_,rfl⟩;have HQ:Hid (decide (((L,m):aj)=(L',m'))=q):=hq;clear hq;cases q with
           | true =>
            go_wp2_with fail
            go_region_with (go_at_call 126;refine (lM _ _ _ _ _ _ _ _ L L' _ lk lk').mono ?_;rw [f6,HQ.out];rintro e w1 ⟨rfl,hb1⟩)
            all_goals
             go_wp2;go_roundw
             case rel=>exact ⟨j+1,by omega,by go_num,hbq.drew.trans (hb1.mono hbq.size),dS HGG.out HGG'.out (of_decide_eq_true HQ.out) HEQJ.out⟩
             case measure=>simp [intOf];omega
           | false =>
            go_wp2_with fail
            go_region_with (go_at_call 126;refine (lM _ _ _ _ _ _ _ _ L L' _ lk lk').mono ?_;rw [f6,HQ.out];rintro e w1 ⟨rfl,hb1⟩)
            all_goals
             go_wp2;go_ret;exact ⟨aq (decide_eq_false (fP HG.out HG'.out (fP HGG.out HGG'.out (of_decide_eq_false HQ.out)))).symm,hb.trans ((hbq.drew.trans (hb1.mono hbq.size)).mono hb.size)⟩
         · have hjtI:¬(j:Int)<(n:Int):=by omega
           have HBB:Hid (B=B'):=by
            have:=HEQJ.out;rw [List.take_of_length_le (by rw [HLN.out];omega),List.take_of_length_le (by rw [HLN'.out];omega)] at this;exact this
           go_wp2;go_roundw
           case rel=>exact ⟨k+1,by omega,by go_num,hb.trans (hbq.mono hb.size),dS HG.out HG'.out HBB.out HEQ.out⟩
           case measure=>simp [intOf];omega
      · have HBB:Hid (¬B=B'):=fun e=>hnn (by rw [← HLN.out,← HLN'.out,e])
        go_wp2_with fail
        go_quiet (fail)
        go_wp2;go_ret;exact ⟨aq (decide_eq_false (fP HG.out HG'.out HBB.out)).symm,below_drewN hb _⟩
    · go_wp2;go_ret;refine ⟨aq (decide_eq_true ?_).symm,hb⟩;have:=HEQ.out;rw [List.take_of_length_le (by rw [HN1.out];omega),List.take_of_length_le (by rw [HN2.out];omega)] at this;exact this
 · go_enter Tryz.func85,Tryz.ntmps85
   go_wp2;go_ret;refine ⟨aq (decide_eq_false ?_).symm,Below.refl _ _⟩;intro e;rw [e,HN2.out] at HN1;exact hn HN1.out.symm
def eH (q:Int) (M:List ae) (V:List (List aj)) (S:List Int) (q':Int) (M':List ae) (V':List (List aj)) (S':List Int):Bool:=decide (q=q') && (decide (M=M') && (decide (V=V') && decide (S=S')))
set_option maxHeartbeats 1600000 in
theorem pI (q q':Int) (lo1 lo2:Nat) (am av ak:Option Addr) (nm cm nv cv ns cs:Nat) (am' av' ak':Option Addr) (nm' cm' nv' cv' ns' cs':Nat) (M:List ae) (V:List (List aj)) (S:List Int) (M':List ae) (V':List (List aj)) (S':List Int) (w:World) (h1:aW lo1 w am nm cm av nv cv ak ns cs M V S) (h2:aW lo2 w am' nm' cm' av' nv' cv' ak' ns' cs' M' V' S') :
 Calls Tryz.prog 43 #[.agg #[iT q,.slice am nm cm,.slice av nv cv,.slice ak ns cs],.agg #[iT q',.slice am' nm' cm',.slice av' nv' cv',.slice ak' ns' cs']] w fun e w'=>e=.returned (.bool (eH q M V S q' M' V' S'))∧Bl w w':=by
 obtain ⟨W,hW⟩:=aw ((w.alloc (.cells #[iT q,.slice am nm cm,.slice av nv cv,.slice ak ns cs] 35)).alloc (.cells #[iT q',.slice am' nm' cm',.slice av' nv' cv',.slice ak' ns' cs'] 35));have hB:Bl w W:=by rw [hW];exact bZ.alloc (by simp) _
 have x2:W.cell? ⟨w.heap.size,2,none⟩=some (.slice av nv cv):=by rw [hW];simp
 have x3:W.cell? ⟨w.heap.size,3,none⟩=some (.slice ak ns cs):=by rw [hW];simp
 have y2:W.cell? ⟨w.heap.size+1,2,none⟩=some (.slice av' nv' cv'):=by rw [hW];simp
 have y3:W.cell? ⟨w.heap.size+1,3,none⟩=some (.slice ak' ns' cs'):=by rw [hW];simp
 have H1:Hid (aW lo1 W am nm cm av nv cv ak ns cs M V S):=h1.keep hB;have H2:Hid (aW lo2 W am' nm' cm' av' nv' cv' ak' ns' cs' M' V' S'):=h2.keep hB;have HB:Hid (Bl w W):=hB;clear h1 h2 hB;obtain ⟨bM,hM⟩:∃b,decide (M=M')=b:=⟨_,rfl⟩;obtain ⟨bV,hV⟩:∃b,decide (V=V')=b:=⟨_,rfl⟩;obtain ⟨bS,hS⟩:∃b,decide (S=S')=b:=⟨_,rfl⟩;have CM:Hid (∀w',Bl W w'→Calls Tryz.prog 86 #[.slice am nm cm,.slice am' nm' cm'] w' fun e w''=>e=.returned (.bool bM)∧Bl w' w''):=by rw [← hM];exact fun w' k=>sH _ _ _ _ _ _ M M' w' (H1.out.keep k).mem.1 (H2.out.keep k).mem.1
 have CV:Hid (∀w',Bl W w'→Calls Tryz.prog 85 #[.slice av nv cv,.slice av' nv' cv'] w' fun e w''=>e=.returned (.bool bV)∧Bl w' w''):=by rw [← hV];exact fun w' k=>mK lo1 lo2 _ _ _ _ _ _ V V' w' (H1.out.keep k).levels (H2.out.keep k).levels
 have CS:Hid (∀w',Bl W w'→Calls Tryz.prog 87 #[.slice ak ns cs,.slice ak' ns' cs'] w' fun e w''=>e=.returned (.bool bS)∧Bl w' w''):=by rw [← hS];exact fun w' k=>xP lo1 lo2 _ _ _ _ _ _ S S' w' (H1.out.keep k).snaps (H2.out.keep k).snaps
 have HR:Hid (eH q M V S q' M' V' S'=(decide (q=q') && (bM && (bV && bS)))):=by rw [← hM,← hV,← hS];rfl
 rw [HR.out];clear hM hV hS H1 H2 HR;by_cases hq:q=q'
 · subst hq;go_enter Tryz.func43,Tryz.ntmps43
   go_wp2_with fail
   rw [← hW];clear hW;refine (CM.out _ (Below.refl _ _)).mono ?_;rintro e w1 ⟨rfl,hb1⟩;have x2:=cell_later hb1 x2;have x3:=cell_later hb1 x3;have y2:=cell_later hb1 y2;have y3:=cell_later hb1 y3;have z1:=World.block_lt_of_cell? _ _ x2;have z2:=World.block_lt_of_cell? _ _ y2;simp only at z1 z2;have K1:Hid (Bl W w1):=hb1;clear hb1;cases bM with
   | false =>
    go_wp2;go_ret;exact ⟨aq (by simp),HB.out.trans (K1.out.mono HB.out.size)⟩
   | true =>
    go_wp2_with fail
    refine (CV.out _ K1.out).mono ?_;rintro e w2 ⟨rfl,hb2⟩;have x3:=cell_later hb2 x3;have y3:=cell_later hb2 y3;have z1:=World.block_lt_of_cell? _ _ x3;have z2:=World.block_lt_of_cell? _ _ y3;simp only at z1 z2;have K2:Hid (Bl W w2):=K1.out.trans (hb2.mono K1.out.size);clear hb2 K1;cases bV with
    | false =>
     go_wp2;go_ret;exact ⟨aq (by simp),HB.out.trans (K2.out.mono HB.out.size)⟩
    | true =>
     go_wp2_with fail
     refine (CS.out _ K2.out).mono ?_;rintro e w3 ⟨rfl,hb3⟩;have K3:Hid (Bl W w3):=K2.out.trans (hb3.mono K2.out.size);clear hb3 K2;go_wp2;go_ret;exact ⟨aq (by simp),HB.out.trans (K3.out.mono HB.out.size)⟩
 · have hd:(q == q')=false:=by simpa using hq
   have HQ:Hid (¬q=q'):=hq;clear hq CM CV CS x2 x3 y2 y3;go_enter Tryz.func43,Tryz.ntmps43
   go_wp2;go_ret;rw [← hW];exact ⟨aq (by simp [HQ.out]),HB.out⟩
set_option maxHeartbeats 1600000 in
theorem qf (q q':Int) (lo1 lo2:Nat) (am av ak:Option Addr) (nm cm nv cv ns cs:Nat) (am' av' ak':Option Addr) (nm' cm' nv' cv' ns' cs':Nat) (M:List ae) (V:List (List aj)) (S:List Int) (M':List ae) (V':List (List aj)) (S':List Int) (w:World) (h1:aW lo1 w am nm cm av nv cv ak ns cs M V S) (h2:aW lo2 w am' nm' cm' av' nv' cv' ak' ns' cs' M' V' S') :
 Calls Tryz.prog 67 #[.agg #[iT q,.slice am nm cm,.slice av nv cv,.slice ak ns cs],.agg #[iT q',.slice am' nm' cm',.slice av' nv' cv',.slice ak' ns' cs']] w fun e w'=>e=.returned (.bool (eH q M V S q' M' V' S'))∧Bl w w':=by
 obtain ⟨W,hW⟩:=aw ((w.alloc (.cells #[iT q,.slice am nm cm,.slice av nv cv,.slice ak ns cs] 35)).alloc (.cells #[iT q',.slice am' nm' cm',.slice av' nv' cv',.slice ak' ns' cs'] 35));have hB:Bl w W:=by rw [hW];exact bZ.alloc (by simp) _
 have x2:W.cell? ⟨w.heap.size,2,none⟩=some (.slice av nv cv):=by rw [hW];simp
 have x3:W.cell? ⟨w.heap.size,3,none⟩=some (.slice ak ns cs):=by rw [hW];simp
 have y2:W.cell? ⟨w.heap.size+1,2,none⟩=some (.slice av' nv' cv'):=by rw [hW];simp
 have y3:W.cell? ⟨w.heap.size+1,3,none⟩=some (.slice ak' ns' cs'):=by rw [hW];simp
 have H1:Hid (aW lo1 W am nm cm av nv cv ak ns cs M V S):=h1.keep hB;have H2:Hid (aW lo2 W am' nm' cm' av' nv' cv' ak' ns' cs' M' V' S'):=h2.keep hB;have HB:Hid (Bl w W):=hB;clear h1 h2 hB;obtain ⟨bM,hM⟩:∃b,decide (M=M')=b:=⟨_,rfl⟩;obtain ⟨bV,hV⟩:∃b,decide (V=V')=b:=⟨_,rfl⟩;obtain ⟨bS,hS⟩:∃b,decide (S=S')=b:=⟨_,rfl⟩;have CM:Hid (∀w',Bl W w'→Calls Tryz.prog 99 #[.slice am nm cm,.slice am' nm' cm'] w' fun e w''=>e=.returned (.bool bM)∧Bl w' w''):=by rw [← hM];exact fun w' k=>lG _ _ _ _ _ _ M M' w' (H1.out.keep k).mem.1 (H2.out.keep k).mem.1
 have CV:Hid (∀w',Bl W w'→Calls Tryz.prog 70 #[.slice av nv cv,.slice av' nv' cv',.func (.func 71) #[] #[]] w' fun e w''=>e=.returned (.bool bV)∧Bl w' w''):=by rw [← hV];exact fun w' k=>lR lo1 lo2 _ _ _ _ _ _ V V' w' (H1.out.keep k).levels (H2.out.keep k).levels
 have CS:Hid (∀w',Bl W w'→Calls Tryz.prog 100 #[.slice ak ns cs,.slice ak' ns' cs'] w' fun e w''=>e=.returned (.bool bS)∧Bl w' w''):=by rw [← hS];exact fun w' k=>vy lo1 lo2 _ _ _ _ _ _ S S' w' (H1.out.keep k).snaps (H2.out.keep k).snaps
 have HR:Hid (eH q M V S q' M' V' S'=(decide (q=q') && (bM && (bV && bS)))):=by rw [← hM,← hV,← hS];rfl
 rw [HR.out];clear hM hV hS H1 H2 HR;by_cases hq:q=q'
 · subst hq;go_enter Tryz.func67,Tryz.ntmps67
   go_wp2_with fail
   rw [← hW];clear hW;refine (CM.out _ (Below.refl _ _)).mono ?_;rintro e w1 ⟨rfl,hb1⟩;have x2:=cell_later hb1 x2;have x3:=cell_later hb1 x3;have y2:=cell_later hb1 y2;have y3:=cell_later hb1 y3;have z1:=World.block_lt_of_cell? _ _ x2;have z2:=World.block_lt_of_cell? _ _ y2;simp only at z1 z2;have K1:Hid (Bl W w1):=hb1;clear hb1;cases bM with
   | false =>
    go_wp2;go_ret;exact ⟨aq (by simp),HB.out.trans (K1.out.mono HB.out.size)⟩
   | true =>
    go_wp2_with fail
    refine (CV.out _ K1.out).mono ?_;rintro e w2 ⟨rfl,hb2⟩;have x3:=cell_later hb2 x3;have y3:=cell_later hb2 y3;have z1:=World.block_lt_of_cell? _ _ x3;have z2:=World.block_lt_of_cell? _ _ y3;simp only at z1 z2;have K2:Hid (Bl W w2):=K1.out.trans (hb2.mono K1.out.size);clear hb2 K1;cases bV with
    | false =>
     go_wp2;go_ret;exact ⟨aq (by simp),HB.out.trans (K2.out.mono HB.out.size)⟩
    | true =>
     go_wp2_with fail
     refine (CS.out _ K2.out).mono ?_;rintro e w3 ⟨rfl,hb3⟩;have K3:Hid (Bl W w3):=K2.out.trans (hb3.mono K2.out.size);clear hb3 K2;go_wp2;go_ret;exact ⟨aq (by simp),HB.out.trans (K3.out.mono HB.out.size)⟩
 · have hd:(q == q')=false:=by simpa using hq
   have HQ:Hid (¬q=q'):=hq;clear hq CM CV CS x2 x3 y2 y3;go_enter Tryz.func67,Tryz.ntmps67
   go_wp2;go_ret;rw [← hW];exact ⟨aq (by simp [HQ.out]),HB.out⟩
end Go.Proofs.YtgpcinihgofmfaaGreatDoor
