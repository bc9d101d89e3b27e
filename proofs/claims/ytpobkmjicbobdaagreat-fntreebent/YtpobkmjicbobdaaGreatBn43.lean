/- Walks. -/
import Derived.Test.YtpobkmjicbobdaaGreatBn42
import Derived.Shelf.GgClosure.Gives
namespace Go.Proofs.YtpobkmjicbobdaaGreat
set_option maxRecDepth 100000
set_option maxHeartbeats 40000000
open Go.RowKit
variable {k:Nat}
theorem qP (a1 a2:Option Addr) (n1 c1 n2 c2:Nat) (L1 L2:List ac) (w:World) (h1:aj w a1 n1 c1 L1) (h2:aj w a2 n2 c2 L2) :
 Calls Tryz.prog 79 #[.slice a1 n1 c1,.slice a2 n2 c2] w fun e w'=>e=.returned (.bool (decide (L1=L2)))∧Bl w w':=by
 have HN1:Hid (L1.length=n1):=h1.length;have HN2:Hid (L2.length=n2):=h2.length;have hr1:=h1.room;have hb1:=h1.big;have hr2:=h2.room;have hb2:=h2.big;unfold maxLen at hb1 hb2;have H1:=b6 h1;have H2:=b6 h2;clear h1 h2;by_cases hn:n1=n2
 · subst hn;go_enter Tryz.func79,Tryz.ntmps79
   go_wp2;go_loopw [13] (fun i wr=>∃k:Nat,k≤n1∧i=iT k∧Bl w wr∧L1.take k=L2.take k) (fun i _=>n1 - (intOf i).toNat)
   case atStart=>exact ⟨0,Nat.zero_le _,rfl,Below.refl _ _,rfl⟩
   case round =>
    obtain ⟨k,hk,rfl,hb,heq⟩:=hrel;have HEQ:Hid (L1.take k=L2.take k):=heq;clear heq;by_cases hlt:k<n1
    · obtain ⟨x1,o1,rfl,hx1⟩:=H1.out.form (by omega);obtain ⟨x2,o2,rfl,hx2⟩:=H2.out.form (by omega);obtain ⟨s,q,d,t,n,hg,_,g0,g1,g2,g3,g4⟩:=H1.out.ent hb hx1 k hlt;obtain ⟨s',q',d',t',n',hg',_,p0,p1,p2,p3,p4⟩:=H2.out.ent hb hx2 k hlt;have HG:Hid (L1[k]?=some (s,q,d,t,n)):=hg;have HG':Hid (L2[k]?=some (s',q',d',t',n')):=hg';have hltI:(k:Int)<(n1:Int):=by omega
      clear hg hg';by_cases hl:(s,q,d,t,n)=(s',q',d',t',n')
      · cases hl;have hne:=lh s t q d n;go_wp2_with fail
        go_quiet (fail)
        go_wp2;go_roundw
        case rel=>exact ⟨k+1,by omega,by go_num,below_drewN hb _,ls HG.out HG'.out HEQ.out⟩
        case measure=>simp [intOf];omega
      · have hne:=fun w=>li s t q d n s' t' q' d' n' w hl
        have HD:Hid (¬(s,q,d,t,n)=(s',q',d',t',n')):=hl;clear hl;go_wp2_with fail
        go_quiet (fail)
        go_wp2;go_ret;refine ⟨af (decide_eq_false ?_).symm,below_drewN hb _⟩;intro e;rw [e,HG'.out] at HG;exact HD.out (by simpa [Hid] using HG.symm)
    · go_wp2;go_ret;refine ⟨af (decide_eq_true ?_).symm,hb⟩;have:=HEQ.out;rw [List.take_of_length_le (by rw [HN1.out];omega),List.take_of_length_le (by rw [HN2.out];omega)] at this;exact this
 · go_enter Tryz.func79,Tryz.ntmps79
   go_wp2;go_ret;refine ⟨af (decide_eq_false ?_).symm,Below.refl _ _⟩;intro e;rw [e,HN2.out] at HN1;exact hn HN1.out.symm
def fF (i1:Int) (L1:List ac) (i2:Int) (L2:List ac):Bool:=decide (i1=i2) && decide (L1=L2)
theorem mO (i1 i2:Int) (a1 a2:Option Addr) (n1 c1 n2 c2:Nat) (L1 L2:List ac) (w:World) (h1:aj w a1 n1 c1 L1) (h2:aj w a2 n2 c2 L2) :
 Calls Tryz.prog 140 #[.agg #[.slice a1 n1 c1,iT i1],.agg #[.slice a2 n2 c2,iT i2]] w fun e w'=>e=.returned (.bool (fF i1 L1 i2 L2))∧Bl w w':=by
 have hB:Bl w ((w.alloc (.cells #[.slice a1 n1 c1,iT i1] 63)).alloc (.cells #[.slice a2 n2 c2,iT i2] 63)):=bZ.alloc (by simp) _;by_cases hi:i1=i2
 · subst hi;go_enter Tryz.func140,Tryz.ntmps140
   go_wp2_with (go_at_call 79;refine (qP _ _ _ _ _ _ L1 L2 _ (h1.keep hB) (h2.keep hB)).mono ?_;rintro e w1 ⟨rfl,hb1⟩)
   go_ret;exact ⟨af (by simp [fF]),hB.trans (hb1.mono (by simp;omega))⟩
 · have hd:(i1 == i2)=false:=by simpa using hi
   clear h1 h2;go_enter Tryz.func140,Tryz.ntmps140
   go_wp2;go_ret;exact ⟨af (by simp [fF,hi]),hB⟩
theorem yE (a1 a2:Option Addr) (n1 c1 n2 c2:Nat) (L1 L2:List ac) (w:World) (h1:aj w a1 n1 c1 L1) (h2:aj w a2 n2 c2 L2) :
 Calls Tryz.prog 83 #[.slice a1 n1 c1,.slice a2 n2 c2] w fun e w'=>e=.returned (.bool (decide (L1=L2)))∧Bl w w':=by
 have HN1:Hid (L1.length=n1):=h1.length;have HN2:Hid (L2.length=n2):=h2.length;have hr1:=h1.room;have hb1:=h1.big;have hr2:=h2.room;have hb2:=h2.big;unfold maxLen at hb1 hb2;have H1:=b6 h1;have H2:=b6 h2;clear h1 h2;by_cases hn:n1=n2
 · subst hn;go_enter Tryz.func83,Tryz.ntmps83
   go_wp2;go_loopw [5] (fun i wr=>∃k:Nat,k≤n1∧i=iT k∧Bl w wr∧L1.take k=L2.take k) (fun i _=>n1 - (intOf i).toNat)
   case atStart=>exact ⟨0,Nat.zero_le _,rfl,Below.refl _ _,rfl⟩
   case round =>
    obtain ⟨k,hk,rfl,hb,heq⟩:=hrel;have HEQ:Hid (L1.take k=L2.take k):=heq;clear heq;by_cases hlt:k<n1
    · obtain ⟨x1,o1,rfl,hx1⟩:=H1.out.form (by omega);obtain ⟨x2,o2,rfl,hx2⟩:=H2.out.form (by omega);obtain ⟨s,q,d,t,n,hg,_,g0,g1,g2,g3,g4⟩:=H1.out.ent hb hx1 k hlt;obtain ⟨s',q',d',t',n',hg',_,p0,p1,p2,p3,p4⟩:=H2.out.ent hb hx2 k hlt;have HG:Hid (L1[k]?=some (s,q,d,t,n)):=hg;have HG':Hid (L2[k]?=some (s',q',d',t',n')):=hg';have hltI:(k:Int)<(n1:Int):=by omega
      clear hg hg';by_cases hl:(s,q,d,t,n)=(s',q',d',t',n')
      · cases hl;have hne:=lh s t q d n;go_wp2_with fail
        go_quiet (fail)
        go_wp2;go_roundw
        case rel=>exact ⟨k+1,by omega,by go_num,below_drewN hb _,ls HG.out HG'.out HEQ.out⟩
        case measure=>simp [intOf];omega
      · have hne:=fun w=>li s t q d n s' t' q' d' n' w hl
        have HD:Hid (¬(s,q,d,t,n)=(s',q',d',t',n')):=hl;clear hl;go_wp2_with fail
        go_quiet (fail)
        go_wp2;go_ret;refine ⟨af (decide_eq_false ?_).symm,below_drewN hb _⟩;intro e;rw [e,HG'.out] at HG;exact HD.out (by simpa [Hid] using HG.symm)
    · go_wp2;go_ret;refine ⟨af (decide_eq_true ?_).symm,hb⟩;have:=HEQ.out;rw [List.take_of_length_le (by rw [HN1.out];omega),List.take_of_length_le (by rw [HN2.out];omega)] at this;exact this
 · go_enter Tryz.func83,Tryz.ntmps83
   go_wp2;go_ret;refine ⟨af (decide_eq_false ?_).symm,Below.refl _ _⟩;intro e;rw [e,HN2.out] at HN1;exact hn HN1.out.symm
theorem mC (i1 i2:Int) (a1 a2:Option Addr) (n1 c1 n2 c2:Nat) (L1 L2:List ac) (w:World) (h1:aj w a1 n1 c1 L1) (h2:aj w a2 n2 c2 L2) :
 Calls Tryz.prog 141 #[.agg #[.slice a1 n1 c1,iT i1],.agg #[.slice a2 n2 c2,iT i2]] w fun e w'=>e=.returned (.bool (fF i1 L1 i2 L2))∧Bl w w':=by
 have hB:Bl w ((w.alloc (.cells #[.slice a1 n1 c1,iT i1] 63)).alloc (.cells #[.slice a2 n2 c2,iT i2] 63)):=bZ.alloc (by simp) _;by_cases hi:i1=i2
 · subst hi;go_enter Tryz.func141,Tryz.ntmps141
   go_wp2_with (go_at_call 83;refine (yE _ _ _ _ _ _ L1 L2 _ (h1.keep hB) (h2.keep hB)).mono ?_;rintro e w1 ⟨rfl,hb1⟩)
   go_ret;exact ⟨af (by simp [fF]),hB.trans (hb1.mono (by simp;omega))⟩
 · have hd:(i1 == i2)=false:=by simpa using hi
   clear h1 h2;go_enter Tryz.func141,Tryz.ntmps141
   go_wp2;go_ret;exact ⟨af (by simp [fF,hi]),hB⟩
instance decRun:DecidableEq ag:=instDecidableEqProd
theorem eK {α:Type} {B1 B2:List α} {x y:α} (h1:B1[k]?=some x) (h2:B2[k]?=some y) (hs:x=y) (h:B1.take k=B2.take k):B1.take (k+1)=B2.take (k+1):=by
 subst hs;rw [List.take_add_one,List.take_add_one,h1,h2,h]
theorem f9 {α:Type} {B1 B2:List α} {x y:α} (h1:B1[k]?=some x) (h2:B2[k]?=some y) (hs:¬x=y):¬B1=B2:=by
 rintro rfl;rw [h1] at h2;cases h2;exact hs rfl
theorem gK {m m':Int} {L L':List ac}:fF m L m' L'=decide (((L,m):ag)=(L',m')):=by
 unfold fF;by_cases h1:m=m' <;> by_cases h2:L=L' <;> simp [h1,h2]
theorem wJ (lo1 lo2:Nat) (a1 a2:Option Addr) (n1 c1 n2 c2:Nat) (B1 B2:List ag) (w:World) (h1:az lo1 w a1 n1 c1 B1) (h2:az lo2 w a2 n2 c2 B2) :
 Calls Tryz.prog 139 #[.slice a1 n1 c1,.slice a2 n2 c2,.func (.func 140) #[] #[]] w fun e w'=>e=.returned (.bool (decide (B1=B2)))∧Bl w w':=by
 have HN1:Hid (B1.length=n1):=h1.length;have HN2:Hid (B2.length=n2):=h2.length;have hr1:=h1.room;have hb1:=h1.big;have hr2:=h2.room;have hb2:=h2.big;unfold maxLen at hb1 hb2;have H1:=b6 h1;have H2:=b6 h2;have eg:∀args w,(callFunc 140 args).run Tryz.prog w=.ok (.enter 140 args) w:=enters_of Tryz.func140 (by kernel_rfl) rfl;clear h1 h2;by_cases hn:n1=n2
 · subst hn;go_enter Tryz.func139,Tryz.ntmps139
   go_wp2;go_loopw [17] (fun i wr=>∃k:Nat,k≤n1∧i=iT k∧Bl w wr∧B1.take k=B2.take k) (fun i _=>n1 - (intOf i).toNat)
   case atStart=>exact ⟨0,Nat.zero_le _,rfl,Below.refl _ _,rfl⟩
   case round =>
    obtain ⟨k,hk,rfl,hb,heq⟩:=hrel;have HEQ:Hid (B1.take k=B2.take k):=heq;clear heq;by_cases hlt:k<n1
    · obtain ⟨x1,o1,rfl,hx1⟩:=H1.out.form (by omega);obtain ⟨x2,o2,rfl,hx2⟩:=H2.out.form (by omega);obtain ⟨L,m,s,n,c,hg,_,g0,g1,hL⟩:=H1.out.run hb k hlt;obtain ⟨L',m',s',n',c',hg',_,q0,q1,hL'⟩:=H2.out.run hb k hlt;have HG:Hid (B1[k]?=some (L,m)):=hg;have HG':Hid (B2[k]?=some (L',m')):=hg';have hltI:(k:Int)<(n1:Int):=by omega
      have y1:x1<wr.heap.size:=Nat.lt_of_lt_of_le hx1 hb.size;have y2:x2<wr.heap.size:=Nat.lt_of_lt_of_le hx2 hb.size;clear hg hg';have k2:Bl wr ((wr.alloc (.cells #[.slice s n c,iT m] 63)).alloc (.cells #[.slice s' n' c',iT m'] 63)):=bZ.alloc (by simp) _;obtain ⟨q,hq⟩:∃q,decide (((L,m):ag)=(L',m'))=q:=⟨_,rfl⟩;have HQ:Hid (decide (((L,m):ag)=(L',m'))=q):=hq;clear hq;cases q with
      | true =>
       go_wp2_with (go_at_fn 140;refine (mO _ _ _ _ _ _ _ _ L L' _ (hL.1.keep k2) (hL'.1.keep k2)).mono ?_;rw [gK,HQ.out];rintro e w1 ⟨rfl,hb1⟩)
       go_roundw
       case rel=>exact ⟨k+1,by omega,by go_num,hb.trans ((k2.trans (hb1.mono k2.size)).mono hb.size),eK HG.out HG'.out (of_decide_eq_true HQ.out) HEQ.out⟩
       case measure=>simp [intOf];omega
      | false =>
       go_wp2_with (go_at_fn 140;refine (mO _ _ _ _ _ _ _ _ L L' _ (hL.1.keep k2) (hL'.1.keep k2)).mono ?_;rw [gK,HQ.out];rintro e w1 ⟨rfl,hb1⟩)
       go_ret;exact ⟨af (decide_eq_false (f9 HG.out HG'.out (of_decide_eq_false HQ.out))).symm,hb.trans ((k2.trans (hb1.mono k2.size)).mono hb.size)⟩
    · go_wp2;go_ret;refine ⟨af (decide_eq_true ?_).symm,hb⟩;have:=HEQ.out;rw [List.take_of_length_le (by rw [HN1.out];omega),List.take_of_length_le (by rw [HN2.out];omega)] at this;exact this
 · go_enter Tryz.func139,Tryz.ntmps139
   go_wp2;go_ret;refine ⟨af (decide_eq_false ?_).symm,Below.refl _ _⟩;intro e;rw [e,HN2.out] at HN1;exact hn HN1.out.symm
theorem iS (lo1 lo2:Nat) (a1 a2:Option Addr) (n1 c1 n2 c2:Nat) (B1 B2:List ag) (w:World) (h1:az lo1 w a1 n1 c1 B1) (h2:az lo2 w a2 n2 c2 B2) :
 Calls Tryz.prog 81 #[.slice a1 n1 c1,.slice a2 n2 c2] w fun e w'=>e=.returned (.bool (decide (B1=B2)))∧Bl w w':=by
 go_enter Tryz.func81,Tryz.ntmps81
 go_wp2_with (go_at_call 139;refine (wJ lo1 lo2 _ _ _ _ _ _ B1 B2 _ h1 h2).mono ?_;rintro e w1 ⟨rfl,hb1⟩)
 go_ret;exact ⟨rfl,hb1⟩
theorem tg (lo1 lo2:Nat) (a1 a2:Option Addr) (n1 c1 n2 c2:Nat) (B1 B2:List (List ag)) (w:World) (h1:bH lo1 w a1 n1 c1 B1) (h2:bH lo2 w a2 n2 c2 B2) :
 Calls Tryz.prog 80 #[.slice a1 n1 c1,.slice a2 n2 c2,.func (.func 81) #[] #[]] w fun e w'=>e=.returned (.bool (decide (B1=B2)))∧Bl w w':=by
 have HN1:Hid (B1.length=n1):=h1.length;have HN2:Hid (B2.length=n2):=h2.length;have hr1:=h1.room;have hb1:=h1.big;have hr2:=h2.room;have hb2:=h2.big;unfold maxLen at hb1 hb2;have H1:=b6 h1;have H2:=b6 h2;have eg:∀args w,(callFunc 81 args).run Tryz.prog w=.ok (.enter 81 args) w:=enters_of Tryz.func81 (by kernel_rfl) rfl;clear h1 h2;by_cases hn:n1=n2
 · subst hn;go_enter Tryz.func80,Tryz.ntmps80
   go_wp2;go_loopw [17] (fun i wr=>∃k:Nat,k≤n1∧i=iT k∧Bl w wr∧B1.take k=B2.take k) (fun i _=>n1 - (intOf i).toNat)
   case atStart=>exact ⟨0,Nat.zero_le _,rfl,Below.refl _ _,rfl⟩
   case round =>
    obtain ⟨k,hk,rfl,hb,heq⟩:=hrel;have HEQ:Hid (B1.take k=B2.take k):=heq;clear heq;by_cases hlt:k<n1
    · obtain ⟨x1,o1,rfl,hx1⟩:=H1.out.form (by omega);obtain ⟨x2,o2,rfl,hx2⟩:=H2.out.form (by omega);obtain ⟨B,s,n,c,hg,g0,hL⟩:=H1.out.level hb k hlt;obtain ⟨B',s',n',c',hg',q0,hL'⟩:=H2.out.level hb k hlt;have HG:Hid (B1[k]?=some B):=hg;have HG':Hid (B2[k]?=some B'):=hg';have hltI:(k:Int)<(n1:Int):=by omega
      have y1:x1<wr.heap.size:=Nat.lt_of_lt_of_le hx1 hb.size;have y2:x2<wr.heap.size:=Nat.lt_of_lt_of_le hx2 hb.size;clear hg hg';obtain ⟨q,hq⟩:∃q,decide (B=B')=q:=⟨_,rfl⟩;have HQ:Hid (decide (B=B')=q):=hq;clear hq;cases q with
      | true =>
       go_wp2_with (go_at_fn 81;refine (iS lo1 lo2 _ _ _ _ _ _ B B' _ hL hL').mono ?_;rw [HQ.out];rintro e w1 ⟨rfl,hb1⟩)
       go_roundw
       case rel=>exact ⟨k+1,by omega,by go_num,hb.trans ((hb1).mono hb.size),eK HG.out HG'.out (of_decide_eq_true HQ.out) HEQ.out⟩
       case measure=>simp [intOf];omega
      | false =>
       go_wp2_with (go_at_fn 81;refine (iS lo1 lo2 _ _ _ _ _ _ B B' _ hL hL').mono ?_;rw [HQ.out];rintro e w1 ⟨rfl,hb1⟩)
       go_ret;exact ⟨af (decide_eq_false (f9 HG.out HG'.out (of_decide_eq_false HQ.out))).symm,hb.trans ((hb1).mono hb.size)⟩
    · go_wp2;go_ret;refine ⟨af (decide_eq_true ?_).symm,hb⟩;have:=HEQ.out;rw [List.take_of_length_le (by rw [HN1.out];omega),List.take_of_length_le (by rw [HN2.out];omega)] at this;exact this
 · go_enter Tryz.func80,Tryz.ntmps80
   go_wp2;go_ret;refine ⟨af (decide_eq_false ?_).symm,Below.refl _ _⟩;intro e;rw [e,HN2.out] at HN1;exact hn HN1.out.symm
theorem xh (lo1 lo2:Nat) (a1 a2:Option Addr) (n1 c1 n2 c2:Nat) (B1 B2:List Int) (w:World) (h1:bG lo1 w a1 n1 c1 B1) (h2:bG lo2 w a2 n2 c2 B2) :
 Calls Tryz.prog 82 #[.slice a1 n1 c1,.slice a2 n2 c2] w fun e w'=>e=.returned (.bool (decide (B1=B2)))∧Bl w w':=by
 have HN1:Hid (B1.length=n1):=h1.length;have HN2:Hid (B2.length=n2):=h2.length;have hr1:=h1.room;have hb1:=h1.big;have hr2:=h2.room;have hb2:=h2.big;unfold maxLen at hb1 hb2;have H1:=b6 h1;have H2:=b6 h2;clear h1 h2;by_cases hn:n1=n2
 · subst hn;go_enter Tryz.func82,Tryz.ntmps82
   go_wp2;go_loopw [13] (fun i wr=>∃k:Nat,k≤n1∧i=iT k∧Bl w wr∧B1.take k=B2.take k) (fun i _=>n1 - (intOf i).toNat)
   case atStart=>exact ⟨0,Nat.zero_le _,rfl,Below.refl _ _,rfl⟩
   case round =>
    obtain ⟨k,hk,rfl,hb,heq⟩:=hrel;have HEQ:Hid (B1.take k=B2.take k):=heq;clear heq;by_cases hlt:k<n1
    · obtain ⟨x1,o1,rfl,hx1⟩:=H1.out.form (by omega);obtain ⟨x2,o2,rfl,hx2⟩:=H2.out.form (by omega);obtain ⟨q,hg,_,g0⟩:=H1.out.num hb k hlt;obtain ⟨q',hg',_,q0⟩:=H2.out.num hb k hlt;have HG:Hid (B1[k]?=some q):=hg;have HG':Hid (B2[k]?=some q'):=hg';have hltI:(k:Int)<(n1:Int):=by omega
      have y1:x1<wr.heap.size:=Nat.lt_of_lt_of_le hx1 hb.size;have y2:x2<wr.heap.size:=Nat.lt_of_lt_of_le hx2 hb.size;clear hg hg';by_cases hq:q=q'
      · subst hq;go_wp2_with fail
        go_quiet (fail)
        go_wp2;go_roundw
        case rel=>exact ⟨k+1,by omega,by go_num,below_drewN hb _,eK HG.out HG'.out rfl HEQ.out⟩
        case measure=>simp [intOf];omega
      · have HQ:Hid (¬q=q'):=hq;have hd:(q == q')=false:=by simpa using hq
        go_wp2_with fail
        go_quiet (fail)
        go_wp2;go_ret;exact ⟨af (decide_eq_false (f9 HG.out HG'.out HQ.out)).symm,below_drewN hb _⟩
    · go_wp2;go_ret;refine ⟨af (decide_eq_true ?_).symm,hb⟩;have:=HEQ.out;rw [List.take_of_length_le (by rw [HN1.out];omega),List.take_of_length_le (by rw [HN2.out];omega)] at this;exact this
 · go_enter Tryz.func82,Tryz.ntmps82
   go_wp2;go_ret;refine ⟨af (decide_eq_false ?_).symm,Below.refl _ _⟩;intro e;rw [e,HN2.out] at HN1;exact hn HN1.out.symm
theorem yD (lo1 lo2:Nat) (a1 a2:Option Addr) (n1 c1 n2 c2:Nat) (B1 B2:List Int) (w:World) (h1:bG lo1 w a1 n1 c1 B1) (h2:bG lo2 w a2 n2 c2 B2) :
 Calls Tryz.prog 85 #[.slice a1 n1 c1,.slice a2 n2 c2] w fun e w'=>e=.returned (.bool (decide (B1=B2)))∧Bl w w':=by
 have HN1:Hid (B1.length=n1):=h1.length;have HN2:Hid (B2.length=n2):=h2.length;have hr1:=h1.room;have hb1:=h1.big;have hr2:=h2.room;have hb2:=h2.big;unfold maxLen at hb1 hb2;have H1:=b6 h1;have H2:=b6 h2;clear h1 h2;by_cases hn:n1=n2
 · subst hn;go_enter Tryz.func85,Tryz.ntmps85
   go_wp2;go_loopw [5] (fun i wr=>∃k:Nat,k≤n1∧i=iT k∧Bl w wr∧B1.take k=B2.take k) (fun i _=>n1 - (intOf i).toNat)
   case atStart=>exact ⟨0,Nat.zero_le _,rfl,Below.refl _ _,rfl⟩
   case round =>
    obtain ⟨k,hk,rfl,hb,heq⟩:=hrel;have HEQ:Hid (B1.take k=B2.take k):=heq;clear heq;by_cases hlt:k<n1
    · obtain ⟨x1,o1,rfl,hx1⟩:=H1.out.form (by omega);obtain ⟨x2,o2,rfl,hx2⟩:=H2.out.form (by omega);obtain ⟨q,hg,_,g0⟩:=H1.out.num hb k hlt;obtain ⟨q',hg',_,q0⟩:=H2.out.num hb k hlt;have HG:Hid (B1[k]?=some q):=hg;have HG':Hid (B2[k]?=some q'):=hg';have hltI:(k:Int)<(n1:Int):=by omega
      have y1:x1<wr.heap.size:=Nat.lt_of_lt_of_le hx1 hb.size;have y2:x2<wr.heap.size:=Nat.lt_of_lt_of_le hx2 hb.size;clear hg hg';by_cases hq:q=q'
      · subst hq;go_wp2_with fail
        go_quiet (fail)
        go_wp2;go_roundw
        case rel=>exact ⟨k+1,by omega,by go_num,below_drewN hb _,eK HG.out HG'.out rfl HEQ.out⟩
        case measure=>simp [intOf];omega
      · have HQ:Hid (¬q=q'):=hq;have hd:(q == q')=false:=by simpa using hq
        go_wp2_with fail
        go_quiet (fail)
        go_wp2;go_ret;exact ⟨af (decide_eq_false (f9 HG.out HG'.out HQ.out)).symm,below_drewN hb _⟩
    · go_wp2;go_ret;refine ⟨af (decide_eq_true ?_).symm,hb⟩;have:=HEQ.out;rw [List.take_of_length_le (by rw [HN1.out];omega),List.take_of_length_le (by rw [HN2.out];omega)] at this;exact this
 · go_enter Tryz.func85,Tryz.ntmps85
   go_wp2;go_ret;refine ⟨af (decide_eq_false ?_).symm,Below.refl _ _⟩;intro e;rw [e,HN2.out] at HN1;exact hn HN1.out.symm
end Go.Proofs.YtpobkmjicbobdaaGreat
