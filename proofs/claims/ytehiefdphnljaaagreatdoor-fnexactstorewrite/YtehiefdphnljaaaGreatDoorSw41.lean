/- Walks. -/
import Derived.Test.YtehiefdphnljaaaGreatDoorSw16
import Derived.Shelf.GgClosure.Gives
namespace Go.Proofs.YtehiefdphnljaaaGreatDoor
open Go.RowKit
set_option maxRecDepth 100000
theorem sj {s s':ByteArray} (h:¬s=s'):¬s.toList=s'.toList:=fun e=>h (by
 rw [ByteArray.toList_eq,ByteArray.toList_eq] at e
 obtain ⟨⟨x⟩⟩:=s
 obtain ⟨⟨y⟩⟩:=s'
 simpa using e)
theorem kp (s t:ByteArray) (q d n:Int) (w:World):(binOp .neq 59 (.agg #[.string s,iT q,iT d,.string t,iT n]) (.agg #[.string s,iT q,iT d,.string t,iT n])).run Tryz.prog w=.ok (.bool false) w:=by
 have hs:=run_equalIn_struct (P:=Tryz.prog) w 9999 59 #[.string s,iT q,iT d,.string t,iT n] #[.string s,iT q,iT d,.string t,iT n] (by kernel_rfl) (by kernel_rfl);simp [binOp,Op.equal,Op.maxDepth,hs,go_sem,Tryz.underlying59]
theorem kr (s t:ByteArray) (q d n:Int) (s' t':ByteArray) (q' d' n':Int) (w:World) (h:¬((s,q,d,t,n):ae)=(s',q',d',t',n')):(binOp .neq 59 (.agg #[.string s,iT q,iT d,.string t,iT n]) (.agg #[.string s',iT q',iT d',.string t',iT n'])).run Tryz.prog w=.ok (.bool true) w:=by
 have hs:=run_equalIn_struct (P:=Tryz.prog) w 9999 59 #[.string s,iT q,iT d,.string t,iT n] #[.string s',iT q',iT d',.string t',iT n'] (by kernel_rfl) (by kernel_rfl);by_cases h1:s=s'
 · subst h1;by_cases h2:q=q'
   · subst h2;by_cases h3:d=d'
     · subst h3;by_cases h4:t=t'
       · subst h4;have h5:¬n=n':=fun e=>h (by rw [e])
         simp [binOp,Op.equal,Op.maxDepth,hs,go_sem,Tryz.underlying59,h5]
       · have h4':=sj h4;simp [binOp,Op.equal,Op.maxDepth,hs,go_sem,Tryz.underlying59,h4']
     · simp [binOp,Op.equal,Op.maxDepth,hs,go_sem,Tryz.underlying59,h3]
   · simp [binOp,Op.equal,Op.maxDepth,hs,go_sem,Tryz.underlying59,h2]
 · have h4:=sj h1;simp [binOp,Op.equal,Op.maxDepth,hs,go_sem,Tryz.underlying59,h4]
theorem kH {L1 L2:List ae} {k:Nat} {l:ae} (h1:L1[k]?=some l) (h2:L2[k]?=some l) (h:L1.take k=L2.take k):L1.take (k+1)=L2.take (k+1):=by
 rw [List.take_add_one,List.take_add_one,h1,h2,h]
end Go.Proofs.YtehiefdphnljaaaGreatDoor
namespace Go.Proofs.YtehiefdphnljaaaGreatDoor
open Go.RowKit
set_option maxRecDepth 100000
end Go.Proofs.YtehiefdphnljaaaGreatDoor
namespace Go.Proofs.YtehiefdphnljaaaGreatDoor
set_option maxRecDepth 100000
set_option maxHeartbeats 40000000
open Go.RowKit
variable {k:Nat}
theorem lA (a1 a2:Option Addr) (n1 c1 n2 c2:Nat) (L1 L2:List ae) (w:World) (h1:an w a1 n1 c1 L1) (h2:an w a2 n2 c2 L2) :
 Calls Tryz.prog 114 #[.slice a1 n1 c1,.slice a2 n2 c2] w fun e w'=>e=.returned (.bool (decide (L1=L2)))∧Bl w w':=by
 have HN1:Hid (L1.length=n1):=h1.length;have HN2:Hid (L2.length=n2):=h2.length;have hr1:=h1.room;have hb1:=h1.big;have hr2:=h2.room;have hb2:=h2.big;unfold maxLen at hb1 hb2;have H1:=ar h1;have H2:=ar h2;clear h1 h2;by_cases hn:n1=n2
 · subst hn;go_enter Tryz.func114,Tryz.ntmps114
   go_wp2;go_loopw [13] (fun i wr=>∃k:Nat,k≤n1∧i=iT k∧Bl w wr∧L1.take k=L2.take k) (fun i _=>n1 - (intOf i).toNat)
   case atStart=>exact ⟨0,Nat.zero_le _,rfl,Below.refl _ _,rfl⟩
   case round =>
    obtain ⟨k,hk,rfl,hb,heq⟩:=hrel;have HEQ:Hid (L1.take k=L2.take k):=heq;clear heq;by_cases hlt:k<n1
    · obtain ⟨x1,o1,rfl,hx1⟩:=H1.out.form (by omega);obtain ⟨x2,o2,rfl,hx2⟩:=H2.out.form (by omega);obtain ⟨s,q,d,t,n,hg,_,g0,g1,g2,g3,g4⟩:=H1.out.ent hb hx1 k hlt;obtain ⟨s',q',d',t',n',hg',_,p0,p1,p2,p3,p4⟩:=H2.out.ent hb hx2 k hlt;have HG:Hid (L1[k]?=some (s,q,d,t,n)):=hg;have HG':Hid (L2[k]?=some (s',q',d',t',n')):=hg';have hltI:(k:Int)<(n1:Int):=by omega
      clear hg hg';by_cases hl:(s,q,d,t,n)=(s',q',d',t',n')
      · cases hl;have hne:=kp s t q d n;go_wp2_with fail
        go_quiet (fail)
        go_wp2;go_roundw
        case rel=>exact ⟨k+1,by omega,by go_num,below_drewN hb _,kH HG.out HG'.out HEQ.out⟩
        case measure=>simp [intOf];omega
      · have hne:=fun w=>kr s t q d n s' t' q' d' n' w hl
        have HD:Hid (¬(s,q,d,t,n)=(s',q',d',t',n')):=hl;clear hl;go_wp2_with fail
        go_quiet (fail)
        go_wp2;go_ret;refine ⟨aj (decide_eq_false ?_).symm,below_drewN hb _⟩;intro e;rw [e,HG'.out] at HG;exact HD.out (by simpa [Hid] using HG.symm)
    · go_wp2;go_ret;refine ⟨aj (decide_eq_true ?_).symm,hb⟩;have:=HEQ.out;rw [List.take_of_length_le (by rw [HN1.out];omega),List.take_of_length_le (by rw [HN2.out];omega)] at this;exact this
 · go_enter Tryz.func114,Tryz.ntmps114
   go_wp2;go_ret;refine ⟨aj (decide_eq_false ?_).symm,Below.refl _ _⟩;intro e;rw [e,HN2.out] at HN1;exact hn HN1.out.symm
def fq (i1:Int) (L1:List ae) (i2:Int) (L2:List ae):Bool:=decide (i1=i2) && decide (L1=L2)
theorem lR (i1 i2:Int) (a1 a2:Option Addr) (n1 c1 n2 c2:Nat) (L1 L2:List ae) (w:World) (h1:an w a1 n1 c1 L1) (h2:an w a2 n2 c2 L2) :
 Calls Tryz.prog 123 #[.agg #[.slice a1 n1 c1,iT i1],.agg #[.slice a2 n2 c2,iT i2]] w fun e w'=>e=.returned (.bool (fq i1 L1 i2 L2))∧Bl w w':=by
 have hB:Bl w ((w.alloc (.cells #[.slice a1 n1 c1,iT i1] 119)).alloc (.cells #[.slice a2 n2 c2,iT i2] 119)):=bZ.alloc (by simp) _;by_cases hi:i1=i2
 · subst hi;go_enter Tryz.func123,Tryz.ntmps123
   go_wp2_with (go_at_call 114;refine (lA _ _ _ _ _ _ L1 L2 _ (h1.keep hB) (h2.keep hB)).mono ?_;rintro e w1 ⟨rfl,hb1⟩)
   go_ret;exact ⟨aj (by simp [fq]),hB.trans (hb1.mono (by simp;omega))⟩
 · have hd:(i1 == i2)=false:=by simpa using hi
   clear h1 h2;go_enter Tryz.func123,Tryz.ntmps123
   go_wp2;go_ret;exact ⟨aj (by simp [fq,hi]),hB⟩
theorem sU (a1 a2:Option Addr) (n1 c1 n2 c2:Nat) (L1 L2:List ae) (w:World) (h1:an w a1 n1 c1 L1) (h2:an w a2 n2 c2 L2) :
 Calls Tryz.prog 71 #[.slice a1 n1 c1,.slice a2 n2 c2] w fun e w'=>e=.returned (.bool (decide (L1=L2)))∧Bl w w':=by
 have HN1:Hid (L1.length=n1):=h1.length;have HN2:Hid (L2.length=n2):=h2.length;have hr1:=h1.room;have hb1:=h1.big;have hr2:=h2.room;have hb2:=h2.big;unfold maxLen at hb1 hb2;have H1:=ar h1;have H2:=ar h2;clear h1 h2;by_cases hn:n1=n2
 · subst hn;go_enter Tryz.func71,Tryz.ntmps71
   go_wp2;go_loopw [5] (fun i wr=>∃k:Nat,k≤n1∧i=iT k∧Bl w wr∧L1.take k=L2.take k) (fun i _=>n1 - (intOf i).toNat)
   case atStart=>exact ⟨0,Nat.zero_le _,rfl,Below.refl _ _,rfl⟩
   case round =>
    obtain ⟨k,hk,rfl,hb,heq⟩:=hrel;have HEQ:Hid (L1.take k=L2.take k):=heq;clear heq;by_cases hlt:k<n1
    · obtain ⟨x1,o1,rfl,hx1⟩:=H1.out.form (by omega);obtain ⟨x2,o2,rfl,hx2⟩:=H2.out.form (by omega);obtain ⟨s,q,d,t,n,hg,_,g0,g1,g2,g3,g4⟩:=H1.out.ent hb hx1 k hlt;obtain ⟨s',q',d',t',n',hg',_,p0,p1,p2,p3,p4⟩:=H2.out.ent hb hx2 k hlt;have HG:Hid (L1[k]?=some (s,q,d,t,n)):=hg;have HG':Hid (L2[k]?=some (s',q',d',t',n')):=hg';have hltI:(k:Int)<(n1:Int):=by omega
      clear hg hg';by_cases hl:(s,q,d,t,n)=(s',q',d',t',n')
      · cases hl;have hne:=kp s t q d n;go_wp2_with fail
        go_quiet (fail)
        go_wp2;go_roundw
        case rel=>exact ⟨k+1,by omega,by go_num,below_drewN hb _,kH HG.out HG'.out HEQ.out⟩
        case measure=>simp [intOf];omega
      · have hne:=fun w=>kr s t q d n s' t' q' d' n' w hl
        have HD:Hid (¬(s,q,d,t,n)=(s',q',d',t',n')):=hl;clear hl;go_wp2_with fail
        go_quiet (fail)
        go_wp2;go_ret;refine ⟨aj (decide_eq_false ?_).symm,below_drewN hb _⟩;intro e;rw [e,HG'.out] at HG;exact HD.out (by simpa [Hid] using HG.symm)
    · go_wp2;go_ret;refine ⟨aj (decide_eq_true ?_).symm,hb⟩;have:=HEQ.out;rw [List.take_of_length_le (by rw [HN1.out];omega),List.take_of_length_le (by rw [HN2.out];omega)] at this;exact this
 · go_enter Tryz.func71,Tryz.ntmps71
   go_wp2;go_ret;refine ⟨aj (decide_eq_false ?_).symm,Below.refl _ _⟩;intro e;rw [e,HN2.out] at HN1;exact hn HN1.out.symm
theorem lJ (i1 i2:Int) (a1 a2:Option Addr) (n1 c1 n2 c2:Nat) (L1 L2:List ae) (w:World) (h1:an w a1 n1 c1 L1) (h2:an w a2 n2 c2 L2) :
 Calls Tryz.prog 108 #[.agg #[.slice a1 n1 c1,iT i1],.agg #[.slice a2 n2 c2,iT i2]] w fun e w'=>e=.returned (.bool (fq i1 L1 i2 L2))∧Bl w w':=by
 have hB:Bl w ((w.alloc (.cells #[.slice a1 n1 c1,iT i1] 119)).alloc (.cells #[.slice a2 n2 c2,iT i2] 119)):=bZ.alloc (by simp) _;by_cases hi:i1=i2
 · subst hi;go_enter Tryz.func108,Tryz.ntmps108
   go_wp2_with (go_at_call 71;refine (sU _ _ _ _ _ _ L1 L2 _ (h1.keep hB) (h2.keep hB)).mono ?_;rintro e w1 ⟨rfl,hb1⟩)
   go_ret;exact ⟨aj (by simp [fq]),hB.trans (hb1.mono (by simp;omega))⟩
 · have hd:(i1 == i2)=false:=by simpa using hi
   clear h1 h2;go_enter Tryz.func108,Tryz.ntmps108
   go_wp2;go_ret;exact ⟨aj (by simp [fq,hi]),hB⟩
instance decRun:DecidableEq aq:=instDecidableEqProd
theorem dT {α:Type} {B1 B2:List α} {x y:α} (h1:B1[k]?=some x) (h2:B2[k]?=some y) (hs:x=y) (h:B1.take k=B2.take k):B1.take (k+1)=B2.take (k+1):=by
 subst hs;rw [List.take_add_one,List.take_add_one,h1,h2,h]
theorem fN {α:Type} {B1 B2:List α} {x y:α} (h1:B1[k]?=some x) (h2:B2[k]?=some y) (hs:¬x=y):¬B1=B2:=by
 rintro rfl;rw [h1] at h2;cases h2;exact hs rfl
theorem fX {m m':Int} {L L':List ae}:fq m L m' L'=decide (((L,m):aq)=(L',m')):=by
 unfold fq;by_cases h1:m=m' <;> by_cases h2:L=L' <;> simp [h1,h2]
theorem vw (lo1 lo2:Nat) (a1 a2:Option Addr) (n1 c1 n2 c2:Nat) (B1 B2:List aq) (w:World) (h1:aF lo1 w a1 n1 c1 B1) (h2:aF lo2 w a2 n2 c2 B2) :
 Calls Tryz.prog 122 #[.slice a1 n1 c1,.slice a2 n2 c2,.func (.func 123) #[] #[]] w fun e w'=>e=.returned (.bool (decide (B1=B2)))∧Bl w w':=by
 have HN1:Hid (B1.length=n1):=h1.length;have HN2:Hid (B2.length=n2):=h2.length;have hr1:=h1.room;have hb1:=h1.big;have hr2:=h2.room;have hb2:=h2.big;unfold maxLen at hb1 hb2;have H1:=ar h1;have H2:=ar h2;have eg:∀args w,(callFunc 123 args).run Tryz.prog w=.ok (.enter 123 args) w:=enters_of Tryz.func123 (by kernel_rfl) rfl;clear h1 h2;by_cases hn:n1=n2
 · subst hn;go_enter Tryz.func122,Tryz.ntmps122
   go_wp2;go_loopw [17] (fun i wr=>∃k:Nat,k≤n1∧i=iT k∧Bl w wr∧B1.take k=B2.take k) (fun i _=>n1 - (intOf i).toNat)
   case atStart=>exact ⟨0,Nat.zero_le _,rfl,Below.refl _ _,rfl⟩
   case round =>
    obtain ⟨k,hk,rfl,hb,heq⟩:=hrel;have HEQ:Hid (B1.take k=B2.take k):=heq;clear heq;by_cases hlt:k<n1
    · obtain ⟨x1,o1,rfl,hx1⟩:=H1.out.form (by omega);obtain ⟨x2,o2,rfl,hx2⟩:=H2.out.form (by omega);obtain ⟨L,m,s,n,c,hg,_,g0,g1,hL⟩:=H1.out.run hb k hlt;obtain ⟨L',m',s',n',c',hg',_,q0,q1,hL'⟩:=H2.out.run hb k hlt;have HG:Hid (B1[k]?=some (L,m)):=hg;have HG':Hid (B2[k]?=some (L',m')):=hg';have hltI:(k:Int)<(n1:Int):=by omega
      have y1:x1<wr.heap.size:=Nat.lt_of_lt_of_le hx1 hb.size;have y2:x2<wr.heap.size:=Nat.lt_of_lt_of_le hx2 hb.size;clear hg hg';have k2:Bl wr ((wr.alloc (.cells #[.slice s n c,iT m] 119)).alloc (.cells #[.slice s' n' c',iT m'] 119)):=bZ.alloc (by simp) _;obtain ⟨q,hq⟩:∃q,decide (((L,m):aq)=(L',m'))=q:=⟨_,rfl⟩;have HQ:Hid (decide (((L,m):aq)=(L',m'))=q):=hq;clear hq;cases q with
      | true =>
       go_wp2_with (go_at_fn 123;refine (lR _ _ _ _ _ _ _ _ L L' _ (hL.1.keep k2) (hL'.1.keep k2)).mono ?_;rw [fX,HQ.out];rintro e w1 ⟨rfl,hb1⟩)
       go_roundw
       case rel=>exact ⟨k+1,by omega,by go_num,hb.trans ((k2.trans (hb1.mono k2.size)).mono hb.size),dT HG.out HG'.out (of_decide_eq_true HQ.out) HEQ.out⟩
       case measure=>simp [intOf];omega
      | false =>
       go_wp2_with (go_at_fn 123;refine (lR _ _ _ _ _ _ _ _ L L' _ (hL.1.keep k2) (hL'.1.keep k2)).mono ?_;rw [fX,HQ.out];rintro e w1 ⟨rfl,hb1⟩)
       go_ret;exact ⟨aj (decide_eq_false (fN HG.out HG'.out (of_decide_eq_false HQ.out))).symm,hb.trans ((k2.trans (hb1.mono k2.size)).mono hb.size)⟩
    · go_wp2;go_ret;refine ⟨aj (decide_eq_true ?_).symm,hb⟩;have:=HEQ.out;rw [List.take_of_length_le (by rw [HN1.out];omega),List.take_of_length_le (by rw [HN2.out];omega)] at this;exact this
 · go_enter Tryz.func122,Tryz.ntmps122
   go_wp2;go_ret;refine ⟨aj (decide_eq_false ?_).symm,Below.refl _ _⟩;intro e;rw [e,HN2.out] at HN1;exact hn HN1.out.symm
theorem iB (lo1 lo2:Nat) (a1 a2:Option Addr) (n1 c1 n2 c2:Nat) (B1 B2:List aq) (w:World) (h1:aF lo1 w a1 n1 c1 B1) (h2:aF lo2 w a2 n2 c2 B2) :
 Calls Tryz.prog 85 #[.slice a1 n1 c1,.slice a2 n2 c2] w fun e w'=>e=.returned (.bool (decide (B1=B2)))∧Bl w w':=by
 go_enter Tryz.func85,Tryz.ntmps85
 go_wp2_with (go_at_call 122;refine (vw lo1 lo2 _ _ _ _ _ _ B1 B2 _ h1 h2).mono ?_;rintro e w1 ⟨rfl,hb1⟩)
 go_ret;exact ⟨rfl,hb1⟩
theorem lO (lo1 lo2:Nat) (a1 a2:Option Addr) (n1 c1 n2 c2:Nat) (B1 B2:List (List aq)) (w:World) (h1:au lo1 w a1 n1 c1 B1) (h2:au lo2 w a2 n2 c2 B2) :
 Calls Tryz.prog 84 #[.slice a1 n1 c1,.slice a2 n2 c2,.func (.func 85) #[] #[]] w fun e w'=>e=.returned (.bool (decide (B1=B2)))∧Bl w w':=by
 have HN1:Hid (B1.length=n1):=h1.length;have HN2:Hid (B2.length=n2):=h2.length;have hr1:=h1.room;have hb1:=h1.big;have hr2:=h2.room;have hb2:=h2.big;unfold maxLen at hb1 hb2;have H1:=ar h1;have H2:=ar h2;have eg:∀args w,(callFunc 85 args).run Tryz.prog w=.ok (.enter 85 args) w:=enters_of Tryz.func85 (by kernel_rfl) rfl;clear h1 h2;by_cases hn:n1=n2
 · subst hn;go_enter Tryz.func84,Tryz.ntmps84
   go_wp2;go_loopw [17] (fun i wr=>∃k:Nat,k≤n1∧i=iT k∧Bl w wr∧B1.take k=B2.take k) (fun i _=>n1 - (intOf i).toNat)
   case atStart=>exact ⟨0,Nat.zero_le _,rfl,Below.refl _ _,rfl⟩
   case round =>
    obtain ⟨k,hk,rfl,hb,heq⟩:=hrel;have HEQ:Hid (B1.take k=B2.take k):=heq;clear heq;by_cases hlt:k<n1
    · obtain ⟨x1,o1,rfl,hx1⟩:=H1.out.form (by omega);obtain ⟨x2,o2,rfl,hx2⟩:=H2.out.form (by omega);obtain ⟨B,s,n,c,hg,g0,hL⟩:=H1.out.level hb k hlt;obtain ⟨B',s',n',c',hg',q0,hL'⟩:=H2.out.level hb k hlt;have HG:Hid (B1[k]?=some B):=hg;have HG':Hid (B2[k]?=some B'):=hg';have hltI:(k:Int)<(n1:Int):=by omega
      have y1:x1<wr.heap.size:=Nat.lt_of_lt_of_le hx1 hb.size;have y2:x2<wr.heap.size:=Nat.lt_of_lt_of_le hx2 hb.size;clear hg hg';obtain ⟨q,hq⟩:∃q,decide (B=B')=q:=⟨_,rfl⟩;have HQ:Hid (decide (B=B')=q):=hq;clear hq;cases q with
      | true =>
       go_wp2_with (go_at_fn 85;refine (iB lo1 lo2 _ _ _ _ _ _ B B' _ hL hL').mono ?_;rw [HQ.out];rintro e w1 ⟨rfl,hb1⟩)
       go_roundw
       case rel=>exact ⟨k+1,by omega,by go_num,hb.trans ((hb1).mono hb.size),dT HG.out HG'.out (of_decide_eq_true HQ.out) HEQ.out⟩
       case measure=>simp [intOf];omega
      | false =>
       go_wp2_with (go_at_fn 85;refine (iB lo1 lo2 _ _ _ _ _ _ B B' _ hL hL').mono ?_;rw [HQ.out];rintro e w1 ⟨rfl,hb1⟩)
       go_ret;exact ⟨aj (decide_eq_false (fN HG.out HG'.out (of_decide_eq_false HQ.out))).symm,hb.trans ((hb1).mono hb.size)⟩
    · go_wp2;go_ret;refine ⟨aj (decide_eq_true ?_).symm,hb⟩;have:=HEQ.out;rw [List.take_of_length_le (by rw [HN1.out];omega),List.take_of_length_le (by rw [HN2.out];omega)] at this;exact this
 · go_enter Tryz.func84,Tryz.ntmps84
   go_wp2;go_ret;refine ⟨aj (decide_eq_false ?_).symm,Below.refl _ _⟩;intro e;rw [e,HN2.out] at HN1;exact hn HN1.out.symm
theorem vN (lo1 lo2:Nat) (a1 a2:Option Addr) (n1 c1 n2 c2:Nat) (B1 B2:List Int) (w:World) (h1:bC lo1 w a1 n1 c1 B1) (h2:bC lo2 w a2 n2 c2 B2) :
 Calls Tryz.prog 115 #[.slice a1 n1 c1,.slice a2 n2 c2] w fun e w'=>e=.returned (.bool (decide (B1=B2)))∧Bl w w':=by
 have HN1:Hid (B1.length=n1):=h1.length;have HN2:Hid (B2.length=n2):=h2.length;have hr1:=h1.room;have hb1:=h1.big;have hr2:=h2.room;have hb2:=h2.big;unfold maxLen at hb1 hb2;have H1:=ar h1;have H2:=ar h2;clear h1 h2;by_cases hn:n1=n2
 · subst hn;go_enter Tryz.func115,Tryz.ntmps115
   go_wp2;go_loopw [13] (fun i wr=>∃k:Nat,k≤n1∧i=iT k∧Bl w wr∧B1.take k=B2.take k) (fun i _=>n1 - (intOf i).toNat)
   case atStart=>exact ⟨0,Nat.zero_le _,rfl,Below.refl _ _,rfl⟩
   case round =>
    obtain ⟨k,hk,rfl,hb,heq⟩:=hrel;have HEQ:Hid (B1.take k=B2.take k):=heq;clear heq;by_cases hlt:k<n1
    · obtain ⟨x1,o1,rfl,hx1⟩:=H1.out.form (by omega);obtain ⟨x2,o2,rfl,hx2⟩:=H2.out.form (by omega);obtain ⟨q,hg,_,g0⟩:=H1.out.num hb k hlt;obtain ⟨q',hg',_,q0⟩:=H2.out.num hb k hlt;have HG:Hid (B1[k]?=some q):=hg;have HG':Hid (B2[k]?=some q'):=hg';have hltI:(k:Int)<(n1:Int):=by omega
      have y1:x1<wr.heap.size:=Nat.lt_of_lt_of_le hx1 hb.size;have y2:x2<wr.heap.size:=Nat.lt_of_lt_of_le hx2 hb.size;clear hg hg';by_cases hq:q=q'
      · subst hq;go_wp2_with fail
        go_quiet (fail)
        go_wp2;go_roundw
        case rel=>exact ⟨k+1,by omega,by go_num,below_drewN hb _,dT HG.out HG'.out rfl HEQ.out⟩
        case measure=>simp [intOf];omega
      · have HQ:Hid (¬q=q'):=hq;have hd:(q == q')=false:=by simpa using hq
        go_wp2_with fail
        go_quiet (fail)
        go_wp2;go_ret;exact ⟨aj (decide_eq_false (fN HG.out HG'.out HQ.out)).symm,below_drewN hb _⟩
    · go_wp2;go_ret;refine ⟨aj (decide_eq_true ?_).symm,hb⟩;have:=HEQ.out;rw [List.take_of_length_le (by rw [HN1.out];omega),List.take_of_length_le (by rw [HN2.out];omega)] at this;exact this
 · go_enter Tryz.func115,Tryz.ntmps115
   go_wp2;go_ret;refine ⟨aj (decide_eq_false ?_).symm,Below.refl _ _⟩;intro e;rw [e,HN2.out] at HN1;exact hn HN1.out.symm
theorem yr (lo1 lo2:Nat) (a1 a2:Option Addr) (n1 c1 n2 c2:Nat) (B1 B2:List Int) (w:World) (h1:bC lo1 w a1 n1 c1 B1) (h2:bC lo2 w a2 n2 c2 B2) :
 Calls Tryz.prog 72 #[.slice a1 n1 c1,.slice a2 n2 c2] w fun e w'=>e=.returned (.bool (decide (B1=B2)))∧Bl w w':=by
 have HN1:Hid (B1.length=n1):=h1.length;have HN2:Hid (B2.length=n2):=h2.length;have hr1:=h1.room;have hb1:=h1.big;have hr2:=h2.room;have hb2:=h2.big;unfold maxLen at hb1 hb2;have H1:=ar h1;have H2:=ar h2;clear h1 h2;by_cases hn:n1=n2
 · subst hn;go_enter Tryz.func72,Tryz.ntmps72
   go_wp2;go_loopw [5] (fun i wr=>∃k:Nat,k≤n1∧i=iT k∧Bl w wr∧B1.take k=B2.take k) (fun i _=>n1 - (intOf i).toNat)
   case atStart=>exact ⟨0,Nat.zero_le _,rfl,Below.refl _ _,rfl⟩
   case round =>
    obtain ⟨k,hk,rfl,hb,heq⟩:=hrel;have HEQ:Hid (B1.take k=B2.take k):=heq;clear heq;by_cases hlt:k<n1
    · obtain ⟨x1,o1,rfl,hx1⟩:=H1.out.form (by omega);obtain ⟨x2,o2,rfl,hx2⟩:=H2.out.form (by omega);obtain ⟨q,hg,_,g0⟩:=H1.out.num hb k hlt;obtain ⟨q',hg',_,q0⟩:=H2.out.num hb k hlt;have HG:Hid (B1[k]?=some q):=hg;have HG':Hid (B2[k]?=some q'):=hg';have hltI:(k:Int)<(n1:Int):=by omega
      have y1:x1<wr.heap.size:=Nat.lt_of_lt_of_le hx1 hb.size;have y2:x2<wr.heap.size:=Nat.lt_of_lt_of_le hx2 hb.size;clear hg hg';by_cases hq:q=q'
      · subst hq;go_wp2_with fail
        go_quiet (fail)
        go_wp2;go_roundw
        case rel=>exact ⟨k+1,by omega,by go_num,below_drewN hb _,dT HG.out HG'.out rfl HEQ.out⟩
        case measure=>simp [intOf];omega
      · have HQ:Hid (¬q=q'):=hq;have hd:(q == q')=false:=by simpa using hq
        go_wp2_with fail
        go_quiet (fail)
        go_wp2;go_ret;exact ⟨aj (decide_eq_false (fN HG.out HG'.out HQ.out)).symm,below_drewN hb _⟩
    · go_wp2;go_ret;refine ⟨aj (decide_eq_true ?_).symm,hb⟩;have:=HEQ.out;rw [List.take_of_length_le (by rw [HN1.out];omega),List.take_of_length_le (by rw [HN2.out];omega)] at this;exact this
 · go_enter Tryz.func72,Tryz.ntmps72
   go_wp2;go_ret;refine ⟨aj (decide_eq_false ?_).symm,Below.refl _ _⟩;intro e;rw [e,HN2.out] at HN1;exact hn HN1.out.symm
end Go.Proofs.YtehiefdphnljaaaGreatDoor
