/- Walks. -/
import Derived.Test.YtehiefdphnljaaaGreatDoorSw41
import Derived.Test.YtehiefdphnljaaaGreatDoorSw40
namespace Go.Proofs.YtehiefdphnljaaaGreatDoor
set_option maxRecDepth 100000
set_option maxHeartbeats 40000000
open Go.RowKit
variable {M:List ae} {S:List Int} {U V:List (List aq)} {ak am av d:Option Addr} {hi hi' lo lo' nd nm ns nv:Nat} {w:World}
theorem mO (lo1 lo2:Nat) (a1 a2:Option Addr) (n1 c1 n2 c2:Nat) (B1 B2:List (List aq)) (w:World) (h1:au lo1 w a1 n1 c1 B1) (h2:au lo2 w a2 n2 c2 B2) :
 Calls Tryz.prog 68 #[.slice a1 n1 c1,.slice a2 n2 c2] w fun e w'=>e=.returned (.bool (decide (B1=B2)))∧Bl w w':=by
 have HN1:Hid (B1.length=n1):=h1.length;have HN2:Hid (B2.length=n2):=h2.length;have hr1:=h1.room;have hb1:=h1.big;have hr2:=h2.room;have hb2:=h2.big;unfold maxLen at hb1 hb2;have H1:=ar h1;have H2:=ar h2;clear h1 h2;by_cases hn:n1=n2
 · subst hn;go_enter Tryz.func68,Tryz.ntmps68
   go_wp2;go_loopw [5] (fun i wr=>∃k:Nat,k≤n1∧i=iT k∧Bl w wr∧B1.take k=B2.take k) (fun i _=>n1 - (intOf i).toNat)
   case atStart=>exact ⟨0,Nat.zero_le _,rfl,Below.refl _ _,rfl⟩
   case round =>
    obtain ⟨k,hk,rfl,hb,heq⟩:=hrel;have HEQ:Hid (B1.take k=B2.take k):=heq;clear heq;by_cases hlt:k<n1
    · obtain ⟨x1,o1,rfl,hx1⟩:=H1.out.form (by omega);obtain ⟨x2,o2,rfl,hx2⟩:=H2.out.form (by omega);obtain ⟨B,s,n,c,hg,g0,hL⟩:=H1.out.level hb k hlt;obtain ⟨B',s',n',c',hg',q0,hL'⟩:=H2.out.level hb k hlt;have HG:Hid (B1[k]?=some B):=hg;have HG':Hid (B2[k]?=some B'):=hg';have hltI:(k:Int)<(n1:Int):=by omega
      have y1:x1<wr.heap.size:=Nat.lt_of_lt_of_le hx1 hb.size;have y2:x2<wr.heap.size:=Nat.lt_of_lt_of_le hx2 hb.size;have rn:=hL.room;have rb:=hL.big;have rn':=hL'.room;have rb':=hL'.big;unfold maxLen at rb rb';have HLN:Hid (B.length=n):=hL.length;have HLN':Hid (B'.length=n'):=hL'.length;have HL:Hid (aF lo1 wr s n c B):=hL;have HL':Hid (aF lo2 wr s' n' c' B'):=hL';clear hg hg' hL hL';by_cases hnn:n=n'
      · subst hnn;go_wp2_with fail
        go_quiet (fail)
        go_wp2;go_loopw [6] (fun i wq=>∃j:Nat,j≤n∧i=iT j∧Bl wr wq∧B.take j=B'.take j) (fun i _=>n - (intOf i).toNat)
        case atStart=>exact ⟨0,Nat.zero_le _,rfl,below_drewN (Below.refl _ _) _,rfl⟩
        case round =>
         obtain ⟨j,hj,rfl,hbq,heqj⟩:=hrel;have HEQJ:Hid (B.take j=B'.take j):=heqj;clear heqj;have g0:=cell_later hbq g0;have q0:=cell_later hbq q0;have y1:x1<wr.heap.size:=Nat.lt_of_lt_of_le y1 hbq.size;have y2:x2<wr.heap.size:=Nat.lt_of_lt_of_le y2 hbq.size;by_cases hjt:j<n
         · obtain ⟨u1,p1,rfl,hu1⟩:=HL.out.form (by omega);obtain ⟨u2,p2,rfl,hu2⟩:=HL'.out.form (by omega);obtain ⟨L,m,t,e,d,hG,_,r0,r1,hE⟩:=HL.out.run hbq j hjt;obtain ⟨L',m',t',e',d',hG',_,r0',r1',hE'⟩:=HL'.out.run hbq j hjt;have HGG:Hid (B[j]?=some (L,m)):=hG;have HGG':Hid (B'[j]?=some (L',m')):=hG';have hjtI:(j:Int)<(n:Int):=by omega
           have z1:u1<wr.heap.size:=Nat.lt_of_lt_of_le hu1 hbq.size;have z2:u2<wr.heap.size:=Nat.lt_of_lt_of_le hu2 hbq.size;have lk:=hE.1.keep ((Below.refl _ wr).drew);have lk':=hE'.1.keep ((Below.refl _ wr).drew);clear hG hG' hE hE';obtain ⟨q,hq⟩:∃q,decide (((L,m):aq)=(L',m'))=q:=⟨_,rfl⟩;have HQ:Hid (decide (((L,m):aq)=(L',m'))=q):=hq;clear hq;cases q with
           | true =>
            go_wp2_with fail
            go_region_with (go_at_call 108;refine (lJ _ _ _ _ _ _ _ _ L L' _ lk lk').mono ?_;rw [fX,HQ.out];rintro e w1 ⟨rfl,hb1⟩)
            all_goals
             go_wp2;go_roundw
             case rel=>exact ⟨j+1,by omega,by go_num,hbq.drew.trans (hb1.mono hbq.size),dT HGG.out HGG'.out (of_decide_eq_true HQ.out) HEQJ.out⟩
             case measure=>simp [intOf];omega
           | false =>
            go_wp2_with fail
            go_region_with (go_at_call 108;refine (lJ _ _ _ _ _ _ _ _ L L' _ lk lk').mono ?_;rw [fX,HQ.out];rintro e w1 ⟨rfl,hb1⟩)
            all_goals
             go_wp2;go_ret;exact ⟨aj (decide_eq_false (fN HG.out HG'.out (fN HGG.out HGG'.out (of_decide_eq_false HQ.out)))).symm,hb.trans ((hbq.drew.trans (hb1.mono hbq.size)).mono hb.size)⟩
         · have hjtI:¬(j:Int)<(n:Int):=by omega
           have HBB:Hid (B=B'):=by
            have:=HEQJ.out;rw [List.take_of_length_le (by rw [HLN.out];omega),List.take_of_length_le (by rw [HLN'.out];omega)] at this;exact this
           go_wp2;go_roundw
           case rel=>exact ⟨k+1,by omega,by go_num,hb.trans (hbq.mono hb.size),dT HG.out HG'.out HBB.out HEQ.out⟩
           case measure=>simp [intOf];omega
      · have HBB:Hid (¬B=B'):=fun e=>hnn (by rw [← HLN.out,← HLN'.out,e])
        go_wp2_with fail
        go_quiet (fail)
        go_wp2;go_ret;exact ⟨aj (decide_eq_false (fN HG.out HG'.out HBB.out)).symm,below_drewN hb _⟩
    · go_wp2;go_ret;refine ⟨aj (decide_eq_true ?_).symm,hb⟩;have:=HEQ.out;rw [List.take_of_length_le (by rw [HN1.out];omega),List.take_of_length_le (by rw [HN2.out];omega)] at this;exact this
 · go_enter Tryz.func68,Tryz.ntmps68
   go_wp2;go_ret;refine ⟨aj (decide_eq_false ?_).symm,Below.refl _ _⟩;intro e;rw [e,HN2.out] at HN1;exact hn HN1.out.symm
def eG (q:Int) (M:List ae) (V:List (List aq)) (S:List Int) (q':Int) (M':List ae) (V':List (List aq)) (S':List Int):Bool:=decide (q=q') && (decide (M=M') && (decide (V=V') && decide (S=S')))
theorem pF (q q':Int) (lo1 lo2:Nat) (am av ak:Option Addr) (nm cm nv cv ns cs:Nat) (am' av' ak':Option Addr) (nm' cm' nv' cv' ns' cs':Nat) (M:List ae) (V:List (List aq)) (S:List Int) (M':List ae) (V':List (List aq)) (S':List Int) (w:World) (h1:aX lo1 w am nm cm av nv cv ak ns cs M V S) (h2:aX lo2 w am' nm' cm' av' nv' cv' ak' ns' cs' M' V' S') :
 Calls Tryz.prog 38 #[.agg #[iT q,.slice am nm cm,.slice av nv cv,.slice ak ns cs],.agg #[iT q',.slice am' nm' cm',.slice av' nv' cv',.slice ak' ns' cs']] w fun e w'=>e=.returned (.bool (eG q M V S q' M' V' S'))∧Bl w w':=by
 obtain ⟨W,hW⟩:=aw ((w.alloc (.cells #[iT q,.slice am nm cm,.slice av nv cv,.slice ak ns cs] 36)).alloc (.cells #[iT q',.slice am' nm' cm',.slice av' nv' cv',.slice ak' ns' cs'] 36));have hB:Bl w W:=by rw [hW];exact bZ.alloc (by simp) _
 have x2:W.cell? ⟨w.heap.size,2,none⟩=some (.slice av nv cv):=by rw [hW];simp
 have x3:W.cell? ⟨w.heap.size,3,none⟩=some (.slice ak ns cs):=by rw [hW];simp
 have y2:W.cell? ⟨w.heap.size+1,2,none⟩=some (.slice av' nv' cv'):=by rw [hW];simp
 have y3:W.cell? ⟨w.heap.size+1,3,none⟩=some (.slice ak' ns' cs'):=by rw [hW];simp
 have H1:Hid (aX lo1 W am nm cm av nv cv ak ns cs M V S):=h1.keep hB;have H2:Hid (aX lo2 W am' nm' cm' av' nv' cv' ak' ns' cs' M' V' S'):=h2.keep hB;have HB:Hid (Bl w W):=hB;clear h1 h2 hB;obtain ⟨bM,hM⟩:∃b,decide (M=M')=b:=⟨_,rfl⟩;obtain ⟨bV,hV⟩:∃b,decide (V=V')=b:=⟨_,rfl⟩;obtain ⟨bS,hS⟩:∃b,decide (S=S')=b:=⟨_,rfl⟩;have CM:Hid (∀w',Bl W w'→Calls Tryz.prog 71 #[.slice am nm cm,.slice am' nm' cm'] w' fun e w''=>e=.returned (.bool bM)∧Bl w' w''):=by rw [← hM];exact fun w' k=>sU _ _ _ _ _ _ M M' w' (H1.out.keep k).mem.1 (H2.out.keep k).mem.1
 have CV:Hid (∀w',Bl W w'→Calls Tryz.prog 68 #[.slice av nv cv,.slice av' nv' cv'] w' fun e w''=>e=.returned (.bool bV)∧Bl w' w''):=by rw [← hV];exact fun w' k=>mO lo1 lo2 _ _ _ _ _ _ V V' w' (H1.out.keep k).levels (H2.out.keep k).levels
 have CS:Hid (∀w',Bl W w'→Calls Tryz.prog 72 #[.slice ak ns cs,.slice ak' ns' cs'] w' fun e w''=>e=.returned (.bool bS)∧Bl w' w''):=by rw [← hS];exact fun w' k=>yr lo1 lo2 _ _ _ _ _ _ S S' w' (H1.out.keep k).snaps (H2.out.keep k).snaps
 have HR:Hid (eG q M V S q' M' V' S'=(decide (q=q') && (bM && (bV && bS)))):=by rw [← hM,← hV,← hS];rfl
 rw [HR.out];clear hM hV hS H1 H2 HR;by_cases hq:q=q'
 · subst hq;go_enter Tryz.func38,Tryz.ntmps38
   go_wp2_with fail
   rw [← hW];clear hW;refine (CM.out _ (Below.refl _ _)).mono ?_;rintro e w1 ⟨rfl,hb1⟩;have x2:=cell_later hb1 x2;have x3:=cell_later hb1 x3;have y2:=cell_later hb1 y2;have y3:=cell_later hb1 y3;have z1:=World.block_lt_of_cell? _ _ x2;have z2:=World.block_lt_of_cell? _ _ y2;simp only at z1 z2;have K1:Hid (Bl W w1):=hb1;clear hb1;cases bM with
   | false =>
    go_wp2;go_ret;exact ⟨aj (by simp),HB.out.trans (K1.out.mono HB.out.size)⟩
   | true =>
    go_wp2_with fail
    refine (CV.out _ K1.out).mono ?_;rintro e w2 ⟨rfl,hb2⟩;have x3:=cell_later hb2 x3;have y3:=cell_later hb2 y3;have z1:=World.block_lt_of_cell? _ _ x3;have z2:=World.block_lt_of_cell? _ _ y3;simp only at z1 z2;have K2:Hid (Bl W w2):=K1.out.trans (hb2.mono K1.out.size);clear hb2 K1;cases bV with
    | false =>
     go_wp2;go_ret;exact ⟨aj (by simp),HB.out.trans (K2.out.mono HB.out.size)⟩
    | true =>
     go_wp2_with fail
     refine (CS.out _ K2.out).mono ?_;rintro e w3 ⟨rfl,hb3⟩;have K3:Hid (Bl W w3):=K2.out.trans (hb3.mono K2.out.size);clear hb3 K2;go_wp2;go_ret;exact ⟨aj (by simp),HB.out.trans (K3.out.mono HB.out.size)⟩
 · have hd:(q == q')=false:=by simpa using hq
   have HQ:Hid (¬q=q'):=hq;clear hq CM CV CS x2 x3 y2 y3;go_enter Tryz.func38,Tryz.ntmps38
   go_wp2;go_ret;rw [← hW];exact ⟨aj (by simp [HQ.out]),HB.out⟩
theorem qd (q q':Int) (lo1 lo2:Nat) (am av ak:Option Addr) (nm cm nv cv ns cs:Nat) (am' av' ak':Option Addr) (nm' cm' nv' cv' ns' cs':Nat) (M:List ae) (V:List (List aq)) (S:List Int) (M':List ae) (V':List (List aq)) (S':List Int) (w:World) (h1:aX lo1 w am nm cm av nv cv ak ns cs M V S) (h2:aX lo2 w am' nm' cm' av' nv' cv' ak' ns' cs' M' V' S') :
 Calls Tryz.prog 80 #[.agg #[iT q,.slice am nm cm,.slice av nv cv,.slice ak ns cs],.agg #[iT q',.slice am' nm' cm',.slice av' nv' cv',.slice ak' ns' cs']] w fun e w'=>e=.returned (.bool (eG q M V S q' M' V' S'))∧Bl w w':=by
 obtain ⟨W,hW⟩:=aw ((w.alloc (.cells #[iT q,.slice am nm cm,.slice av nv cv,.slice ak ns cs] 36)).alloc (.cells #[iT q',.slice am' nm' cm',.slice av' nv' cv',.slice ak' ns' cs'] 36));have hB:Bl w W:=by rw [hW];exact bZ.alloc (by simp) _
 have x2:W.cell? ⟨w.heap.size,2,none⟩=some (.slice av nv cv):=by rw [hW];simp
 have x3:W.cell? ⟨w.heap.size,3,none⟩=some (.slice ak ns cs):=by rw [hW];simp
 have y2:W.cell? ⟨w.heap.size+1,2,none⟩=some (.slice av' nv' cv'):=by rw [hW];simp
 have y3:W.cell? ⟨w.heap.size+1,3,none⟩=some (.slice ak' ns' cs'):=by rw [hW];simp
 have H1:Hid (aX lo1 W am nm cm av nv cv ak ns cs M V S):=h1.keep hB;have H2:Hid (aX lo2 W am' nm' cm' av' nv' cv' ak' ns' cs' M' V' S'):=h2.keep hB;have HB:Hid (Bl w W):=hB;clear h1 h2 hB;obtain ⟨bM,hM⟩:∃b,decide (M=M')=b:=⟨_,rfl⟩;obtain ⟨bV,hV⟩:∃b,decide (V=V')=b:=⟨_,rfl⟩;obtain ⟨bS,hS⟩:∃b,decide (S=S')=b:=⟨_,rfl⟩;have CM:Hid (∀w',Bl W w'→Calls Tryz.prog 114 #[.slice am nm cm,.slice am' nm' cm'] w' fun e w''=>e=.returned (.bool bM)∧Bl w' w''):=by rw [← hM];exact fun w' k=>lA _ _ _ _ _ _ M M' w' (H1.out.keep k).mem.1 (H2.out.keep k).mem.1
 have CV:Hid (∀w',Bl W w'→Calls Tryz.prog 84 #[.slice av nv cv,.slice av' nv' cv',.func (.func 85) #[] #[]] w' fun e w''=>e=.returned (.bool bV)∧Bl w' w''):=by rw [← hV];exact fun w' k=>lO lo1 lo2 _ _ _ _ _ _ V V' w' (H1.out.keep k).levels (H2.out.keep k).levels
 have CS:Hid (∀w',Bl W w'→Calls Tryz.prog 115 #[.slice ak ns cs,.slice ak' ns' cs'] w' fun e w''=>e=.returned (.bool bS)∧Bl w' w''):=by rw [← hS];exact fun w' k=>vN lo1 lo2 _ _ _ _ _ _ S S' w' (H1.out.keep k).snaps (H2.out.keep k).snaps
 have HR:Hid (eG q M V S q' M' V' S'=(decide (q=q') && (bM && (bV && bS)))):=by rw [← hM,← hV,← hS];rfl
 rw [HR.out];clear hM hV hS H1 H2 HR;by_cases hq:q=q'
 · subst hq;go_enter Tryz.func80,Tryz.ntmps80
   go_wp2_with fail
   rw [← hW];clear hW;refine (CM.out _ (Below.refl _ _)).mono ?_;rintro e w1 ⟨rfl,hb1⟩;have x2:=cell_later hb1 x2;have x3:=cell_later hb1 x3;have y2:=cell_later hb1 y2;have y3:=cell_later hb1 y3;have z1:=World.block_lt_of_cell? _ _ x2;have z2:=World.block_lt_of_cell? _ _ y2;simp only at z1 z2;have K1:Hid (Bl W w1):=hb1;clear hb1;cases bM with
   | false =>
    go_wp2;go_ret;exact ⟨aj (by simp),HB.out.trans (K1.out.mono HB.out.size)⟩
   | true =>
    go_wp2_with fail
    refine (CV.out _ K1.out).mono ?_;rintro e w2 ⟨rfl,hb2⟩;have x3:=cell_later hb2 x3;have y3:=cell_later hb2 y3;have z1:=World.block_lt_of_cell? _ _ x3;have z2:=World.block_lt_of_cell? _ _ y3;simp only at z1 z2;have K2:Hid (Bl W w2):=K1.out.trans (hb2.mono K1.out.size);clear hb2 K1;cases bV with
    | false =>
     go_wp2;go_ret;exact ⟨aj (by simp),HB.out.trans (K2.out.mono HB.out.size)⟩
    | true =>
     go_wp2_with fail
     refine (CS.out _ K2.out).mono ?_;rintro e w3 ⟨rfl,hb3⟩;have K3:Hid (Bl W w3):=K2.out.trans (hb3.mono K2.out.size);clear hb3 K2;go_wp2;go_ret;exact ⟨aj (by simp),HB.out.trans (K3.out.mono HB.out.size)⟩
 · have hd:(q == q')=false:=by simpa using hq
   have HQ:Hid (¬q=q'):=hq;clear hq CM CV CS x2 x3 y2 y3;go_enter Tryz.func80,Tryz.ntmps80
   go_wp2;go_ret;rw [← hW];exact ⟨aj (by simp [HQ.out]),HB.out⟩
def tG (k:Nat) (n:Nat) (sd:Int) (P:List (List ae)) (q:Int) (M:List ae):Bool:=decide (k=n) && (decide (bh sd P=q) && decide (bg (P.map (aS sd)).flatten=M))
def LgE (lg:ByteArray) (sd q:Int) (M:List ae) (w:World) (e:Ending) (w':World):Prop:=∃(P:List (List ae)) (k:Nat),ce lg.data.toList P k∧e=.returned (.bool (tG k lg.size sd P q M))∧Bl w w'
theorem vW (q:Int) (am ak:Option Addr) (nm cm nk ck:Nat) (a0 a1 a2:Option Addr) (n0 c0 n1 c1 n2 c2:Nat) (M:List ae) (lg:ByteArray) (sf sd:Int) (d0 d1 d2:Option Addr) (m0 e0 m1 e1 m2 e2:Nat) (w:World) (hM:an w am nm cm M) (hlg:lg.size≤1048576) (hE:iy w.heap.size w) (hT:kQ w.heap.size w) :
 Calls Tryz.prog 86 #[.agg #[.bool true,iT q,.slice am nm cm,.slice a0 n0 c0,.slice a1 n1 c1,.slice a2 n2 c2,.slice ak nk ck,.string lg,iT sf,.slice d0 m0 e0,.slice d1 m1 e1,.slice d2 m2 e2,iT sd]] w (LgE lg sd q M w):=by
 obtain ⟨X,hX⟩:=aw w.heap.size;obtain ⟨W,hW⟩:=aw (w.alloc (.cells #[.bool true,iT q,.slice am nm cm,.slice a0 n0 c0,.slice a1 n1 c1,.slice a2 n2 c2,.slice ak nk ck,.string lg,iT sf,.slice d0 m0 e0,.slice d1 m1 e1,.slice d2 m2 e2,iT sd] 90));have kW:Bl w W:=by rw [hW];exact bZ
 have bx:aH W X (.bool true) (iT q) (.slice am nm cm) (.slice a0 n0 c0) (.slice a1 n1 c1) (.slice a2 n2 c2) (.slice ak nk ck) (.string lg) (iT sf) (.slice d0 m0 e0) (.slice d1 m1 e1) (.slice d2 m2 e2) (iT sd):=by rw [hW,hX];exact aH.new _ _ _ _ _ _ _ _ _ _ _ _ _ _ _
 have HBX:=ar bx;have HKW:=ar kW;have HM:=ar (hM.keep kW);have CR:=kB lg sf sd d0 d1 d2 m0 e0 m1 e1 m2 e2 W hlg (fun w' kk=>hE w' (kW.trans (kk.mono kW.size))) (fun w' kk=>hT w' (kW.trans (kk.mono kW.size)));have x7:=bx.all;clear kW bx hE hT hM;go_enter Tryz.func86,Tryz.ntmps86
 go_upto_region 1 with fail
 rw [← hX,← hW];clear hX hW;go_wp2_with fail
 refine CR.mono ?_;rintro e w1 ⟨P,k,g,N,hwh,hN,rfl,hEn,hb1⟩;have HWH:=ar hwh;have HE1:=ar hEn;have HB1:=ar hb1;clear hwh hN hEn hb1 CR x7;go_upto_region 2 with fail
 obtain ⟨LQ,hLQ⟩:=aw (bh sd P);have HLQ:=ar hLQ;obtain ⟨SL,hSL⟩:=aw (bg (P.map (aS sd)).flatten);have HSL:=ar hSL;rw [← hLQ];obtain ⟨w2,hw2⟩:=aw (w1.alloc (.cells #[iT LQ,sL g N N,.slice d0 m0 e0,.slice d1 m1 e1,.slice d2 m2 e2,nZ] 86));obtain ⟨Y,hY⟩:=aw w1.heap.size;have k2:Bl w1 w2:=by rw [hw2];exact bZ
 have HK2:Hid (Bl W w2):=HB1.out.trans (k2.mono HB1.out.size);have by2:aR w2 Y (iT LQ) (sL g N N) (.slice d0 m0 e0) (.slice d1 m1 e1) (.slice d2 m2 e2) nZ:=by rw [hw2,hY];exact aR.new _ _ _ _ _ _ _ _
 have HXL:=HBX.out.keep HK2.out;have x1:=HXL.all;have y0:=by2.c0;have y1:=by2.c1;have yz:=by2.lt;have he2:=HE1.out.keep k2;rw [← hSL] at he2;have CE:=lA (pT g) am N N nm cm SL M w2 he2 (HM.out.keep HK2.out);have HKF:Hid (Bl w w2):=HKW.out.trans (HK2.out.mono HKW.out.size);rw [← hw2,← hY];have HR:Hid (∀b,b=(decide (k=lg.size) && (decide (LQ=q) && decide (SL=M)))→b=tG k lg.size sd P q M):=fun b hb=>by rw [hb,HLQ.out,HSL.out];rfl
 clear hw2 hY k2 by2 he2 hLQ hSL HXL HE1;by_cases h1:k=lg.size
 · have h1I:(k:Int)=(lg.size:Int):=by omega
   have h1b:((k:Int) == (lg.size:Int))=true:=by simpa using h1I
   by_cases h2:LQ=q
   · have h2b:(LQ == q)=true:=by simpa using h2
     have hd:(decide (k=lg.size) && (decide (LQ=q) && decide (SL=M)))=decide (SL=M):=by simp [h1,h2]
     rw [hd] at HR;have HR2:=ar (HR.out _ rfl);clear HR;obtain ⟨kk,hkk⟩:∃kk:Int,kk=(k:Int):=⟨_,rfl⟩;rw [← hkk] at h1I h1b ⊢;clear h1 h2 hd hkk;go_wp2_with fail
     refine CE.mono ?_;rintro e w3 ⟨rfl,hb3⟩;go_wp2;go_ret;exact ⟨P,k,HWH.out,by rw [HR2.out];rfl,HKF.out.trans (hb3.mono HKF.out.size)⟩
   · have h2b:(LQ == q)=false:=by simpa using h2
     have hd:(decide (k=lg.size) && (decide (LQ=q) && decide (SL=M)))=false:=by simp [h2]
     rw [hd] at HR;have HR2:=ar (HR.out _ rfl);clear HR hd CE;go_wp2;go_ret;exact ⟨P,k,HWH.out,by rw [HR2.out];rfl,HKF.out⟩
 · have h1I:¬(k:Int)=(lg.size:Int):=by omega
   have h1b:((k:Int) == (lg.size:Int))=false:=by simpa using h1I
   have hd:(decide (k=lg.size) && (decide (LQ=q) && decide (SL=M)))=false:=by simp [h1]
   rw [hd] at HR;have HR2:=ar (HR.out _ rfl);clear HR hd CE;go_wp2;go_ret;exact ⟨P,k,HWH.out,by rw [HR2.out];rfl,HKF.out⟩
theorem kG (w:World) (a:Option Addr):an w a 0 0 []:=⟨rfl,Nat.le_refl _,Nat.zero_le _,by simp,fun _=>rfl,(fun _ _ h=>absurd h (Nat.lt_irrefl _)),fun _ _ _ h=>absurd h (Nat.not_lt_zero _)⟩
theorem gz (lo:Nat) (w:World) (a:Option Addr):bC lo w a 0 0 []:=⟨rfl,Nat.le_refl _,Nat.zero_le _,by simp,fun _=>rfl,(fun _ _ h=>absurd h (Nat.lt_irrefl _)),fun _ _ _ h=>absurd h (Nat.not_lt_zero _)⟩
def uO (lo:Nat) (w:World) (a0:Option Addr) (n0 c0:Nat) (a1:Option Addr) (n1 c1:Nat) (a2:Option Addr) (n2 c2:Nat) (U:List (List aq)):Prop:=∃A B C,U=[A,B,C]∧aF lo w a0 n0 c0 A∧aF lo w a1 n1 c1 B∧aF lo w a2 n2 c2 C
theorem uO.keep {w':World} {a0 a1 a2:Option Addr} {n0 c0 n1 c1 n2 c2:Nat} (h:uO lo w a0 n0 c0 a1 n1 c1 a2 n2 c2 U) (hb:Bl w w'):uO lo w' a0 n0 c0 a1 n1 c1 a2 n2 c2 U:=by
 obtain ⟨A,B,C,h1,h2,h3,h4⟩:=h;exact ⟨A,B,C,h1,h2.keep hb,h3.keep hb,h4.keep hb⟩
def ShT (lo:Nat) (sd:Int) (U:List (List aq)) (w W:World) (e:Ending) (w':World):Prop:=∃(z:Int) (a0 a1 a2:Option Addr) (n0 c0 n1 c1 n2 c2:Nat),e=.returned (.tuple #[.agg #[iT z,nZ,.slice a0 n0 c0,.slice a1 n1 c1,.slice a2 n2 c2,nZ],.bool (bn sd [] U [])])∧(bn sd [] U []=true→uO lo w a0 n0 c0 a1 n1 c1 a2 n2 c2 U)∧Bl W w'
theorem Bb (lo:Nat) (sd:Int) (dv:Option Addr) (nd cd:Nat) (U:List (List aq)) (w W:World) (hU:au lo w dv nd cd U) (k:Bl w W) :
 Calls Tryz.prog 83 #[.agg #[iT sd,nZ,.slice dv nd cd,nZ]] W (ShT lo sd U w W):=by
 by_cases hn:nd=3
 · subst hn;obtain ⟨b,o,rfl,_⟩:=hU.form (by omega);obtain ⟨A,a0,n0,c0,hA,l0,hR0⟩:=hU.level (Below.refl _ w) 0 (by omega);obtain ⟨B,a1,n1,c1,hB,l1,hR1⟩:=hU.level (Below.refl _ w) 1 (by omega);obtain ⟨C,a2,n2,c2,hC,l2,hR2⟩:=hU.level (Below.refl _ w) 2 (by omega);have hL:=hU.length;have hV:U=[A,B,C]:=by
    match U,hL with
    | [x,y,z],_ =>
     simp only [List.getElem?_cons_zero,List.getElem?_cons_succ,Option.some.injEq] at hA hB hC;rw [hA,hB,hC]
   subst hV;refine (o9 lo sd none none 0 0 b o cd 0 0 [] A B C [] a0 a1 a2 n0 c0 n1 c1 n2 c2 W (kG W _) (gz lo W _) (hR0.keep k) (hR1.keep k) (hR2.keep k) (cell_later k (by simpa using l0)) (cell_later k l1) (cell_later k l2)).mono ?_;rintro e w' ⟨rfl,hb⟩;exact ⟨sd,a0,a1,a2,n0,c0,n1,c1,n2,c2,rfl,fun _=>⟨A,B,C,rfl,hR0,hR1,hR2⟩,hb⟩
 · refine (lQ sd none dv none 0 0 nd cd 0 0 W hn).mono ?_;rintro e w' ⟨rfl,hb⟩;have h0:bn sd [] U []=false:=fD (fun h=>hn (by
    have:=(bH h).2.2.2.2.2.1;rw [hU.length] at this;exact this))
   exact ⟨0,none,none,none,0,0,0,0,0,0,by rw [h0],(fun h=>by rw [h0] at h;cases h),hb⟩
def iR (lg:ByteArray) (sf sd:Int) (U:List (List aq)):Bool:=bn sd [] U [] && (decide (lg.size≤12000) && (decide (0≤sf) && decide (sf≤(lg.size:Int))))
def Ck (lo:Nat) (lg:ByteArray) (sf sd:Int) (U:List (List aq)) (u w:World) (e:Ending) (w':World):Prop:=∃(a0 a1 a2:Option Addr) (n0 c0 n1 c1 n2 c2:Nat),e=.returned (.tuple #[.agg #[.string lg,iT sf,.slice a0 n0 c0,.slice a1 n1 c1,.slice a2 n2 c2,iT sd],.bool (iR lg sf sd U)])∧(iR lg sf sd U=true→uO lo u a0 n0 c0 a1 n1 c1 a2 n2 c2 U)∧Bl w w'
theorem oc (lo:Nat) (lg:ByteArray) (sf sd:Int) (dv:Option Addr) (nd cd:Nat) (U:List (List aq)) (u w:World) (hU:au lo u dv nd cd U) (ku:Bl u w) :
 Calls Tryz.prog 79 #[.agg #[.string lg,iT sf,.slice dv nd cd,iT sd]] w (Ck lo lg sf sd U u w):=by
 obtain ⟨X,hX⟩:=aw w.heap.size;obtain ⟨W,hW⟩:=aw ((w.alloc (.cells #[.string lg,iT sf,.slice dv nd cd,iT sd] 38)).alloc (.cells #[.string ⟨#[]⟩,iT 0,nZ,nZ,nZ,iT 0] 88));have kW:Bl w W:=by rw [hW];exact bZ.alloc (by simp) _
 have bx:bf W X (.string lg) (iT sf) (.slice dv nd cd) (iT sd):=by rw [hW,hX];exact (bf.new _ _ _ _ _ _).alloc _
 have br:aR W (X+1) (.string ⟨#[]⟩) (iT 0) nZ nZ nZ (iT 0):=by
  have:=aR.new (w.alloc (.cells #[.string lg,iT sf,.slice dv nd cd,iT sd] 38)) 88 (.string ⟨#[]⟩) (iT 0) nZ nZ nZ (iT 0);rw [World.size_alloc] at this;rw [hW,hX];exact this
 have HXW:=ar hX;have HBX:=ar bx;have HBR:=ar br;have HKW:=ar kW;have CT:=Bb lo sd dv nd cd U u W hU (ku.trans (kW.mono ku.size));have HU:=ar hU;have x0:=bx.all;clear kW bx br hU ku;go_enter Tryz.func79,Tryz.ntmps79
 go_upto_region 1 with fail
 rw [← hX,← hW];clear hX hW;go_wp2_with fail
 refine CT.mono ?_;rintro e w1 ⟨z,a0,a1,a2,n0,c0,n1,c1,n2,c2,rfl,hlv,hb1⟩;obtain ⟨TB,hTB⟩:=aw (bn sd [] U []);have HTB:=ar hTB;rw [← hTB];have HB1:=ar hb1;have HLW:=ar hlv;clear hlv hb1 hTB CT x0;go_upto_region 2 with fail
 obtain ⟨w2,hw2⟩:=aw (w1.alloc (.cells #[iT z,nZ,.slice a0 n0 c0,.slice a1 n1 c1,.slice a2 n2 c2,nZ] 86));obtain ⟨Y,hY⟩:=aw w1.heap.size;have k2:Bl w1 w2:=by rw [hw2];exact bZ
 have HK2:Hid (Bl W w2):=HB1.out.trans (k2.mono HB1.out.size);have by2:aR w2 Y (iT z) nZ (.slice a0 n0 c0) (.slice a1 n1 c1) (.slice a2 n2 c2) nZ:=by rw [hw2,hY];exact aR.new _ _ _ _ _ _ _ _
 have bx2:=HBX.out.keep HK2.out;have br2:=HBR.out.keep HK2.out;have x0:=bx2.all;have y2:=by2.all;have r0:=br2.all;have hyx:Y≠X+1:=by
  have h1:=HBR.out.lt;have h2:=HB1.out.size;omega
 have hlw2:TB=true→uO lo u a0 n0 c0 a1 n1 c1 a2 n2 c2 U:=fun h=>HLW.out (by rw [← HTB.out];exact h)
 obtain ⟨DB,hDB⟩:=aw (iR lg sf sd U);have HDB:=ar hDB;have hdb2:DB=(TB && (decide (lg.size≤12000) && (decide (0≤sf) && decide (sf≤(lg.size:Int))))):=by rw [hDB,HTB.out];rfl
 rw [← hw2,← hY];clear hw2 hY k2 by2 hDB HLW HTB;have HBR2:=ar br2;have hx1:w.heap.size≤X+1:=by have:=HXW.out;omega
 obtain ⟨wz,hwz⟩:=aw ((((((w2.setCell ⟨X+1,0,none⟩ (.string lg)).setCell ⟨X+1,1,none⟩ (iT sf)).setCell ⟨X+1,2,none⟩ (.slice a0 n0 c0)).setCell ⟨X+1,3,none⟩ (.slice a1 n1 c1)).setCell ⟨X+1,4,none⟩ (.slice a2 n2 c2)).setCell ⟨X+1,5,none⟩ (iT sd));have HKZ:Hid (Bl w wz):=by
  rw [hwz];exact ((((((HKW.out.trans (HK2.out.mono HKW.out.size)).setCell (p:=⟨X+1,0,none⟩) hx1 _).setCell (p:=⟨X+1,1,none⟩) hx1 _).setCell (p:=⟨X+1,2,none⟩) hx1 _).setCell (p:=⟨X+1,3,none⟩) hx1 _).setCell (p:=⟨X+1,4,none⟩) hx1 _).setCell (p:=⟨X+1,5,none⟩) hx1 _
 have HRZ:Hid (aR wz (X+1) (.string lg) (iT sf) (.slice a0 n0 c0) (.slice a1 n1 c1) (.slice a2 n2 c2) (iT sd)):=by
  rw [hwz];exact (((((br2.set0 _).set1 _).set2 _).set3 _).set4 _).set5 _
 have HFIN:Hid (∀b,b=DB→Ck lo lg sf sd U u w (.returned (.tuple #[.agg #[.string lg,iT sf,.slice a0 n0 c0,.slice a1 n1 c1,.slice a2 n2 c2,iT sd],.bool b])) wz):=fun b hb=>by
  refine ⟨a0,a1,a2,n0,c0,n1,c1,n2,c2,by rw [hb,HDB.out],fun h=>?_,HKZ.out⟩;rw [← HDB.out,hdb2,Bool.and_eq_true] at h;exact hlw2 h.1
 have hcs:(TB=false∧DB=false)∨(TB=true∧¬lg.size≤12000∧DB=false)∨(TB=true∧lg.size≤12000∧¬0≤sf∧DB=false)∨(TB=true∧lg.size≤12000∧0≤sf∧¬sf≤(lg.size:Int)∧DB=false)∨(TB=true∧lg.size≤12000∧0≤sf∧sf≤(lg.size:Int)∧DB=true):=by
  cases TB with
  | false=>exact Or.inl ⟨rfl,by rw [hdb2];rfl⟩
  | true =>
   by_cases e1:lg.size≤12000
   · by_cases e2:0≤sf
     · by_cases e3:sf≤(lg.size:Int)
       · exact Or.inr (Or.inr (Or.inr (Or.inr ⟨rfl,e1,e2,e3,by rw [hdb2];simp [e1,e2,e3]⟩)))
       · exact Or.inr (Or.inr (Or.inr (Or.inl ⟨rfl,e1,e2,e3,by rw [hdb2];simp [e1,e2,e3]⟩)))
     · exact Or.inr (Or.inr (Or.inl ⟨rfl,e1,e2,by rw [hdb2];simp [e1,e2]⟩))
   · exact Or.inr (Or.inl ⟨rfl,e1,by rw [hdb2];simp [e1]⟩)
 have HWZ:=ar hwz;clear hdb2 br2 bx2 hwz hyx hx1 hlw2;rcases hcs with ⟨rfl,h9⟩ | ⟨rfl,e1,h9⟩ | ⟨rfl,e1,e2,h9⟩ | ⟨rfl,e1,e2,e3,h9⟩ | ⟨rfl,e1,e2,e3,h9⟩
 · have HF:=ar (HFIN.out _ h9.symm);clear h9 HFIN;go_wp2;rw [← HWZ.out];have e:=HRZ.out;refine bodyPost_ret (v:=.tuple #[.agg #[.string lg,iT sf,.slice a0 n0 c0,.slice a1 n1 c1,.slice a2 n2 c2,iT sd],.bool false]) ?_ rfl HF.out;simp [results,Tryz.results79,go_sem,e.all]
 · have e1I:¬(lg.size:Int)≤12000:=by omega
   have HF:=ar (HFIN.out _ h9.symm);clear h9 HFIN;go_wp2;rw [← HWZ.out];have e:=HRZ.out;refine bodyPost_ret (v:=.tuple #[.agg #[.string lg,iT sf,.slice a0 n0 c0,.slice a1 n1 c1,.slice a2 n2 c2,iT sd],.bool false]) ?_ rfl HF.out;simp [results,Tryz.results79,go_sem,e.all]
 · have e1I:(lg.size:Int)≤12000:=by omega
   have HF:=ar (HFIN.out _ h9.symm);clear h9 HFIN;go_wp2;rw [← HWZ.out];have e:=HRZ.out;refine bodyPost_ret (v:=.tuple #[.agg #[.string lg,iT sf,.slice a0 n0 c0,.slice a1 n1 c1,.slice a2 n2 c2,iT sd],.bool false]) ?_ rfl HF.out;simp [results,Tryz.results79,go_sem,e.all]
 · have e1I:(lg.size:Int)≤12000:=by omega
   have HF:=ar (HFIN.out _ h9.symm);clear h9 HFIN;go_wp2;rw [← HWZ.out];have e:=HRZ.out;refine bodyPost_ret (v:=.tuple #[.agg #[.string lg,iT sf,.slice a0 n0 c0,.slice a1 n1 c1,.slice a2 n2 c2,iT sd],.bool false]) ?_ rfl HF.out;simp [results,Tryz.results79,go_sem,e.all]
 · have e1I:(lg.size:Int)≤12000:=by omega
   have HF:=ar (HFIN.out _ h9.symm);clear h9 HFIN;go_wp2;rw [← HWZ.out];have e:=HRZ.out;refine bodyPost_ret (v:=.tuple #[.agg #[.string lg,iT sf,.slice a0 n0 c0,.slice a1 n1 c1,.slice a2 n2 c2,iT sd],.bool true]) ?_ rfl HF.out;simp [results,Tryz.results79,go_sem,e.all]
structure AT (M:List ae) (V:List (List aq)) (S:List Int) (lg:ByteArray) (U:List (List aq)):Prop where
 bm:M.length≤1048576
 bk:S.length≤1048576
 em:fj M
 bv:∀B ∈ V,eF B∧er B
 bl:lg.size≤281474976710656
 bu:∀B ∈ U,eF B∧er B
theorem iZ.upper {gs bs:Nat→Nat} {es:Nat→Nat→Nat} (h:iZ lo hi w am nm av nv ak ns M V S gs bs es) (h2:hi≤hi'):iZ lo hi' w am nm av nv ak ns M V S gs bs es:=by
 rcases h with ⟨b1,b2,b3,h1,h2',h3,h4⟩ | h
 · exact .inl ⟨b1,b2,b3,h1,h2',h3,h4.upper h2⟩
 · exact .inr h
theorem gH.lower {gd bd:Nat→Nat} {ed:Nat→Nat→Nat} (h:gH lo hi w d nd U gd bd ed) (h1:lo'≤lo):gH lo' hi w d nd U gd bd ed:=by
 rcases h with ⟨b,h2,h3⟩ | h
 · exact .inl ⟨b,h2,h3.lower h1 (Nat.le_refl _)⟩
 · exact .inr h
theorem fV.widen {x:Wh} (h:fV lo hi w am nm av nv ak ns d nd M V S U x) (h1:lo'≤lo) (h2:hi≤hi'):fV lo' hi' w am nm av nv ak ns d nd M V S U x :=
 ⟨⟨Nat.le_trans h1 h.ord.1,Nat.le_trans h.ord.2 h2⟩,h.tree.upper h2,h.disk.lower h1⟩
theorem yG (lo hi:Nat) (w:World) (h:lo≤hi):fV lo hi w none 0 none 0 none 0 none 0 [] [] [] [] ⟨lo,fun _=>0,fun _=>0,fun _ _=>0,fun _=>0,fun _=>0,fun _ _=>0⟩ :=
 ⟨⟨Nat.le_refl _,h⟩,.inr ⟨rfl,rfl,rfl,rfl,rfl,rfl,rfl,rfl,rfl⟩,.inr ⟨rfl,rfl,rfl⟩⟩
theorem uI (lo:Nat) (lg:ByteArray) (sf sd:Int) (a0 a1 a2:Option Addr) (n0 c0 n1 c1 n2 c2:Nat) (U:List (List aq)) (w:World) (h:uO lo w a0 n0 c0 a1 n1 c1 a2 n2 c2 U) (hl:lg.size≤281474976710656) (hb:∀B ∈ U,eF B∧er B) :
 Calls Tryz.prog 88 #[.agg #[.string lg,iT sf,.slice a0 n0 c0,.slice a1 n1 c1,.slice a2 n2 c2,iT sd]] w (AV lg sf sd U w):=by
 obtain ⟨A,B,C,rfl,h0,h1,h2⟩:=h;exact Ad lo lg sf sd a0 a1 a2 n0 c0 n1 c1 n2 c2 A B C w h0 h1 h2 hl (hb A (by simp)).1 (hb B (by simp)).1 (hb C (by simp)).1 (hb A (by simp)).2 (hb B (by simp)).2 (hb C (by simp)).2
theorem BQ (lo:Nat) (q:Int) (am ak:Option Addr) (nm cm nk ck:Nat) (a0 a1 a2:Option Addr) (n0 c0 n1 c1 n2 c2:Nat) (M:List ae) (V:List (List aq)) (S:List Int) (lg:ByteArray) (sf sd:Int) (d0 d1 d2:Option Addr) (m0 e0 m1 e1 m2 e2:Nat) (U:List (List aq)) (w:World)
 (hM:an w am nm cm M) (hS:bC lo w ak nk ck S) (hV:uO lo w a0 n0 c0 a1 n1 c1 a2 n2 c2 V) (hU:uO lo w d0 m0 e0 d1 m1 e1 d2 m2 e2 U) (ho:AT M V S lg U) :
 Calls Tryz.prog 49 #[.agg #[.bool true,iT q,.slice am nm cm,.slice a0 n0 c0,.slice a1 n1 c1,.slice a2 n2 c2,.slice ak nk ck,.string lg,iT sf,.slice d0 m0 e0,.slice d1 m1 e1,.slice d2 m2 e2,iT sd]] w (BJ true q M V S lg sf sd U w):=by
 obtain ⟨A,B,C,rfl,h0,h1,h2⟩:=hV;refine (pt true q am ak nm cm nk ck a0 a1 a2 n0 c0 n1 c1 n2 c2 M A B C S lg sf sd d0 d1 d2 m0 e0 m1 e1 m2 e2 U w
  (fun w' k=>su lo q am ak nm cm nk ck a0 a1 a2 n0 c0 n1 c1 n2 c2 M A B C S w' (hM.keep k) (hS.keep k) (h0.keep k) (h1.keep k) (h2.keep k) (by have:=hM.length;have:=ho.bm;omega) (by have:=hS.length;have:=ho.bk;omega) ho.em (ho.bv A (by simp)).1 (ho.bv B (by simp)).1 (ho.bv C (by simp)).1 (ho.bv A (by simp)).2 (ho.bv B (by simp)).2 (ho.bv C (by simp)).2)
  (fun w' k=>uI lo lg sf sd d0 d1 d2 m0 e0 m1 e1 m2 e2 U w' (hU.keep k) ho.bl ho.bu)).mono ?_
 rintro e w' ⟨h,_⟩;obtain ⟨eb,vb,sb,ub,m,gs,bs,es,gd,bd,ed,rfl,h3,h4,h5,h6⟩:=h rfl;exact ⟨_,_,_,_,_,_,_,_,⟨m,gs,bs,es,gd,bd,ed⟩,rfl,⟨h5,.inl ⟨eb,vb,sb,rfl,rfl,rfl,h4⟩,.inl ⟨ub,rfl,h3⟩⟩,h6⟩
theorem mP (lo:Nat) (w:World):aF lo w none 0 0 []:=⟨rfl,Nat.le_refl _,Nat.zero_le _,fun _=>rfl,(fun x e=>by cases e),(fun x e=>by cases e)⟩
theorem Bm (lo:Nat) (lg:ByteArray) (sf sd:Int) (d0 d1 d2:Option Addr) (m0 e0 m1 e1 m2 e2:Nat) (U:List (List aq)) (w:World) (hU:uO lo w d0 m0 e0 d1 m1 e1 d2 m2 e2 U) (hl:lg.size≤281474976710656) (hb:∀B ∈ U,eF B∧er B) :
 Calls Tryz.prog 49 #[.agg #[.bool false,iT 0,nZ,nZ,nZ,nZ,nZ,.string lg,iT sf,.slice d0 m0 e0,.slice d1 m1 e1,.slice d2 m2 e2,iT sd]] w (BJ false 0 [] [] [] lg sf sd U w):=by
 have hn:eF []∧er []:=⟨⟨by simp,(fun p hp=>by cases hp)⟩,(fun p hp=>by cases hp)⟩;refine (pt false 0 none none 0 0 0 0 none none none 0 0 0 0 0 0 [] [] [] [] [] lg sf sd d0 d1 d2 m0 e0 m1 e1 m2 e2 U w
  (fun w' _=>su 0 0 none none 0 0 0 0 none none none 0 0 0 0 0 0 [] [] [] [] [] w' (kG w' _) (gz 0 w' _) (mP 0 w') (mP 0 w') (mP 0 w') (by omega) (by omega) (fun e he=>by cases he) hn.1 hn.1 hn.1 hn.2 hn.2 hn.2)
  (fun w' k=>uI lo lg sf sd d0 d1 d2 m0 e0 m1 e1 m2 e2 U w' (hU.keep k) hl hb)).mono ?_
 rintro e w' ⟨_,h⟩;obtain ⟨ub,gd,bd,ed,rfl,h3,h4⟩:=h rfl;exact ⟨_,_,_,_,_,_,_,_,⟨w'.heap.size,fun _=>0,fun _=>0,fun _ _=>0,gd,bd,ed⟩,rfl,⟨⟨h4.size,Nat.le_refl _⟩,.inr ⟨rfl,rfl,rfl,rfl,rfl,rfl,rfl,rfl,rfl⟩,.inl ⟨ub,rfl,h3⟩⟩,h4⟩
end Go.Proofs.YtehiefdphnljaaaGreatDoor
