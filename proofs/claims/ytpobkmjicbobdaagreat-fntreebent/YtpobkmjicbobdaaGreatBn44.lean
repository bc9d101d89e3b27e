/- Walks. -/
import Derived.Test.YtpobkmjicbobdaaGreatBn43
namespace Go.Proofs.YtpobkmjicbobdaaGreat
set_option maxRecDepth 100000
set_option maxHeartbeats 40000000
open Go.RowKit
variable {base c g i n:Nat} {w w':World}
theorem ue (lo1 lo2:Nat) (a1 a2:Option Addr) (n1 c1 n2 c2:Nat) (B1 B2:List (List ag)) (w:World) (h1:bH lo1 w a1 n1 c1 B1) (h2:bH lo2 w a2 n2 c2 B2) :
 Calls Tryz.prog 84 #[.slice a1 n1 c1,.slice a2 n2 c2] w fun e w'=>e=.returned (.bool (decide (B1=B2)))∧Bl w w':=by
 have HN1:Hid (B1.length=n1):=h1.length;have HN2:Hid (B2.length=n2):=h2.length;have hr1:=h1.room;have hb1:=h1.big;have hr2:=h2.room;have hb2:=h2.big;unfold maxLen at hb1 hb2;have H1:=b6 h1;have H2:=b6 h2;clear h1 h2;by_cases hn:n1=n2
 · subst hn;go_enter Tryz.func84,Tryz.ntmps84
   go_wp2;go_loopw [5] (fun i wr=>∃k:Nat,k≤n1∧i=iT k∧Bl w wr∧B1.take k=B2.take k) (fun i _=>n1 - (intOf i).toNat)
   case atStart=>exact ⟨0,Nat.zero_le _,rfl,Below.refl _ _,rfl⟩
   case round =>
    obtain ⟨k,hk,rfl,hb,heq⟩:=hrel;have HEQ:Hid (B1.take k=B2.take k):=heq;clear heq;by_cases hlt:k<n1
    · obtain ⟨x1,o1,rfl,hx1⟩:=H1.out.form (by omega);obtain ⟨x2,o2,rfl,hx2⟩:=H2.out.form (by omega);obtain ⟨B,s,n,c,hg,g0,hL⟩:=H1.out.level hb k hlt;obtain ⟨B',s',n',c',hg',q0,hL'⟩:=H2.out.level hb k hlt;have HG:Hid (B1[k]?=some B):=hg;have HG':Hid (B2[k]?=some B'):=hg';have hltI:(k:Int)<(n1:Int):=by omega
      have y1:x1<wr.heap.size:=Nat.lt_of_lt_of_le hx1 hb.size;have y2:x2<wr.heap.size:=Nat.lt_of_lt_of_le hx2 hb.size;have rn:=hL.room;have rb:=hL.big;have rn':=hL'.room;have rb':=hL'.big;unfold maxLen at rb rb';have HLN:Hid (B.length=n):=hL.length;have HLN':Hid (B'.length=n'):=hL'.length;have HL:Hid (az lo1 wr s n c B):=hL;have HL':Hid (az lo2 wr s' n' c' B'):=hL';clear hg hg' hL hL';by_cases hnn:n=n'
      · subst hnn;go_wp2_with fail
        go_quiet (fail)
        go_wp2;go_loopw [6] (fun i wq=>∃j:Nat,j≤n∧i=iT j∧Bl wr wq∧B.take j=B'.take j) (fun i _=>n - (intOf i).toNat)
        case atStart=>exact ⟨0,Nat.zero_le _,rfl,below_drewN (Below.refl _ _) _,rfl⟩
        case round =>
         obtain ⟨j,hj,rfl,hbq,heqj⟩:=hrel;have HEQJ:Hid (B.take j=B'.take j):=heqj;clear heqj;have g0:=cell_later hbq g0;have q0:=cell_later hbq q0;have y1:x1<wr.heap.size:=Nat.lt_of_lt_of_le y1 hbq.size;have y2:x2<wr.heap.size:=Nat.lt_of_lt_of_le y2 hbq.size;by_cases hjt:j<n
         · obtain ⟨u1,p1,rfl,hu1⟩:=HL.out.form (by omega);obtain ⟨u2,p2,rfl,hu2⟩:=HL'.out.form (by omega);obtain ⟨L,m,t,e,d,hG,_,r0,r1,hE⟩:=HL.out.run hbq j hjt;obtain ⟨L',m',t',e',d',hG',_,r0',r1',hE'⟩:=HL'.out.run hbq j hjt;have HGG:Hid (B[j]?=some (L,m)):=hG;have HGG':Hid (B'[j]?=some (L',m')):=hG';have hjtI:(j:Int)<(n:Int):=by omega
           have z1:u1<wr.heap.size:=Nat.lt_of_lt_of_le hu1 hbq.size;have z2:u2<wr.heap.size:=Nat.lt_of_lt_of_le hu2 hbq.size;have lk:=hE.1.keep ((Below.refl _ wr).drew);have lk':=hE'.1.keep ((Below.refl _ wr).drew);clear hG hG' hE hE';obtain ⟨q,hq⟩:∃q,decide (((L,m):ag)=(L',m'))=q:=⟨_,rfl⟩;have HQ:Hid (decide (((L,m):ag)=(L',m'))=q):=hq;clear hq;cases q with
           | true =>
            go_wp2_with fail
            go_region_with (go_at_call 141;refine (mC _ _ _ _ _ _ _ _ L L' _ lk lk').mono ?_;rw [gK,HQ.out];rintro e w1 ⟨rfl,hb1⟩)
            all_goals
             go_wp2;go_roundw
             case rel=>exact ⟨j+1,by omega,by go_num,hbq.drew.trans (hb1.mono hbq.size),eK HGG.out HGG'.out (of_decide_eq_true HQ.out) HEQJ.out⟩
             case measure=>simp [intOf];omega
           | false =>
            go_wp2_with fail
            go_region_with (go_at_call 141;refine (mC _ _ _ _ _ _ _ _ L L' _ lk lk').mono ?_;rw [gK,HQ.out];rintro e w1 ⟨rfl,hb1⟩)
            all_goals
             go_wp2;go_ret;exact ⟨af (decide_eq_false (f9 HG.out HG'.out (f9 HGG.out HGG'.out (of_decide_eq_false HQ.out)))).symm,hb.trans ((hbq.drew.trans (hb1.mono hbq.size)).mono hb.size)⟩
         · have hjtI:¬(j:Int)<(n:Int):=by omega
           have HBB:Hid (B=B'):=by
            have:=HEQJ.out;rw [List.take_of_length_le (by rw [HLN.out];omega),List.take_of_length_le (by rw [HLN'.out];omega)] at this;exact this
           go_wp2;go_roundw
           case rel=>exact ⟨k+1,by omega,by go_num,hb.trans (hbq.mono hb.size),eK HG.out HG'.out HBB.out HEQ.out⟩
           case measure=>simp [intOf];omega
      · have HBB:Hid (¬B=B'):=fun e=>hnn (by rw [← HLN.out,← HLN'.out,e])
        go_wp2_with fail
        go_quiet (fail)
        go_wp2;go_ret;exact ⟨af (decide_eq_false (f9 HG.out HG'.out HBB.out)).symm,below_drewN hb _⟩
    · go_wp2;go_ret;refine ⟨af (decide_eq_true ?_).symm,hb⟩;have:=HEQ.out;rw [List.take_of_length_le (by rw [HN1.out];omega),List.take_of_length_le (by rw [HN2.out];omega)] at this;exact this
 · go_enter Tryz.func84,Tryz.ntmps84
   go_wp2;go_ret;refine ⟨af (decide_eq_false ?_).symm,Below.refl _ _⟩;intro e;rw [e,HN2.out] at HN1;exact hn HN1.out.symm
def cY (q:Int) (M:List ac) (V:List (List ag)) (S:List Int) (q':Int) (M':List ac) (V':List (List ag)) (S':List Int):Bool:=decide (q=q') && (decide (M=M') && (decide (V=V') && decide (S=S')))
theorem ra (q q':Int) (lo1 lo2:Nat) (am av ak:Option Addr) (nm cm nv cv ns cs:Nat) (am' av' ak':Option Addr) (nm' cm' nv' cv' ns' cs':Nat) (M:List ac) (V:List (List ag)) (S:List Int) (M':List ac) (V':List (List ag)) (S':List Int) (w:World) (h1:bf lo1 w am nm cm av nv cv ak ns cs M V S) (h2:bf lo2 w am' nm' cm' av' nv' cv' ak' ns' cs' M' V' S') :
 Calls Tryz.prog 25 #[.agg #[iT q,.slice am nm cm,.slice av nv cv,.slice ak ns cs],.agg #[iT q',.slice am' nm' cm',.slice av' nv' cv',.slice ak' ns' cs']] w fun e w'=>e=.returned (.bool (cY q M V S q' M' V' S'))∧Bl w w':=by
 obtain ⟨W,hW⟩:=aS ((w.alloc (.cells #[iT q,.slice am nm cm,.slice av nv cv,.slice ak ns cs] 31)).alloc (.cells #[iT q',.slice am' nm' cm',.slice av' nv' cv',.slice ak' ns' cs'] 31));have hB:Bl w W:=by rw [hW];exact bZ.alloc (by simp) _
 have x2:W.cell? ⟨w.heap.size,2,none⟩=some (.slice av nv cv):=by rw [hW];simp
 have x3:W.cell? ⟨w.heap.size,3,none⟩=some (.slice ak ns cs):=by rw [hW];simp
 have y2:W.cell? ⟨w.heap.size+1,2,none⟩=some (.slice av' nv' cv'):=by rw [hW];simp
 have y3:W.cell? ⟨w.heap.size+1,3,none⟩=some (.slice ak' ns' cs'):=by rw [hW];simp
 have H1:Hid (bf lo1 W am nm cm av nv cv ak ns cs M V S):=h1.keep hB;have H2:Hid (bf lo2 W am' nm' cm' av' nv' cv' ak' ns' cs' M' V' S'):=h2.keep hB;have HB:Hid (Bl w W):=hB;clear h1 h2 hB;obtain ⟨bM,hM⟩:∃b,decide (M=M')=b:=⟨_,rfl⟩;obtain ⟨bV,hV⟩:∃b,decide (V=V')=b:=⟨_,rfl⟩;obtain ⟨bS,hS⟩:∃b,decide (S=S')=b:=⟨_,rfl⟩;have CM:Hid (∀w',Bl W w'→Calls Tryz.prog 83 #[.slice am nm cm,.slice am' nm' cm'] w' fun e w''=>e=.returned (.bool bM)∧Bl w' w''):=by rw [← hM];exact fun w' k=>yE _ _ _ _ _ _ M M' w' (H1.out.keep k).mem.1 (H2.out.keep k).mem.1
 have CV:Hid (∀w',Bl W w'→Calls Tryz.prog 84 #[.slice av nv cv,.slice av' nv' cv'] w' fun e w''=>e=.returned (.bool bV)∧Bl w' w''):=by rw [← hV];exact fun w' k=>ue lo1 lo2 _ _ _ _ _ _ V V' w' (H1.out.keep k).levels (H2.out.keep k).levels
 have CS:Hid (∀w',Bl W w'→Calls Tryz.prog 85 #[.slice ak ns cs,.slice ak' ns' cs'] w' fun e w''=>e=.returned (.bool bS)∧Bl w' w''):=by rw [← hS];exact fun w' k=>yD lo1 lo2 _ _ _ _ _ _ S S' w' (H1.out.keep k).snaps (H2.out.keep k).snaps
 have HR:Hid (cY q M V S q' M' V' S'=(decide (q=q') && (bM && (bV && bS)))):=by rw [← hM,← hV,← hS];rfl
 rw [HR.out];clear hM hV hS H1 H2 HR;by_cases hq:q=q'
 · subst hq;go_enter Tryz.func25,Tryz.ntmps25
   go_wp2_with fail
   rw [← hW];clear hW;refine (CM.out _ (Below.refl _ _)).mono ?_;rintro e w1 ⟨rfl,hb1⟩;have x2:=cell_later hb1 x2;have x3:=cell_later hb1 x3;have y2:=cell_later hb1 y2;have y3:=cell_later hb1 y3;have z1:=World.block_lt_of_cell? _ _ x2;have z2:=World.block_lt_of_cell? _ _ y2;simp only at z1 z2;have K1:Hid (Bl W w1):=hb1;clear hb1;cases bM with
   | false =>
    go_wp2;go_ret;exact ⟨af (by simp),HB.out.trans (K1.out.mono HB.out.size)⟩
   | true =>
    go_wp2_with fail
    refine (CV.out _ K1.out).mono ?_;rintro e w2 ⟨rfl,hb2⟩;have x3:=cell_later hb2 x3;have y3:=cell_later hb2 y3;have z1:=World.block_lt_of_cell? _ _ x3;have z2:=World.block_lt_of_cell? _ _ y3;simp only at z1 z2;have K2:Hid (Bl W w2):=K1.out.trans (hb2.mono K1.out.size);clear hb2 K1;cases bV with
    | false =>
     go_wp2;go_ret;exact ⟨af (by simp),HB.out.trans (K2.out.mono HB.out.size)⟩
    | true =>
     go_wp2_with fail
     refine (CS.out _ K2.out).mono ?_;rintro e w3 ⟨rfl,hb3⟩;have K3:Hid (Bl W w3):=K2.out.trans (hb3.mono K2.out.size);clear hb3 K2;go_wp2;go_ret;exact ⟨af (by simp),HB.out.trans (K3.out.mono HB.out.size)⟩
 · have hd:(q == q')=false:=by simpa using hq
   have HQ:Hid (¬q=q'):=hq;clear hq CM CV CS x2 x3 y2 y3;go_enter Tryz.func25,Tryz.ntmps25
   go_wp2;go_ret;rw [← hW];exact ⟨af (by simp [HQ.out]),HB.out⟩
theorem er (q q':Int) (lo1 lo2:Nat) (am av ak:Option Addr) (nm cm nv cv ns cs:Nat) (am' av' ak':Option Addr) (nm' cm' nv' cv' ns' cs':Nat) (M:List ac) (V:List (List ag)) (S:List Int) (M':List ac) (V':List (List ag)) (S':List Int) (w:World) (h1:bf lo1 w am nm cm av nv cv ak ns cs M V S) (h2:bf lo2 w am' nm' cm' av' nv' cv' ak' ns' cs' M' V' S') :
 Calls Tryz.prog 24 #[.agg #[iT q,.slice am nm cm,.slice av nv cv,.slice ak ns cs],.agg #[iT q',.slice am' nm' cm',.slice av' nv' cv',.slice ak' ns' cs']] w fun e w'=>e=.returned (.bool (cY q M V S q' M' V' S'))∧Bl w w':=by
 obtain ⟨W,hW⟩:=aS ((w.alloc (.cells #[iT q,.slice am nm cm,.slice av nv cv,.slice ak ns cs] 31)).alloc (.cells #[iT q',.slice am' nm' cm',.slice av' nv' cv',.slice ak' ns' cs'] 31));have hB:Bl w W:=by rw [hW];exact bZ.alloc (by simp) _
 have x2:W.cell? ⟨w.heap.size,2,none⟩=some (.slice av nv cv):=by rw [hW];simp
 have x3:W.cell? ⟨w.heap.size,3,none⟩=some (.slice ak ns cs):=by rw [hW];simp
 have y2:W.cell? ⟨w.heap.size+1,2,none⟩=some (.slice av' nv' cv'):=by rw [hW];simp
 have y3:W.cell? ⟨w.heap.size+1,3,none⟩=some (.slice ak' ns' cs'):=by rw [hW];simp
 have H1:Hid (bf lo1 W am nm cm av nv cv ak ns cs M V S):=h1.keep hB;have H2:Hid (bf lo2 W am' nm' cm' av' nv' cv' ak' ns' cs' M' V' S'):=h2.keep hB;have HB:Hid (Bl w W):=hB;clear h1 h2 hB;obtain ⟨bM,hM⟩:∃b,decide (M=M')=b:=⟨_,rfl⟩;obtain ⟨bV,hV⟩:∃b,decide (V=V')=b:=⟨_,rfl⟩;obtain ⟨bS,hS⟩:∃b,decide (S=S')=b:=⟨_,rfl⟩;have CM:Hid (∀w',Bl W w'→Calls Tryz.prog 79 #[.slice am nm cm,.slice am' nm' cm'] w' fun e w''=>e=.returned (.bool bM)∧Bl w' w''):=by rw [← hM];exact fun w' k=>qP _ _ _ _ _ _ M M' w' (H1.out.keep k).mem.1 (H2.out.keep k).mem.1
 have CV:Hid (∀w',Bl W w'→Calls Tryz.prog 80 #[.slice av nv cv,.slice av' nv' cv',.func (.func 81) #[] #[]] w' fun e w''=>e=.returned (.bool bV)∧Bl w' w''):=by rw [← hV];exact fun w' k=>tg lo1 lo2 _ _ _ _ _ _ V V' w' (H1.out.keep k).levels (H2.out.keep k).levels
 have CS:Hid (∀w',Bl W w'→Calls Tryz.prog 82 #[.slice ak ns cs,.slice ak' ns' cs'] w' fun e w''=>e=.returned (.bool bS)∧Bl w' w''):=by rw [← hS];exact fun w' k=>xh lo1 lo2 _ _ _ _ _ _ S S' w' (H1.out.keep k).snaps (H2.out.keep k).snaps
 have HR:Hid (cY q M V S q' M' V' S'=(decide (q=q') && (bM && (bV && bS)))):=by rw [← hM,← hV,← hS];rfl
 rw [HR.out];clear hM hV hS H1 H2 HR;by_cases hq:q=q'
 · subst hq;go_enter Tryz.func24,Tryz.ntmps24
   go_wp2_with fail
   rw [← hW];clear hW;refine (CM.out _ (Below.refl _ _)).mono ?_;rintro e w1 ⟨rfl,hb1⟩;have x2:=cell_later hb1 x2;have x3:=cell_later hb1 x3;have y2:=cell_later hb1 y2;have y3:=cell_later hb1 y3;have z1:=World.block_lt_of_cell? _ _ x2;have z2:=World.block_lt_of_cell? _ _ y2;simp only at z1 z2;have K1:Hid (Bl W w1):=hb1;clear hb1;cases bM with
   | false =>
    go_wp2;go_ret;exact ⟨af (by simp),HB.out.trans (K1.out.mono HB.out.size)⟩
   | true =>
    go_wp2_with fail
    refine (CV.out _ K1.out).mono ?_;rintro e w2 ⟨rfl,hb2⟩;have x3:=cell_later hb2 x3;have y3:=cell_later hb2 y3;have z1:=World.block_lt_of_cell? _ _ x3;have z2:=World.block_lt_of_cell? _ _ y3;simp only at z1 z2;have K2:Hid (Bl W w2):=K1.out.trans (hb2.mono K1.out.size);clear hb2 K1;cases bV with
    | false =>
     go_wp2;go_ret;exact ⟨af (by simp),HB.out.trans (K2.out.mono HB.out.size)⟩
    | true =>
     go_wp2_with fail
     refine (CS.out _ K2.out).mono ?_;rintro e w3 ⟨rfl,hb3⟩;have K3:Hid (Bl W w3):=K2.out.trans (hb3.mono K2.out.size);clear hb3 K2;go_wp2;go_ret;exact ⟨af (by simp),HB.out.trans (K3.out.mono HB.out.size)⟩
 · have hd:(q == q')=false:=by simpa using hq
   have HQ:Hid (¬q=q'):=hq;clear hq CM CV CS x2 x3 y2 y3;go_enter Tryz.func24,Tryz.ntmps24
   go_wp2;go_ret;rw [← hW];exact ⟨af (by simp [HQ.out]),HB.out⟩
theorem pO (q:Int) (M:List ac) (V:List (List ag)) (S:List Int):cY q M V S q M V S=true:=by simp [cY]
theorem eW (lo:Nat) (sq:Int) (am av ak:Option Addr) (nm cm nv cv nk ck:Nat) (M:List ac) (V:List (List ag)) (S:List Int) (w:World) (hT:bf lo w am nm cm av nv cv ak nk ck M V S) :
 Calls Tryz.prog 26 #[.agg #[iT sq,.slice am nm cm,.slice av nv cv,.slice ak nk ck]] w fun e w'=>e=.returned (.bool (bc sq M V S))∧Bl w w':=by
 have HVN:Hid (V.length=nv):=hT.levels.length;by_cases hn:nv=3
 · subst hn;obtain ⟨A,B,C,hV3⟩:∃A B C,V=[A,B,C]:=by
    have:=HVN.out;match V,this with
    | [A,B,C],_=>exact ⟨A,B,C,rfl⟩
   subst hV3;obtain ⟨b,off,rfl,hbb⟩:=hT.levels.form (by omega);obtain ⟨A',a0,n0,c0,hA,l0,hR0⟩:=hT.levels.level (Below.refl _ w) 0 (by omega);obtain ⟨B',a1,n1,c1,hB,l1,hR1⟩:=hT.levels.level (Below.refl _ w) 1 (by omega);obtain ⟨C',a2,n2,c2,hC,l2,hR2⟩:=hT.levels.level (Below.refl _ w) 2 (by omega);simp only [List.getElem?_cons_zero,List.getElem?_cons_succ,Option.some.injEq] at hA hB hC;subst hA hB hC;rw [Nat.add_zero] at l0;obtain ⟨Z,hZ⟩:=aS (bc sq M [A,B,C] S);have HCS:Hid (∀w',Bl w w'→Calls Tryz.prog 86 #[.agg #[iT sq,.slice am nm cm,sO b off 3 cv,.slice ak nk ck]] w' fun e w''=>e=.returned (.tuple #[.agg #[iT sq,.slice am nm cm,.slice a0 n0 c0,.slice a1 n1 c1,.slice a2 n2 c2,.slice ak nk ck],.bool Z])∧Bl w' w''):=fun w' k=>by
    rw [hZ];exact qB lo sq am ak nm cm b off cv nk ck M A B C S a0 a1 a2 n0 c0 n1 c1 n2 c2 w' (hT.mem.1.keep k) (hT.snaps.keep k) (hR0.keep k) (hR1.keep k) (hR2.keep k) (cell_later k l0) (cell_later k l1) (cell_later k l2)
   rw [← hZ];have kA:∀o,Bl w (w.alloc o):=fun o=>(Below.refl _ _).alloc (Nat.le_refl _) o
   clear hZ hT HVN l0 l1 l2 hR0 hR1 hR2 hbb;go_enter Tryz.func26,Tryz.ntmps26
   go_wp2_with fail
   refine (HCS.out _ (kA _)).mono ?_;rintro e w1 ⟨rfl,hb1⟩;have K1:Hid (Bl w w1):=(kA _).trans (hb1.mono (kA _).size);clear hb1 kA;go_wp2;go_ret;exact ⟨rfl,K1.out.alloc K1.out.size _⟩
 · have HZ:Hid (bc sq M V S=false):=fS (fun h=>hn (by have:=(bh h).2.2.2.2.2.1;have:=HVN.out;omega));clear hT HVN;go_enter Tryz.func26,Tryz.ntmps26
   go_wp2_with fail
   refine (mN sq am av ak nm cm nv cv nk ck _ hn).mono ?_;have kA:∀o,Bl w (w.alloc o):=fun o=>(Below.refl _ _).alloc (Nat.le_refl _) o
   rintro e w1 ⟨rfl,hb1⟩;have K1:Hid (Bl w w1):=(kA _).trans (hb1.mono (kA _).size);clear hb1 kA;go_wp2;go_ret;exact ⟨af HZ.out.symm,K1.out.alloc K1.out.size _⟩
theorem tn (w:World):Calls Tryz.prog 28 #[] w (BK w):=by
 obtain ⟨W,hW⟩:=aS (w.alloc (.cells #[iT 0,nZ,nZ,nZ] 31));have kW:Bl w W:=by rw [hW];exact bZ
 have bo:ar W w.heap.size (iT 0) nZ nZ nZ:=by rw [hW];exact ar.new _ _ _ _ _ _
 have BO:Hid (ar W w.heap.size (iT 0) nZ nZ nZ):=bo;have KW:Hid (Bl w W):=kW;have HSZ:Hid (w.heap.size+1=W.heap.size):=by rw [hW];simp [Hid]
 clear bo kW;go_enter Tryz.func28,Tryz.ntmps28
 go_wp2_with fail
 rw [← hW];clear hW;refine (vd W).mono ?_;rintro e w1 ⟨eb,vb,sb,rfl,hT,hb1⟩;have bo:=BO.out.keep hb1;have c0:=bo.c0;have c1:=bo.c1;have c2:=bo.c2;have c3:=bo.c3;have fz:=bo.fz;have zb:=bo.lt;have HBO:Hid (ar w1 w.heap.size (iT 0) nZ nZ nZ):=bo;have HT:Hid (bf W.heap.size w1 (pT eb) 0 0 (pT vb) 3 3 (pT sb) 0 0 [] [[],[],[]] []):=hT;have K1:Hid (Bl w w1):=KW.out.trans (hb1.mono KW.out.size);clear bo hT hb1;go_wp2;refine bodyPost_ret (v:=.agg #[iT 0,sL eb 0 0,sL vb 3 3,sL sb 0 0]) ?_ rfl ⟨eb,vb,sb,rfl,?_,?_⟩
 · have e:=(((HBO.out.set0 (iT 0)).set1 (sL eb 0 0)).set2 (sL vb 3 3)).set3 (sL sb 0 0);simp [results,Tryz.results28,go_sem,e.c0,e.c1,e.c2,e.c3]
 · have hsz:=HSZ.out;have hm:dJ W.heap.size w1 ((((w1.setCell ⟨w.heap.size,0,none⟩ (iT 0)).setCell ⟨w.heap.size,1,none⟩ (sL eb 0 0)).setCell ⟨w.heap.size,2,none⟩ (sL vb 3 3)).setCell ⟨w.heap.size,3,none⟩ (sL sb 0 0)):=(((dJ.of_set _ _ (by show w.heap.size<W.heap.size;omega)).trans (dJ.of_set _ _ (by show w.heap.size<W.heap.size;omega))).trans (dJ.of_set _ _ (by show w.heap.size<W.heap.size;omega))).trans (dJ.of_set _ _ (by show w.heap.size<W.heap.size;omega));have ht:=HT.out.same hm;exact ⟨ht.mem.mono (by omega),ht.levels.mono (by omega),ht.snaps.lower (by omega)⟩
 · exact gG K1.out (Nat.le_refl _) _ _ _ _
abbrev cQ:=Nat × Nat × Nat × Nat × Nat
def f6 (x:cQ):List Value:=[.slice (some ⟨x.1,x.2.1,none⟩) x.2.2.1 x.2.2.2.1,iT x.2.2.2.2]
def eS (X:List cQ):List Value:=X.flatMap f6
theorem gu (x:cQ) (X:List cQ):eS (x :: X)=.slice (some ⟨x.1,x.2.1,none⟩) x.2.2.1 x.2.2.2.1 :: iT x.2.2.2.2 :: eS X:=rfl
theorem rv (A B:List cQ):eS (A++B)=eS A++eS B:=by simp [eS]
theorem xH (X:List cQ):(eS X).length=X.length*2:=by
 induction X with
 | nil=>rfl
 | cons x r ih=>rw [gu,List.length_cons,List.length_cons,ih,List.length_cons];omega
theorem qO:∀(X:List cQ) (j:Nat) (x:cQ),X[j]?=some x→(eS X)[j*2]?=some (.slice (some ⟨x.1,x.2.1,none⟩) x.2.2.1 x.2.2.2.1)∧(eS X)[j*2+1]?=some (iT x.2.2.2.2)
 | [],j,x,h=>by simp at h
 | y :: X,0,x,h=>by simp at h;subst h;exact ⟨rfl,rfl⟩
 | y :: X,j+1,x,h=>by
  have:=qO X j x (by simpa using h)
  rw [gu,show (j+1)*2=j*2+1+1 by omega]
  exact ⟨by rw [List.getElem?_cons_succ,List.getElem?_cons_succ];exact this.1,by rw [List.getElem?_cons_succ,List.getElem?_cons_succ];exact this.2⟩
theorem qN:∀(X:List cQ) (j:Nat) (x:cQ),((eS X).set (j*2) (.slice (some ⟨x.1,x.2.1,none⟩) x.2.2.1 x.2.2.2.1)).set (j*2+1) (iT x.2.2.2.2)=eS (X.set j x)
 | [],j,x=>rfl
 | y :: X,0,x=>rfl
 | y :: X,j+1,x=>by
  have:=qN X j x
  rw [gu,show (j+1)*2=j*2+1+1 by omega,List.set_cons_succ,List.set_cons_succ,List.set_cons_succ,List.set_cons_succ,this]
  rfl
structure fj (w:World) (base g n c:Nat) (X:List cQ):Prop where
 owns:w.ownsRow base 164 2 (sL g n c) n (eS X)
 len:X.length=n
theorem fj.lt {X:List cQ} (h:fj w base g n c X):base≤g∧g<w.heap.size:=h.owns.lt g rfl
theorem fj.grown {X:List cQ} {row:Option Nat} (h:fj w base g n c X) (hg:w.grownBy w' row) (hne:some g≠row):fj w' base g n c X:=⟨h.owns.kept hg (.inr hne),h.len⟩
theorem fj.below {X:List cQ} (h:fj w base g n c X) (hb:Bl w w'):fj w' base g n c X :=
 h.grown (row:=none) ⟨hb.os,hb.tape,hb.output,hb.size,fun k hk _=>hb.block k hk⟩ (by simp)
theorem fj.at2 {X:List cQ} {x:cQ} (h:fj w base g n c X) (hx:X[i]?=some x):w.cell? ⟨g,i*2,none⟩=some (.slice (some ⟨x.1,x.2.1,none⟩) x.2.2.1 x.2.2.2.1)∧w.cell? ⟨g,i*2+1,none⟩=some (iT x.2.2.2.2):=by
 have hc:=h.owns.cells (g:=g) rfl;obtain ⟨h0,h1⟩:=qO X i x hx;have a0:=hc _ _ h0;have a1:=hc _ _ h1;rw [Go.WideShapes.add_plain] at a0 a1;simp only [Nat.zero_add] at a0 a1;exact ⟨a0,a1⟩
theorem fj.cells {X:List cQ} (h:fj w base g n c X):∃cc,w.heap[g]?=some (.cells cc 164 (0,0)):=by
 rcases h.owns.2 with ⟨hv,_⟩ | ⟨g',cap,cur,hv,_,hg,_⟩
 · cases hv
 · cases hv;exact ⟨_,hg⟩
def setH (w:World) (g i:Nat) (x:cQ):World:=(w.setCell ⟨g,i*2,none⟩ (.slice (some ⟨x.1,x.2.1,none⟩) x.2.2.1 x.2.2.2.1)).setCell ⟨g,i*2+1,none⟩ (iT x.2.2.2.2)
theorem fj.setH {X:List cQ} {x:cQ} (h:fj w base g n c X):fj (setH w g i x) base g n c (X.set i x):=by
 have t0:=h.owns.stored (i*2) (.slice (some ⟨x.1,x.2.1,none⟩) x.2.2.1 x.2.2.2.1);have t1:=t0.1.stored (i*2+1) (iT x.2.2.2.2);refine ⟨?_,by simp [h.len]⟩;have h1:=t1.1;rw [qN] at h1;exact h1
theorem e9 (w:World) (g o:Nat) (v:Value):w.grownBy (w.setCell ⟨g,o,none⟩ v) (some g) :=
 ⟨rfl,rfl,rfl,by simp [World.setCell],fun k _ hk=>Below.heap_setCell _ _ _ _ (fun e=>hk (by rw [e]))⟩
theorem iG (w:World) (g i:Nat) (x:cQ):w.grownBy (Go.Proofs.YtpobkmjicbobdaaGreat.setH w g i x) (some g):=(e9 _ _ _ _).trans (e9 _ _ _ _)
section
attribute [local go_sem] Oper.semAt_some
theorem o4 (a:Option Addr) (n c:Nat) (w:World):Calls Tryz.prog 306 #[.slice a n c] w fun e w'=>e=.returned (iT n)∧w'=w:=by
 go_enter Tryz.func306,Tryz.ntmps306
 go_wp2;go_ret;exact ⟨rfl,rfl⟩
theorem ik (base g n c i j:Nat) (X:List cQ) (x y:cQ) (w:World) (hO:fj w base g n c X) (hx:X[i]?=some x) (hy:X[j]?=some y) :
 Calls Tryz.prog 308 #[sL g n c,iT i,iT j] w fun e w'=>e=.returned (.tuple #[])∧fj w' base g n c ((X.set i y).set j x)∧w.grownBy w' (some g):=by
 obtain ⟨xb,xo,xn,xc,xk⟩:=x;obtain ⟨yb,yo,yn,yc,yk⟩:=y;have HX:Hid (X[i]?=some (xb,xo,xn,xc,xk)):=hx;have HY:Hid (X[j]?=some (yb,yo,yn,yc,yk)):=hy;have HLN:Hid (X.length=n):=hO.len;have HI:Hid (i<n):=by have:=(List.getElem?_eq_some_iff.1 hx).1;have:=hO.len;show i<n;omega
 have HJ:Hid (j<n):=by have:=(List.getElem?_eq_some_iff.1 hy).1;have:=hO.len;show j<n;omega
 have pi:(i:Int)<(n:Int):=by have:=HI.out;omega
 have pj:(j:Int)<(n:Int):=by have:=HJ.out;omega
 have k0:fj w.drew base g n c X:=hO.below (Below.refl _ w).drew;have gd:w.grownBy w.drew (some g):=⟨rfl,rfl,rfl,Nat.le_refl _,fun _ _ _=>rfl⟩;clear hx hy hO;go_enter Tryz.func308,Tryz.ntmps308
 go_wp2_with fail
 refine wp_region_held_drew (S:=(fun w'=>g<w'.heap.size)) (by kernel_rfl) (by exact k0.lt.2) (fun aa=>?_);generalize w.drew=wd at k0 gd aa ⊢;refine aO 0 7 aa ?_;refine aO 8 3 aa ?_;refine iU 7 11 (fun K hK=>?_) fun K hK=>?_
 · obtain ⟨lc0,lc1⟩:=k0.at2 HY.out;simp only at lc0 lc1;have lcl:=k0.lt.2;go_simp;clear lc0 lc1 lcl;refine hK.out _ _ (by exact k0.lt.2) fun aa=>?_
   (try go_frame);refine aI 11 fun K hK=>?_
   obtain ⟨lc0,lc1⟩:=k0.at2 HX.out;simp only at lc0 lc1;have lcl:=k0.lt.2;go_simp;clear lc0 lc1 lcl;refine hK.out _ _ (by exact k0.lt.2) fun aa=>?_
   (try go_frame);refine aO 12 1 aa ?_;refine aI 13 fun K hK=>?_
   obtain ⟨lc0,lc1⟩:=k0.at2 HX.out;simp only at lc0 lc1;have lcl:=k0.lt.2;have lf:=k0.owns.frozenAt;have f0:=lf (i*2);have f1:=lf (i*2+1);clear lf;go_simp;clear lc0 lc1 lcl f0 f1;have k1:=k0.setH (i:=i) (x:=(yb,yo,yn,yc,yk));refine hK.out _ (setH wd g i (yb,yo,yn,yc,yk)) (by exact k1.lt.2) (fun aa=>?_);clear hK K;have gw1:=iG wd g i (yb,yo,yn,yc,yk);generalize setH wd g i (yb,yo,yn,yc,yk)=w1' at k1 gw1 aa ⊢;(try go_frame);refine aO 14 1 aa ?_;refine aI 15 fun K hK=>?_
   obtain ⟨⟨zb,zo,zn,zc,zk⟩,HZ⟩:∃z,(X.set i (yb,yo,yn,yc,yk))[j]?=some z:=⟨_,List.getElem?_eq_getElem (by rw [List.length_set,HLN.out];exact HJ.out)⟩;obtain ⟨lc0,lc1⟩:=k1.at2 HZ;simp only at lc0 lc1;have lcl:=k1.lt.2;have lf:=k1.owns.frozenAt;have f0:=lf (j*2);have f1:=lf (j*2+1);clear lf;go_simp;clear lc0 lc1 lcl f0 f1 HZ;have k2:=k1.setH (i:=j) (x:=(xb,xo,xn,xc,xk));refine hK.out _ (setH w1' g j (xb,xo,xn,xc,xk)) (by exact k2.lt.2) (fun aa=>?_);clear hK K;have gw:wd.grownBy (setH w1' g j (xb,xo,xn,xc,xk)) (some g):=gw1.trans (iG w1' g j (xb,xo,xn,xc,xk));generalize setH w1' g j (xb,xo,xn,xc,xk)=w2' at k2 gw aa ⊢;(try go_frame);refine dN ?_;have HK2:Hid (fj w2' base g n c ((X.set i (yb,yo,yn,yc,yk)).set j (xb,xo,xn,xc,xk))):=k2;have HG2:Hid (w.grownBy w2' (some g)):=gd.trans gw;clear k2 gw k0 k1 gw1 gd aa;go_wp2;go_end0;exact ⟨rfl,HK2.out,HG2.out⟩
 · obtain ⟨lc0,lc1⟩:=k0.at2 HX.out;simp only at lc0 lc1;have lcl:=k0.lt.2;go_simp;clear lc0 lc1 lcl;refine hK.out _ _ (by exact k0.lt.2) fun aa=>?_
   (try go_frame);refine aI 7 fun K hK=>?_
   obtain ⟨lc0,lc1⟩:=k0.at2 HY.out;simp only at lc0 lc1;have lcl:=k0.lt.2;go_simp;clear lc0 lc1 lcl;refine hK.out _ _ (by exact k0.lt.2) fun aa=>?_
   (try go_frame);refine aO 12 1 aa ?_;refine aI 13 fun K hK=>?_
   obtain ⟨lc0,lc1⟩:=k0.at2 HX.out;simp only at lc0 lc1;have lcl:=k0.lt.2;have lf:=k0.owns.frozenAt;have f0:=lf (i*2);have f1:=lf (i*2+1);clear lf;go_simp;clear lc0 lc1 lcl f0 f1;have k1:=k0.setH (i:=i) (x:=(yb,yo,yn,yc,yk));refine hK.out _ (setH wd g i (yb,yo,yn,yc,yk)) (by exact k1.lt.2) (fun aa=>?_);clear hK K;have gw1:=iG wd g i (yb,yo,yn,yc,yk);generalize setH wd g i (yb,yo,yn,yc,yk)=w1' at k1 gw1 aa ⊢;(try go_frame);refine aO 14 1 aa ?_;refine aI 15 fun K hK=>?_
   obtain ⟨⟨zb,zo,zn,zc,zk⟩,HZ⟩:∃z,(X.set i (yb,yo,yn,yc,yk))[j]?=some z:=⟨_,List.getElem?_eq_getElem (by rw [List.length_set,HLN.out];exact HJ.out)⟩;obtain ⟨lc0,lc1⟩:=k1.at2 HZ;simp only at lc0 lc1;have lcl:=k1.lt.2;have lf:=k1.owns.frozenAt;have f0:=lf (j*2);have f1:=lf (j*2+1);clear lf;go_simp;clear lc0 lc1 lcl f0 f1 HZ;have k2:=k1.setH (i:=j) (x:=(xb,xo,xn,xc,xk));refine hK.out _ (setH w1' g j (xb,xo,xn,xc,xk)) (by exact k2.lt.2) (fun aa=>?_);clear hK K;have gw:wd.grownBy (setH w1' g j (xb,xo,xn,xc,xk)) (some g):=gw1.trans (iG w1' g j (xb,xo,xn,xc,xk));generalize setH w1' g j (xb,xo,xn,xc,xk)=w2' at k2 gw aa ⊢;(try go_frame);refine dN ?_;have HK2:Hid (fj w2' base g n c ((X.set i (yb,yo,yn,yc,yk)).set j (xb,xo,xn,xc,xk))):=k2;have HG2:Hid (w.grownBy w2' (some g)):=gd.trans gw;clear k2 gw k0 k1 gw1 gd aa;go_wp2;go_end0;exact ⟨rfl,HK2.out,HG2.out⟩
end
end Go.Proofs.YtpobkmjicbobdaaGreat
