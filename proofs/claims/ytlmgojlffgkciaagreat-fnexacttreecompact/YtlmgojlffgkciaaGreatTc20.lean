/-
  The library's Grow and Concat at runs, by walks of their Go text.
-/
import Derived.Laws.AppendOwnNone
import Derived.Test.YtlmgojlffgkciaaGreatTc19
import Derived.Test.YtlmgojlffgkciaaGreatTc06
import Derived.Lib.SlBytesRow
import Derived.Deep.LoopGhost
import Derived.WalkKit
import Derived.WalkSpells
import Derived.WalkLawsBesides
import Derived.Test.YtlmgojlffgkciaaGreatProg
import Derived.Test.YtlmgojlffgkciaaGreatTc00
namespace Go.Proofs.YtlmgojlffgkciaaGreat
open Go.RowKit
set_option maxRecDepth 100000
set_option maxHeartbeats 4000000
theorem zY (n:Nat) (w:World) (h1:1≤n) (h2:n≤1048576) :
 Calls Tryz.prog 151 #[nZ,iT n] w fun e w'=>∃c,e=.returned (sL (w.heap.size) 0 c)∧w'.ownsRow w.heap.size 102 2 (sL (w.heap.size) 0 c) 0 []∧Bl w w':=by
 obtain ⟨i0,hi,hz0,hz1,hz2⟩:=info_parts Tryz.infoRun;have hold:(Builtin.firstCells i0.size 0 nZ).run Tryz.prog w.drew=.ok ([]:List Value).toArray w.drew:=run_firstCells_none w.drew i0.size 0 0 0;obtain ⟨G,hG⟩:=ay (grownCap w n 0 102);obtain ⟨W,hW⟩:=ay (w.drew.alloc (.cells (([]:List Value).toArray++Builtin.zeroCells (Value.agg #[nZ,iT 0]).cells n++Builtin.zeroCells (Value.agg #[nZ,iT 0]).cells (G - n)) 102));have hrz:∀ty,(Builtin.append_ #[64,3] ty #[nZ,iT n]).run Tryz.prog w=.ok (sL (w.heap.size) n G) W:=fun ty=>by
  have h:=Lib.run_append_grow_zeros w 64 3 ty 102 i0 _ .i64 .i64 Tryz.underlying64 Tryz.underlying3 hi hz0 none 0 0 [] hold n h1 (by rw [hz1];omega) (by omega) (by omega) (by rw [hz2];omega) (by unfold Builtin.nextslicecap;rw [if_pos (by omega),hz2];omega);simp only [Nat.zero_add] at h;rw [hW,hG];exact h
 have hGn:n≤G:=by rw [hG];exact grownCap_ge w _ _ _
 have hGm:G≤maxLen:=by rw [hG];exact grownCap_le_maxLen w n 0 102 (by unfold maxLen;omega)
 have HO:Hid (W.ownsRow w.heap.size 102 2 (sL (w.heap.size) 0 G) 0 []):=by
  rw [hW];refine ⟨rfl,Or.inr ⟨w.heap.size,G,_,rfl,Nat.le_refl _,(by show (w.drew.heap.push _)[w.drew.heap.size]?=_;exact Array.getElem?_push_size),Nat.zero_le _,hGm,?_,?_⟩⟩
  · simp [Builtin.zeroCells,Value.cells];omega
  · simp
 have HB:Hid (Bl w W):=by rw [hW];exact ((Below.refl _ w).drew).alloc (Nat.le_refl _) _
 unfold maxLen at hGm;clear hold hG hW;go_enter Tryz.func151,Tryz.ntmps151
 go_wp2_with (at_builtin;refine Lib.wpList_append_run _ rfl _ _ _ _ rfl _ _ rfl rfl _ _ (hrz _) ?_)
 all_goals (go_ret;exact ⟨G,rfl,HO.out,HB.out⟩)
theorem rq (w:World) :
 Calls Tryz.prog 151 #[nZ,iT 0] w fun e w'=>e=.returned nZ∧w'=w:=by
 go_enter Tryz.func151,Tryz.ntmps151
 go_wp2;go_ret;exact ⟨rfl,rfl⟩
def gl (w:World) (v:Value) (n:Nat) (xs:List Value):Prop :=
 xs.length=n*2∧(∀u ∈ xs,u.oneCell'=true)∧((v=nZ∧n=0)∨∃b o c,v=sO b o n c∧∀j u,xs[j]?=some u→w.cell? ⟨b,o+j,none⟩=some u)
theorem gl.keep {w w':World} {v:Value} {n:Nat} {xs:List Value} (h:gl w v n xs) (hb:Bl w w'):gl w' v n xs:=by
 obtain ⟨h1,h2,h3⟩:=h;refine ⟨h1,h2,?_⟩;rcases h3 with h | ⟨b,o,c,hv,hc⟩
 · exact .inl h
 · exact .inr ⟨b,o,c,hv,fun j u hu=>cell_later hb (hc j u hu)⟩
def gE (w:World) (p:Nat) (P:List (Nat × List Value)):Prop:=p<w.heap.size∧∀(i n:Nat) (xs:List Value),P[i]?=some (n,xs)→∃v,w.cell? ⟨p,i,none⟩=some v∧gl w v n xs
theorem gE.keep {w w':World} {p:Nat} {P:List (Nat × List Value)} (h:gE w p P) (hb:Bl w w'):gE w' p P :=
 ⟨Nat.lt_of_lt_of_le h.1 hb.size,fun i n xs hS=>by obtain ⟨v,h1,h2⟩:=h.2 i n xs hS;exact ⟨v,cell_later hb h1,h2.keep hb⟩⟩
def fq (P:List (Nat × List Value)):Nat:=(P.map Prod.fst).sum
def io (P:List (Nat × List Value)):List Value:=(P.map Prod.snd).flatten
theorem pO {P:List (Nat × List Value)} {k n:Nat} {xs:List Value} (h:P[k]?=some (n,xs)):fq (P.take (k+1))=fq (P.take k)+n:=by
 unfold fq;rw [List.take_add_one,h];simp
theorem vn {P:List (Nat × List Value)} {k n:Nat} {xs:List Value} (h:P[k]?=some (n,xs)):io (P.take (k+1))=io (P.take k)++xs:=by
 unfold io;rw [List.take_add_one,h];simp
theorem nd (P:List (Nat × List Value)) (k:Nat):fq (P.take k)≤fq P:=by
 have h:fq P=fq (P.take k)+fq (P.drop k):=by
  unfold fq;rw [← List.sum_append,← List.map_append,List.take_append_drop]
 omega
theorem pn (p m:Nat) (P:List (Nat × List Value)) (w:World) (hP:gE w p P) (hm:P.length=m) (hm2:m≤100) (hs:fq P≤1048576) :
 Calls Tryz.prog 100 #[sL p m m] w fun e w'=>∃v,e=.returned v∧w'.ownsRow w.heap.size 102 2 v (fq P) (io P)∧Bl w w':=by
 have HP:=bc hP;have HM:=bc hm;have HSZ:=bc hs;obtain ⟨N,hN⟩:=ay (fq P);have HN:Hid (N=fq P):=hN;have hNb:N≤1048576:=by omega
 rw [← hN];have hpl:=hP.1;clear hP hm hs hN;have CG:Hid (∀w',Calls Tryz.prog 151 #[nZ,iT N] w' fun e w''=>∃v,e=.returned v∧w''.ownsRow w'.heap.size 102 2 v 0 []∧Bl w' w''):=fun w'=>by
  by_cases h0:N=0
  · rw [h0];refine (rq w').mono ?_;rintro e w'' ⟨rfl,rfl⟩;exact ⟨_,rfl,World.ownsRow_nil _ _ _ _,Below.refl _ _⟩
  · refine (zY N w' (by omega) hNb).mono ?_;rintro e w'' ⟨c,rfl,h1,h2⟩;exact ⟨_,rfl,h1,h2⟩
 obtain ⟨i0,hi,hz0,hz1,hz2⟩:=info_parts Tryz.infoRun;go_enter Tryz.func100,Tryz.ntmps100
 go_wp2;go_loopw [3,11] (fun sv iv wr=>∃(k T:Nat),k≤m∧iv=iT k∧sv=iT (T:Int)∧T=fq (P.take k)∧w=wr) (fun _ iv _=>m - (intOf iv).toNat)
 case atStart=>exact ⟨0,0,Nat.zero_le _,rfl,rfl,by simp [fq],rfl⟩
 case round =>
  obtain ⟨k,T,hk,rfl,rfl,hT,rfl⟩:=hrel;have HT:Hid (T=fq (P.take k)):=hT;have hTb:T≤1048576:=by have h1:=nd P k;have h2:=HSZ.out;omega
  clear hT;by_cases hlt:k<m
  · have hltI:(k:Int)<(m:Int):=by omega
    obtain ⟨⟨n,xs⟩,hS⟩:∃S,P[k]?=some S:=⟨_,List.getElem?_eq_getElem (by rw [HM.out];exact hlt)⟩;obtain ⟨v,g0,hI⟩:=HP.out.2 k n xs hS;have HST:Hid (T+n=fq (P.take (k+1))):=by show _=_;rw [pO hS,HT.out]
    have hSb:T+n≤1048576:=by have h1:=nd P (k+1);have h2:=HSZ.out;have h3:=HST.out;omega
    clear hS;have hpos:¬((T:Int)+(n:Int))<0:=by omega
    have hpos0:¬(T:Int)<0:=by omega
    rcases hI.2.2 with ⟨rfl,rfl⟩ | ⟨b,o,c,rfl,_⟩
    · clear hI;go_wp2;go_roundw
      case rel=>exact ⟨k+1,T,by omega,by go_num,by go_num,HST.out,by first | rfl | trivial⟩
      case measure=>simp [intOf];omega
    · clear hI;go_wp2;go_roundw
      case rel=>exact ⟨k+1,T+n,by omega,by go_num,by go_num,HST.out,by first | rfl | trivial⟩
      case measure=>simp [intOf];omega
  · have hltI:¬(k:Int)<(m:Int):=by omega
    have HTN:Hid (T=N):=by
     have:=HT.out;rw [List.take_of_length_le (by rw [HM.out];omega),← HN.out] at this;exact this
    obtain rfl:=HTN.out;clear HTN;go_wp2_with fail
    refine (CG.out _).mono ?_;rintro e w1 ⟨v,rfl,hv,hb1⟩;have HV:Hid (w1.ownsRow w.heap.size 102 2 v 0 []):=hv;have HB1:Hid (Bl w w1):=hb1;clear hv hb1;go_wp2;go_loopw [6,27] (fun vv iv wr=>∃(k:Nat),k≤m∧iv=iT k∧wr.ownsRow w.heap.size 102 2 vv (fq (P.take k)) (io (P.take k))∧Bl w wr) (fun _ iv _=>m - (intOf iv).toNat)
    case atStart=>exact ⟨0,Nat.zero_le _,rfl,by simpa [fq,io] using HV.out,HB1.out⟩
    case round =>
     clear HV HB1;obtain ⟨j,hj,rfl,hv,hb⟩:=hrel;have HV:Hid (wr.ownsRow w.heap.size 102 2 _ (fq (P.take j)) (io (P.take j))):=hv;have HB:Hid (Bl w wr):=hb;have hbz:=hb.size;obtain ⟨U,hU⟩:=ay (fq (P.take j));have HU:Hid (U=fq (P.take j)):=hU;have hUb:U≤1048576:=by have h1:=nd P j;have h2:=HSZ.out;omega
     rw [← hU] at HV;clear hv hU;by_cases hlt2:j<m
     · have hltJ:(j:Int)<(m:Int):=by omega
       obtain ⟨⟨n,xs⟩,hS⟩:∃S,P[j]?=some S:=⟨_,List.getElem?_eq_getElem (by rw [HM.out];exact hlt2)⟩;obtain ⟨v,g0,hI⟩:=(HP.out.keep hb).2 j n xs hS;have HFS:Hid (io (P.take (j+1))=io (P.take j)++xs):=vn hS;have HSS:Hid (fq (P.take (j+1))=U+n):=by show _=_;rw [HU.out];exact pO hS
       have hSb:U+n≤1048576:=by have h1:=nd P (j+1);have h2:=HSZ.out;have h3:=HSS.out;omega
       have hbl:=World.block_lt_of_cell? _ _ g0;simp only at hbl;have HI:Hid (gl wr v n xs):=hI;clear hS hb;rcases hI.2.2 with ⟨rfl,rfl⟩ | ⟨b,o,c,rfl,hcc⟩
       · have HX0:Hid (xs=[]):=List.length_eq_zero_iff.1 (by have:=hI.1;omega);clear hI;go_wp2_with (at_builtin;refine wpList_append_own_none rfl _ _ 64 rfl w.heap.size 102 i0 2 Tryz.underlying64 hi _ _ _ rfl HV.out rfl ?_)
         go_roundw
         case rel =>
          refine ⟨j+1,by omega,by go_num,?_,HB.out⟩;rw [HFS.out,HSS.out,HX0.out,List.append_nil,Nat.add_zero];exact HV.out
         case measure=>simp [intOf];omega
       · have HCC:Hid (∀j u,xs[j]?=some u→wr.cell? ((⟨b,o,none⟩:Addr).add j)=some u):=fun j u hu=>by rw [Go.WideShapes.add_plain];exact hcc j u hu
         clear hI hcc;go_wp2_with (at_builtin;refine wpList_append_own _ rfl _ _ 64 rfl w.heap.size 102 i0 _ 2 32 Tryz.underlying64 hi hz0 hz1 hz2 rfl (by decide) _ _ _ rfl HV.out ⟨b,o,none⟩ n c xs rfl HI.out.1 HCC.out HI.out.2.1 (by unfold maxLen;omega) (by omega) hbz ?_;intro v2 w2 hown2 hgrow2 hnil2)
         go_roundw
         case rel =>
          refine ⟨j+1,by omega,by go_num,?_,?_⟩
          · rw [HFS.out,HSS.out];exact hown2
          · exact HB.out.grown hgrow2 HB.out.size (fun k e=>(HV.out.lt k e).1)
         case measure=>simp [intOf];omega
     · have hltJ:¬(j:Int)<(m:Int):=by omega
       have h1:=HV.out;have h2:=HU.out;rw [List.take_of_length_le (by rw [HM.out];omega)] at h1 h2;rw [h2,← HN.out] at h1;have HVN:Hid (World.ownsRow _ _ _ _ _ _ _):=h1;clear h1 h2;clear HV hb;go_wp2;go_ret;exact ⟨u6,by first | rfl | simp,HVN.out,HB.out⟩
def jI (w:World) (xs:List Value) (B:List ae):Prop :=
 xs.length=B.length*2∧∀i (p:ae),B[i]?=some p→(Lit.int .i64 p.2).wf=true∧∃s n c,xs[i*2]?=some (.slice s n c)∧xs[i*2+1]?=some (iT p.2)∧cQ 0 w s n c p.1
theorem jI.keep {w w':World} {xs:List Value} {B:List ae} (h:jI w xs B) (hb:Bl w w'):jI w' xs B :=
 ⟨h.1,fun i p hp=>by obtain ⟨h1,s,n,c,h2,h3,h4⟩:=h.2 i p hp;exact ⟨h1,s,n,c,h2,h3,h4.same (bz.of_below hb)⟩⟩
theorem jI.one {w:World} {xs:List Value} {B:List ae} (h:jI w xs B):∀u ∈ xs,u.oneCell'=true:=by
 intro u hu;obtain ⟨j,hj,rfl⟩:=List.getElem_of_mem hu;have hB:j / 2<B.length:=by have:=h.1;omega
 obtain ⟨_,s,n,c,h2,h3,_⟩:=h.2 (j / 2) _ (List.getElem?_eq_getElem hB);rcases Nat.mod_two_eq_zero_or_one j with hm | hm
 · rw [show j / 2*2=j by omega,List.getElem?_eq_getElem hj] at h2;rw [Option.some.inj h2];rfl
 · rw [show j / 2*2+1=j by omega,List.getElem?_eq_getElem hj] at h3;rw [Option.some.inj h3];rfl
theorem jI.app {w:World} {xs ys:List Value} {A B:List ae} (h:jI w xs A) (k:jI w ys B):jI w (xs++ys) (A++B):=by
 have hl:=h.1;have kl:=k.1;refine ⟨by rw [List.length_append,List.length_append,hl,kl];omega,fun i p hp=>?_⟩;by_cases hi:i<A.length
 · rw [List.getElem?_append_left hi] at hp;rw [List.getElem?_append_left (by omega),List.getElem?_append_left (by omega)];exact h.2 i p hp
 · rw [List.getElem?_append_right (by omega)] at hp;rw [List.getElem?_append_right (by omega),List.getElem?_append_right (by omega),show i*2 - xs.length=(i - A.length)*2 by omega,show i*2+1 - xs.length=(i - A.length)*2+1 by omega];exact k.2 _ p hp
theorem fe {w:World} {base n:Nat} {v:Value} {xs:List Value} {B:List ae} (h:w.ownsRow base 102 2 v n xs) (d:jI w xs B):∃a c,v=.slice a n c∧aj 0 w a n c B:=by
 have hn:B.length=n:=by have h1:=h.1;have h2:=d.1;omega
 rcases h.2 with ⟨hv,h0⟩ | ⟨g,cap,cur,hv,_⟩
 · subst hv h0;obtain rfl:=List.length_eq_zero_iff.1 hn;exact ⟨none,0,rfl,om 0 w⟩
 · subst hv;have hrc:=b6 h;refine ⟨_,cap,rfl,hn,hrc.1,hrc.2,(fun e=>by cases e),?_,?_⟩
   · rintro x e _;cases e;exact ⟨(h.lt g rfl).2,rfl,Nat.zero_le _⟩
   · rintro x e i hi;cases e;obtain ⟨h1,s,n',c,h2,h3,h4⟩:=d.2 i _ (List.getElem?_eq_getElem hi);refine ⟨h1,s,n',c,?_,?_,h4⟩
     · simp only [Nat.zero_add];exact (h.cellAt _ (by omega)).trans h2
     · simp only [Nat.zero_add];exact (h.cellAt _ (by omega)).trans h3
theorem aj.raw {lo:Nat} {w:World} {b o n c:Nat} {B:List ae} (h:aj lo w (some ⟨b,o,none⟩) n c B):∃xs,jI w xs B∧gl w (sO b o n c) n xs:=by
 have hl:=h.length;refine ⟨(List.range (n*2)).map (fun j=>(w.cell? ⟨b,o+j,none⟩).getD (iT 0)),?_⟩;have hat:∀i (hi:i<B.length),(Lit.int .i64 B[i].2).wf=true∧∃s n' c',w.cell? ⟨b,o+i*2,none⟩=some (.slice s n' c')∧w.cell? ⟨b,o+(i*2+1),none⟩=some (iT B[i].2)∧cQ lo w s n' c' B[i].1:=fun i hi=>by
  have:=h.runs _ rfl i hi;simpa [Nat.add_assoc] using this
 have hd:jI w ((List.range (n*2)).map (fun j=>(w.cell? ⟨b,o+j,none⟩).getD (iT 0))) B:=by
  refine ⟨by simp [hl],fun i p hp=>?_⟩;have hi:=(List.getElem?_eq_some_iff.1 hp).1;have hp':=(List.getElem?_eq_some_iff.1 hp).2;obtain ⟨h1,s,n',c',h2,h3,h4⟩:=hat i hi;rw [hp'] at h1 h3 h4;refine ⟨h1,s,n',c',?_,?_,h4.mono (Nat.zero_le _)⟩
  · rw [List.getElem?_map,List.getElem?_range (by omega)];simp [h2]
  · rw [List.getElem?_map,List.getElem?_range (by omega)];simp [h3]
 refine ⟨hd,by simp,hd.one,.inr ⟨b,o,c,rfl,fun j u hu=>?_⟩⟩;have hj:j<n*2:=by have:=(List.getElem?_eq_some_iff.1 hu).1;simpa using this
 rw [List.getElem?_map,List.getElem?_range hj] at hu;simp only [Option.map_some] at hu;have hi:j / 2<B.length:=by omega
 obtain ⟨h1,s,n',c',h2,h3,h4⟩:=hat (j / 2) hi;rcases Nat.mod_two_eq_zero_or_one j with hm | hm
 · rw [show j / 2*2=j by omega] at h2;rw [h2] at hu ⊢;simpa using hu
 · rw [show j / 2*2+1=j by omega] at h3;rw [h3] at hu ⊢;simpa using hu
end Go.Proofs.YtlmgojlffgkciaaGreat

namespace Go.Proofs.YtlmgojlffgkciaaGreat
open Go.RowKit
structure bu (lo hi:Nat) (w w':World):Prop where
 os:w'.os=w.os
 tape:w'.tape=w.tape
 output:w'.output=w.output
 size:w.heap.size≤w'.heap.size
 block:∀k,k<w.heap.size→(k<lo∨hi≤k)→w'.heap[k]?=w.heap[k]?
theorem bu.refl (lo hi:Nat) (w:World):bu lo hi w w:=⟨rfl,rfl,rfl,Nat.le_refl _,fun _ _ _=>rfl⟩
theorem bu.grown {lo hi g:Nat} {w w' w'':World} (h:bu lo hi w w') (hg:w'.grownBy w'' (some g)) (h1:lo≤g) (h2:g<hi):bu lo hi w w'' :=
 ⟨hg.os.trans h.os,hg.tape.trans h.tape,hg.output.trans h.output,Nat.le_trans h.size hg.size,fun k hk ho=>(hg.block k (Nat.lt_of_lt_of_le hk h.size) (fun e=>by have:=Option.some.inj e;omega)).trans (h.block k hk ho)⟩
theorem bu.own {lo hi base g n c:Nat} {w w':World} {L:List ac} (h:bu lo hi w w') (hO:aE w base g n c L) (hg:g<lo∨hi≤g):aE w' base g n c L:=by
 refine ⟨⟨hO.owns.1,?_⟩,hO.len,hO.ents⟩;have hlt:=hO.lt.2;rcases hO.owns.2 with hn | ⟨g1,cap1,cur1,e1,hb1,hgb,rest⟩
 · exact .inl hn
 · cases e1;exact .inr ⟨g,c,cur1,rfl,hb1,(h.block g hlt hg).trans hgb,rest⟩
theorem bu.below {lo hi B:Nat} {w w':World} (h:bu lo hi w w') (hB:B≤lo) (hw:B≤w.heap.size):Below B w w':=⟨h.os,h.tape,h.output,h.size,fun k hk=>h.block k (by omega) (.inl (by omega))⟩
theorem bu.trans {lo hi:Nat} {w w' w'':World} (h:bu lo hi w w') (k:bu lo hi w' w''):bu lo hi w w'' :=
 ⟨k.os.trans h.os,k.tape.trans h.tape,k.output.trans h.output,Nat.le_trans h.size k.size,fun q hq ho=>(k.block q (Nat.lt_of_lt_of_le hq h.size) ho).trans (h.block q hq ho)⟩
theorem bu.mono {lo hi lo' hi':Nat} {w w':World} (h:bu lo hi w w') (h1:lo'≤lo) (h2:hi≤hi'):bu lo' hi' w w' :=
 ⟨h.os,h.tape,h.output,h.size,fun q hq ho=>h.block q hq (by omega)⟩
theorem bu.of_below {lo hi:Nat} {w w':World} (h:Bl w w'):bu lo hi w w':=⟨h.os,h.tape,h.output,h.size,fun q hq _=>h.block q hq⟩
theorem bu.row {lo hi base T size n m g c:Nat} {w w':World} {xs:List Value} (h:bu lo hi w w') (hO:w.ownsRow base T size (sL g m c) n xs) (hg:g<lo∨hi≤g):w'.ownsRow base T size (sL g m c) n xs:=by
 refine ⟨hO.1,?_⟩;have hlt:=(hO.lt g rfl).2;rcases hO.2 with hn | ⟨g1,cap1,cur1,e1,hb1,hgb,rest⟩
 · exact .inl hn
 · cases e1;exact .inr ⟨g,c,cur1,rfl,hb1,(h.block g hlt hg).trans hgb,rest⟩
end Go.Proofs.YtlmgojlffgkciaaGreat

namespace Go.Proofs.YtlmgojlffgkciaaGreat
open Go.RowKit
set_option maxRecDepth 100000
set_option maxHeartbeats 1000000
def jx:Nat→Nat→List UInt8→List UInt8
 | 0,_,acc=>acc
 | f+1,p,acc=>if p=0 then acc else jx f (p / 10) (UInt8.ofNat (48+p % 10) :: acc)
theorem ym (f:Nat) (acc:List UInt8):jx f 0 acc=acc:=by cases f <;> simp [jx]
def d5 (k:Nat):ByteArray:=⟨#[109]⟩++⟨(jx k k []).toArray⟩
theorem ew (k:Nat) (w:World) (h1:1≤k) (h2:k≤1000000000) :
 Calls Tryz.prog 61 #[iT k] w fun e w'=>e=.returned (.string (d5 k))∧Bl w w':=by
 have h1':¬(k:Int)≤0:=by omega
 go_enter Tryz.func61,Tryz.ntmps61
 go_wp2;go_loopw [0,3] (fun pv ov wr=>∃(f p:Nat) (o:ByteArray),pv=iT p∧ov=.string o∧p≤f∧o.size+p≤k∧jx f p o.data.toList=jx k k []∧Bl w wr) (fun pv _ _=>(intOf pv).toNat)
 case atStart=>exact ⟨k,k,⟨#[]⟩,rfl,rfl,Nat.le_refl _,by show 0+k≤k;omega,rfl,Below.refl _ _⟩
 case round =>
  obtain ⟨f,p,o,rfl,rfl,hpf,hok,hd,hb⟩:=hrel;have HD:Hid (jx f p o.data.toList=jx k k []):=hd;clear hd;by_cases hp:p=0
  · subst hp;have hm:d5 k=⟨#[109]⟩++o:=by
     unfold d5;rw [← HD.out,ym]
    have HM:Hid (d5 k=⟨#[109]⟩++o):=hm;clear hm;have ho:o.size≤1000000000:=by omega
    go_wp2;go_ret;exact ⟨by rw [HM.out];rfl,hb⟩
  · have hp0:(0:Int)<(p:Int):=by omega
    have ho:o.size≤1000000000:=by omega
    have hpk:(p:Int)≤1000000000:=by omega
    obtain ⟨f',rfl⟩:∃f',f=f'+1:=⟨f - 1,by omega⟩;obtain ⟨c,hc⟩:∃c:UInt8,c=UInt8.ofNat (48+p % 10):=⟨_,rfl⟩;have hcn:(c.toNat:Int)=48+(p:Int) % 10:=by rw [hc];simp;omega
    have hcv:∀w:World,(convert 114 9 (sL (w.heap.size) 1 1)).run Tryz.prog (w.alloc (.cells #[.int .u8 (48+(p:Int) % 10)] 5))=.ok (.string ⟨#[c]⟩) (w.alloc (.cells #[.int .u8 (48+(p:Int) % 10)] 5)):=by
     intro w;exact Lib.run_convert_whole _ 114 5 9 Tryz.underlying114 Tryz.underlying5 Tryz.underlying9 w.heap.size 0 ⟨#[c]⟩ (fun i hi=>by
      have hi0:i=0:=by
       have:i<1:=hi;omega
      subst hi0;show _=some (Value.int .u8 (c.toNat:Int))
      rw [hcn];simp) 1
    have HN:Hid (jx f' (p / 10) ((⟨#[c]⟩++o:ByteArray)).data.toList=jx k k []):=by
     show jx f' (p / 10) ((⟨#[c]⟩++o:ByteArray)).data.toList=jx k k []
     rw [← HD.out];simp [jx,hp,hc]
    have hsz:(⟨#[c]⟩++o:ByteArray).size=1+o.size:=by rw [ByteArray.size_append];rfl
    have HSZ:Hid ((⟨#[c]⟩++o:ByteArray).size+p / 10≤k):=by show (⟨#[c]⟩++o:ByteArray).size+p / 10≤k;rw [hsz];omega
    clear hc hcn hsz;go_wp2;go_roundw
    case rel=>exact ⟨f',p / 10,⟨#[c]⟩++o,by go_num,rfl,by omega,HSZ.out,HN.out,hb.alloc hb.size _⟩
    case measure=>simp [intOf];omega
end Go.Proofs.YtlmgojlffgkciaaGreat
