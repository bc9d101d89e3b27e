/- Walks. -/
import Derived.Test.YtpobkmjicbobdaaGreatBn48
namespace Go.Proofs.YtpobkmjicbobdaaGreat
set_option maxRecDepth 100000
set_option maxHeartbeats 40000000
open Go.RowKit Go.Shelf
variable {n:Nat} {w:World}
section
attribute [local go_sem] Oper.semAt_some
theorem ur {F:Fence} {n:Nat} {P:Program} {x:Code} {Q:Exit→Act→World→Prop} {a:Act} {w:World} (M:Act→World→Prop) (h1:x.wpIn F n P (Exit.then M (fun _ _ _=>False)) a w) (h2:∀a' w',M a' w'→Q .normal a' w'):x.wpIn F n P Q a w :=
 wpIn_mono h1 (fun e a w h=>by
  cases e with
  | normal=>exact h2 _ _ h
  | _=>exact False.elim h)
def z7 (w:World) (P:List (List ac)) (e:Ending) (w':World):Prop:=(∃g,e=.returned (sL g P.flatten.length P.flatten.length)∧ay w' w.heap.size g P.flatten.length P.flatten.length (bk P.flatten))∧Bl w w'
theorem xq (a:Option Addr) (n c:Nat) (P:List (List ac)) (w:World) (hP:cK w a n c P) (hn:n≤1048576) (hsum:P.flatten.length≤1048576) (hsm:∀e ∈ P.flatten,e.1.size≤281474976710656∧e.2.2.2.1.size≤281474976710656) :
 CallsIn Fence.wide 6 Tryz.prog 93 #[.slice a n c] w (z7 w P):=by
 have HP:=b6 hP;have HSM:=b6 hsm;have HSU:=b6 hsum;have hroom:=hP.room;have HLN:Hid (P.length=n):=hP.length;clear hP hsm hsum;obtain ⟨i0,hi,hz0,hz1,hz2⟩:=info_parts Tryz.infoEnt;refine callsIn_of_wp_marks Tryz.func93 rfl trivial ?_ rfl;simp only [Tryz.ntmps93,List.size_toArray,List.length_cons,List.length_nil,Nat.reduceAdd,Nat.reduceSub,Array.replicate_succ,Array.replicate_zero,List.push_toArray,List.append_toArray,List.nil_append,List.cons_append];gi_wp2
 obtain ⟨W0,hW0⟩:=aS (w.alloc (.cells #[nZ] 157));have hB0:Bl w W0:=by rw [hW0];exact (Below.refl _ w).alloc (Nat.le_refl _) _
 have bA0:Boxed W0 w.heap.size 157 nZ:=by rw [hW0];exact Boxed.new w _ _
 rw [← hW0];clear hW0;refine wpIn_loop (fun a' W=>∃(i:Nat) (ds:List Nat) (Z:List (List ac)) (u5 u11 u12 u13 u14 u15 u24:Value),a'={ tmps:=#[.slice a n c,undef,nZ,.pointer (some ⟨w.heap.size,0,none⟩),undef,u5,undef,undef,.slice a n c,iT (n:Nat),iT (i:Nat),u11,u12,u13,u14,u15,undef,undef,undef,undef,undef,undef,undef,undef,u24,undef,undef,undef,undef,undef,undef,undef,undef,undef,undef,undef,undef,undef,undef,undef,undef,undef,undef,undef,undef,undef,undef,undef,undef,undef,undef,undef,undef,undef,undef,undef,undef],defers:=nd ds } ∧
  i≤n∧JS w w.heap.size Z W∧Z.flatten=(P.take i).flatten∧(∀l ∈ Z,l≠[]∧Mg.Asc aP l)∧cW w.heap.size W ds∧Bl w W∧w.heap.size<W.heap.size) (fun a' _=>n - (intOf (a'.tmps.getD 10 undef)).toNat) ?_ ?_
 · exact ⟨0,[],[],undef,undef,undef,undef,undef,undef,undef,rfl,by omega,JS.empty bA0 (Nat.le_refl _),by simp,(fun l hl=>by cases hl),⟨List.nodup_nil,fun D hD=>by cases hD⟩,hB0,bA0.lt⟩
 rintro a' W ⟨i,ds,Z,u5,u11,u12,u13,u14,u15,u24,rfl,hi3,hJ,hZ,hZA,hmk,hB,hlt0⟩;clear hB0 bA0;have HJ:Hid (JS w w.heap.size Z W):=hJ;have HZ:Hid (Z.flatten=(P.take i).flatten):=hZ;have HZA:Hid (∀l ∈ Z,l≠[]∧Mg.Asc aP l):=hZA;have HMK:Hid (cW w.heap.size W ds):=hmk;have HB:Hid (Bl w W):=hB;have hsW:=hB.size;clear hJ hZ hZA hmk hB;by_cases hlt:i<n
 · have hltI:(i:Int)<(n:Int):=by omega
   have wi:IntKind.i64.wrap ((i:Int)+1)=((i+1:Nat):Int):=by rw [IntWalk.i64_left];unfold wrap64;omega
   obtain ⟨ba,oa,rfl,hba⟩:=HP.out.form (by omega);obtain ⟨L,al,len,cap,hPi,cL,hE⟩:=HP.out.list HB.out i hlt;obtain ⟨_,_,_,_,_,hE0⟩:=HP.out.list (Below.refl _ w) i hlt;have hEw:aj w al len cap L:=by
    obtain ⟨L',al',len',cap',h1,h2,h3⟩:=HP.out.list (Below.refl _ w) i hlt;rw [hPi] at h1;cases h1;rw [cell_later HB.out h2] at cL;cases cL;exact h3
   have HPI:Hid (P[i]?=some L):=hPi;have HE:Hid (aj w al len cap L):=hEw;have hLl:L.length=len:=hEw.length;have hlr:=hEw.room;have hpl0:=wQ hPi;have hle:len≤1048576:=by have:=HSU.out;omega
   have hZl:=ru HZA.out;rw [HZ.out] at hZl;have HZL:Hid (Z.length+len≤1048576):=by have h1:=HSU.out;show _≤_;omega
   clear hE hE0 hEw hPi hLl hpl0 hZl;obtain ⟨b,off,hal⟩:∃b off,1≤len→al=some ⟨b,off,none⟩∧b<w.heap.size:=by
    by_cases h1:1≤len
    · obtain ⟨b,off,e,hb⟩:=HE.out.form h1;exact ⟨b,off,fun _=>⟨e,hb⟩⟩
    · exact ⟨0,0,fun h=>absurd h h1⟩
   have zba:ba<W.heap.size:=by omega
   gi_wp2_with (refine ⟨trivial,?_⟩;gi_at_call 151;refine (nL _ _ _ _ _).mono ?_;rintro e w' ⟨rfl,rfl⟩)
   have bP:=Boxed.new W 28 (.slice al len cap);have hB1:Bl w (W.alloc (.cells #[.slice al len cap] 28)):=HB.out.alloc hsW _;have hJ1:=HJ.out.below ((Below.refl W.heap.size W).alloc (Nat.le_refl _) (.cells #[.slice al len cap] 28));have hmk1:=HMK.out.others (KeepsOthers.alloc W (.cells #[.slice al len cap] 28));have hmlt:∀D ∈ ds,D<W.heap.size:=fun D hD=>(Array.getElem?_eq_some_iff.1 (HMK.out.2 D hD).2).1
   have HMLT:Hid (∀D ∈ ds,D<W.heap.size):=hmlt;refine wpIn_rangeFunc_ownH rfl (by omega) (gf:=202) (lb:=#[.pointer (some ⟨W.heap.size,0,none⟩)]) rfl trivial (enters_of Tryz.func202 (by kernel_rfl) rfl)
    (pQ (6 - 1) W.heap.size (fun k=>k<w.heap.size∨k=W.heap.size) (by omega) b off al len cap (fun h=>(hal h).1) L _ (.inr rfl) (fun h=>.inl (hal h).2) (fun k hk=>by simp;omega) bP.cell (HE.out.keep hB1) hle)
    bE.trans (nh (fun k hk=>by simp;omega)) (Below.refl _ _) (fun _=>rfl)
    (fun pre W'=>JS w w.heap.size (Z++pre.map (mS L)) W'∧(Boxed W' W.heap.size 28 (.slice al len cap)∧(Bl w W'∧cW w.heap.size W' ds)))
    (fun _ _ _=>False)
    (OwnFrom.and (JS.own (fun pre:List (mw len)=>Z++pre.map (mS L)) (by simp;omega)) (OwnFrom.and (Own.from (boxed_own _ _ _) _) (OwnFrom.and (ownFrom_below (Nat.le_refl _) (by simp;omega)) (qt (fun D hD=>by have:=hmlt D hD;simp;omega)))))
    (fun _ _ _ _ _ hs _ _=>hs)
    ⟨by simpa using hJ1,bP,hB1,hmk1⟩
    (fun x a' W'=>a'={ tmps:=#[sO ba oa n c,undef,nZ,.pointer (some ⟨w.heap.size,0,none⟩),undef,.slice al len cap,.slice (some ⟨b,off+x.1.1*5,none⟩) (x.1.2 - x.1.1) (cap - x.1.1),undef,sO ba oa n c,iT (n:Nat),iT (i:Nat),.bool true,.pointer (some ⟨ba,oa+i,none⟩),.slice al len cap,.slice al len cap,.func (.func 202) #[] #[.pointer (some ⟨W.heap.size,0,none⟩)],.slice (some ⟨b,off+x.1.1*5,none⟩) (x.1.2 - x.1.1) (cap - x.1.1),undef,undef,undef,undef,undef,undef,undef,u24,undef,undef,undef,undef,undef,undef,undef,undef,undef,undef,undef,undef,undef,undef,undef,undef,undef,undef,undef,undef,undef,undef,undef,undef,undef,undef,undef,undef,undef,undef,undef,undef],defers:=[] })
    (fun x a' _ X Y row hs hg hr=>hs)
    ?assign ?body ?done ?stop
   case assign =>
    rintro l pre x W2 K ⟨hJ2,bP2,hB2,hmk2⟩ hK;simp only [zH];gi_wp2
    exact hK _ _ ((KeepsOthers.refl _).from _) (bE.refl _ _) ⟨hJ2,bP2,hB2,hmk2⟩ rfl
   case body =>
    rintro l pre x a' W2 hl _ ⟨⟨v2,X2,H2,hV2,hS2,hT2,hL2⟩,bP2,hB2,hmk2⟩ rfl hpl;obtain ⟨av,cv,rfl⟩:=hV2.form;have hx1:1≤len:=by have:=x.2;omega
    obtain ⟨rfl,hbw⟩:=hal hx1;have hsub:=HE.out.sub (i:=x.1.1) (j:=x.1.2) (Nat.le_of_lt x.2.1) x.2.2;have hsg:mS L x≠[]:=fun e0=>by
     have h1:(mS L x).length=x.1.2 - x.1.1:=hsub.length;rw [e0] at h1;have:=x.2.1;simp at h1;omega
    obtain ⟨e0,l0,hseg⟩:=List.exists_cons_of_ne_nil hsg;have hE2:aj W2 (some ⟨b,off+x.1.1*5,none⟩) (x.1.2 - x.1.1) (cap - x.1.1) (e0 :: l0):=by rw [← hseg];exact hsub.keep hB2
    have hlen2:H2.length<1048576:=by
     rw [hL2,List.length_append,List.length_map];have:=HZL.out;omega
    have CP:=zw w.heap.size w.heap.size _ X2 H2 b (off+x.1.1*5) (x.1.2 - x.1.1) (cap - x.1.1) H2.length e0 l0 W2 hlen2 hB2.size hV2 hE2 hbw hT2;have cB:=hV2.box.cell;have HMK2:Hid (cW w.heap.size W2 ds):=hmk2;have HB2:Hid (Bl w W2):=hB2;have HS2:Hid (Mg.HSt H2 (Z++pre.map (mS L))):=hS2;have HL2:Hid (H2.length=(Z++pre.map (mS L)).length):=hL2;have HSEG:Hid (mS L x=e0 :: l0):=hseg;clear hmk2 hB2 hS2 hL2 hseg hsub hsg hE2 hlen2 hV2 hT2;gi_wp2_with (refine ⟨trivial,?_⟩;gi_at_call 152;refine (CallsIn.inRound l (callsIn_wide.2 CP)).mono ?_;rintro e W3 ⟨rfl,⟨v3,X3,H3,hV3,hP3,hT3,_⟩,hb3,hk3,hq3⟩)
    have bP3:Boxed W3 W.heap.size 28 _:=hq3 _ _ _ bP2 (by decide) (by omega);refine ⟨hk3.from _,mi hb3 bP2 bP3,⟨?_,bP3,HB2.out.trans hb3,HMK2.out.others hk3⟩⟩;have:=JS.push HS2.out HL2.out hV3 hP3 hT3;rw [← HSEG.out,List.append_assoc] at this;rw [List.map_append];exact this
   case done =>
    rintro D xs W2 hD hAll ⟨hJ2,bP2,hB2,hmk2⟩ hK;have hs2:=bP2.lt;gi_wp2
    refine ⟨⟨i+1,D :: ds,Z++xs.map (mS L),_,_,_,_,_,_,_,rfl,by omega,hJ2,?_,?_,?_,hB2,by omega⟩,?_⟩
    · rw [List.flatten_append,hAll.1,HZ.out,oG HPI.out]
    · intro l hl;rcases List.mem_append.1 hl with h | h
      · exact HZA.out l h
      · exact hAll.2 l h
    · simp at hD;refine ⟨List.nodup_cons.2 ⟨fun h=>by have:=HMLT.out D h;omega,hmk2.1⟩,fun D' hD'=>?_⟩;rcases List.mem_cons.1 hD' with rfl | h
      · exact ⟨by omega,hK⟩
      · exact hmk2.2 D' h
    · simp [intOf];omega
   case stop =>
    rintro D c pre W2 _ _ h _;exact h.elim
 · have hin:i=n:=by omega
   subst hin;have hnl:¬(i:Int)<(i:Int):=by omega
   have HZ2:Hid (Z.flatten=P.flatten):=by
    show _=_
    rw [HZ.out,List.take_of_length_le (by rw [HLN.out];omega)]
   obtain ⟨H0,hM0⟩:=pC.start HJ.out HZ2.out HZA.out HSU.out HMK.out HB.out;have HM0:Hid (pC w w.heap.size P ds nZ W [] Z H0):=hM0;clear hM0 HJ HZ HZ2 HZA HMK HB HP HLN hn hroom hi3 hlt hlt0 hsW;gi_wp2
   clear hnl;gi_loopw [7] (fun av wr=>∃out Z H,pC w w.heap.size P ds av wr out Z H) (fun av _=>P.flatten.length - yH av)
   case atStart=>exact ⟨[],Z,H0,HM0.out⟩
   case round =>
    clear HM0;obtain ⟨out,Z1,H,hM⟩:=hrel;by_cases h0:H.length=0
    · have hH0:H=[]:=List.length_eq_zero_iff.1 h0;subst hH0;clear h0;obtain ⟨ab,cb,cB⟩:=hM.box;have hlen:out.length=P.flatten.length:=by have h1:=hM.len;rw [hM.hst.none] at h1;simpa using h1
      have hout:out=bk P.flatten:=uC hM.mst hM.hst;obtain ⟨ao,co,rfl,hEo⟩:=sQ hM.row hM.ents;have HLE:Hid (out.length=P.flatten.length):=hlen;have HOUT:Hid (out=bk P.flatten):=hout;have hol:out.length≤1048576:=by have:=HSU.out;omega
      have CE:=pq ao out.length co out wr hEo hol (fun e he=>HSM.out e (by rw [hout] at he;exact (bJ _).2.mem_iff.1 he));have HMK:Hid (cW w.heap.size wr ds):=hM.mks;have HBW:Hid (Bl w wr):=hM.bel;simp only [List.length_nil] at cB;have nn:¬(0:Int)<0:=by omega
      clear hM hlen hout hEo;gi_wp2_with (refine ⟨trivial,?_⟩;gi_at_call 149;refine (callsIn_wide.2 CE).mono ?_;rintro e w5 ⟨rfl,hO5,hs5,hb5⟩)
      refine iF ds w5 (HMK.out.others (KeepsOthers.of_grownBy (dE hb5) (fun j o e _=>by cases e))) (fun W' hb' hc'=>?_);refine ⟨_,results_tmp rfl _ _ _,⟨wr.heap.size,by rw [HLE.out];rfl,?_⟩,?_⟩
      · rw [← HLE.out,← HOUT.out];exact (hO5.mono HBW.out.size).cellsKept hc'
      · exact (HBW.out.trans (hb5.mono HBW.out.size)).trans hb'
    · obtain ⟨g,cg,X,xb,xo,xn,xc,xk,e,l,R,hH,hS,hlow,hE⟩:=hM.first (by omega);subst hH;obtain ⟨es,eq,ed,et,en⟩:=e;have HEW:Hid (ec (es,eq,ed,et,en)):=hE.ents _ List.mem_cons_self;have HM:Hid (pC w w.heap.size P ds _ wr out Z1 (((es,eq,ed,et,en) :: l,xk) :: R)):=hM;obtain ⟨ao,co,hav,_⟩:=sQ hM.row hM.ents;subst hav;have HRW:Hid (wr.ownsRow (w.heap.size+1) 50 5 (.slice ao out.length co) out.length (aE out)):=hM.row;have HS:Hid (cT wr w.heap.size w.heap.size g (R.length+1) cg ((xb,xo,xn,xc,xk) :: X) (((es,eq,ed,et,en) :: l,xk) :: R)):=hS;have HLOW:Hid (∀x ∈ (xb,xo,xn,xc,xk) :: X,x.1<w.heap.size):=hlow;have hfew:R.length+1≤1048576:=hM.few;have hol:out.length+1≤1048576:=by
       have h1:=HSU.out;have h2:=hM.len;have h3:=lp (hM.hst.least dH hM.heap).1;omega
      have hxn:0<xn:=by have:=hE.length;simp at this;omega
      have hxc:=hE.room;have HXL:Hid (l.length+1=xn):=by have:=hE.length;simp at this;exact this
      have cB:wr.cell? ⟨w.heap.size,0,none⟩=some (sL g (R.length+1) cg):=hS.box;obtain ⟨y0,y1⟩:=hS.own.at2 (i:=0) rfl;simp only [Nat.zero_mul,Nat.zero_add] at y0 y1;obtain ⟨e0,e1,e2,e3,e4⟩:=hE.cells _ rfl 0 (by simp);simp only [Nat.zero_mul,Nat.add_zero,List.getElem_cons_zero] at e0 e1 e2 e3 e4;have zg:g<wr.heap.size:=hS.own.lt.2;have zx:=World.block_lt_of_cell? _ _ e0;simp only at zx;have hxnI:(0:Int)<(xn:Int):=by omega
      have hbs:w.heap.size<wr.heap.size:=World.block_lt_of_cell? _ _ cB;clear hM hS hlow hE h0;gi_wp2_with (gi_at_builtin;refine wpListIn_append_own_at _ rfl _ _ 28 rfl (w.heap.size+1) 50 i0 _ 5 56 Tryz.underlying28 hi hz0 hz1 hz2 rfl (by decide) _ _ _ rfl (HRW.out.alloc _) ⟨wr.heap.size,0,none⟩ 1 1 (b9 (es,eq,ed,et,en)) rfl rfl (xR _ _ _ _ _ _ _) (aQ [(es,eq,ed,et,en)]) (by unfold maxLen;omega) (by omega) (by simp;omega) ?_;intro v1 w1 hown1 hgrow1 hnil1 hat1;obtain ⟨g1,c1,rfl⟩:=ownsRow_succ hown1)
      have hk1:Bl wr (wr.alloc (.cells #[.string es,iT eq,iT ed,.string et,iT en] 50)):=bZ;have hrl:∀k,(Value.slice ao out.length co).ownBlock=some k→w.heap.size+1≤k:=fun k ek=>(HRW.out.lt k ek).1
      have nB:some w.heap.size≠(Value.slice ao out.length co).ownBlock:=fun ek=>by have:=hrl _ ek.symm;omega
      have nG:some g≠(Value.slice ao out.length co).ownBlock:=(vj HS.out.own.owns HRW.out (by decide) rfl).symm;have nX:∀x ∈ (xb,xo,xn,xc,xk) :: X,some x.1≠(Value.slice ao out.length co).ownBlock:=fun x hx ek=>by have:=hrl _ ek.symm;have:=HLOW.out x hx;omega
      have hgr:(wr.alloc (.cells #[.string es,iT eq,iT ed,.string et,iT en] 50)).grownBy w1 (Value.slice ao out.length co).ownBlock:=hgrow1;have hS1:cT w1 w.heap.size w.heap.size g (R.length+1) cg ((xb,xo,xn,xc,xk) :: X) (((es,eq,ed,et,en) :: l,xk) :: R):=(HS.out.below hk1).kept hgr nB nG nX;have hO1:KeepsOthers wr w1:=(KeepsOthers.alloc wr (.cells #[.string es,iT eq,iT ed,.string et,iT en] 50)).trans (KeepsOthers.of_grownBy hgr (fun j o ej hj=>by
       rcases (HRW.out.alloc (.cells #[.string es,iT eq,iT ed,.string et,iT en] 50)).2 with ⟨hv,_⟩ | ⟨gr,cap,cur,hv,_,hgb,_⟩
       · rw [hv] at ej;cases ej
       · rw [hv] at ej;cases ej;rw [hgb] at hj;cases hj;rfl))
      have hb1:Bl w w1:=(HM.out.bel.trans (hk1.mono HM.out.bel.size)).grown hgr (by have:=hk1.size;omega) (fun k ek=>by have:=hrl k ek;omega);have hf1:w1.frozen? ⟨w.heap.size,0,none⟩=false:=by
       rw [aV hgr (x:=⟨w.heap.size,0,none⟩) (by have:=hk1.size;simp only;omega) nB,(vH hk1).2 _ _ hbs];exact HM.out.fr
      have HO1:Hid (w1.ownsRow (w.heap.size+1) 50 5 (sL g1 (out.length+1) c1) (out.length+1) (aE out++b9 (es,eq,ed,et,en))):=hown1;have HG1:Hid (g1≠g):=fun e'=>(vj hS1.own.owns hown1 (by decide) rfl) (by rw [e'];rfl)
      have HB1:Hid (Bl w w1.drew):=hb1.drew;have HK1:Hid (cW w.heap.size w1.drew ds):=(HM.out.mks.others hO1).others (KeepsOthers.drew w1);clear hrl nB nG nX hgr hk1 hown1 hgrow1 hnil1 hat1 hO1 hb1 y0 y1 e0 e1 e2 e3 e4 cB zg zx hxnI HRW HS;have kd:cT w1.drew w.heap.size w.heap.size g (R.length+1) cg ((xb,xo,xn,xc,xk) :: X) (((es,eq,ed,et,en) :: l,xk) :: R):=hS1.below (Below.refl _ w1).drew;have hF1:w1.drew.frozen? ⟨w.heap.size,0,none⟩=false:=hf1;have hR1:w1.drew.ownsRow (w.heap.size+1) 50 5 (sL g1 (out.length+1) c1) (out.length+1) (aE out++b9 (es,eq,ed,et,en)):=HO1.out.kept (dE (Below.refl _ w1).drew) (.inr (fun e'=>by cases e'));obtain ⟨y0,_⟩:=kd.own.at2 (i:=0) rfl;simp only [Nat.zero_mul] at y0;have f0:=kd.own.owns.frozenAt 0;obtain ⟨le,hle',hEd,_⟩:=kd.rest 0 _ _ rfl rfl;cases hle';obtain ⟨no,hno,hEt⟩:=aj.tail (show aj w1.drew (some ⟨xb,xo,none⟩) xn xc ((es,eq,ed,et,en) :: l) from hEd);have HS3:Hid (cT (w1.drew.setCell ⟨g,0,none⟩ (sO xb no (xn - 1) (xc - 1))) w.heap.size w.heap.size g (R.length+1) cg ((xb,no,xn - 1,xc - 1,xk) :: X) ((l,xk) :: R)):=kd.cut hEt;have HB3:Hid (Bl w (w1.drew.setCell ⟨g,0,none⟩ (sO xb no (xn - 1) (xc - 1)))):=HB1.out.setCell (p:=⟨g,0,none⟩) kd.own.lt.1 _;have HK3:Hid (cW w.heap.size (w1.drew.setCell ⟨g,0,none⟩ (sO xb no (xn - 1) (xc - 1))) ds):=HK1.out.others (KeepsOthers.setCell _ _ _);have HF3:Hid ((w1.drew.setCell ⟨g,0,none⟩ (sO xb no (xn - 1) (xc - 1))).frozen? ⟨w.heap.size,0,none⟩=false):=by
       show _=_
       rw [World.frozen?_setCell];exact hF1
      have HO3:Hid ((w1.drew.setCell ⟨g,0,none⟩ (sO xb no (xn - 1) (xc - 1))).ownsRow (w.heap.size+1) 50 5 (sL g1 (out.length+1) c1) (out.length+1) (aE out++b9 (es,eq,ed,et,en))):=hR1.kept (e9 _ _ _ _) (.inr (fun e'=>HG1.out (Option.some.inj e')));clear hS1 hEd hEt hf1 hF1 hR1 HO1 HB1 HK1;have h1I:(1:Int)≤(xn:Int):=by omega
      have h1N:1≤xn:=by omega
      have h1C:(1:Int)≤(xc:Int):=by omega
      refine ur (fun a' w'=>∃t25 t26 t27 t28 t29 t30 t31 t32 t33 t34 t35 t36 t37 t38 t39 t40 t41 t42 t43 t44 t45 t46 t47 t48 t49 t50 t51 t52 t53 t54,a'={ tmps:=#[.slice a i c,undef,nZ,.pointer (some ⟨w.heap.size,0,none⟩),undef,u5,undef,sL g1 (out.length+1) c1,.slice a i c,iT (i:Nat),iT (i:Nat),.bool false,u12,u13,u14,u15,undef,undef,undef,undef,undef,undef,undef,undef,u24,t25,t26,t27,t28,t29,t30,t31,t32,t33,t34,t35,t36,t37,t38,t39,t40,t41,t42,t43,t44,t45,t46,t47,t48,t49,t50,t51,t52,t53,t54,undef,undef],defers:=nd ds }∧cT w' w.heap.size w.heap.size g (R.length+1) cg ((xb,no,xn - 1,xc - 1,xk) :: X) ((l,xk) :: R)∧Bl w w'∧cW w.heap.size w' ds∧w'.frozen? ⟨w.heap.size,0,none⟩=false∧w'.ownsRow (w.heap.size+1) 50 5 (sL g1 (out.length+1) c1) (out.length+1) (aE out++b9 (es,eq,ed,et,en))) ?_ ?_
      · by_cases hc1:xc=1
        · subst hc1;obtain rfl:xn=1:=by omega
          rw [if_pos rfl] at hno;subst hno;refine wpIn_wide.2 ?_;refine wp_region_held_drew (S:=(fun w'=>w'.cell? ⟨w.heap.size,0,none⟩=some (sL g (R.length+1) cg)∧g<w'.heap.size)) (by kernel_rfl) (⟨kd.box,kd.own.lt.2⟩) (fun aa=>?_);generalize w1.drew=wd at kd y0 f0 HS3 HB3 HK3 HF3 HO3 aa ⊢;refine aO 0 4 aa ?_;refine aI 4 fun K hK=>?_
          go_simp;refine hK.out _ _ (⟨kd.box,kd.own.lt.2⟩) (fun aa=>?_);clear hK K;(try go_frame);refine aO 5 3 aa ?_;refine aI 8 fun K hK=>?_
          have zg:=kd.own.lt.2;go_simp;clear zg;refine hK.out _ _ (⟨HS3.out.box,HS3.out.own.lt.2⟩) (fun aa=>?_);clear hK K;(try go_frame);refine dN ?_;exact ⟨_,_,_,_,_,_,_,_,_,_,_,_,_,_,_,_,_,_,_,_,_,_,_,_,_,_,_,_,_,_,rfl,HS3.out,HB3.out,HK3.out,HF3.out,HO3.out⟩
        · have hc0:¬xc - 1=0:=by omega
          rw [if_neg hc0] at hno;subst hno;refine wpIn_wide.2 ?_;refine wp_region_held_drew (S:=(fun w'=>w'.cell? ⟨w.heap.size,0,none⟩=some (sL g (R.length+1) cg)∧g<w'.heap.size)) (by kernel_rfl) (⟨kd.box,kd.own.lt.2⟩) (fun aa=>?_);generalize w1.drew=wd at kd y0 f0 HS3 HB3 HK3 HF3 HO3 aa ⊢;refine aO 0 4 aa ?_;refine aI 4 fun K hK=>?_
          go_simp;refine hK.out _ _ (⟨kd.box,kd.own.lt.2⟩) (fun aa=>?_);clear hK K;(try go_frame);refine aO 5 3 aa ?_;refine aI 8 fun K hK=>?_
          have zg:=kd.own.lt.2;go_simp;clear zg;refine hK.out _ _ (⟨HS3.out.box,HS3.out.own.lt.2⟩) (fun aa=>?_);clear hK K;(try go_frame);refine dN ?_;exact ⟨_,_,_,_,_,_,_,_,_,_,_,_,_,_,_,_,_,_,_,_,_,_,_,_,_,_,_,_,_,_,rfl,HS3.out,HB3.out,HK3.out,HF3.out,HO3.out⟩
      rintro a' w3 ⟨t25,t26,t27,t28,t29,t30,t31,t32,t33,t34,t35,t36,t37,t38,t39,t40,t41,t42,t43,t44,t45,t46,t47,t48,t49,t50,t51,t52,t53,t54,rfl,hS3,hB3,hK3,hF3,hO3⟩;clear HS3 HB3 HK3 HF3 HO3 kd y0 f0 hno;have HS3:Hid (cT w3 w.heap.size w.heap.size g (R.length+1) cg ((xb,no,xn - 1,xc - 1,xk) :: X) ((l,xk) :: R)):=hS3;have HB3:Hid (Bl w w3):=hB3;have HK3:Hid (cW w.heap.size w3 ds):=hK3;have HF3:Hid (w3.frozen? ⟨w.heap.size,0,none⟩=false):=hF3;have HO3:Hid (w3.ownsRow (w.heap.size+1) 50 5 (sL g1 (out.length+1) c1) (out.length+1) (aE out++b9 (es,eq,ed,et,en))):=hO3;have cB:w3.cell? ⟨w.heap.size,0,none⟩=some (sL g (R.length+1) cg):=hS3.box;obtain ⟨y0,_⟩:=hS3.own.at2 (i:=0) rfl;simp only [Nat.zero_mul] at y0;have zg:g<w3.heap.size:=hS3.own.lt.2;have HNG:Hid (g1≠g):=HG1.out;have HGC:Hid (∃cc,w3.heap[g]?=some (.cells cc 164 (0,0))):=hS3.own.cells;have HGL:Hid (w.heap.size≤g∧w.heap.size≠g):=⟨hS3.own.lt.1,hS3.ne⟩;have HG1L:Hid (w.heap.size+1≤g1):=(hO3.lt g1 rfl).1;have zB:=World.block_lt_of_cell? _ _ cB;simp only at zB;have HLV:Hid (∀s ∈ R,s.1≠[]):=fun s hs=>(HM.out.hst.live s (List.mem_cons_of_mem _ hs)).1
      clear hS3 hB3 hK3 hF3 hO3;cases l with
      | nil =>
       have hx1:xn - 1=0:=by have:=HXL.out;simp at this;omega
       have hCP:=Ax w.heap.size w.heap.size g (R.length+1) cg R.length _ _ ([],xk) w3 rfl hfew (Nat.le_refl _) HF3.out HS3.out (xv HM.out.heap HLV.out) rfl (fun j s hj hs=>by
        match j,hj,hs with
        | j+1,_,hs=>exact HLV.out s (List.mem_of_getElem? (by simpa using hs)))
       rw [hx1] at y0;gi_wp2_with (refine ⟨trivial,?_⟩;gi_at_call 153;refine (callsIn_wide.2 hCP).mono ?_;rintro e w4 ⟨⟨v4,rfl⟩,⟨X4,H4,hS4,hP4,hT4,hX4⟩,hb4,hk4,hf4,wm,hg4,hg5⟩)
       have hp4:H4.Perm R:=(List.perm_cons _).1 hP4;have hl4:H4.length=R.length:=hp4.length_eq;have hO4:w4.ownsRow (w.heap.size+1) 50 5 (sL g1 (out.length+1) c1) (out.length+1) (aE out++b9 (es,eq,ed,et,en)):=(HO3.out.kept hg4 (.inr (fun e'=>HNG.out (Option.some.inj e')))).kept hg5 (.inr (fun e'=>by have h1:=Option.some.inj e';have h2:=HG1L.out;simp only at h1;omega));go_roundw
       case rel =>
        refine ⟨out++[(es,eq,ed,et,en)],Z1.set xk [],H4,HM.out.next (g:=g) (c:=cg) (X4:=X4) (by rw [hl4];exact hS4) (HM.out.hst.last.perm hp4) (by rw [hl4];exact hT4) (fun x hx=>?_) hf4 hO4 HEW.out (HK3.out.others hk4) (HB3.out.trans hb4) (by omega)⟩;have h1:=hX4 x hx;rcases List.mem_cons.1 h1 with rfl | h2
        · exact HLOW.out (xb,xo,xn,xc,xk) List.mem_cons_self
        · exact HLOW.out x (List.mem_cons_of_mem _ h2)
       case measure=>show P.flatten.length - (out.length+1)<P.flatten.length - out.length;have h2:=HM.out.len;have h3:=lp (HM.out.hst.least dH HM.out.heap).1;omega
      | cons e2 l2 =>
       have hx1:¬xn - 1=0:=by have:=HXL.out;simp at this;omega
       have hx1I:¬((xn - 1:Nat):Int)=0:=by omega
       have hCF:=Ay w.heap.size w.heap.size g (R.length+1) cg _ _ w3 hfew (by omega) HS3.out (Mg.down_start HM.out.heap (fun k k0 _=>by match k,k0 with | k+1,_=>rfl)) (fun s hs=>by
        rcases List.mem_cons.1 hs with rfl | h2
        · exact fun e'=>by cases e'
        · exact HLV.out s h2)
       gi_wp2_with (refine ⟨trivial,?_⟩;gi_at_call 154;refine (callsIn_wide.2 hCF).mono ?_;rintro e w4 ⟨rfl,⟨X4,H4,hS4,hP4,hX4,hT4⟩,hg4⟩)
       have hl4:H4.length=R.length+1:=hP4.length_eq;have hO4:w4.ownsRow (w.heap.size+1) 50 5 (sL g1 (out.length+1) c1) (out.length+1) (aE out++b9 (es,eq,ed,et,en)):=HO3.out.kept hg4 (.inr (fun e'=>HNG.out (Option.some.inj e')));have hk4:KeepsOthers w3 w4:=KeepsOthers.of_grownBy hg4 (fun j o e' ho=>by cases e';obtain ⟨cc,hc⟩:=HGC.out;rw [hc] at ho;cases ho;rfl);have hf4:w4.frozen? ⟨w.heap.size,0,none⟩=false:=by rw [aV hg4 (x:=⟨w.heap.size,0,none⟩) zB (fun e'=>HGL.out.2 (Option.some.inj e'))];exact HF3.out
       have hb4:Bl w w4:=HB3.out.grown hg4 HB3.out.size (fun k e'=>by cases e';exact HGL.out.1);go_roundw
       case rel =>
        refine ⟨out++[(es,eq,ed,et,en)],Z1.set xk (e2 :: l2),H4,HM.out.next (g:=g) (c:=cg) (X4:=X4) (by rw [hl4];exact hS4) (HM.out.hst.more.perm hP4) (by rw [hl4];exact hT4) (fun x hx=>?_) hf4 hO4 HEW.out (HK3.out.others hk4) hb4 (by omega)⟩;have h1:=hX4.mem_iff.1 hx;rcases List.mem_cons.1 h1 with rfl | h2
        · exact HLOW.out (xb,xo,xn,xc,xk) List.mem_cons_self
        · exact HLOW.out x (List.mem_cons_of_mem _ h2)
       case measure=>show P.flatten.length - (out.length+1)<P.flatten.length - out.length;have h2:=HM.out.len;have h3:=lp (HM.out.hst.least dH HM.out.heap).1;omega
end
theorem pV {base g c:Nat} {vs:List Value} {P:List (List ac)} (ho:w.ownsRow base 28 1 (sL g n c) n vs) (hh:eJ w vs P):cK w (pT g) n c P:=by
 have hrc:=cj ho;have hl:P.length=n:=by have h1:=ho.1;have h2:=hh.1;omega
 refine ⟨hl,hrc.1,hrc.2,(fun e=>by cases e),?_,?_⟩
 · rintro x e _;cases e;exact ⟨(ho.lt g rfl).2,rfl⟩
 · rintro x e i hi;cases e;obtain ⟨s,m,d,h1,h2⟩:=hh.2 i P[i] (List.getElem?_eq_getElem hi);refine ⟨s,m,d,?_,h2⟩;simp only [Nat.zero_add];exact (ho.cellAt i (by omega)).trans h1
def Cp (w:World) (F:List ac) (e:Ending) (w':World):Prop:=(∃a n,e=.returned (.slice a n n)∧dV w' w.heap.size a n n F)∧Bl w w'
theorem tp (lo:Nat) (sq:Int) (am av ak:Option Addr) (nm cm nv cv nk ck:Nat) (M:List ac) (V:List (List ag)) (S:List Int) (w:World) (hT:bf lo w am nm cm av nv cv ak nk ck M V S) (hsz:M.length+(BT V+V.length)≤1048576) (hsm:∀e ∈ M,Br e) (hsv:∀B ∈ V,Cg B) :
 Calls Tryz.prog 29 #[.agg #[iT sq,.slice am nm cm,.slice av nv cv,.slice ak nk ck]] w (Cp w (mX sq M V S)):=by
 have HVN:Hid (V.length=nv):=hT.levels.length;have kA:∀o,Bl w (w.alloc o):=fun o=>(Below.refl _ _).alloc (Nat.le_refl _) o
 by_cases hn:nv=3
 · subst hn;obtain ⟨A,B,C,hV3⟩:∃A B C,V=[A,B,C]:=by
    have:=HVN.out;match V,this with
    | [A,B,C],_=>exact ⟨A,B,C,rfl⟩
   subst hV3;obtain ⟨b,off,rfl,hbb⟩:=hT.levels.form (by omega);obtain ⟨A',a0,n0,c0,hA,l0,hR0⟩:=hT.levels.level (Below.refl _ w) 0 (by omega);obtain ⟨B',a1,n1,c1,hB,l1,hR1⟩:=hT.levels.level (Below.refl _ w) 1 (by omega);obtain ⟨C',a2,n2,c2,hC,l2,hR2⟩:=hT.levels.level (Below.refl _ w) 2 (by omega);simp only [List.getElem?_cons_zero,List.getElem?_cons_succ,Option.some.injEq] at hA hB hC;subst hA hB hC;rw [Nat.add_zero] at l0;obtain ⟨Z,hZ⟩:=aS (bc sq M [A,B,C] S);have HCS:Hid (∀w',Bl w w'→Calls Tryz.prog 86 #[.agg #[iT sq,.slice am nm cm,sO b off 3 cv,.slice ak nk ck]] w' fun e w''=>e=.returned (.tuple #[.agg #[iT sq,.slice am nm cm,.slice a0 n0 c0,.slice a1 n1 c1,.slice a2 n2 c2,.slice ak nk ck],.bool Z])∧Bl w' w''):=fun w' k=>by
    rw [hZ];exact qB lo sq am ak nm cm b off cv nk ck M A B C S a0 a1 a2 n0 c0 n1 c1 n2 c2 w' (hT.mem.1.keep k) (hT.snaps.keep k) (hR0.keep k) (hR1.keep k) (hR2.keep k) (cell_later k l0) (cell_later k l1) (cell_later k l2)
   cases Z with
   | false =>
    have HF:Hid (mX sq M [A,B,C] S=[]):=by show mX _ _ _ _=_;unfold mX;rw [← hZ];rfl
    clear hZ hT HVN l0 l1 l2 hR0 hR1 hR2 hbb hsz hsm hsv;go_enter Tryz.func29,Tryz.ntmps29
    go_wp2_with fail
    refine (HCS.out _ (kA _)).mono ?_;rintro e w1 ⟨rfl,hb1⟩;have K1:Hid (Bl w w1):=(kA _).trans (hb1.mono (kA _).size);clear hb1 kA HCS;go_wp2;go_ret;exact ⟨⟨none,0,rfl,by rw [HF.out];exact dV.none _ _⟩,K1.out.alloc K1.out.size _⟩
   | true =>
    have hq:=(jn sq M A B C S).1 hZ.symm;have hTB:=hZ.symm;obtain ⟨P,hP⟩:=aS (cU M A B C);have HF:Hid (mX sq M [A,B,C] S=bk P.flatten):=by show mX _ _ _ _=_;unfold mX;rw [if_pos hTB,← wE hTB,hP]
    have hpl:=(iC M A B C).length_eq;have htl:=yi M A B C;have hts:=Ai hsm hsv;have hPm:∀e ∈ P.flatten,Br e:=fun e he=>hts e ((iC M A B C).mem_iff.1 (by rw [← hP];exact he))
    have hPn:P.flatten.length≤1048576:=by rw [hP];omega
    have hsl:n0≤8∧n1≤8∧n2≤8:=by
     have h6:=hq.2.2.2.2.2.1;have hI:bu A B C=true→((A.length:Int)≤4)∧((B.length:Int)≤8)∧((C.length:Int)≤8):=by
      unfold bu sZ oy;simp only [Bool.and_eq_true,decide_eq_true_eq,Bool.not_eq_true'];rintro ⟨⟨h1,_⟩,⟨h2,_⟩,h3,_⟩;exact ⟨h1,h2,h3⟩
     have h7:=hI h6;have e0:=hR0.length;have e1:=hR1.length;have e2:=hR2.length;omega
    have CL:Hid (∀w',Bl w w'→Calls Tryz.prog 94 #[.agg #[iT sq,.slice am nm cm,.slice a0 n0 c0,.slice a1 n1 c1,.slice a2 n2 c2,.slice ak nk ck]] w' (vg w w' P)):=fun w' k=>by
     rw [hP];exact callsIn_wide.1 (qF lo sq am ak nm cm nk ck a0 a1 a2 n0 c0 n1 c1 n2 c2 M A B C w w' k hT.mem.1 hR0 hR1 hR2 hsl.1 hsl.2.1 hsl.2.2)
    have hpc:P.length≤1048576:=by
     have e0:=hR0.length;have e1:=hR1.length;have e2:=hR2.length;rw [hP];simp [cU];omega
    have CM:Hid (∀(g n c:Nat) (w':World),cK w' (pT g) n c P→Calls Tryz.prog 93 #[sL g n c] w' (z7 w' P)):=fun g n c w' h=>callsIn_wide.1 (xq _ _ _ P w' h (by have:=h.length;omega) hPn hPm)
    clear hZ hT HVN l0 l1 l2 hR0 hR1 hR2 hbb hsz hsm hsv hP hq hTB hpl htl hts hPm hPn hsl hpc;go_enter Tryz.func29,Tryz.ntmps29
    go_wp2_with fail
    refine (HCS.out _ (kA _)).mono ?_;rintro e w1 ⟨rfl,hb1⟩;have K1:Hid (Bl w w1):=(kA _).trans (hb1.mono (kA _).size);clear hb1 kA HCS;go_wp2_with fail
    refine (CL.out _ (K1.out.alloc K1.out.size _)).mono ?_;rintro e w2 ⟨⟨g,n,c,vs,rfl,ho,hh⟩,hb2⟩;have K2:Hid (Bl w w2):=(K1.out.alloc K1.out.size _).trans (hb2.mono (K1.out.alloc K1.out.size _).size);have HP2:Hid (cK w2 (pT g) n c P):=pV ho (hh.keep K2.out);clear ho hh hb2;go_wp2_with fail
    refine (CM.out _ _ _ _ HP2.out).mono ?_;rintro e w3 ⟨⟨g3,rfl,hO3⟩,hb3⟩;obtain ⟨m,hm⟩:=aS P.flatten.length;rw [← hm] at hO3 ⊢;have HO3:Hid (ay w3 w.heap.size g3 m m (bk P.flatten)):=hO3.mono K2.out.size;have K3:Hid (Bl w w3):=K2.out.trans (hb3.mono K2.out.size);clear hO3 hb3 HP2 hm;go_wp2;go_ret;exact ⟨⟨_,m,rfl,by rw [HF.out];exact dV.some HO3.out⟩,K3.out⟩
 · have HZ:Hid (bc sq M V S=false):=fS (fun h=>hn (by have:=(bh h).2.2.2.2.2.1;have:=HVN.out;omega));have HF:Hid (mX sq M V S=[]):=by show mX _ _ _ _=_;unfold mX;rw [HZ.out];rfl
   clear hT HVN hsz hsm hsv;go_enter Tryz.func29,Tryz.ntmps29
   go_wp2_with fail
   refine (mN sq am av ak nm cm nv cv nk ck _ hn).mono ?_;rintro e w1 ⟨rfl,hb1⟩;have K1:Hid (Bl w w1):=(kA _).trans (hb1.mono (kA _).size);clear hb1 kA;go_wp2;go_ret;exact ⟨⟨none,0,rfl,by rw [HF.out];exact dV.none _ _⟩,K1.out.alloc K1.out.size _⟩
theorem iY {q:Int} {M:List ac} {V:List (List ag)} {S:List Int} (h:bc q M V S=true):0≤q∧q≤100000∧M.length≤60∧aR M=true∧S.length≤4∧V.length=3:=by
 obtain ⟨A,B,C,rfl⟩:=kJ h;obtain ⟨h1,h2,h3,h4,_,h6,_⟩:=dQ.1 h;exact ⟨h1,h2,h3,h4,(fo.1 h6).1,rfl⟩
end Go.Proofs.YtpobkmjicbobdaaGreat
