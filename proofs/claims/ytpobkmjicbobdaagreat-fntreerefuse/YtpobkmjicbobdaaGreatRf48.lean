/- Walks. -/
import Derived.Test.YtpobkmjicbobdaaGreatRf47
namespace Go.Proofs.YtpobkmjicbobdaaGreat
set_option maxRecDepth 100000
set_option maxHeartbeats 40000000
open Go.RowKit Go.Shelf
section
attribute [local go_sem] Oper.semAt_some
theorem uf {F:Fence} {n:Nat} {P:Program} {x:Code} {Q:Exit→Act→World→Prop} {a:Act} {w:World} (M:Act→World→Prop) (h1:x.wpIn F n P (Exit.then M (fun _ _ _=>False)) a w) (h2:∀a' w',M a' w'→Q .normal a' w'):x.wpIn F n P Q a w :=
 wpIn_mono h1 (fun e a w h=>by
  cases e with
  | normal=>exact h2 _ _ h
  | _=>exact False.elim h)
def A8 (w:World) (P:List (List ac)) (e:Ending) (w':World):Prop:=(∃g,e=.returned (sL g P.flatten.length P.flatten.length)∧ar w' w.heap.size g P.flatten.length P.flatten.length (aV P.flatten))∧Bl w w'
theorem wR (a:Option Addr) (n c:Nat) (P:List (List ac)) (w:World) (hP:cT w a n c P) (hn:n≤1048576) (hsum:P.flatten.length≤1048576) (hsm:∀e ∈ P.flatten,e.1.size≤281474976710656∧e.2.2.2.1.size≤281474976710656) :
 CallsIn Fence.wide 6 Tryz.prog 93 #[.slice a n c] w (A8 w P):=by
 have HP:=bK hP;have HSM:=bK hsm;have HSU:=bK hsum;have hroom:=hP.room;have HLN:Hid (P.length=n):=hP.length;clear hP hsm hsum;obtain ⟨i0,hi,hz0,hz1,hz2⟩:=info_parts Tryz.infoEnt;refine callsIn_of_wp_marks Tryz.func93 rfl trivial ?_ rfl;simp only [Tryz.ntmps93,List.size_toArray,List.length_cons,List.length_nil,Nat.reduceAdd,Nat.reduceSub,Array.replicate_succ,Array.replicate_zero,List.push_toArray,List.append_toArray,List.nil_append,List.cons_append];gi_wp2
 obtain ⟨W0,hW0⟩:=aI (w.alloc (.cells #[nZ] 157));have hB0:Bl w W0:=by rw [hW0];exact (Below.refl _ w).alloc (Nat.le_refl _) _
 have bA0:Boxed W0 w.heap.size 157 nZ:=by rw [hW0];exact Boxed.new w _ _
 rw [← hW0];clear hW0;refine wpIn_loop (fun a' W=>∃(i:Nat) (ds:List Nat) (Z:List (List ac)) (u5 u11 u12 u13 u14 u15 u24:Value),a'={ tmps:=#[.slice a n c,undef,nZ,.pointer (some ⟨w.heap.size,0,none⟩),undef,u5,undef,undef,.slice a n c,iT (n:Nat),iT (i:Nat),u11,u12,u13,u14,u15,undef,undef,undef,undef,undef,undef,undef,undef,u24,undef,undef,undef,undef,undef,undef,undef,undef,undef,undef,undef,undef,undef,undef,undef,undef,undef,undef,undef,undef,undef,undef,undef,undef,undef,undef,undef,undef,undef,undef,undef,undef],defers:=mX ds } ∧
  i≤n∧JS w w.heap.size Z W∧Z.flatten=(P.take i).flatten∧(∀l ∈ Z,l≠[]∧Mg.Asc aL l)∧cX w.heap.size W ds∧Bl w W∧w.heap.size<W.heap.size) (fun a' _=>n - (intOf (a'.tmps.getD 10 undef)).toNat) ?_ ?_
 · exact ⟨0,[],[],undef,undef,undef,undef,undef,undef,undef,rfl,by omega,JS.empty bA0 (Nat.le_refl _),by simp,(fun l hl=>by cases hl),⟨List.nodup_nil,fun D hD=>by cases hD⟩,hB0,bA0.lt⟩
 rintro a' W ⟨i,ds,Z,u5,u11,u12,u13,u14,u15,u24,rfl,hi3,hJ,hZ,hZA,hmk,hB,hlt0⟩;clear hB0 bA0;have HJ:Hid (JS w w.heap.size Z W):=hJ;have HZ:Hid (Z.flatten=(P.take i).flatten):=hZ;have HZA:Hid (∀l ∈ Z,l≠[]∧Mg.Asc aL l):=hZA;have HMK:Hid (cX w.heap.size W ds):=hmk;have HB:Hid (Bl w W):=hB;have hsW:=hB.size;clear hJ hZ hZA hmk hB;by_cases hlt:i<n
 · have hltI:(i:Int)<(n:Int):=by omega
   have wi:IntKind.i64.wrap ((i:Int)+1)=((i+1:Nat):Int):=by rw [IntWalk.i64_left];unfold wrap64;omega
   obtain ⟨ba,oa,rfl,hba⟩:=HP.out.form (by omega);obtain ⟨L,al,len,cap,hPi,cL,hE⟩:=HP.out.list HB.out i hlt;obtain ⟨_,_,_,_,_,hE0⟩:=HP.out.list (Below.refl _ w) i hlt;have hEw:ah w al len cap L:=by
    obtain ⟨L',al',len',cap',h1,h2,h3⟩:=HP.out.list (Below.refl _ w) i hlt;rw [hPi] at h1;cases h1;rw [cell_later HB.out h2] at cL;cases cL;exact h3
   have HPI:Hid (P[i]?=some L):=hPi;have HE:Hid (ah w al len cap L):=hEw;have hLl:L.length=len:=hEw.length;have hlr:=hEw.room;have hpl0:=we hPi;have hle:len≤1048576:=by have:=HSU.out;omega
   have hZl:=re HZA.out;rw [HZ.out] at hZl;have HZL:Hid (Z.length+len≤1048576):=by have h1:=HSU.out;show _≤_;omega
   clear hE hE0 hEw hPi hLl hpl0 hZl;obtain ⟨b,off,hal⟩:∃b off,1≤len→al=some ⟨b,off,none⟩∧b<w.heap.size:=by
    by_cases h1:1≤len
    · obtain ⟨b,off,e,hb⟩:=HE.out.form h1;exact ⟨b,off,fun _=>⟨e,hb⟩⟩
    · exact ⟨0,0,fun h=>absurd h h1⟩
   have zba:ba<W.heap.size:=by omega
   gi_wp2_with (refine ⟨trivial,?_⟩;gi_at_call 151;refine (nK _ _ _ _ _).mono ?_;rintro e w' ⟨rfl,rfl⟩)
   have bP:=Boxed.new W 28 (.slice al len cap);have hB1:Bl w (W.alloc (.cells #[.slice al len cap] 28)):=HB.out.alloc hsW _;have hJ1:=HJ.out.below ((Below.refl W.heap.size W).alloc (Nat.le_refl _) (.cells #[.slice al len cap] 28));have hmk1:=HMK.out.others (KeepsOthers.alloc W (.cells #[.slice al len cap] 28));have hmlt:∀D ∈ ds,D<W.heap.size:=fun D hD=>(Array.getElem?_eq_some_iff.1 (HMK.out.2 D hD).2).1
   have HMLT:Hid (∀D ∈ ds,D<W.heap.size):=hmlt;refine wpIn_rangeFunc_ownH rfl (by omega) (gf:=202) (lb:=#[.pointer (some ⟨W.heap.size,0,none⟩)]) rfl trivial (enters_of Tryz.func202 (by kernel_rfl) rfl)
    (pF (6 - 1) W.heap.size (fun k=>k<w.heap.size∨k=W.heap.size) (by omega) b off al len cap (fun h=>(hal h).1) L _ (.inr rfl) (fun h=>.inl (hal h).2) (fun k hk=>by simp;omega) bP.cell (HE.out.keep hB1) hle)
    bo.trans (m9 (fun k hk=>by simp;omega)) (Below.refl _ _) (fun _=>rfl)
    (fun pre W'=>JS w w.heap.size (Z++pre.map (mO L)) W'∧(Boxed W' W.heap.size 28 (.slice al len cap)∧(Bl w W'∧cX w.heap.size W' ds)))
    (fun _ _ _=>False)
    (OwnFrom.and (JS.own (fun pre:List (mw len)=>Z++pre.map (mO L)) (by simp;omega)) (OwnFrom.and (Own.from (boxed_own _ _ _) _) (OwnFrom.and (ownFrom_below (Nat.le_refl _) (by simp;omega)) (ql (fun D hD=>by have:=hmlt D hD;simp;omega)))))
    (fun _ _ _ _ _ hs _ _=>hs)
    ⟨by simpa using hJ1,bP,hB1,hmk1⟩
    (fun x a' W'=>a'={ tmps:=#[sO ba oa n c,undef,nZ,.pointer (some ⟨w.heap.size,0,none⟩),undef,.slice al len cap,.slice (some ⟨b,off+x.1.1*5,none⟩) (x.1.2 - x.1.1) (cap - x.1.1),undef,sO ba oa n c,iT (n:Nat),iT (i:Nat),.bool true,.pointer (some ⟨ba,oa+i,none⟩),.slice al len cap,.slice al len cap,.func (.func 202) #[] #[.pointer (some ⟨W.heap.size,0,none⟩)],.slice (some ⟨b,off+x.1.1*5,none⟩) (x.1.2 - x.1.1) (cap - x.1.1),undef,undef,undef,undef,undef,undef,undef,u24,undef,undef,undef,undef,undef,undef,undef,undef,undef,undef,undef,undef,undef,undef,undef,undef,undef,undef,undef,undef,undef,undef,undef,undef,undef,undef,undef,undef,undef,undef,undef,undef],defers:=[] })
    (fun x a' _ X Y row hs hg hr=>hs)
    ?assign ?body ?done ?stop
   case assign =>
    rintro l pre x W2 K ⟨hJ2,bP2,hB2,hmk2⟩ hK;simp only [zv];gi_wp2
    exact hK _ _ ((KeepsOthers.refl _).from _) (bo.refl _ _) ⟨hJ2,bP2,hB2,hmk2⟩ rfl
   case body =>
    rintro l pre x a' W2 hl _ ⟨⟨v2,X2,H2,hV2,hS2,hT2,hL2⟩,bP2,hB2,hmk2⟩ rfl hpl;obtain ⟨av,cv,rfl⟩:=hV2.form;have hx1:1≤len:=by have:=x.2;omega
    obtain ⟨rfl,hbw⟩:=hal hx1;have hsub:=HE.out.sub (i:=x.1.1) (j:=x.1.2) (Nat.le_of_lt x.2.1) x.2.2;have hsg:mO L x≠[]:=fun e0=>by
     have h1:(mO L x).length=x.1.2 - x.1.1:=hsub.length;rw [e0] at h1;have:=x.2.1;simp at h1;omega
    obtain ⟨e0,l0,hseg⟩:=List.exists_cons_of_ne_nil hsg;have hE2:ah W2 (some ⟨b,off+x.1.1*5,none⟩) (x.1.2 - x.1.1) (cap - x.1.1) (e0 :: l0):=by rw [← hseg];exact hsub.keep hB2
    have hlen2:H2.length<1048576:=by
     rw [hL2,List.length_append,List.length_map];have:=HZL.out;omega
    have CP:=zj w.heap.size w.heap.size _ X2 H2 b (off+x.1.1*5) (x.1.2 - x.1.1) (cap - x.1.1) H2.length e0 l0 W2 hlen2 hB2.size hV2 hE2 hbw hT2;have cB:=hV2.box.cell;have HMK2:Hid (cX w.heap.size W2 ds):=hmk2;have HB2:Hid (Bl w W2):=hB2;have HS2:Hid (Mg.HSt H2 (Z++pre.map (mO L))):=hS2;have HL2:Hid (H2.length=(Z++pre.map (mO L)).length):=hL2;have HSEG:Hid (mO L x=e0 :: l0):=hseg;clear hmk2 hB2 hS2 hL2 hseg hsub hsg hE2 hlen2 hV2 hT2;gi_wp2_with (refine ⟨trivial,?_⟩;gi_at_call 152;refine (CallsIn.inRound l (callsIn_wide.2 CP)).mono ?_;rintro e W3 ⟨rfl,⟨v3,X3,H3,hV3,hP3,hT3,_⟩,hb3,hk3,hq3⟩)
    have bP3:Boxed W3 W.heap.size 28 _:=hq3 _ _ _ bP2 (by decide) (by omega);refine ⟨hk3.from _,mh hb3 bP2 bP3,⟨?_,bP3,HB2.out.trans hb3,HMK2.out.others hk3⟩⟩;have:=JS.push HS2.out HL2.out hV3 hP3 hT3;rw [← HSEG.out,List.append_assoc] at this;rw [List.map_append];exact this
   case done =>
    rintro D xs W2 hD hAll ⟨hJ2,bP2,hB2,hmk2⟩ hK;have hs2:=bP2.lt;gi_wp2
    refine ⟨⟨i+1,D :: ds,Z++xs.map (mO L),_,_,_,_,_,_,_,rfl,by omega,hJ2,?_,?_,?_,hB2,by omega⟩,?_⟩
    · rw [List.flatten_append,hAll.1,HZ.out,oF HPI.out]
    · intro l hl;rcases List.mem_append.1 hl with h | h
      · exact HZA.out l h
      · exact hAll.2 l h
    · simp at hD;refine ⟨List.nodup_cons.2 ⟨fun h=>by have:=HMLT.out D h;omega,hmk2.1⟩,fun D' hD'=>?_⟩;rcases List.mem_cons.1 hD' with rfl | h
      · exact ⟨by omega,hK⟩
      · exact hmk2.2 D' h
    · simp [intOf];omega
   case stop =>
    rintro D c pre W2 _ _ h _;exact h.elim
 · have hin:i=n:=by omega
   subst hin;have hnl:¬(i:Int)<(i:Int):=by omega
   have HZ2:Hid (Z.flatten=P.flatten):=by
    show _=_
    rw [HZ.out,List.take_of_length_le (by rw [HLN.out];omega)]
   obtain ⟨H0,hM0⟩:=pt.start HJ.out HZ2.out HZA.out HSU.out HMK.out HB.out;have HM0:Hid (pt w w.heap.size P ds nZ W [] Z H0):=hM0;clear hM0 HJ HZ HZ2 HZA HMK HB HP HLN hn hroom hi3 hlt hlt0 hsW;gi_wp2
   clear hnl;gi_loopw [7] (fun av wr=>∃out Z H,pt w w.heap.size P ds av wr out Z H) (fun av _=>P.flatten.length - yu av)
   case atStart=>exact ⟨[],Z,H0,HM0.out⟩
   case round =>
    clear HM0;obtain ⟨out,Z1,H,hM⟩:=hrel;by_cases h0:H.length=0
    · have hH0:H=[]:=List.length_eq_zero_iff.1 h0;subst hH0;clear h0;obtain ⟨ab,cb,cB⟩:=hM.box;have hlen:out.length=P.flatten.length:=by have h1:=hM.len;rw [hM.hst.none] at h1;simpa using h1
      have hout:out=aV P.flatten:=us hM.mst hM.hst;obtain ⟨ao,co,rfl,hEo⟩:=su hM.row hM.ents;have HLE:Hid (out.length=P.flatten.length):=hlen;have HOUT:Hid (out=aV P.flatten):=hout;have hol:out.length≤1048576:=by have:=HSU.out;omega
      have CE:=jX ao out.length co out wr hEo hol (fun e he=>HSM.out e (by rw [hout] at he;exact (bu _).2.mem_iff.1 he));have HMK:Hid (cX w.heap.size wr ds):=hM.mks;have HBW:Hid (Bl w wr):=hM.bel;simp only [List.length_nil] at cB;have nn:¬(0:Int)<0:=by omega
      clear hM hlen hout hEo;gi_wp2_with (refine ⟨trivial,?_⟩;gi_at_call 149;refine (callsIn_wide.2 CE).mono ?_;rintro e w5 ⟨rfl,hO5,hs5,hb5⟩)
      refine iC ds w5 (HMK.out.others (KeepsOthers.of_grownBy (dK hb5) (fun j o e _=>by cases e))) (fun W' hb' hc'=>?_);refine ⟨_,results_tmp rfl _ _ _,⟨wr.heap.size,by rw [HLE.out];rfl,?_⟩,?_⟩
      · rw [← HLE.out,← HOUT.out];exact (hO5.mono HBW.out.size).cellsKept hc'
      · exact (HBW.out.trans (hb5.mono HBW.out.size)).trans hb'
    · obtain ⟨g,cg,X,xb,xo,xn,xc,xk,e,l,R,hH,hS,hlow,hE⟩:=hM.first (by omega);subst hH;obtain ⟨es,eq,ed,et,en⟩:=e;have HEW:Hid (dS (es,eq,ed,et,en)):=hE.ents _ List.mem_cons_self;have HM:Hid (pt w w.heap.size P ds _ wr out Z1 (((es,eq,ed,et,en) :: l,xk) :: R)):=hM;obtain ⟨ao,co,hav,_⟩:=su hM.row hM.ents;subst hav;have HRW:Hid (wr.ownsRow (w.heap.size+1) 50 5 (.slice ao out.length co) out.length (az out)):=hM.row;have HS:Hid (cK wr w.heap.size w.heap.size g (R.length+1) cg ((xb,xo,xn,xc,xk) :: X) (((es,eq,ed,et,en) :: l,xk) :: R)):=hS;have HLOW:Hid (∀x ∈ (xb,xo,xn,xc,xk) :: X,x.1<w.heap.size):=hlow;have hfew:R.length+1≤1048576:=hM.few;have hol:out.length+1≤1048576:=by
       have h1:=HSU.out;have h2:=hM.len;have h3:=lk (hM.hst.least dO hM.heap).1;omega
      have hxn:0<xn:=by have:=hE.length;simp at this;omega
      have hxc:=hE.room;have HXL:Hid (l.length+1=xn):=by have:=hE.length;simp at this;exact this
      have cB:wr.cell? ⟨w.heap.size,0,none⟩=some (sL g (R.length+1) cg):=hS.box;obtain ⟨y0,y1⟩:=hS.own.at2 (i:=0) rfl;simp only [Nat.zero_mul,Nat.zero_add] at y0 y1;obtain ⟨e0,e1,e2,e3,e4⟩:=hE.cells _ rfl 0 (by simp);simp only [Nat.zero_mul,Nat.add_zero,List.getElem_cons_zero] at e0 e1 e2 e3 e4;have zg:g<wr.heap.size:=hS.own.lt.2;have zx:=World.block_lt_of_cell? _ _ e0;simp only at zx;have hxnI:(0:Int)<(xn:Int):=by omega
      have hbs:w.heap.size<wr.heap.size:=World.block_lt_of_cell? _ _ cB;clear hM hS hlow hE h0;gi_wp2_with (gi_at_builtin;refine wpListIn_append_own_at _ rfl _ _ 28 rfl (w.heap.size+1) 50 i0 _ 5 56 Tryz.underlying28 hi hz0 hz1 hz2 rfl (by decide) _ _ _ rfl (HRW.out.alloc _) ⟨wr.heap.size,0,none⟩ 1 1 (bT (es,eq,ed,et,en)) rfl rfl (xH _ _ _ _ _ _ _) (aP [(es,eq,ed,et,en)]) (by unfold maxLen;omega) (by omega) (by simp;omega) ?_;intro v1 w1 hown1 hgrow1 hnil1 hat1;obtain ⟨g1,c1,rfl⟩:=ownsRow_succ hown1)
      have hk1:Bl wr (wr.alloc (.cells #[.string es,iT eq,iT ed,.string et,iT en] 50)):=bZ;have hrl:∀k,(Value.slice ao out.length co).ownBlock=some k→w.heap.size+1≤k:=fun k ek=>(HRW.out.lt k ek).1
      have nB:some w.heap.size≠(Value.slice ao out.length co).ownBlock:=fun ek=>by have:=hrl _ ek.symm;omega
      have nG:some g≠(Value.slice ao out.length co).ownBlock:=(u7 HS.out.own.owns HRW.out (by decide) rfl).symm;have nX:∀x ∈ (xb,xo,xn,xc,xk) :: X,some x.1≠(Value.slice ao out.length co).ownBlock:=fun x hx ek=>by have:=hrl _ ek.symm;have:=HLOW.out x hx;omega
      have hgr:(wr.alloc (.cells #[.string es,iT eq,iT ed,.string et,iT en] 50)).grownBy w1 (Value.slice ao out.length co).ownBlock:=hgrow1;have hS1:cK w1 w.heap.size w.heap.size g (R.length+1) cg ((xb,xo,xn,xc,xk) :: X) (((es,eq,ed,et,en) :: l,xk) :: R):=(HS.out.below hk1).kept hgr nB nG nX;have hO1:KeepsOthers wr w1:=(KeepsOthers.alloc wr (.cells #[.string es,iT eq,iT ed,.string et,iT en] 50)).trans (KeepsOthers.of_grownBy hgr (fun j o ej hj=>by
       rcases (HRW.out.alloc (.cells #[.string es,iT eq,iT ed,.string et,iT en] 50)).2 with ⟨hv,_⟩ | ⟨gr,cap,cur,hv,_,hgb,_⟩
       · rw [hv] at ej;cases ej
       · rw [hv] at ej;cases ej;rw [hgb] at hj;cases hj;rfl))
      have hb1:Bl w w1:=(HM.out.bel.trans (hk1.mono HM.out.bel.size)).grown hgr (by have:=hk1.size;omega) (fun k ek=>by have:=hrl k ek;omega);have hf1:w1.frozen? ⟨w.heap.size,0,none⟩=false:=by
       rw [aS hgr (x:=⟨w.heap.size,0,none⟩) (by have:=hk1.size;simp only;omega) nB,(vw hk1).2 _ _ hbs];exact HM.out.fr
      have HO1:Hid (w1.ownsRow (w.heap.size+1) 50 5 (sL g1 (out.length+1) c1) (out.length+1) (az out++bT (es,eq,ed,et,en))):=hown1;have HG1:Hid (g1≠g):=fun e'=>(u7 hS1.own.owns hown1 (by decide) rfl) (by rw [e'];rfl)
      have HB1:Hid (Bl w w1.drew):=hb1.drew;have HK1:Hid (cX w.heap.size w1.drew ds):=(HM.out.mks.others hO1).others (KeepsOthers.drew w1);clear hrl nB nG nX hgr hk1 hown1 hgrow1 hnil1 hat1 hO1 hb1 y0 y1 e0 e1 e2 e3 e4 cB zg zx hxnI HRW HS;have kd:cK w1.drew w.heap.size w.heap.size g (R.length+1) cg ((xb,xo,xn,xc,xk) :: X) (((es,eq,ed,et,en) :: l,xk) :: R):=hS1.below (Below.refl _ w1).drew;have hF1:w1.drew.frozen? ⟨w.heap.size,0,none⟩=false:=hf1;have hR1:w1.drew.ownsRow (w.heap.size+1) 50 5 (sL g1 (out.length+1) c1) (out.length+1) (az out++bT (es,eq,ed,et,en)):=HO1.out.kept (dK (Below.refl _ w1).drew) (.inr (fun e'=>by cases e'));obtain ⟨y0,_⟩:=kd.own.at2 (i:=0) rfl;simp only [Nat.zero_mul] at y0;have f0:=kd.own.owns.frozenAt 0;obtain ⟨le,hle',hEd,_⟩:=kd.rest 0 _ _ rfl rfl;cases hle';obtain ⟨no,hno,hEt⟩:=ah.tail (show ah w1.drew (some ⟨xb,xo,none⟩) xn xc ((es,eq,ed,et,en) :: l) from hEd);have HS3:Hid (cK (w1.drew.setCell ⟨g,0,none⟩ (sO xb no (xn - 1) (xc - 1))) w.heap.size w.heap.size g (R.length+1) cg ((xb,no,xn - 1,xc - 1,xk) :: X) ((l,xk) :: R)):=kd.cut hEt;have HB3:Hid (Bl w (w1.drew.setCell ⟨g,0,none⟩ (sO xb no (xn - 1) (xc - 1)))):=HB1.out.setCell (p:=⟨g,0,none⟩) kd.own.lt.1 _;have HK3:Hid (cX w.heap.size (w1.drew.setCell ⟨g,0,none⟩ (sO xb no (xn - 1) (xc - 1))) ds):=HK1.out.others (KeepsOthers.setCell _ _ _);have HF3:Hid ((w1.drew.setCell ⟨g,0,none⟩ (sO xb no (xn - 1) (xc - 1))).frozen? ⟨w.heap.size,0,none⟩=false):=by
       show _=_
       rw [World.frozen?_setCell];exact hF1
      have HO3:Hid ((w1.drew.setCell ⟨g,0,none⟩ (sO xb no (xn - 1) (xc - 1))).ownsRow (w.heap.size+1) 50 5 (sL g1 (out.length+1) c1) (out.length+1) (az out++bT (es,eq,ed,et,en))):=hR1.kept (e9 _ _ _ _) (.inr (fun e'=>HG1.out (Option.some.inj e')));clear hS1 hEd hEt hf1 hF1 hR1 HO1 HB1 HK1;have h1I:(1:Int)≤(xn:Int):=by omega
      have h1N:1≤xn:=by omega
      have h1C:(1:Int)≤(xc:Int):=by omega
      refine uf (fun a' w'=>∃t25 t26 t27 t28 t29 t30 t31 t32 t33 t34 t35 t36 t37 t38 t39 t40 t41 t42 t43 t44 t45 t46 t47 t48 t49 t50 t51 t52 t53 t54,a'={ tmps:=#[.slice a i c,undef,nZ,.pointer (some ⟨w.heap.size,0,none⟩),undef,u5,undef,sL g1 (out.length+1) c1,.slice a i c,iT (i:Nat),iT (i:Nat),.bool false,u12,u13,u14,u15,undef,undef,undef,undef,undef,undef,undef,undef,u24,t25,t26,t27,t28,t29,t30,t31,t32,t33,t34,t35,t36,t37,t38,t39,t40,t41,t42,t43,t44,t45,t46,t47,t48,t49,t50,t51,t52,t53,t54,undef,undef],defers:=mX ds }∧cK w' w.heap.size w.heap.size g (R.length+1) cg ((xb,no,xn - 1,xc - 1,xk) :: X) ((l,xk) :: R)∧Bl w w'∧cX w.heap.size w' ds∧w'.frozen? ⟨w.heap.size,0,none⟩=false∧w'.ownsRow (w.heap.size+1) 50 5 (sL g1 (out.length+1) c1) (out.length+1) (az out++bT (es,eq,ed,et,en))) ?_ ?_
      · by_cases hc1:xc=1
        · subst hc1;obtain rfl:xn=1:=by omega
          rw [if_pos rfl] at hno;subst hno;refine wpIn_wide.2 ?_;refine wp_region_held_drew (S:=(fun w'=>w'.cell? ⟨w.heap.size,0,none⟩=some (sL g (R.length+1) cg)∧g<w'.heap.size)) (by kernel_rfl) (⟨kd.box,kd.own.lt.2⟩) (fun aa=>?_);generalize w1.drew=wd at kd y0 f0 HS3 HB3 HK3 HF3 HO3 aa ⊢;refine aO 0 4 aa ?_;refine aH 4 fun K hK=>?_
          go_simp;refine hK.out _ _ (⟨kd.box,kd.own.lt.2⟩) (fun aa=>?_);clear hK K;(try go_frame);refine aO 5 3 aa ?_;refine aH 8 fun K hK=>?_
          have zg:=kd.own.lt.2;go_simp;clear zg;refine hK.out _ _ (⟨HS3.out.box,HS3.out.own.lt.2⟩) (fun aa=>?_);clear hK K;(try go_frame);refine dN ?_;exact ⟨_,_,_,_,_,_,_,_,_,_,_,_,_,_,_,_,_,_,_,_,_,_,_,_,_,_,_,_,_,_,rfl,HS3.out,HB3.out,HK3.out,HF3.out,HO3.out⟩
        · have hc0:¬xc - 1=0:=by omega
          rw [if_neg hc0] at hno;subst hno;refine wpIn_wide.2 ?_;refine wp_region_held_drew (S:=(fun w'=>w'.cell? ⟨w.heap.size,0,none⟩=some (sL g (R.length+1) cg)∧g<w'.heap.size)) (by kernel_rfl) (⟨kd.box,kd.own.lt.2⟩) (fun aa=>?_);generalize w1.drew=wd at kd y0 f0 HS3 HB3 HK3 HF3 HO3 aa ⊢;refine aO 0 4 aa ?_;refine aH 4 fun K hK=>?_
          go_simp;refine hK.out _ _ (⟨kd.box,kd.own.lt.2⟩) (fun aa=>?_);clear hK K;(try go_frame);refine aO 5 3 aa ?_;refine aH 8 fun K hK=>?_
          have zg:=kd.own.lt.2;go_simp;clear zg;refine hK.out _ _ (⟨HS3.out.box,HS3.out.own.lt.2⟩) (fun aa=>?_);clear hK K;(try go_frame);refine dN ?_;exact ⟨_,_,_,_,_,_,_,_,_,_,_,_,_,_,_,_,_,_,_,_,_,_,_,_,_,_,_,_,_,_,rfl,HS3.out,HB3.out,HK3.out,HF3.out,HO3.out⟩
      rintro a' w3 ⟨t25,t26,t27,t28,t29,t30,t31,t32,t33,t34,t35,t36,t37,t38,t39,t40,t41,t42,t43,t44,t45,t46,t47,t48,t49,t50,t51,t52,t53,t54,rfl,hS3,hB3,hK3,hF3,hO3⟩;clear HS3 HB3 HK3 HF3 HO3 kd y0 f0 hno;have HS3:Hid (cK w3 w.heap.size w.heap.size g (R.length+1) cg ((xb,no,xn - 1,xc - 1,xk) :: X) ((l,xk) :: R)):=hS3;have HB3:Hid (Bl w w3):=hB3;have HK3:Hid (cX w.heap.size w3 ds):=hK3;have HF3:Hid (w3.frozen? ⟨w.heap.size,0,none⟩=false):=hF3;have HO3:Hid (w3.ownsRow (w.heap.size+1) 50 5 (sL g1 (out.length+1) c1) (out.length+1) (az out++bT (es,eq,ed,et,en))):=hO3;have cB:w3.cell? ⟨w.heap.size,0,none⟩=some (sL g (R.length+1) cg):=hS3.box;obtain ⟨y0,_⟩:=hS3.own.at2 (i:=0) rfl;simp only [Nat.zero_mul] at y0;have zg:g<w3.heap.size:=hS3.own.lt.2;have HNG:Hid (g1≠g):=HG1.out;have HGC:Hid (∃cc,w3.heap[g]?=some (.cells cc 164 (0,0))):=hS3.own.cells;have HGL:Hid (w.heap.size≤g∧w.heap.size≠g):=⟨hS3.own.lt.1,hS3.ne⟩;have HG1L:Hid (w.heap.size+1≤g1):=(hO3.lt g1 rfl).1;have zB:=World.block_lt_of_cell? _ _ cB;simp only at zB;have HLV:Hid (∀s ∈ R,s.1≠[]):=fun s hs=>(HM.out.hst.live s (List.mem_cons_of_mem _ hs)).1
      clear hS3 hB3 hK3 hF3 hO3;cases l with
      | nil =>
       have hx1:xn - 1=0:=by have:=HXL.out;simp at this;omega
       have hCP:=An w.heap.size w.heap.size g (R.length+1) cg R.length _ _ ([],xk) w3 rfl hfew (Nat.le_refl _) HF3.out HS3.out (wX HM.out.heap HLV.out) rfl (fun j s hj hs=>by
        match j,hj,hs with
        | j+1,_,hs=>exact HLV.out s (List.mem_of_getElem? (by simpa using hs)))
       rw [hx1] at y0;gi_wp2_with (refine ⟨trivial,?_⟩;gi_at_call 153;refine (callsIn_wide.2 hCP).mono ?_;rintro e w4 ⟨⟨v4,rfl⟩,⟨X4,H4,hS4,hP4,hT4,hX4⟩,hb4,hk4,hf4,wm,hg4,hg5⟩)
       have hp4:H4.Perm R:=(List.perm_cons _).1 hP4;have hl4:H4.length=R.length:=hp4.length_eq;have hO4:w4.ownsRow (w.heap.size+1) 50 5 (sL g1 (out.length+1) c1) (out.length+1) (az out++bT (es,eq,ed,et,en)):=(HO3.out.kept hg4 (.inr (fun e'=>HNG.out (Option.some.inj e')))).kept hg5 (.inr (fun e'=>by have h1:=Option.some.inj e';have h2:=HG1L.out;simp only at h1;omega));go_roundw
       case rel =>
        refine ⟨out++[(es,eq,ed,et,en)],Z1.set xk [],H4,HM.out.next (g:=g) (c:=cg) (X4:=X4) (by rw [hl4];exact hS4) (HM.out.hst.last.perm hp4) (by rw [hl4];exact hT4) (fun x hx=>?_) hf4 hO4 HEW.out (HK3.out.others hk4) (HB3.out.trans hb4) (by omega)⟩;have h1:=hX4 x hx;rcases List.mem_cons.1 h1 with rfl | h2
        · exact HLOW.out (xb,xo,xn,xc,xk) List.mem_cons_self
        · exact HLOW.out x (List.mem_cons_of_mem _ h2)
       case measure=>show P.flatten.length - (out.length+1)<P.flatten.length - out.length;have h2:=HM.out.len;have h3:=lk (HM.out.hst.least dO HM.out.heap).1;omega
      | cons e2 l2 =>
       have hx1:¬xn - 1=0:=by have:=HXL.out;simp at this;omega
       have hx1I:¬((xn - 1:Nat):Int)=0:=by omega
       have hCF:=Ao w.heap.size w.heap.size g (R.length+1) cg _ _ w3 hfew (by omega) HS3.out (Mg.down_start HM.out.heap (fun k k0 _=>by match k,k0 with | k+1,_=>rfl)) (fun s hs=>by
        rcases List.mem_cons.1 hs with rfl | h2
        · exact fun e'=>by cases e'
        · exact HLV.out s h2)
       gi_wp2_with (refine ⟨trivial,?_⟩;gi_at_call 154;refine (callsIn_wide.2 hCF).mono ?_;rintro e w4 ⟨rfl,⟨X4,H4,hS4,hP4,hX4,hT4⟩,hg4⟩)
       have hl4:H4.length=R.length+1:=hP4.length_eq;have hO4:w4.ownsRow (w.heap.size+1) 50 5 (sL g1 (out.length+1) c1) (out.length+1) (az out++bT (es,eq,ed,et,en)):=HO3.out.kept hg4 (.inr (fun e'=>HNG.out (Option.some.inj e')));have hk4:KeepsOthers w3 w4:=KeepsOthers.of_grownBy hg4 (fun j o e' ho=>by cases e';obtain ⟨cc,hc⟩:=HGC.out;rw [hc] at ho;cases ho;rfl);have hf4:w4.frozen? ⟨w.heap.size,0,none⟩=false:=by rw [aS hg4 (x:=⟨w.heap.size,0,none⟩) zB (fun e'=>HGL.out.2 (Option.some.inj e'))];exact HF3.out
       have hb4:Bl w w4:=HB3.out.grown hg4 HB3.out.size (fun k e'=>by cases e';exact HGL.out.1);go_roundw
       case rel =>
        refine ⟨out++[(es,eq,ed,et,en)],Z1.set xk (e2 :: l2),H4,HM.out.next (g:=g) (c:=cg) (X4:=X4) (by rw [hl4];exact hS4) (HM.out.hst.more.perm hP4) (by rw [hl4];exact hT4) (fun x hx=>?_) hf4 hO4 HEW.out (HK3.out.others hk4) hb4 (by omega)⟩;have h1:=hX4.mem_iff.1 hx;rcases List.mem_cons.1 h1 with rfl | h2
        · exact HLOW.out (xb,xo,xn,xc,xk) List.mem_cons_self
        · exact HLOW.out x (List.mem_cons_of_mem _ h2)
       case measure=>show P.flatten.length - (out.length+1)<P.flatten.length - out.length;have h2:=HM.out.len;have h3:=lk (HM.out.hst.least dO HM.out.heap).1;omega
end
theorem o9 {k t:ByteArray} {q d n:Int} (h:cW k q d t n=true):k.size≤281474976710656∧t.size≤281474976710656:=by
 simp [cW,fh] at h;omega
end Go.Proofs.YtpobkmjicbobdaaGreat
