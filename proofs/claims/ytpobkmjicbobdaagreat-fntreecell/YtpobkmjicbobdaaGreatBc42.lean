/- Walks. -/
import Derived.Test.YtpobkmjicbobdaaGreatBc41
namespace Go.Proofs.YtpobkmjicbobdaaGreat
set_option maxRecDepth 100000
set_option maxHeartbeats 40000000
open Go.RowKit Go.Shelf
variable {B:List aj} {L M:List ae} {S:List Int} {V:List (List aj)} {ak am av:Option Addr} {cm cs cv n nm ns nv:Nat} {key:ByteArray} {q s:Int} {w:World}
section
attribute [local go_sem] Gi
theorem wI {F:Fence} {n:Nat} {P:Program} {x:Code} {Q:Exit→Act→World→Prop} {a:Act} {w:World} (M:Act→World→Prop) (h1:x.wpIn F n P (Exit.then M (fun _ _ _=>False)) a w) (h2:∀d w',M d w'→Q .normal d w'):x.wpIn F n P Q a w :=
 wpIn_mono h1 (fun e a w h=>by
  cases e with
  | normal=>exact h2 _ _ h
  | _=>exact False.elim h)
def Da (w:World) (P:List (List ae)) (e:Ending) (w':World):Prop:=(∃g,e=.returned (sL g P.flatten.length P.flatten.length)∧ag w' w.heap.size g P.flatten.length P.flatten.length (bD P.flatten))∧Bl w w'
theorem zW (a:Option Addr) (n c:Nat) (P:List (List ae)) (w:World) (hP:cy w a n c P) (hn:n≤1048576) (aY:P.flatten.length≤1048576) (bw:∀e ∈ P.flatten,e.1.size≤281474976710656∧e.2.2.2.1.size≤281474976710656) :
 CallsIn Fence.wide 6 Tryz.prog 93 #[.slice a n c] w (Da w P):=by
 have HP:=bT hP;have db:=bT bw;have aD:=bT aY;have hroom:=hP.room;have cX:Eq (P.length=n):=hP.length;clear hP bw aY;obtain ⟨i0,hi,dI,dh,dP⟩:=info_parts Tryz.infoEnt;refine callsIn_of_wp_marks Tryz.func93 rfl trivial ?_ rfl;simp only [Tryz.ntmps93,GF,F5,Gz,Nat.reduceAdd,Nat.reduceSub,GJ,GK,GV,GN,Gb,Gd];gi_wp2
 obtain ⟨W0,aM⟩:=aG (w.alloc (.cells #[nZ] 157));have bK:Bl w W0:=by rw [aM];exact (Below.refl _ w).alloc (Fv _) _
 have b6:Boxed W0 w.heap.size 157 nZ:=by rw [aM];exact Boxed.new w _ _
 rw [← aM];clear aM;refine wpIn_loop (fun a' W=>∃(i:Nat) (I:List Nat) (Z:List (List ae)) (u5 u11 u12 u13 u14 u15 u24:Value),a'={ tmps:=#[.slice a n c,undef,nZ,.pointer (some ⟨w.heap.size,0,none⟩),undef,u5,undef,undef,.slice a n c,iT (n:Nat),iT (i:Nat),u11,u12,u13,u14,u15,undef,undef,undef,undef,undef,undef,undef,undef,u24,undef,undef,undef,undef,undef,undef,undef,undef,undef,undef,undef,undef,undef,undef,undef,undef,undef,undef,undef,undef,undef,undef,undef,undef,undef,undef,undef,undef,undef,undef,undef,undef],defers:=oU I } ∧
  i≤n∧JS w w.heap.size Z W∧Z.flatten=(P.take i).flatten∧(∀l ∈ Z,l≠[]∧Mg.Asc aW l)∧dr w.heap.size W I∧Bl w W∧w.heap.size<W.heap.size) (fun a' _=>n - (intOf (a'.tmps.getD 10 undef)).toNat) ?_ ?_
 · exact ⟨0,[],[],undef,undef,undef,undef,undef,undef,undef,rfl,by omega,JS.empty b6 (Fv _),by simp,(fun l hl=>by cases hl),⟨List.nodup_nil,fun D hD=>by cases hD⟩,bK,b6.lt⟩
 rintro a' W ⟨i,I,Z,u5,u11,u12,u13,u14,u15,u24,rfl,dv,hJ,hZ,cx,hmk,hB,d0⟩;clear bK b6;have HJ:Eq (JS w w.heap.size Z W):=hJ;have HZ:Eq (Z.flatten=(P.take i).flatten):=hZ;have aF:Eq (∀l ∈ Z,l≠[]∧Mg.Asc aW l):=cx;have ad:Eq (dr w.heap.size W I):=hmk;have HB:Eq (Bl w W):=hB;have bM:=hB.size;clear hJ hZ cx hmk hB;by_cases aK:i<n
 · have dX:(i:Int)<(n:Int):=by omega
   have wi:IntKind.i64.wrap ((i:Int)+1)=((i+1:Nat):Int):=by rw [FQ];unfold wrap64;omega
   obtain ⟨ba,oa,rfl,eD⟩:=HP.o.form (by omega);obtain ⟨L,al,len,f,aJ,cL,hE⟩:=HP.o.list HB.o i aK;obtain ⟨_,_,_,_,_,dH⟩:=HP.o.list (Below.refl _ w) i aK;have aI:ah w al len f L:=by
    obtain ⟨L',ec,e6,dY,h1,h2,h3⟩:=HP.o.list (Below.refl _ w) i aK;rw [aJ] at h1;cases h1;rw [cell_later HB.o h2] at cL;cases cL;exact h3
   have dc:Eq (P[i]?=some L):=aJ;have HE:Eq (ah w al len f L):=aI;have dk:L.length=len:=aI.length;have em:=aI.room;have c5:=zI aJ;have dJ:len≤1048576:=by have:=aD.o;omega
   have cN:=tF aF.o;rw [HZ.o] at cN;have d8:Eq (Z.length+len≤1048576):=by have h1:=aD.o;show _≤_;omega
   clear hE dH aI aJ dk c5 cN;obtain ⟨b,Q,b4⟩:∃b Q,1≤len→al=some ⟨b,Q,none⟩∧b<w.heap.size:=by
    by_cases h1:1≤len
    · obtain ⟨b,Q,e,hb⟩:=HE.o.form h1;exact ⟨b,Q,fun _=>⟨e,hb⟩⟩
    · exact ⟨0,0,fun h=>absurd h h1⟩
   have ei:ba<W.heap.size:=by omega
   gi_wp2_with (refine ⟨trivial,?_⟩;gi_at_call 151;refine (ph _ _ _ _ _).mono ?_;rintro e w' ⟨rfl,rfl⟩)
   have bP:=Boxed.new W 28 (.slice al len f);have c2:Bl w (W.alloc (.cells #[.slice al len f] 28)):=HB.o.alloc bM _;have dd:=HJ.o.below ((Below.refl W.heap.size W).alloc (Fv _) (.cells #[.slice al len f] 28));have bC:=ad.o.others (KeepsOthers.alloc W (.cells #[.slice al len f] 28));have aS:∀D ∈ I,D<W.heap.size:=fun D hD=>(Gm.1 (ad.o.2 D hD).2).1
   have cP:Eq (∀D ∈ I,D<W.heap.size):=aS;refine wpIn_rangeFunc_ownH rfl (by omega) (gf:=202) (lb:=#[.pointer (some ⟨W.heap.size,0,none⟩)]) rfl trivial (enters_of Tryz.func202 (by kernel_rfl) rfl)
    (qX (6 - 1) W.heap.size (fun k=>k<w.heap.size∨k=W.heap.size) (by omega) b Q al len f (fun h=>(b4 h).1) L _ (.inr rfl) (fun h=>.inl (b4 h).2) (fun k hk=>by simp;omega) bP.cell (HE.o.keep c2) dJ)
    bJ.trans (oY (fun k hk=>by simp;omega)) (Below.refl _ _) (fun _=>rfl)
    (fun a2 W'=>JS w w.heap.size (Z++a2.map (oF L)) W'∧(Boxed W' W.heap.size 28 (.slice al len f)∧(Bl w W'∧dr w.heap.size W' I)))
    (fun _ _ _=>False)
    (OwnFrom.and (JS.own (fun a2:List (nM len)=>Z++a2.map (oF L)) (by simp;omega)) (OwnFrom.and (Own.from (boxed_own _ _ _) _) (OwnFrom.and (ownFrom_below (Fv _) (by simp;omega)) (rY (fun D hD=>by have:=aS D hD;simp;omega)))))
    (fun _ _ _ _ _ hs _ _=>hs)
    ⟨by simpa using dd,bP,c2,bC⟩
    (fun x a' W'=>a'={ tmps:=#[sO ba oa n c,undef,nZ,.pointer (some ⟨w.heap.size,0,none⟩),undef,.slice al len f,.slice (some ⟨b,Q+x.1.1*5,none⟩) (x.1.2 - x.1.1) (f - x.1.1),undef,sO ba oa n c,iT (n:Nat),iT (i:Nat),.bool true,.pointer (some ⟨ba,oa+i,none⟩),.slice al len f,.slice al len f,.func (.func 202) #[] #[.pointer (some ⟨W.heap.size,0,none⟩)],.slice (some ⟨b,Q+x.1.1*5,none⟩) (x.1.2 - x.1.1) (f - x.1.1),undef,undef,undef,undef,undef,undef,undef,u24,undef,undef,undef,undef,undef,undef,undef,undef,undef,undef,undef,undef,undef,undef,undef,undef,undef,undef,undef,undef,undef,undef,undef,undef,undef,undef,undef,undef,undef,undef,undef,undef],defers:=[] })
    (fun x a' _ X Y row hs hg hr=>hs)
    ?assign ?body ?done ?stop
   case assign =>
    rintro l a2 x W2 K ⟨b5,ag,a6,r⟩ hK;simp only [Cn];gi_wp2
    exact hK _ _ ((KeepsOthers.refl _).from _) (bJ.refl _ _) ⟨b5,ag,a6,r⟩ rfl
   case body =>
    rintro l a2 x a' W2 hl _ ⟨⟨v2,X2,H2,aL,bs,cF,be⟩,ag,a6,r⟩ rfl eB;obtain ⟨av,cv,rfl⟩:=aL.form;have aE:1≤len:=by have:=x.2;omega
    obtain ⟨rfl,dE⟩:=b4 aE;have aA:=HE.o.sub (i:=x.1.1) (j:=x.1.2) (Hp x.2.1) x.2.2;have cK:oF L x≠[]:=fun e0=>by
     have h1:(oF L x).length=x.1.2 - x.1.1:=aA.length;rw [e0] at h1;have:=x.2.1;simp at h1;omega
    obtain ⟨e0,l0,au⟩:=Ha cK;have bL:ah W2 (some ⟨b,Q+x.1.1*5,none⟩) (x.1.2 - x.1.1) (f - x.1.1) (e0 :: l0):=by rw [← au];exact aA.keep a6
    have aw:H2.length<1048576:=by
     rw [be,Fy,Hk];have:=d8.o;omega
    have CP:=Cf w.heap.size w.heap.size _ X2 H2 b (Q+x.1.1*5) (x.1.2 - x.1.1) (f - x.1.1) H2.length e0 l0 W2 aw a6.size aL bL dE cF;have cB:=aL.box.cell;have bR:Eq (dr w.heap.size W2 I):=r;have da:Eq (Bl w W2):=a6;have dD:Eq (Mg.HSt H2 (Z++a2.map (oF L))):=bs;have dG:Eq (H2.length=(Z++a2.map (oF L)).length):=be;have d1:Eq (oF L x=e0 :: l0):=au;clear r a6 bs be au aA cK bL aw aL cF;gi_wp2_with (refine ⟨trivial,?_⟩;gi_at_call 152;refine (CallsIn.inRound l (callsIn_wide.2 CP)).mono ?_;rintro e W3 ⟨rfl,⟨v3,X3,H3,dB,d9,dC,_⟩,bp,bB,dF⟩)
    have cR:Boxed W3 W.heap.size 28 _:=dF _ _ _ ag (by decide) (by omega);refine ⟨bB.from _,mZ bp ag cR,⟨?_,cR,da.o.trans bp,bR.o.others bB⟩⟩;have:=JS.push dD.o dG.o dB d9 dC;rw [← d1.o,FT] at this;rw [GM];exact this
   case done =>
    rintro D xs W2 hD aZ ⟨b5,ag,a6,r⟩ hK;have ey:=ag.lt;gi_wp2
    refine ⟨⟨i+1,D :: I,Z++xs.map (oF L),_,_,_,_,_,_,_,rfl,by omega,b5,?_,?_,?_,a6,by omega⟩,?_⟩
    · rw [GT,aZ.1,HZ.o,pO dc.o]
    · intro l hl;rcases FI.1 hl with h | h
      · exact aF.o l h
      · exact aZ.2 l h
    · simp at hD;refine ⟨H8.2 ⟨fun h=>by have:=cP.o D h;omega,r.1⟩,fun D' du=>?_⟩;rcases FF.1 du with rfl | h
      · exact ⟨by omega,hK⟩
      · exact r.2 D' h
    · simp [intOf];omega
   case stop =>
    rintro D c a2 W2 _ _ h _;exact h.elim
 · have dA:i=n:=by omega
   subst dA;have de:¬(i:Int)<(i:Int):=by omega
   have cn:Eq (Z.flatten=P.flatten):=by
    show _=_
    rw [HZ.o,FH (by rw [cX.o];omega)]
   obtain ⟨H0,bX⟩:=qN.start HJ.o cn.o aF.o aD.o ad.o HB.o;have bt:Eq (qN w w.heap.size P I nZ W [] Z H0):=bX;clear bX HJ HZ cn aF ad HB HP cX hn hroom dv aK d0 bM;gi_wp2
   clear de;gi_loopw [7] (fun av wr=>∃d Z H,qN w w.heap.size P I av wr d Z H) (fun av _=>P.flatten.length - Bh av)
   case atStart=>exact ⟨[],Z,H0,bt.o⟩
   case round =>
    clear bt;obtain ⟨d,Z1,H,hM⟩:=hrel;by_cases h0:H.length=0
    · have dg:H=[]:=Gk.1 h0;subst dg;clear h0;obtain ⟨ab,cb,cB⟩:=hM.box;have hlen:d.length=P.flatten.length:=by have h1:=hM.len;rw [hM.hst.none] at h1;simpa using h1
      have ay:d=bD P.flatten:=wW hM.mst hM.hst;obtain ⟨ao,co,rfl,bz⟩:=uE hM.row hM.ents;have bA:Eq (d.length=P.flatten.length):=hlen;have cC:Eq (d=bD P.flatten):=ay;have cZ:d.length≤1048576:=by have:=aD.o;omega
      have CE:=lO ao d.length co d wr bz cZ (fun e he=>db.o e (by rw [ay] at he;exact (bO _).2.mem_iff.1 he));have ad:Eq (dr w.heap.size wr I):=hM.mks;have bd:Eq (Bl w wr):=hM.bel;simp only [Gz] at cB;have nn:¬(0:Int)<0:=by omega
      clear hM hlen ay bz;gi_wp2_with (refine ⟨trivial,?_⟩;gi_at_call 149;refine (callsIn_wide.2 CE).mono ?_;rintro e w5 ⟨rfl,df,ex,ci⟩)
      refine jk I w5 (ad.o.others (KeepsOthers.of_grownBy (dU ci) (fun j o e _=>by cases e))) (fun W' dK d7=>?_);refine ⟨_,results_tmp rfl _ _ _,⟨wr.heap.size,by rw [bA.o];rfl,?_⟩,?_⟩
      · rw [← bA.o,← cC.o];exact (df.mono bd.o.size).cellsKept d7
      · exact (bd.o.trans (ci.mono bd.o.size)).trans dK
    · obtain ⟨g,cg,X,xb,xo,xn,J,E,e,l,R,hH,hS,aR,hE⟩:=hM.first (by omega);subst hH;obtain ⟨y,u,A,t,C⟩:=e;have cr:Eq (dR (y,u,A,t,C)):=hE.ents _ FV;have HM:Eq (qN w w.heap.size P I _ wr d Z1 (((y,u,A,t,C) :: l,E) :: R)):=hM;obtain ⟨ao,co,dw,_⟩:=uE hM.row hM.ents;subst dw;have az:Eq (wr.ownsRow (w.heap.size+1) 50 5 (.slice ao d.length co) d.length (aC d)):=hM.row;have HS:Eq (cY wr w.heap.size w.heap.size g (R.length+1) cg ((xb,xo,xn,J,E) :: X) (((y,u,A,t,C) :: l,E) :: R)):=hS;have a0:Eq (∀x ∈ (xb,xo,xn,J,E) :: X,x.1<w.heap.size):=aR;have hfew:R.length+1≤1048576:=hM.few;have cZ:d.length+1≤1048576:=by
       have h1:=aD.o;have h2:=hM.len;have h3:=mt (hM.hst.least dW hM.heap).1;omega
      have eC:0<xn:=by have:=hE.length;simp at this;omega
      have eE:=hE.room;have cu:Eq (l.length+1=xn):=by have:=hE.length;simp at this;exact this
      have cB:wr.cell? ⟨w.heap.size,0,none⟩=some (sL g (R.length+1) cg):=hS.box;obtain ⟨y0,y1⟩:=hS.own.at2 (i:=0) rfl;simp only [G4,FG] at y0 y1;obtain ⟨e0,e1,e2,e3,e4⟩:=hE.cells _ rfl 0 (by simp);simp only [G4,Gv,List.getElem_cons_zero] at e0 e1 e2 e3 e4;have zg:g<wr.heap.size:=hS.own.lt.2;have zx:=Fu _ _ e0;simp only at zx;have bI:(0:Int)<(xn:Int):=by omega
      have di:w.heap.size<wr.heap.size:=Fu _ _ cB;clear hM hS aR hE h0;gi_wp2_with (gi_at_builtin;refine wpListIn_append_own_at _ rfl _ _ 28 rfl (w.heap.size+1) 50 i0 _ 5 56 Tryz.underlying28 hi dI dh dP rfl (by decide) _ _ _ rfl (az.o.alloc _) ⟨wr.heap.size,0,none⟩ 1 1 (aX (y,u,A,t,C)) rfl rfl (AA _ _ _ _ _ _ _) (aO [(y,u,A,t,C)]) (by unfold maxLen;omega) (by omega) (by simp;omega) ?_;intro v1 w1 O a8 bb bn;obtain ⟨g1,c1,rfl⟩:=ownsRow_succ O)
      have aa:Bl wr (wr.alloc (.cells #[.string y,iT u,iT A,.string t,iT C] 50)):=bZ;have aH:∀k,(Value.slice ao d.length co).ownBlock=some k→w.heap.size+1≤k:=fun k ek=>(az.o.lt k ek).1
      have nB:some w.heap.size≠(Value.slice ao d.length co).ownBlock:=fun ek=>by have:=aH _ ek.symm;omega
      have nG:some g≠(Value.slice ao d.length co).ownBlock:=(x9 HS.o.own.owns az.o (by decide) rfl).symm;have nX:∀x ∈ (xb,xo,xn,J,E) :: X,some x.1≠(Value.slice ao d.length co).ownBlock:=fun x hx ek=>by have:=aH _ ek.symm;have:=a0.o x hx;omega
      have ax:(wr.alloc (.cells #[.string y,iT u,iT A,.string t,iT C] 50)).grownBy w1 (Value.slice ao d.length co).ownBlock:=a8;have b1:cY w1 w.heap.size w.heap.size g (R.length+1) cg ((xb,xo,xn,J,E) :: X) (((y,u,A,t,C) :: l,E) :: R):=(HS.o.below aa).kept ax nB nG nX;have cI:KeepsOthers wr w1:=(KeepsOthers.alloc wr (.cells #[.string y,iT u,iT A,.string t,iT C] 50)).trans (KeepsOthers.of_grownBy ax (fun j o ej hj=>by
       rcases (az.o.alloc (.cells #[.string y,iT u,iT A,.string t,iT C] 50)).2 with ⟨hv,_⟩ | ⟨gr,f,eu,hv,_,dj,_⟩
       · rw [hv] at ej;cases ej
       · rw [hv] at ej;cases ej;rw [dj] at hj;cases hj;rfl))
      have bS:Bl w w1:=(HM.o.bel.trans (aa.mono HM.o.bel.size)).grown ax (by have:=aa.size;omega) (fun k ek=>by have:=aH k ek;omega);have c6:w1.frozen? ⟨w.heap.size,0,none⟩=false:=by
       rw [bo ax (x:=⟨w.heap.size,0,none⟩) (by have:=aa.size;simp only;omega) nB,(vw aa).2 _ _ di];exact HM.o.fr
      have cH:Eq (w1.ownsRow (w.heap.size+1) 50 5 (sL g1 (d.length+1) c1) (d.length+1) (aC d++aX (y,u,A,t,C))):=O;have bW:Eq (g1≠g):=fun F=>(x9 b1.own.owns O (by decide) rfl) (by rw [F];rfl)
      have bE:Eq (Bl w w1.drew):=bS.drew;have ck:Eq (dr w.heap.size w1.drew I):=(HM.o.mks.others cI).others (KeepsOthers.drew w1);clear aH nB nG nX ax aa O a8 bb bn cI bS y0 y1 e0 e1 e2 e3 e4 cB zg zx bI az HS;have T:cY w1.drew w.heap.size w.heap.size g (R.length+1) cg ((xb,xo,xn,J,E) :: X) (((y,u,A,t,C) :: l,E) :: R):=b1.below (Below.refl _ w1).drew;have bU:w1.drew.frozen? ⟨w.heap.size,0,none⟩=false:=c6;have cT:w1.drew.ownsRow (w.heap.size+1) 50 5 (sL g1 (d.length+1) c1) (d.length+1) (aC d++aX (y,u,A,t,C)):=cH.o.kept (dU (Below.refl _ w1).drew) (.inr (fun F=>by cases F));obtain ⟨y0,_⟩:=T.own.at2 (i:=0) rfl;simp only [G4] at y0;have f0:=T.own.owns.frozenAt 0;obtain ⟨le,ch,bu,_⟩:=T.rest 0 _ _ rfl rfl;cases ch;obtain ⟨no,an,c0⟩:=ah.tail (show ah w1.drew (some ⟨xb,xo,none⟩) xn J ((y,u,A,t,C) :: l) from bu);have m:Eq (cY (w1.drew.setCell ⟨g,0,none⟩ (sO xb no (xn - 1) (J - 1))) w.heap.size w.heap.size g (R.length+1) cg ((xb,no,xn - 1,J - 1,E) :: X) ((l,E) :: R)):=T.cut c0;have N:Eq (Bl w (w1.drew.setCell ⟨g,0,none⟩ (sO xb no (xn - 1) (J - 1)))):=bE.o.setCell (p:=⟨g,0,none⟩) T.own.lt.1 _;have U:Eq (dr w.heap.size (w1.drew.setCell ⟨g,0,none⟩ (sO xb no (xn - 1) (J - 1))) I):=ck.o.others (KeepsOthers.setCell _ _ _);have a4:Eq ((w1.drew.setCell ⟨g,0,none⟩ (sO xb no (xn - 1) (J - 1))).frozen? ⟨w.heap.size,0,none⟩=false):=by
       show _=_
       rw [FS];exact bU
      have a5:Eq ((w1.drew.setCell ⟨g,0,none⟩ (sO xb no (xn - 1) (J - 1))).ownsRow (w.heap.size+1) 50 5 (sL g1 (d.length+1) c1) (d.length+1) (aC d++aX (y,u,A,t,C))):=cT.kept (fE _ _ _ _) (.inr (fun F=>bW.o (Fx F)));clear b1 bu c0 c6 bU cT cH bE ck;have eA:(1:Int)≤(xn:Int):=by omega
      have ez:1≤xn:=by omega
      have eo:(1:Int)≤(J:Int):=by omega
      refine wI (fun a' w'=>∃t25 cf cW bx bF cA bG bV cz cj bq br t37 ca ce bv cV ct cM cO c9 cQ cE bH c8 cG cD cd bQ bN,a'={ tmps:=#[.slice a i c,undef,nZ,.pointer (some ⟨w.heap.size,0,none⟩),undef,u5,undef,sL g1 (d.length+1) c1,.slice a i c,iT (i:Nat),iT (i:Nat),.bool false,u12,u13,u14,u15,undef,undef,undef,undef,undef,undef,undef,undef,u24,t25,cf,cW,bx,bF,cA,bG,bV,cz,cj,bq,br,t37,ca,ce,bv,cV,ct,cM,cO,c9,cQ,cE,bH,c8,cG,cD,cd,bQ,bN,undef,undef],defers:=oU I }∧cY w' w.heap.size w.heap.size g (R.length+1) cg ((xb,no,xn - 1,J - 1,E) :: X) ((l,E) :: R)∧Bl w w'∧dr w.heap.size w' I∧w'.frozen? ⟨w.heap.size,0,none⟩=false∧w'.ownsRow (w.heap.size+1) 50 5 (sL g1 (d.length+1) c1) (d.length+1) (aC d++aX (y,u,A,t,C))) ?_ ?_
      · by_cases dz:J=1
        · subst dz;obtain rfl:xn=1:=by omega
          rw [if_pos rfl] at an;subst an;refine wpIn_wide.2 ?_;refine wp_region_held_drew (S:=(fun w'=>w'.cell? ⟨w.heap.size,0,none⟩=some (sL g (R.length+1) cg)∧g<w'.heap.size)) (by kernel_rfl) (⟨T.box,T.own.lt.2⟩) (fun ac=>?_);generalize w1.drew=wd at T y0 f0 m N U a4 a5 ac ⊢;refine aP 0 4 ac ?_;refine aQ 4 fun K hK=>?_
          go_simp;refine hK.o _ _ (⟨T.box,T.own.lt.2⟩) (fun ac=>?_);clear hK K;(try go_frame);refine aP 5 3 ac ?_;refine aQ 8 fun K hK=>?_
          have zg:=T.own.lt.2;go_simp;clear zg;refine hK.o _ _ (⟨m.o.box,m.o.own.lt.2⟩) (fun ac=>?_);clear hK K;(try go_frame);refine dN ?_;exact ⟨_,_,_,_,_,_,_,_,_,_,_,_,_,_,_,_,_,_,_,_,_,_,_,_,_,_,_,_,_,_,rfl,m.o,N.o,U.o,a4.o,a5.o⟩
        · have dO:¬J - 1=0:=by omega
          rw [if_neg dO] at an;subst an;refine wpIn_wide.2 ?_;refine wp_region_held_drew (S:=(fun w'=>w'.cell? ⟨w.heap.size,0,none⟩=some (sL g (R.length+1) cg)∧g<w'.heap.size)) (by kernel_rfl) (⟨T.box,T.own.lt.2⟩) (fun ac=>?_);generalize w1.drew=wd at T y0 f0 m N U a4 a5 ac ⊢;refine aP 0 4 ac ?_;refine aQ 4 fun K hK=>?_
          go_simp;refine hK.o _ _ (⟨T.box,T.own.lt.2⟩) (fun ac=>?_);clear hK K;(try go_frame);refine aP 5 3 ac ?_;refine aQ 8 fun K hK=>?_
          have zg:=T.own.lt.2;go_simp;clear zg;refine hK.o _ _ (⟨m.o.box,m.o.own.lt.2⟩) (fun ac=>?_);clear hK K;(try go_frame);refine dN ?_;exact ⟨_,_,_,_,_,_,_,_,_,_,_,_,_,_,_,_,_,_,_,_,_,_,_,_,_,_,_,_,_,_,rfl,m.o,N.o,U.o,a4.o,a5.o⟩
      rintro a' w3 ⟨t25,cf,cW,bx,bF,cA,bG,bV,cz,cj,bq,br,t37,ca,ce,bv,cV,ct,cM,cO,c9,cQ,cE,bH,c8,cG,cD,cd,bQ,bN,rfl,a1,bY,cl,cJ,bh⟩;clear m N U a4 a5 T y0 f0 an;have m:Eq (cY w3 w.heap.size w.heap.size g (R.length+1) cg ((xb,no,xn - 1,J - 1,E) :: X) ((l,E) :: R)):=a1;have N:Eq (Bl w w3):=bY;have U:Eq (dr w.heap.size w3 I):=cl;have a4:Eq (w3.frozen? ⟨w.heap.size,0,none⟩=false):=cJ;have a5:Eq (w3.ownsRow (w.heap.size+1) 50 5 (sL g1 (d.length+1) c1) (d.length+1) (aC d++aX (y,u,A,t,C))):=bh;have cB:w3.cell? ⟨w.heap.size,0,none⟩=some (sL g (R.length+1) cg):=a1.box;obtain ⟨y0,_⟩:=a1.own.at2 (i:=0) rfl;simp only [G4] at y0;have zg:g<w3.heap.size:=a1.own.lt.2;have bm:Eq (g1≠g):=bW.o;have dy:Eq (∃cc,w3.heap[g]?=some (.cells cc 164 (0,0))):=a1.own.cells;have cp:Eq (w.heap.size≤g∧w.heap.size≠g):=⟨a1.own.lt.1,a1.ne⟩;have cw:Eq (w.heap.size+1≤g1):=(bh.lt g1 rfl).1;have zB:=Fu _ _ cB;simp only at zB;have b8:Eq (∀s ∈ R,s.1≠[]):=fun s hs=>(HM.o.hst.live s (FY _ hs)).1
      clear a1 bY cl cJ bh;cases l with
      | nil =>
       have aE:xn - 1=0:=by have:=cu.o;simp at this;omega
       have dM:=DB w.heap.size w.heap.size g (R.length+1) cg R.length _ _ ([],E) w3 rfl hfew (Fv _) a4.o m.o (Aa HM.o.heap b8.o) rfl (fun j s hj hs=>by
        match j,hj,hs with
        | j+1,_,hs=>exact b8.o s (Fw (by simpa using hs)))
       rw [aE] at y0;gi_wp2_with (refine ⟨trivial,?_⟩;gi_at_call 153;refine (callsIn_wide.2 dM).mono ?_;rintro e w4 ⟨⟨v4,rfl⟩,⟨X4,H4,bi,aN,b9,b3⟩,bc,b0,hf4,wm,af,dp⟩)
       have cq:H4.Perm R:=(List.perm_cons _).1 aN;have ar:H4.length=R.length:=cq.length_eq;have b7:w4.ownsRow (w.heap.size+1) 50 5 (sL g1 (d.length+1) c1) (d.length+1) (aC d++aX (y,u,A,t,C)):=(a5.o.kept af (.inr (fun F=>bm.o (Fx F)))).kept dp (.inr (fun F=>by have h1:=Fx F;have h2:=cw.o;simp only at h1;omega));go_roundw
       case rel =>
        refine ⟨d++[(y,u,A,t,C)],Z1.set E [],H4,HM.o.next (g:=g) (c:=cg) (X4:=X4) (by rw [ar];exact bi) (HM.o.hst.last.perm cq) (by rw [ar];exact b9) (fun x hx=>?_) hf4 b7 cr.o (U.o.others b0) (N.o.trans bc) (by omega)⟩;have h1:=b3 x hx;rcases FF.1 h1 with rfl | h2
        · exact a0.o (xb,xo,xn,J,E) FV
        · exact a0.o x (FY _ h2)
       case measure=>show P.flatten.length - (d.length+1)<P.flatten.length - d.length;have h2:=HM.o.len;have h3:=mt (HM.o.hst.least dW HM.o.heap).1;omega
      | cons e2 l2 =>
       have aE:¬xn - 1=0:=by have:=cu.o;simp at this;omega
       have dV:¬((xn - 1:Nat):Int)=0:=by omega
       have dm:=DC w.heap.size w.heap.size g (R.length+1) cg _ _ w3 hfew (by omega) m.o (Mg.down_start HM.o.heap (fun k k0 _=>by match k,k0 with | k+1,_=>rfl)) (fun s hs=>by
        rcases FF.1 hs with rfl | h2
        · exact fun F=>by cases F
        · exact b8.o s h2)
       gi_wp2_with (refine ⟨trivial,?_⟩;gi_at_call 154;refine (callsIn_wide.2 dm).mono ?_;rintro e w4 ⟨rfl,⟨X4,H4,bi,aN,b3,b9⟩,af⟩)
       have ar:H4.length=R.length+1:=aN.length_eq;have b7:w4.ownsRow (w.heap.size+1) 50 5 (sL g1 (d.length+1) c1) (d.length+1) (aC d++aX (y,u,A,t,C)):=a5.o.kept af (.inr (fun F=>bm.o (Fx F)));have b0:KeepsOthers w3 w4:=KeepsOthers.of_grownBy af (fun j o F ho=>by cases F;obtain ⟨cc,hc⟩:=dy.o;rw [hc] at ho;cases ho;rfl);have hf4:w4.frozen? ⟨w.heap.size,0,none⟩=false:=by rw [bo af (x:=⟨w.heap.size,0,none⟩) zB (fun F=>cp.o.2 (Fx F))];exact a4.o
       have bc:Bl w w4:=N.o.grown af N.o.size (fun k F=>by cases F;exact cp.o.1);go_roundw
       case rel =>
        refine ⟨d++[(y,u,A,t,C)],Z1.set E (e2 :: l2),H4,HM.o.next (g:=g) (c:=cg) (X4:=X4) (by rw [ar];exact bi) (HM.o.hst.more.perm aN) (by rw [ar];exact b9) (fun x hx=>?_) hf4 b7 cr.o (U.o.others b0) bc (by omega)⟩;have h1:=b3.mem_iff.1 hx;rcases FF.1 h1 with rfl | h2
        · exact a0.o (xb,xo,xn,J,E) FV
        · exact a0.o x (FY _ h2)
       case measure=>show P.flatten.length - (d.length+1)<P.flatten.length - d.length;have h2:=HM.o.len;have h3:=mt (HM.o.hst.least dW HM.o.heap).1;omega
end
theorem q9 {base g c:Nat} {f:List Value} {P:List (List ae)} (ho:w.ownsRow base 28 1 (sL g n c) n f) (hh:fd w f P):cy w (pT g) n c P:=by
 have b:=cZ ho;have hl:P.length=n:=by have h1:=ho.1;have h2:=hh.1;omega
 refine ⟨hl,b.1,b.2,(fun e=>by cases e),?_,?_⟩
 · rintro x e _;cases e;exact ⟨(ho.lt g rfl).2,rfl⟩
 · rintro x e i hi;cases e;obtain ⟨s,m,d,h1,h2⟩:=hh.2 i P[i] (j' hi);refine ⟨s,m,d,?_,h2⟩;simp only [FG];exact (ho.cellAt i (by omega)).trans h1
def Fo (w:World) (F:List ae) (e:Ending) (w':World):Prop:=(∃a n,e=.returned (.slice a n n)∧cT w' w.heap.size a n n F)∧Bl w w'
theorem vd (lo:Nat) (f:Int) (am av ak:Option Addr) (nm cm nv cv N K:Nat) (M:List ae) (V:List (List aj)) (S:List Int) (w:World) (E:cj lo w am nm cm av nv cv ak N K M V S) (hsz:aY f M V S=true→M.length+(De V+V.length)≤1048576) (I:aY f M V S=true→∀e ∈ M,EE e) (H:aY f M V S=true→∀B ∈ V,E8 B) :
 Calls Tryz.prog 29 #[.agg #[iT f,.slice am nm cm,.slice av nv cv,.slice ak N K]] w (Fo w (fW f M V S)):=by
 have F:Eq (V.length=nv):=E.levels.length;have D:∀o,Bl w (w.alloc o):=fun o=>(Below.refl _ _).alloc (Fv _) o
 by_cases hn:nv=3
 · subst hn;obtain ⟨A,B,C,al⟩:∃A B C,V=[A,B,C]:=by
    have:=F.o;match V,this with
    | [A,B,C],_=>exact ⟨A,B,C,rfl⟩
   subst al;obtain ⟨b,a8,rfl,a7⟩:=E.levels.form (by omega);obtain ⟨A',a0,U,c0,hA,l0,r⟩:=E.levels.level (Below.refl _ w) 0 (by omega);obtain ⟨B',a1,X,c1,hB,l1,t⟩:=E.levels.level (Below.refl _ w) 1 (by omega);obtain ⟨C',a2,n2,c2,hC,l2,x⟩:=E.levels.level (Below.refl _ w) 2 (by omega);simp only [G6,Gw,G2] at hA hB hC;subst hA hB hC;rw [Gv] at l0;obtain ⟨Z,R⟩:=aG (aY f M [A,B,C] S);have J:Eq (∀w',Bl w w'→Calls Tryz.prog 86 #[.agg #[iT f,.slice am nm cm,sO b a8 3 cv,.slice ak N K]] w' fun e ai=>e=.returned (.tuple #[.agg #[iT f,.slice am nm cm,.slice a0 U c0,.slice a1 X c1,.slice a2 n2 c2,.slice ak N K],.bool Z])∧Bl w' ai):=fun w' k=>by
    rw [R];exact nd lo f am ak nm cm b a8 cv N K M A B C S a0 a1 a2 U c0 X c1 n2 c2 w' (E.mem.1.keep k) (E.snaps.keep k) (r.keep k) (t.keep k) (x.keep k) (cell_later k l0) (cell_later k l1) (cell_later k l2)
   cases Z with
   | false =>
    have W:Eq (fW f M [A,B,C] S=[]):=by show fW _ _ _ _=_;unfold fW;rw [← R];rfl
    clear R E F l0 l1 l2 r t x a7 hsz I H;go_enter Tryz.func29,Tryz.ntmps29
    go_wp2_with fail
    refine (J.o _ (D _)).mono ?_;rintro e w1 ⟨rfl,d⟩;have y:Eq (Bl w w1):=(D _).trans (d.mono (D _).size);clear d D J;go_wp2;go_ret;exact ⟨⟨none,0,rfl,by rw [W.o];exact cT.none _ _⟩,y.o.alloc y.o.size _⟩
   | true =>
    have hq:=(jY f M A B C S).1 R.symm;have u:=R.symm;obtain ⟨P,Q⟩:=aG (dl M A B C);have W:Eq (fW f M [A,B,C] S=bD P.flatten):=by show fW _ _ _ _=_;unfold fW;rw [if_pos u,← zp u,Q]
    have ah:=(ic M A B C).length_eq;have af:=tZ M A B C;have a9:=xZ (I u) (H u);have a5:∀e ∈ P.flatten,EE e:=fun e he=>a9 e ((ic M A B C).mem_iff.1 (by rw [← Q];exact he))
    have a3:P.flatten.length≤1048576:=by have:=hsz u;rw [Q];omega
    have hsl:U≤8∧X≤8∧n2≤8:=by
     have h6:=hq.2.2.2.2.2.1;have hI:bH A B C=true→((A.length:Int)≤4)∧((B.length:Int)≤8)∧((C.length:Int)≤8):=by
      unfold bH uU pI;simp only [FJ,decide_eq_true_eq,Hq];rintro ⟨⟨h1,_⟩,⟨h2,_⟩,h3,_⟩;exact ⟨h1,h2,h3⟩
     have h7:=hI h6;have e0:=r.length;have e1:=t.length;have e2:=x.length;omega
    have CL:Eq (∀w',Bl w w'→Calls Tryz.prog 94 #[.agg #[iT f,.slice am nm cm,.slice a0 U c0,.slice a1 X c1,.slice a2 n2 c2,.slice ak N K]] w' (xW w w' P)):=fun w' k=>by
     rw [Q];exact callsIn_wide.1 (su lo f am ak nm cm N K a0 a1 a2 U c0 X c1 n2 c2 M A B C w w' k E.mem.1 r t x hsl.1 hsl.2.1 hsl.2.2)
    have ad:P.length≤1048576:=by
     have e0:=r.length;have e1:=t.length;have e2:=x.length;rw [Q];simp [dl];omega
    have CM:Eq (∀(g n c:Nat) (w':World),cy w' (pT g) n c P→Calls Tryz.prog 93 #[sL g n c] w' (Da w' P)):=fun g n c w' h=>callsIn_wide.1 (zW _ _ _ P w' h (by have:=h.length;omega) a3 a5)
    clear R E F l0 l1 l2 r t x a7 hsz I H Q hq u ah af a9 a5 a3 hsl ad;go_enter Tryz.func29,Tryz.ntmps29
    go_wp2_with fail
    refine (J.o _ (D _)).mono ?_;rintro e w1 ⟨rfl,d⟩;have y:Eq (Bl w w1):=(D _).trans (d.mono (D _).size);clear d D J;go_wp2_with fail
    refine (CL.o _ (y.o.alloc y.o.size _)).mono ?_;rintro e w2 ⟨⟨g,n,c,vs,rfl,ho,hh⟩,a6⟩;have K2:Eq (Bl w w2):=(y.o.alloc y.o.size _).trans (a6.mono (y.o.alloc y.o.size _).size);have Y:Eq (cy w2 (pT g) n c P):=q9 ho (hh.keep K2.o);clear ho hh a6;go_wp2_with fail
    refine (CM.o _ _ _ _ Y.o).mono ?_;rintro e w3 ⟨⟨g3,rfl,O⟩,T⟩;obtain ⟨m,hm⟩:=aG P.flatten.length;rw [← hm] at O ⊢;have ab:Eq (ag w3 w.heap.size g3 m m (bD P.flatten)):=O.mono K2.o.size;have K3:Eq (Bl w w3):=K2.o.trans (T.mono K2.o.size);clear O T Y hm;go_wp2;go_ret;exact ⟨⟨_,m,rfl,by rw [W.o];exact cT.some ab.o⟩,K3.o⟩
 · have HZ:Eq (aY f M V S=false):=iw (fun h=>hn (by have:=(aZ h).2.2.2.2.2.1;have:=F.o;omega));have W:Eq (fW f M V S=[]):=by show fW _ _ _ _=_;unfold fW;rw [HZ.o];rfl
   clear E F hsz I H;go_enter Tryz.func29,Tryz.ntmps29
   go_wp2_with fail
   refine (oq f am av ak nm cm nv cv N K _ hn).mono ?_;rintro e w1 ⟨rfl,d⟩;have y:Eq (Bl w w1):=(D _).trans (d.mono (D _).size);clear d D;go_wp2;go_ret;exact ⟨⟨none,0,rfl,by rw [W.o];exact cT.none _ _⟩,y.o.alloc y.o.size _⟩
theorem uo (lo:Nat) (d:Int) (am av ak:Option Addr) (nm cm nv cv J D:Nat) (M:List ae) (V:List (List aj)) (S:List Int) (w:World) (I:cj lo w am nm cm av nv cv ak J D M V S) (hsz:aY d M V S=true→M.length+(De V+V.length)≤1048576) :
 Calls Tryz.prog 42 #[.agg #[iT d,.slice am nm cm,.slice av nv cv,.slice ak J D]] w fun e w'=>∃g n c,e=.returned (sL g n c)∧ag w' w.heap.size g n c (fW d M V S)∧Bl w w':=by
 obtain ⟨X,hX⟩:=aG w.heap.size;obtain ⟨W,E⟩:=aG (w.alloc (.cells #[iT d,.slice am nm cm,.slice av nv cv,.slice ak J D] 31));have kW:Bl w W:=by rw [E];exact bZ
 have bx:aE W X (iT d) (.slice am nm cm) (.slice av nv cv) (.slice ak J D):=by rw [E,hX];exact aE.new _ _ _ _ _ _
 have K:Eq (Bl w W):=kW;have H:=bT I;obtain ⟨Z,T⟩:=aG (aY d M V S);have CO:Eq (∀w',Bl w w'→Calls Tryz.prog 27 #[.agg #[iT d,.slice am nm cm,.slice av nv cv,.slice ak J D]] w' fun e u=>e=.returned (.bool Z)∧Bl w' u):=fun w' k=>by
  rw [T];exact gZ lo d _ _ _ _ _ _ _ _ _ M V S w' (I.keep k)
 cases Z with
 | false =>
  have HF:Eq (fW d M V S=[]):=by show fW _ _ _ _=_;unfold fW;rw [← T];rfl
  clear I kW hsz T;go_enter Tryz.func42,Tryz.ntmps42
  go_wp2_with fail
  rw [← E];clear E hX;refine (CO.o _ K.o).mono ?_;rintro e w1 ⟨rfl,b⟩;have x:Eq (Bl w w1):=K.o.trans (b.mono K.o.size);clear b bx;go_wp2;go_ret;exact ⟨_,0,0,rfl,by rw [HF.o];exact bV _ _ x.o.size,x.o.alloc x.o.size _⟩
 | true =>
  have f:=T.symm;obtain ⟨P,hP⟩:=aG (eP M V);have HF:Eq (fW d M V S=bD P.flatten):=by show fW _ _ _ _=_;unfold fW;rw [if_pos f,hP]
  obtain ⟨A,B,C,t⟩:=eS f;have a4:P.flatten.length≤1048576:=by
   rw [hP,t,(parts_flat M A B C).length_eq];have:=tZ M A B C;have hsz:=hsz f;rw [t] at hsz;omega
  have O:∀B ∈ V,B.length≤100∧∀r ∈ B,1≤r.1.length∧r.1.length≤10000:=by
   have F:ef V d=true:=(aZ f).2.2.2.2.2.2.2.1;rw [t] at F ⊢;unfold ef at F;simp only [FJ] at F;intro Z R;simp only [FF,F4,or_false] at R;rcases R with rfl | rfl | rfl
   · exact cG F.1 (by omega)
   · exact cG F.2.1 (by omega)
   · exact cG F.2.2 (by omega)
  have a8:nv=3:=by have h1:=I.levels.length;rw [t] at h1;exact h1.symm
  have CP:Eq (∀w',Bl w w'→Calls Tryz.prog 110 #[.agg #[iT d,.slice am nm cm,.slice av nv cv,.slice ak J D]] w' fun e u=>∃a n c,e=.returned (.slice a n c)∧cy u a n c P∧Bl w' u):=fun w' k=>by
   rw [hP];exact rx lo d _ _ _ _ _ _ _ _ _ M V S w' (I.keep k) (by omega) (by omega) O
  clear I kW hsz T hP f t O a8;go_enter Tryz.func42,Tryz.ntmps42
  go_wp2_with fail
  rw [← E];try rw [← hX]
  clear E hX;refine (CO.o _ K.o).mono ?_;rintro e w1 ⟨rfl,b⟩;have x:Eq (Bl w w1):=K.o.trans (b.mono K.o.size);have b1:=bx.keep b;have x0:=b1.all;clear b bx b1;go_wp2_with fail
  clear x0;refine (CP.o _ x.o).mono ?_;rintro e w2 ⟨a,n,c,rfl,Y,U⟩;have K2:Eq (Bl w w2):=x.o.trans (U.mono x.o.size);have Q:Eq (cy w2 a n c P):=Y;clear U Y;go_wp2_with fail
  refine (mM _ _ _ P _ Q.o a4).mono ?_;rintro e w3 ⟨g,cg,rfl,y,N⟩;obtain ⟨m,hm⟩:=aG P.flatten.length;rw [← hm] at y ⊢;have a6:Eq (ag w3 w.heap.size g m cg (bD P.flatten)):=y.mono K2.o.size;have K3:Eq (Bl w w3):=K2.o.trans (N.mono K2.o.size);clear y N Q hm;go_wp2;go_ret;exact ⟨g,m,cg,rfl,by rw [HF.o];exact a6.o,K3.o⟩
def tW (c:fe) (w:World) (e:Ending) (w':World):Prop:=e=.returned (.agg #[.bool c.1,.string c.2.1,iT c.2.2])∧Bl w w'
theorem mS (h:aJ L=true):xV L:=fun e b=>by
 obtain ⟨j,d,rfl⟩:=F7 b
 exact lM (d9 h (j' d))
theorem vy {Z:List aj} (h:eT Z=false):∀r ∈ Z,cF r.1 r.2=true:=fun r hr=>by simpa using dt h r hr
theorem wR {A C:List aj} (h:aY q M [A,B,C] S=true):E0 M A B C S:=by
 obtain ⟨_,_,h3,h4,_,h6,⟨ha,hb,hc⟩,_⟩:=dF.1 h;rw [cE] at ha hb hc;have hS:=(f7.1 h6).1;have hr:∀{Z:List aj} {n:Int},(Z.length:Int)≤n→n≤8→eT Z=false→tV Z∧o8 Z:=fun {Z n} hl hn hz =>
  ⟨⟨by omega,fun p hp=>by have:=(bF (vy hz p hp)).2.1;omega⟩,fun p hp=>mS (bF (vy hz p hp)).2.2.1⟩
 have d:=hr ha.1 (by omega) ha.2.1;have b:=hr hb.1 (by omega) hb.2.1;have e:=hr hc.1 (by omega) hc.2.1;exact ⟨by omega,by omega,mS h4,d.1,b.1,e.1,d.2,b.2,e.2⟩
theorem AT (h:aY q M V S=true):0≤q∧q≤100000∧M.length≤60∧aJ M=true∧S.length≤4∧V.length=3:=by
 obtain ⟨A,B,C,rfl⟩:=eS h;obtain ⟨h1,h2,h3,h4,_,h6,_⟩:=dF.1 h;exact ⟨h1,h2,h3,h4,(f7.1 h6).1,rfl⟩
theorem qP.nn {b:Nat} (h:qP w (pT b) V):sZ w b V:=fun i B hB=>by
 obtain ⟨b',e,n,c,e1,h1⟩:=h i B hB
 cases e1
 exact ⟨e,n,c,h1⟩
theorem qP.some (h:qP w av V) (hV:V≠[]):∃b,av=some ⟨b,0,none⟩:=by
 match V,hV,h with
 | B :: V,_,h =>
  obtain ⟨b,e,n,c,e1,_⟩:=h 0 B rfl;exact ⟨b,e1⟩
theorem Ef {k:Nat} (h:∀p ∈ B,p.1.length≤k):lV B≤B.length*k:=by
 induction B with
 | nil=>simp [lV]
 | cons p B b =>
  have h1:=b (fun x hx=>h x (FY _ hx));have h2:=h p FV;have h3:lV (p :: B)=p.1.length+lV B:=by simp [lV]
  rw [h3,F5,Nat.add_mul];omega
theorem f6 (h:aY q M V S=true):M.length+(De V+V.length)≤100000∧(∀e ∈ M,EE e)∧∀B ∈ V,E8 B:=by
 obtain ⟨A,B,C,rfl⟩:=eS h;obtain ⟨hl,d,_,_⟩:=ix h;have b:=wR h;have hf:=AT h;have hs:∀Z ∈ [A,B,C],lV Z≤Z.length*150:=fun Z f=>Ef fun p hp=>(bF (d Z f p hp)).2.1
 have h1:=hs A (by simp);have h2:=hs B (by simp);have h3:=hs C (by simp);have h4:De [A,B,C]=lV A+A.length+(lV B+B.length+(lV C+C.length)):=by simp [De]
 refine ⟨by rw [h4];simp only [F5,Gz];omega,b.em,fun Z f p hp e g=>?_⟩;exact mS (bF (d Z f p hp)).2.2.1 e g
theorem z6 (q:Int) (d nm cm b nv cv:Nat) (ak:Option Addr) (ns cs:Nat) (M:List ae) (V:List (List aj)) (S:List Int) (key:ByteArray) (seq:Int) (w:World) (r:cj 0 w (pT d) nm cm (pT b) nv cv ak ns cs M V S) (htb:aY q M V S=true) (E:sZ w b V) :
 Calls Tryz.prog 39 #[.agg #[iT q,sL d nm cm,sL b nv cv,.slice ak ns cs],.string key,iT seq] w (tW (eU M V key seq) w):=by
 obtain ⟨A,B,C,e0,y,c0,e1,D,c1,e2,n2,c2,rfl,rfl,g,m⟩:=r.shareN htb E;obtain ⟨hl,f,o,e⟩:=ix htb;have t:=(aZ htb).2.2.1;have u:=r.mem.1.length;refine oH q _ _ _ _ _ _ _ _ _ _ _ _ _ _ ⟨⟨_,_,_,rfl⟩,⟨_,_,_,rfl⟩,⟨_,_,_,rfl⟩,⟨_,_,_,rfl⟩,⟨_,_,_,rfl⟩⟩ key seq _ _ _ w m (fun x k2=>?_);exact B8 q d nm cm e0 y c0 e1 D c1 e2 n2 c2 _ ns cs M A B C S key seq x (g.keep k2) (by omega) hl.1 hl.2.1 hl.2.2 (aZ htb).2.2.2.1 f o e
theorem Bk (F:Nat) (g:Int) (am av ak:Option Addr) (nm cm nv cv m f:Nat) (M:List ae) (V:List (List aj)) (S:List Int) (w:World) (d:cj F w am nm cm av nv cv ak m f M V S) (htb:aY g M V S=false) :
 Calls Tryz.prog 86 #[.agg #[iT g,.slice am nm cm,.slice av nv cv,.slice ak m f]] w fun e w2=>(∃(O:Int) (I x0 x1 H E:Value),e=.returned (.tuple #[.agg #[iT O,I,x0,x1,H,E],.bool false])∧(∃a n c,I=.slice a n c)∧(∃a n c,x0=.slice a n c)∧(∃a n c,x1=.slice a n c)∧(∃a n c,H=.slice a n c)∧(∃a n c,E=.slice a n c))∧Bl w w2:=by
 have x:Eq (V.length=nv):=d.levels.length;have k:Bl w w:=Below.refl _ w;by_cases hn:nv=3
 · subst hn;obtain ⟨A,B,C,u⟩:∃A B C,V=[A,B,C]:=by
    have:=x.o;match V,this with
    | [A,B,C],_=>exact ⟨A,B,C,rfl⟩
   subst u;obtain ⟨b,y,rfl,N⟩:=d.levels.form (by omega);obtain ⟨Q,a0,J,c0,hA,l0,r⟩:=d.levels.level (Below.refl _ w) 0 (by omega);obtain ⟨R,a1,K,c1,hB,l1,t⟩:=d.levels.level (Below.refl _ w) 1 (by omega);obtain ⟨T,a2,n2,c2,hC,l2,D⟩:=d.levels.level (Below.refl _ w) 2 (by omega);simp only [G6,Gw,G2] at hA hB hC;subst hA hB hC;rw [Gv] at l0;have:=nd F g am ak nm cm b y cv m f M A B C S a0 a1 a2 J c0 K c1 n2 c2 w (d.mem.1.keep k) (d.snaps.keep k) (r.keep k) (t.keep k) (D.keep k) (cell_later k l0) (cell_later k l1) (cell_later k l2);rw [htb] at this;refine this.mono ?_;rintro e w2 ⟨rfl,hb⟩;exact ⟨⟨_,_,_,_,_,_,rfl,⟨_,_,_,rfl⟩,⟨_,_,_,rfl⟩,⟨_,_,_,rfl⟩,⟨_,_,_,rfl⟩,⟨_,_,_,rfl⟩⟩,hb⟩
 · refine (oq g am av ak nm cm nv cv m f w hn).mono ?_;rintro e w2 ⟨rfl,hb⟩;exact ⟨⟨_,_,_,_,_,_,rfl,⟨_,_,_,rfl⟩,⟨_,_,_,rfl⟩,⟨_,_,_,rfl⟩,⟨_,_,_,rfl⟩,⟨_,_,_,rfl⟩⟩,hb⟩
def EC (q:Int) (M:List ae) (V:List (List aj)) (S:List Int) (key:ByteArray) (t:Int):fe:=if aY q M V S=true then eU M V key t else En
theorem z7 (h:qK w q am nm cm av nv cv ak ns cs M V S) (key:ByteArray) (t:Int) :
 Calls Tryz.prog 39 #[.agg #[iT q,.slice am nm cm,.slice av nv cv,.slice ak ns cs],.string key,iT t] w (tW (EC q M V S key t) w):=by
 obtain ⟨_,d,hL,_,f,rfl⟩:=h;unfold EC;cases htb:aY q M V S with
 | true =>
  obtain ⟨A,B,C,rfl⟩:=eS htb;obtain ⟨b,rfl⟩:=hL.some (by simp);exact z6 q f nm cm b nv cv ak ns cs M _ S key t w d htb hL.nn
 | false=>exact pW q _ _ _ _ _ _ _ _ _ key t w (fun e k2=>Bk 0 q _ _ _ _ _ _ _ _ _ M V S e (d.keep k2) htb)
theorem zj (h:qK w q am nm cm av nv cv ak ns cs M V S) (key:ByteArray) (t:Int) :
 Calls Tryz.prog 40 #[.agg #[iT q,.slice am nm cm,.slice av nv cv,.slice ak ns cs],.string key,iT t] w (tW (EC q M V S key t) w):=tf 0 q _ _ _ _ _ _ _ _ _ M V S key t w h.2.1
theorem tW.as {c:fe} {d:Bool} {f:ByteArray} {b:Int} {w':World} {e:Ending} (h:tW c w e w') (hc:c=(d,f,b)):e=.returned (.agg #[.bool d,.string f,iT b])∧Bl w w':=by
 subst hc;exact h
theorem pf (h:aY q M V S=true):(∀e ∈ M,1≤e.2.1∧e.2.1≤q)∧∀Z ∈ V,∀r ∈ Z,∀e ∈ r.1,1≤e.2.1∧e.2.1≤q:=by
 obtain ⟨A,B,C,rfl⟩:=eS h;obtain ⟨_,_,_,h4,h5,_,⟨ha,hb,hc⟩,_⟩:=dF.1 h;have one:∀{L:List ae},aJ L=true→bX L q=true→∀e ∈ L,1≤e.2.1∧e.2.1≤q:=fun {L} h1 h2 e f=>by
  obtain ⟨j,g⟩:=F' f;have h3:=d9 h1 g;refine ⟨?_,dh.1 h2 e f⟩;unfold dm at h3;simp at h3;omega
 refine ⟨one h4 h5,fun Z b r hr=>?_⟩;have d:=(ix h).2.1 Z b r hr;refine one (bF d).2.2.1 ?_;simp only [FF,F4,or_false] at b;rcases b with rfl | rfl | rfl
 · exact (cE.1 ha).2.2.1 r hr
 · exact (cE.1 hb).2.2.1 r hr
 · exact (cE.1 hc).2.2.1 r hr
theorem pg (h:∀e ∈ L,¬(e.1=key∧e.2.1≤s)):aR L key s=[]:=by
 unfold aR;rw [GC];intro e b;have:=h e b;simpa using this
theorem Al (h:∀Z ∈ V,∀r ∈ Z,∀e ∈ r.1,¬(e.1=key∧e.2.1≤s)):V.flatMap (fun Z=>bf Z key s)=[]:=by
 rw [List.flatMap_eq_nil_iff];intro Z b;unfold bf;rw [List.flatMap_eq_nil_iff];exact fun r hr=>pg (h Z b r hr)
theorem vU (hM:∀e ∈ M,¬(e.1=key∧e.2.1≤s)) (hV:∀Z ∈ V,∀r ∈ Z,∀e ∈ r.1,¬(e.1=key∧e.2.1≤s)):eU M V key s=En:=by
 unfold eU gH;rw [Al hV,GR,pg hM];rfl
theorem ue (h:aY q M V S=true) (key:ByteArray) {t:Int} (f:t≤0):eU M V key t=En :=
 vU (fun e b k=>by have:=(pf h).1 e b;omega) (fun Z d r hr e b k=>by have:=(pf h).2 Z d r hr e b;omega)
end Go.Proofs.YtpobkmjicbobdaaGreat
