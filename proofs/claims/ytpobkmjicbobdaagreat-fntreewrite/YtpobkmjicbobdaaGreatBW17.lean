/- Walks. -/
import Derived.Test.YtpobkmjicbobdaaGreatBW16
namespace Go.Proofs.YtpobkmjicbobdaaGreat
set_option maxRecDepth 100000
set_option maxHeartbeats 40000000
open Go.RowKit
def Gj (B:List af) (w:World) (e:Ending) (w':World):Prop:=∃g m c',e=.returned (sL g m c')∧bo w.heap.size w' g m c' B∧Bl w w'
theorem vB (b n c:Nat) (L:List ac) (w:World) (h:ah w (pT b) n c L) (aA:b<w.heap.size) (hn:n≤100000) :
 Calls Tryz.prog 181 #[sL b n c] w (Gj (fs L n).1 w):=by
 have HE:=az h;have a8:Eq (L.length=n):=h.length;have hroom:=h.room;obtain ⟨i0,hi,aN,b7,b2⟩:=info_parts Tryz.infoEnt;obtain ⟨j0,hj,b5,aI,aP⟩:=info_parts Tryz.infoRun;have aK:Eq (bo w.heap.size (w.alloc (.cells #[] 63)) w.heap.size 0 0 []):=by
  have:=Hi (base:=w.heap.size) (e:=63) (size:=2) w #[] 0 (GL _) (by simp) (by simp);exact ⟨rfl,fun p hp=>by simp at hp,_,this,fun i B hB=>by simp at hB⟩
 have K0:Eq (Bl w (w.alloc (.cells #[] 63))):=bZ;clear h;go_enter Tryz.func181,Tryz.ntmps181
 go_wp2;go_loopw [3,4,5] (fun ov fv iv wr=>∃(i f g m c':Nat) (E:List af),1≤i∧i≤n+1∧iv=iT (i:Int)∧fv=iT (f:Int)∧f<i∧ov=sL g m c'∧m<i∧fs L (i - 1)=(E,f)∧bo w.heap.size wr g m c' E∧Bl w wr) (fun _ _ iv _=>n+1 - (intOf iv).toNat)
 case atStart=>exact ⟨1,0,_,0,0,[],GL _,by omega,rfl,rfl,by omega,rfl,by omega,rfl,aK.o,K0.o⟩
 case round =>
  clear aK K0;obtain ⟨i,f,g,m,c',E,aq,bC,rfl,rfl,bA,rfl,bw,hc,hr,hb⟩:=hrel;have HC:Eq (fs L (i - 1)=(E,f)):=hc;have HR:Eq (bo w.heap.size wr g m c' E):=hr;have HK:Eq (Bl w wr):=hb;have zb:b<wr.heap.size:=E' aA hb.size;clear hc hr hb;by_cases bu:i≤n
  · have bb:(i:Int)≤(n:Int):=by omega
    by_cases aj:i=n
    · subst aj;have Y:Eq (ie L f i=true):=by show _=_;unfold ie;rw [a8.o];simp
      have K:Bl wr wr.drew:=(Below.refl _ wr).drew;have x:Eq (∀w',Bl wr w'→(fun w'=>b<w'.heap.size) w'):=fun w' kk=>E' zb kk.size
      have r:Eq (Bl w wr.drew):=HK.o.trans (K.mono HK.o.size);have A:Eq (bo w.heap.size wr.drew g m c' E):=HR.o.below K;go_upto_region 6 with fail
      refine eJ x K fun aa=>?_
      generalize wr.drew=y at K aa r A ⊢;refine aR 0 24 aa ?_;refine dN ?_;clear aa x K;obtain ⟨P,hP⟩:=aG ((L.drop f).take (i - f));have aD:Eq (P=(L.drop f).take (i - f)):=hP;obtain ⟨np,O⟩:=aG (i - f);have N:Eq (P.length=np):=by show _=_;rw [hP,O,GS,G7,a8.o];omega
      obtain ⟨cp,U⟩:=aG (c - f);have ak:∀w',Bl w w'→ah w' (some ⟨b,f*5,none⟩) np cp P:=fun w' kk=>by rw [hP,O,U];have:=(HE.o.keep kk).sub (i:=f) (j:=i) (by omega) (by omega);simpa using this
      have a9:Eq (∀w',Bl w w'→ah w' (some ⟨b,f*5,none⟩) np cp P):=ak;have bg:¬c=f:=by omega
      have aZ:(f:Int)≤(i:Int):=by omega
      have aL:(i:Int)≤(c:Int):=by omega
      have al:1≤np∧np≤1048576:=by omega
      have ka:Bl y (y.alloc (.cells #[] 50)):=bZ;have W:Eq (Bl w (y.alloc (.cells #[] 50))):=r.o.trans (ka.mono r.o.size);have am:Eq (ag (y.alloc (.cells #[] 50)) y.heap.size y.heap.size 0 0 []):=cK y _ (GL _);have aH:Eq (bo w.heap.size (y.alloc (.cells #[] 50)) g m c' E):=A.o.below ka;have ay:Eq (w.heap.size≤y.heap.size):=r.o.size;have aU:((i:Int) - (f:Int)).toNat=np:=by omega
      have aV:((c:Int) - (f:Int)).toNat=cp:=by omega
      have b0:i - f=np:=O.symm;have aM:c - f=cp:=U.symm;have a1:Eq (Bl y (y.alloc (.cells #[] 50))):=ka;clear ka hP ak O U;have aY:Eq (1≤np∧np≤1048576):=al;go_wp2_with (at_builtin;refine wpList_append_own _ rfl _ _ 28 rfl y.heap.size 50 i0 _ 5 56 Tryz.underlying28 hi aN b7 b2 rfl (by decide) _ _ _ rfl am.o.owns ⟨b,f*5,none⟩ np cp (aF P) rfl (by rw [aX,N.o]) (rJ (a9.o _ W.o)) (bf _) (by unfold maxLen;omega) (by omega) (by simp) ?_;intro v2 w2 s D I;obtain ⟨J,F,rfl⟩:=aO s I)
      simp only [GT] at s;have X:Eq (Bl y w2):=a1.o.grown D a1.o.size (fun k e=>by have h1:=GN (show some y.heap.size=some k from e);omega);have a4:Eq (Bl w w2):=r.o.trans (X.o.mono r.o.size);have ad:Eq (bo w.heap.size w2 g m c' E):=A.o.below X.o;have Z:Eq (ag w2 w.heap.size J np F P):=ag.mono ⟨s,N.o,(a9.o _ W.o).ents⟩ ay.o;clear s D I a1 X W am aH A r;obtain ⟨mk,hmk⟩:∃mk:Int,mk=((dL P:Nat):Int):=⟨_,rfl⟩;have x:Eq (mk=((dL P:Nat):Int)):=hmk;have CL:Eq (Calls Tryz.prog 173 #[sL J np F] w2 fun e w'=>e=.returned (.agg #[sL J np F,iT mk])∧Bl w2 w'):=by rw [hmk];exact qo _ np F P w2 Z.o.entsAt
      clear hmk;refine CL.o.mono ?_;rintro e R ⟨rfl,a0⟩;have an:Bl R (R.alloc (.cells #[sL J np F,iT mk] 63)):=bZ;have Q:=a0.trans (an.mono a0.size);have a5:Eq (Bl w (R.alloc (.cells #[sL J np F,iT mk] 63))):=a4.o.trans (Q.mono a4.o.size);have ax:Eq (ag (R.alloc (.cells #[sL J np F,iT mk] 63)) w.heap.size J np F P):=Z.o.below Q;obtain ⟨r1,r2,xs,r3,r4⟩:=ad.o.below Q;have ai:Eq (E.length=m∧(∀p ∈ E,(Lit.int .i64 p.2).wf=true)):=⟨r1,r2⟩;have a2:Eq ((R.alloc (.cells #[sL J np F,iT mk] 63)).ownsRow w.heap.size 63 2 (sL g m c') m xs):=r3;have aC:Eq (∀(i:Nat) (p:af),E[i]?=some p→∃e d,xs[i*2]?=some (sL e p.1.length d)∧xs[i*2+1]?=some (iT p.2)∧ag (R.alloc (.cells #[sL J np F,iT mk] 63)) w.heap.size e p.1.length d p.1):=r4;have ab:=bW R (sL J np F) (iT mk) 63;have aw:=az ab;clear a0 an Q r1 r2 r3 r4 ab CL a4 ad Z;go_wp2_with (at_builtin;refine wpList_append_own _ rfl _ _ 61 rfl w.heap.size 63 j0 _ 2 32 Tryz.underlying61 hj b5 aI aP rfl (by decide) _ _ _ rfl a2.o ⟨R.heap.size,0,none⟩ 1 1 [sL J np F,iT mk] rfl rfl aw.o (by intro u hu;simp at hu;rcases hu with rfl | rfl <;> rfl) (by unfold maxLen;omega) (by omega) a5.o.size ?_;intro v5 w5 C t H;obtain ⟨g5,c5,rfl⟩:=aO C H)
      have aE:Eq (bo w.heap.size w5 g5 (m+1) c5 (E++[(P,mk)])):=ir ai.o.1 ai.o.2 a2.o aC.o (by rw [N.o];exact ax.o) (by rw [x.o];exact zD _) t (by rw [N.o];exact C);have aB:Eq (Bl w w5):=a5.o.grown t a5.o.size (fun k e=>(a2.o.lt k e).1);clear C t H;go_roundw
      case rel=>exact ⟨i+1,i,g5,m+1,c5,E++[(P,mk)],by omega,by omega,by go_num,rfl,by omega,rfl,by omega,(by rw [Is,tX aq HC.o Y.o];unfold eU;rw [← aD.o,← x.o]),aE.o,aB.o⟩
      case measure=>first | (simp [intOf];omega) | (simp [intOf])
    · have av:¬(i:Int)=(n:Int):=by omega
      have bB:((i:Int) == (n:Int))=false:=by simpa using av
      have bp:IntKind.i64.wrap ((i:Int) - (f:Int))=(i:Int) - (f:Int):=by rw [G4];unfold wrap64;omega
      by_cases aT:20≤i - f
      · have b1:(i:Int) - (f:Int) ≥ 20:=by omega
        have aJ:(20:Int)≤(i:Int) - (f:Int):=by omega
        have bh:IntKind.i64.wrap ((i:Int) - 1)=(i:Int) - 1:=by rw [G4];unfold wrap64;omega
        have br:(i:Int)<(n:Int):=by omega
        have bk:(i:Int) - 1<(n:Int):=by omega
        have bn:(0:Int)≤(i:Int) - 1:=by omega
        have bq:(1:Int)≤(i:Int):=by omega
        have bt:((i:Int) - 1).toNat=i - 1:=by omega
        obtain ⟨s1,x1,x2,x3,x4,ar,_,q1,_⟩:=HE.o.ent HK.o aA i (by omega);obtain ⟨s0,y1,y2,y3,y4,ap,_,q0,_⟩:=HE.o.ent HK.o aA (i - 1) (by omega);simp only [GT] at q1 q0;by_cases T:s1=s0
        · have Y:Eq (ie L f i=false):=by show _=_;unfold ie;rw [a8.o,lI ar,lI ap,decide_eq_false aj];simp [T]
          have bj:(s1.toList == s0.toList)=true:=by rw [T];simp
          clear ar ap T;have K:Bl wr wr.drew:=(Below.refl _ wr).drew;have x:Eq (∀w',Bl wr w'→(fun w'=>w'.cell? ⟨b,i*5,none⟩=some (.string s1)∧w'.cell? ⟨b,(i - 1)*5,none⟩=some (.string s0)∧b<w'.heap.size) w'):=fun w' kk=>⟨cell_later kk q1,cell_later kk q0,E' zb kk.size⟩
          have r:Eq (Bl w wr.drew):=HK.o.trans (K.mono HK.o.size);have A:Eq (bo w.heap.size wr.drew g m c' E):=HR.o.below K;go_upto_region 6 with fail
          refine eJ x K fun aa=>?_
          generalize wr.drew=y at K aa r A ⊢;refine aR 0 24 aa ?_;refine dN ?_;clear aa x K;go_wp2;go_roundw
          case rel=>exact ⟨i+1,f,g,m,c',E,by omega,by omega,by go_num,rfl,by omega,rfl,by omega,(by rw [Is];exact wS aq HC.o Y.o),A.o,r.o⟩
          case measure=>first | (simp [intOf];omega) | (simp [intOf])
        · have Y:Eq (ie L f i=true):=by show _=_;unfold ie;rw [a8.o,lI ar,lI ap];simp [T,aT]
          have bj:(s1.toList == s0.toList)=false:=by rw [beq_eq_false_iff_ne];intro e;rw [Hk,Hk] at e;exact T (IP (II.1 e))
          clear ar ap;have K:Bl wr wr.drew:=(Below.refl _ wr).drew;have x:Eq (∀w',Bl wr w'→(fun w'=>w'.cell? ⟨b,i*5,none⟩=some (.string s1)∧w'.cell? ⟨b,(i - 1)*5,none⟩=some (.string s0)∧b<w'.heap.size) w'):=fun w' kk=>⟨cell_later kk q1,cell_later kk q0,E' zb kk.size⟩
          have r:Eq (Bl w wr.drew):=HK.o.trans (K.mono HK.o.size);have A:Eq (bo w.heap.size wr.drew g m c' E):=HR.o.below K;go_upto_region 6 with fail
          refine eJ x K fun aa=>?_
          generalize wr.drew=y at K aa r A ⊢;refine aR 0 24 aa ?_;refine dN ?_;clear aa x K;obtain ⟨P,hP⟩:=aG ((L.drop f).take (i - f));have aD:Eq (P=(L.drop f).take (i - f)):=hP;obtain ⟨np,O⟩:=aG (i - f);have N:Eq (P.length=np):=by show _=_;rw [hP,O,GS,G7,a8.o];omega
          obtain ⟨cp,U⟩:=aG (c - f);have ak:∀w',Bl w w'→ah w' (some ⟨b,f*5,none⟩) np cp P:=fun w' kk=>by rw [hP,O,U];have:=(HE.o.keep kk).sub (i:=f) (j:=i) (by omega) (by omega);simpa using this
          have a9:Eq (∀w',Bl w w'→ah w' (some ⟨b,f*5,none⟩) np cp P):=ak;have bg:¬c=f:=by omega
          have aZ:(f:Int)≤(i:Int):=by omega
          have aL:(i:Int)≤(c:Int):=by omega
          have al:1≤np∧np≤1048576:=by omega
          have ka:Bl y (y.alloc (.cells #[] 50)):=bZ;have W:Eq (Bl w (y.alloc (.cells #[] 50))):=r.o.trans (ka.mono r.o.size);have am:Eq (ag (y.alloc (.cells #[] 50)) y.heap.size y.heap.size 0 0 []):=cK y _ (GL _);have aH:Eq (bo w.heap.size (y.alloc (.cells #[] 50)) g m c' E):=A.o.below ka;have ay:Eq (w.heap.size≤y.heap.size):=r.o.size;have aU:((i:Int) - (f:Int)).toNat=np:=by omega
          have aV:((c:Int) - (f:Int)).toNat=cp:=by omega
          have b0:i - f=np:=O.symm;have aM:c - f=cp:=U.symm;have a1:Eq (Bl y (y.alloc (.cells #[] 50))):=ka;clear ka hP ak O U;have aY:Eq (1≤np∧np≤1048576):=al;go_wp2_with (at_builtin;refine wpList_append_own _ rfl _ _ 28 rfl y.heap.size 50 i0 _ 5 56 Tryz.underlying28 hi aN b7 b2 rfl (by decide) _ _ _ rfl am.o.owns ⟨b,f*5,none⟩ np cp (aF P) rfl (by rw [aX,N.o]) (rJ (a9.o _ W.o)) (bf _) (by unfold maxLen;omega) (by omega) (by simp) ?_;intro v2 w2 s D I;obtain ⟨J,F,rfl⟩:=aO s I)
          simp only [GT] at s;have X:Eq (Bl y w2):=a1.o.grown D a1.o.size (fun k e=>by have h1:=GN (show some y.heap.size=some k from e);omega);have a4:Eq (Bl w w2):=r.o.trans (X.o.mono r.o.size);have ad:Eq (bo w.heap.size w2 g m c' E):=A.o.below X.o;have Z:Eq (ag w2 w.heap.size J np F P):=ag.mono ⟨s,N.o,(a9.o _ W.o).ents⟩ ay.o;clear s D I a1 X W am aH A r;obtain ⟨mk,hmk⟩:∃mk:Int,mk=((dL P:Nat):Int):=⟨_,rfl⟩;have x:Eq (mk=((dL P:Nat):Int)):=hmk;have CL:Eq (Calls Tryz.prog 173 #[sL J np F] w2 fun e w'=>e=.returned (.agg #[sL J np F,iT mk])∧Bl w2 w'):=by rw [hmk];exact qo _ np F P w2 Z.o.entsAt
          clear hmk;refine CL.o.mono ?_;rintro e R ⟨rfl,a0⟩;have an:Bl R (R.alloc (.cells #[sL J np F,iT mk] 63)):=bZ;have Q:=a0.trans (an.mono a0.size);have a5:Eq (Bl w (R.alloc (.cells #[sL J np F,iT mk] 63))):=a4.o.trans (Q.mono a4.o.size);have ax:Eq (ag (R.alloc (.cells #[sL J np F,iT mk] 63)) w.heap.size J np F P):=Z.o.below Q;obtain ⟨r1,r2,xs,r3,r4⟩:=ad.o.below Q;have ai:Eq (E.length=m∧(∀p ∈ E,(Lit.int .i64 p.2).wf=true)):=⟨r1,r2⟩;have a2:Eq ((R.alloc (.cells #[sL J np F,iT mk] 63)).ownsRow w.heap.size 63 2 (sL g m c') m xs):=r3;have aC:Eq (∀(i:Nat) (p:af),E[i]?=some p→∃e d,xs[i*2]?=some (sL e p.1.length d)∧xs[i*2+1]?=some (iT p.2)∧ag (R.alloc (.cells #[sL J np F,iT mk] 63)) w.heap.size e p.1.length d p.1):=r4;have ab:=bW R (sL J np F) (iT mk) 63;have aw:=az ab;clear a0 an Q r1 r2 r3 r4 ab CL a4 ad Z;go_wp2_with (at_builtin;refine wpList_append_own _ rfl _ _ 61 rfl w.heap.size 63 j0 _ 2 32 Tryz.underlying61 hj b5 aI aP rfl (by decide) _ _ _ rfl a2.o ⟨R.heap.size,0,none⟩ 1 1 [sL J np F,iT mk] rfl rfl aw.o (by intro u hu;simp at hu;rcases hu with rfl | rfl <;> rfl) (by unfold maxLen;omega) (by omega) a5.o.size ?_;intro v5 w5 C t H;obtain ⟨g5,c5,rfl⟩:=aO C H)
          have aE:Eq (bo w.heap.size w5 g5 (m+1) c5 (E++[(P,mk)])):=ir ai.o.1 ai.o.2 a2.o aC.o (by rw [N.o];exact ax.o) (by rw [x.o];exact zD _) t (by rw [N.o];exact C);have aB:Eq (Bl w w5):=a5.o.grown t a5.o.size (fun k e=>(a2.o.lt k e).1);clear C t H;go_roundw
          case rel=>exact ⟨i+1,i,g5,m+1,c5,E++[(P,mk)],by omega,by omega,by go_num,rfl,by omega,rfl,by omega,(by rw [Is,tX aq HC.o Y.o];unfold eU;rw [← aD.o,← x.o]),aE.o,aB.o⟩
          case measure=>first | (simp [intOf];omega) | (simp [intOf])
      · have b1:¬(i:Int) - (f:Int) ≥ 20:=by omega
        have aJ:¬(20:Int)≤(i:Int) - (f:Int):=by omega
        have Y:Eq (ie L f i=false):=by show _=_;unfold ie;rw [a8.o,decide_eq_false aj,decide_eq_false aT];rfl
        have K:Bl wr wr.drew:=(Below.refl _ wr).drew;have x:Eq (∀w',Bl wr w'→(fun w'=>b<w'.heap.size) w'):=fun w' kk=>E' zb kk.size
        have r:Eq (Bl w wr.drew):=HK.o.trans (K.mono HK.o.size);have A:Eq (bo w.heap.size wr.drew g m c' E):=HR.o.below K;go_upto_region 6 with fail
        refine eJ x K fun aa=>?_
        generalize wr.drew=y at K aa r A ⊢;refine aR 0 24 aa ?_;refine dN ?_;clear aa x K;go_wp2;go_roundw
        case rel=>exact ⟨i+1,f,g,m,c',E,by omega,by omega,by go_num,rfl,by omega,rfl,by omega,(by rw [Is];exact wS aq HC.o Y.o),A.o,r.o⟩
        case measure=>first | (simp [intOf];omega) | (simp [intOf])
  · have bb:¬(i:Int)≤(n:Int):=by omega
    obtain rfl:i=n+1:=by omega
    have HF:Eq ((fs L n).1=E):=by show _=_;have h:=HC.o;rw [Is] at h;rw [h]
    go_wp2;go_ret;exact (show Gj _ w _ _ from ⟨g,m,c',rfl,by rw [HF.o];exact HR.o,HK.o⟩)
theorem De (lo I A b f n c:Nat) (B:List af) (k1 k2:ByteArray) (i:Nat) (r:af) (w:World) (hB:aw lo w (some ⟨b,f,none⟩) n c B) (hr:B[i]?=some r) (hl:1≤r.1.length∧r.1.length≤1048576) (h1:w.cell? ⟨I,0,none⟩=some (sO b f n c)) (h2:w.cell? ⟨A,0,none⟩=some (.string k1)) (h3:w.cell? ⟨A,1,none⟩=some (.string k2)) :
 Calls Tryz.prog 185 #[iT i,.pointer (pT I),.pointer (pT A)] w fun e w'=>e=.returned (.bool (!Op.bytesLess (aT r.1).toList k1.toList))∧Bl w w':=by
 have hi:=(F'.1 hr).1;have Y:=hB.length;obtain ⟨L,m,s,ne,R,D,_,U,_,hE⟩:=hB.run (Below.refl _ w) i (by omega);rw [hr] at D;cases D;simp only at hl;obtain ⟨O,N,rfl,a1⟩:=hE.1.form (by have:=hE.1.length;have:=hl.1;omega);have J:1≤ne:=by have:=hE.1.length;have:=hl.1;omega
 have F:=(hB.lies _ rfl (by omega)).1;simp only at F;have W:ne≤1048576:=by have:=hE.1.length;have:=hl.2;omega
 have X:Eq (∀w',Bl w w'→Calls Tryz.prog 126 #[sO O N ne R] w' fun r y=>r=.returned (.agg #[.string (bj L),.string (aT L)])∧Bl w' y):=fun w' k=>lJ O N ne R L w' (hE.1.keep k) J
 have d:Eq (∀w',Bl w w'→(fun w'=>w'.cell? ⟨I,0,none⟩=some (sO b f n c)∧w'.cell? ⟨A,0,none⟩=some (.string k1)∧w'.cell? ⟨A,1,none⟩=some (.string k2)∧w'.cell? ⟨b,f+i*2,none⟩=some (sO O N ne R)∧I<w'.heap.size∧A<w'.heap.size∧b<w'.heap.size) w'):=fun w' g=>⟨cell_later g h1,cell_later g h2,cell_later g h3,cell_later g U,E' (GK _ _ h1) g.size,E' (GK _ _ h2) g.size,E' F g.size⟩
 have H:Bl w w.drew:=(Below.refl _ w).drew;obtain ⟨Z,x⟩:=aG (bj L);obtain ⟨hk,t⟩:=aG (aT L);rw [← x,← t] at X;try rw [← x]
 try rw [← t]
 have CE:Eq (∀w',Calls Tryz.prog 186 #[.agg #[.string Z,.string hk],.agg #[.string k1,.string k2]] w' fun e y=>e=.returned (.bool (Op.bytesLess hk.toList k1.toList))∧Bl w' y):=fun w'=>oO _ _ _ _ w'
 have a0:(i:Int)<(n:Int):=by omega
 clear x t hE hB hr hl h1 h2 h3 U;go_enter Tryz.func185,Tryz.ntmps185
 go_upto_region 1 with fail
 refine eJ d H fun C=>?_
 refine aR 0 5 C ?_;refine aR 6 1 C ?_;refine aV 5 fun K hK=>?_
 go_simp;refine (X.o _ H).mono ?_;rintro e w1 ⟨rfl,T⟩;have u:Bl w w1:=H.trans (T.mono H.size);go_wp2_with fail
 refine hK.o _ _ (d.o _ u) fun C=>?_
 (try go_frame);refine aV 7 fun K hK=>?_
 go_simp;refine (CE.o _).mono ?_;rintro e w2 ⟨rfl,Q⟩;have E:Bl w w2:=u.trans (Q.mono u.size);go_wp2_with fail
 refine hK.o _ _ (d.o _ E) fun C=>?_
 (try go_frame);refine aR 8 2 C ?_;refine dN ?_;clear C d;go_wp2;go_ret;exact ⟨by first | rfl | simp,E⟩
theorem Dd (lo I A b f n c:Nat) (B:List af) (k1 k2:ByteArray) (i:Nat) (r:af) (w:World) (hB:aw lo w (some ⟨b,f,none⟩) n c B) (hr:B[i]?=some r) (hl:1≤r.1.length∧r.1.length≤1048576) (h1:w.cell? ⟨I,0,none⟩=some (sO b f n c)) (h2:w.cell? ⟨A,0,none⟩=some (.string k1)) (h3:w.cell? ⟨A,1,none⟩=some (.string k2)) :
 Calls Tryz.prog 187 #[iT i,.pointer (pT A),.pointer (pT I)] w fun e w'=>e=.returned (.bool (Op.bytesLess k2.toList (bj r.1).toList))∧Bl w w':=by
 have hi:=(F'.1 hr).1;have Z:=hB.length;obtain ⟨L,m,s,ne,R,C,_,W,_,hE⟩:=hB.run (Below.refl _ w) i (by omega);rw [hr] at C;cases C;simp only at hl;obtain ⟨O,N,rfl,a1⟩:=hE.1.form (by have:=hE.1.length;have:=hl.1;omega);have J:1≤ne:=by have:=hE.1.length;have:=hl.1;omega
 have E:=(hB.lies _ rfl (by omega)).1;simp only at E;have X:ne≤1048576:=by have:=hE.1.length;have:=hl.2;omega
 have Y:Eq (∀w',Bl w w'→Calls Tryz.prog 126 #[sO O N ne R] w' fun r y=>r=.returned (.agg #[.string (bj L),.string (aT L)])∧Bl w' y):=fun w' k=>lJ O N ne R L w' (hE.1.keep k) J
 have d:Eq (∀w',Bl w w'→(fun w'=>w'.cell? ⟨I,0,none⟩=some (sO b f n c)∧w'.cell? ⟨A,0,none⟩=some (.string k1)∧w'.cell? ⟨A,1,none⟩=some (.string k2)∧w'.cell? ⟨b,f+i*2,none⟩=some (sO O N ne R)∧I<w'.heap.size∧A<w'.heap.size∧b<w'.heap.size) w'):=fun w' g=>⟨cell_later g h1,cell_later g h2,cell_later g h3,cell_later g W,E' (GK _ _ h1) g.size,E' (GK _ _ h2) g.size,E' E g.size⟩
 have H:Bl w w.drew:=(Below.refl _ w).drew;obtain ⟨U,x⟩:=aG (bj L);obtain ⟨hk,t⟩:=aG (aT L);rw [← x,← t] at Y;try rw [← x]
 try rw [← t]
 have CE:Eq (∀w',Calls Tryz.prog 186 #[.agg #[.string k1,.string k2],.agg #[.string U,.string hk]] w' fun e y=>e=.returned (.bool (Op.bytesLess k2.toList U.toList))∧Bl w' y):=fun w'=>oO _ _ _ _ w'
 have a0:(i:Int)<(n:Int):=by omega
 clear x t hE hB hr hl h1 h2 h3 W;go_enter Tryz.func187,Tryz.ntmps187
 go_upto_region 1 with fail
 refine eJ d H fun F=>?_
 refine aR 0 6 F ?_;refine aV 6 fun K hK=>?_
 go_simp;refine (Y.o _ H).mono ?_;rintro e w1 ⟨rfl,T⟩;have u:Bl w w1:=H.trans (T.mono H.size);go_wp2_with fail
 refine hK.o _ _ (d.o _ u) fun F=>?_
 (try go_frame);refine aV 7 fun K hK=>?_
 go_simp;refine (CE.o _).mono ?_;rintro e w2 ⟨rfl,Q⟩;have D:Bl w w2:=u.trans (Q.mono u.size);go_wp2_with fail
 refine hK.o _ _ (d.o _ D) fun F=>?_
 (try go_frame);refine aR 8 1 F ?_;refine dN ?_;clear F d;go_wp2;go_ret;exact ⟨by first | rfl | simp,D⟩
theorem Cy (A C n:Nat) (p:Nat→Bool) (w:World) (hn:n≤1048576) (hC:∀i w',i<n→Bl w w'→Calls Tryz.prog 185 #[iT i,.pointer (pT A),.pointer (pT C)] w' fun e d=>e=.returned (.bool (p i))∧Bl w' d) (hm:∀a b,a≤b→b<n→p a=true→p b=true) :
 Calls Tryz.prog 184 #[iT n,.func (.func 185) #[] #[.pointer (pT A),.pointer (pT C)]] w fun e w'=>∃i:Nat,e=.returned (iT i)∧i≤n∧(∀t,t<i→p t=false)∧(∀t,i≤t→t<n→p t=true)∧Bl w w':=by
 have R:=az hC;have J:=az hm;go_enter Tryz.func184,Tryz.ntmps184
 go_wp2;go_loopw [5,6] (fun F hv wr=>∃(a b:Nat),a≤b∧b≤n∧F=iT a∧hv=iT b∧(∀t,t<a→p t=false)∧(∀t,b≤t→t<n→p t=true)∧Bl w wr) (fun F hv _=>(intOf hv).toNat - (intOf F).toNat)
 case atStart=>exact ⟨0,n,GQ _,GL _,rfl,rfl,(fun t I=>absurd I (H7 _)),(fun t h1 h2=>by omega),Below.refl _ _⟩
 case round =>
  obtain ⟨a,b,L,s,rfl,rfl,D,y,hb⟩:=hrel;have m:=az D;have r:=az y;have u:=az hb;by_cases K:a<b
  · have f:(a:Int)<(b:Int):=by omega
    obtain ⟨h,hh⟩:=aG ((a+b) / 2);have x:a≤h:=by omega
    have O:h<b:=by omega
    have B:((a:Int)+(b:Int)) / 2=(h:Int):=by omega
    have N:Eq (Calls Tryz.prog 185 #[iT h,.pointer (pT A),.pointer (pT C)] wr fun e d=>e=.returned (.bool (p h))∧Bl wr d):=R.o h wr (by omega) u.o;have Q:=az hh;clear hh;go_wp2_with fail
    try rw [B]
    refine N.o.mono ?_;rintro e T ⟨rfl,E⟩;have g:=az (u.o.trans (E.mono u.o.size));cases hp:p h with
    | false =>
     have H:=az hp;go_wp2;go_roundw
     case rel =>
      refine ⟨h+1,b,by omega,s,by go_num,rfl,fun t I=>?_,r.o,g.o⟩;cases hq:p t with
      | false=>rfl
      | true=>have:=J.o t h (by omega) (by omega) hq;rw [H.o] at this;cases this
     case measure=>simp [intOf];omega
    | true =>
     have H:=az hp;go_wp2;go_roundw
     case rel =>
      refine ⟨a,h,x,by omega,rfl,by go_num,m.o,fun t h1 h2=>J.o h t h1 h2 H.o,g.o⟩
     case measure=>simp [intOf];omega
  · have f:¬(a:Int)<(b:Int):=by omega
    obtain rfl:a=b:=by omega
    go_wp2;go_ret;exact ⟨a,rfl,s,m.o,r.o,u.o⟩
theorem Cx (A C n:Nat) (p:Nat→Bool) (w:World) (hn:n≤1048576) (hC:∀i w',i<n→Bl w w'→Calls Tryz.prog 187 #[iT i,.pointer (pT C),.pointer (pT A)] w' fun e d=>e=.returned (.bool (p i))∧Bl w' d) (hm:∀a b,a≤b→b<n→p a=true→p b=true) :
 Calls Tryz.prog 184 #[iT n,.func (.func 187) #[] #[.pointer (pT C),.pointer (pT A)]] w fun e w'=>∃i:Nat,e=.returned (iT i)∧i≤n∧(∀t,t<i→p t=false)∧(∀t,i≤t→t<n→p t=true)∧Bl w w':=by
 have R:=az hC;have J:=az hm;go_enter Tryz.func184,Tryz.ntmps184
 go_wp2;go_loopw [5,6] (fun F hv wr=>∃(a b:Nat),a≤b∧b≤n∧F=iT a∧hv=iT b∧(∀t,t<a→p t=false)∧(∀t,b≤t→t<n→p t=true)∧Bl w wr) (fun F hv _=>(intOf hv).toNat - (intOf F).toNat)
 case atStart=>exact ⟨0,n,GQ _,GL _,rfl,rfl,(fun t I=>absurd I (H7 _)),(fun t h1 h2=>by omega),Below.refl _ _⟩
 case round =>
  obtain ⟨a,b,L,s,rfl,rfl,D,y,hb⟩:=hrel;have m:=az D;have r:=az y;have u:=az hb;by_cases K:a<b
  · have f:(a:Int)<(b:Int):=by omega
    obtain ⟨h,hh⟩:=aG ((a+b) / 2);have x:a≤h:=by omega
    have O:h<b:=by omega
    have B:((a:Int)+(b:Int)) / 2=(h:Int):=by omega
    have N:Eq (Calls Tryz.prog 187 #[iT h,.pointer (pT C),.pointer (pT A)] wr fun e d=>e=.returned (.bool (p h))∧Bl wr d):=R.o h wr (by omega) u.o;have Q:=az hh;clear hh;go_wp2_with fail
    try rw [B]
    refine N.o.mono ?_;rintro e T ⟨rfl,E⟩;have g:=az (u.o.trans (E.mono u.o.size));cases hp:p h with
    | false =>
     have H:=az hp;go_wp2;go_roundw
     case rel =>
      refine ⟨h+1,b,by omega,s,by go_num,rfl,fun t I=>?_,r.o,g.o⟩;cases hq:p t with
      | false=>rfl
      | true=>have:=J.o t h (by omega) (by omega) hq;rw [H.o] at this;cases this
     case measure=>simp [intOf];omega
    | true =>
     have H:=az hp;go_wp2;go_roundw
     case rel =>
      refine ⟨a,h,x,by omega,rfl,by go_num,m.o,fun t h1 h2=>J.o h t h1 h2 H.o,g.o⟩
     case measure=>simp [intOf];omega
  · have f:¬(a:Int)<(b:Int):=by omega
    obtain rfl:a=b:=by omega
    go_wp2;go_ret;exact ⟨a,rfl,s,m.o,r.o,u.o⟩
theorem pr (lo:Nat) (a:Option Addr) (n c:Nat) (B:List af) (k1 k2:ByteArray) (w:World) (hB:aw lo w a n c B) (hn:n≤1000) (ha:bn B=true) (m:∀r ∈ B,cU r.1 r.2=true) :
 Calls Tryz.prog 125 #[.slice a n c,.agg #[.string k1,.string k2]] w fun e w'=>∃i j:Nat,e=.returned (.tuple #[iT i,iT j])∧gh B k1 k2 i j∧Bl w w':=by
 have a2:=hB.length;obtain ⟨X,T⟩:=aG w.heap.size;obtain ⟨W,L⟩:=aG ((w.alloc (.cells #[.slice a n c] 61)).alloc (.cells #[.string k1,.string k2] 135));have R:Bl w W:=by rw [L];exact bZ.alloc (by simp) _
 have x0:W.cell? ⟨X,0,none⟩=some (.slice a n c):=by rw [L,T];exact cell_later bZ (by have:=dU w (.slice a n c) 61 0 _ rfl;rwa [G6] at this)
 have hy:∀j u,[Value.string k1,Value.string k2][j]?=some u→W.cell? ⟨X+1,j,none⟩=some u:=fun j u hu=>by
  have h1:=bW (w.alloc (.cells #[.slice a n c] 61)) (.string k1) (.string k2) 135 j u hu;rw [G6,GT,GY,← L,← T] at h1;exact h1
 have y0:=hy 0 _ rfl;have y1:=hy 1 _ rfl;have K0:Eq (Bl w W):=R;obtain ⟨x,hp1⟩:∃x:Nat→Bool,x=fun t=>match B[t]? with | some r=>!Op.bytesLess (aT r.1).toList k1.toList | none=>true:=⟨_,rfl⟩
 obtain ⟨A,f⟩:∃A:Nat→Bool,A=fun t=>match B[t]? with | some r=>Op.bytesLess k2.toList (bj r.1).toList | none=>true:=⟨_,rfl⟩
 have C1:Eq (∀w',Bl W w'→Calls Tryz.prog 184 #[iT n,.func (.func 185) #[] #[.pointer (pT X),.pointer (some ⟨X+1,0,none⟩)]] w' fun e D=>∃i:Nat,e=.returned (iT i)∧i≤n∧(∀t,t<i→x t=false)∧(∀t,i≤t→t<n→x t=true)∧Bl w' D):=fun w' k=>by
  refine Cy X (X+1) n x w' (by omega) (fun i O hi C=>?_) (fun s t F ht h=>?_)
  · obtain ⟨b,H,rfl,_⟩:=hB.form (by omega);have hr:=j' (show i<B.length by omega);have d:=k.trans (C.mono k.size);obtain ⟨_,E,hl2⟩:=eL (m _ (Hj (show i<B.length by omega)));have h:=De lo X (X+1) b H n c B k1 k2 i _ O ((hB.keep R).keep d) hr ⟨E,by omega⟩ (cell_later d x0) (cell_later d y0) (cell_later d y1);rw [hp1];simp only [hr];exact h
  · have hs:=j' (show s<B.length by omega);have g:=j' (show t<B.length by omega);rw [hp1] at h ⊢;simp only [hs] at h;simp only [g];cases hq:Op.bytesLess (aT B[t].1).toList k1.toList with
    | false=>rfl
    | true=>rw [zI ha m hs g F k1 hq] at h;cases h
 have C2:Eq (∀w',Bl W w'→Calls Tryz.prog 184 #[iT n,.func (.func 187) #[] #[.pointer (some ⟨X+1,0,none⟩),.pointer (pT X)]] w' fun e D=>∃i:Nat,e=.returned (iT i)∧i≤n∧(∀t,t<i→A t=false)∧(∀t,i≤t→t<n→A t=true)∧Bl w' D):=fun w' k=>by
  refine Cx X (X+1) n A w' (by omega) (fun i O hi C=>?_) (fun s t F ht h=>?_)
  · obtain ⟨b,H,rfl,_⟩:=hB.form (by omega);have hr:=j' (show i<B.length by omega);have d:=k.trans (C.mono k.size);obtain ⟨_,E,hl2⟩:=eL (m _ (Hj (show i<B.length by omega)));have h:=Dd lo X (X+1) b H n c B k1 k2 i _ O ((hB.keep R).keep d) hr ⟨E,by omega⟩ (cell_later d x0) (cell_later d y0) (cell_later d y1);rw [f];simp only [hr];exact h
  · have hs:=j' (show s<B.length by omega);have g:=j' (show t<B.length by omega);rw [f] at h ⊢;simp only [hs] at h;simp only [g];exact Di ha m hs g F k2 h
 have HR:Eq (∀i j:Nat,i≤n→j≤n→(∀t,t<i→x t=false)→(∀t,i≤t→t<n→x t=true)→(∀t,t<j→A t=false)→(∀t,j≤t→t<n→A t=true)→gh B k1 k2 i j):=fun i j hi Y h1 h2 h3 h4=>by
  refine ⟨by omega,by omega,fun t r hr=>⟨fun h=>?_,fun h=>?_,fun h=>?_,fun h=>?_⟩⟩
  · have:=h1 t h;rw [hp1] at this;simp only [hr] at this;simpa using this
  · have:=h2 t h (by have:=(F'.1 hr).1;omega);rw [hp1] at this;simp only [hr] at this;simpa using this
  · have:=h3 t h;rw [f] at this;simp only [hr] at this;exact this
  · have:=h4 t h (by have:=(F'.1 hr).1;omega);rw [f] at this;simp only [hr] at this;exact this
 clear hp1 f hB R ha m hy y0 y1;have Z:=GK _ _ x0;simp only at Z;go_enter Tryz.func125,Tryz.ntmps125
 go_wp2_with fail
 rw [← T,← L];clear T L;refine (C1.o _ (Below.refl _ _)).mono ?_;rintro e w1 ⟨i,rfl,hi,J,I,y⟩;have I1:Eq (i≤n∧(∀t,t<i→x t=false)∧(∀t,i≤t→t<n→x t=true)):=⟨hi,J,I⟩;have U:Eq (Bl W w1):=y;have x0:=cell_later y x0;have Z:=E' Z y.size;clear y J I hi;go_wp2_with fail
 refine (C2.o _ U.o).mono ?_;rintro e O ⟨j,rfl,Y,K,Q,N⟩;have I2:Eq (gh B k1 k2 i j):=HR.o i j I1.o.1 Y I1.o.2.1 I1.o.2.2 K Q;have K2:Eq (Bl w O):=K0.o.trans ((U.o.trans (N.mono U.o.size)).mono K0.o.size);clear N K Q Y;go_wp2;exact bodyPost_ret (v:=.tuple #[iT i,iT j]) (by simp [results,Tryz.results125,go_sem]) rfl ⟨i,j,rfl,I2.o,K2.o⟩
theorem vC (q:Int) (m1:Option Addr) (L Q K I T:Nat) (k1:Option Addr) (N cs:Nat) (a2:Option Addr) (n2 c2:Nat) (C:List af) (A:Int) (b d n c:Nat) (B:List af) (y:af) (w:World) (hl2:w.cell? ⟨K,I+2,none⟩=some (.slice a2 n2 c2)) (hC:aw 0 w a2 n2 c2 C) (a1:n2≤1000) (f:∀r ∈ C,1≤r.1.length) (hB:aw 0 w (some ⟨b,d,none⟩) n c B) (h0:B[0]?=some y) (D:∀r ∈ B,1≤r.1.length) (hn:n≤1000) :
 Calls Tryz.prog 179 #[.agg #[iT q,.slice m1 L Q,sO K I 3 T,.slice k1 N cs],iT A,sO b d n c] w fun e w'=>e=.returned (.bool (decide (A=2) || decide ((C.filter (eG (fS (bj y.1) B) (dG (aT y.1) B))).length=0)))∧Bl w w':=by
 obtain ⟨X,Z⟩:=aG w.heap.size;obtain ⟨W,U⟩:=aG (w.alloc (.cells #[iT q,.slice m1 L Q,sO K I 3 T,.slice k1 N cs] 31));have Y:Bl w W:=by rw [U];exact bZ
 have bx:ay W X (iT q) (.slice m1 L Q) (sO K I 3 T) (.slice k1 N cs):=by rw [U,Z];exact ay.new _ _ _ _ _ _
 have K0:Eq (Bl w W):=Y;obtain ⟨g,t⟩:=aG (fS (bj y.1) B);obtain ⟨hi,u⟩:=aG (dG (aT y.1) B);have CR:Eq (Calls Tryz.prog 176 #[sO b d n c] W fun e w'=>e=.returned (.tuple #[.string g,.string hi])∧Bl W w'):=by rw [t,u];exact ol b d n c B y W (hB.keep Y) h0 D (by omega)
 have CP:Eq (∀w',Bl w w'→Calls Tryz.prog 177 #[.slice a2 n2 c2,.string g,.string hi] w' fun e s=>∃g1 n1 c1 g2 n2 c2,e=.returned (.tuple #[sL g1 n1 c1,sL g2 n2 c2])∧aw 0 s (pT g1) n1 c1 (C.filter (eG g hi))∧aw 0 s (pT g2) n2 c2 (C.filter (fun r=>!eG g hi r))∧Bl w' s):=fun w' k=>qp a2 n2 c2 C g hi w' (hC.keep k) f a1
 rw [← t,← u];obtain ⟨F,hF⟩:=aG ((decide (A=2) || decide ((C.filter (eG g hi)).length=0)));have HF:Eq (F=(decide (A=2) || decide ((C.filter (eG g hi)).length=0))):=hF;rw [← hF];have a0:=az hl2;clear hF t u Y hC f hB h0 D hl2;go_enter Tryz.func179,Tryz.ntmps179
 by_cases h2:A=2
 · subst h2;have kA:Eq (Bl w (w.alloc (.cells #[iT q,.slice m1 L Q,sO K I 3 T,.slice k1 N cs] 31))):=bZ;go_wp2;go_ret;exact ⟨by rw [HF.o];simp,kA.o⟩
 · have ak:(A == 2)=false:=by simpa using h2
   go_wp2_with fail
   rw [← U];clear U;refine CR.o.mono ?_;rintro e w1 ⟨rfl,x⟩;have O:Eq (Bl w w1):=K0.o.trans (x.mono K0.o.size);have m:=bx.keep x;have x2:=m.c2;have xz:=m.lt;have l2:=cell_later O.o a0.o;have lz:=GK _ _ l2;simp only at lz;rw [← Z];clear x bx m Z;go_wp2_with fail
   refine (CP.o _ O.o).mono ?_;rintro e w2 ⟨a5,R,c5,a6,n6,c6,rfl,H,_,J⟩;have K2:Eq (Bl w w2):=O.o.trans (J.mono O.o.size);have E:Eq ((C.filter (eG g hi)).length=R):=H.length;clear H J x2 xz l2 lz;by_cases h5:R=0
   · subst h5;go_wp2;go_ret;exact ⟨by rw [HF.o,E.o];simp,K2.o⟩
   · have a4:¬(R:Int)=0:=by omega
     have aj:((R:Int) == 0)=false:=by simpa using a4
     go_wp2;go_ret;exact ⟨by rw [HF.o,E.o];simp [h2,h5],K2.o⟩
theorem jF {w:World} {base g n c:Nat} {S:List Int} (h:w.ownsRow base 3 1 (sL g n c) n (S.map iT)) (hl:S.length=n) (hw:∀z ∈ S,(Lit.int .i64 z).wf=true):bJ base w (pT g) n c S:=by
 have b:=cC h;refine ⟨hl,b.1,b.2,hw,(fun e=>by cases e),?_,?_⟩
 · rintro x e _;cases e;exact ⟨(h.lt g rfl).2,rfl,(h.lt g rfl).1⟩
 · rintro x e i hi;cases e;simp only [GT];have h1:=h.cellAt i (by omega);rw [Iy,j' hi] at h1;exact h1
end Go.Proofs.YtpobkmjicbobdaaGreat
