/- Walks. -/
import Derived.Test.YtpobkmjicbobdaaGreatBl17
namespace Go.Proofs.YtpobkmjicbobdaaGreat
set_option maxRecDepth 100000
set_option maxHeartbeats 40000000
open Go.RowKit
def Cc (B:List an) (w:World) (e:Ending) (w':World):Prop:=∃g m c',e=.returned (sL g m c')∧bh w.heap.size w' g m c' B∧Bl w w'
theorem sI (b n c:Nat) (L:List ac) (w:World) (h:ag w (pT b) n c L) (aD:b<w.heap.size) (hn:n≤100000) :
 Calls Tryz.prog 181 #[sL b n c] w (Cc (eU L n).1 w):=by
 have HE:=bO h;have a8:CG (L.length=n):=h.length;have hroom:=h.room;obtain ⟨i0,hi,b6,aK,aM⟩:=info_parts Tryz.infoEnt;obtain ⟨j0,hj,aX,b1,aW⟩:=info_parts Tryz.infoRun;have aJ:CG (bh w.heap.size (w.alloc (.cells #[] 63)) w.heap.size 0 0 []):=by
  have:=Do (base:=w.heap.size) (e:=63) (size:=2) w #[] 0 (Cy _) (by simp) (by simp);exact ⟨rfl,fun p hp=>by simp at hp,_,this,fun i B hB=>by simp at hB⟩
 have K0:CG (Bl w (w.alloc (.cells #[] 63))):=bZ;clear h;go_enter Tryz.func181,Tryz.ntmps181
 go_wp2;go_loopw [3,4,5] (fun ov fv iv wr=>∃(i f g m c':Nat) (E:List an),1≤i∧i≤n+1∧iv=iT (i:Int)∧fv=iT (f:Int)∧f<i∧ov=sL g m c'∧m<i∧eU L (i - 1)=(E,f)∧bh w.heap.size wr g m c' E∧Bl w wr) (fun _ _ iv _=>n+1 - (intOf iv).toNat)
 case atStart=>exact ⟨1,0,_,0,0,[],Cy _,by omega,rfl,rfl,by omega,rfl,by omega,rfl,aJ.o,K0.o⟩
 case round =>
  clear aJ K0;obtain ⟨i,f,g,m,c',E,au,bA,rfl,rfl,bw,rfl,bB,hc,hr,hb⟩:=hrel;have HC:CG (eU L (i - 1)=(E,f)):=hc;have HR:CG (bh w.heap.size wr g m c' E):=hr;have HK:CG (Bl w wr):=hb;have zb:b<wr.heap.size:=l' aD hb.size;clear hc hr hb;by_cases bz:i≤n
  · have b5:(i:Int)≤(n:Int):=by omega
    by_cases ah:i=n
    · subst ah;have W:CG (fY L f i=true):=by show _=_;unfold fY;rw [a8.o];simp
      have F:Bl wr wr.drew:=(Below.refl _ wr).drew;have x:CG (∀w',Bl wr w'→(fun w'=>b<w'.heap.size) w'):=fun w' kk=>l' zb kk.size
      have r:CG (Bl w wr.drew):=HK.o.trans (F.mono HK.o.size);have y:CG (bh w.heap.size wr.drew g m c' E):=HR.o.below F;go_upto_region 6 with fail
      refine ez x F fun aa=>?_
      generalize wr.drew=C at F aa r y ⊢;refine aP 0 24 aa ?_;refine dN ?_;clear aa x F;obtain ⟨P,hP⟩:=aH ((L.drop f).take (i - f));have ay:CG (P=(L.drop f).take (i - f)):=hP;obtain ⟨np,N⟩:=aH (i - f);have O:CG (P.length=np):=by show _=_;rw [hP,N,C5,Dh,a8.o];omega
      obtain ⟨cp,a4⟩:=aH (c - f);have al:∀w',Bl w w'→ag w' (some ⟨b,f*5,none⟩) np cp P:=fun w' kk=>by rw [hP,N,a4];have:=(HE.o.keep kk).sub (i:=f) (j:=i) (by omega) (by omega);simpa using this
      have ab:CG (∀w',Bl w w'→ag w' (some ⟨b,f*5,none⟩) np cp P):=al;have bg:¬c=f:=by omega
      have aQ:(f:Int)≤(i:Int):=by omega
      have b2:(i:Int)≤(c:Int):=by omega
      have am:1≤np∧np≤1048576:=by omega
      have ka:Bl C (C.alloc (.cells #[] 50)):=bZ;have a7:CG (Bl w (C.alloc (.cells #[] 50))):=r.o.trans (ka.mono r.o.size);have ai:CG (af (C.alloc (.cells #[] 50)) C.heap.size C.heap.size 0 0 []):=bI C _ (Cy _);have aB:CG (bh w.heap.size (C.alloc (.cells #[] 50)) g m c' E):=y.o.below ka;have aG:CG (w.heap.size≤C.heap.size):=r.o.size;have aS:((i:Int) - (f:Int)).toNat=np:=by omega
      have aT:((c:Int) - (f:Int)).toNat=cp:=by omega
      have aR:i - f=np:=N.symm;have aY:c - f=cp:=a4.symm;have Y:CG (Bl C (C.alloc (.cells #[] 50))):=ka;clear ka hP al N a4;have aV:CG (1≤np∧np≤1048576):=am;go_wp2_with (at_builtin;refine wpList_append_own _ rfl _ _ 28 rfl C.heap.size 50 i0 _ 5 56 Tryz.underlying28 hi b6 aK aM rfl (by decide) _ _ _ rfl ai.o.owns ⟨b,f*5,none⟩ np cp (aC P) rfl (by rw [aU,O.o]) (oY (ab.o _ a7.o)) (aL _) (by unfold maxLen;omega) (by omega) (by simp) ?_;intro v2 w2 s D I;obtain ⟨J,c2,rfl⟩:=aF s I)
      simp only [C6] at s;have a0:CG (Bl C w2):=Y.o.grown D Y.o.size (fun k e=>by have h1:=CZ (show some C.heap.size=some k from e);omega);have a3:CG (Bl w w2):=r.o.trans (a0.o.mono r.o.size);have aj:CG (bh w.heap.size w2 g m c' E):=y.o.below a0.o;have a6:CG (af w2 w.heap.size J np c2 P):=af.mono ⟨s,O.o,(ab.o _ a7.o).ents⟩ aG.o;clear s D I Y a0 a7 ai aB y r;obtain ⟨mk,Z⟩:∃mk:Int,mk=((cV P:Nat):Int):=⟨_,rfl⟩;have x:CG (mk=((cV P:Nat):Int)):=Z;have CL:CG (Calls Tryz.prog 173 #[sL J np c2] w2 fun e w'=>e=.returned (.agg #[sL J np c2,iT mk])∧Bl w2 w'):=by rw [Z];exact nQ _ np c2 P w2 a6.o.entsAt
      clear Z;refine CL.o.mono ?_;rintro e Q ⟨rfl,T⟩;have ak:Bl Q (Q.alloc (.cells #[sL J np c2,iT mk] 63)):=bZ;have K:=T.trans (ak.mono T.size);have U:CG (Bl w (Q.alloc (.cells #[sL J np c2,iT mk] 63))):=a3.o.trans (K.mono a3.o.size);have az:CG (af (Q.alloc (.cells #[sL J np c2,iT mk] 63)) w.heap.size J np c2 P):=a6.o.below K;obtain ⟨r1,r2,xs,r3,r4⟩:=aj.o.below K;have ae:CG (E.length=m∧(∀p ∈ E,(Lit.int .i64 p.2).wf=true)):=⟨r1,r2⟩;have X:CG ((Q.alloc (.cells #[sL J np c2,iT mk] 63)).ownsRow w.heap.size 63 2 (sL g m c') m xs):=r3;have aw:CG (∀(i:Nat) (p:an),E[i]?=some p→∃e d,xs[i*2]?=some (sL e p.1.length d)∧xs[i*2+1]?=some (iT p.2)∧af (Q.alloc (.cells #[sL J np c2,iT mk] 63)) w.heap.size e p.1.length d p.1):=r4;have a9:=bH Q (sL J np c2) (iT mk) 63;have av:=bO a9;clear T ak K r1 r2 r3 r4 a9 CL a3 aj a6;go_wp2_with (at_builtin;refine wpList_append_own _ rfl _ _ 61 rfl w.heap.size 63 j0 _ 2 32 Tryz.underlying61 hj aX b1 aW rfl (by decide) _ _ _ rfl X.o ⟨Q.heap.size,0,none⟩ 1 1 [sL J np c2,iT mk] rfl rfl av.o (by intro u hu;simp at hu;rcases hu with rfl | rfl <;> rfl) (by unfold maxLen;omega) (by omega) U.o.size ?_;intro v5 w5 A t H;obtain ⟨g5,c5,rfl⟩:=aF A H)
      have aE:CG (bh w.heap.size w5 g5 (m+1) c5 (E++[(P,mk)])):=gk ae.o.1 ae.o.2 X.o aw.o (by rw [O.o];exact az.o) (by rw [x.o];exact vE _) t (by rw [O.o];exact A);have aA:CG (Bl w w5):=U.o.grown t U.o.size (fun k e=>(X.o.lt k e).1);clear A t H;go_roundw
      case rel=>exact ⟨i+1,i,g5,m+1,c5,E++[(P,mk)],by omega,by omega,by go_num,rfl,by omega,rfl,by omega,(by rw [DU,qG au HC.o W.o];unfold ep;rw [← ay.o,← x.o]),aE.o,aA.o⟩
      case measure=>first | (simp [intOf];omega) | (simp [intOf])
    · have ax:¬(i:Int)=(n:Int):=by omega
      have bs:((i:Int) == (n:Int))=false:=by simpa using ax
      have bp:IntKind.i64.wrap ((i:Int) - (f:Int))=(i:Int) - (f:Int):=by rw [Dg];unfold wrap64;omega
      by_cases aN:20≤i - f
      · have b9:(i:Int) - (f:Int) ≥ 20:=by omega
        have aO:(20:Int)≤(i:Int) - (f:Int):=by omega
        have bj:IntKind.i64.wrap ((i:Int) - 1)=(i:Int) - 1:=by rw [Dg];unfold wrap64;omega
        have bo:(i:Int)<(n:Int):=by omega
        have bm:(i:Int) - 1<(n:Int):=by omega
        have bk:(0:Int)≤(i:Int) - 1:=by omega
        have bq:(1:Int)≤(i:Int):=by omega
        have bC:((i:Int) - 1).toNat=i - 1:=by omega
        obtain ⟨s1,x1,x2,x3,x4,ap,_,q1,_⟩:=HE.o.ent HK.o aD i (by omega);obtain ⟨s0,y1,y2,y3,y4,aq,_,q0,_⟩:=HE.o.ent HK.o aD (i - 1) (by omega);simp only [C6] at q1 q0;by_cases R:s1=s0
        · have W:CG (fY L f i=false):=by show _=_;unfold fY;rw [a8.o,jF ap,jF aq,decide_eq_false ah];simp [R]
          have be:(s1.toList == s0.toList)=true:=by rw [R];simp
          clear ap aq R;have F:Bl wr wr.drew:=(Below.refl _ wr).drew;have x:CG (∀w',Bl wr w'→(fun w'=>w'.cell? ⟨b,i*5,none⟩=some (.string s1)∧w'.cell? ⟨b,(i - 1)*5,none⟩=some (.string s0)∧b<w'.heap.size) w'):=fun w' kk=>⟨cell_later kk q1,cell_later kk q0,l' zb kk.size⟩
          have r:CG (Bl w wr.drew):=HK.o.trans (F.mono HK.o.size);have y:CG (bh w.heap.size wr.drew g m c' E):=HR.o.below F;go_upto_region 6 with fail
          refine ez x F fun aa=>?_
          generalize wr.drew=C at F aa r y ⊢;refine aP 0 24 aa ?_;refine dN ?_;clear aa x F;go_wp2;go_roundw
          case rel=>exact ⟨i+1,f,g,m,c',E,by omega,by omega,by go_num,rfl,by omega,rfl,by omega,(by rw [DU];exact tF au HC.o W.o),y.o,r.o⟩
          case measure=>first | (simp [intOf];omega) | (simp [intOf])
        · have W:CG (fY L f i=true):=by show _=_;unfold fY;rw [a8.o,jF ap,jF aq];simp [R,aN]
          have be:(s1.toList == s0.toList)=false:=by rw [beq_eq_false_iff_ne];intro e;rw [Dp,Dp] at e;exact R (Ef (Ed.1 e))
          clear ap aq;have F:Bl wr wr.drew:=(Below.refl _ wr).drew;have x:CG (∀w',Bl wr w'→(fun w'=>w'.cell? ⟨b,i*5,none⟩=some (.string s1)∧w'.cell? ⟨b,(i - 1)*5,none⟩=some (.string s0)∧b<w'.heap.size) w'):=fun w' kk=>⟨cell_later kk q1,cell_later kk q0,l' zb kk.size⟩
          have r:CG (Bl w wr.drew):=HK.o.trans (F.mono HK.o.size);have y:CG (bh w.heap.size wr.drew g m c' E):=HR.o.below F;go_upto_region 6 with fail
          refine ez x F fun aa=>?_
          generalize wr.drew=C at F aa r y ⊢;refine aP 0 24 aa ?_;refine dN ?_;clear aa x F;obtain ⟨P,hP⟩:=aH ((L.drop f).take (i - f));have ay:CG (P=(L.drop f).take (i - f)):=hP;obtain ⟨np,N⟩:=aH (i - f);have O:CG (P.length=np):=by show _=_;rw [hP,N,C5,Dh,a8.o];omega
          obtain ⟨cp,a4⟩:=aH (c - f);have al:∀w',Bl w w'→ag w' (some ⟨b,f*5,none⟩) np cp P:=fun w' kk=>by rw [hP,N,a4];have:=(HE.o.keep kk).sub (i:=f) (j:=i) (by omega) (by omega);simpa using this
          have ab:CG (∀w',Bl w w'→ag w' (some ⟨b,f*5,none⟩) np cp P):=al;have bg:¬c=f:=by omega
          have aQ:(f:Int)≤(i:Int):=by omega
          have b2:(i:Int)≤(c:Int):=by omega
          have am:1≤np∧np≤1048576:=by omega
          have ka:Bl C (C.alloc (.cells #[] 50)):=bZ;have a7:CG (Bl w (C.alloc (.cells #[] 50))):=r.o.trans (ka.mono r.o.size);have ai:CG (af (C.alloc (.cells #[] 50)) C.heap.size C.heap.size 0 0 []):=bI C _ (Cy _);have aB:CG (bh w.heap.size (C.alloc (.cells #[] 50)) g m c' E):=y.o.below ka;have aG:CG (w.heap.size≤C.heap.size):=r.o.size;have aS:((i:Int) - (f:Int)).toNat=np:=by omega
          have aT:((c:Int) - (f:Int)).toNat=cp:=by omega
          have aR:i - f=np:=N.symm;have aY:c - f=cp:=a4.symm;have Y:CG (Bl C (C.alloc (.cells #[] 50))):=ka;clear ka hP al N a4;have aV:CG (1≤np∧np≤1048576):=am;go_wp2_with (at_builtin;refine wpList_append_own _ rfl _ _ 28 rfl C.heap.size 50 i0 _ 5 56 Tryz.underlying28 hi b6 aK aM rfl (by decide) _ _ _ rfl ai.o.owns ⟨b,f*5,none⟩ np cp (aC P) rfl (by rw [aU,O.o]) (oY (ab.o _ a7.o)) (aL _) (by unfold maxLen;omega) (by omega) (by simp) ?_;intro v2 w2 s D I;obtain ⟨J,c2,rfl⟩:=aF s I)
          simp only [C6] at s;have a0:CG (Bl C w2):=Y.o.grown D Y.o.size (fun k e=>by have h1:=CZ (show some C.heap.size=some k from e);omega);have a3:CG (Bl w w2):=r.o.trans (a0.o.mono r.o.size);have aj:CG (bh w.heap.size w2 g m c' E):=y.o.below a0.o;have a6:CG (af w2 w.heap.size J np c2 P):=af.mono ⟨s,O.o,(ab.o _ a7.o).ents⟩ aG.o;clear s D I Y a0 a7 ai aB y r;obtain ⟨mk,Z⟩:∃mk:Int,mk=((cV P:Nat):Int):=⟨_,rfl⟩;have x:CG (mk=((cV P:Nat):Int)):=Z;have CL:CG (Calls Tryz.prog 173 #[sL J np c2] w2 fun e w'=>e=.returned (.agg #[sL J np c2,iT mk])∧Bl w2 w'):=by rw [Z];exact nQ _ np c2 P w2 a6.o.entsAt
          clear Z;refine CL.o.mono ?_;rintro e Q ⟨rfl,T⟩;have ak:Bl Q (Q.alloc (.cells #[sL J np c2,iT mk] 63)):=bZ;have K:=T.trans (ak.mono T.size);have U:CG (Bl w (Q.alloc (.cells #[sL J np c2,iT mk] 63))):=a3.o.trans (K.mono a3.o.size);have az:CG (af (Q.alloc (.cells #[sL J np c2,iT mk] 63)) w.heap.size J np c2 P):=a6.o.below K;obtain ⟨r1,r2,xs,r3,r4⟩:=aj.o.below K;have ae:CG (E.length=m∧(∀p ∈ E,(Lit.int .i64 p.2).wf=true)):=⟨r1,r2⟩;have X:CG ((Q.alloc (.cells #[sL J np c2,iT mk] 63)).ownsRow w.heap.size 63 2 (sL g m c') m xs):=r3;have aw:CG (∀(i:Nat) (p:an),E[i]?=some p→∃e d,xs[i*2]?=some (sL e p.1.length d)∧xs[i*2+1]?=some (iT p.2)∧af (Q.alloc (.cells #[sL J np c2,iT mk] 63)) w.heap.size e p.1.length d p.1):=r4;have a9:=bH Q (sL J np c2) (iT mk) 63;have av:=bO a9;clear T ak K r1 r2 r3 r4 a9 CL a3 aj a6;go_wp2_with (at_builtin;refine wpList_append_own _ rfl _ _ 61 rfl w.heap.size 63 j0 _ 2 32 Tryz.underlying61 hj aX b1 aW rfl (by decide) _ _ _ rfl X.o ⟨Q.heap.size,0,none⟩ 1 1 [sL J np c2,iT mk] rfl rfl av.o (by intro u hu;simp at hu;rcases hu with rfl | rfl <;> rfl) (by unfold maxLen;omega) (by omega) U.o.size ?_;intro v5 w5 A t H;obtain ⟨g5,c5,rfl⟩:=aF A H)
          have aE:CG (bh w.heap.size w5 g5 (m+1) c5 (E++[(P,mk)])):=gk ae.o.1 ae.o.2 X.o aw.o (by rw [O.o];exact az.o) (by rw [x.o];exact vE _) t (by rw [O.o];exact A);have aA:CG (Bl w w5):=U.o.grown t U.o.size (fun k e=>(X.o.lt k e).1);clear A t H;go_roundw
          case rel=>exact ⟨i+1,i,g5,m+1,c5,E++[(P,mk)],by omega,by omega,by go_num,rfl,by omega,rfl,by omega,(by rw [DU,qG au HC.o W.o];unfold ep;rw [← ay.o,← x.o]),aE.o,aA.o⟩
          case measure=>first | (simp [intOf];omega) | (simp [intOf])
      · have b9:¬(i:Int) - (f:Int) ≥ 20:=by omega
        have aO:¬(20:Int)≤(i:Int) - (f:Int):=by omega
        have W:CG (fY L f i=false):=by show _=_;unfold fY;rw [a8.o,decide_eq_false ah,decide_eq_false aN];rfl
        have F:Bl wr wr.drew:=(Below.refl _ wr).drew;have x:CG (∀w',Bl wr w'→(fun w'=>b<w'.heap.size) w'):=fun w' kk=>l' zb kk.size
        have r:CG (Bl w wr.drew):=HK.o.trans (F.mono HK.o.size);have y:CG (bh w.heap.size wr.drew g m c' E):=HR.o.below F;go_upto_region 6 with fail
        refine ez x F fun aa=>?_
        generalize wr.drew=C at F aa r y ⊢;refine aP 0 24 aa ?_;refine dN ?_;clear aa x F;go_wp2;go_roundw
        case rel=>exact ⟨i+1,f,g,m,c',E,by omega,by omega,by go_num,rfl,by omega,rfl,by omega,(by rw [DU];exact tF au HC.o W.o),y.o,r.o⟩
        case measure=>first | (simp [intOf];omega) | (simp [intOf])
  · have b5:¬(i:Int)≤(n:Int):=by omega
    obtain rfl:i=n+1:=by omega
    have HF:CG ((eU L n).1=E):=by show _=_;have h:=HC.o;rw [DU] at h;rw [h]
    go_wp2;go_ret;exact (show Cc _ w _ _ from ⟨g,m,c',rfl,by rw [HF.o];exact HR.o,HK.o⟩)
theorem zc (lo I A b d n c:Nat) (B:List an) (k1 k2:ByteArray) (i:Nat) (r:an) (w:World) (hB:ay lo w (some ⟨b,d,none⟩) n c B) (hr:B[i]?=some r) (hl:1≤r.1.length∧r.1.length≤1048576) (h1:w.cell? ⟨I,0,none⟩=some (sO b d n c)) (h2:w.cell? ⟨A,0,none⟩=some (.string k1)) (h3:w.cell? ⟨A,1,none⟩=some (.string k2)) :
 Calls Tryz.prog 185 #[iT i,.pointer (pT I),.pointer (pT A)] w fun e w'=>e=.returned (.bool (!Op.bytesLess (aT r.1).toList k1.toList))∧Bl w w':=by
 have hi:=(Cx.1 hr).1;have a3:=hB.length;obtain ⟨L,m,s,ne,R,F,_,U,_,hE⟩:=hB.run (Below.refl _ w) i (by omega);rw [hr] at F;cases F;simp only at hl;obtain ⟨N,O,rfl,Z⟩:=hE.1.form (by have:=hE.1.length;have:=hl.1;omega);have T:1≤ne:=by have:=hE.1.length;have:=hl.1;omega
 have D:=(hB.lies _ rfl (by omega)).1;simp only at D;have X:ne≤1048576:=by have:=hE.1.length;have:=hl.2;omega
 have W:CG (∀w',Bl w w'→Calls Tryz.prog 126 #[sO N O ne R] w' fun r y=>r=.returned (.agg #[.string (bd L),.string (aT L)])∧Bl w' y):=fun w' k=>jG N O ne R L w' (hE.1.keep k) T
 have f:CG (∀w',Bl w w'→(fun w'=>w'.cell? ⟨I,0,none⟩=some (sO b d n c)∧w'.cell? ⟨A,0,none⟩=some (.string k1)∧w'.cell? ⟨A,1,none⟩=some (.string k2)∧w'.cell? ⟨b,d+i*2,none⟩=some (sO N O ne R)∧I<w'.heap.size∧A<w'.heap.size∧b<w'.heap.size) w'):=fun w' x=>⟨cell_later x h1,cell_later x h2,cell_later x h3,cell_later x U,l' (Cz _ _ h1) x.size,l' (Cz _ _ h2) x.size,l' D x.size⟩
 have H:Bl w w.drew:=(Below.refl _ w).drew;obtain ⟨lk,g⟩:=aH (bd L);obtain ⟨hk,t⟩:=aH (aT L);rw [← g,← t] at W;try rw [← g]
 try rw [← t]
 have CE:CG (∀w',Calls Tryz.prog 186 #[.agg #[.string lk,.string hk],.agg #[.string k1,.string k2]] w' fun e y=>e=.returned (.bool (Op.bytesLess hk.toList k1.toList))∧Bl w' y):=fun w'=>mh _ _ _ _ w'
 have Y:(i:Int)<(n:Int):=by omega
 clear g t hE hB hr hl h1 h2 h3 U;go_enter Tryz.func185,Tryz.ntmps185
 go_upto_region 1 with fail
 refine ez f H fun C=>?_
 refine aP 0 5 C ?_;refine aP 6 1 C ?_;refine aR 5 fun K hK=>?_
 go_simp;refine (W.o _ H).mono ?_;rintro e w1 ⟨rfl,Q⟩;have u:Bl w w1:=H.trans (Q.mono H.size);go_wp2_with fail
 refine hK.o _ _ (f.o _ u) fun C=>?_
 (try go_frame);refine aR 7 fun K hK=>?_
 go_simp;refine (CE.o _).mono ?_;rintro e w2 ⟨rfl,J⟩;have E:Bl w w2:=u.trans (J.mono u.size);go_wp2_with fail
 refine hK.o _ _ (f.o _ E) fun C=>?_
 (try go_frame);refine aP 8 2 C ?_;refine dN ?_;clear C f;go_wp2;go_ret;exact ⟨by first | rfl | simp,E⟩
theorem za (lo I A b d n c:Nat) (B:List an) (k1 k2:ByteArray) (i:Nat) (r:an) (w:World) (hB:ay lo w (some ⟨b,d,none⟩) n c B) (hr:B[i]?=some r) (hl:1≤r.1.length∧r.1.length≤1048576) (h1:w.cell? ⟨I,0,none⟩=some (sO b d n c)) (h2:w.cell? ⟨A,0,none⟩=some (.string k1)) (h3:w.cell? ⟨A,1,none⟩=some (.string k2)) :
 Calls Tryz.prog 187 #[iT i,.pointer (pT A),.pointer (pT I)] w fun e w'=>e=.returned (.bool (Op.bytesLess k2.toList (bd r.1).toList))∧Bl w w':=by
 have hi:=(Cx.1 hr).1;have a3:=hB.length;obtain ⟨L,m,s,ne,R,F,_,U,_,hE⟩:=hB.run (Below.refl _ w) i (by omega);rw [hr] at F;cases F;simp only at hl;obtain ⟨N,O,rfl,a0⟩:=hE.1.form (by have:=hE.1.length;have:=hl.1;omega);have T:1≤ne:=by have:=hE.1.length;have:=hl.1;omega
 have D:=(hB.lies _ rfl (by omega)).1;simp only at D;have Y:ne≤1048576:=by have:=hE.1.length;have:=hl.2;omega
 have W:CG (∀w',Bl w w'→Calls Tryz.prog 126 #[sO N O ne R] w' fun r y=>r=.returned (.agg #[.string (bd L),.string (aT L)])∧Bl w' y):=fun w' k=>jG N O ne R L w' (hE.1.keep k) T
 have f:CG (∀w',Bl w w'→(fun w'=>w'.cell? ⟨I,0,none⟩=some (sO b d n c)∧w'.cell? ⟨A,0,none⟩=some (.string k1)∧w'.cell? ⟨A,1,none⟩=some (.string k2)∧w'.cell? ⟨b,d+i*2,none⟩=some (sO N O ne R)∧I<w'.heap.size∧A<w'.heap.size∧b<w'.heap.size) w'):=fun w' x=>⟨cell_later x h1,cell_later x h2,cell_later x h3,cell_later x U,l' (Cz _ _ h1) x.size,l' (Cz _ _ h2) x.size,l' D x.size⟩
 have H:Bl w w.drew:=(Below.refl _ w).drew;obtain ⟨X,g⟩:=aH (bd L);obtain ⟨hk,t⟩:=aH (aT L);rw [← g,← t] at W;try rw [← g]
 try rw [← t]
 have CE:CG (∀w',Calls Tryz.prog 186 #[.agg #[.string k1,.string k2],.agg #[.string X,.string hk]] w' fun e y=>e=.returned (.bool (Op.bytesLess k2.toList X.toList))∧Bl w' y):=fun w'=>mh _ _ _ _ w'
 have Z:(i:Int)<(n:Int):=by omega
 clear g t hE hB hr hl h1 h2 h3 U;go_enter Tryz.func187,Tryz.ntmps187
 go_upto_region 1 with fail
 refine ez f H fun C=>?_
 refine aP 0 6 C ?_;refine aR 6 fun K hK=>?_
 go_simp;refine (W.o _ H).mono ?_;rintro e w1 ⟨rfl,Q⟩;have u:Bl w w1:=H.trans (Q.mono H.size);go_wp2_with fail
 refine hK.o _ _ (f.o _ u) fun C=>?_
 (try go_frame);refine aR 7 fun K hK=>?_
 go_simp;refine (CE.o _).mono ?_;rintro e w2 ⟨rfl,J⟩;have E:Bl w w2:=u.trans (J.mono u.size);go_wp2_with fail
 refine hK.o _ _ (f.o _ E) fun C=>?_
 (try go_frame);refine aP 8 1 C ?_;refine dN ?_;clear C f;go_wp2;go_ret;exact ⟨by first | rfl | simp,E⟩
theorem yP (H D n:Nat) (p:Nat→Bool) (w:World) (hn:n≤1048576) (hC:∀i w',i<n→Bl w w'→Calls Tryz.prog 185 #[iT i,.pointer (pT H),.pointer (pT D)] w' fun e d=>e=.returned (.bool (p i))∧Bl w' d) (hm:∀a b,a≤b→b<n→p a=true→p b=true) :
 Calls Tryz.prog 184 #[iT n,.func (.func 185) #[] #[.pointer (pT H),.pointer (pT D)]] w fun e w'=>∃i:Nat,e=.returned (iT i)∧i≤n∧(∀t,t<i→p t=false)∧(∀t,i≤t→t<n→p t=true)∧Bl w w':=by
 have T:=bO hC;have I:=bO hm;clear hC hm;go_enter Tryz.func184,Tryz.ntmps184
 go_wp2;go_loopw [5,6] (fun E hv wr=>∃(a b:Nat),a≤b∧b≤n∧E=iT a∧hv=iT b∧(∀t,t<a→p t=false)∧(∀t,b≤t→t<n→p t=true)∧Bl w wr) (fun E hv _=>(intOf hv).toNat - (intOf E).toNat)
 case atStart=>exact ⟨0,n,C3 _,Cy _,rfl,rfl,(fun t J=>absurd J (DP _)),(fun t h1 h2=>by omega),Below.refl _ _⟩
 case round =>
  obtain ⟨a,b,L,f,rfl,rfl,g,y,hb⟩:=hrel;have m:CG (∀t,t<a→p t=false):=g;have r:CG (∀t,b≤t→t<n→p t=true):=y;have A:CG (Bl w wr):=hb;clear g y hb;by_cases Q:a<b
  · have s:(a:Int)<(b:Int):=by omega
    obtain ⟨h,hh⟩:=aH ((a+b) / 2);have F:a≤h:=by omega
    have K:h<b:=by omega
    have C:((a:Int)+(b:Int)) / 2=(h:Int):=by omega
    have R:CG (Calls Tryz.prog 185 #[iT h,.pointer (pT H),.pointer (pT D)] wr fun e d=>e=.returned (.bool (p h))∧Bl wr d):=T.o h wr (by omega) A.o;have O:CG (h=(a+b) / 2):=hh;clear hh;go_wp2_with fail
    try rw [C]
    refine R.o.mono ?_;rintro e N ⟨rfl,u⟩;have x:CG (Bl w N):=A.o.trans (u.mono A.o.size);clear u;cases hp:p h with
    | false =>
     have B:CG (p h=false):=hp;clear hp;go_wp2;go_roundw
     case rel =>
      refine ⟨h+1,b,by omega,f,by go_num,rfl,fun t J=>?_,r.o,x.o⟩;cases hq:p t with
      | false=>rfl
      | true=>have:=I.o t h (by omega) (by omega) hq;rw [B.o] at this;cases this
     case measure=>simp [intOf];omega
    | true =>
     have B:CG (p h=true):=hp;clear hp;go_wp2;go_roundw
     case rel =>
      refine ⟨a,h,F,by omega,rfl,by go_num,m.o,fun t h1 h2=>I.o h t h1 h2 B.o,x.o⟩
     case measure=>simp [intOf];omega
  · have s:¬(a:Int)<(b:Int):=by omega
    obtain rfl:a=b:=by omega
    go_wp2;go_ret;exact ⟨a,rfl,f,m.o,r.o,A.o⟩
theorem yO (H D n:Nat) (p:Nat→Bool) (w:World) (hn:n≤1048576) (hC:∀i w',i<n→Bl w w'→Calls Tryz.prog 187 #[iT i,.pointer (pT D),.pointer (pT H)] w' fun e d=>e=.returned (.bool (p i))∧Bl w' d) (hm:∀a b,a≤b→b<n→p a=true→p b=true) :
 Calls Tryz.prog 184 #[iT n,.func (.func 187) #[] #[.pointer (pT D),.pointer (pT H)]] w fun e w'=>∃i:Nat,e=.returned (iT i)∧i≤n∧(∀t,t<i→p t=false)∧(∀t,i≤t→t<n→p t=true)∧Bl w w':=by
 have T:=bO hC;have I:=bO hm;clear hC hm;go_enter Tryz.func184,Tryz.ntmps184
 go_wp2;go_loopw [5,6] (fun E hv wr=>∃(a b:Nat),a≤b∧b≤n∧E=iT a∧hv=iT b∧(∀t,t<a→p t=false)∧(∀t,b≤t→t<n→p t=true)∧Bl w wr) (fun E hv _=>(intOf hv).toNat - (intOf E).toNat)
 case atStart=>exact ⟨0,n,C3 _,Cy _,rfl,rfl,(fun t J=>absurd J (DP _)),(fun t h1 h2=>by omega),Below.refl _ _⟩
 case round =>
  obtain ⟨a,b,L,f,rfl,rfl,g,y,hb⟩:=hrel;have m:CG (∀t,t<a→p t=false):=g;have r:CG (∀t,b≤t→t<n→p t=true):=y;have A:CG (Bl w wr):=hb;clear g y hb;by_cases Q:a<b
  · have s:(a:Int)<(b:Int):=by omega
    obtain ⟨h,hh⟩:=aH ((a+b) / 2);have F:a≤h:=by omega
    have K:h<b:=by omega
    have C:((a:Int)+(b:Int)) / 2=(h:Int):=by omega
    have R:CG (Calls Tryz.prog 187 #[iT h,.pointer (pT D),.pointer (pT H)] wr fun e d=>e=.returned (.bool (p h))∧Bl wr d):=T.o h wr (by omega) A.o;have O:CG (h=(a+b) / 2):=hh;clear hh;go_wp2_with fail
    try rw [C]
    refine R.o.mono ?_;rintro e N ⟨rfl,u⟩;have x:CG (Bl w N):=A.o.trans (u.mono A.o.size);clear u;cases hp:p h with
    | false =>
     have B:CG (p h=false):=hp;clear hp;go_wp2;go_roundw
     case rel =>
      refine ⟨h+1,b,by omega,f,by go_num,rfl,fun t J=>?_,r.o,x.o⟩;cases hq:p t with
      | false=>rfl
      | true=>have:=I.o t h (by omega) (by omega) hq;rw [B.o] at this;cases this
     case measure=>simp [intOf];omega
    | true =>
     have B:CG (p h=true):=hp;clear hp;go_wp2;go_roundw
     case rel =>
      refine ⟨a,h,F,by omega,rfl,by go_num,m.o,fun t h1 h2=>I.o h t h1 h2 B.o,x.o⟩
     case measure=>simp [intOf];omega
  · have s:¬(a:Int)<(b:Int):=by omega
    obtain rfl:a=b:=by omega
    go_wp2;go_ret;exact ⟨a,rfl,f,m.o,r.o,A.o⟩
theorem mI (lo:Nat) (a:Option Addr) (n c:Nat) (B:List an) (k1 k2:ByteArray) (w:World) (hB:ay lo w a n c B) (hn:n≤1000) (ha:bg B=true) (f:∀r ∈ B,ch r.1 r.2=true) :
 Calls Tryz.prog 125 #[.slice a n c,.agg #[.string k1,.string k2]] w fun e w'=>∃i j:Nat,e=.returned (.tuple #[iT i,iT j])∧fC B k1 k2 i j∧Bl w w':=by
 have ab:=hB.length;obtain ⟨X,U⟩:=aH w.heap.size;obtain ⟨W,L⟩:=aH ((w.alloc (.cells #[.slice a n c] 61)).alloc (.cells #[.string k1,.string k2] 135));have T:Bl w W:=by rw [L];exact bZ.alloc (by simp) _
 have x0:W.cell? ⟨X,0,none⟩=some (.slice a n c):=by rw [L,U];exact cell_later bZ (by have:=dV w (.slice a n c) 61 0 _ rfl;rwa [De] at this)
 have hy:∀j u,[Value.string k1,Value.string k2][j]?=some u→W.cell? ⟨X+1,j,none⟩=some u:=fun j u hu=>by
  have h1:=bH (w.alloc (.cells #[.slice a n c] 61)) (.string k1) (.string k2) 135 j u hu;rw [De,C6,Dc,← L,← U] at h1;exact h1
 have y0:=hy 0 _ rfl;have y1:=hy 1 _ rfl;have K0:CG (Bl w W):=T;obtain ⟨y,g⟩:∃y:Nat→Bool,y=fun t=>match B[t]? with | some r=>!Op.bytesLess (aT r.1).toList k1.toList | none=>true:=⟨_,rfl⟩
 obtain ⟨H,m⟩:∃H:Nat→Bool,H=fun t=>match B[t]? with | some r=>Op.bytesLess k2.toList (bd r.1).toList | none=>true:=⟨_,rfl⟩
 have C1:CG (∀w',Bl W w'→Calls Tryz.prog 184 #[iT n,.func (.func 185) #[] #[.pointer (pT X),.pointer (some ⟨X+1,0,none⟩)]] w' fun e F=>∃i:Nat,e=.returned (iT i)∧i≤n∧(∀t,t<i→y t=false)∧(∀t,i≤t→t<n→y t=true)∧Bl w' F):=fun w' k=>by
  refine yP X (X+1) n y w' (by omega) (fun i K hi C=>?_) (fun s t E ht h=>?_)
  · obtain ⟨b,D,rfl,_⟩:=hB.form (by omega);have hr:=j' (show i<B.length by omega);have d:=k.trans (C.mono k.size);obtain ⟨_,I,a0⟩:=dL (f _ (Dq (show i<B.length by omega)));have h:=zc lo X (X+1) b D n c B k1 k2 i _ K ((hB.keep T).keep d) hr ⟨I,by omega⟩ (cell_later d x0) (cell_later d y0) (cell_later d y1);rw [g];simp only [hr];exact h
  · have hs:=j' (show s<B.length by omega);have x:=j' (show t<B.length by omega);rw [g] at h ⊢;simp only [hs] at h;simp only [x];cases hq:Op.bytesLess (aT B[t].1).toList k1.toList with
    | false=>rfl
    | true=>rw [vK ha f hs x E k1 hq] at h;cases h
 have C2:CG (∀w',Bl W w'→Calls Tryz.prog 184 #[iT n,.func (.func 187) #[] #[.pointer (some ⟨X+1,0,none⟩),.pointer (pT X)]] w' fun e F=>∃i:Nat,e=.returned (iT i)∧i≤n∧(∀t,t<i→H t=false)∧(∀t,i≤t→t<n→H t=true)∧Bl w' F):=fun w' k=>by
  refine yO X (X+1) n H w' (by omega) (fun i K hi C=>?_) (fun s t E ht h=>?_)
  · obtain ⟨b,D,rfl,_⟩:=hB.form (by omega);have hr:=j' (show i<B.length by omega);have d:=k.trans (C.mono k.size);obtain ⟨_,I,a0⟩:=dL (f _ (Dq (show i<B.length by omega)));have h:=za lo X (X+1) b D n c B k1 k2 i _ K ((hB.keep T).keep d) hr ⟨I,by omega⟩ (cell_later d x0) (cell_later d y0) (cell_later d y1);rw [m];simp only [hr];exact h
  · have hs:=j' (show s<B.length by omega);have x:=j' (show t<B.length by omega);rw [m] at h ⊢;simp only [hs] at h;simp only [x];exact zf ha f hs x E k2 h
 have HR:CG (∀i j:Nat,i≤n→j≤n→(∀t,t<i→y t=false)→(∀t,i≤t→t<n→y t=true)→(∀t,t<j→H t=false)→(∀t,j≤t→t<n→H t=true)→fC B k1 k2 i j):=fun i j hi hj h1 h2 h3 h4=>by
  refine ⟨by omega,by omega,fun t r hr=>⟨fun h=>?_,fun h=>?_,fun h=>?_,fun h=>?_⟩⟩
  · have:=h1 t h;rw [g] at this;simp only [hr] at this;simpa using this
  · have:=h2 t h (by have:=(Cx.1 hr).1;omega);rw [g] at this;simp only [hr] at this;simpa using this
  · have:=h3 t h;rw [m] at this;simp only [hr] at this;exact this
  · have:=h4 t h (by have:=(Cx.1 hr).1;omega);rw [m] at this;simp only [hr] at this;exact this
 clear g m hB T ha f hy y0 y1;have xz:=Cz _ _ x0;simp only at xz;go_enter Tryz.func125,Tryz.ntmps125
 go_wp2_with fail
 rw [← U,← L];clear U L;refine (C1.o _ (Below.refl _ _)).mono ?_;rintro e w1 ⟨i,rfl,hi,R,N,A⟩;have Y:CG (i≤n∧(∀t,t<i→y t=false)∧(∀t,i≤t→t<n→y t=true)):=⟨hi,R,N⟩;have Z:CG (Bl W w1):=A;have x0:=cell_later A x0;have xz:=l' xz A.size;clear A R N hi;go_wp2_with fail
 refine (C2.o _ Z.o).mono ?_;rintro e K ⟨j,rfl,hj,Q,O,J⟩;have I2:CG (fC B k1 k2 i j):=HR.o i j Y.o.1 hj Y.o.2.1 Y.o.2.2 Q O;have K2:CG (Bl w K):=K0.o.trans ((Z.o.trans (J.mono Z.o.size)).mono K0.o.size);clear J Q O hj;go_wp2;exact bodyPost_ret (v:=.tuple #[iT i,iT j]) (by simp [results,Tryz.results125,go_sem]) rfl ⟨i,j,rfl,I2.o,K2.o⟩
theorem sK (q:Int) (m1:Option Addr) (U Q K I Y:Nat) (k1:Option Addr) (N cs:Nat) (a2:Option Addr) (n2 c2:Nat) (C:List an) (y:Int) (b d n c:Nat) (B:List an) (A:an) (w:World) (E:w.cell? ⟨K,I+2,none⟩=some (.slice a2 n2 c2)) (hC:ay 0 w a2 n2 c2 C) (a3:n2≤1000) (f:∀r ∈ C,1≤r.1.length) (hB:ay 0 w (some ⟨b,d,none⟩) n c B) (h0:B[0]?=some A) (L:∀r ∈ B,1≤r.1.length) (hn:n≤1000) :
 Calls Tryz.prog 179 #[.agg #[iT q,.slice m1 U Q,sO K I 3 Y,.slice k1 N cs],iT y,sO b d n c] w fun e w'=>e=.returned (.bool (decide (y=2) || decide ((C.filter (dX (fh (bd A.1) B) (cW (aT A.1) B))).length=0)))∧Bl w w':=by
 obtain ⟨X,hX⟩:=aH w.heap.size;obtain ⟨W,O⟩:=aH (w.alloc (.cells #[iT q,.slice m1 U Q,sO K I 3 Y,.slice k1 N cs] 31));have kW:Bl w W:=by rw [O];exact bZ
 have bx:az W X (iT q) (.slice m1 U Q) (sO K I 3 Y) (.slice k1 N cs):=by rw [O,hX];exact az.new _ _ _ _ _ _
 have K0:CG (Bl w W):=kW;obtain ⟨g,m⟩:=aH (fh (bd A.1) B);obtain ⟨hi,x⟩:=aH (cW (aT A.1) B);have CR:CG (Calls Tryz.prog 176 #[sO b d n c] W fun e w'=>e=.returned (.tuple #[.string g,.string hi])∧Bl W w'):=by rw [m,x];exact lU b d n c B A W (hB.keep kW) h0 L (by omega)
 have CP:CG (∀w',Bl w w'→Calls Tryz.prog 177 #[.slice a2 n2 c2,.string g,.string hi] w' fun e s=>∃g1 n1 c1 g2 n2 c2,e=.returned (.tuple #[sL g1 n1 c1,sL g2 n2 c2])∧ay 0 s (pT g1) n1 c1 (C.filter (dX g hi))∧ay 0 s (pT g2) n2 c2 (C.filter (fun r=>!dX g hi r))∧Bl w' s):=fun w' k=>nR a2 n2 c2 C g hi w' (hC.keep k) f a3
 rw [← m,← x];obtain ⟨F,hF⟩:=aH ((decide (y=2) || decide ((C.filter (dX g hi)).length=0)));have HF:CG (F=(decide (y=2) || decide ((C.filter (dX g hi)).length=0))):=hF;rw [← hF];have a4:=bO E;clear hF m x kW hC f hB h0 L E;go_enter Tryz.func179,Tryz.ntmps179
 by_cases h2:y=2
 · subst h2;have kA:CG (Bl w (w.alloc (.cells #[iT q,.slice m1 U Q,sO K I 3 Y,.slice k1 N cs] 31))):=bZ;go_wp2;go_ret;exact ⟨by rw [HF.o];simp,kA.o⟩
 · have ao:(y == 2)=false:=by simpa using h2
   go_wp2_with fail
   rw [← O];clear O;refine CR.o.mono ?_;rintro e w1 ⟨rfl,u⟩;have T:CG (Bl w w1):=K0.o.trans (u.mono K0.o.size);have t:=bx.keep u;have x2:=t.c2;have xz:=t.lt;have l2:=cell_later T.o a4.o;have lz:=Cz _ _ l2;simp only at lz;rw [← hX];clear u bx t hX;go_wp2_with fail
   refine (CP.o _ T.o).mono ?_;rintro e w2 ⟨a5,R,c5,a6,n6,c6,rfl,H,_,D⟩;have K2:CG (Bl w w2):=T.o.trans (D.mono T.o.size);have J:CG ((C.filter (dX g hi)).length=R):=H.length;clear H D x2 xz l2 lz;by_cases h5:R=0
   · subst h5;go_wp2;go_ret;exact ⟨by rw [HF.o,J.o];simp,K2.o⟩
   · have Z:¬(R:Int)=0:=by omega
     have al:((R:Int) == 0)=false:=by simpa using Z
     go_wp2;go_ret;exact ⟨by rw [HF.o,J.o];simp [h2,h5],K2.o⟩
theorem iH {w:World} {base g n c:Nat} {S:List Int} (h:w.ownsRow base 3 1 (sL g n c) n (S.map iT)) (hl:S.length=n) (hw:∀z ∈ S,(Lit.int .i64 z).wf=true):bQ base w (pT g) n c S:=by
 have b:=cQ h;refine ⟨hl,b.1,b.2,hw,(fun e=>by cases e),?_,?_⟩
 · rintro x e _;cases e;exact ⟨(h.lt g rfl).2,rfl,(h.lt g rfl).1⟩
 · rintro x e i hi;cases e;simp only [C6];have h1:=h.cellAt i (by omega);rw [EK,j' hi] at h1;exact h1
end Go.Proofs.YtpobkmjicbobdaaGreat
