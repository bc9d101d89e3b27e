/- Walks. -/
import Derived.Test.YtpobkmjicbobdaaGreatBc15
namespace Go.Proofs.YtpobkmjicbobdaaGreat
set_option maxRecDepth 100000
set_option maxHeartbeats 40000000
open Go.RowKit
def E6 (B:List aj) (w:World) (e:Ending) (w':World):Prop:=∃g m c',e=.returned (sL g m c')∧bw w.heap.size w' g m c' B∧Bl w w'
theorem uv (b n c:Nat) (L:List ae) (w:World) (h:ah w (pT b) n c L) (aA:b<w.heap.size) (hn:n≤100000) :
 Calls Tryz.prog 181 #[sL b n c] w (E6 (fl L n).1 w):=by
 have HE:=bT h;have a7:Eq (L.length=n):=h.length;have hroom:=h.room;obtain ⟨i0,hi,aZ,aY,b9⟩:=info_parts Tryz.infoEnt;obtain ⟨j0,hj,aF,b1,aN⟩:=info_parts Tryz.infoRun;have b8:Eq (bw w.heap.size (w.alloc (.cells #[] 63)) w.heap.size 0 0 []):=by
  have:=F6 (base:=w.heap.size) (e:=63) (size:=2) w #[] 0 (Fv _) (by simp) (by simp);exact ⟨rfl,fun p hp=>by simp at hp,_,this,fun i B hB=>by simp at hB⟩
 have K0:Eq (Bl w (w.alloc (.cells #[] 63))):=bZ;clear h;go_enter Tryz.func181,Tryz.ntmps181
 go_wp2;go_loopw [3,4,5] (fun ov fv iv wr=>∃(i f g m c':Nat) (E:List aj),1≤i∧i≤n+1∧iv=iT (i:Int)∧fv=iT (f:Int)∧f<i∧ov=sL g m c'∧m<i∧fl L (i - 1)=(E,f)∧bw w.heap.size wr g m c' E∧Bl w wr) (fun _ _ iv _=>n+1 - (intOf iv).toNat)
 case atStart=>exact ⟨1,0,_,0,0,[],Fv _,by omega,rfl,rfl,by omega,rfl,by omega,rfl,b8.o,K0.o⟩
 case round =>
  clear b8 K0;obtain ⟨i,f,g,m,c',E,ar,bs,rfl,rfl,bB,rfl,bv,hc,hr,hb⟩:=hrel;have HC:Eq (fl L (i - 1)=(E,f)):=hc;have HR:Eq (bw w.heap.size wr g m c' E):=hr;have HK:Eq (Bl w wr):=hb;have zb:b<wr.heap.size:=u' aA hb.size;clear hc hr hb;by_cases bu:i≤n
  · have b2:(i:Int)≤(n:Int):=by omega
    by_cases ad:i=n
    · subst ad;have a0:Eq (gP L f i=true):=by show _=_;unfold gP;rw [a7.o];simp
      have F:Bl wr wr.drew:=(Below.refl _ wr).drew;have x:Eq (∀w',Bl wr w'→(fun w'=>b<w'.heap.size) w'):=fun w' U=>u' zb U.size
      have r:Eq (Bl w wr.drew):=HK.o.trans (F.mono HK.o.size);have C:Eq (bw w.heap.size wr.drew g m c' E):=HR.o.below F;go_upto_region 6 with fail
      refine eJ x F fun ac=>?_
      generalize wr.drew=y at F ac r C ⊢;refine aP 0 24 ac ?_;refine dN ?_;clear ac x F;obtain ⟨P,hP⟩:=aG ((L.drop f).take (i - f));have az:Eq (P=(L.drop f).take (i - f)):=hP;obtain ⟨np,N⟩:=aG (i - f);have O:Eq (P.length=np):=by show _=_;rw [hP,N,FC,FN,a7.o];omega
      obtain ⟨cp,a2⟩:=aG (c - f);have a8:∀w',Bl w w'→ah w' (some ⟨b,f*5,none⟩) np cp P:=fun w' U=>by rw [hP,N,a2];have:=(HE.o.keep U).sub (i:=f) (j:=i) (by omega) (by omega);simpa using this
      have ai:Eq (∀w',Bl w w'→ah w' (some ⟨b,f*5,none⟩) np cp P):=a8;have be:¬c=f:=by omega
      have aL:(f:Int)≤(i:Int):=by omega
      have b5:(i:Int)≤(c:Int):=by omega
      have a9:1≤np∧np≤1048576:=by omega
      have ka:Bl y (y.alloc (.cells #[] 50)):=bZ;have X:Eq (Bl w (y.alloc (.cells #[] 50))):=r.o.trans (ka.mono r.o.size);have al:Eq (ag (y.alloc (.cells #[] 50)) y.heap.size y.heap.size 0 0 []):=bV y _ (Fv _);have aD:Eq (bw w.heap.size (y.alloc (.cells #[] 50)) g m c' E):=C.o.below ka;have ax:Eq (w.heap.size≤y.heap.size):=r.o.size;have aT:((i:Int) - (f:Int)).toNat=np:=by omega
      have ba:((c:Int) - (f:Int)).toNat=cp:=by omega
      have aK:i - f=np:=N.symm;have aU:c - f=cp:=a2.symm;have a1:Eq (Bl y (y.alloc (.cells #[] 50))):=ka;clear ka hP a8 N a2;have b6:Eq (1≤np∧np≤1048576):=a9;go_wp2_with (at_builtin;refine wpList_append_own _ rfl _ _ 28 rfl y.heap.size 50 i0 _ 5 56 Tryz.underlying28 hi aZ aY b9 rfl (by decide) _ _ _ rfl al.o.owns ⟨b,f*5,none⟩ np cp (aC P) rfl (by rw [aV,O.o]) (qu (ai.o _ X.o)) (aO _) (by unfold maxLen;omega) (by omega) (by simp) ?_;intro v2 Z t D H;obtain ⟨I,c2,rfl⟩:=aH t H)
      simp only [FG] at t;have W:Eq (Bl y Z):=a1.o.grown D a1.o.size (fun k e=>by have h1:=Fx (show some y.heap.size=some k from e);omega);have a6:Eq (Bl w Z):=r.o.trans (W.o.mono r.o.size);have af:Eq (bw w.heap.size Z g m c' E):=C.o.below W.o;have a3:Eq (ag Z w.heap.size I np c2 P):=ag.mono ⟨t,O.o,(ai.o _ X.o).ents⟩ ax.o;clear t D H a1 W X al aD C r;obtain ⟨mk,hmk⟩:∃mk:Int,mk=((du P:Nat):Int):=⟨_,rfl⟩;have x:Eq (mk=((du P:Nat):Int)):=hmk;have CL:Eq (Calls Tryz.prog 173 #[sL I np c2] Z fun e w'=>e=.returned (.agg #[sL I np c2,iT mk])∧Bl Z w'):=by rw [hmk];exact pp _ np c2 P Z a3.o.entsAt
      clear hmk;refine CL.o.mono ?_;rintro e R ⟨rfl,T⟩;have am:Bl R (R.alloc (.cells #[sL I np c2,iT mk] 63)):=bZ;have K:=T.trans (am.mono T.size);have Y:Eq (Bl w (R.alloc (.cells #[sL I np c2,iT mk] 63))):=a6.o.trans (K.mono a6.o.size);have aB:Eq (ag (R.alloc (.cells #[sL I np c2,iT mk] 63)) w.heap.size I np c2 P):=a3.o.below K;obtain ⟨r1,r2,xs,r3,r4⟩:=af.o.below K;have ab:Eq (E.length=m∧(∀p ∈ E,(Lit.int .i64 p.2).wf=true)):=⟨r1,r2⟩;have a4:Eq ((R.alloc (.cells #[sL I np c2,iT mk] 63)).ownsRow w.heap.size 63 2 (sL g m c') m xs):=r3;have ay:Eq (∀(i:Nat) (p:aj),E[i]?=some p→∃e d,xs[i*2]?=some (sL e p.1.length d)∧xs[i*2+1]?=some (iT p.2)∧ag (R.alloc (.cells #[sL I np c2,iT mk] 63)) w.heap.size e p.1.length d p.1):=r4;have ak:=bW R (sL I np c2) (iT mk) 63;have aw:=bT ak;clear T am K r1 r2 r3 r4 ak CL a6 af a3;go_wp2_with (at_builtin;refine wpList_append_own _ rfl _ _ 61 rfl w.heap.size 63 j0 _ 2 32 Tryz.underlying61 hj aF b1 aN rfl (by decide) _ _ _ rfl a4.o ⟨R.heap.size,0,none⟩ 1 1 [sL I np c2,iT mk] rfl rfl aw.o (by intro u hu;simp at hu;rcases hu with rfl | rfl <;> rfl) (by unfold maxLen;omega) (by omega) Y.o.size ?_;intro v5 w5 A s J;obtain ⟨g5,c5,rfl⟩:=aH A J)
      have av:Eq (bw w.heap.size w5 g5 (m+1) c5 (E++[(P,mk)])):=ia ab.o.1 ab.o.2 a4.o ay.o (by rw [O.o];exact aB.o) (by rw [x.o];exact yi _) s (by rw [O.o];exact A);have aE:Eq (Bl w w5):=Y.o.grown s Y.o.size (fun k e=>(a4.o.lt k e).1);clear A s J;go_roundw
      case rel=>exact ⟨i+1,i,g5,m+1,c5,E++[(P,mk)],by omega,by omega,by go_num,rfl,by omega,rfl,by omega,(by rw [GG,sT ar HC.o a0.o];unfold eO;rw [← az.o,← x.o]),av.o,aE.o⟩
      case measure=>first | (simp [intOf];omega) | (simp [intOf])
    · have au:¬(i:Int)=(n:Int):=by omega
      have bx:((i:Int) == (n:Int))=false:=by simpa using au
      have bk:IntKind.i64.wrap ((i:Int) - (f:Int))=(i:Int) - (f:Int):=by rw [FQ];unfold wrap64;omega
      by_cases aS:20≤i - f
      · have b0:(i:Int) - (f:Int) ≥ 20:=by omega
        have b7:(20:Int)≤(i:Int) - (f:Int):=by omega
        have bh:IntKind.i64.wrap ((i:Int) - 1)=(i:Int) - 1:=by rw [FQ];unfold wrap64;omega
        have bo:(i:Int)<(n:Int):=by omega
        have bj:(i:Int) - 1<(n:Int):=by omega
        have bn:(0:Int)≤(i:Int) - 1:=by omega
        have bl:(1:Int)≤(i:Int):=by omega
        have bz:((i:Int) - 1).toNat=i - 1:=by omega
        obtain ⟨s1,x1,x2,x3,x4,ao,_,q1,_⟩:=HE.o.ent HK.o aA i (by omega);obtain ⟨s0,y1,y2,y3,y4,ap,_,q0,_⟩:=HE.o.ent HK.o aA (i - 1) (by omega);simp only [FG] at q1 q0;by_cases Q:s1=s0
        · have a0:Eq (gP L f i=false):=by show _=_;unfold gP;rw [a7.o,kM ao,kM ap,decide_eq_false ad];simp [Q]
          have bg:(s1.toList == s0.toList)=true:=by rw [Q];simp
          clear ao ap Q;have F:Bl wr wr.drew:=(Below.refl _ wr).drew;have x:Eq (∀w',Bl wr w'→(fun w'=>w'.cell? ⟨b,i*5,none⟩=some (.string s1)∧w'.cell? ⟨b,(i - 1)*5,none⟩=some (.string s0)∧b<w'.heap.size) w'):=fun w' U=>⟨cell_later U q1,cell_later U q0,u' zb U.size⟩
          have r:Eq (Bl w wr.drew):=HK.o.trans (F.mono HK.o.size);have C:Eq (bw w.heap.size wr.drew g m c' E):=HR.o.below F;go_upto_region 6 with fail
          refine eJ x F fun ac=>?_
          generalize wr.drew=y at F ac r C ⊢;refine aP 0 24 ac ?_;refine dN ?_;clear ac x F;go_wp2;go_roundw
          case rel=>exact ⟨i+1,f,g,m,c',E,by omega,by omega,by go_num,rfl,by omega,rfl,by omega,(by rw [GG];exact vn ar HC.o a0.o),C.o,r.o⟩
          case measure=>first | (simp [intOf];omega) | (simp [intOf])
        · have a0:Eq (gP L f i=true):=by show _=_;unfold gP;rw [a7.o,kM ao,kM ap];simp [Q,aS]
          have bg:(s1.toList == s0.toList)=false:=by rw [beq_eq_false_iff_ne];intro e;rw [F1,F1] at e;exact Q (GX (GS.1 e))
          clear ao ap;have F:Bl wr wr.drew:=(Below.refl _ wr).drew;have x:Eq (∀w',Bl wr w'→(fun w'=>w'.cell? ⟨b,i*5,none⟩=some (.string s1)∧w'.cell? ⟨b,(i - 1)*5,none⟩=some (.string s0)∧b<w'.heap.size) w'):=fun w' U=>⟨cell_later U q1,cell_later U q0,u' zb U.size⟩
          have r:Eq (Bl w wr.drew):=HK.o.trans (F.mono HK.o.size);have C:Eq (bw w.heap.size wr.drew g m c' E):=HR.o.below F;go_upto_region 6 with fail
          refine eJ x F fun ac=>?_
          generalize wr.drew=y at F ac r C ⊢;refine aP 0 24 ac ?_;refine dN ?_;clear ac x F;obtain ⟨P,hP⟩:=aG ((L.drop f).take (i - f));have az:Eq (P=(L.drop f).take (i - f)):=hP;obtain ⟨np,N⟩:=aG (i - f);have O:Eq (P.length=np):=by show _=_;rw [hP,N,FC,FN,a7.o];omega
          obtain ⟨cp,a2⟩:=aG (c - f);have a8:∀w',Bl w w'→ah w' (some ⟨b,f*5,none⟩) np cp P:=fun w' U=>by rw [hP,N,a2];have:=(HE.o.keep U).sub (i:=f) (j:=i) (by omega) (by omega);simpa using this
          have ai:Eq (∀w',Bl w w'→ah w' (some ⟨b,f*5,none⟩) np cp P):=a8;have be:¬c=f:=by omega
          have aL:(f:Int)≤(i:Int):=by omega
          have b5:(i:Int)≤(c:Int):=by omega
          have a9:1≤np∧np≤1048576:=by omega
          have ka:Bl y (y.alloc (.cells #[] 50)):=bZ;have X:Eq (Bl w (y.alloc (.cells #[] 50))):=r.o.trans (ka.mono r.o.size);have al:Eq (ag (y.alloc (.cells #[] 50)) y.heap.size y.heap.size 0 0 []):=bV y _ (Fv _);have aD:Eq (bw w.heap.size (y.alloc (.cells #[] 50)) g m c' E):=C.o.below ka;have ax:Eq (w.heap.size≤y.heap.size):=r.o.size;have aT:((i:Int) - (f:Int)).toNat=np:=by omega
          have ba:((c:Int) - (f:Int)).toNat=cp:=by omega
          have aK:i - f=np:=N.symm;have aU:c - f=cp:=a2.symm;have a1:Eq (Bl y (y.alloc (.cells #[] 50))):=ka;clear ka hP a8 N a2;have b6:Eq (1≤np∧np≤1048576):=a9;go_wp2_with (at_builtin;refine wpList_append_own _ rfl _ _ 28 rfl y.heap.size 50 i0 _ 5 56 Tryz.underlying28 hi aZ aY b9 rfl (by decide) _ _ _ rfl al.o.owns ⟨b,f*5,none⟩ np cp (aC P) rfl (by rw [aV,O.o]) (qu (ai.o _ X.o)) (aO _) (by unfold maxLen;omega) (by omega) (by simp) ?_;intro v2 Z t D H;obtain ⟨I,c2,rfl⟩:=aH t H)
          simp only [FG] at t;have W:Eq (Bl y Z):=a1.o.grown D a1.o.size (fun k e=>by have h1:=Fx (show some y.heap.size=some k from e);omega);have a6:Eq (Bl w Z):=r.o.trans (W.o.mono r.o.size);have af:Eq (bw w.heap.size Z g m c' E):=C.o.below W.o;have a3:Eq (ag Z w.heap.size I np c2 P):=ag.mono ⟨t,O.o,(ai.o _ X.o).ents⟩ ax.o;clear t D H a1 W X al aD C r;obtain ⟨mk,hmk⟩:∃mk:Int,mk=((du P:Nat):Int):=⟨_,rfl⟩;have x:Eq (mk=((du P:Nat):Int)):=hmk;have CL:Eq (Calls Tryz.prog 173 #[sL I np c2] Z fun e w'=>e=.returned (.agg #[sL I np c2,iT mk])∧Bl Z w'):=by rw [hmk];exact pp _ np c2 P Z a3.o.entsAt
          clear hmk;refine CL.o.mono ?_;rintro e R ⟨rfl,T⟩;have am:Bl R (R.alloc (.cells #[sL I np c2,iT mk] 63)):=bZ;have K:=T.trans (am.mono T.size);have Y:Eq (Bl w (R.alloc (.cells #[sL I np c2,iT mk] 63))):=a6.o.trans (K.mono a6.o.size);have aB:Eq (ag (R.alloc (.cells #[sL I np c2,iT mk] 63)) w.heap.size I np c2 P):=a3.o.below K;obtain ⟨r1,r2,xs,r3,r4⟩:=af.o.below K;have ab:Eq (E.length=m∧(∀p ∈ E,(Lit.int .i64 p.2).wf=true)):=⟨r1,r2⟩;have a4:Eq ((R.alloc (.cells #[sL I np c2,iT mk] 63)).ownsRow w.heap.size 63 2 (sL g m c') m xs):=r3;have ay:Eq (∀(i:Nat) (p:aj),E[i]?=some p→∃e d,xs[i*2]?=some (sL e p.1.length d)∧xs[i*2+1]?=some (iT p.2)∧ag (R.alloc (.cells #[sL I np c2,iT mk] 63)) w.heap.size e p.1.length d p.1):=r4;have ak:=bW R (sL I np c2) (iT mk) 63;have aw:=bT ak;clear T am K r1 r2 r3 r4 ak CL a6 af a3;go_wp2_with (at_builtin;refine wpList_append_own _ rfl _ _ 61 rfl w.heap.size 63 j0 _ 2 32 Tryz.underlying61 hj aF b1 aN rfl (by decide) _ _ _ rfl a4.o ⟨R.heap.size,0,none⟩ 1 1 [sL I np c2,iT mk] rfl rfl aw.o (by intro u hu;simp at hu;rcases hu with rfl | rfl <;> rfl) (by unfold maxLen;omega) (by omega) Y.o.size ?_;intro v5 w5 A s J;obtain ⟨g5,c5,rfl⟩:=aH A J)
          have av:Eq (bw w.heap.size w5 g5 (m+1) c5 (E++[(P,mk)])):=ia ab.o.1 ab.o.2 a4.o ay.o (by rw [O.o];exact aB.o) (by rw [x.o];exact yi _) s (by rw [O.o];exact A);have aE:Eq (Bl w w5):=Y.o.grown s Y.o.size (fun k e=>(a4.o.lt k e).1);clear A s J;go_roundw
          case rel=>exact ⟨i+1,i,g5,m+1,c5,E++[(P,mk)],by omega,by omega,by go_num,rfl,by omega,rfl,by omega,(by rw [GG,sT ar HC.o a0.o];unfold eO;rw [← az.o,← x.o]),av.o,aE.o⟩
          case measure=>first | (simp [intOf];omega) | (simp [intOf])
      · have b0:¬(i:Int) - (f:Int) ≥ 20:=by omega
        have b7:¬(20:Int)≤(i:Int) - (f:Int):=by omega
        have a0:Eq (gP L f i=false):=by show _=_;unfold gP;rw [a7.o,decide_eq_false ad,decide_eq_false aS];rfl
        have F:Bl wr wr.drew:=(Below.refl _ wr).drew;have x:Eq (∀w',Bl wr w'→(fun w'=>b<w'.heap.size) w'):=fun w' U=>u' zb U.size
        have r:Eq (Bl w wr.drew):=HK.o.trans (F.mono HK.o.size);have C:Eq (bw w.heap.size wr.drew g m c' E):=HR.o.below F;go_upto_region 6 with fail
        refine eJ x F fun ac=>?_
        generalize wr.drew=y at F ac r C ⊢;refine aP 0 24 ac ?_;refine dN ?_;clear ac x F;go_wp2;go_roundw
        case rel=>exact ⟨i+1,f,g,m,c',E,by omega,by omega,by go_num,rfl,by omega,rfl,by omega,(by rw [GG];exact vn ar HC.o a0.o),C.o,r.o⟩
        case measure=>first | (simp [intOf];omega) | (simp [intOf])
  · have b2:¬(i:Int)≤(n:Int):=by omega
    obtain rfl:i=n+1:=by omega
    have HF:Eq ((fl L n).1=E):=by show _=_;have h:=HC.o;rw [GG] at h;rw [h]
    go_wp2;go_ret;exact (show E6 _ w _ _ from ⟨g,m,c',rfl,by rw [HF.o];exact HR.o,HK.o⟩)
theorem BF (lo H A b f n c:Nat) (B:List aj) (k1 k2:ByteArray) (i:Nat) (r:aj) (w:World) (hB:az lo w (some ⟨b,f,none⟩) n c B) (hr:B[i]?=some r) (hl:1≤r.1.length∧r.1.length≤1048576) (h1:w.cell? ⟨H,0,none⟩=some (sO b f n c)) (h2:w.cell? ⟨A,0,none⟩=some (.string k1)) (h3:w.cell? ⟨A,1,none⟩=some (.string k2)) :
 Calls Tryz.prog 185 #[iT i,.pointer (pT H),.pointer (pT A)] w fun e w'=>e=.returned (.bool (!Op.bytesLess (aU r.1).toList k1.toList))∧Bl w w':=by
 have hi:=(E'.1 hr).1;have a1:=hB.length;obtain ⟨L,m,s,ne,Q,F,_,W,_,hE⟩:=hB.run (Below.refl _ w) i (by omega);rw [hr] at F;cases F;simp only at hl;obtain ⟨O,R,rfl,Z⟩:=hE.1.form (by have:=hE.1.length;have:=hl.1;omega);have T:1≤ne:=by have:=hE.1.length;have:=hl.1;omega
 have E:=(hB.lies _ rfl (by omega)).1;simp only at E;have U:ne≤1048576:=by have:=hE.1.length;have:=hl.2;omega
 have X:Eq (∀w',Bl w w'→Calls Tryz.prog 126 #[sO O R ne Q] w' fun r t=>r=.returned (.agg #[.string (bn L),.string (aU L)])∧Bl w' t):=fun w' k=>kO O R ne Q L w' (hE.1.keep k) T
 have d:Eq (∀w',Bl w w'→(fun w'=>w'.cell? ⟨H,0,none⟩=some (sO b f n c)∧w'.cell? ⟨A,0,none⟩=some (.string k1)∧w'.cell? ⟨A,1,none⟩=some (.string k2)∧w'.cell? ⟨b,f+i*2,none⟩=some (sO O R ne Q)∧H<w'.heap.size∧A<w'.heap.size∧b<w'.heap.size) w'):=fun w' u=>⟨cell_later u h1,cell_later u h2,cell_later u h3,cell_later u W,u' (Fu _ _ h1) u.size,u' (Fu _ _ h2) u.size,u' E u.size⟩
 have I:Bl w w.drew:=(Below.refl _ w).drew;obtain ⟨Y,y⟩:=aG (bn L);obtain ⟨hk,g⟩:=aG (aU L);rw [← y,← g] at X;try rw [← y]
 try rw [← g]
 have CE:Eq (∀w',Calls Tryz.prog 186 #[.agg #[.string Y,.string hk],.agg #[.string k1,.string k2]] w' fun e t=>e=.returned (.bool (Op.bytesLess hk.toList k1.toList))∧Bl w' t):=fun w'=>nh _ _ _ _ w'
 have a0:(i:Int)<(n:Int):=by omega
 clear y g hE hB hr hl h1 h2 h3 W;go_enter Tryz.func185,Tryz.ntmps185
 go_upto_region 1 with fail
 refine eJ d I fun C=>?_
 refine aP 0 5 C ?_;refine aP 6 1 C ?_;refine aQ 5 fun K hK=>?_
 go_simp;refine (X.o _ I).mono ?_;rintro e w1 ⟨rfl,J⟩;have x:Bl w w1:=I.trans (J.mono I.size);go_wp2_with fail
 refine hK.o _ _ (d.o _ x) fun C=>?_
 (try go_frame);refine aQ 7 fun K hK=>?_
 go_simp;refine (CE.o _).mono ?_;rintro e w2 ⟨rfl,N⟩;have D:Bl w w2:=x.trans (N.mono x.size);go_wp2_with fail
 refine hK.o _ _ (d.o _ D) fun C=>?_
 (try go_frame);refine aP 8 2 C ?_;refine dN ?_;clear C d;go_wp2;go_ret;exact ⟨by first | rfl | simp,D⟩
theorem BE (lo H A b f n c:Nat) (B:List aj) (k1 k2:ByteArray) (i:Nat) (r:aj) (w:World) (hB:az lo w (some ⟨b,f,none⟩) n c B) (hr:B[i]?=some r) (hl:1≤r.1.length∧r.1.length≤1048576) (h1:w.cell? ⟨H,0,none⟩=some (sO b f n c)) (h2:w.cell? ⟨A,0,none⟩=some (.string k1)) (h3:w.cell? ⟨A,1,none⟩=some (.string k2)) :
 Calls Tryz.prog 187 #[iT i,.pointer (pT A),.pointer (pT H)] w fun e w'=>e=.returned (.bool (Op.bytesLess k2.toList (bn r.1).toList))∧Bl w w':=by
 have hi:=(E'.1 hr).1;have a1:=hB.length;obtain ⟨L,m,s,ne,Q,F,_,X,_,hE⟩:=hB.run (Below.refl _ w) i (by omega);rw [hr] at F;cases F;simp only at hl;obtain ⟨O,R,rfl,Z⟩:=hE.1.form (by have:=hE.1.length;have:=hl.1;omega);have T:1≤ne:=by have:=hE.1.length;have:=hl.1;omega
 have D:=(hB.lies _ rfl (by omega)).1;simp only at D;have W:ne≤1048576:=by have:=hE.1.length;have:=hl.2;omega
 have Y:Eq (∀w',Bl w w'→Calls Tryz.prog 126 #[sO O R ne Q] w' fun r t=>r=.returned (.agg #[.string (bn L),.string (aU L)])∧Bl w' t):=fun w' k=>kO O R ne Q L w' (hE.1.keep k) T
 have d:Eq (∀w',Bl w w'→(fun w'=>w'.cell? ⟨H,0,none⟩=some (sO b f n c)∧w'.cell? ⟨A,0,none⟩=some (.string k1)∧w'.cell? ⟨A,1,none⟩=some (.string k2)∧w'.cell? ⟨b,f+i*2,none⟩=some (sO O R ne Q)∧H<w'.heap.size∧A<w'.heap.size∧b<w'.heap.size) w'):=fun w' u=>⟨cell_later u h1,cell_later u h2,cell_later u h3,cell_later u X,u' (Fu _ _ h1) u.size,u' (Fu _ _ h2) u.size,u' D u.size⟩
 have I:Bl w w.drew:=(Below.refl _ w).drew;obtain ⟨U,y⟩:=aG (bn L);obtain ⟨hk,g⟩:=aG (aU L);rw [← y,← g] at Y;try rw [← y]
 try rw [← g]
 have CE:Eq (∀w',Calls Tryz.prog 186 #[.agg #[.string k1,.string k2],.agg #[.string U,.string hk]] w' fun e t=>e=.returned (.bool (Op.bytesLess k2.toList U.toList))∧Bl w' t):=fun w'=>nh _ _ _ _ w'
 have a0:(i:Int)<(n:Int):=by omega
 clear y g hE hB hr hl h1 h2 h3 X;go_enter Tryz.func187,Tryz.ntmps187
 go_upto_region 1 with fail
 refine eJ d I fun E=>?_
 refine aP 0 6 E ?_;refine aQ 6 fun K hK=>?_
 go_simp;refine (Y.o _ I).mono ?_;rintro e w1 ⟨rfl,J⟩;have x:Bl w w1:=I.trans (J.mono I.size);go_wp2_with fail
 refine hK.o _ _ (d.o _ x) fun E=>?_
 (try go_frame);refine aQ 7 fun K hK=>?_
 go_simp;refine (CE.o _).mono ?_;rintro e w2 ⟨rfl,N⟩;have C:Bl w w2:=x.trans (N.mono x.size);go_wp2_with fail
 refine hK.o _ _ (d.o _ C) fun E=>?_
 (try go_frame);refine aP 8 1 E ?_;refine dN ?_;clear E d;go_wp2;go_ret;exact ⟨by first | rfl | simp,C⟩
theorem Bn (H E n:Nat) (p:Nat→Bool) (w:World) (hn:n≤1048576) (hC:∀i w',i<n→Bl w w'→Calls Tryz.prog 185 #[iT i,.pointer (pT H),.pointer (pT E)] w' fun e d=>e=.returned (.bool (p i))∧Bl w' d) (hm:∀a b,a≤b→b<n→p a=true→p b=true) :
 Calls Tryz.prog 184 #[iT n,.func (.func 185) #[] #[.pointer (pT H),.pointer (pT E)]] w fun e w'=>∃i:Nat,e=.returned (iT i)∧i≤n∧(∀t,t<i→p t=false)∧(∀t,i≤t→t<n→p t=true)∧Bl w w':=by
 have T:=bT hC;have J:=bT hm;clear hC hm;go_enter Tryz.func184,Tryz.ntmps184
 go_wp2;go_loopw [5,6] (fun D hv wr=>∃(a b:Nat),a≤b∧b≤n∧D=iT a∧hv=iT b∧(∀t,t<a→p t=false)∧(∀t,b≤t→t<n→p t=true)∧Bl w wr) (fun D hv _=>(intOf hv).toNat - (intOf D).toNat)
 case atStart=>exact ⟨0,n,FB _,Fv _,rfl,rfl,(fun t I=>absurd I (Gy _)),(fun t h1 h2=>by omega),Below.refl _ _⟩
 case round =>
  obtain ⟨a,b,L,f,rfl,rfl,x,m,hb⟩:=hrel;have g:Eq (∀t,t<a→p t=false):=x;have u:Eq (∀t,b≤t→t<n→p t=true):=m;have A:Eq (Bl w wr):=hb;clear x m hb;by_cases Q:a<b
  · have y:(a:Int)<(b:Int):=by omega
    obtain ⟨h,hh⟩:=aG ((a+b) / 2);have B:a≤h:=by omega
    have R:h<b:=by omega
    have C:((a:Int)+(b:Int)) / 2=(h:Int):=by omega
    have K:Eq (Calls Tryz.prog 185 #[iT h,.pointer (pT H),.pointer (pT E)] wr fun e d=>e=.returned (.bool (p h))∧Bl wr d):=T.o h wr (by omega) A.o;have O:Eq (h=(a+b) / 2):=hh;clear hh;go_wp2_with fail
    try rw [C]
    refine K.o.mono ?_;rintro e N ⟨rfl,r⟩;have s:Eq (Bl w N):=A.o.trans (r.mono A.o.size);clear r;cases hp:p h with
    | false =>
     have F:Eq (p h=false):=hp;clear hp;go_wp2;go_roundw
     case rel =>
      refine ⟨h+1,b,by omega,f,by go_num,rfl,fun t I=>?_,u.o,s.o⟩;cases hq:p t with
      | false=>rfl
      | true=>have:=J.o t h (by omega) (by omega) hq;rw [F.o] at this;cases this
     case measure=>simp [intOf];omega
    | true =>
     have F:Eq (p h=true):=hp;clear hp;go_wp2;go_roundw
     case rel =>
      refine ⟨a,h,B,by omega,rfl,by go_num,g.o,fun t h1 h2=>J.o h t h1 h2 F.o,s.o⟩
     case measure=>simp [intOf];omega
  · have y:¬(a:Int)<(b:Int):=by omega
    obtain rfl:a=b:=by omega
    go_wp2;go_ret;exact ⟨a,rfl,f,g.o,u.o,A.o⟩
theorem Bm (H E n:Nat) (p:Nat→Bool) (w:World) (hn:n≤1048576) (hC:∀i w',i<n→Bl w w'→Calls Tryz.prog 187 #[iT i,.pointer (pT E),.pointer (pT H)] w' fun e d=>e=.returned (.bool (p i))∧Bl w' d) (hm:∀a b,a≤b→b<n→p a=true→p b=true) :
 Calls Tryz.prog 184 #[iT n,.func (.func 187) #[] #[.pointer (pT E),.pointer (pT H)]] w fun e w'=>∃i:Nat,e=.returned (iT i)∧i≤n∧(∀t,t<i→p t=false)∧(∀t,i≤t→t<n→p t=true)∧Bl w w':=by
 have T:=bT hC;have J:=bT hm;clear hC hm;go_enter Tryz.func184,Tryz.ntmps184
 go_wp2;go_loopw [5,6] (fun D hv wr=>∃(a b:Nat),a≤b∧b≤n∧D=iT a∧hv=iT b∧(∀t,t<a→p t=false)∧(∀t,b≤t→t<n→p t=true)∧Bl w wr) (fun D hv _=>(intOf hv).toNat - (intOf D).toNat)
 case atStart=>exact ⟨0,n,FB _,Fv _,rfl,rfl,(fun t I=>absurd I (Gy _)),(fun t h1 h2=>by omega),Below.refl _ _⟩
 case round =>
  obtain ⟨a,b,L,f,rfl,rfl,x,m,hb⟩:=hrel;have g:Eq (∀t,t<a→p t=false):=x;have u:Eq (∀t,b≤t→t<n→p t=true):=m;have A:Eq (Bl w wr):=hb;clear x m hb;by_cases Q:a<b
  · have y:(a:Int)<(b:Int):=by omega
    obtain ⟨h,hh⟩:=aG ((a+b) / 2);have B:a≤h:=by omega
    have R:h<b:=by omega
    have C:((a:Int)+(b:Int)) / 2=(h:Int):=by omega
    have K:Eq (Calls Tryz.prog 187 #[iT h,.pointer (pT E),.pointer (pT H)] wr fun e d=>e=.returned (.bool (p h))∧Bl wr d):=T.o h wr (by omega) A.o;have O:Eq (h=(a+b) / 2):=hh;clear hh;go_wp2_with fail
    try rw [C]
    refine K.o.mono ?_;rintro e N ⟨rfl,r⟩;have s:Eq (Bl w N):=A.o.trans (r.mono A.o.size);clear r;cases hp:p h with
    | false =>
     have F:Eq (p h=false):=hp;clear hp;go_wp2;go_roundw
     case rel =>
      refine ⟨h+1,b,by omega,f,by go_num,rfl,fun t I=>?_,u.o,s.o⟩;cases hq:p t with
      | false=>rfl
      | true=>have:=J.o t h (by omega) (by omega) hq;rw [F.o] at this;cases this
     case measure=>simp [intOf];omega
    | true =>
     have F:Eq (p h=true):=hp;clear hp;go_wp2;go_roundw
     case rel =>
      refine ⟨a,h,B,by omega,rfl,by go_num,g.o,fun t h1 h2=>J.o h t h1 h2 F.o,s.o⟩
     case measure=>simp [intOf];omega
  · have y:¬(a:Int)<(b:Int):=by omega
    obtain rfl:a=b:=by omega
    go_wp2;go_ret;exact ⟨a,rfl,f,g.o,u.o,A.o⟩
theorem ou (Y:Nat) (a:Option Addr) (n c:Nat) (B:List aj) (k1 k2:ByteArray) (w:World) (hB:az Y w a n c B) (hn:n≤1000) (ha:bu B=true) (f:∀r ∈ B,cF r.1 r.2=true) :
 Calls Tryz.prog 125 #[.slice a n c,.agg #[.string k1,.string k2]] w fun e w'=>∃i j:Nat,e=.returned (.tuple #[iT i,iT j])∧f5 B k1 k2 i j∧Bl w w':=by
 have a8:=hB.length;obtain ⟨X,R⟩:=aG w.heap.size;obtain ⟨W,K⟩:=aG ((w.alloc (.cells #[.slice a n c] 61)).alloc (.cells #[.string k1,.string k2] 135));have T:Bl w W:=by rw [K];exact bZ.alloc (by simp) _
 have x0:W.cell? ⟨X,0,none⟩=some (.slice a n c):=by rw [K,R];exact cell_later bZ (by have:=ew w (.slice a n c) 61 0 _ rfl;rwa [FO] at this)
 have hy:∀j u,[Value.string k1,Value.string k2][j]?=some u→W.cell? ⟨X+1,j,none⟩=some u:=fun j u hu=>by
  have h1:=bW (w.alloc (.cells #[.slice a n c] 61)) (.string k1) (.string k2) 135 j u hu;rw [FO,FG,FP,← K,← R] at h1;exact h1
 have y0:=hy 0 _ rfl;have y1:=hy 1 _ rfl;have K0:Eq (Bl w W):=T;obtain ⟨y,hp1⟩:∃y:Nat→Bool,y=fun t=>match B[t]? with | some r=>!Op.bytesLess (aU r.1).toList k1.toList | none=>true:=⟨_,rfl⟩
 obtain ⟨D,m⟩:∃D:Nat→Bool,D=fun t=>match B[t]? with | some r=>Op.bytesLess k2.toList (bn r.1).toList | none=>true:=⟨_,rfl⟩
 have C1:Eq (∀w',Bl W w'→Calls Tryz.prog 184 #[iT n,.func (.func 185) #[] #[.pointer (pT X),.pointer (some ⟨X+1,0,none⟩)]] w' fun e F=>∃i:Nat,e=.returned (iT i)∧i≤n∧(∀t,t<i→y t=false)∧(∀t,i≤t→t<n→y t=true)∧Bl w' F):=fun w' k=>by
  refine Bn X (X+1) n y w' (by omega) (fun i I hi C=>?_) (fun s t A ht h=>?_)
  · obtain ⟨b,H,rfl,_⟩:=hB.form (by omega);have hr:=j' (show i<B.length by omega);have d:=k.trans (C.mono k.size);obtain ⟨_,E,hl2⟩:=d5 (f _ (F8 (show i<B.length by omega)));have h:=BF Y X (X+1) b H n c B k1 k2 i _ I ((hB.keep T).keep d) hr ⟨E,by omega⟩ (cell_later d x0) (cell_later d y0) (cell_later d y1);rw [hp1];simp only [hr];exact h
  · have hs:=j' (show s<B.length by omega);have g:=j' (show t<B.length by omega);rw [hp1] at h ⊢;simp only [hs] at h;simp only [g];cases hq:Op.bytesLess (aU B[t].1).toList k1.toList with
    | false=>rfl
    | true=>rw [yq ha f hs g A k1 hq] at h;cases h
 have C2:Eq (∀w',Bl W w'→Calls Tryz.prog 184 #[iT n,.func (.func 187) #[] #[.pointer (some ⟨X+1,0,none⟩),.pointer (pT X)]] w' fun e F=>∃i:Nat,e=.returned (iT i)∧i≤n∧(∀t,t<i→D t=false)∧(∀t,i≤t→t<n→D t=true)∧Bl w' F):=fun w' k=>by
  refine Bm X (X+1) n D w' (by omega) (fun i I hi C=>?_) (fun s t A ht h=>?_)
  · obtain ⟨b,H,rfl,_⟩:=hB.form (by omega);have hr:=j' (show i<B.length by omega);have d:=k.trans (C.mono k.size);obtain ⟨_,E,hl2⟩:=d5 (f _ (F8 (show i<B.length by omega)));have h:=BE Y X (X+1) b H n c B k1 k2 i _ I ((hB.keep T).keep d) hr ⟨E,by omega⟩ (cell_later d x0) (cell_later d y0) (cell_later d y1);rw [m];simp only [hr];exact h
  · have hs:=j' (show s<B.length by omega);have g:=j' (show t<B.length by omega);rw [m] at h ⊢;simp only [hs] at h;simp only [g];exact BK ha f hs g A k2 h
 have HR:Eq (∀i j:Nat,i≤n→j≤n→(∀t,t<i→y t=false)→(∀t,i≤t→t<n→y t=true)→(∀t,t<j→D t=false)→(∀t,j≤t→t<n→D t=true)→f5 B k1 k2 i j):=fun i j hi hj h1 h2 h3 h4=>by
  refine ⟨by omega,by omega,fun t r hr=>⟨fun h=>?_,fun h=>?_,fun h=>?_,fun h=>?_⟩⟩
  · have:=h1 t h;rw [hp1] at this;simp only [hr] at this;simpa using this
  · have:=h2 t h (by have:=(E'.1 hr).1;omega);rw [hp1] at this;simp only [hr] at this;simpa using this
  · have:=h3 t h;rw [m] at this;simp only [hr] at this;exact this
  · have:=h4 t h (by have:=(E'.1 hr).1;omega);rw [m] at this;simp only [hr] at this;exact this
 clear hp1 m hB T ha f hy y0 y1;have xz:=Fu _ _ x0;simp only at xz;go_enter Tryz.func125,Tryz.ntmps125
 go_wp2_with fail
 rw [← R,← K];clear R K;refine (C1.o _ (Below.refl _ _)).mono ?_;rintro e w1 ⟨i,rfl,hi,O,N,x⟩;have U:Eq (i≤n∧(∀t,t<i→y t=false)∧(∀t,i≤t→t<n→y t=true)):=⟨hi,O,N⟩;have Z:Eq (Bl W w1):=x;have x0:=cell_later x x0;have xz:=u' xz x.size;clear x O N hi;go_wp2_with fail
 refine (C2.o _ Z.o).mono ?_;rintro e I ⟨j,rfl,hj,J,L,Q⟩;have I2:Eq (f5 B k1 k2 i j):=HR.o i j U.o.1 hj U.o.2.1 U.o.2.2 J L;have K2:Eq (Bl w I):=K0.o.trans ((Z.o.trans (Q.mono Z.o.size)).mono K0.o.size);clear Q J L hj;go_wp2;exact bodyPost_ret (v:=.tuple #[iT i,iT j]) (by simp [results,Tryz.results125,go_sem]) rfl ⟨i,j,rfl,I2.o,K2.o⟩
theorem ux (q:Int) (m1:Option Addr) (R O K E L:Nat) (k1:Option Addr) (U cs:Nat) (a2:Option Addr) (n2 c2:Nat) (C:List aj) (A:Int) (b d n c:Nat) (B:List aj) (y:aj) (w:World) (hl2:w.cell? ⟨K,E+2,none⟩=some (.slice a2 n2 c2)) (hC:az 0 w a2 n2 c2 C) (a3:n2≤1000) (f:∀r ∈ C,1≤r.1.length) (hB:az 0 w (some ⟨b,d,none⟩) n c B) (h0:B[0]?=some y) (D:∀r ∈ B,1≤r.1.length) (hn:n≤1000) :
 Calls Tryz.prog 179 #[.agg #[iT q,.slice m1 R O,sO K E 3 L,.slice k1 U cs],iT A,sO b d n c] w fun e w'=>e=.returned (.bool (decide (A=2) || decide ((C.filter (eD (fG (bn y.1) B) (dw (aU y.1) B))).length=0)))∧Bl w w':=by
 obtain ⟨X,hX⟩:=aG w.heap.size;obtain ⟨W,N⟩:=aG (w.alloc (.cells #[iT q,.slice m1 R O,sO K E 3 L,.slice k1 U cs] 31));have kW:Bl w W:=by rw [N];exact bZ
 have bx:aE W X (iT q) (.slice m1 R O) (sO K E 3 L) (.slice k1 U cs):=by rw [N,hX];exact aE.new _ _ _ _ _ _
 have K0:Eq (Bl w W):=kW;obtain ⟨g,x⟩:=aG (fG (bn y.1) B);obtain ⟨hi,u⟩:=aG (dw (aU y.1) B);have CR:Eq (Calls Tryz.prog 176 #[sO b d n c] W fun e w'=>e=.returned (.tuple #[.string g,.string hi])∧Bl W w'):=by rw [x,u];exact mL b d n c B y W (hB.keep kW) h0 D (by omega)
 have CP:Eq (∀w',Bl w w'→Calls Tryz.prog 177 #[.slice a2 n2 c2,.string g,.string hi] w' fun e t=>∃g1 n1 c1 g2 n2 c2,e=.returned (.tuple #[sL g1 n1 c1,sL g2 n2 c2])∧az 0 t (pT g1) n1 c1 (C.filter (eD g hi))∧az 0 t (pT g2) n2 c2 (C.filter (fun r=>!eD g hi r))∧Bl w' t):=fun w' k=>pq a2 n2 c2 C g hi w' (hC.keep k) f a3
 rw [← x,← u];obtain ⟨F,hF⟩:=aG ((decide (A=2) || decide ((C.filter (eD g hi)).length=0)));have Z:Eq (F=(decide (A=2) || decide ((C.filter (eD g hi)).length=0))):=hF;rw [← hF];have Y:=bT hl2;clear hF x u kW hC f hB h0 D hl2;go_enter Tryz.func179,Tryz.ntmps179
 by_cases h2:A=2
 · subst h2;have kA:Eq (Bl w (w.alloc (.cells #[iT q,.slice m1 R O,sO K E 3 L,.slice k1 U cs] 31))):=bZ;go_wp2;go_ret;exact ⟨by rw [Z.o];simp,kA.o⟩
 · have an:(A == 2)=false:=by simpa using h2
   go_wp2_with fail
   rw [← N];clear N;refine CR.o.mono ?_;rintro e w1 ⟨rfl,m⟩;have Q:Eq (Bl w w1):=K0.o.trans (m.mono K0.o.size);have s:=bx.keep m;have x2:=s.c2;have xz:=s.lt;have l2:=cell_later Q.o Y.o;have lz:=Fu _ _ l2;simp only at lz;rw [← hX];clear m bx s hX;go_wp2_with fail
   refine (CP.o _ Q.o).mono ?_;rintro e w2 ⟨a5,T,c5,a6,n6,c6,rfl,I,_,J⟩;have K2:Eq (Bl w w2):=Q.o.trans (J.mono Q.o.size);have H:Eq ((C.filter (eD g hi)).length=T):=I.length;clear I J x2 xz l2 lz;by_cases h5:T=0
   · subst h5;go_wp2;go_ret;exact ⟨by rw [Z.o,H.o];simp,K2.o⟩
   · have a1:¬(T:Int)=0:=by omega
     have ai:((T:Int) == 0)=false:=by simpa using a1
     go_wp2;go_ret;exact ⟨by rw [Z.o,H.o];simp [h2,h5],K2.o⟩
theorem jm {w:World} {base g n c:Nat} {S:List Int} (h:w.ownsRow base 3 1 (sL g n c) n (S.map iT)) (hl:S.length=n) (hw:∀z ∈ S,(Lit.int .i64 z).wf=true):b6 base w (pT g) n c S:=by
 have b:=cZ h;refine ⟨hl,b.1,b.2,hw,(fun e=>by cases e),?_,?_⟩
 · rintro x e _;cases e;exact ⟨(h.lt g rfl).2,rfl,(h.lt g rfl).1⟩
 · rintro x e i hi;cases e;simp only [FG];have h1:=h.cellAt i (by omega);rw [Hs,j' hi] at h1;exact h1
end Go.Proofs.YtpobkmjicbobdaaGreat
