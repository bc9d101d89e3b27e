/- Walks. -/
import Derived.Test.YtpobkmjicbobdaaGreatBl20
namespace Go.Proofs.YtpobkmjicbobdaaGreat
set_option maxRecDepth 100000
set_option maxHeartbeats 40000000
open Go.RowKit
variable {C Z:List an} {K L M:List ac} {S:List Int} {V:List (List an)} {p q:Int}
theorem dQ.low {base G n c X:Nat} {w w':World} (h:dQ base w G n c V) (b:X<base) (hg:w.grownBy w' (some X)):dQ base w' G n c V:=by
 obtain ⟨h1,xs,h3,h4,h5⟩:=h;refine ⟨h1,xs,h3.kept hg (.inr fun e=>?_),fun i p hp=>(by obtain ⟨e,d,a1,a3⟩:=h4 i p hp;exact ⟨e,d,a1,a3.low b hg⟩),h5⟩;have f:G=X:=by simpa [Value.ownBlock] using e
 have:=(h3.lt G rfl).1;omega
theorem pS (lo:Nat) (q:Int) (am av ak:Option Addr) (F cm A cv t cs:Nat) (M:List ac) (V:List (List an)) (S:List Int) (w:World) (hT:b6 lo w am F cm av A cv ak t cs M V S) (bb:F≤1048576) (bg:t≤1048576) (b3:A≤100) (hS:∀B ∈ V,B.length≤100∧∀r ∈ B,1≤r.1.length∧r.1.length≤10000) :
 Calls Tryz.prog 57 #[.agg #[iT q,.slice am F cm,.slice av A cv,.slice ak t cs]] w fun e w'=>∃H c1 G c I c3,e=.returned (.agg #[iT q,sL H F c1,sL G A c,sL I t c3])∧cE w.heap.size w' H F c1 G A c I t c3 M V S∧Bl w w'∧∃b,w.heap.size≤b∧H<b∧dQ b w' G A c V:=by
 obtain ⟨i0,hi,aO,aI,aK⟩:=info_parts Tryz.infoEnt;obtain ⟨j0,hj,al,ao,ai⟩:=info_parts Tryz.infoInt;obtain ⟨X,hX⟩:=aH w.heap.size;obtain ⟨W0,a5⟩:=aH ((w.alloc (.cells #[iT q,.slice am F cm,.slice av A cv,.slice ak t cs] 31)).alloc (.cells #[iT 0,nZ,nZ,nZ] 31));have kW:Bl w W0:=by rw [a5];exact bZ.alloc (by simp) _
 have bx:az W0 X (iT q) (.slice am F cm) (.slice av A cv) (.slice ak t cs):=by rw [a5,hX];exact (az.new _ _ _ _ _ _).alloc _
 have br:az W0 (X+1) (iT 0) nZ nZ nZ:=by
  have:=az.new (w.alloc (.cells #[iT q,.slice am F cm,.slice av A cv,.slice ak t cs] 31)) 31 (iT 0) nZ nZ nZ;rw [Dc] at this;rw [a5,hX];exact this
 have U:CG (W0.heap.size=X+1+1):=by rw [a5,hX];simp [CG]
 have aj:CG (X=w.heap.size):=hX;have KW:CG (Bl w W0):=kW;have BX:CG (az W0 X (iT q) (.slice am F cm) (.slice av A cv) (.slice ak t cs)):=bx;have BR:CG (az W0 (X+1) (iT 0) nZ nZ nZ):=br;have HM:CG (ag W0 am F cm M):=hT.mem.1.keep kW;have HS:CG (bQ lo W0 ak t cs S):=hT.snaps.keep kW;have a4:CG (M.length=F):=hT.mem.1.length;have Y:CG (S.length=t):=hT.snaps.length;have ar:CG (∀z ∈ S,(Lit.int .i64 z).wf=true):=hT.snaps.wfs;have HV:CG (cG lo W0 av A cv V):=hT.levels.keep kW;have CL:CG (∀w',Bl W0 w'→Calls Tryz.prog 120 #[.slice av A cv] w' fun e aJ=>∃G c,e=.returned (sL G A c)∧dQ w'.heap.size aJ G A c V∧Bl w' aJ):=fun w' k=>(nS lo av A cv V w' (HV.o.keep k) b3 hS).mono (fun e aJ h=>by obtain ⟨G,c,h1,h2,h3⟩:=h;exact ⟨G,c,h1,h2,h3⟩)
 have d:Bl W0 W0.drew:=(Below.refl _ W0).drew;have x:CG (∀w',Bl W0 w'→(fun w'=>w'.cell? ⟨X,0,none⟩=some (iT q)∧w'.cell? ⟨X,1,none⟩=some (.slice am F cm)∧w'.cell? ⟨X,2,none⟩=some (.slice av A cv)∧w'.cell? ⟨X,3,none⟩=some (.slice ak t cs)∧X<w'.heap.size) w'):=fun w' kk=>⟨cell_later kk BX.o.c0,cell_later kk BX.o.c1,cell_later kk BX.o.c2,cell_later kk BX.o.c3,l' BX.o.lt kk.size⟩
 have ap:CG (∀(w':World) (u0 u1 u2 u3:Value),Bl W0 w'→(fun w'=>w'.cell? ⟨X,0,none⟩=some (iT q)∧w'.cell? ⟨X,1,none⟩=some (.slice am F cm)∧w'.cell? ⟨X,2,none⟩=some (.slice av A cv)∧w'.cell? ⟨X,3,none⟩=some (.slice ak t cs)∧X<w'.heap.size) ((((w'.setCell ⟨X+1,0,none⟩ u0).setCell ⟨X+1,1,none⟩ u1).setCell ⟨X+1,2,none⟩ u2).setCell ⟨X+1,3,none⟩ u3)):=fun w' u0 u1 u2 u3 kk=>by
  have b:=((((BX.o.keep kk).other (b':=X+1) (o:=0) (by omega) u0).other (b':=X+1) (o:=1) (by omega) u1).other (b':=X+1) (o:=2) (by omega) u2).other (b':=X+1) (o:=3) (by omega) u3;exact ⟨b.c0,b.c1,b.c2,b.c3,b.lt⟩
 clear hT kW bx br hS;go_enter Tryz.func57,Tryz.ntmps57
 go_upto_region 1 with fail
 rw [← hX,← a5];clear hX a5;refine ez x d fun y=>?_
 generalize W0.drew=wd at d y ⊢;refine aP 0 2 y ?_;refine aP 3 2 y ?_;refine aP 6 2 y ?_;refine aP 10 2 y ?_;refine jX 2 9 (fun K hK=>?_) fun K hK=>?_
 · go_simp;have n:Bl wd (wd.alloc (.cells #[] 50)):=bZ;have g:=bI wd W0.heap.size d.size;have d:=d.trans (n.mono d.size);clear n;generalize wd.heap.size=ga at g ⊢;generalize wd.alloc (.cells #[] 50)=w1 at d g ⊢;refine hK.o _ _ (x.o _ d) fun y=>?_
   (try go_frame);refine jX 5 9 (fun K hK=>?_) fun K hK=>?_
   · refine cZ rfl (.tmp 5) (.tmp 7) 28 rfl W0.heap.size 50 i0 _ 5 56 Tryz.underlying28 hi aO aI aK rfl (Dz 4) _ _ _ rfl g.owns am F cm (aC M) rfl (by rw [aU,a4.o]) HM.o.nil (kJ (HM.o.keep d)) (aL _) ?_ ?_ ?_ ?_
     · unfold maxLen;omega
     · omega
     · exact d.size
     intro v1 w2 N W T;obtain ⟨H,c1,rfl⟩:=aF N T;have D:w1.grownBy w2 (some ga):=W;have d:Bl W0 w2:=d.grown D d.size (fun k e=>by cases e;exact g.lt.1);have g:af w2 W0.heap.size H F c1 M:=⟨by have h1:=N;rw [C6] at h1;simpa [aC] using h1,a4.o,HM.o.ents⟩;rw [C6];clear N W T D;refine hK.o _ _ (x.o _ d) fun y=>?_
     (try go_frame);refine jX 8 9 (fun K hK=>?_) fun K hK=>?_
     · go_simp;refine (CL.o _ d).mono ?_;rintro e w3 ⟨G,c,rfl,J,n⟩;have a1:=g.lt.2;have g:=g.below n;have Q:=d.size;have d:=d.trans (n.mono d.size);clear n;go_wp2_with fail
       refine hK.o _ _ (x.o _ d) fun y=>?_
       (try go_frame);refine aR 9 fun K hK=>?_
       go_simp;have n:Bl w3 (w3.alloc (.cells #[] 3)):=bZ;have g:=g.below n;have J:=J.below n;have m:(w3.alloc (.cells #[] 3)).ownsRow W0.heap.size 3 1 (sL (w3.heap.size) 0 0) 0 []:=Do (base:=W0.heap.size) (e:=3) (size:=1) w3 #[] 0 d.size (by simp) (by simp);have d:=d.trans (n.mono d.size);clear n;generalize w3.heap.size=gi at m ⊢;generalize w3.alloc (.cells #[] 3)=w4 at d g J m ⊢;refine hK.o _ _ (x.o _ d) fun y=>?_
       (try go_frame);refine aR 12 fun K hK=>?_
       refine cZ rfl (.tmp 12) (.tmp 14) 24 rfl W0.heap.size 3 j0 _ 1 8 Tryz.underlying24 hj al ao ai rfl (Dz 0) _ _ _ rfl m ak t cs (S.map iT) rfl (by rw [EI,Y.o,Nat.mul_one]) HS.o.nil (iG (HS.o.keep d)) (by intro u hu;obtain ⟨z,_,rfl⟩:=DO.1 hu;rfl) ?_ ?_ ?_ ?_
       · unfold maxLen;omega
       · omega
       · exact d.size
       intro v2 w5 E O R;obtain ⟨I,c3,rfl⟩:=aF E R;have f:w4.grownBy w5 (some gi):=O;have g:=dy g m (by decide) f;have J:=gq J m (by decide) (by decide) (by decide) f;have d:Bl W0 w5:=d.grown f d.size (fun k e=>by cases e;exact (m.lt gi rfl).1);have m:w5.ownsRow W0.heap.size 3 1 (sL I t c3) t (S.map iT):=by have h1:=E;rw [C6,DA] at h1;exact h1
       rw [C6];clear E O R f;refine hK.o _ _ (x.o _ d) fun y=>?_
       (try go_frame);refine aP 13 1 y ?_;refine aR 14 fun K hK=>?_
       have bq:=BR.o.keep d;have d0:=bq.all;go_simp;clear d0;refine hK.o _ _ (ap.o _ _ _ _ _ d) fun y=>?_
       (try go_frame);refine dN ?_;clear y;have HC:CG (cE W0.heap.size w5 H F c1 G A c I t c3 M V S):=⟨g,J.mono Q,Y.o,ar.o,m⟩;have HF:CG (∃b,W0.heap.size≤b∧H<b∧dQ b w5 G A c V):=⟨_,Q,a1,J⟩;have HK:CG (Bl W0 w5):=d;have a2:CG (az w5 (X+1) (iT 0) nZ nZ nZ):=bq;clear g J m d bq;go_wp2;refine bodyPost_ret (v:=.agg #[iT q,sL H F c1,sL G A c,sL I t c3]) ?_ rfl ⟨H,c1,G,c,I,c3,rfl,?_,?_,?_⟩
       · have e:=(((a2.o.set0 (iT q)).set1 (sL H F c1)).set2 (sL G A c)).set3 (sL I t c3);simp [results,Tryz.results57,go_sem,e.all]
       · exact (HC.o.four (by have:=U.o;omega) _ _ _ _).mono KW.o.size
       · have hx:w.heap.size≤X+1:=by have:=aj.o;omega
         exact ((((KW.o.trans (HK.o.mono KW.o.size)).setCell (p:=⟨X+1,0,none⟩) hx _).setCell (p:=⟨X+1,1,none⟩) hx _).setCell (p:=⟨X+1,2,none⟩) hx _).setCell (p:=⟨X+1,3,none⟩) hx _
       · obtain ⟨b,f1,f3,f4⟩:=HF.o;have s:X+1<b:=by have:=U.o;omega
         exact ⟨b,C8 KW.o.size f1,f3,(((f4.low s (cq _ _ _ _)).low s (cq _ _ _ _)).low s (cq _ _ _ _)).low s (cq _ _ _ _)⟩
     · go_simp;have n:Bl w2 (w2.alloc (.cells #[] 3)):=bZ;have g:=g.below n;have m:(w2.alloc (.cells #[] 3)).ownsRow W0.heap.size 3 1 (sL (w2.heap.size) 0 0) 0 []:=Do (base:=W0.heap.size) (e:=3) (size:=1) w2 #[] 0 d.size (by simp) (by simp);have d:=d.trans (n.mono d.size);clear n;generalize w2.heap.size=gi at m ⊢;generalize w2.alloc (.cells #[] 3)=w6 at d g m ⊢;refine hK.o _ _ (x.o _ d) fun y=>?_
       (try go_frame);refine aR 8 fun K hK=>?_
       go_simp;refine (CL.o _ d).mono ?_;rintro e w7 ⟨G,c,rfl,J,n⟩;have a1:=g.lt.2;have g:=g.below n;have m:=dx m n;have Q:=d.size;have d:=d.trans (n.mono d.size);clear n;go_wp2_with fail
       refine hK.o _ _ (x.o _ d) fun y=>?_
       (try go_frame);refine aR 12 fun K hK=>?_
       refine cZ rfl (.tmp 12) (.tmp 14) 24 rfl W0.heap.size 3 j0 _ 1 8 Tryz.underlying24 hj al ao ai rfl (Dz 0) _ _ _ rfl m ak t cs (S.map iT) rfl (by rw [EI,Y.o,Nat.mul_one]) HS.o.nil (iG (HS.o.keep d)) (by intro u hu;obtain ⟨z,_,rfl⟩:=DO.1 hu;rfl) ?_ ?_ ?_ ?_
       · unfold maxLen;omega
       · omega
       · exact d.size
       intro v2 w8 E O R;obtain ⟨I,c3,rfl⟩:=aF E R;have f:w7.grownBy w8 (some gi):=O;have g:=dy g m (by decide) f;have J:=gq J m (by decide) (by decide) (by decide) f;have d:Bl W0 w8:=d.grown f d.size (fun k e=>by cases e;exact (m.lt gi rfl).1);have m:w8.ownsRow W0.heap.size 3 1 (sL I t c3) t (S.map iT):=by have h1:=E;rw [C6,DA] at h1;exact h1
       rw [C6];clear E O R f;refine hK.o _ _ (x.o _ d) fun y=>?_
       (try go_frame);refine aP 13 1 y ?_;refine aR 14 fun K hK=>?_
       have bq:=BR.o.keep d;have d0:=bq.all;go_simp;clear d0;refine hK.o _ _ (ap.o _ _ _ _ _ d) fun y=>?_
       (try go_frame);refine dN ?_;clear y;have HC:CG (cE W0.heap.size w8 H F c1 G A c I t c3 M V S):=⟨g,J.mono Q,Y.o,ar.o,m⟩;have HF:CG (∃b,W0.heap.size≤b∧H<b∧dQ b w8 G A c V):=⟨_,Q,a1,J⟩;have HK:CG (Bl W0 w8):=d;have a2:CG (az w8 (X+1) (iT 0) nZ nZ nZ):=bq;clear g J m d bq;go_wp2;refine bodyPost_ret (v:=.agg #[iT q,sL H F c1,sL G A c,sL I t c3]) ?_ rfl ⟨H,c1,G,c,I,c3,rfl,?_,?_,?_⟩
       · have e:=(((a2.o.set0 (iT q)).set1 (sL H F c1)).set2 (sL G A c)).set3 (sL I t c3);simp [results,Tryz.results57,go_sem,e.all]
       · exact (HC.o.four (by have:=U.o;omega) _ _ _ _).mono KW.o.size
       · have hx:w.heap.size≤X+1:=by have:=aj.o;omega
         exact ((((KW.o.trans (HK.o.mono KW.o.size)).setCell (p:=⟨X+1,0,none⟩) hx _).setCell (p:=⟨X+1,1,none⟩) hx _).setCell (p:=⟨X+1,2,none⟩) hx _).setCell (p:=⟨X+1,3,none⟩) hx _
       · obtain ⟨b,f1,f3,f4⟩:=HF.o;have s:X+1<b:=by have:=U.o;omega
         exact ⟨b,C8 KW.o.size f1,f3,(((f4.low s (cq _ _ _ _)).low s (cq _ _ _ _)).low s (cq _ _ _ _)).low s (cq _ _ _ _)⟩
   · go_simp;have n:Bl w1 (w1.alloc (.cells #[] 3)):=bZ;have g:=g.below n;have m:(w1.alloc (.cells #[] 3)).ownsRow W0.heap.size 3 1 (sL (w1.heap.size) 0 0) 0 []:=Do (base:=W0.heap.size) (e:=3) (size:=1) w1 #[] 0 d.size (by simp) (by simp);have d:=d.trans (n.mono d.size);clear n;generalize w1.heap.size=gi at m ⊢;generalize w1.alloc (.cells #[] 3)=w9 at d g m ⊢;refine hK.o _ _ (x.o _ d) fun y=>?_
     (try go_frame);refine aR 5 fun K hK=>?_
     refine cZ rfl (.tmp 5) (.tmp 7) 28 rfl W0.heap.size 50 i0 _ 5 56 Tryz.underlying28 hi aO aI aK rfl (Dz 4) _ _ _ rfl g.owns am F cm (aC M) rfl (by rw [aU,a4.o]) HM.o.nil (kJ (HM.o.keep d)) (aL _) ?_ ?_ ?_ ?_
     · unfold maxLen;omega
     · omega
     · exact d.size
     intro v1 w10 N W T;obtain ⟨H,c1,rfl⟩:=aF N T;have D:w9.grownBy w10 (some ga):=W;have m:=co m g.owns (by decide) D;have d:Bl W0 w10:=d.grown D d.size (fun k e=>by cases e;exact g.lt.1);have g:af w10 W0.heap.size H F c1 M:=⟨by have h1:=N;rw [C6] at h1;simpa [aC] using h1,a4.o,HM.o.ents⟩;rw [C6];clear N W T D;refine hK.o _ _ (x.o _ d) fun y=>?_
     (try go_frame);refine aR 8 fun K hK=>?_
     go_simp;refine (CL.o _ d).mono ?_;rintro e b2 ⟨G,c,rfl,J,n⟩;have a1:=g.lt.2;have g:=g.below n;have m:=dx m n;have Q:=d.size;have d:=d.trans (n.mono d.size);clear n;go_wp2_with fail
     refine hK.o _ _ (x.o _ d) fun y=>?_
     (try go_frame);refine aR 12 fun K hK=>?_
     refine cZ rfl (.tmp 12) (.tmp 14) 24 rfl W0.heap.size 3 j0 _ 1 8 Tryz.underlying24 hj al ao ai rfl (Dz 0) _ _ _ rfl m ak t cs (S.map iT) rfl (by rw [EI,Y.o,Nat.mul_one]) HS.o.nil (iG (HS.o.keep d)) (by intro u hu;obtain ⟨z,_,rfl⟩:=DO.1 hu;rfl) ?_ ?_ ?_ ?_
     · unfold maxLen;omega
     · omega
     · exact d.size
     intro v2 w12 E O R;obtain ⟨I,c3,rfl⟩:=aF E R;have f:b2.grownBy w12 (some gi):=O;have g:=dy g m (by decide) f;have J:=gq J m (by decide) (by decide) (by decide) f;have d:Bl W0 w12:=d.grown f d.size (fun k e=>by cases e;exact (m.lt gi rfl).1);have m:w12.ownsRow W0.heap.size 3 1 (sL I t c3) t (S.map iT):=by have h1:=E;rw [C6,DA] at h1;exact h1
     rw [C6];clear E O R f;refine hK.o _ _ (x.o _ d) fun y=>?_
     (try go_frame);refine aP 13 1 y ?_;refine aR 14 fun K hK=>?_
     have bq:=BR.o.keep d;have d0:=bq.all;go_simp;clear d0;refine hK.o _ _ (ap.o _ _ _ _ _ d) fun y=>?_
     (try go_frame);refine dN ?_;clear y;have HC:CG (cE W0.heap.size w12 H F c1 G A c I t c3 M V S):=⟨g,J.mono Q,Y.o,ar.o,m⟩;have HF:CG (∃b,W0.heap.size≤b∧H<b∧dQ b w12 G A c V):=⟨_,Q,a1,J⟩;have HK:CG (Bl W0 w12):=d;have a2:CG (az w12 (X+1) (iT 0) nZ nZ nZ):=bq;clear g J m d bq;go_wp2;refine bodyPost_ret (v:=.agg #[iT q,sL H F c1,sL G A c,sL I t c3]) ?_ rfl ⟨H,c1,G,c,I,c3,rfl,?_,?_,?_⟩
     · have e:=(((a2.o.set0 (iT q)).set1 (sL H F c1)).set2 (sL G A c)).set3 (sL I t c3);simp [results,Tryz.results57,go_sem,e.all]
     · exact (HC.o.four (by have:=U.o;omega) _ _ _ _).mono KW.o.size
     · have hx:w.heap.size≤X+1:=by have:=aj.o;omega
       exact ((((KW.o.trans (HK.o.mono KW.o.size)).setCell (p:=⟨X+1,0,none⟩) hx _).setCell (p:=⟨X+1,1,none⟩) hx _).setCell (p:=⟨X+1,2,none⟩) hx _).setCell (p:=⟨X+1,3,none⟩) hx _
     · obtain ⟨b,f1,f3,f4⟩:=HF.o;have s:X+1<b:=by have:=U.o;omega
       exact ⟨b,C8 KW.o.size f1,f3,(((f4.low s (cq _ _ _ _)).low s (cq _ _ _ _)).low s (cq _ _ _ _)).low s (cq _ _ _ _)⟩
 · go_simp;have n:Bl wd (wd.alloc (.cells #[] 3)):=bZ;have m:(wd.alloc (.cells #[] 3)).ownsRow W0.heap.size 3 1 (sL (wd.heap.size) 0 0) 0 []:=Do (base:=W0.heap.size) (e:=3) (size:=1) wd #[] 0 d.size (by simp) (by simp);have d:=d.trans (n.mono d.size);clear n;generalize wd.heap.size=gi at m ⊢;generalize wd.alloc (.cells #[] 3)=ab at d m ⊢;refine hK.o _ _ (x.o _ d) fun y=>?_
   (try go_frame);refine aR 2 fun K hK=>?_
   go_simp;have n:Bl ab (ab.alloc (.cells #[] 50)):=bZ;have m:=dx m n;have g:=bI ab W0.heap.size d.size;have d:=d.trans (n.mono d.size);clear n;generalize ab.heap.size=ga at g ⊢;generalize ab.alloc (.cells #[] 50)=b4 at d g m ⊢;refine hK.o _ _ (x.o _ d) fun y=>?_
   (try go_frame);refine aR 5 fun K hK=>?_
   refine cZ rfl (.tmp 5) (.tmp 7) 28 rfl W0.heap.size 50 i0 _ 5 56 Tryz.underlying28 hi aO aI aK rfl (Dz 4) _ _ _ rfl g.owns am F cm (aC M) rfl (by rw [aU,a4.o]) HM.o.nil (kJ (HM.o.keep d)) (aL _) ?_ ?_ ?_ ?_
   · unfold maxLen;omega
   · omega
   · exact d.size
   intro v1 w15 N W T;obtain ⟨H,c1,rfl⟩:=aF N T;have D:b4.grownBy w15 (some ga):=W;have m:=co m g.owns (by decide) D;have d:Bl W0 w15:=d.grown D d.size (fun k e=>by cases e;exact g.lt.1);have g:af w15 W0.heap.size H F c1 M:=⟨by have h1:=N;rw [C6] at h1;simpa [aC] using h1,a4.o,HM.o.ents⟩;rw [C6];clear N W T D;refine hK.o _ _ (x.o _ d) fun y=>?_
   (try go_frame);refine aR 8 fun K hK=>?_
   go_simp;refine (CL.o _ d).mono ?_;rintro e b7 ⟨G,c,rfl,J,n⟩;have a1:=g.lt.2;have g:=g.below n;have m:=dx m n;have Q:=d.size;have d:=d.trans (n.mono d.size);clear n;go_wp2_with fail
   refine hK.o _ _ (x.o _ d) fun y=>?_
   (try go_frame);refine aR 12 fun K hK=>?_
   refine cZ rfl (.tmp 12) (.tmp 14) 24 rfl W0.heap.size 3 j0 _ 1 8 Tryz.underlying24 hj al ao ai rfl (Dz 0) _ _ _ rfl m ak t cs (S.map iT) rfl (by rw [EI,Y.o,Nat.mul_one]) HS.o.nil (iG (HS.o.keep d)) (by intro u hu;obtain ⟨z,_,rfl⟩:=DO.1 hu;rfl) ?_ ?_ ?_ ?_
   · unfold maxLen;omega
   · omega
   · exact d.size
   intro v2 w17 E O R;obtain ⟨I,c3,rfl⟩:=aF E R;have f:b7.grownBy w17 (some gi):=O;have g:=dy g m (by decide) f;have J:=gq J m (by decide) (by decide) (by decide) f;have d:Bl W0 w17:=d.grown f d.size (fun k e=>by cases e;exact (m.lt gi rfl).1);have m:w17.ownsRow W0.heap.size 3 1 (sL I t c3) t (S.map iT):=by have h1:=E;rw [C6,DA] at h1;exact h1
   rw [C6];clear E O R f;refine hK.o _ _ (x.o _ d) fun y=>?_
   (try go_frame);refine aP 13 1 y ?_;refine aR 14 fun K hK=>?_
   have bq:=BR.o.keep d;have d0:=bq.all;go_simp;clear d0;refine hK.o _ _ (ap.o _ _ _ _ _ d) fun y=>?_
   (try go_frame);refine dN ?_;clear y;have HC:CG (cE W0.heap.size w17 H F c1 G A c I t c3 M V S):=⟨g,J.mono Q,Y.o,ar.o,m⟩;have HF:CG (∃b,W0.heap.size≤b∧H<b∧dQ b w17 G A c V):=⟨_,Q,a1,J⟩;have HK:CG (Bl W0 w17):=d;have a2:CG (az w17 (X+1) (iT 0) nZ nZ nZ):=bq;clear g J m d bq;go_wp2;refine bodyPost_ret (v:=.agg #[iT q,sL H F c1,sL G A c,sL I t c3]) ?_ rfl ⟨H,c1,G,c,I,c3,rfl,?_,?_,?_⟩
   · have e:=(((a2.o.set0 (iT q)).set1 (sL H F c1)).set2 (sL G A c)).set3 (sL I t c3);simp [results,Tryz.results57,go_sem,e.all]
   · exact (HC.o.four (by have:=U.o;omega) _ _ _ _).mono KW.o.size
   · have hx:w.heap.size≤X+1:=by have:=aj.o;omega
     exact ((((KW.o.trans (HK.o.mono KW.o.size)).setCell (p:=⟨X+1,0,none⟩) hx _).setCell (p:=⟨X+1,1,none⟩) hx _).setCell (p:=⟨X+1,2,none⟩) hx _).setCell (p:=⟨X+1,3,none⟩) hx _
   · obtain ⟨b,f1,f3,f4⟩:=HF.o;have s:X+1<b:=by have:=U.o;omega
     exact ⟨b,C8 KW.o.size f1,f3,(((f4.low s (cq _ _ _ _)).low s (cq _ _ _ _)).low s (cq _ _ _ _)).low s (cq _ _ _ _)⟩
theorem ib (D:Nat) (q:Int) (s A u:Option Addr) (f t b x d cs:Nat) (M:List ac) (V:List (List an)) (S:List Int) (w:World) (E:b6 D w s f t A b x u d cs M V S) (n:f≤1048576) (y:d≤1048576) (o:b≤100) (hS:∀B ∈ V,B.length≤100∧∀r ∈ B,1≤r.1.length∧r.1.length≤10000) :
 Calls Tryz.prog 57 #[.agg #[iT q,.slice s f t,.slice A b x,.slice u d cs]] w fun e w'=>∃m c1 G c g c3,e=.returned (.agg #[iT q,sL m f c1,sL G b c,sL g d c3])∧cE w.heap.size w' m f c1 G b c g d c3 M V S∧Bl w w' :=
 (pS D q s A u f t b x d cs M V S w E n y o hS).mono (fun e w' h=>by obtain ⟨m,c1,G,c,g,c3,h1,h2,h3,_⟩:=h;exact ⟨m,c1,G,c,g,c3,h1,h2,h3⟩)

theorem dM {A B:List an}:bf q M [A,B,C] S=true ↔ 0≤q∧q≤100000∧M.length≤60∧aI M=true∧bJ M q=true∧b9 S q=true∧(dh A 4 false q=true∧dh B 8 true q=true∧dh C 8 true q=true)∧(eT M [A,B,C]).Pairwise Ov:=by
 rw [← wm];unfold bf er;simp only [Db,decide_eq_true_eq,DC,Ec,Nat.reduceAdd,true_and]
theorem cP:bJ L q=true ↔ ∀e ∈ L,e.2.1≤q:=by
 unfold bJ;simp only [Dn,decide_eq_true_eq]
theorem wv (h:bJ L q=true) (hp:q≤p):bJ L p=true:=cP.2 (fun e b=>by have:=cP.1 h e b;omega)
theorem qY {B:List an} {b:Int} {d:Bool} (h:dh B b d q=true) (hp:q≤p):dh B b d p=true:=by
 rw [cu] at h ⊢;exact ⟨h.1,h.2.1,fun r hr=>wv (h.2.2.1 r hr) hp,h.2.2.2⟩
theorem Aq (h:b9 S q=true) (hp:q≤p):b9 S p=true:=by
 unfold b9 at h ⊢;rw [Db] at h ⊢;refine ⟨h.1,?_⟩;rw [Dn] at h ⊢;intro j b;have h1:=h.2 j b;unfold cF at h1 ⊢;cases hs:S[j]? with
 | none=>rfl
 | some s =>
  rw [hs] at h1;simp only [Db,decide_eq_true_eq] at h1 ⊢;exact ⟨h1.1,by omega,h1.2.2⟩
theorem At {A B X:List ac} (h:Ov A X) (hf:∀e ∈ B,∃y ∈ A,e.1=y.1∧e.2.1=y.2.1):Ov B X:=fun x hx y hy hk=>by
 obtain ⟨z,hz,h1,h2⟩:=hf x hx
 have:=h z hz y hy (by rw [← h1];exact hk)
 omega
theorem js (S:List Int) (b:Bool):∀e ∈ bG L S b,∃y ∈ L,e.1=y.1∧e.2.1=y.2.1 :=
 nK (fun e=>∃y ∈ L,e.1=y.1∧e.2.1=y.2.1) S b (fun b c hc _ x hx=>by
  obtain ⟨y,hy,h1,h2⟩:=AK b c x hx
  exact ⟨y,hc y hy,h1,h2⟩)
theorem gM (M:List ac) (A B C:List an):eT M [A,B,C]=M :: (A.reverse.map (·.1)++[bC B,bC C]):=rfl
theorem ue {A B:List an} (h:bf q M [A,B,C] S=true) (hM:M≠[]) (hA:A.length<4):bf q [] [A++[kF M S],B,C] S=true:=by
 obtain ⟨h1,h2,h3,h4,h5,h6,⟨ha,hb,hc⟩,hp⟩:=dM.1 h;refine dM.2 ⟨h1,h2,by simp,rfl,rfl,h6,⟨?_,hb,hc⟩,?_⟩
 · rw [cu] at ha ⊢;refine ⟨by simp;omega,?_,fun r hr=>?_,fun e=>by cases e⟩
   · unfold eE;rw [Es];intro r hr;rcases Dd.1 hr with hr | hr
     · simpa using dm ha.2.1 r hr
     · rw [Df.1 hr];have g:1≤(bG M S false).length:=List.length_pos_iff.2 (sm h4 hM S);have f:(bG M S false).length≤150:=C8 (jb M S false) (by omega);have d:ch (bG M S false) ((cV (bG M S false):Nat):Int)=true:=by
        unfold ch;rw [iB h4 S false,decide_eq_true g,decide_eq_true f];simp
       simp only [kF,d];simp
   · rcases Dd.1 hr with hr | hr
     · exact ha.2.2.1 r hr
     · rw [Df.1 hr];refine cP.2 (fun e n=>?_);obtain ⟨y,hy,_,o⟩:=js S false e n;have:=cP.1 h5 y hy;omega
 · rw [gM] at hp ⊢;rw [List.reverse_append];have b:=Dm.1 hp;refine Dm.2 ⟨(fun X _ x hx=>by cases hx),?_⟩;show (bG M S false :: (A.reverse.map (·.1)++[bC B,bC C])).Pairwise Ov
   exact Dm.2 ⟨fun X m=>At (b.1 X m) (js S false),b.2⟩
theorem ie:b9 S q=true ↔ S.length≤4∧(∀s ∈ S,0≤s∧s≤q)∧S.Pairwise (·<·):=by
 unfold b9;simp only [Db,decide_eq_true_eq,Dn,DG];constructor
 · rintro ⟨h1,h2⟩;have hs:∀j (b:j<S.length),0≤S[j]∧S[j]≤q:=fun j b=>by
    have h3:=h2 j b;unfold cF at h3;rw [j' b] at h3;simp only [Db,decide_eq_true_eq] at h3;exact ⟨h3.1,h3.2.1⟩
   have hn:∀j (b:j+1<S.length),S[j]<S[j+1]:=fun j b=>by
    have h3:=h2 (j+1) b;rw [jw (j' b) (j' (by omega))] at h3;simp only [Db,decide_eq_true_eq] at h3;exact h3.2.2
   refine ⟨h1,fun s e=>by obtain ⟨j,b,rfl⟩:=Du e;exact hs j b,?_⟩;rw [Dt];intro i j hi b f;obtain ⟨d,rfl⟩:∃d,j=i+1+d:=⟨j - i - 1,by omega⟩;clear f;induction d with
   | zero=>exact hn i b
   | succ d g=>exact Int.lt_trans (g (by omega)) (hn (i+1+d) (by omega))
 · rintro ⟨h1,h2,h3⟩;rw [Dt] at h3;refine ⟨h1,fun j b=>?_⟩;have h4:=h2 S[j] (Dq b);cases j with
   | zero=>rw [lW (j' b)];simp only [Db,decide_eq_true_eq];exact h4
   | succ i =>
    rw [jw (j' b) (j' (by omega))];simp only [Db,decide_eq_true_eq];exact ⟨h4.1,h4.2,h3 i (i+1) (by omega) b (by omega)⟩
theorem wy {A B:List an} (h:bf q M [A,B,C] S=true) (hS:S.length<4) (hq:q ∉ S):bf q M [A,B,C] (S++[q])=true:=by
 obtain ⟨h1,h2,h3,h4,h5,h6,hr,hp⟩:=dM.1 h;refine dM.2 ⟨h1,h2,h3,h4,h5,?_,hr,hp⟩;obtain ⟨k1,k2,k3⟩:=ie.1 h6;refine ie.2 ⟨by simp;omega,fun s hs=>?_,DK.2 ⟨k3,by simp,fun a ha b hb=>?_⟩⟩
 · rcases Dd.1 hs with hs | hs
   · exact k2 s hs
   · rw [Df.1 hs];exact ⟨h1,Int.le_refl _⟩
 · rw [Df.1 hb];have h7:=(k2 a ha).2;have d:a≠q:=fun e=>hq (by rw [← e];exact ha)
   omega
theorem wE {A B:List an} (h:bf q M [A,B,C] S=true) (x:Int):bf q M [A,B,C] (fS S x)=true:=by
 obtain ⟨h1,h2,h3,h4,h5,h6,hr,hp⟩:=dM.1 h;refine dM.2 ⟨h1,h2,h3,h4,h5,?_,hr,hp⟩;obtain ⟨k1,k2,k3⟩:=ie.1 h6;refine ie.2 ⟨C8 (zN S x) k1,fun s hs=>k2 s (zM hs),?_⟩;exact DV List.filter_sublist k3
theorem yU:∀(D M:List ac),D.foldl em (bF M)=bF (M++D)
 | D,M=>by unfold bF;rw [List.foldl_append]
theorem uj {e:ac} (h:e ∈ eZ q K):∃i,i<K.length∧e.2.1=q+1+i:=by
 obtain ⟨i,hi,rfl⟩:=Du h;rw [fk] at hi;exact ⟨i,hi,by simp [eZ,BJ]⟩
theorem wM (q:Int) (K:List ac):fX (eZ q K):=by
 unfold fX;rw [Dt];intro i j hi d b h;have h2:=h.2;simp [eZ,BJ] at h2;omega
theorem ud {A B:List an} (h:bf q M [A,B,C] S=true) (hw:gg q M K=true):bf (q+K.length) ((eZ q K).foldl em M) [A,B,C] S=true:=by
 obtain ⟨h1,h2,h3,h4,h5,h6,⟨ha,hb,hc⟩,hp⟩:=dM.1 h;unfold gg at hw;simp only [Db,decide_eq_true_eq] at hw;obtain ⟨O,N,F,H⟩:=hw;have hM:=um h4;have e:(eZ q K).foldl em M=bF (M++eZ q K):=by
  have:=yU (eZ q K) M;rw [hM] at this;exact this
 have hK:(K.length:Int)=((eZ q K).length:Int):=by rw [fk]
 have hs:∀x ∈ eZ q K,cT x.1 x.2.1 x.2.2.1 x.2.2.2.1 x.2.2.2.2=true:=fun x hx=>by
  obtain ⟨i,hi⟩:=DF hx;exact wJ H hi
 have hq:q+K.length≤100000:=by
  obtain ⟨x,hx⟩:∃x,(eZ q K)[K.length - 1]?=some x:=⟨_,j' (by rw [fk];omega)⟩;have h7:=hs x (CV hx);have s:=(lE h7).2;have Q:x.2.1=q+1+((K.length - 1:Nat):Int):=by
   have:=(Cx.1 hx).2;rw [← this];simp [eZ,BJ]
  omega
 have E:fX (M++eZ q K):=by
  refine DK.2 ⟨qQ h4,wM q K,fun a D b o n=>?_⟩;have h7:=cP.1 h5 a D;obtain ⟨i,_,s⟩:=uj o;have:=n.2;omega
 have hr:aI (bF (M++eZ q K))=true:=by
  obtain ⟨k1,k2⟩:=bK (M++eZ q K);refine fU (lT k1 (gL E k2.symm)) (fun x hx=>?_);rcases Dd.1 (k2.subset hx) with h7 | h7
  · obtain ⟨j,J⟩:=DF h7;exact d4 h4 J
  · exact hs x h7
 have d:∀x ∈ bF (M++eZ q K),x ∈ M∨x ∈ eZ q K:=fun x hx=>Dd.1 ((bK _).2.subset hx)
 rw [e];refine dM.2 ⟨by omega,hq,?_,hr,?_,Aq h6 (by omega),⟨qY ha (by omega),qY hb (by omega),qY hc (by omega)⟩,?_⟩
 · rw [ju,CW,fk];exact F
 · refine cP.2 (fun x hx=>?_);rcases d x hx with h7 | h7
   · have:=cP.1 h5 x h7;omega
   · obtain ⟨i,hi,s⟩:=uj h7;omega
 · rw [gM] at hp ⊢;have m:=Dm.1 hp;refine Dm.2 ⟨fun X f x hx y hy hk=>?_,m.2⟩;rcases d x hx with h7 | h7
   · exact m.1 X f x h7 y hy hk
   · obtain ⟨i,_,s⟩:=uj h7;have:y.2.1≤q:=by
      rcases Dd.1 f with f | f
      · obtain ⟨r,g,rfl⟩:=DO.1 f;exact cP.1 ((cu.1 ha).2.2.1 r (EC.1 g)) y hy
      · have hf:∀{Z:List an},dh Z 8 true q=true→y ∈ bC Z→y.2.1≤q:=fun {Z} I u=>by
         obtain ⟨r,g,t⟩:=Ej.1 u;exact cP.1 ((cu.1 I).2.2.1 r g) y t
        rcases Da.1 f with rfl | f
        · exact hf hb hy
        · rw [Df.1 f] at hy;exact hf hc hy
     omega
theorem qR {A B:List an} (htb:bf q M [A,B,C] S=true):(A.length≤4∧B.length≤8∧C.length≤8)∧(∀Z ∈ [A,B,C],∀r ∈ Z,ch r.1 r.2=true)∧bg B=true∧bg C=true:=by
 have b:er [A,B,C] q=true:=(aY htb).2.2.2.2.2.2.2.1;unfold er at b;simp only [Db] at b;obtain ⟨hA,hB,hC⟩:=b;rw [cu] at hA hB hC;have hb:∀{Z:List an},eE Z=false→∀r ∈ Z,ch r.1 r.2=true:=fun {Z} h r hr=>by
  unfold eE at h;rw [Es] at h;simpa using h r hr
 refine ⟨⟨by have:=hA.1;omega,by have:=hB.1;omega,by have:=hC.1;omega⟩,fun Z d=>?_,hB.2.2.2 rfl,hC.2.2.2 rfl⟩;simp only [Da,Dr,or_false] at d;rcases d with rfl | rfl | rfl
 · exact hb hA.2.1
 · exact hb hB.2.1
 · exact hb hC.2.1
theorem oU (B:List an):bC B=(bj B).flatten:=rfl
theorem vu {A B:List an} (htb:bf q M [A,B,C] S=true):fX ((bj A).flatten++((bj B).flatten++(bj C).flatten)):=by
 have h:=gL (rY htb) (uK M A B C);exact DV (List.sublist_append_right _ _) h
theorem jV (h:∀r ∈ Z,ch r.1 r.2=true):∀r ∈ Z,aI r.1=true∧1≤r.1.length:=fun r hr=>⟨(bE (h r hr)).2.2.1,(bE (h r hr)).1⟩
theorem A3 {A B:List an} (htb:bf q M [A,B,C] S=true) (hA:1≤A.length):fT A B:=by
 obtain ⟨_,h2,h3,_⟩:=qR htb;exact ⟨hA,jV (h2 A (by simp)),jV (h2 B (by simp)),h3,DV (EA (Ee _) (List.sublist_append_left _ _)) (vu htb)⟩
theorem AZ {A B:List an} (htb:bf q M [A,B,C] S=true) {p:Nat} (hp:p<B.length):fT ((B.drop p).take 1) C:=by
 obtain ⟨_,h2,_,h4⟩:=qR htb;have hs:((B.drop p).take 1).Sublist B:=(List.take_sublist _ _).trans (ET _ _);refine ⟨by rw [C5,Dh];omega,fun r hr=>jV (h2 B (by simp)) r (hs.subset hr),jV (h2 C (by simp)),h4,?_⟩;exact DV ((EA (mj (hs.map _)) (Ee _)).trans (List.sublist_append_right _ _)) (vu htb)
theorem xq (h:∀r ∈ Z,r.1.length≤150):(bj Z).flatten.length≤150*Z.length:=by
 induction Z with
 | nil=>simp [bj]
 | cons r Z b =>
  have h1:=h r (by simp);have h2:=b (fun x hx=>h x (by simp [hx]));simp only [bj,Ep,DW,CW,DC] at h2 ⊢;omega
theorem wh {T N:List an} (d:∀r ∈ T,r.1.length≤150) (b:∀r ∈ N,r.1.length≤150) (hl:T.length+N.length≤100):(bj (dz T N)).flatten.length≤100000:=by
 have h:=xq (Z:=dz T N) (fun r hr=>by
  rcases Dd.1 hr with h1 | h1
  · exact d r h1
  · exact b r ((kj T N).subset h1))
 have h2:(dz T N).length≤T.length+N.length:=by
  unfold dz;rw [CW];have:=(kj T N).length_le;omega
 omega
theorem ld (htb:bf q M V S=true):S.length≤4:=by
 have h1:=(aY htb).2.2.2.2.2.2.1;unfold b9 at h1;rw [Db] at h1;exact of_decide_eq_true h1.1
end Go.Proofs.YtpobkmjicbobdaaGreat
