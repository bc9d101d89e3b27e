/- Walks. -/
import Derived.Test.YtpobkmjicbobdaaGreatBl27
namespace Go.Proofs.YtpobkmjicbobdaaGreat
set_option maxRecDepth 100000
set_option maxHeartbeats 40000000
open Go.RowKit
variable {D L:List ac} {X base c cd gd i lo n nb:Nat} {a:Option Addr} {d q:Int} {s t:ByteArray} {u2 u3:Value} {w wr:World}
theorem yF (s t:ByteArray) (q d n:Int) (w:World) (hE:dR (s,q,d,t,n)) :
 Calls Tryz.prog 159 #[nZ,.agg #[.string s,iT q,iT d,.string t,iT n]] w fun e w'=>∃g c,e=.returned (sL g 1 c)∧af w' w.heap.size g 1 c [(s,q,d,t,n)]∧Bl w w':=by
 have a1:=bO hE;obtain ⟨X,hX⟩:=aH w.heap.size;obtain ⟨W,hW⟩:=aH (w.alloc (.cells #[.string s,iT q,iT d,.string t,iT n] 50));have x0:W.cell? ⟨X,0,none⟩=some (.string s):=by rw [hW,hX];simp
 have x1:W.cell? ⟨X,1,none⟩=some (iT q):=by rw [hW,hX];simp
 have x2:W.cell? ⟨X,2,none⟩=some (iT d):=by rw [hW,hX];simp
 have x3:W.cell? ⟨X,3,none⟩=some (.string t):=by rw [hW,hX];simp
 have x4:W.cell? ⟨X,4,none⟩=some (iT n):=by rw [hW,hX];simp
 have kW:Bl w W:=by rw [hW];exact bZ
 have aA:w.heap.size+1≤W.heap.size:=by rw [hW];simp
 have T:CG (X=w.heap.size):=hX;have aB:CG (Bl w W):=kW;have aJ:CG (w.heap.size+1≤W.heap.size):=aA;obtain ⟨i0,hi,Z,U,Y⟩:=info_parts Tryz.infoEnt;go_enter Tryz.func159,Tryz.ntmps159
 go_upto_block 0 with fail
 rw [← hW,← hX];clear hW hX kW aA hE;go_cut [5] (fun kv wz=>kv=iT 0∧Bl W wz)
 case first =>
  go_wp2_with fail
  go_loopw [5] (fun kv wr=>kv=iT 0∧Bl W wr) (fun _ _=>0)
  case atStart=>exact ⟨rfl,Below.refl _ _⟩
  case round =>
   obtain ⟨rfl,hb⟩:=hrel;have y0:=cell_later hb x0;have y1:=cell_later hb x1;have y2:=cell_later hb x2;have y3:=cell_later hb x3;have y4:=cell_later hb x4;have k0:Bl wr wr.drew:=(Below.refl _ wr).drew;have E:CG (∀w',Bl wr w'→(w'.cell? ⟨X,0,none⟩=some (.string s)∧w'.cell? ⟨X,1,none⟩=some (iT q)∧w'.cell? ⟨X,2,none⟩=some (iT d)∧w'.cell? ⟨X,3,none⟩=some (.string t)∧w'.cell? ⟨X,4,none⟩=some (iT n)∧X<w'.heap.size)):=fun w' kk=>⟨cell_later kk y0,cell_later kk y1,cell_later kk y2,cell_later kk y3,cell_later kk y4,Cz _ _ (cell_later kk y0)⟩
   go_wp2_with fail
   refine ez E k0 fun F=>?_
   refine aP 0 9 F ?_;refine aR 9 fun K hK=>?_
   go_simp;refine hK.o _ _ (E.o _ k0) fun F=>?_
   refine aP 10 1 F ?_;refine dN ?_;have KZ:CG (Bl W wr.drew):=hb.trans (k0.mono hb.size);clear k0 E F y0 y1 y2 y3 y4 hb;go_wp2;go_meet
   exact ⟨rfl,KZ.o⟩
 case rest =>
  obtain ⟨rfl,kz⟩:=hcut;obtain ⟨wz,av⟩:=aH wc;rw [← av] at kz ⊢;clear av;have aq:Bl w wz:=aB.o.trans (kz.mono aB.o.size);have hzs:w.heap.size+1≤wz.heap.size:=C8 aJ.o kz.size;have z0:=cell_later kz x0;have z1:=cell_later kz x1;have z2:=cell_later kz x2;have z3:=cell_later kz x3;have z4:=cell_later kz x4;have kt:Bl wz (wz.alloc (.cells #[] 50)):=bZ;have ay:CG (af (wz.alloc (.cells #[] 50)) (w.heap.size+1) wz.heap.size 0 0 []):=bI wz _ hzs;have ax:CG (fB w (wz.alloc (.cells #[] 50)) X wz.heap.size 0 0 s t q d n []):=⟨aq.trans (kt.mono aq.size),C8 hzs kt.size,cell_later kt z0,cell_later kt z1,cell_later kt z2,cell_later kt z3,cell_later kt z4,ay.o⟩;clear kz z0 z1 z2 z3 z4 kt aq;go_upto_region 4 with fail
  go_cut [6] (fun tv wt=>∃gt ct,tv=sL gt 0 ct∧fB w wt X gt 0 ct s t q d n [])
  case first =>
   go_wp2;go_meet
   exact ⟨wz.heap.size,0,rfl,ax.o⟩
  case rest =>
   obtain ⟨gt,ct,rfl,ap⟩:=hcut;obtain ⟨wt,aG⟩:=aH wc;rw [← aG] at ap ⊢;have k0:fB w wt.drew X gt 0 ct s t q d n []:=ap.below (Below.refl _ wt).drew;clear aG ap ay ax hzs;have E:CG (∀w',fB w w' X gt 0 ct s t q d n []→(w'.cell? ⟨X,0,none⟩=some (.string s)∧w'.cell? ⟨X,1,none⟩=some (iT q)∧w'.cell? ⟨X,2,none⟩=some (iT d)∧w'.cell? ⟨X,3,none⟩=some (.string t)∧w'.cell? ⟨X,4,none⟩=some (iT n)∧X<w'.heap.size)):=fun w' kk=>⟨kk.x0,kk.x1,kk.x2,kk.x3,kk.x4,kk.lt⟩
   go_wp2_with fail
   refine ez E k0 fun F=>?_
   generalize wt.drew=O at k0 F ⊢;refine aP 1 3 F ?_;refine aP 5 1 F ?_;refine aP 8 1 F ?_;have aZ:=k0.tl.lt.2;refine jX 0 6 (fun K hK=>?_) (fun K hK=>?_)
   · go_simp;have kA:Bl O (O.alloc (.cells #[] 50)):=bZ;have sA:=k0.below kA;have a2:gt≠O.heap.size:=by omega
     have rA:af (O.alloc (.cells #[] 50)) (w.heap.size+1) O.heap.size 0 0 []:=bI O _ k0.hi;generalize O.heap.size=ga at rA a2 ⊢;generalize O.alloc (.cells #[] 50)=H at sA rA ⊢;clear kA;refine hK.o _ _ (E.o _ sA) fun F=>?_
     (try go_frame);refine jX 4 6 (fun K hK=>?_) (fun K hK=>?_)
     · go_simp;refine hK.o _ _ (E.o _ sA) fun F=>?_
       (try go_frame);refine aR 6 fun K hK=>?_
       go_simp;have kN:Bl H (H.alloc (.cells #[.string s,iT q,iT d,.string t,iT n] 50)):=bZ;have Q:=sA.below kN;have rN:ag (H.alloc (.cells #[.string s,iT q,iT d,.string t,iT n] 50)) (some ⟨H.heap.size,0,none⟩) 1 1 [(s,q,d,t,n)]:=cK H _ _ _ _ _ a1.o;have rB:=rA.below kN;have ab:ga≠H.heap.size:=by have:=rA.lt.2;omega
       generalize H.heap.size=gn at rN ab ⊢;generalize H.alloc (.cells #[.string s,iT q,iT d,.string t,iT n] 50)=R at Q rN rB ⊢;clear kN;refine hK.o _ _ (E.o _ Q) fun F=>?_
       (try go_frame);refine aR 7 fun K hK=>?_
       refine aw rfl (.tmp 31) (.tmp 33) 28 rfl (w.heap.size+1) 50 i0 _ 5 56 Tryz.underlying28 hi Z U Y rfl (Dz 4) _ _ _ rfl rB.owns ⟨gn,0,none⟩ 1 1 (aC [(s,q,d,t,n)]) rfl rfl (bi rN) (aL _) (by decide) (by decide) Q.hi ?_;intro v7 w7 u y B;obtain ⟨g7,c7,rfl⟩:=aF u B;have A:R.grownBy w7 (some ga):=y;have m:=Q.grown A (by have:=rB.lt.1;omega) (by have:=rB.lt.1;have:=T.o;omega) a2;have J:af w7 (w.heap.size+1) g7 1 c7 [(s,q,d,t,n)]:=⟨u,rfl,fun l hl=>by simp only [Df] at hl;subst hl;exact a1.o⟩;refine hK.o _ _ (E.o _ m) fun F=>?_
       (try go_frame);refine aR 9 fun K hK=>?_
       refine aw rfl (.tmp 34) (.tmp 35) 28 rfl (w.heap.size+1) 50 i0 _ 5 56 Tryz.underlying28 hi Z U Y rfl (Dz 4) _ _ _ rfl J.owns ⟨gt,0,none⟩ 0 ct [] rfl rfl (fun _ _ h=>by cases h) (fun _ h=>by cases h) (by decide) (by decide) m.hi ?_;intro v9 w9 r f C;obtain ⟨g9,c9,rfl⟩:=aF r C;have b:w7.grownBy w9 (some g7):=f;have I:Bl w w9:=m.low.grown b m.low.size (fun k e=>by cases e;have:=J.lt.1;omega);have a8:CG (af w9 w.heap.size g9 1 c9 [(s,q,d,t,n)]):=af.mono (base:=w.heap.size+1) ⟨r,rfl,J.ents⟩ (by omega);have a9:CG (Bl w w9):=I;refine hK.o _ _ ?_ (fun F=>?_)
       · have N:X≠g7:=by have:=J.lt.1;have:=T.o;omega
         exact ⟨(aj b (x:=⟨X,0,none⟩) m.lt N).trans m.x0,(aj b (x:=⟨X,1,none⟩) m.lt N).trans m.x1,(aj b (x:=⟨X,2,none⟩) m.lt N).trans m.x2,(aj b (x:=⟨X,3,none⟩) m.lt N).trans m.x3,(aj b (x:=⟨X,4,none⟩) m.lt N).trans m.x4,l' m.lt f.size⟩
       clear hK K;(try go_frame);refine aP 10 1 F ?_;refine dN ?_;clear r f C u y B J m I;go_wp2;go_ret;exact ⟨g9,c9,rfl,a8.o,a9.o⟩
     · go_simp;have kN:Bl H (H.alloc (.cells #[.string s,iT q,iT d,.string t,iT n] 50)):=bZ;have Q:=sA.below kN;have rN:ag (H.alloc (.cells #[.string s,iT q,iT d,.string t,iT n] 50)) (some ⟨H.heap.size,0,none⟩) 1 1 [(s,q,d,t,n)]:=cK H _ _ _ _ _ a1.o;have rB:=rA.below kN;have ab:ga≠H.heap.size:=by have:=rA.lt.2;omega
       generalize H.heap.size=gn at rN ab ⊢;generalize H.alloc (.cells #[.string s,iT q,iT d,.string t,iT n] 50)=R at Q rN rB ⊢;clear kN;refine hK.o _ _ (E.o _ Q) fun F=>?_
       (try go_frame);refine aR 4 fun K hK=>?_
       go_simp;refine hK.o _ _ (E.o _ Q) fun F=>?_
       (try go_frame);refine aR 7 fun K hK=>?_
       refine aw rfl (.tmp 31) (.tmp 33) 28 rfl (w.heap.size+1) 50 i0 _ 5 56 Tryz.underlying28 hi Z U Y rfl (Dz 4) _ _ _ rfl rB.owns ⟨gn,0,none⟩ 1 1 (aC [(s,q,d,t,n)]) rfl rfl (bi rN) (aL _) (by decide) (by decide) Q.hi ?_;intro v7 w7 u y B;obtain ⟨g7,c7,rfl⟩:=aF u B;have A:R.grownBy w7 (some ga):=y;have m:=Q.grown A (by have:=rB.lt.1;omega) (by have:=rB.lt.1;have:=T.o;omega) a2;have J:af w7 (w.heap.size+1) g7 1 c7 [(s,q,d,t,n)]:=⟨u,rfl,fun l hl=>by simp only [Df] at hl;subst hl;exact a1.o⟩;refine hK.o _ _ (E.o _ m) fun F=>?_
       (try go_frame);refine aR 9 fun K hK=>?_
       refine aw rfl (.tmp 34) (.tmp 35) 28 rfl (w.heap.size+1) 50 i0 _ 5 56 Tryz.underlying28 hi Z U Y rfl (Dz 4) _ _ _ rfl J.owns ⟨gt,0,none⟩ 0 ct [] rfl rfl (fun _ _ h=>by cases h) (fun _ h=>by cases h) (by decide) (by decide) m.hi ?_;intro v9 w9 r f C;obtain ⟨g9,c9,rfl⟩:=aF r C;have b:w7.grownBy w9 (some g7):=f;have I:Bl w w9:=m.low.grown b m.low.size (fun k e=>by cases e;have:=J.lt.1;omega);have a8:CG (af w9 w.heap.size g9 1 c9 [(s,q,d,t,n)]):=af.mono (base:=w.heap.size+1) ⟨r,rfl,J.ents⟩ (by omega);have a9:CG (Bl w w9):=I;refine hK.o _ _ ?_ (fun F=>?_)
       · have N:X≠g7:=by have:=J.lt.1;have:=T.o;omega
         exact ⟨(aj b (x:=⟨X,0,none⟩) m.lt N).trans m.x0,(aj b (x:=⟨X,1,none⟩) m.lt N).trans m.x1,(aj b (x:=⟨X,2,none⟩) m.lt N).trans m.x2,(aj b (x:=⟨X,3,none⟩) m.lt N).trans m.x3,(aj b (x:=⟨X,4,none⟩) m.lt N).trans m.x4,l' m.lt f.size⟩
       clear hK K;(try go_frame);refine aP 10 1 F ?_;refine dN ?_;clear r f C u y B J m I;go_wp2;go_ret;exact ⟨g9,c9,rfl,a8.o,a9.o⟩
   · go_simp;have kN:Bl O (O.alloc (.cells #[.string s,iT q,iT d,.string t,iT n] 50)):=bZ;have Q:=k0.below kN;have rN:ag (O.alloc (.cells #[.string s,iT q,iT d,.string t,iT n] 50)) (some ⟨O.heap.size,0,none⟩) 1 1 [(s,q,d,t,n)]:=cK O _ _ _ _ _ a1.o;have aD:gt<(O.alloc (.cells #[.string s,iT q,iT d,.string t,iT n] 50)).heap.size:=by rw [Dc];omega
     generalize O.heap.size=gn at rN ⊢;generalize O.alloc (.cells #[.string s,iT q,iT d,.string t,iT n] 50)=R at Q rN aD ⊢;clear kN;refine hK.o _ _ (E.o _ Q) fun F=>?_
     (try go_frame);refine aR 0 fun K hK=>?_
     go_simp;have kA:Bl R (R.alloc (.cells #[] 50)):=bZ;have sA:=Q.below kA;have a2:gt≠R.heap.size:=by omega
     have rA:af (R.alloc (.cells #[] 50)) (w.heap.size+1) R.heap.size 0 0 []:=bI R _ Q.hi;have rM:=rN.keep kA;have ab:R.heap.size≠gn:=by have h1:gn<R.heap.size:=(rN.lies _ rfl (by decide)).1;omega
     generalize R.heap.size=ga at rA ab a2 ⊢;generalize R.alloc (.cells #[] 50)=H at sA rA rM ⊢;clear kA;refine hK.o _ _ (E.o _ sA) fun F=>?_
     (try go_frame);refine aR 4 fun K hK=>?_
     go_simp;refine hK.o _ _ (E.o _ sA) fun F=>?_
     (try go_frame);refine aR 7 fun K hK=>?_
     refine aw rfl (.tmp 31) (.tmp 33) 28 rfl (w.heap.size+1) 50 i0 _ 5 56 Tryz.underlying28 hi Z U Y rfl (Dz 4) _ _ _ rfl rA.owns ⟨gn,0,none⟩ 1 1 (aC [(s,q,d,t,n)]) rfl rfl (bi rM) (aL _) (by decide) (by decide) sA.hi ?_;intro v7 w7 u y B;obtain ⟨g7,c7,rfl⟩:=aF u B;have A:H.grownBy w7 (some ga):=y;have m:=sA.grown A (by have:=rA.lt.1;omega) (by have:=rA.lt.1;have:=T.o;omega) a2;have J:af w7 (w.heap.size+1) g7 1 c7 [(s,q,d,t,n)]:=⟨u,rfl,fun l hl=>by simp only [Df] at hl;subst hl;exact a1.o⟩;refine hK.o _ _ (E.o _ m) fun F=>?_
     (try go_frame);refine aR 9 fun K hK=>?_
     refine aw rfl (.tmp 34) (.tmp 35) 28 rfl (w.heap.size+1) 50 i0 _ 5 56 Tryz.underlying28 hi Z U Y rfl (Dz 4) _ _ _ rfl J.owns ⟨gt,0,none⟩ 0 ct [] rfl rfl (fun _ _ h=>by cases h) (fun _ h=>by cases h) (by decide) (by decide) m.hi ?_;intro v9 w9 r f C;obtain ⟨g9,c9,rfl⟩:=aF r C;have b:w7.grownBy w9 (some g7):=f;have I:Bl w w9:=m.low.grown b m.low.size (fun k e=>by cases e;have:=J.lt.1;omega);have a8:CG (af w9 w.heap.size g9 1 c9 [(s,q,d,t,n)]):=af.mono (base:=w.heap.size+1) ⟨r,rfl,J.ents⟩ (by omega);have a9:CG (Bl w w9):=I;refine hK.o _ _ ?_ (fun F=>?_)
     · have N:X≠g7:=by have:=J.lt.1;have:=T.o;omega
       exact ⟨(aj b (x:=⟨X,0,none⟩) m.lt N).trans m.x0,(aj b (x:=⟨X,1,none⟩) m.lt N).trans m.x1,(aj b (x:=⟨X,2,none⟩) m.lt N).trans m.x2,(aj b (x:=⟨X,3,none⟩) m.lt N).trans m.x3,(aj b (x:=⟨X,4,none⟩) m.lt N).trans m.x4,l' m.lt f.size⟩
     clear hK K;(try go_frame);refine aP 10 1 F ?_;refine dN ?_;clear r f C u y B J m I;go_wp2;go_ret;exact ⟨g9,c9,rfl,a8.o,a9.o⟩
theorem cH.set (h:cH w lo a n c L) {p:Addr} (hp:∀x,a=Option.some x→p.block≠x.block) (v:Value):cH (w.setCell p v) lo a n c L :=
 ⟨h.1,fun x e=>by
  obtain ⟨g,b,o⟩:=h.2 x e
  exact ⟨g,b,o.setCell (by have:=hp x e;rw [b] at this;exact this) v⟩⟩
theorem cH.inl (h:cH w lo a n c L):eW lo w a n c L:=⟨h.entsAt,fun x e _=>(h.lt x e).1⟩
theorem yE (a:Option Addr) (len b:Nat) (L:List ac) (s t:ByteArray) (q d n:Int) (w:World) (hL:cH w lo a len b L) (f:len≤1048576) (hE:dR (s,q,d,t,n)) :
 Calls Tryz.prog 159 #[.slice a len b,.agg #[.string s,iT q,iT d,.string t,iT n]] w fun e w'=>∃g c,e=.returned (sL g (len+1) c)∧af w' w.heap.size g (len+1) c (em L (s,q,d,t,n))∧Bl w w':=by
 cases a with
 | none =>
  obtain ⟨rfl,rfl,rfl⟩:=hL.1 rfl;exact yF s t q d n w hE
 | some x =>
  obtain ⟨g,rfl,h⟩:=hL.2 x rfl;exact qU g len b L s t q d n w h.entsAt h.lt.2 f hE
theorem af.at5 {g:Nat} {nn:Int} (h:af w base g n c L) (hx:L[i]?=some (s,q,d,t,nn)):w.cell? ⟨g,i*5,none⟩=some (.string s)∧w.cell? ⟨g,i*5+1,none⟩=some (iT q)∧w.cell? ⟨g,i*5+2,none⟩=some (iT d)∧w.cell? ⟨g,i*5+3,none⟩=some (.string t)∧w.cell? ⟨g,i*5+4,none⟩=some (iT nn):=by
 obtain ⟨hi,b⟩:=Cx.1 hx;obtain ⟨c0,c1,c2,c3,c4⟩:=h.entsAt.cells _ rfl i hi;rw [b] at c0 c1 c2 c3 c4;simp only [C6] at c0 c1 c2 c3 c4;exact ⟨c0,c1,c2,c3,c4⟩
def Cd (lo:Nat) (q:Int) (a1:Option Addr) (nm c1:Nat) (av:Option Addr) (nv cv:Nat) (ak:Option Addr) (ns cs:Nat) (M K:List ac) (w:World) (e:Ending) (w':World):Prop :=
 (gg q M K=true→∃a n c,e=.returned (.tuple #[.agg #[iT (q+K.length),.slice a n c,.slice av nv cv,.slice ak ns cs],.bool true])∧eW w.heap.size w' a n c ((eZ q K).foldl em M)∧Bl w w'∧cH w' lo a n c ((eZ q K).foldl em M))∧(gg q M K=false→e=.returned (.tuple #[.agg #[iT q,.slice a1 nm c1,.slice av nv cv,.slice ak ns cs],.bool false])∧Bl w w')
theorem ui {K:List ac} {w':World} {e:Ending} (h:jp q K n w e w'):((eS q K=true∧1≤n∧n≤12∧∃g c,e=.returned (.tuple #[sL g n c,.bool true])∧af w' w.heap.size g n c (eZ q K))∨((eS q K=false∨n=0∨12<n)∧∃a m c L,e=.returned (.tuple #[.slice a m c,.bool false])∧ag w' a m c L))∧Bl w w':=by
 obtain ⟨v,f,b,h1,h2,h3⟩:=h;refine ⟨?_,h3⟩;cases hs:eS q K with
 | true =>
  obtain ⟨⟨g,c,rfl,h4⟩,rfl⟩:=h1 hs;by_cases hn:1≤n∧n≤12
  · exact .inl ⟨rfl,hn.1,hn.2,g,c,by rw [b];simp [hn.1,hn.2],h4⟩
  · refine .inr ⟨.inr (by omega),some ⟨g,0,none⟩,n,c,_,?_,h4.entsAt⟩;rw [b,show (decide (1≤n) && decide (n≤12))=false by simp;omega]
 | false =>
  obtain ⟨rfl,a,m,c,L,rfl,hL⟩:=h2 hs;exact .inr ⟨.inl rfl,a,m,c,L,b,hL⟩
theorem xO (M:List ac) {D:List ac} {i:Nat} {e:ac} (h:D[i]?=some e):(D.take (i+1)).foldl em M=em ((D.take i).foldl em M) e:=by
 rw [Dl,h];simp
structure yi (lo:Nat) (w wr:World) (X gd nb cd:Nat) (D:List ac) (q:Int) (a:Option Addr) (n c:Nat) (L:List ac) (u2 u3:Value):Prop where
 low:Bl w wr
 bx:az wr X (iT q) (.slice a n c) u2 u3
 br:az wr (X+1) (iT 0) nZ nZ nZ
 mem:cH wr lo a n c L
 dn:af wr 0 gd nb cd D
 ne:(∀x,a=some x→x.block≠X∧x.block≠X+1)∧gd≠X∧gd≠X+1
 hx:w.heap.size≤X
 hlo:lo≤w.heap.size
theorem yi.below {b:World} (h:yi lo w wr X gd nb cd D q a n c L u2 u3) (hb:Bl wr b):yi lo w b X gd nb cd D q a n c L u2 u3 :=
 ⟨h.low.trans (hb.mono h.low.size),h.bx.keep hb,h.br.keep hb,h.mem.below hb,h.dn.below hb,h.ne,h.hx,h.hlo⟩
theorem yi.held {b m:Int} (h:yi lo w wr X gd nb cd D q a n c L u2 u3) (hg:D[i]?=some (s,b,d,t,m)):wr.cell? ⟨gd,i*5,none⟩=some (.string s)∧wr.cell? ⟨gd,i*5+1,none⟩=some (iT b)∧wr.cell? ⟨gd,i*5+2,none⟩=some (iT d)∧wr.cell? ⟨gd,i*5+3,none⟩=some (.string t)∧wr.cell? ⟨gd,i*5+4,none⟩=some (iT m)∧gd<wr.heap.size∧X<wr.heap.size:=by
 obtain ⟨c0,c1,c2,c3,c4⟩:=h.dn.at5 hg;exact ⟨c0,c1,c2,c3,c4,h.dn.lt.2,h.bx.lt⟩
theorem yi.put {g2 n2 c2:Nat} {b:List ac} (h:yi lo w wr X gd nb cd D q a n c L u2 u3) (hO:af wr base g2 n2 c2 b) (hb:X+1<base):yi lo w (wr.setCell ⟨X,1,none⟩ (sL g2 n2 c2)) X gd nb cd D q (pT g2) n2 c2 b u2 u3:=by
 have hl:=hO.lt.1;exact ⟨h.low.setCell (p:=⟨X,1,none⟩) h.hx _,h.bx.set1 _,h.br.other (by omega) _,(cH.set (p:=⟨X,1,none⟩) (.some (hO.mono (by have:=h.hx;have:=h.hlo;omega))) (fun x e=>by cases e;show X≠g2;omega) _),h.dn.setCell (p:=⟨X,1,none⟩) (fun e=>h.ne.2.1 e.symm) _,⟨fun x e=>by cases e;exact ⟨by show g2≠_;omega,by show g2≠_;omega⟩,h.ne.2⟩,h.hx,h.hlo⟩
theorem ul {aF:Nat} (lo:Nat) (q:Int) (a1:Option Addr) (b c1:Nat) (u:Option Addr) (y f:Nat) (g:Option Addr) (r cs:Nat) (M:List ac) (V:List (List an)) (S:List Int) (ab:Option Addr) (nb cb:Nat) (K:List ac) (w:World) (hT:b6 aF w a1 b c1 u y f g r cs M V S) (aE:lo≤w.heap.size) (hO:cH w lo a1 b c1 M) (hK:ag w ab nb cb K) (aL:nb≤1048576) (bc:b≤60) (aJ:0≤q) (aV:q≤100000) :
 Calls Tryz.prog 98 #[.agg #[iT q,.slice a1 b c1,.slice u y f,.slice g r cs],.slice ab nb cb] w (Cd lo q a1 b c1 u y f g r cs M K w):=by
 obtain ⟨X,hX⟩:=aH w.heap.size;obtain ⟨W,hW⟩:=aH ((w.alloc (.cells #[iT q,.slice a1 b c1,.slice u y f,.slice g r cs] 31)).alloc (.cells #[iT 0,nZ,nZ,nZ] 31));have kW:Bl w W:=by rw [hW];exact bZ.alloc (by simp) _
 have bx:az W X (iT q) (.slice a1 b c1) (.slice u y f) (.slice g r cs):=by rw [hW,hX];exact (az.new _ _ _ _ _ _).alloc _
 have br:az W (X+1) (iT 0) nZ nZ nZ:=by
  have:=az.new (w.alloc (.cells #[iT q,.slice a1 b c1,.slice u y f,.slice g r cs] 31)) 31 (iT 0) nZ nZ nZ;rw [Dc] at this;rw [hW,hX];exact this
 have HX:CG (X=w.heap.size):=hX;have aK:CG (W.heap.size=X+1+1):=by show _=_;rw [hW,hX];simp
 have K0:CG (Bl w W):=kW;have HT:=bO hT;have F:CG (K.length=nb):=hK.length;have am:CG (M.length=b):=hO.len;have Z:=bO hO;have CT:CG (Calls Tryz.prog 158 #[.slice ab nb cb,iT q] W (jp q K nb W)):=wN ab nb cb K q W (hK.keep kW) aL aJ aV;clear kW hT hK hO;have e1:IntKind.i64.wrap ((b:Int)+(nb:Int))=(b:Int)+(nb:Int):=by rw [Dg];unfold wrap64;omega
 have e2:IntKind.i64.wrap (q+(nb:Int))=q+(nb:Int):=by rw [Dg];unfold wrap64;omega
 go_enter Tryz.func98,Tryz.ntmps98
 go_upto_region 1 with fail
 rw [← hX,← hW];clear hX hW;have x0:=bx.all;go_wp2_with fail
 clear x0;refine CT.o.mono ?_;rintro e w1 C;obtain ⟨C,I⟩:=ui C;have K1:CG (Bl w w1):=K0.o.trans (I.mono K0.o.size);have aj:CG (Bl W w1):=I;have B:=bx.keep I;have A:=br.keep I;clear I bx br CT;rcases C with ⟨ar,bd,b4,gd,cd,rfl,hD⟩ | ⟨aY,ad,md,cd,_,rfl,_⟩
 rotate_left
 · have T:CG (gg q M K=false):=by
    show _=_
    have:=F.o;unfold gg;rcases aY with h | h | h
    · rw [h];simp
    · simp [show ¬1≤K.length by omega]
    · simp [show ¬K.length≤12 by omega]
   have HR:CG (az w1 (X+1) (iT 0) nZ nZ nZ):=A;have x0:=B.all;have r0:=A.all;clear B A;go_wp2;refine bodyPost_ret (v:=.tuple #[.agg #[iT q,.slice a1 b c1,.slice u y f,.slice g r cs],.bool false]) ?_ rfl (show Cd lo q a1 b c1 u y f g r cs M K w _ _ from ⟨(fun h=>by rw [T.o] at h;cases h),fun _=>⟨rfl,?_⟩⟩)
   · have e:=((((HR.o.set0 (iT q)).set1 (.slice a1 b c1)).set2 (.slice u y f)).set3 (.slice g r cs));simp [results,Tryz.results98,go_sem,e.all]
   · have hx:w.heap.size≤X+1:=by have:=HX.o;omega
     exact (qX K1.o hx _ _ _ _)
 have HD:CG (af w1 W.heap.size gd nb cd (eZ q K)):=hD;have ax:CG (eS q K=true):=ar;clear hD ar;by_cases bf:60<b+nb
 · have a6:(b:Int)+(nb:Int) > 60:=by omega
   have ai:(60:Int)<(b:Int)+(nb:Int):=by omega
   have T:CG (gg q M K=false):=by show _=_;have:=F.o;have:=am.o;unfold gg;simp [show ¬M.length+K.length≤60 by omega]
   have HR:CG (az w1 (X+1) (iT 0) nZ nZ nZ):=A;have x0:=B.all;have r0:=A.all;clear B A;go_wp2;refine bodyPost_ret (v:=.tuple #[.agg #[iT q,.slice a1 b c1,.slice u y f,.slice g r cs],.bool false]) ?_ rfl (show Cd lo q a1 b c1 u y f g r cs M K w _ _ from ⟨(fun h=>by rw [T.o] at h;cases h),fun _=>⟨rfl,?_⟩⟩)
   · have e:=((((HR.o.set0 (iT q)).set1 (.slice a1 b c1)).set2 (.slice u y f)).set3 (.slice g r cs));simp [results,Tryz.results98,go_sem,e.all]
   · have hx:w.heap.size≤X+1:=by have:=HX.o;omega
     exact (qX K1.o hx _ _ _ _)
 have a6:¬(b:Int)+(nb:Int) > 60:=by omega
 have ai:¬(60:Int)<(b:Int)+(nb:Int):=by omega
 have aw:CG (gg q M K=true):=by
  show _=_
  have h1:=F.o;have h2:=am.o;have h3:=ax.o;unfold gg;rw [h3];simp;omega
 have ST:CG (yi lo w w1 X gd nb cd (eZ q K) (q) a1 (b) c1 (M) (.slice u y f) (.slice g r cs)):=by
  have hd:=HD.o.lt.1;have hx:=HX.o;have hs:=aK.o;exact ⟨K1.o,B,A,(Z.o.below K0.o).below aj.o,HD.o.mono (C3 _),⟨fun x e=>by have hl:=(Z.o.lt x e).2;exact ⟨by omega,by omega⟩,by omega,by omega⟩,by omega,aE⟩
 have x0:=B.all;clear B A;go_wp2_with fail
 clear x0;go_loopw [8] (fun iv wr=>∃(i:Nat) (a:Option Addr) (c:Nat),i≤nb∧iv=iT i∧(0<i→∀x,a=some x→w.heap.size≤x.block)∧yi lo w wr X gd nb cd (eZ q K) (q) a (b+i) c (((eZ q K).take i).foldl em M) (.slice u y f) (.slice g r cs)) (fun iv _=>nb - (intOf iv).toNat)
 case atStart=>exact ⟨0,a1,c1,C3 _,rfl,fun h=>absurd h (Nat.lt_irrefl 0),ST.o⟩
 case round =>
  clear ST HD K1 aj Z ax;obtain ⟨i,a,c,bj,rfl,b2,C⟩:=hrel;have aT:=bO b2;have N:CG (yi lo w wr X gd nb cd (eZ q K) (q) a (b+i) c (((eZ q K).take i).foldl em M) (.slice u y f) (.slice g r cs)):=C;clear C;by_cases aS:i<nb
  · have aq:(i:Int)<(nb:Int):=by omega
    obtain ⟨⟨s,q0,d,t,m⟩,hg⟩:∃e,(eZ q K)[i]?=some e:=⟨_,j' (by rw [fk,F.o];exact aS)⟩;have HG:CG ((eZ q K)[i]?=some (s,q0,d,t,m)):=hg;have b1:CG (dR (s,q0,d,t,m)):=N.o.dn.entsAt.ents _ (CV hg);obtain ⟨LL,U⟩:=aH (((eZ q K).take i).foldl em M);have aZ:CG (LL=((eZ q K).take i).foldl em M):=U;have J:yi lo w wr.drew X gd nb cd (eZ q K) (q) a (b+i) c (LL) (.slice u y f) (.slice g r cs):=by rw [U];exact N.o.below (Below.refl _ wr).drew
    clear hg U N;go_upto_region 7 with fail
    refine wp_region_held_drew (S:=(fun w'=>w'.cell? ⟨gd,i*5,none⟩=some (.string s)∧w'.cell? ⟨gd,i*5+1,none⟩=some (iT q0)∧w'.cell? ⟨gd,i*5+2,none⟩=some (iT d)∧w'.cell? ⟨gd,i*5+3,none⟩=some (.string t)∧w'.cell? ⟨gd,i*5+4,none⟩=some (iT m)∧gd<w'.heap.size∧X<w'.heap.size)) (by kernel_rfl) (J.held HG.o) (fun O=>?_);generalize wr.drew=wd at J O ⊢;refine aP 0 1 O ?_;refine aP 2 4 O ?_;refine aR 1 fun K hK=>?_
    have q1:=J.bx.c1;have qz:=J.bx.lt;go_simp;clear q1 qz;refine hK.o _ _ (J.held HG.o) (fun O=>?_);clear hK K;(try go_frame);refine aR 6 fun K hK=>?_
    go_simp;refine (yE a (b+i) c LL s t q0 d m _ J.mem (by omega) b1.o).mono ?_;rintro e w2 ⟨g2,c2,rfl,R,al⟩;have k2:=J.below al;go_wp2_with fail
    refine hK.o _ _ (k2.held HG.o) (fun O=>?_);clear hK K;(try go_frame);refine aP 7 1 O ?_;refine aR 8 fun K hK=>?_
    have q1:=k2.bx.c1;have qf:=k2.bx.fz;have qz:=k2.bx.lt;go_simp;have aQ:CG (w.heap.size≤g2):=by have h1:=R.lt.1;have h2:=J.bx.lt;have h3:=HX.o;show _≤_;omega
    have ks:=k2.put (g2:=g2) (n2:=b+i+1) (c2:=c2) R J.br.lt;clear q1 qf qz;refine hK.o _ _ (ks.held HG.o) (fun O=>?_);clear hK K;(try go_frame);refine dN ?_;generalize w2.setCell ⟨X,1,none⟩ (sL g2 (b+i+1) c2)=w9 at ks ⊢;have KS:CG (yi lo w w9 X gd nb cd (eZ q K) (q) (pT g2) (b+i+1) c2 (em LL (s,q0,d,t,m)) (.slice u y f) (.slice g r cs)):=ks;clear ks k2 J R al O;go_wp2;go_roundw
    case rel =>
     refine ⟨i+1,some ⟨g2,0,none⟩,c2,by omega,by go_num,fun _ x e=>by cases e;exact aQ.o,?_⟩;have h:=KS.o;rw [aZ.o,← xO M HG.o] at h;exact h
    case measure=>simp [intOf];omega
  · have aq:¬(i:Int)<(nb:Int):=by omega
    obtain rfl:i=nb:=by omega
    have H:(eZ q K).take i=eZ q K:=C9 (by rw [fk,F.o];omega);have HF:CG (cH wr lo a (b+i) c ((eZ q K).foldl em M)):=by have h:=N.o.mem;rw [H] at h;exact h
    have a0:=N.o.bx;have ap:=N.o.br;have HB:CG (Bl w wr):=N.o.low;have Y:CG (∀x,a=some x→x.block≠X∧x.block≠X+1):=N.o.ne.1;clear N H;have x0:=a0.all;obtain ⟨w3,E⟩:=aH (wr.setCell ⟨X,0,none⟩ (iT (q+(i:Int))));have aM:=HX.o;have ae:az w3 X (iT (q+(i:Int))) (.slice a (b+i) c) (.slice u y f) (.slice g r cs):=by rw [E];exact a0.set0 _
    have Q:az w3 (X+1) (iT 0) nZ nZ nZ:=by rw [E];exact ap.other (by omega) _
    have a7:CG (cH w3 lo a (b+i) c ((eZ q K).foldl em M)):=by rw [E];exact HF.o.set (p:=⟨X,0,none⟩) (fun x e h=>(Y.o x e).1 h.symm) _
    have aG:CG (Bl w w3):=by rw [E];exact HB.o.setCell (p:=⟨X,0,none⟩) (by show _≤X;omega) _
    clear aM;go_upto_region 9 with fail
    rw [← E];clear E x0 a0 ap HF HB;have x0:=ae.all;have r0:=Q.all;have HR:CG (az w3 (X+1) (iT 0) nZ nZ nZ):=Q;clear ae Q;go_wp2;have aI:=F.o;have hx:w.heap.size≤X+1:=by have:=HX.o;omega
    refine bodyPost_ret (v:=.tuple #[.agg #[iT (q+(i:Int)),.slice a (b+i) c,.slice u y f,.slice g r cs],.bool true]) ?_ rfl (show Cd lo q a1 b c1 u y f g r cs M K w _ _ from ⟨fun _=>⟨_,_,_,by rw [aI],?_,(qX aG.o hx _ _ _ _),?_⟩,fun h=>by rw [aw.o] at h;cases h⟩)
    · have e:=((((HR.o.set0 (iT (q+(i:Int)))).set1 (.slice a (b+i) c)).set2 (.slice u y f)).set3 (.slice g r cs));simp [results,Tryz.results98,go_sem,e.all]
    · have hn:∀o x,a=some x→(⟨X+1,o,none⟩:Addr).block≠x.block:=fun _ x e h=>(Y.o x e).2 h.symm
      have ah:0<i:=by omega
      exact ⟨(cH.inl ((((a7.o.set (hn 0) _).set (hn 1) _).set (hn 2) _).set (hn 3) _)).1,fun x e _=>aT.o ah x e⟩
    · have hn:∀o x,a=some x→(⟨X+1,o,none⟩:Addr).block≠x.block:=fun _ x e h=>(Y.o x e).2 h.symm
      exact (((a7.o.set (hn 0) _).set (hn 1) _).set (hn 2) _).set (hn 3) _
theorem bX (R P:Nat) (a:Option Addr) (len r:Nat) (n:Int) (w:World) (h:aZ w R a len r P) (N:P<100000) (hn:n≤1000000) :
 Calls Tryz.prog 75 #[.pointer (pT R),iT n] w fun e w'=>∃q:Int,e=.returned (iT q)∧A5 n q∧aZ w' R a len r (P+1)∧w.grownBy w' (some R):=by
 have c0:=h.c0;have c1:=h.c1;have f1:=h.f1;have few:=h.few;have H:=bO h;clear h;by_cases h1:n<1
 · go_enter Tryz.func75,Tryz.ntmps75
   go_wp2;go_ret;exact ⟨0,rfl,⟨by omega,fun h=>by omega⟩,H.o.next,iJ w R _⟩
 by_cases h2:len=0
 · subst h2;go_enter Tryz.func75,Tryz.ntmps75
   go_wp2;go_ret;exact ⟨0,rfl,⟨by omega,fun h=>by omega⟩,H.o.next,iJ w R _⟩
 obtain ⟨b,f,rfl,m,Q,hbytes⟩:∃b f,a=some ⟨b,f,none⟩∧b≠R∧b<w.heap.size∧∀i,i<len→∃z:Nat,z≤255∧w.cell? ⟨b,f+i,none⟩=some (.int .u8 z):=by
  rcases H.o.bytes with h0 | h0
  · exact absurd h0 h2
  · exact h0
 have B:CG (∀i,i<len→∃z:Nat,z≤255∧w.cell? ⟨b,f+i,none⟩=some (.int .u8 z)):=hbytes;clear hbytes;have J:((len:Int) == 0)=false:=by simpa using h2
 by_cases h3:P<len
 · obtain ⟨z,hz,g⟩:=B.o P h3;have u:(w.setCell ⟨R,1,none⟩ (iT ((P:Int)+1))).cell? ⟨b,f+P,none⟩=some (.int .u8 z):=by rw [u' _ _ _ _ (fun e=>m (congrArg Addr.block e).symm)];exact g
   go_enter Tryz.func75,Tryz.ntmps75
   go_wp2;go_ret;exact ⟨_,rfl,⟨Int.emod_nonneg _ (by omega),fun _=>Int.emod_lt_of_pos _ (by omega)⟩,H.o.next,iJ w R _⟩
 · have E:P % len<len:=Nat.mod_lt _ (by omega);have A:(P*7+3) % len<len:=Nat.mod_lt _ (by omega);obtain ⟨z,hz,g⟩:=B.o (P % len) E;obtain ⟨y,hy,C⟩:=B.o ((P*7+3) % len) A;have u:(w.setCell ⟨R,1,none⟩ (iT ((P:Int)+1))).cell? ⟨b,f+P % len,none⟩=some (.int .u8 z):=by rw [u' _ _ _ _ (fun e=>m (congrArg Addr.block e).symm)];exact g
   have F:(w.setCell ⟨R,1,none⟩ (iT ((P:Int)+1))).cell? ⟨b,f+(P*7+3) % len,none⟩=some (.int .u8 y):=by rw [u' _ _ _ _ (fun e=>m (congrArg Addr.block e).symm)];exact C
   have x:(0:Int)<(len:Int):=by omega
   have T:(0:Int)≤(P:Int) % (len:Int):=Int.emod_nonneg _ (by omega);have I:(P:Int) % (len:Int)<(len:Int):=Int.emod_lt_of_pos _ x;have O:(0:Int)≤((P:Int)*7+3) % (len:Int):=Int.emod_nonneg _ (by omega);have K:((P:Int)*7+3) % (len:Int)<(len:Int):=Int.emod_lt_of_pos _ x;go_enter Tryz.func75,Tryz.ntmps75
   go_wp2_with fail
   go_quiet (fail)
   go_wp2;go_ret;exact ⟨_,rfl,yY z y P len n hz hy N (by omega),aZ.below H.o.next (below_drewN (Below.refl _ _) _),ae (iJ w R _) (aS (below_drewN (Below.refl _ _) _))⟩
theorem dF (Q:Int→Prop) (R P:Nat) (a:Option Addr) (len g:Nat) (b f m c:Nat) (w:World) (h:aZ w R a len g P) (E:P<100000) (F:1≤m) (C:m≤100) (u:b≠R) (y:b<w.heap.size)
 (hc:∀i,i<m→∃z:Int,w.cell? ⟨b,f+i,none⟩=some (iT z)∧Q z) :
 Calls Tryz.prog 106 #[.pointer (pT R),sO b f m c] w fun e w'=>∃z:Int,e=.returned (iT z)∧Q z∧aZ w' R a len g (P+1)∧w.grownBy w' (some R):=by
 have H:=bO hc;clear hc;go_enter Tryz.func106,Tryz.ntmps106
 go_wp2_with fail
 refine (bX R P a len g _ _ h E (by omega)).mono ?_;rintro e B ⟨q,rfl,hq,A,r⟩;obtain ⟨k,rfl⟩:=DL hq.1;have hk:k<m:=by have:=hq.2 (by omega);omega
 obtain ⟨z,hz,hQ⟩:=H.o k hk;have I:B.cell? ⟨b,f+k,none⟩=some (iT z):=(aj r (x:=⟨b,f+k,none⟩) y u).trans hz;clear hz hq;go_wp2;go_ret;exact ⟨z,rfl,hQ,A,r⟩
theorem rg (Q:ByteArray→Prop) (R P:Nat) (a:Option Addr) (len g:Nat) (b f m c:Nat) (w:World) (h:aZ w R a len g P) (E:P<100000) (F:1≤m) (C:m≤100) (u:b≠R) (y:b<w.heap.size)
 (hc:∀i,i<m→∃z:ByteArray,w.cell? ⟨b,f+i,none⟩=some (.string z)∧Q z) :
 Calls Tryz.prog 164 #[.pointer (pT R),sO b f m c] w fun e w'=>∃z:ByteArray,e=.returned (.string z)∧Q z∧aZ w' R a len g (P+1)∧w.grownBy w' (some R):=by
 have H:=bO hc;clear hc;go_enter Tryz.func164,Tryz.ntmps164
 go_wp2_with fail
 refine (bX R P a len g _ _ h E (by omega)).mono ?_;rintro e B ⟨q,rfl,hq,A,r⟩;obtain ⟨k,rfl⟩:=DL hq.1;have hk:k<m:=by have:=hq.2 (by omega);omega
 obtain ⟨z,hz,hQ⟩:=H.o k hk;have I:B.cell? ⟨b,f+k,none⟩=some (.string z):=(aj r (x:=⟨b,f+k,none⟩) y u).trans hz;clear hz hq;go_wp2;go_ret;exact ⟨z,rfl,hQ,A,r⟩
theorem kV (w:World) (t:TypeId) (l:List ByteArray) (Q:ByteArray→Prop) (hQ:∀s ∈ l,Q s):∀i,i<l.length→∃z:ByteArray,(w.alloc (.cells (l.map Value.string).toArray t)).cell? ⟨w.heap.size,0+i,none⟩=some (.string z)∧Q z:=by
 intro i hi;refine ⟨l[i],?_,hQ _ (Dq hi)⟩;rw [C6,World.cell?_alloc_new];simp [hi]
theorem dl (w:World) (t:TypeId) (l:List Int) (Q:Int→Prop) (hQ:∀s ∈ l,Q s):∀i,i<l.length→∃z:Int,(w.alloc (.cells (l.map iT).toArray t)).cell? ⟨w.heap.size,0+i,none⟩=some (iT z)∧Q z:=by
 intro i hi;refine ⟨l[i],?_,hQ _ (Dq hi)⟩;rw [C6,World.cell?_alloc_new];simp [hi]
theorem yT (w:World) (a:Option Addr) (len f:Nat) (t:TypeId) (few:len≤2000) (hb:len=0∨∃b e,a=some ⟨b,e,none⟩∧b<w.heap.size∧∀i,i<len→∃z:Nat,z≤255∧w.cell? ⟨b,e+i,none⟩=some (.int .u8 z)) :
 aZ (w.alloc (.cells #[.slice a len f,iT 0] t)) w.heap.size a len f 0:=by
 refine ⟨by simp,by simp,by simp,few,fun o=>by simp,?_⟩;rcases hb with h0 | ⟨b,e,ha,m,hc⟩
 · exact Or.inl h0
 · refine Or.inr ⟨b,e,ha,by omega,by simp;omega,fun i hi=>?_⟩;obtain ⟨z,hz,g⟩:=hc i hi;exact ⟨z,hz,cell_later bZ g⟩
theorem uO (a:Option Addr) (len g:Nat) (w:World) (hl:len≤g) (m:g≤maxLen) (hb:len=0∨∃b f,a=some ⟨b,f,none⟩∧b<w.heap.size∧∀i,i<len→∃z:Nat,z≤255∧w.cell? ⟨b,f+i,none⟩=some (.int .u8 z)) :
 Calls Tryz.prog 73 #[.slice a len g] w fun e w'=>∃r,e=.returned (.pointer (some ⟨w.heap.size,0,none⟩))∧aZ w' w.heap.size a r g 0∧Bl w w'∧w'.heap.size=w.heap.size+1:=by
 unfold maxLen at m;have y:=bO hb;clear hb;by_cases h2:2000<len
 · obtain ⟨b,f,rfl,x,hby⟩:∃b f,a=some ⟨b,f,none⟩∧b<w.heap.size∧∀i,i<len→∃z:Nat,z≤255∧w.cell? ⟨b,f+i,none⟩=some (.int .u8 z):=by
    rcases y.o with h0 | h0
    · omega
    · exact h0
   have u:CG (∀i,i<len→∃z:Nat,z≤255∧w.cell? ⟨b,f+i,none⟩=some (.int .u8 z)):=hby
   clear hby
   have A:(2000:Int)≤(g:Int):=by omega
   go_enter Tryz.func73,Tryz.ntmps73
   go_wp2;go_ret;exact ⟨2000,rfl,yT w _ 2000 g _ (by omega) (Or.inr ⟨b,f,rfl,x,fun i hi=>u.o i (by omega)⟩),bZ,by simp⟩
 · go_enter Tryz.func73,Tryz.ntmps73
   go_wp2;go_ret;exact ⟨len,rfl,yT w _ len g _ (by omega) y.o,bZ,by simp⟩
end Go.Proofs.YtpobkmjicbobdaaGreat
