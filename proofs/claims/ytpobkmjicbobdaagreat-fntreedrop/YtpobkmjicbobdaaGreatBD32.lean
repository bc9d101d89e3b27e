/- Walks. -/
import Derived.Test.YtpobkmjicbobdaaGreatBD31
namespace Go.Proofs.YtpobkmjicbobdaaGreat
set_option maxRecDepth 100000
set_option maxHeartbeats 40000000
open Go.RowKit
variable {L M:List ac} {S:List Int} {b c lo o:Nat} {q:Int} {w:World}
theorem aR.take {n k:Nat} (h:aR lo w (some ⟨b,o,none⟩) n c S) (hk:k≤n):aR lo w (some ⟨b,o,none⟩) k c (S.take k) where
 length:=by rw [Gn,h.length];omega
 room:=Gq hk h.room
 big:=h.big
 wfs:=fun z hz=>h.wfs z (GX hz)
 nil:=fun e=>by cases e
 lies:=fun x e hp=>h.lies x e (by omega)
 cells:=fun x e i hi=>by
  have hl:i<S.length:=by rw [Gn] at hi;omega
  rw [Hf]
  exact h.cells x e i hl
theorem aR.drop {n k:Nat} (h:aR lo w (some ⟨b,o,none⟩) n c S) (hk:k≤n):aR lo w (some ⟨b,o+k,none⟩) (n - k) (c - k) (S.drop k) where
 length:=by rw [Gy,h.length]
 room:=by have:=h.room;omega
 big:=by have:=h.big;omega
 wfs:=fun z hz=>h.wfs z (Ha hz)
 nil:=fun e=>by cases e
 lies:=fun x e hp=>by have h1:=h.lies _ rfl (by omega);cases e;exact h1
 cells:=fun x e i hi=>by
  have hl:k+i<S.length:=by rw [Gy] at hi;omega
  have h1:=h.cells _ rfl (k+i) hl
  cases e
  rw [Hj]
  simp only [Ip] at h1 ⊢
  exact h1
theorem tY (lo:Nat) (w:World) (b o c:Nat) (hc:c≤maxLen):aR lo w (some ⟨b,o,none⟩) 0 c [] :=
 ⟨rfl,Gl _,hc,(fun z hz=>by cases hz),(fun e=>by cases e),(fun x e hp=>absurd hp (G2 _)),fun x e i hi=>absurd hi (G2 _)⟩
theorem qt {base n:Nat} {v:Value} (h:w.ownsRow base 3 1 v n (S.map iT)) (hl:S.length=n) (hw:∀z ∈ S,(Lit.int .i64 z).wf=true):∃a c,v=.slice a n c∧aR base w a n c S:=by
 rcases h.2 with ⟨hv,h0⟩ | ⟨g,d,f,hv,_⟩
 · subst hv h0;obtain rfl:=G6.1 hl;exact ⟨none,0,rfl,⟨rfl,Gg _,Gl _,hw,fun _=>rfl,(fun x e=>by cases e),(fun x e=>by cases e)⟩⟩
 · subst hv;exact ⟨_,d,rfl,im h hl hw⟩
theorem yr (lo:Nat) (q:Int) (s:Option Addr) (t y:Nat) (a0 a1 a2:Option Addr) (A c0 C c1 n2 c2 m g d f:Nat) (S:List Int) (B:Int) (w:World) (hS:aR lo w (some ⟨m,g,none⟩) d f S) (hn:d≤1000) (hm:B ∉ S) :
 Calls Tryz.prog 104 #[.agg #[iT q,.slice s t y,.slice a0 A c0,.slice a1 C c1,.slice a2 n2 c2,sO m g d f],iT B] w (EO w):=by
 obtain ⟨X,u⟩:=aF w.heap.size;obtain ⟨W,x⟩:=aF ((w.alloc (.cells #[iT q,.slice s t y,.slice a0 A c0,.slice a1 C c1,.slice a2 n2 c2,sO m g d f] 82)).alloc (.cells #[iT 0,nZ,nZ,nZ,nZ,nZ] 82));have E:Bl w W:=by rw [x];exact bZ.alloc (by simp) _
 have J:b6 W X (iT q) (.slice s t y) (.slice a0 A c0) (.slice a1 C c1) (.slice a2 n2 c2) (sO m g d f):=by rw [x,u];exact (b6.new _ _ _ _ _ _ _ _).alloc _
 have I:b6 W (X+1) (iT 0) nZ nZ nZ nZ nZ:=by
  have:=b6.new (w.alloc (.cells #[iT q,.slice s t y,.slice a0 A c0,.slice a1 C c1,.slice a2 n2 c2,sO m g d f] 82)) 82 (iT 0) nZ nZ nZ nZ nZ;rw [Gu] at this;rw [x,u];exact this
 have T:Eq (X=w.heap.size):=u;have O:Eq (Bl w W):=E;have R:Eq (aR lo W (some ⟨m,g,none⟩) d f S):=hS.keep E;have N:Eq (S.length=d):=hS.length;have Q:Eq (W.heap.size=X+1+1):=by show _=_;rw [x,u];simp
 obtain ⟨D,n⟩:∃D:Int,D=if B ∈ S then ((S.idxOf B:Nat):Int) else -1:=⟨_,rfl⟩
 have F:D=-1:=by rw [n,if_neg hm]
 have K:Eq (Calls Tryz.prog 163 #[sO m g d f,iT B] W fun e H=>e=.returned (iT D)∧H=W):=by rw [n];exact sZ lo _ d f S B W R.o (by omega)
 clear hS E n;have x0:=J.all;go_enter Tryz.func104,Tryz.ntmps104
 go_wp2_with fail
 rw [← u,← x];clear u x;refine K.o.mono ?_;rintro e U ⟨rfl,r⟩;have r:=r.symm;subst r;subst F;have y0:=I.all;go_wp2;refine bodyPost_ret (v:=.tuple #[.agg #[iT q,.slice s t y,.slice a0 A c0,.slice a1 C c1,.slice a2 n2 c2,sO m g d f],.bool false]) ?_ rfl ⟨_,_,_,_,_,_,_,_,_,_,_,_,_,_,_,_,rfl,?_⟩
 · have e:=(((((I.set0 (iT q)).set1 (.slice s t y)).set2 (.slice a0 A c0)).set3 (.slice a1 C c1)).set4 (.slice a2 n2 c2)).set5 (sO m g d f);simp [results,Tryz.results104,go_sem,e.all]
 · have hx:w.heap.size≤X+1:=by have:=T.o;omega
   exact ((lD O.o hx _ _ _ _).setCell (p:=⟨X+1,4,none⟩) hx _).setCell (p:=⟨X+1,5,none⟩) hx _
theorem vJ (lo:Nat) (q:Int) (am:Option Addr) (nm cm:Nat) (a0 a1 a2:Option Addr) (n0 c0 n1 c1 n2 c2 r n F C:Nat) (S:List Int) (sq Q:Int) (w:World) (hS:aR lo w (some ⟨r,n,none⟩) F C S) (hn:F≤1000) (hm:sq ∈ S) (hsn:bX S Q=true) :
 Calls Tryz.prog 104 #[.agg #[iT q,.slice am nm cm,.slice a0 n0 c0,.slice a1 n1 c1,.slice a2 n2 c2,sO r n F C],iT sq] w fun e w'=>∃a5 m c5,e=.returned (.tuple #[.agg #[iT q,.slice am nm cm,.slice a0 n0 c0,.slice a1 n1 c1,.slice a2 n2 c2,.slice a5 m c5],.bool true])∧aR w.heap.size w' a5 m c5 (bT S sq)∧Bl w w':=by
 have af:Eq (S.take (S.idxOf sq)++S.drop (S.idxOf sq+1)=bT S sq):=qQ hsn;have ai:S.idxOf sq<S.length:=List.idxOf_lt_length_iff.2 hm;obtain ⟨X,hX⟩:=aF w.heap.size;obtain ⟨W,hW⟩:=aF ((w.alloc (.cells #[iT q,.slice am nm cm,.slice a0 n0 c0,.slice a1 n1 c1,.slice a2 n2 c2,sO r n F C] 82)).alloc (.cells #[iT 0,nZ,nZ,nZ,nZ,nZ] 82));have kW:Bl w W:=by rw [hW];exact bZ.alloc (by simp) _
 have H:b6 W X (iT q) (.slice am nm cm) (.slice a0 n0 c0) (.slice a1 n1 c1) (.slice a2 n2 c2) (sO r n F C):=by rw [hW,hX];exact (b6.new _ _ _ _ _ _ _ _).alloc _
 have br:b6 W (X+1) (iT 0) nZ nZ nZ nZ nZ:=by
  have:=b6.new (w.alloc (.cells #[iT q,.slice am nm cm,.slice a0 n0 c0,.slice a1 n1 c1,.slice a2 n2 c2,sO r n F C] 82)) 82 (iT 0) nZ nZ nZ nZ nZ;rw [Gu] at this;rw [hW,hX];exact this
 have HX:Eq (X=w.heap.size):=hX;have K0:Eq (Bl w W):=kW;have HS:Eq (aR lo W (some ⟨r,n,none⟩) F C S):=hS.keep kW;have ay:Eq (S.length=F):=hS.length;have T:Eq (W.heap.size=X+1+1):=by show _=_;rw [hW,hX];simp
 obtain ⟨IX,au⟩:∃IX:Int,IX=if sq ∈ S then ((S.idxOf sq:Nat):Int) else -1:=⟨_,rfl⟩
 have aC:IX=((S.idxOf sq:Nat):Int):=by rw [au,if_pos hm]
 obtain ⟨at_,hat⟩:=aF (S.idxOf sq);rw [← hat] at aC ai af;rw [ay.o] at ai;have aL:=HS.o.room;have hbig:=HS.o.big;unfold maxLen at hbig;clear hat hm hsn;have CC:Eq (Calls Tryz.prog 163 #[sO r n F C,iT sq] W fun e O=>e=.returned (iT IX)∧O=W):=by rw [au];exact sZ lo _ F C S sq W HS.o (by omega)
 clear hS kW au;have x0:=H.c0;have x1:=H.c1;have x2:=H.c2;have x3:=H.c3;have x4:=H.c4;have J:=H.c5;have xf:=H.fz;have I:=H.lt;go_enter Tryz.func104,Tryz.ntmps104
 go_wp2_with fail
 rw [← hX,← hW];clear hX hW;refine CC.o.mono ?_;rintro e w1 ⟨rfl,al⟩;have al:=al.symm;subst al;subst aC;have hp0:¬(at_:Int)<0:=by omega
 have hp1:(at_:Int)≤(C:Int):=by omega
 have aP:(at_:Int)+1≤(F:Int):=by omega
 have e1:IntKind.i64.wrap ((at_:Int)+1)=((at_+1:Nat):Int):=by simp [IntKind.wrap,IntKind.bits,IntKind.signed];omega
 have e2:((at_:Int)+1).toNat=at_+1:=by omega
 by_cases aI:C=at_+1
 · subst aI;have aJ:F=at_+1:=by omega
   subst aJ;have CN:Eq (∀w' N,Bl W w'→(∀j u,[sO r n at_ (at_+1),sO r n 0 0][j]?=some u→w'.cell? ⟨N,j,none⟩=some u)→Calls Tryz.prog 162 #[sL N 2 2] w' fun e O=>∃a5 m c5,e=.returned (.slice a5 m c5)∧aR W.heap.size O a5 m c5 (bT S sq)∧Bl w' O):=fun w' N k hc=>by
    have hl:=ay.o;have hI:=(HS.o.lower (Gl _)).keep k;have hP:ja w' N [S.take at_,S.drop (at_+1)]:=by
     refine ⟨Gf _ _ (hc 0 _ rfl),fun i S' B=>?_⟩;have aq:(S.take at_).length=at_:=by rw [Gn];omega
     have ao:(S.drop (at_+1)).length=(at_+1) - (at_+1):=by rw [Gy,hl]
     match i,B with
     | 0,B =>
      simp at B;subst B;rw [aq];exact ⟨r,n,(at_+1),hc 0 _ rfl,hI.take (by omega)⟩
     | 1,B =>
      simp at B;subst B;rw [ao];rw [Hn];refine ⟨r,n,0,hc 1 _ rfl,?_⟩;rw [Hs (by omega)];exact tY 0 w' r n 0 (Gl _)
    have ag:[S.take at_,S.drop (at_+1)].flatten=bT S sq:=by
     have:=af.o;simpa using this
    have a3:(bT S sq).length=(at_+1) - 1:=by
     rw [← af.o,Gj,Gn,Gy];omega
    refine (qW N 2 [S.take at_,S.drop (at_+1)] w' hP rfl (by omega) (by rw [ag,a3];omega)).mono ?_;rintro e O ⟨v,rfl,ho,hb⟩;rw [ag,a3] at ho;obtain ⟨a5,c5,rfl,az⟩:=qt ho a3 (fun z hz=>HS.o.wfs z (mM hz));exact ⟨a5,_,c5,rfl,az.lower k.size,hb⟩
   have A:Bl W W.drew:=(Below.refl _ W).drew;go_wp2_with fail
   refine wp_region_held_drew (S:=(fun _=>True)) (by kernel_rfl) (trivial) (fun g=>?_);generalize W.drew=R at A g ⊢;refine aO 0 1 g ?_;refine aO 2 1 g ?_;refine aO 4 1 g ?_;refine aO 6 2 g ?_;refine lI 1 5 (fun K hK=>?_) fun K hK=>?_
   · have q5:=cell_later A J;have E:=E' I A.size;go_simp;clear q5 E;refine hK.o _ _ (trivial) fun g=>?_
     (try go_frame);refine cY (i:=3) (v:=?_) rfl (by kernel_rfl) (by kernel_rfl) (by kernel_rfl) (fun _ _ _ h=>h) (Or.inl ⟨by rfl,?_⟩) g ?_;rotate_left
     · (intro w y;(try dsimp only at y);go_simp;(try rw [if_pos (by omega)]);(try simp only [e2,if_pos,Hn]);try with_reducible rfl)
     (try go_frame);refine aS 5 fun K hK=>?_
     have q5:=cell_later A J;have E:=E' I A.size;go_simp;clear q5 E;refine hK.o _ _ (trivial) fun g=>?_
     (try go_frame);refine cY (i:=8) (v:=?_) rfl (by kernel_rfl) (by kernel_rfl) (by kernel_rfl) (fun _ _ _ h=>h) (Or.inl ⟨by rfl,?_⟩) g ?_;rotate_left
     · (intro w y;(try dsimp only at y);go_simp;(try rw [if_pos (by omega)]);(try simp only [e2,if_pos,Hn]);try with_reducible rfl)
     (try go_frame);refine aS 9 fun K hK=>?_
     go_simp;obtain ⟨wb,s⟩:=aF (R.alloc (.cells #[sO r n at_ (at_+1),sO r n 0 0] 24));obtain ⟨N,x⟩:=aF R.heap.size;have kc:Bl R wb:=by rw [s];exact bZ
     have t:Bl W wb:=A.trans (kc.mono A.size);have hc:∀j u,[sO r n at_ (at_+1),sO r n 0 0][j]?=some u→wb.cell? ⟨N,j,none⟩=some u:=by
      intro j u hj;have h1:=bC R (sO r n at_ (at_+1)) (sO r n 0 0) 24 j u hj;rw [Gv,Gp,← s,← x] at h1;exact h1
     rw [← s];try rw [← x]
     clear s x;refine hK.o _ _ (trivial) fun g=>?_
     (try go_frame);refine aS 10 fun K hK=>?_
     go_simp;refine (CN.o _ _ t hc).mono ?_;rintro e w3 ⟨a5,m,c5,rfl,Z,a4⟩;have k3:Bl W w3:=t.trans (a4.mono t.size);have D:Eq (aR W.heap.size w3 a5 m c5 (bT S sq)):=Z;go_wp2_with fail
     refine hK.o _ _ (trivial) fun g=>?_
     (try go_frame);refine aO 11 1 g ?_;refine aS 12 fun K hK=>?_
     have q5:=cell_later k3 J;have qf:=(H.keep k3).fz;have E:=E' I k3.size;go_simp;clear q5 qf E;refine hK.o _ _ (trivial) fun g=>?_
     (try go_frame);refine dN ?_;have b3:=(H.keep k3).set5 (.slice a5 m c5);have r3:=(br.keep k3).other (b':=X) (o:=5) (by omega) (.slice a5 m c5);obtain ⟨w4,f⟩:=aF (w3.setCell ⟨X,5,none⟩ (.slice a5 m c5));rw [← f] at b3 r3;have Y:Eq (b6 w4 (X+1) (iT 0) nZ nZ nZ nZ nZ):=r3;have hx:=HX.o;have hs:=T.o;have U:Eq (aR W.heap.size w4 a5 m c5 (bT S sq)):=by rw [f];exact D.o.same (dt.of_set _ _ (by omega))
     have K4:Eq (Bl w w4):=by rw [f];exact (K0.o.trans (k3.mono K0.o.size)).setCell (p:=⟨X,5,none⟩) (by show _≤X;omega) _
     rw [← f];clear f D k3 t hc A x0 x1 x2 x3 x4 J xf I H br g hx hs;have x0:=b3.c0;have x1:=b3.c1;have x2:=b3.c2;have x3:=b3.c3;have x4:=b3.c4;have J:=b3.c5;have xf:=b3.fz;have I:=b3.lt;have y0:=r3.all;clear b3 r3;go_wp2;refine bodyPost_ret (v:=.tuple #[.agg #[iT q,.slice am nm cm,.slice a0 n0 c0,.slice a1 n1 c1,.slice a2 n2 c2,.slice a5 m c5],.bool true]) ?_ rfl ⟨a5,m,c5,rfl,?_,?_⟩
     · have e:=(((((Y.o.set0 (iT q)).set1 (.slice am nm cm)).set2 (.slice a0 n0 c0)).set3 (.slice a1 n1 c1)).set4 (.slice a2 n2 c2)).set5 (.slice a5 m c5);simp [results,Tryz.results104,go_sem,e.all]
     · have hx:=HX.o;have hs:=T.o;have d:∀(w':World) (b o:Nat) (u:Value),b<W.heap.size→dt W.heap.size w' (w'.setCell ⟨b,o,none⟩ u):=fun w' b o u hb=>dt.of_set _ _ hb
       exact (((((((U.o.same (d _ (X+1) _ _ (by omega))).same (d _ (X+1) _ _ (by omega))).same (d _ (X+1) _ _ (by omega))).same (d _ (X+1) _ _ (by omega))).same (d _ (X+1) _ _ (by omega))).same (d _ (X+1) _ _ (by omega)))).lower K0.o.size
     · have hx:w.heap.size≤X+1:=by have:=HX.o;omega
       exact ((lD K4.o hx _ _ _ _).setCell (p:=⟨X+1,4,none⟩) hx _).setCell (p:=⟨X+1,5,none⟩) hx _
   · have q5:=cell_later A J;have E:=E' I A.size;go_simp;clear q5 E;refine hK.o _ _ (trivial) fun g=>?_
     (try go_frame);refine cY (i:=8) (v:=?_) rfl (by kernel_rfl) (by kernel_rfl) (by kernel_rfl) (fun _ _ _ h=>h) (Or.inl ⟨by rfl,?_⟩) g ?_;rotate_left
     · (intro w y;(try dsimp only at y);go_simp;(try rw [if_pos (by omega)]);(try simp only [e2,if_pos,Hn]);try with_reducible rfl)
     (try go_frame);refine aS 1 fun K hK=>?_
     have q5:=cell_later A J;have E:=E' I A.size;go_simp;clear q5 E;refine hK.o _ _ (trivial) fun g=>?_
     (try go_frame);refine cY (i:=3) (v:=?_) rfl (by kernel_rfl) (by kernel_rfl) (by kernel_rfl) (fun _ _ _ h=>h) (Or.inl ⟨by rfl,?_⟩) g ?_;rotate_left
     · (intro w y;(try dsimp only at y);go_simp;(try rw [if_pos (by omega)]);(try simp only [e2,if_pos,Hn]);try with_reducible rfl)
     (try go_frame);refine aS 9 fun K hK=>?_
     go_simp;obtain ⟨wb,s⟩:=aF (R.alloc (.cells #[sO r n at_ (at_+1),sO r n 0 0] 24));obtain ⟨N,x⟩:=aF R.heap.size;have kc:Bl R wb:=by rw [s];exact bZ
     have t:Bl W wb:=A.trans (kc.mono A.size);have hc:∀j u,[sO r n at_ (at_+1),sO r n 0 0][j]?=some u→wb.cell? ⟨N,j,none⟩=some u:=by
      intro j u hj;have h1:=bC R (sO r n at_ (at_+1)) (sO r n 0 0) 24 j u hj;rw [Gv,Gp,← s,← x] at h1;exact h1
     rw [← s];try rw [← x]
     clear s x;refine hK.o _ _ (trivial) fun g=>?_
     (try go_frame);refine aS 10 fun K hK=>?_
     go_simp;refine (CN.o _ _ t hc).mono ?_;rintro e w3 ⟨a5,m,c5,rfl,Z,a4⟩;have k3:Bl W w3:=t.trans (a4.mono t.size);have D:Eq (aR W.heap.size w3 a5 m c5 (bT S sq)):=Z;go_wp2_with fail
     refine hK.o _ _ (trivial) fun g=>?_
     (try go_frame);refine aO 11 1 g ?_;refine aS 12 fun K hK=>?_
     have q5:=cell_later k3 J;have qf:=(H.keep k3).fz;have E:=E' I k3.size;go_simp;clear q5 qf E;refine hK.o _ _ (trivial) fun g=>?_
     (try go_frame);refine dN ?_;have b3:=(H.keep k3).set5 (.slice a5 m c5);have r3:=(br.keep k3).other (b':=X) (o:=5) (by omega) (.slice a5 m c5);obtain ⟨w4,f⟩:=aF (w3.setCell ⟨X,5,none⟩ (.slice a5 m c5));rw [← f] at b3 r3;have Y:Eq (b6 w4 (X+1) (iT 0) nZ nZ nZ nZ nZ):=r3;have hx:=HX.o;have hs:=T.o;have U:Eq (aR W.heap.size w4 a5 m c5 (bT S sq)):=by rw [f];exact D.o.same (dt.of_set _ _ (by omega))
     have K4:Eq (Bl w w4):=by rw [f];exact (K0.o.trans (k3.mono K0.o.size)).setCell (p:=⟨X,5,none⟩) (by show _≤X;omega) _
     rw [← f];clear f D k3 t hc A x0 x1 x2 x3 x4 J xf I H br g hx hs;have x0:=b3.c0;have x1:=b3.c1;have x2:=b3.c2;have x3:=b3.c3;have x4:=b3.c4;have J:=b3.c5;have xf:=b3.fz;have I:=b3.lt;have y0:=r3.all;clear b3 r3;go_wp2;refine bodyPost_ret (v:=.tuple #[.agg #[iT q,.slice am nm cm,.slice a0 n0 c0,.slice a1 n1 c1,.slice a2 n2 c2,.slice a5 m c5],.bool true]) ?_ rfl ⟨a5,m,c5,rfl,?_,?_⟩
     · have e:=(((((Y.o.set0 (iT q)).set1 (.slice am nm cm)).set2 (.slice a0 n0 c0)).set3 (.slice a1 n1 c1)).set4 (.slice a2 n2 c2)).set5 (.slice a5 m c5);simp [results,Tryz.results104,go_sem,e.all]
     · have hx:=HX.o;have hs:=T.o;have d:∀(w':World) (b o:Nat) (u:Value),b<W.heap.size→dt W.heap.size w' (w'.setCell ⟨b,o,none⟩ u):=fun w' b o u hb=>dt.of_set _ _ hb
       exact (((((((U.o.same (d _ (X+1) _ _ (by omega))).same (d _ (X+1) _ _ (by omega))).same (d _ (X+1) _ _ (by omega))).same (d _ (X+1) _ _ (by omega))).same (d _ (X+1) _ _ (by omega))).same (d _ (X+1) _ _ (by omega)))).lower K0.o.size
     · have hx:w.heap.size≤X+1:=by have:=HX.o;omega
       exact ((lD K4.o hx _ _ _ _).setCell (p:=⟨X+1,4,none⟩) hx _).setCell (p:=⟨X+1,5,none⟩) hx _
 · have aM:¬(C:Int)=(at_:Int)+1:=by omega
   have CN:Eq (∀w' N,Bl W w'→(∀j u,[sO r n at_ C,.slice (some ⟨r,n+(at_+1),none⟩) (F - (at_+1)) (C - (at_+1))][j]?=some u→w'.cell? ⟨N,j,none⟩=some u)→Calls Tryz.prog 162 #[sL N 2 2] w' fun e O=>∃a5 m c5,e=.returned (.slice a5 m c5)∧aR W.heap.size O a5 m c5 (bT S sq)∧Bl w' O):=fun w' N k hc=>by
    have hl:=ay.o;have hI:=(HS.o.lower (Gl _)).keep k;have hP:ja w' N [S.take at_,S.drop (at_+1)]:=by
     refine ⟨Gf _ _ (hc 0 _ rfl),fun i S' B=>?_⟩;have aq:(S.take at_).length=at_:=by rw [Gn];omega
     have ao:(S.drop (at_+1)).length=F - (at_+1):=by rw [Gy,hl]
     match i,B with
     | 0,B =>
      simp at B;subst B;rw [aq];exact ⟨r,n,C,hc 0 _ rfl,hI.take (by omega)⟩
     | 1,B =>
      simp at B;subst B;rw [ao];exact ⟨r,n+(at_+1),C - (at_+1),hc 1 _ rfl,hI.drop (by omega)⟩
    have ag:[S.take at_,S.drop (at_+1)].flatten=bT S sq:=by
     have:=af.o;simpa using this
    have a3:(bT S sq).length=F - 1:=by
     rw [← af.o,Gj,Gn,Gy];omega
    refine (qW N 2 [S.take at_,S.drop (at_+1)] w' hP rfl (by omega) (by rw [ag,a3];omega)).mono ?_;rintro e O ⟨v,rfl,ho,hb⟩;rw [ag,a3] at ho;obtain ⟨a5,c5,rfl,az⟩:=qt ho a3 (fun z hz=>HS.o.wfs z (mM hz));exact ⟨a5,_,c5,rfl,az.lower k.size,hb⟩
   have A:Bl W W.drew:=(Below.refl _ W).drew;go_wp2_with fail
   refine wp_region_held_drew (S:=(fun _=>True)) (by kernel_rfl) (trivial) (fun g=>?_);generalize W.drew=R at A g ⊢;refine aO 0 1 g ?_;refine aO 2 1 g ?_;refine aO 4 1 g ?_;refine aO 6 2 g ?_;refine lI 1 5 (fun K hK=>?_) fun K hK=>?_
   · have q5:=cell_later A J;have E:=E' I A.size;go_simp;clear q5 E;refine hK.o _ _ (trivial) fun g=>?_
     (try go_frame);refine cY (i:=3) (v:=?_) rfl (by kernel_rfl) (by kernel_rfl) (by kernel_rfl) (fun _ _ _ h=>h) (Or.inl ⟨by rfl,?_⟩) g ?_;rotate_left
     · (intro w y;(try dsimp only at y);go_simp;(try rw [if_pos (by omega)]);(try simp only [e2,if_pos,Hn]);try with_reducible rfl)
     (try go_frame);refine aS 5 fun K hK=>?_
     have q5:=cell_later A J;have E:=E' I A.size;go_simp;clear q5 E;refine hK.o _ _ (trivial) fun g=>?_
     (try go_frame);refine cY (i:=8) (v:=?_) rfl (by kernel_rfl) (by kernel_rfl) (by kernel_rfl) (fun _ _ _ h=>h) (Or.inl ⟨by rfl,?_⟩) g ?_;rotate_left
     · (intro w y;(try dsimp only at y);go_simp;(try rw [if_pos (by omega)]);(try simp only [e2,if_pos,Hn]);try with_reducible rfl)
     (try go_frame);refine aS 9 fun K hK=>?_
     go_simp;obtain ⟨wb,s⟩:=aF (R.alloc (.cells #[sO r n at_ C,.slice (some ⟨r,n+(at_+1),none⟩) (F - (at_+1)) (C - (at_+1))] 24));obtain ⟨N,x⟩:=aF R.heap.size;have kc:Bl R wb:=by rw [s];exact bZ
     have t:Bl W wb:=A.trans (kc.mono A.size);have hc:∀j u,[sO r n at_ C,.slice (some ⟨r,n+(at_+1),none⟩) (F - (at_+1)) (C - (at_+1))][j]?=some u→wb.cell? ⟨N,j,none⟩=some u:=by
      intro j u hj;have h1:=bC R (sO r n at_ C) (.slice (some ⟨r,n+(at_+1),none⟩) (F - (at_+1)) (C - (at_+1))) 24 j u hj;rw [Gv,Gp,← s,← x] at h1;exact h1
     rw [← s];try rw [← x]
     clear s x;refine hK.o _ _ (trivial) fun g=>?_
     (try go_frame);refine aS 10 fun K hK=>?_
     go_simp;refine (CN.o _ _ t hc).mono ?_;rintro e w3 ⟨a5,m,c5,rfl,Z,a4⟩;have k3:Bl W w3:=t.trans (a4.mono t.size);have D:Eq (aR W.heap.size w3 a5 m c5 (bT S sq)):=Z;go_wp2_with fail
     refine hK.o _ _ (trivial) fun g=>?_
     (try go_frame);refine aO 11 1 g ?_;refine aS 12 fun K hK=>?_
     have q5:=cell_later k3 J;have qf:=(H.keep k3).fz;have E:=E' I k3.size;go_simp;clear q5 qf E;refine hK.o _ _ (trivial) fun g=>?_
     (try go_frame);refine dN ?_;have b3:=(H.keep k3).set5 (.slice a5 m c5);have r3:=(br.keep k3).other (b':=X) (o:=5) (by omega) (.slice a5 m c5);obtain ⟨w4,f⟩:=aF (w3.setCell ⟨X,5,none⟩ (.slice a5 m c5));rw [← f] at b3 r3;have Y:Eq (b6 w4 (X+1) (iT 0) nZ nZ nZ nZ nZ):=r3;have hx:=HX.o;have hs:=T.o;have U:Eq (aR W.heap.size w4 a5 m c5 (bT S sq)):=by rw [f];exact D.o.same (dt.of_set _ _ (by omega))
     have K4:Eq (Bl w w4):=by rw [f];exact (K0.o.trans (k3.mono K0.o.size)).setCell (p:=⟨X,5,none⟩) (by show _≤X;omega) _
     rw [← f];clear f D k3 t hc A x0 x1 x2 x3 x4 J xf I H br g hx hs;have x0:=b3.c0;have x1:=b3.c1;have x2:=b3.c2;have x3:=b3.c3;have x4:=b3.c4;have J:=b3.c5;have xf:=b3.fz;have I:=b3.lt;have y0:=r3.all;clear b3 r3;go_wp2;refine bodyPost_ret (v:=.tuple #[.agg #[iT q,.slice am nm cm,.slice a0 n0 c0,.slice a1 n1 c1,.slice a2 n2 c2,.slice a5 m c5],.bool true]) ?_ rfl ⟨a5,m,c5,rfl,?_,?_⟩
     · have e:=(((((Y.o.set0 (iT q)).set1 (.slice am nm cm)).set2 (.slice a0 n0 c0)).set3 (.slice a1 n1 c1)).set4 (.slice a2 n2 c2)).set5 (.slice a5 m c5);simp [results,Tryz.results104,go_sem,e.all]
     · have hx:=HX.o;have hs:=T.o;have d:∀(w':World) (b o:Nat) (u:Value),b<W.heap.size→dt W.heap.size w' (w'.setCell ⟨b,o,none⟩ u):=fun w' b o u hb=>dt.of_set _ _ hb
       exact (((((((U.o.same (d _ (X+1) _ _ (by omega))).same (d _ (X+1) _ _ (by omega))).same (d _ (X+1) _ _ (by omega))).same (d _ (X+1) _ _ (by omega))).same (d _ (X+1) _ _ (by omega))).same (d _ (X+1) _ _ (by omega)))).lower K0.o.size
     · have hx:w.heap.size≤X+1:=by have:=HX.o;omega
       exact ((lD K4.o hx _ _ _ _).setCell (p:=⟨X+1,4,none⟩) hx _).setCell (p:=⟨X+1,5,none⟩) hx _
   · have q5:=cell_later A J;have E:=E' I A.size;go_simp;clear q5 E;refine hK.o _ _ (trivial) fun g=>?_
     (try go_frame);refine cY (i:=8) (v:=?_) rfl (by kernel_rfl) (by kernel_rfl) (by kernel_rfl) (fun _ _ _ h=>h) (Or.inl ⟨by rfl,?_⟩) g ?_;rotate_left
     · (intro w y;(try dsimp only at y);go_simp;(try rw [if_pos (by omega)]);(try simp only [e2,if_pos,Hn]);try with_reducible rfl)
     (try go_frame);refine aS 1 fun K hK=>?_
     have q5:=cell_later A J;have E:=E' I A.size;go_simp;clear q5 E;refine hK.o _ _ (trivial) fun g=>?_
     (try go_frame);refine cY (i:=3) (v:=?_) rfl (by kernel_rfl) (by kernel_rfl) (by kernel_rfl) (fun _ _ _ h=>h) (Or.inl ⟨by rfl,?_⟩) g ?_;rotate_left
     · (intro w y;(try dsimp only at y);go_simp;(try rw [if_pos (by omega)]);(try simp only [e2,if_pos,Hn]);try with_reducible rfl)
     (try go_frame);refine aS 9 fun K hK=>?_
     go_simp;obtain ⟨wb,s⟩:=aF (R.alloc (.cells #[sO r n at_ C,.slice (some ⟨r,n+(at_+1),none⟩) (F - (at_+1)) (C - (at_+1))] 24));obtain ⟨N,x⟩:=aF R.heap.size;have kc:Bl R wb:=by rw [s];exact bZ
     have t:Bl W wb:=A.trans (kc.mono A.size);have hc:∀j u,[sO r n at_ C,.slice (some ⟨r,n+(at_+1),none⟩) (F - (at_+1)) (C - (at_+1))][j]?=some u→wb.cell? ⟨N,j,none⟩=some u:=by
      intro j u hj;have h1:=bC R (sO r n at_ C) (.slice (some ⟨r,n+(at_+1),none⟩) (F - (at_+1)) (C - (at_+1))) 24 j u hj;rw [Gv,Gp,← s,← x] at h1;exact h1
     rw [← s];try rw [← x]
     clear s x;refine hK.o _ _ (trivial) fun g=>?_
     (try go_frame);refine aS 10 fun K hK=>?_
     go_simp;refine (CN.o _ _ t hc).mono ?_;rintro e w3 ⟨a5,m,c5,rfl,Z,a4⟩;have k3:Bl W w3:=t.trans (a4.mono t.size);have D:Eq (aR W.heap.size w3 a5 m c5 (bT S sq)):=Z;go_wp2_with fail
     refine hK.o _ _ (trivial) fun g=>?_
     (try go_frame);refine aO 11 1 g ?_;refine aS 12 fun K hK=>?_
     have q5:=cell_later k3 J;have qf:=(H.keep k3).fz;have E:=E' I k3.size;go_simp;clear q5 qf E;refine hK.o _ _ (trivial) fun g=>?_
     (try go_frame);refine dN ?_;have b3:=(H.keep k3).set5 (.slice a5 m c5);have r3:=(br.keep k3).other (b':=X) (o:=5) (by omega) (.slice a5 m c5);obtain ⟨w4,f⟩:=aF (w3.setCell ⟨X,5,none⟩ (.slice a5 m c5));rw [← f] at b3 r3;have Y:Eq (b6 w4 (X+1) (iT 0) nZ nZ nZ nZ nZ):=r3;have hx:=HX.o;have hs:=T.o;have U:Eq (aR W.heap.size w4 a5 m c5 (bT S sq)):=by rw [f];exact D.o.same (dt.of_set _ _ (by omega))
     have K4:Eq (Bl w w4):=by rw [f];exact (K0.o.trans (k3.mono K0.o.size)).setCell (p:=⟨X,5,none⟩) (by show _≤X;omega) _
     rw [← f];clear f D k3 t hc A x0 x1 x2 x3 x4 J xf I H br g hx hs;have x0:=b3.all;have y0:=r3.all;clear b3 r3;go_wp2;refine bodyPost_ret (v:=.tuple #[.agg #[iT q,.slice am nm cm,.slice a0 n0 c0,.slice a1 n1 c1,.slice a2 n2 c2,.slice a5 m c5],.bool true]) ?_ rfl ⟨a5,m,c5,rfl,?_,?_⟩
     · have e:=(((((Y.o.set0 (iT q)).set1 (.slice am nm cm)).set2 (.slice a0 n0 c0)).set3 (.slice a1 n1 c1)).set4 (.slice a2 n2 c2)).set5 (.slice a5 m c5);simp [results,Tryz.results104,go_sem,e.all]
     · have hx:=HX.o;have hs:=T.o;have d:∀(w':World) (b o:Nat) (u:Value),b<W.heap.size→dt W.heap.size w' (w'.setCell ⟨b,o,none⟩ u):=fun w' b o u hb=>dt.of_set _ _ hb
       exact (((((((U.o.same (d _ (X+1) _ _ (by omega))).same (d _ (X+1) _ _ (by omega))).same (d _ (X+1) _ _ (by omega))).same (d _ (X+1) _ _ (by omega))).same (d _ (X+1) _ _ (by omega))).same (d _ (X+1) _ _ (by omega)))).lower K0.o.size
     · have hx:w.heap.size≤X+1:=by have:=HX.o;omega
       exact ((lD K4.o hx _ _ _ _).setCell (p:=⟨X+1,4,none⟩) hx _).setCell (p:=⟨X+1,5,none⟩) hx _
theorem Dv (K:Nat) (q:Int) (f:Option Addr) (g m:Nat) (a0 a1 a2:Option Addr) (n c0 r c1 n2 c2 I H D J:Nat) (M:List ac) (A B C:List af) (S:List Int) (t:Int) (w:World) (E:ow w f g m a0 n c0 a1 r c1 a2 n2 c2 (some ⟨I,H,none⟩) D J M A B C S) (O:w.cell? ⟨K,0,none⟩=some (iT t)) (hn:D≤1000) (hm:t ∈ S) (Q:Int) (hsn:bX S Q=true) :
 Calls Tryz.prog 103 #[.agg #[iT q,.slice f g m,.slice a0 n c0,.slice a1 r c1,.slice a2 n2 c2,sO I H D J],.pointer (pT K)] w (FP q M A B C (bT S t) w):=by
 obtain ⟨X,T⟩:=aF w.heap.size;obtain ⟨W,U⟩:=aF ((w.alloc (.cells #[iT q,.slice f g m,.slice a0 n c0,.slice a1 r c1,.slice a2 n2 c2,sO I H D J] 82)).alloc (.cells #[iT 0,nZ,nZ,nZ,nZ,nZ] 82));have Y:Bl w W:=by rw [U];exact bZ.alloc (by simp) _
 have Z:b6 W (X+1) (iT 0) nZ nZ nZ nZ nZ:=by
  have:=b6.new (w.alloc (.cells #[iT q,.slice f g m,.slice a0 n c0,.slice a1 r c1,.slice a2 n2 c2,sO I H D J] 82)) 82 (iT 0) nZ nZ nZ nZ nZ;rw [Gu] at this;rw [U,T];exact this
 have HX:Eq (X=w.heap.size):=T;have K0:Eq (Bl w W):=Y;have s:=az E;have a3:Eq (X+1<W.heap.size):=Z.lt;have CD:Eq (Calls Tryz.prog 104 #[.agg #[iT q,.slice f g m,.slice a0 n c0,.slice a1 r c1,.slice a2 n2 c2,sO I H D J],iT t] W fun e w'=>∃a5 x c5,e=.returned (.tuple #[.agg #[iT q,.slice f g m,.slice a0 n c0,.slice a1 r c1,.slice a2 n2 c2,.slice a5 x c5],.bool true])∧aR W.heap.size w' a5 x c5 (bT S t)∧Bl W w'):=vJ 0 q f g m a0 a1 a2 n c0 r c1 n2 c2 I H D J S t Q W (E.sn.keep Y) hn hm hsn;clear hm hsn;have R:=Gf _ _ O;simp only at R;clear Y E;go_enter Tryz.func103,Tryz.ntmps103
 go_wp2_with fail
 rw [← T,← U];clear T U O R;refine CD.o.mono ?_;rintro e w1 ⟨a5,x,c5,rfl,N,F⟩;have a4:Eq (aR W.heap.size w1 a5 x c5 (bT S t)):=N;clear N;have K1:Eq (Bl w w1):=K0.o.trans (F.mono K0.o.size);have y:=Z.keep F;have a8:Eq (b6 w1 (X+1) (iT 0) nZ nZ nZ nZ nZ):=y;have y0:=y.all;clear F Z y;go_wp2;refine bodyPost_ret (v:=.tuple #[.agg #[iT q,.slice f g m,.slice a0 n c0,.slice a1 r c1,.slice a2 n2 c2,.slice a5 x c5],.bool true]) ?_ rfl ⟨_,_,_,_,_,_,_,_,_,_,_,_,_,_,_,rfl,?_,?_⟩
 · have e:=(((((a8.o.set0 (iT q)).set1 (.slice f g m)).set2 (.slice a0 n c0)).set3 (.slice a1 r c1)).set4 (.slice a2 n2 c2)).set5 (.slice a5 x c5);simp [results,Tryz.results103,go_sem,e.all]
 · have hx:w.heap.size≤X+1:=by have:=HX.o;omega
   have a7:=a3.o;have key:∀w',Bl w w'→aR 0 w' a5 x c5 (bT S t)→ow w' f g m a0 n c0 a1 r c1 a2 n2 c2 a5 x c5 M A B C (bT S t):=fun w' k h=>⟨(s.o.keep k).mem,(s.o.keep k).r0,(s.o.keep k).r1,(s.o.keep k).r2,h⟩
   have d:∀(w':World) (o:Nat) (u:Value),dt W.heap.size w' (w'.setCell ⟨X+1,o,none⟩ u):=fun w' o u=>dt.of_set _ _ a7
   exact key _ (((lD K1.o hx _ _ _ _).setCell (p:=⟨X+1,4,none⟩) hx _).setCell (p:=⟨X+1,5,none⟩) hx _) (((((((a4.o.same (d _ _ _)).same (d _ _ _)).same (d _ _ _)).same (d _ _ _)).same (d _ _ _)).same (d _ _ _)).lower (Gl _))
 · have hx:w.heap.size≤X+1:=by have:=HX.o;omega
   exact ((lD K1.o hx _ _ _ _).setCell (p:=⟨X+1,4,none⟩) hx _).setCell (p:=⟨X+1,5,none⟩) hx _
theorem Dw (I:Nat) (q:Int) (n:Option Addr) (r s:Nat) (a0 a1 a2:Option Addr) (u c0 D c1 n2 c2 x t f y:Nat) (M:List ac) (A B C:List af) (S:List Int) (sq:Int) (w:World) (g:ow w n r s a0 u c0 a1 D c1 a2 n2 c2 (some ⟨x,t,none⟩) f y M A B C S) (O:w.cell? ⟨I,0,none⟩=some (iT sq)) (hn:f≤1000) (hm:sq ∉ S) :
 Calls Tryz.prog 103 #[.agg #[iT q,.slice n r s,.slice a0 u c0,.slice a1 D c1,.slice a2 n2 c2,sO x t f y],.pointer (pT I)] w (EO w):=by
 obtain ⟨X,hX⟩:=aF w.heap.size;obtain ⟨W,hW⟩:=aF ((w.alloc (.cells #[iT q,.slice n r s,.slice a0 u c0,.slice a1 D c1,.slice a2 n2 c2,sO x t f y] 82)).alloc (.cells #[iT 0,nZ,nZ,nZ,nZ,nZ] 82));have kW:Bl w W:=by rw [hW];exact bZ.alloc (by simp) _
 have br:b6 W (X+1) (iT 0) nZ nZ nZ nZ nZ:=by
  have:=b6.new (w.alloc (.cells #[iT q,.slice n r s,.slice a0 u c0,.slice a1 D c1,.slice a2 n2 c2,sO x t f y] 82)) 82 (iT 0) nZ nZ nZ nZ nZ;rw [Gu] at this;rw [hW,hX];exact this
 have HX:Eq (X=w.heap.size):=hX;have K0:Eq (Bl w W):=kW;have ai:=az g;have ah:Eq (X+1<W.heap.size):=br.lt;have CD:Eq (Calls Tryz.prog 104 #[.agg #[iT q,.slice n r s,.slice a0 u c0,.slice a1 D c1,.slice a2 n2 c2,sO x t f y],iT sq] W (EO W)):=yr 0 q n r s a0 a1 a2 u c0 D c1 n2 c2 x t f y S sq W (g.sn.keep kW) hn hm;clear hm;have a5:=Gf _ _ O;simp only at a5;clear kW g;go_enter Tryz.func103,Tryz.ntmps103
 go_wp2_with fail
 rw [← hX,← hW];clear hX hW O a5;refine CD.o.mono ?_;rintro e w1 ⟨q2,R,U,F,Z,a4,Q,K,a3,E,a22,Y,N,H,T,J,rfl,m⟩;have K1:Eq (Bl w w1):=K0.o.trans (m.mono K0.o.size);have d:=br.keep m;have ab:Eq (b6 w1 (X+1) (iT 0) nZ nZ nZ nZ nZ):=d;have y0:=d.all;clear m br d;go_wp2;refine bodyPost_ret (v:=.tuple #[.agg #[iT q2,.slice R U F,.slice Z a4 Q,.slice K a3 E,.slice a22 Y N,.slice H T J],.bool false]) ?_ rfl ⟨_,_,_,_,_,_,_,_,_,_,_,_,_,_,_,_,rfl,?_⟩
 · have e:=(((((ab.o.set0 (iT q2)).set1 (.slice R U F)).set2 (.slice Z a4 Q)).set3 (.slice K a3 E)).set4 (.slice a22 Y N)).set5 (.slice H T J);simp [results,Tryz.results103,go_sem,e.all]
 · have hx:w.heap.size≤X+1:=by have:=HX.o;omega
   exact ((lD K1.o hx _ _ _ _).setCell (p:=⟨X+1,4,none⟩) hx _).setCell (p:=⟨X+1,5,none⟩) hx _
theorem mn (q:Int) (g:Option Addr) (m s:Nat) (A:Option Addr) (u n:Nat) (y:Option Addr) (x t:Nat) (E:Int) (q2:Int) (N:List ac) (I:List (List af)) (J:List Int) (K:Bool) (w:World)
 (hC:∀w',Bl w w'→w'.cell? ⟨w.heap.size+1,0,none⟩=some (iT E)→Calls Tryz.prog 61 #[.agg #[iT q,.slice g m s,.slice A u n,.slice y x t],.func (.func 103) #[] #[.pointer (some ⟨w.heap.size+1,0,none⟩)]] w' (pf q2 N I J K w')) :
 Calls Tryz.prog 37 #[.agg #[iT q,.slice g m s,.slice A u n,.slice y x t],iT E] w (pf q2 N I J K w):=by
 obtain ⟨X,C⟩:=aF w.heap.size;obtain ⟨W,D⟩:=aF (((w.alloc (.cells #[iT q,.slice g m s,.slice A u n,.slice y x t] 31)).alloc (.cells #[iT E] 3)).alloc (.cells #[iT 0,nZ,nZ,nZ] 31));have O:Bl w W:=by rw [D];exact ((bZ.alloc (by simp;try omega) _).alloc (by simp;try omega) _)
 have R:ay W (X+1+1) (iT 0) nZ nZ nZ:=by
  have:=ay.new ((w.alloc (.cells #[iT q,.slice g m s,.slice A u n,.slice y x t] 31)).alloc (.cells #[iT E] 3)) 31 (iT 0) nZ nZ nZ;simp only [Gu] at this;rw [D,C];exact this
 have HX:Eq (X=w.heap.size):=C;have Q:Eq (Bl w W):=O;have CT:Eq (Calls Tryz.prog 61 #[.agg #[iT q,.slice g m s,.slice A u n,.slice y x t],.func (.func 103) #[] #[.pointer (some ⟨X+1,0,none⟩)]] W (pf q2 N I J K W)):=by
  try rw [C]
  exact hC W O (by rw [D];have h1:=dO (w.alloc (.cells #[iT q,.slice g m s,.slice A u n,.slice y x t] 31)) (iT E) 3 0 _ rfl;rw [Gv,Gu] at h1;exact cell_later bZ h1)
 have T:Eq (X+1+1<W.heap.size):=R.lt;clear O hC;go_enter Tryz.func37,Tryz.ntmps37
 go_wp2_with fail
 rw [← C,← D];clear C D;refine CT.o.mono ?_;rintro e H ⟨a1,B,a2,n2,a3,r,gs,Z,es,rfl,F,f⟩;have K1:Eq (Bl w H):=Q.o.trans (f.mono Q.o.size);have U:Eq (oy W.heap.size H.heap.size H a1 B a2 n2 a3 r N I J gs Z es):=F;have d:=R.keep f;have Y:Eq (ay H (X+1+1) (iT 0) nZ nZ nZ):=d;have r0:=d.all;clear f R F CT d;go_wp2;refine bodyPost_ret (v:=.tuple #[.agg #[iT q2,.slice a1 B B,.slice a2 n2 n2,.slice a3 r r],.bool K]) ?_ rfl ⟨a1,B,a2,n2,a3,r,gs,Z,es,rfl,?_,?_⟩
 · have e:=(((Y.o.set0 (iT q2)).set1 (.slice a1 B B)).set2 (.slice a2 n2 n2)).set3 (.slice a3 r r);simp [results,Tryz.results37,go_sem,e.all]
 · exact Ae U.o T.o Q.o.size (by simp [World.setCell]) _ _ _ _
 · have hx:w.heap.size≤X+1+1:=by have:=HX.o;omega
   exact lD K1.o hx _ _ _ _
theorem l9 {k t:ByteArray} {d n:Int} (h:dq k q d t n=true):k.size≤281474976710656∧t.size≤281474976710656:=by
 simp [dq,fW] at h;omega
theorem vc (h:aI L=true) (i k:Nat):∀e ∈ (L.drop i).take k,e.1.size≤281474976710656∧e.2.2.2.1.size≤281474976710656:=by
 intro e d;obtain ⟨p,hp,rfl⟩:=GT (Ha (GX d));exact l9 (eC h (j' hp))
theorem oK (h:aI L=true):∀e ∈ L,e.1.size≤281474976710656∧e.2.2.2.1.size≤281474976710656:=fun e f=>by
 obtain ⟨j,d,rfl⟩:=GT f
 exact l9 (eC h (j' d))
theorem nH (h:aI L=true):rl L:=fun e f=>by
 obtain ⟨j,d,rfl⟩:=GT f
 exact l9 (eC h (j' d))
theorem wv {Z:List af} (h:eS Z=false):∀r ∈ Z,cP r.1 r.2=true:=fun r hr=>by simpa using dr h r hr
theorem p6 {A B C:List af} (h:aT q M [A,B,C] S=true):wO M A B C S:=by
 obtain ⟨_,_,h3,h4,_,h6,⟨ha,hb,hc⟩,_⟩:=dR.1 h;rw [dh] at ha hb hc;have hS:=(f8.1 h6).1;have hr:∀{Z:List af} {n:Int},(Z.length:Int)≤n→n≤8→eS Z=false→ki Z∧iF Z:=fun {Z n} hl hn hz =>
  ⟨⟨by omega,fun p hp=>by have:=(bD (wv hz p hp)).2.1;omega⟩,fun p hp=>nH (bD (wv hz p hp)).2.2.1⟩
 have e:=hr ha.1 (by omega) ha.2.1;have d:=hr hb.1 (by omega) hb.2.1;have f:=hr hc.1 (by omega) hc.2.1;exact ⟨by omega,by omega,nH h4,e.1,d.1,f.1,e.2,d.2,f.2⟩
theorem iK {V:List (List af)} (h:aT q M V S=true):0≤q∧q≤100000∧M.length≤60∧aI M=true∧S.length≤4∧V.length=3:=by
 obtain ⟨A,B,C,rfl⟩:=gH h;obtain ⟨h1,h2,h3,h4,_,h6,_⟩:=dR.1 h;exact ⟨h1,h2,h3,h4,(f8.1 h6).1,rfl⟩
theorem AF (q:Int) (g:Option Addr) (m s:Nat) (K:Option Addr) (J x gk n cs:Nat) (M:List ac) (V:List (List af)) (S:List Int) (e:Int) (w:World) (N:bn 0 w g m s K J x (pT gk) n cs M V S) (f:aT q M V S=true) :
 Calls Tryz.prog 37 #[.agg #[iT q,.slice g m s,.slice K J x,sL gk n cs],iT e] w (pf q M V (bT S e) (decide (e ∈ S)) w):=by
 have hf:=iK f;have hsl:=N.snaps.length;have hsn:=(aV f).2.2.2.2.2.2.1;refine mn q g m s K J x _ n cs e q M V (bT S e) (decide (e ∈ S)) w (fun O k2 D=>?_);obtain ⟨b',y,A,B,C,a0,E,c0,a1,H,c1,a2,n2,F,rfl,rfl,rfl,t,u⟩:=(N.keep k2).share f;have d:=p6 f;by_cases hm:e ∈ S
 · rw [decide_eq_true hm];have r:wO M A B C (bT S e):=⟨d.bm,Gq (vT S e) d.bk,d.em,d.b0,d.b1,d.b2,d.e0,d.e1,d.e2⟩;exact rG (w.heap.size+1) q g m s b' y x _ n cs a0 E c0 a1 H c1 a2 n2 F q M A B C (bT S e) O u (fun I k3=>Dv _ q g m s a0 a1 a2 E c0 H c1 n2 F gk 0 n cs M A B C S e I (t.keep k3) (cell_later k3 D) (by omega) hm q hsn) r
 · rw [decide_eq_false hm,tr hm];exact rH (w.heap.size+1) q g m s b' y x _ n cs a0 E c0 a1 H c1 a2 n2 F M A B C S O t u (fun I k3=>Dw _ q g m s a0 a1 a2 E c0 H c1 n2 F gk 0 n cs M A B C S e I (t.keep k3) (cell_later k3 D) (by omega) hm) d
theorem zW (q:Int) (f:Option Addr) (m y:Nat) (x:Option Addr) (g t:Nat) (u:Option Addr) (s cs:Nat) (M:List ac) (V:List (List af)) (S:List Int) (d:Int) (w:World) (C:bn 0 w f m y x g t u s cs M V S) (r:aT q M V S=true) :
 Calls Tryz.prog 45 #[.agg #[iT q,.slice f m y,.slice x g t,.slice u s cs],iT d] w (DS q M V (bT S d) (decide (d ∈ S)) w):=by
 refine (su 0 q f m y x g t u s cs M V S d w C r).mono ?_;rintro e A ⟨n,_,_,_,_,_,_,B,hc,hb⟩;exact A3 B hc hb
end Go.Proofs.YtpobkmjicbobdaaGreat
namespace Go.Proofs.YtpobkmjicbobdaaGreat
open Go.RowKit
set_option maxRecDepth 100000
theorem v6 {s d:ByteArray} (h:¬s=d):¬s.toList=d.toList:=fun e=>h (by
 rw [GS,GS] at e
 obtain ⟨⟨x⟩⟩:=s
 obtain ⟨⟨y⟩⟩:=d
 simpa using e)
theorem tS (s t:ByteArray) (q d n:Int) (w:World):(binOp .neq 50 (.agg #[.string s,iT q,iT d,.string t,iT n]) (.agg #[.string s,iT q,iT d,.string t,iT n])).run Tryz.prog w=.ok (.bool false) w:=by
 have hs:=run_equalIn_struct (P:=Tryz.prog) w 9999 50 #[.string s,iT q,iT d,.string t,iT n] #[.string s,iT q,iT d,.string t,iT n] (by kernel_rfl) (by kernel_rfl);simp [binOp,Op.equal,Op.maxDepth,hs,go_sem,Tryz.underlying50]
theorem tT (s t:ByteArray) (q d n:Int) (f m:ByteArray) (r g n':Int) (w:World) (h:¬((s,q,d,t,n):ac)=(f,r,g,m,n')):(binOp .neq 50 (.agg #[.string s,iT q,iT d,.string t,iT n]) (.agg #[.string f,iT r,iT g,.string m,iT n'])).run Tryz.prog w=.ok (.bool true) w:=by
 have hs:=run_equalIn_struct (P:=Tryz.prog) w 9999 50 #[.string s,iT q,iT d,.string t,iT n] #[.string f,iT r,iT g,.string m,iT n'] (by kernel_rfl) (by kernel_rfl);by_cases h1:s=f
 · subst h1;by_cases h2:q=r
   · subst h2;by_cases h3:d=g
     · subst h3;by_cases h4:t=m
       · subst h4;have h5:¬n=n':=fun e=>h (by rw [e])
         simp [binOp,Op.equal,Op.maxDepth,hs,go_sem,Tryz.underlying50,h5]
       · have u:=v6 h4;simp [binOp,Op.equal,Op.maxDepth,hs,go_sem,Tryz.underlying50,u]
     · simp [binOp,Op.equal,Op.maxDepth,hs,go_sem,Tryz.underlying50,h3]
   · simp [binOp,Op.equal,Op.maxDepth,hs,go_sem,Tryz.underlying50,h2]
 · have h4:=v6 h1;simp [binOp,Op.equal,Op.maxDepth,hs,go_sem,Tryz.underlying50,h4]
theorem um {e d:List ac} {k:Nat} {l:ac} (h1:e[k]?=some l) (h2:d[k]?=some l) (h:e.take k=d.take k):e.take (k+1)=d.take (k+1):=by
 rw [GH,GH,h1,h2,h]
end Go.Proofs.YtpobkmjicbobdaaGreat
namespace Go.Proofs.YtpobkmjicbobdaaGreat
open Go.RowKit
set_option maxRecDepth 100000
end Go.Proofs.YtpobkmjicbobdaaGreat
namespace Go.Proofs.YtpobkmjicbobdaaGreat
set_option maxRecDepth 100000
set_option maxHeartbeats 40000000
open Go.RowKit
theorem tq (a1 a2:Option Addr) (g c1 n2 c2:Nat) (I H:List ac) (w:World) (h1:aj w a1 g c1 I) (h2:aj w a2 n2 c2 H) :
 Calls Tryz.prog 79 #[.slice a1 g c1,.slice a2 n2 c2] w fun e w'=>e=.returned (.bool (decide (I=H)))∧Bl w w':=by
 have f:=az h1.length;have r:=az h2.length;have Y:=h1.room;have J:=h1.big;have X:=h2.room;have F:=h2.big;unfold maxLen at J F;have R:=az h1;have W:=az h2;by_cases hn:g=n2
 · subst hn;go_enter Tryz.func79,Tryz.ntmps79
   go_wp2;go_loopw [13] (fun i wr=>∃k:Nat,k≤g∧i=iT k∧Bl w wr∧I.take k=H.take k) (fun i _=>g - (intOf i).toNat)
   case atStart=>exact ⟨0,Gl _,rfl,Below.refl _ _,rfl⟩
   case round =>
    obtain ⟨k,hk,rfl,hb,B⟩:=hrel;have x:=az B;by_cases m:k<g
    · obtain ⟨x1,o1,rfl,E⟩:=R.o.form (by omega);obtain ⟨x2,o2,rfl,y⟩:=W.o.form (by omega);obtain ⟨s,q,d,t,n,hg,_,g0,g1,g2,g3,g4⟩:=R.o.ent hb E k m;obtain ⟨N,Q,U,O,K,C,_,p0,p1,p2,p3,p4⟩:=W.o.ent hb y k m;have D:=az hg;have u:=az C;have T:(k:Int)<(g:Int):=by omega
      by_cases hl:(s,q,d,t,n)=(N,Q,U,O,K)
      · cases hl;have A:=tS s t q d n;go_wp2_with fail
        go_quiet (fail)
        go_wp2;go_roundw
        case rel=>exact ⟨k+1,by omega,by go_num,below_drewN hb _,um D.o u.o x.o⟩
        case measure=>simp [intOf];omega
      · have A:=fun w=>tT s t q d n N O Q U K w hl
        have Z:=az hl;go_wp2_with fail
        go_quiet (fail)
        go_wp2;go_ret;refine ⟨ag (decide_eq_false ?_).symm,below_drewN hb _⟩;intro e;rw [e,u.o] at D;exact Z.o (by simpa [Eq] using D.symm)
    · go_wp2;go_ret;refine ⟨ag (decide_eq_true ?_).symm,hb⟩;have:=x.o;rw [Gr (by rw [f.o];omega),Gr (by rw [r.o];omega)] at this;exact this
 · go_enter Tryz.func79,Tryz.ntmps79
   go_wp2;go_ret;refine ⟨ag (decide_eq_false ?_).symm,Below.refl _ _⟩;intro e;rw [e,r.o] at f;exact hn f.o.symm
def jK (i1:Int) (L1:List ac) (i2:Int) (L2:List ac):Bool:=decide (i1=i2) && decide (L1=L2)
theorem oU (i1 i2:Int) (a1 a2:Option Addr) (d c1 n2 c2:Nat) (g f:List ac) (w:World) (h1:aj w a1 d c1 g) (h2:aj w a2 n2 c2 f) :
 Calls Tryz.prog 140 #[.agg #[.slice a1 d c1,iT i1],.agg #[.slice a2 n2 c2,iT i2]] w fun e w'=>e=.returned (.bool (jK i1 g i2 f))∧Bl w w':=by
 have hB:Bl w ((w.alloc (.cells #[.slice a1 d c1,iT i1] 63)).alloc (.cells #[.slice a2 n2 c2,iT i2] 63)):=bZ.alloc (by simp) _;by_cases hi:i1=i2
 · subst hi;go_enter Tryz.func140,Tryz.ntmps140
   go_wp2_with (go_at_call 79;refine (tq _ _ _ _ _ _ g f _ (h1.keep hB) (h2.keep hB)).mono ?_;rintro e n ⟨rfl,m⟩)
   go_ret;exact ⟨ag (by simp [jK]),hB.trans (m.mono (by simp;omega))⟩
 · have hd:(i1 == i2)=false:=by simpa using hi
   go_enter Tryz.func140,Tryz.ntmps140
   go_wp2;go_ret;exact ⟨ag (by simp [jK,hi]),hB⟩
end Go.Proofs.YtpobkmjicbobdaaGreat
