/- Walks. -/
import Derived.Test.YtpobkmjicbobdaaGreatSn27
namespace Go.Proofs.YtpobkmjicbobdaaGreat
set_option maxRecDepth 100000
set_option maxHeartbeats 40000000
open Go.RowKit
variable {S:List Int} {b c k lo n o:Nat} {w:World}
theorem aH.take (h:aH lo w (some ⟨b,o,none⟩) n c S) (hk:k≤n):aH lo w (some ⟨b,o,none⟩) k c (S.take k) where
 length:=by rw [List.length_take,h.length];omega
 room:=Nat.le_trans hk h.room
 big:=h.big
 wfs:=fun z hz=>h.wfs z (List.mem_of_mem_take hz)
 nil:=fun e=>by cases e
 lies:=fun x e hp=>h.lies x e (by omega)
 cells:=fun x e i hi=>by
  have hl:i<S.length:=by rw [List.length_take] at hi;omega
  rw [List.getElem_take]
  exact h.cells x e i hl
theorem aH.drop (h:aH lo w (some ⟨b,o,none⟩) n c S) (hk:k≤n):aH lo w (some ⟨b,o+k,none⟩) (n - k) (c - k) (S.drop k) where
 length:=by rw [List.length_drop,h.length]
 room:=by have:=h.room;omega
 big:=by have:=h.big;omega
 wfs:=fun z hz=>h.wfs z (List.mem_of_mem_drop hz)
 nil:=fun e=>by cases e
 lies:=fun x e hp=>by have h1:=h.lies _ rfl (by omega);cases e;exact h1
 cells:=fun x e i hi=>by
  have hl:k+i<S.length:=by rw [List.length_drop] at hi;omega
  have h1:=h.cells _ rfl (k+i) hl
  cases e
  rw [List.getElem_drop]
  simp only [Nat.add_assoc] at h1 ⊢
  exact h1
theorem qv (lo:Nat) (w:World) (b o c:Nat) (hc:c≤maxLen):aH lo w (some ⟨b,o,none⟩) 0 c [] :=
 ⟨rfl,Nat.zero_le _,hc,(fun z hz=>by cases hz),(fun e=>by cases e),(fun x e hp=>absurd hp (Nat.not_lt_zero _)),fun x e i hi=>absurd hi (Nat.not_lt_zero _)⟩
theorem nL {base:Nat} {v:Value} (h:w.ownsRow base 3 1 v n (S.map iT)) (hl:S.length=n) (hw:∀z ∈ S,(Lit.int .i64 z).wf=true):∃a c,v=.slice a n c∧aH base w a n c S:=by
 rcases h.2 with ⟨hv,h0⟩ | ⟨g,cap,cur,hv,_⟩
 · subst hv h0;obtain rfl:=List.length_eq_zero_iff.1 hl;exact ⟨none,0,rfl,⟨rfl,Nat.le_refl _,Nat.zero_le _,hw,fun _=>rfl,(fun x e=>by cases e),(fun x e=>by cases e)⟩⟩
 · subst hv;exact ⟨_,cap,rfl,eL h hl hw⟩
theorem tW (lo:Nat) (q:Int) (am:Option Addr) (nm cm:Nat) (a0 a1 a2:Option Addr) (n0 c0 n1 c1 n2 c2 kb ko nk ck:Nat) (S:List Int) (sq:Int) (w:World) (hS:aH lo w (some ⟨kb,ko,none⟩) nk ck S) (hn:nk≤1000) (hm:sq ∉ S) :
 Calls Tryz.prog 104 #[.agg #[iT q,.slice am nm cm,.slice a0 n0 c0,.slice a1 n1 c1,.slice a2 n2 c2,sO kb ko nk ck],iT sq] w (wF w):=by
 obtain ⟨X,hX⟩:=aI w.heap.size;obtain ⟨W,hW⟩:=aI ((w.alloc (.cells #[iT q,.slice am nm cm,.slice a0 n0 c0,.slice a1 n1 c1,.slice a2 n2 c2,sO kb ko nk ck] 82)).alloc (.cells #[iT 0,nZ,nZ,nZ,nZ,nZ] 82));have kW:Bl w W:=by rw [hW];exact bZ.alloc (by simp) _
 have bx:bE W X (iT q) (.slice am nm cm) (.slice a0 n0 c0) (.slice a1 n1 c1) (.slice a2 n2 c2) (sO kb ko nk ck):=by rw [hW,hX];exact (bE.new _ _ _ _ _ _ _ _).alloc _
 have br:bE W (X+1) (iT 0) nZ nZ nZ nZ nZ:=by
  have:=bE.new (w.alloc (.cells #[iT q,.slice am nm cm,.slice a0 n0 c0,.slice a1 n1 c1,.slice a2 n2 c2,sO kb ko nk ck] 82)) 82 (iT 0) nZ nZ nZ nZ nZ;rw [World.size_alloc] at this;rw [hW,hX];exact this
 have HX:Hid (X=w.heap.size):=hX;have K0:Hid (Bl w W):=kW;have HS:Hid (aH lo W (some ⟨kb,ko,none⟩) nk ck S):=hS.keep kW;have HSL:Hid (S.length=nk):=hS.length;have HSZ:Hid (W.heap.size=X+1+1):=by show _=_;rw [hW,hX];simp
 obtain ⟨IX,hIX⟩:∃IX:Int,IX=if sq ∈ S then ((S.idxOf sq:Nat):Int) else -1:=⟨_,rfl⟩
 have hIN:IX=-1:=by rw [hIX,if_neg hm]
 have CC:Hid (Calls Tryz.prog 163 #[sO kb ko nk ck,iT sq] W fun e w''=>e=.returned (iT IX)∧w''=W):=by rw [hIX];exact lH lo _ nk ck S sq W HS.out (by omega)
 clear hS kW hIX;have x0:=bx.c0;have x1:=bx.c1;have x2:=bx.c2;have x3:=bx.c3;have x4:=bx.c4;have x5:=bx.c5;have xf:=bx.fz;have xz:=bx.lt;go_enter Tryz.func104,Tryz.ntmps104
 go_wp2_with fail
 rw [← hX,← hW];clear hX hW;refine CC.out.mono ?_;rintro e w1 ⟨rfl,hw1⟩;have hw1:=hw1.symm;subst hw1;subst hIN;have y0:=br.c0;have y1:=br.c1;have y2:=br.c2;have y3:=br.c3;have y4:=br.c4;have y5:=br.c5;have yf:=br.fz;have yz:=br.lt;go_wp2;refine bodyPost_ret (v:=.tuple #[.agg #[iT q,.slice am nm cm,.slice a0 n0 c0,.slice a1 n1 c1,.slice a2 n2 c2,sO kb ko nk ck],.bool false]) ?_ rfl ⟨_,_,_,_,_,_,_,_,_,_,_,_,_,_,_,_,rfl,?_⟩
 · have e:=(((((br.set0 (iT q)).set1 (.slice am nm cm)).set2 (.slice a0 n0 c0)).set3 (.slice a1 n1 c1)).set4 (.slice a2 n2 c2)).set5 (sO kb ko nk ck);simp [results,Tryz.results104,go_sem,e.c0,e.c1,e.c2,e.c3,e.c4,e.c5]
 · have hx:w.heap.size≤X+1:=by have:=HX.out;omega
   exact ((gF K0.out hx _ _ _ _).setCell (p:=⟨X+1,4,none⟩) hx _).setCell (p:=⟨X+1,5,none⟩) hx _
theorem rY (lo:Nat) (q:Int) (am:Option Addr) (nm cm:Nat) (a0 a1 a2:Option Addr) (n0 c0 n1 c1 n2 c2 kb ko nk ck:Nat) (S:List Int) (sq Q:Int) (w:World) (hS:aH lo w (some ⟨kb,ko,none⟩) nk ck S) (hn:nk≤1000) (hm:sq ∈ S) (hsn:bF S Q=true) :
 Calls Tryz.prog 104 #[.agg #[iT q,.slice am nm cm,.slice a0 n0 c0,.slice a1 n1 c1,.slice a2 n2 c2,sO kb ko nk ck],iT sq] w fun e w'=>∃a5 n5 c5,e=.returned (.tuple #[.agg #[iT q,.slice am nm cm,.slice a0 n0 c0,.slice a1 n1 c1,.slice a2 n2 c2,.slice a5 n5 c5],.bool true])∧aH w.heap.size w' a5 n5 c5 (bn S sq)∧Bl w w':=by
 have HDE:Hid (S.take (S.idxOf sq)++S.drop (S.idxOf sq+1)=bn S sq):=ud hsn;have hidx:S.idxOf sq<S.length:=List.idxOf_lt_length_iff.2 hm;obtain ⟨X,hX⟩:=aI w.heap.size;obtain ⟨W,hW⟩:=aI ((w.alloc (.cells #[iT q,.slice am nm cm,.slice a0 n0 c0,.slice a1 n1 c1,.slice a2 n2 c2,sO kb ko nk ck] 82)).alloc (.cells #[iT 0,nZ,nZ,nZ,nZ,nZ] 82));have kW:Bl w W:=by rw [hW];exact bZ.alloc (by simp) _
 have bx:bE W X (iT q) (.slice am nm cm) (.slice a0 n0 c0) (.slice a1 n1 c1) (.slice a2 n2 c2) (sO kb ko nk ck):=by rw [hW,hX];exact (bE.new _ _ _ _ _ _ _ _).alloc _
 have br:bE W (X+1) (iT 0) nZ nZ nZ nZ nZ:=by
  have:=bE.new (w.alloc (.cells #[iT q,.slice am nm cm,.slice a0 n0 c0,.slice a1 n1 c1,.slice a2 n2 c2,sO kb ko nk ck] 82)) 82 (iT 0) nZ nZ nZ nZ nZ;rw [World.size_alloc] at this;rw [hW,hX];exact this
 have HX:Hid (X=w.heap.size):=hX;have K0:Hid (Bl w W):=kW;have HS:Hid (aH lo W (some ⟨kb,ko,none⟩) nk ck S):=hS.keep kW;have HSL:Hid (S.length=nk):=hS.length;have HSZ:Hid (W.heap.size=X+1+1):=by show _=_;rw [hW,hX];simp
 obtain ⟨IX,hIX⟩:∃IX:Int,IX=if sq ∈ S then ((S.idxOf sq:Nat):Int) else -1:=⟨_,rfl⟩
 have hIN:IX=((S.idxOf sq:Nat):Int):=by rw [hIX,if_pos hm]
 obtain ⟨at_,hat⟩:=aI (S.idxOf sq);rw [← hat] at hIN hidx HDE;rw [HSL.out] at hidx;have hcap:=HS.out.room;have hbig:=HS.out.big;unfold maxLen at hbig;clear hat hm hsn;have CC:Hid (Calls Tryz.prog 163 #[sO kb ko nk ck,iT sq] W fun e w''=>e=.returned (iT IX)∧w''=W):=by rw [hIX];exact lH lo _ nk ck S sq W HS.out (by omega)
 clear hS kW hIX;have x0:=bx.c0;have x1:=bx.c1;have x2:=bx.c2;have x3:=bx.c3;have x4:=bx.c4;have x5:=bx.c5;have xf:=bx.fz;have xz:=bx.lt;go_enter Tryz.func104,Tryz.ntmps104
 go_wp2_with fail
 rw [← hX,← hW];clear hX hW;refine CC.out.mono ?_;rintro e w1 ⟨rfl,hw1⟩;have hw1:=hw1.symm;subst hw1;subst hIN;have hp0:¬(at_:Int)<0:=by omega
 have hp1:(at_:Int)≤(ck:Int):=by omega
 have hp2:(at_:Int)+1≤(nk:Int):=by omega
 have e1:IntKind.i64.wrap ((at_:Int)+1)=((at_+1:Nat):Int):=by simp [IntKind.wrap,IntKind.bits,IntKind.signed];omega
 have e2:((at_:Int)+1).toNat=at_+1:=by omega
 by_cases hck:ck=at_+1
 · subst hck;have hnk:nk=at_+1:=by omega
   subst hnk;have CN:Hid (∀w' pb,Bl W w'→(∀j u,[sO kb ko at_ (at_+1),sO kb ko 0 0][j]?=some u→w'.cell? ⟨pb,j,none⟩=some u)→Calls Tryz.prog 162 #[sL pb 2 2] w' fun e w''=>∃a5 n5 c5,e=.returned (.slice a5 n5 c5)∧aH W.heap.size w'' a5 n5 c5 (bn S sq)∧Bl w' w''):=fun w' pb k hc=>by
    have hl:=HSL.out;have hI:=(HS.out.lower (Nat.zero_le _)).keep k;have hP:fT w' pb [S.take at_,S.drop (at_+1)]:=by
     refine ⟨World.block_lt_of_cell? _ _ (hc 0 _ rfl),fun i S' hS'=>?_⟩;have hlt:(S.take at_).length=at_:=by rw [List.length_take];omega
     have hld:(S.drop (at_+1)).length=(at_+1) - (at_+1):=by rw [List.length_drop,hl]
     match i,hS' with
     | 0,hS' =>
      simp at hS';subst hS';rw [hlt];exact ⟨kb,ko,(at_+1),hc 0 _ rfl,hI.take (by omega)⟩
     | 1,hS' =>
      simp at hS';subst hS';rw [hld];rw [Nat.sub_self];refine ⟨kb,ko,0,hc 1 _ rfl,?_⟩;rw [List.drop_of_length_le (by omega)];exact qv 0 w' kb ko 0 (Nat.zero_le _)
    have hfl:[S.take at_,S.drop (at_+1)].flatten=bn S sq:=by
     have:=HDE.out;simpa using this
    have hdl:(bn S sq).length=(at_+1) - 1:=by
     rw [← HDE.out,List.length_append,List.length_take,List.length_drop];omega
    refine (jC pb 2 [S.take at_,S.drop (at_+1)] w' hP rfl (by omega) (by rw [hfl,hdl];omega)).mono ?_;rintro e w'' ⟨v,rfl,ho,hb⟩;rw [hfl,hdl] at ho;obtain ⟨a5,c5,rfl,hi5⟩:=nL ho hdl (fun z hz=>HS.out.wfs z (nX hz));exact ⟨a5,_,c5,rfl,hi5.lower k.size,hb⟩
   have k0:Bl W W.drew:=(Below.refl _ W).drew;go_wp2_with fail
   refine wp_region_held_drew (S:=(fun _=>True)) (by kernel_rfl) (trivial) (fun aa=>?_);generalize W.drew=wd at k0 aa ⊢;refine aO 0 1 aa ?_;refine aO 2 1 aa ?_;refine aO 4 1 aa ?_;refine aO 6 2 aa ?_;refine my 1 5 (fun K hK=>?_) fun K hK=>?_
   · have q5:=cell_later k0 x5;have qz:=Nat.lt_of_lt_of_le xz k0.size;go_simp;clear q5 qz;refine hK.out _ _ (trivial) fun aa=>?_
     (try go_frame);refine cC (i:=3) (v:=?_) rfl (by kernel_rfl) (by kernel_rfl) (by kernel_rfl) (fun _ _ _ h=>h) (Or.inl ⟨by rfl,?_⟩) aa ?_;rotate_left
     · (intro w hSw;(try dsimp only at hSw);go_simp;(try rw [if_pos (by omega)]);(try simp only [e2,if_pos,Nat.sub_self]);try with_reducible rfl)
     (try go_frame);refine aJ 5 fun K hK=>?_
     have q5:=cell_later k0 x5;have qz:=Nat.lt_of_lt_of_le xz k0.size;go_simp;clear q5 qz;refine hK.out _ _ (trivial) fun aa=>?_
     (try go_frame);refine cC (i:=8) (v:=?_) rfl (by kernel_rfl) (by kernel_rfl) (by kernel_rfl) (fun _ _ _ h=>h) (Or.inl ⟨by rfl,?_⟩) aa ?_;rotate_left
     · (intro w hSw;(try dsimp only at hSw);go_simp;(try rw [if_pos (by omega)]);(try simp only [e2,if_pos,Nat.sub_self]);try with_reducible rfl)
     (try go_frame);refine aJ 9 fun K hK=>?_
     go_simp;obtain ⟨wb,hwb⟩:=aI (wd.alloc (.cells #[sO kb ko at_ (at_+1),sO kb ko 0 0] 24));obtain ⟨pb,hpb⟩:=aI wd.heap.size;have kc:Bl wd wb:=by rw [hwb];exact bZ
     have kb2:Bl W wb:=k0.trans (kc.mono k0.size);have hc:∀j u,[sO kb ko at_ (at_+1),sO kb ko 0 0][j]?=some u→wb.cell? ⟨pb,j,none⟩=some u:=by
      intro j u hj;have h1:=bg wd (sO kb ko at_ (at_+1)) (sO kb ko 0 0) 24 j u hj;rw [Go.WideShapes.add_plain,Nat.zero_add,← hwb,← hpb] at h1;exact h1
     rw [← hwb];try rw [← hpb]
     clear hwb hpb;refine hK.out _ _ (trivial) fun aa=>?_
     (try go_frame);refine aJ 10 fun K hK=>?_
     go_simp;refine (CN.out _ _ kb2 hc).mono ?_;rintro e w3 ⟨a5,n5,c5,rfl,hI3,hb3⟩;have k3:Bl W w3:=kb2.trans (hb3.mono kb2.size);have HI3:Hid (aH W.heap.size w3 a5 n5 c5 (bn S sq)):=hI3;go_wp2_with fail
     refine hK.out _ _ (trivial) fun aa=>?_
     (try go_frame);refine aO 11 1 aa ?_;refine aJ 12 fun K hK=>?_
     have q5:=cell_later k3 x5;have qf:=(bx.keep k3).fz;have qz:=Nat.lt_of_lt_of_le xz k3.size;go_simp;clear q5 qf qz;refine hK.out _ _ (trivial) fun aa=>?_
     (try go_frame);refine dN ?_;have b3:=(bx.keep k3).set5 (.slice a5 n5 c5);have r3:=(br.keep k3).other (b':=X) (o:=5) (by omega) (.slice a5 n5 c5);obtain ⟨w4,hw4⟩:=aI (w3.setCell ⟨X,5,none⟩ (.slice a5 n5 c5));rw [← hw4] at b3 r3;have HR4:Hid (bE w4 (X+1) (iT 0) nZ nZ nZ nZ nZ):=r3;have hx:=HX.out;have hs:=HSZ.out;have HI4:Hid (aH W.heap.size w4 a5 n5 c5 (bn S sq)):=by rw [hw4];exact HI3.out.same (cF.of_set _ _ (by omega))
     have K4:Hid (Bl w w4):=by rw [hw4];exact (K0.out.trans (k3.mono K0.out.size)).setCell (p:=⟨X,5,none⟩) (by show _≤X;omega) _
     rw [← hw4];clear hw4 HI3 k3 kb2 hc k0 x0 x1 x2 x3 x4 x5 xf xz bx br aa hx hs;have x0:=b3.c0;have x1:=b3.c1;have x2:=b3.c2;have x3:=b3.c3;have x4:=b3.c4;have x5:=b3.c5;have xf:=b3.fz;have xz:=b3.lt;have y0:=r3.c0;have y1:=r3.c1;have y2:=r3.c2;have y3:=r3.c3;have y4:=r3.c4;have y5:=r3.c5;have yf:=r3.fz;have yz:=r3.lt;clear b3 r3;go_wp2;refine bodyPost_ret (v:=.tuple #[.agg #[iT q,.slice am nm cm,.slice a0 n0 c0,.slice a1 n1 c1,.slice a2 n2 c2,.slice a5 n5 c5],.bool true]) ?_ rfl ⟨a5,n5,c5,rfl,?_,?_⟩
     · have e:=(((((HR4.out.set0 (iT q)).set1 (.slice am nm cm)).set2 (.slice a0 n0 c0)).set3 (.slice a1 n1 c1)).set4 (.slice a2 n2 c2)).set5 (.slice a5 n5 c5);simp [results,Tryz.results104,go_sem,e.c0,e.c1,e.c2,e.c3,e.c4,e.c5]
     · have hx:=HX.out;have hs:=HSZ.out;have hset:∀(w':World) (b o:Nat) (u:Value),b<W.heap.size→cF W.heap.size w' (w'.setCell ⟨b,o,none⟩ u):=fun w' b o u hb=>cF.of_set _ _ hb
       exact (((((((HI4.out.same (hset _ (X+1) _ _ (by omega))).same (hset _ (X+1) _ _ (by omega))).same (hset _ (X+1) _ _ (by omega))).same (hset _ (X+1) _ _ (by omega))).same (hset _ (X+1) _ _ (by omega))).same (hset _ (X+1) _ _ (by omega)))).lower K0.out.size
     · have hx:w.heap.size≤X+1:=by have:=HX.out;omega
       exact ((gF K4.out hx _ _ _ _).setCell (p:=⟨X+1,4,none⟩) hx _).setCell (p:=⟨X+1,5,none⟩) hx _
   · have q5:=cell_later k0 x5;have qz:=Nat.lt_of_lt_of_le xz k0.size;go_simp;clear q5 qz;refine hK.out _ _ (trivial) fun aa=>?_
     (try go_frame);refine cC (i:=8) (v:=?_) rfl (by kernel_rfl) (by kernel_rfl) (by kernel_rfl) (fun _ _ _ h=>h) (Or.inl ⟨by rfl,?_⟩) aa ?_;rotate_left
     · (intro w hSw;(try dsimp only at hSw);go_simp;(try rw [if_pos (by omega)]);(try simp only [e2,if_pos,Nat.sub_self]);try with_reducible rfl)
     (try go_frame);refine aJ 1 fun K hK=>?_
     have q5:=cell_later k0 x5;have qz:=Nat.lt_of_lt_of_le xz k0.size;go_simp;clear q5 qz;refine hK.out _ _ (trivial) fun aa=>?_
     (try go_frame);refine cC (i:=3) (v:=?_) rfl (by kernel_rfl) (by kernel_rfl) (by kernel_rfl) (fun _ _ _ h=>h) (Or.inl ⟨by rfl,?_⟩) aa ?_;rotate_left
     · (intro w hSw;(try dsimp only at hSw);go_simp;(try rw [if_pos (by omega)]);(try simp only [e2,if_pos,Nat.sub_self]);try with_reducible rfl)
     (try go_frame);refine aJ 9 fun K hK=>?_
     go_simp;obtain ⟨wb,hwb⟩:=aI (wd.alloc (.cells #[sO kb ko at_ (at_+1),sO kb ko 0 0] 24));obtain ⟨pb,hpb⟩:=aI wd.heap.size;have kc:Bl wd wb:=by rw [hwb];exact bZ
     have kb2:Bl W wb:=k0.trans (kc.mono k0.size);have hc:∀j u,[sO kb ko at_ (at_+1),sO kb ko 0 0][j]?=some u→wb.cell? ⟨pb,j,none⟩=some u:=by
      intro j u hj;have h1:=bg wd (sO kb ko at_ (at_+1)) (sO kb ko 0 0) 24 j u hj;rw [Go.WideShapes.add_plain,Nat.zero_add,← hwb,← hpb] at h1;exact h1
     rw [← hwb];try rw [← hpb]
     clear hwb hpb;refine hK.out _ _ (trivial) fun aa=>?_
     (try go_frame);refine aJ 10 fun K hK=>?_
     go_simp;refine (CN.out _ _ kb2 hc).mono ?_;rintro e w3 ⟨a5,n5,c5,rfl,hI3,hb3⟩;have k3:Bl W w3:=kb2.trans (hb3.mono kb2.size);have HI3:Hid (aH W.heap.size w3 a5 n5 c5 (bn S sq)):=hI3;go_wp2_with fail
     refine hK.out _ _ (trivial) fun aa=>?_
     (try go_frame);refine aO 11 1 aa ?_;refine aJ 12 fun K hK=>?_
     have q5:=cell_later k3 x5;have qf:=(bx.keep k3).fz;have qz:=Nat.lt_of_lt_of_le xz k3.size;go_simp;clear q5 qf qz;refine hK.out _ _ (trivial) fun aa=>?_
     (try go_frame);refine dN ?_;have b3:=(bx.keep k3).set5 (.slice a5 n5 c5);have r3:=(br.keep k3).other (b':=X) (o:=5) (by omega) (.slice a5 n5 c5);obtain ⟨w4,hw4⟩:=aI (w3.setCell ⟨X,5,none⟩ (.slice a5 n5 c5));rw [← hw4] at b3 r3;have HR4:Hid (bE w4 (X+1) (iT 0) nZ nZ nZ nZ nZ):=r3;have hx:=HX.out;have hs:=HSZ.out;have HI4:Hid (aH W.heap.size w4 a5 n5 c5 (bn S sq)):=by rw [hw4];exact HI3.out.same (cF.of_set _ _ (by omega))
     have K4:Hid (Bl w w4):=by rw [hw4];exact (K0.out.trans (k3.mono K0.out.size)).setCell (p:=⟨X,5,none⟩) (by show _≤X;omega) _
     rw [← hw4];clear hw4 HI3 k3 kb2 hc k0 x0 x1 x2 x3 x4 x5 xf xz bx br aa hx hs;have x0:=b3.c0;have x1:=b3.c1;have x2:=b3.c2;have x3:=b3.c3;have x4:=b3.c4;have x5:=b3.c5;have xf:=b3.fz;have xz:=b3.lt;have y0:=r3.c0;have y1:=r3.c1;have y2:=r3.c2;have y3:=r3.c3;have y4:=r3.c4;have y5:=r3.c5;have yf:=r3.fz;have yz:=r3.lt;clear b3 r3;go_wp2;refine bodyPost_ret (v:=.tuple #[.agg #[iT q,.slice am nm cm,.slice a0 n0 c0,.slice a1 n1 c1,.slice a2 n2 c2,.slice a5 n5 c5],.bool true]) ?_ rfl ⟨a5,n5,c5,rfl,?_,?_⟩
     · have e:=(((((HR4.out.set0 (iT q)).set1 (.slice am nm cm)).set2 (.slice a0 n0 c0)).set3 (.slice a1 n1 c1)).set4 (.slice a2 n2 c2)).set5 (.slice a5 n5 c5);simp [results,Tryz.results104,go_sem,e.c0,e.c1,e.c2,e.c3,e.c4,e.c5]
     · have hx:=HX.out;have hs:=HSZ.out;have hset:∀(w':World) (b o:Nat) (u:Value),b<W.heap.size→cF W.heap.size w' (w'.setCell ⟨b,o,none⟩ u):=fun w' b o u hb=>cF.of_set _ _ hb
       exact (((((((HI4.out.same (hset _ (X+1) _ _ (by omega))).same (hset _ (X+1) _ _ (by omega))).same (hset _ (X+1) _ _ (by omega))).same (hset _ (X+1) _ _ (by omega))).same (hset _ (X+1) _ _ (by omega))).same (hset _ (X+1) _ _ (by omega)))).lower K0.out.size
     · have hx:w.heap.size≤X+1:=by have:=HX.out;omega
       exact ((gF K4.out hx _ _ _ _).setCell (p:=⟨X+1,4,none⟩) hx _).setCell (p:=⟨X+1,5,none⟩) hx _
 · have hcn:¬(ck:Int)=(at_:Int)+1:=by omega
   have CN:Hid (∀w' pb,Bl W w'→(∀j u,[sO kb ko at_ ck,.slice (some ⟨kb,ko+(at_+1),none⟩) (nk - (at_+1)) (ck - (at_+1))][j]?=some u→w'.cell? ⟨pb,j,none⟩=some u)→Calls Tryz.prog 162 #[sL pb 2 2] w' fun e w''=>∃a5 n5 c5,e=.returned (.slice a5 n5 c5)∧aH W.heap.size w'' a5 n5 c5 (bn S sq)∧Bl w' w''):=fun w' pb k hc=>by
    have hl:=HSL.out;have hI:=(HS.out.lower (Nat.zero_le _)).keep k;have hP:fT w' pb [S.take at_,S.drop (at_+1)]:=by
     refine ⟨World.block_lt_of_cell? _ _ (hc 0 _ rfl),fun i S' hS'=>?_⟩;have hlt:(S.take at_).length=at_:=by rw [List.length_take];omega
     have hld:(S.drop (at_+1)).length=nk - (at_+1):=by rw [List.length_drop,hl]
     match i,hS' with
     | 0,hS' =>
      simp at hS';subst hS';rw [hlt];exact ⟨kb,ko,ck,hc 0 _ rfl,hI.take (by omega)⟩
     | 1,hS' =>
      simp at hS';subst hS';rw [hld];exact ⟨kb,ko+(at_+1),ck - (at_+1),hc 1 _ rfl,hI.drop (by omega)⟩
    have hfl:[S.take at_,S.drop (at_+1)].flatten=bn S sq:=by
     have:=HDE.out;simpa using this
    have hdl:(bn S sq).length=nk - 1:=by
     rw [← HDE.out,List.length_append,List.length_take,List.length_drop];omega
    refine (jC pb 2 [S.take at_,S.drop (at_+1)] w' hP rfl (by omega) (by rw [hfl,hdl];omega)).mono ?_;rintro e w'' ⟨v,rfl,ho,hb⟩;rw [hfl,hdl] at ho;obtain ⟨a5,c5,rfl,hi5⟩:=nL ho hdl (fun z hz=>HS.out.wfs z (nX hz));exact ⟨a5,_,c5,rfl,hi5.lower k.size,hb⟩
   have k0:Bl W W.drew:=(Below.refl _ W).drew;go_wp2_with fail
   refine wp_region_held_drew (S:=(fun _=>True)) (by kernel_rfl) (trivial) (fun aa=>?_);generalize W.drew=wd at k0 aa ⊢;refine aO 0 1 aa ?_;refine aO 2 1 aa ?_;refine aO 4 1 aa ?_;refine aO 6 2 aa ?_;refine my 1 5 (fun K hK=>?_) fun K hK=>?_
   · have q5:=cell_later k0 x5;have qz:=Nat.lt_of_lt_of_le xz k0.size;go_simp;clear q5 qz;refine hK.out _ _ (trivial) fun aa=>?_
     (try go_frame);refine cC (i:=3) (v:=?_) rfl (by kernel_rfl) (by kernel_rfl) (by kernel_rfl) (fun _ _ _ h=>h) (Or.inl ⟨by rfl,?_⟩) aa ?_;rotate_left
     · (intro w hSw;(try dsimp only at hSw);go_simp;(try rw [if_pos (by omega)]);(try simp only [e2,if_pos,Nat.sub_self]);try with_reducible rfl)
     (try go_frame);refine aJ 5 fun K hK=>?_
     have q5:=cell_later k0 x5;have qz:=Nat.lt_of_lt_of_le xz k0.size;go_simp;clear q5 qz;refine hK.out _ _ (trivial) fun aa=>?_
     (try go_frame);refine cC (i:=8) (v:=?_) rfl (by kernel_rfl) (by kernel_rfl) (by kernel_rfl) (fun _ _ _ h=>h) (Or.inl ⟨by rfl,?_⟩) aa ?_;rotate_left
     · (intro w hSw;(try dsimp only at hSw);go_simp;(try rw [if_pos (by omega)]);(try simp only [e2,if_pos,Nat.sub_self]);try with_reducible rfl)
     (try go_frame);refine aJ 9 fun K hK=>?_
     go_simp;obtain ⟨wb,hwb⟩:=aI (wd.alloc (.cells #[sO kb ko at_ ck,.slice (some ⟨kb,ko+(at_+1),none⟩) (nk - (at_+1)) (ck - (at_+1))] 24));obtain ⟨pb,hpb⟩:=aI wd.heap.size;have kc:Bl wd wb:=by rw [hwb];exact bZ
     have kb2:Bl W wb:=k0.trans (kc.mono k0.size);have hc:∀j u,[sO kb ko at_ ck,.slice (some ⟨kb,ko+(at_+1),none⟩) (nk - (at_+1)) (ck - (at_+1))][j]?=some u→wb.cell? ⟨pb,j,none⟩=some u:=by
      intro j u hj;have h1:=bg wd (sO kb ko at_ ck) (.slice (some ⟨kb,ko+(at_+1),none⟩) (nk - (at_+1)) (ck - (at_+1))) 24 j u hj;rw [Go.WideShapes.add_plain,Nat.zero_add,← hwb,← hpb] at h1;exact h1
     rw [← hwb];try rw [← hpb]
     clear hwb hpb;refine hK.out _ _ (trivial) fun aa=>?_
     (try go_frame);refine aJ 10 fun K hK=>?_
     go_simp;refine (CN.out _ _ kb2 hc).mono ?_;rintro e w3 ⟨a5,n5,c5,rfl,hI3,hb3⟩;have k3:Bl W w3:=kb2.trans (hb3.mono kb2.size);have HI3:Hid (aH W.heap.size w3 a5 n5 c5 (bn S sq)):=hI3;go_wp2_with fail
     refine hK.out _ _ (trivial) fun aa=>?_
     (try go_frame);refine aO 11 1 aa ?_;refine aJ 12 fun K hK=>?_
     have q5:=cell_later k3 x5;have qf:=(bx.keep k3).fz;have qz:=Nat.lt_of_lt_of_le xz k3.size;go_simp;clear q5 qf qz;refine hK.out _ _ (trivial) fun aa=>?_
     (try go_frame);refine dN ?_;have b3:=(bx.keep k3).set5 (.slice a5 n5 c5);have r3:=(br.keep k3).other (b':=X) (o:=5) (by omega) (.slice a5 n5 c5);obtain ⟨w4,hw4⟩:=aI (w3.setCell ⟨X,5,none⟩ (.slice a5 n5 c5));rw [← hw4] at b3 r3;have HR4:Hid (bE w4 (X+1) (iT 0) nZ nZ nZ nZ nZ):=r3;have hx:=HX.out;have hs:=HSZ.out;have HI4:Hid (aH W.heap.size w4 a5 n5 c5 (bn S sq)):=by rw [hw4];exact HI3.out.same (cF.of_set _ _ (by omega))
     have K4:Hid (Bl w w4):=by rw [hw4];exact (K0.out.trans (k3.mono K0.out.size)).setCell (p:=⟨X,5,none⟩) (by show _≤X;omega) _
     rw [← hw4];clear hw4 HI3 k3 kb2 hc k0 x0 x1 x2 x3 x4 x5 xf xz bx br aa hx hs;have x0:=b3.c0;have x1:=b3.c1;have x2:=b3.c2;have x3:=b3.c3;have x4:=b3.c4;have x5:=b3.c5;have xf:=b3.fz;have xz:=b3.lt;have y0:=r3.c0;have y1:=r3.c1;have y2:=r3.c2;have y3:=r3.c3;have y4:=r3.c4;have y5:=r3.c5;have yf:=r3.fz;have yz:=r3.lt;clear b3 r3;go_wp2;refine bodyPost_ret (v:=.tuple #[.agg #[iT q,.slice am nm cm,.slice a0 n0 c0,.slice a1 n1 c1,.slice a2 n2 c2,.slice a5 n5 c5],.bool true]) ?_ rfl ⟨a5,n5,c5,rfl,?_,?_⟩
     · have e:=(((((HR4.out.set0 (iT q)).set1 (.slice am nm cm)).set2 (.slice a0 n0 c0)).set3 (.slice a1 n1 c1)).set4 (.slice a2 n2 c2)).set5 (.slice a5 n5 c5);simp [results,Tryz.results104,go_sem,e.c0,e.c1,e.c2,e.c3,e.c4,e.c5]
     · have hx:=HX.out;have hs:=HSZ.out;have hset:∀(w':World) (b o:Nat) (u:Value),b<W.heap.size→cF W.heap.size w' (w'.setCell ⟨b,o,none⟩ u):=fun w' b o u hb=>cF.of_set _ _ hb
       exact (((((((HI4.out.same (hset _ (X+1) _ _ (by omega))).same (hset _ (X+1) _ _ (by omega))).same (hset _ (X+1) _ _ (by omega))).same (hset _ (X+1) _ _ (by omega))).same (hset _ (X+1) _ _ (by omega))).same (hset _ (X+1) _ _ (by omega)))).lower K0.out.size
     · have hx:w.heap.size≤X+1:=by have:=HX.out;omega
       exact ((gF K4.out hx _ _ _ _).setCell (p:=⟨X+1,4,none⟩) hx _).setCell (p:=⟨X+1,5,none⟩) hx _
   · have q5:=cell_later k0 x5;have qz:=Nat.lt_of_lt_of_le xz k0.size;go_simp;clear q5 qz;refine hK.out _ _ (trivial) fun aa=>?_
     (try go_frame);refine cC (i:=8) (v:=?_) rfl (by kernel_rfl) (by kernel_rfl) (by kernel_rfl) (fun _ _ _ h=>h) (Or.inl ⟨by rfl,?_⟩) aa ?_;rotate_left
     · (intro w hSw;(try dsimp only at hSw);go_simp;(try rw [if_pos (by omega)]);(try simp only [e2,if_pos,Nat.sub_self]);try with_reducible rfl)
     (try go_frame);refine aJ 1 fun K hK=>?_
     have q5:=cell_later k0 x5;have qz:=Nat.lt_of_lt_of_le xz k0.size;go_simp;clear q5 qz;refine hK.out _ _ (trivial) fun aa=>?_
     (try go_frame);refine cC (i:=3) (v:=?_) rfl (by kernel_rfl) (by kernel_rfl) (by kernel_rfl) (fun _ _ _ h=>h) (Or.inl ⟨by rfl,?_⟩) aa ?_;rotate_left
     · (intro w hSw;(try dsimp only at hSw);go_simp;(try rw [if_pos (by omega)]);(try simp only [e2,if_pos,Nat.sub_self]);try with_reducible rfl)
     (try go_frame);refine aJ 9 fun K hK=>?_
     go_simp;obtain ⟨wb,hwb⟩:=aI (wd.alloc (.cells #[sO kb ko at_ ck,.slice (some ⟨kb,ko+(at_+1),none⟩) (nk - (at_+1)) (ck - (at_+1))] 24));obtain ⟨pb,hpb⟩:=aI wd.heap.size;have kc:Bl wd wb:=by rw [hwb];exact bZ
     have kb2:Bl W wb:=k0.trans (kc.mono k0.size);have hc:∀j u,[sO kb ko at_ ck,.slice (some ⟨kb,ko+(at_+1),none⟩) (nk - (at_+1)) (ck - (at_+1))][j]?=some u→wb.cell? ⟨pb,j,none⟩=some u:=by
      intro j u hj;have h1:=bg wd (sO kb ko at_ ck) (.slice (some ⟨kb,ko+(at_+1),none⟩) (nk - (at_+1)) (ck - (at_+1))) 24 j u hj;rw [Go.WideShapes.add_plain,Nat.zero_add,← hwb,← hpb] at h1;exact h1
     rw [← hwb];try rw [← hpb]
     clear hwb hpb;refine hK.out _ _ (trivial) fun aa=>?_
     (try go_frame);refine aJ 10 fun K hK=>?_
     go_simp;refine (CN.out _ _ kb2 hc).mono ?_;rintro e w3 ⟨a5,n5,c5,rfl,hI3,hb3⟩;have k3:Bl W w3:=kb2.trans (hb3.mono kb2.size);have HI3:Hid (aH W.heap.size w3 a5 n5 c5 (bn S sq)):=hI3;go_wp2_with fail
     refine hK.out _ _ (trivial) fun aa=>?_
     (try go_frame);refine aO 11 1 aa ?_;refine aJ 12 fun K hK=>?_
     have q5:=cell_later k3 x5;have qf:=(bx.keep k3).fz;have qz:=Nat.lt_of_lt_of_le xz k3.size;go_simp;clear q5 qf qz;refine hK.out _ _ (trivial) fun aa=>?_
     (try go_frame);refine dN ?_;have b3:=(bx.keep k3).set5 (.slice a5 n5 c5);have r3:=(br.keep k3).other (b':=X) (o:=5) (by omega) (.slice a5 n5 c5);obtain ⟨w4,hw4⟩:=aI (w3.setCell ⟨X,5,none⟩ (.slice a5 n5 c5));rw [← hw4] at b3 r3;have HR4:Hid (bE w4 (X+1) (iT 0) nZ nZ nZ nZ nZ):=r3;have hx:=HX.out;have hs:=HSZ.out;have HI4:Hid (aH W.heap.size w4 a5 n5 c5 (bn S sq)):=by rw [hw4];exact HI3.out.same (cF.of_set _ _ (by omega))
     have K4:Hid (Bl w w4):=by rw [hw4];exact (K0.out.trans (k3.mono K0.out.size)).setCell (p:=⟨X,5,none⟩) (by show _≤X;omega) _
     rw [← hw4];clear hw4 HI3 k3 kb2 hc k0 x0 x1 x2 x3 x4 x5 xf xz bx br aa hx hs;have x0:=b3.c0;have x1:=b3.c1;have x2:=b3.c2;have x3:=b3.c3;have x4:=b3.c4;have x5:=b3.c5;have xf:=b3.fz;have xz:=b3.lt;have y0:=r3.c0;have y1:=r3.c1;have y2:=r3.c2;have y3:=r3.c3;have y4:=r3.c4;have y5:=r3.c5;have yf:=r3.fz;have yz:=r3.lt;clear b3 r3;go_wp2;refine bodyPost_ret (v:=.tuple #[.agg #[iT q,.slice am nm cm,.slice a0 n0 c0,.slice a1 n1 c1,.slice a2 n2 c2,.slice a5 n5 c5],.bool true]) ?_ rfl ⟨a5,n5,c5,rfl,?_,?_⟩
     · have e:=(((((HR4.out.set0 (iT q)).set1 (.slice am nm cm)).set2 (.slice a0 n0 c0)).set3 (.slice a1 n1 c1)).set4 (.slice a2 n2 c2)).set5 (.slice a5 n5 c5);simp [results,Tryz.results104,go_sem,e.c0,e.c1,e.c2,e.c3,e.c4,e.c5]
     · have hx:=HX.out;have hs:=HSZ.out;have hset:∀(w':World) (b o:Nat) (u:Value),b<W.heap.size→cF W.heap.size w' (w'.setCell ⟨b,o,none⟩ u):=fun w' b o u hb=>cF.of_set _ _ hb
       exact (((((((HI4.out.same (hset _ (X+1) _ _ (by omega))).same (hset _ (X+1) _ _ (by omega))).same (hset _ (X+1) _ _ (by omega))).same (hset _ (X+1) _ _ (by omega))).same (hset _ (X+1) _ _ (by omega))).same (hset _ (X+1) _ _ (by omega)))).lower K0.out.size
     · have hx:w.heap.size≤X+1:=by have:=HX.out;omega
       exact ((gF K4.out hx _ _ _ _).setCell (p:=⟨X+1,4,none⟩) hx _).setCell (p:=⟨X+1,5,none⟩) hx _
end Go.Proofs.YtpobkmjicbobdaaGreat
