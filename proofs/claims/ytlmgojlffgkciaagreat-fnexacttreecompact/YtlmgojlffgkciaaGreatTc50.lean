/-
  The document's l5Compact: what it makes of a tree, by walks of its Go text.
-/
import Derived.Test.YtlmgojlffgkciaaGreatTc49
import Derived.Test.YtlmgojlffgkciaaGreatTc37
namespace Go.Proofs.YtlmgojlffgkciaaGreat
open Go.RowKit
set_option maxRecDepth 100000
set_option maxHeartbeats 8000000
theorem sI (g:Nat) (w:World):aj 0 w (pT g) 0 0 []:=⟨rfl,Nat.le_refl _,Nat.zero_le _,fun _=>rfl,(fun _ _ h=>absurd h (Nat.lt_irrefl _)),fun _ _ _ h=>absurd h (Nat.not_lt_zero _)⟩
theorem qQ (lo:Nat) (q:Int) (b1 nm cm bv cv b3 ns cs:Nat) (M:List ac) (A B C:List ae) (S:List Int) (bt ot nt ct:Nat) (pk:Int) (w:World) (hT:aM lo w (pT b1) nm cm (pT bv) 3 cv (pT b3) ns cs M [A,B,C] S) (hnm:nm≤1048576) (hns:ns≤1048576) (hSz:∀Z ∈ [A,B,C],Z.length≤100∧∀r ∈ Z,1≤r.1.length∧r.1.length≤10000) (hcell:w.cell? ⟨bv,0,none⟩=some (sO bt ot nt ct)) (hTk:aj 0 w (some ⟨bt,ot,none⟩) nt ct A) (hn0:1≤nt) (hnt:nt≤100) (hok:fD A B) (hsum:(aH (cf A B)).flatten.length≤100000) :
 Calls Tryz.prog 64 #[.agg #[iT q,sL b1 nm cm,sL bv 3 cv,sL b3 ns cs],iT 0,iT pk] w (jb b3 q nm ns M (if ku A B C S 1=true then [[],dw A B C S 1,C] else [A,B,C]) S (ku A B C S 1) w):=by
 obtain ⟨X,hX⟩:=ay w.heap.size;obtain ⟨W,hW⟩:=ay ((w.alloc (.cells #[iT q,sL b1 nm cm,sL bv 3 cv,sL b3 ns cs] 31)).alloc (.cells #[iT 0,nZ,nZ,nZ] 31));have kW:Bl w W:=by rw [hW];exact bZ.alloc (by simp) _
 have bx:aF W X (iT q) (sL b1 nm cm) (sL bv 3 cv) (sL b3 ns cs):=by rw [hW,hX];exact (aF.new _ _ _ _ _ _).alloc _
 have br:aF W (X+1) (iT 0) nZ nZ nZ∧aw W (X+1) 31 4:=by
  have:=aF.new (w.alloc (.cells #[iT q,sL b1 nm cm,sL bv 3 cv,sL b3 ns cs] 31)) 31 (iT 0) nZ nZ nZ;rw [World.size_alloc] at this;rw [hW,hX];have h2:=cZ (w.alloc (.cells #[iT q,sL b1 nm cm,sL bv 3 cv,sL b3 ns cs] 31)) #[iT 0,nZ,nZ,nZ] 31;rw [World.size_alloc] at h2;exact ⟨this,h2⟩
 have HX:Hid (X=w.heap.size):=hX;have K0:Hid (Bl w W):=kW;have HBR:Hid (∀w',Bl W w'→aF w' (X+1) (iT 0) nZ nZ nZ∧m8 w' (X+1)):=fun w' k=>⟨br.1.keep k,iz (br.2.below k) (br.1.keep k)⟩
 have HBX:Hid (∀w',Bl W w'→aF w' X (iT q) (sL b1 nm cm) (sL bv 3 cv) (sL b3 ns cs)):=fun w' k=>bx.keep k
 have HTI:=bc hT;have hbv:bv<w.heap.size:=(hT.levels.lies _ rfl (by omega)).1;have HBV:Hid (bv≠X∧bv≠X+1):=⟨by omega,by omega⟩;have HB3:Hid (0<ns→b3<w.heap.size):=fun h=>(hT.snaps.lies _ rfl h).1
 obtain ⟨OK,hOK⟩:=ay (ku A B C S 1);rw [← hOK];obtain ⟨V',hV'⟩:=ay ((if OK=true then [[],dw A B C S 1,C] else [A,B,C]));rw [← hV'];have CMG:Hid (∀gb w',Bl w w'→Calls Tryz.prog 101 #[.agg #[iT q,sL b1 nm cm,sL bv 3 cv,sL b3 ns cs],iT 0,sO bt ot nt ct,sL gb 0 0] w' (jb b3 q nm ns M V' S OK w')):=fun gb w' k=>by
  rw [hV',hOK];exact uw lo q b1 nm cm bv cv b3 ns cs M A B C S bt ot nt ct A (pT gb) 0 0 [] w' (hT.keep k) hnm hns hSz (hTk.keep k) hnt (sI gb w') hok hsum
 have HCB:Hid (∀w',Bl W w'→w'.cell? ⟨bv,0,none⟩=some (sO bt ot nt ct)):=fun w' k=>cell_later (kW.trans (k.mono kW.size)) hcell
 have HSB:Hid (∀w',aF w' X (iT q) (sL b1 nm cm) (sL bv 3 cv) (sL b3 ns cs)→w'.cell? ⟨bv,0,none⟩=some (sO bt ot nt ct)→(fun w'=>w'.cell? ⟨X,0,none⟩=some (iT q)∧w'.cell? ⟨X,1,none⟩=some (sL b1 nm cm)∧w'.cell? ⟨X,2,none⟩=some (sL bv 3 cv)∧w'.cell? ⟨X,3,none⟩=some (sL b3 ns cs)∧w'.cell? ⟨bv,0,none⟩=some (sO bt ot nt ct)∧X<w'.heap.size∧bv<w'.heap.size) w'):=fun w' h h2=>⟨h.c0,h.c1,h.c2,h.c3,h2,h.lt,World.block_lt_of_cell? _ _ h2⟩
 have hS2:∀w',Bl W w'→(fun w'=>w'.cell? ⟨X,0,none⟩=some (iT q)∧w'.cell? ⟨X,1,none⟩=some (sL b1 nm cm)∧w'.cell? ⟨X,2,none⟩=some (sL bv 3 cv)∧w'.cell? ⟨X,3,none⟩=some (sL b3 ns cs)∧w'.cell? ⟨bv,0,none⟩=some (sO bt ot nt ct)∧X<w'.heap.size∧bv<w'.heap.size) w':=fun w' k=>HSB.out w' (HBX.out w' k) (HCB.out w' k)
 have k0:Bl W W.drew:=(Below.refl _ W).drew;have hntI:(nt:Int) > 0:=by omega
 have hntJ:(0:Int)<(nt:Int):=by omega
 have l0:=HCB.out W (Below.refl _ W);have lz:=World.block_lt_of_cell? _ _ l0;simp only at lz;clear kW br hT hTk hok hsum hSz hOK hV' hcell hbv;have x0:=bx.c0;have x1:=bx.c1;have x2:=bx.c2;have x3:=bx.c3;have xz:=bx.lt;clear bx;go_enter Tryz.func64,Tryz.ntmps64
 go_upto_region 1 with fail
 rw [← hX,← hW];clear hX hW;go_upto_region 2 with fail
 clear x0 x1 x2 x3 xz l0 lz hntI hntJ;refine vC hS2 k0 fun aa=>?_
 generalize W.drew=wd at k0 aa ⊢;refine aL 0 5 aa ?_;refine aS 5 fun K hK=>?_
 go_simp;have kc:Bl wd (wd.alloc (.cells #[] 102)):=bZ;have k1:Bl W (wd.alloc (.cells #[] 102)):=k0.trans (kc.mono k0.size);generalize wd.heap.size=gb;generalize wd.alloc (.cells #[] 102)=wb at k1 ⊢;clear kc;refine hK.out _ _ (hS2 _ k1) fun aa=>?_
 (try go_frame);refine aS 6 fun K hK=>?_
 go_simp;refine (CMG.out gb _ (K0.out.trans (k1.mono K0.out.size))).mono ?_;rintro e w2 ⟨g1,c1',G,c,g3,c3,rfl,hg3,hT2,hb2⟩;have k2:Bl W w2:=k1.trans (hb2.mono k1.size);have HT2:Hid (aM 0 w2 (pT g1) nm c1' (pT G) 3 c (pT g3) ns c3 M V' S):=hT2;have HGE:Hid (g3=b3∨X+1<g3):=by have h0:=k1.size;have h1:=(HBR.out _ (Below.refl _ W)).1.lt;rcases hg3 with h | h;exact .inl h;exact .inr (by omega)
 have HG3:Hid (g3=b3∨w.heap.size≤g3):=by have h0:=k1.size;have h1:=K0.out.size;rcases hg3 with h | h;exact .inl h;exact .inr (by omega)
 clear hT2 hb2 hg3;go_wp2_with fail
 refine hK.out _ _ (hS2 _ k2) fun aa=>?_
 (try go_frame);refine aL 7 2 aa ?_;refine aS 9 fun K hK=>?_
 have y2:=(HBR.out _ k2).1;have r0:=y2.c0;have r1:=y2.c1;have r2:=y2.c2;have r3:=y2.c3;have rf:=y2.fz;have rz:=y2.lt;have hxx:X+1≠X:=by omega
 have bx3:=((((HBX.out _ k2).other (b':=X+1) (o:=0) hxx (iT q)).other (b':=X+1) (o:=1) hxx (sL g1 nm c1')).other (b':=X+1) (o:=2) hxx (sL G 3 c)).other (b':=X+1) (o:=3) hxx (sL g3 ns c3);have cb3:=(fx w2 (X+1) (iT q) (sL g1 nm c1') (sL G 3 c) (sL g3 ns c3) bv HBV.out.2 _).trans (HCB.out _ k2);go_simp;refine hK.out _ _ (HSB.out _ bx3 cb3) fun aa=>?_
 (try go_frame);refine aL 10 1 aa ?_;refine dN ?_;have HY2:Hid (aF w2 (X+1) (iT 0) nZ nZ nZ):=y2;have KL2:Hid (Bl w w2):=K0.out.trans (k2.mono K0.out.size);have HT2':Hid (m8 w2 (X+1)):=(HBR.out _ k2).2;clear bx3 cb3 aa r0 r1 r2 r3 rf rz y2 hxx;go_wp2;refine bodyPost_ret (v:=.tuple #[.agg #[iT q,sL g1 nm c1',sL G 3 c,sL g3 ns c3],.bool OK]) ?_ rfl (show jb _ _ _ _ _ _ _ _ _ _ _ from ⟨g1,c1',G,c,g3,c3,rfl,?_,?_,?_⟩)
 · have e:=(((HY2.out.set0 (iT q)).set1 (sL g1 nm c1')).set2 (sL G 3 c)).set3 (sL g3 ns c3);simp [results,Tryz.results64,go_sem,e.c0,e.c1,e.c2,e.c3]
 · exact HG3.out
 · exact HT2.out.apartX HT2'.out HY2.out.c0 (fun h=>by have h1:=HG3.out;have h2:=HB3.out h;have h3:=HX.out;have h4:=HGE.out;omega) (Nat.le_of_eq (jZ w2 (X+1) (iT q) (sL g1 nm c1') (sL G 3 c) (sL g3 ns c3)).symm) (fx w2 (X+1) (iT q) (sL g1 nm c1') (sL G 3 c) (sL g3 ns c3))
 · have hx:w.heap.size≤X+1:=by have:=HX.out;omega
   exact li KL2.out hx _ _ _ _
theorem qO (lo:Nat) (q:Int) (b1 nm cm bv cv b3 ns cs:Nat) (M:List ac) (A B C:List ae) (S:List Int) (a0 a1:Option Addr) (n0 c0 n1 c1:Nat) (lv pk:Int) (w:World) (hT:aM lo w (pT b1) nm cm (pT bv) 3 cv (pT b3) ns cs M [A,B,C] S) (hcell:w.cell? ⟨bv,0,none⟩=some (.slice a0 n0 c0)) (hcell1:w.cell? ⟨bv,1,none⟩=some (.slice a1 n1 c1)) (hno:¬(lv=0∧1≤n0)∧¬(lv=1∧0≤pk∧pk<n1)) :
 Calls Tryz.prog 64 #[.agg #[iT q,sL b1 nm cm,sL bv 3 cv,sL b3 ns cs],iT lv,iT pk] w (jb b3 q nm ns M [A,B,C] S false w):=by
 obtain ⟨X,hX⟩:=ay w.heap.size;obtain ⟨W,hW⟩:=ay ((w.alloc (.cells #[iT q,sL b1 nm cm,sL bv 3 cv,sL b3 ns cs] 31)).alloc (.cells #[iT 0,nZ,nZ,nZ] 31));have kW:Bl w W:=by rw [hW];exact bZ.alloc (by simp) _
 have bx:aF W X (iT q) (sL b1 nm cm) (sL bv 3 cv) (sL b3 ns cs):=by rw [hW,hX];exact (aF.new _ _ _ _ _ _).alloc _
 have br:aF W (X+1) (iT 0) nZ nZ nZ∧aw W (X+1) 31 4:=by
  have:=aF.new (w.alloc (.cells #[iT q,sL b1 nm cm,sL bv 3 cv,sL b3 ns cs] 31)) 31 (iT 0) nZ nZ nZ;rw [World.size_alloc] at this;rw [hW,hX];have h2:=cZ (w.alloc (.cells #[iT q,sL b1 nm cm,sL bv 3 cv,sL b3 ns cs] 31)) #[iT 0,nZ,nZ,nZ] 31;rw [World.size_alloc] at h2;exact ⟨this,h2⟩
 have HX:Hid (X=w.heap.size):=hX;have K0:Hid (Bl w W):=kW;have HBR:Hid (∀w',Bl W w'→aF w' (X+1) (iT 0) nZ nZ nZ∧m8 w' (X+1)):=fun w' k=>⟨br.1.keep k,iz (br.2.below k) (br.1.keep k)⟩
 have HBX:Hid (∀w',Bl W w'→aF w' X (iT q) (sL b1 nm cm) (sL bv 3 cv) (sL b3 ns cs)):=fun w' k=>bx.keep k
 have HTI:=bc hT;have hbv:bv<w.heap.size:=(hT.levels.lies _ rfl (by omega)).1;have HBV:Hid (bv≠X∧bv≠X+1):=⟨by omega,by omega⟩;have HB3:Hid (0<ns→b3<w.heap.size):=fun h=>(hT.snaps.lies _ rfl h).1
 have l0:=cell_later kW hcell;have l1:=cell_later kW hcell1;have lz:=World.block_lt_of_cell? _ _ l0;simp only at lz;have x0:=bx.c0;have x1:=bx.c1;have x2:=bx.c2;have x3:=bx.c3;have xz:=bx.lt;have r0:=br.1.c0;have r1:=br.1.c1;have r2:=br.1.c2;have r3:=br.1.c3;have rf:=br.1.fz;have rz:=br.1.lt;have HY:Hid (aF W (X+1) (iT 0) nZ nZ nZ):=br.1;clear bx br kW hT hcell hcell1 hbv;by_cases h0:lv=0
 · subst h0;have hn:n0=0:=by omega
   subst hn;go_enter Tryz.func64,Tryz.ntmps64
   go_upto_region 1 with fail
   rw [← hX,← hW];clear hX hW;go_wp2;refine bodyPost_ret (v:=.tuple #[.agg #[iT q,sL b1 nm cm,sL bv 3 cv,sL b3 ns cs],.bool false]) ?_ rfl (show jb _ _ _ _ _ _ _ _ _ _ _ from ⟨b1,cm,bv,cv,b3,cs,rfl,.inl rfl,?_,?_⟩)
   · have e:=(((HY.out.set0 (iT q)).set1 (sL b1 nm cm)).set2 (sL bv 3 cv)).set3 (sL b3 ns cs);simp [results,Tryz.results64,go_sem,e.c0,e.c1,e.c2,e.c3]
   · have hx:w.heap.size≤X+1:=by have:=HX.out;omega
     exact (HTI.out.keep (li K0.out hx _ _ _ _)).lowR (Nat.zero_le _)
   · have hx:w.heap.size≤X+1:=by have:=HX.out;omega
     exact li K0.out hx _ _ _ _
 · have h0b:(lv == 0)=false:=by simpa using h0
   by_cases h1:lv=1
   · subst h1;by_cases hp:pk<0
     · have hpI:¬pk ≥ 0:=by omega
       have hpJ:¬0≤pk:=by omega
       go_enter Tryz.func64,Tryz.ntmps64
       go_upto_region 1 with fail
       rw [← hX,← hW];clear hX hW;go_wp2;refine bodyPost_ret (v:=.tuple #[.agg #[iT q,sL b1 nm cm,sL bv 3 cv,sL b3 ns cs],.bool false]) ?_ rfl (show jb _ _ _ _ _ _ _ _ _ _ _ from ⟨b1,cm,bv,cv,b3,cs,rfl,.inl rfl,?_,?_⟩)
       · have e:=(((HY.out.set0 (iT q)).set1 (sL b1 nm cm)).set2 (sL bv 3 cv)).set3 (sL b3 ns cs);simp [results,Tryz.results64,go_sem,e.c0,e.c1,e.c2,e.c3]
       · have hx:w.heap.size≤X+1:=by have:=HX.out;omega
         exact (HTI.out.keep (li K0.out hx _ _ _ _)).lowR (Nat.zero_le _)
       · have hx:w.heap.size≤X+1:=by have:=HX.out;omega
         exact li K0.out hx _ _ _ _
     · have hpI:pk ≥ 0:=by omega
       have hpJ:0≤pk:=by omega
       have hpK:¬pk<(n1:Int):=by omega
       go_enter Tryz.func64,Tryz.ntmps64
       go_upto_region 1 with fail
       rw [← hX,← hW];clear hX hW;go_wp2;refine bodyPost_ret (v:=.tuple #[.agg #[iT q,sL b1 nm cm,sL bv 3 cv,sL b3 ns cs],.bool false]) ?_ rfl (show jb _ _ _ _ _ _ _ _ _ _ _ from ⟨b1,cm,bv,cv,b3,cs,rfl,.inl rfl,?_,?_⟩)
       · have e:=(((HY.out.set0 (iT q)).set1 (sL b1 nm cm)).set2 (sL bv 3 cv)).set3 (sL b3 ns cs);simp [results,Tryz.results64,go_sem,e.c0,e.c1,e.c2,e.c3]
       · have hx:w.heap.size≤X+1:=by have:=HX.out;omega
         exact (HTI.out.keep (li K0.out hx _ _ _ _)).lowR (Nat.zero_le _)
       · have hx:w.heap.size≤X+1:=by have:=HX.out;omega
         exact li K0.out hx _ _ _ _
   · have h1b:(lv == 1)=false:=by simpa using h1
     go_enter Tryz.func64,Tryz.ntmps64
     go_upto_region 1 with fail
     rw [← hX,← hW];clear hX hW;go_wp2;refine bodyPost_ret (v:=.tuple #[.agg #[iT q,sL b1 nm cm,sL bv 3 cv,sL b3 ns cs],.bool false]) ?_ rfl (show jb _ _ _ _ _ _ _ _ _ _ _ from ⟨b1,cm,bv,cv,b3,cs,rfl,.inl rfl,?_,?_⟩)
     · have e:=(((HY.out.set0 (iT q)).set1 (sL b1 nm cm)).set2 (sL bv 3 cv)).set3 (sL b3 ns cs);simp [results,Tryz.results64,go_sem,e.c0,e.c1,e.c2,e.c3]
     · have hx:w.heap.size≤X+1:=by have:=HX.out;omega
       exact (HTI.out.keep (li K0.out hx _ _ _ _)).lowR (Nat.zero_le _)
     · have hx:w.heap.size≤X+1:=by have:=HX.out;omega
       exact li K0.out hx _ _ _ _
theorem qP (lo:Nat) (q:Int) (b1 nm cm bv cv b3 ns cs:Nat) (M:List ac) (A B C:List ae) (S:List Int) (e1 n1 c1 p:Nat) (w:World) (hT:aM lo w (pT b1) nm cm (pT bv) 3 cv (pT b3) ns cs M [A,B,C] S) (hnm:nm≤1048576) (hns:ns≤1048576) (hSz:∀Z ∈ [A,B,C],Z.length≤100∧∀r ∈ Z,1≤r.1.length∧r.1.length≤10000) (hcell:w.cell? ⟨bv,1,none⟩=some (sL e1 n1 c1)) (hB:aj 0 w (pT e1) n1 c1 B) (hp:p<n1) (hn1:n1≤100) (hok:fD ((B.drop p).take 1) C) (hsum:(aH (cf ((B.drop p).take 1) C)).flatten.length≤100000) :
 Calls Tryz.prog 64 #[.agg #[iT q,sL b1 nm cm,sL bv 3 cv,sL b3 ns cs],iT 1,iT (p:Int)] w (jb b3 q nm ns M (if ku ((B.drop p).take 1) C C S 2=true then [A,B.take p++B.drop (p+1),dw ((B.drop p).take 1) C C S 2] else [A,B,C]) S (ku ((B.drop p).take 1) C C S 2) w):=by
 obtain ⟨j0,hj,hy0,hy1,hy2⟩:=info_parts Tryz.infoRun;obtain ⟨X,hX⟩:=ay w.heap.size;obtain ⟨W,hW⟩:=ay ((w.alloc (.cells #[iT q,sL b1 nm cm,sL bv 3 cv,sL b3 ns cs] 31)).alloc (.cells #[iT 0,nZ,nZ,nZ] 31));have kW:Bl w W:=by rw [hW];exact bZ.alloc (by simp) _
 have bx:aF W X (iT q) (sL b1 nm cm) (sL bv 3 cv) (sL b3 ns cs):=by rw [hW,hX];exact (aF.new _ _ _ _ _ _).alloc _
 have br:aF W (X+1) (iT 0) nZ nZ nZ∧aw W (X+1) 31 4:=by
  have:=aF.new (w.alloc (.cells #[iT q,sL b1 nm cm,sL bv 3 cv,sL b3 ns cs] 31)) 31 (iT 0) nZ nZ nZ;rw [World.size_alloc] at this;rw [hW,hX];have h2:=cZ (w.alloc (.cells #[iT q,sL b1 nm cm,sL bv 3 cv,sL b3 ns cs] 31)) #[iT 0,nZ,nZ,nZ] 31;rw [World.size_alloc] at h2;exact ⟨this,h2⟩
 have HX:Hid (X=w.heap.size):=hX;have K0:Hid (Bl w W):=kW;have HBR:Hid (∀w',Bl W w'→aF w' (X+1) (iT 0) nZ nZ nZ∧m8 w' (X+1)):=fun w' k=>⟨br.1.keep k,iz (br.2.below k) (br.1.keep k)⟩
 have HBX:Hid (∀w',Bl W w'→aF w' X (iT q) (sL b1 nm cm) (sL bv 3 cv) (sL b3 ns cs)):=fun w' k=>bx.keep k
 have HTI:=bc hT;have hbv:bv<w.heap.size:=(hT.levels.lies _ rfl (by omega)).1;have HBV:Hid (bv≠X∧bv≠X+1):=⟨by omega,by omega⟩;have HB3:Hid (0<ns→b3<w.heap.size):=fun h=>(hT.snaps.lies _ rfl h).1
 obtain ⟨OK,hOK⟩:=ay (ku ((B.drop p).take 1) C C S 2);rw [← hOK];obtain ⟨V',hV'⟩:=ay ((if OK=true then [A,B.take p++B.drop (p+1),dw ((B.drop p).take 1) C C S 2] else [A,B,C]));rw [← hV'];have hroom:=hB.room;have hln:=hB.length;have hTk:aj 0 w (some ⟨e1,p*2,none⟩) 1 (c1 - p) ((B.drop p).take 1):=by
  have:=dp hB (i:=p) (j:=p+1) (by omega) (by omega);rw [if_neg (by omega),show p+1 - p=1 by omega] at this;exact this
 have CMG:Hid (∀g n c w',Bl w w'→aj 0 w' (pT g) n c (B.take p++B.drop (p+1))→Calls Tryz.prog 101 #[.agg #[iT q,sL b1 nm cm,sL bv 3 cv,sL b3 ns cs],iT 1,.slice (some ⟨e1,p*2,none⟩) 1 (c1 - p),sL g n c] w' (jb b3 q nm ns M V' S OK w')):=fun g n c w' k h=>by
  rw [hV',hOK];exact uu lo q b1 nm cm bv cv b3 ns cs M A B C S e1 (p*2) 1 (c1 - p) ((B.drop p).take 1) (pT g) n c (B.take p++B.drop (p+1)) w' (hT.keep k) hnm hns hSz (hTk.keep k) (by omega) h hok hsum
 have HCB:Hid (∀w',Bl W w'→w'.cell? ⟨bv,1,none⟩=some (sL e1 n1 c1)):=fun w' k=>cell_later (kW.trans (k.mono kW.size)) hcell
 have HSB:Hid (∀w',aF w' X (iT q) (sL b1 nm cm) (sL bv 3 cv) (sL b3 ns cs)→w'.cell? ⟨bv,1,none⟩=some (sL e1 n1 c1)→(fun w'=>w'.cell? ⟨X,0,none⟩=some (iT q)∧w'.cell? ⟨X,1,none⟩=some (sL b1 nm cm)∧w'.cell? ⟨X,2,none⟩=some (sL bv 3 cv)∧w'.cell? ⟨X,3,none⟩=some (sL b3 ns cs)∧w'.cell? ⟨bv,1,none⟩=some (sL e1 n1 c1)∧X<w'.heap.size∧bv<w'.heap.size) w'):=fun w' h h2=>⟨h.c0,h.c1,h.c2,h.c3,h2,h.lt,World.block_lt_of_cell? _ _ h2⟩
 have hS2:∀w',Bl W w'→(fun w'=>w'.cell? ⟨X,0,none⟩=some (iT q)∧w'.cell? ⟨X,1,none⟩=some (sL b1 nm cm)∧w'.cell? ⟨X,2,none⟩=some (sL bv 3 cv)∧w'.cell? ⟨X,3,none⟩=some (sL b3 ns cs)∧w'.cell? ⟨bv,1,none⟩=some (sL e1 n1 c1)∧X<w'.heap.size∧bv<w'.heap.size) w':=fun w' k=>HSB.out w' (HBX.out w' k) (HCB.out w' k)
 have k0:Bl W W.drew:=(Below.refl _ W).drew;obtain ⟨ox,hox⟩:=ay (if c1=p+1 then 0 else (p+1)*2);obtain ⟨nr,hnr⟩:=ay (n1 - (p+1));obtain ⟨cr,hcr⟩:=ay (c1 - (p+1));have hA':aj 0 w (pT e1) p c1 (B.take p):=by
  have:=dp hB (i:=0) (j:=p) (by omega) (by omega);have e0:(if c1=0 then 0 else 0*2)=0:=by split <;> rfl
  rw [e0] at this;simpa using this
 have hB':aj 0 w (some ⟨e1,ox,none⟩) nr cr (B.drop (p+1)):=by
  have:=dp hB (i:=p+1) (j:=n1) (by omega) (by omega);rw [List.take_of_length_le (by rw [List.length_drop,hln];omega)] at this;rw [hox,hnr,hcr];exact this
 obtain ⟨xsA,dA,rA⟩:=hA'.raw;obtain ⟨xsB,dB,rB⟩:=hB'.raw;have HDN:Hid (dq (·<w.heap.size) w (xsA++xsB) (B.take p++B.drop (p+1))):=dA.denP.app dB.denP;have HRA:Hid (gl w (sL e1 p c1) p xsA):=rA;have HRB:Hid (gl w (sO e1 ox nr cr) nr xsB):=rB;have hpI:(p:Int)<(n1:Int):=by omega
 have hp0:(p:Int) ≥ 0:=by omega
 have hp1:(0:Int)≤(p:Int):=by omega
 have wp1:IntKind.i64.wrap ((p:Int)+1)=(p:Int)+1:=by rw [IntWalk.i64_left];unfold wrap64;omega
 have htn:((p:Int)+1).toNat=p+1:=by omega
 have hpc:(p:Int)+1≤(c1:Int):=by omega
 have hpc0:(p:Int)≤(c1:Int):=by omega
 have hpz:(0:Int)≤(p:Int)+1:=by omega
 have hpn:(p:Int)+1≤(n1:Int):=by omega
 have hnc:(n1:Int)≤(c1:Int):=by omega
 have hcp:¬c1=p:=by omega
 have hav:(if c1=p+1 then some (⟨e1,0,none⟩:Addr) else some ⟨e1,(p+1)*2,none⟩)=some ⟨e1,ox,none⟩:=by rw [hox];split <;> rfl
 have hx1:p+1 - p=1:=by omega
 have hx2:n1 - (p+1)=nr:=hnr.symm;have hx3:c1 - (p+1)=cr:=hcr.symm;have hnr2:nr≤100:=by omega
 have hp2:p≤100:=by omega
 have l0:=HCB.out W (Below.refl _ W);have lz:=World.block_lt_of_cell? _ _ l0;simp only at lz;clear kW br hT hTk hok hsum hSz hOK hV' hcell hbv hB hA' hB' dA dB rA rB hox hnr hcr hln;have x0:=bx.c0;have x1:=bx.c1;have x2:=bx.c2;have x3:=bx.c3;have xz:=bx.lt;clear bx;go_enter Tryz.func64,Tryz.ntmps64
 go_upto_region 1 with fail
 rw [← hX,← hW];clear hX hW;go_upto_region 4 with fail
 clear x0 x1 x2 x3 xz l0 lz;refine vC hS2 k0 fun aa=>?_
 generalize W.drew=wd at k0 aa ⊢;refine aL 1 6 aa ?_;refine aL 8 7 aa ?_;refine aS 0 fun K hK=>?_
 go_simp;have kc:Bl wd (wd.alloc (.cells #[] 102)):=bZ;have k1:Bl W (wd.alloc (.cells #[] 102)):=k0.trans (kc.mono k0.size);have R1:(wd.alloc (.cells #[] 102)).ownsRow W.heap.size 102 2 (sL (wd.heap.size) 0 0) 0 []:=by
  have:=World.ownsRow_lit (base:=W.heap.size) (e:=102) (size:=2) wd #[] 0 k0.size (by simp) (by simp);simpa using this
 have hnA:=lD (HRA.out.keep (K0.out.trans (k1.mono K0.out.size)));generalize wd.heap.size=gb at R1 ⊢;generalize wd.alloc (.cells #[] 102)=wb at k1 R1 hnA ⊢;clear kc;refine hK.out _ _ (hS2 _ k1) fun aa=>?_
 (try go_frame);refine aS 7 fun K hK=>?_
 refine ax rfl (.tmp 43) (.tmp 49) 64 rfl W.heap.size 102 j0 _ 2 32 Tryz.underlying64 hj hy0 hy1 hy2 rfl (by decide) _ _ _ rfl R1 ⟨e1,0,none⟩ p c1 xsA rfl HRA.out.1 hnA.out HRA.out.2.1 ?_ ?_ ?_ ?_
 · unfold maxLen;omega
 · omega
 · exact k1.size
 intro v7 w7 ho7 hg7 hn7;obtain ⟨g7,c7,rfl⟩:=aU ho7 hn7;have hg7':wb.grownBy w7 (some gb):=hg7;have q2:Bl W w7:=k1.grown hg7' k1.size (fun x e=>by have h1:=Option.some.inj e;have h2:=(R1.lt gb rfl).1;omega);have hnB:=lD (HRB.out.keep (K0.out.trans (q2.mono K0.out.size)));have hz7:0+p=p:=by omega
 rw [hz7,List.nil_append] at ho7;refine hK.out _ _ (hS2 _ q2) fun aa=>?_
 (try go_frame);refine aS 15 fun K hK=>?_
 refine ax rfl (.tmp 50) (.tmp 57) 64 rfl W.heap.size 102 j0 _ 2 32 Tryz.underlying64 hj hy0 hy1 hy2 rfl (by decide) _ _ _ ?_ ho7 ⟨e1,ox,none⟩ nr cr xsB rfl HRB.out.1 hnB.out HRB.out.2.1 ?_ ?_ ?_ ?_
 · first | rfl | (rw [hz7];rfl) | simp
 · unfold maxLen;omega
 · omega
 · exact q2.size
 intro v8 w8 ho8 hg8 hn8;obtain ⟨g8,c8,rfl⟩:=aU ho8 hn8;have hg8':w7.grownBy w8 (some g7):=hg8;have q3:Bl W w8:=q2.grown hg8' q2.size (fun x e=>by have h1:=Option.some.inj e;have h2:=(ho7.lt g7 rfl).1;omega);refine hK.out _ _ (hS2 _ q3) fun aa=>?_
 (try go_frame);refine aL 16 1 aa ?_;refine dN ?_;have KL8:Bl w w8:=K0.out.trans (q3.mono K0.out.size);obtain ⟨a8,c8',e8,hR8⟩:=fe ho8 (HDN.out.low KL8).den;cases e8;have HR8:Hid (aj 0 w8 (pT g8) (p+nr) c8 (B.take p++B.drop (p+1))):=hR8;have Q3:Hid (Bl W w8):=q3;have bx8:=HBX.out w8 q3;have x0:=bx8.c0;have x1:=bx8.c1;have x2:=bx8.c2;have x3:=bx8.c3;have xz:=bx8.lt;have l0:=HCB.out w8 q3;have lz:=World.block_lt_of_cell? _ _ l0;simp only at lz;clear aa k0 k1 q2 q3 R1 hnA hnB ho7 hg7 hg7' hn7 ho8 hg8 hg8' hn8 hR8 KL8 bx8 hz7;go_upto_region 5 with fail
 clear x0 x1 x2 x3 xz l0 lz;have k5:Bl W w8.drew:=Q3.out.drew;have HR9:Hid (aj 0 w8.drew (pT g8) (p+nr) c8 (B.take p++B.drop (p+1))):=HR8.out.keep (Below.refl _ w8).drew;refine vC hS2 k5 fun aa=>?_
 generalize w8.drew=wd9 at k5 HR9 aa ⊢;refine aL 0 10 aa ?_;refine aS 10 fun K hK=>?_
 go_simp;refine (CMG.out _ _ _ _ (K0.out.trans (k5.mono K0.out.size)) HR9.out).mono ?_;rintro e w2 ⟨g1,c1',G,c,g3,c3,rfl,hg3,hT2,hb2⟩;have k2:Bl W w2:=k5.trans (hb2.mono k5.size);have HT2:Hid (aM 0 w2 (pT g1) nm c1' (pT G) 3 c (pT g3) ns c3 M V' S):=hT2;have HGE:Hid (g3=b3∨X+1<g3):=by have h0:=k5.size;have h1:=(HBR.out _ (Below.refl _ W)).1.lt;rcases hg3 with h | h;exact .inl h;exact .inr (by omega)
 have HG3:Hid (g3=b3∨w.heap.size≤g3):=by have h0:=k5.size;have h1:=K0.out.size;rcases hg3 with h | h;exact .inl h;exact .inr (by omega)
 clear hT2 hb2 hg3;go_wp2_with fail
 refine hK.out _ _ (hS2 _ k2) fun aa=>?_
 (try go_frame);refine aL 11 2 aa ?_;refine aS 13 fun K hK=>?_
 have y2:=(HBR.out _ k2).1;have r0:=y2.c0;have r1:=y2.c1;have r2:=y2.c2;have r3:=y2.c3;have rf:=y2.fz;have rz:=y2.lt;have hxx:X+1≠X:=by omega
 have bx3:=((((HBX.out _ k2).other (b':=X+1) (o:=0) hxx (iT q)).other (b':=X+1) (o:=1) hxx (sL g1 nm c1')).other (b':=X+1) (o:=2) hxx (sL G 3 c)).other (b':=X+1) (o:=3) hxx (sL g3 ns c3);have cb3:=(fx w2 (X+1) (iT q) (sL g1 nm c1') (sL G 3 c) (sL g3 ns c3) bv HBV.out.2 _).trans (HCB.out _ k2);go_simp;refine hK.out _ _ (HSB.out _ bx3 cb3) fun aa=>?_
 (try go_frame);refine aL 14 1 aa ?_;refine dN ?_;have HY2:Hid (aF w2 (X+1) (iT 0) nZ nZ nZ):=y2;have KL2:Hid (Bl w w2):=K0.out.trans (k2.mono K0.out.size);have HT2':Hid (m8 w2 (X+1)):=(HBR.out _ k2).2;clear bx3 cb3 aa r0 r1 r2 r3 rf rz y2 hxx;go_wp2;refine bodyPost_ret (v:=.tuple #[.agg #[iT q,sL g1 nm c1',sL G 3 c,sL g3 ns c3],.bool OK]) ?_ rfl (show jb _ _ _ _ _ _ _ _ _ _ _ from ⟨g1,c1',G,c,g3,c3,rfl,?_,?_,?_⟩)
 · have e:=(((HY2.out.set0 (iT q)).set1 (sL g1 nm c1')).set2 (sL G 3 c)).set3 (sL g3 ns c3);simp [results,Tryz.results64,go_sem,e.c0,e.c1,e.c2,e.c3]
 · exact HG3.out
 · exact HT2.out.apartX HT2'.out HY2.out.c0 (fun h=>by have h1:=HG3.out;have h2:=HB3.out h;have h3:=HX.out;have h4:=HGE.out;omega) (Nat.le_of_eq (jZ w2 (X+1) (iT q) (sL g1 nm c1') (sL G 3 c) (sL g3 ns c3)).symm) (fx w2 (X+1) (iT q) (sL g1 nm c1') (sL G 3 c) (sL g3 ns c3))
 · have hx:w.heap.size≤X+1:=by have:=HX.out;omega
   exact li KL2.out hx _ _ _ _
end Go.Proofs.YtlmgojlffgkciaaGreat

namespace Go.Proofs.YtlmgojlffgkciaaGreat
open Go.RowKit
set_option maxRecDepth 100000
set_option maxHeartbeats 8000000
theorem l7 (lv pk:Int) (lo:Nat) (q:Int) (b1 nm cm:Nat) (av:Option Addr) (cv b3 ns cs:Nat) (M:List ac) (V:List (List ae)) (S:List Int) (V2:List (List ae)) (ok:Bool) (w:World) (hT:aM lo w (pT b1) nm cm av 3 cv (pT b3) ns cs M V S) (htb:bV q M V S=true)
 (hC:∀(base g1 c1 G c g3 c3:Nat) (w':World),dy base w' g1 nm c1 G 3 c g3 ns c3 M V S→base≤w'.heap.size→Calls Tryz.prog 64 #[.agg #[iT q,sL g1 nm c1,sL G 3 c,sL g3 ns c3],iT lv,iT pk] w' (jb g3 q nm ns M V2 S ok w')) (hlv2:∀B ∈ V2,B.length≤100∧∀r ∈ B,1≤r.1.length∧r.1.length≤10000) :
 Calls Tryz.prog 30 #[.agg #[iT q,sL b1 nm cm,.slice av 3 cv,sL b3 ns cs],iT lv,iT pk] w (t8 q M V2 S ok w):=by
 have hsl:=hT.snaps.length;have hns:ns≤4:=by
  have h1:=(bH htb).2.2.2.2.2.2.1;unfold dl at h1;rw [Bool.and_eq_true] at h1;have h2:=of_decide_eq_true h1.1;omega
 have hnm:nm≤60:=by have h1:=(bH htb).2.2.1;have h2:=hT.mem.1.length;omega
 obtain ⟨A,B,C,hV3⟩:=nM htb;have hnv:3≤100:=by have h1:=hT.levels.length;rw [hV3] at h1;have h2:([A,B,C]:List (List ae)).length=3:=rfl;omega
 have hlv:∀B ∈ V,B.length≤100∧∀r ∈ B,1≤r.1.length∧r.1.length≤10000:=by
  have h8:gL V q=true:=(bH htb).2.2.2.2.2.2.2.1;rw [hV3] at h8 ⊢;unfold gL at h8;simp only [Bool.and_eq_true] at h8;intro Z hZm;simp only [List.mem_cons,List.not_mem_nil,or_false] at hZm;rcases hZm with rfl | rfl | rfl
  · exact fs h8.1 (by omega)
  · exact fs h8.2.1 (by omega)
  · exact fs h8.2.2 (by omega)
 have CO:Hid (∀w',Bl w w'→Calls Tryz.prog 37 #[.agg #[iT q,sL b1 nm cm,.slice av 3 cv,sL b3 ns cs]] w' fun e w''=>e=.returned (.bool true)∧Bl w' w''):=fun w' k=>by
  have:=nW lo q _ _ _ _ _ _ _ _ _ M V S w' (hT.keep k);rw [htb] at this;exact this
 have CC:Hid (∀w',Bl w w'→Calls Tryz.prog 38 #[.agg #[iT q,sL b1 nm cm,.slice av 3 cv,sL b3 ns cs]] w' fun e w''=>∃g1 c1 G c g3 c3,e=.returned (.agg #[iT q,sL g1 nm c1,sL G 3 c,sL g3 ns c3])∧dy w'.heap.size w'' g1 nm c1 G 3 c g3 ns c3 M V S∧Bl w' w''):=fun w' k=>lp lo q b1 nm cm av 3 cv b3 ns cs M V S w' (hT.keep k) (by omega) (by omega) (by omega) hlv
 obtain ⟨X,hX⟩:=ay w.heap.size;obtain ⟨W,hW⟩:=ay ((w.alloc (.cells #[iT q,sL b1 nm cm,.slice av 3 cv,sL b3 ns cs] 31)).alloc (.cells #[iT 0,nZ,nZ,nZ] 31));have kW:Bl w W:=by rw [hW];exact bZ.alloc (by simp) _
 have bx:aF W X (iT q) (sL b1 nm cm) (.slice av 3 cv) (sL b3 ns cs):=by rw [hW,hX];exact (aF.new _ _ _ _ _ _).alloc _
 have br:aF W (X+1) (iT 0) nZ nZ nZ:=by
  have:=aF.new (w.alloc (.cells #[iT q,sL b1 nm cm,.slice av 3 cv,sL b3 ns cs] 31)) 31 (iT 0) nZ nZ nZ;rw [World.size_alloc] at this;rw [hW,hX];exact this
 have HX:Hid (X=w.heap.size):=hX;have K0:Hid (Bl w W):=kW;have HIN:Hid (aT lo w (pT b3) ns cs S):=hT.snaps;have HSL:Hid (S.length=ns):=hsl;have HSW:Hid (∀z ∈ S,(Lit.int .i64 z).wf=true):=hT.snaps.wfs;clear kW hlv htb hV3;go_enter Tryz.func30,Tryz.ntmps30
 go_wp2_with fail
 rw [← hX,← hW];clear hX hW;refine (CO.out _ K0.out).mono ?_;rintro e w1 ⟨rfl,hb1⟩;have K1:Hid (Bl w w1):=K0.out.trans (hb1.mono K0.out.size);have bx1:=bx.keep hb1;have br1:=br.keep hb1;have x0:=bx1.c0;have x1:=bx1.c1;have x2:=bx1.c2;have x3:=bx1.c3;have xf:=bx1.fz;have xz:=bx1.lt;clear hb1 bx br;go_wp2_with fail
 clear x0 x1 x2 x3 xf xz;refine (CC.out _ K1.out).mono ?_;rintro e w2 ⟨g1,c1,G,c,g3,c3,rfl,hC2,hb2⟩;have K2:Hid (Bl w w2):=K1.out.trans (hb2.mono K1.out.size);have CT:=hC w1.heap.size g1 c1 G c g3 c3 w2 hC2 hb2.size;have br2:=br1.keep hb2;clear hb2 hC2 bx1 br1 hC CC CO;go_wp2_with fail
 refine CT.mono ?_;rintro e w3 ⟨h1,d1,H,dv,h3,d3,rfl,_,hD3,hb3⟩;have K3:Hid (Bl w w3):=K2.out.trans (hb3.mono K2.out.size);obtain ⟨Y,hY⟩:=ay w3.heap.size;obtain ⟨wY,hwY⟩:=ay (w3.alloc (.cells #[iT q,sL h1 nm d1,sL H 3 dv,sL h3 ns d3] 31));have kY:Bl w3 wY:=by rw [hwY];exact bZ
 have bY:aF wY Y (iT q) (sL h1 nm d1) (sL H 3 dv) (sL h3 ns d3):=by rw [hwY,hY];exact aF.new _ _ _ _ _ _
 have KY:Hid (Bl w wY):=K3.out.trans (kY.mono K3.out.size);have C4:=lp 0 q h1 nm d1 (pT H) 3 dv h3 ns d3 M V2 S wY (hD3.keep kY) (by omega) (by omega) (by omega) hlv2;have brY:=(br2.keep hb3).keep kY;have HXY:Hid (X+1<wY.heap.size):=brY.lt;clear hD3 hb3 br2 CT hlv2;go_upto_region 4 with fail
 rw [← hY,← hwY];clear hY hwY kY;have x0:=bY.c0;have x1:=bY.c1;have x2:=bY.c2;have x3:=bY.c3;have xf:=bY.fz;have xz:=bY.lt;clear bY;go_wp2_with fail
 clear x0 x1 x2 x3 xf xz;refine C4.mono ?_;rintro e w4 ⟨i1,e1,I,ce,i3,e3,rfl,hC4,hb4⟩;have K4:Hid (Bl w w4):=KY.out.trans (hb4.mono KY.out.size);have HC4:Hid (dy wY.heap.size w4 i1 nm e1 I 3 ce i3 ns e3 M V2 S):=hC4;have br3:=brY.keep hb4;have HR3:Hid (aF w4 (X+1) (iT 0) nZ nZ nZ):=br3;have r0:=br3.c0;have r1:=br3.c1;have r2:=br3.c2;have r3:=br3.c3;have rf:=br3.fz;have rz:=br3.lt;clear hb4 hC4 brY br3 C4;go_wp2;refine bodyPost_ret (v:=.tuple #[.agg #[iT q,sL i1 nm e1,sL I 3 ce,sL i3 ns e3],.bool ok]) ?_ rfl ⟨_,_,_,_,_,_,_,_,_,rfl,?_,?_⟩
 · have e:=(((HR3.out.set0 (iT q)).set1 (sL i1 nm e1)).set2 (sL I 3 ce)).set3 (sL i3 ns e3);simp [results,Tryz.results30,go_sem,e.c0,e.c1,e.c2,e.c3]
 · exact (HC4.out.four HXY.out _ _ _ _).treeIn.lowR (Nat.zero_le _)
 · have hx:w.heap.size≤X+1:=by have:=HX.out;omega
   exact li K4.out hx _ _ _ _
theorem pF (lv pk:Int) (lo:Nat) (q:Int) (am av ak:Option Addr) (nm cm nv cv ns cs:Nat) (M:List ac) (V:List (List ae)) (S:List Int) (w:World) (hT:aM lo w am nm cm av nv cv ak ns cs M V S) (htb:bV q M V S=false) :
 Calls Tryz.prog 30 #[.agg #[iT q,.slice am nm cm,.slice av nv cv,.slice ak ns cs],iT lv,iT pk] w (wR w):=by
 obtain ⟨X,hX⟩:=ay w.heap.size;obtain ⟨W,hW⟩:=ay ((w.alloc (.cells #[iT q,.slice am nm cm,.slice av nv cv,.slice ak ns cs] 31)).alloc (.cells #[iT 0,nZ,nZ,nZ] 31));have kW:Bl w W:=by rw [hW];exact bZ.alloc (by simp) _
 have br:aF W (X+1) (iT 0) nZ nZ nZ:=by
  have:=aF.new (w.alloc (.cells #[iT q,.slice am nm cm,.slice av nv cv,.slice ak ns cs] 31)) 31 (iT 0) nZ nZ nZ;rw [World.size_alloc] at this;rw [hW,hX];exact this
 have HX:Hid (X=w.heap.size):=hX;have K0:Hid (Bl w W):=kW;have CO:Hid (∀w',Bl w w'→Calls Tryz.prog 37 #[.agg #[iT q,.slice am nm cm,.slice av nv cv,.slice ak ns cs]] w' fun e w''=>e=.returned (.bool false)∧Bl w' w''):=fun w' k=>by
  have:=nW lo q _ _ _ _ _ _ _ _ _ M V S w' (hT.keep k);rw [htb] at this;exact this
 clear hT kW htb;go_enter Tryz.func30,Tryz.ntmps30
 go_wp2_with fail
 rw [← hX,← hW];clear hX hW;refine (CO.out _ K0.out).mono ?_;rintro e w1 ⟨rfl,hb1⟩;have K1:Hid (Bl w w1):=K0.out.trans (hb1.mono K0.out.size);have br1:=br.keep hb1;have r0:=br1.c0;have r1:=br1.c1;have r2:=br1.c2;have r3:=br1.c3;have rf:=br1.fz;have rz:=br1.lt;clear hb1 br;go_wp2;refine bodyPost_ret (v:=.tuple #[.agg #[iT 0,nZ,nZ,nZ],.bool false]) ?_ rfl ⟨rfl,?_⟩
 · have e:=(((br1.set0 (iT 0)).set1 nZ).set2 nZ).set3 nZ;simp [results,Tryz.results30,go_sem,e.c0,e.c1,e.c2,e.c3]
 · have hx:w.heap.size≤X+1:=by have:=HX.out;omega
   exact li K1.out hx _ _ _ _
end Go.Proofs.YtlmgojlffgkciaaGreat
