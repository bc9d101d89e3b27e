/- Walks. -/
import Derived.Test.YtpobkmjicbobdaaGreatBn28
namespace Go.Proofs.YtpobkmjicbobdaaGreat
set_option maxRecDepth 100000
set_option maxHeartbeats 40000000
open Go.RowKit
variable {C:List ag} {K L M:List ac} {S:List Int} {p q:Int}
theorem jP {lo:Nat} {w:World} {b n c i j:Nat} {B:List ag} (h:az lo w (pT b) n c B) (hij:i≤j) (hj:j≤n):az lo w (some ⟨b,if c=i then 0 else i*2,none⟩) (j - i) (c - i) ((B.drop i).take (j - i)) where
 length:=by rw [List.length_take,List.length_drop,h.length];omega
 room:=by have:=h.room;omega
 big:=by have:=h.big;omega
 nil:=fun e=>by cases e
 lies:=fun x e hp=>by
  have h1:=h.lies _ rfl (by omega)
  cases e
  exact h1
 runs:=fun x e t ht=>by
  rw [List.length_take,List.length_drop,h.length] at ht
  have hc:¬c=i:=by have:=h.room;omega
  have hl:i+t<B.length:=by rw [h.length];omega
  have h1:=h.runs _ rfl (i+t) hl
  cases e
  rw [List.getElem_take,List.getElem_drop,if_neg hc]
  simp only [Nat.zero_add] at h1
  rw [show i*2+t*2=(i+t)*2 by omega]
  exact h1
theorem xO (lo:Nat) (q:Int) (aM:Option Addr) (nm cm bv cv:Nat) (aK:Option Addr) (ns cs:Nat) (M:List ac) (A B C:List ag) (S:List Int) (bt ot nt ct:Nat) (pk:Int) (w:World) (hT:bf lo w aM nm cm (pT bv) 3 cv aK ns cs M [A,B,C] S) (hnm:nm≤1048576) (hns:ns≤1048576) (hSz:∀Z ∈ [A,B,C],Z.length≤100∧∀r ∈ Z,1≤r.1.length∧r.1.length≤10000) (hcell:w.cell? ⟨bv,0,none⟩=some (sO bt ot nt ct)) (hTk:az 0 w (some ⟨bt,ot,none⟩) nt ct A) (hn0:1≤nt) (hnt:nt≤100) (hok:fK A B) (hsum:(bn (dx A B)).flatten.length≤100000) :
 Calls Tryz.prog 56 #[.agg #[iT q,.slice aM nm cm,sL bv 3 cv,.slice aK ns cs],iT 0,iT pk] w (jH w.heap.size q (.agg #[iT q,.slice aM nm cm,sL bv 3 cv,.slice aK ns cs]) M [] (d4 A B C S 1) C S (uy A B C S 1) w):=by
 obtain ⟨X,hX⟩:=aS w.heap.size;obtain ⟨W,hW⟩:=aS ((w.alloc (.cells #[iT q,.slice aM nm cm,sL bv 3 cv,.slice aK ns cs] 31)).alloc (.cells #[iT 0,nZ,nZ,nZ] 31));have kW:Bl w W:=by rw [hW];exact bZ.alloc (by simp) _
 have bx:ar W X (iT q) (.slice aM nm cm) (sL bv 3 cv) (.slice aK ns cs):=by rw [hW,hX];exact (ar.new _ _ _ _ _ _).alloc _
 have br:ar W (X+1) (iT 0) nZ nZ nZ∧an W (X+1) 31 4:=by
  have:=ar.new (w.alloc (.cells #[iT q,.slice aM nm cm,sL bv 3 cv,.slice aK ns cs] 31)) 31 (iT 0) nZ nZ nZ;rw [World.size_alloc] at this;rw [hW,hX];have h2:=bU (w.alloc (.cells #[iT q,.slice aM nm cm,sL bv 3 cv,.slice aK ns cs] 31)) #[iT 0,nZ,nZ,nZ] 31;rw [World.size_alloc] at h2;exact ⟨this,h2⟩
 have HX:Hid (X=w.heap.size):=hX;have K0:Hid (Bl w W):=kW;have HBR:Hid (∀w',Bl W w'→ar w' (X+1) (iT 0) nZ nZ nZ∧x8 w' (X+1)):=fun w' k=>⟨br.1.keep k,fA (br.2.below k) (br.1.keep k)⟩
 have HBX:Hid (∀w',Bl W w'→ar w' X (iT q) (.slice aM nm cm) (sL bv 3 cv) (.slice aK ns cs)):=fun w' k=>bx.keep k
 have HBL:Hid (∀w',Bl W w'→an w' (X+1) 31 4):=fun w' k=>br.2.below k
 have HTI:=b6 hT;have hbv:bv<w.heap.size:=(hT.levels.lies _ rfl (by omega)).1;have HBV:Hid (bv≠X∧bv≠X+1):=⟨by omega,by omega⟩;obtain ⟨OK,hOK⟩:=aS (uy A B C S 1);rw [← hOK];have CMG:Hid (∀gb w',Bl w w'→w'.heap[gb]?=some (.cells #[] 63 (0,0))→w.heap.size≤gb→Calls Tryz.prog 119 #[.agg #[iT q,.slice aM nm cm,sL bv 3 cv,.slice aK ns cs],iT 0,sO bt ot nt ct,sL gb 0 0] w' (jH w.heap.size q (.agg #[iT q,.slice aM nm cm,sL bv 3 cv,.slice aK ns cs]) M [] (d4 A B C S 1) C S OK w')):=fun gb w' k h1 h2=>by
  rw [hOK];exact Ar lo w.heap.size q aM nm cm bv cv aK ns cs M A B C S bt ot nt ct A gb w' (hT.keep k) hnm hns hSz (hTk.keep k) hnt h1 h2 hok hsum
 have HCB:Hid (∀w',Bl W w'→w'.cell? ⟨bv,0,none⟩=some (sO bt ot nt ct)):=fun w' k=>cell_later (kW.trans (k.mono kW.size)) hcell
 have HSB:Hid (∀w',ar w' X (iT q) (.slice aM nm cm) (sL bv 3 cv) (.slice aK ns cs)→w'.cell? ⟨bv,0,none⟩=some (sO bt ot nt ct)→(fun w'=>w'.cell? ⟨X,0,none⟩=some (iT q)∧w'.cell? ⟨X,1,none⟩=some (.slice aM nm cm)∧w'.cell? ⟨X,2,none⟩=some (sL bv 3 cv)∧w'.cell? ⟨X,3,none⟩=some (.slice aK ns cs)∧w'.cell? ⟨bv,0,none⟩=some (sO bt ot nt ct)∧X<w'.heap.size∧bv<w'.heap.size) w'):=fun w' h h2=>⟨h.c0,h.c1,h.c2,h.c3,h2,h.lt,World.block_lt_of_cell? _ _ h2⟩
 have hS2:∀w',Bl W w'→(fun w'=>w'.cell? ⟨X,0,none⟩=some (iT q)∧w'.cell? ⟨X,1,none⟩=some (.slice aM nm cm)∧w'.cell? ⟨X,2,none⟩=some (sL bv 3 cv)∧w'.cell? ⟨X,3,none⟩=some (.slice aK ns cs)∧w'.cell? ⟨bv,0,none⟩=some (sO bt ot nt ct)∧X<w'.heap.size∧bv<w'.heap.size) w':=fun w' k=>HSB.out w' (HBX.out w' k) (HCB.out w' k)
 have k0:Bl W W.drew:=(Below.refl _ W).drew;have hntI:(nt:Int) > 0:=by omega
 have hntJ:(0:Int)<(nt:Int):=by omega
 have l0:=HCB.out W (Below.refl _ W);have lz:=World.block_lt_of_cell? _ _ l0;simp only at lz;clear kW br hT hTk hok hsum hSz hOK hcell hbv;have x0:=bx.c0;have x1:=bx.c1;have x2:=bx.c2;have x3:=bx.c3;have xz:=bx.lt;clear bx;go_enter Tryz.func56,Tryz.ntmps56
 go_upto_region 1 with fail
 rw [← hX,← hW];clear hX hW;go_upto_region 2 with fail
 clear x0 x1 x2 x3 xz l0 lz hntI hntJ;refine zI hS2 k0 fun aa=>?_
 generalize W.drew=wd at k0 aa ⊢;refine aO 0 5 aa ?_;refine aI 5 fun K hK=>?_
 go_simp;have kc:Bl wd (wd.alloc (.cells #[] 63)):=bZ;have k1:Bl W (wd.alloc (.cells #[] 63)):=k0.trans (kc.mono k0.size);have hgb:(wd.alloc (.cells #[] 63)).heap[wd.heap.size]?=some (.cells #[] 63 (0,0)):=by unfold World.alloc;exact Array.getElem?_push_size
 have hgl:w.heap.size≤wd.heap.size:=Nat.le_trans K0.out.size k0.size;generalize wd.heap.size=gb at hgb hgl ⊢;generalize wd.alloc (.cells #[] 63)=wb at k1 hgb ⊢;clear kc;refine hK.out _ _ (hS2 _ k1) fun aa=>?_
 (try go_frame);refine aI 6 fun K hK=>?_
 go_simp;refine (CMG.out gb _ (K0.out.trans (k1.mono K0.out.size)) hgb hgl).mono ?_;rintro e w2 ⟨am',nm',cm',av',nv',cv',ak',ns',cs',rfl,hb2,hno2,hyes2⟩;have k2:Bl W w2:=k1.trans (hb2.mono k1.size);have HNO:Hid (OK=false→(.agg #[iT q,.slice am' nm' cm',.slice av' nv' cv',.slice ak' ns' cs']:Value)=_):=hno2;have HYES:Hid (OK=true→_):=hyes2;clear hno2 hyes2 hb2;go_wp2_with fail
 refine hK.out _ _ (hS2 _ k2) fun aa=>?_
 (try go_frame);refine aO 7 2 aa ?_;refine aI 9 fun K hK=>?_
 have y2:=(HBR.out _ k2).1;have r0:=y2.c0;have r1:=y2.c1;have r2:=y2.c2;have r3:=y2.c3;have rf:=y2.fz;have rz:=y2.lt;have hxx:X+1≠X:=by omega
 have bx3:=((((HBX.out _ k2).other (b':=X+1) (o:=0) hxx (iT q)).other (b':=X+1) (o:=1) hxx (.slice am' nm' cm')).other (b':=X+1) (o:=2) hxx (.slice av' nv' cv')).other (b':=X+1) (o:=3) hxx (.slice ak' ns' cs');have cb3:=(o7 w2 (X+1) (iT q) (.slice am' nm' cm') (.slice av' nv' cv') (.slice ak' ns' cs') bv HBV.out.2 _).trans (HCB.out _ k2);go_simp;refine hK.out _ _ (HSB.out _ bx3 cb3) fun aa=>?_
 (try go_frame);refine aO 10 1 aa ?_;refine dN ?_;have HY2:Hid (ar w2 (X+1) (iT 0) nZ nZ nZ):=y2;have KL2:Hid (Bl w w2):=K0.out.trans (k2.mono K0.out.size);clear bx3 cb3 aa r0 r1 r2 r3 rf rz y2 hxx;go_wp2;refine bodyPost_ret (v:=.tuple #[.agg #[iT q,.slice am' nm' cm',.slice av' nv' cv',.slice ak' ns' cs'],.bool OK]) ?_ rfl (show jH _ _ _ _ _ _ _ _ _ _ _ _ from ⟨am',nm',cm',av',nv',cv',ak',ns',cs',rfl,?_,HNO.out,fun h=>?_⟩)
 · have e:=(((HY2.out.set0 (iT q)).set1 (.slice am' nm' cm')).set2 (.slice av' nv' cv')).set3 (.slice ak' ns' cs');simp [results,Tryz.results56,go_sem,e.c0,e.c1,e.c2,e.c3]
 · have hx:w.heap.size≤X+1:=by have:=HX.out;omega
   exact gG KL2.out hx _ _ _ _
 · obtain ⟨G,gA,dA,f1,m1,d1,f2,m2,d2,rfl,rfl,hS⟩:=HYES.out h;exact ⟨G,gA,dA,f1,m1,d1,f2,m2,d2,rfl,rfl,hS.four (HBL.out _ k2) HY2.out⟩
theorem xM (lo:Nat) (q:Int) (aM:Option Addr) (nm cm bv cv:Nat) (aK:Option Addr) (ns cs:Nat) (M:List ac) (A B C:List ag) (S:List Int) (a0 a1:Option Addr) (n0 c0 n1 c1:Nat) (lv pk:Int) (w:World) (hT:bf lo w aM nm cm (pT bv) 3 cv aK ns cs M [A,B,C] S) (hcell:w.cell? ⟨bv,0,none⟩=some (.slice a0 n0 c0)) (hcell1:w.cell? ⟨bv,1,none⟩=some (.slice a1 n1 c1)) (hno:¬(lv=0∧1≤n0)∧¬(lv=1∧0≤pk∧pk<n1)) :
 Calls Tryz.prog 56 #[.agg #[iT q,.slice aM nm cm,sL bv 3 cv,.slice aK ns cs],iT lv,iT pk] w (jH w.heap.size q (.agg #[iT q,.slice aM nm cm,sL bv 3 cv,.slice aK ns cs]) M A B C S (false) w):=by
 obtain ⟨X,hX⟩:=aS w.heap.size;obtain ⟨W,hW⟩:=aS ((w.alloc (.cells #[iT q,.slice aM nm cm,sL bv 3 cv,.slice aK ns cs] 31)).alloc (.cells #[iT 0,nZ,nZ,nZ] 31));have kW:Bl w W:=by rw [hW];exact bZ.alloc (by simp) _
 have bx:ar W X (iT q) (.slice aM nm cm) (sL bv 3 cv) (.slice aK ns cs):=by rw [hW,hX];exact (ar.new _ _ _ _ _ _).alloc _
 have br:ar W (X+1) (iT 0) nZ nZ nZ∧an W (X+1) 31 4:=by
  have:=ar.new (w.alloc (.cells #[iT q,.slice aM nm cm,sL bv 3 cv,.slice aK ns cs] 31)) 31 (iT 0) nZ nZ nZ;rw [World.size_alloc] at this;rw [hW,hX];have h2:=bU (w.alloc (.cells #[iT q,.slice aM nm cm,sL bv 3 cv,.slice aK ns cs] 31)) #[iT 0,nZ,nZ,nZ] 31;rw [World.size_alloc] at h2;exact ⟨this,h2⟩
 have HX:Hid (X=w.heap.size):=hX;have K0:Hid (Bl w W):=kW;have HBR:Hid (∀w',Bl W w'→ar w' (X+1) (iT 0) nZ nZ nZ∧x8 w' (X+1)):=fun w' k=>⟨br.1.keep k,fA (br.2.below k) (br.1.keep k)⟩
 have HBX:Hid (∀w',Bl W w'→ar w' X (iT q) (.slice aM nm cm) (sL bv 3 cv) (.slice aK ns cs)):=fun w' k=>bx.keep k
 have HBL:Hid (∀w',Bl W w'→an w' (X+1) 31 4):=fun w' k=>br.2.below k
 have HTI:=b6 hT;have hbv:bv<w.heap.size:=(hT.levels.lies _ rfl (by omega)).1;have HBV:Hid (bv≠X∧bv≠X+1):=⟨by omega,by omega⟩;have l0:=cell_later kW hcell;have l1:=cell_later kW hcell1;have lz:=World.block_lt_of_cell? _ _ l0;simp only at lz;have x0:=bx.c0;have x1:=bx.c1;have x2:=bx.c2;have x3:=bx.c3;have xz:=bx.lt;have r0:=br.1.c0;have r1:=br.1.c1;have r2:=br.1.c2;have r3:=br.1.c3;have rf:=br.1.fz;have rz:=br.1.lt;have HY:Hid (ar W (X+1) (iT 0) nZ nZ nZ):=br.1;clear bx br kW hT hcell hcell1 hbv;by_cases h0:lv=0
 · subst h0;have hn:n0=0:=by omega
   subst hn;go_enter Tryz.func56,Tryz.ntmps56
   go_upto_region 1 with fail
   rw [← hX,← hW];clear hX hW;go_wp2;refine bodyPost_ret (v:=.tuple #[.agg #[iT q,.slice aM nm cm,sL bv 3 cv,.slice aK ns cs],.bool false]) ?_ rfl (show jH _ _ _ _ _ _ _ _ _ _ _ _ from ⟨aM,nm,cm,some ⟨bv,0,none⟩,3,cv,aK,ns,cs,rfl,?_,fun _=>rfl,fun h=>by cases h⟩)
   · have e:=(((HY.out.set0 (iT q)).set1 (.slice aM nm cm)).set2 (sL bv 3 cv)).set3 (.slice aK ns cs);simp [results,Tryz.results56,go_sem,e.c0,e.c1,e.c2,e.c3]
   · have hx:w.heap.size≤X+1:=by have:=HX.out;omega
     exact gG K0.out hx _ _ _ _
 · have h0b:(lv == 0)=false:=by simpa using h0
   by_cases h1:lv=1
   · subst h1;by_cases hp:pk<0
     · have hpI:¬pk ≥ 0:=by omega
       have hpJ:¬0≤pk:=by omega
       go_enter Tryz.func56,Tryz.ntmps56
       go_upto_region 1 with fail
       rw [← hX,← hW];clear hX hW;go_wp2;refine bodyPost_ret (v:=.tuple #[.agg #[iT q,.slice aM nm cm,sL bv 3 cv,.slice aK ns cs],.bool false]) ?_ rfl (show jH _ _ _ _ _ _ _ _ _ _ _ _ from ⟨aM,nm,cm,some ⟨bv,0,none⟩,3,cv,aK,ns,cs,rfl,?_,fun _=>rfl,fun h=>by cases h⟩)
       · have e:=(((HY.out.set0 (iT q)).set1 (.slice aM nm cm)).set2 (sL bv 3 cv)).set3 (.slice aK ns cs);simp [results,Tryz.results56,go_sem,e.c0,e.c1,e.c2,e.c3]
       · have hx:w.heap.size≤X+1:=by have:=HX.out;omega
         exact gG K0.out hx _ _ _ _
     · have hpI:pk ≥ 0:=by omega
       have hpJ:0≤pk:=by omega
       have hpK:¬pk<(n1:Int):=by omega
       go_enter Tryz.func56,Tryz.ntmps56
       go_upto_region 1 with fail
       rw [← hX,← hW];clear hX hW;go_wp2;refine bodyPost_ret (v:=.tuple #[.agg #[iT q,.slice aM nm cm,sL bv 3 cv,.slice aK ns cs],.bool false]) ?_ rfl (show jH _ _ _ _ _ _ _ _ _ _ _ _ from ⟨aM,nm,cm,some ⟨bv,0,none⟩,3,cv,aK,ns,cs,rfl,?_,fun _=>rfl,fun h=>by cases h⟩)
       · have e:=(((HY.out.set0 (iT q)).set1 (.slice aM nm cm)).set2 (sL bv 3 cv)).set3 (.slice aK ns cs);simp [results,Tryz.results56,go_sem,e.c0,e.c1,e.c2,e.c3]
       · have hx:w.heap.size≤X+1:=by have:=HX.out;omega
         exact gG K0.out hx _ _ _ _
   · have h1b:(lv == 1)=false:=by simpa using h1
     go_enter Tryz.func56,Tryz.ntmps56
     go_upto_region 1 with fail
     rw [← hX,← hW];clear hX hW;go_wp2;refine bodyPost_ret (v:=.tuple #[.agg #[iT q,.slice aM nm cm,sL bv 3 cv,.slice aK ns cs],.bool false]) ?_ rfl (show jH _ _ _ _ _ _ _ _ _ _ _ _ from ⟨aM,nm,cm,some ⟨bv,0,none⟩,3,cv,aK,ns,cs,rfl,?_,fun _=>rfl,fun h=>by cases h⟩)
     · have e:=(((HY.out.set0 (iT q)).set1 (.slice aM nm cm)).set2 (sL bv 3 cv)).set3 (.slice aK ns cs);simp [results,Tryz.results56,go_sem,e.c0,e.c1,e.c2,e.c3]
     · have hx:w.heap.size≤X+1:=by have:=HX.out;omega
       exact gG K0.out hx _ _ _ _
theorem xN (lo:Nat) (q:Int) (aM:Option Addr) (nm cm bv cv:Nat) (aK:Option Addr) (ns cs:Nat) (M:List ac) (A B C:List ag) (S:List Int) (e1 n1 c1 p:Nat) (w:World) (hT:bf lo w aM nm cm (pT bv) 3 cv aK ns cs M [A,B,C] S) (hnm:nm≤1048576) (hns:ns≤1048576) (hSz:∀Z ∈ [A,B,C],Z.length≤100∧∀r ∈ Z,1≤r.1.length∧r.1.length≤10000) (hcell:w.cell? ⟨bv,1,none⟩=some (sL e1 n1 c1)) (hB:az 0 w (pT e1) n1 c1 B) (hp:p<n1) (hn1:n1≤100) (hok:fK ((B.drop p).take 1) C) (hsum:(bn (dx ((B.drop p).take 1) C)).flatten.length≤100000) :
 Calls Tryz.prog 56 #[.agg #[iT q,.slice aM nm cm,sL bv 3 cv,.slice aK ns cs],iT 1,iT (p:Int)] w (jH w.heap.size q (.agg #[iT q,.slice aM nm cm,sL bv 3 cv,.slice aK ns cs]) M A (B.take p++B.drop (p+1)) (d4 ((B.drop p).take 1) C C S 2) S (uy ((B.drop p).take 1) C C S 2) w):=by
 obtain ⟨j0,hj,hy0,hy1,hy2⟩:=info_parts Tryz.infoRun;obtain ⟨X,hX⟩:=aS w.heap.size;obtain ⟨W,hW⟩:=aS ((w.alloc (.cells #[iT q,.slice aM nm cm,sL bv 3 cv,.slice aK ns cs] 31)).alloc (.cells #[iT 0,nZ,nZ,nZ] 31));have kW:Bl w W:=by rw [hW];exact bZ.alloc (by simp) _
 have bx:ar W X (iT q) (.slice aM nm cm) (sL bv 3 cv) (.slice aK ns cs):=by rw [hW,hX];exact (ar.new _ _ _ _ _ _).alloc _
 have br:ar W (X+1) (iT 0) nZ nZ nZ∧an W (X+1) 31 4:=by
  have:=ar.new (w.alloc (.cells #[iT q,.slice aM nm cm,sL bv 3 cv,.slice aK ns cs] 31)) 31 (iT 0) nZ nZ nZ;rw [World.size_alloc] at this;rw [hW,hX];have h2:=bU (w.alloc (.cells #[iT q,.slice aM nm cm,sL bv 3 cv,.slice aK ns cs] 31)) #[iT 0,nZ,nZ,nZ] 31;rw [World.size_alloc] at h2;exact ⟨this,h2⟩
 have HX:Hid (X=w.heap.size):=hX;have K0:Hid (Bl w W):=kW;have HBR:Hid (∀w',Bl W w'→ar w' (X+1) (iT 0) nZ nZ nZ∧x8 w' (X+1)):=fun w' k=>⟨br.1.keep k,fA (br.2.below k) (br.1.keep k)⟩
 have HBX:Hid (∀w',Bl W w'→ar w' X (iT q) (.slice aM nm cm) (sL bv 3 cv) (.slice aK ns cs)):=fun w' k=>bx.keep k
 have HBL:Hid (∀w',Bl W w'→an w' (X+1) 31 4):=fun w' k=>br.2.below k
 have HTI:=b6 hT;have hbv:bv<w.heap.size:=(hT.levels.lies _ rfl (by omega)).1;have HBV:Hid (bv≠X∧bv≠X+1):=⟨by omega,by omega⟩;obtain ⟨OK,hOK⟩:=aS (uy ((B.drop p).take 1) C C S 2);rw [← hOK];have hroom:=hB.room;have hln:=hB.length;have hTk:az 0 w (some ⟨e1,p*2,none⟩) 1 (c1 - p) ((B.drop p).take 1):=by
  have:=jP hB (i:=p) (j:=p+1) (by omega) (by omega);rw [if_neg (by omega),show p+1 - p=1 by omega] at this;exact this
 have CMG:Hid (∀g n c w',Bl w w'→az 0 w' (pT g) n c (B.take p++B.drop (p+1))→Calls Tryz.prog 119 #[.agg #[iT q,.slice aM nm cm,sL bv 3 cv,.slice aK ns cs],iT 1,.slice (some ⟨e1,p*2,none⟩) 1 (c1 - p),sL g n c] w' (jH w.heap.size q (.agg #[iT q,.slice aM nm cm,sL bv 3 cv,.slice aK ns cs]) M A (B.take p++B.drop (p+1)) (d4 ((B.drop p).take 1) C C S 2) S OK w')):=fun g n c w' k h=>by
  rw [hOK];exact Aq lo w.heap.size q aM nm cm bv cv aK ns cs M A B C S e1 (p*2) 1 (c1 - p) ((B.drop p).take 1) g n c (B.take p++B.drop (p+1)) w' (hT.keep k) hnm hns hSz (hTk.keep k) (by omega) h k.size hok hsum
 have HCB:Hid (∀w',Bl W w'→w'.cell? ⟨bv,1,none⟩=some (sL e1 n1 c1)):=fun w' k=>cell_later (kW.trans (k.mono kW.size)) hcell
 have HSB:Hid (∀w',ar w' X (iT q) (.slice aM nm cm) (sL bv 3 cv) (.slice aK ns cs)→w'.cell? ⟨bv,1,none⟩=some (sL e1 n1 c1)→(fun w'=>w'.cell? ⟨X,0,none⟩=some (iT q)∧w'.cell? ⟨X,1,none⟩=some (.slice aM nm cm)∧w'.cell? ⟨X,2,none⟩=some (sL bv 3 cv)∧w'.cell? ⟨X,3,none⟩=some (.slice aK ns cs)∧w'.cell? ⟨bv,1,none⟩=some (sL e1 n1 c1)∧X<w'.heap.size∧bv<w'.heap.size) w'):=fun w' h h2=>⟨h.c0,h.c1,h.c2,h.c3,h2,h.lt,World.block_lt_of_cell? _ _ h2⟩
 have hS2:∀w',Bl W w'→(fun w'=>w'.cell? ⟨X,0,none⟩=some (iT q)∧w'.cell? ⟨X,1,none⟩=some (.slice aM nm cm)∧w'.cell? ⟨X,2,none⟩=some (sL bv 3 cv)∧w'.cell? ⟨X,3,none⟩=some (.slice aK ns cs)∧w'.cell? ⟨bv,1,none⟩=some (sL e1 n1 c1)∧X<w'.heap.size∧bv<w'.heap.size) w':=fun w' k=>HSB.out w' (HBX.out w' k) (HCB.out w' k)
 have k0:Bl W W.drew:=(Below.refl _ W).drew;obtain ⟨ox,hox⟩:=aS (if c1=p+1 then 0 else (p+1)*2);obtain ⟨nr,hnr⟩:=aS (n1 - (p+1));obtain ⟨cr,hcr⟩:=aS (c1 - (p+1));have hA':az 0 w (pT e1) p c1 (B.take p):=by
  have:=jP hB (i:=0) (j:=p) (by omega) (by omega);have e0:(if c1=0 then 0 else 0*2)=0:=by split <;> rfl
  rw [e0] at this;simpa using this
 have hB':az 0 w (some ⟨e1,ox,none⟩) nr cr (B.drop (p+1)):=by
  have:=jP hB (i:=p+1) (j:=n1) (by omega) (by omega);rw [List.take_of_length_le (by rw [List.length_drop,hln];omega)] at this;rw [hox,hnr,hcr];exact this
 obtain ⟨xsA,dA,rA⟩:=hA'.raw;obtain ⟨xsB,dB,rB⟩:=hB'.raw;have HDN:Hid (dK (·<w.heap.size) w (xsA++xsB) (B.take p++B.drop (p+1))):=dA.denP.app dB.denP;have HRA:Hid (my w (sL e1 p c1) p xsA):=rA;have HRB:Hid (my w (sO e1 ox nr cr) nr xsB):=rB;have hpI:(p:Int)<(n1:Int):=by omega
 have hp0:(p:Int) ≥ 0:=by omega
 have hp1:(0:Int)≤(p:Int):=by omega
 have wp1:IntKind.i64.wrap ((p:Int)+1)=(p:Int)+1:=by rw [IntWalk.i64_left];unfold wrap64;omega
 have htn:((p:Int)+1).toNat=p+1:=by omega
 have hpc:(p:Int)+1≤(c1:Int):=by omega
 have hpc0:(p:Int)≤(c1:Int):=by omega
 have hpz:(0:Int)≤(p:Int)+1:=by omega
 have hpn:(p:Int)+1≤(n1:Int):=by omega
 have hnc:(n1:Int)≤(c1:Int):=by omega
 have hcp:¬c1=p:=by omega
 have hav:(if c1=p+1 then some (⟨e1,0,none⟩:Addr) else some ⟨e1,(p+1)*2,none⟩)=some ⟨e1,ox,none⟩:=by rw [hox];split <;> rfl
 have hx1:p+1 - p=1:=by omega
 have hx2:n1 - (p+1)=nr:=hnr.symm;have hx3:c1 - (p+1)=cr:=hcr.symm;have hnr2:nr≤100:=by omega
 have hp2:p≤100:=by omega
 have l0:=HCB.out W (Below.refl _ W);have lz:=World.block_lt_of_cell? _ _ l0;simp only at lz;clear kW br hT hTk hok hsum hSz hOK hcell hbv hB hA' hB' dA dB rA rB hox hnr hcr hln;have x0:=bx.c0;have x1:=bx.c1;have x2:=bx.c2;have x3:=bx.c3;have xz:=bx.lt;clear bx;go_enter Tryz.func56,Tryz.ntmps56
 go_upto_region 1 with fail
 rw [← hX,← hW];clear hX hW;go_upto_region 4 with fail
 clear x0 x1 x2 x3 xz l0 lz;refine zI hS2 k0 fun aa=>?_
 generalize W.drew=wd at k0 aa ⊢;refine aO 1 6 aa ?_;refine aO 8 7 aa ?_;refine aI 0 fun K hK=>?_
 go_simp;have kc:Bl wd (wd.alloc (.cells #[] 63)):=bZ;have k1:Bl W (wd.alloc (.cells #[] 63)):=k0.trans (kc.mono k0.size);have R1:(wd.alloc (.cells #[] 63)).ownsRow W.heap.size 63 2 (sL (wd.heap.size) 0 0) 0 []:=by
  have:=World.ownsRow_lit (base:=W.heap.size) (e:=63) (size:=2) wd #[] 0 k0.size (by simp) (by simp);simpa using this
 have hnA:=ld (HRA.out.keep (K0.out.trans (k1.mono K0.out.size)));generalize wd.heap.size=gb at R1 ⊢;generalize wd.alloc (.cells #[] 63)=wb at k1 R1 hnA ⊢;clear kc;refine hK.out _ _ (hS2 _ k1) fun aa=>?_
 (try go_frame);refine aI 7 fun K hK=>?_
 refine ax rfl (.tmp 43) (.tmp 49) 61 rfl W.heap.size 63 j0 _ 2 32 Tryz.underlying61 hj hy0 hy1 hy2 rfl (by decide) _ _ _ rfl R1 ⟨e1,0,none⟩ p c1 xsA rfl HRA.out.1 hnA.out HRA.out.2.1 ?_ ?_ ?_ ?_
 · unfold maxLen;omega
 · omega
 · exact k1.size
 intro v7 w7 ho7 hg7 hn7;obtain ⟨g7,c7,rfl⟩:=aG ho7 hn7;have hg7':wb.grownBy w7 (some gb):=hg7;have q2:Bl W w7:=k1.grown hg7' k1.size (fun x e=>by have h1:=Option.some.inj e;have h2:=(R1.lt gb rfl).1;omega);have hnB:=ld (HRB.out.keep (K0.out.trans (q2.mono K0.out.size)));have hz7:0+p=p:=by omega
 rw [hz7,List.nil_append] at ho7;refine hK.out _ _ (hS2 _ q2) fun aa=>?_
 (try go_frame);refine aI 15 fun K hK=>?_
 refine ax rfl (.tmp 50) (.tmp 57) 61 rfl W.heap.size 63 j0 _ 2 32 Tryz.underlying61 hj hy0 hy1 hy2 rfl (by decide) _ _ _ ?_ ho7 ⟨e1,ox,none⟩ nr cr xsB rfl HRB.out.1 hnB.out HRB.out.2.1 ?_ ?_ ?_ ?_
 · first | rfl | (rw [hz7];rfl) | simp
 · unfold maxLen;omega
 · omega
 · exact q2.size
 intro v8 w8 ho8 hg8 hn8;obtain ⟨g8,c8,rfl⟩:=aG ho8 hn8;have hg8':w7.grownBy w8 (some g7):=hg8;have q3:Bl W w8:=q2.grown hg8' q2.size (fun x e=>by have h1:=Option.some.inj e;have h2:=(ho7.lt g7 rfl).1;omega);refine hK.out _ _ (hS2 _ q3) fun aa=>?_
 (try go_frame);refine aO 16 1 aa ?_;refine dN ?_;have KL8:Bl w w8:=K0.out.trans (q3.mono K0.out.size);obtain ⟨a8,c8',e8,hR8⟩:=iJ ho8 (HDN.out.low KL8).den;cases e8;have HR8:Hid (az 0 w8 (pT g8) (p+nr) c8 (B.take p++B.drop (p+1))):=hR8;have Q3:Hid (Bl W w8):=q3;have bx8:=HBX.out w8 q3;have x0:=bx8.c0;have x1:=bx8.c1;have x2:=bx8.c2;have x3:=bx8.c3;have xz:=bx8.lt;have l0:=HCB.out w8 q3;have lz:=World.block_lt_of_cell? _ _ l0;simp only at lz;clear aa k0 k1 q2 q3 R1 hnA hnB ho7 hg7 hg7' hn7 ho8 hg8 hg8' hn8 hR8 KL8 bx8 hz7;go_upto_region 5 with fail
 clear x0 x1 x2 x3 xz l0 lz;have k5:Bl W w8.drew:=Q3.out.drew;have HR9:Hid (az 0 w8.drew (pT g8) (p+nr) c8 (B.take p++B.drop (p+1))):=HR8.out.keep (Below.refl _ w8).drew;refine zI hS2 k5 fun aa=>?_
 generalize w8.drew=wd9 at k5 HR9 aa ⊢;refine aO 0 10 aa ?_;refine aI 10 fun K hK=>?_
 go_simp;refine (CMG.out _ _ _ _ (K0.out.trans (k5.mono K0.out.size)) HR9.out).mono ?_;rintro e w2 ⟨am',nm',cm',av',nv',cv',ak',ns',cs',rfl,hb2,hno2,hyes2⟩;have k2:Bl W w2:=k5.trans (hb2.mono k5.size);have HNO:Hid (OK=false→(.agg #[iT q,.slice am' nm' cm',.slice av' nv' cv',.slice ak' ns' cs']:Value)=_):=hno2;have HYES:Hid (OK=true→_):=hyes2;clear hno2 hyes2 hb2;go_wp2_with fail
 refine hK.out _ _ (hS2 _ k2) fun aa=>?_
 (try go_frame);refine aO 11 2 aa ?_;refine aI 13 fun K hK=>?_
 have y2:=(HBR.out _ k2).1;have r0:=y2.c0;have r1:=y2.c1;have r2:=y2.c2;have r3:=y2.c3;have rf:=y2.fz;have rz:=y2.lt;have hxx:X+1≠X:=by omega
 have bx3:=((((HBX.out _ k2).other (b':=X+1) (o:=0) hxx (iT q)).other (b':=X+1) (o:=1) hxx (.slice am' nm' cm')).other (b':=X+1) (o:=2) hxx (.slice av' nv' cv')).other (b':=X+1) (o:=3) hxx (.slice ak' ns' cs');have cb3:=(o7 w2 (X+1) (iT q) (.slice am' nm' cm') (.slice av' nv' cv') (.slice ak' ns' cs') bv HBV.out.2 _).trans (HCB.out _ k2);go_simp;refine hK.out _ _ (HSB.out _ bx3 cb3) fun aa=>?_
 (try go_frame);refine aO 14 1 aa ?_;refine dN ?_;have HY2:Hid (ar w2 (X+1) (iT 0) nZ nZ nZ):=y2;have KL2:Hid (Bl w w2):=K0.out.trans (k2.mono K0.out.size);clear bx3 cb3 aa r0 r1 r2 r3 rf rz y2 hxx;go_wp2;refine bodyPost_ret (v:=.tuple #[.agg #[iT q,.slice am' nm' cm',.slice av' nv' cv',.slice ak' ns' cs'],.bool OK]) ?_ rfl (show jH _ _ _ _ _ _ _ _ _ _ _ _ from ⟨am',nm',cm',av',nv',cv',ak',ns',cs',rfl,?_,HNO.out,fun h=>?_⟩)
 · have e:=(((HY2.out.set0 (iT q)).set1 (.slice am' nm' cm')).set2 (.slice av' nv' cv')).set3 (.slice ak' ns' cs');simp [results,Tryz.results56,go_sem,e.c0,e.c1,e.c2,e.c3]
 · have hx:w.heap.size≤X+1:=by have:=HX.out;omega
   exact gG KL2.out hx _ _ _ _
 · obtain ⟨G,gA,dA,f1,m1,d1,f2,m2,d2,rfl,rfl,hS⟩:=HYES.out h;exact ⟨G,gA,dA,f1,m1,d1,f2,m2,d2,rfl,rfl,hS.four (HBL.out _ k2) HY2.out⟩
theorem dQ {A B:List ag}:bc q M [A,B,C] S=true ↔ 0≤q∧q≤100000∧M.length≤60∧aR M=true∧bW M q=true∧cu S q=true∧(dl A 4 false q=true∧dl B 8 true q=true∧dl C 8 true q=true)∧(eo M [A,B,C]).Pairwise Ov:=by
 rw [← vJ];unfold bc eM;simp only [Bool.and_eq_true,decide_eq_true_eq,List.length_cons,List.length_nil,Nat.reduceAdd,true_and]
theorem dg:bW L q=true ↔ ∀e ∈ L,e.2.1≤q:=by
 unfold bW;simp only [List.all_eq_true,decide_eq_true_eq]
theorem vM (h:bW L q=true) (hp:q≤p):bW L p=true:=dg.2 (fun e he=>by have:=dg.1 h e he;omega)
theorem rh {B:List ag} {most:Int} {ap:Bool} (h:dl B most ap q=true) (hp:q≤p):dl B most ap p=true:=by
 rw [dk] at h ⊢;exact ⟨h.1,h.2.1,fun r hr=>vM (h.2.2.1 r hr) hp,h.2.2.2⟩
theorem Al (h:cu S q=true) (hp:q≤p):cu S p=true:=by
 unfold cu at h ⊢;rw [Bool.and_eq_true] at h ⊢;refine ⟨h.1,?_⟩;rw [List.all_eq_true] at h ⊢;intro j hj;have h1:=h.2 j hj;unfold cP at h1 ⊢;cases hs:S[j]? with
 | none=>rfl
 | some s =>
  rw [hs] at h1;simp only [Bool.and_eq_true,decide_eq_true_eq] at h1 ⊢;exact ⟨h1.1,by omega,h1.2.2⟩
theorem An {A B X:List ac} (h:Ov A X) (hf:∀e ∈ B,∃y ∈ A,e.1=y.1∧e.2.1=y.2.1):Ov B X:=fun x hx y hy hk=>by
 obtain ⟨z,hz,h1,h2⟩:=hf x hx
 have:=h z hz y hy (by rw [← h1];exact hk)
 omega
theorem lQ (S:List Int) (b:Bool):∀e ∈ bI L S b,∃y ∈ L,e.1=y.1∧e.2.1=y.2.1 :=
 nM (fun e=>∃y ∈ L,e.1=y.1∧e.2.1=y.2.1) S b (fun b c hc _ x hx=>by
  obtain ⟨y,hy,h1,h2⟩:=AE b c x hx
  exact ⟨y,hc y hy,h1,h2⟩)
theorem gL (M:List ac) (A B C:List ag):eo M [A,B,C]=M :: (A.reverse.map (·.1)++[bm B,bm C]):=rfl
theorem tX {A B:List ag} (h:bc q M [A,B,C] S=true) (hM:M≠[]) (hA:A.length<4):bc q [] [A++[o8 M S],B,C] S=true:=by
 obtain ⟨h1,h2,h3,h4,h5,h6,⟨ha,hb,hc⟩,hp⟩:=dQ.1 h;refine dQ.2 ⟨h1,h2,by simp,rfl,rfl,h6,⟨?_,hb,hc⟩,?_⟩
 · rw [dk] at ha ⊢;refine ⟨by simp;omega,?_,fun r hr=>?_,fun e=>by cases e⟩
   · unfold eN;rw [List.any_eq_false];intro r hr;rcases List.mem_append.1 hr with hr | hr
     · simpa using dm ha.2.1 r hr
     · rw [List.mem_singleton.1 hr];have e1:1≤(bI M S false).length:=List.length_pos_iff.2 (se h4 hM S);have e2:(bI M S false).length≤150:=Nat.le_trans (ja M S false) (by omega);have e4:dv (bI M S false) ((cZ (bI M S false):Nat):Int)=true:=by
        unfold dv;rw [ix h4 S false,decide_eq_true e1,decide_eq_true e2];simp
       simp only [o8,e4];simp
   · rcases List.mem_append.1 hr with hr | hr
     · exact ha.2.2.1 r hr
     · rw [List.mem_singleton.1 hr];refine dg.2 (fun e he=>?_);obtain ⟨y,hy,_,h8⟩:=lQ S false e he;have:=dg.1 h5 y hy;omega
 · rw [gL] at hp ⊢;rw [List.reverse_append];have hp':=List.pairwise_cons.1 hp;refine List.pairwise_cons.2 ⟨(fun X _ x hx=>by cases hx),?_⟩;show (bI M S false :: (A.reverse.map (·.1)++[bm B,bm C])).Pairwise Ov
   exact List.pairwise_cons.2 ⟨fun X hX=>An (hp'.1 X hX) (lQ S false),hp'.2⟩
theorem fo:cu S q=true ↔ S.length≤4∧(∀s ∈ S,0≤s∧s≤q)∧S.Pairwise (·<·):=by
 unfold cu;simp only [Bool.and_eq_true,decide_eq_true_eq,List.all_eq_true,List.mem_range];constructor
 · rintro ⟨h1,h2⟩;have hs:∀j (hj:j<S.length),0≤S[j]∧S[j]≤q:=fun j hj=>by
    have h3:=h2 j hj;unfold cP at h3;rw [List.getElem?_eq_getElem hj] at h3;simp only [Bool.and_eq_true,decide_eq_true_eq] at h3;exact ⟨h3.1,h3.2.1⟩
   have hn:∀j (hj:j+1<S.length),S[j]<S[j+1]:=fun j hj=>by
    have h3:=h2 (j+1) hj;rw [jr (List.getElem?_eq_getElem hj) (List.getElem?_eq_getElem (by omega))] at h3;simp only [Bool.and_eq_true,decide_eq_true_eq] at h3;exact h3.2.2
   refine ⟨h1,fun s hs'=>by obtain ⟨j,hj,rfl⟩:=List.getElem_of_mem hs';exact hs j hj,?_⟩;rw [List.pairwise_iff_getElem];intro i j hi hj hij;obtain ⟨d,rfl⟩:∃d,j=i+1+d:=⟨j - i - 1,by omega⟩;clear hij;induction d with
   | zero=>exact hn i hj
   | succ d ih=>exact Int.lt_trans (ih (by omega)) (hn (i+1+d) (by omega))
 · rintro ⟨h1,h2,h3⟩;rw [List.pairwise_iff_getElem] at h3;refine ⟨h1,fun j hj=>?_⟩;have h4:=h2 S[j] (List.getElem_mem hj);cases j with
   | zero=>rw [lU (List.getElem?_eq_getElem hj)];simp only [Bool.and_eq_true,decide_eq_true_eq];exact h4
   | succ i =>
    rw [jr (List.getElem?_eq_getElem hj) (List.getElem?_eq_getElem (by omega))];simp only [Bool.and_eq_true,decide_eq_true_eq];exact ⟨h4.1,h4.2,h3 i (i+1) (by omega) hj (by omega)⟩
theorem vO {A B:List ag} (h:bc q M [A,B,C] S=true) (hS:S.length<4) (hq:q ∉ S):bc q M [A,B,C] (S++[q])=true:=by
 obtain ⟨h1,h2,h3,h4,h5,h6,hr,hp⟩:=dQ.1 h;refine dQ.2 ⟨h1,h2,h3,h4,h5,?_,hr,hp⟩;obtain ⟨k1,k2,k3⟩:=fo.1 h6;refine fo.2 ⟨by simp;omega,fun s hs=>?_,List.pairwise_append.2 ⟨k3,by simp,fun a ha b hb=>?_⟩⟩
 · rcases List.mem_append.1 hs with hs | hs
   · exact k2 s hs
   · rw [List.mem_singleton.1 hs];exact ⟨h1,Int.le_refl _⟩
 · rw [List.mem_singleton.1 hb];have h7:=(k2 a ha).2;have h8:a≠q:=fun e=>hq (by rw [← e];exact ha)
   omega
theorem vP {A B:List ag} (h:bc q M [A,B,C] S=true) (x:Int):bc q M [A,B,C] (fH S x)=true:=by
 obtain ⟨h1,h2,h3,h4,h5,h6,hr,hp⟩:=dQ.1 h;refine dQ.2 ⟨h1,h2,h3,h4,h5,?_,hr,hp⟩;obtain ⟨k1,k2,k3⟩:=fo.1 h6;refine fo.2 ⟨Nat.le_trans (zK S x) k1,fun s hs=>k2 s (zJ hs),?_⟩;exact List.Pairwise.sublist List.filter_sublist k3
theorem yO:∀(D M:List ac),D.foldl d5 (bk M)=bk (M++D)
 | D,M=>by unfold bk;rw [List.foldl_append]
theorem ub {e:ac} (h:e ∈ fa q K):∃i,i<K.length∧e.2.1=q+1+i:=by
 obtain ⟨i,hi,rfl⟩:=List.getElem_of_mem h;rw [fC] at hi;exact ⟨i,hi,by simp [fa,Bt]⟩
theorem vU (q:Int) (K:List ac):fu (fa q K):=by
 unfold fu;rw [List.pairwise_iff_getElem];intro i j hi hj hij h;have h2:=h.2;simp [fa,Bt] at h2;omega
theorem tW {A B:List ag} (h:bc q M [A,B,C] S=true) (hw:fZ q M K=true):bc (q+K.length) ((fa q K).foldl d5 M) [A,B,C] S=true:=by
 obtain ⟨h1,h2,h3,h4,h5,h6,⟨ha,hb,hc⟩,hp⟩:=dQ.1 h;unfold fZ at hw;simp only [Bool.and_eq_true,decide_eq_true_eq] at hw;obtain ⟨w1,w2,w3,w4⟩:=hw;have hM:=uf h4;have e:(fa q K).foldl d5 M=bk (M++fa q K):=by
  have:=yO (fa q K) M;rw [hM] at this;exact this
 have hK:(K.length:Int)=((fa q K).length:Int):=by rw [fC]
 have hs:∀x ∈ fa q K,cX x.1 x.2.1 x.2.2.1 x.2.2.2.1 x.2.2.2.2=true:=fun x hx=>by
  obtain ⟨i,hi⟩:=List.getElem?_of_mem hx;exact vT w4 hi
 have hq:q+K.length≤100000:=by
  obtain ⟨x,hx⟩:∃x,(fa q K)[K.length - 1]?=some x:=⟨_,List.getElem?_eq_getElem (by rw [fC];omega)⟩;have h7:=hs x (List.mem_of_getElem? hx);have h8:=(tx h7).2;have h9:x.2.1=q+1+((K.length - 1:Nat):Int):=by
   have:=(List.getElem?_eq_some_iff.1 hx).2;rw [← this];simp [fa,Bt]
  omega
 have hu:fu (M++fa q K):=by
  refine List.pairwise_append.2 ⟨qY h4,vU q K,fun a ha' b hb' hab=>?_⟩;have h7:=dg.1 h5 a ha';obtain ⟨i,_,h8⟩:=ub hb';have:=hab.2;omega
 have hr:aR (bk (M++fa q K))=true:=by
  obtain ⟨k1,k2⟩:=bJ (M++fa q K);refine fM (lP k1 (gJ hu k2.symm)) (fun x hx=>?_);rcases List.mem_append.1 (k2.subset hx) with h7 | h7
  · obtain ⟨j,hj⟩:=List.getElem?_of_mem h7;exact fX h4 hj
  · exact hs x h7
 have hmem:∀x ∈ bk (M++fa q K),x ∈ M∨x ∈ fa q K:=fun x hx=>List.mem_append.1 ((bJ _).2.subset hx)
 rw [e];refine dQ.2 ⟨by omega,hq,?_,hr,?_,Al h6 (by omega),⟨rh ha (by omega),rh hb (by omega),rh hc (by omega)⟩,?_⟩
 · rw [jq,List.length_append,fC];exact w3
 · refine dg.2 (fun x hx=>?_);rcases hmem x hx with h7 | h7
   · have:=dg.1 h5 x h7;omega
   · obtain ⟨i,hi,h8⟩:=ub h7;omega
 · rw [gL] at hp ⊢;have hp':=List.pairwise_cons.1 hp;refine List.pairwise_cons.2 ⟨fun X hX x hx y hy hk=>?_,hp'.2⟩;rcases hmem x hx with h7 | h7
   · exact hp'.1 X hX x h7 y hy hk
   · obtain ⟨i,_,h8⟩:=ub h7;have:y.2.1≤q:=by
      rcases List.mem_append.1 hX with hX | hX
      · obtain ⟨r,hr',rfl⟩:=List.mem_map.1 hX;exact dg.1 ((dk.1 ha).2.2.1 r (List.mem_reverse.1 hr')) y hy
      · have hf:∀{Z:List ag},dl Z 8 true q=true→y ∈ bm Z→y.2.1≤q:=fun {Z} hZ hyZ=>by
         obtain ⟨r,hr',hy'⟩:=List.mem_flatMap.1 hyZ;exact dg.1 ((dk.1 hZ).2.2.1 r hr') y hy'
        rcases List.mem_cons.1 hX with rfl | hX
        · exact hf hb hy
        · rw [List.mem_singleton.1 hX] at hy;exact hf hc hy
     omega
end Go.Proofs.YtpobkmjicbobdaaGreat
