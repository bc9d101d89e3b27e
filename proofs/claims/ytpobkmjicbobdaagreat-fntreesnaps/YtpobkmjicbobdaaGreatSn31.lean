/- Walks. -/
import Derived.Test.YtpobkmjicbobdaaGreatSn30
namespace Go.Proofs.YtpobkmjicbobdaaGreat
set_option maxRecDepth 100000
set_option maxHeartbeats 40000000
open Go.RowKit
theorem jr {lo:Nat} {w:World} {b n c i j:Nat} {B:List af} (h:aw lo w (pT b) n c B) (hij:i≤j) (hj:j≤n):aw lo w (some ⟨b,if c=i then 0 else i*2,none⟩) (j - i) (c - i) ((B.drop i).take (j - i)) where
 length:=by rw [List.length_take,List.length_drop,h.length];omega
 room:=by have:=h.room;omega
 big:=by have:=h.big;omega
 nil:=fun e=>by cases e
 lies:=fun x e hp=>by
  have h1:=h.lies _ rfl (by omega)
  cases e
  exact h1
 runs:=fun x e t ht=>by
  rw [List.length_take,List.length_drop,h.length] at ht
  have hc:¬c=i:=by have:=h.room;omega
  have hl:i+t<B.length:=by rw [h.length];omega
  have h1:=h.runs _ rfl (i+t) hl
  cases e
  rw [List.getElem_take,List.getElem_drop,if_neg hc]
  simp only [Nat.zero_add] at h1
  rw [show i*2+t*2=(i+t)*2 by omega]
  exact h1
theorem wh (lo:Nat) (q:Int) (aM:Option Addr) (nm cm bv cv:Nat) (aK:Option Addr) (ns cs:Nat) (M:List ac) (A B C:List af) (S:List Int) (bt ot nt ct:Nat) (pk:Int) (w:World) (hT:aZ lo w aM nm cm (pT bv) 3 cv aK ns cs M [A,B,C] S) (hnm:nm≤1048576) (hns:ns≤1048576) (hSz:∀Z ∈ [A,B,C],Z.length≤100∧∀r ∈ Z,1≤r.1.length∧r.1.length≤10000) (hcell:w.cell? ⟨bv,0,none⟩=some (sO bt ot nt ct)) (hTk:aw 0 w (some ⟨bt,ot,none⟩) nt ct A) (hn0:1≤nt) (hnt:nt≤100) (hok:fq A B) (hsum:(bd (dq A B)).flatten.length≤100000) :
 Calls Tryz.prog 56 #[.agg #[iT q,.slice aM nm cm,sL bv 3 cv,.slice aK ns cs],iT 0,iT pk] w (jn w.heap.size q (.agg #[iT q,.slice aM nm cm,sL bv 3 cv,.slice aK ns cs]) M [] (dP A B C S 1) C S (tw A B C S 1) w):=by
 obtain ⟨X,hX⟩:=aI w.heap.size;obtain ⟨W,hW⟩:=aI ((w.alloc (.cells #[iT q,.slice aM nm cm,sL bv 3 cv,.slice aK ns cs] 31)).alloc (.cells #[iT 0,nZ,nZ,nZ] 31));have kW:Bl w W:=by rw [hW];exact bZ.alloc (by simp) _
 have bx:ar W X (iT q) (.slice aM nm cm) (sL bv 3 cv) (.slice aK ns cs):=by rw [hW,hX];exact (ar.new _ _ _ _ _ _).alloc _
 have br:ar W (X+1) (iT 0) nZ nZ nZ∧an W (X+1) 31 4:=by
  have:=ar.new (w.alloc (.cells #[iT q,.slice aM nm cm,sL bv 3 cv,.slice aK ns cs] 31)) 31 (iT 0) nZ nZ nZ;rw [World.size_alloc] at this;rw [hW,hX];have h2:=co (w.alloc (.cells #[iT q,.slice aM nm cm,sL bv 3 cv,.slice aK ns cs] 31)) #[iT 0,nZ,nZ,nZ] 31;rw [World.size_alloc] at h2;exact ⟨this,h2⟩
 have HX:Hid (X=w.heap.size):=hX;have K0:Hid (Bl w W):=kW;have HBR:Hid (∀w',Bl W w'→ar w' (X+1) (iT 0) nZ nZ nZ∧wI w' (X+1)):=fun w' k=>⟨br.1.keep k,fi (br.2.below k) (br.1.keep k)⟩
 have HBX:Hid (∀w',Bl W w'→ar w' X (iT q) (.slice aM nm cm) (sL bv 3 cv) (.slice aK ns cs)):=fun w' k=>bx.keep k
 have HBL:Hid (∀w',Bl W w'→an w' (X+1) 31 4):=fun w' k=>br.2.below k
 have HTI:=bQ hT;have hbv:bv<w.heap.size:=(hT.levels.lies _ rfl (by omega)).1;have HBV:Hid (bv≠X∧bv≠X+1):=⟨by omega,by omega⟩;obtain ⟨OK,hOK⟩:=aI (tw A B C S 1);rw [← hOK];have CMG:Hid (∀gb w',Bl w w'→w'.heap[gb]?=some (.cells #[] 63 (0,0))→w.heap.size≤gb→Calls Tryz.prog 119 #[.agg #[iT q,.slice aM nm cm,sL bv 3 cv,.slice aK ns cs],iT 0,sO bt ot nt ct,sL gb 0 0] w' (jn w.heap.size q (.agg #[iT q,.slice aM nm cm,sL bv 3 cv,.slice aK ns cs]) M [] (dP A B C S 1) C S OK w')):=fun gb w' k h1 h2=>by
  rw [hOK];exact yH lo w.heap.size q aM nm cm bv cv aK ns cs M A B C S bt ot nt ct A gb w' (hT.keep k) hnm hns hSz (hTk.keep k) hnt h1 h2 hok hsum
 have HCB:Hid (∀w',Bl W w'→w'.cell? ⟨bv,0,none⟩=some (sO bt ot nt ct)):=fun w' k=>cell_later (kW.trans (k.mono kW.size)) hcell
 have HSB:Hid (∀w',ar w' X (iT q) (.slice aM nm cm) (sL bv 3 cv) (.slice aK ns cs)→w'.cell? ⟨bv,0,none⟩=some (sO bt ot nt ct)→(fun w'=>w'.cell? ⟨X,0,none⟩=some (iT q)∧w'.cell? ⟨X,1,none⟩=some (.slice aM nm cm)∧w'.cell? ⟨X,2,none⟩=some (sL bv 3 cv)∧w'.cell? ⟨X,3,none⟩=some (.slice aK ns cs)∧w'.cell? ⟨bv,0,none⟩=some (sO bt ot nt ct)∧X<w'.heap.size∧bv<w'.heap.size) w'):=fun w' h h2=>⟨h.c0,h.c1,h.c2,h.c3,h2,h.lt,World.block_lt_of_cell? _ _ h2⟩
 have hS2:∀w',Bl W w'→(fun w'=>w'.cell? ⟨X,0,none⟩=some (iT q)∧w'.cell? ⟨X,1,none⟩=some (.slice aM nm cm)∧w'.cell? ⟨X,2,none⟩=some (sL bv 3 cv)∧w'.cell? ⟨X,3,none⟩=some (.slice aK ns cs)∧w'.cell? ⟨bv,0,none⟩=some (sO bt ot nt ct)∧X<w'.heap.size∧bv<w'.heap.size) w':=fun w' k=>HSB.out w' (HBX.out w' k) (HCB.out w' k)
 have k0:Bl W W.drew:=(Below.refl _ W).drew;have hntI:(nt:Int) > 0:=by omega
 have hntJ:(0:Int)<(nt:Int):=by omega
 have l0:=HCB.out W (Below.refl _ W);have lz:=World.block_lt_of_cell? _ _ l0;simp only at lz;clear kW br hT hTk hok hsum hSz hOK hcell hbv;have x0:=bx.c0;have x1:=bx.c1;have x2:=bx.c2;have x3:=bx.c3;have xz:=bx.lt;clear bx;go_enter Tryz.func56,Tryz.ntmps56
 go_upto_region 1 with fail
 rw [← hX,← hW];clear hX hW;go_upto_region 2 with fail
 clear x0 x1 x2 x3 xz l0 lz hntI hntJ;refine x6 hS2 k0 fun aa=>?_
 generalize W.drew=wd at k0 aa ⊢;refine aO 0 5 aa ?_;refine aJ 5 fun K hK=>?_
 go_simp;have kc:Bl wd (wd.alloc (.cells #[] 63)):=bZ;have k1:Bl W (wd.alloc (.cells #[] 63)):=k0.trans (kc.mono k0.size);have hgb:(wd.alloc (.cells #[] 63)).heap[wd.heap.size]?=some (.cells #[] 63 (0,0)):=by unfold World.alloc;exact Array.getElem?_push_size
 have hgl:w.heap.size≤wd.heap.size:=Nat.le_trans K0.out.size k0.size;generalize wd.heap.size=gb at hgb hgl ⊢;generalize wd.alloc (.cells #[] 63)=wb at k1 hgb ⊢;clear kc;refine hK.out _ _ (hS2 _ k1) fun aa=>?_
 (try go_frame);refine aJ 6 fun K hK=>?_
 go_simp;refine (CMG.out gb _ (K0.out.trans (k1.mono K0.out.size)) hgb hgl).mono ?_;rintro e w2 ⟨am',nm',cm',av',nv',cv',ak',ns',cs',rfl,hb2,hno2,hyes2⟩;have k2:Bl W w2:=k1.trans (hb2.mono k1.size);have HNO:Hid (OK=false→(.agg #[iT q,.slice am' nm' cm',.slice av' nv' cv',.slice ak' ns' cs']:Value)=_):=hno2;have HYES:Hid (OK=true→_):=hyes2;clear hno2 hyes2 hb2;go_wp2_with fail
 refine hK.out _ _ (hS2 _ k2) fun aa=>?_
 (try go_frame);refine aO 7 2 aa ?_;refine aJ 9 fun K hK=>?_
 have y2:=(HBR.out _ k2).1;have r0:=y2.c0;have r1:=y2.c1;have r2:=y2.c2;have r3:=y2.c3;have rf:=y2.fz;have rz:=y2.lt;have hxx:X+1≠X:=by omega
 have bx3:=((((HBX.out _ k2).other (b':=X+1) (o:=0) hxx (iT q)).other (b':=X+1) (o:=1) hxx (.slice am' nm' cm')).other (b':=X+1) (o:=2) hxx (.slice av' nv' cv')).other (b':=X+1) (o:=3) hxx (.slice ak' ns' cs');have cb3:=(nR w2 (X+1) (iT q) (.slice am' nm' cm') (.slice av' nv' cv') (.slice ak' ns' cs') bv HBV.out.2 _).trans (HCB.out _ k2);go_simp;refine hK.out _ _ (HSB.out _ bx3 cb3) fun aa=>?_
 (try go_frame);refine aO 10 1 aa ?_;refine dN ?_;have HY2:Hid (ar w2 (X+1) (iT 0) nZ nZ nZ):=y2;have KL2:Hid (Bl w w2):=K0.out.trans (k2.mono K0.out.size);clear bx3 cb3 aa r0 r1 r2 r3 rf rz y2 hxx;go_wp2;refine bodyPost_ret (v:=.tuple #[.agg #[iT q,.slice am' nm' cm',.slice av' nv' cv',.slice ak' ns' cs'],.bool OK]) ?_ rfl (show jn _ _ _ _ _ _ _ _ _ _ _ _ from ⟨am',nm',cm',av',nv',cv',ak',ns',cs',rfl,?_,HNO.out,fun h=>?_⟩)
 · have e:=(((HY2.out.set0 (iT q)).set1 (.slice am' nm' cm')).set2 (.slice av' nv' cv')).set3 (.slice ak' ns' cs');simp [results,Tryz.results56,go_sem,e.c0,e.c1,e.c2,e.c3]
 · have hx:w.heap.size≤X+1:=by have:=HX.out;omega
   exact gF KL2.out hx _ _ _ _
 · obtain ⟨G,gA,dA,f1,m1,d1,f2,m2,d2,rfl,rfl,hS⟩:=HYES.out h;exact ⟨G,gA,dA,f1,m1,d1,f2,m2,d2,rfl,rfl,hS.four (HBL.out _ k2) HY2.out⟩
theorem we (lo:Nat) (q:Int) (aM:Option Addr) (nm cm bv cv:Nat) (aK:Option Addr) (ns cs:Nat) (M:List ac) (A B C:List af) (S:List Int) (a0 a1:Option Addr) (n0 c0 n1 c1:Nat) (lv pk:Int) (w:World) (hT:aZ lo w aM nm cm (pT bv) 3 cv aK ns cs M [A,B,C] S) (hcell:w.cell? ⟨bv,0,none⟩=some (.slice a0 n0 c0)) (hcell1:w.cell? ⟨bv,1,none⟩=some (.slice a1 n1 c1)) (hno:¬(lv=0∧1≤n0)∧¬(lv=1∧0≤pk∧pk<n1)) :
 Calls Tryz.prog 56 #[.agg #[iT q,.slice aM nm cm,sL bv 3 cv,.slice aK ns cs],iT lv,iT pk] w (jn w.heap.size q (.agg #[iT q,.slice aM nm cm,sL bv 3 cv,.slice aK ns cs]) M A B C S (false) w):=by
 obtain ⟨X,hX⟩:=aI w.heap.size;obtain ⟨W,hW⟩:=aI ((w.alloc (.cells #[iT q,.slice aM nm cm,sL bv 3 cv,.slice aK ns cs] 31)).alloc (.cells #[iT 0,nZ,nZ,nZ] 31));have kW:Bl w W:=by rw [hW];exact bZ.alloc (by simp) _
 have bx:ar W X (iT q) (.slice aM nm cm) (sL bv 3 cv) (.slice aK ns cs):=by rw [hW,hX];exact (ar.new _ _ _ _ _ _).alloc _
 have br:ar W (X+1) (iT 0) nZ nZ nZ∧an W (X+1) 31 4:=by
  have:=ar.new (w.alloc (.cells #[iT q,.slice aM nm cm,sL bv 3 cv,.slice aK ns cs] 31)) 31 (iT 0) nZ nZ nZ;rw [World.size_alloc] at this;rw [hW,hX];have h2:=co (w.alloc (.cells #[iT q,.slice aM nm cm,sL bv 3 cv,.slice aK ns cs] 31)) #[iT 0,nZ,nZ,nZ] 31;rw [World.size_alloc] at h2;exact ⟨this,h2⟩
 have HX:Hid (X=w.heap.size):=hX;have K0:Hid (Bl w W):=kW;have HBR:Hid (∀w',Bl W w'→ar w' (X+1) (iT 0) nZ nZ nZ∧wI w' (X+1)):=fun w' k=>⟨br.1.keep k,fi (br.2.below k) (br.1.keep k)⟩
 have HBX:Hid (∀w',Bl W w'→ar w' X (iT q) (.slice aM nm cm) (sL bv 3 cv) (.slice aK ns cs)):=fun w' k=>bx.keep k
 have HBL:Hid (∀w',Bl W w'→an w' (X+1) 31 4):=fun w' k=>br.2.below k
 have HTI:=bQ hT;have hbv:bv<w.heap.size:=(hT.levels.lies _ rfl (by omega)).1;have HBV:Hid (bv≠X∧bv≠X+1):=⟨by omega,by omega⟩;have l0:=cell_later kW hcell;have l1:=cell_later kW hcell1;have lz:=World.block_lt_of_cell? _ _ l0;simp only at lz;have x0:=bx.c0;have x1:=bx.c1;have x2:=bx.c2;have x3:=bx.c3;have xz:=bx.lt;have r0:=br.1.c0;have r1:=br.1.c1;have r2:=br.1.c2;have r3:=br.1.c3;have rf:=br.1.fz;have rz:=br.1.lt;have HY:Hid (ar W (X+1) (iT 0) nZ nZ nZ):=br.1;clear bx br kW hT hcell hcell1 hbv;by_cases h0:lv=0
 · subst h0;have hn:n0=0:=by omega
   subst hn;go_enter Tryz.func56,Tryz.ntmps56
   go_upto_region 1 with fail
   rw [← hX,← hW];clear hX hW;go_wp2;refine bodyPost_ret (v:=.tuple #[.agg #[iT q,.slice aM nm cm,sL bv 3 cv,.slice aK ns cs],.bool false]) ?_ rfl (show jn _ _ _ _ _ _ _ _ _ _ _ _ from ⟨aM,nm,cm,some ⟨bv,0,none⟩,3,cv,aK,ns,cs,rfl,?_,fun _=>rfl,fun h=>by cases h⟩)
   · have e:=(((HY.out.set0 (iT q)).set1 (.slice aM nm cm)).set2 (sL bv 3 cv)).set3 (.slice aK ns cs);simp [results,Tryz.results56,go_sem,e.c0,e.c1,e.c2,e.c3]
   · have hx:w.heap.size≤X+1:=by have:=HX.out;omega
     exact gF K0.out hx _ _ _ _
 · have h0b:(lv == 0)=false:=by simpa using h0
   by_cases h1:lv=1
   · subst h1;by_cases hp:pk<0
     · have hpI:¬pk ≥ 0:=by omega
       have hpJ:¬0≤pk:=by omega
       go_enter Tryz.func56,Tryz.ntmps56
       go_upto_region 1 with fail
       rw [← hX,← hW];clear hX hW;go_wp2;refine bodyPost_ret (v:=.tuple #[.agg #[iT q,.slice aM nm cm,sL bv 3 cv,.slice aK ns cs],.bool false]) ?_ rfl (show jn _ _ _ _ _ _ _ _ _ _ _ _ from ⟨aM,nm,cm,some ⟨bv,0,none⟩,3,cv,aK,ns,cs,rfl,?_,fun _=>rfl,fun h=>by cases h⟩)
       · have e:=(((HY.out.set0 (iT q)).set1 (.slice aM nm cm)).set2 (sL bv 3 cv)).set3 (.slice aK ns cs);simp [results,Tryz.results56,go_sem,e.c0,e.c1,e.c2,e.c3]
       · have hx:w.heap.size≤X+1:=by have:=HX.out;omega
         exact gF K0.out hx _ _ _ _
     · have hpI:pk ≥ 0:=by omega
       have hpJ:0≤pk:=by omega
       have hpK:¬pk<(n1:Int):=by omega
       go_enter Tryz.func56,Tryz.ntmps56
       go_upto_region 1 with fail
       rw [← hX,← hW];clear hX hW;go_wp2;refine bodyPost_ret (v:=.tuple #[.agg #[iT q,.slice aM nm cm,sL bv 3 cv,.slice aK ns cs],.bool false]) ?_ rfl (show jn _ _ _ _ _ _ _ _ _ _ _ _ from ⟨aM,nm,cm,some ⟨bv,0,none⟩,3,cv,aK,ns,cs,rfl,?_,fun _=>rfl,fun h=>by cases h⟩)
       · have e:=(((HY.out.set0 (iT q)).set1 (.slice aM nm cm)).set2 (sL bv 3 cv)).set3 (.slice aK ns cs);simp [results,Tryz.results56,go_sem,e.c0,e.c1,e.c2,e.c3]
       · have hx:w.heap.size≤X+1:=by have:=HX.out;omega
         exact gF K0.out hx _ _ _ _
   · have h1b:(lv == 1)=false:=by simpa using h1
     go_enter Tryz.func56,Tryz.ntmps56
     go_upto_region 1 with fail
     rw [← hX,← hW];clear hX hW;go_wp2;refine bodyPost_ret (v:=.tuple #[.agg #[iT q,.slice aM nm cm,sL bv 3 cv,.slice aK ns cs],.bool false]) ?_ rfl (show jn _ _ _ _ _ _ _ _ _ _ _ _ from ⟨aM,nm,cm,some ⟨bv,0,none⟩,3,cv,aK,ns,cs,rfl,?_,fun _=>rfl,fun h=>by cases h⟩)
     · have e:=(((HY.out.set0 (iT q)).set1 (.slice aM nm cm)).set2 (sL bv 3 cv)).set3 (.slice aK ns cs);simp [results,Tryz.results56,go_sem,e.c0,e.c1,e.c2,e.c3]
     · have hx:w.heap.size≤X+1:=by have:=HX.out;omega
       exact gF K0.out hx _ _ _ _
theorem wg (lo:Nat) (q:Int) (aM:Option Addr) (nm cm bv cv:Nat) (aK:Option Addr) (ns cs:Nat) (M:List ac) (A B C:List af) (S:List Int) (e1 n1 c1 p:Nat) (w:World) (hT:aZ lo w aM nm cm (pT bv) 3 cv aK ns cs M [A,B,C] S) (hnm:nm≤1048576) (hns:ns≤1048576) (hSz:∀Z ∈ [A,B,C],Z.length≤100∧∀r ∈ Z,1≤r.1.length∧r.1.length≤10000) (hcell:w.cell? ⟨bv,1,none⟩=some (sL e1 n1 c1)) (hB:aw 0 w (pT e1) n1 c1 B) (hp:p<n1) (hn1:n1≤100) (hok:fq ((B.drop p).take 1) C) (hsum:(bd (dq ((B.drop p).take 1) C)).flatten.length≤100000) :
 Calls Tryz.prog 56 #[.agg #[iT q,.slice aM nm cm,sL bv 3 cv,.slice aK ns cs],iT 1,iT (p:Int)] w (jn w.heap.size q (.agg #[iT q,.slice aM nm cm,sL bv 3 cv,.slice aK ns cs]) M A (B.take p++B.drop (p+1)) (dP ((B.drop p).take 1) C C S 2) S (tw ((B.drop p).take 1) C C S 2) w):=by
 obtain ⟨j0,hj,hy0,hy1,hy2⟩:=info_parts Tryz.infoRun;obtain ⟨X,hX⟩:=aI w.heap.size;obtain ⟨W,hW⟩:=aI ((w.alloc (.cells #[iT q,.slice aM nm cm,sL bv 3 cv,.slice aK ns cs] 31)).alloc (.cells #[iT 0,nZ,nZ,nZ] 31));have kW:Bl w W:=by rw [hW];exact bZ.alloc (by simp) _
 have bx:ar W X (iT q) (.slice aM nm cm) (sL bv 3 cv) (.slice aK ns cs):=by rw [hW,hX];exact (ar.new _ _ _ _ _ _).alloc _
 have br:ar W (X+1) (iT 0) nZ nZ nZ∧an W (X+1) 31 4:=by
  have:=ar.new (w.alloc (.cells #[iT q,.slice aM nm cm,sL bv 3 cv,.slice aK ns cs] 31)) 31 (iT 0) nZ nZ nZ;rw [World.size_alloc] at this;rw [hW,hX];have h2:=co (w.alloc (.cells #[iT q,.slice aM nm cm,sL bv 3 cv,.slice aK ns cs] 31)) #[iT 0,nZ,nZ,nZ] 31;rw [World.size_alloc] at h2;exact ⟨this,h2⟩
 have HX:Hid (X=w.heap.size):=hX;have K0:Hid (Bl w W):=kW;have HBR:Hid (∀w',Bl W w'→ar w' (X+1) (iT 0) nZ nZ nZ∧wI w' (X+1)):=fun w' k=>⟨br.1.keep k,fi (br.2.below k) (br.1.keep k)⟩
 have HBX:Hid (∀w',Bl W w'→ar w' X (iT q) (.slice aM nm cm) (sL bv 3 cv) (.slice aK ns cs)):=fun w' k=>bx.keep k
 have HBL:Hid (∀w',Bl W w'→an w' (X+1) 31 4):=fun w' k=>br.2.below k
 have HTI:=bQ hT;have hbv:bv<w.heap.size:=(hT.levels.lies _ rfl (by omega)).1;have HBV:Hid (bv≠X∧bv≠X+1):=⟨by omega,by omega⟩;obtain ⟨OK,hOK⟩:=aI (tw ((B.drop p).take 1) C C S 2);rw [← hOK];have hroom:=hB.room;have hln:=hB.length;have hTk:aw 0 w (some ⟨e1,p*2,none⟩) 1 (c1 - p) ((B.drop p).take 1):=by
  have:=jr hB (i:=p) (j:=p+1) (by omega) (by omega);rw [if_neg (by omega),show p+1 - p=1 by omega] at this;exact this
 have CMG:Hid (∀g n c w',Bl w w'→aw 0 w' (pT g) n c (B.take p++B.drop (p+1))→Calls Tryz.prog 119 #[.agg #[iT q,.slice aM nm cm,sL bv 3 cv,.slice aK ns cs],iT 1,.slice (some ⟨e1,p*2,none⟩) 1 (c1 - p),sL g n c] w' (jn w.heap.size q (.agg #[iT q,.slice aM nm cm,sL bv 3 cv,.slice aK ns cs]) M A (B.take p++B.drop (p+1)) (dP ((B.drop p).take 1) C C S 2) S OK w')):=fun g n c w' k h=>by
  rw [hOK];exact yG lo w.heap.size q aM nm cm bv cv aK ns cs M A B C S e1 (p*2) 1 (c1 - p) ((B.drop p).take 1) g n c (B.take p++B.drop (p+1)) w' (hT.keep k) hnm hns hSz (hTk.keep k) (by omega) h k.size hok hsum
 have HCB:Hid (∀w',Bl W w'→w'.cell? ⟨bv,1,none⟩=some (sL e1 n1 c1)):=fun w' k=>cell_later (kW.trans (k.mono kW.size)) hcell
 have HSB:Hid (∀w',ar w' X (iT q) (.slice aM nm cm) (sL bv 3 cv) (.slice aK ns cs)→w'.cell? ⟨bv,1,none⟩=some (sL e1 n1 c1)→(fun w'=>w'.cell? ⟨X,0,none⟩=some (iT q)∧w'.cell? ⟨X,1,none⟩=some (.slice aM nm cm)∧w'.cell? ⟨X,2,none⟩=some (sL bv 3 cv)∧w'.cell? ⟨X,3,none⟩=some (.slice aK ns cs)∧w'.cell? ⟨bv,1,none⟩=some (sL e1 n1 c1)∧X<w'.heap.size∧bv<w'.heap.size) w'):=fun w' h h2=>⟨h.c0,h.c1,h.c2,h.c3,h2,h.lt,World.block_lt_of_cell? _ _ h2⟩
 have hS2:∀w',Bl W w'→(fun w'=>w'.cell? ⟨X,0,none⟩=some (iT q)∧w'.cell? ⟨X,1,none⟩=some (.slice aM nm cm)∧w'.cell? ⟨X,2,none⟩=some (sL bv 3 cv)∧w'.cell? ⟨X,3,none⟩=some (.slice aK ns cs)∧w'.cell? ⟨bv,1,none⟩=some (sL e1 n1 c1)∧X<w'.heap.size∧bv<w'.heap.size) w':=fun w' k=>HSB.out w' (HBX.out w' k) (HCB.out w' k)
 have k0:Bl W W.drew:=(Below.refl _ W).drew;obtain ⟨ox,hox⟩:=aI (if c1=p+1 then 0 else (p+1)*2);obtain ⟨nr,hnr⟩:=aI (n1 - (p+1));obtain ⟨cr,hcr⟩:=aI (c1 - (p+1));have hA':aw 0 w (pT e1) p c1 (B.take p):=by
  have:=jr hB (i:=0) (j:=p) (by omega) (by omega);have e0:(if c1=0 then 0 else 0*2)=0:=by split <;> rfl
  rw [e0] at this;simpa using this
 have hB':aw 0 w (some ⟨e1,ox,none⟩) nr cr (B.drop (p+1)):=by
  have:=jr hB (i:=p+1) (j:=n1) (by omega) (by omega);rw [List.take_of_length_le (by rw [List.length_drop,hln];omega)] at this;rw [hox,hnr,hcr];exact this
 obtain ⟨xsA,dA,rA⟩:=hA'.raw;obtain ⟨xsB,dB,rB⟩:=hB'.raw;have HDN:Hid (dw (·<w.heap.size) w (xsA++xsB) (B.take p++B.drop (p+1))):=dA.denP.app dB.denP;have HRA:Hid (lS w (sL e1 p c1) p xsA):=rA;have HRB:Hid (lS w (sO e1 ox nr cr) nr xsB):=rB;have hpI:(p:Int)<(n1:Int):=by omega
 have hp0:(p:Int) ≥ 0:=by omega
 have hp1:(0:Int)≤(p:Int):=by omega
 have wp1:IntKind.i64.wrap ((p:Int)+1)=(p:Int)+1:=by rw [IntWalk.i64_left];unfold wrap64;omega
 have htn:((p:Int)+1).toNat=p+1:=by omega
 have hpc:(p:Int)+1≤(c1:Int):=by omega
 have hpc0:(p:Int)≤(c1:Int):=by omega
 have hpz:(0:Int)≤(p:Int)+1:=by omega
 have hpn:(p:Int)+1≤(n1:Int):=by omega
 have hnc:(n1:Int)≤(c1:Int):=by omega
 have hcp:¬c1=p:=by omega
 have hav:(if c1=p+1 then some (⟨e1,0,none⟩:Addr) else some ⟨e1,(p+1)*2,none⟩)=some ⟨e1,ox,none⟩:=by rw [hox];split <;> rfl
 have hx1:p+1 - p=1:=by omega
 have hx2:n1 - (p+1)=nr:=hnr.symm;have hx3:c1 - (p+1)=cr:=hcr.symm;have hnr2:nr≤100:=by omega
 have hp2:p≤100:=by omega
 have l0:=HCB.out W (Below.refl _ W);have lz:=World.block_lt_of_cell? _ _ l0;simp only at lz;clear kW br hT hTk hok hsum hSz hOK hcell hbv hB hA' hB' dA dB rA rB hox hnr hcr hln;have x0:=bx.c0;have x1:=bx.c1;have x2:=bx.c2;have x3:=bx.c3;have xz:=bx.lt;clear bx;go_enter Tryz.func56,Tryz.ntmps56
 go_upto_region 1 with fail
 rw [← hX,← hW];clear hX hW;go_upto_region 4 with fail
 clear x0 x1 x2 x3 xz l0 lz;refine x6 hS2 k0 fun aa=>?_
 generalize W.drew=wd at k0 aa ⊢;refine aO 1 6 aa ?_;refine aO 8 7 aa ?_;refine aJ 0 fun K hK=>?_
 go_simp;have kc:Bl wd (wd.alloc (.cells #[] 63)):=bZ;have k1:Bl W (wd.alloc (.cells #[] 63)):=k0.trans (kc.mono k0.size);have R1:(wd.alloc (.cells #[] 63)).ownsRow W.heap.size 63 2 (sL (wd.heap.size) 0 0) 0 []:=by
  have:=World.ownsRow_lit (base:=W.heap.size) (e:=63) (size:=2) wd #[] 0 k0.size (by simp) (by simp);simpa using this
 have hnA:=jW (HRA.out.keep (K0.out.trans (k1.mono K0.out.size)));generalize wd.heap.size=gb at R1 ⊢;generalize wd.alloc (.cells #[] 63)=wb at k1 R1 hnA ⊢;clear kc;refine hK.out _ _ (hS2 _ k1) fun aa=>?_
 (try go_frame);refine aJ 7 fun K hK=>?_
 refine ax rfl (.tmp 43) (.tmp 49) 61 rfl W.heap.size 63 j0 _ 2 32 Tryz.underlying61 hj hy0 hy1 hy2 rfl (by decide) _ _ _ rfl R1 ⟨e1,0,none⟩ p c1 xsA rfl HRA.out.1 hnA.out HRA.out.2.1 ?_ ?_ ?_ ?_
 · unfold maxLen;omega
 · omega
 · exact k1.size
 intro v7 w7 ho7 hg7 hn7;obtain ⟨g7,c7,rfl⟩:=aE ho7 hn7;have hg7':wb.grownBy w7 (some gb):=hg7;have q2:Bl W w7:=k1.grown hg7' k1.size (fun x e=>by have h1:=Option.some.inj e;have h2:=(R1.lt gb rfl).1;omega);have hnB:=jW (HRB.out.keep (K0.out.trans (q2.mono K0.out.size)));have hz7:0+p=p:=by omega
 rw [hz7,List.nil_append] at ho7;refine hK.out _ _ (hS2 _ q2) fun aa=>?_
 (try go_frame);refine aJ 15 fun K hK=>?_
 refine ax rfl (.tmp 50) (.tmp 57) 61 rfl W.heap.size 63 j0 _ 2 32 Tryz.underlying61 hj hy0 hy1 hy2 rfl (by decide) _ _ _ ?_ ho7 ⟨e1,ox,none⟩ nr cr xsB rfl HRB.out.1 hnB.out HRB.out.2.1 ?_ ?_ ?_ ?_
 · first | rfl | (rw [hz7];rfl) | simp
 · unfold maxLen;omega
 · omega
 · exact q2.size
 intro v8 w8 ho8 hg8 hn8;obtain ⟨g8,c8,rfl⟩:=aE ho8 hn8;have hg8':w7.grownBy w8 (some g7):=hg8;have q3:Bl W w8:=q2.grown hg8' q2.size (fun x e=>by have h1:=Option.some.inj e;have h2:=(ho7.lt g7 rfl).1;omega);refine hK.out _ _ (hS2 _ q3) fun aa=>?_
 (try go_frame);refine aO 16 1 aa ?_;refine dN ?_;have KL8:Bl w w8:=K0.out.trans (q3.mono K0.out.size);obtain ⟨a8,c8',e8,hR8⟩:=il ho8 (HDN.out.low KL8).den;cases e8;have HR8:Hid (aw 0 w8 (pT g8) (p+nr) c8 (B.take p++B.drop (p+1))):=hR8;have Q3:Hid (Bl W w8):=q3;have bx8:=HBX.out w8 q3;have x0:=bx8.c0;have x1:=bx8.c1;have x2:=bx8.c2;have x3:=bx8.c3;have xz:=bx8.lt;have l0:=HCB.out w8 q3;have lz:=World.block_lt_of_cell? _ _ l0;simp only at lz;clear aa k0 k1 q2 q3 R1 hnA hnB ho7 hg7 hg7' hn7 ho8 hg8 hg8' hn8 hR8 KL8 bx8 hz7;go_upto_region 5 with fail
 clear x0 x1 x2 x3 xz l0 lz;have k5:Bl W w8.drew:=Q3.out.drew;have HR9:Hid (aw 0 w8.drew (pT g8) (p+nr) c8 (B.take p++B.drop (p+1))):=HR8.out.keep (Below.refl _ w8).drew;refine x6 hS2 k5 fun aa=>?_
 generalize w8.drew=wd9 at k5 HR9 aa ⊢;refine aO 0 10 aa ?_;refine aJ 10 fun K hK=>?_
 go_simp;refine (CMG.out _ _ _ _ (K0.out.trans (k5.mono K0.out.size)) HR9.out).mono ?_;rintro e w2 ⟨am',nm',cm',av',nv',cv',ak',ns',cs',rfl,hb2,hno2,hyes2⟩;have k2:Bl W w2:=k5.trans (hb2.mono k5.size);have HNO:Hid (OK=false→(.agg #[iT q,.slice am' nm' cm',.slice av' nv' cv',.slice ak' ns' cs']:Value)=_):=hno2;have HYES:Hid (OK=true→_):=hyes2;clear hno2 hyes2 hb2;go_wp2_with fail
 refine hK.out _ _ (hS2 _ k2) fun aa=>?_
 (try go_frame);refine aO 11 2 aa ?_;refine aJ 13 fun K hK=>?_
 have y2:=(HBR.out _ k2).1;have r0:=y2.c0;have r1:=y2.c1;have r2:=y2.c2;have r3:=y2.c3;have rf:=y2.fz;have rz:=y2.lt;have hxx:X+1≠X:=by omega
 have bx3:=((((HBX.out _ k2).other (b':=X+1) (o:=0) hxx (iT q)).other (b':=X+1) (o:=1) hxx (.slice am' nm' cm')).other (b':=X+1) (o:=2) hxx (.slice av' nv' cv')).other (b':=X+1) (o:=3) hxx (.slice ak' ns' cs');have cb3:=(nR w2 (X+1) (iT q) (.slice am' nm' cm') (.slice av' nv' cv') (.slice ak' ns' cs') bv HBV.out.2 _).trans (HCB.out _ k2);go_simp;refine hK.out _ _ (HSB.out _ bx3 cb3) fun aa=>?_
 (try go_frame);refine aO 14 1 aa ?_;refine dN ?_;have HY2:Hid (ar w2 (X+1) (iT 0) nZ nZ nZ):=y2;have KL2:Hid (Bl w w2):=K0.out.trans (k2.mono K0.out.size);clear bx3 cb3 aa r0 r1 r2 r3 rf rz y2 hxx;go_wp2;refine bodyPost_ret (v:=.tuple #[.agg #[iT q,.slice am' nm' cm',.slice av' nv' cv',.slice ak' ns' cs'],.bool OK]) ?_ rfl (show jn _ _ _ _ _ _ _ _ _ _ _ _ from ⟨am',nm',cm',av',nv',cv',ak',ns',cs',rfl,?_,HNO.out,fun h=>?_⟩)
 · have e:=(((HY2.out.set0 (iT q)).set1 (.slice am' nm' cm')).set2 (.slice av' nv' cv')).set3 (.slice ak' ns' cs');simp [results,Tryz.results56,go_sem,e.c0,e.c1,e.c2,e.c3]
 · have hx:w.heap.size≤X+1:=by have:=HX.out;omega
   exact gF KL2.out hx _ _ _ _
 · obtain ⟨G,gA,dA,f1,m1,d1,f2,m2,d2,rfl,rfl,hS⟩:=HYES.out h;exact ⟨G,gA,dA,f1,m1,d1,f2,m2,d2,rfl,rfl,hS.four (HBL.out _ k2) HY2.out⟩
end Go.Proofs.YtpobkmjicbobdaaGreat
