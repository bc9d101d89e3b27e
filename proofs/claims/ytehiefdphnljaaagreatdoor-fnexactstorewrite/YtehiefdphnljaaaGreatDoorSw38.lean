/- Walks. -/
import Derived.Test.YtehiefdphnljaaaGreatDoorSw37
namespace Go.Proofs.YtehiefdphnljaaaGreatDoor
set_option maxRecDepth 100000
set_option maxHeartbeats 40000000
open Go.RowKit
variable {K L M:List ae} {base i:Nat} {lg:ByteArray} {q:Int} {up:Bool} {v:Value} {w w':World}
theorem pU (t:ByteArray) (w:World) :
 Calls Tryz.prog 53 #[.string t] w fun e w'=>∃b:Nat,e=.returned (.func (.func 92) #[] #[.pointer (pT b)])∧w'.cell? ⟨b,0,none⟩=some (.string t)∧Bl w w':=by
 go_enter Tryz.func53,Tryz.ntmps53
 go_wp2;go_ret;exact ⟨w.heap.size,rfl,by simp,bZ⟩
theorem yL (b:Nat) (t lg:ByteArray) (sf:Int) (d0 d1 d2:Option Addr) (m0 e0 m1 e1 m2 e2:Nat) (sd:Int) (w:World) (hsz:¬9223372036854775807<lg.size+t.size) (hb:w.cell? ⟨b,0,none⟩=some (.string t)) :
 Calls Tryz.prog 92 #[.agg #[.string lg,iT sf,.slice d0 m0 e0,.slice d1 m1 e1,.slice d2 m2 e2,iT sd],.pointer (pT b)] w fun e w'=>e=.returned (.agg #[.string (lg++t),iT sf,.slice d0 m0 e0,.slice d1 m1 e1,.slice d2 m2 e2,iT sd])∧Bl w w':=by
 obtain ⟨X,hX⟩:=aw w.heap.size;obtain ⟨W,hW⟩:=aw ((w.alloc (.cells #[.string lg,iT sf,.slice d0 m0 e0,.slice d1 m1 e1,.slice d2 m2 e2,iT sd] 88)).alloc (.cells #[.string ⟨#[]⟩,iT 0,nZ,nZ,nZ,iT 0] 88));have kW:Bl w W:=by rw [hW];exact bZ.alloc (by simp) _
 have bx:aR W X (.string lg) (iT sf) (.slice d0 m0 e0) (.slice d1 m1 e1) (.slice d2 m2 e2) (iT sd):=by rw [hW,hX];exact (aR.new _ _ _ _ _ _ _ _).alloc _
 have br:aR W (X+1) (.string ⟨#[]⟩) (iT 0) nZ nZ nZ (iT 0):=by
  have:=aR.new (w.alloc (.cells #[.string lg,iT sf,.slice d0 m0 e0,.slice d1 m1 e1,.slice d2 m2 e2,iT sd] 88)) 88 (.string ⟨#[]⟩) (iT 0) nZ nZ nZ (iT 0);rw [World.size_alloc] at this;rw [hW,hX];exact this
 have hbW:=cell_later kW hb;have hbz:=World.block_lt_of_cell? _ _ hb;simp only at hbz;have HXW:=ar hX;have HBX:=ar bx;have HBR:=ar br;have HKW:=ar kW;clear kW bx br;go_enter Tryz.func92,Tryz.ntmps92
 go_upto_region 1 with fail
 rw [← hX,← hW];clear hX hW;have bx:=HBX.out;have br:=HBR.out;have x0:=bx.c0;have xf:=bx.fz;have xz:=bx.lt;have hx:w.heap.size≤X:=by have:=HXW.out;omega
 have hne:X≠X+1:=by omega
 go_upto_region 2 with fail
 obtain ⟨w2,hw2⟩:=aw (W.setCell ⟨X,0,none⟩ (.string (lg++t)));have HX2:=ar (bx.set0 (.string (lg++t)));have HR2:=ar (br.other hne (o:=0) (.string (lg++t)));have K2:=ar (HKW.out.setCell (p:=⟨X,0,none⟩) hx (.string (lg++t)));rw [← hw2] at HX2 HR2 K2 ⊢;clear hw2 bx br x0 xf xz hbW;have b2:=HX2.out;have p0:=b2.all;have r4:=HR2.out;have u0:=r4.all;obtain ⟨w3,hw3⟩:=aw ((((((w2.setCell ⟨X+1,0,none⟩ (.string (lg++t))).setCell ⟨X+1,1,none⟩ (iT sf)).setCell ⟨X+1,2,none⟩ (.slice d0 m0 e0)).setCell ⟨X+1,3,none⟩ (.slice d1 m1 e1)).setCell ⟨X+1,4,none⟩ (.slice d2 m2 e2)).setCell ⟨X+1,5,none⟩ (iT sd));have HR3:Hid (aR w3 (X+1) (.string (lg++t)) (iT sf) (.slice d0 m0 e0) (.slice d1 m1 e1) (.slice d2 m2 e2) (iT sd)):=by rw [hw3];exact r4.sets (.string (lg++t)) (iT sf) (.slice d0 m0 e0) (.slice d1 m1 e1) (.slice d2 m2 e2) (iT sd)
 have K3:Hid (Bl w w3):=by rw [hw3];exact jP K2.out (by omega) (.string (lg++t)) (iT sf) (.slice d0 m0 e0) (.slice d1 m1 e1) (.slice d2 m2 e2) (iT sd)
 have HW3:=ar hw3;clear hw3 r4 b2;go_wp2;rw [← HW3.out];refine bodyPost_ret (v:=.agg #[.string (lg++t),iT sf,.slice d0 m0 e0,.slice d1 m1 e1,.slice d2 m2 e2,iT sd]) ?_ rfl ⟨rfl,K3.out⟩;have e:=HR3.out;simp [results,Tryz.results92,go_sem,e.all]
theorem ui (r b:Nat) (t lg:ByteArray) (sf:Int) (d0 d1 d2:Option Addr) (m0 e0 m1 e1 m2 e2:Nat) (sd:Int) (w:World) (hsz:¬9223372036854775807<lg.size+t.size) (hb:w.cell? ⟨b,0,none⟩=some (.string t)) (hr:w.cell? ⟨r,0,none⟩=some (.func (.func 92) #[] #[.pointer (pT b)])) :
 Calls Tryz.prog 87 #[.agg #[.string lg,iT sf,.slice d0 m0 e0,.slice d1 m1 e1,.slice d2 m2 e2,iT sd],sL r 1 1] w fun e w'=>e=.returned (.agg #[.string (lg++t),iT sf,.slice d0 m0 e0,.slice d1 m1 e1,.slice d2 m2 e2,iT sd])∧Bl w w':=by
 obtain ⟨X,hX⟩:=aw w.heap.size;obtain ⟨W,hW⟩:=aw ((w.alloc (.cells #[.string lg,iT sf,.slice d0 m0 e0,.slice d1 m1 e1,.slice d2 m2 e2,iT sd] 88)).alloc (.cells #[.string ⟨#[]⟩,iT 0,nZ,nZ,nZ,iT 0] 88));have kW:Bl w W:=by rw [hW];exact bZ.alloc (by simp) _
 have bx:aR W X (.string lg) (iT sf) (.slice d0 m0 e0) (.slice d1 m1 e1) (.slice d2 m2 e2) (iT sd):=by rw [hW,hX];exact (aR.new _ _ _ _ _ _ _ _).alloc _
 have br:aR W (X+1) (.string ⟨#[]⟩) (iT 0) nZ nZ nZ (iT 0):=by
  have:=aR.new (w.alloc (.cells #[.string lg,iT sf,.slice d0 m0 e0,.slice d1 m1 e1,.slice d2 m2 e2,iT sd] 88)) 88 (.string ⟨#[]⟩) (iT 0) nZ nZ nZ (iT 0);rw [World.size_alloc] at this;rw [hW,hX];exact this
 have HRW:=ar hr;have HBW:=ar hb;have HXW:=ar hX;have HBX:=ar bx;have HBR:=ar br;have HKW:=ar kW;clear kW bx br hb hr;go_enter Tryz.func87,Tryz.ntmps87
 go_upto_region 1 with fail
 rw [← hX,← hW];clear hX hW;go_wp2;go_loopw [9] (fun iv wr=>Bl w wr∧aR wr (X+1) (.string ⟨#[]⟩) (iT 0) nZ nZ nZ (iT 0)∧((iv=iT 0∧aR wr X (.string lg) (iT sf) (.slice d0 m0 e0) (.slice d1 m1 e1) (.slice d2 m2 e2) (iT sd))∨(iv=iT 1∧aR wr X (.string (lg++t)) (iT sf) (.slice d0 m0 e0) (.slice d1 m1 e1) (.slice d2 m2 e2) (iT sd)))) (fun iv _=>1 - (intOf iv).toNat)
 case atStart=>exact ⟨HKW.out,HBR.out,Or.inl ⟨rfl,HBX.out⟩⟩
 case round =>
  obtain ⟨hk,hbr,hcase⟩:=hrel;have HK:=ar hk;have HR:=ar hbr;clear HBX HBR HKW;rcases hcase with ⟨rfl,hbx⟩ | ⟨rfl,hbx⟩
  · have HX1:=ar hbx;have c0:=hbx.all;have cr:=cell_later hk HRW.out;have CS:=yL b t lg sf d0 d1 d2 m0 e0 m1 e1 m2 e2 sd wr hsz (cell_later hk HBW.out);clear hk hbr hbx;go_wp2_with fail
    refine CS.mono ?_;rintro e w2 ⟨rfl,hb2⟩;have HX2:=ar (HX1.out.keep hb2);have HR2:=ar (HR.out.keep hb2);have HK2:Hid (Bl w w2):=HK.out.trans (hb2.mono HK.out.size);have x:=HX2.out;have a0:=x.all;clear hb2 x c0 cr CS HX1 HR HK;go_wp2;go_roundw
    case rel =>
     have hx:w.heap.size≤X:=by have:=HXW.out;omega
     refine ⟨?_,?_,Or.inr ⟨by first | rfl | go_num,?_⟩⟩
     · exact ((mf HK2.out hx _ _ _ _).setCell (p:=⟨X,4,none⟩) hx _).setCell (p:=⟨X,5,none⟩) hx _
     · have hne:X≠X+1:=by omega
       exact (((((HR2.out.other hne _).other hne _).other hne _).other hne _).other hne _).other hne _
     · exact (((((HX2.out.set0 _).set1 _).set2 _).set3 _).set4 _).set5 _
    case measure=>simp [intOf]
  · have HX1:=ar hbx;have c0:=hbx.all;have r0:=hbr.all;clear hk hbr hbx;go_wp2;refine bodyPost_ret (v:=.agg #[.string (lg++t),iT sf,.slice d0 m0 e0,.slice d1 m1 e1,.slice d2 m2 e2,iT sd]) ?_ rfl ⟨rfl,?_⟩
    · have e:=(((((HR.out.set0 (.string (lg++t))).set1 (iT sf)).set2 (.slice d0 m0 e0)).set3 (.slice d1 m1 e1)).set4 (.slice d2 m2 e2)).set5 (iT sd);simp [results,Tryz.results87,go_sem,e.all]
    · have hx1:w.heap.size≤X+1:=by have:=HXW.out;omega
      exact ((mf HK.out hx1 _ _ _ _).setCell (p:=⟨X+1,4,none⟩) hx1 _).setCell (p:=⟨X+1,5,none⟩) hx1 _
def Ch (q:Int) (i:Nat) (e:ae):ae:=(e.1,q+1+i,e.2.2)
def cU (q:Int) (K:List ae):List ae:=K.mapIdx (Ch q)
theorem qN {e:ae} (h:K[i]?=some e):cU q (K.take (i+1))=cU q (K.take i)++[Ch q i e]:=by
 have hi:=(List.getElem?_eq_some_iff.1 h).1;unfold cU;rw [List.take_add_one,h];simp only [Option.toList_some];rw [List.mapIdx_concat,List.length_take,Nat.min_eq_left (by omega)]
theorem fW (q:Int) (K:List ae):(cU q K).length=K.length:=by simp [cU]
def jw (q:Int) (K:List ae) (i:Nat):Bool:=match K[i]? with
 | none=>true
 | some e=>decide (e.2.1=0) && cV e.1 (q+1+i) e.2.2.1 e.2.2.2.1 e.2.2.2.2
def bX (q:Int) (K:List ae):Bool:=(List.range K.length).all (jw q K)
theorem ox {n:Nat} (hl:K.length=n) (h:∀j,j<n→jw q K j=true):bX q K=true:=by
 unfold bX;rw [List.all_eq_true];intro j hj;exact h j (by rw [← hl];exact List.mem_range.1 hj)
theorem jW (hi:i<K.length) (h:jw q K i=false):bX q K=false:=by
 unfold bX;rw [List.all_eq_false];exact ⟨i,List.mem_range.2 hi,by rw [h];simp⟩
theorem xZ {e:ae} (h:K[i]?=some e) (h0:¬e.2.1=0):jw q K i=false:=by
 unfold jw;rw [h];simp [h0]
theorem AY {e:ae} (h:K[i]?=some e) (h0:e.2.1=0):jw q K i=cV e.1 (q+1+i) e.2.2.1 e.2.2.2.1 e.2.2.2.2:=by
 unfold jw;rw [h];simp [h0]
theorem oy (h:bX q K=true) {i:Nat} {e:ae} (he:(cU q K)[i]?=some e):cV e.1 e.2.1 e.2.2.1 e.2.2.2.1 e.2.2.2.2=true:=by
 have hi:=(List.getElem?_eq_some_iff.1 he).1;rw [fW] at hi;unfold bX at h;rw [List.all_eq_true] at h;have h1:=h i (List.mem_range.2 hi);have hk:=List.getElem?_eq_getElem hi;unfold jw at h1;rw [hk] at h1;simp only [Bool.and_eq_true] at h1;unfold cU at he;rw [List.getElem?_mapIdx,hk] at he;simp only [Option.map_some,Option.some.injEq] at he;subst he;exact h1.2
def bi (q:Int) (M K:List ae):Bool:=decide (1≤K.length) && (decide (K.length≤12) && (decide (M.length+K.length≤60) && bX q K))
theorem yK {n:Nat} (h:w.ownsRow base 59 5 v n (aG L)) (hl:L.length=n) (hw:∀l ∈ L,dt l):∃a c,v=.slice a n c∧dB w base a n c L:=by
 rcases h.2 with ⟨hv,h0⟩ | ⟨g,cap,cur,hv,_⟩
 · subst hv h0;obtain rfl:=List.length_eq_zero_iff.1 hl;exact ⟨none,0,rfl,dB.none _ _⟩
 · subst hv;exact ⟨_,cap,rfl,dB.some ⟨h,hl,hw⟩⟩
theorem jB (w:World) (s:ByteArray) (Q d:Int) (t:ByteArray) (m:Int):∀j u,[Value.string s,iT Q,iT d,.string t,iT m][j]?=some u→(w.alloc (.cells #[.string s,iT Q,iT d,.string t,iT m] 59)).cell? ((⟨w.heap.size,0,none⟩:Addr).add j)=some u:=by
 intro j u hu;rw [Go.WideShapes.add_plain];match j,hu with
 | 0,hu=>simp at hu;subst hu;simp
 | 1,hu=>simp at hu;subst hu;simp
 | 2,hu=>simp at hu;subst hu;simp
 | 3,hu=>simp at hu;subst hu;simp
 | 4,hu=>simp at hu;subst hu;simp
theorem fd {w w':World} {base e size n:Nat} {v:Value} {xs:List Value} (h:w.ownsRow base e size v n xs) (hb:Bl w w'):w'.ownsRow base e size v n xs:=h.kept (row:=none) ⟨hb.os,hb.tape,hb.output,hb.size,fun k hk _=>hb.block k hk⟩ (by
 cases v.ownBlock with
 | none=>exact .inl rfl
 | some x=>exact .inr (by simp))
def iu (q:Int) (K:List ae) (n:Nat) (w:World) (e:Ending) (w':World):Prop:=∃v ok,e=.returned (.tuple #[v,.bool ok])∧(bX q K=true→(∃g c',v=sL g n c'∧aE w' w.heap.size g n c' (cU q K))∧ok=(decide (1≤n) && decide (n≤12)))∧(bX q K=false→ok=false∧∃a m c' L,v=.slice a m c'∧an w' a m c' L)∧Bl w w'
def iX (q:Int) (K:List ae) (n:Nat) (w:World) (e:Ending) (w':World):Prop:=∃v ok,e=.returned (.tuple #[v,.bool ok])∧(bX q K=true→(∃a c',v=.slice a n c'∧dB w' w.heap.size a n c' (cU q K))∧ok=decide (0<n))∧(bX q K=false→ok=false∧v=nZ)∧Bl w w'
theorem o8 (a:Option Addr) (n c:Nat) (K:List ae) (q:Int) (w:World) (hK:an w a n c K) (hn:n≤1048576) (hq0:0≤q) (hq1:q≤100000) :
 Calls Tryz.prog 52 #[.slice a n c,iT q] w fun e w'=>iX q K n w e w':=by
 have HK:=ar hK;have HKL:Hid (K.length=n):=hK.length;clear hK;obtain ⟨i0,hi,hz0,hz1,hz2⟩:=info_parts Tryz.infoEnt;go_enter Tryz.func52,Tryz.ntmps52
 go_wp2;go_loopw [6,11] (fun vv iv wr=>∃i:Nat,i≤n∧iv=iT i∧wr.ownsRow w.heap.size 59 5 vv i (aG (cU q (K.take i)))∧(∀l ∈ cU q (K.take i),dt l)∧(∀j,j<i→jw q K j=true)∧Bl w wr) (fun _ iv _=>n - (intOf iv).toNat)
 case atStart=>exact ⟨0,Nat.zero_le _,rfl,by simpa [cU,aG] using World.ownsRow_nil _ _ _ _,(by simp [cU]),(fun j hj=>absurd hj (Nat.not_lt_zero _)),Below.refl _ _⟩
 case round =>
  obtain ⟨i,hin,rfl,hv,hw,hst,hb⟩:=hrel;have HV:Hid (wr.ownsRow w.heap.size 59 5 _ i (aG (cU q (K.take i)))):=hv;have HW:Hid (∀l ∈ cU q (K.take i),dt l):=hw;have HST:Hid (∀j,j<i→jw q K j=true):=hst;have HB:Hid (Bl w wr):=hb;have hbz:=hb.size;clear hv hw hst;by_cases hlt:i<n
  · have hltI:(i:Int)<(n:Int):=by omega
    obtain ⟨b,off,rfl,hbb⟩:=HK.out.form (by omega);obtain ⟨s,q0,d,t,m,hg,hlw,g0,g1,g2,g3,g4⟩:=HK.out.ent hb hbb i hlt;have HG:Hid (K[i]?=some (s,q0,d,t,m)):=hg;have HLW:Hid (dt (s,q0,d,t,m)):=hlw;have hbr:b<wr.heap.size:=Nat.lt_of_lt_of_le hbb hb.size;clear hg hlw hb;by_cases h0:q0=0
    · subst h0;have e1:IntKind.i64.wrap (q+1)=q+1:=by rw [IntWalk.i64_left];unfold wrap64;omega
      have e2:IntKind.i64.wrap (q+1+(i:Int))=q+1+(i:Int):=by rw [IntWalk.i64_left];unfold wrap64;omega
      obtain ⟨Q,hQ⟩:∃Q:Int,Q=q+1+(i:Int):=⟨_,rfl⟩;have HQ:Hid (Q=q+1+(i:Int)):=hQ;obtain ⟨wq,hwq⟩:=aw (wr.alloc (.cells #[.string s,iT (q+1+(i:Int)),iT d,.string t,iT m] 59));obtain ⟨Bx,hBx⟩:=aw wr.heap.size;have kq:Bl wr wq:=by rw [hwq];exact bZ
      have b5:wq.cell? ⟨Bx,0,none⟩=some (.string s)∧wq.cell? ⟨Bx,1,none⟩=some (iT Q)∧wq.cell? ⟨Bx,2,none⟩=some (iT d)∧wq.cell? ⟨Bx,3,none⟩=some (.string t)∧wq.cell? ⟨Bx,4,none⟩=some (iT m)∧Bx<wq.heap.size:=by
       rw [hwq,hBx,hQ];refine ⟨?_,?_,?_,?_,?_,?_⟩ <;> simp
      have B5:Hid (wq.cell? ⟨Bx,0,none⟩=some (.string s)∧wq.cell? ⟨Bx,1,none⟩=some (iT Q)∧wq.cell? ⟨Bx,2,none⟩=some (iT d)∧wq.cell? ⟨Bx,3,none⟩=some (.string t)∧wq.cell? ⟨Bx,4,none⟩=some (iT m)∧Bx<wq.heap.size):=b5;obtain ⟨O,hO⟩:=aw (cV s Q d t m);have CE:Hid (Calls Tryz.prog 91 #[.agg #[.string s,iT Q,iT d,.string t,iT m]] wq fun e w'=>e=.returned (.bool O)∧Bl wq w'):=by rw [hO];exact kC s t Q d m wq HLW.out.1
      have HOA:Hid (jw q K i=O):=by
       show jw q K i=O
       rw [AY HG.out rfl,hO,hQ]
      have HBQ:Hid (Bl w wq):=HB.out.trans (kq.mono HB.out.size);have HVQ:Hid (wq.ownsRow w.heap.size 59 5 _ i (aG (cU q (K.take i)))):=fd HV.out kq;have HWE:Hid (dt (s,Q,d,t,m)):=⟨HLW.out.1,(by rw [hQ];exact WalkArith.wf_i64 (by omega):(Lit.int .i64 Q).wf=true),HLW.out.2.2⟩;clear kq b5 hO;go_upto_region 8 with fail
      rw [← hwq];try rw [← hBx]
      try rw [← hQ]
      clear hwq hBx hQ;obtain ⟨y0,y1,y2,y3,y4,yz⟩:=B5.out;go_wp2_with fail
      clear y0 y1 y2 y3 y4 yz g0 g1 g2 g3 g4;refine CE.out.mono ?_;rintro e w1 ⟨rfl,hb1⟩;have HB1:Hid (Bl w w1):=HBQ.out.trans (hb1.mono HBQ.out.size);have HV1:Hid (w1.ownsRow w.heap.size 59 5 _ i (aG (cU q (K.take i)))):=fd HVQ.out hb1;obtain ⟨y0,y1,y2,y3,y4,yz⟩:=B5.out;have y0:=cell_later hb1 y0;have y1:=cell_later hb1 y1;have y2:=cell_later hb1 y2;have y3:=cell_later hb1 y3;have y4:=cell_later hb1 y4;have yz:=Nat.lt_of_lt_of_le yz hb1.size;have hb1z:=HB1.out.size;clear hb1;cases O with
      | false =>
       have HNO:Hid (bX q K=false):=jW (i:=i) (by rw [HKL.out];exact hlt) HOA.out;go_wp2;exact bodyPost_ret (v:=.tuple #[nZ,.bool false]) (by simp [results,Tryz.results52,go_sem]) rfl (show iX q K _ w _ _ from ⟨_,_,rfl,(fun h=>by rw [HNO.out] at h;cases h),fun _=>⟨rfl,rfl⟩,HB1.out⟩)
      | true =>
       have hcn:∀j u,[Value.string s,iT Q,iT d,.string t,iT m][j]?=some u→(w1.alloc (.cells #[.string s,iT Q,iT d,.string t,iT m] 59)).cell? ((⟨w1.heap.size,0,none⟩:Addr).add j)=some u:=jB w1 s Q d t m;have HCN:=ar hcn;have ka:Bl w1 (w1.alloc (.cells #[.string s,iT Q,iT d,.string t,iT m] 59)):=bZ;have HVA:Hid ((w1.alloc (.cells #[.string s,iT Q,iT d,.string t,iT m] 59)).ownsRow w.heap.size 59 5 _ i (aG (cU q (K.take i)))):=fd HV1.out ka;have HBA:Hid (Bl w (w1.alloc (.cells #[.string s,iT Q,iT d,.string t,iT m] 59))):=HB1.out.trans (ka.mono HB1.out.size);clear hcn ka;go_wp2_with (at_builtin;refine wpList_append_own _ rfl _ _ 33 rfl w.heap.size 59 i0 _ 5 56 Tryz.underlying33 hi hz0 hz1 hz2 rfl (by decide) _ _ _ rfl HVA.out ⟨w1.heap.size,0,none⟩ 1 1 [.string s,iT Q,iT d,.string t,iT m] rfl rfl HCN.out (by intro u hu;simp at hu;rcases hu with rfl | rfl | rfl | rfl | rfl <;> rfl) (by unfold maxLen;omega) (by omega) HBA.out.size ?_;intro v2 w2 hown2 hgrow2 hnil2)
       go_roundw
       case rel =>
        have e3:cU q (K.take (i+1))=cU q (K.take i)++[(s,Q,d,t,m)]:=by
         rw [qN HG.out,HQ.out];rfl
        refine ⟨i+1,by omega,by go_num,?_,?_,?_,?_⟩
        · rw [e3,bE];exact hown2
        · rw [e3];intro l hl;rcases List.mem_append.1 hl with h | h
          · exact HW.out l h
          · rw [List.mem_singleton] at h;subst h;exact HWE.out
        · intro j hj;by_cases hji:j<i
          · exact HST.out j hji
          · rw [show j=i by omega];exact HOA.out
        · exact HBA.out.grown hgrow2 HBA.out.size (fun k e=>(HVA.out.lt k e).1)
       case measure=>simp [intOf];omega
    · have HNO:Hid (bX q K=false):=jW (i:=i) (by rw [HKL.out];exact hlt) (xZ HG.out h0);have h0b:(q0 == 0)=false:=by simpa using h0
      have h0d:decide (q0=0)=false:=decide_eq_false h0;have HBN:Hid (Bl w (wr.alloc (.cells #[.string s,iT q0,iT d,.string t,iT m] 59))):=HB.out.alloc HB.out.size _;go_wp2;exact bodyPost_ret (v:=.tuple #[nZ,.bool false]) (by simp [results,Tryz.results52,go_sem]) rfl (show iX q K _ w _ _ from ⟨_,_,rfl,(fun h=>by rw [HNO.out] at h;cases h),fun _=>⟨rfl,rfl⟩,HBN.out⟩)
  · have hltI:¬(i:Int)<(n:Int):=by omega
    obtain rfl:i=n:=by omega
    have HYES:Hid (bX q K=true):=ox HKL.out HST.out;have HFIN:=HV.out;rw [List.take_of_length_le (by rw [HKL.out];omega)] at HFIN;have hwl:=HW.out;rw [List.take_of_length_le (by rw [HKL.out];omega)] at hwl;have hsl:(cU q K).length=i:=by rw [fW,HKL.out]
    obtain ⟨a5,c5,hv5,hO5⟩:=yK HFIN hsl hwl;subst hv5;have HRES:Hid (dB wr w.heap.size a5 i c5 (cU q K)):=hO5;clear HFIN hwl hsl hO5;by_cases h1:0<i
    · have h1I:(i:Int) > 0:=by omega
      have h1J:(0:Int)<(i:Int):=by omega
      go_wp2;exact bodyPost_ret (v:=.tuple #[.slice a5 i c5,.bool true]) (by simp [results,Tryz.results52,go_sem]) rfl (show iX q K _ w _ _ from ⟨_,_,rfl,(fun _=>⟨⟨a5,c5,rfl,HRES.out⟩,by simp [h1]⟩),(fun h=>by rw [HYES.out] at h;cases h),HB.out⟩)
    · have h1I:¬(i:Int) > 0:=by omega
      have h1J:¬(0:Int)<(i:Int):=by omega
      go_wp2;exact bodyPost_ret (v:=.tuple #[.slice a5 i c5,.bool false]) (by simp [results,Tryz.results52,go_sem]) rfl (show iX q K _ w _ _ from ⟨_,_,rfl,(fun _=>⟨⟨a5,c5,rfl,HRES.out⟩,by simp [h1]⟩),(fun h=>by rw [HYES.out] at h;cases h),HB.out⟩)
theorem jG (w:World) (g o:Nat) (u:Value):aI g (g+1) w (w.setCell ⟨g,o,none⟩ u):=⟨rfl,rfl,rfl,by simp [World.setCell],fun q _ hq=>Below.heap_setCell _ _ _ _ (fun e=>by have e':q=g:=e;omega)⟩
structure xv (w:World) (am:Option Addr) (nm cm:Nat) (a0:Option Addr) (n0 c0:Nat) (a1:Option Addr) (n1 c1:Nat) (a2:Option Addr) (n2 c2:Nat) (ak:Option Addr) (nk ck:Nat) (M:List ae) (A B C:List aq) (S:List Int):Prop where
 mem:an w am nm cm M
 r0:aF 0 w a0 n0 c0 A
 r1:aF 0 w a1 n1 c1 B
 r2:aF 0 w a2 n2 c2 C
 sn:bC 0 w ak nk ck S
theorem xv.keep {am a0 a1 a2 ak:Option Addr} {nm cm n0 c0 n1 c1 n2 c2 nk ck:Nat} {A B C:List aq} {S:List Int} (h:xv w am nm cm a0 n0 c0 a1 n1 c1 a2 n2 c2 ak nk ck M A B C S) (hb:Bl w w'):xv w' am nm cm a0 n0 c0 a1 n1 c1 a2 n2 c2 ak nk ck M A B C S:=⟨h.mem.keep hb,h.r0.keep hb,h.r1.keep hb,h.r2.keep hb,h.sn.keep hb⟩
def Ca (w:World) (e:Ending) (w':World):Prop :=
 ∃q2 am2 nm2 cm2 a02 n02 c02 a12 n12 c12 a22 n22 c22 ak2 nk2 ck2,e=.returned (.tuple #[.agg #[iT q2,.slice am2 nm2 cm2,.slice a02 n02 c02,.slice a12 n12 c12,.slice a22 n22 c22,.slice ak2 nk2 ck2],.bool false])∧Bl w w'
theorem jO {k t:ByteArray} {d n:Int} (h:cV k q d t n=true):k.size≤281474976710656∧t.size≤281474976710656:=by
 simp [cV,d6] at h;omega
theorem ra (h:bz L=true):∀e ∈ L,e.1.size≤281474976710656∧e.2.2.2.1.size≤281474976710656:=fun e he=>by
 obtain ⟨j,hj,rfl⟩:=List.getElem_of_mem he
 exact jO (oO h (List.getElem?_eq_getElem hj))
def BA (q:Int) (a0:Option Addr) (n0 c0:Nat) (a1:Option Addr) (n1 c1:Nat) (a2:Option Addr) (n2 c2:Nat) (ak:Option Addr) (nk ck:Nat) (M K:List ae) (w:World) (e:Ending) (w':World):Prop :=
 (bi q M K=true→∃g n,e=.returned (.tuple #[.agg #[iT (q+K.length),sL g n n,.slice a0 n0 c0,.slice a1 n1 c1,.slice a2 n2 c2,.slice ak nk ck],.bool true])∧aE w' w.heap.size g n n (bg (M++cU q K))∧Bl w w')∧(bi q M K=false→Ca w e w')
theorem mJ {n:Nat} {e:Ending} (h:iX q K n w e w') (hl:K.length=n):∃a5 n5 c5 L5 ok,e=.returned (.tuple #[.slice a5 n5 c5,.bool ok])∧dB w' w.heap.size a5 n5 c5 L5∧n5≤n∧fj L5∧(ok=true→n5=n∧L5=cU q K∧bX q K=true∧0<n)∧(ok=false→bX q K=false∨n=0)∧Bl w w':=by
 obtain ⟨v,ok,he,h1,h2,h3⟩:=h;cases hs:bX q K with
 | true =>
  obtain ⟨⟨a,c,rfl,h4⟩,rfl⟩:=h1 hs;refine ⟨a,n,c,_,_,he,h4,Nat.le_refl _,fun x hx=>?_,fun h=>⟨rfl,rfl,rfl,of_decide_eq_true h⟩,fun h=>.inr ?_,h3⟩
  · obtain ⟨j,hj,rfl⟩:=List.getElem_of_mem hx;exact jO (oy hs (List.getElem?_eq_getElem hj))
  · have:=of_decide_eq_false h;omega
 | false =>
  obtain ⟨rfl,rfl⟩:=h2 hs;exact ⟨none,0,0,[],false,he,dB.none _ _,Nat.zero_le _,(fun x hx=>by cases hx),(fun h=>by cases h),fun _=>.inl rfl,h3⟩
theorem vP (q:Int) (am:Option Addr) (nm cm:Nat) (a0:Option Addr) (n0 c0:Nat) (a1:Option Addr) (n1 c1:Nat) (a2:Option Addr) (n2 c2:Nat) (ak:Option Addr) (nk ck:Nat) (M:List ae) (A B C:List aq) (S:List Int) (ab:Option Addr) (nb cb:Nat) (K:List ae) (w:World) (hSh:xv w am nm cm a0 n0 c0 a1 n1 c1 a2 n2 c2 ak nk ck M A B C S) (hK:an w ab nb cb K) (hnb:nb≤1048576) (hnm:nm≤1048576) (hM:fj M) (hq0:0≤q) (hq1:q≤100000) :
 Calls Tryz.prog 51 #[.agg #[iT q,.slice am nm cm,.slice a0 n0 c0,.slice a1 n1 c1,.slice a2 n2 c2,.slice ak nk ck],.slice ab nb cb] w (BA q a0 n0 c0 a1 n1 c1 a2 n2 c2 ak nk ck M K w):=by
 obtain ⟨X,hX⟩:=aw w.heap.size;obtain ⟨W,hW⟩:=aw ((w.alloc (.cells #[iT q,.slice am nm cm,.slice a0 n0 c0,.slice a1 n1 c1,.slice a2 n2 c2,.slice ak nk ck] 86)).alloc (.cells #[iT 0,nZ,nZ,nZ,nZ,nZ] 86));have kW:Bl w W:=by rw [hW];exact bZ.alloc (by simp) _
 have bx:aR W X (iT q) (.slice am nm cm) (.slice a0 n0 c0) (.slice a1 n1 c1) (.slice a2 n2 c2) (.slice ak nk ck):=by rw [hW,hX];exact (aR.new _ _ _ _ _ _ _ _).alloc _
 have br:aR W (X+1) (iT 0) nZ nZ nZ nZ nZ:=by
  have:=aR.new (w.alloc (.cells #[iT q,.slice am nm cm,.slice a0 n0 c0,.slice a1 n1 c1,.slice a2 n2 c2,.slice ak nk ck] 86)) 86 (iT 0) nZ nZ nZ nZ nZ;rw [World.size_alloc] at this;rw [hW,hX];exact this
 have HX:Hid (X=w.heap.size):=hX;have HSZ:Hid (W.heap.size=X+1+1):=by show _=_;rw [hW,hX];simp
 have K0:Hid (Bl w W):=kW;have HSH:=ar hSh;have HKL:Hid (K.length=nb):=hK.length;have HML:Hid (M.length=nm):=hSh.mem.length;have HSM:=ar hM;have CT:Hid (Calls Tryz.prog 52 #[.slice ab nb cb,iT q] W (iX q K nb W)):=o8 ab nb cb K q W (hK.keep kW) hnb hq0 hq1;have HR:Hid (aR W (X+1) (iT 0) nZ nZ nZ nZ nZ):=br;clear kW hSh hK hM br;have e1:IntKind.i64.wrap ((nm:Int)+(nb:Int))=(nm:Int)+(nb:Int):=by rw [IntWalk.i64_left];unfold wrap64;omega
 go_enter Tryz.func51,Tryz.ntmps51
 go_upto_region 1 with fail
 rw [← hX,← hW];clear hX hW;have x0:=bx.all;have r0:=HR.out.all;by_cases h12:12<nb
 · have h12I:(nb:Int) > 12:=by omega
   have h12J:(12:Int)<(nb:Int):=by omega
   have HNO:Hid (bi q M K=false):=by show _=_;have:=HKL.out;unfold bi;rw [this];simp [show ¬nb≤12 by omega]
   go_wp2;refine bodyPost_ret (v:=.tuple #[.agg #[iT q,.slice am nm cm,.slice a0 n0 c0,.slice a1 n1 c1,.slice a2 n2 c2,.slice ak nk ck],.bool false]) ?_ rfl (show BA q a0 n0 c0 a1 n1 c1 a2 n2 c2 ak nk ck M K w _ _ from ⟨(fun h=>by rw [HNO.out] at h;cases h),fun _=>⟨_,_,_,_,_,_,_,_,_,_,_,_,_,_,_,_,rfl,?_⟩⟩)
   · have e:=((((((HR.out.set0 (iT q)).set1 (.slice am nm cm)).set2 (.slice a0 n0 c0)).set3 (.slice a1 n1 c1)).set4 (.slice a2 n2 c2)).set5 (.slice ak nk ck));simp [results,Tryz.results51,go_sem,e.all]
   · have hx:w.heap.size≤X+1:=by have:=HX.out;omega
     exact (((mf K0.out hx _ _ _ _).setCell (p:=⟨X+1,4,none⟩) hx _).setCell (p:=⟨X+1,5,none⟩) hx _)
 have h12I:¬(nb:Int) > 12:=by omega
 have h12J:¬(12:Int)<(nb:Int):=by omega
 by_cases h60:60<nm+nb
 · have h60I:(nm:Int)+(nb:Int) > 60:=by omega
   have h60J:(60:Int)<(nm:Int)+(nb:Int):=by omega
   have HNO:Hid (bi q M K=false):=by show _=_;have:=HKL.out;have:=HML.out;unfold bi;simp [show ¬M.length+K.length≤60 by omega]
   go_wp2;refine bodyPost_ret (v:=.tuple #[.agg #[iT q,.slice am nm cm,.slice a0 n0 c0,.slice a1 n1 c1,.slice a2 n2 c2,.slice ak nk ck],.bool false]) ?_ rfl (show BA q a0 n0 c0 a1 n1 c1 a2 n2 c2 ak nk ck M K w _ _ from ⟨(fun h=>by rw [HNO.out] at h;cases h),fun _=>⟨_,_,_,_,_,_,_,_,_,_,_,_,_,_,_,_,rfl,?_⟩⟩)
   · have e:=((((((HR.out.set0 (iT q)).set1 (.slice am nm cm)).set2 (.slice a0 n0 c0)).set3 (.slice a1 n1 c1)).set4 (.slice a2 n2 c2)).set5 (.slice ak nk ck));simp [results,Tryz.results51,go_sem,e.all]
   · have hx:w.heap.size≤X+1:=by have:=HX.out;omega
     exact (((mf K0.out hx _ _ _ _).setCell (p:=⟨X+1,4,none⟩) hx _).setCell (p:=⟨X+1,5,none⟩) hx _)
 have h60I:¬(nm:Int)+(nb:Int) > 60:=by omega
 have h60J:¬(60:Int)<(nm:Int)+(nb:Int):=by omega
 clear r0;go_wp2_with fail
 clear x0;refine CT.out.mono ?_;rintro e w1 hst;obtain ⟨a5,n5,c5,L5,ok,rfl,hO1,hn5,hs5,hy5,hno5,hb1⟩:=mJ hst HKL.out;have K1:Hid (Bl W w1):=hb1;have HO1:Hid (dB w1 W.heap.size a5 n5 c5 L5):=hO1;have HS5:Hid (fj L5):=hs5;have HY5:Hid (ok=true→n5=nb∧L5=cU q K∧bX q K=true∧0<nb):=hy5;have HN5:Hid (ok=false→bX q K=false∨nb=0):=hno5;have bx1:=bx.keep hb1;have BR1:Hid (aR w1 (X+1) (iT 0) nZ nZ nZ nZ nZ):=HR.out.keep hb1;clear hst hO1 hs5 hy5 hno5 hb1 bx HR CT;have e2:IntKind.i64.wrap (q+(n5:Int))=q+(n5:Int):=by rw [IntWalk.i64_left];unfold wrap64;omega
 have x0:=bx1.all;obtain ⟨w2,hw2⟩:=aw (w1.setCell ⟨X,0,none⟩ (iT (q+(n5:Int))));go_upto_region 5 with fail
 rw [← hw2];have hx:=HX.out;have hs:=HSZ.out;have bx2:aR w2 X (iT (q+(n5:Int))) (.slice am nm cm) (.slice a0 n0 c0) (.slice a1 n1 c1) (.slice a2 n2 c2) (.slice ak nk ck):=by rw [hw2];exact bx1.set0 _
 have BR2:Hid (aR w2 (X+1) (iT 0) nZ nZ nZ nZ nZ):=by rw [hw2];exact BR1.out.other (by omega) _
 have kk2:aI w.heap.size W.heap.size w1 w2:=by rw [hw2];exact (jG _ X 0 _).mono (by omega) (by omega)
 have K2:Hid (Bl w w2):=by rw [hw2];exact (K0.out.trans (K1.out.mono K0.out.size)).setCell (p:=⟨X,0,none⟩) (by show _≤X;omega) _
 have HO2:Hid (dB w2 W.heap.size a5 n5 c5 L5):=⟨HO1.out.nil,fun x e=>by
  obtain ⟨g,rfl,h2⟩:=HO1.out.own x e;exact ⟨g,rfl,kk2.own h2 (.inr h2.lt.1)⟩⟩
 have HW2:Hid (W.heap.size≤w2.heap.size):=Nat.le_trans K1.out.size kk2.size;clear hw2 x0 bx1 BR1 kk2 HO1 K1 hx hs;obtain ⟨W3,hW3⟩:=aw (w2.alloc (.cells #[.slice am nm cm,.slice a5 n5 c5] 33));have k3:Bl w2 W3:=by rw [hW3];exact bZ
 have hP:cI W3 (some ⟨w2.heap.size,0,none⟩) 2 2 [M,L5]:=by
  have hc:∀j u,[Value.slice am nm cm,Value.slice a5 n5 c5][j]?=some u→W3.cell? ⟨w2.heap.size,j,none⟩=some u:=by
   intro j u hj;rw [hW3];match j,hj with
   | 0,hj=>simp at hj;subst hj;simp
   | 1,hj=>simp at hj;subst hj;simp
  refine ⟨rfl,Nat.le_refl _,by unfold maxLen;omega,(fun e=>by cases e),(fun x e _=>by cases e;exact ⟨World.block_lt_of_cell? _ _ (hc 0 _ rfl),rfl⟩),?_⟩;rintro x e i hi;cases e;match i,hi with
  | 0,_=>exact ⟨am,nm,cm,by simpa using hc 0 _ rfl,((HSH.out.keep K2.out).keep k3).mem⟩
  | 1,_=>exact ⟨a5,n5,c5,by simpa using hc 1 _ rfl,(HO2.out.below k3).entsAt⟩
 have hfl:[M,L5].flatten=M++L5:=by simp
 have hln:(M++L5).length=nm+n5:=by rw [List.length_append,HML.out,HO2.out.len]
 have CM:Hid (Calls Tryz.prog 90 #[sL (w2.heap.size) 2 2] W3 fun e w'=>∃g,e=.returned (sL g (nm+n5) (nm+n5))∧aE w' W3.heap.size g (nm+n5) (nm+n5) (bg (M++L5))∧Bl W3 w'):=by
  have h:=callsIn_wide.1 (pd _ _ _ [M,L5] W3 hP (by omega) (by rw [hfl,hln];omega) (by
   intro e he;rw [hfl] at he;rcases List.mem_append.1 he with h | h
   · exact HSM.out e h
   · exact HS5.out e h))
  refine h.mono ?_;rintro e w' ⟨⟨g,h1,h2⟩,h3⟩;rw [hfl,hln] at h1 h2;exact ⟨g,h1,h2,h3⟩
 have K3:Hid (Bl w2 W3):=k3;clear k3 hP hfl hln;have x0:=bx2.all;go_wp2_with fail
 rw [← hW3];clear hW3 x0;refine CM.out.mono ?_;rintro e w4 ⟨g,rfl,hO4,hb4⟩;have hk4:Bl w2 w4:=K3.out.trans (hb4.mono K3.out.size);have K4:Hid (Bl w w4):=K2.out.trans (hk4.mono K2.out.size);have HO4:Hid (aE w4 W.heap.size g (nm+n5) (nm+n5) (bg (M++L5))):=hO4.mono (Nat.le_trans HW2.out K3.out.size);have bx4:=bx2.keep hk4;have BR4:Hid (aR w4 (X+1) (iT 0) nZ nZ nZ nZ nZ):=BR2.out.keep hk4;clear hO4 hb4 hk4 bx2 BR2 CM HO2 K3;obtain ⟨w5,hw5⟩:=aw (w4.setCell ⟨X,1,none⟩ (sL g (nm+n5) (nm+n5)));have hx:=HX.out;have hs:=HSZ.out;have bx5:aR w5 X (iT (q+(n5:Int))) (sL g (nm+n5) (nm+n5)) (.slice a0 n0 c0) (.slice a1 n1 c1) (.slice a2 n2 c2) (.slice ak nk ck):=by rw [hw5];exact bx4.set1 _
 have BR5:Hid (aR w5 (X+1) (iT 0) nZ nZ nZ nZ nZ):=by rw [hw5];exact BR4.out.other (by omega) _
 have K5:Hid (Bl w w5):=by rw [hw5];exact K4.out.setCell (p:=⟨X,1,none⟩) (by show _≤X;omega) _
 have HO5:Hid (aE w5 W.heap.size g (nm+n5) (nm+n5) (bg (M++L5))):=by
  have k:aI w.heap.size W.heap.size w4 w5:=by rw [hw5];exact (jG _ X 1 _).mono (by omega) (by omega)
  exact k.own HO4.out (.inr HO4.out.lt.1)
 clear hx hs;have x0:=bx4.all;go_upto_region 6 with fail
 rw [← hw5];clear hw5 x0 bx4 HO4 K4 BR4;have x0:=bx5.all;have r0:=BR5.out.all;go_wp2;have hx:w.heap.size≤X+1:=by have:=HX.out;omega
 have hs:=HSZ.out;have hx0:=HX.out;refine bodyPost_ret (v:=.tuple #[.agg #[iT (q+(n5:Int)),sL g (nm+n5) (nm+n5),.slice a0 n0 c0,.slice a1 n1 c1,.slice a2 n2 c2,.slice ak nk ck],.bool ok]) ?_ rfl (show BA q a0 n0 c0 a1 n1 c1 a2 n2 c2 ak nk ck M K w _ _ from ?_)
 · have e:=((((((BR5.out.set0 (iT (q+(n5:Int)))).set1 (sL g (nm+n5) (nm+n5))).set2 (.slice a0 n0 c0)).set3 (.slice a1 n1 c1)).set4 (.slice a2 n2 c2)).set5 (.slice ak nk ck));simp [results,Tryz.results51,go_sem,e.all]
 · cases ok with
   | true =>
    obtain ⟨rfl,rfl,hsB,hpos⟩:=HY5.out rfl;have hkl:=HKL.out;have hml:=HML.out;refine ⟨fun _=>?_,fun h=>absurd h ?_⟩
    · rw [hkl];refine ⟨_,_,rfl,?_,(((mf K5.out hx _ _ _ _).setCell (p:=⟨X+1,4,none⟩) hx _).setCell (p:=⟨X+1,5,none⟩) hx _)⟩;have k6:∀(w':World) (o:Nat) (u:Value),aE w' W.heap.size g (nm+n5) (nm+n5) (bg (M++cU q K))→aE (w'.setCell ⟨X+1,o,none⟩ u) W.heap.size g (nm+n5) (nm+n5) (bg (M++cU q K)):=fun w' o u h=>((jG w' (X+1) o u).mono (lo':=w.heap.size) (hi':=W.heap.size) (by omega) (by omega)).own h (.inr h.lt.1)
      exact (k6 _ _ _ (k6 _ _ _ (k6 _ _ _ (k6 _ _ _ (k6 _ _ _ (k6 _ _ _ HO5.out)))))).mono (by omega)
    · unfold bi;rw [hkl,hml,hsB];simp;omega
   | false =>
    have hno:=HN5.out rfl;have hkl:=HKL.out;refine ⟨fun h=>absurd h ?_,fun _=>⟨_,_,_,_,_,_,_,_,_,_,_,_,_,_,_,_,rfl,(((mf K5.out hx _ _ _ _).setCell (p:=⟨X+1,4,none⟩) hx _).setCell (p:=⟨X+1,5,none⟩) hx _)⟩⟩;unfold bi;rw [hkl];rcases hno with h | h
    · rw [h];simp
    · simp [h]
def dl (up:Bool) (q:Int) (M K:List ae) (lg:ByteArray):Bool:=up && (bi q M K && decide ((lg++aW (cU q K)).size≤12000))
theorem se:dl false q M K lg=false:=rfl
theorem sa (h:bi q M K=false):dl up q M K lg=false:=by unfold dl;rw [h];cases up <;> rfl
theorem sc (h:¬(lg++aW (cU q K)).size≤12000):dl up q M K lg=false:=by unfold dl;rw [decide_eq_false h];cases up <;> simp
theorem pr (h:bi q M K=true) (h2:(lg++aW (cU q K)).size≤12000):dl true q M K lg=true:=by unfold dl;rw [h,decide_eq_true h2];rfl
theorem lX (h:dl up q M K lg=true):up=true∧bi q M K=true∧(lg++aW (cU q K)).size≤12000:=by
 unfold dl at h;simp only [Bool.and_eq_true,decide_eq_true_eq] at h;exact h
theorem lT (L:List ae):(aW L).size≤4000:=by
 cases h:bG L with
 | false=>rw [ly h];decide
 | true =>
  have h1:=gD L (cO h).2.2;have h2:=(cO h).2.1;have h3:=Lib.itoa_length_le ((aT L).length:Int) (by omega) (by omega);rw [jN h];show (List.toArray _).size≤4000
  simp;omega
theorem lF (h:bi q M K=true):bX q K=true∧1≤K.length∧K.length≤12:=by
 unfold bi at h;simp only [Bool.and_eq_true,decide_eq_true_eq] at h;exact ⟨h.2.2.2,h.1,h.2.1⟩
end Go.Proofs.YtehiefdphnljaaaGreatDoor
