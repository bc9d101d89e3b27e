/-
  What the program's RunOf answers at every list of entries, wherever it begins in its block, by a walk of its Go text.
-/
import Derived.Test.YtlmgojlffgkciaaGreatTc15
import Derived.Test.YtlmgojlffgkciaaGreatTc06
import Derived.Test.YtlmgojlffgkciaaGreatTc00
import Derived.Test.YtlmgojlffgkciaaGreatTc01
namespace Go.Proofs.YtlmgojlffgkciaaGreat
open Go.RowKit
set_option maxRecDepth 100000
set_option maxHeartbeats 4000000
theorem kU {w:World} {b off n c:Nat} {L:List ac} (h:af w (some ⟨b,off,none⟩) n c L):∀j u,(aI L)[j]?=some u→w.cell? ((⟨b,off,none⟩:Addr).add j)=some u:=by
 intro j u hj;have hlt:j<(aI L).length:=(List.getElem?_eq_some_iff.1 hj).1;rw [aZ] at hlt;have hi:j / 5<L.length:=by omega
 obtain ⟨c0,c1,c2,c3,c4⟩:=h.cells _ rfl (j / 5) hi;obtain ⟨r0,r1,r2,r3,r4⟩:=fy L (j / 5) L[j / 5] (List.getElem?_eq_getElem hi);rw [Go.WideShapes.add_plain];simp only [Nat.add_assoc] at c0 c1 c2 c3 c4;have:j=j / 5*5∨j=j / 5*5+1∨j=j / 5*5+2∨j=j / 5*5+3∨j=j / 5*5+4:=by omega
 rcases this with e | e | e | e | e
 · rw [← e] at r0 c0;rw [r0] at hj;cases hj;exact c0
 · rw [← e] at r1 c1;rw [r1] at hj;cases hj;exact c1
 · rw [← e] at r2 c2;rw [r2] at hj;cases hj;exact c2
 · rw [← e] at r3 c3;rw [r3] at hj;cases hj;exact c3
 · rw [← e] at r4 c4;rw [r4] at hj;cases hj;exact c4
theorem yp (b off n c:Nat) (L:List ac) (w:World) (hL:af w (some ⟨b,off,none⟩) n c L) (hn:n≤1048576) :
 Calls Tryz.prog 89 #[sO b off n c] w fun e w'=>∃g c',e=.returned (sL g n c')∧aE w' w.heap.size g n c' L∧Bl w w':=by
 obtain ⟨i0,hi,hz0,hz1,hz2⟩:=info_parts Tryz.infoEnt;have h:=AnyE.slices_Clone Tryz.cloneL i0 _ 5 56 hi hz0 hz1 hz2 rfl (by decide) Tryz.sizeOf78 b off n c (aI L) w (by rw [aZ,hL.length]) (by unfold maxLen;omega) (by omega) (fun j u hu=>by have:=kU hL j u hu;rwa [WideShapes.add_plain] at this) (bj _);have h':Calls Tryz.prog 89 #[sO b off n c] w fun e w'=>∃v',e=.returned v'∧w'.ownsRow w.heap.size 78 5 v' n (aI L)∧v'≠nZ∧Bl w w':=h
 refine h'.mono ?_;rintro e w' ⟨v',rfl,ho,hne,hb⟩;obtain ⟨g,c',rfl⟩:∃g cap,v'=sL g n cap:=by
  rcases ho.2 with ⟨hv,h0⟩ | ⟨g,cap,cur,hv,_⟩
  · exact absurd hv hne
  · exact ⟨g,cap,hv⟩
 exact ⟨g,c',rfl,⟨ho,hL.length,hL.ents⟩,hb⟩
theorem oU (b off len cap:Nat) (L:List ac) (w:World) (hL:af w (some ⟨b,off,none⟩) len cap L) :
 Calls Tryz.prog 98 #[sO b off len cap] w (BZ (zl L) (zj L) (pD L) w):=by
 have HLEN:Hid (L.length=len):=hL.length;have hbl:=hL.room;have hbc:=hL.big;unfold maxLen at hbc;have kA:Bl w (w.alloc (.cells #[nZ,iT 0] 102)):=bZ;by_cases h2:150<len
 · have h2':(150:Int)<(len:Int):=by omega
   go_enter Tryz.func98,Tryz.ntmps98
   go_wp2;refine bodyPost_ret (v:=.tuple #[.agg #[nZ,iT 0],.bool false]) (by simp [results,Tryz.results98,go_sem]) rfl ?_;exact Ba (by have:=HLEN.out;simp only [pD,decide_eq_false (show ¬L.length≤150 by omega),Bool.false_and,Bool.and_false]) kA
 have h2':¬(150:Int)<(len:Int):=by omega
 have HL:=bc hL;clear hL;go_enter Tryz.func98,Tryz.ntmps98
 go_wp2_with fail
 refine (yp b off len cap L _ (HL.out.keep kA) (by omega)).mono ?_;rintro e w1 ⟨g,c,rfl,hO1,hb1⟩;obtain ⟨X,hX⟩:=ay w.heap.size;have HXw:Hid (w.heap.size≤X):=by rw [hX];exact Nat.le_refl _
 have x1:w1.cell? ⟨X,0,none⟩=some nZ:=cell_later hb1 (by rw [hX];simp);have y1:w1.cell? ⟨X,1,none⟩=some (iT 0):=cell_later hb1 (by rw [hX];simp);have f1:∀o,w1.frozen? ⟨X,o,none⟩=false:=fun o=>(hb1.frozen (p:=⟨X,o,none⟩) (by rw [hX];simp)).trans (by rw [hX];simp)
 have hgX:X<g:=by have:=hO1.lt.1;simp at this;omega
 have HO1:Hid (aE w1 w.heap.size g len c L):=hO1.mono (by simp);have HB1:Hid (Bl w w1):=kA.trans (hb1.mono kA.size);have hX1:=World.block_lt_of_cell? _ _ x1;simp only at hX1;have hXg:X≠g:=by omega
 rw [← hX];clear hO1 hb1 kA hX;go_wp2_with fail
 refine (AJ w.heap.size g len c L w1 HO1.out (by omega)).mono ?_;rintro e w2 ⟨rfl,D,hWk,hPm,hE2,hg2⟩;have x2:w2.cell? ⟨X,0,none⟩=some nZ:=(aJ hg2 (x:=⟨X,0,none⟩) hX1 hXg).trans x1;have y2:w2.cell? ⟨X,1,none⟩=some (iT 0):=(aJ hg2 (x:=⟨X,1,none⟩) hX1 hXg).trans y1;have f2:∀o,w2.frozen? ⟨X,o,none⟩=false:=fun o=>by
  have hk:=hg2.block X hX1 (fun e=>hXg (by cases e;rfl));have:=f1 o;simpa [World.frozen?,hk] using this
 have HB2:Hid (Bl w w2):=HB1.out.grown hg2 HB1.out.size (fun k e=>by cases e;exact HO1.out.lt.1);have HS:Hid (az D=az (aQ L)∧(az D=true→D=aQ L)):=sD hWk hPm;have HDL:Hid (D.length=len):=hE2.length;have HE2:Hid (af w2 (pT g) len c D):=hE2;clear hWk hPm hE2 hg2 HO1 HB1 x1 y1 f1 hX1;go_wp2_with fail
 refine (qt _ len c D w2 HE2.out).mono ?_;rintro e w3 ⟨rfl,hb3⟩;obtain ⟨M,hM⟩:∃M:Int,M=((dg D:Nat):Int):=⟨_,rfl⟩;have HM:Hid (M=((dg D:Nat):Int)):=hM;rw [← hM];clear hM;obtain ⟨Y,hY⟩:=ay w3.heap.size;obtain ⟨W,hW⟩:=ay (w3.alloc (.cells #[sL g len c,iT M] 102));have k3:Bl w3 W:=by rw [hW];exact bZ
 have k23:Bl w2 W:=hb3.trans (k3.mono hb3.size);have z0:W.cell? ⟨Y,0,none⟩=some (sL g len c):=by rw [hW,hY];simp
 have z1:W.cell? ⟨Y,1,none⟩=some (iT M):=by rw [hW,hY];simp
 have x3:=cell_later k23 x2;have y3:=cell_later k23 y2;have hX2:=World.block_lt_of_cell? _ _ x2;simp only at hX2;have f3:∀o,W.frozen? ⟨X,o,none⟩=false:=fun o=>(k23.frozen (p:=⟨X,o,none⟩) hX2).trans (f2 o)
 have HXY:Hid (X≠Y):=by have:=hb3.size;unfold Hid;omega
 have HEW:Hid (af W (pT g) len c D):=HE2.out.keep k23;have HBW:Hid (Bl w W):=HB2.out.trans (k23.mono HB2.out.size);have HWW:Hid (W=w3.alloc (.cells #[sL g len c,iT M] 102)):=hW;go_wp2_with fail
 rw [← hY,← hW];clear hb3 k3 k23 x2 y2 f2 hX2 HE2 HB2 hY hW HWW;refine (qq _ len c D M W HEW.out).mono ?_;rintro e w4 ⟨rfl,hb4⟩;have kO:yG w W X Y M:=⟨HBW.out,⟨_,x3⟩,⟨_,y3⟩,f3,z1⟩;have k4:=kO.call hb4;have HE4:Hid (af w4 (pT g) len c D):=HEW.out.keep hb4;obtain ⟨v0,c0⟩:=k4.r0;obtain ⟨v1,c1⟩:=k4.r1;have f40:=k4.fr 0;have f41:=k4.fr 1;have hRB:cW D M=(decide (1≤len) && az D):=by
  have hl:=HDL.out;rw [HM.out];simp [cW,hl,decide_eq_true (show len≤150 by omega)]
 have hOB:pD L=(decide (1≤len) && az D):=by
  have hl:=HLEN.out;rw [HS.out.1];simp [pD,hl,decide_eq_true (show len≤150 by omega)]
 have HOB:Hid (pD L=cW D M):=hOB.trans hRB.symm;have HRB:Hid (cW D M=(decide (1≤len) && az D)):=hRB;clear hRB hOB hb4 kO x3 y3 f3 z0 z1 HEW HBW;cases hr:cW D M with
 | false =>
  have HK4:Hid (yG w w4 X Y M):=k4;clear k4;go_wp2;refine bodyPost_ret (v:=.tuple #[.agg #[nZ,iT 0],.bool false]) (by simp [results,Tryz.results98,go_sem,c0,c1]) rfl ?_;exact Ba (HOB.out.trans hr) (((HK4.out.store 0 _ HXY.out HXw.out).store 1 _ HXY.out HXw.out).all)
 | true =>
  have hRD:az D=true:=by have:=HRB.out;rw [hr] at this;simp at this;exact this.2
  have HDS:Hid (D=aQ L):=HS.out.2 hRD;have HSM:Hid (∀e ∈ D,e.1.size≤281474976710656∧e.2.2.2.1.size≤281474976710656):=mH hRD;clear hRD c0 c1 f40 f41;have HED:Hid (af w4.drew (pT g) len c D):=HE4.out.keep (Below.refl _ w4).drew;have k0:yG w w4.drew X Y M:=k4.call (Below.refl _ w4).drew;have HMK:Hid (∀w',yG w w' X Y M→w'.cell? ⟨Y,1,none⟩=some (iT M)):=fun w' kk=>kk.y1
  have y4:=k4.y1;go_wp2_with fail
  refine dM HMK k0 fun aa=>?_
  refine aL 0 1 aa ?_;refine aL 2 2 aa ?_;refine aS 1 fun K hK=>?_
  go_simp;refine (yq _ len c D _ HED.out (by omega) HSM.out).mono ?_;rintro e w6 ⟨Z,rfl,hZ,hO6,hb6⟩;have k1:=k0.call hb6;have HO6:Hid (aE w6 w.heap.size Z len len D):=hO6.mono k0.all.size;have hXZ:X<Z:=Nat.lt_of_lt_of_le k0.ltX hZ;clear hO6 hZ;go_wp2_with fail
  refine hK.out _ _ (HMK.out _ k1) fun aa=>?_
  (try go_frame);refine aL 4 1 aa ?_;refine aS 5 fun K hK=>?_
  obtain ⟨v0,c0⟩:=k1.r0;obtain ⟨v1,c1⟩:=k1.r1;have f0:=k1.fr 0;have f1:=k1.fr 1;go_simp;have k2:=(k1.store 0 (sL Z len len) HXY.out HXw.out).store 1 (iT M) HXY.out HXw.out;refine hK.out _ _ (HMK.out _ k2) fun aa=>?_
  (try go_frame);refine aL 6 1 aa ?_;refine dN ?_;go_wp2;refine bodyPost_ret (v:=.tuple #[.agg #[sL Z len len,iT M],.bool true]) (by simp [results,Tryz.results98,go_sem,c0,c1]) rfl ?_;have hz:=Bt (L:=L) (HOB.out.trans hr) (w:=w) (g:=Z) (n:=len) (c:=len) (by rw [← HDS.out];exact (HO6.out.setCell (p:=⟨X,0,none⟩) (by simp;omega) (sL Z len len)).setCell (p:=⟨X,1,none⟩) (by simp;omega) (iT M)) k2.all;rw [← HDS.out,← HM.out] at hz;exact hz
end Go.Proofs.YtlmgojlffgkciaaGreat

namespace Go.Proofs.YtlmgojlffgkciaaGreat
open Go.RowKit
set_option maxHeartbeats 400000 in
theorem xe (m:Int) (a:Option Addr) (len cap:Nat) (L:List ac) (w:World) (hL:af w a len cap L) (hbig:len≤1048576) :
 Calls Tryz.prog 120 #[.agg #[.slice a len cap,iT m]] w fun e w'=>∃b,e=.returned (.agg #[sL b len len,iT m])∧w.heap.size≤b∧b<w'.heap.size∧af w' (pT b) len len L∧Bl w w':=by
 go_enter Tryz.func120,Tryz.ntmps120
 go_wp2_with fail
 refine (nL _ _ _ L _ (hL.keep ?_) hbig).mono ?_
 · exact (bZ.alloc (by simp) _).alloc (by simp;omega) _
 rintro e w1 ⟨rfl,hL1,hlt1,hb1⟩;simp only [World.size_alloc] at hlt1;obtain ⟨hc1,hf1⟩:=qJ hb1;have hz:=hb1.size;simp at hz;have HL1:Hid (af w1 (some ⟨w.heap.size+1+1+1,0,none⟩) len len L):=by simpa [Hid] using hL1
 have HZ:Hid (w.heap.size+1+1+1<w1.heap.size):=hlt1;clear hL1 hlt1;go_wp2;refine bodyPost_ret (v:=.agg #[sL (w.heap.size+1+1+1) len len,iT m]) (by simp [results,Tryz.results120,go_sem,hc1]) rfl ⟨w.heap.size+1+1+1,rfl,by omega,by simpa [World.setCell] using HZ.out,?_,?_⟩
 · refine ((((HL1.out.setCell _ _ ?_).setCell _ _ ?_).setCell _ _ ?_).setCell _ _ ?_) <;> (rintro x e _;cases e;simp;try omega)
 · have hB:Bl w w1:=((bZ.alloc (by simp) _).alloc (by simp;omega) _).trans (hb1.mono (by simp;omega));exact ((((hB.setCell (p:=⟨w.heap.size+1+1,0,none⟩) (by simp;omega) _).setCell (p:=⟨w.heap.size+1+1,1,none⟩) (by simp;omega) _).setCell (p:=⟨w.heap.size+1,0,none⟩) (by simp) _).setCell (p:=⟨w.heap.size+1,1,none⟩) (by simp) _)
end Go.Proofs.YtlmgojlffgkciaaGreat

namespace Go.Proofs.YtlmgojlffgkciaaGreat
open Go.RowKit
theorem Tryz.infoRun:(Tryz.prog.info? 102).map (fun i=>(i.zero,i.size,i.bytes))=some (some (.agg #[nZ,iT 0]),2,32):=by kernel_rfl
theorem Tryz.infoRunL:(Tryz.prog.info? 64).map (fun i=>(i.zero,i.size,i.bytes))=some (some nZ,1,24):=by kernel_rfl
def fC (B:List ae):Prop:=B.length≤1048576∧∀p ∈ B,p.1.length≤1048576
def rM (V:List (List ae)):Prop:=V.length≤1048576∧∀B ∈ V,fC B
def jE (G:Nat) (w:World) (xs:List Value) (j:Nat) (p:ae):Prop :=
 ∃s n c,xs[j*2]?=some (.slice s n c)∧xs[j*2+1]?=some (iT p.2)∧cQ (G+1) w s n c p.1
theorem jE.other {G:Nat} {w w':World} {xs:List Value} {j k:Nat} {p:ae} (h:jE G w xs j p) (hne:j≠k) (u0 u1:Value) (hs:bz (G+1) w w'):jE G w' ((xs.set (k*2) u0).set (k*2+1) u1) j p:=by
 obtain ⟨s,n,c,h0,h1,h2⟩:=h;refine ⟨s,n,c,?_,?_,h2.same hs⟩ <;> (repeat rw [List.getElem?_set_ne (by omega)]) <;> assumption
theorem sK {G:Nat} {w:World} {xs:List Value} {k:Nat} {m:Int} {s:Option Addr} {n c:Nat} {L:List ac} (h:k*2+1<xs.length) (hL:cQ (G+1) w s n c L):jE G w ((xs.set (k*2) (.slice s n c)).set (k*2+1) (iT m)) k (L,m):=by
 refine ⟨s,n,c,?_,?_,hL⟩
 · rw [List.getElem?_set_ne (by omega),List.getElem?_set_self (by omega)]
 · rw [List.getElem?_set_self (by simp;omega)]
theorem b6 {w:World} {base g n cap K:Nat} {T:TypeId} {xs:List Value} (h:w.ownsRow base T K (sL g n cap) n xs):n≤cap∧cap≤maxLen:=by
 rcases h.2 with ⟨h',_⟩ | ⟨g',cap',cur,h',_,_,hnc,hcm,_,_⟩
 · simp at h'
 · simp only [Value.slice.injEq,Option.some.injEq,Addr.mk.injEq,and_true,true_and] at h';obtain ⟨rfl,rfl⟩:=h';exact ⟨hnc,hcm⟩
theorem kr {w:World} {base g n cap:Nat} {xs:List Value} {B:List ae} (h:w.ownsRow base 102 2 (sL g n cap) n xs) (hn:B.length=n) (hw:∀p ∈ B,(Lit.int .i64 p.2).wf=true)
 (hh:∀j p,B[j]?=some p→jE g w xs j p):aj g w (pT g) n cap B:=by
 have hlt:=(h.lt g rfl).2;have hrc:=b6 h;refine ⟨hn,hrc.1,hrc.2,(fun e=>by cases e),?_,?_⟩
 · rintro x e _;cases e;exact ⟨hlt,rfl,Nat.le_refl _⟩
 · rintro x e i hi;cases e;obtain ⟨s,m,c,r0,r1,r2⟩:=hh i B[i] (List.getElem?_eq_getElem hi);refine ⟨hw _ (List.getElem_mem hi),s,m,c,?_,?_,r2.mono (by omega)⟩
   · simp only [Nat.zero_add];exact (h.cellAt _ (by omega)).trans r0
   · simp only [Nat.zero_add];exact (h.cellAt _ (by omega)).trans r1
set_option maxHeartbeats 1600000 in
theorem ui (lo:Nat) (a:Option Addr) (len cap:Nat) (B:List ae) (w:World) (hP:aj lo w a len cap B) (hS:fC B) :
 Calls Tryz.prog 78 #[.slice a len cap] w fun e w'=>e=.returned (sL (w.heap.size) len len)∧aj w.heap.size w' (some ⟨w.heap.size,0,none⟩) len len B∧w.heap.size<w'.heap.size∧Bl w w':=by
 have HLEN:Hid (B.length=len):=hP.length;have HWF:Hid (∀p ∈ B,(Lit.int .i64 p.2).wf=true):=hP.wfs;have hbig:len≤1048576:=by have:=hP.length;have:=hS.1;omega
 have HSM:=bc hS;have HL:=bc hP;clear hP hS;obtain ⟨i0,hi,hz0,hz1,hz2⟩:=info_parts Tryz.infoRun;go_enter Tryz.func78,Tryz.ntmps78
 go_wp2_with (at_make;refine wpList_make_full _ rfl _ _ 64 rfl w.heap.size 102 i0 _ 2 Tryz.underlying64 hi hz0 hz1 .i64 .i64 _ _ len rfl rfl (by simp) (by simp) (by rw [hz2];omega) (by unfold maxLen;omega) (Nat.le_refl _) ?_;intro w1 hown hgrow)
 have hb1:Bl w w1:=(Below.refl _ _).grown hgrow (Nat.le_refl _) (by simp);have hsz1:w.heap.size<w1.heap.size:=(hown.lt _ rfl).2;go_loopw [4] (fun i wr=>∃(k:Nat) (xs:List Value),k≤len∧i=iT k∧wr.ownsRow w.heap.size 102 2 (sL (w.heap.size) len len) len xs∧Bl w wr∧(∀j p,j<k→B[j]?=some p→jE w.heap.size wr xs j p)) (fun i _=>len - (intOf i).toNat)
 case atStart=>exact ⟨0,_,Nat.zero_le _,rfl,hown,hb1,fun j l h=>absurd h (Nat.not_lt_zero _)⟩
 case round =>
  obtain ⟨k,xs,hk,rfl,ho,hb,hrow⟩:=hrel;have HROW:Hid (∀j p,j<k→B[j]?=some p→jE w.heap.size wr xs j p):=hrow;clear hrow hown hgrow;have hzr:w.heap.size<wr.heap.size:=(ho.lt _ rfl).2;by_cases hlt:k<len
  · obtain ⟨b,off,rfl,hbb⟩:=HL.out.form (by omega);obtain ⟨L,m,s,n,c,hg,_,g0,g1,hLk⟩:=HL.out.run hb k hlt;have hn:n≤1048576:=by
     have:=HSM.out.2 _ (List.mem_of_getElem? hg);have:=hLk.1.length;simp only at *;omega
    have HG:Hid (B[k]?=some (L,m)):=hg;have hbk:b<wr.heap.size:=Nat.lt_of_lt_of_le hbb hb.size;clear hg;have hxl:=ho.1;have HX:Hid (xs.length=len*2):=hxl;clear hxl;have HO:Hid (wr.ownsRow w.heap.size 102 2 (sL (w.heap.size) len len) len xs):=ho;clear ho;go_wp2_with fail
    refine (xe _ _ _ _ L _ hLk.1 hn).mono ?_;rintro e w2 ⟨nb,rfl,hnb1,hnb2,hL2,hb2⟩;have HL2:Hid (cQ (w.heap.size+1) w2 (pT nb) n n L):=⟨hL2,fun x e _=>by cases e;simp only;omega⟩;clear hL2 hLk;have ho2:w2.ownsRow w.heap.size 102 2 (sL (w.heap.size) len len) len xs:=HO.out.kept (row:=none) ⟨hb2.os,hb2.tape,hb2.output,hb2.size,fun k hk _=>hb2.block k hk⟩ (.inr (by simp [Value.ownBlock]));have c0:∃v,w2.cell? ⟨w.heap.size,k*2,none⟩=some v:=⟨_,(ho2.cellAt _ (by omega)).trans (List.getElem?_eq_getElem (by rw [HX.out];omega))⟩;have c1:∃v,w2.cell? ⟨w.heap.size,k*2+1,none⟩=some v:=⟨_,(ho2.cellAt _ (by omega)).trans (List.getElem?_eq_getElem (by rw [HX.out];omega))⟩;obtain ⟨v0,c0⟩:=c0;obtain ⟨v1,c1⟩:=c1;have f0:w2.frozen? ⟨w.heap.size,k*2,none⟩=false:=ho2.frozenAt _;have f1:w2.frozen? ⟨w.heap.size,k*2+1,none⟩=false:=ho2.frozenAt _;have HO2:Hid (w2.ownsRow w.heap.size 102 2 (sL (w.heap.size) len len) len xs):=ho2;clear ho2;go_wp2;go_roundw
    case rel =>
     have t0:=HO2.out.stored (k*2) (sL nb n n);have t1:=t0.1.stored (k*2+1) (iT m);have hsm:bz (w.heap.size+1) w2 ((w2.setCell ⟨w.heap.size,k*2,none⟩ (sL nb n n)).setCell ⟨w.heap.size,k*2+1,none⟩ (iT m)):=(bz.of_set _ _ (by simp)).trans (bz.of_set _ _ (by simp));refine ⟨k+1,_,by omega,by go_num,t1.1,?_,?_⟩
     · exact ((hb.trans (hb2.mono hb.size)).setCell (p:=⟨w.heap.size,_,none⟩) (Nat.le_refl _) _).setCell (p:=⟨w.heap.size,_,none⟩) (Nat.le_refl _) _
     · intro j p hj hp;by_cases hjk:j=k
       · subst hjk;rw [HG.out] at hp;cases hp;exact sK (by rw [HX.out];omega) (HL2.out.same hsm)
       · exact (HROW.out j p (by omega) hp).other hjk _ _ ((bz.of_below hb2).trans hsm)
    case measure=>simp [intOf];omega
  · go_wp2;go_ret;exact ⟨rfl,kr ho HLEN.out HWF.out (fun j p hp=>HROW.out j p (by have:=(List.getElem?_eq_some_iff.1 hp).1;rw [HLEN.out] at this;omega) hp),(ho.lt _ rfl).2,hb⟩
def jF (G:Nat) (w:World) (xs:List Value) (j:Nat) (p:List ae):Prop :=
 ∃s n c,xs[j]?=some (.slice s n c)∧aj (G+1) w s n c p
theorem jF.other {G:Nat} {w w':World} {xs:List Value} {j k:Nat} {p:List ae} (h:jF G w xs j p) (hne:j≠k) (u0:Value) (hs:bz (G+1) w w'):jF G w' (xs.set k u0) j p:=by
 obtain ⟨s,n,c,h0,h2⟩:=h;exact ⟨s,n,c,by rw [List.getElem?_set_ne (by omega)];exact h0,h2.same hs⟩
theorem tn {G:Nat} {w:World} {xs:List Value} {k:Nat} {s:Option Addr} {n c:Nat} {B:List ae} (h:k<xs.length) (hL:aj (G+1) w s n c B):jF G w (xs.set k (.slice s n c)) k B :=
 ⟨s,n,c,by rw [List.getElem?_set_self (by omega)],hL⟩
theorem jf {w:World} {base g n cap:Nat} {xs:List Value} {V:List (List ae)} (h:w.ownsRow base 64 1 (sL g n cap) n xs) (hn:V.length=n) (_:True)
 (hh:∀j p,V[j]?=some p→jF g w xs j p):aX g w (pT g) n cap V:=by
 have hlt:=(h.lt g rfl).2;have hrc:=b6 h;refine ⟨hn,hrc.1,hrc.2,(fun e=>by cases e),?_,?_⟩
 · rintro x e _;cases e;exact ⟨hlt,rfl,Nat.le_refl _⟩
 · rintro x e i hi;cases e;obtain ⟨s,m,c,r0,r2⟩:=hh i V[i] (List.getElem?_eq_getElem hi);refine ⟨s,m,c,?_,r2.mono (by omega)⟩;simp only [Nat.zero_add];exact (h.cellAt _ (by omega)).trans r0
set_option maxHeartbeats 1600000 in
theorem rZ (lo:Nat) (a:Option Addr) (len cap:Nat) (V:List (List ae)) (w:World) (hP:aX lo w a len cap V) (hS:rM V) :
 Calls Tryz.prog 40 #[.slice a len cap] w fun e w'=>e=.returned (sL (w.heap.size) len len)∧aX w.heap.size w' (some ⟨w.heap.size,0,none⟩) len len V∧w.heap.size<w'.heap.size∧Bl w w':=by
 have HLEN:Hid (V.length=len):=hP.length;have HWF:Hid (True):=trivial;have hbig:len≤1048576:=by have:=hP.length;have:=hS.1;omega
 have HSM:=bc hS;have HL:=bc hP;clear hP hS;obtain ⟨i0,hi,hz0,hz1,hz2⟩:=info_parts Tryz.infoRunL;go_enter Tryz.func40,Tryz.ntmps40
 go_wp2_with (at_make;refine wpList_make_full _ rfl _ _ 29 rfl w.heap.size 64 i0 _ 1 Tryz.underlying29 hi hz0 hz1 .i64 .i64 _ _ len rfl rfl (by simp) (by simp) (by rw [hz2];omega) (by unfold maxLen;omega) (Nat.le_refl _) ?_;intro w1 hown hgrow)
 have hb1:Bl w w1:=(Below.refl _ _).grown hgrow (Nat.le_refl _) (by simp);have hsz1:w.heap.size<w1.heap.size:=(hown.lt _ rfl).2;go_loopw [4] (fun i wr=>∃(k:Nat) (xs:List Value),k≤len∧i=iT k∧wr.ownsRow w.heap.size 64 1 (sL (w.heap.size) len len) len xs∧Bl w wr∧(∀j p,j<k→V[j]?=some p→jF w.heap.size wr xs j p)) (fun i _=>len - (intOf i).toNat)
 case atStart=>exact ⟨0,_,Nat.zero_le _,rfl,hown,hb1,fun j l h=>absurd h (Nat.not_lt_zero _)⟩
 case round =>
  obtain ⟨k,xs,hk,rfl,ho,hb,hrow⟩:=hrel;have HROW:Hid (∀j p,j<k→V[j]?=some p→jF w.heap.size wr xs j p):=hrow;clear hrow hown hgrow;have hzr:w.heap.size<wr.heap.size:=(ho.lt _ rfl).2;by_cases hlt:k<len
  · obtain ⟨b,off,rfl,hbb⟩:=HL.out.form (by omega);obtain ⟨B,s,n,c,hg,g0,hLk⟩:=HL.out.level hb k hlt;have hn:fC B:=HSM.out.2 _ (List.mem_of_getElem? hg);have HG:Hid (V[k]?=some B):=hg;have hbk:b<wr.heap.size:=Nat.lt_of_lt_of_le hbb hb.size;clear hg;have hxl:=ho.1;have HX:Hid (xs.length=len*1):=hxl;clear hxl;have HO:Hid (wr.ownsRow w.heap.size 64 1 (sL (w.heap.size) len len) len xs):=ho;clear ho;go_wp2_with fail
    refine (ui lo _ _ _ B _ hLk hn).mono ?_;rintro e w2 ⟨rfl,hL2,_,hb2⟩;have HL2:Hid (aj (w.heap.size+1) w2 (some ⟨wr.heap.size,0,none⟩) n n B):=hL2.mono hzr;clear hL2 hLk hn;have ho2:w2.ownsRow w.heap.size 64 1 (sL (w.heap.size) len len) len xs:=HO.out.kept (row:=none) ⟨hb2.os,hb2.tape,hb2.output,hb2.size,fun k hk _=>hb2.block k hk⟩ (.inr (by simp [Value.ownBlock]));have c0:∃v,w2.cell? ⟨w.heap.size,k,none⟩=some v:=⟨_,(ho2.cellAt _ (by omega)).trans (List.getElem?_eq_getElem (by rw [HX.out];omega))⟩;obtain ⟨v0,c0⟩:=c0;have f0:w2.frozen? ⟨w.heap.size,k,none⟩=false:=ho2.frozenAt _;have HO2:Hid (w2.ownsRow w.heap.size 64 1 (sL (w.heap.size) len len) len xs):=ho2;clear ho2;go_wp2;go_roundw
    case rel =>
     have t0:=HO2.out.stored k (sL (wr.heap.size) n n);have hsm:bz (w.heap.size+1) w2 (w2.setCell ⟨w.heap.size,k,none⟩ (sL (wr.heap.size) n n)):=bz.of_set _ _ (by simp);refine ⟨k+1,_,by omega,by go_num,t0.1,?_,?_⟩
     · exact (hb.trans (hb2.mono hb.size)).setCell (p:=⟨w.heap.size,_,none⟩) (Nat.le_refl _) _
     · intro j p hj hp;by_cases hjk:j=k
       · subst hjk;rw [HG.out] at hp;cases hp;exact tn (by rw [HX.out];omega) (HL2.out.same hsm)
       · exact (HROW.out j p (by omega) hp).other hjk _ ((bz.of_below hb2).trans hsm)
    case measure=>simp [intOf];omega
  · go_wp2;go_ret;exact ⟨rfl,jf ho HLEN.out HWF.out (fun j p hp=>HROW.out j p (by have:=(List.getElem?_eq_some_iff.1 hp).1;rw [HLEN.out] at this;omega) hp),(ho.lt _ rfl).2,hb⟩
theorem kF {w:World} {base g n cap:Nat} {xs:List Value} {S:List Int} (h:w.ownsRow base 3 1 (sL g n cap) n xs) (hn:S.length=n) (hw:∀q ∈ S,(Lit.int .i64 q).wf=true)
 (hh:∀(j:Nat) (q:Int),S[j]?=some q→xs[j]?=some (iT q)):aT g w (pT g) n cap S:=by
 have hlt:=(h.lt g rfl).2;have hrc:=b6 h;refine ⟨hn,hrc.1,hrc.2,hw,(fun e=>by cases e),?_,?_⟩
 · rintro x e _;cases e;exact ⟨hlt,rfl,Nat.le_refl _⟩
 · rintro x e i hi;cases e;simp only [Nat.zero_add];exact (h.cellAt _ (by omega)).trans (hh i _ (List.getElem?_eq_getElem hi))
set_option maxHeartbeats 1600000 in
theorem uk (lo:Nat) (a:Option Addr) (len cap:Nat) (S:List Int) (w:World) (hP:aT lo w a len cap S) (hbig:len≤1048576) :
 Calls Tryz.prog 41 #[.slice a len cap] w fun e w'=>e=.returned (sL (w.heap.size) len len)∧aT w.heap.size w' (some ⟨w.heap.size,0,none⟩) len len S∧w.heap.size<w'.heap.size∧Bl w w':=by
 have HLEN:Hid (S.length=len):=hP.length;have HWF:Hid (∀q ∈ S,(Lit.int .i64 q).wf=true):=hP.wfs;have HL:=bc hP;clear hP;obtain ⟨i0,hi,hz0,hz1,hz2⟩:=info_parts Tryz.infoInt;go_enter Tryz.func41,Tryz.ntmps41
 go_wp2_with (at_make;refine wpList_make_full _ rfl _ _ 24 rfl w.heap.size 3 i0 _ 1 Tryz.underlying24 hi hz0 hz1 .i64 .i64 _ _ len rfl rfl (by simp) (by simp) (by rw [hz2];omega) (by unfold maxLen;omega) (Nat.le_refl _) ?_;intro w1 hown hgrow)
 have hb1:Bl w w1:=(Below.refl _ _).grown hgrow (Nat.le_refl _) (by simp);go_loopw [4] (fun i wr=>∃(k:Nat) (xs:List Value),k≤len∧i=iT k∧wr.ownsRow w.heap.size 3 1 (sL (w.heap.size) len len) len xs∧Bl w wr∧(∀j q,j<k→S[j]?=some q→xs[j]?=some (iT q))) (fun i _=>len - (intOf i).toNat)
 case atStart=>exact ⟨0,_,Nat.zero_le _,rfl,hown,hb1,fun j l h=>absurd h (Nat.not_lt_zero _)⟩
 case round =>
  obtain ⟨k,xs,hk,rfl,ho,hb,hrow⟩:=hrel;have HROW:Hid (∀j q,j<k→S[j]?=some q→xs[j]?=some (iT q)):=hrow;clear hrow hown hgrow;by_cases hlt:k<len
  · obtain ⟨b,off,rfl,hbb⟩:=HL.out.form (by omega);obtain ⟨q,hg,_,g0⟩:=HL.out.num hb k hlt;have HG:Hid (S[k]?=some q):=hg;have hbk:b<wr.heap.size:=Nat.lt_of_lt_of_le hbb hb.size;have hzr:w.heap.size<wr.heap.size:=(ho.lt _ rfl).2;clear hg;have hxl:=ho.1;have HX:Hid (xs.length=len*1):=hxl;clear hxl;have c0:∃v,wr.cell? ⟨w.heap.size,k,none⟩=some v:=⟨_,(ho.cellAt _ (by omega)).trans (List.getElem?_eq_getElem (by rw [HX.out];omega))⟩;obtain ⟨v0,c0⟩:=c0;have f0:wr.frozen? ⟨w.heap.size,k,none⟩=false:=ho.frozenAt _;have HO:Hid (wr.ownsRow w.heap.size 3 1 (sL (w.heap.size) len len) len xs):=ho;clear ho;go_wp2;go_roundw
    case rel =>
     have t0:=HO.out.stored k (iT q);refine ⟨k+1,_,by omega,by go_num,t0.1,hb.setCell (p:=⟨w.heap.size,_,none⟩) (Nat.le_refl _) _,?_⟩;intro j p hj hp;by_cases hjk:j=k
     · subst hjk;rw [HG.out] at hp;cases hp;rw [List.getElem?_set_self (by rw [HX.out];omega)]
     · rw [List.getElem?_set_ne (by omega)];exact HROW.out j p (by omega) hp
    case measure=>simp [intOf];omega
  · go_wp2;go_ret;exact ⟨rfl,kF ho HLEN.out HWF.out (fun j p hp=>HROW.out j p (by have:=(List.getElem?_eq_some_iff.1 hp).1;rw [HLEN.out] at this;omega) hp),(ho.lt _ rfl).2,hb⟩
end Go.Proofs.YtlmgojlffgkciaaGreat

namespace Go.Proofs.YtlmgojlffgkciaaGreat
open Go.RowKit
def aw (w:World) (g t sz:Nat):Prop:=∃cur:Array Value,w.heap[g]?=some (.cells cur t (0,0))∧cur.size=sz
theorem aw.lt {w:World} {g t sz:Nat} (h:aw w g t sz):g<w.heap.size:=by
 obtain ⟨cur,h,_⟩:=h;exact (Array.getElem?_eq_some_iff.1 h).1
theorem aw.cell {w:World} {g t sz:Nat} (h:aw w g t sz) {o:Nat} (ho:o<sz):∃v,w.cell? ⟨g,o,none⟩=some v:=by
 obtain ⟨cur,h,hs⟩:=h;exact ⟨cur[o]'(by omega),by simp [World.cell?,h,Array.getElem?_eq_getElem (show o<cur.size by omega)]⟩
theorem aw.frozen {w:World} {g t sz:Nat} (h:aw w g t sz) (o:Nat):w.frozen? ⟨g,o,none⟩=false:=by
 obtain ⟨cur,h,hs⟩:=h;simp [World.frozen?,h]
theorem aw.setCell {w:World} {g t sz:Nat} (h:aw w g t sz) {b o:Nat} (v:Value) (_:True:=trivial):aw (w.setCell ⟨b,o,none⟩ v) g t sz:=by
 obtain ⟨cur,h,hs⟩:=h;by_cases e:g=b
 · subst e;exact ⟨_,heap_setCell_same w g o cur t v h,by simp [hs]⟩
 · exact ⟨cur,(Below.heap_setCell _ _ _ _ e).trans h,hs⟩
theorem aw.below {w w':World} {g t sz:Nat} (h:aw w g t sz) (hb:Bl w w'):aw w' g t sz:=by
 obtain ⟨cur,h',hs⟩:=h;exact ⟨cur,(hb.block g (Array.getElem?_eq_some_iff.1 h').1).trans h',hs⟩
theorem cj {w:World} {base e size n g cap:Nat} {xs:List Value} (h:w.ownsRow base e size (sL g n cap) n xs):aw w g e (cap*size):=by
 rcases h.2 with ⟨h',_⟩ | ⟨g',cap',cur,h',_,hg,_,_,hs,_⟩
 · simp at h'
 · simp only [Value.slice.injEq,Option.some.injEq,Addr.mk.injEq,and_true,true_and] at h';obtain ⟨rfl,rfl⟩:=h';exact ⟨cur,hg,hs⟩
theorem aw.kind {w:World} {g t t' sz sz':Nat} (h:aw w g t sz) (h':aw w g t' sz'):t=t':=by
 obtain ⟨cur,h1,_⟩:=h;obtain ⟨cur',h2,_⟩:=h';rw [h1] at h2;cases h2;rfl
end Go.Proofs.YtlmgojlffgkciaaGreat
