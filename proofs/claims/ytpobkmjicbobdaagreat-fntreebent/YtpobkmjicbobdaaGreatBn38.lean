/- Walks. -/
import Derived.Test.YtpobkmjicbobdaaGreatBn37
namespace Go.Proofs.YtpobkmjicbobdaaGreat
set_option maxRecDepth 100000
set_option maxHeartbeats 40000000
open Go.RowKit
variable {P P' X Z cap cm cm' cs cs' cv cv' len lo nm nm' ns ns' nv nv':Nat} {a ak ak' am am' av av':Option Addr} {e:Ending} {q q':Int} {w w' wi wj:World}
structure ku (lo R:Nat) (a:Option Addr) (len cap P:Nat) (w wi:World) (X Z:Nat) (q:Int) (am:Option Addr) (nm cm:Nat) (av:Option Addr) (nv cv:Nat) (ak:Option Addr) (ns cs:Nat):Prop where
 rd:aW wi R a len cap P
 bx:ar wi X (iT q) (.slice am nm cm) (.slice av nv cv) (.slice ak ns cs)
 br:ar wi Z (iT 0) nZ nZ nZ
 kx:an wi X 31 4∧an wi Z 31 4
 good:cw lo wi (.agg #[iT q,.slice am nm cm,.slice av nv cv,.slice ak ns cs])
 low:gF lo (some R) w wi
 top:lo≤w.heap.size∧w.heap.size≤X∧R<lo∧pK a len R∧w.heap.size≤Z∧X≠Z
theorem ku.below {R:Nat} (h:ku lo R a len cap P w wi X Z q am nm cm av nv cv ak ns cs) (hb:Bl wi wj):ku lo R a len cap P w wj X Z q am nm cm av nv cv ak ns cs :=
 ⟨h.rd.below hb,h.bx.keep hb,h.br.keep hb,⟨h.kx.1.below hb,h.kx.2.below hb⟩,h.good.below hb,h.low.next hb,h.top⟩
theorem ku.read {R:Nat} (h:ku lo R a len cap P w wi X Z q am nm cm av nv cv ak ns cs) (hg:wi.grownBy wj (some R)) (hr:aW wj R a len cap P'):ku lo R a len cap P' w wj X Z q am nm cm av nv cv ak ns cs :=
 have h1:X≠R:=by have:=h.top;omega
 have h2:Z≠R:=by have:=h.top;omega
 ⟨hr,h.bx.grownB hg h1,h.br.grownB hg h2,⟨h.kx.1.grown hg h1,h.kx.2.grown hg h2⟩,h.good.read h.rd h.top.2.2.1 hg,h.low.any hg,h.top⟩
theorem ku.did {R:Nat} (h:ku lo R a len cap P w wi X Z q am nm cm av nv cv ak ns cs) (hg:gF lo none wi wj) (hv:cw lo wj (.agg #[iT q',.slice am' nm' cm',.slice av' nv' cv',.slice ak' ns' cs'])) :
 ar wj X (iT q) (.slice am nm cm) (.slice av nv cv) (.slice ak ns cs)∧ku lo R a len cap P w ((((wj.setCell ⟨X,0,none⟩ (iT q')).setCell ⟨X,1,none⟩ (.slice am' nm' cm')).setCell ⟨X,2,none⟩ (.slice av' nv' cv')).setCell ⟨X,3,none⟩ (.slice ak' ns' cs')) X Z q' am' nm' cm' av' nv' cv' ak' ns' cs':=by
 have ht:=h.top;have hx:=h.bx.gr (sz:=0) h.kx.1 (by simp) hg;have hr:=h.br.gr (sz:=0) h.kx.2 (by simp) hg;have k1:=h.kx.1.gr (by simp) hg;have k2:=h.kx.2.gr (by simp) hg;have hrd:=h.rd.gr ht.2.2.2.1 ht.2.2.1 hg;have hfar:∀b off,a=some ⟨b,off,none⟩→0<len→b≠X:=fun b off e hl=>by
  rcases ht.2.2.2.1 with h0 | h0
  · omega
  · have:=h0 b off e;omega
 have hXR:X≠R:=by omega
 refine ⟨hx,⟨(((hrd.other hXR hfar _ _).other hXR hfar _ _).other hXR hfar _ _).other hXR hfar _ _,(((hx.set0 _).set1 _).set2 _).set3 _,(((hr.other ht.2.2.2.2.2 _).other ht.2.2.2.2.2 _).other ht.2.2.2.2.2 _).other ht.2.2.2.2.2 _,⟨(((k1.setCell _).setCell _).setCell _).setCell _,(((k2.setCell _).setCell _).setCell _).setCell _⟩,hv.four k1 hx,(h.low.trans hg.weak).four (by omega) ht.2.1 _ _ _ _,ht⟩⟩
theorem ku.acted {R:Nat} (h:ku lo R a len cap P w wi X Z q am nm cm av nv cv ak ns cs) (hg:gF lo (some R) wi wj) (hrd:aW wj R a len cap P') (hv:cw lo wj (.agg #[iT q',.slice am' nm' cm',.slice av' nv' cv',.slice ak' ns' cs'])) :
 ar wj X (iT q) (.slice am nm cm) (.slice av nv cv) (.slice ak ns cs)∧ku lo R a len cap P' w ((((wj.setCell ⟨X,0,none⟩ (iT q')).setCell ⟨X,1,none⟩ (.slice am' nm' cm')).setCell ⟨X,2,none⟩ (.slice av' nv' cv')).setCell ⟨X,3,none⟩ (.slice ak' ns' cs')) X Z q' am' nm' cm' av' nv' cv' ak' ns' cs':=by
 have ht:=h.top;have hXR:X≠R:=by omega
 have hZR:Z≠R:=by omega
 have hx:=h.bx.gr (sz:=0) h.kx.1 (fun e=>hXR (Option.some.inj e)) hg;have hr:=h.br.gr (sz:=0) h.kx.2 (fun e=>hZR (Option.some.inj e)) hg;have k1:=h.kx.1.gr (fun e=>hXR (Option.some.inj e)) hg;have k2:=h.kx.2.gr (fun e=>hZR (Option.some.inj e)) hg;have hfar:∀b off,a=some ⟨b,off,none⟩→0<len→b≠X:=fun b off e hl=>by
  rcases ht.2.2.2.1 with h0 | h0
  · omega
  · have:=h0 b off e;omega
 refine ⟨hx,⟨(((hrd.other hXR hfar _ _).other hXR hfar _ _).other hXR hfar _ _).other hXR hfar _ _,(((hx.set0 _).set1 _).set2 _).set3 _,(((hr.other ht.2.2.2.2.2 _).other ht.2.2.2.2.2 _).other ht.2.2.2.2.2 _).other ht.2.2.2.2.2 _,⟨(((k1.setCell _).setCell _).setCell _).setCell _,(((k2.setCell _).setCell _).setCell _).setCell _⟩,hv.four k1 hx,(h.low.trans hg).four (by omega) ht.2.1 _ _ _ _,ht⟩⟩
def AcE (lo R:Nat) (a:Option Addr) (len cap P:Nat) (w wi:World) (X Z:Nat):Prop:=∃P' q am nm cm av nv cv ak ns cs,ku lo R a len cap P' w wi X Z q am nm cm av nv cv ak ns cs∧P'≤P+210
def Bq (lo R:Nat) (a:Option Addr) (len cap P d:Nat) (w:World) (e:Ending) (w':World):Prop:=∃v P',e=.returned v∧cw lo w' v∧aW w' R a len cap P'∧P'≤P+d∧gF lo (some R) w w'
theorem mZ.parts (h:mZ lo w e w'):∃q am nm cm av nv cv ak ns cs ok,e=.returned (.tuple #[.agg #[iT q,.slice am nm cm,.slice av nv cv,.slice ak ns cs],.bool ok])∧cw lo w' (.agg #[iT q,.slice am nm cm,.slice av nv cv,.slice ak ns cs])∧gF lo none w w':=by
 obtain ⟨v,ok,rfl,hg,hl⟩:=h;obtain ⟨q,am,nm,cm,av,nv,cv,ak,ns,cs,rfl⟩:=hg.val;exact ⟨q,am,nm,cm,av,nv,cv,ak,ns,cs,ok,rfl,hg,hl⟩
theorem Az (h:cw lo w (.agg #[iT q,.slice am nm cm,.slice av nv cv,.slice ak ns cs])):ns≤4:=by
 obtain ⟨q',am',nm',cm',G,c,ak',ns',cs',gA,dA,e1,n1,d1,e2,n2,d2,M,A,B,C,S,e,hT,htb⟩:=h;cases e;have:=hT.sn.length;have:=kO htb;omega
theorem xC (h:cw lo w (.agg #[iT q,.slice am nm cm,.slice av nv cv,.slice ak ns cs])) {j:Nat} (hj:j<ns):∃b off z,ak=some ⟨b,off,none⟩∧w.cell? ⟨b,off+j,none⟩=some (iT z)∧b<w.heap.size:=by
 obtain ⟨q',am',nm',cm',G,c,ak',ns',cs',gA,dA,e1,n1,d1,e2,n2,d2,M,A,B,C,S,e,hT,htb⟩:=h;cases e;obtain ⟨b,off,rfl,hb⟩:=hT.sn.form (by omega);obtain ⟨z,_,_,hz⟩:=hT.sn.num (Below.refl _ w) j hj;exact ⟨b,off,z,rfl,hz,hb⟩
theorem qx (R P lo:Nat) (a:Option Addr) (len cap:Nat) (v:Value) (w:World) (h:aW w R a len cap P) (hlow:pK a len R) (hP:P<80000) (hR:R<lo) (hlo:lo≤w.heap.size) (hg:cw lo w v) :
 Calls Tryz.prog 77 #[.pointer (pT R),v] w (Bq lo R a len cap P 210 w):=by
 obtain ⟨q,am,nm,cm,av,nv,cv,ak,ns,cs,rfl⟩:=hg.val;obtain ⟨X,hX⟩:=aS w.heap.size;obtain ⟨W,hW⟩:=aS ((w.alloc (.cells #[iT q,.slice am nm cm,.slice av nv cv,.slice ak ns cs] 31)).alloc (.cells #[iT 0,nZ,nZ,nZ] 31));have kW:Bl w W:=by rw [hW];exact bZ.alloc (by simp) _
 have bx:ar W X (iT q) (.slice am nm cm) (.slice av nv cv) (.slice ak ns cs):=by rw [hW,hX];exact (ar.new _ _ _ _ _ _).alloc _
 have br:ar W (X+1) (iT 0) nZ nZ nZ∧an W (X+1) 31 4:=by
  have:=ar.new (w.alloc (.cells #[iT q,.slice am nm cm,.slice av nv cv,.slice ak ns cs] 31)) 31 (iT 0) nZ nZ nZ;rw [World.size_alloc] at this;rw [hW,hX];have h2:=bU (w.alloc (.cells #[iT q,.slice am nm cm,.slice av nv cv,.slice ak ns cs] 31)) #[iT 0,nZ,nZ,nZ] 31;rw [World.size_alloc] at h2;exact ⟨this,h2⟩
 have kX:an W X 31 4:=by rw [hW,hX];exact (bU w #[iT q,.slice am nm cm,.slice av nv cv,.slice ak ns cs] 31).below bZ
 have S0:Hid (ku lo R a len cap P w W X (X+1) q am nm cm av nv cv ak ns cs):=⟨h.below kW,bx,br.1,⟨kX,br.2⟩,hg.below kW,gF.of kW,hlo,Nat.le_of_eq hX.symm,hR,hlow,by omega,by omega⟩;clear h hlow hR hlo hg kW bx br kX;go_enter Tryz.func77,Tryz.ntmps77
 go_upto_region 1 with fail
 rw [← hX,← hW];clear hX hW;go_wp2_with fail
 refine (cF R P a len cap 10 _ S0.out.rd (by omega) (by omega)).mono ?_;rintro e w1 ⟨k,rfl,hk,hR1,hg1⟩;have k10:0≤k∧k<10:=⟨hk.1,hk.2 (by omega)⟩;have S1:Hid (ku lo R a len cap (P+1) w w1 X (X+1) q am nm cm av nv cv ak ns cs):=S0.out.read hg1 hR1;clear S0 hg1 hR1 hk;go_upto_block 0 with fail
 go_cut [14] (fun _ wz=>AcE lo R a len cap P w wz X (X+1))
 case first =>
  by_cases k0:k=0
  · subst k0;have x0:=S1.out.bx.c0;have x1:=S1.out.bx.c1;have x2:=S1.out.bx.c2;have x3:=S1.out.bx.c3;have xz:=S1.out.bx.lt;go_wp2_with fail
    clear x0 x1 x2 x3 xz;refine (zC lo _ _ S1.out.good (Nat.le_trans S1.out.top.1 S1.out.low.size)).mono ?_;rintro e w2 hA;obtain ⟨q',am',nm',cm',av',nv',cv',ak',ns',cs',ok,rfl,hg2,hl2⟩:=hA.parts;obtain ⟨hbx,hS⟩:=S1.out.did hl2 hg2;have HS:=b6 hS;have x0:=hbx.c0;have x1:=hbx.c1;have x2:=hbx.c2;have x3:=hbx.c3;have xz:=hbx.lt;have xf:=hbx.fz;clear hS hA hg2 hl2;go_wp2;go_meet
    exact ⟨P+1,q',am',nm',cm',av',nv',cv',ak',ns',cs',HS.out,by omega⟩
  have kb0:(k == 0)=false:=by simpa using k0
  by_cases k1:k=1
  · subst k1;have x0:=S1.out.bx.c0;have x1:=S1.out.bx.c1;have x2:=S1.out.bx.c2;have x3:=S1.out.bx.c3;have xz:=S1.out.bx.lt;go_wp2_with fail
    clear x0 x1 x2 x3 xz;refine (zC lo _ _ S1.out.good (Nat.le_trans S1.out.top.1 S1.out.low.size)).mono ?_;rintro e w2 hA;obtain ⟨q',am',nm',cm',av',nv',cv',ak',ns',cs',ok,rfl,hg2,hl2⟩:=hA.parts;obtain ⟨hbx,hS⟩:=S1.out.did hl2 hg2;have HS:=b6 hS;have x0:=hbx.c0;have x1:=hbx.c1;have x2:=hbx.c2;have x3:=hbx.c3;have xz:=hbx.lt;have xf:=hbx.fz;clear hS hA hg2 hl2;go_wp2;go_meet
    exact ⟨P+1,q',am',nm',cm',av',nv',cv',ak',ns',cs',HS.out,by omega⟩
  have kb1:(k == 1)=false:=by simpa using k1
  by_cases k2:k=2
  · subst k2;have HMK:Hid (∀w',ar w' X (iT q) (.slice am nm cm) (.slice av nv cv) (.slice ak ns cs)→(fun w':World=>w'.cell? ⟨X,0,none⟩=some (iT q)∧w'.cell? ⟨X,1,none⟩=some (.slice am nm cm)∧w'.cell? ⟨X,2,none⟩=some (.slice av nv cv)∧w'.cell? ⟨X,3,none⟩=some (.slice ak ns cs)∧X<w'.heap.size) w'):=fun w' b=>⟨b.c0,b.c1,b.c2,b.c3,b.lt⟩
    have S2:Hid (ku lo R a len cap (P+1) w w1.drew X (X+1) q am nm cm av nv cv ak ns cs):=S1.out.below (Below.refl _ w1).drew;go_upto_region 7 with fail
    refine Bd 9 HMK S2.out.bx fun aa=>?_
    generalize w1.drew=wd at aa S2 ⊢;refine r9 0 2 aa ?_;refine r9 3 1 aa ?_;refine pS 2 fun K hK=>?_
    go_simp;refine (cF R (P+1) a len cap 2 _ S2.out.rd (by omega) (by omega)).mono ?_;rintro e w3 ⟨ka,rfl,hk,hRk,hgk⟩;have S3:Hid (ku lo R a len cap (P+1+1) w w3 X (X+1) q am nm cm av nv cv ak ns cs):=S2.out.read hgk hRk;have hka:0≤ka∧(1≤(2:Int)→ka<2):=hk;clear hgk hRk hk S2;go_wp2_with fail
    refine hK.out _ _ (HMK.out _ S3.out.bx) fun aa=>?_
    (try go_frame);refine pS 4 fun K hK=>?_
    go_simp;refine (cF R (P+1+1) a len cap 3 _ S3.out.rd (by omega) (by omega)).mono ?_;rintro e w4 ⟨kb,rfl,hk,hRk,hgk⟩;have S4:Hid (ku lo R a len cap (P+1+1+1) w w4 X (X+1) q am nm cm av nv cv ak ns cs):=S3.out.read hgk hRk;have hkb:0≤kb∧(1≤(3:Int)→kb<3):=hk;clear hgk hRk hk S3;go_wp2_with fail
    refine hK.out _ _ (HMK.out _ S4.out.bx) fun aa=>?_
    (try go_frame);refine pS 5 fun K hK=>?_
    go_simp;refine (tC lo _ ka kb _ S4.out.good (Nat.le_trans S4.out.top.1 S4.out.low.size)).mono ?_;rintro e w9 hA;obtain ⟨q',am',nm',cm',av',nv',cv',ak',ns',cs',ok,rfl,hg9,hl9⟩:=hA.parts;obtain ⟨hbx,hS⟩:=S4.out.did hl9 hg9;have HS:=b6 hS;have HB9:Hid (ar w9 X (iT q) (.slice am nm cm) (.slice av nv cv) (.slice ak ns cs)):=hbx;clear hS hA hg9 hl9 hbx;go_wp2_with fail
    refine hK.out _ _ (HMK.out _ HB9.out) fun aa=>?_
    (try go_frame);refine r9 6 2 aa ?_;refine B9 8 aa ?_;refine A7 9 fun K hK=>?_
    have x0:=HB9.out.c0;have x1:=HB9.out.c1;have x2:=HB9.out.c2;have x3:=HB9.out.c3;have xz:=HB9.out.lt;have xf:=HB9.out.fz;go_simp;refine hK.out _ _ ?_;clear hK K;(try go_frame);refine dZ ?_;clear x0 x1 x2 x3 xz xf aa HMK HB9;go_wp2;go_meet
    exact ⟨P+1+1+1,q',am',nm',cm',av',nv',cv',ak',ns',cs',HS.out,by omega⟩
  have kb2:(k == 2)=false:=by simpa using k2
  by_cases k3:k=3
  · subst k3;have x0:=S1.out.bx.c0;have x1:=S1.out.bx.c1;have x2:=S1.out.bx.c2;have x3:=S1.out.bx.c3;have xz:=S1.out.bx.lt;go_wp2_with fail
    clear x0 x1 x2 x3 xz;refine (tC lo _ 0 0 _ S1.out.good (Nat.le_trans S1.out.top.1 S1.out.low.size)).mono ?_;rintro e w2 hA;obtain ⟨q',am',nm',cm',av',nv',cv',ak',ns',cs',ok,rfl,hg2,hl2⟩:=hA.parts;obtain ⟨hbx,hS⟩:=S1.out.did hl2 hg2;have HS:=b6 hS;have x0:=hbx.c0;have x1:=hbx.c1;have x2:=hbx.c2;have x3:=hbx.c3;have xz:=hbx.lt;have xf:=hbx.fz;clear hS hA hg2 hl2;go_wp2;go_meet
    exact ⟨P+1,q',am',nm',cm',av',nv',cv',ak',ns',cs',HS.out,by omega⟩
  have kb3:(k == 3)=false:=by simpa using k3
  by_cases k4:k=4
  · subst k4;have x0:=S1.out.bx.c0;have x1:=S1.out.bx.c1;have x2:=S1.out.bx.c2;have x3:=S1.out.bx.c3;have xz:=S1.out.bx.lt;go_wp2_with fail
    clear x0 x1 x2 x3 xz;refine (Bu lo _ _ S1.out.good (Nat.le_trans S1.out.top.1 S1.out.low.size)).mono ?_;rintro e w2 hA;obtain ⟨q',am',nm',cm',av',nv',cv',ak',ns',cs',ok,rfl,hg2,hl2⟩:=hA.parts;obtain ⟨hbx,hS⟩:=S1.out.did hl2 hg2;have HS:=b6 hS;have x0:=hbx.c0;have x1:=hbx.c1;have x2:=hbx.c2;have x3:=hbx.c3;have xz:=hbx.lt;have xf:=hbx.fz;clear hS hA hg2 hl2;go_wp2;go_meet
    exact ⟨P+1,q',am',nm',cm',av',nv',cv',ak',ns',cs',HS.out,by omega⟩
  have kb4:(k == 4)=false:=by simpa using k4
  by_cases k5:k=5
  · subst k5;have HNS:Hid (ns≤4∧∀w':World,cw lo w' (.agg #[iT q,.slice am nm cm,.slice av nv cv,.slice ak ns cs])→∀j,j<ns→∃b off z,ak=some ⟨b,off,none⟩∧w'.cell? ⟨b,off+j,none⟩=some (iT z)∧b<w'.heap.size):=⟨Az S1.out.good,fun w' hg j hj=>xC hg hj⟩;by_cases hn0:0<ns
    · have hnI:(ns:Int) > 0:=by omega
      have hns9:=HNS.out.1;have x0:=S1.out.bx.c0;have x1:=S1.out.bx.c1;have x2:=S1.out.bx.c2;have x3:=S1.out.bx.c3;have xz:=S1.out.bx.lt;go_upto_region 14 with fail
      clear x0 x1 x2 x3 xz;have HMK:Hid (∀w',ar w' X (iT q) (.slice am nm cm) (.slice av nv cv) (.slice ak ns cs)→(fun w':World=>w'.cell? ⟨X,0,none⟩=some (iT q)∧w'.cell? ⟨X,1,none⟩=some (.slice am nm cm)∧w'.cell? ⟨X,2,none⟩=some (.slice av nv cv)∧w'.cell? ⟨X,3,none⟩=some (.slice ak ns cs)∧X<w'.heap.size) w'):=fun w' b=>⟨b.c0,b.c1,b.c2,b.c3,b.lt⟩
      have S2:Hid (ku lo R a len cap (P+1) w w1.drew X (X+1) q am nm cm av nv cv ak ns cs):=S1.out.below (Below.refl _ w1).drew;refine Bd 14 HMK S2.out.bx fun aa=>?_
      generalize w1.drew=wd at aa S2 ⊢;refine r9 0 7 aa ?_;refine pS 7 fun K hK=>?_
      go_simp;refine (cF R (P+1) a len cap (ns:Int) _ S2.out.rd (by omega) (by omega)).mono ?_;rintro e w3 ⟨kc,rfl,hk,hRk,hgk⟩;have S3:Hid (ku lo R a len cap (P+1+1) w w3 X (X+1) q am nm cm av nv cv ak ns cs):=S2.out.read hgk hRk;have hkc:0≤kc∧(1≤((ns:Int):Int)→kc<(ns:Int)):=hk;clear hgk hRk hk S2;go_wp2_with fail
      refine hK.out _ _ (HMK.out _ S3.out.bx) fun aa=>?_
      (try go_frame);have hc0:0≤kc:=hkc.1;have hc1:kc<(ns:Int):=hkc.2 (by omega);obtain ⟨kn,rfl⟩:=Int.eq_ofNat_of_zero_le hc0;have hcn:kn<ns:=by omega
      obtain ⟨b,off,z,rfl,hz⟩:=HNS.out.2 _ S3.out.good kn hcn;have HZ:Hid (w3.cell? ⟨b,off+kn,none⟩=some (iT z)∧b<w3.heap.size):=hz;clear hz hkc;refine r9 8 1 aa ?_;refine pS 9 fun K hK=>?_
      have hz:=HZ.out.1;have hzl:=HZ.out.2;go_simp;clear hz hzl;refine hK.out _ _ (HMK.out _ S3.out.bx) fun aa=>?_
      (try go_frame);refine pS 10 fun K hK=>?_
      go_simp;refine (Bz lo _ z _ S3.out.good (Nat.le_trans S3.out.top.1 S3.out.low.size)).mono ?_;rintro e w9 hA;obtain ⟨q',am',nm',cm',av',nv',cv',ak',ns',cs',ok,rfl,hg9,hl9⟩:=hA.parts;obtain ⟨hbx,hS⟩:=S3.out.did hl9 hg9;have HS:=b6 hS;have HB9:Hid (ar w9 X (iT q) (.slice am nm cm) (.slice av nv cv) (sO b off ns cs)):=hbx;clear hS hA hg9 hl9 hbx;go_wp2_with fail
      refine hK.out _ _ (HMK.out _ HB9.out) fun aa=>?_
      (try go_frame);refine r9 11 2 aa ?_;refine B9 13 aa ?_;refine A7 14 fun K hK=>?_
      have x0:=HB9.out.c0;have x1:=HB9.out.c1;have x2:=HB9.out.c2;have x3:=HB9.out.c3;have xz:=HB9.out.lt;have xf:=HB9.out.fz;go_simp;refine hK.out _ _ ?_;clear hK K;(try go_frame);refine dZ ?_;clear x0 x1 x2 x3 xz xf aa HMK HB9;go_wp2;go_meet
      exact ⟨P+1+1,q',am',nm',cm',av',nv',cv',ak',ns',cs',HS.out,by omega⟩
    · have x0:=S1.out.bx.c0;have x1:=S1.out.bx.c1;have x2:=S1.out.bx.c2;have x3:=S1.out.bx.c3;have xz:=S1.out.bx.lt;obtain rfl:ns=0:=by omega
      go_wp2;go_meet
      exact ⟨P+1,_,_,_,_,_,_,_,_,_,_,S1.out,by omega⟩
  have kb5:(k == 5)=false:=by simpa using k5
  have HMK:Hid (∀w',ar w' X (iT q) (.slice am nm cm) (.slice av nv cv) (.slice ak ns cs)→(fun w':World=>w'.cell? ⟨X,0,none⟩=some (iT q)∧w'.cell? ⟨X,1,none⟩=some (.slice am nm cm)∧w'.cell? ⟨X,2,none⟩=some (.slice av nv cv)∧w'.cell? ⟨X,3,none⟩=some (.slice ak ns cs)∧X<w'.heap.size) w'):=fun w' b=>⟨b.c0,b.c1,b.c2,b.c3,b.lt⟩
  have S2:Hid (ku lo R a len cap (P+1) w w1.drew X (X+1) q am nm cm av nv cv ak ns cs):=S1.out.below (Below.refl _ w1).drew;go_upto_region 2 with fail
  refine Bd 7 HMK S2.out.bx fun aa=>?_
  generalize w1.drew=wd at aa S2 ⊢;refine r9 0 2 aa ?_;refine pS 2 fun K hK=>?_
  go_simp;refine (tk R (P+1) a len cap _ S2.out.rd (by omega)).mono ?_;rintro e w3 ⟨g,nb,cb,P',K3,rfl,hO,hF,hn,hR3,hP3,hg3⟩;have S3:Hid (ku lo R a len cap P' w w3 X (X+1) q am nm cm av nv cv ak ns cs):=S2.out.read hg3 hR3;have HE:Hid (aj w3 (pT g) nb cb K3):=hO.entsAt;clear hO hF hR3 hg3 S2;go_wp2_with fail
  refine hK.out _ _ (HMK.out _ S3.out.bx) fun aa=>?_
  (try go_frame);refine pS 3 fun K hK=>?_
  go_simp;refine (AZ lo _ _ _ _ K3 _ S3.out.good (Nat.le_trans S3.out.top.1 S3.out.low.size) HE.out (by omega)).mono ?_;rintro e w9 hA;obtain ⟨q',am',nm',cm',av',nv',cv',ak',ns',cs',ok,rfl,hg9,hl9⟩:=hA.parts;obtain ⟨hbx,hS⟩:=S3.out.did hl9 hg9;have HS:=b6 hS;have HB9:Hid (ar w9 X (iT q) (.slice am nm cm) (.slice av nv cv) (.slice ak ns cs)):=hbx;clear hS hA hg9 hl9 hbx;go_wp2_with fail
  refine hK.out _ _ (HMK.out _ HB9.out) fun aa=>?_
  (try go_frame);refine r9 4 2 aa ?_;refine B9 6 aa ?_;refine A7 7 fun K hK=>?_
  have x0:=HB9.out.c0;have x1:=HB9.out.c1;have x2:=HB9.out.c2;have x3:=HB9.out.c3;have xz:=HB9.out.lt;have xf:=HB9.out.fz;go_simp;refine hK.out _ _ ?_;clear hK K;(try go_frame);refine dZ ?_;clear x0 x1 x2 x3 xz xf aa HMK HB9;go_wp2;go_meet
  exact ⟨P',q',am',nm',cm',av',nv',cv',ak',ns',cs',HS.out,by omega⟩
 case rest =>
  obtain ⟨P',q,am,nm,cm,av,nv,cv,ak,ns,cs,hS,hP'⟩:=hcut;have S9:Hid (ku lo R a len cap P' w wc X (X+1) q am nm cm av nv cv ak ns cs):=hS;have x0:=hS.bx.c0;have x1:=hS.bx.c1;have x2:=hS.bx.c2;have x3:=hS.bx.c3;have xz:=hS.bx.lt;have r0:=hS.br.c0;have r1:=hS.br.c1;have r2:=hS.br.c2;have r3:=hS.br.c3;have rf:=hS.br.fz;have rz:=hS.br.lt;clear hS S1 k10;go_wp2;refine bodyPost_ret (v:=.agg #[iT q,.slice am nm cm,.slice av nv cv,.slice ak ns cs]) ?_ rfl ⟨_,P',rfl,S9.out.good.four S9.out.kx.2 S9.out.br,?_,hP',S9.out.low.four (by have:=S9.out.top;omega) (by have:=S9.out.top;omega) _ _ _ _⟩
  · have e:=(((S9.out.br.set0 (iT q)).set1 (.slice am nm cm)).set2 (.slice av nv cv)).set3 (.slice ak ns cs);simp [results,Tryz.results77,go_sem,e.c0,e.c1,e.c2,e.c3]
  · have ht:=S9.out.top;have hXR:X+1≠R:=by omega
    have hfar:∀b off,a=some ⟨b,off,none⟩→0<len→b≠X+1:=fun b off e hl=>by
     rcases ht.2.2.2.1 with h0 | h0
     · omega
     · have:=h0 b off e;omega
    exact (((S9.out.rd.other hXR hfar _ _).other hXR hfar _ _).other hXR hfar _ _).other hXR hfar _ _
theorem nW (p:Nat→Prop) (g:Nat) (w:World):de p w (pT g) 0 0 [] :=
 ⟨⟨rfl,Nat.le_refl _,Nat.zero_le _,fun _=>rfl,(fun _ _ h=>absurd h (Nat.lt_irrefl _)),fun _ _ _ h=>absurd h (Nat.not_lt_zero _)⟩,fun _ _ h=>absurd h (Nat.lt_irrefl _)⟩
def Bm (w:World) (e:Ending) (w':World):Prop:=∃v,e=.returned v∧cw w.heap.size w' v∧Bl w w'
theorem Cb (w:World):Calls Tryz.prog 136 #[] w (Bm w):=by
 go_enter Tryz.func136,Tryz.ntmps136
 go_wp2;refine bodyPost_ret (v:=.agg #[iT 0,nZ,sL (w.heap.size+1+1+1+1) 3 3,nZ]) (by simp [results,Tryz.results136,go_sem]) rfl ?_;obtain ⟨w0,hw0⟩:=aS (w.alloc (.cells #[iT 0,nZ,sL (w.heap.size+1+1+1+1) 3 3,nZ] 31));have k0:Bl w w0:=by rw [hw0];exact bZ
 have s0:w0.heap.size=w.heap.size+1:=by rw [hw0];simp
 rw [← hw0];clear hw0;obtain ⟨w1,hw1⟩:=aS (w0.alloc (.cells #[] 63));have h1:w1.heap[w.heap.size+1]?=some (.cells #[] 63 (0,0)):=by rw [hw1,← s0];unfold World.alloc;exact Array.getElem?_push_size
 have k1:Bl w0 w1:=by rw [hw1];exact bZ
 have s1:w1.heap.size=w.heap.size+1+1:=by rw [hw1];simp [s0]
 rw [← hw1];clear hw1;obtain ⟨w3,hw3⟩:=aS ((w1.alloc (.cells #[] 63)).alloc (.cells #[] 63));have k3:Bl w1 w3:=by rw [hw3];exact bZ.alloc (by simp) _
 have s3:w3.heap.size=w.heap.size+1+1+1+1:=by rw [hw3];simp [s1]
 rw [← hw3];clear hw3;have k4:Bl w3 (w3.alloc (.cells #[sL (w.heap.size+1) 0 0,sL (w.heap.size+1+1) 0 0,sL (w.heap.size+1+1+1) 0 0] 61)):=bZ;have hrow:=World.ownsRow_lit (base:=w.heap.size) (e:=61) (size:=1) w3 #[sL (w.heap.size+1) 0 0,sL (w.heap.size+1+1) 0 0,sL (w.heap.size+1+1+1) 0 0] 3 (by omega) (by unfold maxLen;omega) (by simp);rw [s3] at hrow;have hA:=((k3.trans (k4.mono k3.size)).block (w.heap.size+1) (by omega)).trans h1;have kk:=((k0.trans (k1.mono k0.size)).trans (k3.mono (Nat.le_trans k0.size k1.size))).trans (k4.mono (by omega));exact ⟨_,rfl,⟨0,none,0,0,w.heap.size+1+1+1+1,3,none,0,0,w.heap.size+1,0,w.heap.size+1+1,0,0,w.heap.size+1+1+1,0,0,[],[],[],[],[],rfl,⟨dV.none _ _,hrow,nY hA (by omega),nW _ _ _,nW _ _ _,⟨rfl,Nat.le_refl _,Nat.zero_le _,(fun _ h=>by cases h),(fun _=>rfl),(fun x e=>by cases e),(fun x e=>by cases e)⟩,fun x e=>by cases e⟩,by rfl⟩,kk⟩
def pw (v:Value):Prop:=∃q g1 nm c1 av nv cv g3 ns c3,v=.agg #[iT q,sL g1 nm c1,.slice av nv cv,sL g3 ns c3]
def Cd (lo:Nat) (w:World) (v:Value):Prop:=∃q am nm cm av nv cv ak ns cs M V S,v=.agg #[iT q,.slice am nm cm,.slice av nv cv,.slice ak ns cs]∧bf lo w am nm cm av nv cv ak ns cs M V S
def Ci (w:World) (e:Ending) (w':World):Prop:=∃q am nm cm av nv cv ak ns cs,e=.returned (.agg #[iT q,.slice am nm cm,.slice av nv cv,.slice ak ns cs])∧cw w.heap.size w' (.agg #[iT q,.slice am nm cm,.slice av nv cv,.slice ak ns cs])∧Bl w w'∧pw (.agg #[iT q,.slice am nm cm,.slice av nv cv,.slice ak ns cs])∧Cd w.heap.size w' (.agg #[iT q,.slice am nm cm,.slice av nv cv,.slice ak ns cs])
theorem zN (lo:Nat) (v:Value) (w:World) (h:cw lo w v):Calls Tryz.prog 57 #[v] w (Ci w):=by
 obtain ⟨q,am,nm,cm,G,c,ak,ns,cs,gA,dA,e1,n1,d1,e2,n2,d2,M,A,B,C,S,rfl,hT,htb⟩:=h;have hM:=(bh htb).2.2.1;have hS:=kO htb;have hml:=hT.mem.len;have hsl:=hT.sn.length;refine (gZ 0 q am _ ak nm cm 3 c ns cs M [A,B,C] S w hT.treeIn (by omega) (by omega) (by omega) (m9 htb)).mono ?_;rintro e w' ⟨g1,c1,G',c',g3,c3,rfl,hC,hb⟩;obtain ⟨gA',dA',gB,dB,gC,dC,hT'⟩:=hC.trS (Nat.le_refl _);exact ⟨q,_,_,_,_,_,_,_,_,_,rfl,⟨q,_,_,_,G',c',_,_,_,gA',dA',gB,_,dB,gC,_,dC,M,A,B,C,S,rfl,hT',htb⟩,hb,⟨q,_,_,_,_,_,_,_,_,_,rfl⟩,⟨q,_,_,_,_,_,_,_,_,_,_,_,_,rfl,hC.treeIn⟩⟩
def Cc (R:Nat) (a:Option Addr) (len cap P d:Nat) (w:World) (e:Ending) (w':World):Prop:=∃v P',e=.returned v∧cw w.heap.size w' v∧aW w' R a len cap P'∧P'≤P+d∧w.grownBy w' (some R)∧pw v∧Cd w.heap.size w' v
theorem xB {R:Option Nat} (h:gF w.heap.size R w w'):w.grownBy w' R:=⟨h.os,h.tape,h.output,h.size,fun k hk hn=>h.block k hk hn (.inl hk)⟩
def Ch (z:Int):Prop:=0≤z∧z≤24
theorem Bm.parts (h:Bm w e w'):∃q am nm cm av nv cv ak ns cs,e=.returned (.agg #[iT q,.slice am nm cm,.slice av nv cv,.slice ak ns cs])∧cw w.heap.size w' (.agg #[iT q,.slice am nm cm,.slice av nv cv,.slice ak ns cs])∧Bl w w':=by
 obtain ⟨v,rfl,hg,hl⟩:=h;obtain ⟨q,am,nm,cm,av,nv,cv,ak,ns,cs,rfl⟩:=hg.val;exact ⟨q,am,nm,cm,av,nv,cv,ak,ns,cs,rfl,hg,hl⟩
theorem Bq.parts {R d:Nat} (h:Bq lo R a len cap P d w e w'):∃q am nm cm av nv cv ak ns cs P',e=.returned (.agg #[iT q,.slice am nm cm,.slice av nv cv,.slice ak ns cs])∧cw lo w' (.agg #[iT q,.slice am nm cm,.slice av nv cv,.slice ak ns cs])∧aW w' R a len cap P'∧P'≤P+d∧gF lo (some R) w w':=by
 obtain ⟨v,P',rfl,hg,h1,h2,h3⟩:=h;obtain ⟨q,am,nm,cm,av,nv,cv,ak,ns,cs,rfl⟩:=hg.val;exact ⟨q,am,nm,cm,av,nv,cv,ak,ns,cs,P',rfl,hg,h1,h2,h3⟩
theorem oO (R P:Nat) (a:Option Addr) (len cap:Nat) (w:World) (h:aW w R a len cap P) (hlow:pK a len R) (hP:P<60000) :
 Calls Tryz.prog 74 #[.pointer (pT R)] w (Cc R a len cap P 6000 w):=by
 obtain ⟨Z,hZ⟩:=aS w.heap.size;obtain ⟨W,hW⟩:=aS (w.alloc (.cells #[iT 0,nZ,nZ,nZ] 31));have kW:Bl w W:=by rw [hW];exact bZ
 have br:ar W Z (iT 0) nZ nZ nZ∧an W Z 31 4:=by rw [hW,hZ];exact ⟨ar.new _ _ _ _ _ _,bU w #[iT 0,nZ,nZ,nZ] 31⟩
 have hRw:=h.lt;have HBR:Hid (ar W Z (iT 0) nZ nZ nZ∧an W Z 31 4∧w.heap.size≤Z):=⟨br.1,br.2,Nat.le_of_eq hZ.symm⟩;have HRD:Hid (aW W R a len cap P):=h.below kW;have HKW:Hid (Bl w W):=kW;have HLW:=b6 hlow;clear h hlow br kW;go_enter Tryz.func74,Tryz.ntmps74
 go_wp2_with fail
 rw [← hW,← hZ];clear hW hZ;refine (Cb W).mono ?_;rintro e w1 hN;obtain ⟨q,am,nm,cm,av,nv,cv,ak,ns,cs,rfl,hg1,hb1⟩:=hN.parts;obtain ⟨X,hX⟩:=aS w1.heap.size;obtain ⟨w2,hw2⟩:=aS (w1.alloc (.cells #[iT q,.slice am nm cm,.slice av nv cv,.slice ak ns cs] 31));have S0:Hid (ku w.heap.size R a len cap P w w2 X Z q am nm cm av nv cv ak ns cs):=by
  have k2:Bl w1 w2:=by rw [hw2];exact bZ
  have hZl:=HBR.out.1.lt;have hs1:=hb1.size;refine ⟨(HRD.out.below hb1).below k2,by rw [hw2,hX];exact ar.new _ _ _ _ _ _,(HBR.out.1.keep hb1).keep k2,⟨by rw [hw2,hX];exact bU w1 #[iT q,.slice am nm cm,.slice av nv cv,.slice ak ns cs] 31,(HBR.out.2.1.below hb1).below k2⟩,?_,gF.of ((HKW.out.trans (hb1.mono HKW.out.size)).trans (k2.mono (Nat.le_trans HKW.out.size hs1))),Nat.le_refl _,?_,hRw,HLW.out,HBR.out.2.2,?_⟩
  · obtain ⟨q',am',nm',cm',G,c,ak',ns',cs',gA,dA,e1,n1,d1,e2,n2,d2,M,A,B,C,S,e,hT,htb⟩:=hg1.below k2;exact ⟨q',am',nm',cm',G,c,ak',ns',cs',gA,dA,e1,n1,d1,e2,n2,d2,M,A,B,C,S,e,hT.mono HKW.out.size,htb⟩
  · rw [hX];exact Nat.le_trans HKW.out.size hs1
  · rw [hX];omega
 clear hN hg1 hb1 HBR HRD HKW;go_upto_region 2 with fail
 rw [← hw2,← hX];clear hw2 hX;go_wp2_with fail
 have kc:Bl w2 (w2.alloc (.cells ((([4,8,12,18,24,2,0]:List Int).map iT).toArray) 3)):=bZ;refine (dX Ch R P a len cap w2.heap.size 0 7 7 _ (S0.out.rd.below kc) (by omega) (by omega) (by omega) (by have:=S0.out.rd.lt;omega) (by simp) (dR w2 3 [4,8,12,18,24,2,0] Ch ?_)).mono ?_
 · intro s hs;simp only [List.mem_cons,List.not_mem_nil,or_false] at hs;rcases hs with rfl | rfl | rfl | rfl | rfl | rfl | rfl <;> (unfold Ch;omega)
 rintro e w3 ⟨z,rfl,hz,hR3,hg3⟩;have S3:Hid (ku w.heap.size R a len cap (P+1) w w3 X Z q am nm cm av nv cv ak ns cs):=(S0.out.below kc).read hg3 hR3;obtain ⟨N,rfl⟩:=Int.eq_ofNat_of_zero_le hz.1;have hN:N≤24:=by have:=hz.2;omega
 clear kc hR3 hg3 hz S0;go_wp2;go_loopw [4] (fun iv wr=>∃(i P':Nat) (q:Int) (am:Option Addr) (nm cm:Nat) (av:Option Addr) (nv cv:Nat) (ak:Option Addr) (ns cs:Nat),iv=iT (i:Int)∧i≤N∧P'≤P+1+210*(N - i)∧ku w.heap.size R a len cap P' w wr X Z q am nm cm av nv cv ak ns cs) (fun iv _=>(intOf iv).toNat)
 case atStart=>exact ⟨N,P+1,q,am,nm,cm,av,nv,cv,ak,ns,cs,rfl,Nat.le_refl _,by omega,S3.out⟩
 case round =>
  clear S3;obtain ⟨i,P',q1,am1,nm1,cm1,av1,nv1,cv1,ak1,ns1,cs1,rfl,hi,hP',hS⟩:=hrel;have S:Hid (ku w.heap.size R a len cap P' w wr X Z q1 am1 nm1 cm1 av1 nv1 cv1 ak1 ns1 cs1):=hS;have x0:=hS.bx.c0;have x1:=hS.bx.c1;have x2:=hS.bx.c2;have x3:=hS.bx.c3;have xz:=hS.bx.lt;clear hS;by_cases hlt:0<i
  · have hltI:(i:Int) > 0:=by omega
    have hwi:IntKind.i64.wrap ((i:Int) - 1)=(i:Int) - 1:=by rw [IntWalk.i64_left];unfold wrap64;omega
    have hPb:P'<80000:=by have:210*(N - i)≤210*24:=Nat.mul_le_mul_left _ (by omega);omega
    go_wp2_with fail
    clear x0 x1 x2 x3 xz;refine (qx R P' w.heap.size a len cap _ _ S.out.rd HLW.out hPb hRw S.out.low.size S.out.good).mono ?_;rintro e w4 hA;obtain ⟨q2,am2,nm2,cm2,av2,nv2,cv2,ak2,ns2,cs2,P2,rfl,hg4,hR4,hP4,hl4⟩:=hA.parts;obtain ⟨hbx,hS2⟩:=S.out.acted hl4 hR4 hg4;have S2:=b6 hS2;have x0:=hbx.c0;have x1:=hbx.c1;have x2:=hbx.c2;have x3:=hbx.c3;have xz:=hbx.lt;have xf:=hbx.fz;clear hA hg4 hR4 hl4 hS2 S hbx;go_wp2;go_roundw
    case rel =>
     have e3:N - (i - 1)=N - i+1:=by omega
     exact ⟨i - 1,P2,q2,am2,nm2,cm2,av2,nv2,cv2,ak2,ns2,cs2,by rw [show ((i - 1:Nat):Int)=(i:Int) - 1 by omega],by omega,by rw [e3,Nat.mul_add];omega,S2.out⟩
    case measure=>simp [intOf];omega
  · have hltI:¬(i:Int) > 0:=by omega
    have hPN:P'≤P+6000:=by have:210*(N - i)≤210*24:=Nat.mul_le_mul_left _ (by omega);omega
    go_wp2_with fail
    clear x0 x1 x2 x3 xz;refine (zN w.heap.size _ _ S.out.good).mono ?_;rintro e w5 ⟨q2,am2,nm2,cm2,av2,nv2,cv2,ak2,ns2,cs2,rfl,hg5,hb5,hsv,htB⟩;have HTB5:Hid (Cd wr.heap.size w5 (.agg #[iT q2,.slice am2 nm2 cm2,.slice av2 nv2 cv2,.slice ak2 ns2 cs2])):=htB;have HZR:Hid (Z<wr.heap.size):=S.out.br.lt;have HSV:Hid (pw (.agg #[iT q2,.slice am2 nm2 cm2,.slice av2 nv2 cv2,.slice ak2 ns2 cs2])):=hsv;have S5:Hid (ku w.heap.size R a len cap P' w w5 X Z q1 am1 nm1 cm1 av1 nv1 cv1 ak1 ns1 cs1):=S.out.below hb5;have HG5:Hid (cw wr.heap.size w5 (.agg #[iT q2,.slice am2 nm2 cm2,.slice av2 nv2 cv2,.slice ak2 ns2 cs2])):=hg5;have HSR:Hid (w.heap.size≤wr.heap.size):=S.out.low.size;have r0:=S5.out.br.c0;have r1:=S5.out.br.c1;have r2:=S5.out.br.c2;have r3:=S5.out.br.c3;have rf:=S5.out.br.fz;have rz:=S5.out.br.lt;clear hsv hg5 hb5 S htB;go_wp2;refine bodyPost_ret (v:=.agg #[iT q2,.slice am2 nm2 cm2,.slice av2 nv2 cv2,.slice ak2 ns2 cs2]) ?_ rfl ⟨_,P',rfl,?_,?_,hPN,?_,HSV.out,?_⟩
    · have e:=(((S5.out.br.set0 (iT q2)).set1 (.slice am2 nm2 cm2)).set2 (.slice av2 nv2 cv2)).set3 (.slice ak2 ns2 cs2);simp [results,Tryz.results74,go_sem,e.c0,e.c1,e.c2,e.c3]
    · obtain ⟨q',am',nm',cm',G,c,ak',ns',cs',gA,dA,e1,n1,d1,e2,n2,d2,M,A,B,C,T,e,hT,htb⟩:=HG5.out.four (q:=q2) (a1:=am2) (m1:=nm2) (k1:=cm2) (a2:=av2) (m2:=nv2) (k2:=cv2) (a3:=ak2) (m3:=ns2) (k3:=cs2) S5.out.kx.2 S5.out.br;exact ⟨q',am',nm',cm',G,c,ak',ns',cs',gA,dA,e1,n1,d1,e2,n2,d2,M,A,B,C,T,e,hT.mono HSR.out,htb⟩
    · have ht:=S5.out.top;have hZR:Z≠R:=by omega
      have hfar:∀b off,a=some ⟨b,off,none⟩→0<len→b≠Z:=fun b off e hl=>by
       rcases ht.2.2.2.1 with h0 | h0
       · omega
       · have:=h0 b off e;omega
      exact (((S5.out.rd.other hZR hfar _ _).other hZR hfar _ _).other hZR hfar _ _).other hZR hfar _ _
    · have ht:=S5.out.top;exact xB (S5.out.low.four ht.2.2.2.2.1 ht.2.2.2.2.1 _ _ _ _)
    · obtain ⟨q',am',nm',cm',av',nv',cv',ak',ns',cs',M,V,T,e,hT⟩:=HTB5.out;exact ⟨q',am',nm',cm',av',nv',cv',ak',ns',cs',M,V,T,e,(hT.same ((((dJ.of_set _ _ HZR.out).trans (dJ.of_set _ _ HZR.out)).trans (dJ.of_set _ _ HZR.out)).trans (dJ.of_set _ _ HZR.out))).lowR HSR.out⟩
end Go.Proofs.YtpobkmjicbobdaaGreat
