/- Walks. -/
import Derived.Test.YtpobkmjicbobdaaGreatBn26
namespace Go.Proofs.YtpobkmjicbobdaaGreat
set_option maxRecDepth 100000
set_option maxHeartbeats 40000000
open Go.RowKit
variable {L:List ac} {a:Option Addr} {c lo n:Nat} {w:World}
theorem vV (a:Option Addr) (n c:Nat) (K:List ac) (q:Int) (w:World) (hK:aj w a n c K) (hn:n≤1048576) (hq0:0≤q) (hq1:q≤100000) :
 Calls Tryz.prog 158 #[.slice a n c,iT q] w fun e w'=>jk q K n w e w':=by
 have HK:=b6 hK;have HKL:Hid (K.length=n):=hK.length;clear hK;obtain ⟨i0,hi,hz0,hz1,hz2⟩:=info_parts Tryz.infoEnt;have HE0:Hid ((w.alloc (.cells #[] 50)).ownsRow w.heap.size 50 5 (sL (w.heap.size) 0 0) 0 (aE (fa q (K.take 0)))):=by
  have:=World.ownsRow_lit (base:=w.heap.size) (e:=50) (size:=5) w #[] 0 (Nat.le_refl _) (by simp) (by simp);show World.ownsRow _ _ _ _ _ _ _
  simpa [fa,aE] using this
 have hB0:Bl w (w.alloc (.cells #[] 50)):=bZ;go_enter Tryz.func158,Tryz.ntmps158
 go_wp2;go_loopw [6,7] (fun vv iv wr=>∃i:Nat,i≤n∧iv=iT i∧(∃g c',vv=sL g i c')∧wr.ownsRow w.heap.size 50 5 vv i (aE (fa q (K.take i)))∧(∀l ∈ fa q (K.take i),ec l)∧(∀j,j<i→mR q K j=true)∧Bl w wr) (fun _ iv _=>n - (intOf iv).toNat)
 case atStart=>exact ⟨0,Nat.zero_le _,rfl,⟨_,_,rfl⟩,HE0.out,(by simp [fa]),(fun j hj=>absurd hj (Nat.not_lt_zero _)),hB0⟩
 case round =>
  clear HE0 hB0;obtain ⟨i,hin,rfl,⟨gv,cv,rfl⟩,hv,hw,hst,hb⟩:=hrel;have HV:Hid (wr.ownsRow w.heap.size 50 5 (sL gv i cv) i (aE (fa q (K.take i)))):=hv;have HW:Hid (∀l ∈ fa q (K.take i),ec l):=hw;have HST:Hid (∀j,j<i→mR q K j=true):=hst;have HB:Hid (Bl w wr):=hb;have hbz:=hb.size;clear hv hw hst;by_cases hlt:i<n
  · have hltI:(i:Int)<(n:Int):=by omega
    obtain ⟨b,off,rfl,hbb⟩:=HK.out.form (by omega);obtain ⟨s,q0,d,t,m,hg,hlw,g0,g1,g2,g3,g4⟩:=HK.out.ent hb hbb i hlt;have HG:Hid (K[i]?=some (s,q0,d,t,m)):=hg;have HLW:Hid (ec (s,q0,d,t,m)):=hlw;have hbr:b<wr.heap.size:=Nat.lt_of_lt_of_le hbb hb.size;clear hg hlw hb;by_cases h0:q0=0
    · subst h0;have e1:IntKind.i64.wrap (q+1)=q+1:=by rw [IntWalk.i64_left];unfold wrap64;omega
      have e2:IntKind.i64.wrap (q+1+(i:Int))=q+1+(i:Int):=by rw [IntWalk.i64_left];unfold wrap64;omega
      obtain ⟨Q,hQ⟩:∃Q:Int,Q=q+1+(i:Int):=⟨_,rfl⟩;have HQ:Hid (Q=q+1+(i:Int)):=hQ;obtain ⟨wq,hwq⟩:=aS (wr.alloc (.cells #[.string s,iT (q+1+(i:Int)),iT d,.string t,iT m] 50));obtain ⟨Bx,hBx⟩:=aS wr.heap.size;have kq:Bl wr wq:=by rw [hwq];exact bZ
      have b5:wq.cell? ⟨Bx,0,none⟩=some (.string s)∧wq.cell? ⟨Bx,1,none⟩=some (iT Q)∧wq.cell? ⟨Bx,2,none⟩=some (iT d)∧wq.cell? ⟨Bx,3,none⟩=some (.string t)∧wq.cell? ⟨Bx,4,none⟩=some (iT m)∧Bx<wq.heap.size:=by
       rw [hwq,hBx,hQ];refine ⟨?_,?_,?_,?_,?_,?_⟩ <;> simp
      have B5:Hid (wq.cell? ⟨Bx,0,none⟩=some (.string s)∧wq.cell? ⟨Bx,1,none⟩=some (iT Q)∧wq.cell? ⟨Bx,2,none⟩=some (iT d)∧wq.cell? ⟨Bx,3,none⟩=some (.string t)∧wq.cell? ⟨Bx,4,none⟩=some (iT m)∧Bx<wq.heap.size):=b5;obtain ⟨O,hO⟩:=aS (cX s Q d t m);have CE:Hid (Calls Tryz.prog 143 #[.agg #[.string s,iT Q,iT d,.string t,iT m]] wq fun e w'=>e=.returned (.bool O)∧Bl wq w'):=by rw [hO];exact re s t Q d m wq HLW.out.1 HLW.out.2.2.2.1
      have HOA:Hid (mR q K i=O):=by
       show mR q K i=O
       rw [Bs HG.out rfl,hO,hQ]
      have HBQ:Hid (Bl w wq):=HB.out.trans (kq.mono HB.out.size);have HVQ:Hid (wq.ownsRow w.heap.size 50 5 (sL gv i cv) i (aE (fa q (K.take i)))):=bF HV.out kq;have HWE:Hid (ec (s,Q,d,t,m)):=⟨HLW.out.1,(by rw [hQ];exact WalkArith.wf_i64 (by omega):(Lit.int .i64 Q).wf=true),HLW.out.2.2⟩;clear kq b5 hO;go_upto_region 9 with fail
      rw [← hwq];try rw [← hBx]
      try rw [← hQ]
      clear hwq hBx hQ;obtain ⟨y0,y1,y2,y3,y4,yz⟩:=B5.out;go_wp2_with fail
      clear y0 y1 y2 y3 y4 yz g0 g1 g2 g3 g4;refine CE.out.mono ?_;rintro e w1 ⟨rfl,hb1⟩;have HB1:Hid (Bl w w1):=HBQ.out.trans (hb1.mono HBQ.out.size);have HV1:Hid (w1.ownsRow w.heap.size 50 5 (sL gv i cv) i (aE (fa q (K.take i)))):=bF HVQ.out hb1;obtain ⟨y0,y1,y2,y3,y4,yz⟩:=B5.out;have y0:=cell_later hb1 y0;have y1:=cell_later hb1 y1;have y2:=cell_later hb1 y2;have y3:=cell_later hb1 y3;have y4:=cell_later hb1 y4;have yz:=Nat.lt_of_lt_of_le yz hb1.size;have hb1z:=HB1.out.size;clear hb1;cases O with
      | false =>
       have HNO:Hid (eO q K=false):=sd (i:=i) (by rw [HKL.out];exact hlt) HOA.out;go_wp2;exact bodyPost_ret (v:=.tuple #[sL gv i cv,.bool false]) (by simp [results,Tryz.results158,go_sem]) rfl (show jk q K _ w _ _ from ⟨_,_,rfl,(fun h=>by rw [HNO.out] at h;cases h),fun _=>⟨rfl,_,_,_,fa q (K.take i),rfl,ay.entsAt ⟨HV1.out,by rw [fC,List.length_take,HKL.out];omega,HW.out⟩⟩,HB1.out⟩)
      | true =>
       have hcn:∀j u,[Value.string s,iT Q,iT d,.string t,iT m][j]?=some u→(w1.alloc (.cells #[.string s,iT Q,iT d,.string t,iT m] 50)).cell? ((⟨w1.heap.size,0,none⟩:Addr).add j)=some u:=pZ w1 s Q d t m;have HCN:=b6 hcn;have ka:Bl w1 (w1.alloc (.cells #[.string s,iT Q,iT d,.string t,iT m] 50)):=bZ;have HVA:Hid ((w1.alloc (.cells #[.string s,iT Q,iT d,.string t,iT m] 50)).ownsRow w.heap.size 50 5 (sL gv i cv) i (aE (fa q (K.take i)))):=bF HV1.out ka;have HBA:Hid (Bl w (w1.alloc (.cells #[.string s,iT Q,iT d,.string t,iT m] 50))):=HB1.out.trans (ka.mono HB1.out.size);clear hcn ka;go_wp2_with (at_builtin;refine wpList_append_own _ rfl _ _ 28 rfl w.heap.size 50 i0 _ 5 56 Tryz.underlying28 hi hz0 hz1 hz2 rfl (by decide) _ _ _ rfl HVA.out ⟨w1.heap.size,0,none⟩ 1 1 [.string s,iT Q,iT d,.string t,iT m] rfl rfl HCN.out (by intro u hu;simp at hu;rcases hu with rfl | rfl | rfl | rfl | rfl <;> rfl) (by unfold maxLen;omega) (by omega) HBA.out.size ?_;intro v2 w2 hown2 hgrow2 hnil2;obtain ⟨g2,c2,rfl⟩:=aG hown2 hnil2)
       go_roundw
       case rel =>
        have e3:fa q (K.take (i+1))=fa q (K.take i)++[(s,Q,d,t,m)]:=by
         rw [yt HG.out,HQ.out];rfl
        refine ⟨i+1,by omega,by go_num,⟨_,_,rfl⟩,?_,?_,?_,?_⟩
        · rw [e3,aU];exact hown2
        · rw [e3];intro l hl;rcases List.mem_append.1 hl with h | h
          · exact HW.out l h
          · rw [List.mem_singleton] at h;subst h;exact HWE.out
        · intro j hj;by_cases hji:j<i
          · exact HST.out j hji
          · rw [show j=i by omega];exact HOA.out
        · exact HBA.out.grown hgrow2 HBA.out.size (fun k e=>(HVA.out.lt k e).1)
       case measure=>simp [intOf];omega
    · have HNO:Hid (eO q K=false):=sd (i:=i) (by rw [HKL.out];exact hlt) (A5 HG.out h0);have h0b:(q0 == 0)=false:=by simpa using h0
      have h0d:decide (q0=0)=false:=decide_eq_false h0;have HVN:Hid ((wr.alloc (.cells #[.string s,iT q0,iT d,.string t,iT m] 50)).ownsRow w.heap.size 50 5 (sL gv i cv) i (aE (fa q (K.take i)))):=bF HV.out bZ;have HBN:Hid (Bl w (wr.alloc (.cells #[.string s,iT q0,iT d,.string t,iT m] 50))):=HB.out.alloc HB.out.size _;go_wp2;exact bodyPost_ret (v:=.tuple #[sL gv i cv,.bool false]) (by simp [results,Tryz.results158,go_sem]) rfl (show jk q K _ w _ _ from ⟨_,_,rfl,(fun h=>by rw [HNO.out] at h;cases h),fun _=>⟨rfl,_,_,_,fa q (K.take i),rfl,ay.entsAt ⟨HVN.out,by rw [fC,List.length_take,HKL.out];omega,HW.out⟩⟩,HBN.out⟩)
  · have hltI:¬(i:Int)<(n:Int):=by omega
    obtain rfl:i=n:=by omega
    have HYES:Hid (eO q K=true):=vS HKL.out HST.out;have HFIN:=HV.out;rw [List.take_of_length_le (by rw [HKL.out];omega)] at HFIN;have hwl:=HW.out;rw [List.take_of_length_le (by rw [HKL.out];omega)] at hwl;have hsl:(fa q K).length=i:=by rw [fC,HKL.out]
    have HRES:Hid (ay wr w.heap.size gv i cv (fa q K)):=⟨HFIN,hsl,hwl⟩;clear HFIN hwl hsl;by_cases h1:1≤i
    · have h1I:(i:Int) ≥ 1:=by omega
      by_cases h12:i≤12
      · have h12I:(i:Int)≤12:=by omega
        go_wp2;exact bodyPost_ret (v:=.tuple #[sL gv i cv,.bool true]) (by simp [results,Tryz.results158,go_sem]) rfl (show jk q K _ w _ _ from ⟨_,_,rfl,(fun _=>⟨⟨gv,cv,rfl,HRES.out⟩,by simp [h1,h12]⟩),(fun h=>by rw [HYES.out] at h;cases h),HB.out⟩)
      · have h12I:¬(i:Int)≤12:=by omega
        go_wp2;exact bodyPost_ret (v:=.tuple #[sL gv i cv,.bool false]) (by simp [results,Tryz.results158,go_sem]) rfl (show jk q K _ w _ _ from ⟨_,_,rfl,(fun _=>⟨⟨gv,cv,rfl,HRES.out⟩,by simp [h1,h12]⟩),(fun h=>by rw [HYES.out] at h;cases h),HB.out⟩)
    · have h1I:¬(i:Int) ≥ 1:=by omega
      go_wp2;exact bodyPost_ret (v:=.tuple #[sL gv i cv,.bool false]) (by simp [results,Tryz.results158,go_sem]) rfl (show jk q K _ w _ _ from ⟨_,_,rfl,(fun _=>⟨⟨gv,cv,rfl,HRES.out⟩,by simp [h1]⟩),(fun h=>by rw [HYES.out] at h;cases h),HB.out⟩)
theorem yx (s t:ByteArray) (q d n:Int) (w:World) (hE:ec (s,q,d,t,n)) :
 Calls Tryz.prog 159 #[nZ,.agg #[.string s,iT q,iT d,.string t,iT n]] w fun e w'=>∃g c,e=.returned (sL g 1 c)∧ay w' w.heap.size g 1 c [(s,q,d,t,n)]∧Bl w w':=by
 have HEW:=b6 hE;obtain ⟨X,hX⟩:=aS w.heap.size;obtain ⟨W,hW⟩:=aS (w.alloc (.cells #[.string s,iT q,iT d,.string t,iT n] 50));have x0:W.cell? ⟨X,0,none⟩=some (.string s):=by rw [hW,hX];simp
 have x1:W.cell? ⟨X,1,none⟩=some (iT q):=by rw [hW,hX];simp
 have x2:W.cell? ⟨X,2,none⟩=some (iT d):=by rw [hW,hX];simp
 have x3:W.cell? ⟨X,3,none⟩=some (.string t):=by rw [hW,hX];simp
 have x4:W.cell? ⟨X,4,none⟩=some (iT n):=by rw [hW,hX];simp
 have kW:Bl w W:=by rw [hW];exact bZ
 have hWs:w.heap.size+1≤W.heap.size:=by rw [hW];simp
 have HXW:Hid (X=w.heap.size):=hX;have HKW:Hid (Bl w W):=kW;have HWS:Hid (w.heap.size+1≤W.heap.size):=hWs;obtain ⟨i0,hi,hz0,hz1,hz2⟩:=info_parts Tryz.infoEnt;go_enter Tryz.func159,Tryz.ntmps159
 go_upto_block 0 with fail
 rw [← hW,← hX];clear hW hX kW hWs hE;go_cut [5] (fun kv wz=>kv=iT 0∧Bl W wz)
 case first =>
  go_wp2_with fail
  go_loopw [5] (fun kv wr=>kv=iT 0∧Bl W wr) (fun _ _=>0)
  case atStart=>exact ⟨rfl,Below.refl _ _⟩
  case round =>
   obtain ⟨rfl,hb⟩:=hrel;have y0:=cell_later hb x0;have y1:=cell_later hb x1;have y2:=cell_later hb x2;have y3:=cell_later hb x3;have y4:=cell_later hb x4;have k0:Bl wr wr.drew:=(Below.refl _ wr).drew;have HMK:Hid (∀w',Bl wr w'→(w'.cell? ⟨X,0,none⟩=some (.string s)∧w'.cell? ⟨X,1,none⟩=some (iT q)∧w'.cell? ⟨X,2,none⟩=some (iT d)∧w'.cell? ⟨X,3,none⟩=some (.string t)∧w'.cell? ⟨X,4,none⟩=some (iT n)∧X<w'.heap.size)):=fun w' kk=>⟨cell_later kk y0,cell_later kk y1,cell_later kk y2,cell_later kk y3,cell_later kk y4,World.block_lt_of_cell? _ _ (cell_later kk y0)⟩
   go_wp2_with fail
   refine eC HMK k0 fun aa=>?_
   refine aO 0 9 aa ?_;refine aI 9 fun K hK=>?_
   go_simp;refine hK.out _ _ (HMK.out _ k0) fun aa=>?_
   refine aO 10 1 aa ?_;refine dN ?_;have KZ:Hid (Bl W wr.drew):=hb.trans (k0.mono hb.size);clear k0 HMK aa y0 y1 y2 y3 y4 hb;go_wp2;go_meet
   exact ⟨rfl,KZ.out⟩
 case rest =>
  obtain ⟨rfl,kz⟩:=hcut;obtain ⟨wz,hwz⟩:=aS wc;rw [← hwz] at kz ⊢;clear hwz;have kzw:Bl w wz:=HKW.out.trans (kz.mono HKW.out.size);have hzs:w.heap.size+1≤wz.heap.size:=Nat.le_trans HWS.out kz.size;have z0:=cell_later kz x0;have z1:=cell_later kz x1;have z2:=cell_later kz x2;have z3:=cell_later kz x3;have z4:=cell_later kz x4;have kt:Bl wz (wz.alloc (.cells #[] 50)):=bZ;have HT0:Hid (ay (wz.alloc (.cells #[] 50)) (w.heap.size+1) wz.heap.size 0 0 []):=bQ wz _ hzs;have HS0:Hid (fm w (wz.alloc (.cells #[] 50)) X wz.heap.size 0 0 s t q d n []):=⟨kzw.trans (kt.mono kzw.size),Nat.le_trans hzs kt.size,cell_later kt z0,cell_later kt z1,cell_later kt z2,cell_later kt z3,cell_later kt z4,HT0.out⟩;clear kz z0 z1 z2 z3 z4 kt kzw;go_upto_region 4 with fail
  go_cut [6] (fun tv wt=>∃gt ct,tv=sL gt 0 ct∧fm w wt X gt 0 ct s t q d n [])
  case first =>
   go_wp2;go_meet
   exact ⟨wz.heap.size,0,rfl,HS0.out⟩
  case rest =>
   obtain ⟨gt,ct,rfl,hst⟩:=hcut;obtain ⟨wt,hwt⟩:=aS wc;rw [← hwt] at hst ⊢;have k0:fm w wt.drew X gt 0 ct s t q d n []:=hst.below (Below.refl _ wt).drew;clear hwt hst HT0 HS0 hzs;have HMK:Hid (∀w',fm w w' X gt 0 ct s t q d n []→(w'.cell? ⟨X,0,none⟩=some (.string s)∧w'.cell? ⟨X,1,none⟩=some (iT q)∧w'.cell? ⟨X,2,none⟩=some (iT d)∧w'.cell? ⟨X,3,none⟩=some (.string t)∧w'.cell? ⟨X,4,none⟩=some (iT n)∧X<w'.heap.size)):=fun w' kk=>⟨kk.x0,kk.x1,kk.x2,kk.x3,kk.x4,kk.lt⟩
   go_wp2_with fail
   refine eC HMK k0 fun aa=>?_
   generalize wt.drew=wd at k0 aa ⊢;refine aO 1 3 aa ?_;refine aO 5 1 aa ?_;refine aO 8 1 aa ?_;have hgt:=k0.tl.lt.2;refine iU 0 6 (fun K hK=>?_) (fun K hK=>?_)
   · go_simp;have kA:Bl wd (wd.alloc (.cells #[] 50)):=bZ;have sA:=k0.below kA;have hne:gt≠wd.heap.size:=by omega
     have rA:ay (wd.alloc (.cells #[] 50)) (w.heap.size+1) wd.heap.size 0 0 []:=bQ wd _ k0.hi;generalize wd.heap.size=ga at rA hne ⊢;generalize wd.alloc (.cells #[] 50)=wa at sA rA ⊢;clear kA;refine hK.out _ _ (HMK.out _ sA) fun aa=>?_
     (try go_frame);refine iU 4 6 (fun K hK=>?_) (fun K hK=>?_)
     · go_simp;refine hK.out _ _ (HMK.out _ sA) fun aa=>?_
       (try go_frame);refine aI 6 fun K hK=>?_
       go_simp;have kN:Bl wa (wa.alloc (.cells #[.string s,iT q,iT d,.string t,iT n] 50)):=bZ;have sN:=sA.below kN;have rN:aj (wa.alloc (.cells #[.string s,iT q,iT d,.string t,iT n] 50)) (some ⟨wa.heap.size,0,none⟩) 1 1 [(s,q,d,t,n)]:=dF wa _ _ _ _ _ HEW.out;have rB:=rA.below kN;have hgn:ga≠wa.heap.size:=by have:=rA.lt.2;omega
       generalize wa.heap.size=gn at rN hgn ⊢;generalize wa.alloc (.cells #[.string s,iT q,iT d,.string t,iT n] 50)=wn at sN rN rB ⊢;clear kN;refine hK.out _ _ (HMK.out _ sN) fun aa=>?_
       (try go_frame);refine aI 7 fun K hK=>?_
       refine ax rfl (.tmp 31) (.tmp 33) 28 rfl (w.heap.size+1) 50 i0 _ 5 56 Tryz.underlying28 hi hz0 hz1 hz2 rfl (Nat.succ_pos 4) _ _ _ rfl rB.owns ⟨gn,0,none⟩ 1 1 (aE [(s,q,d,t,n)]) rfl rfl (bO rN) (aQ _) (by decide) (by decide) sN.hi ?_;intro v7 w7 hown7 hgrow7 hnil7;obtain ⟨g7,c7,rfl⟩:=aG hown7 hnil7;have hgrow7':wn.grownBy w7 (some ga):=hgrow7;have s7:=sN.grown hgrow7' (by have:=rB.lt.1;omega) (by have:=rB.lt.1;have:=HXW.out;omega) hne;have r7:ay w7 (w.heap.size+1) g7 1 c7 [(s,q,d,t,n)]:=⟨hown7,rfl,fun l hl=>by simp only [List.mem_singleton] at hl;subst hl;exact HEW.out⟩;refine hK.out _ _ (HMK.out _ s7) fun aa=>?_
       (try go_frame);refine aI 9 fun K hK=>?_
       refine ax rfl (.tmp 34) (.tmp 35) 28 rfl (w.heap.size+1) 50 i0 _ 5 56 Tryz.underlying28 hi hz0 hz1 hz2 rfl (Nat.succ_pos 4) _ _ _ rfl r7.owns ⟨gt,0,none⟩ 0 ct [] rfl rfl (fun _ _ h=>by cases h) (fun _ h=>by cases h) (by decide) (by decide) s7.hi ?_;intro v9 w9 hown9 hgrow9 hnil9;obtain ⟨g9,c9,rfl⟩:=aG hown9 hnil9;have hgrow9':w7.grownBy w9 (some g7):=hgrow9;have hb9:Bl w w9:=s7.low.grown hgrow9' s7.low.size (fun k e=>by cases e;have:=r7.lt.1;omega);have HO9:Hid (ay w9 w.heap.size g9 1 c9 [(s,q,d,t,n)]):=ay.mono (base:=w.heap.size+1) ⟨hown9,rfl,r7.ents⟩ (by omega);have HB9:Hid (Bl w w9):=hb9;refine hK.out _ _ ?_ (fun aa=>?_)
       · have n9:X≠g7:=by have:=r7.lt.1;have:=HXW.out;omega
         exact ⟨(ah hgrow9' (x:=⟨X,0,none⟩) s7.lt n9).trans s7.x0,(ah hgrow9' (x:=⟨X,1,none⟩) s7.lt n9).trans s7.x1,(ah hgrow9' (x:=⟨X,2,none⟩) s7.lt n9).trans s7.x2,(ah hgrow9' (x:=⟨X,3,none⟩) s7.lt n9).trans s7.x3,(ah hgrow9' (x:=⟨X,4,none⟩) s7.lt n9).trans s7.x4,Nat.lt_of_lt_of_le s7.lt hgrow9.size⟩
       clear hK K;(try go_frame);refine aO 10 1 aa ?_;refine dN ?_;clear hown9 hgrow9 hnil9 hown7 hgrow7 hnil7 r7 s7 hb9;go_wp2;go_ret;exact ⟨g9,c9,rfl,HO9.out,HB9.out⟩
     · go_simp;have kN:Bl wa (wa.alloc (.cells #[.string s,iT q,iT d,.string t,iT n] 50)):=bZ;have sN:=sA.below kN;have rN:aj (wa.alloc (.cells #[.string s,iT q,iT d,.string t,iT n] 50)) (some ⟨wa.heap.size,0,none⟩) 1 1 [(s,q,d,t,n)]:=dF wa _ _ _ _ _ HEW.out;have rB:=rA.below kN;have hgn:ga≠wa.heap.size:=by have:=rA.lt.2;omega
       generalize wa.heap.size=gn at rN hgn ⊢;generalize wa.alloc (.cells #[.string s,iT q,iT d,.string t,iT n] 50)=wn at sN rN rB ⊢;clear kN;refine hK.out _ _ (HMK.out _ sN) fun aa=>?_
       (try go_frame);refine aI 4 fun K hK=>?_
       go_simp;refine hK.out _ _ (HMK.out _ sN) fun aa=>?_
       (try go_frame);refine aI 7 fun K hK=>?_
       refine ax rfl (.tmp 31) (.tmp 33) 28 rfl (w.heap.size+1) 50 i0 _ 5 56 Tryz.underlying28 hi hz0 hz1 hz2 rfl (Nat.succ_pos 4) _ _ _ rfl rB.owns ⟨gn,0,none⟩ 1 1 (aE [(s,q,d,t,n)]) rfl rfl (bO rN) (aQ _) (by decide) (by decide) sN.hi ?_;intro v7 w7 hown7 hgrow7 hnil7;obtain ⟨g7,c7,rfl⟩:=aG hown7 hnil7;have hgrow7':wn.grownBy w7 (some ga):=hgrow7;have s7:=sN.grown hgrow7' (by have:=rB.lt.1;omega) (by have:=rB.lt.1;have:=HXW.out;omega) hne;have r7:ay w7 (w.heap.size+1) g7 1 c7 [(s,q,d,t,n)]:=⟨hown7,rfl,fun l hl=>by simp only [List.mem_singleton] at hl;subst hl;exact HEW.out⟩;refine hK.out _ _ (HMK.out _ s7) fun aa=>?_
       (try go_frame);refine aI 9 fun K hK=>?_
       refine ax rfl (.tmp 34) (.tmp 35) 28 rfl (w.heap.size+1) 50 i0 _ 5 56 Tryz.underlying28 hi hz0 hz1 hz2 rfl (Nat.succ_pos 4) _ _ _ rfl r7.owns ⟨gt,0,none⟩ 0 ct [] rfl rfl (fun _ _ h=>by cases h) (fun _ h=>by cases h) (by decide) (by decide) s7.hi ?_;intro v9 w9 hown9 hgrow9 hnil9;obtain ⟨g9,c9,rfl⟩:=aG hown9 hnil9;have hgrow9':w7.grownBy w9 (some g7):=hgrow9;have hb9:Bl w w9:=s7.low.grown hgrow9' s7.low.size (fun k e=>by cases e;have:=r7.lt.1;omega);have HO9:Hid (ay w9 w.heap.size g9 1 c9 [(s,q,d,t,n)]):=ay.mono (base:=w.heap.size+1) ⟨hown9,rfl,r7.ents⟩ (by omega);have HB9:Hid (Bl w w9):=hb9;refine hK.out _ _ ?_ (fun aa=>?_)
       · have n9:X≠g7:=by have:=r7.lt.1;have:=HXW.out;omega
         exact ⟨(ah hgrow9' (x:=⟨X,0,none⟩) s7.lt n9).trans s7.x0,(ah hgrow9' (x:=⟨X,1,none⟩) s7.lt n9).trans s7.x1,(ah hgrow9' (x:=⟨X,2,none⟩) s7.lt n9).trans s7.x2,(ah hgrow9' (x:=⟨X,3,none⟩) s7.lt n9).trans s7.x3,(ah hgrow9' (x:=⟨X,4,none⟩) s7.lt n9).trans s7.x4,Nat.lt_of_lt_of_le s7.lt hgrow9.size⟩
       clear hK K;(try go_frame);refine aO 10 1 aa ?_;refine dN ?_;clear hown9 hgrow9 hnil9 hown7 hgrow7 hnil7 r7 s7 hb9;go_wp2;go_ret;exact ⟨g9,c9,rfl,HO9.out,HB9.out⟩
   · go_simp;have kN:Bl wd (wd.alloc (.cells #[.string s,iT q,iT d,.string t,iT n] 50)):=bZ;have sN:=k0.below kN;have rN:aj (wd.alloc (.cells #[.string s,iT q,iT d,.string t,iT n] 50)) (some ⟨wd.heap.size,0,none⟩) 1 1 [(s,q,d,t,n)]:=dF wd _ _ _ _ _ HEW.out;have hgn9:gt<(wd.alloc (.cells #[.string s,iT q,iT d,.string t,iT n] 50)).heap.size:=by rw [World.size_alloc];omega
     generalize wd.heap.size=gn at rN ⊢;generalize wd.alloc (.cells #[.string s,iT q,iT d,.string t,iT n] 50)=wn at sN rN hgn9 ⊢;clear kN;refine hK.out _ _ (HMK.out _ sN) fun aa=>?_
     (try go_frame);refine aI 0 fun K hK=>?_
     go_simp;have kA:Bl wn (wn.alloc (.cells #[] 50)):=bZ;have sA:=sN.below kA;have hne:gt≠wn.heap.size:=by omega
     have rA:ay (wn.alloc (.cells #[] 50)) (w.heap.size+1) wn.heap.size 0 0 []:=bQ wn _ sN.hi;have rM:=rN.keep kA;have hgn:wn.heap.size≠gn:=by have h1:gn<wn.heap.size:=(rN.lies _ rfl (by decide)).1;omega
     generalize wn.heap.size=ga at rA hgn hne ⊢;generalize wn.alloc (.cells #[] 50)=wa at sA rA rM ⊢;clear kA;refine hK.out _ _ (HMK.out _ sA) fun aa=>?_
     (try go_frame);refine aI 4 fun K hK=>?_
     go_simp;refine hK.out _ _ (HMK.out _ sA) fun aa=>?_
     (try go_frame);refine aI 7 fun K hK=>?_
     refine ax rfl (.tmp 31) (.tmp 33) 28 rfl (w.heap.size+1) 50 i0 _ 5 56 Tryz.underlying28 hi hz0 hz1 hz2 rfl (Nat.succ_pos 4) _ _ _ rfl rA.owns ⟨gn,0,none⟩ 1 1 (aE [(s,q,d,t,n)]) rfl rfl (bO rM) (aQ _) (by decide) (by decide) sA.hi ?_;intro v7 w7 hown7 hgrow7 hnil7;obtain ⟨g7,c7,rfl⟩:=aG hown7 hnil7;have hgrow7':wa.grownBy w7 (some ga):=hgrow7;have s7:=sA.grown hgrow7' (by have:=rA.lt.1;omega) (by have:=rA.lt.1;have:=HXW.out;omega) hne;have r7:ay w7 (w.heap.size+1) g7 1 c7 [(s,q,d,t,n)]:=⟨hown7,rfl,fun l hl=>by simp only [List.mem_singleton] at hl;subst hl;exact HEW.out⟩;refine hK.out _ _ (HMK.out _ s7) fun aa=>?_
     (try go_frame);refine aI 9 fun K hK=>?_
     refine ax rfl (.tmp 34) (.tmp 35) 28 rfl (w.heap.size+1) 50 i0 _ 5 56 Tryz.underlying28 hi hz0 hz1 hz2 rfl (Nat.succ_pos 4) _ _ _ rfl r7.owns ⟨gt,0,none⟩ 0 ct [] rfl rfl (fun _ _ h=>by cases h) (fun _ h=>by cases h) (by decide) (by decide) s7.hi ?_;intro v9 w9 hown9 hgrow9 hnil9;obtain ⟨g9,c9,rfl⟩:=aG hown9 hnil9;have hgrow9':w7.grownBy w9 (some g7):=hgrow9;have hb9:Bl w w9:=s7.low.grown hgrow9' s7.low.size (fun k e=>by cases e;have:=r7.lt.1;omega);have HO9:Hid (ay w9 w.heap.size g9 1 c9 [(s,q,d,t,n)]):=ay.mono (base:=w.heap.size+1) ⟨hown9,rfl,r7.ents⟩ (by omega);have HB9:Hid (Bl w w9):=hb9;refine hK.out _ _ ?_ (fun aa=>?_)
     · have n9:X≠g7:=by have:=r7.lt.1;have:=HXW.out;omega
       exact ⟨(ah hgrow9' (x:=⟨X,0,none⟩) s7.lt n9).trans s7.x0,(ah hgrow9' (x:=⟨X,1,none⟩) s7.lt n9).trans s7.x1,(ah hgrow9' (x:=⟨X,2,none⟩) s7.lt n9).trans s7.x2,(ah hgrow9' (x:=⟨X,3,none⟩) s7.lt n9).trans s7.x3,(ah hgrow9' (x:=⟨X,4,none⟩) s7.lt n9).trans s7.x4,Nat.lt_of_lt_of_le s7.lt hgrow9.size⟩
     clear hK K;(try go_frame);refine aO 10 1 aa ?_;refine dN ?_;clear hown9 hgrow9 hnil9 hown7 hgrow7 hnil7 r7 s7 hb9;go_wp2;go_ret;exact ⟨g9,c9,rfl,HO9.out,HB9.out⟩
theorem dV.set (h:dV w lo a n c L) {p:Addr} (hp:∀x,a=Option.some x→p.block≠x.block) (v:Value):dV (w.setCell p v) lo a n c L :=
 ⟨h.1,fun x e=>by
  obtain ⟨g,e1,o⟩:=h.2 x e
  exact ⟨g,e1,o.setCell (by have:=hp x e;rw [e1] at this;exact this) v⟩⟩
theorem dV.inl (h:dV w lo a n c L):eu lo w a n c L:=⟨h.entsAt,fun x e _=>(h.lt x e).1⟩
theorem yw (a:Option Addr) (len cap:Nat) (L:List ac) (s t:ByteArray) (q d n:Int) (w:World) (hL:dV w lo a len cap L) (hlen:len≤1048576) (hE:ec (s,q,d,t,n)) :
 Calls Tryz.prog 159 #[.slice a len cap,.agg #[.string s,iT q,iT d,.string t,iT n]] w fun e w'=>∃g c,e=.returned (sL g (len+1) c)∧ay w' w.heap.size g (len+1) c (d5 L (s,q,d,t,n))∧Bl w w':=by
 cases a with
 | none =>
  obtain ⟨rfl,rfl,rfl⟩:=hL.1 rfl;exact yx s t q d n w hE
 | some x =>
  obtain ⟨g,rfl,h⟩:=hL.2 x rfl;exact rc g len cap L s t q d n w h.entsAt h.lt.2 hlen hE
theorem ay.at5 {base g i:Nat} {s t:ByteArray} {q d nn:Int} (h:ay w base g n c L) (hx:L[i]?=some (s,q,d,t,nn)):w.cell? ⟨g,i*5,none⟩=some (.string s)∧w.cell? ⟨g,i*5+1,none⟩=some (iT q)∧w.cell? ⟨g,i*5+2,none⟩=some (iT d)∧w.cell? ⟨g,i*5+3,none⟩=some (.string t)∧w.cell? ⟨g,i*5+4,none⟩=some (iT nn):=by
 obtain ⟨hi,he⟩:=List.getElem?_eq_some_iff.1 hx;obtain ⟨c0,c1,c2,c3,c4⟩:=h.entsAt.cells _ rfl i hi;rw [he] at c0 c1 c2 c3 c4;simp only [Nat.zero_add] at c0 c1 c2 c3 c4;exact ⟨c0,c1,c2,c3,c4⟩
end Go.Proofs.YtpobkmjicbobdaaGreat
