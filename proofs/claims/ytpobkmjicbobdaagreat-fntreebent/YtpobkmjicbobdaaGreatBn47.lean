/- Walks. -/
import Derived.Test.YtpobkmjicbobdaaGreatBn46
namespace Go.Proofs.YtpobkmjicbobdaaGreat
set_option maxRecDepth 100000
set_option maxHeartbeats 40000000
open Go.RowKit
variable {L:List ac} {f n t:Nat}
theorem Tryz.infoStr:(Tryz.prog.info? 164).map (fun i=>(i.zero,i.size,i.bytes))=some (some (.agg #[nZ,iT 0]),2,32):=by kernel_rfl
theorem xW (u:Value) (xT:TypeId) (W:World):(Instr.typeAssert (.iface 164 u) xT 164 true).run Tryz.prog W=.ok (.tuple #[u,.bool true]) W:=by kernel_rfl
theorem lC (w:World) (x y:Value) (t:TypeId):∀j u,[x,y][j]?=some u→(w.alloc (.cells #[x,y] t)).cell? ((⟨w.heap.size,0,none⟩:Addr).add j)=some u:=by
 intro j u hj;rw [Go.WideShapes.add_plain,Nat.zero_add];match j,hj with
 | 0,hj=>simp at hj;subst hj;simp
 | 1,hj=>simp at hj;subst hj;simp
theorem xw (base BH:Nat) (v:Value) (X:List cQ) (H:List (List ac × Nat)) (xb xo xn xc xk:Nat) (e:ac) (l:List ac) (w:World) (hn:H.length≤1048576) (hs:base≤w.heap.size) (hV:iW w base BH v X H) (hE:aj w (some ⟨xb,xo,none⟩) xn xc (e :: l)) (hx:xb<base) :
 Calls Tryz.prog 310 #[.pointer (pT BH),.iface 164 (.agg #[sO xb xo xn xc,iT xk])] w fun en w'=>en=.returned (.tuple #[])∧(∃g c,iW w' base BH (sL g (H.length+1) c) (X++[(xb,xo,xn,xc,xk)]) (H++[(e :: l,xk)]))∧Below base w w'∧KeepsOthers w w'∧fQ BH w w':=by
 obtain ⟨i0,hi,hz0,hz1,hz2⟩:=info_parts Tryz.infoStr;obtain ⟨XS,hXS⟩:=aS w.heap.size;obtain ⟨W,hW⟩:=aS (w.alloc (.cells #[sO xb xo xn xc,iT xk] 164));have kW:Bl w W:=by rw [hW];exact bZ
 have oW:KeepsOthers w W:=by rw [hW];exact KeepsOthers.alloc _ _
 have c0:W.cell? ⟨XS,0,none⟩=some (sO xb xo xn xc):=by rw [hW,hXS];simp
 have c1:W.cell? ⟨XS,1,none⟩=some (iT xk):=by rw [hW,hXS];simp
 have hVW:=hV.below kW;have HNX:Hid (some XS≠v.ownBlock):=fun e=>by have:=(hV.row.lt XS e.symm).2;omega
 have HXB:Hid (XS≠BH):=fun e=>by have:=hV.box.lt;omega
 have HE:Hid (aj W (some ⟨xb,xo,none⟩) xn xc (e :: l)):=hE.keep kW;have HX:=b6 hx;have HBS:=b6 hs;have HBW:Hid (Bl w W):=kW;have HKW:Hid (KeepsOthers w W):=oW;have HVW:Hid (iW W base BH v X H):=hVW;have hszW:=kW.size;have hta:=xW (.agg #[sO xb xo xn xc,iT xk]);go_enter Tryz.func310,Tryz.ntmps310
 go_wp2_with fail
 rw [← hW,← hXS];clear hW hXS kW oW hV hVW hE hx hta;have k0:iW W.drew base BH v X H:=HVW.out.below (Below.refl _ W).drew;have bd:Bl W W.drew:=(Below.refl _ W).drew;have od:KeepsOthers W W.drew:=KeepsOthers.drew W;have cd0:=cell_later bd c0;have cd1:=cell_later bd c1;clear c0 c1;refine wp_region_held_drew (S:=(fun w'=>w'.cell? ⟨XS,0,none⟩=some (sO xb xo xn xc)∧w'.cell? ⟨XS,1,none⟩=some (iT xk)∧XS<w'.heap.size)) (by kernel_rfl) (⟨cd0,cd1,World.block_lt_of_cell? _ _ cd0⟩) (fun aa=>?_);generalize W.drew=wd at k0 cd0 cd1 bd od aa ⊢;refine aO 0 3 aa ?_;refine aO 4 1 aa ?_;refine iU 3 5 (fun K hK=>?_) fun K hK=>?_
 · have cB:=(k0).box.cell;go_simp;clear cB;refine hK.out _ _ (⟨cd0,cd1,World.block_lt_of_cell? _ _ cd0⟩) fun aa=>?_
   (try go_frame);refine aI 5 fun K hK=>?_
   go_simp;have kc:Bl wd (wd.alloc (.cells #[sO xb xo xn xc,iT xk] 164)):=bZ;have kb:=k0.below kc;have cb0:=cell_later kc cd0;have cb1:=cell_later kc cd1;have bb:=bd.trans (kc.mono bd.size);have ko:=od.trans (KeepsOthers.alloc wd (.cells #[sO xb xo xn xc,iT xk] 164));have nw:=lC wd (sO xb xo xn xc) (iT xk) 164;generalize wd.heap.size=gb at nw ⊢;generalize wd.alloc (.cells #[sO xb xo xn xc,iT xk] 164)=wb at kb cb0 cb1 bb ko nw ⊢;refine hK.out _ _ (⟨cb0,cb1,World.block_lt_of_cell? _ _ cb0⟩) fun aa=>?_
   (try go_frame);refine aI 6 fun K hK=>?_
   refine ax rfl (.tmp 15) (.tmp 17) 157 rfl base 164 i0 _ 2 32 Tryz.underlying157 hi hz0 hz1 hz2 rfl (Nat.succ_pos 1) _ _ _ rfl kb.row ⟨gb,0,none⟩ 1 1 (f6 (xb,xo,xn,xc,xk)) rfl rfl nw (by simp [f6,Value.oneCell']) ?_ ?_ ?_ ?_
   · unfold maxLen;omega
   · omega
   · have:=bb.size;omega
   intro v1 w1 ho1 hg1 hn1;obtain ⟨g1,c1,rfl⟩:=ownsRow_succ ho1;have hEb:=HE.out.keep bb;obtain ⟨b1,p2,p3,p4,p5⟩:=kb.push (x:=(xb,xo,xn,xc,xk)) hEb HX.out ho1 hg1;have neX:some XS≠v.ownBlock:=HNX.out;have hg1':wb.grownBy w1 v.ownBlock:=hg1;have ce0:w1.cell? ⟨XS,0,none⟩=_:=(World.cell?_of_block (a:=⟨XS,0,none⟩) (hg1'.block XS (World.block_lt_of_cell? _ _ cb0) neX)).trans cb0;have ce1:w1.cell? ⟨XS,1,none⟩=_:=(World.cell?_of_block (a:=⟨XS,1,none⟩) (hg1'.block XS (World.block_lt_of_cell? _ _ cb1) neX)).trans cb1;refine hK.out _ _ (⟨ce0,ce1,World.block_lt_of_cell? _ _ ce0⟩) fun aa=>?_
   (try go_frame);refine aO 7 1 aa ?_;refine aI 8 fun K hK=>?_
   have cB:=b1.cell;have fB:=b1.frozen;have lB:=b1.lt;go_simp;clear cB fB lB;refine hK.out _ _ (⟨(ah (grownBy_setCell' w1 BH _) (x:=⟨XS,0,none⟩) (World.block_lt_of_cell? _ _ ce0) HXB.out).trans ce0,(ah (grownBy_setCell' w1 BH _) (x:=⟨XS,1,none⟩) (World.block_lt_of_cell? _ _ ce1) HXB.out).trans ce1,World.block_lt_of_cell? _ _ ((ah (grownBy_setCell' w1 BH _) (x:=⟨XS,0,none⟩) (World.block_lt_of_cell? _ _ ce0) HXB.out).trans ce0)⟩) fun aa=>?_
   (try go_frame);refine dN ?_;clear aa;go_wp2;go_end0;exact ⟨rfl,⟨g1,c1,p2⟩,(HBW.out.trans (bb.mono HBW.out.size)).mono HBS.out |>.trans (p4 (Nat.le_trans HBS.out (Nat.le_trans HBW.out.size bb.size))),HKW.out.trans (ko.trans p3),(fQ.below (HBW.out.trans (bb.mono HBW.out.size))).trans p5⟩
 · go_simp;have kc:Bl wd (wd.alloc (.cells #[sO xb xo xn xc,iT xk] 164)):=bZ;have kb:=k0.below kc;have cb0:=cell_later kc cd0;have cb1:=cell_later kc cd1;have bb:=bd.trans (kc.mono bd.size);have ko:=od.trans (KeepsOthers.alloc wd (.cells #[sO xb xo xn xc,iT xk] 164));have nw:=lC wd (sO xb xo xn xc) (iT xk) 164;generalize wd.heap.size=gb at nw ⊢;generalize wd.alloc (.cells #[sO xb xo xn xc,iT xk] 164)=wb at kb cb0 cb1 bb ko nw ⊢;refine hK.out _ _ (⟨cb0,cb1,World.block_lt_of_cell? _ _ cb0⟩) fun aa=>?_
   (try go_frame);refine aI 3 fun K hK=>?_
   have cB:=(kb).box.cell;go_simp;clear cB;refine hK.out _ _ (⟨cb0,cb1,World.block_lt_of_cell? _ _ cb0⟩) fun aa=>?_
   (try go_frame);refine aI 6 fun K hK=>?_
   refine ax rfl (.tmp 15) (.tmp 17) 157 rfl base 164 i0 _ 2 32 Tryz.underlying157 hi hz0 hz1 hz2 rfl (Nat.succ_pos 1) _ _ _ rfl kb.row ⟨gb,0,none⟩ 1 1 (f6 (xb,xo,xn,xc,xk)) rfl rfl nw (by simp [f6,Value.oneCell']) ?_ ?_ ?_ ?_
   · unfold maxLen;omega
   · omega
   · have:=bb.size;omega
   intro v1 w1 ho1 hg1 hn1;obtain ⟨g1,c1,rfl⟩:=ownsRow_succ ho1;have hEb:=HE.out.keep bb;obtain ⟨b1,p2,p3,p4,p5⟩:=kb.push (x:=(xb,xo,xn,xc,xk)) hEb HX.out ho1 hg1;have neX:some XS≠v.ownBlock:=HNX.out;have hg1':wb.grownBy w1 v.ownBlock:=hg1;have ce0:w1.cell? ⟨XS,0,none⟩=_:=(World.cell?_of_block (a:=⟨XS,0,none⟩) (hg1'.block XS (World.block_lt_of_cell? _ _ cb0) neX)).trans cb0;have ce1:w1.cell? ⟨XS,1,none⟩=_:=(World.cell?_of_block (a:=⟨XS,1,none⟩) (hg1'.block XS (World.block_lt_of_cell? _ _ cb1) neX)).trans cb1;refine hK.out _ _ (⟨ce0,ce1,World.block_lt_of_cell? _ _ ce0⟩) fun aa=>?_
   (try go_frame);refine aO 7 1 aa ?_;refine aI 8 fun K hK=>?_
   have cB:=b1.cell;have fB:=b1.frozen;have lB:=b1.lt;go_simp;clear cB fB lB;refine hK.out _ _ (⟨(ah (grownBy_setCell' w1 BH _) (x:=⟨XS,0,none⟩) (World.block_lt_of_cell? _ _ ce0) HXB.out).trans ce0,(ah (grownBy_setCell' w1 BH _) (x:=⟨XS,1,none⟩) (World.block_lt_of_cell? _ _ ce1) HXB.out).trans ce1,World.block_lt_of_cell? _ _ ((ah (grownBy_setCell' w1 BH _) (x:=⟨XS,0,none⟩) (World.block_lt_of_cell? _ _ ce0) HXB.out).trans ce0)⟩) fun aa=>?_
   (try go_frame);refine dN ?_;clear aa;go_wp2;go_end0;exact ⟨rfl,⟨g1,c1,p2⟩,(HBW.out.trans (bb.mono HBW.out.size)).mono HBS.out |>.trans (p4 (Nat.le_trans HBS.out (Nat.le_trans HBW.out.size bb.size))),HKW.out.trans (ko.trans p3),(fQ.below (HBW.out.trans (bb.mono HBW.out.size))).trans p5⟩
theorem zw (base BH:Nat) (v:Value) (X:List cQ) (H:List (List ac × Nat)) (xb xo xn xc xk:Nat) (e:ac) (l:List ac) (w:World) (hn:H.length<1048576) (hs:base≤w.heap.size) (hV:iW w base BH v X H) (hE:aj w (some ⟨xb,xo,none⟩) xn xc (e :: l)) (hx:xb<base) (hH:Mg.HeapTo (Mg.lessS aP) H.length H) :
 Calls Tryz.prog 152 #[.iface 162 (.pointer (pT BH)),.iface 164 (.agg #[sO xb xo xn xc,iT xk])] w fun en w'=>en=.returned (.tuple #[])∧(∃v' X' H',iW w' base BH v' X' H'∧H'.Perm (H++[(e :: l,xk)])∧Mg.HeapTo (Mg.lessS aP) H'.length H'∧(∃g c,v'=sL g H'.length c))∧Below base w w'∧KeepsOthers w w'∧fQ BH w w':=by
 have hm:=Ba BH w;have CP:=xw base BH v X H xb xo xn xc xk e l w (by omega) hs hV hE hx;have HH:=b6 hH;have HS:=b6 hs;clear hH hV hE hs hx;go_enter Tryz.func152,Tryz.ntmps152
 go_wp2_with fail
 refine CP.mono ?_;rintro en w1 ⟨rfl,⟨g,c,hV1⟩,hb1,hk1,hq1⟩;have HQ1:Hid (fQ BH w w1):=hq1;have HB1:Hid (Below base w w1):=hb1;have HK1:Hid (KeepsOthers w w1):=hk1;have HV1:Hid (iW w1 base BH (sL g (H.length+1) c) (X++[(xb,xo,xn,xc,xk)]) (H++[(e :: l,xk)])):=hV1;have hlen:(H++[(e :: l,xk)]).length=H.length+1:=by simp
 have hS1:=hV1.hp hlen;have hm2:=zu BH g (H.length+1) c w1 hS1.box;have CN:=o4 (pT g) (H.length+1) c w1;have hU:Mg.UpI (Mg.lessS aP) (H.length+1) (H++[(e :: l,xk)]) H.length:=Mg.up_start HH.out rfl _;have CU:=zv base BH g (H.length+1) c H.length _ _ w1 (by omega) (by omega) hS1 hU hV1.live;have wk:IntKind.i64.wrap (((H.length+1:Nat):Int) - 1)=(H.length:Int):=by rw [IntKind.wrap_i64];omega
 have hgc:∃cc,w1.heap[g]?=some (.cells cc 164 (0,0)):=hV1.cells rfl;have HGC:Hid (∃cc,w1.heap[g]?=some (.cells cc 164 (0,0))):=hgc;have HGB:Hid (base≤g):=(hS1.own.lt).1;have HNE:Hid (BH≠g):=hS1.ne;clear hb1 hk1 hq1 hV1 hS1 hU CP hm hlen HH hgc;generalize H.length=n at *;go_wp2_with fail
 refine CN.mono ?_;rintro en w2 ⟨rfl,rfl⟩;go_wp2_with fail
 refine CU.mono ?_;rintro en w3 ⟨rfl,⟨X',H',hS3,hP3,hX3,hT3⟩,hg3⟩;have hbx:=HV1.out.box.kept hg3 (fun e'=>HNE.out (Option.some.inj e'));have HV3:Hid (iW w3 base BH (sL g (n+1) c) X' H'):=HV1.out.of hS3 hX3 (fun s hs=>HV1.out.live s (hP3.mem_iff.1 hs)) hbx;have HL3:Hid (H'.length=n+1):=hS3.len;have HB3:Hid (Below base w w3):=HB1.out.trans ((Below.refl base w2).grown hg3 (Nat.le_trans HS.out HB1.out.size) (fun k ek=>by cases ek;exact HGB.out));have HK3:Hid (KeepsOthers w w3):=HK1.out.trans (KeepsOthers.of_grownBy hg3 (fun j o ej ho=>by cases ej;obtain ⟨cc,hc⟩:=HGC.out;rw [hc] at ho;cases ho;rfl));have HQ3:Hid (fQ BH w w3):=HQ1.out.trans (fQ.grown hg3 HGC.out);have HP3:Hid (H'.Perm (H++[(e :: l,xk)])):=hP3;have HT3:Hid (Mg.HeapTo (Mg.lessS aP) (n+1) H'):=hT3;clear hS3 hP3 hX3 hT3 hg3 hbx CU CN HB1 HK1 HQ1 hm2;go_wp2;go_end0;exact ⟨rfl,⟨_,X',H',HV3.out,HP3.out,by rw [HL3.out];exact HT3.out,g,c,by rw [HL3.out]⟩,HB3.out,HK3.out,HQ3.out⟩
theorem tu (base BH g N n c i0:Nat) (X0:List cQ) (H0:List (List ac × Nat)) (w:World) (hn:N≤1048576) (hnN:n≤N) (hi0:i0<N) (hS:cT w base BH g N c X0 H0) (hD:Mg.DownI (Mg.lessS aP) n H0 i0) (hLv:gX n H0) :
 Calls Tryz.prog 205 #[.iface 162 (.pointer (pT BH)),iT i0,iT n] w fun e w'=>(∃b,e=.returned (.bool b))∧(∃X H,cT w' base BH g N c X H∧H.Perm H0∧X.Perm X0∧(∀k,n≤k→X[k]?=X0[k]?∧H[k]?=H0[k]?)∧Mg.HeapTo (Mg.lessS aP) n H)∧w.grownBy w' (some g):=by
 have HS0:=b6 hS;have HD0:=b6 hD;have HL0:=b6 hLv;clear hS hD hLv;go_enter Tryz.func205,Tryz.ntmps205
 go_wp2;go_loopw [7] (fun iv wr=>∃(i:Nat) (X:List cQ) (H:List (List ac × Nat)),iv=iT i∧i<N∧cT wr base BH g N c X H∧H.Perm H0∧X.Perm X0∧(∀k,n≤k→X[k]?=X0[k]?∧H[k]?=H0[k]?)∧(Mg.DownI (Mg.lessS aP) n H i∧gX n H)∧w.grownBy wr (some g)) (fun iv _=>N - (intOf iv).toNat)
 case atStart=>exact ⟨i0,X0,H0,rfl,hi0,HS0.out,List.Perm.refl _,List.Perm.refl _,fun k _=>⟨rfl,rfl⟩,⟨HD0.out,HL0.out⟩,⟨rfl,rfl,rfl,Nat.le_refl _,fun _ _ _=>rfl⟩⟩
 case round =>
  clear HS0 HD0 HL0;obtain ⟨i,X,H,rfl,hi,hS,hP,hQ,hK,⟨hD,hLv⟩,hG⟩:=hrel;have HLV:Hid (gX n H):=hLv;have HS:Hid (cT wr base BH g N c X H):=hS;have HP:Hid (H.Perm H0):=hP;have HQ:Hid (X.Perm X0):=hQ;have HK:Hid (∀k,n≤k→X[k]?=X0[k]?∧H[k]?=H0[k]?):=hK;have HD:Hid (Mg.DownI (Mg.lessS aP) n H i):=hD;have HG:Hid (w.grownBy wr (some g)):=hG;have hLen:=hS.len;have hXL:=hS.own.len;clear hS hP hQ hD hG hK hLv;obtain ⟨j1,hj1⟩:=aS (2*i+1);have w1:IntKind.i64.wrap (2*(i:Int))=2*(i:Int):=by rw [IntKind.wrap_i64];omega
  have w2:IntKind.i64.wrap (2*(i:Int)+1)=(j1:Int):=by rw [IntKind.wrap_i64];omega
  have HJ1:Hid (j1=2*i+1):=hj1;by_cases hend:n≤j1
  · have hendI:(n:Int)≤(j1:Int):=by omega
    clear hj1;go_wp2;go_ret;exact ⟨⟨_,rfl⟩,⟨X,H,HS.out,HP.out,HQ.out,HK.out,Mg.down_done HD.out (fun d _ hd hp=>by have:=HJ1.out;omega)⟩,HG.out⟩
  · have hendI:¬(n:Int)≤(j1:Int):=by omega
    have hpos:¬(j1:Int)<0:=by omega
    obtain ⟨u,hu⟩:∃u,H[i]?=some u:=⟨_,List.getElem?_eq_getElem (by omega)⟩;obtain ⟨x,hx⟩:∃x,X[i]?=some x:=⟨_,List.getElem?_eq_getElem (by omega)⟩;obtain ⟨v1,hv1⟩:∃v,H[j1]?=some v:=⟨_,List.getElem?_eq_getElem (by omega)⟩;obtain ⟨y1,hy1⟩:∃y,X[j1]?=some y:=⟨_,List.getElem?_eq_getElem (by omega)⟩;obtain ⟨j2,hj2⟩:=aS (j1+1);have w3:IntKind.i64.wrap ((j1:Int)+1)=(j2:Int):=by rw [IntKind.wrap_i64];omega
    have HJ2:Hid (j2=j1+1):=hj2;have HUu:Hid (H[i]?=some u):=hu;have HXx:Hid (X[i]?=some x):=hx;have HV1:Hid (H[j1]?=some v1):=hv1;have HY1:Hid (X[j1]?=some y1):=hy1;by_cases h2:j2<n
    · have h2I:(j2:Int)<(n:Int):=by omega
      obtain ⟨v2,hv2⟩:∃v,H[j2]?=some v:=⟨_,List.getElem?_eq_getElem (by omega)⟩;obtain ⟨y2,hy2⟩:∃y,X[j2]?=some y:=⟨_,List.getElem?_eq_getElem (by omega)⟩;have HV2:Hid (H[j2]?=some v2):=hv2;have HY2:Hid (X[j2]?=some y2):=hy2;have hm:=oZ BH g N c wr HS.out.box;have CL:=HS.out.less hv2 hv1 (HLV.out _ _ h2 hv2) (HLV.out _ _ (by omega) hv1);clear hu hx hv1 hy1 hv2 hy2 hj1 hj2;go_wp2_with fail
      refine CL.mono ?_;rintro e w4 ⟨rfl,hb4⟩;have HS4:Hid (cT w4 base BH g N c X H):=HS.out.below hb4;have HG4:Hid (w.grownBy w4 (some g)):=HG.out.trans ⟨hb4.os,hb4.tape,hb4.output,hb4.size,fun k hk _=>hb4.block k hk⟩;clear HS HG hb4 hm CL;cases hl2:Mg.lessS aP v2 v1 with
      | true =>
       obtain ⟨v,hvv⟩:=aS v2;obtain ⟨y,hyy⟩:=aS y2;subst hvv;subst hyy;have HV:Hid (H[j2]?=some v):=HV2.out;have HYy:Hid (X[j2]?=some y):=HY2.out;have HMIN:Hid (∀d,0<d→d<n→(d - 1) / 2=i→∀z,H[d]?=some z→Mg.lessS aP z v=false):=fun d d0 hd hp z hz=>by
        have e1:=HJ1.out;have e2:=HJ2.out;by_cases hdj:d=j2
        · subst hdj;rw [HV2.out] at hz;cases hz;exact Mg.lessS_irr dH _
        · have:d=j1:=by omega
          subst this;rw [HV1.out] at hz;cases hz;exact (Mg.lessS_ord dH).asym _ _ hl2
       clear HV2 HY2;have hm:=oZ BH g N c w4 HS4.out.box;have hin:i<n:=by have:=HJ1.out;omega
       have hjn:j2<n:=by have:=HJ2.out;omega
       have CL:=HS4.out.less HV.out HUu.out (HLV.out _ _ hjn HV.out) (HLV.out _ _ hin HUu.out);go_wp2_with fail
       refine CL.mono ?_;rintro e w5 ⟨rfl,hb5⟩;have HS5:Hid (cT w5 base BH g N c X H):=HS4.out.below hb5;have HG5:Hid (w.grownBy w5 (some g)):=HG4.out.trans ⟨hb5.os,hb5.tape,hb5.output,hb5.size,fun k hk _=>hb5.block k hk⟩;clear HS4 HG4 hb5 hm CL;cases hl:Mg.lessS aP v u with
       | false =>
        go_wp2;go_ret;exact ⟨⟨_,rfl⟩,⟨X,H,HS5.out,HP.out,HQ.out,HK.out,Mg.down_done HD.out (fun d d0 hd hp p q hp' hq=>by rw [HUu.out] at hp';cases hp';exact (Mg.lessS_ord dH).tran _ _ _ (HMIN.out d d0 hd hp q hq) hl)⟩,HG5.out⟩
       | true =>
        have hm:=oY BH g N c w5 HS5.out.box;have CW:=ik base g N c i j2 X x y w5 HS5.out.own HXx.out HYy.out;go_wp2_with fail
        refine CW.mono ?_;rintro e w6 ⟨rfl,hO6,hg6⟩;have HS6:Hid (cT w6 base BH g N c (Mg.sw X i j2 x y) (Mg.sw H i j2 u v)):=HS5.out.swap HXx.out HYy.out HUu.out HV.out hg6 hO6;have HG6:Hid (w.grownBy w6 (some g)):=HG5.out.trans hg6;clear HS5 HG5 hO6 hg6 hm CW;go_wp2;go_roundw
        case rel=>exact ⟨j2,_,_,rfl,by omega,HS6.out,(Mg.sw_perm HUu.out HV.out).trans HP.out,(Mg.sw_perm HXx.out HYy.out).trans HQ.out,fun k hk=>by rw [Mg.sw_get HXx.out HYy.out,Mg.sw_get HUu.out HV.out,if_neg (by omega),if_neg (by have:=HJ1.out;omega),if_neg (by omega),if_neg (by have:=HJ1.out;omega)];exact HK.out k hk,⟨Mg.down_step (Mg.lessS_ord dH) HD.out (by have:=HJ1.out;have:=HJ2.out;omega) (by have:=HJ1.out;have:=HJ2.out;omega) (by omega) HUu.out HV.out hl HMIN.out,HLV.out.swap HUu.out HV.out hin hjn⟩,HG6.out⟩
        case measure=>have:=HJ1.out;have:=HJ2.out;simp [intOf] <;> omega
      | false =>
       obtain ⟨v,hvv⟩:=aS v1;obtain ⟨y,hyy⟩:=aS y1;subst hvv;subst hyy;have HV:Hid (H[j1]?=some v):=HV1.out;have HYy:Hid (X[j1]?=some y):=HY1.out;have HMIN:Hid (∀d,0<d→d<n→(d - 1) / 2=i→∀z,H[d]?=some z→Mg.lessS aP z v=false):=fun d d0 hd hp z hz=>by
        have e1:=HJ1.out;have e2:=HJ2.out;by_cases hdj:d=j2
        · subst hdj;rw [HV2.out] at hz;cases hz;exact hl2
        · have:d=j1:=by omega
          subst this;rw [HV1.out] at hz;cases hz;exact Mg.lessS_irr dH _
       clear HV1 HY1;have hm:=oZ BH g N c w4 HS4.out.box;have hin:i<n:=by have:=HJ1.out;omega
       have hjn:j1<n:=by have:=HJ2.out;omega
       have CL:=HS4.out.less HV.out HUu.out (HLV.out _ _ hjn HV.out) (HLV.out _ _ hin HUu.out);go_wp2_with fail
       refine CL.mono ?_;rintro e w5 ⟨rfl,hb5⟩;have HS5:Hid (cT w5 base BH g N c X H):=HS4.out.below hb5;have HG5:Hid (w.grownBy w5 (some g)):=HG4.out.trans ⟨hb5.os,hb5.tape,hb5.output,hb5.size,fun k hk _=>hb5.block k hk⟩;clear HS4 HG4 hb5 hm CL;cases hl:Mg.lessS aP v u with
       | false =>
        go_wp2;go_ret;exact ⟨⟨_,rfl⟩,⟨X,H,HS5.out,HP.out,HQ.out,HK.out,Mg.down_done HD.out (fun d d0 hd hp p q hp' hq=>by rw [HUu.out] at hp';cases hp';exact (Mg.lessS_ord dH).tran _ _ _ (HMIN.out d d0 hd hp q hq) hl)⟩,HG5.out⟩
       | true =>
        have hm:=oY BH g N c w5 HS5.out.box;have CW:=ik base g N c i j1 X x y w5 HS5.out.own HXx.out HYy.out;go_wp2_with fail
        refine CW.mono ?_;rintro e w6 ⟨rfl,hO6,hg6⟩;have HS6:Hid (cT w6 base BH g N c (Mg.sw X i j1 x y) (Mg.sw H i j1 u v)):=HS5.out.swap HXx.out HYy.out HUu.out HV.out hg6 hO6;have HG6:Hid (w.grownBy w6 (some g)):=HG5.out.trans hg6;clear HS5 HG5 hO6 hg6 hm CW;go_wp2;go_roundw
        case rel=>exact ⟨j1,_,_,rfl,by omega,HS6.out,(Mg.sw_perm HUu.out HV.out).trans HP.out,(Mg.sw_perm HXx.out HYy.out).trans HQ.out,fun k hk=>by rw [Mg.sw_get HXx.out HYy.out,Mg.sw_get HUu.out HV.out,if_neg (by omega),if_neg (by have:=HJ1.out;omega),if_neg (by omega),if_neg (by have:=HJ1.out;omega)];exact HK.out k hk,⟨Mg.down_step (Mg.lessS_ord dH) HD.out (by have:=HJ1.out;have:=HJ2.out;omega) (by have:=HJ1.out;have:=HJ2.out;omega) (by omega) HUu.out HV.out hl HMIN.out,HLV.out.swap HUu.out HV.out hin hjn⟩,HG6.out⟩
        case measure=>have:=HJ1.out;have:=HJ2.out;simp [intOf] <;> omega
    · have h2I:¬(j2:Int)<(n:Int):=by omega
      obtain ⟨v,hvv⟩:=aS v1;obtain ⟨y,hyy⟩:=aS y1;subst hvv;subst hyy;have HV:Hid (H[j1]?=some v):=HV1.out;have HYy:Hid (X[j1]?=some y):=HY1.out;have HMIN:Hid (∀d,0<d→d<n→(d - 1) / 2=i→∀z,H[d]?=some z→Mg.lessS aP z v=false):=fun d d0 hd hp z hz=>by
       have e1:=HJ1.out;have e2:=HJ2.out;have:d=j1:=by omega
       subst this;rw [HV1.out] at hz;cases hz;exact Mg.lessS_irr dH _
      clear HV1 HY1 hu hx hv1 hy1 hj1 hj2;have hm:=oZ BH g N c wr HS.out.box;have hin:i<n:=by have:=HJ1.out;omega
      have hjn:j1<n:=by have:=HJ2.out;omega
      have CL:=HS.out.less HV.out HUu.out (HLV.out _ _ hjn HV.out) (HLV.out _ _ hin HUu.out);go_wp2_with fail
      refine CL.mono ?_;rintro e w5 ⟨rfl,hb5⟩;have HS5:Hid (cT w5 base BH g N c X H):=HS.out.below hb5;have HG5:Hid (w.grownBy w5 (some g)):=HG.out.trans ⟨hb5.os,hb5.tape,hb5.output,hb5.size,fun k hk _=>hb5.block k hk⟩;clear HS HG hb5 hm CL;cases hl:Mg.lessS aP v u with
      | false =>
       go_wp2;go_ret;exact ⟨⟨_,rfl⟩,⟨X,H,HS5.out,HP.out,HQ.out,HK.out,Mg.down_done HD.out (fun d d0 hd hp p q hp' hq=>by rw [HUu.out] at hp';cases hp';exact (Mg.lessS_ord dH).tran _ _ _ (HMIN.out d d0 hd hp q hq) hl)⟩,HG5.out⟩
      | true =>
       have hm:=oY BH g N c w5 HS5.out.box;have CW:=ik base g N c i j1 X x y w5 HS5.out.own HXx.out HYy.out;go_wp2_with fail
       refine CW.mono ?_;rintro e w6 ⟨rfl,hO6,hg6⟩;have HS6:Hid (cT w6 base BH g N c (Mg.sw X i j1 x y) (Mg.sw H i j1 u v)):=HS5.out.swap HXx.out HYy.out HUu.out HV.out hg6 hO6;have HG6:Hid (w.grownBy w6 (some g)):=HG5.out.trans hg6;clear HS5 HG5 hO6 hg6 hm CW;go_wp2;go_roundw
       case rel=>exact ⟨j1,_,_,rfl,by omega,HS6.out,(Mg.sw_perm HUu.out HV.out).trans HP.out,(Mg.sw_perm HXx.out HYy.out).trans HQ.out,fun k hk=>by rw [Mg.sw_get HXx.out HYy.out,Mg.sw_get HUu.out HV.out,if_neg (by omega),if_neg (by have:=HJ1.out;omega),if_neg (by omega),if_neg (by have:=HJ1.out;omega)];exact HK.out k hk,⟨Mg.down_step (Mg.lessS_ord dH) HD.out (by have:=HJ1.out;have:=HJ2.out;omega) (by have:=HJ1.out;have:=HJ2.out;omega) (by omega) HUu.out HV.out hl HMIN.out,HLV.out.swap HUu.out HV.out hin hjn⟩,HG6.out⟩
       case measure=>have:=HJ1.out;have:=HJ2.out;simp [intOf] <;> omega
theorem Ay (base BH g n c:Nat) (X0:List cQ) (H0:List (List ac × Nat)) (w:World) (hn:n≤1048576) (hn0:0<n) (hS:cT w base BH g n c X0 H0) (hD:Mg.DownI (Mg.lessS aP) n H0 0) (hLv:∀h ∈ H0,h.1≠[]) :
 Calls Tryz.prog 154 #[.iface 162 (.pointer (pT BH)),iT 0] w fun e w'=>e=.returned (.tuple #[])∧(∃X H,cT w' base BH g n c X H∧H.Perm H0∧X.Perm X0∧Mg.HeapTo (Mg.lessS aP) n H)∧w.grownBy w' (some g):=by
 have hm:=zu BH g n c w hS.box;have CN:=o4 (pT g) n c w;have CD:=tu base BH g n n c 0 X0 H0 w hn (Nat.le_refl _) hn0 hS hD (gX.of hLv);have HLV:=b6 hLv;clear hS hD hLv;go_enter Tryz.func154,Tryz.ntmps154
 go_wp2_with fail
 refine CN.mono ?_;rintro e w1 ⟨rfl,rfl⟩;go_wp2_with fail
 refine CD.mono ?_;rintro e w2 ⟨⟨b,rfl⟩,⟨X,H,hS2,hP,hQ,_,hH⟩,hg2⟩;have HS2:Hid (cT w2 base BH g n c X H):=hS2;have HP:Hid (H.Perm H0):=hP;have HQ:Hid (X.Perm X0):=hQ;have HH:Hid (Mg.HeapTo (Mg.lessS aP) n H):=hH;have HG2:Hid (w1.grownBy w2 (some g)):=hg2;clear hS2 hP hQ hH hg2 CN CD hm;cases b with
 | true =>
  go_wp2;go_end0;exact ⟨rfl,⟨X,H,HS2.out,HP.out,HQ.out,HH.out⟩,HG2.out⟩
 | false =>
  have CU:=zv base BH g n c 0 X H w2 hn hn0 HS2.out (Mg.down_up HH.out) (fun h hh=>HLV.out h (HP.out.mem_iff.1 hh));go_wp2_with fail
  refine CU.mono ?_;rintro e w3 ⟨rfl,⟨X',H',hS3,hP3,hQ3,hH3⟩,hg3⟩;have HS3:Hid (cT w3 base BH g n c X' H'):=hS3;have HP3:Hid (H'.Perm H0):=hP3.trans HP.out;have HQ3:Hid (X'.Perm X0):=hQ3.trans HQ.out;have HH3:Hid (Mg.HeapTo (Mg.lessS aP) n H'):=hH3;have HG3:Hid (w1.grownBy w3 (some g)):=HG2.out.trans hg3;clear hS3 hP3 hQ3 hH3 hg3 CU;go_wp2;go_end0;exact ⟨rfl,⟨X',H',HS3.out,HP3.out,HQ3.out,HH3.out⟩,HG3.out⟩
theorem Ax (base BH g n c k:Nat) (X0:List cQ) (H0:List (List ac × Nat)) (u:List ac × Nat) (w:World) (hk:n=k+1) (hn:n≤1048576) (hB:base≤BH) (hfr:w.frozen? ⟨BH,0,none⟩=false) (hS:cT w base BH g n c X0 H0) (hH:Mg.HeapTo (Mg.lessS aP) n H0) (hu:H0[0]?=some u) (hLv:∀(j:Nat) h,0<j→H0[j]?=some h→h.1≠[]) :
 Calls Tryz.prog 153 #[.iface 162 (.pointer (pT BH))] w fun e w'=>(∃v,e=.returned v)∧(∃X H,cT w' base BH g k c X H∧(u :: H).Perm H0∧Mg.HeapTo (Mg.lessS aP) k H∧∀x ∈ X,x ∈ X0)∧Below base w w'∧KeepsOthers w w'∧w'.frozen? ⟨BH,0,none⟩=false∧∃wm,w.grownBy wm (some g)∧wm.grownBy w' (some BH):=by
 have hl:=hS.len;have hXL:=hS.own.len;have hgb:=hS.own.lt.1;have hsz:=hS.own.lt.2;have zb:=World.block_lt_of_cell? _ _ hS.box;simp only at zb;have hne:=hS.ne;have HGC:Hid (∃cc,w.heap[g]?=some (.cells cc 164 (0,0))):=hS.own.cells;obtain ⟨v,hv⟩:∃v,H0[k]?=some v:=⟨_,List.getElem?_eq_getElem (by omega)⟩;obtain ⟨x,hx⟩:∃x,X0[0]?=some x:=⟨_,List.getElem?_eq_getElem (by omega)⟩;obtain ⟨y,hy⟩:∃y,X0[k]?=some y:=⟨_,List.getElem?_eq_getElem (by omega)⟩;have hm:=zu BH g n c w hS.box;have hm2:=oY BH g n c w hS.box;have CN:=o4 (pT g) n c w;have CW:Calls Tryz.prog 308 #[sL g n c,iT 0,iT k] w fun e w'=>e=.returned (.tuple #[])∧fj w' base g n c ((X0.set 0 y).set k x)∧w.grownBy w' (some g):=ik base g n c 0 k X0 x y w hS.own hx hy
 have wk:IntKind.i64.wrap ((n:Int) - 1)=(k:Int):=by rw [IntKind.wrap_i64];omega
 have HS:=b6 hS;have HHp:=b6 hH;have HFR:=b6 hfr;have HK:=b6 hk;have HLV:Hid (gX k (Mg.sw H0 0 k u v)):=fun j s hj hs=>by
  rw [Mg.sw_get hu hv,if_neg (by omega)] at hs;by_cases h2:j=0
  · rw [if_pos h2] at hs;cases hs;exact hLv k _ (by omega) hv
  · rw [if_neg h2] at hs;exact hLv j s (by omega) hs
 have HXP:Hid ((Mg.sw X0 0 k x y).Perm X0):=Mg.sw_perm hx hy;clear hS hH hfr hk hLv;go_enter Tryz.func153,Tryz.ntmps153
 go_wp2_with fail
 refine CN.mono ?_;rintro e w1 ⟨rfl,rfl⟩;go_wp2_with fail
 refine CW.mono ?_;rintro e w2 ⟨rfl,hO2,hg2⟩;have HS2:Hid (cT w2 base BH g n c (Mg.sw X0 0 k x y) (Mg.sw H0 0 k u v)):=HS.out.swap hx hy hu hv hg2 hO2;have HD2:Mg.DownI (Mg.lessS aP) k (Mg.sw H0 0 k u v) 0:=Mg.down_start (HHp.out.fewer (by have:=HK.out;omega)) (fun j j0 hj=>by rw [Mg.sw_get hu hv,if_neg (by omega),if_neg (by omega)]);have CD:=tu base BH g n k c 0 _ _ w2 hn (by have:=HK.out;omega) (by have:=HK.out;omega) HS2.out HD2 HLV.out;have HG2:Hid (w1.grownBy w2 (some g)):=hg2;have HPM:Hid ((Mg.sw H0 0 k u v).Perm H0):=Mg.sw_perm hu hv;have HAT:Hid ((Mg.sw H0 0 k u v)[k]?=some u):=by show _=_;rw [Mg.sw_get hu hv,if_pos rfl]
 clear hO2 hg2 HD2 CW CN hm hm2 HS HHp hu hv hx hy HS2;go_wp2_with fail
 refine CD.mono ?_;rintro e w3 ⟨⟨b,rfl⟩,⟨X,H,hS3,hP3,hQ3,hK3,hH3⟩,hg3⟩;have hg13:w1.grownBy w3 (some g):=HG2.out.trans hg3;have HK3:Hid (KeepsOthers w1 w3):=KeepsOthers.of_grownBy hg13 (fun j o e ho=>by cases e;obtain ⟨cc,hc⟩:=HGC.out;rw [hc] at ho;cases ho;rfl);have HG13:Hid (w1.grownBy w3 (some g)):=hg13;have HB3:Hid (Below base w1 w3):=(Below.refl base w1).grown hg13 (by omega) (fun j e=>by cases e;exact hgb);have hfr3:w3.frozen? ⟨BH,0,none⟩=false:=by rw [aV hg13 (x:=⟨BH,0,none⟩) zb (fun e=>hne (Option.some.inj e))];exact HFR.out
 have hm:=Bw BH w3;have CP:=zA base BH g n c k X H w3 HK.out hn hB hfr3 hS3;have HHL:Hid (H.length=n):=hS3.len;have HPF:Hid ((u :: H.take k).Perm H0):=by
  have hlen:=hS3.len;have hku:H[k]?=some u:=by rw [(hK3 k (Nat.le_refl _)).2];exact HAT.out
  have hlt:k<H.length:=(List.getElem?_eq_some_iff.1 hku).1;have hd:H=H.take k++[u]:=by
   conv=>lhs;rw [← List.take_append_drop k H,List.drop_eq_getElem_cons hlt,List.drop_of_length_le (by have:=HK.out;omega)]
   rw [(List.getElem?_eq_some_iff.1 hku).2]
  have hp:(u :: H.take k).Perm H:=by
   conv=>rhs;rw [hd]
   exact (List.perm_append_singleton u (H.take k)).symm
  exact hp.trans (hP3.trans HPM.out)
 have HXM:Hid (∀z ∈ X.take k,z ∈ X0):=fun z hz=>HXP.out.mem_iff.1 (hQ3.mem_iff.1 (List.mem_of_mem_take hz))
 have HHF:Hid (Mg.HeapTo (Mg.lessS aP) k (H.take k)):=hH3.same (fun j hj=>by rw [List.getElem?_take_of_lt hj]);clear hS3 hP3 hQ3 hK3 hH3 hg3 hg13 CD;go_wp2_with fail
 refine CP.mono ?_;rintro e w4 ⟨⟨v4,rfl⟩,hS4,hb4,hk4,hf4,hgb4⟩;have HGB4:Hid (w3.grownBy w4 (some BH)):=hgb4;have HS4:Hid (cT w4 base BH g k c (X.take k) (H.take k)):=hS4;have HB4:Hid (Below base w1 w4):=HB3.out.trans hb4;have HK4:Hid (KeepsOthers w1 w4):=HK3.out.trans hk4;have HF4:Hid (w4.frozen? ⟨BH,0,none⟩=false):=hf4;clear hS4 hb4 CP hm HB3 hk4 hf4 hgb4;go_wp2;go_ret;exact ⟨⟨_,rfl⟩,⟨_,_,HS4.out,HPF.out,HHF.out,HXM.out⟩,HB4.out,HK4.out,HF4.out,w3,HG13.out,HGB4.out⟩
abbrev mw (n:Nat):Type:={ p:Nat × Nat // p.1<p.2∧p.2≤n }
def mS (L:List ac) {n:Nat} (p:mw n):List ac:=(L.drop p.1.1).take (p.1.2 - p.1.1)
def AM (L:List ac) {n:Nat} (ys:List (mw n)):Prop:=(ys.map (mS L)).flatten=L∧∀l ∈ ys.map (mS L),l≠[]∧Mg.Asc aP l
theorem AG (L:List ac) (f:Nat):Mg.Asc aP ((L.drop f).take (f+1 - f)):=by
 rw [Nat.add_sub_cancel_left];unfold Mg.Asc;rw [List.pairwise_iff_getElem];intro i j hi hj hij;have h1:j<1:=Nat.lt_of_lt_of_le hj (List.length_take_le _ _);omega
theorem zT {x y:ac} (hf:f<t) (hx:L[t - 1]?=some x) (hy:L[t]?=some y) (hA:Mg.Asc aP ((L.drop f).take (t - f))) (h:aP y x=false):Mg.Asc aP ((L.drop f).take (t+1 - f)):=by
 obtain ⟨hxl,hxe⟩:=List.getElem?_eq_some_iff.1 hx;obtain ⟨hyl,hye⟩:=List.getElem?_eq_some_iff.1 hy;unfold Mg.Asc at hA ⊢;rw [List.pairwise_iff_getElem] at hA ⊢;intro i j hi hj hij;have hj':=hj;have hi':=hi;rw [List.length_take,List.length_drop] at hj' hi';rw [List.getElem_take,List.getElem_drop,List.getElem_take,List.getElem_drop];by_cases h1:j<t - f
 · have:=hA i j (by rw [List.length_take,List.length_drop];omega) (by rw [List.length_take,List.length_drop];omega) hij;rw [List.getElem_take,List.getElem_drop,List.getElem_take,List.getElem_drop] at this;exact this
 · have e1:f+j=t:=by omega
   have e2:L[f+j]'(by omega)=y:=by
    have:=List.getElem?_eq_getElem (l:=L) (i:=f+j) (by omega);exact Option.some.inj (this.symm.trans (by rw [e1];exact hy))
   rw [e2];by_cases h2:i=t - 1 - f
   · have e3:f+i=t - 1:=by omega
     have e4:L[f+i]'(by omega)=x:=by
      have:=List.getElem?_eq_getElem (l:=L) (i:=f+i) (by omega);exact Option.some.inj (this.symm.trans (by rw [e3];exact hx))
     rw [e4];exact h
   · have:=hA i (t - 1 - f) (by rw [List.length_take,List.length_drop];omega) (by rw [List.length_take,List.length_drop];omega) (by omega);rw [List.getElem_take,List.getElem_drop,List.getElem_take,List.getElem_drop] at this;have e4:L[f+(t - 1 - f)]'(by omega)=x:=by
      have h5:=List.getElem?_eq_getElem (l:=L) (i:=f+(t - 1 - f)) (by omega);exact Option.some.inj (h5.symm.trans (by rw [show f+(t - 1 - f)=t - 1 by omega];exact hx))
     rw [e4] at this;exact iE h this
def x7 (L:List ac) {n:Nat} (f:Nat) (ys:List (mw n)):Prop:=(ys.map (mS L)).flatten=L.take f∧∀l ∈ ys.map (mS L),l≠[]∧Mg.Asc aP l
theorem x7.zero (L:List ac) {n:Nat}:x7 L 0 ([]:List (mw n)):=⟨rfl,fun l hl=>by cases hl⟩
theorem x7.step {ys:List (mw n)} (h:x7 L f ys) (hL:L.length=n) (hft:f<t) (htn:t≤n) (hA:Mg.Asc aP ((L.drop f).take (t - f))):x7 L t (ys++[⟨(f,t),hft,htn⟩]):=by
 refine ⟨?_,fun l hl=>?_⟩
 · rw [List.map_append,List.flatten_append,h.1];simp only [List.map_cons,List.map_nil,List.flatten_cons,List.flatten_nil,List.append_nil];show L.take f++(L.drop f).take (t - f)=_
   rw [show L.take t=L.take (f+(t - f)) by rw [show f+(t - f)=t by omega],List.take_add]
 · rw [List.map_append] at hl;rcases List.mem_append.1 hl with h1 | h1
   · exact h.2 l h1
   · simp only [List.map_cons,List.map_nil,List.mem_singleton] at h1;subst h1;refine ⟨fun e=>?_,hA⟩;have:((L.drop f).take (t - f)).length=0:=by
      have e':(L.drop f).take (t - f)=[]:=e;rw [e'];rfl
     rw [List.length_take,List.length_drop] at this;omega
theorem x7.done {ys:List (mw n)} (h:x7 L n ys) (hL:L.length=n):AM L ys:=⟨by rw [h.1,List.take_of_length_le (by omega)],h.2⟩
end Go.Proofs.YtpobkmjicbobdaaGreat
