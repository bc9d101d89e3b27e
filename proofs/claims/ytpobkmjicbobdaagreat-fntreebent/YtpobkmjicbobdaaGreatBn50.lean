/- Walks. -/
import Derived.Test.YtpobkmjicbobdaaGreatBn49
namespace Go.Proofs.YtpobkmjicbobdaaGreat
set_option maxRecDepth 100000
set_option maxHeartbeats 40000000
open Go.RowKit
variable {A B C:List ag} {M:List ac} {S:List Int} {V:List (List ag)} {q:Int} {w:World}
theorem pP (q:Int) (M:List ac) (V:List (List ag)) (S:List Int) (q':Int) (M':List ac) (V':List (List ag)) (S':List Int):cY q' M' V' S' q M V S=cY q M V S q' M' V' S':=by
 unfold cY;rw [decide_eq_decide.2 (eq_comm:q'=q ↔ q=q'),decide_eq_decide.2 (eq_comm:M'=M ↔ M=M'),decide_eq_decide.2 (eq_comm:V'=V ↔ V=V'),decide_eq_decide.2 (eq_comm:S'=S ↔ S=S')]
theorem uF {lo b c:Nat} (h:bH lo w (pT b) 3 c [A,B,C]):bH lo w (pT b) 2 c [A,B]:=by
 refine ⟨rfl,by have:=h.room;omega,h.big,(fun e=>by cases e),fun x e _=>h.lies x e (by omega),fun x e i hi=>?_⟩;have hi2:i<2:=hi;rcases (by omega:i=0∨i=1) with rfl | rfl
 · exact h.levels x e 0 (by show 0<3;omega)
 · exact h.levels x e 1 (by show 1<3;omega)
theorem Bh (M:List ac) (V:List (List ag)) (S:List Int):bc 100001 M V S=false:=by
 rw [← Bool.not_eq_true];intro h;have:=(iY h).2.1;omega
theorem tF (q:Int) (M:List ac) (A B:List ag) (S:List Int):bc q M [A,B] S=false:=by
 rw [← Bool.not_eq_true];intro h;have:=(iY h).2.2.2.2.2;simp at this
theorem va (_:bc q M V S=true):bc q M V (S++[q+1])=false:=by
 rw [← Bool.not_eq_true];intro h;have h1:=(bh h).2.2.2.2.2.2.1;have h2:=(fo.1 h1).2.1 (q+1) (by simp);omega
theorem zO (hM:M≠[]):bc q (M++M) [A,B,C] S=false:=by
 rw [← Bool.not_eq_true];intro h;have h1:=iX h;unfold fu cU at h1;rw [List.flatten_cons] at h1;have h2:=(List.pairwise_append.1 h1).1;have h3:=(List.pairwise_append.1 h2).2.2;obtain ⟨e,r,rfl⟩:=List.exists_cons_of_ne_nil hM;exact h3 e List.mem_cons_self e List.mem_cons_self ⟨rfl,rfl⟩
theorem kH (q:Int) (M:List ac) (V:List (List ag)) (S:List Int):cY q M V S q M V (S++[q+1])=false:=by
 simp [cY]
theorem jI (q:Int) (M:List ac) (A B C:List ag) (S:List Int):cY q M [A,B,C] S q M [A,B] S=false:=by
 simp [cY]
theorem wT {av:Option Addr} (h:rW w av V) (hV:V≠[]):∃b,av=some ⟨b,0,none⟩:=by
 match V,hV,h with
 | B :: V,_,h =>
  obtain ⟨b,e,n,c,e1,_⟩:=h 0 B rfl;exact ⟨b,e1⟩
theorem ou {g:Nat} {u:Value} (h:w.cell? ⟨g,0,none⟩=some u):∀y,some (⟨g,0,none⟩:Addr)=some y→∀j x,[u][j]?=some x→w.cell? (y.add j)=some x:=by
 intro y e j x hj;cases e;cases j with
 | zero=>simp at hj;subst hj;simpa [Addr.add] using h
 | succ j=>simp at hj
theorem A8:bc 0 [] [[],[],[]] []=true:=by decide +kernel
theorem Ap:bc 0 [] [] []=false:=by decide +kernel
theorem AH:mX 0 [] [[],[],[]] []=[]:=by unfold mX;simp [bk,eo,bm]
theorem nJ (a:Option Addr) (len cap:Nat) (w:World) (h:iP w a len cap) :
 Calls Tryz.prog 4 #[.slice a len cap] w fun e w'=>e=.returned (.bool true)∧Bl w w':=by
 have H:=b6 h;have hm:=Nat.le_trans h.1 h.2.1;unfold maxLen at hm;clear h;by_cases hbig:1048576<len
 · go_enter Tryz.func4,Tryz.ntmps4
   go_wp2;go_ret;exact ⟨rfl,Below.refl _ _⟩
 go_enter Tryz.func4,Tryz.ntmps4
 go_wp2_with fail
 refine (ph a len cap w H.out).mono ?_;rintro e w1 ⟨qa,ama,nma,cma,ava,nva,cva,aka,nsa,csa,MA,VA,SA,qb,amb,nmb,cmb,avb,nvb,cvb,akb,nsb,csb,MB,VB,SB,rfl,hTA,hTB,hb1⟩;obtain ⟨XA,hXA⟩:∃X,X=w1.heap.size:=⟨_,rfl⟩;obtain ⟨wA,hwA⟩:∃W,W=w1.alloc (.cells #[iT qa,.slice ama nma cma,.slice ava nva cva,.slice aka nsa csa] 31):=⟨_,rfl⟩;obtain ⟨XB,hXB⟩:∃X,X=wA.heap.size:=⟨_,rfl⟩;obtain ⟨wB,hwB⟩:∃W,W=wA.alloc (.cells #[iT qb,.slice amb nmb cmb,.slice avb nvb cvb,.slice akb nsb csb] 31):=⟨_,rfl⟩;have kA:Bl w1 wA:=by rw [hwA];exact bZ
 have kB:Bl wA wB:=by rw [hwB];exact bZ
 have kAB:=kA.trans (kB.mono kA.size);have hBA:ar wA XA (iT qa) (.slice ama nma cma) (.slice ava nva cva) (.slice aka nsa csa):=by rw [hwA,hXA];exact ar.new _ _ _ _ _ _
 have BA:Hid (ar wB XA (iT qa) (.slice ama nma cma) (.slice ava nva cva) (.slice aka nsa csa)):=hBA.keep kB;have BB:Hid (ar wB XB (iT qb) (.slice amb nmb cmb) (.slice avb nvb cvb) (.slice akb nsb csb)):=by rw [hwB,hXB];exact ar.new _ _ _ _ _ _
 have KB:Hid (Bl w wB):=hb1.trans (kAB.mono hb1.size);have TA:Hid (bf 0 wB ama nma cma ava nva cva aka nsa csa MA VA SA):=hTA.keep kAB;have TB':Hid (bf 0 wB amb nmb cmb avb nvb cvb akb nsb csb MB VB SB):=hTB.keep kAB;have hXX:XA+1=XB:=by rw [hXB,hwA,hXA];simp
 have HXX:Hid (XA+1=XB):=hXX;go_upto_region 4 with fail
 rw [← hwA,← hwB,← hXA,hXX];clear hwA hwB hXA hXB kA kB kAB hBA hb1 hTA hTB hXX;go_wp2_with fail
 refine (rH a len cap wB (H.out.keep KB.out)).mono ?_;rintro e w2 ⟨q,am,nm,cm,av,nv,cv,ak,ns,cs,M,V,S,rfl,hX,hb2⟩;obtain ⟨hqw,hT0,hLQ0,⟨gk,rfl⟩,⟨gm,rfl⟩⟩:=hX;obtain ⟨X,hXe⟩:=aS w2.heap.size;obtain ⟨W,hW⟩:=aS (w2.alloc (.cells #[iT q,sL gm nm cm,.slice av nv cv,sL gk ns cs] 31));have kW:Bl w2 W:=by rw [hW];exact bZ
 have k2W:=hb2.trans (kW.mono hb2.size);have BX:Hid (ar W X (iT q) (sL gm nm cm) (.slice av nv cv) (sL gk ns cs)):=by rw [hW,hXe];exact ar.new _ _ _ _ _ _
 have BAW:Hid (ar W XA (iT qa) (.slice ama nma cma) (.slice ava nva cva) (.slice aka nsa csa)):=BA.out.keep k2W;have BBW:Hid (ar W XB (iT qb) (.slice amb nmb cmb) (.slice avb nvb cvb) (.slice akb nsb csb)):=BB.out.keep k2W;have KW:Hid (Bl w W):=KB.out.trans (k2W.mono KB.out.size);have HA:Hid (bf 0 W ama nma cma ava nva cva aka nsa csa MA VA SA):=TA.out.keep k2W;have HB:Hid (bf 0 W amb nmb cmb avb nvb cvb akb nsb csb MB VB SB):=TB'.out.keep k2W;have HT:Hid (bf 0 W (pT gm) nm cm av nv cv (pT gk) ns cs M V S):=hT0.keep kW;have HLQ:Hid (rW W av V):=fun i B hB=>by
  obtain ⟨b,e,n,c,e1,h1⟩:=hLQ0 i B hB;exact ⟨b,e,n,c,e1,cell_later kW h1⟩
 go_upto_region 5 with fail
 rw [← hW,← hXe];clear hW hXe kW k2W hb2 BA BB KB TA TB' hT0 hLQ0 HXX H;obtain ⟨sm,hsm⟩:∃b,b=cY qa MA VA SA qb MB VB SB:=⟨_,rfl⟩;obtain ⟨TB,hTB⟩:∃b,b=bc q M V S:=⟨_,rfl⟩;have HTBE:Hid (TB=true→bc q M V S=true):=fun h=>by rw [← hTB];exact h
 have C1:Hid (∀w',Bl W w'→Calls Tryz.prog 24 #[.agg #[iT qa,.slice ama nma cma,.slice ava nva cva,.slice aka nsa csa],.agg #[iT qb,.slice amb nmb cmb,.slice avb nvb cvb,.slice akb nsb csb]] w' fun e w''=>e=.returned (.bool sm)∧Bl w' w''):=fun w' k=>by
  rw [hsm];exact er qa qb 0 0 _ _ _ _ _ _ _ _ _ _ _ _ _ _ _ _ _ _ MA VA SA MB VB SB w' (HA.out.keep k) (HB.out.keep k)
 have C2:Hid (∀w',Bl W w'→Calls Tryz.prog 25 #[.agg #[iT qa,.slice ama nma cma,.slice ava nva cva,.slice aka nsa csa],.agg #[iT qb,.slice amb nmb cmb,.slice avb nvb cvb,.slice akb nsb csb]] w' fun e w''=>e=.returned (.bool sm)∧Bl w' w''):=fun w' k=>by
  rw [hsm];exact ra qa qb 0 0 _ _ _ _ _ _ _ _ _ _ _ _ _ _ _ _ _ _ MA VA SA MB VB SB w' (HA.out.keep k) (HB.out.keep k)
 have C3:Hid (∀w',Bl W w'→Calls Tryz.prog 24 #[.agg #[iT qb,.slice amb nmb cmb,.slice avb nvb cvb,.slice akb nsb csb],.agg #[iT qa,.slice ama nma cma,.slice ava nva cva,.slice aka nsa csa]] w' fun e w''=>e=.returned (.bool sm)∧Bl w' w''):=fun w' k=>by
  rw [hsm,← pP qa MA VA SA qb MB VB SB];exact er qb qa 0 0 _ _ _ _ _ _ _ _ _ _ _ _ _ _ _ _ _ _ MB VB SB MA VA SA w' (HB.out.keep k) (HA.out.keep k)
 have C4:Hid (∀w',Bl W w'→Calls Tryz.prog 24 #[.agg #[iT qa,.slice ama nma cma,.slice ava nva cva,.slice aka nsa csa],.agg #[iT qa,.slice ama nma cma,.slice ava nva cva,.slice aka nsa csa]] w' fun e w''=>e=.returned (.bool true)∧Bl w' w''):=fun w' k=>by
  rw [← pO qa MA VA SA];exact er qa qa 0 0 _ _ _ _ _ _ _ _ _ _ _ _ _ _ _ _ _ _ MA VA SA MA VA SA w' (HA.out.keep k) (HA.out.keep k)
 have C5:Hid (∀w',Bl W w'→Calls Tryz.prog 26 #[.agg #[iT q,sL gm nm cm,.slice av nv cv,sL gk ns cs]] w' fun e w''=>e=.returned (.bool TB)∧Bl w' w''):=fun w' k=>by
  rw [hTB];exact eW 0 q _ _ _ _ _ _ _ _ _ M V S w' (HT.out.keep k)
 have C6:Hid (∀w',Bl W w'→Calls Tryz.prog 27 #[.agg #[iT q,sL gm nm cm,.slice av nv cv,sL gk ns cs]] w' fun e w''=>e=.returned (.bool TB)∧Bl w' w''):=fun w' k=>by
  rw [hTB];exact jN 0 q _ _ _ _ _ _ _ _ _ M V S w' (HT.out.keep k)
 clear hsm hTB;have hs1:(sm != sm)=false:=by cases sm <;> rfl
 have ht1:(TB != TB)=false:=by cases TB <;> rfl
 have HMK:Hid (∀w',Bl W w'→(fun w':World=>w'.cell? ⟨XA,0,none⟩=some (iT qa)∧w'.cell? ⟨XA,1,none⟩=some (.slice ama nma cma)∧w'.cell? ⟨XA,2,none⟩=some (.slice ava nva cva)∧w'.cell? ⟨XA,3,none⟩=some (.slice aka nsa csa)∧XA<w'.heap.size∧w'.cell? ⟨XB,0,none⟩=some (iT qb)∧w'.cell? ⟨XB,1,none⟩=some (.slice amb nmb cmb)∧w'.cell? ⟨XB,2,none⟩=some (.slice avb nvb cvb)∧w'.cell? ⟨XB,3,none⟩=some (.slice akb nsb csb)∧XB<w'.heap.size∧w'.cell? ⟨X,0,none⟩=some (iT q)∧w'.cell? ⟨X,1,none⟩=some (sL gm nm cm)∧w'.cell? ⟨X,2,none⟩=some (.slice av nv cv)∧w'.cell? ⟨X,3,none⟩=some (sL gk ns cs)∧X<w'.heap.size) w'):=fun w' k=>by
  have x:=BAW.out.keep k;have y:=BBW.out.keep k;have z:=BX.out.keep k;exact ⟨x.c0,x.c1,x.c2,x.c3,x.lt,y.c0,y.c1,y.c2,y.c3,y.lt,z.c0,z.c1,z.c2,z.c3,z.lt⟩
 have kd:Bl W W.drew:=(Below.refl _ W).drew;refine eC HMK kd fun aa=>?_
 generalize W.drew=u0 at aa kd ⊢;refine aO 0 2 aa ?_;refine aO 3 2 aa ?_;refine aI 2 fun K hK=>?_
 go_simp;refine (C1.out _ kd).mono ?_;rintro e u1 ⟨rfl,hb1⟩;have k1:Bl W u1:=kd.trans (hb1.mono kd.size);clear hb1 kd;go_wp2_with fail
 refine hK.out _ _ (HMK.out _ k1) fun aa=>?_
 (try go_frame);refine aI 5 fun K hK=>?_
 go_simp;refine (C2.out _ k1).mono ?_;rintro e u2 ⟨rfl,hb2⟩;have k2:Bl W u2:=k1.trans (hb2.mono k1.size);clear hb2 k1;go_wp2_with fail
 refine hK.out _ _ (HMK.out _ k2) fun aa=>?_
 (try go_frame);refine aO 6 4 aa ?_;refine aO 11 2 aa ?_;refine aI 10 fun K hK=>?_
 go_simp;refine (C1.out _ k2).mono ?_;rintro e u3 ⟨rfl,hb3⟩;have k3:Bl W u3:=k2.trans (hb3.mono k2.size);clear hb3 k2;go_wp2_with fail
 refine hK.out _ _ (HMK.out _ k3) fun aa=>?_
 (try go_frame);refine aI 13 fun K hK=>?_
 go_simp;refine (C3.out _ k3).mono ?_;rintro e u4 ⟨rfl,hb4⟩;have k4:Bl W u4:=k3.trans (hb4.mono k3.size);clear hb4 k3;go_wp2_with fail
 refine hK.out _ _ (HMK.out _ k4) fun aa=>?_
 (try go_frame);refine aO 14 5 aa ?_;refine aI 19 fun K hK=>?_
 go_simp;refine (C4.out _ k4).mono ?_;rintro e u5 ⟨rfl,hb5⟩;have k5:Bl W u5:=k4.trans (hb5.mono k4.size);clear hb5 k4;go_wp2_with fail
 refine hK.out _ _ (HMK.out _ k5) fun aa=>?_
 (try go_frame);refine aO 20 4 aa ?_;refine aO 25 1 aa ?_;refine aI 24 fun K hK=>?_
 go_simp;refine (C5.out _ k5).mono ?_;rintro e u6 ⟨rfl,hb6⟩;have k6:Bl W u6:=k5.trans (hb6.mono k5.size);clear hb6 k5;go_wp2_with fail
 refine hK.out _ _ (HMK.out _ k6) fun aa=>?_
 (try go_frame);refine aI 26 fun K hK=>?_
 go_simp;refine (C6.out _ k6).mono ?_;rintro e u7 ⟨rfl,hb7⟩;have k7:Bl W u7:=k6.trans (hb7.mono k6.size);clear hb7 k6;go_wp2_with fail
 refine hK.out _ _ (HMK.out _ k7) fun aa=>?_
 (try go_frame);refine aO 27 2 aa ?_;refine dN ?_;have K7:Hid (Bl W u7):=k7;clear aa HMK k7 C1 C2 C3 C4 C5 hs1 ht1 HA HB BAW BBW;go_wp2_with fail
 refine (tn _).mono ?_;rintro e w8 ⟨eb,vb,sb,rfl,hN,hb8⟩;obtain ⟨N,hNe⟩:=aS w8.heap.size;obtain ⟨w9,hw9⟩:=aS (w8.alloc (.cells #[iT 0,sL eb 0 0,sL vb 3 3,sL sb 0 0] 31));have k9:Bl w8 w9:=by rw [hw9];exact bZ
 have k89:=hb8.trans (k9.mono hb8.size);have BN:Hid (ar w9 N (iT 0) (sL eb 0 0) (sL vb 3 3) (sL sb 0 0)):=by rw [hw9,hNe];exact ar.new _ _ _ _ _ _
 have HN:Hid (bf 0 w9 (pT eb) 0 0 (pT vb) 3 3 (pT sb) 0 0 [] [[],[],[]] []):=(hN.lowR (Nat.zero_le _)).keep k9;have K9:Hid (Bl W w9):=K7.out.trans (k89.mono K7.out.size);clear hN hb8 k89 k9 K7;go_upto_region 8 with fail
 rw [← hw9];try rw [← hNe]
 clear hw9 hNe;have yb:=BN.out;have y0:=yb.c0;have y1:=yb.c1;have y2:=yb.c2;have y3:=yb.c3;have yz:=yb.lt;clear yb;go_wp2_with fail
 clear y0 y1 y2 y3 yz;have hCO:=eW 0 0 _ _ _ _ _ _ _ _ _ [] [[],[],[]] [] w9 HN.out;rw [A8] at hCO;refine hCO.mono ?_;rintro e w10 ⟨rfl,hb10⟩;have K10:Hid (Bl w9 w10):=hb10;clear hCO hb10;have yb:=BN.out.keep K10.out;have y0:=yb.c0;have y1:=yb.c1;have y2:=yb.c2;have y3:=yb.c3;have yz:=yb.lt;clear yb;go_wp2_with fail
 clear y0 y1 y2 y3 yz;refine (tp 0 0 _ _ _ _ _ _ _ _ _ [] [[],[],[]] [] w10 (HN.out.keep K10.out) (by simp [BT,BU]) (fun e he=>by cases he) (fun B hB=>by simp at hB;subst hB;intro p hp;cases hp)).mono ?_;rintro e w11 ⟨⟨aw,nw,rfl,hO⟩,hb11⟩;have hnw:nw=0:=by have:=hO.len;rw [AH] at this;simpa using this.symm
 subst hnw;have K11:Hid (Bl w9 w11):=K10.out.trans (hb11.mono K10.out.size);clear hO hb11 K10;have yb:=BN.out.keep K11.out;have y0:=yb.c0;have y1:=yb.c1;have y2:=yb.c2;have y3:=yb.c3;have yz:=yb.lt;clear yb;go_wp2_with fail
 clear y0 y1 y2 y3 yz;have hCO:=eW 0 0 _ _ _ _ _ _ _ _ _ [] [] [] w11 (nK 0 w11);rw [Ap] at hCO;refine hCO.mono ?_;rintro e w12 ⟨rfl,hb12⟩;have K12:Hid (Bl W w12):=(K9.out.trans (K11.out.mono K9.out.size)).trans (hb12.mono (K9.out.trans (K11.out.mono K9.out.size)).size);clear hCO hb12 K9 K11 HN BN;have xb:=BX.out.keep K12.out;have x0:=xb.c0;have x1:=xb.c1;have x2:=xb.c2;have x3:=xb.c3;have xz:=xb.lt;clear xb;go_wp2_with fail
 clear x0 x1 x2 x3 xz;refine (C6.out _ K12.out).mono ?_;rintro e w13 ⟨rfl,hb13⟩;have K13:Hid (Bl W w13):=K12.out.trans (hb13.mono K12.out.size);clear hb13 C6 K12;cases TB with
 | false =>
  go_wp2;go_ret;exact ⟨rfl,KW.out.trans (K13.out.mono KW.out.size)⟩
 | true =>
  have HTB:Hid (bc q M V S=true):=HTBE.out rfl;clear HTBE;have xb:=BX.out.keep K13.out;have x0:=xb.c0;have x1:=xb.c1;have x2:=xb.c2;have x3:=xb.c3;have xz:=xb.lt;clear xb;obtain ⟨P1,hP1⟩:∃P,P=w13.heap.size:=⟨_,rfl⟩;obtain ⟨wa,hwa⟩:∃W,W=w13.alloc (.cells #[iT 100001,sL gm nm cm,.slice av nv cv,sL gk ns cs] 31):=⟨_,rfl⟩;obtain ⟨P2,hP2⟩:∃P,P=wa.heap.size:=⟨_,rfl⟩;obtain ⟨wb,hwb⟩:∃W,W=wa.alloc (.cells #[iT q,sL gm nm cm,.slice av nv cv,sL gk ns cs] 31):=⟨_,rfl⟩;have ka:Bl w13 wa:=by rw [hwa];exact bZ
  have kb:Bl wa wb:=by rw [hwb];exact bZ
  have hB1:ar wa P1 (iT 100001) (sL gm nm cm) (.slice av nv cv) (sL gk ns cs):=by rw [hwa,hP1];exact ar.new _ _ _ _ _ _
  have B1:Hid (ar wb P1 (iT 100001) (sL gm nm cm) (.slice av nv cv) (sL gk ns cs)):=hB1.keep kb;have B2:Hid (ar wb P2 (iT q) (sL gm nm cm) (.slice av nv cv) (sL gk ns cs)):=by rw [hwb,hP2];exact ar.new _ _ _ _ _ _
  have Kb:Hid (Bl W wb):=K13.out.trans ((ka.trans (kb.mono ka.size)).mono K13.out.size);have HP:Hid (P1+1=P2∧W.heap.size≤P1):=⟨by rw [hP2,hwa,hP1];simp,by rw [hP1];exact K13.out.size⟩;go_upto_region 15 with fail
  rw [← hwa,← hwb,← hP1,HP.out.1];clear hwa hwb hP1 hP2 ka kb hB1 K13;clear x0 x1 x2 x3 xz;go_cut [] from 75 (fun wz=>∃g8 c8,ar wz P1 (iT 100001) (sL gm nm cm) (.slice av nv cv) (sL gk ns cs)∧ar wz P2 (iT q) (sL gm nm cm) (.slice av nv cv) (sL g8 (ns+1) c8)∧bG 0 wz (pT g8) (ns+1) c8 (S++[q+1])∧Bl W wz)
  have hq:=iY HTB.out;have hwq:IntKind.i64.wrap (q+1)=q+1:=by rw [IntWalk.i64_left];unfold wrap64;omega
  have HQ:Hid (0≤q∧q≤100000∧S.length≤4):=⟨hq.1,hq.2.1,hq.2.2.2.2.1⟩;have HSL:Hid (S.length=ns):=HT.out.snaps.length;clear hq;obtain ⟨j0,hj,hy0,hy1,hy2⟩:=info_parts Tryz.infoInt;have HMK:Hid (∀w',Bl wb w'→(fun w':World=>w'.cell? ⟨X,0,none⟩=some (iT q)∧w'.cell? ⟨X,3,none⟩=some (sL gk ns cs)∧X<w'.heap.size) w'):=fun w' k=>by
   have x:=BX.out.keep (Kb.out.trans (k.mono Kb.out.size));exact ⟨x.c0,x.c3,x.lt⟩
  have HMS:Hid (∀w' u,Bl wb w'→(fun w':World=>w'.cell? ⟨X,0,none⟩=some (iT q)∧w'.cell? ⟨X,3,none⟩=some (sL gk ns cs)∧X<w'.heap.size) (w'.setCell ⟨P2,3,none⟩ u)):=fun w' u k=>by
   have hne:P2≠X:=by have:=HP.out;have:=BX.out.lt;omega
   have x:=(BX.out.keep (Kb.out.trans (k.mono Kb.out.size))).other (o:=3) hne u;exact ⟨x.c0,x.c3,x.lt⟩
  have k0:Bl wb wb.drew:=(Below.refl _ wb).drew;refine eC HMK k0 fun aa=>?_
  generalize wb.drew=v0 at aa k0 ⊢;refine aO 1 2 aa ?_;refine aO 4 3 aa ?_;refine iU 0 7 (fun K hK=>?_) (fun K hK=>?_)
  · go_simp;have kc:Bl v0 (v0.alloc (.cells #[] 3)):=bZ;have oI:(v0.alloc (.cells #[] 3)).ownsRow wb.heap.size 3 1 (sL (v0.heap.size) 0 0) 0 []:=World.ownsRow_lit (base:=wb.heap.size) (e:=3) (size:=1) v0 #[] 0 k0.size (by simp) (by simp);have k1:=k0.trans (kc.mono k0.size);clear kc;generalize v0.heap.size=ga at oI ⊢;generalize v0.alloc (.cells #[] 3)=v1 at oI k1 ⊢;refine hK.out _ _ (HMK.out _ k1) fun aa=>?_
    (try go_frame);refine iU 3 7 (fun K hK=>?_) (fun K hK=>?_)
    · refine bC rfl (.tmp 75) (.tmp 77) 24 rfl wb.heap.size 3 j0 _ 1 8 Tryz.underlying24 hj hy0 hy1 hy2 rfl (Nat.succ_pos 0) _ _ _ rfl oI (pT gk) ns cs (S.map iT) rfl (by rw [List.length_map,HSL.out,Nat.mul_one]) (fun e=>by cases e) (eV (HT.out.snaps.keep (Kb.out.trans (k1.mono Kb.out.size)))) (by intro u hu;obtain ⟨z,_,rfl⟩:=List.mem_map.1 hu;rfl) ?_ ?_ ?_ ?_
      · have:=HQ.out;have:=HSL.out;unfold maxLen;omega
      · have:=HQ.out;have:=HSL.out;omega
      · exact k1.size
      intro y3 v2 ho2 hg2 hn2;obtain ⟨g3,c3,rfl⟩:=aG ho2 hn2;have hg2':v1.grownBy v2 (some ga):=hg2;have k2:Bl wb v2:=k1.grown hg2' k1.size (fun k e=>by cases e;exact (oI.lt ga rfl).1);have o3:v2.ownsRow wb.heap.size 3 1 (sL g3 ns c3) ns (S.map iT):=by have h1:=ho2;rw [Nat.zero_add,List.nil_append] at h1;exact h1
      rw [Nat.zero_add];clear ho2 hg2 hn2 hg2' oI;refine hK.out _ _ (HMK.out _ k2) fun aa=>?_
      (try go_frame);refine aI 7 fun K hK=>?_
      go_simp;have kc:Bl v2 (v2.alloc (.cells #[iT (q+1)] 3)):=bZ;have hgb:(v2.alloc (.cells #[iT (q+1)] 3)).cell? ⟨v2.heap.size,0,none⟩=some (iT (q+1)):=by simp
      have o3:=o3.kept (row:=none) ⟨kc.os,kc.tape,kc.output,kc.size,fun k hk _=>kc.block k hk⟩ (.inr (by simp [Value.ownBlock]));have k3:=k2.trans (kc.mono k2.size);clear kc;generalize v2.heap.size=gb at hgb ⊢;generalize v2.alloc (.cells #[iT (q+1)] 3)=v3 at hgb k3 o3 ⊢;refine hK.out _ _ (HMK.out _ k3) fun aa=>?_
      (try go_frame);refine aI 8 fun K hK=>?_
      refine bC rfl (.tmp 78) (.tmp 82) 24 rfl wb.heap.size 3 j0 _ 1 8 Tryz.underlying24 hj hy0 hy1 hy2 rfl (Nat.succ_pos 0) _ _ _ rfl o3 (pT gb) 1 1 [iT (q+1)] rfl rfl (fun e=>by cases e) (ou hgb) (by intro u hu;simp at hu;subst hu;rfl) ?_ ?_ ?_ ?_
      · have:=HQ.out;have:=HSL.out;unfold maxLen;omega
      · have:=HQ.out;have:=HSL.out;omega
      · exact k3.size
      intro y8 v4 ho8 hg8 hn8;obtain ⟨g8,c8,rfl⟩:=aG ho8 hn8;have hg8':v3.grownBy v4 (some g3):=hg8;have k4:Bl wb v4:=k3.grown hg8' k3.size (fun k e=>by cases e;exact (o3.lt g3 rfl).1);clear hg8 hn8 hg8' o3 hgb;refine hK.out _ _ (HMK.out _ k4) fun aa=>?_
      (try go_frame);refine aO 9 1 aa ?_;refine aI 10 fun K hK=>?_
      have yb:=B2.out.keep k4;have y0:=yb.c0;have y1:=yb.c1;have y2:=yb.c2;have y3:=yb.c3;have yz:=yb.lt;have yf:=yb.fz;clear yb;go_simp;refine hK.out _ _ (HMS.out _ _ k4) (fun aa=>?_);clear hK K y0 y1 y2 y3 yz yf;(try go_frame);refine dN ?_;clear aa HMK HMS;go_wp2;go_meet
      have hp:=B2.out.lt;have hp2:=HP.out;have h1:=(B1.out.keep k4).other (o:=3) (show P2≠P1 by omega) (sL g8 (ns+1) c8);refine ⟨g8,c8,h1,(B2.out.keep k4).set3 _,((eH (S:=S++[q+1]) (by rw [List.map_append];exact ho8) (by rw [List.length_append,HSL.out];rfl) (fun z hz=>?_)).same (dJ.of_set ⟨P2,3,none⟩ _ hp)).lower (Nat.zero_le _),(Kb.out.trans (k4.mono Kb.out.size)).setCell (p:=⟨P2,3,none⟩) (by show W.heap.size≤P2;omega) _⟩;rcases List.mem_append.1 hz with h | h
      · exact HT.out.snaps.wfs z h
      · rw [List.mem_singleton] at h;subst h;exact WalkArith.wf_i64 (by have:=HQ.out;omega)
    · go_simp;have kc:Bl v1 (v1.alloc (.cells #[iT (q+1)] 3)):=bZ;have hgb:(v1.alloc (.cells #[iT (q+1)] 3)).cell? ⟨v1.heap.size,0,none⟩=some (iT (q+1)):=by simp
      have hne:v1.heap.size≠ga:=by have:=(oI.lt ga rfl).2;omega
      have oI:=oI.kept (row:=none) ⟨kc.os,kc.tape,kc.output,kc.size,fun k hk _=>kc.block k hk⟩ (.inr (by simp [Value.ownBlock]));have k2:=k1.trans (kc.mono k1.size);clear kc;generalize v1.heap.size=gb at hgb hne ⊢;generalize v1.alloc (.cells #[iT (q+1)] 3)=v2 at hgb k2 oI ⊢;refine hK.out _ _ (HMK.out _ k2) fun aa=>?_
      (try go_frame);refine aI 3 fun K hK=>?_
      refine bC rfl (.tmp 75) (.tmp 77) 24 rfl wb.heap.size 3 j0 _ 1 8 Tryz.underlying24 hj hy0 hy1 hy2 rfl (Nat.succ_pos 0) _ _ _ rfl oI (pT gk) ns cs (S.map iT) rfl (by rw [List.length_map,HSL.out,Nat.mul_one]) (fun e=>by cases e) (eV (HT.out.snaps.keep (Kb.out.trans (k2.mono Kb.out.size)))) (by intro u hu;obtain ⟨z,_,rfl⟩:=List.mem_map.1 hu;rfl) ?_ ?_ ?_ ?_
      · have:=HQ.out;have:=HSL.out;unfold maxLen;omega
      · have:=HQ.out;have:=HSL.out;omega
      · exact k2.size
      intro y3 v3 ho2 hg2 hn2;obtain ⟨g3,c3,rfl⟩:=aG ho2 hn2;have hg2':v2.grownBy v3 (some ga):=hg2;have k3:Bl wb v3:=k2.grown hg2' k2.size (fun k e=>by cases e;exact (oI.lt ga rfl).1);have hgb:=(World.cell?_of_block (a:=⟨gb,0,none⟩) (hg2'.block gb (World.block_lt_of_cell? _ _ hgb) (fun e=>hne (Option.some.inj e)))).trans hgb;have o3:v3.ownsRow wb.heap.size 3 1 (sL g3 ns c3) ns (S.map iT):=by have h1:=ho2;rw [Nat.zero_add,List.nil_append] at h1;exact h1
      rw [Nat.zero_add];clear ho2 hg2 hn2 hg2' oI hne;refine hK.out _ _ (HMK.out _ k3) fun aa=>?_
      (try go_frame);refine aI 8 fun K hK=>?_
      refine bC rfl (.tmp 78) (.tmp 82) 24 rfl wb.heap.size 3 j0 _ 1 8 Tryz.underlying24 hj hy0 hy1 hy2 rfl (Nat.succ_pos 0) _ _ _ rfl o3 (pT gb) 1 1 [iT (q+1)] rfl rfl (fun e=>by cases e) (ou hgb) (by intro u hu;simp at hu;subst hu;rfl) ?_ ?_ ?_ ?_
      · have:=HQ.out;have:=HSL.out;unfold maxLen;omega
      · have:=HQ.out;have:=HSL.out;omega
      · exact k3.size
      intro y8 v4 ho8 hg8 hn8;obtain ⟨g8,c8,rfl⟩:=aG ho8 hn8;have hg8':v3.grownBy v4 (some g3):=hg8;have k4:Bl wb v4:=k3.grown hg8' k3.size (fun k e=>by cases e;exact (o3.lt g3 rfl).1);clear hg8 hn8 hg8' o3 hgb;refine hK.out _ _ (HMK.out _ k4) fun aa=>?_
      (try go_frame);refine aO 9 1 aa ?_;refine aI 10 fun K hK=>?_
      have yb:=B2.out.keep k4;have y0:=yb.c0;have y1:=yb.c1;have y2:=yb.c2;have y3:=yb.c3;have yz:=yb.lt;have yf:=yb.fz;clear yb;go_simp;refine hK.out _ _ (HMS.out _ _ k4) (fun aa=>?_);clear hK K y0 y1 y2 y3 yz yf;(try go_frame);refine dN ?_;clear aa HMK HMS;go_wp2;go_meet
      have hp:=B2.out.lt;have hp2:=HP.out;have h1:=(B1.out.keep k4).other (o:=3) (show P2≠P1 by omega) (sL g8 (ns+1) c8);refine ⟨g8,c8,h1,(B2.out.keep k4).set3 _,((eH (S:=S++[q+1]) (by rw [List.map_append];exact ho8) (by rw [List.length_append,HSL.out];rfl) (fun z hz=>?_)).same (dJ.of_set ⟨P2,3,none⟩ _ hp)).lower (Nat.zero_le _),(Kb.out.trans (k4.mono Kb.out.size)).setCell (p:=⟨P2,3,none⟩) (by show W.heap.size≤P2;omega) _⟩;rcases List.mem_append.1 hz with h | h
      · exact HT.out.snaps.wfs z h
      · rw [List.mem_singleton] at h;subst h;exact WalkArith.wf_i64 (by have:=HQ.out;omega)
  · go_simp;have kc:Bl v0 (v0.alloc (.cells #[iT (q+1)] 3)):=bZ;have hgb:(v0.alloc (.cells #[iT (q+1)] 3)).cell? ⟨v0.heap.size,0,none⟩=some (iT (q+1)):=by simp
    have k1:=k0.trans (kc.mono k0.size);clear kc;generalize v0.heap.size=gb at hgb ⊢;generalize v0.alloc (.cells #[iT (q+1)] 3)=v1 at hgb k1 ⊢;refine hK.out _ _ (HMK.out _ k1) fun aa=>?_
    (try go_frame);refine aI 0 fun K hK=>?_
    go_simp;have kc:Bl v1 (v1.alloc (.cells #[] 3)):=bZ;have oI:(v1.alloc (.cells #[] 3)).ownsRow wb.heap.size 3 1 (sL (v1.heap.size) 0 0) 0 []:=World.ownsRow_lit (base:=wb.heap.size) (e:=3) (size:=1) v1 #[] 0 k1.size (by simp) (by simp);have hgl:=World.block_lt_of_cell? _ _ hgb;simp only at hgl;have hne:gb≠v1.heap.size:=by omega
    have hgb:=cell_later kc hgb;have k2:=k1.trans (kc.mono k1.size);clear kc hgl;generalize v1.heap.size=ga at oI hne ⊢;generalize v1.alloc (.cells #[] 3)=v2 at oI k2 hgb ⊢;refine hK.out _ _ (HMK.out _ k2) fun aa=>?_
    (try go_frame);refine aI 3 fun K hK=>?_
    refine bC rfl (.tmp 75) (.tmp 77) 24 rfl wb.heap.size 3 j0 _ 1 8 Tryz.underlying24 hj hy0 hy1 hy2 rfl (Nat.succ_pos 0) _ _ _ rfl oI (pT gk) ns cs (S.map iT) rfl (by rw [List.length_map,HSL.out,Nat.mul_one]) (fun e=>by cases e) (eV (HT.out.snaps.keep (Kb.out.trans (k2.mono Kb.out.size)))) (by intro u hu;obtain ⟨z,_,rfl⟩:=List.mem_map.1 hu;rfl) ?_ ?_ ?_ ?_
    · have:=HQ.out;have:=HSL.out;unfold maxLen;omega
    · have:=HQ.out;have:=HSL.out;omega
    · exact k2.size
    intro y3 v3 ho2 hg2 hn2;obtain ⟨g3,c3,rfl⟩:=aG ho2 hn2;have hg2':v2.grownBy v3 (some ga):=hg2;have k3:Bl wb v3:=k2.grown hg2' k2.size (fun k e=>by cases e;exact (oI.lt ga rfl).1);have hgb:=(World.cell?_of_block (a:=⟨gb,0,none⟩) (hg2'.block gb (World.block_lt_of_cell? _ _ hgb) (fun e=>hne (Option.some.inj e)))).trans hgb;have o3:v3.ownsRow wb.heap.size 3 1 (sL g3 ns c3) ns (S.map iT):=by have h1:=ho2;rw [Nat.zero_add,List.nil_append] at h1;exact h1
    rw [Nat.zero_add];clear ho2 hg2 hn2 hg2' oI hne;refine hK.out _ _ (HMK.out _ k3) fun aa=>?_
    (try go_frame);refine aI 8 fun K hK=>?_
    refine bC rfl (.tmp 78) (.tmp 82) 24 rfl wb.heap.size 3 j0 _ 1 8 Tryz.underlying24 hj hy0 hy1 hy2 rfl (Nat.succ_pos 0) _ _ _ rfl o3 (pT gb) 1 1 [iT (q+1)] rfl rfl (fun e=>by cases e) (ou hgb) (by intro u hu;simp at hu;subst hu;rfl) ?_ ?_ ?_ ?_
    · have:=HQ.out;have:=HSL.out;unfold maxLen;omega
    · have:=HQ.out;have:=HSL.out;omega
    · exact k3.size
    intro y8 v4 ho8 hg8 hn8;obtain ⟨g8,c8,rfl⟩:=aG ho8 hn8;have hg8':v3.grownBy v4 (some g3):=hg8;have k4:Bl wb v4:=k3.grown hg8' k3.size (fun k e=>by cases e;exact (o3.lt g3 rfl).1);clear hg8 hn8 hg8' o3 hgb;refine hK.out _ _ (HMK.out _ k4) fun aa=>?_
    (try go_frame);refine aO 9 1 aa ?_;refine aI 10 fun K hK=>?_
    have yb:=B2.out.keep k4;have y0:=yb.c0;have y1:=yb.c1;have y2:=yb.c2;have y3:=yb.c3;have yz:=yb.lt;have yf:=yb.fz;clear yb;go_simp;refine hK.out _ _ (HMS.out _ _ k4) (fun aa=>?_);clear hK K y0 y1 y2 y3 yz yf;(try go_frame);refine dN ?_;clear aa HMK HMS;go_wp2;go_meet
    have hp:=B2.out.lt;have hp2:=HP.out;have h1:=(B1.out.keep k4).other (o:=3) (show P2≠P1 by omega) (sL g8 (ns+1) c8);refine ⟨g8,c8,h1,(B2.out.keep k4).set3 _,((eH (S:=S++[q+1]) (by rw [List.map_append];exact ho8) (by rw [List.length_append,HSL.out];rfl) (fun z hz=>?_)).same (dJ.of_set ⟨P2,3,none⟩ _ hp)).lower (Nat.zero_le _),(Kb.out.trans (k4.mono Kb.out.size)).setCell (p:=⟨P2,3,none⟩) (by show W.heap.size≤P2;omega) _⟩;rcases List.mem_append.1 hz with h | h
    · exact HT.out.snaps.wfs z h
    · rw [List.mem_singleton] at h;subst h;exact WalkArith.wf_i64 (by have:=HQ.out;omega)
  case rest =>
   obtain ⟨g8,c8,hc1,hc2,hc3,hc4⟩:=hcut;have hV3:=(iY HTB.out).2.2.2.2.2;obtain ⟨bv,rfl⟩:=wT HLQ.out (by intro hv;rw [hv] at hV3;simp at hV3);obtain rfl:nv=3:=by rw [← HT.out.levels.length];exact hV3
   have hcv:3≤cv:=HT.out.levels.room;have D1:Hid (ar wc P1 (iT 100001) (sL gm nm cm) (sL bv 3 cv) (sL gk ns cs)):=hc1;have D2:Hid (ar wc P2 (iT q) (sL gm nm cm) (sL bv 3 cv) (sL g8 (ns+1) c8)):=hc2;have HS8:Hid (bG 0 wc (pT g8) (ns+1) c8 (S++[q+1])):=hc3;have Kc:Hid (Bl W wc):=hc4;clear hc1 hc2 hc3 hc4 B1 B2 Kb;have xb:=BX.out.keep Kc.out;have x0:=xb.c0;have x1:=xb.c1;have x2:=xb.c2;have x3:=xb.c3;have xz:=xb.lt;clear xb;obtain ⟨P3,hP3⟩:∃P,P=wc.heap.size:=⟨_,rfl⟩;obtain ⟨we,hwe⟩:∃W,W=wc.alloc (.cells #[iT q,sL gm nm cm,sL bv 2 cv,sL gk ns cs] 31):=⟨_,rfl⟩;obtain ⟨P4,hP4⟩:∃P,P=we.heap.size:=⟨_,rfl⟩;obtain ⟨wf,hwf⟩:∃W,W=we.alloc (.cells #[iT q,sL gm nm cm,sL bv 3 cv,sL gk ns cs] 31):=⟨_,rfl⟩;have ke:Bl wc we:=by rw [hwe];exact bZ
   have kf:Bl we wf:=by rw [hwf];exact bZ
   have hB3:ar we P3 (iT q) (sL gm nm cm) (sL bv 2 cv) (sL gk ns cs):=by rw [hwe,hP3];exact ar.new _ _ _ _ _ _
   have B3:Hid (ar wf P3 (iT q) (sL gm nm cm) (sL bv 2 cv) (sL gk ns cs)):=hB3.keep kf;have B4:Hid (ar wf P4 (iT q) (sL gm nm cm) (sL bv 3 cv) (sL gk ns cs)):=by rw [hwf,hP4];exact ar.new _ _ _ _ _ _
   have Kcf:Hid (Bl wc wf):=ke.trans (kf.mono ke.size);have Kf:Hid (Bl W wf):=Kc.out.trans (Kcf.out.mono Kc.out.size);have HP4:Hid (P3+1=P4∧wc.heap.size≤P3∧W.heap.size≤P3):=⟨by rw [hP4,hwe,hP3];simp,Nat.le_of_eq hP3.symm,by rw [hP3];exact Kc.out.size⟩;go_upto_region 19 with fail
   rw [← hwe,← hwf,← hP3,HP4.out.1];clear hwe hwf hP3 hP4 ke kf hB3;clear x0 x1 x2 x3 xz;obtain ⟨i0,hi,hz0,hz1,hz2⟩:=info_parts Tryz.infoEnt;have HML:Hid (M.length=nm∧nm≤60):=⟨HT.out.mem.1.length,by have h1:=(iY HTB.out).2.2.1;have h2:=HT.out.mem.1.length;omega⟩;have HMK:Hid (∀w',Bl wf w'→(fun w':World=>w'.cell? ⟨X,1,none⟩=some (sL gm nm cm)∧X<w'.heap.size) w'):=fun w' k=>by
    have x:=BX.out.keep (Kf.out.trans (k.mono Kf.out.size));exact ⟨x.c1,x.lt⟩
   have HMS:Hid (∀w' u,Bl wf w'→(fun w':World=>w'.cell? ⟨X,1,none⟩=some (sL gm nm cm)∧X<w'.heap.size) (w'.setCell ⟨P4,1,none⟩ u)):=fun w' u k=>by
    have hne:P4≠X:=by have:=HP4.out;have:=BX.out.lt;omega
    have x:=(BX.out.keep (Kf.out.trans (k.mono Kf.out.size))).other (o:=1) hne u;exact ⟨x.c1,x.lt⟩
   have k0:Bl wf wf.drew:=(Below.refl _ wf).drew;refine eC HMK k0 fun aa=>?_
   generalize wf.drew=v0 at aa k0 ⊢;refine aO 1 2 aa ?_;refine aO 4 2 aa ?_;refine aI 0 fun K hK=>?_
   go_simp;have kc:Bl v0 (v0.alloc (.cells #[] 50)):=bZ;have oE:=bQ v0 wf.heap.size k0.size;have k1:=k0.trans (kc.mono k0.size);clear kc;generalize v0.heap.size=ga at oE ⊢;generalize v0.alloc (.cells #[] 50)=v1 at k1 oE ⊢;refine hK.out _ _ (HMK.out _ k1) fun aa=>?_
   (try go_frame);refine aI 3 fun K hK=>?_
   refine bC rfl (.tmp 91) (.tmp 93) 28 rfl wf.heap.size 50 i0 _ 5 56 Tryz.underlying28 hi hz0 hz1 hz2 rfl (Nat.succ_pos 4) _ _ _ rfl oE.owns (pT gm) nm cm (aE M) rfl (by rw [bi,HML.out.1]) (fun e=>by cases e) (gE (HT.out.mem.1.keep (Kf.out.trans (k1.mono Kf.out.size)))) (aQ _) ?_ ?_ ?_ ?_
   · have:=HML.out;unfold maxLen;omega
   · have:=HML.out;omega
   · exact k1.size
   intro y2 v2 ho2 hg2 hn2;obtain ⟨g1,c1,rfl⟩:=aG ho2 hn2;have hg2':v1.grownBy v2 (some ga):=hg2;have k2:Bl wf v2:=k1.grown hg2' k1.size (fun k e=>by cases e;exact oE.lt.1);have oE:ay v2 wf.heap.size g1 nm c1 M:=⟨by have h1:=ho2;rw [Nat.zero_add] at h1;simpa [aE] using h1,HML.out.1,HT.out.mem.1.ents⟩;rw [Nat.zero_add];clear ho2 hg2 hn2 hg2';refine hK.out _ _ (HMK.out _ k2) fun aa=>?_
   (try go_frame);refine aI 6 fun K hK=>?_
   refine bC rfl (.tmp 94) (.tmp 96) 28 rfl wf.heap.size 50 i0 _ 5 56 Tryz.underlying28 hi hz0 hz1 hz2 rfl (Nat.succ_pos 4) _ _ _ rfl oE.owns (pT gm) nm cm (aE M) rfl (by rw [bi,HML.out.1]) (fun e=>by cases e) (gE (HT.out.mem.1.keep (Kf.out.trans (k2.mono Kf.out.size)))) (aQ _) ?_ ?_ ?_ ?_
   · have:=HML.out;unfold maxLen;omega
   · have:=HML.out;omega
   · exact k2.size
   intro y3 v3 ho3 hg3 hn3;obtain ⟨g6,c6,rfl⟩:=aG ho3 hn3;have hg3':v2.grownBy v3 (some g1):=hg3;have k3:Bl wf v3:=k2.grown hg3' k2.size (fun k e=>by cases e;exact oE.lt.1);have oF:ay v3 wf.heap.size g6 (nm+nm) c6 (M++M):=⟨by rw [aU];exact ho3,by rw [List.length_append,HML.out.1],fun l hl=>by
    rcases List.mem_append.1 hl with h | h <;> exact HT.out.mem.1.ents l h⟩
   clear ho3 hg3 hn3 hg3' oE;refine hK.out _ _ (HMK.out _ k3) fun aa=>?_
   (try go_frame);refine aO 7 1 aa ?_;refine aI 8 fun K hK=>?_
   have yb:=B4.out.keep k3;have y0:=yb.c0;have y1:=yb.c1;have y2:=yb.c2;have y3:=yb.c3;have yz:=yb.lt;have yf:=yb.fz;clear yb;go_simp;refine hK.out _ _ (HMS.out _ _ k3) (fun aa=>?_);clear hK K y0 y1 y2 y3 yz yf;(try go_frame);refine dN ?_;clear aa HMK HMS;obtain ⟨wg,hwg⟩:∃W,W=v3.setCell ⟨P4,1,none⟩ (sL g6 (nm+nm) c6):=⟨_,rfl⟩;have hp4:=HP4.out;have hl4:=B4.out.lt;have kg:Bl wc wg:=by rw [hwg];exact (Kcf.out.trans (k3.mono Kcf.out.size)).setCell (p:=⟨P4,1,none⟩) (by show wc.heap.size≤P4;omega) _
   have Kg:Hid (Bl wc wg):=kg;have KWg:Hid (Bl W wg):=Kc.out.trans (kg.mono Kc.out.size);have E4:Hid (ar wg P4 (iT q) (sL g6 (nm+nm) c6) (sL bv 3 cv) (sL gk ns cs)):=by rw [hwg];exact (B4.out.keep k3).set1 _
   have E3:Hid (ar wg P3 (iT q) (sL gm nm cm) (sL bv 2 cv) (sL gk ns cs)):=by rw [hwg];exact (B3.out.keep k3).other (o:=1) (show P4≠P3 by omega) _
   have E1:Hid (ar wg P1 (iT 100001) (sL gm nm cm) (sL bv 3 cv) (sL gk ns cs)):=D1.out.keep kg;have E2:Hid (ar wg P2 (iT q) (sL gm nm cm) (sL bv 3 cv) (sL g8 (ns+1) c8)):=D2.out.keep kg;have F4:Hid (aj wg (pT g6) (nm+nm) c6 (M++M)):=by
    rw [hwg];have hI:eu wf.heap.size v3 (pT g6) (nm+nm) c6 (M++M):=⟨oF.entsAt,fun x e _=>by cases e;exact oF.lt.1⟩;exact (hI.same (dJ.of_set ⟨P4,1,none⟩ _ hl4)).1
   rw [← hwg];clear hwg hp4 hl4 kg D1 D2 B3 B4 Kcf Kf k3 oF;have hT1:=HT.out.keep KWg.out;obtain ⟨A,B,C,rfl⟩:=kJ HTB.out;have HT1:Hid (bf 0 wg (pT gm) nm cm (pT bv) 3 cv (pT gk) ns cs M [A,B,C] S):=hT1;have HT2:Hid (bf 0 wg (pT gm) nm cm (pT bv) 3 cv (pT g8) (ns+1) c8 M [A,B,C] (S++[q+1])):=⟨hT1.mem,hT1.levels,HS8.out.keep Kg.out⟩;have HT3:Hid (bf 0 wg (pT gm) nm cm (pT bv) 2 cv (pT gk) ns cs M [A,B] S):=⟨hT1.mem,uF hT1.levels,hT1.snaps⟩;have HT4:Hid (bf 0 wg (pT g6) (nm+nm) c6 (pT bv) 3 cv (pT gk) ns cs (M++M) [A,B,C] S):=⟨⟨F4.out,fun _ _ _=>Nat.zero_le _⟩,hT1.levels,hT1.snaps⟩;clear hT1 F4 HS8;have HBX:Hid (ar wg X (iT q) (sL gm nm cm) (sL bv 3 cv) (sL gk ns cs)):=BX.out.keep KWg.out;have kz:Bl wg wg:=Below.refl _ _;have xb:=E1.out.keep kz;have x0:=xb.c0;have x1:=xb.c1;have x2:=xb.c2;have x3:=xb.c3;have xz:=xb.lt;clear xb;go_wp2_with fail
   clear x0 x1 x2 x3 xz;have hCO:=eW 0 100001 _ _ _ _ _ _ _ _ _ M [A,B,C] S _ (HT1.out.keep kz);rw [Bh M [A,B,C] S] at hCO;refine hCO.mono ?_;rintro e z1 ⟨rfl,hbz⟩;have kz1:Bl wg z1:=kz.trans (hbz.mono kz.size);clear hbz hCO;have xb:=E2.out.keep kz1;have x0:=xb.c0;have x1:=xb.c1;have x2:=xb.c2;have x3:=xb.c3;have xz:=xb.lt;clear xb;go_wp2_with fail
   clear x0 x1 x2 x3 xz;have hCO:=eW 0 q _ _ _ _ _ _ _ _ _ M [A,B,C] (S++[q+1]) _ (HT2.out.keep kz1);rw [va HTB.out] at hCO;refine hCO.mono ?_;rintro e z2 ⟨rfl,hbz⟩;have kz2:Bl wg z2:=kz1.trans (hbz.mono kz1.size);clear hbz hCO;have xb:=E3.out.keep kz2;have x0:=xb.c0;have x1:=xb.c1;have x2:=xb.c2;have x3:=xb.c3;have xz:=xb.lt;clear xb;go_wp2_with fail
   clear x0 x1 x2 x3 xz;have hCO:=eW 0 q _ _ _ _ _ _ _ _ _ M [A,B] S _ (HT3.out.keep kz2);rw [tF q M A B S] at hCO;refine hCO.mono ?_;rintro e z3 ⟨rfl,hbz⟩;have kz3:Bl wg z3:=kz2.trans (hbz.mono kz2.size);clear hbz hCO;have yb:=HBX.out.keep kz3;have y0:=yb.c0;have y1:=yb.c1;have y2:=yb.c2;have y3:=yb.c3;have yz:=yb.lt;clear yb;by_cases hn0:nm=0
   · have hnI:((nm:Int) == 0)=true:=by subst hn0;rfl
     have hnI2:(nm:Int)=0:=by omega
     clear hn0;have xb:=HBX.out.keep kz3;have x0:=xb.c0;have x1:=xb.c1;have x2:=xb.c2;have x3:=xb.c3;have xz:=xb.lt;clear xb;have yb:=E2.out.keep kz3;have y0:=yb.c0;have y1:=yb.c1;have y2:=yb.c2;have y3:=yb.c3;have yz:=yb.lt;clear yb;go_wp2_with fail
     clear x0 x1 x2 x3 xz y0 y1 y2 y3 yz;have hCO:=er q q 0 0 _ _ _ _ _ _ _ _ _ _ _ _ _ _ _ _ _ _ M [A,B,C] S M [A,B,C] (S++[q+1]) _ (HT1.out.keep kz3) (HT2.out.keep kz3);rw [kH q M [A,B,C] S] at hCO;refine hCO.mono ?_;rintro e z8 ⟨rfl,hbz⟩;have kz8:Bl wg z8:=kz3.trans (hbz.mono kz3.size);clear hbz hCO;have xb:=HBX.out.keep kz8;have x0:=xb.c0;have x1:=xb.c1;have x2:=xb.c2;have x3:=xb.c3;have xz:=xb.lt;clear xb;have yb:=E3.out.keep kz8;have y0:=yb.c0;have y1:=yb.c1;have y2:=yb.c2;have y3:=yb.c3;have yz:=yb.lt;clear yb;go_wp2_with fail
     clear x0 x1 x2 x3 xz y0 y1 y2 y3 yz;have hCO:=er q q 0 0 _ _ _ _ _ _ _ _ _ _ _ _ _ _ _ _ _ _ M [A,B,C] S M [A,B] S _ (HT1.out.keep kz8) (HT3.out.keep kz8);rw [jI q M A B C S] at hCO;refine hCO.mono ?_;rintro e z9 ⟨rfl,hbz⟩;have kz9:Bl wg z9:=kz8.trans (hbz.mono kz8.size);clear hbz hCO;go_wp2;go_ret;exact ⟨rfl,KW.out.trans ((KWg.out.trans (kz9.mono KWg.out.size)).mono KW.out.size)⟩
   · have hnI:((nm:Int) == 0)=false:=by simpa using hn0
     have hnI2:¬(nm:Int)=0:=by omega
     have hMn:M≠[]:=fun e=>hn0 (by have:=HML.out.1;rw [e] at this;simpa using this.symm)
     have xb:=E4.out.keep kz3;have x0:=xb.c0;have x1:=xb.c1;have x2:=xb.c2;have x3:=xb.c3;have xz:=xb.lt;clear xb;go_wp2_with fail
     clear y0 y1 y2 y3 yz x0 x1 x2 x3 xz;have hCO:=eW 0 q _ _ _ _ _ _ _ _ _ (M++M) [A,B,C] S _ (HT4.out.keep kz3);rw [zO hMn] at hCO;refine hCO.mono ?_;rintro e z4 ⟨rfl,hbz⟩;have kz4:Bl wg z4:=kz3.trans (hbz.mono kz3.size);clear hbz hCO;have xb:=HBX.out.keep kz4;have x0:=xb.c0;have x1:=xb.c1;have x2:=xb.c2;have x3:=xb.c3;have xz:=xb.lt;clear xb;have yb:=E2.out.keep kz4;have y0:=yb.c0;have y1:=yb.c1;have y2:=yb.c2;have y3:=yb.c3;have yz:=yb.lt;clear yb;go_wp2_with fail
     clear x0 x1 x2 x3 xz y0 y1 y2 y3 yz;have hCO:=er q q 0 0 _ _ _ _ _ _ _ _ _ _ _ _ _ _ _ _ _ _ M [A,B,C] S M [A,B,C] (S++[q+1]) _ (HT1.out.keep kz4) (HT2.out.keep kz4);rw [kH q M [A,B,C] S] at hCO;refine hCO.mono ?_;rintro e z8 ⟨rfl,hbz⟩;have kz8:Bl wg z8:=kz4.trans (hbz.mono kz4.size);clear hbz hCO;have xb:=HBX.out.keep kz8;have x0:=xb.c0;have x1:=xb.c1;have x2:=xb.c2;have x3:=xb.c3;have xz:=xb.lt;clear xb;have yb:=E3.out.keep kz8;have y0:=yb.c0;have y1:=yb.c1;have y2:=yb.c2;have y3:=yb.c3;have yz:=yb.lt;clear yb;go_wp2_with fail
     clear x0 x1 x2 x3 xz y0 y1 y2 y3 yz;have hCO:=er q q 0 0 _ _ _ _ _ _ _ _ _ _ _ _ _ _ _ _ _ _ M [A,B,C] S M [A,B] S _ (HT1.out.keep kz8) (HT3.out.keep kz8);rw [jI q M A B C S] at hCO;refine hCO.mono ?_;rintro e z9 ⟨rfl,hbz⟩;have kz9:Bl wg z9:=kz8.trans (hbz.mono kz8.size);clear hbz hCO;go_wp2;go_ret;exact ⟨rfl,KW.out.trans ((KWg.out.trans (kz9.mono KWg.out.size)).mono KW.out.size)⟩
end Go.Proofs.YtpobkmjicbobdaaGreat
