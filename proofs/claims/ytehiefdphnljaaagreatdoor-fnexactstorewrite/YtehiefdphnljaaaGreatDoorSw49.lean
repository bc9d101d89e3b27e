/- Walks. -/
import Derived.Laws.OwnMore
import Derived.Test.YtehiefdphnljaaaGreatDoorSw48
namespace Go.Proofs.YtehiefdphnljaaaGreatDoor
set_option maxRecDepth 100000
set_option maxHeartbeats 40000000
open Go.RowKit
variable {D L:List ae} {X base c cd gd i lo n nb:Nat} {a:Option Addr} {d q:Int} {s t:ByteArray} {u2 u3:Value} {w wr:World}
theorem yg (s t:ByteArray) (q d n:Int) (w:World) (hE:dt (s,q,d,t,n)) :
 Calls Tryz.prog 75 #[nZ,.agg #[.string s,iT q,iT d,.string t,iT n]] w fun e w'=>∃g c,e=.returned (sL g 1 c)∧aE w' w.heap.size g 1 c [(s,q,d,t,n)]∧Bl w w':=by
 have HEW:=ar hE;obtain ⟨X,hX⟩:=aw w.heap.size;obtain ⟨W,hW⟩:=aw (w.alloc (.cells #[.string s,iT q,iT d,.string t,iT n] 59));have x0:W.cell? ⟨X,0,none⟩=some (.string s):=by rw [hW,hX];simp
 have x1:W.cell? ⟨X,1,none⟩=some (iT q):=by rw [hW,hX];simp
 have x2:W.cell? ⟨X,2,none⟩=some (iT d):=by rw [hW,hX];simp
 have x3:W.cell? ⟨X,3,none⟩=some (.string t):=by rw [hW,hX];simp
 have x4:W.cell? ⟨X,4,none⟩=some (iT n):=by rw [hW,hX];simp
 have kW:Bl w W:=by rw [hW];exact bZ
 have hWs:w.heap.size+1≤W.heap.size:=by rw [hW];simp
 have HXW:Hid (X=w.heap.size):=hX;have HKW:Hid (Bl w W):=kW;have HWS:Hid (w.heap.size+1≤W.heap.size):=hWs;obtain ⟨i0,hi,hz0,hz1,hz2⟩:=info_parts Tryz.infoEnt;go_enter Tryz.func75,Tryz.ntmps75
 go_upto_block 0 with fail
 rw [← hW,← hX];clear hW hX kW hWs hE;go_cut [5] (fun kv wz=>kv=iT 0∧Bl W wz)
 case first =>
  go_wp2_with fail
  go_loopw [5] (fun kv wr=>kv=iT 0∧Bl W wr) (fun _ _=>0)
  case atStart=>exact ⟨rfl,Below.refl _ _⟩
  case round =>
   obtain ⟨rfl,hb⟩:=hrel;have y0:=cell_later hb x0;have y1:=cell_later hb x1;have y2:=cell_later hb x2;have y3:=cell_later hb x3;have y4:=cell_later hb x4;have k0:Bl wr wr.drew:=(Below.refl _ wr).drew;have HMK:Hid (∀w',Bl wr w'→(w'.cell? ⟨X,0,none⟩=some (.string s)∧w'.cell? ⟨X,1,none⟩=some (iT q)∧w'.cell? ⟨X,2,none⟩=some (iT d)∧w'.cell? ⟨X,3,none⟩=some (.string t)∧w'.cell? ⟨X,4,none⟩=some (iT n)∧X<w'.heap.size)):=fun w' kk=>⟨cell_later kk y0,cell_later kk y1,cell_later kk y2,cell_later kk y3,cell_later kk y4,World.block_lt_of_cell? _ _ (cell_later kk y0)⟩
   go_wp2_with fail
   refine dC HMK k0 fun aa=>?_
   refine aK 0 9 aa ?_;refine aP 9 fun K hK=>?_
   go_simp;refine hK.out _ _ (HMK.out _ k0) fun aa=>?_
   refine aK 10 1 aa ?_;refine dN ?_;have KZ:Hid (Bl W wr.drew):=hb.trans (k0.mono hb.size);clear k0 HMK aa y0 y1 y2 y3 y4 hb;go_wp2;go_meet
   exact ⟨rfl,KZ.out⟩
 case rest =>
  obtain ⟨rfl,kz⟩:=hcut;obtain ⟨wz,hwz⟩:=aw wc;rw [← hwz] at kz ⊢;clear hwz;have kzw:Bl w wz:=HKW.out.trans (kz.mono HKW.out.size);have hzs:w.heap.size+1≤wz.heap.size:=Nat.le_trans HWS.out kz.size;have z0:=cell_later kz x0;have z1:=cell_later kz x1;have z2:=cell_later kz x2;have z3:=cell_later kz x3;have z4:=cell_later kz x4;have kt:Bl wz (wz.alloc (.cells #[] 59)):=bZ;have HT0:Hid (aE (wz.alloc (.cells #[] 59)) (w.heap.size+1) wz.heap.size 0 0 []):=dJ wz _ hzs;have HS0:Hid (fa w (wz.alloc (.cells #[] 59)) X wz.heap.size 0 0 s t q d n []):=⟨kzw.trans (kt.mono kzw.size),Nat.le_trans hzs kt.size,cell_later kt z0,cell_later kt z1,cell_later kt z2,cell_later kt z3,cell_later kt z4,HT0.out⟩;clear kz z0 z1 z2 z3 z4 kt kzw;go_upto_region 4 with fail
  go_cut [6] (fun tv wt=>∃gt ct,tv=sL gt 0 ct∧fa w wt X gt 0 ct s t q d n [])
  case first =>
   go_wp2;go_meet
   exact ⟨wz.heap.size,0,rfl,HS0.out⟩
  case rest =>
   obtain ⟨gt,ct,rfl,hst⟩:=hcut;obtain ⟨wt,hwt⟩:=aw wc;rw [← hwt] at hst ⊢;have k0:fa w wt.drew X gt 0 ct s t q d n []:=hst.below (Below.refl _ wt).drew;clear hwt hst HT0 HS0 hzs;have HMK:Hid (∀w',fa w w' X gt 0 ct s t q d n []→(w'.cell? ⟨X,0,none⟩=some (.string s)∧w'.cell? ⟨X,1,none⟩=some (iT q)∧w'.cell? ⟨X,2,none⟩=some (iT d)∧w'.cell? ⟨X,3,none⟩=some (.string t)∧w'.cell? ⟨X,4,none⟩=some (iT n)∧X<w'.heap.size)):=fun w' kk=>⟨kk.x0,kk.x1,kk.x2,kk.x3,kk.x4,kk.lt⟩
   go_wp2_with fail
   refine dC HMK k0 fun aa=>?_
   generalize wt.drew=wd at k0 aa ⊢;refine aK 1 3 aa ?_;refine aK 5 1 aa ?_;refine aK 8 1 aa ?_;have hgt:=k0.tl.lt.2;refine uv 0 6 (fun K hK=>?_) (fun K hK=>?_)
   · go_simp;have kA:Bl wd (wd.alloc (.cells #[] 59)):=bZ;have sA:=k0.below kA;have hne:gt≠wd.heap.size:=by omega
     have rA:aE (wd.alloc (.cells #[] 59)) (w.heap.size+1) wd.heap.size 0 0 []:=dJ wd _ k0.hi;generalize wd.heap.size=ga at rA hne ⊢;generalize wd.alloc (.cells #[] 59)=wa at sA rA ⊢;clear kA;refine hK.out _ _ (HMK.out _ sA) fun aa=>?_
     (try go_frame);refine uv 4 6 (fun K hK=>?_) (fun K hK=>?_)
     · go_simp;refine hK.out _ _ (HMK.out _ sA) fun aa=>?_
       (try go_frame);refine aP 6 fun K hK=>?_
       go_simp;have kN:Bl wa (wa.alloc (.cells #[.string s,iT q,iT d,.string t,iT n] 59)):=bZ;have sN:=sA.below kN;have rN:an (wa.alloc (.cells #[.string s,iT q,iT d,.string t,iT n] 59)) (some ⟨wa.heap.size,0,none⟩) 1 1 [(s,q,d,t,n)]:=gC wa _ _ _ _ _ HEW.out;have rB:=rA.below kN;have hgn:ga≠wa.heap.size:=by have:=rA.lt.2;omega
       generalize wa.heap.size=gn at rN hgn ⊢;generalize wa.alloc (.cells #[.string s,iT q,iT d,.string t,iT n] 59)=wn at sN rN rB ⊢;clear kN;refine hK.out _ _ (HMK.out _ sN) fun aa=>?_
       (try go_frame);refine aP 7 fun K hK=>?_
       refine aA rfl (.tmp 31) (.tmp 33) 33 rfl (w.heap.size+1) 59 i0 _ 5 56 Tryz.underlying33 hi hz0 hz1 hz2 rfl (Nat.succ_pos 4) _ _ _ rfl rB.owns ⟨gn,0,none⟩ 1 1 (aG [(s,q,d,t,n)]) rfl rfl (de rN) (bF _) (by decide) (by decide) sN.hi ?_;intro v7 w7 hown7 hgrow7 hnil7;obtain ⟨g7,c7,rfl⟩:=bw hown7 hnil7;have hgrow7':wn.grownBy w7 (some ga):=hgrow7;have s7:=sN.grown hgrow7' (by have:=rB.lt.1;omega) (by have:=rB.lt.1;have:=HXW.out;omega) hne;have r7:aE w7 (w.heap.size+1) g7 1 c7 [(s,q,d,t,n)]:=⟨hown7,rfl,fun l hl=>by simp only [List.mem_singleton] at hl;subst hl;exact HEW.out⟩;refine hK.out _ _ (HMK.out _ s7) fun aa=>?_
       (try go_frame);refine aP 9 fun K hK=>?_
       refine aA rfl (.tmp 34) (.tmp 35) 33 rfl (w.heap.size+1) 59 i0 _ 5 56 Tryz.underlying33 hi hz0 hz1 hz2 rfl (Nat.succ_pos 4) _ _ _ rfl r7.owns ⟨gt,0,none⟩ 0 ct [] rfl rfl (fun _ _ h=>by cases h) (fun _ h=>by cases h) (by decide) (by decide) s7.hi ?_;intro v9 w9 hown9 hgrow9 hnil9;obtain ⟨g9,c9,rfl⟩:=bw hown9 hnil9;have hgrow9':w7.grownBy w9 (some g7):=hgrow9;have hb9:Bl w w9:=s7.low.grown hgrow9' s7.low.size (fun k e=>by cases e;have:=r7.lt.1;omega);have HO9:Hid (aE w9 w.heap.size g9 1 c9 [(s,q,d,t,n)]):=aE.mono (base:=w.heap.size+1) ⟨hown9,rfl,r7.ents⟩ (by omega);have HB9:Hid (Bl w w9):=hb9;refine hK.out _ _ ?_ (fun aa=>?_)
       · have n9:X≠g7:=by have:=r7.lt.1;have:=HXW.out;omega
         exact ⟨(ay hgrow9' (x:=⟨X,0,none⟩) s7.lt n9).trans s7.x0,(ay hgrow9' (x:=⟨X,1,none⟩) s7.lt n9).trans s7.x1,(ay hgrow9' (x:=⟨X,2,none⟩) s7.lt n9).trans s7.x2,(ay hgrow9' (x:=⟨X,3,none⟩) s7.lt n9).trans s7.x3,(ay hgrow9' (x:=⟨X,4,none⟩) s7.lt n9).trans s7.x4,Nat.lt_of_lt_of_le s7.lt hgrow9.size⟩
       clear hK K;(try go_frame);refine aK 10 1 aa ?_;refine dN ?_;clear hown9 hgrow9 hnil9 hown7 hgrow7 hnil7 r7 s7 hb9;go_wp2;go_ret;exact ⟨g9,c9,rfl,HO9.out,HB9.out⟩
     · go_simp;have kN:Bl wa (wa.alloc (.cells #[.string s,iT q,iT d,.string t,iT n] 59)):=bZ;have sN:=sA.below kN;have rN:an (wa.alloc (.cells #[.string s,iT q,iT d,.string t,iT n] 59)) (some ⟨wa.heap.size,0,none⟩) 1 1 [(s,q,d,t,n)]:=gC wa _ _ _ _ _ HEW.out;have rB:=rA.below kN;have hgn:ga≠wa.heap.size:=by have:=rA.lt.2;omega
       generalize wa.heap.size=gn at rN hgn ⊢;generalize wa.alloc (.cells #[.string s,iT q,iT d,.string t,iT n] 59)=wn at sN rN rB ⊢;clear kN;refine hK.out _ _ (HMK.out _ sN) fun aa=>?_
       (try go_frame);refine aP 4 fun K hK=>?_
       go_simp;refine hK.out _ _ (HMK.out _ sN) fun aa=>?_
       (try go_frame);refine aP 7 fun K hK=>?_
       refine aA rfl (.tmp 31) (.tmp 33) 33 rfl (w.heap.size+1) 59 i0 _ 5 56 Tryz.underlying33 hi hz0 hz1 hz2 rfl (Nat.succ_pos 4) _ _ _ rfl rB.owns ⟨gn,0,none⟩ 1 1 (aG [(s,q,d,t,n)]) rfl rfl (de rN) (bF _) (by decide) (by decide) sN.hi ?_;intro v7 w7 hown7 hgrow7 hnil7;obtain ⟨g7,c7,rfl⟩:=bw hown7 hnil7;have hgrow7':wn.grownBy w7 (some ga):=hgrow7;have s7:=sN.grown hgrow7' (by have:=rB.lt.1;omega) (by have:=rB.lt.1;have:=HXW.out;omega) hne;have r7:aE w7 (w.heap.size+1) g7 1 c7 [(s,q,d,t,n)]:=⟨hown7,rfl,fun l hl=>by simp only [List.mem_singleton] at hl;subst hl;exact HEW.out⟩;refine hK.out _ _ (HMK.out _ s7) fun aa=>?_
       (try go_frame);refine aP 9 fun K hK=>?_
       refine aA rfl (.tmp 34) (.tmp 35) 33 rfl (w.heap.size+1) 59 i0 _ 5 56 Tryz.underlying33 hi hz0 hz1 hz2 rfl (Nat.succ_pos 4) _ _ _ rfl r7.owns ⟨gt,0,none⟩ 0 ct [] rfl rfl (fun _ _ h=>by cases h) (fun _ h=>by cases h) (by decide) (by decide) s7.hi ?_;intro v9 w9 hown9 hgrow9 hnil9;obtain ⟨g9,c9,rfl⟩:=bw hown9 hnil9;have hgrow9':w7.grownBy w9 (some g7):=hgrow9;have hb9:Bl w w9:=s7.low.grown hgrow9' s7.low.size (fun k e=>by cases e;have:=r7.lt.1;omega);have HO9:Hid (aE w9 w.heap.size g9 1 c9 [(s,q,d,t,n)]):=aE.mono (base:=w.heap.size+1) ⟨hown9,rfl,r7.ents⟩ (by omega);have HB9:Hid (Bl w w9):=hb9;refine hK.out _ _ ?_ (fun aa=>?_)
       · have n9:X≠g7:=by have:=r7.lt.1;have:=HXW.out;omega
         exact ⟨(ay hgrow9' (x:=⟨X,0,none⟩) s7.lt n9).trans s7.x0,(ay hgrow9' (x:=⟨X,1,none⟩) s7.lt n9).trans s7.x1,(ay hgrow9' (x:=⟨X,2,none⟩) s7.lt n9).trans s7.x2,(ay hgrow9' (x:=⟨X,3,none⟩) s7.lt n9).trans s7.x3,(ay hgrow9' (x:=⟨X,4,none⟩) s7.lt n9).trans s7.x4,Nat.lt_of_lt_of_le s7.lt hgrow9.size⟩
       clear hK K;(try go_frame);refine aK 10 1 aa ?_;refine dN ?_;clear hown9 hgrow9 hnil9 hown7 hgrow7 hnil7 r7 s7 hb9;go_wp2;go_ret;exact ⟨g9,c9,rfl,HO9.out,HB9.out⟩
   · go_simp;have kN:Bl wd (wd.alloc (.cells #[.string s,iT q,iT d,.string t,iT n] 59)):=bZ;have sN:=k0.below kN;have rN:an (wd.alloc (.cells #[.string s,iT q,iT d,.string t,iT n] 59)) (some ⟨wd.heap.size,0,none⟩) 1 1 [(s,q,d,t,n)]:=gC wd _ _ _ _ _ HEW.out;have hgn9:gt<(wd.alloc (.cells #[.string s,iT q,iT d,.string t,iT n] 59)).heap.size:=by rw [World.size_alloc];omega
     generalize wd.heap.size=gn at rN ⊢;generalize wd.alloc (.cells #[.string s,iT q,iT d,.string t,iT n] 59)=wn at sN rN hgn9 ⊢;clear kN;refine hK.out _ _ (HMK.out _ sN) fun aa=>?_
     (try go_frame);refine aP 0 fun K hK=>?_
     go_simp;have kA:Bl wn (wn.alloc (.cells #[] 59)):=bZ;have sA:=sN.below kA;have hne:gt≠wn.heap.size:=by omega
     have rA:aE (wn.alloc (.cells #[] 59)) (w.heap.size+1) wn.heap.size 0 0 []:=dJ wn _ sN.hi;have rM:=rN.keep kA;have hgn:wn.heap.size≠gn:=by have h1:gn<wn.heap.size:=(rN.lies _ rfl (by decide)).1;omega
     generalize wn.heap.size=ga at rA hgn hne ⊢;generalize wn.alloc (.cells #[] 59)=wa at sA rA rM ⊢;clear kA;refine hK.out _ _ (HMK.out _ sA) fun aa=>?_
     (try go_frame);refine aP 4 fun K hK=>?_
     go_simp;refine hK.out _ _ (HMK.out _ sA) fun aa=>?_
     (try go_frame);refine aP 7 fun K hK=>?_
     refine aA rfl (.tmp 31) (.tmp 33) 33 rfl (w.heap.size+1) 59 i0 _ 5 56 Tryz.underlying33 hi hz0 hz1 hz2 rfl (Nat.succ_pos 4) _ _ _ rfl rA.owns ⟨gn,0,none⟩ 1 1 (aG [(s,q,d,t,n)]) rfl rfl (de rM) (bF _) (by decide) (by decide) sA.hi ?_;intro v7 w7 hown7 hgrow7 hnil7;obtain ⟨g7,c7,rfl⟩:=bw hown7 hnil7;have hgrow7':wa.grownBy w7 (some ga):=hgrow7;have s7:=sA.grown hgrow7' (by have:=rA.lt.1;omega) (by have:=rA.lt.1;have:=HXW.out;omega) hne;have r7:aE w7 (w.heap.size+1) g7 1 c7 [(s,q,d,t,n)]:=⟨hown7,rfl,fun l hl=>by simp only [List.mem_singleton] at hl;subst hl;exact HEW.out⟩;refine hK.out _ _ (HMK.out _ s7) fun aa=>?_
     (try go_frame);refine aP 9 fun K hK=>?_
     refine aA rfl (.tmp 34) (.tmp 35) 33 rfl (w.heap.size+1) 59 i0 _ 5 56 Tryz.underlying33 hi hz0 hz1 hz2 rfl (Nat.succ_pos 4) _ _ _ rfl r7.owns ⟨gt,0,none⟩ 0 ct [] rfl rfl (fun _ _ h=>by cases h) (fun _ h=>by cases h) (by decide) (by decide) s7.hi ?_;intro v9 w9 hown9 hgrow9 hnil9;obtain ⟨g9,c9,rfl⟩:=bw hown9 hnil9;have hgrow9':w7.grownBy w9 (some g7):=hgrow9;have hb9:Bl w w9:=s7.low.grown hgrow9' s7.low.size (fun k e=>by cases e;have:=r7.lt.1;omega);have HO9:Hid (aE w9 w.heap.size g9 1 c9 [(s,q,d,t,n)]):=aE.mono (base:=w.heap.size+1) ⟨hown9,rfl,r7.ents⟩ (by omega);have HB9:Hid (Bl w w9):=hb9;refine hK.out _ _ ?_ (fun aa=>?_)
     · have n9:X≠g7:=by have:=r7.lt.1;have:=HXW.out;omega
       exact ⟨(ay hgrow9' (x:=⟨X,0,none⟩) s7.lt n9).trans s7.x0,(ay hgrow9' (x:=⟨X,1,none⟩) s7.lt n9).trans s7.x1,(ay hgrow9' (x:=⟨X,2,none⟩) s7.lt n9).trans s7.x2,(ay hgrow9' (x:=⟨X,3,none⟩) s7.lt n9).trans s7.x3,(ay hgrow9' (x:=⟨X,4,none⟩) s7.lt n9).trans s7.x4,Nat.lt_of_lt_of_le s7.lt hgrow9.size⟩
     clear hK K;(try go_frame);refine aK 10 1 aa ?_;refine dN ?_;clear hown9 hgrow9 hnil9 hown7 hgrow7 hnil7 r7 s7 hb9;go_wp2;go_ret;exact ⟨g9,c9,rfl,HO9.out,HB9.out⟩
theorem dB.set (h:dB w lo a n c L) {p:Addr} (hp:∀x,a=Option.some x→p.block≠x.block) (v:Value):dB (w.setCell p v) lo a n c L :=
 ⟨h.1,fun x e=>by
  obtain ⟨g,e1,o⟩:=h.2 x e
  exact ⟨g,e1,o.setCell (by have:=hp x e;rw [e1] at this;exact this) v⟩⟩
theorem dB.inl (h:dB w lo a n c L):cT lo w a n c L:=⟨h.entsAt,fun x e _=>(h.lt x e).1⟩
theorem ye (a:Option Addr) (len cap:Nat) (L:List ae) (s t:ByteArray) (q d n:Int) (w:World) (hL:dB w lo a len cap L) (hlen:len≤1048576) (hE:dt (s,q,d,t,n)) :
 Calls Tryz.prog 75 #[.slice a len cap,.agg #[.string s,iT q,iT d,.string t,iT n]] w fun e w'=>∃g c,e=.returned (sL g (len+1) c)∧aE w' w.heap.size g (len+1) c (dq L (s,q,d,t,n))∧Bl w w':=by
 cases a with
 | none =>
  obtain ⟨rfl,rfl,rfl⟩:=hL.1 rfl;exact yg s t q d n w hE
 | some x =>
  obtain ⟨g,rfl,h⟩:=hL.2 x rfl;exact ur g len cap L s t q d n w h.entsAt h.lt.2 hlen hE
theorem aE.at5 {g:Nat} {nn:Int} (h:aE w base g n c L) (hx:L[i]?=some (s,q,d,t,nn)):w.cell? ⟨g,i*5,none⟩=some (.string s)∧w.cell? ⟨g,i*5+1,none⟩=some (iT q)∧w.cell? ⟨g,i*5+2,none⟩=some (iT d)∧w.cell? ⟨g,i*5+3,none⟩=some (.string t)∧w.cell? ⟨g,i*5+4,none⟩=some (iT nn):=by
 obtain ⟨hi,he⟩:=List.getElem?_eq_some_iff.1 hx;obtain ⟨c0,c1,c2,c3,c4⟩:=h.entsAt.cells _ rfl i hi;rw [he] at c0 c1 c2 c3 c4;simp only [Nat.zero_add] at c0 c1 c2 c3 c4;exact ⟨c0,c1,c2,c3,c4⟩
def BB (q:Int) (a1:Option Addr) (nm c1:Nat) (av:Option Addr) (nv cv:Nat) (ak:Option Addr) (ns cs:Nat) (M K:List ae) (w:World) (e:Ending) (w':World):Prop :=
 (bi q M K=true→∃a n c,e=.returned (.tuple #[.agg #[iT (q+K.length),.slice a n c,.slice av nv cv,.slice ak ns cs],.bool true])∧cT w.heap.size w' a n c ((cU q K).foldl dq M)∧Bl w w')∧(bi q M K=false→e=.returned (.tuple #[.agg #[iT q,.slice a1 nm c1,.slice av nv cv,.slice ak ns cs],.bool false])∧Bl w w')
theorem mI {K:List ae} {w':World} {e:Ending} (h:iu q K n w e w'):((bX q K=true∧1≤n∧n≤12∧∃g c,e=.returned (.tuple #[sL g n c,.bool true])∧aE w' w.heap.size g n c (cU q K))∨((bX q K=false∨n=0∨12<n)∧∃a m c L,e=.returned (.tuple #[.slice a m c,.bool false])∧an w' a m c L))∧Bl w w':=by
 obtain ⟨v,ok,he,h1,h2,h3⟩:=h;refine ⟨?_,h3⟩;cases hs:bX q K with
 | true =>
  obtain ⟨⟨g,c,rfl,h4⟩,rfl⟩:=h1 hs;by_cases hn:1≤n∧n≤12
  · exact .inl ⟨rfl,hn.1,hn.2,g,c,by rw [he];simp [hn.1,hn.2],h4⟩
  · refine .inr ⟨.inr (by omega),some ⟨g,0,none⟩,n,c,_,?_,h4.entsAt⟩;rw [he,show (decide (1≤n) && decide (n≤12))=false by simp;omega]
 | false =>
  obtain ⟨rfl,a,m,c,L,rfl,hL⟩:=h2 hs;exact .inr ⟨.inl rfl,a,m,c,L,he,hL⟩
theorem wC (M:List ae) {D:List ae} {i:Nat} {e:ae} (h:D[i]?=some e):(D.take (i+1)).foldl dq M=dq ((D.take i).foldl dq M) e:=by
 rw [List.take_add_one,h];simp
structure xu (lo:Nat) (w wr:World) (X gd nb cd:Nat) (D:List ae) (q:Int) (a:Option Addr) (n c:Nat) (L:List ae) (u2 u3:Value):Prop where
 low:Bl w wr
 bx:bf wr X (iT q) (.slice a n c) u2 u3
 br:bf wr (X+1) (iT 0) nZ nZ nZ
 mem:dB wr lo a n c L
 dn:aE wr 0 gd nb cd D
 ne:(∀x,a=some x→x.block≠X∧x.block≠X+1)∧gd≠X∧gd≠X+1
 hx:w.heap.size≤X
 hlo:lo≤w.heap.size
theorem xu.below {ws:World} (h:xu lo w wr X gd nb cd D q a n c L u2 u3) (hb:Bl wr ws):xu lo w ws X gd nb cd D q a n c L u2 u3 :=
 ⟨h.low.trans (hb.mono h.low.size),h.bx.keep hb,h.br.keep hb,h.mem.below hb,h.dn.below hb,h.ne,h.hx,h.hlo⟩
theorem xu.held {q0 m:Int} (h:xu lo w wr X gd nb cd D q a n c L u2 u3) (hg:D[i]?=some (s,q0,d,t,m)):wr.cell? ⟨gd,i*5,none⟩=some (.string s)∧wr.cell? ⟨gd,i*5+1,none⟩=some (iT q0)∧wr.cell? ⟨gd,i*5+2,none⟩=some (iT d)∧wr.cell? ⟨gd,i*5+3,none⟩=some (.string t)∧wr.cell? ⟨gd,i*5+4,none⟩=some (iT m)∧gd<wr.heap.size∧X<wr.heap.size:=by
 obtain ⟨c0,c1,c2,c3,c4⟩:=h.dn.at5 hg;exact ⟨c0,c1,c2,c3,c4,h.dn.lt.2,h.bx.lt⟩
theorem xu.put {g2 n2 c2:Nat} {L2:List ae} (h:xu lo w wr X gd nb cd D q a n c L u2 u3) (hO:aE wr base g2 n2 c2 L2) (hb:X+1<base):xu lo w (wr.setCell ⟨X,1,none⟩ (sL g2 n2 c2)) X gd nb cd D q (pT g2) n2 c2 L2 u2 u3:=by
 have hl:=hO.lt.1;exact ⟨h.low.setCell (p:=⟨X,1,none⟩) h.hx _,h.bx.set1 _,h.br.other (by omega) _,(dB.set (p:=⟨X,1,none⟩) (.some (hO.mono (by have:=h.hx;have:=h.hlo;omega))) (fun x e=>by cases e;show X≠g2;omega) _),h.dn.setCell (p:=⟨X,1,none⟩) (fun e=>h.ne.2.1 e.symm) _,⟨fun x e=>by cases e;exact ⟨by show g2≠_;omega,by show g2≠_;omega⟩,h.ne.2⟩,h.hx,h.hlo⟩
theorem sT (lo:Nat) (q:Int) (a1:Option Addr) (nm c1:Nat) (av:Option Addr) (nv cv:Nat) (ak:Option Addr) (ns cs:Nat) (M:List ae) (V:List (List aq)) (S:List Int) (ab:Option Addr) (nb cb:Nat) (K:List ae) (w:World) (hT:aX lo w a1 nm c1 av nv cv ak ns cs M V S) (hlo:lo≤w.heap.size) (hO:dB w lo a1 nm c1 M) (hK:an w ab nb cb K) (hnb:nb≤1048576) (hnm:nm≤60) (hq0:0≤q) (hq1:q≤100000) :
 Calls Tryz.prog 41 #[.agg #[iT q,.slice a1 nm c1,.slice av nv cv,.slice ak ns cs],.slice ab nb cb] w (BB q a1 nm c1 av nv cv ak ns cs M K w):=by
 obtain ⟨X,hX⟩:=aw w.heap.size;obtain ⟨W,hW⟩:=aw ((w.alloc (.cells #[iT q,.slice a1 nm c1,.slice av nv cv,.slice ak ns cs] 36)).alloc (.cells #[iT 0,nZ,nZ,nZ] 36));have kW:Bl w W:=by rw [hW];exact bZ.alloc (by simp) _
 have bx:bf W X (iT q) (.slice a1 nm c1) (.slice av nv cv) (.slice ak ns cs):=by rw [hW,hX];exact (bf.new _ _ _ _ _ _).alloc _
 have br:bf W (X+1) (iT 0) nZ nZ nZ:=by
  have:=bf.new (w.alloc (.cells #[iT q,.slice a1 nm c1,.slice av nv cv,.slice ak ns cs] 36)) 36 (iT 0) nZ nZ nZ;rw [World.size_alloc] at this;rw [hW,hX];exact this
 have HX:Hid (X=w.heap.size):=hX;have HSZ:Hid (W.heap.size=X+1+1):=by show _=_;rw [hW,hX];simp
 have K0:Hid (Bl w W):=kW;have HT:=ar hT;have HKL:Hid (K.length=nb):=hK.length;have HML:Hid (M.length=nm):=hO.len;have HOM:=ar hO;have CT:Hid (Calls Tryz.prog 40 #[.slice ab nb cb,iT q] W (iu q K nb W)):=oC ab nb cb K q W (hK.keep kW) hnb hq0 hq1;clear kW hT hK hO;have e1:IntKind.i64.wrap ((nm:Int)+(nb:Int))=(nm:Int)+(nb:Int):=by rw [IntWalk.i64_left];unfold wrap64;omega
 have e2:IntKind.i64.wrap (q+(nb:Int))=q+(nb:Int):=by rw [IntWalk.i64_left];unfold wrap64;omega
 go_enter Tryz.func41,Tryz.ntmps41
 go_upto_region 1 with fail
 rw [← hX,← hW];clear hX hW;have x0:=bx.all;go_wp2_with fail
 clear x0;refine CT.out.mono ?_;rintro e w1 hst;obtain ⟨hst,hb1⟩:=mI hst;have K1:Hid (Bl w w1):=K0.out.trans (hb1.mono K0.out.size);have KW1:Hid (Bl W w1):=hb1;have bx1:=bx.keep hb1;have br1:=br.keep hb1;clear hb1 bx br CT;rcases hst with ⟨hsB,hn1,hn12,gd,cd,rfl,hD⟩ | ⟨hno,ad,md,cd,_,rfl,_⟩
 rotate_left
 · have HNO:Hid (bi q M K=false):=by
    show _=_
    have:=HKL.out;unfold bi;rcases hno with h | h | h
    · rw [h];simp
    · simp [show ¬1≤K.length by omega]
    · simp [show ¬K.length≤12 by omega]
   have HR:Hid (bf w1 (X+1) (iT 0) nZ nZ nZ):=br1;have x0:=bx1.all;have r0:=br1.all;clear bx1 br1;go_wp2;refine bodyPost_ret (v:=.tuple #[.agg #[iT q,.slice a1 nm c1,.slice av nv cv,.slice ak ns cs],.bool false]) ?_ rfl (show BB q a1 nm c1 av nv cv ak ns cs M K w _ _ from ⟨(fun h=>by rw [HNO.out] at h;cases h),fun _=>⟨rfl,?_⟩⟩)
   · have e:=((((HR.out.set0 (iT q)).set1 (.slice a1 nm c1)).set2 (.slice av nv cv)).set3 (.slice ak ns cs));simp [results,Tryz.results41,go_sem,e.all]
   · have hx:w.heap.size≤X+1:=by have:=HX.out;omega
     exact (mf K1.out hx _ _ _ _)
 have HD:Hid (aE w1 W.heap.size gd nb cd (cU q K)):=hD;have HSB:Hid (bX q K=true):=hsB;clear hD hsB;by_cases h60:60<nm+nb
 · have h60I:(nm:Int)+(nb:Int) > 60:=by omega
   have h60J:(60:Int)<(nm:Int)+(nb:Int):=by omega
   have HNO:Hid (bi q M K=false):=by show _=_;have:=HKL.out;have:=HML.out;unfold bi;simp [show ¬M.length+K.length≤60 by omega]
   have HR:Hid (bf w1 (X+1) (iT 0) nZ nZ nZ):=br1;have x0:=bx1.all;have r0:=br1.all;clear bx1 br1;go_wp2;refine bodyPost_ret (v:=.tuple #[.agg #[iT q,.slice a1 nm c1,.slice av nv cv,.slice ak ns cs],.bool false]) ?_ rfl (show BB q a1 nm c1 av nv cv ak ns cs M K w _ _ from ⟨(fun h=>by rw [HNO.out] at h;cases h),fun _=>⟨rfl,?_⟩⟩)
   · have e:=((((HR.out.set0 (iT q)).set1 (.slice a1 nm c1)).set2 (.slice av nv cv)).set3 (.slice ak ns cs));simp [results,Tryz.results41,go_sem,e.all]
   · have hx:w.heap.size≤X+1:=by have:=HX.out;omega
     exact (mf K1.out hx _ _ _ _)
 have h60I:¬(nm:Int)+(nb:Int) > 60:=by omega
 have h60J:¬(60:Int)<(nm:Int)+(nb:Int):=by omega
 have HYES:Hid (bi q M K=true):=by
  show _=_
  have h1:=HKL.out;have h2:=HML.out;have h3:=HSB.out;unfold bi;rw [h3];simp;omega
 have ST:Hid (xu lo w w1 X gd nb cd (cU q K) (q) a1 (nm) c1 (M) (.slice av nv cv) (.slice ak ns cs)):=by
  have hd:=HD.out.lt.1;have hx:=HX.out;have hs:=HSZ.out;exact ⟨K1.out,bx1,br1,(HOM.out.below K0.out).below KW1.out,HD.out.mono (Nat.zero_le _),⟨fun x e=>by have hl:=(HOM.out.lt x e).2;exact ⟨by omega,by omega⟩,by omega,by omega⟩,by omega,hlo⟩
 have x0:=bx1.all;clear bx1 br1;go_wp2_with fail
 clear x0;go_loopw [8] (fun iv wr=>∃(i:Nat) (a:Option Addr) (c:Nat),i≤nb∧iv=iT i∧(0<i→∀x,a=some x→w.heap.size≤x.block)∧xu lo w wr X gd nb cd (cU q K) (q) a (nm+i) c (((cU q K).take i).foldl dq M) (.slice av nv cv) (.slice ak ns cs)) (fun iv _=>nb - (intOf iv).toNat)
 case atStart=>exact ⟨0,a1,c1,Nat.zero_le _,rfl,fun h=>absurd h (Nat.lt_irrefl 0),ST.out⟩
 case round =>
  clear ST HD K1 KW1 HOM HSB;obtain ⟨i,a,c,hin,rfl,hge,hst⟩:=hrel;have HGE:=ar hge;have HS:Hid (xu lo w wr X gd nb cd (cU q K) (q) a (nm+i) c (((cU q K).take i).foldl dq M) (.slice av nv cv) (.slice ak ns cs)):=hst;clear hst;by_cases hlt:i<nb
  · have hltI:(i:Int)<(nb:Int):=by omega
    obtain ⟨⟨s,q0,d,t,m⟩,hg⟩:∃e,(cU q K)[i]?=some e:=⟨_,List.getElem?_eq_getElem (by rw [fW,HKL.out];exact hlt)⟩;have HG:Hid ((cU q K)[i]?=some (s,q0,d,t,m)):=hg;have HEW:Hid (dt (s,q0,d,t,m)):=HS.out.dn.entsAt.ents _ (List.mem_of_getElem? hg);obtain ⟨LL,hLL⟩:=aw (((cU q K).take i).foldl dq M);have HLL:Hid (LL=((cU q K).take i).foldl dq M):=hLL;have k0:xu lo w wr.drew X gd nb cd (cU q K) (q) a (nm+i) c (LL) (.slice av nv cv) (.slice ak ns cs):=by rw [hLL];exact HS.out.below (Below.refl _ wr).drew
    clear hg hLL HS;go_upto_region 7 with fail
    refine wp_region_held_drew (S:=(fun w'=>w'.cell? ⟨gd,i*5,none⟩=some (.string s)∧w'.cell? ⟨gd,i*5+1,none⟩=some (iT q0)∧w'.cell? ⟨gd,i*5+2,none⟩=some (iT d)∧w'.cell? ⟨gd,i*5+3,none⟩=some (.string t)∧w'.cell? ⟨gd,i*5+4,none⟩=some (iT m)∧gd<w'.heap.size∧X<w'.heap.size)) (by kernel_rfl) (k0.held HG.out) (fun aa=>?_);generalize wr.drew=wd at k0 aa ⊢;refine aK 0 1 aa ?_;refine aK 2 4 aa ?_;refine aP 1 fun K hK=>?_
    have q1:=k0.bx.c1;have qz:=k0.bx.lt;go_simp;clear q1 qz;refine hK.out _ _ (k0.held HG.out) (fun aa=>?_);clear hK K;(try go_frame);refine aP 6 fun K hK=>?_
    go_simp;refine (ye a (nm+i) c LL s t q0 d m _ k0.mem (by omega) HEW.out).mono ?_;rintro e w2 ⟨g2,c2,rfl,hO2,hb2⟩;have k2:=k0.below hb2;go_wp2_with fail
    refine hK.out _ _ (k2.held HG.out) (fun aa=>?_);clear hK K;(try go_frame);refine aK 7 1 aa ?_;refine aP 8 fun K hK=>?_
    have q1:=k2.bx.c1;have qf:=k2.bx.fz;have qz:=k2.bx.lt;go_simp;have HG2:Hid (w.heap.size≤g2):=by have h1:=hO2.lt.1;have h2:=k0.bx.lt;have h3:=HX.out;show _≤_;omega
    have ks:=k2.put (g2:=g2) (n2:=nm+i+1) (c2:=c2) hO2 k0.br.lt;clear q1 qf qz;refine hK.out _ _ (ks.held HG.out) (fun aa=>?_);clear hK K;(try go_frame);refine dN ?_;generalize w2.setCell ⟨X,1,none⟩ (sL g2 (nm+i+1) c2)=w9 at ks ⊢;have KS:Hid (xu lo w w9 X gd nb cd (cU q K) (q) (pT g2) (nm+i+1) c2 (dq LL (s,q0,d,t,m)) (.slice av nv cv) (.slice ak ns cs)):=ks;clear ks k2 k0 hO2 hb2 aa;go_wp2;go_roundw
    case rel =>
     refine ⟨i+1,some ⟨g2,0,none⟩,c2,by omega,by go_num,fun _ x e=>by cases e;exact HG2.out,?_⟩;have h:=KS.out;rw [HLL.out,← wC M HG.out] at h;exact h
    case measure=>simp [intOf];omega
  · have hltI:¬(i:Int)<(nb:Int):=by omega
    obtain rfl:i=nb:=by omega
    have hfull:(cU q K).take i=cU q K:=List.take_of_length_le (by rw [fW,HKL.out];omega);have HF:Hid (dB wr lo a (nm+i) c ((cU q K).foldl dq M)):=by have h:=HS.out.mem;rw [hfull] at h;exact h
    have hbx:=HS.out.bx;have hbr:=HS.out.br;have HB:Hid (Bl w wr):=HS.out.low;have HNE:Hid (∀x,a=some x→x.block≠X∧x.block≠X+1):=HS.out.ne.1;clear HS hfull;have x0:=hbx.all;obtain ⟨w3,hw3⟩:=aw (wr.setCell ⟨X,0,none⟩ (iT (q+(i:Int))));have hx0:=HX.out;have bx3:bf w3 X (iT (q+(i:Int))) (.slice a (nm+i) c) (.slice av nv cv) (.slice ak ns cs):=by rw [hw3];exact hbx.set0 _
    have br3:bf w3 (X+1) (iT 0) nZ nZ nZ:=by rw [hw3];exact hbr.other (by omega) _
    have HF3:Hid (dB w3 lo a (nm+i) c ((cU q K).foldl dq M)):=by rw [hw3];exact HF.out.set (p:=⟨X,0,none⟩) (fun x e h=>(HNE.out x e).1 h.symm) _
    have HB3:Hid (Bl w w3):=by rw [hw3];exact HB.out.setCell (p:=⟨X,0,none⟩) (by show _≤X;omega) _
    clear hx0;go_upto_region 9 with fail
    rw [← hw3];clear hw3 x0 hbx hbr HF HB;have x0:=bx3.all;have r0:=br3.all;have HR:Hid (bf w3 (X+1) (iT 0) nZ nZ nZ):=br3;clear bx3 br3;go_wp2;have hkl:=HKL.out;have hx:w.heap.size≤X+1:=by have:=HX.out;omega
    refine bodyPost_ret (v:=.tuple #[.agg #[iT (q+(i:Int)),.slice a (nm+i) c,.slice av nv cv,.slice ak ns cs],.bool true]) ?_ rfl (show BB q a1 nm c1 av nv cv ak ns cs M K w _ _ from ⟨fun _=>⟨_,_,_,by rw [hkl],?_,(mf HB3.out hx _ _ _ _)⟩,fun h=>by rw [HYES.out] at h;cases h⟩)
    · have e:=((((HR.out.set0 (iT (q+(i:Int)))).set1 (.slice a (nm+i) c)).set2 (.slice av nv cv)).set3 (.slice ak ns cs));simp [results,Tryz.results41,go_sem,e.all]
    · have hn:∀o x,a=some x→(⟨X+1,o,none⟩:Addr).block≠x.block:=fun _ x e h=>(HNE.out x e).2 h.symm
      have hpos:0<i:=by omega
      exact ⟨(dB.inl ((((HF3.out.set (hn 0) _).set (hn 1) _).set (hn 2) _).set (hn 3) _)).1,fun x e _=>HGE.out hpos x e⟩
end Go.Proofs.YtehiefdphnljaaaGreatDoor
