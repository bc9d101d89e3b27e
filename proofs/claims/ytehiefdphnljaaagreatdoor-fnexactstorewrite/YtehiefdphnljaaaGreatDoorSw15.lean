/- Walks. -/
import Derived.Test.YtehiefdphnljaaaGreatDoorSw14
namespace Go.Proofs.YtehiefdphnljaaaGreatDoor
set_option maxRecDepth 100000
set_option maxHeartbeats 40000000
open Go.RowKit Go.Shelf
variable {E X o:Nat} {p s t:ByteArray} {u:Value} {w w':World}
theorem cD.all {w:World} {X:Nat} {v0 v1 v2 v3 v4:Value} (h:cD w X v0 v1 v2 v3 v4):w.cell? ⟨X,0,none⟩=some v0∧w.cell? ⟨X,1,none⟩=some v1∧w.cell? ⟨X,2,none⟩=some v2∧w.cell? ⟨X,3,none⟩=some v3∧w.cell? ⟨X,4,none⟩=some v4∧(∀o,w.frozen? ⟨X,o,none⟩=false)∧X<w.heap.size:=⟨h.c0,h.c1,h.c2,h.c3,h.c4,h.fr,h.lt⟩
theorem bT.below {k:Nat} (h:bT w X t k) (hb:Bl w w'):bT w' X t k:=⟨cell_later hb h.c0,cell_later hb h.c1,fun o=>by rw [hb.frozen (p:=⟨X,o,none⟩) h.lt];exact h.fz o,h.le⟩
theorem om (l:List UInt8):(gl l).1.length≤l.length:=by
 rw [gl];split
 · exact (List.takeWhile_prefix _).length_le
 · simp
theorem eQ {B:Nat} (h:w.grownBy w' (some X)) (hB:B≤X) (hX:X<w.heap.size):Below B w w' :=
 ⟨h.os,h.tape,h.output,h.size,fun i hi=>h.block i (by omega) (fun e=>by cases e;omega)⟩
theorem fM (B X k:Nat) (t:ByteArray) (w:World) (h:bT w X t k) (ht:t.size≤1048576) (hB:B≤X) (hE:iy B w) :
 Calls Tryz.prog 179 #[.pointer (pT X)] w fun e w'=>∃(v:Int) (j:Nat),e=.returned (iT v)∧(v,t.data.toList.drop j)=fT (t.data.toList.drop k)∧(Lit.int .i64 v).wf=true∧bT w' X t j∧w.grownBy w' (some X):=by
 have HL:=ar h;have HE:=ar hE;have hX:=h.lt;clear h hE;go_enter Tryz.func179,Tryz.ntmps179
 go_wp2_with fail
 refine (qB X k t _ HL.out ht).mono ?_;rintro e w1 ⟨s,j,rfl,hs,hL1,hg1⟩;have HS:Hid ((s.data.toList,t.data.toList.drop j)=gl (t.data.toList.drop k)):=hs;have HL1:Hid (bT w1 X t j):=hL1;have HG1:Hid (w.grownBy w1 (some X)):=hg1;have hsz:s.size≤1048576:=by
  have h1:=om (t.data.toList.drop k);rw [← hs] at h1;rw [List.length_drop,aN,aN] at h1;omega
 have hv:um w1:=HE.out w1 (eQ hg1 hB hX);clear hs hL1 hg1;go_wp2_with fail
 refine (Tryz.atoi_any s (by omega) _ hv).mono ?_;rintro e w2 ⟨hr,hb2⟩;have HL2:Hid (bT w2 X t j):=HL1.out.below hb2;have HG2:Hid (w.grownBy w2 (some X)):=xy HG1.out (uD hb2 _);clear hb2 hv;rcases hr with ⟨v,hv,rfl⟩ | ⟨hno,n,T,N,rfl⟩
 · have hb:=Lib.atoiAll_bounds hv;have HN:Hid ((v,t.data.toList.drop j)=fT (t.data.toList.drop k)):=by
    show _=_
    rw [fT,← HS.out];simp only [hv]
   clear hv;go_wp2;go_ret;exact ⟨v,j,rfl,HN.out,WalkArith.wf_i64 (by omega),HL2.out,HG2.out⟩
 · have HN:Hid (((0:Int),t.data.toList.drop j)=fT (t.data.toList.drop k)):=by
    show _=_
    rw [fT,← HS.out];cases hv:Lib.atoiAll s.data.toList with
    | ok v=>exact absurd hv (hno v)
    | _=>rfl
   clear hno;go_wp2;go_ret;exact ⟨0,j,rfl,HN.out,by decide,HL2.out,HG2.out⟩
theorem tj (n:Int) (l:List UInt8):(dL n l).1.length≤l.length:=by
 rw [dL];split
 · simp
 · simp only [List.length_take];omega
theorem rX {k:ByteArray} {q d n:Int} (h1:k.size≤1048576) (h2:(Lit.int .i64 q).wf=true) (h3:(Lit.int .i64 d).wf=true) (h4:t.size≤1048576) (h5:(Lit.int .i64 n).wf=true):dt (k,q,d,t,n) :=
 ⟨by unfold maxLen;show k.size≤_;omega,h2,h3,by unfold maxLen;show t.size≤_;omega,h5⟩
theorem xF {z:Int} (h:(Lit.int .i64 z).wf=true):-9223372036854775808≤z∧z≤9223372036854775807:=by
 have e1:IntKind.i64.min=-9223372036854775808:=by decide
 have e2:IntKind.i64.max=9223372036854775807:=by decide
 simp [Lit.wf] at h;omega
theorem bT.other {k:Nat} (h:bT w X t k) (hn:E≠X):bT (w.setCell ⟨E,o,none⟩ u) X t k :=
 ⟨(World.cell?_of_block (Below.heap_setCell _ _ _ _ (Ne.symm hn))).trans h.c0,(World.cell?_of_block (Below.heap_setCell _ _ _ _ (Ne.symm hn))).trans h.c1,fun o'=>by rw [World.frozen?_setCell];exact h.fz o',h.le⟩
theorem im {a:World} (h:a.grownBy w (some X)) (hE:a.heap.size≤E):a.grownBy (w.setCell ⟨E,o,none⟩ u) (some X) :=
 ⟨h.os,h.tape,h.output,by simpa [World.setCell] using h.size,fun k hk hn=>(Below.heap_setCell _ _ _ _ (fun e=>by have e':k=E:=e;omega)).trans (h.block k hk hn)⟩
theorem wL (B X k:Nat) (t:ByteArray) (w:World) (h:bT w X t k) (ht:t.size≤1048576) (hB:B≤X) (hE:iy B w) :
 Calls Tryz.prog 180 #[.pointer (pT X)] w fun e w'=>∃(kk tt:ByteArray) (q d n:Int) (j:Nat),e=.returned (.agg #[.string kk,iT q,iT d,.string tt,iT n])∧((kk,q,d,tt,n),t.data.toList.drop j)=rY (t.data.toList.drop k)∧dt (kk,q,d,tt,n)∧bT w' X t j∧w.grownBy w' (some X):=by
 have HL:=ar h;have HE:=ar hE;have hX:=h.lt;clear h hE;go_enter Tryz.func180,Tryz.ntmps180
 obtain ⟨W0,hW0⟩:∃W,W=w.alloc (.cells #[.string ⟨#[]⟩,iT 0,iT 0,.string ⟨#[]⟩,iT 0] 59):=⟨_,rfl⟩;have k0:Bl w W0:=by rw [hW0];exact bZ
 have A0:cD W0 w.heap.size (.string ⟨#[]⟩) (iT 0) (iT 0) (.string ⟨#[]⟩) (iT 0):=by rw [hW0];exact cD.new _ _ _ _ _ _ _
 have L0:=HL.out.below k0;have G0:w.grownBy W0 (some X):=uD k0 _;go_wp2_with fail
 rw [← hW0];clear hW0 k0;obtain ⟨A,hA⟩:=aw w.heap.size;have hAX:X<A:=by omega
 have HA:Hid (A=w.heap.size):=hA;rw [← hA] at A0;simp only [← hA];clear hA;refine (qB X k t _ L0 ht).mono ?_;rintro e w1 ⟨s,j1,rfl,hs,L1,g1⟩;have HS:Hid ((s.data.toList,t.data.toList.drop j1)=gl (t.data.toList.drop k)):=hs;have A1:=A0.grown g1 (by omega);have G1:=xy G0 g1;clear hs g1 L0 A0 G0;obtain ⟨W1,hW1⟩:∃W,W=w1.alloc (.cells #[.string s,iT 0,iT 0,.string ⟨#[]⟩,iT 0] 59):=⟨_,rfl⟩;have k1:Bl w1 W1:=by rw [hW1];exact bZ
 have E1:cD W1 w1.heap.size (.string s) (iT 0) (iT 0) (.string ⟨#[]⟩) (iT 0):=by rw [hW1];exact cD.new _ _ _ _ _ _ _
 have M1:=L1.below k1;have B1:=A1.below k1;have H1:=xy G1 (uD k1 _);have hAE:A<w1.heap.size:=A1.lt;go_wp2_with fail
 rw [← hW1];obtain ⟨E,hE⟩:=aw w1.heap.size;rw [← hE] at E1 hAE;simp only [← hE];clear hE hW1 k1 L1 A1 G1;have RE1:iy B W1:=fun w' kk=>HE.out w' ((eQ H1 hB hX).trans kk)
 refine (fM B X j1 t _ M1 ht hB RE1).mono ?_;rintro e w2 ⟨q,j2,rfl,hq,hwq,L2,g2⟩;have HS2:Hid ((q,t.data.toList.drop j2)=fT (t.data.toList.drop j1)):=hq;have A2:=B1.grown g2 (by omega);have F2:=E1.grown g2 (by omega);have G2:=xy H1 g2;clear hq g2 M1 B1 E1 H1 RE1;have f0:=F2.c1;have f1:w2.frozen? ⟨E,1,none⟩=false:=F2.fr 1;have hEl:=F2.lt;go_wp2_with fail
 obtain ⟨W2,hW2⟩:∃W,W=w2.setCell ⟨E,1,none⟩ (iT q):=⟨_,rfl⟩;have E2:cD W2 E (.string s) (iT q) (iT 0) (.string ⟨#[]⟩) (iT 0):=by rw [hW2];exact F2.set1 _
 have M2:bT W2 X t j2:=by rw [hW2];exact L2.other (by omega)
 have B2:cD W2 A (.string ⟨#[]⟩) (iT 0) (iT 0) (.string ⟨#[]⟩) (iT 0):=by rw [hW2];exact A2.other (by omega) _ _
 have H2:w.grownBy W2 (some X):=by rw [hW2];exact im G2 (by have:=HA.out;omega)
 rw [← hW2];clear hW2 F2 L2 A2 G2 f0 f1 hEl;have RE2:iy B W2:=fun w' kk=>HE.out w' ((eQ H2 hB hX).trans kk)
 refine (fM B X j2 t _ M2 ht hB RE2).mono ?_;rintro e w3 ⟨d,j3,rfl,hd,hwd,L3,g3⟩;have HS3:Hid ((d,t.data.toList.drop j3)=fT (t.data.toList.drop j2)):=hd;have A3:=B2.grown g3 (by omega);have F3:=E2.grown g3 (by omega);have G3:=xy H2 g3;clear hd g3 M2 B2 E2 H2 RE2;have f0:=F3.c2;have f1:w3.frozen? ⟨E,2,none⟩=false:=F3.fr 2;have hEl:=F3.lt;go_wp2_with fail
 obtain ⟨W3,hW3⟩:∃W,W=w3.setCell ⟨E,2,none⟩ (iT d):=⟨_,rfl⟩;have E3:cD W3 E (.string s) (iT q) (iT d) (.string ⟨#[]⟩) (iT 0):=by rw [hW3];exact F3.set2 _
 have M3:bT W3 X t j3:=by rw [hW3];exact L3.other (by omega)
 have B3:cD W3 A (.string ⟨#[]⟩) (iT 0) (iT 0) (.string ⟨#[]⟩) (iT 0):=by rw [hW3];exact A3.other (by omega) _ _
 have H3:w.grownBy W3 (some X):=by rw [hW3];exact im G3 (by have:=HA.out;omega)
 rw [← hW3];clear hW3 F3 L3 A3 G3 f0 f1 hEl;have RE3:iy B W3:=fun w' kk=>HE.out w' ((eQ H3 hB hX).trans kk)
 refine (fM B X j3 t _ M3 ht hB RE3).mono ?_;rintro e w4 ⟨m,j4,rfl,hm,hwm,L4,g4⟩;have HS4:Hid ((m,t.data.toList.drop j4)=fT (t.data.toList.drop j3)):=hm;have A4:=B3.grown g4 (by omega);have F4:=E3.grown g4 (by omega);have G4:=xy H3 g4;clear hm g4 M3 B3 E3 H3 RE3;have f0:=F4.c4;have f1:w4.frozen? ⟨E,4,none⟩=false:=F4.fr 4;have hEl:=F4.lt;go_wp2_with fail
 obtain ⟨W4,hW4⟩:∃W,W=w4.setCell ⟨E,4,none⟩ (iT m):=⟨_,rfl⟩;have E4:cD W4 E (.string s) (iT q) (iT d) (.string ⟨#[]⟩) (iT m):=by rw [hW4];exact F4.set4 _
 have M4:bT W4 X t j4:=by rw [hW4];exact L4.other (by omega)
 have B4:cD W4 A (.string ⟨#[]⟩) (iT 0) (iT 0) (.string ⟨#[]⟩) (iT 0):=by rw [hW4];exact A4.other (by omega) _ _
 have H4:w.grownBy W4 (some X):=by rw [hW4];exact im G4 (by have:=HA.out;omega)
 rw [← hW4];clear hW4 F4 L4 A4 G4 f0 f1 hEl;have RE4:iy B W4:=fun w' kk=>HE.out w' ((eQ H4 hB hX).trans kk)
 refine (fM B X j4 t _ M4 ht hB RE4).mono ?_;rintro e w5 ⟨z,j5,rfl,hz,hwz,L5,g5⟩;have HS5:Hid ((z,t.data.toList.drop j5)=fT (t.data.toList.drop j4)):=hz;have A5:=B4.grown g5 (by omega);have F5:=E4.grown g5 (by omega);have G5:=xy H4 g5;clear hz g5 M4 B4 E4 H4 RE4;have hzr:-9223372036854775808≤z∧z≤9223372036854775807:=xF hwz;go_wp2_with fail
 refine (lc X j5 t z _ L5 ht hzr.1 hzr.2).mono ?_;rintro e w6 ⟨u,j6,rfl,hu,L6,g6⟩;have HS6:Hid ((u.data.toList,t.data.toList.drop j6)=dL z (t.data.toList.drop j5)):=hu;have A6:=A5.grown g6 (by omega);have F6:=F5.grown g6 (by omega);have G6:=xy G5 g6;clear hu g6 A5 F5 G5 L5;have f0:=F6.all;have a0:=A6.c0;have a1:=A6.c1;have a2:=A6.c2;have a3:=A6.c3;have a4:=A6.c4;have b0:w6.frozen? ⟨A,0,none⟩=false:=A6.fr 0;have b1:w6.frozen? ⟨A,1,none⟩=false:=A6.fr 1;have b2:w6.frozen? ⟨A,2,none⟩=false:=A6.fr 2;have b3:w6.frozen? ⟨A,3,none⟩=false:=A6.fr 3;have b4:w6.frozen? ⟨A,4,none⟩=false:=A6.fr 4;have ff:w6.frozen? ⟨E,3,none⟩=false:=F6.fr 3;have hEl:=F6.lt;have hAl:=A6.lt;have hne:E≠A:=by omega
 have hne':A≠E:=by omega
 have HF:Hid (((s,q,d,u,m),t.data.toList.drop j6)=rY (t.data.toList.drop k)):=by
  show _=_
  simp only [rY,← HS.out,← HS2.out,← HS3.out,← HS4.out,← HS5.out,← HS6.out]
 have HL6:Hid (bT (((((((w6.setCell ⟨E,3,none⟩ (.string u)).setCell ⟨A,0,none⟩ (.string s)).setCell ⟨A,1,none⟩ (iT q)).setCell ⟨A,2,none⟩ (iT d)).setCell ⟨A,3,none⟩ (.string u)).setCell ⟨A,4,none⟩ (iT m))) X t j6):=(((((L6.other (by omega)).other (by omega)).other (by omega)).other (by omega)).other (by omega)).other (by omega);have HG6:Hid (w.grownBy (((((((w6.setCell ⟨E,3,none⟩ (.string u)).setCell ⟨A,0,none⟩ (.string s)).setCell ⟨A,1,none⟩ (iT q)).setCell ⟨A,2,none⟩ (iT d)).setCell ⟨A,3,none⟩ (.string u)).setCell ⟨A,4,none⟩ (iT m))) (some X)):=im (im (im (im (im (im G6 (by have:=HA.out;omega)) (by have:=HA.out;omega)) (by have:=HA.out;omega)) (by have:=HA.out;omega)) (by have:=HA.out;omega)) (by have:=HA.out;omega);have HWF:Hid (dt (s,q,d,u,m)):=by
  have e1:=om (t.data.toList.drop k);rw [← HS.out] at e1;have e2:=tj z (t.data.toList.drop j5);rw [← HS6.out] at e2;simp only [List.length_drop,aN] at e1 e2;exact rX (by omega) hwq hwd (by omega) hwm
 clear A6 F6 G6 L6;go_wp2;exact bodyPost_ret (v:=.agg #[.string s,iT q,iT d,.string u,iT m]) (by simp [results,Tryz.results180,go_sem,a0,a1,a2,a3,a4]) rfl ⟨s,u,q,d,m,j6,rfl,HF.out,HWF.out,HL6.out,HG6.out⟩
theorem dA (t:ByteArray) (k j:Nat):(t.extract k j).data.toList=(t.data.toList.drop k).take (j - k):=by rw [ByteArray.data_extract,Array.toList_extract,List.extract_eq_take_drop]
theorem List.drop_drop_sub {l:List UInt8} {k j:Nat} (h:k≤j):(l.drop k).drop (j - k)=l.drop j:=by rw [List.drop_drop];congr 1;omega
theorem qO (t:ByteArray) (k:Nat) (w:World) (hk:k≤t.size) (ht:t.size≤1048576) :
 Calls Tryz.prog 161 #[.string t,iT (k:Int)] w fun e w'=>((∃j,k≤j∧j<t.size∧t.data.toList.drop k=(t.extract k j).data.toList++32 :: t.data.toList.drop (j+1)∧(32:UInt8) ∉ (t.extract k j).data.toList∧e=.returned (.tuple #[.string (t.extract k j),iT ((j:Int)+1)]))∨((32:UInt8) ∉ t.data.toList.drop k∧e=.returned (.tuple #[.string ⟨#[]⟩,iT (-1)])))∧Bl w w':=by
 go_enter Tryz.func161,Tryz.ntmps161
 go_wp2;go_loopw [6] (fun i wr=>∃j:Nat,k≤j∧j≤t.size∧i=iT (j:Int)∧(32:UInt8) ∉ (t.extract k j).data.toList∧Bl w wr) (fun i _=>t.size - (intOf i).toNat)
 case atStart=>exact ⟨k,Nat.le_refl _,hk,rfl,by rw [dA];simp,Below.refl _ _⟩
 case round =>
  obtain ⟨j,hkj,hjt,rfl,hno,hb⟩:=hrel;have HNO:Hid ((32:UInt8) ∉ (t.extract k j).data.toList):=hno;clear hno;by_cases hlt:j<t.size
  · have hltI:(j:Int)<(t.size:Int):=by omega
    obtain ⟨x,hx⟩:=aw (t[j]);by_cases hxc:x=32
    · have hq:((t[j]).toNat:Int)=32:=by rw [← hx,hxc];rfl
      have hqb:(((t[j]).toNat:Int) == 32)=true:=by simpa using hq
      have HR:Hid (t.data.toList.drop k=(t.extract k j).data.toList++32 :: t.data.toList.drop (j+1)):=by
       show _=_
       rw [dA,← hxc,hx,← AM t j hlt,← List.drop_drop_sub hkj];exact (List.take_append_drop _ _).symm
      have hkI:(k:Int)≤(j:Int):=by omega
      have hjI:(j:Int)≤(t.size:Int):=by omega
      clear hx hxc hq;go_wp2;exact bodyPost_ret (v:=.tuple #[.string (t.extract k j),iT ((j:Int)+1)]) (by simp [results,Tryz.results161,go_sem]) rfl ⟨Or.inl ⟨j,hkj,hlt,HR.out,HNO.out,rfl⟩,hb⟩
    · have hq:¬((t[j]).toNat:Int)=32:=by
       rw [← hx];intro e;apply hxc;apply UInt8.toNat_inj.1;show x.toNat=32
       omega
      have hqb:(((t[j]).toNat:Int) == 32)=false:=by rw [beq_eq_false_iff_ne];exact hq
      have HN2:Hid ((32:UInt8) ∉ (t.extract k (j+1)).data.toList):=by
       show _ ∉ _
       have:=HNO.out;rw [dA] at this ⊢;rw [show j+1 - k=(j - k)+1 by omega,List.take_add_one,List.mem_append];rintro (h | h)
       · exact this h
       · rw [List.getElem?_drop,show k+(j - k)=j by omega] at h;have hg:t.data.toList[j]?=some x:=by
          rw [hx,Array.getElem?_toList];exact Array.getElem?_eq_getElem hlt
         rw [hg] at h;simp at h;exact hxc h.symm
      clear hx hxc hq;go_wp2;go_roundw
      case rel=>exact ⟨j+1,by omega,by omega,by go_num,HN2.out,hb⟩
      case measure=>simp [intOf];omega
  · have hje:j=t.size:=by omega
    have HN3:Hid ((32:UInt8) ∉ t.data.toList.drop k):=by
     have:=HNO.out;rw [dA,hje,List.take_of_length_le (by rw [List.length_drop,aN];omega)] at this;exact this
    clear hje;go_wp2;exact bodyPost_ret (v:=.tuple #[.string ⟨#[]⟩,iT (-1)]) (by simp [results,Tryz.results161,go_sem]) rfl ⟨Or.inr ⟨HN3.out,rfl⟩,hb⟩
theorem zH:((s.extract 0 p.size).toList == p.toList)=true ↔ p.data.toList <+: s.data.toList:=by
 have e1:(s.extract 0 p.size).data.toList=s.data.toList.take p.size:=by rw [dA];simp
 rw [beq_iff_eq,ByteArray.toList_eq,ByteArray.toList_eq,e1];constructor
 · intro e;rw [← e];exact List.take_prefix _ _
 · rintro ⟨r,hr⟩;rw [← hr];have:p.data.toList.length=p.size:=aN p;rw [List.take_append_of_le_length (by omega),List.take_of_length_le (by omega)]
theorem AI (h:s.size<p.size):¬p.data.toList <+: s.data.toList:=fun hp=>by
 have:=hp.length_le
 rw [aN,aN] at this
 omega
def A8 (s p:ByteArray) (e:Ending):Prop:=∃b,e=.returned (.bool b)∧(b=true ↔ p.data.toList <+: s.data.toList)
theorem qi (s p:ByteArray) (w:World) :
 Calls Tryz.prog 195 #[.string s,.string p] w fun e w'=>A8 s p e∧Bl w w':=by
 by_cases hlt:s.size<p.size
 · have hI:¬(p.size:Int)≤(s.size:Int):=by omega
   have hd:decide ((p.size:Int)≤(s.size:Int))=false:=decide_eq_false hI;go_enter Tryz.func195,Tryz.ntmps195
   go_wp2;go_ret;exact ⟨⟨false,rfl,Iff.intro (fun h=>by simp at h) (fun h=>absurd h (AI hlt))⟩,Below.refl _ _⟩
 · have hI:(p.size:Int)≤(s.size:Int):=by omega
   go_enter Tryz.func195,Tryz.ntmps195
   go_wp2;go_ret;exact ⟨⟨_,rfl,zH⟩,Below.refl _ _⟩
theorem jA (s p:ByteArray) (w:World) :
 Calls Tryz.prog 181 #[.string s,.string p] w fun e w'=>A8 s p e∧Bl w w':=by
 go_enter Tryz.func181,Tryz.ntmps181
 go_wp2_with fail
 refine (qi s p _).mono ?_;rintro e w1 ⟨⟨b,rfl,hb⟩,hk⟩;have HB:Hid (b=true ↔ p.data.toList <+: s.data.toList):=hb;clear hb;go_wp2;go_ret;exact ⟨⟨b,rfl,HB.out⟩,hk⟩
theorem dU (s:ByteArray) (w:World) (hs:s.size≤maxLen) :
 Calls Tryz.prog 111 #[.string s] w fun e w'=>e=.returned (.bool (d6 s))∧w'=w:=by
 unfold maxLen at hs;go_enter Tryz.func111,Tryz.ntmps111
 go_wp2;go_loop [3] (fun i=>∃k:Nat,k≤s.size∧i=iT k∧(s.data.toList.take k).all fU=true) (fun i=>s.size - (intOf i).toNat)
 case atStart=>exact ⟨0,Nat.zero_le _,rfl,rfl⟩
 case round =>
  obtain ⟨k,hk,rfl,hall⟩:=hrel;have HA:Hid ((s.data.toList.take k).all fU=true):=hall;clear hall;by_cases hlt:k<s.size
  · cases hb:fU s[k] with
    | true =>
     have h3:=o6 hb;have HB:Hid (fU s[k]=true):=hb;clear hb;rcases h3 with ⟨h31,h32⟩ | ⟨h31,h32⟩
     · go_wp2;go_round
       case rel=>exact ⟨k+1,by omega,by go_num,gc s k hlt HA.out HB.out⟩
       case measure=>simp [intOf];omega
     · go_wp2;go_round
       case rel=>exact ⟨k+1,by omega,by go_num,gc s k hlt HA.out HB.out⟩
       case measure=>simp [intOf];omega
    | false =>
     have h3:=m7 hb;have HB:Hid (fU s[k]=false):=hb;clear hb;rcases h3 with h3 | ⟨h3,h4⟩ | h3
     · go_wp2;go_ret;exact ⟨aj (fF s k hlt HB.out).symm,rfl⟩
     · go_wp2;go_ret;exact ⟨aj (fF s k hlt HB.out).symm,rfl⟩
     · go_wp2;go_ret;exact ⟨aj (fF s k hlt HB.out).symm,rfl⟩
  · go_wp2;all_goals
     go_ret;refine ⟨aj ?_,rfl⟩;rw [lP s k (by omega) HA.out];first | exact Ap _ (by omega) | exact Ba _ (by omega)
theorem vL (b:Int) (w:World) (h:(97≤b∧b≤122)∨(47≤b∧b≤57)):Calls Tryz.prog 156 #[.int .u8 b] w fun e w'=>e=.returned (.bool true)∧w'=w:=by
 rcases h with ⟨h1,h2⟩ | ⟨h1,h2⟩
 · go_enter Tryz.func156,Tryz.ntmps156
   go_wp2;all_goals
    go_ret;exact ⟨rfl,rfl⟩
 · by_cases h3:b=47
   · subst h3;go_enter Tryz.func156,Tryz.ntmps156
     go_wp2;all_goals
      go_ret;exact ⟨rfl,rfl⟩
   · have h4:48≤b:=by omega
     go_enter Tryz.func156,Tryz.ntmps156
     go_wp2;all_goals
      go_ret;exact ⟨rfl,rfl⟩
theorem zd (b:Int) (w:World) (h:b<47∨(57<b∧b<97)∨122<b):Calls Tryz.prog 156 #[.int .u8 b] w fun e w'=>e=.returned (.bool false)∧w'=w:=by
 have hd:(b == 47)=false:=by rw [beq_eq_false_iff_ne];omega
 have hd':¬b=47:=by omega
 rcases h with h | ⟨h,h'⟩ | h
 · go_enter Tryz.func156,Tryz.ntmps156
   go_wp2;all_goals
    go_ret;exact ⟨aj (by first | rfl | (simp;omega) | simp),rfl⟩
 · go_enter Tryz.func156,Tryz.ntmps156
   go_wp2;all_goals
    go_ret;exact ⟨aj (by first | rfl | (simp;omega) | simp),rfl⟩
 · go_enter Tryz.func156,Tryz.ntmps156
   go_wp2;all_goals
    go_ret;exact ⟨aj (by first | rfl | (simp;omega) | simp),rfl⟩
theorem fm (s:ByteArray) (w:World) (hs:s.size≤maxLen) :
 Calls Tryz.prog 131 #[.string s] w fun e w'=>e=.returned (.bool (d6 s))∧w'=w:=by
 unfold maxLen at hs;by_cases h1:s.size<1
 · go_enter Tryz.func131,Tryz.ntmps131
   go_wp2;go_ret;exact ⟨aj (tJ s h1).symm,rfl⟩
 by_cases h4:8<s.size
 · go_enter Tryz.func131,Tryz.ntmps131
   go_wp2;go_ret;exact ⟨aj (rK s h4).symm,rfl⟩
 go_enter Tryz.func131,Tryz.ntmps131
 go_wp2;go_loop [14] (fun i=>∃k:Nat,k≤s.size∧i=iT k∧(s.data.toList.take k).all fU=true) (fun i=>s.size - (intOf i).toNat)
 case atStart=>exact ⟨0,Nat.zero_le _,rfl,rfl⟩
 case round =>
  obtain ⟨k,hk,rfl,hall⟩:=hrel;have HA:Hid ((s.data.toList.take k).all fU=true):=hall;clear hall;by_cases hlt:k<s.size
  · cases hb:fU s[k] with
    | true =>
     have h3:=o6 hb;have H3:Hid ((97≤((s[k]).toNat:Int)∧((s[k]).toNat:Int)≤122)∨(47≤((s[k]).toNat:Int)∧((s[k]).toNat:Int)≤57)):=h3;have HB:Hid (fU s[k]=true):=hb;clear hb h3;go_wp2_with (go_at_call 156;refine (vL _ _ H3.out).mono ?_;rintro e w' ⟨rfl,rfl⟩)
     go_round
     case rel=>exact ⟨k+1,by omega,by go_num,gc s k hlt HA.out HB.out⟩
     case measure=>simp [intOf];omega
    | false =>
     have h3:=m7 hb;have H3:Hid (((s[k]).toNat:Int)<47∨(57<((s[k]).toNat:Int)∧((s[k]).toNat:Int)<97)∨122<((s[k]).toNat:Int)):=h3;have HB:Hid (fU s[k]=false):=hb;clear hb h3;go_wp2_with (go_at_call 156;refine (zd _ _ H3.out).mono ?_;rintro e w' ⟨rfl,rfl⟩)
     go_ret;exact ⟨aj (fF s k hlt HB.out).symm,rfl⟩
  · go_wp2;go_ret;exact ⟨aj (y9 s (by omega) (by omega) k (by omega) HA.out).symm,rfl⟩
theorem jY (k t:ByteArray) (q d n:Int) (w:World) (hs:k.size≤maxLen) (ht:t.size≤maxLen) :
 Calls Tryz.prog 74 #[.agg #[.string k,iT q,iT d,.string t,iT n]] w fun e w'=>e=.returned (.bool (cV k q d t n))∧Bl w w':=by
 have ht':=ht;unfold maxLen at ht';cases hk:d6 k with
 | false =>
  go_enter Tryz.func74,Tryz.ntmps74
  go_wp2_with (first | (go_at_call 111;refine (dU _ _ hs).mono ?_;rintro e w' ⟨rfl,rfl⟩) | go_in)
  go_ret;exact ⟨aj (iQ hk).symm,bZ⟩
 | true =>
  by_cases h1:q<1
  · go_enter Tryz.func74,Tryz.ntmps74
    go_wp2_with (first | (go_at_call 111;refine (dU _ _ hs).mono ?_;rintro e w' ⟨rfl,rfl⟩) | go_in)
    go_ret;exact ⟨aj (qs h1).symm,bZ⟩
  by_cases h2:100000<q
  · go_enter Tryz.func74,Tryz.ntmps74
    go_wp2_with (first | (go_at_call 111;refine (dU _ _ hs).mono ?_;rintro e w' ⟨rfl,rfl⟩) | go_in)
    go_ret;exact ⟨aj (qr h2).symm,bZ⟩
  by_cases h3:n < -1000000
  · go_enter Tryz.func74,Tryz.ntmps74
    go_wp2_with (first | (go_at_call 111;refine (dU _ _ hs).mono ?_;rintro e w' ⟨rfl,rfl⟩) | go_in)
    go_ret;exact ⟨aj (qu h3).symm,bZ⟩
  by_cases h4:1000000<n
  · go_enter Tryz.func74,Tryz.ntmps74
    go_wp2_with (first | (go_at_call 111;refine (dU _ _ hs).mono ?_;rintro e w' ⟨rfl,rfl⟩) | go_in)
    go_ret;exact ⟨aj (qt h4).symm,bZ⟩
  by_cases h5:60<t.size
  · go_enter Tryz.func74,Tryz.ntmps74
    go_wp2_with (first | (go_at_call 111;refine (dU _ _ hs).mono ?_;rintro e w' ⟨rfl,rfl⟩) | go_in)
    go_ret;exact ⟨aj (ue h5).symm,bZ⟩
  by_cases d1:d=1
  · subst d1;go_enter Tryz.func74,Tryz.ntmps74
    go_wp2_with (first | (go_at_call 111;refine (dU _ _ hs).mono ?_;rintro e w' ⟨rfl,rfl⟩) | go_in)
    go_ret;refine ⟨aj ?_,bZ⟩;rw [dp hk (by omega) (by omega) (by omega) (by omega) (by omega)];exact uB.symm
  by_cases d2:d=2
  · subst d2;by_cases t0:t=ByteArray.empty
    · subst t0;by_cases n0:n=0
      · subst n0;go_enter Tryz.func74,Tryz.ntmps74
        go_wp2_with (first | (go_at_call 111;refine (dU _ _ hs).mono ?_;rintro e w' ⟨rfl,rfl⟩) | go_in)
        go_ret;refine ⟨aj ?_,bZ⟩;rw [dp hk (by omega) (by omega) (by omega) (by omega) (by omega)];rw [jo];rfl
      · have n1:(n == 0)=false:=by simpa using n0
        go_enter Tryz.func74,Tryz.ntmps74
        go_wp2_with (first | (go_at_call 111;refine (dU _ _ hs).mono ?_;rintro e w' ⟨rfl,rfl⟩) | go_in)
        go_ret;refine ⟨aj ?_,bZ⟩;rw [dp hk (by omega) (by omega) (by omega) (by omega) (by omega)];rw [jo];simp [n0]
    · have t1:=eP t0;have t2:=jc t0;go_enter Tryz.func74,Tryz.ntmps74
      go_wp2_with (first | (go_at_call 111;refine (dU _ _ hs).mono ?_;rintro e w' ⟨rfl,rfl⟩) | go_in)
      go_ret;refine ⟨aj ?_,bZ⟩;rw [dp hk (by omega) (by omega) (by omega) (by omega) (by omega)];rw [jo];simp [t1]
  by_cases d3:d=3
  · subst d3;by_cases t0:t=ByteArray.empty
    · subst t0;go_enter Tryz.func74,Tryz.ntmps74
      go_wp2_with (first | (go_at_call 111;refine (dU _ _ hs).mono ?_;rintro e w' ⟨rfl,rfl⟩) | go_in)
      go_ret;refine ⟨aj ?_,bZ⟩;rw [dp hk (by omega) (by omega) (by omega) (by omega) (by omega)];rw [mw];rfl
    · have t1:=eP t0;have t2:=jc t0;go_enter Tryz.func74,Tryz.ntmps74
      go_wp2_with (first | (go_at_call 111;refine (dU _ _ hs).mono ?_;rintro e w' ⟨rfl,rfl⟩) | go_in)
      go_ret;refine ⟨aj ?_,bZ⟩;rw [dp hk (by omega) (by omega) (by omega) (by omega) (by omega)];rw [mw];simp [t1,t2]
  have e1:(d == 1)=false:=by simpa using d1
  have e2:(d == 2)=false:=by simpa using d2
  have e3:(d == 3)=false:=by simpa using d3
  go_enter Tryz.func74,Tryz.ntmps74
  go_wp2_with (first | (go_at_call 111;refine (dU _ _ hs).mono ?_;rintro e w' ⟨rfl,rfl⟩) | go_in)
  go_ret;refine ⟨aj ?_,bZ⟩;rw [dp hk (by omega) (by omega) (by omega) (by omega) (by omega)];exact (pZ d1 d2 d3).symm
theorem m4 (k t:ByteArray) (q n:Int) (w:World) :
 Calls Tryz.prog 132 #[.agg #[.string k,iT q,iT 1,.string t,iT n]] w fun e w'=>e=.returned (.iface 203 (.agg #[]))∧Bl w w':=by
 go_enter Tryz.func132,Tryz.ntmps132
 go_wp2;go_ret;exact ⟨rfl,bZ⟩
theorem m5 (k t:ByteArray) (q n:Int) (w:World) :
 Calls Tryz.prog 132 #[.agg #[.string k,iT q,iT 2,.string t,iT n]] w fun e w'=>e=.returned (.iface 204 (.agg #[]))∧Bl w w':=by
 go_enter Tryz.func132,Tryz.ntmps132
 go_wp2;go_ret;exact ⟨rfl,bZ⟩
theorem m6 (k t:ByteArray) (q n:Int) (w:World) :
 Calls Tryz.prog 132 #[.agg #[.string k,iT q,iT 3,.string t,iT n]] w fun e w'=>e=.returned (.iface 205 (.agg #[]))∧Bl w w':=by
 go_enter Tryz.func132,Tryz.ntmps132
 go_wp2;go_ret;exact ⟨rfl,bZ⟩
theorem n7 (k t:ByteArray) (q d n:Int) (w:World) (d1:¬d=1) (d2:¬d=2) (d3:¬d=3) :
 Calls Tryz.prog 132 #[.agg #[.string k,iT q,iT d,.string t,iT n]] w fun e w'=>e=.returned (.iface 206 (.agg #[]))∧Bl w w':=by
 have e1:(d == 1)=false:=by simpa using d1
 have e2:(d == 2)=false:=by simpa using d2
 have e3:(d == 3)=false:=by simpa using d3
 go_enter Tryz.func132,Tryz.ntmps132
 go_wp2;go_ret;exact ⟨rfl,bZ⟩
theorem qm (k t:ByteArray) (q n:Int) (w:World) :
 Calls Tryz.prog 239 #[.agg #[],.agg #[.string k,iT q,iT 1,.string t,iT n]] w fun e w'=>e=.returned (.bool (eZ 1 t n))∧Bl w w':=by
 go_enter Tryz.func239,Tryz.ntmps239
 go_wp2;go_ret;exact ⟨aj (uB (t:=t) (n:=n)).symm,bZ.alloc (by simp) _⟩
theorem qn (k t:ByteArray) (q n:Int) (w:World) :
 Calls Tryz.prog 241 #[.agg #[],.agg #[.string k,iT q,iT 2,.string t,iT n]] w fun e w'=>e=.returned (.bool (eZ 2 t n))∧Bl w w':=by
 by_cases t0:t=ByteArray.empty
 · subst t0;by_cases n0:n=0
   · subst n0;go_enter Tryz.func241,Tryz.ntmps241
     go_wp2;all_goals
      go_ret;exact ⟨aj (by rw [jo];rfl),bZ.alloc (by simp) _⟩
   · have n1:(n == 0)=false:=by simpa using n0
     go_enter Tryz.func241,Tryz.ntmps241
     go_wp2;all_goals
      go_ret;exact ⟨aj (by rw [jo];simp [n0]),bZ.alloc (by simp) _⟩
 · have t1:=eP t0;have t2:=jc t0;go_enter Tryz.func241,Tryz.ntmps241
   go_wp2;all_goals
    go_ret;exact ⟨aj (by rw [jo];simp [t1]),bZ.alloc (by simp) _⟩
theorem qo (k t:ByteArray) (q n:Int) (w:World) :
 Calls Tryz.prog 243 #[.agg #[],.agg #[.string k,iT q,iT 3,.string t,iT n]] w fun e w'=>e=.returned (.bool (eZ 3 t n))∧Bl w w':=by
 by_cases t0:t=ByteArray.empty
 · subst t0;go_enter Tryz.func243,Tryz.ntmps243
   go_wp2;all_goals
    go_ret;exact ⟨aj (by rw [mw];rfl),bZ.alloc (by simp) _⟩
 · have t1:=eP t0;have t2:=jc t0;go_enter Tryz.func243,Tryz.ntmps243
   go_wp2;all_goals
    go_ret;exact ⟨aj (by rw [mw];simp [t1,t2]),bZ.alloc (by simp) _⟩
theorem rV (k t:ByteArray) (q d n:Int) (w:World) (d1:¬d=1) (d2:¬d=2) (d3:¬d=3) :
 Calls Tryz.prog 245 #[.agg #[],.agg #[.string k,iT q,iT d,.string t,iT n]] w fun e w'=>e=.returned (.bool (eZ d t n))∧Bl w w':=by
 go_enter Tryz.func245,Tryz.ntmps245
 go_wp2;go_ret;exact ⟨aj (pZ d1 d2 d3).symm,bZ.alloc (by simp) _⟩
end Go.Proofs.YtehiefdphnljaaaGreatDoor
