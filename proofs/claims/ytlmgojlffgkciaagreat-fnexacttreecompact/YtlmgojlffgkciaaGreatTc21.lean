/-
  Where a copy of a tree lies (its blocks, by kinds), and the laws' marks on it: only those blocks are written; by walks of their Go text.
-/
import Derived.Deep.DeepCutAuto
import Derived.Test.YtlmgojlffgkciaaGreatTc16
import Derived.Test.YtlmgojlffgkciaaGreatTc20
import Derived.Test.YtlmgojlffgkciaaGreatTc01
import Derived.Test.YtlmgojlffgkciaaGreatTc02
import Derived.Test.YtlmgojlffgkciaaGreatTc06
import Derived.Test.YtlmgojlffgkciaaGreatTc11
namespace Go.Proofs.YtlmgojlffgkciaaGreat
open Go.RowKit
set_option maxRecDepth 100000
set_option maxHeartbeats 2000000
attribute [local go_sem] Oper.semAt_some
def fl (lo hi:Nat) (w:World) (g m:Nat):Prop:=lo≤g∧g<hi∧aw w g 78 (m*5)
structure eF (lo hi:Nat) (w:World) (g:Nat) (B:List ae):Prop where
 at1:lo≤g
 at2:g<hi
 blk:aw w g 102 (B.length*2)
 runs:∀(i:Nat) (p:ae),B[i]?=some p→∃e,w.cell? ⟨g,i*2,none⟩=some (sL e p.1.length p.1.length)∧fl lo hi w e p.1.length
structure eG (lo hi:Nat) (w:World) (g:Nat) (V:List (List ae)):Prop where
 at1:lo≤g
 at2:g<hi
 blk:aw w g 64 (V.length*1)
 levs:∀(i:Nat) (B:List ae),V[i]?=some B→∃e,w.cell? ⟨g,i,none⟩=some (sL e B.length B.length)∧eF lo hi w e B
structure bh (lo hi:Nat) (w w':World):Prop where
 os:w'.os=w.os
 tape:w'.tape=w.tape
 output:w'.output=w.output
 size:w.heap.size≤w'.heap.size
 far:∀q,q<w.heap.size→(q<lo∨hi≤q)→w'.heap[q]?=w.heap[q]?
 blk:∀g t sz,aw w g t sz→aw w' g t sz
 sl:∀g sz o,aw w g 64 sz→w'.cell? ⟨g,o,none⟩=w.cell? ⟨g,o,none⟩
 ev:∀g sz j,aw w g 102 sz→w'.cell? ⟨g,j*2,none⟩=w.cell? ⟨g,j*2,none⟩
theorem bh.refl (lo hi:Nat) (w:World):bh lo hi w w:=⟨rfl,rfl,rfl,Nat.le_refl _,fun _ _ _=>rfl,fun _ _ _ h=>h,fun _ _ _ _=>rfl,fun _ _ _ _=>rfl⟩
theorem bh.trans {lo hi:Nat} {w w' w'':World} (h:bh lo hi w w') (k:bh lo hi w' w''):bh lo hi w w'' :=
 ⟨k.os.trans h.os,k.tape.trans h.tape,k.output.trans h.output,Nat.le_trans h.size k.size,fun q hq ho=>(k.far q (Nat.lt_of_lt_of_le hq h.size) ho).trans (h.far q hq ho),fun g t sz hg=>k.blk g t sz (h.blk g t sz hg),fun g sz o hb=>(k.sl g sz o (h.blk _ _ _ hb)).trans (h.sl g sz o hb),fun g sz j hb=>(k.ev g sz j (h.blk _ _ _ hb)).trans (h.ev g sz j hb)⟩
theorem bh.of_below {lo hi:Nat} {w w':World} (h:Bl w w'):bh lo hi w w' :=
 ⟨h.os,h.tape,h.output,h.size,fun q hq _=>h.block q hq,fun _ _ _ hg=>hg.below h,fun _ _ _ hb=>World.cell?_of_block (h.block _ hb.lt),fun _ _ _ hb=>World.cell?_of_block (h.block _ hb.lt)⟩
theorem bh.set {lo hi g o T sz:Nat} {w:World} (v:Value) (hB:aw w g T sz) (h1:lo≤g) (h2:g<hi) (t1:T≠64) (t2:T≠102):bh lo hi w (w.setCell ⟨g,o,none⟩ v) :=
 ⟨rfl,rfl,rfl,by simp [World.setCell],fun q _ hq=>Below.heap_setCell _ _ _ _ (fun e=>by have e':q=g:=e;omega),fun _ _ _ hg=>hg.setCell v,
  fun g' sz' o' hb=>World.cell?_setCell_other _ _ _ _ (fun e=>by have e':g'=g:=(by cases e;rfl);subst e';exact t1 (hB.kind hb)),
  fun g' sz' j hb=>World.cell?_setCell_other _ _ _ _ (fun e=>by have e':g'=g:=(by simp only [Addr.mk.injEq] at e;exact e.1.symm);subst e';exact t2 (hB.kind hb))⟩
theorem bh.setOdd {lo hi g j sz:Nat} {w:World} (v:Value) (hB:aw w g 102 sz) (h1:lo≤g) (h2:g<hi):bh lo hi w (w.setCell ⟨g,j*2+1,none⟩ v) :=
 ⟨rfl,rfl,rfl,by simp [World.setCell],fun q _ hq=>Below.heap_setCell _ _ _ _ (fun e=>by have e':q=g:=e;omega),fun _ _ _ hg=>hg.setCell v,
  fun g' sz' o' hb=>World.cell?_setCell_other _ _ _ _ (fun e=>by have e':g'=g:=(by simp only [Addr.mk.injEq] at e;exact e.1.symm);subst e';exact absurd (hB.kind hb) (by decide)),
  fun g' sz' i hb=>World.cell?_setCell_other _ _ _ _ (fun e=>by simp only [Addr.mk.injEq] at e;omega)⟩
theorem bh.below {lo hi B:Nat} {w w':World} (h:bh lo hi w w') (hB:B≤lo) (hw:B≤w.heap.size):Below B w w' :=
 ⟨h.os,h.tape,h.output,h.size,fun q hq=>h.far q (by omega) (Or.inl (by omega))⟩
theorem fl.mark {lo hi lo' hi' g m:Nat} {w w':World} (h:fl lo hi w g m) (k:bh lo' hi' w w'):fl lo hi w' g m:=⟨h.1,h.2.1,k.blk _ _ _ h.2.2⟩
theorem eF.mark {lo hi lo' hi' g:Nat} {w w':World} {B:List ae} (h:eF lo hi w g B) (k:bh lo' hi' w w'):eF lo hi w' g B :=
 ⟨h.at1,h.at2,k.blk _ _ _ h.blk,fun i p hp=>by obtain ⟨e,c,b⟩:=h.runs i p hp;exact ⟨e,(k.ev _ _ _ h.blk).trans c,b.mark k⟩⟩
theorem eG.mark {lo hi lo' hi' g:Nat} {w w':World} {V:List (List ae)} (h:eG lo hi w g V) (k:bh lo' hi' w w'):eG lo hi w' g V :=
 ⟨h.at1,h.at2,k.blk _ _ _ h.blk,fun i p hp=>by obtain ⟨e,c,b⟩:=h.levs i p hp;exact ⟨e,(k.sl _ _ _ h.blk).trans c,b.mark k⟩⟩
theorem fl.mono {lo hi lo' hi' g m:Nat} {w:World} (h:fl lo hi w g m) (h1:lo'≤lo) (h2:hi≤hi'):fl lo' hi' w g m:=⟨Nat.le_trans h1 h.1,Nat.lt_of_lt_of_le h.2.1 h2,h.2.2⟩
theorem eF.mono {lo hi lo' hi' g:Nat} {w:World} {B:List ae} (h:eF lo hi w g B) (h1:lo'≤lo) (h2:hi≤hi'):eF lo' hi' w g B :=
 ⟨Nat.le_trans h1 h.at1,Nat.lt_of_lt_of_le h.at2 h2,h.blk,fun i p hp=>by obtain ⟨e,c,b⟩:=h.runs i p hp;exact ⟨e,c,b.mono h1 h2⟩⟩
theorem eG.mono {lo hi lo' hi' g:Nat} {w:World} {V:List (List ae)} (h:eG lo hi w g V) (h1:lo'≤lo) (h2:hi≤hi'):eG lo' hi' w g V :=
 ⟨Nat.le_trans h1 h.at1,Nat.lt_of_lt_of_le h.at2 h2,h.blk,fun i p hp=>by obtain ⟨e,c,b⟩:=h.levs i p hp;exact ⟨e,c,b.mono h1 h2⟩⟩
def eu (B:List ae):Nat:=(B.map fun p=>5*p.1.length+1).sum
def eP (V:List (List ae)):Nat:=(V.map eu).sum
theorem oD {B:List ae} {k:Nat} {p:ae} (h:B[k]?=some p):eu (B.take (k+1))=eu (B.take k)+(5*p.1.length+1):=by
 rw [List.take_add_one,h];simp [eu]
theorem oC {V:List (List ae)} {k:Nat} {B:List ae} (h:V[k]?=some B):eP (V.take (k+1))=eP (V.take k)+eu B:=by
 rw [List.take_add_one,h];simp [eP]
theorem uO (B:List ae) (k:Nat):eu (B.take k)≤eu B:=by
 have h:eu B=eu (B.take k)+eu (B.drop k):=by
  conv=>lhs;rw [← List.take_append_drop k B]
  simp only [eu,List.map_append,List.sum_append]
 omega
theorem uN (V:List (List ae)) (k:Nat):eP (V.take k)≤eP V:=by
 have h:eP V=eP (V.take k)+eP (V.drop k):=by
  conv=>lhs;rw [← List.take_append_drop k V]
  simp only [eP,List.map_append,List.sum_append]
 omega
theorem mM (lo hi g m k:Nat) (w:World) (hE:fl lo hi w g m) (hcm:m≤1048576) (hk:1≤k) (hn:k+5*m≤1000000000) :
 Calls Tryz.prog 27 #[sL g m m,iT k] w fun e w'=>e=.returned (iT ((k+5*m:Nat):Int))∧bh lo hi w w':=by
 obtain ⟨h1,h2,hB⟩:=hE;have HB0:Hid (aw w g 78 (m*5)):=hB;clear hB;go_enter Tryz.func27,Tryz.ntmps27
 go_wp2;go_loopw [1,5] (fun kv iv wr=>∃(j:Nat),j≤m∧iv=iT j∧kv=iT ((k+5*j:Nat):Int)∧bh lo hi w wr) (fun _ iv _=>m - (intOf iv).toNat)
 case atStart=>exact ⟨0,Nat.zero_le _,rfl,rfl,bh.refl _ _ _⟩
 case round =>
  obtain ⟨j,hj,rfl,rfl,hM⟩:=hrel;have HM:Hid (bh lo hi w wr):=hM;clear hM;obtain ⟨K,hK⟩:=ay (k+5*j);have HK:Hid (K=k+5*j):=hK;rw [← hK];by_cases hlt:j<m
  · have hK1:1≤K:=by omega
    have hK2:K+5≤1000000000:=by omega
    have hltI:(j:Int)<(m:Int):=by omega
    clear hK;go_wp2_with fail
    refine (ew K _ hK1 (by omega)).mono ?_;rintro e w1 ⟨rfl,hb1⟩;have HM1:Hid (bh lo hi w w1):=HM.out.trans (bh.of_below hb1);have hbk:=HM1.out.blk _ _ _ HB0.out;obtain ⟨v0,c0⟩:=hbk.cell (o:=j*5) (by omega);obtain ⟨v1,c1⟩:=hbk.cell (o:=j*5+1) (by omega);obtain ⟨v2,c2⟩:=hbk.cell (o:=j*5+2) (by omega);have f0:=hbk.frozen (j*5);have f1:=hbk.frozen (j*5+1);have f2:=hbk.frozen (j*5+2);have hg1:=hbk.lt;have HBK:Hid (aw w1 g 78 (m*5)):=hbk;have CM:Hid (∀w,Calls Tryz.prog 61 #[iT ((K:Int)+1+1+1)] w fun e w'=>e=.returned (.string (d5 (K+3)))∧Bl w w'):=by
     have e3:(K:Int)+1+1+1=((K+3:Nat):Int):=by omega
     rw [e3];exact fun w=>ew (K+3) w (by omega) (by omega)
    clear hb1 hbk;go_wp2_with fail
    obtain ⟨W1,hW1⟩:=ay ((((w1.setCell ⟨g,j*5,none⟩ (.string (d5 K))).setCell ⟨g,j*5+1,none⟩ (iT ((K:Int)+1))).setCell ⟨g,j*5+2,none⟩ (iT ((K:Int)+1+1))));have HM2:Hid (bh lo hi w W1):=by
     rw [hW1];exact ((HM1.out.trans (bh.set _ HBK.out h1 h2 (by decide) (by decide))).trans (bh.set _ (HBK.out.setCell _) h1 h2 (by decide) (by decide))).trans (bh.set _ ((HBK.out.setCell _).setCell _) h1 h2 (by decide) (by decide))
    rw [← hW1];clear hW1 c0 c1 c2 f0 f1 f2;refine (CM.out _).mono ?_;rintro e w2 ⟨rfl,hb2⟩;have HM3:Hid (bh lo hi w w2):=HM2.out.trans (bh.of_below hb2);have hbk:=HM3.out.blk _ _ _ HB0.out;obtain ⟨v3,c3⟩:=hbk.cell (o:=j*5+3) (by omega);obtain ⟨v4,c4⟩:=hbk.cell (o:=j*5+4) (by omega);have f3:=hbk.frozen (j*5+3);have f4:=hbk.frozen (j*5+4);have hg2:=hbk.lt;have HBK3:Hid (aw w2 g 78 (m*5)):=hbk;clear hb2 hbk;go_wp2;go_roundw
    case rel =>
     refine ⟨j+1,by omega,by go_num,by have:=HK.out;go_num,?_⟩;exact (HM3.out.trans (bh.set _ HBK3.out h1 h2 (by decide) (by decide))).trans (bh.set _ (HBK3.out.setCell _) h1 h2 (by decide) (by decide))
    case measure=>simp [intOf];omega
  · have hltI:¬(j:Int)<(m:Int):=by omega
    have hjm:j=m:=by omega
    go_wp2;go_ret;exact ⟨by first | rfl | simp | (rw [hK,hjm]),HM.out⟩
theorem tg (lo hi g m k:Nat) (w:World) (h1:lo≤g) (h2:g<hi) (hB:aw w g 3 (m*1)) (hn:k+m≤1000000000) :
 Calls Tryz.prog 47 #[sL g m m,iT k] w fun e w'=>e=.returned (iT ((k+m:Nat):Int))∧bh lo hi w w':=by
 have HB0:=bc hB;clear hB;go_enter Tryz.func47,Tryz.ntmps47
 go_wp2;go_loopw [1,5] (fun kv iv wr=>∃(j:Nat),j≤m∧iv=iT j∧kv=iT ((k+j:Nat):Int)∧bh lo hi w wr) (fun _ iv _=>m - (intOf iv).toNat)
 case atStart=>exact ⟨0,Nat.zero_le _,rfl,rfl,bh.refl _ _ _⟩
 case round =>
  obtain ⟨j,hj,rfl,rfl,hM⟩:=hrel;have HM:Hid (bh lo hi w wr):=hM;have hbk:=hM.blk _ _ _ HB0.out;clear hM;obtain ⟨K,hK⟩:=ay (k+j);have HK:Hid (K=k+j):=hK;rw [← hK];have hK2:K≤1000000000:=by omega
  clear hK;by_cases hlt:j<m
  · have hltI:(j:Int)<(m:Int):=by omega
    obtain ⟨v0,c0⟩:=hbk.cell (o:=j) (by omega);have f0:=hbk.frozen j;have hg1:=hbk.lt;have HBK:Hid (aw wr g 3 (m*1)):=hbk;clear hbk;go_wp2;go_roundw
    case rel=>exact ⟨j+1,by omega,by go_num,by have:=HK.out;go_num,HM.out.trans (bh.set _ HBK.out h1 h2 (by decide) (by decide))⟩
    case measure=>simp [intOf];omega
  · have hltI:¬(j:Int)<(m:Int):=by omega
    have HKN:Hid (K=k+m):=by have:=HK.out;show K=k+m;omega
    clear hbk;go_wp2;go_ret;exact ⟨by rw [HKN.out];first | rfl | simp,HM.out⟩
theorem td (lo hi g n k:Nat) (B:List ae) (w:World) (hR:eF lo hi w g B) (hln:B.length=n) (hcm:n≤1048576) (hsm:∀p ∈ B,p.1.length≤1048576) (hk:1≤k) (hn:k+eu B≤1000000000) :
 Calls Tryz.prog 83 #[sL g n n,iT k] w fun e w'=>e=.returned (iT ((k+eu B:Nat):Int))∧bh lo hi w w':=by
 have h1:=hR.at1;have h2:=hR.at2;have HR0:=bc hR;have HLN:=bc hln;have HSM:=bc hsm;have HN:=bc hn;clear hR hsm hn hln;go_enter Tryz.func83,Tryz.ntmps83
 go_wp2;go_loopw [1,5] (fun kv iv wr=>∃(j K:Nat),j≤n∧iv=iT j∧kv=iT (K:Int)∧K=k+eu (B.take j)∧bh lo hi w wr) (fun _ iv _=>n - (intOf iv).toNat)
 case atStart=>exact ⟨0,k,Nat.zero_le _,rfl,rfl,by simp [eu],bh.refl _ _ _⟩
 case round =>
  obtain ⟨j,K,hj,rfl,rfl,hK,hM⟩:=hrel;have HM:Hid (bh lo hi w wr):=hM;have hR:=HR0.out.mark hM;have HK:Hid (K=k+eu (B.take j)):=hK;clear hK hM;by_cases hlt:j<n
  · have hltI:(j:Int)<(n:Int):=by omega
    obtain ⟨p,hp⟩:∃p,B[j]?=some p:=⟨_,List.getElem?_eq_getElem (by rw [HLN.out];exact hlt)⟩;obtain ⟨e,c0,hE⟩:=hR.runs j p hp;have hsp:=HSM.out p (List.mem_of_getElem? hp);have HNX:Hid (eu (B.take (j+1))=eu (B.take j)+(5*p.1.length+1)):=oD hp;have hle:K+5*p.1.length+1≤1000000000:=by
     have a1:=uO B (j+1);have a2:=HNX.out;have a3:=HN.out;have a4:=HK.out;omega
    have hk1:1≤K:=by have:=HK.out;omega
    obtain ⟨m,hm⟩:∃m,p.1.length=m:=⟨_,rfl⟩;have HMM:Hid (p.1.length=m):=hm;rw [hm] at c0 hE hsp hle;have hgw:=hR.blk.lt;have HE:Hid (fl lo hi wr e m):=hE;clear hm hE hp hR;go_wp2_with fail
    refine (mM lo hi e m K wr HE.out hsp hk1 (by omega)).mono ?_;rintro e' w1 ⟨rfl,hM1⟩;have HM1:Hid (bh lo hi w w1):=HM.out.trans hM1;have hR1:=HR0.out.mark HM1.out;have hbk:=hR1.blk;rw [HLN.out] at hbk;obtain ⟨v1,c1⟩:=hbk.cell (o:=j*2+1) (by omega);have f1:=hbk.frozen (j*2+1);have hg1:=hbk.lt;have HBK:Hid (aw w1 g 102 (n*2)):=hbk;obtain ⟨K1,hK1⟩:∃K1:Nat,K1=K+5*m:=⟨_,rfl⟩;have HK1:Hid (K1=K+5*m):=hK1;rw [← hK1];have hK1b:K1≤1000000000:=by omega
    clear hbk hR1 hM1 hK1 c0;go_wp2;go_roundw
    case rel =>
     refine ⟨j+1,K1+1,by omega,by go_num,by go_num,?_,HM1.out.trans (bh.setOdd _ HBK.out h1 h2)⟩;have a1:=HNX.out;have a2:=HK.out;have a3:=HK1.out;have a4:=HMM.out;omega
    case measure=>simp [intOf];omega
  · have hltI:¬(j:Int)<(n:Int):=by omega
    have HKN:Hid (K=k+eu B):=by
     have:=HK.out;rw [List.take_of_length_le (by rw [HLN.out];omega)] at this;exact this
    clear hR;go_wp2;go_ret;exact ⟨by have e:=HKN.out;first | rfl | (subst e;rfl) | (rw [e];simp) | (simp [e]),HM.out⟩
theorem te (lo hi g n k:Nat) (V:List (List ae)) (w:World) (hR:eG lo hi w g V) (hln:V.length=n) (hcm:n≤1048576) (hsm:∀B ∈ V,B.length≤1048576∧∀p ∈ B,p.1.length≤1048576) (hk:1≤k) (hn:k+eP V≤1000000000) :
 Calls Tryz.prog 46 #[sL g n n,iT k] w fun e w'=>e=.returned (iT ((k+eP V:Nat):Int))∧bh lo hi w w':=by
 have HR0:=bc hR;have HLN:=bc hln;have HSM:=bc hsm;have HN:=bc hn;clear hR hsm hn hln;go_enter Tryz.func46,Tryz.ntmps46
 go_wp2;go_loopw [1,5] (fun kv iv wr=>∃(j K:Nat),j≤n∧iv=iT j∧kv=iT (K:Int)∧K=k+eP (V.take j)∧bh lo hi w wr) (fun _ iv _=>n - (intOf iv).toNat)
 case atStart=>exact ⟨0,k,Nat.zero_le _,rfl,rfl,by simp [eP],bh.refl _ _ _⟩
 case round =>
  obtain ⟨j,K,hj,rfl,rfl,hK,hM⟩:=hrel;have HM:Hid (bh lo hi w wr):=hM;have hR:=HR0.out.mark hM;have HK:Hid (K=k+eP (V.take j)):=hK;clear hK hM;by_cases hlt:j<n
  · have hltI:(j:Int)<(n:Int):=by omega
    obtain ⟨B,hp⟩:∃B,V[j]?=some B:=⟨_,List.getElem?_eq_getElem (by rw [HLN.out];exact hlt)⟩;obtain ⟨e,c0,hE⟩:=hR.levs j B hp;have hsp:=HSM.out B (List.mem_of_getElem? hp);have HNX:Hid (eP (V.take (j+1))=eP (V.take j)+eu B):=oC hp;have hle:K+eu B≤1000000000:=by
     have a1:=uN V (j+1);have a2:=HNX.out;have a3:=HN.out;have a4:=HK.out;omega
    have hk1:1≤K:=by have:=HK.out;omega
    obtain ⟨m,hm⟩:∃m,B.length=m:=⟨_,rfl⟩;rw [hm] at c0 hsp;have CM:Hid (Calls Tryz.prog 83 #[sL e m m,iT (K:Int)] wr fun e w'=>e=.returned (iT ((K+eu B:Nat):Int))∧bh lo hi wr w'):=td lo hi e m K B wr hE hm hsp.1 hsp.2 hk1 hle;obtain ⟨hsp,_⟩:=hsp;have hgw:=hR.blk.lt;clear hm hE hp hR;obtain ⟨K1,hK1⟩:∃K1:Nat,K1=K+eu B:=⟨_,rfl⟩;have HK1:Hid (K1=K+eu B):=hK1;rw [← hK1] at CM;have hK1b:K1≤1000000000:=by omega
    clear hK1 hle;go_wp2_with fail
    refine CM.out.mono ?_;rintro e' w1 ⟨rfl,hM1⟩;have HM1:Hid (bh lo hi w w1):=HM.out.trans hM1;clear hM1 c0;go_wp2;go_roundw
    case rel =>
     refine ⟨j+1,K1,by omega,by go_num,rfl,?_,HM1.out⟩;have a1:=HNX.out;have a2:=HK.out;have a3:=HK1.out;omega
    case measure=>simp [intOf];omega
  · have hltI:¬(j:Int)<(n:Int):=by omega
    have HKN:Hid (K=k+eP V):=by
     have:=HK.out;rw [List.take_of_length_le (by rw [HLN.out];omega)] at this;exact this
    clear hR;go_wp2;go_ret;exact ⟨by have e:=HKN.out;first | rfl | (subst e;rfl) | (rw [e];simp) | (simp [e]),HM.out⟩
end Go.Proofs.YtlmgojlffgkciaaGreat

namespace Go.Proofs.YtlmgojlffgkciaaGreat
open Go.RowKit
set_option maxRecDepth 100000
set_option maxHeartbeats 2000000
def fF (k:Nat):ac:=(d5 k,((k+1:Nat):Int),((k+2:Nat):Int),d5 (k+3),((k+4:Nat):Int))
def dO (k n:Nat):List ac:=(List.range n).map (fun j=>fF (k+5*j))
theorem eS (k n:Nat):(dO k n).length=n:=by simp [dO]
theorem tf {k n j:Nat} {l:ac} (h:(dO k n)[j]?=some l):j<n∧l=fF (k+5*j):=by
 have h1:=(List.getElem?_eq_some_iff.1 h).1;rw [eS] at h1;refine ⟨h1,?_⟩;have:(dO k n)[j]?=some (fF (k+5*j)):=by simp [dO,h1]
 rw [this] at h;cases h;rfl
theorem Ai (f p:Nat) (acc:List UInt8):(jx f p acc).length≤f+acc.length:=by
 induction f generalizing p acc with
 | zero=>simp [jx]
 | succ f ih =>
  unfold jx;split
  · omega
  · have:=ih (p / 10) (UInt8.ofNat (48+p % 10) :: acc);rw [List.length_cons] at this;omega
theorem oJ (k:Nat):(d5 k).size≤1+k:=by
 unfold d5;rw [ByteArray.size_append];have:=Ai k k [];show 1+(jx k k []).toArray.size≤1+k
 simp at this ⊢;exact this
theorem lj (x:Nat) (h:x≤2000000000):(Lit.int .i64 (x:Int)).wf=true:=by
 simp only [Lit.wf,IntKind.min,IntKind.max,IntKind.signed,IntKind.bits,Bool.and_eq_true,decide_eq_true_eq,if_true];omega
theorem zv (k n:Nat) (h:k+5*n≤1000000000):∀l ∈ dO k n,eO l:=by
 intro l hl;obtain ⟨j,hj,rfl⟩:=List.mem_map.1 hl;have hj':=List.mem_range.1 hj;have s1:=oJ (k+5*j);have s2:=oJ (k+5*j+3);exact ⟨by show (d5 (k+5*j)).size≤maxLen;unfold maxLen;omega,lj _ (by omega),lj _ (by omega),by show (d5 (k+5*j+3)).size≤maxLen;unfold maxLen;omega,lj _ (by omega)⟩
theorem qh (base b n cap k:Nat) (L:List ac) (w:World) (hO:aE w base b n cap L) (hk:1≤k) (hn:k+5*n≤1000000000) :
 Calls Tryz.prog 27 #[sL b n cap,iT k] w fun e w'=>e=.returned (iT ((k+5*n:Nat):Int))∧aE w' base b n cap (dO k n)∧w.grownBy w' (some b):=by
 have hbw:=hO.lt.2;have HO0:Hid (w.ownsRow base 78 5 (sL b n cap) n (aI L)):=hO.owns;clear hO;go_enter Tryz.func27,Tryz.ntmps27
 go_wp2;go_loopw [1,5] (fun kv iv wr=>∃(j:Nat) (xs:List Value),j≤n∧iv=iT j∧kv=iT ((k+5*j:Nat):Int)∧wr.ownsRow base 78 5 (sL b n cap) n xs∧w.grownBy wr (some b)∧(∀i,i<j→fg xs i (fF (k+5*i)))) (fun _ iv _=>n - (intOf iv).toNat)
 case atStart=>exact ⟨0,_,Nat.zero_le _,rfl,rfl,HO0.out,⟨rfl,rfl,rfl,Nat.le_refl _,fun _ _ _=>rfl⟩,fun i hi=>absurd hi (Nat.not_lt_zero _)⟩
 case round =>
  obtain ⟨j,xs,hj,rfl,rfl,ho,hg,hrow⟩:=hrel;have HROW:Hid (∀i,i<j→fg xs i (fF (k+5*i))):=hrow;have HO:Hid (wr.ownsRow base 78 5 (sL b n cap) n xs):=ho;have HG:Hid (w.grownBy wr (some b)):=hg;have hbr:=(ho.lt b rfl).2;clear hrow ho hg;obtain ⟨K,hK⟩:=ay (k+5*j);rw [← hK];by_cases hlt:j<n
  · have hK1:1≤K:=by omega
    have hK2:K+5≤1000000000:=by omega
    have HK:Hid (K=k+5*j):=hK;clear hK;go_wp2_with fail
    refine (ew K _ hK1 (by omega)).mono ?_;rintro e w1 ⟨rfl,hb1⟩;have ho1:w1.ownsRow base 78 5 (sL b n cap) n xs:=HO.out.kept (row:=none) ⟨hb1.os,hb1.tape,hb1.output,hb1.size,fun k hk _=>hb1.block k hk⟩ (.inr (by simp [Value.ownBlock]));have c0:∃v,w1.cell? ⟨b,j*5,none⟩=some v:=⟨_,(ho1.cellAt _ (by omega)).trans (List.getElem?_eq_getElem (by rw [ho1.1];omega))⟩;obtain ⟨v0,c0⟩:=c0;have f0:w1.frozen? ⟨b,j*5,none⟩=false:=ho1.frozenAt _;have c1:∃v,w1.cell? ⟨b,j*5+1,none⟩=some v:=⟨_,(ho1.cellAt _ (by omega)).trans (List.getElem?_eq_getElem (by rw [ho1.1];omega))⟩;obtain ⟨v1,c1⟩:=c1;have f1:w1.frozen? ⟨b,j*5+1,none⟩=false:=ho1.frozenAt _;have c2:∃v,w1.cell? ⟨b,j*5+2,none⟩=some v:=⟨_,(ho1.cellAt _ (by omega)).trans (List.getElem?_eq_getElem (by rw [ho1.1];omega))⟩;obtain ⟨v2,c2⟩:=c2;have f2:w1.frozen? ⟨b,j*5+2,none⟩=false:=ho1.frozenAt _;have c3:∃v,w1.cell? ⟨b,j*5+3,none⟩=some v:=⟨_,(ho1.cellAt _ (by omega)).trans (List.getElem?_eq_getElem (by rw [ho1.1];omega))⟩;obtain ⟨v3,c3⟩:=c3;have f3:w1.frozen? ⟨b,j*5+3,none⟩=false:=ho1.frozenAt _;have c4:∃v,w1.cell? ⟨b,j*5+4,none⟩=some v:=⟨_,(ho1.cellAt _ (by omega)).trans (List.getElem?_eq_getElem (by rw [ho1.1];omega))⟩;obtain ⟨v4,c4⟩:=c4;have f4:w1.frozen? ⟨b,j*5+4,none⟩=false:=ho1.frozenAt _;have HO1:Hid (w1.ownsRow base 78 5 (sL b n cap) n xs):=ho1;have hbw1:=(ho1.lt b rfl).2;clear ho1;have CM:Hid (∀w,Calls Tryz.prog 61 #[iT ((K:Int)+1+1+1)] w fun e w'=>e=.returned (.string (d5 (K+3)))∧Bl w w'):=by
     have e3:(K:Int)+1+1+1=((K+3:Nat):Int):=by omega
     rw [e3];exact fun w=>ew (K+3) w (by omega) (by omega)
    have HME:Hid (fF (k+5*j)=(d5 K,(K:Int)+1,(K:Int)+1+1,d5 (K+3),(K:Int)+1+1+1+1)):=by
     show fF (k+5*j)=_
     rw [← HK.out];unfold fF;have a1:((K+1:Nat):Int)=(K:Int)+1:=by omega
     have a2:((K+2:Nat):Int)=(K:Int)+1+1:=by omega
     have a4:((K+4:Nat):Int)=(K:Int)+1+1+1+1:=by omega
     rw [a1,a2,a4]
    go_wp2_with fail
    have t0:=HO1.out.stored (j*5) (.string (d5 K));have t1:=t0.1.stored (j*5+1) (iT ((K:Int)+1));have t2:=t1.1.stored (j*5+2) (iT ((K:Int)+1+1));obtain ⟨W1,hW1⟩:=ay ((((w1.setCell ⟨b,j*5,none⟩ (.string (d5 K))).setCell ⟨b,j*5+1,none⟩ (iT ((K:Int)+1))).setCell ⟨b,j*5+2,none⟩ (iT ((K:Int)+1+1))));have ho2:W1.ownsRow base 78 5 (sL b n cap) n ((xs.set (j*5) (.string (d5 K))).set (j*5+1) (iT ((K:Int)+1)) |>.set (j*5+2) (iT ((K:Int)+1+1))):=by rw [hW1];exact t2.1
    have g1:wr.grownBy W1 (some b):=by rw [hW1];exact ⟨hb1.os,hb1.tape,hb1.output,by have:=hb1.size;simpa [World.setCell] using this,fun q hq hne=>by
     have hqb:q≠b:=fun e=>hne (by rw [e])
     rw [Below.heap_setCell _ _ _ _ hqb,Below.heap_setCell _ _ _ _ hqb,Below.heap_setCell _ _ _ _ hqb];exact hb1.block q hq⟩
    rw [← hW1];clear hW1 t0 t1 t2 c0 c1 c2 c3 c4 f0 f1 f2 f3 f4 hb1;refine (CM.out _).mono ?_;rintro e w2 ⟨rfl,hb2⟩;have ho3:w2.ownsRow base 78 5 (sL b n cap) n ((xs.set (j*5) (.string (d5 K))).set (j*5+1) (iT ((K:Int)+1)) |>.set (j*5+2) (iT ((K:Int)+1+1))):=ho2.kept (row:=none) ⟨hb2.os,hb2.tape,hb2.output,hb2.size,fun k hk _=>hb2.block k hk⟩ (.inr (by simp [Value.ownBlock]));have d3:∃v,w2.cell? ⟨b,j*5+3,none⟩=some v:=⟨_,(ho3.cellAt _ (by omega)).trans (List.getElem?_eq_getElem (by rw [ho3.1];omega))⟩;obtain ⟨y3,d3⟩:=d3;have e3:w2.frozen? ⟨b,j*5+3,none⟩=false:=ho3.frozenAt _;have d4:∃v,w2.cell? ⟨b,j*5+4,none⟩=some v:=⟨_,(ho3.cellAt _ (by omega)).trans (List.getElem?_eq_getElem (by rw [ho3.1];omega))⟩;obtain ⟨y4,d4⟩:=d4;have e4:w2.frozen? ⟨b,j*5+4,none⟩=false:=ho3.frozenAt _;have HO3:Hid (w2.ownsRow base 78 5 (sL b n cap) n ((xs.set (j*5) (.string (d5 K))).set (j*5+1) (iT ((K:Int)+1)) |>.set (j*5+2) (iT ((K:Int)+1+1)))):=ho3;have hbw2:=(ho3.lt b rfl).2;have hxl:=HO.out.1;have HXL:Hid (xs.length=n*5):=hxl;clear ho3 ho2 hxl;go_wp2;go_roundw
    case rel =>
     have t3:=HO3.out.stored (j*5+3) (.string (d5 (K+3)));have t4:=t3.1.stored (j*5+4) (iT ((K:Int)+1+1+1+1));refine ⟨j+1,_,by omega,by go_num,?_,t4.1,?_,?_⟩
     · congr 1;have:=HK.out;omega
     · have G:=HG.out;exact ⟨((hb2.os.trans g1.os).trans G.os),((hb2.tape.trans g1.tape).trans G.tape),((hb2.output.trans g1.output).trans G.output),by have:=hb2.size;have:=g1.size;have:=G.size;simp [World.setCell];omega,fun q hq hne=>by
        have hqb:q≠b:=fun e=>hne (by rw [e])
        rw [Below.heap_setCell _ _ _ _ hqb,Below.heap_setCell _ _ _ _ hqb];have h1:=G.size;have h2:=g1.size;exact (hb2.block q (by omega)).trans ((g1.block q (by omega) hne).trans (G.block q hq hne))⟩
     · intro i hi;by_cases hij:i=j
       · subst hij;rw [HME.out];exact fO _ _ _ _ _ (by rw [HXL.out];omega)
       · exact e9 (HROW.out i (by omega)) hij _ _ _ _ _
    case measure=>simp [intOf];omega
  · have hjn:j=n:=by omega
    subst hjn;have HK:Hid (K=k+5*j):=hK;clear hK;go_wp2;go_ret;refine ⟨iI (by rw [HK.out]),⟨?_,eS k j,zv k j hn⟩,HG.out⟩;rw [← lw (xs:=xs) (L:=dO k j) (by rw [eS];exact HO.out.1) (fun i l hl=>by obtain ⟨h1,rfl⟩:=tf hl;exact HROW.out i h1)];exact HO.out
end Go.Proofs.YtlmgojlffgkciaaGreat

namespace Go.Proofs.YtlmgojlffgkciaaGreat
open Go.RowKit
set_option maxRecDepth 100000
set_option maxHeartbeats 2000000
theorem qw (b n cap k:Nat) (w:World) (hL:af w (pT b) n cap (dO k n)) (hk:1≤k) (hn:k+5*n≤1000000000) :
 Calls Tryz.prog 34 #[sL b n cap,iT k] w fun e w'=>e=.returned (iT ((k+5*n:Nat):Int))∧Bl w w':=by
 have HL:=bc hL;clear hL;go_enter Tryz.func34,Tryz.ntmps34
 go_wp2;go_loopw [1,5] (fun kv iv wr=>∃(j:Nat),j≤n∧iv=iT j∧kv=iT ((k+5*j:Nat):Int)∧Bl w wr) (fun _ iv _=>n - (intOf iv).toNat)
 case atStart=>exact ⟨0,Nat.zero_le _,rfl,rfl,Below.refl _ _⟩
 case round =>
  obtain ⟨j,hj,rfl,rfl,hb⟩:=hrel;obtain ⟨K,hK⟩:=ay (k+5*j);rw [← hK];by_cases hlt:j<n
  · have hK1:1≤K:=by omega
    have hK2:K+5≤1000000000:=by omega
    have hbb:=(HL.out.lies _ rfl (by omega)).1;simp only at hbb;have hbr:b<wr.heap.size:=Nat.lt_of_lt_of_le hbb hb.size;have hent:=(HL.out.cells _ rfl j (by rw [eS];exact hlt)).moved (fun o=>hb.cell (p:=⟨b,o,none⟩) hbb);have hme:(dO k n)[j]'(by rw [eS];exact hlt)=fF K:=by
     have:=(tf (k:=k) (n:=n) (j:=j) (List.getElem?_eq_getElem (by rw [eS];exact hlt))).2;rw [this,hK]
    rw [hme] at hent;simp only [Nat.zero_add] at hent;obtain ⟨c0,c1,c2,c3,c4⟩:=hent;unfold fF at c0 c1 c2 c3 c4;simp only at c0 c1 c2 c3 c4;have a1:((K+1:Nat):Int)=(K:Int)+1:=by omega
    have a2:((K+2:Nat):Int)=(K:Int)+1+1:=by omega
    have a4:((K+4:Nat):Int)=(K:Int)+1+1+1+1:=by omega
    rw [a1] at c1;rw [a2] at c2;rw [a4] at c4;clear a1 a2 a4 hme;have HK:Hid (K=k+5*j):=hK;clear hK;have CM0:Hid (∀w,Calls Tryz.prog 61 #[iT (K:Int)] w fun e w'=>e=.returned (.string (d5 K))∧Bl w w'):=fun w=>ew K w hK1 (by omega)
    have CM:Hid (∀w,Calls Tryz.prog 61 #[iT ((K:Int)+1+1+1)] w fun e w'=>e=.returned (.string (d5 (K+3)))∧Bl w w'):=by
     have e3:(K:Int)+1+1+1=((K+3:Nat):Int):=by omega
     rw [e3];exact fun w=>ew (K+3) w (by omega) (by omega)
    have HMK:Hid (∀w',Bl wr w'→(w'.cell? ⟨b,j*5,none⟩=some (.string (d5 K))∧w'.cell? ⟨b,j*5+3,none⟩=some (.string (d5 (K+3)))∧b<w'.heap.size)):=fun w' kk=>⟨cell_later kk c0,cell_later kk c3,Nat.lt_of_lt_of_le hbr kk.size⟩
    have k0:Bl wr wr.drew:=(Below.refl _ wr).drew;go_wp2_with fail
    refine dM HMK k0 fun aa=>?_
    refine aL 0 6 aa ?_;refine aS 6 fun K hK=>?_
    go_simp;refine (CM0.out _).mono ?_;rintro e w1 ⟨rfl,bw1⟩;have k1:Bl wr w1:=k0.trans (bw1.mono k0.size);go_wp2_with fail
    refine hK.out _ _ (HMK.out _ k1) (fun aa=>?_);clear hK K;(try go_frame);refine aL 7 1 aa ?_;refine dN ?_;have z1:=cell_later k1 c1;have z2:=cell_later k1 c2;have z4:=cell_later k1 c4;have hbz:=Nat.lt_of_lt_of_le hbr k1.size;go_wp2_with fail
    have k2:Bl wr w1.drew:=k1.trans ((Below.refl _ w1).drew.mono k1.size);refine dM HMK k2 fun aa=>?_
    refine aL 0 6 aa ?_;refine aS 6 fun K hK=>?_
    go_simp;refine (CM.out _).mono ?_;rintro e w3 ⟨rfl,bw3⟩;have k3:Bl wr w3:=k2.trans (bw3.mono k2.size);go_wp2_with fail
    refine hK.out _ _ (HMK.out _ k3) (fun aa=>?_);clear hK K;(try go_frame);refine aL 7 1 aa ?_;refine dN ?_;have y4:=cell_later k3 c4;have hby:=Nat.lt_of_lt_of_le hbr k3.size;clear z1 z2 z4;go_wp2;go_roundw
    case rel=>exact ⟨j+1,by omega,by go_num,by congr 1;have:=HK.out;omega,hb.trans (k3.mono hb.size)⟩
    case measure=>simp [intOf];omega
  · have hjn:j=n:=by omega
    subst hjn;have HK:Hid (K=k+5*j):=hK;clear hK;go_wp2;go_ret;exact ⟨iI (by rw [HK.out]),hb⟩
end Go.Proofs.YtlmgojlffgkciaaGreat
