/- Walks. -/
import Derived.Deep.RegionHeld3
import Derived.Deep.DeepCutAuto
import Derived.Test.YtehiefdphnljaaaGreatDoorSw01
import Derived.Deep.QuietTactic
import Derived.BigQuiet
namespace Go.Proofs.YtehiefdphnljaaaGreatDoor
set_option maxRecDepth 100000
set_option maxHeartbeats 40000000
open Go.RowKit
variable {V:List (List aq)} {fuel g hi hi' i k lo lo' m sz:Nat} {v:Value} {w w':World}
theorem gI {P:Program} {l:List Oper} {Q:Exit→Act→World→Prop} {md:Region.Mode} {S:World→Prop} {oi:Oper} {listed:Array Bool} {a:Act} (hi:l[i]?=some oi)
 (hs:Region.noSelect l.toArray=true) (hf:Region.free md l.toArray listed i=true) (hr:(Region.ready md l.toArray listed).contains i=true)
 (hQ:∀c a w,Q (.panic c) (a.put oi.dst v) w→Q (.panic c) a w) (hy:YieldsIf P l.toArray S oi v a) (hS:S w)
 (h:wpAnyH P md l.toArray Q S fuel (listed.setIfInBounds i true) (a.put oi.dst v) w):wpAnyH P md l.toArray Q S (fuel+1) listed a w :=
 wpAnyH_take (by simpa using hi) hs hf hr hQ hy hS h
theorem tkL {P:Program} {l:List Oper} {Q:Exit→Act→World→Prop} {md:Region.Mode} {S:World→Prop} (i:Nat) {oi:Oper} {v:Value} {fuel:Nat} {listed:Array Bool} {a:Act} {w:World} (hS:S w)
 (h:wpAnyH P md l.toArray Q S fuel (listed.setIfInBounds i true) (a.put oi.dst v) w) (hi:l[i]?=some oi:=by exact rfl) (hs:Region.noSelect l.toArray=true:=by kernel_rfl) (hf:Region.free md l.toArray listed i=true:=by kernel_rfl) (hr:(Region.ready md l.toArray listed).contains i=true:=by kernel_rfl)
 (hQ:∀c a w,Q (.panic c) (a.put oi.dst v) w→Q (.panic c) a w:=by exact fun _ _ _ h=>h) (hy:YieldsIf P l.toArray S oi v a:=by (refine Or.inl ⟨by rfl,?_⟩;intro w hSw;(try dsimp only at hSw);go_simp;try with_reducible rfl)):wpAnyH P md l.toArray Q S (fuel+1) listed a w :=
 gI hi hs hf hr hQ hy hS h
theorem tkN {P:Program} {l:List Oper} {Q:Exit→Act→World→Prop} {md:Region.Mode} {S:World→Prop} (i:Nat) {oi:Oper} {fuel:Nat} {listed:Array Bool} {a:Act} {w:World} (hS:S w)
 (h:wpAnyH P md l.toArray Q S fuel (listed.setIfInBounds i true) (a.put oi.dst undef) w) (hi:l[i]?=some oi:=by exact rfl) (hs:Region.noSelect l.toArray=true:=by kernel_rfl) (hf:Region.free md l.toArray listed i=true:=by kernel_rfl) (hr:(Region.ready md l.toArray listed).contains i=true:=by kernel_rfl)
 (hQ:∀c a w,Q (.panic c) (a.put oi.dst undef) w→Q (.panic c) a w:=by exact fun _ _ _ h=>h) (hy:YieldsIf P l.toArray S oi undef a:=by exact Or.inr ⟨by rfl,rfl⟩):wpAnyH P md l.toArray Q S (fuel+1) listed a w :=
 gI hi hs hf hr hQ hy hS h
theorem bO {P:Program} {l:List Oper} {Q:Exit→Act→World→Prop} {md:Region.Mode} {S:World→Prop} {listed:Array Bool} {a:Act} {o:Oper} {rs:List Nat} (ho:l[i]?=some o)
 (h:∀K':Act→World→Prop,Shut (∀a w,S w→(S w→wpAnyH P md l.toArray Q S fuel (listed.setIfInBounds i true) a w)→K' a w)→if Region.wanted o (yielded l.toArray a.tmps)=true then Oper.wp P o a w K' Q else K' (a.put o.dst undef) w)
 (hs:AllReadyH P md l.toArray Q S fuel listed a w rs):AllReadyH P md l.toArray Q S fuel listed a w (i :: rs) :=
 AllReadyH.cons (by simpa using ho) h hs
theorem aP {P:Program} {l:List Oper} {Q:Exit→Act→World→Prop} {md:Region.Mode} {S:World→Prop} (i:Nat) {o:Oper} {fuel:Nat} {listed:Array Bool} {a:Act} {w:World}
 (h:∀K':Act→World→Prop,Shut (∀a w,S w→(S w→wpAnyH P md l.toArray Q S fuel (listed.setIfInBounds i true) a w)→K' a w)→if Region.wanted o (yielded l.toArray a.tmps)=true then Oper.wp P o a w K' Q else K' (a.put o.dst undef) w)
 (ho:l[i]?=some o:=by exact rfl) (hr:Region.ready md l.toArray listed=[i]:=by kernel_rfl):wpAnyH P md l.toArray Q S (fuel+1) listed a w :=
 wpAnyH_ready hr (by simp) (bO ho h AllReadyH.nil)
def pw (P:Program) (md:Region.Mode) (l:List Oper) (Q:Exit → Act → World → Prop) (S:World → Prop) (fuel:Nat) (w:World):Nat → Nat → Array Bool → Act → Prop
 | 0,_,listed,a=>wpAnyH P md l.toArray Q S fuel listed a w
 | n+1,i,listed,a=>∃oi v,(l[i]? = some oi∧Region.noSelect l.toArray=true∧Region.free md l.toArray listed i=true∧(Region.ready md l.toArray listed).contains i=true)∧(∀c a w,Q (.panic c) (a.put oi.dst v) w → Q (.panic c) a w)∧YieldsIf P l.toArray S oi v a∧pw P md l Q S fuel w n (i+1) (listed.setIfInBounds i true) (a.put oi.dst v)
theorem tk0 {P:Program} {md:Region.Mode} {l:List Oper} {Q:Exit → Act → World → Prop} {S:World → Prop} {listed:Array Bool} {a:Act} (h:wpAnyH P md l.toArray Q S fuel listed a w):pw P md l Q S fuel w 0 i listed a:=h
theorem Cg {P:Program} {md:Region.Mode} {l:List Oper} {Q:Exit → Act → World → Prop} {S:World → Prop} {n:Nat} {listed:Array Bool} {a:Act} {oi:Oper} (hi:l[i]? = some oi) (hs:Region.noSelect l.toArray=true) (hf:Region.free md l.toArray listed i=true) (hr:(Region.ready md l.toArray listed).contains i=true)
 (hQ:∀c a w,Q (.panic c) (a.put oi.dst v) w → Q (.panic c) a w) (hy:YieldsIf P l.toArray S oi v a) (h:pw P md l Q S fuel w n (i+1) (listed.setIfInBounds i true) (a.put oi.dst v)):pw P md l Q S fuel w (n+1) i listed a:=⟨oi,v,⟨hi,hs,hf,hr⟩,hQ,hy,h⟩
theorem Cf {P:Program} {md:Region.Mode} {l:List Oper} {Q:Exit → Act → World → Prop} {S:World → Prop} {fuel:Nat} {w:World} (hS:S w):∀(n i:Nat) (listed:Array Bool) (a:Act),pw P md l Q S fuel w n i listed a → wpAnyH P md l.toArray Q S (fuel+n) listed a w
 | 0,_,_,_,h=>h
 | n+1,_,_,_,⟨_,_,⟨hi,hs,hf,hr⟩,hQ,hy,h⟩=>gI hi hs hf hr hQ hy hS (Cf hS n _ _ _ h)
theorem aK {P:Program} {md:Region.Mode} {l:List Oper} {Q:Exit → Act → World → Prop} {S:World → Prop} (i n:Nat) {listed:Array Bool} {a:Act} {g:Prop} (hS:S w) (h:g)
 (e:g → pw P md l Q S fuel w n i listed a:=by
  (intro hg; repeat (first | exact tk0 hg | ((refine Cg (v:=?_) rfl (by kernel_rfl) (by kernel_rfl) (by kernel_rfl) (fun _ _ _ h=>h) (Or.inl ⟨by rfl,?_⟩) ?_; rotate_left; · (intro w hSw; (try dsimp only at hSw); go_simp; try with_reducible rfl)); try simp only [Act.put,List.setIfInBounds_toArray,List.set_cons_succ,List.set_cons_zero]) | (refine Cg (v:=undef) rfl (by kernel_rfl) (by kernel_rfl) (by kernel_rfl) (fun _ _ _ h=>h) (Or.inr ⟨by rfl,rfl⟩) ?_; try simp only [Act.put,List.setIfInBounds_toArray,List.set_cons_succ,List.set_cons_zero])))):wpAnyH P md l.toArray Q S (fuel+n) listed a w:=Cf hS n i listed a (e h)
theorem uv {P:Program} {l:List Oper} {Q:Exit → Act → World → Prop} {md:Region.Mode} {S:World → Prop} (i j:Nat) {o p:Oper} {fuel:Nat} {listed:Array Bool} {a:Act} {w:World}
 (h:∀K':Act → World → Prop,Shut (∀a w,S w → (S w → wpAnyH P md l.toArray Q S fuel (listed.setIfInBounds i true) a w) → K' a w) → if Region.wanted o (yielded l.toArray a.tmps)=true then Oper.wp P o a w K' Q else K' (a.put o.dst undef) w)
 (h2:∀K':Act → World → Prop,Shut (∀a w,S w → (S w → wpAnyH P md l.toArray Q S fuel (listed.setIfInBounds j true) a w) → K' a w) → if Region.wanted p (yielded l.toArray a.tmps)=true then Oper.wp P p a w K' Q else K' (a.put p.dst undef) w)
 (ho:l[i]? = some o:=by exact rfl) (hp:l[j]? = some p:=by exact rfl) (hr:Region.ready md l.toArray listed=[i,j]:=by kernel_rfl):wpAnyH P md l.toArray Q S (fuel+1) listed a w:=wpAnyH_ready hr (by simp) (bO ho h (bO hp h2 AllReadyH.nil))
theorem rd3 {P:Program} {l:List Oper} {Q:Exit → Act → World → Prop} {md:Region.Mode} {S:World → Prop} (i j k:Nat) {o p q:Oper} {fuel:Nat} {listed:Array Bool} {a:Act} {w:World}
 (h:∀K':Act → World → Prop,Shut (∀a w,S w → (S w → wpAnyH P md l.toArray Q S fuel (listed.setIfInBounds i true) a w) → K' a w) → if Region.wanted o (yielded l.toArray a.tmps)=true then Oper.wp P o a w K' Q else K' (a.put o.dst undef) w)
 (h2:∀K':Act → World → Prop,Shut (∀a w,S w → (S w → wpAnyH P md l.toArray Q S fuel (listed.setIfInBounds j true) a w) → K' a w) → if Region.wanted p (yielded l.toArray a.tmps)=true then Oper.wp P p a w K' Q else K' (a.put p.dst undef) w)
 (h3:∀K':Act → World → Prop,Shut (∀a w,S w → (S w → wpAnyH P md l.toArray Q S fuel (listed.setIfInBounds k true) a w) → K' a w) → if Region.wanted q (yielded l.toArray a.tmps)=true then Oper.wp P q a w K' Q else K' (a.put q.dst undef) w)
 (ho:l[i]? = some o:=by exact rfl) (hp:l[j]? = some p:=by exact rfl) (hq:l[k]? = some q:=by exact rfl) (hr:Region.ready md l.toArray listed=[i,j,k]:=by kernel_rfl):wpAnyH P md l.toArray Q S (fuel+1) listed a w:=wpAnyH_ready hr (by simp) (bO ho h (bO hp h2 (bO hq h3 AllReadyH.nil)))
theorem dC {P:Program} {ops:Array Oper} {Q:Exit → Act → World → Prop} {id:Nat} {a:Act} {R S:World → Prop} (H:Hid (∀w',R w' → S w')) (k:R w.drew) (h:S w.drew → wpAnyH P .any ops Q S ops.size (Array.replicate ops.size false) a w.drew) (hm:P.follows .mixedOrders=true:=by kernel_rfl):(Code.region id ops true).wp P Q a w:=wp_region_held_drew hm (H.out _ k) h
theorem drw' {P:Program} {ops:Array Oper} {Q:Exit → Act → World → Prop} {id:Nat} {a:Act} {R S:World → Prop} (H:∀w',R w' → S w') (k:R w.drew) (h:S w.drew → wpAnyH P .any ops Q S ops.size (Array.replicate ops.size false) a w.drew) (hm:P.follows .mixedOrders=true:=by kernel_rfl):(Code.region id ops true).wp P Q a w:=wp_region_held_drew hm (H _ k) h
theorem dN {P:Program} {md:Region.Mode} {l:List Oper} {Q:Exit → Act → World → Prop} {S:World → Prop} {fuel:Nat} {listed:Array Bool} {a:Act} (h:Q .normal a w) (hr:Region.ready md l.toArray listed=[]:=by kernel_rfl):wpAnyH P md l.toArray Q S fuel listed a w:=wpAnyH_done hr h _
section
attribute [local go_sem] Oper.semAt_some
def eW (lo hi:Nat) (w:World) (g m:Nat):Prop:=lo≤g∧g<hi∧aV w g 59 (m*5)
structure d8 (lo hi:Nat) (w:World) (g:Nat) (B:List aq):Prop where
 at1:lo≤g
 at2:g<hi
 blk:aV w g 119 (B.length*2)
 runs:∀(i:Nat) (p:aq),B[i]?=some p→∃e,w.cell? ⟨g,i*2,none⟩=some (sL e p.1.length p.1.length)∧eW lo hi w e p.1.length
structure cQ (lo hi:Nat) (w:World) (g:Nat) (V:List (List aq)):Prop where
 at1:lo≤g
 at2:g<hi
 blk:aV w g 83 (V.length*1)
 levs:∀(i:Nat) (B:List aq),V[i]?=some B→∃e,w.cell? ⟨g,i,none⟩=some (sL e B.length B.length)∧d8 lo hi w e B
structure aQ (lo hi:Nat) (w w':World):Prop where
 os:w'.os=w.os
 tape:w'.tape=w.tape
 output:w'.output=w.output
 size:w.heap.size≤w'.heap.size
 far:∀q,q<w.heap.size→(q<lo∨hi≤q)→w'.heap[q]?=w.heap[q]?
 blk:∀g t sz,aV w g t sz→aV w' g t sz
 sl:∀g sz o,aV w g 83 sz→w'.cell? ⟨g,o,none⟩=w.cell? ⟨g,o,none⟩
 ev:∀g sz j,aV w g 119 sz→w'.cell? ⟨g,j*2,none⟩=w.cell? ⟨g,j*2,none⟩
theorem aQ.refl (lo hi:Nat) (w:World):aQ lo hi w w:=⟨rfl,rfl,rfl,Nat.le_refl _,fun _ _ _=>rfl,fun _ _ _ h=>h,fun _ _ _ _=>rfl,fun _ _ _ _=>rfl⟩
theorem aQ.trans {w'':World} (h:aQ lo hi w w') (k:aQ lo hi w' w''):aQ lo hi w w'' :=
 ⟨k.os.trans h.os,k.tape.trans h.tape,k.output.trans h.output,Nat.le_trans h.size k.size,fun q hq ho=>(k.far q (Nat.lt_of_lt_of_le hq h.size) ho).trans (h.far q hq ho),fun g t sz hg=>k.blk g t sz (h.blk g t sz hg),fun g sz o hb=>(k.sl g sz o (h.blk _ _ _ hb)).trans (h.sl g sz o hb),fun g sz j hb=>(k.ev g sz j (h.blk _ _ _ hb)).trans (h.ev g sz j hb)⟩
theorem aQ.of_below (h:Bl w w'):aQ lo hi w w' :=
 ⟨h.os,h.tape,h.output,h.size,fun q hq _=>h.block q hq,fun _ _ _ hg=>hg.below h,fun _ _ _ hb=>World.cell?_of_block (h.block _ hb.lt),fun _ _ _ hb=>World.cell?_of_block (h.block _ hb.lt)⟩
theorem aQ.set {o T:Nat} (v:Value) (hB:aV w g T sz) (h1:lo≤g) (h2:g<hi) (t1:T≠83) (t2:T≠119):aQ lo hi w (w.setCell ⟨g,o,none⟩ v) :=
 ⟨rfl,rfl,rfl,by simp [World.setCell],fun q _ hq=>Below.heap_setCell _ _ _ _ (fun e=>by have e':q=g:=e;omega),fun _ _ _ hg=>hg.setCell v,
  fun g' sz' o' hb=>World.cell?_setCell_other _ _ _ _ (fun e=>by have e':g'=g:=(by cases e;rfl);subst e';exact t1 (hB.kind hb)),
  fun g' sz' j hb=>World.cell?_setCell_other _ _ _ _ (fun e=>by have e':g'=g:=(by simp only [Addr.mk.injEq] at e;exact e.1.symm);subst e';exact t2 (hB.kind hb))⟩
theorem aQ.setOdd {j:Nat} (v:Value) (hB:aV w g 119 sz) (h1:lo≤g) (h2:g<hi):aQ lo hi w (w.setCell ⟨g,j*2+1,none⟩ v) :=
 ⟨rfl,rfl,rfl,by simp [World.setCell],fun q _ hq=>Below.heap_setCell _ _ _ _ (fun e=>by have e':q=g:=e;omega),fun _ _ _ hg=>hg.setCell v,
  fun g' sz' o' hb=>World.cell?_setCell_other _ _ _ _ (fun e=>by have e':g'=g:=(by simp only [Addr.mk.injEq] at e;exact e.1.symm);subst e';exact absurd (hB.kind hb) (by decide)),
  fun g' sz' i hb=>World.cell?_setCell_other _ _ _ _ (fun e=>by simp only [Addr.mk.injEq] at e;omega)⟩
theorem aQ.below {B:Nat} (h:aQ lo hi w w') (hB:B≤lo) (hw:B≤w.heap.size):Below B w w' :=
 ⟨h.os,h.tape,h.output,h.size,fun q hq=>h.far q (by omega) (Or.inl (by omega))⟩
theorem eW.mark (h:eW lo hi w g m) (k:aQ lo' hi' w w'):eW lo hi w' g m:=⟨h.1,h.2.1,k.blk _ _ _ h.2.2⟩
theorem d8.mark {B:List aq} (h:d8 lo hi w g B) (k:aQ lo' hi' w w'):d8 lo hi w' g B :=
 ⟨h.at1,h.at2,k.blk _ _ _ h.blk,fun i p hp=>by obtain ⟨e,c,b⟩:=h.runs i p hp;exact ⟨e,(k.ev _ _ _ h.blk).trans c,b.mark k⟩⟩
theorem cQ.mark (h:cQ lo hi w g V) (k:aQ lo' hi' w w'):cQ lo hi w' g V :=
 ⟨h.at1,h.at2,k.blk _ _ _ h.blk,fun i p hp=>by obtain ⟨e,c,b⟩:=h.levs i p hp;exact ⟨e,(k.sl _ _ _ h.blk).trans c,b.mark k⟩⟩
theorem eW.mono (h:eW lo hi w g m) (h1:lo'≤lo) (h2:hi≤hi'):eW lo' hi' w g m:=⟨Nat.le_trans h1 h.1,Nat.lt_of_lt_of_le h.2.1 h2,h.2.2⟩
theorem d8.mono {B:List aq} (h:d8 lo hi w g B) (h1:lo'≤lo) (h2:hi≤hi'):d8 lo' hi' w g B :=
 ⟨Nat.le_trans h1 h.at1,Nat.lt_of_lt_of_le h.at2 h2,h.blk,fun i p hp=>by obtain ⟨e,c,b⟩:=h.runs i p hp;exact ⟨e,c,b.mono h1 h2⟩⟩
theorem cQ.mono (h:cQ lo hi w g V) (h1:lo'≤lo) (h2:hi≤hi'):cQ lo' hi' w g V :=
 ⟨Nat.le_trans h1 h.at1,Nat.lt_of_lt_of_le h.at2 h2,h.blk,fun i p hp=>by obtain ⟨e,c,b⟩:=h.levs i p hp;exact ⟨e,c,b.mono h1 h2⟩⟩
def ew (B:List aq):Nat:=(B.map fun p=>5*p.1.length+1).sum
def cZ (V:List (List aq)):Nat:=(V.map ew).sum
theorem mW {B:List aq} {p:aq} (h:B[k]?=some p):ew (B.take (k+1))=ew (B.take k)+(5*p.1.length+1):=by
 rw [List.take_add_one,h];simp [ew]
theorem mV {B:List aq} (h:V[k]?=some B):cZ (V.take (k+1))=cZ (V.take k)+ew B:=by
 rw [List.take_add_one,h];simp [cZ]
theorem tA (B:List aq) (k:Nat):ew (B.take k)≤ew B:=by
 have h:ew B=ew (B.take k)+ew (B.drop k):=by
  conv=>lhs;rw [← List.take_append_drop k B]
  simp only [ew,List.map_append,List.sum_append]
 omega
theorem ty (V:List (List aq)) (k:Nat):cZ (V.take k)≤cZ V:=by
 have h:cZ V=cZ (V.take k)+cZ (V.drop k):=by
  conv=>lhs;rw [← List.take_append_drop k V]
  simp only [cZ,List.map_append,List.sum_append]
 omega
theorem iM (lo hi g m k:Nat) (w:World) (hE:eW lo hi w g m) (hcm:m≤1048576) (hk:1≤k) (hn:k+5*m≤1000000000) :
 Calls Tryz.prog 13 #[sL g m m,iT k] w fun e w'=>e=.returned (iT ((k+5*m:Nat):Int))∧aQ lo hi w w':=by
 obtain ⟨h1,h2,hB⟩:=hE;have HB0:Hid (aV w g 59 (m*5)):=hB;clear hB;go_enter Tryz.func13,Tryz.ntmps13
 go_wp2;go_loopw [1,5] (fun kv iv wr=>∃(j:Nat),j≤m∧iv=iT j∧kv=iT ((k+5*j:Nat):Int)∧aQ lo hi w wr) (fun _ iv _=>m - (intOf iv).toNat)
 case atStart=>exact ⟨0,Nat.zero_le _,rfl,rfl,aQ.refl _ _ _⟩
 case round =>
  obtain ⟨j,hj,rfl,rfl,hM⟩:=hrel;have HM:Hid (aQ lo hi w wr):=hM;clear hM;obtain ⟨K,hK⟩:=aw (k+5*j);have HK:Hid (K=k+5*j):=hK;rw [← hK];by_cases hlt:j<m
  · have hK1:1≤K:=by omega
    have hK2:K+5≤1000000000:=by omega
    have hltI:(j:Int)<(m:Int):=by omega
    clear hK;go_wp2_with fail
    refine (dV K _ hK1 (by omega)).mono ?_;rintro e w1 ⟨rfl,hb1⟩;have HM1:Hid (aQ lo hi w w1):=HM.out.trans (aQ.of_below hb1);have hbk:=HM1.out.blk _ _ _ HB0.out;obtain ⟨v0,c0⟩:=hbk.cell (o:=j*5) (by omega);obtain ⟨v1,c1⟩:=hbk.cell (o:=j*5+1) (by omega);obtain ⟨v2,c2⟩:=hbk.cell (o:=j*5+2) (by omega);have f0:=hbk.frozen (j*5);have f1:=hbk.frozen (j*5+1);have f2:=hbk.frozen (j*5+2);have hg1:=hbk.lt;have HBK:Hid (aV w1 g 59 (m*5)):=hbk;have CM:Hid (∀w,Calls Tryz.prog 31 #[iT ((K:Int)+1+1+1)] w fun e w'=>e=.returned (.string (dE (K+3)))∧Bl w w'):=by
     have e3:(K:Int)+1+1+1=((K+3:Nat):Int):=by omega
     rw [e3];exact fun w=>dV (K+3) w (by omega) (by omega)
    clear hb1 hbk;go_wp2_with fail
    obtain ⟨W1,hW1⟩:=aw ((((w1.setCell ⟨g,j*5,none⟩ (.string (dE K))).setCell ⟨g,j*5+1,none⟩ (iT ((K:Int)+1))).setCell ⟨g,j*5+2,none⟩ (iT ((K:Int)+1+1))));have HM2:Hid (aQ lo hi w W1):=by
     rw [hW1];exact ((HM1.out.trans (aQ.set _ HBK.out h1 h2 (by decide) (by decide))).trans (aQ.set _ (HBK.out.setCell _) h1 h2 (by decide) (by decide))).trans (aQ.set _ ((HBK.out.setCell _).setCell _) h1 h2 (by decide) (by decide))
    rw [← hW1];clear hW1 c0 c1 c2 f0 f1 f2;refine (CM.out _).mono ?_;rintro e w2 ⟨rfl,hb2⟩;have HM3:Hid (aQ lo hi w w2):=HM2.out.trans (aQ.of_below hb2);have hbk:=HM3.out.blk _ _ _ HB0.out;obtain ⟨v3,c3⟩:=hbk.cell (o:=j*5+3) (by omega);obtain ⟨v4,c4⟩:=hbk.cell (o:=j*5+4) (by omega);have f3:=hbk.frozen (j*5+3);have f4:=hbk.frozen (j*5+4);have hg2:=hbk.lt;have HBK3:Hid (aV w2 g 59 (m*5)):=hbk;clear hb2 hbk;go_wp2;go_roundw
    case rel =>
     refine ⟨j+1,by omega,by go_num,by have:=HK.out;go_num,?_⟩;exact (HM3.out.trans (aQ.set _ HBK3.out h1 h2 (by decide) (by decide))).trans (aQ.set _ (HBK3.out.setCell _) h1 h2 (by decide) (by decide))
    case measure=>simp [intOf];omega
  · have hltI:¬(j:Int)<(m:Int):=by omega
    have hjm:j=m:=by omega
    go_wp2;go_ret;exact ⟨by first | rfl | simp | (rw [hK,hjm]),HM.out⟩
theorem ru (lo hi g m k:Nat) (w:World) (h1:lo≤g) (h2:g<hi) (hB:aV w g 3 (m*1)) (hn:k+m≤1000000000) :
 Calls Tryz.prog 58 #[sL g m m,iT k] w fun e w'=>e=.returned (iT ((k+m:Nat):Int))∧aQ lo hi w w':=by
 have HB0:=ar hB;clear hB;go_enter Tryz.func58,Tryz.ntmps58
 go_wp2;go_loopw [1,5] (fun kv iv wr=>∃(j:Nat),j≤m∧iv=iT j∧kv=iT ((k+j:Nat):Int)∧aQ lo hi w wr) (fun _ iv _=>m - (intOf iv).toNat)
 case atStart=>exact ⟨0,Nat.zero_le _,rfl,rfl,aQ.refl _ _ _⟩
 case round =>
  obtain ⟨j,hj,rfl,rfl,hM⟩:=hrel;have HM:Hid (aQ lo hi w wr):=hM;have hbk:=hM.blk _ _ _ HB0.out;clear hM;obtain ⟨K,hK⟩:=aw (k+j);have HK:Hid (K=k+j):=hK;rw [← hK];have hK2:K≤1000000000:=by omega
  clear hK;by_cases hlt:j<m
  · have hltI:(j:Int)<(m:Int):=by omega
    obtain ⟨v0,c0⟩:=hbk.cell (o:=j) (by omega);have f0:=hbk.frozen j;have hg1:=hbk.lt;have HBK:Hid (aV wr g 3 (m*1)):=hbk;clear hbk;go_wp2;go_roundw
    case rel=>exact ⟨j+1,by omega,by go_num,by have:=HK.out;go_num,HM.out.trans (aQ.set _ HBK.out h1 h2 (by decide) (by decide))⟩
    case measure=>simp [intOf];omega
  · have hltI:¬(j:Int)<(m:Int):=by omega
    have HKN:Hid (K=k+m):=by have:=HK.out;show K=k+m;omega
    clear hbk;go_wp2;go_ret;exact ⟨by rw [HKN.out];first | rfl | simp,HM.out⟩
theorem rr (lo hi g n k:Nat) (B:List aq) (w:World) (hR:d8 lo hi w g B) (hln:B.length=n) (hcm:n≤1048576) (hsm:∀p ∈ B,p.1.length≤1048576) (hk:1≤k) (hn:k+ew B≤1000000000) :
 Calls Tryz.prog 99 #[sL g n n,iT k] w fun e w'=>e=.returned (iT ((k+ew B:Nat):Int))∧aQ lo hi w w':=by
 have h1:=hR.at1;have h2:=hR.at2;have HR0:=ar hR;have HLN:=ar hln;have HSM:=ar hsm;have HN:=ar hn;clear hR hsm hn hln;go_enter Tryz.func99,Tryz.ntmps99
 go_wp2;go_loopw [1,5] (fun kv iv wr=>∃(j K:Nat),j≤n∧iv=iT j∧kv=iT (K:Int)∧K=k+ew (B.take j)∧aQ lo hi w wr) (fun _ iv _=>n - (intOf iv).toNat)
 case atStart=>exact ⟨0,k,Nat.zero_le _,rfl,rfl,by simp [ew],aQ.refl _ _ _⟩
 case round =>
  obtain ⟨j,K,hj,rfl,rfl,hK,hM⟩:=hrel;have HM:Hid (aQ lo hi w wr):=hM;have hR:=HR0.out.mark hM;have HK:Hid (K=k+ew (B.take j)):=hK;clear hK hM;by_cases hlt:j<n
  · have hltI:(j:Int)<(n:Int):=by omega
    obtain ⟨p,hp⟩:∃p,B[j]?=some p:=⟨_,List.getElem?_eq_getElem (by rw [HLN.out];exact hlt)⟩;obtain ⟨e,c0,hE⟩:=hR.runs j p hp;have hsp:=HSM.out p (List.mem_of_getElem? hp);have HNX:Hid (ew (B.take (j+1))=ew (B.take j)+(5*p.1.length+1)):=mW hp;have hle:K+5*p.1.length+1≤1000000000:=by
     have a1:=tA B (j+1);have a2:=HNX.out;have a3:=HN.out;have a4:=HK.out;omega
    have hk1:1≤K:=by have:=HK.out;omega
    obtain ⟨m,hm⟩:∃m,p.1.length=m:=⟨_,rfl⟩;have HMM:Hid (p.1.length=m):=hm;rw [hm] at c0 hE hsp hle;have hgw:=hR.blk.lt;have HE:Hid (eW lo hi wr e m):=hE;clear hm hE hp hR;go_wp2_with fail
    refine (iM lo hi e m K wr HE.out hsp hk1 (by omega)).mono ?_;rintro e' w1 ⟨rfl,hM1⟩;have HM1:Hid (aQ lo hi w w1):=HM.out.trans hM1;have hR1:=HR0.out.mark HM1.out;have hbk:=hR1.blk;rw [HLN.out] at hbk;obtain ⟨v1,c1⟩:=hbk.cell (o:=j*2+1) (by omega);have f1:=hbk.frozen (j*2+1);have hg1:=hbk.lt;have HBK:Hid (aV w1 g 119 (n*2)):=hbk;obtain ⟨K1,hK1⟩:∃K1:Nat,K1=K+5*m:=⟨_,rfl⟩;have HK1:Hid (K1=K+5*m):=hK1;rw [← hK1];have hK1b:K1≤1000000000:=by omega
    clear hbk hR1 hM1 hK1 c0;go_wp2;go_roundw
    case rel =>
     refine ⟨j+1,K1+1,by omega,by go_num,by go_num,?_,HM1.out.trans (aQ.setOdd _ HBK.out h1 h2)⟩;have a1:=HNX.out;have a2:=HK.out;have a3:=HK1.out;have a4:=HMM.out;omega
    case measure=>simp [intOf];omega
  · have hltI:¬(j:Int)<(n:Int):=by omega
    have HKN:Hid (K=k+ew B):=by
     have:=HK.out;rw [List.take_of_length_le (by rw [HLN.out];omega)] at this;exact this
    clear hR;go_wp2;go_ret;exact ⟨by have e:=HKN.out;first | rfl | (subst e;rfl) | (rw [e];simp) | (simp [e]),HM.out⟩
theorem lN (lo hi g n k:Nat) (V:List (List aq)) (w:World) (hR:cQ lo hi w g V) (hln:V.length=n) (hcm:n≤1048576) (hsm:∀B ∈ V,B.length≤1048576∧∀p ∈ B,p.1.length≤1048576) (hk:1≤k) (hn:k+cZ V≤1000000000) :
 Calls Tryz.prog 57 #[sL g n n,iT k] w fun e w'=>e=.returned (iT ((k+cZ V:Nat):Int))∧aQ lo hi w w':=by
 have HR0:=ar hR;have HLN:=ar hln;have HSM:=ar hsm;have HN:=ar hn;clear hR hsm hn hln;go_enter Tryz.func57,Tryz.ntmps57
 go_wp2;go_loopw [1,5] (fun kv iv wr=>∃(j K:Nat),j≤n∧iv=iT j∧kv=iT (K:Int)∧K=k+cZ (V.take j)∧aQ lo hi w wr) (fun _ iv _=>n - (intOf iv).toNat)
 case atStart=>exact ⟨0,k,Nat.zero_le _,rfl,rfl,by simp [cZ],aQ.refl _ _ _⟩
 case round =>
  obtain ⟨j,K,hj,rfl,rfl,hK,hM⟩:=hrel;have HM:Hid (aQ lo hi w wr):=hM;have hR:=HR0.out.mark hM;have HK:Hid (K=k+cZ (V.take j)):=hK;clear hK hM;by_cases hlt:j<n
  · have hltI:(j:Int)<(n:Int):=by omega
    obtain ⟨B,hp⟩:∃B,V[j]?=some B:=⟨_,List.getElem?_eq_getElem (by rw [HLN.out];exact hlt)⟩;obtain ⟨e,c0,hE⟩:=hR.levs j B hp;have hsp:=HSM.out B (List.mem_of_getElem? hp);have HNX:Hid (cZ (V.take (j+1))=cZ (V.take j)+ew B):=mV hp;have hle:K+ew B≤1000000000:=by
     have a1:=ty V (j+1);have a2:=HNX.out;have a3:=HN.out;have a4:=HK.out;omega
    have hk1:1≤K:=by have:=HK.out;omega
    obtain ⟨m,hm⟩:∃m,B.length=m:=⟨_,rfl⟩;rw [hm] at c0 hsp;have CM:Hid (Calls Tryz.prog 99 #[sL e m m,iT (K:Int)] wr fun e w'=>e=.returned (iT ((K+ew B:Nat):Int))∧aQ lo hi wr w'):=rr lo hi e m K B wr hE hm hsp.1 hsp.2 hk1 hle;obtain ⟨hsp,_⟩:=hsp;have hgw:=hR.blk.lt;clear hm hE hp hR;obtain ⟨K1,hK1⟩:∃K1:Nat,K1=K+ew B:=⟨_,rfl⟩;have HK1:Hid (K1=K+ew B):=hK1;rw [← hK1] at CM;have hK1b:K1≤1000000000:=by omega
    clear hK1 hle;go_wp2_with fail
    refine CM.out.mono ?_;rintro e' w1 ⟨rfl,hM1⟩;have HM1:Hid (aQ lo hi w w1):=HM.out.trans hM1;clear hM1 c0;go_wp2;go_roundw
    case rel =>
     refine ⟨j+1,K1,by omega,by go_num,rfl,?_,HM1.out⟩;have a1:=HNX.out;have a2:=HK.out;have a3:=HK1.out;omega
    case measure=>simp [intOf];omega
  · have hltI:¬(j:Int)<(n:Int):=by omega
    have HKN:Hid (K=k+cZ V):=by
     have:=HK.out;rw [List.take_of_length_le (by rw [HLN.out];omega)] at this;exact this
    clear hR;go_wp2;go_ret;exact ⟨by have e:=HKN.out;first | rfl | (subst e;rfl) | (rw [e];simp) | (simp [e]),HM.out⟩
end
theorem ay {R:Nat} (hg:w.grownBy w' (some R)) {x:Addr} (hx:x.block<w.heap.size) (hn:x.block≠R):w'.cell? x=w.cell? x :=
 World.cell?_of_block (hg.block x.block hx (fun e=>hn (by cases e;rfl)))
theorem lS {R:Option Nat} (h:Bl w w'):w.grownBy w' R:=⟨h.os,h.tape,h.output,h.size,fun k hk _=>h.block k hk⟩
end Go.Proofs.YtehiefdphnljaaaGreatDoor
namespace Go.Proofs.YtehiefdphnljaaaGreatDoor
open Go.RowKit
structure cD (w:World) (X:Nat) (v0 v1 v2 v3 v4:Value):Prop where
 c0:w.cell? ⟨X,0,none⟩=some v0
 c1:w.cell? ⟨X,1,none⟩=some v1
 c2:w.cell? ⟨X,2,none⟩=some v2
 c3:w.cell? ⟨X,3,none⟩=some v3
 c4:w.cell? ⟨X,4,none⟩=some v4
 fr:∀o,w.frozen? ⟨X,o,none⟩=false
theorem cD.lt {w:World} {X:Nat} {v0 v1 v2 v3 v4:Value} (h:cD w X v0 v1 v2 v3 v4):X<w.heap.size:=World.block_lt_of_cell? _ _ h.c0
theorem cD.new (w:World) (T:TypeId) (v0 v1 v2 v3 v4:Value):cD (w.alloc (.cells #[v0,v1,v2,v3,v4] T)) w.heap.size v0 v1 v2 v3 v4 :=
 ⟨by simp,by simp,by simp,by simp,by simp,fun o=>World.frozen?_alloc_new w _ _ o⟩
theorem cD.below {w w':World} {X:Nat} {v0 v1 v2 v3 v4:Value} (h:cD w X v0 v1 v2 v3 v4) (hb:Bl w w'):cD w' X v0 v1 v2 v3 v4 :=
 ⟨cell_later hb h.c0,cell_later hb h.c1,cell_later hb h.c2,cell_later hb h.c3,cell_later hb h.c4,fun o=>(hb.frozen (p:=⟨X,o,none⟩) h.lt).trans (h.fr o)⟩
theorem cD.alloc {w:World} {X:Nat} {v0 v1 v2 v3 v4:Value} (h:cD w X v0 v1 v2 v3 v4) (o:Obj):cD (w.alloc o) X v0 v1 v2 v3 v4:=h.below bZ
theorem cD.grown {w w':World} {X R:Nat} {v0 v1 v2 v3 v4:Value} (h:cD w X v0 v1 v2 v3 v4) (hg:w.grownBy w' (some R)) (hn:X≠R):cD w' X v0 v1 v2 v3 v4 :=
 ⟨(ay hg (x:=⟨X,0,none⟩) h.lt hn).trans h.c0,(ay hg (x:=⟨X,1,none⟩) h.lt hn).trans h.c1,(ay hg (x:=⟨X,2,none⟩) h.lt hn).trans h.c2,(ay hg (x:=⟨X,3,none⟩) h.lt hn).trans h.c3,(ay hg (x:=⟨X,4,none⟩) h.lt hn).trans h.c4,fun o=>(World.frozen?_of_block (hg.block X h.lt (fun e=>hn (by cases e;rfl)))).trans (h.fr o)⟩
theorem cD.other {w:World} {X Y:Nat} {v0 v1 v2 v3 v4:Value} (h:cD w X v0 v1 v2 v3 v4) (hn:X≠Y) (o:Nat) (v:Value):cD (w.setCell ⟨Y,o,none⟩ v) X v0 v1 v2 v3 v4:=by
 have ne:∀i,(⟨Y,o,none⟩:Addr)≠⟨X,i,none⟩:=fun i e=>hn (congrArg Addr.block e).symm
 exact ⟨by rw [World.cell?_setCell_other _ _ _ _ (ne 0)];exact h.c0,by rw [World.cell?_setCell_other _ _ _ _ (ne 1)];exact h.c1,by rw [World.cell?_setCell_other _ _ _ _ (ne 2)];exact h.c2,by rw [World.cell?_setCell_other _ _ _ _ (ne 3)];exact h.c3,by rw [World.cell?_setCell_other _ _ _ _ (ne 4)];exact h.c4,fun o'=>by rw [World.frozen?_setCell];exact h.fr o'⟩
theorem cD.set0 {w:World} {X:Nat} {v0 v1 v2 v3 v4:Value} (h:cD w X v0 v1 v2 v3 v4) (v:Value):cD (w.setCell ⟨X,0,none⟩ v) X v v1 v2 v3 v4:=by
 refine ⟨World.cell?_setCell_same' _ _ _ (by rw [h.c0];rfl),?_,?_,?_,?_,fun o'=>by rw [World.frozen?_setCell];exact h.fr o'⟩
 · rw [World.cell?_setCell_other _ _ _ _ (by simp)];exact h.c1
 · rw [World.cell?_setCell_other _ _ _ _ (by simp)];exact h.c2
 · rw [World.cell?_setCell_other _ _ _ _ (by simp)];exact h.c3
 · rw [World.cell?_setCell_other _ _ _ _ (by simp)];exact h.c4
theorem cD.set1 {w:World} {X:Nat} {v0 v1 v2 v3 v4:Value} (h:cD w X v0 v1 v2 v3 v4) (v:Value):cD (w.setCell ⟨X,1,none⟩ v) X v0 v v2 v3 v4:=by
 refine ⟨?_,World.cell?_setCell_same' _ _ _ (by rw [h.c1];rfl),?_,?_,?_,fun o'=>by rw [World.frozen?_setCell];exact h.fr o'⟩
 · rw [World.cell?_setCell_other _ _ _ _ (by simp)];exact h.c0
 · rw [World.cell?_setCell_other _ _ _ _ (by simp)];exact h.c2
 · rw [World.cell?_setCell_other _ _ _ _ (by simp)];exact h.c3
 · rw [World.cell?_setCell_other _ _ _ _ (by simp)];exact h.c4
theorem cD.set2 {w:World} {X:Nat} {v0 v1 v2 v3 v4:Value} (h:cD w X v0 v1 v2 v3 v4) (v:Value):cD (w.setCell ⟨X,2,none⟩ v) X v0 v1 v v3 v4:=by
 refine ⟨?_,?_,World.cell?_setCell_same' _ _ _ (by rw [h.c2];rfl),?_,?_,fun o'=>by rw [World.frozen?_setCell];exact h.fr o'⟩
 · rw [World.cell?_setCell_other _ _ _ _ (by simp)];exact h.c0
 · rw [World.cell?_setCell_other _ _ _ _ (by simp)];exact h.c1
 · rw [World.cell?_setCell_other _ _ _ _ (by simp)];exact h.c3
 · rw [World.cell?_setCell_other _ _ _ _ (by simp)];exact h.c4
theorem cD.set3 {w:World} {X:Nat} {v0 v1 v2 v3 v4:Value} (h:cD w X v0 v1 v2 v3 v4) (v:Value):cD (w.setCell ⟨X,3,none⟩ v) X v0 v1 v2 v v4:=by
 refine ⟨?_,?_,?_,World.cell?_setCell_same' _ _ _ (by rw [h.c3];rfl),?_,fun o'=>by rw [World.frozen?_setCell];exact h.fr o'⟩
 · rw [World.cell?_setCell_other _ _ _ _ (by simp)];exact h.c0
 · rw [World.cell?_setCell_other _ _ _ _ (by simp)];exact h.c1
 · rw [World.cell?_setCell_other _ _ _ _ (by simp)];exact h.c2
 · rw [World.cell?_setCell_other _ _ _ _ (by simp)];exact h.c4
theorem cD.set4 {w:World} {X:Nat} {v0 v1 v2 v3 v4:Value} (h:cD w X v0 v1 v2 v3 v4) (v:Value):cD (w.setCell ⟨X,4,none⟩ v) X v0 v1 v2 v3 v:=by
 refine ⟨?_,?_,?_,?_,World.cell?_setCell_same' _ _ _ (by rw [h.c4];rfl),fun o'=>by rw [World.frozen?_setCell];exact h.fr o'⟩
 · rw [World.cell?_setCell_other _ _ _ _ (by simp)];exact h.c0
 · rw [World.cell?_setCell_other _ _ _ _ (by simp)];exact h.c1
 · rw [World.cell?_setCell_other _ _ _ _ (by simp)];exact h.c2
 · rw [World.cell?_setCell_other _ _ _ _ (by simp)];exact h.c3
theorem cD.setAll {w:World} {X:Nat} {v0 v1 v2 v3 v4:Value} (h:cD w X v0 v1 v2 v3 v4) (u0 u1 u2 u3 u4:Value):cD (((((w.setCell ⟨X,0,none⟩ u0).setCell ⟨X,1,none⟩ u1).setCell ⟨X,2,none⟩ u2).setCell ⟨X,3,none⟩ u3).setCell ⟨X,4,none⟩ u4) X u0 u1 u2 u3 u4 :=
 ((((h.set0 u0).set1 u1).set2 u2).set3 u3).set4 u4
end Go.Proofs.YtehiefdphnljaaaGreatDoor
namespace Go.Proofs.YtehiefdphnljaaaGreatDoor
open Go.RowKit
end Go.Proofs.YtehiefdphnljaaaGreatDoor
