/- Walks. -/
import Derived.Test.YtpobkmjicbobdaaGreatBn30
import Derived.Test.YtpobkmjicbobdaaGreatBn31
import Derived.Test.YtpobkmjicbobdaaGreatBn32
import Derived.Test.YtpobkmjicbobdaaGreatBn36
namespace Go.Proofs.YtpobkmjicbobdaaGreat
set_option maxRecDepth 100000
set_option maxHeartbeats 40000000
open Go.RowKit
variable {P X cap fuel i len lo n:Nat} {q:Int} {v:Value} {w w':World}
section
section
variable {P:Program} {ops:Array Oper} {Q:Exit→Act→World→Prop} {md:Region.Mode} {S:World→Prop} {z:Nat}
def dU (P:Program) (md:Region.Mode) (ops:Array Oper) (Q:Exit→Act→World→Prop) (S:World→Prop) (z:Nat):Nat→Array Bool→Act→World→Prop
 | 0,listed,a,w=>Region.ready md ops listed=[]∧Q .normal a w
 | fuel+1,listed,a,w =>
  (Region.ready md ops listed=[]→Q .normal a w) ∧
  ∀i ∈ Region.ready md ops listed,wpOp P ops Q i (fun a' w'=>((listed.setIfInBounds i true).getD z false=true∨S w')∧dU P md ops Q S z fuel (listed.setIfInBounds i true) a' w') a w
theorem nE:∀(fuel:Nat) (listed:Array Bool) (a:Act) (w:World),dU P md ops Q S z fuel listed a w→wpAny P md ops Q fuel listed a w
 | 0,_,_,_,h=>h
 | fuel+1,_,_,_,h=>⟨h.1,fun i hi=>wpOp_mono (fun a' w' h'=>nE fuel _ a' w' h'.2) (h.2 i hi)⟩
def tO (md:Region.Mode) (ops:Array Oper) (listed:Array Bool) (i z:Nat) (D:List Nat):Prop :=
 z ∈ D∧i ∉ D∧∀d ∈ D,listed.getD d true=false∧∃o,ops[d]?=some o∧∃e ∈ o.after,Region.binds md e=true∧(e.on=i∨e.on ∈ D)
theorem ln {listed:Array Bool} (h:listed.getD i true=false):listed.getD i false=false:=by
 rcases Nat.lt_or_ge i listed.size with h' | h'
 · simp [h'] at h ⊢;exact h
 · simp [Array.getElem?_eq_none h'] at h
theorem tO.not_ready {listed:Array Bool} {D:List Nat} (h:tO md ops listed i z D) (hi:listed.getD i true=false) {d:Nat} (hd:d ∈ D):d ∉ Region.ready md ops listed:=fun hr=>by
 obtain ⟨_,o,ho,e,he,hb,hon⟩:=h.2.2 d hd
 obtain ⟨_,o',ho',hall⟩:=mem_ready.1 hr
 rw [ho] at ho'
 cases ho'
 have h1:=hall e he hb
 rcases hon with hon | hon
 · rw [hon,ln hi] at h1;cases h1
 · rw [ln (h.2.2 _ hon).1] at h1;cases h1
theorem qW {oi:Oper} {D:List Nat} (hi:ops[i]?=some oi) (hsel:∀(j:Nat) (o:Oper) cs b,ops[j]?=some o→o.op≠.select cs b)
 (hQ:∀c a w,Q (.panic c) (a.put oi.dst v) w→Q (.panic c) a w) :
 ∀(fuel:Nat) (listed:Array Bool) (a:Act) (w:World),
  (∀j oj,ops[j]?=some oj→j≠i→listed.getD j true=false→(∀e ∈ oj.after,Region.binds md e=true→e.on≠i)→oi.apart ops oj=true) →
  tO md ops listed i z D→i ∈ Region.ready md ops listed→YieldsIf P ops S oi v a→S w →
  dU P md ops Q S z fuel (listed.setIfInBounds i true) (a.put oi.dst v) w→dU P md ops Q S z (fuel+1) listed a w:=by
 intro fuel;induction fuel with
 | zero =>
  intro listed a w _ _ hr hy hS H;refine ⟨fun h=>(by rw [h] at hr;cases hr),fun j hj=>?_⟩;by_cases hji:j=i
  · subst hji;exact hy.wpOp hi hS ⟨.inr hS,H⟩
  · have:=ready_mono hj hji;rw [H.1] at this;cases this
 | succ fuel ih =>
  intro listed a w hfree hD hr hy hS H;refine ⟨fun h=>(by rw [h] at hr;cases hr),fun j hj=>?_⟩;by_cases hji:j=i
  · subst hji;exact hy.wpOp hi hS ⟨.inr hS,H⟩
  · have h1:=H.2 j (ready_mono hj hji);obtain ⟨hjun,oj,hoj,hall⟩:=mem_ready.1 hj;have hiun:=(mem_ready.1 hr).1;have hnot:∀e ∈ oj.after,Region.binds md e=true→e.on≠i:=fun e he hb heq=>by
     have h1:=hall e he hb;rw [heq,ln hiun] at h1;cases h1
    have h2:=wpOp_putIf hoj (hfree j oj hoj hji hjun hnot) (fun cs b=>hsel i oi cs b hi) (fun cs b=>hsel j oj cs b hoj) hQ hy h1;have hfree':∀k ok,ops[k]?=some ok→k≠i→(listed.setIfInBounds j true).getD k true=false →
     (∀e ∈ ok.after,Region.binds md e=true→e.on≠i)→oi.apart ops ok=true:=fun k ok hk hki hun hno=>by
     refine hfree k ok hk hki ?_ hno;by_cases hjk:j=k
     · subst hjk;exact hjun
     · rw [getD_set_ne true hjk] at hun;exact hun
    have hjD:∀d ∈ D,j≠d:=fun d hd e=>hD.not_ready hiun hd (e ▸ hj)
    have hD':tO md ops (listed.setIfInBounds j true) i z D:=⟨hD.1,hD.2.1,fun d hd=>⟨by rw [getD_set_ne true (hjD d hd)];exact (hD.2.2 d hd).1,(hD.2.2 d hd).2⟩⟩;have hS':∀{w':World},(((listed.setIfInBounds i true).setIfInBounds j true).getD z false=true∨S w')→S w':=fun {w'} h=>by
     rcases h with h | h
     · rw [getD_set_ne false (hjD z hD.1),getD_set_ne false (fun e:i=z=>hD.2.1 (by rw [e];exact hD.1)),ln (hD.2.2 z hD.1).1] at h;cases h
     · exact h
    refine wpOp_mono (fun a' w' h3=>⟨.inr (hS' h3.2.1),ih (listed.setIfInBounds j true) a' w' hfree' hD' (ready_mono hr (Ne.symm hji)) h3.1 (hS' h3.2.1) ?_⟩) h2;rw [Array.setIfInBounds_comm _ _ hji];exact h3.2.2
theorem tU {oi:Oper} (hi:ops[i]?=some oi) (hsel:∀(j:Nat) (o:Oper) cs b,ops[j]?=some o→o.op≠.select cs b)
 (hQ:∀c a w,Q (.panic c) (a.put oi.dst v) w→Q (.panic c) a w) (hiz:i≠z) :
 ∀(fuel:Nat) (listed:Array Bool) (a:Act) (w:World),
  (∀j oj,ops[j]?=some oj→j≠i→listed.getD j true=false→(∀e ∈ oj.after,Region.binds md e=true→e.on≠i)→oi.apart ops oj=true) →
  i ∈ Region.ready md ops listed→YieldsIf P ops (fun _=>True) oi v a→(listed.getD z false=true∨S w) →
  dU P md ops Q S z fuel (listed.setIfInBounds i true) (a.put oi.dst v) w→dU P md ops Q S z (fuel+1) listed a w:=by
 intro fuel;induction fuel with
 | zero =>
  intro listed a w _ hr hy hS H;refine ⟨fun h=>(by rw [h] at hr;cases hr),fun j hj=>?_⟩;by_cases hji:j=i
  · subst hji;exact hy.wpOp hi trivial ⟨by rw [getD_set_ne false hiz];exact hS,H⟩
  · have:=ready_mono hj hji;rw [H.1] at this;cases this
 | succ fuel ih =>
  intro listed a w hfree hr hy hS H;refine ⟨fun h=>(by rw [h] at hr;cases hr),fun j hj=>?_⟩;by_cases hji:j=i
  · subst hji;exact hy.wpOp hi trivial ⟨by rw [getD_set_ne false hiz];exact hS,H⟩
  · have h1:=H.2 j (ready_mono hj hji);obtain ⟨hjun,oj,hoj,hall⟩:=mem_ready.1 hj;have hiun:=(mem_ready.1 hr).1;have hnot:∀e ∈ oj.after,Region.binds md e=true→e.on≠i:=fun e he hb heq=>by
     have h1:=hall e he hb;rw [heq,ln hiun] at h1;cases h1
    have h2:=wpOp_putIf hoj (hfree j oj hoj hji hjun hnot) (fun cs b=>hsel i oi cs b hi) (fun cs b=>hsel j oj cs b hoj) hQ hy h1;have hfree':∀k ok,ops[k]?=some ok→k≠i→(listed.setIfInBounds j true).getD k true=false →
     (∀e ∈ ok.after,Region.binds md e=true→e.on≠i)→oi.apart ops ok=true:=fun k ok hk hki hun hno=>by
     refine hfree k ok hk hki ?_ hno;by_cases hjk:j=k
     · subst hjk;exact hjun
     · rw [getD_set_ne true hjk] at hun;exact hun
    have hS':∀{w':World},(((listed.setIfInBounds i true).setIfInBounds j true).getD z false=true∨S w')→((listed.setIfInBounds j true).getD z false=true∨S w'):=fun {w'} h=>by
     rw [Array.setIfInBounds_comm _ _ (Ne.symm hji),getD_set_ne false hiz] at h;exact h
    refine wpOp_mono (fun a' w' h3=>⟨hS' h3.2.1,ih (listed.setIfInBounds j true) a' w' hfree' (ready_mono hr (Ne.symm hji)) h3.1 (hS' h3.2.1) ?_⟩) h2;rw [Array.setIfInBounds_comm _ _ hji];exact h3.2.2
def vc (md:Region.Mode) (ops:Array Oper) (i:Nat):List Nat :=
 (List.range ops.size).foldl (fun acc j=>match ops[j]? with
  | some o=>if o.after.any (fun e=>Region.binds md e && (e.on == i || acc.contains e.on)) then acc++[j] else acc
  | none=>acc) []
def qX (md:Region.Mode) (ops:Array Oper) (listed:Array Bool) (i z:Nat) (D:List Nat):Bool :=
 D.contains z && !D.contains i && D.all fun d=>!listed.getD d true && match ops[d]? with
  | some o=>o.after.any (fun e=>Region.binds md e && (e.on == i || D.contains e.on))
  | none=>false
theorem ye {listed:Array Bool} {D:List Nat} (h:qX md ops listed i z D=true):tO md ops listed i z D:=by
 unfold qX at h;simp only [Bool.and_eq_true,List.all_eq_true,Bool.not_eq_true',List.contains_eq_mem,decide_eq_true_eq,decide_eq_false_iff_not] at h;refine ⟨h.1.1,h.1.2,fun d hd=>?_⟩;obtain ⟨h1,h2⟩:=h.2 d hd;refine ⟨h1,?_⟩;cases ho:ops[d]? with
 | none=>rw [ho] at h2;cases h2
 | some o =>
  rw [ho] at h2;obtain ⟨e,he,hb⟩:=Array.any_eq_true'.1 h2;simp only [Bool.and_eq_true,Bool.or_eq_true,beq_iff_eq,decide_eq_true_eq] at hb;exact ⟨o,rfl,e,he,hb.1,hb.2⟩
end
def qT (P:Program) (md:Region.Mode) (l:List Oper) (Q:Exit→Act→World→Prop) (S:World→Prop) (z fuel:Nat) (w:World):Nat→Nat→Array Bool→Act→Prop
 | 0,_,listed,a=>dU P md l.toArray Q S z fuel listed a w
 | n+1,i,listed,a=>∃oi v,(l[i]?=some oi∧Region.noSelect l.toArray=true∧Region.free md l.toArray listed i=true∧(Region.ready md l.toArray listed).contains i=true∧qX md l.toArray listed i z (vc md l.toArray i)=true)∧(∀c a w,Q (.panic c) (a.put oi.dst v) w→Q (.panic c) a w)∧YieldsIf P l.toArray S oi v a∧qT P md l Q S z fuel w n (i+1) (listed.setIfInBounds i true) (a.put oi.dst v)
theorem tz0 {P:Program} {md:Region.Mode} {l:List Oper} {Q:Exit→Act→World→Prop} {S:World→Prop} {z:Nat} {listed:Array Bool} {a:Act} (h:dU P md l.toArray Q S z fuel listed a w):qT P md l Q S z fuel w 0 i listed a:=h
theorem Cr {P:Program} {md:Region.Mode} {l:List Oper} {Q:Exit→Act→World→Prop} {S:World→Prop} {z:Nat} {listed:Array Bool} {a:Act} {oi:Oper} (hi:l[i]?=some oi) (hs:Region.noSelect l.toArray=true) (hf:Region.free md l.toArray listed i=true) (hr:(Region.ready md l.toArray listed).contains i=true) (hz:qX md l.toArray listed i z (vc md l.toArray i)=true)
 (hQ:∀c a w,Q (.panic c) (a.put oi.dst v) w→Q (.panic c) a w) (hy:YieldsIf P l.toArray S oi v a) (h:qT P md l Q S z fuel w n (i+1) (listed.setIfInBounds i true) (a.put oi.dst v)):qT P md l Q S z fuel w (n+1) i listed a:=⟨oi,v,⟨hi,hs,hf,hr,hz⟩,hQ,hy,h⟩
theorem Cq {P:Program} {md:Region.Mode} {l:List Oper} {Q:Exit→Act→World→Prop} {S:World→Prop} {z fuel:Nat} {w:World} (hS:S w):∀(n i:Nat) (listed:Array Bool) (a:Act),qT P md l Q S z fuel w n i listed a→dU P md l.toArray Q S z (fuel+n) listed a w
 | 0,_,_,_,h=>h
 | n+1,_,_,_,⟨_,_,⟨hi,hs,hf,hr,hz⟩,hQ,hy,h⟩=>qW (by simpa using hi) (Region.noSelect_spec hs) hQ _ _ _ _ (Region.free_spec (by simpa using hi) hf) (ye hz) (by simpa using hr) hy hS (Cq hS n _ _ _ h)
theorem r9 {P:Program} {md:Region.Mode} {l:List Oper} {Q:Exit→Act→World→Prop} {S:World→Prop} {z:Nat} (i n:Nat) {listed:Array Bool} {a:Act} {g:Prop} (hS:S w) (h:g)
 (e:g→qT P md l Q S z fuel w n i listed a:=by
  (intro hg;repeat (first | exact tz0 hg | ((refine Cr (v:=?_) rfl (by kernel_rfl) (by kernel_rfl) (by kernel_rfl) (by kernel_rfl) (fun _ _ _ h=>h) (Or.inl ⟨by rfl,?_⟩) ?_;rotate_left;· (intro w hSw;(try dsimp only at hSw);go_simp;try with_reducible rfl));try simp only [Act.put,List.setIfInBounds_toArray,List.set_cons_succ,List.set_cons_zero]) | (refine Cr (v:=undef) rfl (by kernel_rfl) (by kernel_rfl) (by kernel_rfl) (by kernel_rfl) (fun _ _ _ h=>h) (Or.inr ⟨by rfl,rfl⟩) ?_;try simp only [Act.put,List.setIfInBounds_toArray,List.set_cons_succ,List.set_cons_zero])))):dU P md l.toArray Q S z (fuel+n) listed a w:=Cq hS n i listed a (e h)
theorem B9 {P:Program} {md:Region.Mode} {l:List Oper} {Q:Exit→Act→World→Prop} {S:World→Prop} {z:Nat} (i:Nat) {listed:Array Bool} {a:Act} {oi:Oper} {v:Value} (hS:S w) (h:dU P md l.toArray Q S z fuel (listed.setIfInBounds i true) (a.put oi.dst v) w)
 (hi:l[i]?=some oi:=by exact rfl) (hy:YieldsIf P l.toArray (fun _=>True) oi v a:=by (refine Or.inl ⟨by rfl,?_⟩;intro w _;go_simp;try with_reducible rfl)) (hs:Region.noSelect l.toArray=true:=by kernel_rfl) (hf:Region.free md l.toArray listed i=true:=by kernel_rfl) (hr:(Region.ready md l.toArray listed).contains i=true:=by kernel_rfl) (hiz:i≠z:=by decide)
 (hQ:∀c a w,Q (.panic c) (a.put oi.dst v) w→Q (.panic c) a w:=by exact fun _ _ _ h=>h):dU P md l.toArray Q S z (fuel+1) listed a w:=tU (by simpa using hi) (Region.noSelect_spec hs) hQ hiz _ _ _ _ (Region.free_spec (by simpa using hi) hf) (by simpa using hr) hy (.inr hS) h
def jE (P:Program) (md:Region.Mode) (ops:Array Oper) (Q:Exit→Act→World→Prop) (S:World→Prop) (z fuel:Nat) (listed:Array Bool) (a:Act) (w:World) (rs:List Nat):Prop :=
 ∀i ∈ rs,wpOp P ops Q i (fun a' w'=>((listed.setIfInBounds i true).getD z false=true∨S w')∧dU P md ops Q S z fuel (listed.setIfInBounds i true) a' w') a w
theorem zW {P:Program} {md:Region.Mode} {ops:Array Oper} {Q:Exit→Act→World→Prop} {S:World→Prop} {z:Nat} {listed:Array Bool} {a:Act}:jE P md ops Q S z fuel listed a w []:=fun _ h=>by cases h
theorem BG {P:Program} {l:List Oper} {Q:Exit→Act→World→Prop} {md:Region.Mode} {S:World→Prop} {z:Nat} {listed:Array Bool} {a:Act} {o:Oper} {rs:List Nat} (ho:l[i]?=some o)
 (h:∀K':Act→World→Prop,Shut (∀a w,S w→(S w→dU P md l.toArray Q S z fuel (listed.setIfInBounds i true) a w)→K' a w)→if Region.wanted o (yielded l.toArray a.tmps)=true then Oper.wp P o a w K' Q else K' (a.put o.dst undef) w)
 (hs:jE P md l.toArray Q S z fuel listed a w rs):jE P md l.toArray Q S z fuel listed a w (i :: rs):=fun j hj=>by
 rcases List.mem_cons.1 hj with rfl | hj
 · exact wpOp_step (by simpa using ho) (fun K' hK=>h K' (fun a w hS hW=>hK a w ⟨.inr hS,hW hS⟩))
 · exact hs j hj
theorem yL {P:Program} {l:List Oper} {Q:Exit→Act→World→Prop} {md:Region.Mode} {S:World→Prop} {z:Nat} {listed:Array Bool} {a:Act} {rs:List Nat} (hr:Region.ready md l.toArray listed=rs) (hne:rs≠[]) (h:jE P md l.toArray Q S z fuel listed a w rs):dU P md l.toArray Q S z (fuel+1) listed a w :=
 ⟨fun h0=>absurd (hr ▸ h0) hne,hr ▸ h⟩
theorem pS {P:Program} {l:List Oper} {Q:Exit→Act→World→Prop} {md:Region.Mode} {S:World→Prop} {z:Nat} (i:Nat) {o:Oper} {fuel:Nat} {listed:Array Bool} {a:Act} {w:World}
 (h:∀K':Act→World→Prop,Shut (∀a w,S w→(S w→dU P md l.toArray Q S z fuel (listed.setIfInBounds i true) a w)→K' a w)→if Region.wanted o (yielded l.toArray a.tmps)=true then Oper.wp P o a w K' Q else K' (a.put o.dst undef) w)
 (ho:l[i]?=some o:=by exact rfl) (hr:Region.ready md l.toArray listed=[i]:=by kernel_rfl):dU P md l.toArray Q S z (fuel+1) listed a w:=yL hr (by simp) (BG ho h zW)
theorem A7 {P:Program} {l:List Oper} {Q:Exit→Act→World→Prop} {md:Region.Mode} {S:World→Prop} {z:Nat} (i:Nat) {o:Oper} {fuel:Nat} {listed:Array Bool} {a:Act} {w:World}
 (h:∀K':Act→World→Prop,Shut (∀a w,dU P md l.toArray Q S z fuel (listed.setIfInBounds i true) a w→K' a w)→if Region.wanted o (yielded l.toArray a.tmps)=true then Oper.wp P o a w K' Q else K' (a.put o.dst undef) w)
 (ho:l[i]?=some o:=by exact rfl) (hr:Region.ready md l.toArray listed=[i]:=by kernel_rfl) (hz:(listed.setIfInBounds i true).getD z false=true:=by kernel_rfl):dU P md l.toArray Q S z (fuel+1) listed a w :=
 yL hr (by simp) (fun j hj=>by
  rcases List.mem_cons.1 hj with rfl | hj
  · exact wpOp_step (by simpa using ho) (fun K' hK=>h K' (fun a w hW=>hK a w ⟨.inl hz,hW⟩))
  · cases hj)
theorem Bd {P:Program} {ops:Array Oper} {Q:Exit→Act→World→Prop} {id:Nat} {a:Act} {R S:World→Prop} (z:Nat) (H:Hid (∀w',R w'→S w')) (k:R w.drew) (h:S w.drew→dU P .any ops Q S z ops.size (Array.replicate ops.size false) a w.drew) (hm:P.follows .mixedOrders=true:=by kernel_rfl):(Code.region id ops true).wp P Q a w:=wp_region_any hm (nE _ _ _ _ (h (H.out _ k)))
theorem dZ {P:Program} {md:Region.Mode} {l:List Oper} {Q:Exit→Act→World→Prop} {S:World→Prop} {z fuel:Nat} {listed:Array Bool} {a:Act} (h:Q .normal a w) (hr:Region.ready md l.toArray listed=[]:=by kernel_rfl):dU P md l.toArray Q S z fuel listed a w:=by
 cases fuel with
 | zero=>exact ⟨hr,h⟩
 | succ n=>exact ⟨fun _=>h,by rw [hr];simp⟩
end
theorem lV {nm:Nat} {M:List ac} {A B C:List ag} {S:List Int} {ok:Bool} {e:Ending} (h:tP q nm 3 n M [A,B,C] S ok w e w') (hlw:lo≤w.heap.size) (htb:bc q M [A,B,C] S=true):mZ lo w e w':=by
 obtain ⟨g1,c1,G,c,g3,c3,rfl,hC,hb⟩:=h;obtain ⟨gA,dA,gB,dB,gC,dC,hT⟩:=hC.trS hlw;exact ⟨_,_,rfl,⟨q,_,_,_,G,c,_,_,_,gA,dA,gB,_,dB,gC,_,dC,M,A,B,C,S,rfl,hT,htb⟩,gF.of hb⟩
theorem Bu (lo:Nat) (v:Value) (w:World) (h:cw lo w v) (hlw:lo≤w.heap.size):Calls Tryz.prog 36 #[v] w (mZ lo w):=by
 obtain ⟨q,am,nm,cm,G,c,ak,ns,cs,gA,dA,e1,n1,d1,e2,n2,d2,M,A,B,C,S,rfl,hT,htb⟩:=h;have hq:=bh htb;have hns:=hT.sn.length;refine (vX 0 q am nm cm _ 3 c ak ns cs M [A,B,C] S w hT.treeIn (WalkArith.wf_i64 (by omega)) htb).mono ?_;rintro e w' ⟨h1,h2⟩;by_cases hc:ns<4∧q ∉ S
 · exact lV (h1 hc) hlw (vO htb (by omega) hc.2)
 · exact lV (h2 hc) hlw htb
theorem Bz (lo:Nat) (v:Value) (sq:Int) (w:World) (h:cw lo w v) (hlw:lo≤w.heap.size):Calls Tryz.prog 45 #[v,iT sq] w (mZ lo w):=by
 obtain ⟨q,am,nm,cm,G,c,ak,ns,cs,gA,dA,e1,n1,d1,e2,n2,d2,M,A,B,C,S,rfl,hT,htb⟩:=h;refine (wh 0 q am nm cm _ 3 c ak ns cs M [A,B,C] S sq w hT.treeIn htb).mono ?_;rintro e w' ⟨n,h1⟩;exact lV h1 hlw (vP htb sq)
theorem AZ (lo:Nat) (v:Value) (ab:Option Addr) (nb cb:Nat) (K:List ac) (w:World) (h:cw lo w v) (hlw:lo≤w.heap.size) (hK:aj w ab nb cb K) (hnb:nb≤1048576):Calls Tryz.prog 98 #[v,.slice ab nb cb] w (mZ lo w):=by
 obtain ⟨q,am,nm,cm,G,c,ak,ns,cs,gA,dA,e1,n1,d1,e2,n2,d2,M,A,B,C,S,rfl,hT,htb⟩:=h;have hp:=bh htb;have hml:=hT.mem.len;refine (ud lo q am nm cm _ 3 c ak ns cs M [A,B,C] S ab nb cb K w hT.treeIn hlw hT.mem hK hnb (by omega) hp.1 hp.2.1).mono ?_;rintro e w' ⟨h1,h2⟩;cases hw:fZ q M K with
 | true =>
  obtain ⟨a,n,c',rfl,_,hb,hO⟩:=h1 hw;have hT':=hT.below hb;exact ⟨_,_,rfl,⟨_,a,n,c',G,c,ak,ns,cs,gA,dA,e1,n1,d1,e2,n2,d2,_,A,B,C,S,rfl,⟨hO,hT'.row,hT'.rA,hT'.rB,hT'.rC,hT'.sn,hT'.sk⟩,tW htb hw⟩,gF.of hb⟩
 | false =>
  obtain ⟨rfl,hb⟩:=h2 hw;exact ⟨_,_,rfl,⟨q,am,nm,cm,G,c,ak,ns,cs,gA,dA,e1,n1,d1,e2,n2,d2,M,A,B,C,S,rfl,hT.below hb,htb⟩,gF.of hb⟩
theorem cw.read {R:Nat} {ab:Option Addr} (h:cw lo w v) (hR:aW w R ab len cap P) (hl:R<lo) (hg:w.grownBy w' (some R)):cw lo w' v:=by
 obtain ⟨q,am,nm,cm,G,c,ak,ns,cs,gA,dA,e1,n1,d1,e2,n2,d2,M,A,B,C,S,rfl,hT,htb⟩:=h;have hs:=m9 htb;exact ⟨q,am,nm,cm,G,c,ak,ns,cs,gA,dA,e1,n1,d1,e2,n2,d2,M,A,B,C,S,rfl,hT.read hR hl (fun r hr=>((hs B (by simp)).2 r hr).1) (fun r hr=>((hs C (by simp)).2 r hr).1) hg,htb⟩
def BI (v:Value):Prop:=∃q am nm cm av nv cv ak ns cs,v=.agg #[iT q,.slice am nm cm,.slice av nv cv,.slice ak ns cs]
theorem cw.val (h:cw lo w v):BI v:=by
 obtain ⟨q,am,nm,cm,G,c,ak,ns,cs,gA,dA,e1,n1,d1,e2,n2,d2,M,A,B,C,S,rfl,hT,htb⟩:=h;exact ⟨_,_,_,_,_,_,_,_,_,_,rfl⟩
theorem cw.four {z:Int} {a1 a2 a3 b1 b2 b3:Option Addr} {m1 k1 m2 k2 m3 k3 m4 k4 m5 k5 m6 k6:Nat} (h:cw lo w v) (hk:an w X 31 4) (hX:ar w X (iT z) (.slice b1 m4 k4) (.slice b2 m5 k5) (.slice b3 m6 k6)):cw lo ((((w.setCell ⟨X,0,none⟩ (iT q)).setCell ⟨X,1,none⟩ (.slice a1 m1 k1)).setCell ⟨X,2,none⟩ (.slice a2 m2 k2)).setCell ⟨X,3,none⟩ (.slice a3 m3 k3)) v:=by
 obtain ⟨q,am,nm,cm,G,c,ak,ns,cs,gA,dA,e1,n1,d1,e2,n2,d2,M,A,B,C,S,rfl,hT,htb⟩:=h;exact ⟨q,am,nm,cm,G,c,ak,ns,cs,gA,dA,e1,n1,d1,e2,n2,d2,M,A,B,C,S,rfl,hT.four hk hX,htb⟩
theorem aW.gr {R:Nat} {a:Option Addr} (h:aW w R a len cap P) (hlow:pK a len R) (hl:R<lo) (hg:gF lo none w w'):aW w' R a len cap P:=by
 have hb:∀b,b<lo→b<w.heap.size→∀o,w'.cell? ⟨b,o,none⟩=w.cell? ⟨b,o,none⟩:=fun b h1 h2 o=>World.cell?_of_block (a:=⟨b,o,none⟩) (hg.block b h2 (by simp) (.inl h1))
 refine ⟨(hb R hl h.lt 0).trans h.c0,(hb R hl h.lt 1).trans h.c1,(World.frozen?_of_block (a:=⟨R,1,none⟩) (hg.block R h.lt (by simp) (.inl hl))).trans h.f1,h.few,fun o=>(hb R hl h.lt _).trans (h.two o),?_⟩;rcases h.bytes with h0 | ⟨b,off,ha,hb1,hb2,hc⟩
 · exact .inl h0
 · rcases hlow with e | hlow
   · exact .inl e
   refine .inr ⟨b,off,ha,hb1,Nat.lt_of_lt_of_le hb2 hg.size,fun i hi=>?_⟩;obtain ⟨z,hz,hcc⟩:=hc i hi;have:=hlow b off ha;exact ⟨z,hz,(hb b (by omega) hb2 _).trans hcc⟩
theorem ar.gr {sz:Nat} {R:Option Nat} {u0 u1 u2 u3:Value} (h:ar w X u0 u1 u2 u3) (hk:an w X 31 4) (hR:some X≠R) (hg:gF lo R w w') (_:sz=sz:=rfl):ar w' X u0 u1 u2 u3:=by
 have hb:=hg.block X h.lt hR (.inr hk);have hc:∀o,w'.cell? ⟨X,o,none⟩=w.cell? ⟨X,o,none⟩:=fun o=>World.cell?_of_block (a:=⟨X,o,none⟩) hb
 exact ⟨(hc 0).trans h.c0,(hc 1).trans h.c1,(hc 2).trans h.c2,(hc 3).trans h.c3,fun o=>(World.frozen?_of_block (a:=⟨X,o,none⟩) hb).trans (h.fz o)⟩
theorem an.gr {R:Option Nat} (hk:an w X 31 4) (hR:some X≠R) (hg:gF lo R w w'):an w' X 31 4:=hk.same (hg.block X hk.lt hR (.inr hk))
end Go.Proofs.YtpobkmjicbobdaaGreat
