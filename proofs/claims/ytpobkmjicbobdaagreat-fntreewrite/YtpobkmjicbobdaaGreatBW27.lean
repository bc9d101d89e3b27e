/- Walks. -/
import Derived.Test.YtpobkmjicbobdaaGreatBW22
import Derived.Test.YtpobkmjicbobdaaGreatBW23
import Derived.Test.YtpobkmjicbobdaaGreatBW26
namespace Go.Proofs.YtpobkmjicbobdaaGreat
set_option maxRecDepth 100000
set_option maxHeartbeats 40000000
open Go.RowKit
variable {P P' X Z cap cm cm' cs cs' cv cv' fuel i len lo n nm nm' ns ns' nv nv':Nat} {a ak ak' am am' av av':Option Addr} {e:Ending} {q q':Int} {v:Value} {w w' wi wj:World}
section
section
variable {P:Program} {ops:Array Oper} {Q:Exit→Act→World→Prop} {md:Region.Mode} {S:World→Prop} {z:Nat}
def ew (P:Program) (md:Region.Mode) (ops:Array Oper) (Q:Exit→Act→World→Prop) (S:World→Prop) (z:Nat):Nat→Array Bool→Act→World→Prop
 | 0,listed,a,w=>Region.ready md ops listed=[]∧Q .normal a w
 | fuel+1,listed,a,w =>
  (Region.ready md ops listed=[]→Q .normal a w) ∧
  ∀i ∈ Region.ready md ops listed,wpOp P ops Q i (fun a' w'=>((listed.setIfInBounds i true).getD z false=true∨S w')∧ew P md ops Q S z fuel (listed.setIfInBounds i true) a' w') a w
theorem pW:∀(fuel:Nat) (b:Array Bool) (a:Act) (w:World),ew P md ops Q S z fuel b a w→wpAny P md ops Q fuel b a w
 | 0,_,_,_,h=>h
 | fuel+1,_,_,_,h=>⟨h.1,fun i hi=>wpOp_mono (fun d w' h'=>pW fuel _ d w' h'.2) (h.2 i hi)⟩
def xA (md:Region.Mode) (ops:Array Oper) (listed:Array Bool) (i z:Nat) (D:List Nat):Prop :=
 z ∈ D∧i ∉ D∧∀d ∈ D,listed.getD d true=false∧∃o,ops[d]?=some o∧∃e ∈ o.after,Region.binds md e=true∧(e.on=i∨e.on ∈ D)
theorem nh {b:Array Bool} (h:b.getD i true=false):b.getD i false=false:=by
 rcases Nat.lt_or_ge i b.size with h' | h'
 · simp [h'] at h ⊢;exact h
 · simp [Array.getElem?_eq_none h'] at h
theorem xA.not_ready {listed:Array Bool} {D:List Nat} (h:xA md ops listed i z D) (hi:listed.getD i true=false) {d:Nat} (hd:d ∈ D):d ∉ Region.ready md ops listed:=fun hr=>by
 obtain ⟨_,o,ho,e,m,hb,b⟩:=h.2.2 d hd
 obtain ⟨_,r,f,g⟩:=mem_ready.1 hr
 rw [ho] at f
 cases f
 have h1:=g e m hb
 rcases b with b | b
 · rw [b,nh hi] at h1;cases h1
 · rw [nh (h.2.2 _ b).1] at h1;cases h1
theorem ue {y:Oper} {D:List Nat} (hi:ops[i]?=some y) (t:∀(j:Nat) (o:Oper) cs b,ops[j]?=some o→o.op≠.select cs b)
 (hQ:∀c a w,Q (.panic c) (a.put y.dst v) w→Q (.panic c) a w) :
 ∀(fuel:Nat) (f:Array Bool) (a:Act) (w:World),
  (∀j A,ops[j]?=some A→j≠i→f.getD j true=false→(∀e ∈ A.after,Region.binds md e=true→e.on≠i)→y.apart ops A=true) →
  xA md ops f i z D→i ∈ Region.ready md ops f→YieldsIf P ops S y v a→S w →
  ew P md ops Q S z fuel (f.setIfInBounds i true) (a.put y.dst v) w→ew P md ops Q S z (fuel+1) f a w:=by
 intro fuel;induction fuel with
 | zero =>
  intro f a w _ _ hr hy hS H;refine ⟨fun h=>(by rw [h] at hr;cases hr),fun j L=>?_⟩;by_cases g:j=i
  · subst g;exact hy.wpOp hi hS ⟨.inr hS,H⟩
  · have:=ready_mono L g;rw [H.1] at this;cases this
 | succ fuel Y =>
  intro f a w m hD hr hy hS H;refine ⟨fun h=>(by rw [h] at hr;cases hr),fun j L=>?_⟩;by_cases g:j=i
  · subst g;exact hy.wpOp hi hS ⟨.inr hS,H⟩
  · have h1:=H.2 j (ready_mono L g);obtain ⟨s,A,x,K⟩:=mem_ready.1 L;have u:=(mem_ready.1 hr).1;have C:∀e ∈ A.after,Region.binds md e=true→e.on≠i:=fun e W hb R=>by
     have h1:=K e W hb;rw [R,nh u] at h1;cases h1
    have h2:=wpOp_putIf x (m j A x g s C) (fun cs b=>t i y cs b hi) (fun cs b=>t j A cs b x) hQ hy h1;have r:∀k F,ops[k]?=some F→k≠i→(f.setIfInBounds j true).getD k true=false →
     (∀e ∈ F.after,Region.binds md e=true→e.on≠i)→y.apart ops F=true:=fun k F hk O J N=>by
     refine m k F hk O ?_ N;by_cases B:j=k
     · subst B;exact s
     · rw [getD_set_ne true B] at J;exact J
    have E:∀d ∈ D,j≠d:=fun d hd e=>hD.not_ready u hd (e ▸ L)
    have T:xA md ops (f.setIfInBounds j true) i z D:=⟨hD.1,hD.2.1,fun d hd=>⟨by rw [getD_set_ne true (E d hd)];exact (hD.2.2 d hd).1,(hD.2.2 d hd).2⟩⟩;have I:∀{w':World},(((f.setIfInBounds i true).setIfInBounds j true).getD z false=true∨S w')→S w':=fun {w'} h=>by
     rcases h with h | h
     · rw [getD_set_ne false (E z hD.1),getD_set_ne false (fun e:i=z=>hD.2.1 (by rw [e];exact hD.1)),nh (hD.2.2 z hD.1).1] at h;cases h
     · exact h
    refine wpOp_mono (fun U w' h3=>⟨.inr (I h3.2.1),Y (f.setIfInBounds j true) U w' r T (ready_mono hr (IX g)) h3.1 (I h3.2.1) ?_⟩) h2;rw [Array.setIfInBounds_comm _ _ g];exact h3.2.2
theorem xG {u:Oper} (hi:ops[i]?=some u) (s:∀(j:Nat) (o:Oper) cs b,ops[j]?=some o→o.op≠.select cs b)
 (hQ:∀c a w,Q (.panic c) (a.put u.dst v) w→Q (.panic c) a w) (hiz:i≠z) :
 ∀(fuel:Nat) (d:Array Bool) (a:Act) (w:World),
  (∀j x,ops[j]?=some x→j≠i→d.getD j true=false→(∀e ∈ x.after,Region.binds md e=true→e.on≠i)→u.apart ops x=true) →
  i ∈ Region.ready md ops d→YieldsIf P ops (fun _=>True) u v a→(d.getD z false=true∨S w) →
  ew P md ops Q S z fuel (d.setIfInBounds i true) (a.put u.dst v) w→ew P md ops Q S z (fuel+1) d a w:=by
 intro fuel;induction fuel with
 | zero =>
  intro d a w _ hr hy hS H;refine ⟨fun h=>(by rw [h] at hr;cases hr),fun j I=>?_⟩;by_cases f:j=i
  · subst f;exact hy.wpOp hi trivial ⟨by rw [getD_set_ne false hiz];exact hS,H⟩
  · have:=ready_mono I f;rw [H.1] at this;cases this
 | succ fuel R =>
  intro d a w g hr hy hS H;refine ⟨fun h=>(by rw [h] at hr;cases hr),fun j I=>?_⟩;by_cases f:j=i
  · subst f;exact hy.wpOp hi trivial ⟨by rw [getD_set_ne false hiz];exact hS,H⟩
  · have h1:=H.2 j (ready_mono I f);obtain ⟨r,x,t,E⟩:=mem_ready.1 I;have F:=(mem_ready.1 hr).1;have A:∀e ∈ x.after,Region.binds md e=true→e.on≠i:=fun e O hb L=>by
     have h1:=E e O hb;rw [L,nh F] at h1;cases h1
    have h2:=wpOp_putIf t (g j x t f r A) (fun cs b=>s i u cs b hi) (fun cs b=>s j x cs b t) hQ hy h1;have m:∀k B,ops[k]?=some B→k≠i→(d.setIfInBounds j true).getD k true=false →
     (∀e ∈ B.after,Region.binds md e=true→e.on≠i)→u.apart ops B=true:=fun k B hk K D J=>by
     refine g k B hk K ?_ J;by_cases y:j=k
     · subst y;exact r
     · rw [getD_set_ne true y] at D;exact D
    have C:∀{w':World},(((d.setIfInBounds i true).setIfInBounds j true).getD z false=true∨S w')→((d.setIfInBounds j true).getD z false=true∨S w'):=fun {w'} h=>by
     rw [Array.setIfInBounds_comm _ _ (IX f),getD_set_ne false hiz] at h;exact h
    refine wpOp_mono (fun N w' h3=>⟨C h3.2.1,R (d.setIfInBounds j true) N w' m (ready_mono hr (IX f)) h3.1 (C h3.2.1) ?_⟩) h2;rw [Array.setIfInBounds_comm _ _ f];exact h3.2.2
def uX (md:Region.Mode) (ops:Array Oper) (i:Nat):List Nat :=
 (List.range ops.size).foldl (fun acc j=>match ops[j]? with
  | some o=>if o.after.any (fun e=>Region.binds md e && (e.on == i || acc.contains e.on)) then acc++[j] else acc
  | none=>acc) []
def uf (md:Region.Mode) (ops:Array Oper) (listed:Array Bool) (i z:Nat) (D:List Nat):Bool :=
 D.contains z && !D.contains i && D.all fun d=>!listed.getD d true && match ops[d]? with
  | some o=>o.after.any (fun e=>Region.binds md e && (e.on == i || D.contains e.on))
  | none=>false
theorem B6 {b:Array Bool} {D:List Nat} (h:uf md ops b i z D=true):xA md ops b i z D:=by
 unfold uf at h;simp only [G2,Hf,Jh,List.contains_eq_mem,decide_eq_true_eq,decide_eq_false_iff_not] at h;refine ⟨h.1.1,h.1.2,fun d hd=>?_⟩;obtain ⟨h1,h2⟩:=h.2 d hd;refine ⟨h1,?_⟩;cases ho:ops[d]? with
 | none=>rw [ho] at h2;cases h2
 | some o =>
  rw [ho] at h2;obtain ⟨e,f,hb⟩:=Array.any_eq_true'.1 h2;simp only [G2,Jd,beq_iff_eq,decide_eq_true_eq] at hb;exact ⟨o,rfl,e,f,hb.1,hb.2⟩
end
def ua (P:Program) (md:Region.Mode) (l:List Oper) (Q:Exit→Act→World→Prop) (S:World→Prop) (z fuel:Nat) (w:World):Nat→Nat→Array Bool→Act→Prop
 | 0,_,listed,a=>ew P md l.toArray Q S z fuel listed a w
 | n+1,i,listed,a=>∃oi v,(l[i]?=some oi∧Region.noSelect l.toArray=true∧Region.free md l.toArray listed i=true∧(Region.ready md l.toArray listed).contains i=true∧uf md l.toArray listed i z (uX md l.toArray i)=true)∧(∀c a w,Q (.panic c) (a.put oi.dst v) w→Q (.panic c) a w)∧YieldsIf P l.toArray S oi v a∧ua P md l Q S z fuel w n (i+1) (listed.setIfInBounds i true) (a.put oi.dst v)
theorem tz0 {P:Program} {md:Region.Mode} {l:List Oper} {Q:Exit→Act→World→Prop} {S:World→Prop} {z:Nat} {b:Array Bool} {a:Act} (h:ew P md l.toArray Q S z fuel b a w):ua P md l Q S z fuel w 0 i b a:=h
theorem GG {P:Program} {md:Region.Mode} {l:List Oper} {Q:Exit→Act→World→Prop} {S:World→Prop} {z:Nat} {b:Array Bool} {a:Act} {d:Oper} (hi:l[i]?=some d) (hs:Region.noSelect l.toArray=true) (hf:Region.free md l.toArray b i=true) (hr:(Region.ready md l.toArray b).contains i=true) (hz:uf md l.toArray b i z (uX md l.toArray i)=true)
 (hQ:∀c a w,Q (.panic c) (a.put d.dst v) w→Q (.panic c) a w) (hy:YieldsIf P l.toArray S d v a) (h:ua P md l Q S z fuel w n (i+1) (b.setIfInBounds i true) (a.put d.dst v)):ua P md l Q S z fuel w (n+1) i b a:=⟨d,v,⟨hi,hs,hf,hr,hz⟩,hQ,hy,h⟩
theorem GF {P:Program} {md:Region.Mode} {l:List Oper} {Q:Exit→Act→World→Prop} {S:World→Prop} {z fuel:Nat} {w:World} (hS:S w):∀(n i:Nat) (b:Array Bool) (a:Act),ua P md l Q S z fuel w n i b a→ew P md l.toArray Q S z (fuel+n) b a w
 | 0,_,_,_,h=>h
 | n+1,_,_,_,⟨_,_,⟨hi,hs,hf,hr,hz⟩,hQ,hy,h⟩=>ue (by simpa using hi) (Region.noSelect_spec hs) hQ _ _ _ _ (Region.free_spec (by simpa using hi) hf) (B6 hz) (by simpa using hr) hy hS (GF hS n _ _ _ h)
theorem vl {P:Program} {md:Region.Mode} {l:List Oper} {Q:Exit→Act→World→Prop} {S:World→Prop} {z:Nat} (i n:Nat) {b:Array Bool} {a:Act} {g:Prop} (hS:S w) (h:g)
 (e:g→ua P md l Q S z fuel w n i b a:=by
  (intro hg;repeat (first | exact tz0 hg | ((refine GG (v:=?_) rfl (by kernel_rfl) (by kernel_rfl) (by kernel_rfl) (by kernel_rfl) (fun _ _ _ h=>h) (Or.inl ⟨by rfl,?_⟩) ?_;rotate_left;· (intro w d;(try dsimp only at d);go_simp;try with_reducible rfl));try simp only [Act.put,IZ,IC,IQ]) | (refine GG (v:=undef) rfl (by kernel_rfl) (by kernel_rfl) (by kernel_rfl) (by kernel_rfl) (fun _ _ _ h=>h) (Or.inr ⟨by rfl,rfl⟩) ?_;try simp only [Act.put,IZ,IC,IQ])))):ew P md l.toArray Q S z (fuel+n) b a w:=GF hS n i b a (e h)
theorem Gr {P:Program} {md:Region.Mode} {l:List Oper} {Q:Exit→Act→World→Prop} {S:World→Prop} {z:Nat} (i:Nat) {b:Array Bool} {a:Act} {oi:Oper} {v:Value} (hS:S w) (h:ew P md l.toArray Q S z fuel (b.setIfInBounds i true) (a.put oi.dst v) w)
 (hi:l[i]?=some oi:=by exact rfl) (hy:YieldsIf P l.toArray (fun _=>True) oi v a:=by (refine Or.inl ⟨by rfl,?_⟩;intro w _;go_simp;try with_reducible rfl)) (hs:Region.noSelect l.toArray=true:=by kernel_rfl) (hf:Region.free md l.toArray b i=true:=by kernel_rfl) (hr:(Region.ready md l.toArray b).contains i=true:=by kernel_rfl) (hiz:i≠z:=by decide)
 (hQ:∀c a w,Q (.panic c) (a.put oi.dst v) w→Q (.panic c) a w:=by exact fun _ _ _ h=>h):ew P md l.toArray Q S z (fuel+1) b a w:=xG (by simpa using hi) (Region.noSelect_spec hs) hQ hiz _ _ _ _ (Region.free_spec (by simpa using hi) hf) (by simpa using hr) hy (.inr hS) h
def lU (P:Program) (md:Region.Mode) (ops:Array Oper) (Q:Exit→Act→World→Prop) (S:World→Prop) (z fuel:Nat) (listed:Array Bool) (a:Act) (w:World) (rs:List Nat):Prop :=
 ∀i ∈ rs,wpOp P ops Q i (fun a' w'=>((listed.setIfInBounds i true).getD z false=true∨S w')∧ew P md ops Q S z fuel (listed.setIfInBounds i true) a' w') a w
theorem Ef {P:Program} {md:Region.Mode} {ops:Array Oper} {Q:Exit→Act→World→Prop} {S:World→Prop} {z:Nat} {b:Array Bool} {a:Act}:lU P md ops Q S z fuel b a w []:=fun _ h=>by cases h
theorem F7 {P:Program} {l:List Oper} {Q:Exit→Act→World→Prop} {md:Region.Mode} {S:World→Prop} {z:Nat} {b:Array Bool} {a:Act} {o:Oper} {rs:List Nat} (ho:l[i]?=some o)
 (h:∀d:Act→World→Prop,GJ (∀a w,S w→(S w→ew P md l.toArray Q S z fuel (b.setIfInBounds i true) a w)→d a w)→if Region.wanted o (yielded l.toArray a.tmps)=true then Oper.wp P o a w d Q else d (a.put o.dst undef) w)
 (hs:lU P md l.toArray Q S z fuel b a w rs):lU P md l.toArray Q S z fuel b a w (i :: rs):=fun j hj=>by
 rcases GZ.1 hj with rfl | hj
 · exact wpOp_step (by simpa using ho) (fun d hK=>h d (fun a w hS f=>hK a w ⟨.inr hS,f hS⟩))
 · exact hs j hj
theorem CZ {P:Program} {l:List Oper} {Q:Exit→Act→World→Prop} {md:Region.Mode} {S:World→Prop} {z:Nat} {b:Array Bool} {a:Act} {rs:List Nat} (hr:Region.ready md l.toArray b=rs) (d:rs≠[]) (h:lU P md l.toArray Q S z fuel b a w rs):ew P md l.toArray Q S z (fuel+1) b a w :=
 ⟨fun h0=>absurd (hr ▸ h0) d,hr ▸ h⟩
theorem sI {P:Program} {l:List Oper} {Q:Exit→Act→World→Prop} {md:Region.Mode} {S:World→Prop} {z:Nat} (i:Nat) {o:Oper} {fuel:Nat} {b:Array Bool} {a:Act} {w:World}
 (h:∀d:Act→World→Prop,GJ (∀a w,S w→(S w→ew P md l.toArray Q S z fuel (b.setIfInBounds i true) a w)→d a w)→if Region.wanted o (yielded l.toArray a.tmps)=true then Oper.wp P o a w d Q else d (a.put o.dst undef) w)
 (ho:l[i]?=some o:=by exact rfl) (hr:Region.ready md l.toArray b=[i]:=by kernel_rfl):ew P md l.toArray Q S z (fuel+1) b a w:=CZ hr (by simp) (F7 ho h Ef)
theorem FA {P:Program} {l:List Oper} {Q:Exit→Act→World→Prop} {md:Region.Mode} {S:World→Prop} {z:Nat} (i:Nat) {o:Oper} {fuel:Nat} {b:Array Bool} {a:Act} {w:World}
 (h:∀d:Act→World→Prop,GJ (∀a w,ew P md l.toArray Q S z fuel (b.setIfInBounds i true) a w→d a w)→if Region.wanted o (yielded l.toArray a.tmps)=true then Oper.wp P o a w d Q else d (a.put o.dst undef) w)
 (ho:l[i]?=some o:=by exact rfl) (hr:Region.ready md l.toArray b=[i]:=by kernel_rfl) (hz:(b.setIfInBounds i true).getD z false=true:=by kernel_rfl):ew P md l.toArray Q S z (fuel+1) b a w :=
 CZ hr (by simp) (fun j hj=>by
  rcases GZ.1 hj with rfl | hj
  · exact wpOp_step (by simpa using ho) (fun d hK=>h d (fun a w f=>hK a w ⟨.inl hz,f⟩))
  · cases hj)
theorem FI {P:Program} {ops:Array Oper} {Q:Exit→Act→World→Prop} {id:Nat} {a:Act} {R S:World→Prop} (z:Nat) (H:Eq (∀w',R w'→S w')) (k:R w.drew) (h:S w.drew→ew P .any ops Q S z ops.size (Array.replicate ops.size false) a w.drew) (hm:P.follows .mixedOrders=true:=by kernel_rfl):(Code.region id ops true).wp P Q a w:=wp_region_any hm (pW _ _ _ _ (h (H.o _ k)))
theorem dZ {P:Program} {md:Region.Mode} {l:List Oper} {Q:Exit→Act→World→Prop} {S:World→Prop} {z fuel:Nat} {b:Array Bool} {a:Act} (h:Q .normal a w) (hr:Region.ready md l.toArray b=[]:=by kernel_rfl):ew P md l.toArray Q S z fuel b a w:=by
 cases fuel with
 | zero=>exact ⟨hr,h⟩
 | succ n=>exact ⟨fun _=>h,by rw [hr];simp⟩
end
theorem oq {M:List ac} {A B C:List af} {S:List Int} {g:Bool} (h:xB q nm 3 n M [A,B,C] S g w e w') (b:lo≤w.heap.size) (d:aP q M [A,B,C] S=true∧nY M A B C):pG lo w e w':=by
 obtain ⟨x,c1,G,c,y,c3,rfl,hC,hb⟩:=h;obtain ⟨m,f,u,s,o,r,t⟩:=hC.trS b;exact ⟨_,_,rfl,⟨q,_,_,_,G,c,_,_,_,m,f,u,_,s,o,_,r,M,A,B,C,S,rfl,t,d⟩,iG.of hb⟩
theorem FX (lo:Nat) (v:Value) (w:World) (h:dr lo w v) (d:lo≤w.heap.size):Calls Tryz.prog 36 #[v] w (pG lo w):=by
 obtain ⟨q,am,nm,cm,G,c,ak,ns,cs,r,g,e1,s,o,e2,n2,m,M,A,B,C,S,rfl,f,b⟩:=h;have hq:=aL b.1;have hns:=f.sn.length;refine (Aq 0 q am nm cm _ 3 c ak ns cs M [A,B,C] S w f.treeIn (Hu (by omega)) b.1).mono ?_;rintro e w' ⟨h1,h2⟩;by_cases hc:ns<4∧q ∉ S
 · exact oq (h1 hc) d ⟨Af b.1 (by omega) hc.2,b.2⟩
 · exact oq (h2 hc) d b
theorem F1 (lo:Nat) (v:Value) (d:Int) (w:World) (h:dr lo w v) (f:lo≤w.heap.size):Calls Tryz.prog 45 #[v,iT d] w (pG lo w):=by
 obtain ⟨q,am,nm,cm,G,c,ak,ns,cs,s,m,e1,t,r,e2,n2,o,M,A,B,C,S,rfl,g,b⟩:=h;refine (At 0 q am nm cm _ 3 c ak ns cs M [A,B,C] S d w g.treeIn b.1).mono ?_;rintro e w' ⟨n,h1⟩;exact oq h1 f ⟨Ag b.1 d,b.2⟩
theorem Fq (lo:Nat) (v:Value) (o:Option Addr) (g r:Nat) (K:List ac) (w:World) (h:dr lo w v) (t:lo≤w.heap.size) (hK:ah w o g r K) (s:g≤1048576) (m:pU K):Calls Tryz.prog 98 #[v,.slice o g r] w (pG lo w):=by
 obtain ⟨q,am,nm,cm,G,c,ak,ns,cs,D,u,e1,E,y,e2,n2,x,M,A,B,C,S,rfl,f,d⟩:=h;have hp:=aL d.1;have F:=f.mem.len;refine (qj lo q am nm cm _ 3 c ak ns cs M [A,B,C] S o g r K w f.treeIn t f.mem hK s (by omega) hp.1 hp.2.1).mono ?_;rintro e w' ⟨h1,h2⟩;cases hw:bX q M K with
 | true =>
  obtain ⟨a,n,c',rfl,_,hb,hO⟩:=h1 hw;have b:=f.below hb;exact ⟨_,_,rfl,⟨_,a,n,c',G,c,ak,ns,cs,D,u,e1,E,y,e2,n2,x,_,A,B,C,S,rfl,⟨hO,b.row,b.rA,b.rB,b.rC,b.sn,b.sk⟩,me d.1 hw,pU.puts _ d.2.1 m.stamped,d.2.2⟩,iG.of hb⟩
 | false =>
  obtain ⟨rfl,hb⟩:=h2 hw;exact ⟨_,_,rfl,⟨q,am,nm,cm,G,c,ak,ns,cs,D,u,e1,E,y,e2,n2,x,M,A,B,C,S,rfl,f.below hb,d⟩,iG.of hb⟩
theorem dr.read {R:Nat} {o:Option Addr} (h:dr lo w v) (hR:bh w R o len cap P) (hl:R<lo) (hg:w.grownBy w' (some R)):dr lo w' v:=by
 obtain ⟨q,am,nm,cm,G,c,ak,ns,cs,s,d,e1,t,m,e2,n2,f,M,A,B,C,S,rfl,g,b⟩:=h;have hs:=pI b.1;exact ⟨q,am,nm,cm,G,c,ak,ns,cs,s,d,e1,t,m,e2,n2,f,M,A,B,C,S,rfl,g.read hR hl (fun r hr=>((hs B (by simp)).2 r hr).1) (fun r hr=>((hs C (by simp)).2 r hr).1) hg,b⟩
def Ga (v:Value):Prop:=∃q am nm cm av nv cv ak ns cs,v=.agg #[iT q,.slice am nm cm,.slice av nv cv,.slice ak ns cs]
theorem dr.val (h:dr lo w v):Ga v:=by
 obtain ⟨q,am,nm,cm,G,c,ak,ns,cs,g,d,e1,m,r,e2,n2,f,M,A,B,C,S,rfl,o,b⟩:=h;exact ⟨_,_,_,_,_,_,_,_,_,_,rfl⟩
theorem dr.four {z:Int} {a1 a2 a3 b1 b2 b3:Option Addr} {m1 k1 m2 k2 m3 k3 E s x t g u:Nat} (h:dr lo w v) (hk:aq w X 31 4) (m:ay w X (iT z) (.slice b1 E s) (.slice b2 x t) (.slice b3 g u)):dr lo ((((w.setCell ⟨X,0,none⟩ (iT q)).setCell ⟨X,1,none⟩ (.slice a1 m1 k1)).setCell ⟨X,2,none⟩ (.slice a2 m2 k2)).setCell ⟨X,3,none⟩ (.slice a3 m3 k3)) v:=by
 obtain ⟨q,am,nm,cm,G,c,ak,ns,cs,y,d,e1,D,r,e2,n2,f,M,A,B,C,S,rfl,o,b⟩:=h;exact ⟨q,am,nm,cm,G,c,ak,ns,cs,y,d,e1,D,r,e2,n2,f,M,A,B,C,S,rfl,o.four hk m,b⟩
theorem bh.gr {R:Nat} (h:bh w R a len cap P) (hlow:ud a len R) (hl:R<lo) (hg:iG lo none w w'):bh w' R a len cap P:=by
 have hb:∀b,b<lo→b<w.heap.size→∀o,w'.cell? ⟨b,o,none⟩=w.cell? ⟨b,o,none⟩:=fun b h1 h2 o=>Hz (a:=⟨b,o,none⟩) (hg.block b h2 (by simp) (.inl h1))
 refine ⟨(hb R hl h.lt 0).trans h.c0,(hb R hl h.lt 1).trans h.c1,(IT (a:=⟨R,1,none⟩) (hg.block R h.lt (by simp) (.inl hl))).trans h.f1,h.few,fun o=>(hb R hl h.lt _).trans (h.two o),?_⟩;rcases h.bytes with h0 | ⟨b,d,ha,m,f,hc⟩
 · exact .inl h0
 · rcases hlow with e | hlow
   · exact .inl e
   refine .inr ⟨b,d,ha,m,E' f hg.size,fun i hi=>?_⟩;obtain ⟨z,hz,g⟩:=hc i hi;have:=hlow b d ha;exact ⟨z,hz,(hb b (by omega) f _).trans g⟩
theorem ay.gr {sz:Nat} {R:Option Nat} {u0 u1 u2 u3:Value} (h:ay w X u0 u1 u2 u3) (hk:aq w X 31 4) (hR:some X≠R) (hg:iG lo R w w') (_:sz=sz:=rfl):ay w' X u0 u1 u2 u3:=by
 have hb:=hg.block X h.lt hR (.inr hk);have hc:∀o,w'.cell? ⟨X,o,none⟩=w.cell? ⟨X,o,none⟩:=fun o=>Hz (a:=⟨X,o,none⟩) hb
 exact ⟨(hc 0).trans h.c0,(hc 1).trans h.c1,(hc 2).trans h.c2,(hc 3).trans h.c3,fun o=>(IT (a:=⟨X,o,none⟩) hb).trans (h.fz o)⟩
theorem aq.gr {R:Option Nat} (hk:aq w X 31 4) (hR:some X≠R) (hg:iG lo R w w'):aq w' X 31 4:=hk.same (hg.block X hk.lt hR (.inr hk))
structure pH (lo R:Nat) (a:Option Addr) (len cap P:Nat) (w wi:World) (X Z:Nat) (q:Int) (am:Option Addr) (nm cm:Nat) (av:Option Addr) (nv cv:Nat) (ak:Option Addr) (ns cs:Nat):Prop where
 rd:bh wi R a len cap P
 bx:ay wi X (iT q) (.slice am nm cm) (.slice av nv cv) (.slice ak ns cs)
 br:ay wi Z (iT 0) nZ nZ nZ
 kx:aq wi X 31 4∧aq wi Z 31 4
 good:dr lo wi (.agg #[iT q,.slice am nm cm,.slice av nv cv,.slice ak ns cs])
 low:iG lo (some R) w wi
 top:lo≤w.heap.size∧w.heap.size≤X∧R<lo∧ud a len R∧w.heap.size≤Z∧X≠Z
theorem pH.below {R:Nat} (h:pH lo R a len cap P w wi X Z q am nm cm av nv cv ak ns cs) (hb:Bl wi wj):pH lo R a len cap P w wj X Z q am nm cm av nv cv ak ns cs :=
 ⟨h.rd.below hb,h.bx.keep hb,h.br.keep hb,⟨h.kx.1.below hb,h.kx.2.below hb⟩,h.good.below hb,h.low.next hb,h.top⟩
theorem pH.read {R:Nat} (h:pH lo R a len cap P w wi X Z q am nm cm av nv cv ak ns cs) (hg:wi.grownBy wj (some R)) (hr:bh wj R a len cap P'):pH lo R a len cap P' w wj X Z q am nm cm av nv cv ak ns cs :=
 have h1:X≠R:=by have:=h.top;omega
 have h2:Z≠R:=by have:=h.top;omega
 ⟨hr,h.bx.grownB hg h1,h.br.grownB hg h2,⟨h.kx.1.grown hg h1,h.kx.2.grown hg h2⟩,h.good.read h.rd h.top.2.2.1 hg,h.low.any hg,h.top⟩
theorem pH.did {R:Nat} (h:pH lo R a len cap P w wi X Z q am nm cm av nv cv ak ns cs) (hg:iG lo none wi wj) (hv:dr lo wj (.agg #[iT q',.slice am' nm' cm',.slice av' nv' cv',.slice ak' ns' cs'])) :
 ay wj X (iT q) (.slice am nm cm) (.slice av nv cv) (.slice ak ns cs)∧pH lo R a len cap P w ((((wj.setCell ⟨X,0,none⟩ (iT q')).setCell ⟨X,1,none⟩ (.slice am' nm' cm')).setCell ⟨X,2,none⟩ (.slice av' nv' cv')).setCell ⟨X,3,none⟩ (.slice ak' ns' cs')) X Z q' am' nm' cm' av' nv' cv' ak' ns' cs':=by
 have f:=h.top;have hx:=h.bx.gr (sz:=0) h.kx.1 (by simp) hg;have hr:=h.br.gr (sz:=0) h.kx.2 (by simp) hg;have k1:=h.kx.1.gr (by simp) hg;have r:=h.kx.2.gr (by simp) hg;have o:=h.rd.gr f.2.2.2.1 f.2.2.1 hg;have d:∀b m,a=some ⟨b,m,none⟩→0<len→b≠X:=fun b m e hl=>by
  rcases f.2.2.2.1 with h0 | h0
  · omega
  · have:=h0 b m e;omega
 have g:X≠R:=by omega
 refine ⟨hx,⟨(((o.other g d _ _).other g d _ _).other g d _ _).other g d _ _,(((hx.set0 _).set1 _).set2 _).set3 _,(((hr.other f.2.2.2.2.2 _).other f.2.2.2.2.2 _).other f.2.2.2.2.2 _).other f.2.2.2.2.2 _,⟨(((k1.setCell _).setCell _).setCell _).setCell _,(((r.setCell _).setCell _).setCell _).setCell _⟩,hv.four k1 hx,(h.low.trans hg.weak).four (by omega) f.2.1 _ _ _ _,f⟩⟩
theorem pH.acted {R:Nat} (h:pH lo R a len cap P w wi X Z q am nm cm av nv cv ak ns cs) (hg:iG lo (some R) wi wj) (r:bh wj R a len cap P') (hv:dr lo wj (.agg #[iT q',.slice am' nm' cm',.slice av' nv' cv',.slice ak' ns' cs'])) :
 ay wj X (iT q) (.slice am nm cm) (.slice av nv cv) (.slice ak ns cs)∧pH lo R a len cap P' w ((((wj.setCell ⟨X,0,none⟩ (iT q')).setCell ⟨X,1,none⟩ (.slice am' nm' cm')).setCell ⟨X,2,none⟩ (.slice av' nv' cv')).setCell ⟨X,3,none⟩ (.slice ak' ns' cs')) X Z q' am' nm' cm' av' nv' cv' ak' ns' cs':=by
 have m:=h.top;have f:X≠R:=by omega
 have o:Z≠R:=by omega
 have hx:=h.bx.gr (sz:=0) h.kx.1 (fun e=>f (GN e)) hg;have hr:=h.br.gr (sz:=0) h.kx.2 (fun e=>o (GN e)) hg;have k1:=h.kx.1.gr (fun e=>f (GN e)) hg;have s:=h.kx.2.gr (fun e=>o (GN e)) hg;have d:∀b g,a=some ⟨b,g,none⟩→0<len→b≠X:=fun b g e hl=>by
  rcases m.2.2.2.1 with h0 | h0
  · omega
  · have:=h0 b g e;omega
 refine ⟨hx,⟨(((r.other f d _ _).other f d _ _).other f d _ _).other f d _ _,(((hx.set0 _).set1 _).set2 _).set3 _,(((hr.other m.2.2.2.2.2 _).other m.2.2.2.2.2 _).other m.2.2.2.2.2 _).other m.2.2.2.2.2 _,⟨(((k1.setCell _).setCell _).setCell _).setCell _,(((s.setCell _).setCell _).setCell _).setCell _⟩,hv.four k1 hx,(h.low.trans hg).four (by omega) m.2.1 _ _ _ _,m⟩⟩
def AcE (lo R:Nat) (a:Option Addr) (len cap P:Nat) (w wi:World) (X Z:Nat):Prop:=∃P' q am nm cm av nv cv ak ns cs,pH lo R a len cap P' w wi X Z q am nm cm av nv cv ak ns cs∧P'≤P+210
def FU (lo R:Nat) (a:Option Addr) (len cap P d:Nat) (w:World) (e:Ending) (w':World):Prop:=∃v P',e=.returned v∧dr lo w' v∧bh w' R a len cap P'∧P'≤P+d∧iG lo (some R) w w'
theorem pG.parts (h:pG lo w e w'):∃q am nm cm av nv cv ak ns cs b,e=.returned (.tuple #[.agg #[iT q,.slice am nm cm,.slice av nv cv,.slice ak ns cs],.bool b])∧dr lo w' (.agg #[iT q,.slice am nm cm,.slice av nv cv,.slice ak ns cs])∧iG lo none w w':=by
 obtain ⟨v,b,rfl,hg,hl⟩:=h;obtain ⟨q,am,nm,cm,av,nv,cv,ak,ns,cs,rfl⟩:=hg.val;exact ⟨q,am,nm,cm,av,nv,cv,ak,ns,cs,b,rfl,hg,hl⟩
theorem EU (h:dr lo w (.agg #[iT q,.slice am nm cm,.slice av nv cv,.slice ak ns cs])):ns≤4:=by
 obtain ⟨q',am',nm',cm',G,c,ak',ns',cs',m,f,e1,o,r,e2,n2,g,M,A,B,C,S,e,d,b⟩:=h;cases e;have:=d.sn.length;have:=mQ b.1;omega
theorem Be (h:dr lo w (.agg #[iT q,.slice am nm cm,.slice av nv cv,.slice ak ns cs])) {j:Nat} (g:j<ns):∃b d z,ak=some ⟨b,d,none⟩∧w.cell? ⟨b,d+j,none⟩=some (iT z)∧b<w.heap.size:=by
 obtain ⟨q',am',nm',cm',G,c,ak',ns',cs',t,o,e1,u,s,e2,n2,r,M,A,B,C,S,e,f,m⟩:=h;cases e;obtain ⟨b,d,rfl,hb⟩:=f.sn.form (by omega);obtain ⟨z,_,_,hz⟩:=f.sn.num (Below.refl _ w) j g;exact ⟨b,d,z,rfl,hz,hb⟩
theorem AP (R P lo:Nat) (a:Option Addr) (len cap:Nat) (v:Value) (w:World) (h:bh w R a len cap P) (T:ud a len R) (hP:P<80000) (hR:R<lo) (a5:lo≤w.heap.size) (hg:dr lo w v) :
 Calls Tryz.prog 77 #[.pointer (pT R),v] w (FU lo R a len cap P 210 w):=by
 obtain ⟨q,am,nm,cm,av,nv,cv,ak,ns,cs,rfl⟩:=hg.val;obtain ⟨X,L⟩:=aG w.heap.size;obtain ⟨W,O⟩:=aG ((w.alloc (.cells #[iT q,.slice am nm cm,.slice av nv cv,.slice ak ns cs] 31)).alloc (.cells #[iT 0,nZ,nZ,nZ] 31));have kW:Bl w W:=by rw [O];exact bZ.alloc (by simp) _
 have bx:ay W X (iT q) (.slice am nm cm) (.slice av nv cv) (.slice ak ns cs):=by rw [O,L];exact (ay.new _ _ _ _ _ _).alloc _
 have br:ay W (X+1) (iT 0) nZ nZ nZ∧aq W (X+1) 31 4:=by
  have:=ay.new (w.alloc (.cells #[iT q,.slice am nm cm,.slice av nv cv,.slice ak ns cs] 31)) 31 (iT 0) nZ nZ nZ;rw [GY] at this;rw [O,L];have h2:=cX (w.alloc (.cells #[iT q,.slice am nm cm,.slice av nv cv,.slice ak ns cs] 31)) #[iT 0,nZ,nZ,nZ] 31;rw [GY] at h2;exact ⟨this,h2⟩
 have kX:aq W X 31 4:=by rw [O,L];exact (cX w #[iT q,.slice am nm cm,.slice av nv cv,.slice ak ns cs] 31).below bZ
 have S0:Eq (pH lo R a len cap P w W X (X+1) q am nm cm av nv cv ak ns cs):=⟨h.below kW,bx,br.1,⟨kX,br.2⟩,hg.below kW,iG.of kW,a5,Nat.le_of_eq L.symm,hR,T,by omega,by omega⟩;go_enter Tryz.func77,Tryz.ntmps77
 go_upto_region 1 with fail
 rw [← L,← O];clear L O;go_wp2_with fail
 refine (dy R P a len cap 10 _ S0.o.rd (by omega) (by omega)).mono ?_;rintro e I ⟨k,rfl,hk,ad,a8⟩;have aP:0≤k∧k<10:=⟨hk.1,hk.2 (by omega)⟩;have m:=az (S0.o.read a8 ad);go_upto_block 0 with fail
 go_cut [14] (fun _ wz=>AcE lo R a len cap P w wz X (X+1))
 case first =>
  by_cases k0:k=0
  · subst k0;have x0:=m.o.bx.all;go_wp2_with fail
    refine (DL lo _ _ m.o.good (GU m.o.top.1 m.o.low.size)).mono ?_;rintro e w2 hA;obtain ⟨q',am',nm',cm',av',nv',cv',ak',ns',cs',N,rfl,x,hl2⟩:=hA.parts;obtain ⟨d,hS⟩:=m.o.did hl2 x;have B:=az hS;have x0:=d.all;go_wp2;go_meet
    exact ⟨P+1,q',am',nm',cm',av',nv',cv',ak',ns',cs',B.o,by omega⟩
  have aV:(k == 0)=false:=by simpa using k0
  by_cases k1:k=1
  · subst k1;have x0:=m.o.bx.all;go_wp2_with fail
    refine (DL lo _ _ m.o.good (GU m.o.top.1 m.o.low.size)).mono ?_;rintro e w2 hA;obtain ⟨q',am',nm',cm',av',nv',cv',ak',ns',cs',N,rfl,x,hl2⟩:=hA.parts;obtain ⟨d,hS⟩:=m.o.did hl2 x;have B:=az hS;have x0:=d.all;go_wp2;go_meet
    exact ⟨P+1,q',am',nm',cm',av',nv',cv',ak',ns',cs',B.o,by omega⟩
  have aU:(k == 1)=false:=by simpa using k1
  by_cases k2:k=2
  · subst k2;have f:Eq (∀w',ay w' X (iT q) (.slice am nm cm) (.slice av nv cv) (.slice ak ns cs)→(fun w':World=>w'.cell? ⟨X,0,none⟩=some (iT q)∧w'.cell? ⟨X,1,none⟩=some (.slice am nm cm)∧w'.cell? ⟨X,2,none⟩=some (.slice av nv cv)∧w'.cell? ⟨X,3,none⟩=some (.slice ak ns cs)∧X<w'.heap.size) w'):=fun w' b=>⟨b.c0,b.c1,b.c2,b.c3,b.lt⟩
    have y:Eq (pH lo R a len cap (P+1) w I.drew X (X+1) q am nm cm av nv cv ak ns cs):=m.o.below (Below.refl _ I).drew;go_upto_region 7 with fail
    refine FI 9 f y.o.bx fun r=>?_
    generalize I.drew=wd at r y ⊢;refine vl 0 2 r ?_;refine vl 3 1 r ?_;refine sI 2 fun K hK=>?_
    go_simp;refine (dy R (P+1) a len cap 2 _ y.o.rd (by omega) (by omega)).mono ?_;rintro e w3 ⟨ka,rfl,hk,C,D⟩;have t:=az (y.o.read D C);have aI:=hk;go_wp2_with fail
    refine hK.o _ _ (f.o _ t.o.bx) fun r=>?_
    refine sI 4 fun K hK=>?_
    go_simp;refine (dy R (P+1+1) a len cap 3 _ t.o.rd (by omega) (by omega)).mono ?_;rintro e w4 ⟨kb,rfl,hk,C,D⟩;have S4:=az (t.o.read D C);have aH:=hk;go_wp2_with fail
    refine hK.o _ _ (f.o _ S4.o.bx) fun r=>?_
    refine sI 5 fun K hK=>?_
    go_simp;refine (wT lo _ ka kb _ S4.o.good (GU S4.o.top.1 S4.o.low.size)).mono ?_;rintro e w9 hA;obtain ⟨q',am',nm',cm',av',nv',cv',ak',ns',cs',N,rfl,F,E⟩:=hA.parts;obtain ⟨d,hS⟩:=S4.o.did E F;have B:=az hS;have s:=az d;go_wp2_with fail
    refine hK.o _ _ (f.o _ s.o) fun r=>?_
    refine vl 6 2 r ?_;refine Gr 8 r ?_;refine FA 9 fun K hK=>?_
    have x0:=s.o.all;go_simp;refine hK.o _ _ ?_;refine dZ ?_;go_wp2;go_meet
    exact ⟨P+1+1+1,q',am',nm',cm',av',nv',cv',ak',ns',cs',B.o,by omega⟩
  have aS:(k == 2)=false:=by simpa using k2
  by_cases k3:k=3
  · subst k3;have x0:=m.o.bx.all;go_wp2_with fail
    refine (wT lo _ 0 0 _ m.o.good (GU m.o.top.1 m.o.low.size)).mono ?_;rintro e w2 hA;obtain ⟨q',am',nm',cm',av',nv',cv',ak',ns',cs',N,rfl,x,hl2⟩:=hA.parts;obtain ⟨d,hS⟩:=m.o.did hl2 x;have B:=az hS;have x0:=d.all;go_wp2;go_meet
    exact ⟨P+1,q',am',nm',cm',av',nv',cv',ak',ns',cs',B.o,by omega⟩
  have aQ:(k == 3)=false:=by simpa using k3
  by_cases k4:k=4
  · subst k4;have x0:=m.o.bx.all;go_wp2_with fail
    refine (FX lo _ _ m.o.good (GU m.o.top.1 m.o.low.size)).mono ?_;rintro e w2 hA;obtain ⟨q',am',nm',cm',av',nv',cv',ak',ns',cs',N,rfl,x,hl2⟩:=hA.parts;obtain ⟨d,hS⟩:=m.o.did hl2 x;have B:=az hS;have x0:=d.all;go_wp2;go_meet
    exact ⟨P+1,q',am',nm',cm',av',nv',cv',ak',ns',cs',B.o,by omega⟩
  have aB:(k == 4)=false:=by simpa using k4
  by_cases k5:k=5
  · subst k5;have Y:Eq (ns≤4∧∀w':World,dr lo w' (.agg #[iT q,.slice am nm cm,.slice av nv cv,.slice ak ns cs])→∀j,j<ns→∃b u z,ak=some ⟨b,u,none⟩∧w'.cell? ⟨b,u+j,none⟩=some (iT z)∧b<w'.heap.size):=⟨EU m.o.good,fun w' hg j hj=>Be hg hj⟩;by_cases aN:0<ns
    · have aK:(ns:Int) > 0:=by omega
      have ar:=Y.o.1;have x0:=m.o.bx.all;go_upto_region 14 with fail
      have f:Eq (∀w',ay w' X (iT q) (.slice am nm cm) (.slice av nv cv) (.slice ak ns cs)→(fun w':World=>w'.cell? ⟨X,0,none⟩=some (iT q)∧w'.cell? ⟨X,1,none⟩=some (.slice am nm cm)∧w'.cell? ⟨X,2,none⟩=some (.slice av nv cv)∧w'.cell? ⟨X,3,none⟩=some (.slice ak ns cs)∧X<w'.heap.size) w'):=fun w' b=>⟨b.c0,b.c1,b.c2,b.c3,b.lt⟩
      have y:Eq (pH lo R a len cap (P+1) w I.drew X (X+1) q am nm cm av nv cv ak ns cs):=m.o.below (Below.refl _ I).drew;refine FI 14 f y.o.bx fun r=>?_
      generalize I.drew=wd at r y ⊢;refine vl 0 7 r ?_;refine sI 7 fun K hK=>?_
      go_simp;refine (dy R (P+1) a len cap (ns:Int) _ y.o.rd (by omega) (by omega)).mono ?_;rintro e w3 ⟨kc,rfl,hk,C,D⟩;have t:=az (y.o.read D C);have U:=hk;go_wp2_with fail
      refine hK.o _ _ (f.o _ t.o.bx) fun r=>?_
      have a9:=U.1;have aW:kc<(ns:Int):=U.2 (by omega);obtain ⟨kn,rfl⟩:=Il a9;have a2:kn<ns:=by omega
      obtain ⟨b,u,z,rfl,hz⟩:=Y.o.2 _ t.o.good kn a2;have HZ:=az hz;refine vl 8 1 r ?_;refine sI 9 fun K hK=>?_
      have hz:=HZ.o.1;have aE:=HZ.o.2;go_simp;refine hK.o _ _ (f.o _ t.o.bx) fun r=>?_
      refine sI 10 fun K hK=>?_
      go_simp;refine (F1 lo _ z _ t.o.good (GU t.o.top.1 t.o.low.size)).mono ?_;rintro e w9 hA;obtain ⟨q',am',nm',cm',av',nv',cv',ak',ns',cs',N,rfl,F,E⟩:=hA.parts;obtain ⟨d,hS⟩:=t.o.did E F;have B:=az hS;have s:=az d;go_wp2_with fail
      refine hK.o _ _ (f.o _ s.o) fun r=>?_
      refine vl 11 2 r ?_;refine Gr 13 r ?_;refine FA 14 fun K hK=>?_
      have x0:=s.o.all;go_simp;refine hK.o _ _ ?_;refine dZ ?_;go_wp2;go_meet
      exact ⟨P+1+1,q',am',nm',cm',av',nv',cv',ak',ns',cs',B.o,by omega⟩
    · have x0:=m.o.bx.all;obtain rfl:ns=0:=by omega
      go_wp2;go_meet
      exact ⟨P+1,_,_,_,_,_,_,_,_,_,_,m.o,by omega⟩
  have aM:(k == 5)=false:=by simpa using k5
  have f:Eq (∀w',ay w' X (iT q) (.slice am nm cm) (.slice av nv cv) (.slice ak ns cs)→(fun w':World=>w'.cell? ⟨X,0,none⟩=some (iT q)∧w'.cell? ⟨X,1,none⟩=some (.slice am nm cm)∧w'.cell? ⟨X,2,none⟩=some (.slice av nv cv)∧w'.cell? ⟨X,3,none⟩=some (.slice ak ns cs)∧X<w'.heap.size) w'):=fun w' b=>⟨b.c0,b.c1,b.c2,b.c3,b.lt⟩
  have y:Eq (pH lo R a len cap (P+1) w I.drew X (X+1) q am nm cm av nv cv ak ns cs):=m.o.below (Below.refl _ I).drew;go_upto_region 2 with fail
  refine FI 7 f y.o.bx fun r=>?_
  generalize I.drew=wd at r y ⊢;refine vl 0 2 r ?_;refine sI 2 fun K hK=>?_
  go_simp;refine (pn R (P+1) a len cap _ y.o.rd (by omega)).mono ?_;rintro e w3 ⟨g,nb,cb,P',K3,rfl,hO,hF,hn,a3,aO,a7⟩;have t:=az (y.o.read a7 a3);have HE:Eq (ah w3 (pT g) nb cb K3∧pU K3):=⟨hO.entsAt,fun l hl=>(hF l hl).1.2.2⟩;go_wp2_with fail
  refine hK.o _ _ (f.o _ t.o.bx) fun r=>?_
  refine sI 3 fun K hK=>?_
  go_simp;refine (Fq lo _ _ _ _ K3 _ t.o.good (GU t.o.top.1 t.o.low.size) HE.o.1 (by omega) HE.o.2).mono ?_;rintro e w9 hA;obtain ⟨q',am',nm',cm',av',nv',cv',ak',ns',cs',N,rfl,F,E⟩:=hA.parts;obtain ⟨d,hS⟩:=t.o.did E F;have B:=az hS;have s:=az d;go_wp2_with fail
  refine hK.o _ _ (f.o _ s.o) fun r=>?_
  refine vl 4 2 r ?_;refine Gr 6 r ?_;refine FA 7 fun K hK=>?_
  have x0:=s.o.all;go_simp;refine hK.o _ _ ?_;refine dZ ?_;go_wp2;go_meet
  exact ⟨P',q',am',nm',cm',av',nv',cv',ak',ns',cs',B.o,by omega⟩
 case rest =>
  obtain ⟨P',q,am,nm,cm,av,nv,cv,ak,ns,cs,hS,ab⟩:=hcut;have H:=az hS;have x0:=hS.bx.all;have r0:=hS.br.all;go_wp2;refine bodyPost_ret (v:=.agg #[iT q,.slice am nm cm,.slice av nv cv,.slice ak ns cs]) ?_ rfl ⟨_,P',rfl,H.o.good.four H.o.kx.2 H.o.br,?_,ab,H.o.low.four (by have:=H.o.top;omega) (by have:=H.o.top;omega) _ _ _ _⟩
  · have e:=(((H.o.br.set0 (iT q)).set1 (.slice am nm cm)).set2 (.slice av nv cv)).set3 (.slice ak ns cs);simp [results,Tryz.results77,go_sem,e.all]
  · have ht:=H.o.top;have J:X+1≠R:=by omega
    have A:∀b u,a=some ⟨b,u,none⟩→0<len→b≠X+1:=fun b u e hl=>by
     rcases ht.2.2.2.1 with h0 | h0
     · omega
     · have:=h0 b u e;omega
    exact (((H.o.rd.other J A _ _).other J A _ _).other J A _ _).other J A _ _
end Go.Proofs.YtpobkmjicbobdaaGreat
