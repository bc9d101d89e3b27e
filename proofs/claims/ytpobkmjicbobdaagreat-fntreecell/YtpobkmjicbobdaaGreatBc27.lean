/- Walks. -/
import Derived.Test.YtpobkmjicbobdaaGreatBc22
import Derived.Test.YtpobkmjicbobdaaGreatBc23
import Derived.Test.YtpobkmjicbobdaaGreatBc26
namespace Go.Proofs.YtpobkmjicbobdaaGreat
set_option maxRecDepth 100000
set_option maxHeartbeats 40000000
open Go.RowKit
variable {P P' X Z cap cm cm' cs cs' cv cv' fuel i len lo n nm nm' ns ns' nv nv':Nat} {a ak ak' am am' av av':Option Addr} {e:Ending} {q q':Int} {v:Value} {w w' wi wj:World}
section
section
variable {P:Program} {ops:Array Oper} {Q:Exit→Act→World→Prop} {md:Region.Mode} {S:World→Prop} {z:Nat}
def er (P:Program) (md:Region.Mode) (ops:Array Oper) (Q:Exit→Act→World→Prop) (S:World→Prop) (z:Nat):Nat→Array Bool→Act→World→Prop
 | 0,listed,a,w=>Region.ready md ops listed=[]∧Q .normal a w
 | fuel+1,listed,a,w =>
  (Region.ready md ops listed=[]→Q .normal a w) ∧
  ∀i ∈ Region.ready md ops listed,wpOp P ops Q i (fun a' w'=>((listed.setIfInBounds i true).getD z false=true∨S w')∧er P md ops Q S z fuel (listed.setIfInBounds i true) a' w') a w
theorem pb:∀(fuel:Nat) (b:Array Bool) (a:Act) (w:World),er P md ops Q S z fuel b a w→wpAny P md ops Q fuel b a w
 | 0,_,_,_,h=>h
 | fuel+1,_,_,_,h=>⟨h.1,fun i hi=>wpOp_mono (fun d w' h'=>pb fuel _ d w' h'.2) (h.2 i hi)⟩
def vJ (md:Region.Mode) (ops:Array Oper) (listed:Array Bool) (i z:Nat) (D:List Nat):Prop :=
 z ∈ D∧i ∉ D∧∀d ∈ D,listed.getD d true=false∧∃o,ops[d]?=some o∧∃e ∈ o.after,Region.binds md e=true∧(e.on=i∨e.on ∈ D)
theorem ms {b:Array Bool} (h:b.getD i true=false):b.getD i false=false:=by
 rcases Nat.lt_or_ge i b.size with h' | h'
 · simp [h'] at h ⊢;exact h
 · simp [Array.getElem?_eq_none h'] at h
theorem vJ.not_ready {listed:Array Bool} {D:List Nat} (h:vJ md ops listed i z D) (hi:listed.getD i true=false) {d:Nat} (hd:d ∈ D):d ∉ Region.ready md ops listed:=fun hr=>by
 obtain ⟨_,o,ho,e,m,hb,b⟩:=h.2.2 d hd
 obtain ⟨_,r,f,g⟩:=mem_ready.1 hr
 rw [ho] at f
 cases f
 have h1:=g e m hb
 rcases b with b | b
 · rw [b,ms hi] at h1;cases h1
 · rw [ms (h.2.2 _ b).1] at h1;cases h1
theorem s5 {x:Oper} {D:List Nat} (hi:ops[i]?=some x) (s:∀(j:Nat) (o:Oper) cs b,ops[j]?=some o→o.op≠.select cs b)
 (hQ:∀c a w,Q (.panic c) (a.put x.dst v) w→Q (.panic c) a w) :
 ∀(fuel:Nat) (f:Array Bool) (a:Act) (w:World),
  (∀j A,ops[j]?=some A→j≠i→f.getD j true=false→(∀e ∈ A.after,Region.binds md e=true→e.on≠i)→x.apart ops A=true) →
  vJ md ops f i z D→i ∈ Region.ready md ops f→YieldsIf P ops S x v a→S w →
  er P md ops Q S z fuel (f.setIfInBounds i true) (a.put x.dst v) w→er P md ops Q S z (fuel+1) f a w:=by
 intro fuel;induction fuel with
 | zero =>
  intro f a w _ _ hr hy hS H;refine ⟨fun h=>(by rw [h] at hr;cases hr),fun j E=>?_⟩;by_cases g:j=i
  · subst g;exact hy.wpOp hi hS ⟨.inr hS,H⟩
  · have:=ready_mono E g;rw [H.1] at this;cases this
 | succ fuel W =>
  intro f a w m hD hr hy hS H;refine ⟨fun h=>(by rw [h] at hr;cases hr),fun j E=>?_⟩;by_cases g:j=i
  · subst g;exact hy.wpOp hi hS ⟨.inr hS,H⟩
  · have h1:=H.2 j (ready_mono E g);obtain ⟨t,A,y,J⟩:=mem_ready.1 E;have u:=(mem_ready.1 hr).1;have L:∀e ∈ A.after,Region.binds md e=true→e.on≠i:=fun e Y hb R=>by
     have h1:=J e Y hb;rw [R,ms u] at h1;cases h1
    have h2:=wpOp_putIf y (m j A y g t L) (fun cs b=>s i x cs b hi) (fun cs b=>s j A cs b y) hQ hy h1;have r:∀k K,ops[k]?=some K→k≠i→(f.setIfInBounds j true).getD k true=false →
     (∀e ∈ K.after,Region.binds md e=true→e.on≠i)→x.apart ops K=true:=fun k K hk T F N=>by
     refine m k K hk T ?_ N;by_cases C:j=k
     · subst C;exact t
     · rw [getD_set_ne true C] at F;exact F
    have I:∀d ∈ D,j≠d:=fun d hd e=>hD.not_ready u hd (e ▸ E)
    have O:vJ md ops (f.setIfInBounds j true) i z D:=⟨hD.1,hD.2.1,fun d hd=>⟨by rw [getD_set_ne true (I d hd)];exact (hD.2.2 d hd).1,(hD.2.2 d hd).2⟩⟩;have B:∀{w':World},(((f.setIfInBounds i true).setIfInBounds j true).getD z false=true∨S w')→S w':=fun {w'} h=>by
     rcases h with h | h
     · rw [getD_set_ne false (I z hD.1),getD_set_ne false (fun e:i=z=>hD.2.1 (by rw [e];exact hD.1)),ms (hD.2.2 z hD.1).1] at h;cases h
     · exact h
    refine wpOp_mono (fun U w' h3=>⟨.inr (B h3.2.1),W (f.setIfInBounds j true) U w' r O (ready_mono hr (Ne.symm g)) h3.1 (B h3.2.1) ?_⟩) h2;rw [Array.setIfInBounds_comm _ _ g];exact h3.2.2
theorem vP {t:Oper} (hi:ops[i]?=some t) (r:∀(j:Nat) (o:Oper) cs b,ops[j]?=some o→o.op≠.select cs b)
 (hQ:∀c a w,Q (.panic c) (a.put t.dst v) w→Q (.panic c) a w) (hiz:i≠z) :
 ∀(fuel:Nat) (d:Array Bool) (a:Act) (w:World),
  (∀j x,ops[j]?=some x→j≠i→d.getD j true=false→(∀e ∈ x.after,Region.binds md e=true→e.on≠i)→t.apart ops x=true) →
  i ∈ Region.ready md ops d→YieldsIf P ops (fun _=>True) t v a→(d.getD z false=true∨S w) →
  er P md ops Q S z fuel (d.setIfInBounds i true) (a.put t.dst v) w→er P md ops Q S z (fuel+1) d a w:=by
 intro fuel;induction fuel with
 | zero =>
  intro d a w _ hr hy hS H;refine ⟨fun h=>(by rw [h] at hr;cases hr),fun j I=>?_⟩;by_cases f:j=i
  · subst f;exact hy.wpOp hi trivial ⟨by rw [getD_set_ne false hiz];exact hS,H⟩
  · have:=ready_mono I f;rw [H.1] at this;cases this
 | succ fuel O =>
  intro d a w g hr hy hS H;refine ⟨fun h=>(by rw [h] at hr;cases hr),fun j I=>?_⟩;by_cases f:j=i
  · subst f;exact hy.wpOp hi trivial ⟨by rw [getD_set_ne false hiz];exact hS,H⟩
  · have h1:=H.2 j (ready_mono I f);obtain ⟨s,x,u,D⟩:=mem_ready.1 I;have B:=(mem_ready.1 hr).1;have F:∀e ∈ x.after,Region.binds md e=true→e.on≠i:=fun e R hb K=>by
     have h1:=D e R hb;rw [K,ms B] at h1;cases h1
    have h2:=wpOp_putIf u (g j x u f s F) (fun cs b=>r i t cs b hi) (fun cs b=>r j x cs b u) hQ hy h1;have m:∀k E,ops[k]?=some E→k≠i→(d.setIfInBounds j true).getD k true=false →
     (∀e ∈ E.after,Region.binds md e=true→e.on≠i)→t.apart ops E=true:=fun k E hk L C J=>by
     refine g k E hk L ?_ J;by_cases A:j=k
     · subst A;exact s
     · rw [getD_set_ne true A] at C;exact C
    have y:∀{w':World},(((d.setIfInBounds i true).setIfInBounds j true).getD z false=true∨S w')→((d.setIfInBounds j true).getD z false=true∨S w'):=fun {w'} h=>by
     rw [Array.setIfInBounds_comm _ _ (Ne.symm f),getD_set_ne false hiz] at h;exact h
    refine wpOp_mono (fun N w' h3=>⟨y h3.2.1,O (d.setIfInBounds j true) N w' m (ready_mono hr (Ne.symm f)) h3.1 (y h3.2.1) ?_⟩) h2;rw [Array.setIfInBounds_comm _ _ f];exact h3.2.2
def xR (md:Region.Mode) (ops:Array Oper) (i:Nat):List Nat :=
 (List.range ops.size).foldl (fun acc j=>match ops[j]? with
  | some o=>if o.after.any (fun e=>Region.binds md e && (e.on == i || acc.contains e.on)) then acc++[j] else acc
  | none=>acc) []
def s6 (md:Region.Mode) (ops:Array Oper) (listed:Array Bool) (i z:Nat) (D:List Nat):Bool :=
 D.contains z && !D.contains i && D.all fun d=>!listed.getD d true && match ops[d]? with
  | some o=>o.after.any (fun e=>Region.binds md e && (e.on == i || D.contains e.on))
  | none=>false
theorem AQ {b:Array Bool} {D:List Nat} (h:s6 md ops b i z D=true):vJ md ops b i z D:=by
 unfold s6 at h;simp only [FJ,FZ,Hq,List.contains_eq_mem,decide_eq_true_eq,decide_eq_false_iff_not] at h;refine ⟨h.1.1,h.1.2,fun d hd=>?_⟩;obtain ⟨h1,h2⟩:=h.2 d hd;refine ⟨h1,?_⟩;cases ho:ops[d]? with
 | none=>rw [ho] at h2;cases h2
 | some o =>
  rw [ho] at h2;obtain ⟨e,f,hb⟩:=Array.any_eq_true'.1 h2;simp only [FJ,Hi,beq_iff_eq,decide_eq_true_eq] at hb;exact ⟨o,rfl,e,f,hb.1,hb.2⟩
end
def sV (P:Program) (md:Region.Mode) (l:List Oper) (Q:Exit→Act→World→Prop) (S:World→Prop) (z fuel:Nat) (w:World):Nat→Nat→Array Bool→Act→Prop
 | 0,_,listed,a=>er P md l.toArray Q S z fuel listed a w
 | n+1,i,listed,a=>∃oi v,(l[i]?=some oi∧Region.noSelect l.toArray=true∧Region.free md l.toArray listed i=true∧(Region.ready md l.toArray listed).contains i=true∧s6 md l.toArray listed i z (xR md l.toArray i)=true)∧(∀c a w,Q (.panic c) (a.put oi.dst v) w→Q (.panic c) a w)∧YieldsIf P l.toArray S oi v a∧sV P md l Q S z fuel w n (i+1) (listed.setIfInBounds i true) (a.put oi.dst v)
theorem tz0 {P:Program} {md:Region.Mode} {l:List Oper} {Q:Exit→Act→World→Prop} {S:World→Prop} {z:Nat} {b:Array Bool} {a:Act} (h:er P md l.toArray Q S z fuel b a w):sV P md l Q S z fuel w 0 i b a:=h
theorem Fq {P:Program} {md:Region.Mode} {l:List Oper} {Q:Exit→Act→World→Prop} {S:World→Prop} {z:Nat} {b:Array Bool} {a:Act} {d:Oper} (hi:l[i]?=some d) (hs:Region.noSelect l.toArray=true) (hf:Region.free md l.toArray b i=true) (hr:(Region.ready md l.toArray b).contains i=true) (hz:s6 md l.toArray b i z (xR md l.toArray i)=true)
 (hQ:∀c a w,Q (.panic c) (a.put d.dst v) w→Q (.panic c) a w) (hy:YieldsIf P l.toArray S d v a) (h:sV P md l Q S z fuel w n (i+1) (b.setIfInBounds i true) (a.put d.dst v)):sV P md l Q S z fuel w (n+1) i b a:=⟨d,v,⟨hi,hs,hf,hr,hz⟩,hQ,hy,h⟩
theorem Fp {P:Program} {md:Region.Mode} {l:List Oper} {Q:Exit→Act→World→Prop} {S:World→Prop} {z fuel:Nat} {w:World} (hS:S w):∀(n i:Nat) (b:Array Bool) (a:Act),sV P md l Q S z fuel w n i b a→er P md l.toArray Q S z (fuel+n) b a w
 | 0,_,_,_,h=>h
 | n+1,_,_,_,⟨_,_,⟨hi,hs,hf,hr,hz⟩,hQ,hy,h⟩=>s5 (by simpa using hi) (Region.noSelect_spec hs) hQ _ _ _ _ (Region.free_spec (by simpa using hi) hf) (AQ hz) (by simpa using hr) hy hS (Fp hS n _ _ _ h)
theorem ud {P:Program} {md:Region.Mode} {l:List Oper} {Q:Exit→Act→World→Prop} {S:World→Prop} {z:Nat} (i n:Nat) {b:Array Bool} {a:Act} {g:Prop} (hS:S w) (h:g)
 (e:g→sV P md l Q S z fuel w n i b a:=by
  (intro hg;repeat (first | exact tz0 hg | ((refine Fq (v:=?_) rfl (by kernel_rfl) (by kernel_rfl) (by kernel_rfl) (by kernel_rfl) (fun _ _ _ h=>h) (Or.inl ⟨by rfl,?_⟩) ?_;rotate_left;· (intro w d;(try dsimp only at d);go_simp;try with_reducible rfl));try simp only [Act.put,G8,GL,GY]) | (refine Fq (v:=undef) rfl (by kernel_rfl) (by kernel_rfl) (by kernel_rfl) (by kernel_rfl) (fun _ _ _ h=>h) (Or.inr ⟨by rfl,rfl⟩) ?_;try simp only [Act.put,G8,GL,GY])))):er P md l.toArray Q S z (fuel+n) b a w:=Fp hS n i b a (e h)
theorem Fc {P:Program} {md:Region.Mode} {l:List Oper} {Q:Exit→Act→World→Prop} {S:World→Prop} {z:Nat} (i:Nat) {b:Array Bool} {a:Act} {oi:Oper} {v:Value} (hS:S w) (h:er P md l.toArray Q S z fuel (b.setIfInBounds i true) (a.put oi.dst v) w)
 (hi:l[i]?=some oi:=by exact rfl) (hy:YieldsIf P l.toArray (fun _=>True) oi v a:=by (refine Or.inl ⟨by rfl,?_⟩;intro w _;go_simp;try with_reducible rfl)) (hs:Region.noSelect l.toArray=true:=by kernel_rfl) (hf:Region.free md l.toArray b i=true:=by kernel_rfl) (hr:(Region.ready md l.toArray b).contains i=true:=by kernel_rfl) (hiz:i≠z:=by decide)
 (hQ:∀c a w,Q (.panic c) (a.put oi.dst v) w→Q (.panic c) a w:=by exact fun _ _ _ h=>h):er P md l.toArray Q S z (fuel+1) b a w:=vP (by simpa using hi) (Region.noSelect_spec hs) hQ hiz _ _ _ _ (Region.free_spec (by simpa using hi) hf) (by simpa using hr) hy (.inr hS) h
def ld (P:Program) (md:Region.Mode) (ops:Array Oper) (Q:Exit→Act→World→Prop) (S:World→Prop) (z fuel:Nat) (listed:Array Bool) (a:Act) (w:World) (rs:List Nat):Prop :=
 ∀i ∈ rs,wpOp P ops Q i (fun a' w'=>((listed.setIfInBounds i true).getD z false=true∨S w')∧er P md ops Q S z fuel (listed.setIfInBounds i true) a' w') a w
theorem C6 {P:Program} {md:Region.Mode} {ops:Array Oper} {Q:Exit→Act→World→Prop} {S:World→Prop} {z:Nat} {b:Array Bool} {a:Act}:ld P md ops Q S z fuel b a w []:=fun _ h=>by cases h
theorem EX {P:Program} {l:List Oper} {Q:Exit→Act→World→Prop} {md:Region.Mode} {S:World→Prop} {z:Nat} {b:Array Bool} {a:Act} {o:Oper} {g:List Nat} (ho:l[i]?=some o)
 (h:∀d:Act→World→Prop,FA (∀a w,S w→(S w→er P md l.toArray Q S z fuel (b.setIfInBounds i true) a w)→d a w)→if Region.wanted o (yielded l.toArray a.tmps)=true then Oper.wp P o a w d Q else d (a.put o.dst undef) w)
 (hs:ld P md l.toArray Q S z fuel b a w g):ld P md l.toArray Q S z fuel b a w (i :: g):=fun j f=>by
 rcases FF.1 f with rfl | f
 · exact wpOp_step (by simpa using ho) (fun d hK=>h d (fun a w hS m=>hK a w ⟨.inr hS,m hS⟩))
 · exact hs j f
theorem Br {P:Program} {l:List Oper} {Q:Exit→Act→World→Prop} {md:Region.Mode} {S:World→Prop} {z:Nat} {b:Array Bool} {a:Act} {f:List Nat} (hr:Region.ready md l.toArray b=f) (d:f≠[]) (h:ld P md l.toArray Q S z fuel b a w f):er P md l.toArray Q S z (fuel+1) b a w :=
 ⟨fun h0=>absurd (hr ▸ h0) d,hr ▸ h⟩
theorem qY {P:Program} {l:List Oper} {Q:Exit→Act→World→Prop} {md:Region.Mode} {S:World→Prop} {z:Nat} (i:Nat) {o:Oper} {fuel:Nat} {b:Array Bool} {a:Act} {w:World}
 (h:∀d:Act→World→Prop,FA (∀a w,S w→(S w→er P md l.toArray Q S z fuel (b.setIfInBounds i true) a w)→d a w)→if Region.wanted o (yielded l.toArray a.tmps)=true then Oper.wp P o a w d Q else d (a.put o.dst undef) w)
 (ho:l[i]?=some o:=by exact rfl) (hr:Region.ready md l.toArray b=[i]:=by kernel_rfl):er P md l.toArray Q S z (fuel+1) b a w:=Br hr (by simp) (EX ho h C6)
theorem Ek {P:Program} {l:List Oper} {Q:Exit→Act→World→Prop} {md:Region.Mode} {S:World→Prop} {z:Nat} (i:Nat) {o:Oper} {fuel:Nat} {b:Array Bool} {a:Act} {w:World}
 (h:∀d:Act→World→Prop,FA (∀a w,er P md l.toArray Q S z fuel (b.setIfInBounds i true) a w→d a w)→if Region.wanted o (yielded l.toArray a.tmps)=true then Oper.wp P o a w d Q else d (a.put o.dst undef) w)
 (ho:l[i]?=some o:=by exact rfl) (hr:Region.ready md l.toArray b=[i]:=by kernel_rfl) (hz:(b.setIfInBounds i true).getD z false=true:=by kernel_rfl):er P md l.toArray Q S z (fuel+1) b a w :=
 Br hr (by simp) (fun j f=>by
  rcases FF.1 f with rfl | f
  · exact wpOp_step (by simpa using ho) (fun d hK=>h d (fun a w g=>hK a w ⟨.inl hz,g⟩))
  · cases f)
theorem Ey {P:Program} {ops:Array Oper} {Q:Exit→Act→World→Prop} {id:Nat} {a:Act} {R S:World→Prop} (z:Nat) (H:Eq (∀w',R w'→S w')) (k:R w.drew) (h:S w.drew→er P .any ops Q S z ops.size (Array.replicate ops.size false) a w.drew) (hm:P.follows .mixedOrders=true:=by kernel_rfl):(Code.region id ops true).wp P Q a w:=wp_region_any hm (pb _ _ _ _ (h (H.o _ k)))
theorem dZ {P:Program} {md:Region.Mode} {l:List Oper} {Q:Exit→Act→World→Prop} {S:World→Prop} {z fuel:Nat} {b:Array Bool} {a:Act} (h:Q .normal a w) (hr:Region.ready md l.toArray b=[]:=by kernel_rfl):er P md l.toArray Q S z fuel b a w:=by
 cases fuel with
 | zero=>exact ⟨hr,h⟩
 | succ n=>exact ⟨fun _=>h,by rw [hr];simp⟩
end
theorem mP {M:List ae} {A B C:List aj} {S:List Int} {t:Bool} (h:vK q nm 3 n M [A,B,C] S t w e w') (b:lo≤w.heap.size) (htb:aY q M [A,B,C] S=true∧mG M A B C):oQ lo w e w':=by
 obtain ⟨u,c1,G,c,x,c3,rfl,hC,hb⟩:=h;obtain ⟨m,s,g,o,d,f,r⟩:=hC.trS b;exact ⟨_,_,rfl,⟨q,_,_,_,G,c,_,_,_,m,s,g,_,o,d,_,f,M,A,B,C,S,rfl,r,htb⟩,ir.of hb⟩
theorem EN (lo:Nat) (v:Value) (w:World) (h:dg lo w v) (b:lo≤w.heap.size):Calls Tryz.prog 36 #[v] w (oQ lo w):=by
 obtain ⟨q,am,nm,cm,G,c,ak,ns,cs,r,m,e1,g,o,e2,n2,s,M,A,B,C,S,rfl,d,htb⟩:=h;have hq:=aZ htb.1;have f:=d.sn.length;refine (ze 0 q am nm cm _ 3 c ak ns cs M [A,B,C] S w d.treeIn (FW (by omega)) htb.1).mono ?_;rintro e w' ⟨h1,h2⟩;by_cases hc:ns<4∧q ∉ S
 · exact mP (h1 hc) b ⟨yR htb.1 (by omega) hc.2,htb.2⟩
 · exact mP (h2 hc) b htb
theorem ER (lo:Nat) (v:Value) (d:Int) (w:World) (h:dg lo w v) (b:lo≤w.heap.size):Calls Tryz.prog 45 #[v,iT d] w (oQ lo w):=by
 obtain ⟨q,am,nm,cm,G,c,ak,ns,cs,r,m,e1,g,o,e2,n2,s,M,A,B,C,S,rfl,f,htb⟩:=h;refine (zh 0 q am nm cm _ 3 c ak ns cs M [A,B,C] S d w f.treeIn htb.1).mono ?_;rintro e w' ⟨n,h1⟩;exact mP h1 b ⟨yS htb.1 d,htb.2⟩
theorem Ec (lo:Nat) (v:Value) (o:Option Addr) (f s:Nat) (K:List ae) (w:World) (h:dg lo w v) (g:lo≤w.heap.size) (hK:ah w o f s K) (r:f≤1048576) (m:o9 K):Calls Tryz.prog 98 #[v,.slice o f s] w (oQ lo w):=by
 obtain ⟨q,am,nm,cm,G,c,ak,ns,cs,y,u,e1,t,x,e2,n2,D,M,A,B,C,S,rfl,d,htb⟩:=h;have hp:=aZ htb.1;have E:=d.mem.len;refine (vZ lo q am nm cm _ 3 c ak ns cs M [A,B,C] S o f s K w d.treeIn g d.mem hK r (by omega) hp.1 hp.2.1).mono ?_;rintro e w' ⟨h1,h2⟩;cases hw:gX q M K with
 | true =>
  obtain ⟨a,n,c',rfl,_,hb,hO⟩:=h1 hw;have b:=d.below hb;exact ⟨_,_,rfl,⟨_,a,n,c',G,c,ak,ns,cs,y,u,e1,t,x,e2,n2,D,_,A,B,C,S,rfl,⟨hO,b.row,b.rA,b.rB,b.rC,b.sn,b.sk⟩,vR htb.1 hw,o9.puts _ htb.2.1 m.stamped,htb.2.2⟩,ir.of hb⟩
 | false =>
  obtain ⟨rfl,hb⟩:=h2 hw;exact ⟨_,_,rfl,⟨q,am,nm,cm,G,c,ak,ns,cs,y,u,e1,t,x,e2,n2,D,M,A,B,C,S,rfl,d.below hb,htb⟩,ir.of hb⟩
theorem dg.read {R:Nat} {f:Option Addr} (h:dg lo w v) (hR:bj w R f len cap P) (hl:R<lo) (hg:w.grownBy w' (some R)):dg lo w' v:=by
 obtain ⟨q,am,nm,cm,G,c,ak,ns,cs,o,g,e1,b,m,e2,n2,s,M,A,B,C,S,rfl,d,htb⟩:=h;have hs:=oR htb.1;exact ⟨q,am,nm,cm,G,c,ak,ns,cs,o,g,e1,b,m,e2,n2,s,M,A,B,C,S,rfl,d.read hR hl (fun r hr=>((hs B (by simp)).2 r hr).1) (fun r hr=>((hs C (by simp)).2 r hr).1) hg,htb⟩
def EY (v:Value):Prop:=∃q am nm cm av nv cv ak ns cs,v=.agg #[iT q,.slice am nm cm,.slice av nv cv,.slice ak ns cs]
theorem dg.val (h:dg lo w v):EY v:=by
 obtain ⟨q,am,nm,cm,G,c,ak,ns,cs,f,o,e1,m,d,e2,n2,g,M,A,B,C,S,rfl,b,htb⟩:=h;exact ⟨_,_,_,_,_,_,_,_,_,_,rfl⟩
theorem dg.four {z:Int} {a1 a2 a3 b1 b2 b3:Option Addr} {m1 k1 m2 k2 m3 k3 b d g s u t:Nat} (h:dg lo w v) (hk:ay w X 31 4) (o:aE w X (iT z) (.slice b1 b d) (.slice b2 g s) (.slice b3 u t)):dg lo ((((w.setCell ⟨X,0,none⟩ (iT q)).setCell ⟨X,1,none⟩ (.slice a1 m1 k1)).setCell ⟨X,2,none⟩ (.slice a2 m2 k2)).setCell ⟨X,3,none⟩ (.slice a3 m3 k3)) v:=by
 obtain ⟨q,am,nm,cm,G,c,ak,ns,cs,y,r,e1,f,x,e2,n2,D,M,A,B,C,S,rfl,m,htb⟩:=h;exact ⟨q,am,nm,cm,G,c,ak,ns,cs,y,r,e1,f,x,e2,n2,D,M,A,B,C,S,rfl,m.four hk o,htb⟩
theorem bj.gr {R:Nat} (h:bj w R a len cap P) (d:sY a len R) (hl:R<lo) (hg:ir lo none w w'):bj w' R a len cap P:=by
 have hb:∀b,b<lo→b<w.heap.size→∀o,w'.cell? ⟨b,o,none⟩=w.cell? ⟨b,o,none⟩:=fun b h1 h2 o=>Gc (a:=⟨b,o,none⟩) (hg.block b h2 (by simp) (.inl h1))
 refine ⟨(hb R hl h.lt 0).trans h.c0,(hb R hl h.lt 1).trans h.c1,(Hb (a:=⟨R,1,none⟩) (hg.block R h.lt (by simp) (.inl hl))).trans h.f1,h.few,fun o=>(hb R hl h.lt _).trans (h.two o),?_⟩;rcases h.bytes with h0 | ⟨b,g,ha,m,f,hc⟩
 · exact .inl h0
 · rcases d with e | d
   · exact .inl e
   refine .inr ⟨b,g,ha,m,u' f hg.size,fun i hi=>?_⟩;obtain ⟨z,hz,r⟩:=hc i hi;have:=d b g ha;exact ⟨z,hz,(hb b (by omega) f _).trans r⟩
theorem aE.gr {sz:Nat} {R:Option Nat} {u0 u1 u2 u3:Value} (h:aE w X u0 u1 u2 u3) (hk:ay w X 31 4) (hR:some X≠R) (hg:ir lo R w w') (_:sz=sz:=rfl):aE w' X u0 u1 u2 u3:=by
 have hb:=hg.block X h.lt hR (.inr hk);have hc:∀o,w'.cell? ⟨X,o,none⟩=w.cell? ⟨X,o,none⟩:=fun o=>Gc (a:=⟨X,o,none⟩) hb
 exact ⟨(hc 0).trans h.c0,(hc 1).trans h.c1,(hc 2).trans h.c2,(hc 3).trans h.c3,fun o=>(Hb (a:=⟨X,o,none⟩) hb).trans (h.fz o)⟩
theorem ay.gr {R:Option Nat} (hk:ay w X 31 4) (hR:some X≠R) (hg:ir lo R w w'):ay w' X 31 4:=hk.same (hg.block X hk.lt hR (.inr hk))
structure lU (lo R:Nat) (a:Option Addr) (len cap P:Nat) (w wi:World) (X Z:Nat) (q:Int) (am:Option Addr) (nm cm:Nat) (av:Option Addr) (nv cv:Nat) (ak:Option Addr) (ns cs:Nat):Prop where
 rd:bj wi R a len cap P
 bx:aE wi X (iT q) (.slice am nm cm) (.slice av nv cv) (.slice ak ns cs)
 br:aE wi Z (iT 0) nZ nZ nZ
 kx:ay wi X 31 4∧ay wi Z 31 4
 good:dg lo wi (.agg #[iT q,.slice am nm cm,.slice av nv cv,.slice ak ns cs])
 low:ir lo (some R) w wi
 top:lo≤w.heap.size∧w.heap.size≤X∧R<lo∧sY a len R∧w.heap.size≤Z∧X≠Z
theorem lU.below {R:Nat} (h:lU lo R a len cap P w wi X Z q am nm cm av nv cv ak ns cs) (hb:Bl wi wj):lU lo R a len cap P w wj X Z q am nm cm av nv cv ak ns cs :=
 ⟨h.rd.below hb,h.bx.keep hb,h.br.keep hb,⟨h.kx.1.below hb,h.kx.2.below hb⟩,h.good.below hb,h.low.next hb,h.top⟩
theorem lU.read {R:Nat} (h:lU lo R a len cap P w wi X Z q am nm cm av nv cv ak ns cs) (hg:wi.grownBy wj (some R)) (hr:bj wj R a len cap P'):lU lo R a len cap P' w wj X Z q am nm cm av nv cv ak ns cs :=
 have h1:X≠R:=by have:=h.top;omega
 have h2:Z≠R:=by have:=h.top;omega
 ⟨hr,h.bx.grownB hg h1,h.br.grownB hg h2,⟨h.kx.1.grown hg h1,h.kx.2.grown hg h2⟩,h.good.read h.rd h.top.2.2.1 hg,h.low.any hg,h.top⟩
theorem lU.did {R:Nat} (h:lU lo R a len cap P w wi X Z q am nm cm av nv cv ak ns cs) (hg:ir lo none wi wj) (hv:dg lo wj (.agg #[iT q',.slice am' nm' cm',.slice av' nv' cv',.slice ak' ns' cs'])) :
 aE wj X (iT q) (.slice am nm cm) (.slice av nv cv) (.slice ak ns cs)∧lU lo R a len cap P w ((((wj.setCell ⟨X,0,none⟩ (iT q')).setCell ⟨X,1,none⟩ (.slice am' nm' cm')).setCell ⟨X,2,none⟩ (.slice av' nv' cv')).setCell ⟨X,3,none⟩ (.slice ak' ns' cs')) X Z q' am' nm' cm' av' nv' cv' ak' ns' cs':=by
 have g:=h.top;have hx:=h.bx.gr (sz:=0) h.kx.1 (by simp) hg;have hr:=h.br.gr (sz:=0) h.kx.2 (by simp) hg;have k1:=h.kx.1.gr (by simp) hg;have k2:=h.kx.2.gr (by simp) hg;have o:=h.rd.gr g.2.2.2.1 g.2.2.1 hg;have d:∀b m,a=some ⟨b,m,none⟩→0<len→b≠X:=fun b m e hl=>by
  rcases g.2.2.2.1 with h0 | h0
  · omega
  · have:=h0 b m e;omega
 have f:X≠R:=by omega
 refine ⟨hx,⟨(((o.other f d _ _).other f d _ _).other f d _ _).other f d _ _,(((hx.set0 _).set1 _).set2 _).set3 _,(((hr.other g.2.2.2.2.2 _).other g.2.2.2.2.2 _).other g.2.2.2.2.2 _).other g.2.2.2.2.2 _,⟨(((k1.setCell _).setCell _).setCell _).setCell _,(((k2.setCell _).setCell _).setCell _).setCell _⟩,hv.four k1 hx,(h.low.trans hg.weak).four (by omega) g.2.1 _ _ _ _,g⟩⟩
theorem lU.acted {R:Nat} (h:lU lo R a len cap P w wi X Z q am nm cm av nv cv ak ns cs) (hg:ir lo (some R) wi wj) (r:bj wj R a len cap P') (hv:dg lo wj (.agg #[iT q',.slice am' nm' cm',.slice av' nv' cv',.slice ak' ns' cs'])) :
 aE wj X (iT q) (.slice am nm cm) (.slice av nv cv) (.slice ak ns cs)∧lU lo R a len cap P' w ((((wj.setCell ⟨X,0,none⟩ (iT q')).setCell ⟨X,1,none⟩ (.slice am' nm' cm')).setCell ⟨X,2,none⟩ (.slice av' nv' cv')).setCell ⟨X,3,none⟩ (.slice ak' ns' cs')) X Z q' am' nm' cm' av' nv' cv' ak' ns' cs':=by
 have m:=h.top;have f:X≠R:=by omega
 have o:Z≠R:=by omega
 have hx:=h.bx.gr (sz:=0) h.kx.1 (fun e=>f (Fx e)) hg;have hr:=h.br.gr (sz:=0) h.kx.2 (fun e=>o (Fx e)) hg;have k1:=h.kx.1.gr (fun e=>f (Fx e)) hg;have k2:=h.kx.2.gr (fun e=>o (Fx e)) hg;have d:∀b g,a=some ⟨b,g,none⟩→0<len→b≠X:=fun b g e hl=>by
  rcases m.2.2.2.1 with h0 | h0
  · omega
  · have:=h0 b g e;omega
 refine ⟨hx,⟨(((r.other f d _ _).other f d _ _).other f d _ _).other f d _ _,(((hx.set0 _).set1 _).set2 _).set3 _,(((hr.other m.2.2.2.2.2 _).other m.2.2.2.2.2 _).other m.2.2.2.2.2 _).other m.2.2.2.2.2 _,⟨(((k1.setCell _).setCell _).setCell _).setCell _,(((k2.setCell _).setCell _).setCell _).setCell _⟩,hv.four k1 hx,(h.low.trans hg).four (by omega) m.2.1 _ _ _ _,m⟩⟩
def AcE (lo R:Nat) (a:Option Addr) (len cap P:Nat) (w wi:World) (X Z:Nat):Prop:=∃P' q am nm cm av nv cv ak ns cs,lU lo R a len cap P' w wi X Z q am nm cm av nv cv ak ns cs∧P'≤P+210
def EK (lo R:Nat) (a:Option Addr) (len cap P d:Nat) (w:World) (e:Ending) (w':World):Prop:=∃v P',e=.returned v∧dg lo w' v∧bj w' R a len cap P'∧P'≤P+d∧ir lo (some R) w w'
theorem oQ.parts (h:oQ lo w e w'):∃q am nm cm av nv cv ak ns cs b,e=.returned (.tuple #[.agg #[iT q,.slice am nm cm,.slice av nv cv,.slice ak ns cs],.bool b])∧dg lo w' (.agg #[iT q,.slice am nm cm,.slice av nv cv,.slice ak ns cs])∧ir lo none w w':=by
 obtain ⟨v,b,rfl,hg,hl⟩:=h;obtain ⟨q,am,nm,cm,av,nv,cv,ak,ns,cs,rfl⟩:=hg.val;exact ⟨q,am,nm,cm,av,nv,cv,ak,ns,cs,b,rfl,hg,hl⟩
theorem DE (h:dg lo w (.agg #[iT q,.slice am nm cm,.slice av nv cv,.slice ak ns cs])):ns≤4:=by
 obtain ⟨q',am',nm',cm',G,c,ak',ns',cs',g,o,e1,f,d,e2,n2,m,M,A,B,C,S,e,b,htb⟩:=h;cases e;have:=b.sn.length;have:=l8 htb.1;omega
theorem Ag (h:dg lo w (.agg #[iT q,.slice am nm cm,.slice av nv cv,.slice ak ns cs])) {j:Nat} (g:j<ns):∃b d z,ak=some ⟨b,d,none⟩∧w.cell? ⟨b,d+j,none⟩=some (iT z)∧b<w.heap.size:=by
 obtain ⟨q',am',nm',cm',G,c,ak',ns',cs',s,o,e1,m,r,e2,n2,t,M,A,B,C,S,e,f,htb⟩:=h;cases e;obtain ⟨b,d,rfl,hb⟩:=f.sn.form (by omega);obtain ⟨z,_,_,hz⟩:=f.sn.num (Below.refl _ w) j g;exact ⟨b,d,z,rfl,hz,hb⟩
theorem zN (R P lo:Nat) (a:Option Addr) (len cap:Nat) (v:Value) (w:World) (h:bj w R a len cap P) (L:sY a len R) (hP:P<80000) (hR:R<lo) (a6:lo≤w.heap.size) (hg:dg lo w v) :
 Calls Tryz.prog 77 #[.pointer (pT R),v] w (EK lo R a len cap P 210 w):=by
 obtain ⟨q,am,nm,cm,av,nv,cv,ak,ns,cs,rfl⟩:=hg.val;obtain ⟨X,Y⟩:=aG w.heap.size;obtain ⟨W,U⟩:=aG ((w.alloc (.cells #[iT q,.slice am nm cm,.slice av nv cv,.slice ak ns cs] 31)).alloc (.cells #[iT 0,nZ,nZ,nZ] 31));have kW:Bl w W:=by rw [U];exact bZ.alloc (by simp) _
 have bx:aE W X (iT q) (.slice am nm cm) (.slice av nv cv) (.slice ak ns cs):=by rw [U,Y];exact (aE.new _ _ _ _ _ _).alloc _
 have br:aE W (X+1) (iT 0) nZ nZ nZ∧ay W (X+1) 31 4:=by
  have:=aE.new (w.alloc (.cells #[iT q,.slice am nm cm,.slice av nv cv,.slice ak ns cs] 31)) 31 (iT 0) nZ nZ nZ;rw [FP] at this;rw [U,Y];have h2:=cP (w.alloc (.cells #[iT q,.slice am nm cm,.slice av nv cv,.slice ak ns cs] 31)) #[iT 0,nZ,nZ,nZ] 31;rw [FP] at h2;exact ⟨this,h2⟩
 have kX:ay W X 31 4:=by rw [U,Y];exact (cP w #[iT q,.slice am nm cm,.slice av nv cv,.slice ak ns cs] 31).below bZ
 have S0:Eq (lU lo R a len cap P w W X (X+1) q am nm cm av nv cv ak ns cs):=⟨h.below kW,bx,br.1,⟨kX,br.2⟩,hg.below kW,ir.of kW,a6,Nat.le_of_eq Y.symm,hR,L,by omega,by omega⟩;clear h L hR a6 hg kW bx br kX;go_enter Tryz.func77,Tryz.ntmps77
 go_upto_region 1 with fail
 rw [← Y,← U];clear Y U;go_wp2_with fail
 refine (cu R P a len cap 10 _ S0.o.rd (by omega) (by omega)).mono ?_;rintro e H ⟨k,rfl,hk,a5,a0⟩;have ae:0≤k∧k<10:=⟨hk.1,hk.2 (by omega)⟩;have m:Eq (lU lo R a len cap (P+1) w H X (X+1) q am nm cm av nv cv ak ns cs):=S0.o.read a0 a5;clear S0 a0 a5 hk;go_upto_block 0 with fail
 go_cut [14] (fun _ wz=>AcE lo R a len cap P w wz X (X+1))
 case first =>
  by_cases k0:k=0
  · subst k0;have x0:=m.o.bx.all;go_wp2_with fail
    clear x0;refine (Cj lo _ _ m.o.good (FK m.o.top.1 m.o.low.size)).mono ?_;rintro e w2 hA;obtain ⟨q',am',nm',cm',av',nv',cv',ak',ns',cs',T,rfl,s,hl2⟩:=hA.parts;obtain ⟨d,hS⟩:=m.o.did hl2 s;have F:=bT hS;have x0:=d.all;clear hS hA s hl2;go_wp2;go_meet
    exact ⟨P+1,q',am',nm',cm',av',nv',cv',ak',ns',cs',F.o,by omega⟩
  have aO:(k == 0)=false:=by simpa using k0
  by_cases k1:k=1
  · subst k1;have x0:=m.o.bx.all;go_wp2_with fail
    clear x0;refine (Cj lo _ _ m.o.good (FK m.o.top.1 m.o.low.size)).mono ?_;rintro e w2 hA;obtain ⟨q',am',nm',cm',av',nv',cv',ak',ns',cs',T,rfl,s,hl2⟩:=hA.parts;obtain ⟨d,hS⟩:=m.o.did hl2 s;have F:=bT hS;have x0:=d.all;clear hS hA s hl2;go_wp2;go_meet
    exact ⟨P+1,q',am',nm',cm',av',nv',cv',ak',ns',cs',F.o,by omega⟩
  have aK:(k == 1)=false:=by simpa using k1
  by_cases k2:k=2
  · subst k2;have f:Eq (∀w',aE w' X (iT q) (.slice am nm cm) (.slice av nv cv) (.slice ak ns cs)→(fun w':World=>w'.cell? ⟨X,0,none⟩=some (iT q)∧w'.cell? ⟨X,1,none⟩=some (.slice am nm cm)∧w'.cell? ⟨X,2,none⟩=some (.slice av nv cv)∧w'.cell? ⟨X,3,none⟩=some (.slice ak ns cs)∧X<w'.heap.size) w'):=fun w' b=>⟨b.c0,b.c1,b.c2,b.c3,b.lt⟩
    have B:Eq (lU lo R a len cap (P+1) w H.drew X (X+1) q am nm cm av nv cv ak ns cs):=m.o.below (Below.refl _ H).drew;go_upto_region 7 with fail
    refine Ey 9 f B.o.bx fun r=>?_
    generalize H.drew=wd at r B ⊢;refine ud 0 2 r ?_;refine ud 3 1 r ?_;refine qY 2 fun K hK=>?_
    go_simp;refine (cu R (P+1) a len cap 2 _ B.o.rd (by omega) (by omega)).mono ?_;rintro e N ⟨ka,rfl,hk,D,A⟩;have x:Eq (lU lo R a len cap (P+1+1) w N X (X+1) q am nm cm av nv cv ak ns cs):=B.o.read A D;have aV:0≤ka∧(1≤(2:Int)→ka<2):=hk;clear A D hk B;go_wp2_with fail
    refine hK.o _ _ (f.o _ x.o.bx) fun r=>?_
    (try go_frame);refine qY 4 fun K hK=>?_
    go_simp;refine (cu R (P+1+1) a len cap 3 _ x.o.rd (by omega) (by omega)).mono ?_;rintro e w4 ⟨kb,rfl,hk,D,A⟩;have S4:Eq (lU lo R a len cap (P+1+1+1) w w4 X (X+1) q am nm cm av nv cv ak ns cs):=x.o.read A D;have aU:0≤kb∧(1≤(3:Int)→kb<3):=hk;clear A D hk x;go_wp2_with fail
    refine hK.o _ _ (f.o _ S4.o.bx) fun r=>?_
    (try go_frame);refine qY 5 fun K hK=>?_
    go_simp;refine (vo lo _ ka kb _ S4.o.good (FK S4.o.top.1 S4.o.low.size)).mono ?_;rintro e w9 hA;obtain ⟨q',am',nm',cm',av',nv',cv',ak',ns',cs',T,rfl,y,C⟩:=hA.parts;obtain ⟨d,hS⟩:=S4.o.did C y;have F:=bT hS;have t:Eq (aE w9 X (iT q) (.slice am nm cm) (.slice av nv cv) (.slice ak ns cs)):=d;clear hS hA y C d;go_wp2_with fail
    refine hK.o _ _ (f.o _ t.o) fun r=>?_
    (try go_frame);refine ud 6 2 r ?_;refine Fc 8 r ?_;refine Ek 9 fun K hK=>?_
    have x0:=t.o.all;go_simp;refine hK.o _ _ ?_;clear hK K;(try go_frame);refine dZ ?_;clear x0 r f t;go_wp2;go_meet
    exact ⟨P+1+1+1,q',am',nm',cm',av',nv',cv',ak',ns',cs',F.o,by omega⟩
  have aC:(k == 2)=false:=by simpa using k2
  by_cases k3:k=3
  · subst k3;have x0:=m.o.bx.all;go_wp2_with fail
    clear x0;refine (vo lo _ 0 0 _ m.o.good (FK m.o.top.1 m.o.low.size)).mono ?_;rintro e w2 hA;obtain ⟨q',am',nm',cm',av',nv',cv',ak',ns',cs',T,rfl,s,hl2⟩:=hA.parts;obtain ⟨d,hS⟩:=m.o.did hl2 s;have F:=bT hS;have x0:=d.all;clear hS hA s hl2;go_wp2;go_meet
    exact ⟨P+1,q',am',nm',cm',av',nv',cv',ak',ns',cs',F.o,by omega⟩
  have aH:(k == 3)=false:=by simpa using k3
  by_cases k4:k=4
  · subst k4;have x0:=m.o.bx.all;go_wp2_with fail
    clear x0;refine (EN lo _ _ m.o.good (FK m.o.top.1 m.o.low.size)).mono ?_;rintro e w2 hA;obtain ⟨q',am',nm',cm',av',nv',cv',ak',ns',cs',T,rfl,s,hl2⟩:=hA.parts;obtain ⟨d,hS⟩:=m.o.did hl2 s;have F:=bT hS;have x0:=d.all;clear hS hA s hl2;go_wp2;go_meet
    exact ⟨P+1,q',am',nm',cm',av',nv',cv',ak',ns',cs',F.o,by omega⟩
  have aN:(k == 4)=false:=by simpa using k4
  by_cases k5:k=5
  · subst k5;have a3:Eq (ns≤4∧∀w':World,dg lo w' (.agg #[iT q,.slice am nm cm,.slice av nv cv,.slice ak ns cs])→∀j,j<ns→∃b u z,ak=some ⟨b,u,none⟩∧w'.cell? ⟨b,u+j,none⟩=some (iT z)∧b<w'.heap.size):=⟨DE m.o.good,fun w' hg j hj=>Ag hg hj⟩;by_cases aS:0<ns
    · have aL:(ns:Int) > 0:=by omega
      have au:=a3.o.1;have x0:=m.o.bx.all;go_upto_region 14 with fail
      clear x0;have f:Eq (∀w',aE w' X (iT q) (.slice am nm cm) (.slice av nv cv) (.slice ak ns cs)→(fun w':World=>w'.cell? ⟨X,0,none⟩=some (iT q)∧w'.cell? ⟨X,1,none⟩=some (.slice am nm cm)∧w'.cell? ⟨X,2,none⟩=some (.slice av nv cv)∧w'.cell? ⟨X,3,none⟩=some (.slice ak ns cs)∧X<w'.heap.size) w'):=fun w' b=>⟨b.c0,b.c1,b.c2,b.c3,b.lt⟩
      have B:Eq (lU lo R a len cap (P+1) w H.drew X (X+1) q am nm cm av nv cv ak ns cs):=m.o.below (Below.refl _ H).drew;refine Ey 14 f B.o.bx fun r=>?_
      generalize H.drew=wd at r B ⊢;refine ud 0 7 r ?_;refine qY 7 fun K hK=>?_
      go_simp;refine (cu R (P+1) a len cap (ns:Int) _ B.o.rd (by omega) (by omega)).mono ?_;rintro e N ⟨kc,rfl,hk,D,A⟩;have x:Eq (lU lo R a len cap (P+1+1) w N X (X+1) q am nm cm av nv cv ak ns cs):=B.o.read A D;have O:0≤kc∧(1≤((ns:Int):Int)→kc<(ns:Int)):=hk;clear A D hk B;go_wp2_with fail
      refine hK.o _ _ (f.o _ x.o.bx) fun r=>?_
      (try go_frame);have ao:0≤kc:=O.1;have aJ:kc<(ns:Int):=O.2 (by omega);obtain ⟨kn,rfl⟩:=Gq ao;have ai:kn<ns:=by omega
      obtain ⟨b,u,z,rfl,hz⟩:=a3.o.2 _ x.o.good kn ai;have HZ:Eq (N.cell? ⟨b,u+kn,none⟩=some (iT z)∧b<N.heap.size):=hz;clear hz O;refine ud 8 1 r ?_;refine qY 9 fun K hK=>?_
      have hz:=HZ.o.1;have al:=HZ.o.2;go_simp;clear hz al;refine hK.o _ _ (f.o _ x.o.bx) fun r=>?_
      (try go_frame);refine qY 10 fun K hK=>?_
      go_simp;refine (ER lo _ z _ x.o.good (FK x.o.top.1 x.o.low.size)).mono ?_;rintro e w9 hA;obtain ⟨q',am',nm',cm',av',nv',cv',ak',ns',cs',T,rfl,y,C⟩:=hA.parts;obtain ⟨d,hS⟩:=x.o.did C y;have F:=bT hS;have t:Eq (aE w9 X (iT q) (.slice am nm cm) (.slice av nv cv) (sO b u ns cs)):=d;clear hS hA y C d;go_wp2_with fail
      refine hK.o _ _ (f.o _ t.o) fun r=>?_
      (try go_frame);refine ud 11 2 r ?_;refine Fc 13 r ?_;refine Ek 14 fun K hK=>?_
      have x0:=t.o.all;go_simp;refine hK.o _ _ ?_;clear hK K;(try go_frame);refine dZ ?_;clear x0 r f t;go_wp2;go_meet
      exact ⟨P+1+1,q',am',nm',cm',av',nv',cv',ak',ns',cs',F.o,by omega⟩
    · have x0:=m.o.bx.all;obtain rfl:ns=0:=by omega
      go_wp2;go_meet
      exact ⟨P+1,_,_,_,_,_,_,_,_,_,_,m.o,by omega⟩
  have aF:(k == 5)=false:=by simpa using k5
  have f:Eq (∀w',aE w' X (iT q) (.slice am nm cm) (.slice av nv cv) (.slice ak ns cs)→(fun w':World=>w'.cell? ⟨X,0,none⟩=some (iT q)∧w'.cell? ⟨X,1,none⟩=some (.slice am nm cm)∧w'.cell? ⟨X,2,none⟩=some (.slice av nv cv)∧w'.cell? ⟨X,3,none⟩=some (.slice ak ns cs)∧X<w'.heap.size) w'):=fun w' b=>⟨b.c0,b.c1,b.c2,b.c3,b.lt⟩
  have B:Eq (lU lo R a len cap (P+1) w H.drew X (X+1) q am nm cm av nv cv ak ns cs):=m.o.below (Below.refl _ H).drew;go_upto_region 2 with fail
  refine Ey 7 f B.o.bx fun r=>?_
  generalize H.drew=wd at r B ⊢;refine ud 0 2 r ?_;refine qY 2 fun K hK=>?_
  go_simp;refine (u9 R (P+1) a len cap _ B.o.rd (by omega)).mono ?_;rintro e N ⟨g,nb,cb,P',K3,rfl,hO,hF,hn,a1,aD,a7⟩;have x:Eq (lU lo R a len cap P' w N X (X+1) q am nm cm av nv cv ak ns cs):=B.o.read a7 a1;have HE:Eq (ah N (pT g) nb cb K3∧o9 K3):=⟨hO.entsAt,fun l hl=>(hF l hl).1.2.2⟩;clear hO hF a1 a7 B;go_wp2_with fail
  refine hK.o _ _ (f.o _ x.o.bx) fun r=>?_
  (try go_frame);refine qY 3 fun K hK=>?_
  go_simp;refine (Ec lo _ _ _ _ K3 _ x.o.good (FK x.o.top.1 x.o.low.size) HE.o.1 (by omega) HE.o.2).mono ?_;rintro e w9 hA;obtain ⟨q',am',nm',cm',av',nv',cv',ak',ns',cs',T,rfl,y,C⟩:=hA.parts;obtain ⟨d,hS⟩:=x.o.did C y;have F:=bT hS;have t:Eq (aE w9 X (iT q) (.slice am nm cm) (.slice av nv cv) (.slice ak ns cs)):=d;clear hS hA y C d;go_wp2_with fail
  refine hK.o _ _ (f.o _ t.o) fun r=>?_
  (try go_frame);refine ud 4 2 r ?_;refine Fc 6 r ?_;refine Ek 7 fun K hK=>?_
  have x0:=t.o.all;go_simp;refine hK.o _ _ ?_;clear hK K;(try go_frame);refine dZ ?_;clear x0 r f t;go_wp2;go_meet
  exact ⟨P',q',am',nm',cm',av',nv',cv',ak',ns',cs',F.o,by omega⟩
 case rest =>
  obtain ⟨P',q,am,nm,cm,av,nv,cv,ak,ns,cs,hS,an⟩:=hcut;have J:Eq (lU lo R a len cap P' w wc X (X+1) q am nm cm av nv cv ak ns cs):=hS;have x0:=hS.bx.all;have r0:=hS.br.all;clear hS m ae;go_wp2;refine bodyPost_ret (v:=.agg #[iT q,.slice am nm cm,.slice av nv cv,.slice ak ns cs]) ?_ rfl ⟨_,P',rfl,J.o.good.four J.o.kx.2 J.o.br,?_,an,J.o.low.four (by have:=J.o.top;omega) (by have:=J.o.top;omega) _ _ _ _⟩
  · have e:=(((J.o.br.set0 (iT q)).set1 (.slice am nm cm)).set2 (.slice av nv cv)).set3 (.slice ak ns cs);simp [results,Tryz.results77,go_sem,e.all]
  · have ht:=J.o.top;have I:X+1≠R:=by omega
    have E:∀b u,a=some ⟨b,u,none⟩→0<len→b≠X+1:=fun b u e hl=>by
     rcases ht.2.2.2.1 with h0 | h0
     · omega
     · have:=h0 b u e;omega
    exact (((J.o.rd.other I E _ _).other I E _ _).other I E _ _).other I E _ _
end Go.Proofs.YtpobkmjicbobdaaGreat
