/- Walks. -/
import Derived.Test.YtpobkmjicbobdaaGreatBW11
namespace Go.Proofs.YtpobkmjicbobdaaGreat
set_option maxRecDepth 100000
set_option maxHeartbeats 40000000
open Go.RowKit
variable {M:List ac} {S:List Int} {T Z b base g hi hi' k lo lo' n nk nm ns nv vb:Nat} {V:List (List af)} {W w w':World} {ak am av:Option Addr} {bs gs:Nat→Nat} {oe op os ov:Option Nat} {xs:List Value}
theorem jb {base' size:Nat} {v:Value} (h:w.ownsRow base T size v n xs) (hb:base'≤base):w.ownsRow base' T size v n xs:=by
 refine ⟨h.1,?_⟩;rcases h.2 with h2 | ⟨g,e,d,hv,hg,r⟩
 · exact Or.inl h2
 · exact Or.inr ⟨g,e,d,hv,GU hb hg,r⟩
theorem er.mono {B:List af} {es:Nat→Nat} (h:er lo hi w g n B es) (h1:lo'≤lo) (h2:hi≤hi'):er lo' hi' w g n B es:=by
 obtain ⟨xs,d,r2⟩:=h.row;exact ⟨h.len,⟨xs,jb d h1,r2⟩,fun i p hp=>(h.ents i p hp).mono h1,h.up,⟨by have:=h.top.1;omega,fun i hi'=>by have:=h.top.2 i hi';omega⟩,h.wfs⟩
theorem er.runsIn {B:List af} {m:Nat→Nat} (h:er lo hi w g n B m):aw lo w (pT g) n n B:=by
 obtain ⟨xs,d,r2⟩:=h.row;have f:=cC d;have hl:=h.len;refine ⟨h.len,f.1,f.2,(fun e=>by cases e),?_,?_⟩
 · rintro x e _;cases e;exact ⟨(d.lt g rfl).2,rfl,(d.lt g rfl).1⟩
 · rintro x e i hi;cases e;have hp:=j' hi;have hO:=h.ents i _ hp;refine ⟨h.wfs _ (Hj hi),_,_,_,?_,?_,hO.entsAt,fun x e _=>by cases e;exact hO.lt.1⟩
   · simp only [GT];exact (d.cellAt _ (by omega)).trans (r2 i _ hp).1
   · simp only [GT];exact (d.cellAt _ (by omega)).trans (r2 i _ hp).2
def nT (Z:Nat) (w:World) (xs:List Value) (V:List (List af)) (k:Nat) (gs bs:Nat→Nat) (es:Nat→Nat→Nat):Prop :=
 bs 0=Z∧bs k≤w.heap.size∧(∀i j,i≤j→j≤k→bs i≤bs j)∧∀j,j<k→∃B:List af,V[j]?=some B∧xs[j]?=some (sL (gs j) B.length B.length)∧er (bs j) (bs (j+1)) w (gs j) B.length B (es j)
theorem nT.hasR {f:Nat→Nat→Nat} (h:nT Z w xs V k gs bs f):BS Z w xs V k:=fun j e=>by
 obtain ⟨B,h1,h2,h3⟩:=h.2.2.2 j e
 have d:=h.2.2.1 0 j (by omega) (by omega)
 rw [h.1] at d
 exact ⟨_,_,B,h1,h2,h3.runsIn.mono d⟩
theorem nT.keepO {es:Nat→Nat→Nat} (h:nT Z w xs V k gs bs es) (d:dw lo' hi' w w') (hd:hi'≤Z):nT Z w' xs V k gs bs es :=
 ⟨h.1,GU h.2.1 d.size,h.2.2.1,fun j e=>by
  obtain ⟨B,h1,h2,h3⟩:=h.2.2.2 j e
  have f:=h.2.2.1 0 j (by omega) (by omega)
  rw [h.1] at f
  exact ⟨B,h1,h2,h3.keepO d (Or.inr (by omega))⟩⟩
theorem nT.below {es:Nat→Nat→Nat} (h:nT Z w xs V k gs bs es) (hb:Bl w w'):nT Z w' xs V k gs bs es :=
 ⟨h.1,GU h.2.1 hb.size,h.2.2.1,fun j d=>by
  obtain ⟨B,h1,h2,h3⟩:=h.2.2.2 j d
  exact ⟨B,h1,h2,h3.below hb⟩⟩
theorem oP {s:Nat} {r w2:World} {x:Nat} {B:List af} {D:Nat→Nat→Nat} {e1:Nat→Nat} {u:Value} (h:nT Z w xs V k gs bs D) (hl:xs.length=3*1) (hb:Bl w r) (hw:w2=r.setCell ⟨vb,k,none⟩ u) (K:u=sL x n n) (E:vb<Z) (hR:er s r.heap.size r x n B e1) (Q:w.heap.size≤s) (hV:V[k]?=some B) (hk:k<3:=by omega) :
 ∃y A es',nT Z w2 (xs.set k u) V (k+1) y A es':=by
 have o:dw vb (vb+1) r w2:=by rw [hw];exact ⟨rfl,rfl,rfl,by simp [World.setCell],fun q _ hq=>Below.heap_setCell _ _ _ _ (fun e=>by have X:q=vb:=e;omega)⟩
 have hsz:=o.size;have N:=h.1;have L:=h.2.1;have d:=h.2.2.1;have J:=hb.size;have F:=d 0 k (by omega) (by omega);have hn:=hR.len;subst hn;refine ⟨fun i=>if i=k then x else gs i,fun i=>if i≤k then bs i else r.heap.size,fun i=>if i=k then e1 else D i,by simp [N],?_,?_,?_⟩
 · simp only [if_neg (show ¬k+1≤k by omega)];exact hsz
 · intro i j t R;simp only;by_cases f:j≤k
   · rw [if_pos f,if_pos (by omega)];exact d i j t f
   · rw [if_neg f];by_cases m:i≤k
     · rw [if_pos m];have:=d i k m (by omega);omega
     · rw [if_neg m];exact GL _
 · intro j R;by_cases e:j=k
   · subst e;refine ⟨B,hV,?_,?_⟩
     · rw [Hp (by omega),K];simp
     · simp only [if_true,GL,if_neg (show ¬j+1≤j by omega)];exact (hR.mono (by omega) (GL _)).keepO o (Or.inr (by omega))
   · obtain ⟨C,I,H,U⟩:=h.2.2.2 j (by omega);have O:=d 0 j (by omega) (by omega);refine ⟨C,I,?_,?_⟩
     · simp only [if_neg e];rw [G9 (by omega)];exact H
     · simp only [if_neg e,if_pos (show j≤k by omega),if_pos (show j+1≤k by omega)];exact (U.below hb).keepO o (Or.inr (by omega))
theorem Dn {es:Nat→Nat→Nat} (h:w.ownsRow base 61 1 (sL vb 3 3) 3 xs) (hb:lo≤base) (m:lo≤Z) (e:vb<Z) (hV:V.length=3) (h0:nT Z w xs V 3 gs bs es):gu lo w.heap.size w vb 3 V gs bs es:=by
 refine ⟨hV,⟨xs,jb h hb,fun i B hB=>?_⟩,fun i B hB=>?_,?_,h0.2.2.1,h0.2.1⟩
 · have hi:=(F'.1 hB).1;obtain ⟨C,d,f,_⟩:=h0.2.2.2 i (by omega);rw [hB] at d;cases d;exact f
 · have hi:=(F'.1 hB).1;obtain ⟨C,d,_,o⟩:=h0.2.2.2 i (by omega);rw [hB] at d;cases d;exact o
 · rw [h0.1];exact ⟨m,e⟩
theorem mR {base T n g:Nat}:∀(cs:List Value) (o:Nat) (w:World) (xs:List Value),w.ownsRow base T 1 (sL g n n) n xs→∃d,(w.setCells g o cs).ownsRow base T 1 (sL g n n) n d∧(∀i,i<cs.length→o+i<n→d[o+i]?=cs[i]?)∧∀i,i<o→d[i]?=xs[i]?
 | [],_,_,xs,h=>⟨xs,h,(fun i hi=>absurd hi (H7 _)),fun _ _=>rfl⟩
 | c :: cs,o,w,xs,h=>by
  have h1:=(h.stored o c).1
  obtain ⟨d,y1,m,e⟩:=mR cs (o+1) _ _ h1
  have f:=h.1
  refine ⟨d,y1,fun i hi hn=>?_,fun i hi=>?_⟩
  · cases i with
    | zero=>rw [Ik,e o (by omega),Hp (by omega)];rfl
    | succ i =>
     have:=m i (by simpa using hi) (by omega)
     rw [show o+(i+1)=o+1+i by omega,this]
     rfl
  · rw [e i (by omega),G9 (by omega)]
theorem AV (h:w.ownsRow base 3 1 (sL g n n) n xs) (hS:S.length=n):nS base (w.setCells g 0 (S.map iT)) g n S:=by
 obtain ⟨d,y1,f,_⟩:=mR (S.map iT) 0 w xs h;refine ⟨hS,?_⟩;have e:d=S.map iT:=by
  apply List.ext_getElem?;intro i;by_cases hi:i<n
  · have:=f i (by rw [Id];omega) (by omega);rw [GT] at this;exact this
  · rw [IK (by have:=y1.1;omega),IK (by rw [Id];omega)]
 rw [e] at y1;exact y1
theorem EH {r:Array Oper} {o:Oper} {a:Act} {K:Act→World→Prop} {Q:Exit→Act→World→Prop} {E:Prop} {B:Nat} (hg:o.guard=none) (hop:o.op=Op.makeSlice 29 (.const (iT 3)) (.const (iT 3))) (hb:B≤w.heap.size) (hK:∀w' xs,w'.ownsRow B 61 1 (sL (w.heap.size) 3 3) 3 xs→w.grownBy w' none→K (a.put o.dst (sL (w.heap.size) 3 3)) w'):if Region.wanted o (yielded r a.tmps)=true then Oper.wp Tryz.prog o a w K Q else E:=by
 obtain ⟨i1,m,d,f,e⟩:=info_parts Tryz.infoRunL;exact ki hg _ _ 29 hop B 61 i1 _ 1 Tryz.underlying29 m d f .i64 .i64 _ _ 3 rfl rfl (by simp) (by simp) (by rw [e];omega) (by unfold maxLen;omega) hb (fun w' h1 h2=>hK w' _ h1 h2)
theorem EI {m:Array Oper} {o:Oper} {a:Act} {K:Act→World→Prop} {Q:Exit→Act→World→Prop} {E:Prop} {B:Nat} (hg:o.guard=none) (hop:o.op=Op.makeSlice 24 (.tmp 14) (.tmp 14)) (hn:n≤1048576) (hv:a.eval (.tmp 14)=iT (n:Int)) (hb:B≤w.heap.size) (hK:∀w' xs,w'.ownsRow B 3 1 (sL (w.heap.size) n n) n xs→w.grownBy w' none→K (a.put o.dst (sL (w.heap.size) n n)) w'):if Region.wanted o (yielded m a.tmps)=true then Oper.wp Tryz.prog o a w K Q else E:=by
 obtain ⟨i2,r,e,f,d⟩:=info_parts Tryz.infoInt;exact ki hg _ _ 24 hop B 3 i2 _ 1 Tryz.underlying24 r e f .i64 .i64 _ _ n hv hv rfl rfl (by rw [d];omega) (by unfold maxLen;omega) hb (fun w' h1 h2=>hK w' _ h1 h2)
structure gq (B nm nk:Nat) (M:List ac) (W w:World) (oe ov os op:Option Nat):Prop where
 low:Below B W w
 e:∀b,oe=some b→ag w B b nm nm M
 v:∀b,ov=some b→∃xs,w.ownsRow B 61 1 (sL b 3 3) 3 xs
 s:∀b,os=some b→∃xs,w.ownsRow B 3 1 (sL b nk nk) nk xs
 p:∀b,op=some b→B≤b∧aq w b 31 4∧ay w b (iT 0) nZ nZ nZ
theorem gq.keep {B:Nat} (h:gq B nm nk M W w oe ov os op) (hs:B≤w.heap.size) (hb:Bl w w'):gq B nm nk M W w' oe ov os op :=
 ⟨h.low.trans (hb.mono hs),fun b e=>(h.e b e).below hb,fun b e=>by obtain ⟨xs,hx⟩:=h.v b e;exact ⟨xs,gS hx hb⟩,fun b e=>by obtain ⟨xs,hx⟩:=h.s b e;exact ⟨xs,gS hx hb⟩,fun b e=>⟨(h.p b e).1,(h.p b e).2.1.below hb,(h.p b e).2.2.keep hb⟩⟩
theorem gq.addE {B:Nat} (h:gq B nm nk M W w oe ov os op) (hs:B≤w.heap.size) (hE:ag w' B b nm nm M) (hb:Bl w w'):gq B nm nk M W w' (some b) ov os op :=
 ⟨(h.keep hs hb).low,fun c e=>by cases e;exact hE,(h.keep hs hb).v,(h.keep hs hb).s,(h.keep hs hb).p⟩
theorem gq.addV {B:Nat} (h:gq B nm nk M W w oe ov os op) (hs:B≤w.heap.size) (hE:w'.ownsRow B 61 1 (sL b 3 3) 3 xs) (hb:w.grownBy w' none):gq B nm nk M W w' oe (some b) os op:=by
 have k:=h.keep hs ((Below.refl _ _).grown hb (GL _) (by simp));exact ⟨k.low,k.e,fun c e=>by cases e;exact ⟨_,hE⟩,k.s,k.p⟩
theorem gq.addS {B:Nat} (h:gq B nm nk M W w oe ov os op) (hs:B≤w.heap.size) (hE:w'.ownsRow B 3 1 (sL b nk nk) nk xs) (hb:w.grownBy w' none):gq B nm nk M W w' oe ov (some b) op:=by
 have k:=h.keep hs ((Below.refl _ _).grown hb (GL _) (by simp));exact ⟨k.low,k.e,k.v,fun c e=>by cases e;exact ⟨_,hE⟩,k.p⟩
theorem gq.addP {B:Nat} (h:gq B nm nk M W w oe ov os op) (hs:B≤w.heap.size):gq B nm nk M W (w.alloc (.cells #[iT 0,nZ,nZ,nZ] 31)) oe ov os (some w.heap.size):=by
 have k:=h.keep hs ((Below.refl _ _).alloc (GL _) (.cells #[iT 0,nZ,nZ,nZ] 31));exact ⟨k.low,k.e,k.v,k.s,fun c e=>by cases e;exact ⟨hs,⟨#[iT 0,nZ,nZ,nZ],by unfold World.alloc;exact In,rfl⟩,ay.new _ _ _ _ _ _⟩⟩
theorem gq.fin {B eb sb P:Nat} (h:gq B nm nk M W w (some eb) (some vb) (some sb) (some P)) (q:Int):∃(xs u:List Value),ay ((((w.setCell ⟨P,0,none⟩ (iT q)).setCell ⟨P,1,none⟩ (sL eb nm nm)).setCell ⟨P,2,none⟩ (sL vb 3 3)).setCell ⟨P,3,none⟩ (sL sb nk nk)) P (iT q) (sL eb nm nm) (sL vb 3 3) (sL sb nk nk)∧ag ((((w.setCell ⟨P,0,none⟩ (iT q)).setCell ⟨P,1,none⟩ (sL eb nm nm)).setCell ⟨P,2,none⟩ (sL vb 3 3)).setCell ⟨P,3,none⟩ (sL sb nk nk)) B eb nm nm M∧((((w.setCell ⟨P,0,none⟩ (iT q)).setCell ⟨P,1,none⟩ (sL eb nm nm)).setCell ⟨P,2,none⟩ (sL vb 3 3)).setCell ⟨P,3,none⟩ (sL sb nk nk)).ownsRow B 61 1 (sL vb 3 3) 3 xs∧((((w.setCell ⟨P,0,none⟩ (iT q)).setCell ⟨P,1,none⟩ (sL eb nm nm)).setCell ⟨P,2,none⟩ (sL vb 3 3)).setCell ⟨P,3,none⟩ (sL sb nk nk)).ownsRow B 3 1 (sL sb nk nk) nk u∧(vb≠P∧sb≠P∧eb≠P∧vb≠eb∧vb≠sb∧sb≠eb)∧B≤P∧Below B W ((((w.setCell ⟨P,0,none⟩ (iT q)).setCell ⟨P,1,none⟩ (sL eb nm nm)).setCell ⟨P,2,none⟩ (sL vb 3 3)).setCell ⟨P,3,none⟩ (sL sb nk nk)):=by
 obtain ⟨x,r,D⟩:=h.p P rfl;obtain ⟨xs,hv⟩:=h.v vb rfl;obtain ⟨u,hs⟩:=h.s sb rfl;have hE:=h.e eb rfl;have t:=eR hv;have o:=eR hs;have m:=eR hE.owns;have f:vb≠P:=fun e=>by subst e;exact absurd (t.kind r) (by decide)
 have n2:sb≠P:=fun e=>by subst e;exact absurd (o.kind r) (by decide)
 have d:eb≠P:=fun e=>by subst e;exact absurd (m.kind r) (by decide)
 have C:vb≠eb:=fun e=>by subst e;exact absurd (t.kind m) (by decide)
 have A:vb≠sb:=fun e=>by subst e;exact absurd (t.kind o) (by decide)
 have y:sb≠eb:=fun e=>by subst e;exact absurd (o.kind m) (by decide)
 exact ⟨xs,u,(((D.set0 _).set1 _).set2 _).set3 _,(((hE.setCell (p:=⟨P,0,none⟩) d.symm _).setCell (p:=⟨P,1,none⟩) d.symm _).setCell (p:=⟨P,2,none⟩) d.symm _).setCell (p:=⟨P,3,none⟩) d.symm _,cY (cY (cY (cY hv f 0 _) f 1 _) f 2 _) f 3 _,cY (cY (cY (cY hs n2 0 _) n2 1 _) n2 2 _) n2 3 _,⟨f,n2,d,C,A,y⟩,x,jY h.low x _ _ _ _⟩
def Gk (q:Int) (nm nk:Nat) (M:List ac) (V:List (List af)) (S:List Int) (w:World) (e:Ending) (w':World):Prop :=
 ∃(eb vb sb:Nat) (gs bs:Nat→Nat) (es:Nat→Nat→Nat),e=.returned (.agg #[iT q,sL eb nm nm,sL vb 3 3,sL sb nk nk])∧aZ w.heap.size w' (pT eb) nm nm (pT vb) 3 3 (pT sb) nk nk M V S∧fq w.heap.size w'.heap.size w' eb nm vb 3 sb nk M V S gs bs es∧Bl w w'
theorem D9 (lo:Nat) (q:Int) (am ak:Option Addr) (nm cm nk ck:Nat) (a0 a1 a2:Option Addr) (F c0 H c1 n2 c2:Nat) (M:List ac) (A B C:List af) (S:List Int) (w:World) (hM:ah w am nm cm M) (hS:bJ lo w ak nk ck S) (h0:aw lo w a0 F c0 A) (h1:aw lo w a1 H c1 B) (h2:aw lo w a2 n2 c2 C)
 (bm:nm≤1048576) (bk:nk≤1048576) (em:e9 M) (b0:lg A) (b1:lg B) (b2:lg C) (e0:iR A) (e1:iR B) (e2:iR C) :
 Calls Tryz.prog 92 #[.agg #[iT q,.slice am nm cm,.slice a0 F c0,.slice a1 H c1,.slice a2 n2 c2,.slice ak nk ck]] w (Gk q nm nk M [A,B,C] S w):=by
 obtain ⟨X,hX⟩:=aG w.heap.size;obtain ⟨W0,Q⟩:=aG ((w.alloc (.cells #[iT q,.slice am nm cm,.slice a0 F c0,.slice a1 H c1,.slice a2 n2 c2,.slice ak nk ck] 82)).alloc (.cells #[iT 0,nZ,nZ,nZ] 31));have kW:Bl w W0:=by rw [Q];exact bZ.alloc (by simp) _
 have x0:W0.cell? ⟨X,0,none⟩=some (iT q):=by rw [Q,hX];simp
 have x1:W0.cell? ⟨X,1,none⟩=some (.slice am nm cm):=by rw [Q,hX];simp
 have x2:W0.cell? ⟨X,2,none⟩=some (.slice a0 F c0):=by rw [Q,hX];simp
 have x3:W0.cell? ⟨X,3,none⟩=some (.slice a1 H c1):=by rw [Q,hX];simp
 have x4:W0.cell? ⟨X,4,none⟩=some (.slice a2 n2 c2):=by rw [Q,hX];simp
 have x5:W0.cell? ⟨X,5,none⟩=some (.slice ak nk ck):=by rw [Q,hX];simp
 have br:ay W0 (X+1) (iT 0) nZ nZ nZ:=by
  have:=ay.new (w.alloc (.cells #[iT q,.slice am nm cm,.slice a0 F c0,.slice a1 H c1,.slice a2 n2 c2,.slice ak nk ck] 82)) 31 (iT 0) nZ nZ nZ;rw [GY] at this;rw [Q,hX];exact this
 have hsz:W0.heap.size=X+1+1:=by rw [Q,hX];simp
 have BR:Eq (ay W0 (X+1) (iT 0) nZ nZ nZ):=br;have aN:Eq (X=w.heap.size):=hX;have b8:Eq (W0.heap.size=X+1+1):=hsz;have KW:Eq (Bl w W0):=kW;have HS:=az hS;have CE:Eq (∀w',Bl W0 w'→Calls Tryz.prog 149 #[.slice am nm cm] w' fun e D=>∃b:Nat,e=.returned (sL b nm nm)∧w'.heap.size≤b∧ag D W0.heap.size b nm nm M∧Bl w' D):=fun w' k=>(iE am nm cm M w' ((hM.keep kW).keep k) bm em).mono (fun e D h=>⟨_,h.1,GL _,h.2.1.mono k.size,h.2.2.2⟩)
 have bt:Eq (∀w',Bl W0 w'→Calls Tryz.prog 150 #[.slice a0 F c0] w' fun e D=>∃b:Nat,e=.returned (sL b F F)∧(∃e1,er w'.heap.size D.heap.size D b F A e1)∧Bl w' D):=fun w' k=>(rY lo a0 F c0 A w' ((h0.keep kW).keep k) b0 e0).mono (fun e D h=>⟨_,h.1,h.2.1,h.2.2.2⟩)
 have bK:Eq (∀w',Bl W0 w'→Calls Tryz.prog 150 #[.slice a1 H c1] w' fun e D=>∃b:Nat,e=.returned (sL b H H)∧(∃e1,er w'.heap.size D.heap.size D b H B e1)∧Bl w' D):=fun w' k=>(rY lo a1 H c1 B w' ((h1.keep kW).keep k) b1 e1).mono (fun e D h=>⟨_,h.1,h.2.1,h.2.2.2⟩)
 have bG:Eq (∀w',Bl W0 w'→Calls Tryz.prog 150 #[.slice a2 n2 c2] w' fun e D=>∃b:Nat,e=.returned (sL b n2 n2)∧(∃e1,er w'.heap.size D.heap.size D b n2 C e1)∧Bl w' D):=fun w' k=>(rY lo a2 n2 c2 C w' ((h2.keep kW).keep k) b2 e2).mono (fun e D h=>⟨_,h.1,h.2.1,h.2.2.2⟩)
 have O:Bl W0 W0.drew:=(Below.refl _ W0).drew;have y:Eq (∀w',Bl W0 w'→(w'.cell? ⟨X,0,none⟩=some (iT q)∧w'.cell? ⟨X,1,none⟩=some (.slice am nm cm)∧w'.cell? ⟨X,5,none⟩=some (.slice ak nk ck)∧X<w'.heap.size)):=fun w' kk=>⟨cell_later kk x0,cell_later kk x1,cell_later kk x5,GK _ _ (cell_later kk x0)⟩
 obtain ⟨i1,bY,bS,bP,bT⟩:=info_parts Tryz.infoRunL;obtain ⟨i2,bW,bQ,bN,bM⟩:=info_parts Tryz.infoInt;clear br kW hM hS h0 h1 h2 b0 b1 b2 e0 e1 e2 em hsz;go_enter Tryz.func92,Tryz.ntmps92
 go_upto_region 1 with fail
 rw [← hX,← Q];clear hX Q;go_cut [3] (fun s3 wx=>∃(P eb vb sb:Nat) (xs ys:List Value),s3=.pointer (pT P)∧ay wx P (iT q) (sL eb nm nm) (sL vb 3 3) (sL sb nk nk)∧ag wx W0.heap.size eb nm nm M∧wx.ownsRow W0.heap.size 61 1 (sL vb 3 3) 3 xs∧wx.ownsRow W0.heap.size 3 1 (sL sb nk nk) nk ys∧(vb≠P∧sb≠P∧eb≠P∧vb≠eb∧vb≠sb∧sb≠eb)∧W0.heap.size≤P∧Bl W0 wx)
 case first =>
  refine eJ y O fun s=>?_
  have d:gq W0.heap.size nm nk M W0 W0.drew none none none none:=⟨O,(fun _ e=>by cases e),(fun _ e=>by cases e),(fun _ e=>by cases e),(fun _ e=>by cases e)⟩;generalize W0.drew=wc at O d s ⊢;refine aR 0 4 s ?_;refine aR 6 3 s ?_;refine wpAnyH_ready (rs:=[4,5,9,11]) (by kernel_rfl) (by simp) (de rfl (fun K hK=>?_) (de rfl (fun K hK=>?_) (de rfl (fun K hK=>?_) (de rfl (fun K hK=>?_) AllReadyH.nil))));all_goals first
   | (refine EH rfl rfl d.low.size fun wc _ m r=>?_;have d:=d.addV d.low.size m r;clear m r;refine hK.o _ _ (y.o _ d.low) (fun s=>?_);clear hK K;try go_frame)
   | (refine EI rfl rfl bk rfl d.low.size fun wc _ m r=>?_;have d:=d.addS d.low.size m r;clear m r;refine hK.o _ _ (y.o _ d.low) (fun s=>?_);clear hK K;try go_frame)
   | (go_simp;refine (CE.o _ d.low).mono ?_;rintro e wc ⟨eb,rfl,_,hE,be⟩;have d:=d.addE d.low.size hE be;clear be hE;go_wp2_with fail;refine hK.o _ _ (y.o _ d.low) (fun s=>?_);clear hK K;try go_frame)
   | (go_simp;have d:=d.addP d.low.size;refine hK.o _ _ (y.o _ d.low) (fun s=>?_);clear hK K;generalize wc.alloc (.cells #[iT 0,nZ,nZ,nZ] 31)=wc at d s ⊢;try go_frame)
  all_goals first
   | refine wpAnyH_ready (rs:=[4,5,9]) (by decide +kernel) (by simp) (de rfl (fun K hK=>?_) (de rfl (fun K hK=>?_) (de rfl (fun K hK=>?_) AllReadyH.nil)))
   | refine wpAnyH_ready (rs:=[4,5,11]) (by decide +kernel) (by simp) (de rfl (fun K hK=>?_) (de rfl (fun K hK=>?_) (de rfl (fun K hK=>?_) AllReadyH.nil)))
   | refine wpAnyH_ready (rs:=[4,9,11]) (by decide +kernel) (by simp) (de rfl (fun K hK=>?_) (de rfl (fun K hK=>?_) (de rfl (fun K hK=>?_) AllReadyH.nil)))
   | refine wpAnyH_ready (rs:=[5,9,11]) (by decide +kernel) (by simp) (de rfl (fun K hK=>?_) (de rfl (fun K hK=>?_) (de rfl (fun K hK=>?_) AllReadyH.nil)))
  all_goals first
   | (refine EH rfl rfl d.low.size fun wc _ m r=>?_;have d:=d.addV d.low.size m r;clear m r;refine hK.o _ _ (y.o _ d.low) (fun s=>?_);clear hK K;try go_frame)
   | (refine EI rfl rfl bk rfl d.low.size fun wc _ m r=>?_;have d:=d.addS d.low.size m r;clear m r;refine hK.o _ _ (y.o _ d.low) (fun s=>?_);clear hK K;try go_frame)
   | (go_simp;refine (CE.o _ d.low).mono ?_;rintro e wc ⟨eb,rfl,_,hE,be⟩;have d:=d.addE d.low.size hE be;clear be hE;go_wp2_with fail;refine hK.o _ _ (y.o _ d.low) (fun s=>?_);clear hK K;try go_frame)
   | (go_simp;have d:=d.addP d.low.size;refine hK.o _ _ (y.o _ d.low) (fun s=>?_);clear hK K;generalize wc.alloc (.cells #[iT 0,nZ,nZ,nZ] 31)=wc at d s ⊢;try go_frame)
  all_goals first
   | refine wpAnyH_ready (rs:=[4,5]) (by decide +kernel) (by simp) (de rfl (fun K hK=>?_) (de rfl (fun K hK=>?_) AllReadyH.nil))
   | refine wpAnyH_ready (rs:=[4,9]) (by decide +kernel) (by simp) (de rfl (fun K hK=>?_) (de rfl (fun K hK=>?_) AllReadyH.nil))
   | refine wpAnyH_ready (rs:=[4,11]) (by decide +kernel) (by simp) (de rfl (fun K hK=>?_) (de rfl (fun K hK=>?_) AllReadyH.nil))
   | refine wpAnyH_ready (rs:=[5,9]) (by decide +kernel) (by simp) (de rfl (fun K hK=>?_) (de rfl (fun K hK=>?_) AllReadyH.nil))
   | refine wpAnyH_ready (rs:=[5,11]) (by decide +kernel) (by simp) (de rfl (fun K hK=>?_) (de rfl (fun K hK=>?_) AllReadyH.nil))
   | refine wpAnyH_ready (rs:=[9,11]) (by decide +kernel) (by simp) (de rfl (fun K hK=>?_) (de rfl (fun K hK=>?_) AllReadyH.nil))
  all_goals first
   | (refine EH rfl rfl d.low.size fun wc _ m r=>?_;have d:=d.addV d.low.size m r;clear m r;refine hK.o _ _ (y.o _ d.low) (fun s=>?_);clear hK K;try go_frame)
   | (refine EI rfl rfl bk rfl d.low.size fun wc _ m r=>?_;have d:=d.addS d.low.size m r;clear m r;refine hK.o _ _ (y.o _ d.low) (fun s=>?_);clear hK K;try go_frame)
   | (go_simp;refine (CE.o _ d.low).mono ?_;rintro e wc ⟨eb,rfl,_,hE,be⟩;have d:=d.addE d.low.size hE be;clear be hE;go_wp2_with fail;refine hK.o _ _ (y.o _ d.low) (fun s=>?_);clear hK K;try go_frame)
   | (go_simp;have d:=d.addP d.low.size;refine hK.o _ _ (y.o _ d.low) (fun s=>?_);clear hK K;generalize wc.alloc (.cells #[iT 0,nZ,nZ,nZ] 31)=wc at d s ⊢;try go_frame)
  all_goals first
   | refine wpAnyH_ready (rs:=[4]) (by decide +kernel) (by simp) (de rfl (fun K hK=>?_) AllReadyH.nil)
   | refine wpAnyH_ready (rs:=[5]) (by decide +kernel) (by simp) (de rfl (fun K hK=>?_) AllReadyH.nil)
   | refine wpAnyH_ready (rs:=[9]) (by decide +kernel) (by simp) (de rfl (fun K hK=>?_) AllReadyH.nil)
   | (refine aR 10 1 s ?_;refine wpAnyH_ready (rs:=[11]) (by kernel_rfl) (by simp) (de rfl (fun K hK=>?_) AllReadyH.nil))
  all_goals first
   | (refine EH rfl rfl d.low.size fun wc _ m r=>?_;have d:=d.addV d.low.size m r;clear m r;refine hK.o _ _ (y.o _ d.low) (fun s=>?_);clear hK K;try go_frame)
   | (refine EI rfl rfl bk rfl d.low.size fun wc _ m r=>?_;have d:=d.addS d.low.size m r;clear m r;refine hK.o _ _ (y.o _ d.low) (fun s=>?_);clear hK K;try go_frame)
   | (go_simp;refine (CE.o _ d.low).mono ?_;rintro e wc ⟨eb,rfl,_,hE,be⟩;have d:=d.addE d.low.size hE be;clear be hE;go_wp2_with fail;refine hK.o _ _ (y.o _ d.low) (fun s=>?_);clear hK K;try go_frame)
   | (go_simp;have d:=d.addP d.low.size;refine hK.o _ _ (y.o _ d.low) (fun s=>?_);clear hK K;generalize wc.alloc (.cells #[iT 0,nZ,nZ,nZ] 31)=wc at d s ⊢;try go_frame)
  all_goals first
   | refine wpAnyH_ready (rs:=[12]) (by decide +kernel) (by simp) (de rfl (fun K hK=>?_) AllReadyH.nil)
   | (refine aR 10 1 s ?_;refine wpAnyH_ready (rs:=[12]) (by kernel_rfl) (by simp) (de rfl (fun K hK=>?_) AllReadyH.nil))
  all_goals (obtain ⟨xs,ys,hF⟩:=d.fin q;obtain ⟨bw,_,hp⟩:=d.p _ rfl;have c0:=hp.c0;have c1:=hp.c1;have c2:=hp.c2;have c3:=hp.c3;have cz:=hp.fz;go_simp;refine hK.o _ _ (y.o _ hF.2.2.2.2.2.2) (fun s=>?_);clear hK K;(try go_frame);refine dN ?_;go_wp2;go_meet;exact ⟨_,_,_,_,xs,ys,rfl,hF⟩)
 case rest =>
  obtain ⟨P,eb,vb,sb,xs,ys,rfl,f,hE,hrow,hs,E,bw,L⟩:=hcut;have bE:Eq (vb≠P∧sb≠P∧eb≠P∧vb≠eb∧vb≠sb∧sb≠eb):=E;have aO:W0.heap.size≤vb:=(hrow.lt vb rfl).1;have aZ:=cell_later L x2;have bC:=cell_later L x3;have bI:=cell_later L x4;have za:=GK _ _ aZ;simp only at za;obtain ⟨Z,hZ⟩:=aG wc.heap.size;have ad:vb<Z:=by rw [hZ];exact (hrow.lt vb rfl).2
  have aP:sb<Z:=by rw [hZ];exact (hs.lt sb rfl).2
  have bB:eb<Z:=by rw [hZ];exact hE.lt.2
  have cg:W0.heap.size≤Z:=by rw [hZ];exact L.size
  have b4:Z≤wc.heap.size:=by omega
  have aj:Eq (ay wc P (iT q) (sL eb nm nm) (sL vb 3 3) (sL sb nk nk)∧ag wc W0.heap.size eb nm nm M∧wc.ownsRow W0.heap.size 61 1 (sL vb 3 3) 3 xs∧wc.ownsRow W0.heap.size 3 1 (sL sb nk nk) nk ys∧Bl W0 wc∧Z≤wc.heap.size):=⟨f,hE,hrow,hs,L,b4⟩;clear O y CE f hrow L hE hs E hZ b4;go_wp2;go_loopw [19] (fun iv wr=>∃(k:Nat) (xs:List Value) (gs bs:Nat→Nat) (es:Nat→Nat→Nat),k≤3∧iv=iT k∧ay wr P (iT q) (sL eb nm nm) (sL vb 3 3) (sL sb nk nk)∧ag wr W0.heap.size eb nm nm M∧wr.ownsRow W0.heap.size 61 1 (sL vb 3 3) 3 xs∧wr.ownsRow W0.heap.size 3 1 (sL sb nk nk) nk ys∧Bl W0 wr∧nT Z wr xs [A,B,C] k gs bs es∧Z≤wr.heap.size) (fun iv _=>3 - (intOf iv).toNat)
  case atStart=>exact ⟨0,xs,fun _=>0,fun _=>Z,fun _ _=>0,by omega,rfl,aj.o.1,aj.o.2.1,aj.o.2.2.1,aj.o.2.2.2.1,aj.o.2.2.2.2.1,⟨rfl,aj.o.2.2.2.2.2,fun _ _ _ _=>GL _,fun j hj=>absurd hj (H7 _)⟩,aj.o.2.2.2.2.2⟩
  case round =>
   obtain ⟨k,xs,gs,bs,es,hk,rfl,f,hE,hrow,hs,L,aI,b7⟩:=hrel;have E:=bE.o;have aC:Eq (nT Z wr xs [A,B,C] k gs bs es):=aI;have N:Eq (Bl W0 wr):=L;have HZ:Eq (Z≤wr.heap.size):=b7;clear aI aZ bC bI za b7;have O:Bl wr wr.drew:=(Below.refl _ wr).drew;have Y:Eq (∀w',Bl wr w'→(w'.cell? ⟨P,2,none⟩=some (sL vb 3 3)∧P<w'.heap.size∧vb<w'.heap.size)):=fun w' kk=>⟨cell_later kk f.c2,E' f.lt kk.size,E' (hrow.lt vb rfl).2 kk.size⟩
   have ai:Eq (∀w' o u,Bl wr w'→((w'.setCell ⟨vb,o,none⟩ u).cell? ⟨P,2,none⟩=some (sL vb 3 3)∧P<(w'.setCell ⟨vb,o,none⟩ u).heap.size∧vb<(w'.setCell ⟨vb,o,none⟩ u).heap.size)):=fun w' o u kk=>⟨(an u (fun e=>E.1 e.1.symm)).trans (cell_later kk f.c2),by simpa [World.setCell] using E' f.lt kk.size,by simpa [World.setCell] using E' (hrow.lt vb rfl).2 kk.size⟩
   have aQ:k=0∨k=1∨k=2∨k=3:=by omega
   rcases aQ with rfl | rfl | rfl | rfl
   · have aW:=fun w=>DE w a0 a1 a2 F c0 H c1 n2 c2
     go_wp2_with fail
     refine eJ Y O fun s=>?_
     refine aR 0 4 s ?_;refine aV 4 fun K hK=>?_
     go_simp;refine (bt.o _ (N.o.trans (O.mono N.o.size))).mono ?_;rintro e w1 ⟨I,rfl,J,br⟩;have k1:Bl wr w1:=O.trans (br.mono O.size);obtain ⟨e1,J⟩:=J;have a6:Eq (er wr.drew.heap.size w1.heap.size w1 I F A e1):=J;have aD:wr.heap.size≤wr.drew.heap.size:=O.size;clear br J;go_wp2_with fail
     refine hK.o _ _ (Y.o _ k1) (fun s=>?_);clear hK K;(try go_frame);refine aR 5 1 s ?_;refine aV 6 fun K hK=>?_
     have t:=gS hrow k1;have c0:∃v,w1.cell? ⟨vb,0,none⟩=some v:=⟨_,(t.cellAt 0 (by omega)).trans (j' (by rw [t.1];omega))⟩;obtain ⟨v0,c0⟩:=c0;have f0:=t.frozenAt 0;go_simp;refine hK.o _ _ (ai.o _ _ _ k1) (fun s=>?_);clear hK K;(try go_frame);refine dN ?_;have t0:=(t.stored 0 (sL I F F)).1;have ax:=t.1;have bq:=(f.keep k1).other (b':=vb) (o:=0) E.1 (sL I F F);have kq:Bl W0 (w1.setCell ⟨vb,0,none⟩ (sL I F F)):=(N.o.trans (k1.mono N.o.size)).setCell (p:=⟨vb,0,none⟩) aO _;have ab:=(hE.below k1).setCell (p:=⟨vb,0,none⟩) E.2.2.2.1 (sL I F F);have a8:=cY (gS hs k1) E.2.2.2.2.1.symm 0 (sL I F F);have a7:eF Z w1 (w1.setCell ⟨vb,0,none⟩ (sL I F F)):=eF.of_set _ _ ad;have a9:Z≤(w1.setCell ⟨vb,0,none⟩ (sL I F F)).heap.size:=GU (GU HZ.o k1.size) a7.1;have a5:=oP (x:=I) (n:=F) (B:=A) aC.o ax k1 rfl rfl ad a6.o aD rfl;have U:Eq (_∧_∧_∧_∧_∧_∧_):=⟨bq,ab,t0,a8,kq,a5,a9⟩;clear s O k1 Y ai c0 f0 t t0 bq kq ab a8 a5 a9 a7 f hrow hE hs a6;go_wp2;go_roundw
     case rel =>
      obtain ⟨g',b',e',hh⟩:=U.o.2.2.2.2.2.1;exact ⟨0+1,_,g',b',e',by omega,by go_num,U.o.1,U.o.2.1,U.o.2.2.1,U.o.2.2.2.1,U.o.2.2.2.2.1,hh,U.o.2.2.2.2.2.2⟩
     case measure=>simp [intOf]
   · have aW:=fun w=>DD w a0 a1 a2 F c0 H c1 n2 c2
     go_wp2_with fail
     refine eJ Y O fun s=>?_
     refine aR 0 4 s ?_;refine aV 4 fun K hK=>?_
     go_simp;refine (bK.o _ (N.o.trans (O.mono N.o.size))).mono ?_;rintro e w1 ⟨I,rfl,J,br⟩;have k1:Bl wr w1:=O.trans (br.mono O.size);obtain ⟨e1,J⟩:=J;have a6:Eq (er wr.drew.heap.size w1.heap.size w1 I H B e1):=J;have aD:wr.heap.size≤wr.drew.heap.size:=O.size;clear br J;go_wp2_with fail
     refine hK.o _ _ (Y.o _ k1) (fun s=>?_);clear hK K;(try go_frame);refine aR 5 1 s ?_;refine aV 6 fun K hK=>?_
     have t:=gS hrow k1;have c0:∃v,w1.cell? ⟨vb,1,none⟩=some v:=⟨_,(t.cellAt 1 (by omega)).trans (j' (by rw [t.1];omega))⟩;obtain ⟨v0,c0⟩:=c0;have f0:=t.frozenAt 1;go_simp;refine hK.o _ _ (ai.o _ _ _ k1) (fun s=>?_);clear hK K;(try go_frame);refine dN ?_;have t0:=(t.stored 1 (sL I H H)).1;have ax:=t.1;have bq:=(f.keep k1).other (b':=vb) (o:=1) E.1 (sL I H H);have kq:Bl W0 (w1.setCell ⟨vb,1,none⟩ (sL I H H)):=(N.o.trans (k1.mono N.o.size)).setCell (p:=⟨vb,1,none⟩) aO _;have ab:=(hE.below k1).setCell (p:=⟨vb,1,none⟩) E.2.2.2.1 (sL I H H);have a8:=cY (gS hs k1) E.2.2.2.2.1.symm 1 (sL I H H);have a7:eF Z w1 (w1.setCell ⟨vb,1,none⟩ (sL I H H)):=eF.of_set _ _ ad;have a9:Z≤(w1.setCell ⟨vb,1,none⟩ (sL I H H)).heap.size:=GU (GU HZ.o k1.size) a7.1;have a5:=oP (x:=I) (n:=H) (B:=B) aC.o ax k1 rfl rfl ad a6.o aD rfl;have U:Eq (_∧_∧_∧_∧_∧_∧_):=⟨bq,ab,t0,a8,kq,a5,a9⟩;clear s O k1 Y ai c0 f0 t t0 bq kq ab a8 a5 a9 a7 f hrow hE hs a6;go_wp2;go_roundw
     case rel =>
      obtain ⟨g',b',e',hh⟩:=U.o.2.2.2.2.2.1;exact ⟨1+1,_,g',b',e',by omega,by go_num,U.o.1,U.o.2.1,U.o.2.2.1,U.o.2.2.2.1,U.o.2.2.2.2.1,hh,U.o.2.2.2.2.2.2⟩
     case measure=>simp [intOf]
   · have aW:=fun w=>DC w a0 a1 a2 F c0 H c1 n2 c2
     go_wp2_with fail
     refine eJ Y O fun s=>?_
     refine aR 0 4 s ?_;refine aV 4 fun K hK=>?_
     go_simp;refine (bG.o _ (N.o.trans (O.mono N.o.size))).mono ?_;rintro e w1 ⟨I,rfl,J,br⟩;have k1:Bl wr w1:=O.trans (br.mono O.size);obtain ⟨e1,J⟩:=J;have a6:Eq (er wr.drew.heap.size w1.heap.size w1 I n2 C e1):=J;have aD:wr.heap.size≤wr.drew.heap.size:=O.size;clear br J;go_wp2_with fail
     refine hK.o _ _ (Y.o _ k1) (fun s=>?_);clear hK K;(try go_frame);refine aR 5 1 s ?_;refine aV 6 fun K hK=>?_
     have t:=gS hrow k1;have c0:∃v,w1.cell? ⟨vb,2,none⟩=some v:=⟨_,(t.cellAt 2 (by omega)).trans (j' (by rw [t.1];omega))⟩;obtain ⟨v0,c0⟩:=c0;have f0:=t.frozenAt 2;go_simp;refine hK.o _ _ (ai.o _ _ _ k1) (fun s=>?_);clear hK K;(try go_frame);refine dN ?_;have t0:=(t.stored 2 (sL I n2 n2)).1;have ax:=t.1;have bq:=(f.keep k1).other (b':=vb) (o:=2) E.1 (sL I n2 n2);have kq:Bl W0 (w1.setCell ⟨vb,2,none⟩ (sL I n2 n2)):=(N.o.trans (k1.mono N.o.size)).setCell (p:=⟨vb,2,none⟩) aO _;have ab:=(hE.below k1).setCell (p:=⟨vb,2,none⟩) E.2.2.2.1 (sL I n2 n2);have a8:=cY (gS hs k1) E.2.2.2.2.1.symm 2 (sL I n2 n2);have a7:eF Z w1 (w1.setCell ⟨vb,2,none⟩ (sL I n2 n2)):=eF.of_set _ _ ad;have a9:Z≤(w1.setCell ⟨vb,2,none⟩ (sL I n2 n2)).heap.size:=GU (GU HZ.o k1.size) a7.1;have a5:=oP (x:=I) (n:=n2) (B:=C) aC.o ax k1 rfl rfl ad a6.o aD rfl;have U:Eq (_∧_∧_∧_∧_∧_∧_):=⟨bq,ab,t0,a8,kq,a5,a9⟩;clear s O k1 Y ai c0 f0 t t0 bq kq ab a8 a5 a9 a7 f hrow hE hs a6;go_wp2;go_roundw
     case rel =>
      obtain ⟨g',b',e',hh⟩:=U.o.2.2.2.2.2.1;exact ⟨2+1,_,g',b',e',by omega,by go_num,U.o.1,U.o.2.1,U.o.2.2.1,U.o.2.2.2.1,U.o.2.2.2.2.1,hh,U.o.2.2.2.2.2.2⟩
     case measure=>simp [intOf]
   · have y5:=cell_later L x5;have zy:=GK _ _ y5;simp only at zy;obtain ⟨wz,a3⟩:=aG (wr.setCells sb 0 (S.map iT));have ae:S.length=nk:=HS.o.length;have bV:(Builtin.copy_ #[24,24] 3 #[sL sb nk nk,.slice ak nk ck]).run Tryz.prog wr=.ok (iT nk) wz:=by
      rw [a3];by_cases bu:nk=0
      · have bv:S=[]:=Hy.1 (by omega);subst bv;subst bu;exact run_copy_none (P:=Tryz.prog) wr 24 24 3 3 (pT sb) ak 0 0 0 ck Tryz.underlying24 (by kernel_rfl) (by simp)
      · obtain ⟨b',o',rfl,c8⟩:=(HS.o.keep KW.o).form (by omega);have:=run_copy_cells (P:=Tryz.prog) wr 24 24 3 3 sb 0 nk nk ⟨b',o',none⟩ nk ck (S.map iT) Tryz.underlying24 (by kernel_rfl) (by rw [Id,ae];exact (Nat.min_self nk).symm) ?_ ?_ ?_ ?_
        · rw [this,Id,ae];rfl
        · intro j v hj;rw [Iy] at hj;rw [G6];cases hx:S[j]? with
          | none=>rw [hx] at hj;cases hj
          | some z =>
           rw [hx] at hj;cases hj;have bl:j<nk:=by rw [← ae];exact (F'.1 hx).1
           obtain ⟨z',b6,_,cz⟩:=((HS.o.keep KW.o).keep L).num (Below.refl _ wr) j bl;rw [hx] at b6;cases b6;exact cz
        · intro j hj;rw [Id,ae] at hj;rw [GT];rw [hs.cellAt j (by omega),j' (by rw [hs.1];omega)];rfl
        · exact fun j _=>hs.frozenAt _
        · intro v hv;obtain ⟨z,_,rfl⟩:=Ib.1 hv;rfl
     have aM:ay wz P (iT q) (sL eb nm nm) (sL vb 3 3) (sL sb nk nk):=by rw [a3];exact eS (R:=fun w'=>ay w' P (iT q) (sL eb nm nm) (sL vb 3 3) (sL sb nk nk)) (fun w' o u h=>h.other E.2.1 u) _ _ _ f
     have ba:ag wz W0.heap.size eb nm nm M:=by rw [a3];exact eS (R:=fun w'=>ag w' W0.heap.size eb nm nm M) (fun w' o u h=>h.setCell (p:=⟨sb,o,none⟩) E.2.2.2.2.2 u) _ _ _ hE
     have bb:wz.ownsRow W0.heap.size 61 1 (sL vb 3 3) 3 xs:=by rw [a3];exact eS (R:=fun w'=>w'.ownsRow W0.heap.size 61 1 (sL vb 3 3) 3 xs) (fun w' o u h=>cY h E.2.2.2.2.1 o u) _ _ _ hrow
     have au:Bl W0 wz:=by rw [a3];exact eS (R:=fun w'=>Bl W0 w') (fun w' o u h=>h.setCell (p:=⟨sb,o,none⟩) (hs.lt sb rfl).1 u) _ _ _ L
     have aL:eF Z wr wz:=by rw [a3];exact eS (R:=fun w'=>eF Z wr w') (fun w' o u h=>h.trans (eF.of_set _ _ aP)) _ _ _ ⟨GL _,fun _ _ _ _=>rfl⟩
     have hsw:W0.heap.size≤sb:=(hs.lt sb rfl).1;have hiz:bJ W0.heap.size wz (pT sb) nk nk S:=by
      refine ⟨ae,GL _,by unfold maxLen;omega,HS.o.wfs,(fun e=>by cases e),?_,?_⟩
      · rintro x e hp;cases e;exact ⟨E' (hs.lt sb rfl).2 aL.1,rfl,hsw⟩
      · rintro x e i hi;cases e;have:=World.cell?_setCells_in sb (S.map iT) 0 wr (fun j hj=>by
         rw [Id,ae] at hj;rw [GT,hs.cellAt j (by omega),j' (by rw [hs.1];omega)];rfl) i (by rw [Id];exact hi)
        rw [a3];simpa using this
     have bc:dw sb (sb+1) wr wz:=by rw [a3];exact eS (R:=fun w'=>dw sb (sb+1) wr w') (fun w' o u h=>h.trans ⟨rfl,rfl,rfl,by simp [World.setCell],fun q _ hq=>Below.heap_setCell _ _ _ _ (fun e=>by have e':q=sb:=e;omega)⟩) _ _ _ (dw.refl _ _ _)
     have b9:Eq (nT Z wz xs [A,B,C] 3 gs bs es):=aC.o.keepO bc aP;have bd:Eq (nS W0.heap.size wz sb nk S):=by rw [a3];exact AV hs ae
     have bz:Eq (BS Z wz xs [A,B,C] 3):=b9.o.hasR;clear bc;have c6:=aM.all;have cb:=f.c3;have cd:=f.lt;have zp:=aM.lt;have bq:=BR.o.keep au;have d0:=bq.all;have aJ:Eq (wz.ownsRow W0.heap.size 61 1 (sL vb 3 3) 3 xs):=bb;have b3:Eq (ag wz W0.heap.size eb nm nm M):=ba;have bp:Eq (bJ W0.heap.size wz (pT sb) nk nk S):=hiz;have bx:Eq (ay wz (X+1) (iT 0) nZ nZ nZ):=bq;have bF:Eq (Bl W0 wz):=au;have bA:W0.heap.size≤eb:=hE.lt.1;clear hrow f bq Y ai O L aM ba bb au aL hiz hE hs a3 aC;go_wp2;refine bodyPost_ret (v:=.agg #[iT q,sL eb nm nm,sL vb 3 3,sL sb nk nk]) ?_ rfl ⟨eb,vb,sb,gs,bs,es,rfl,?_,?_,?_⟩
     · have e:=(((bx.o.set0 (iT q)).set1 (sL eb nm nm)).set2 (sL vb 3 3)).set3 (sL sb nk nk);simp [results,Tryz.results92,go_sem,e.all]
     · have hsz:=b8.o;have bH:=aN.o;have a4:vb≠X+1:=by omega
       have hm:eF W0.heap.size wz ((((wz.setCell ⟨X+1,0,none⟩ (iT q)).setCell ⟨X+1,1,none⟩ (sL eb nm nm)).setCell ⟨X+1,2,none⟩ (sL vb 3 3)).setCell ⟨X+1,3,none⟩ (sL sb nk nk)):=(((eF.of_set _ _ (by show X+1<_;omega)).trans (eF.of_set _ _ (by show X+1<_;omega))).trans (eF.of_set _ _ (by show X+1<_;omega))).trans (eF.of_set _ _ (by show X+1<_;omega));have r4:=cY (cY (cY (cY aJ.o a4 0 (iT q)) a4 1 (sL eb nm nm)) a4 2 (sL vb 3 3)) a4 3 (sL sb nk nk);have hE:fu W0.heap.size wz (pT eb) nm nm M:=⟨b3.o.entsAt,fun x e _=>by cases e;exact bA⟩;have bD:∀{u},eF W0.heap.size wz u→eF Z wz u:=fun h=>⟨h.1,fun b o hb hl=>h.2 b o (by omega) hl⟩
       exact ⟨(hE.same hm).mono (by omega),wy r4 (by omega) (by omega) rfl (bz.o.same (bD hm)),(bp.o.same hm).lower (by omega)⟩
     · have hsz:=b8.o;have bH:=aN.o;have a4:vb≠X+1:=by omega
       have aF:sb≠X+1:=by omega
       have aH:eb≠X+1:=by omega
       have r4:=cY (cY (cY (cY aJ.o a4 0 (iT q)) a4 1 (sL eb nm nm)) a4 2 (sL vb 3 3)) a4 3 (sL sb nk nk);have s4:=cY (cY (cY (cY bd.o.2 aF 0 (iT q)) aF 1 (sL eb nm nm)) aF 2 (sL vb 3 3)) aF 3 (sL sb nk nk);have e4:=(((b3.o.setCell (p:=⟨X+1,0,none⟩) aH.symm (iT q)).setCell (p:=⟨X+1,1,none⟩) aH.symm (sL eb nm nm)).setCell (p:=⟨X+1,2,none⟩) aH.symm (sL vb 3 3)).setCell (p:=⟨X+1,3,none⟩) aH.symm (sL sb nk nk);have al:∀(w':World) (o:Nat) (u:Value),dw (X+1) (X+1+1) w' (w'.setCell ⟨X+1,o,none⟩ u):=fun w' o u=>⟨rfl,rfl,rfl,by simp [World.setCell],fun q _ hq=>Below.heap_setCell _ _ _ _ (fun e=>by have e':q=X+1:=e;omega)⟩
       have h4:=b9.o.keepO ((((al wz 0 (iT q)).trans (al _ 1 (sL eb nm nm))).trans (al _ 2 (sL vb 3 3))).trans (al _ 3 (sL sb nk nk))) (by omega);have bL:=Dn (lo:=w.heap.size) r4 (by omega) (by omega) ad rfl h4;exact ⟨e4.mono (by omega),bL,⟨bd.o.1,jb s4 (by omega)⟩,by rw [h4.1];exact ⟨bB,aP⟩⟩
     · have hx:w.heap.size≤X+1:=by have:=aN.o;omega
       exact ((((KW.o.trans (bF.o.mono KW.o.size)).setCell (p:=⟨X+1,0,none⟩) hx _).setCell (p:=⟨X+1,1,none⟩) hx _).setCell (p:=⟨X+1,2,none⟩) hx _).setCell (p:=⟨X+1,3,none⟩) hx _
theorem aq.same {t sz:Nat} (h:aq w g t sz) (hf:w'.heap[g]?=w.heap[g]?):aq w' g t sz:=by
 obtain ⟨d,h1,h2⟩:=h;exact ⟨d,hf.trans h1,h2⟩
def FP (e:ac):Prop:=e.1.size≤281474976710656∧e.2.2.2.1.size≤281474976710656
def BU (B:List af):Nat:=(B.map fun p=>p.1.length).sum
def Fv (V:List (List af)):Nat:=(V.map fun B=>BU B+B.length).sum
def Gm (B:List af):Prop:=∀p ∈ B,∀e ∈ p.1,FP e
theorem aZ.lowR {e d cs:Nat} (h:aZ lo w am nm e av nv d ak ns cs M V S) (hl:lo'≤lo):aZ lo' w am nm e av nv d ak ns cs M V S:=⟨h.mem.mono hl,h.levels.mono hl,h.snaps.lower hl⟩
theorem gu.levelsIn {G:Nat} {m:Nat→Nat→Nat} (h:gu lo hi w G n V gs bs m):cF lo w (pT G) n n V:=by
 obtain ⟨xs,f,r2⟩:=h.row;have d:=cC f;have hl:=h.len;refine ⟨h.len,d.1,d.2,(fun e=>by cases e),?_,?_⟩
 · rintro x e _;cases e;exact ⟨(f.lt G rfl).2,rfl,(f.lt G rfl).1⟩
 · rintro x e i hi;cases e;have hp:=j' hi;have u:=h.up 0 i (by omega) (by omega);refine ⟨_,_,_,?_,(h.levs i _ hp).runsIn.mono (by have:=h.bot.1;omega)⟩;simp only [GT];exact (f.cellAt _ (by omega)).trans (r2 i _ hp)
theorem fq.treeIn {b1 b2 b3:Nat} {f:Nat→Nat→Nat} (h:fq lo hi w b1 nm b2 nv b3 ns M V S gs bs f) (hw:∀z ∈ S,(Lit.int .i64 z).wf=true):aZ 0 w (pT b1) nm nm (pT b2) nv nv (pT b3) ns ns M V S:=by
 have d:=cC h.sn.2;have hl:=h.sn.1;refine ⟨⟨h.mem.entsAt,fun x e _=>GQ _⟩,h.levs.levelsIn.mono (GQ _),⟨hl,d.1,d.2,hw,(fun e=>by cases e),?_,?_⟩⟩
 · rintro x e _;cases e;exact ⟨(h.sn.2.lt b3 rfl).2,rfl,GQ _⟩
 · rintro x e i hi;cases e;simp only [GT];have h1:=h.sn.2.cellAt i (by omega);rw [Iy,j' hi] at h1;exact h1
def o4 (lo hi:Nat) (w:World) (am:Option Addr) (nm:Nat) (av:Option Addr) (nv:Nat) (ak:Option Addr) (ns:Nat) (M:List ac) (V:List (List af)) (S:List Int) (gs bs:Nat→Nat) (es:Nat→Nat→Nat):Prop :=
 (∃b1 b2 b3,am=some ⟨b1,0,none⟩∧av=some ⟨b2,0,none⟩∧ak=some ⟨b3,0,none⟩∧fq lo hi w b1 nm b2 nv b3 ns M V S gs bs es)∨(am=none∧av=none∧ak=none∧nm=0∧nv=0∧ns=0∧M=[]∧V=[]∧S=[])
theorem o4.below {es:Nat→Nat→Nat} (h:o4 lo hi w am nm av nv ak ns M V S gs bs es) (hb:Bl w w'):o4 lo hi w' am nm av nv ak ns M V S gs bs es:=by
 rcases h with ⟨b1,b2,b3,h1,h2,h3,h4⟩ | h
 · exact .inl ⟨b1,b2,b3,h1,h2,h3,h4.below hb⟩
 · exact .inr h
theorem o4.keepO {es:Nat→Nat→Nat} (h:o4 lo hi w am nm av nv ak ns M V S gs bs es) (k:dw lo' hi' w w') (hd:hi'≤lo):o4 lo hi w' am nm av nv ak ns M V S gs bs es:=by
 rcases h with ⟨b1,b2,b3,h1,h2,h3,h4⟩ | h
 · exact .inl ⟨b1,b2,b3,h1,h2,h3,h4.keepO k hd⟩
 · exact .inr h
theorem mh (lo:Nat) (w:World):aZ lo w none 0 0 none 0 0 none 0 0 [] [] [] :=
 ⟨⟨⟨rfl,GL _,GQ _,(fun e d=>by cases d),fun _=>rfl,(fun x e=>by cases e),(fun x e=>by cases e)⟩,fun x e=>by cases e⟩,⟨rfl,GL _,GQ _,fun _=>rfl,(fun x e=>by cases e),(fun x e=>by cases e)⟩,⟨rfl,GL _,GQ _,(fun z hz=>by cases hz),fun _=>rfl,(fun x e=>by cases e),(fun x e=>by cases e)⟩⟩
theorem o4.treeIn {d:Nat→Nat→Nat} (h:o4 lo hi w am nm av nv ak ns M V S gs bs d) (hw:∀z ∈ S,(Lit.int .i64 z).wf=true):aZ 0 w am nm nm av nv nv ak ns ns M V S:=by
 rcases h with ⟨b1,b2,b3,rfl,rfl,rfl,h4⟩ | ⟨rfl,rfl,rfl,rfl,rfl,rfl,rfl,rfl,rfl⟩
 · exact h4.treeIn hw
 · exact mh 0 w
def Em (q:Int) (M:List ac) (V:List (List af)) (S:List Int) (ok:Bool) (w:World) (e:Ending) (w':World):Prop :=
 ∃am nm cm av nv cv ak ns cs,e=.returned (.tuple #[.agg #[iT q,.slice am nm cm,.slice av nv cv,.slice ak ns cs],.bool ok])∧aZ 0 w' am nm cm av nv cv ak ns cs M V S∧Bl w w'
def pF (q:Int) (M:List ac) (V:List (List af)) (S:List Int) (ok:Bool) (w:World) (e:Ending) (w':World):Prop :=
 ∃am nm av nv ak ns gs bs es,e=.returned (.tuple #[.agg #[iT q,.slice am nm nm,.slice av nv nv,.slice ak ns ns],.bool ok])∧o4 w.heap.size w'.heap.size w' am nm av nv ak ns M V S gs bs es∧Bl w w'
end Go.Proofs.YtpobkmjicbobdaaGreat
