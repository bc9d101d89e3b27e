/- Walks. -/
import Derived.Test.YtpobkmjicbobdaaGreatSn17
namespace Go.Proofs.YtpobkmjicbobdaaGreat
set_option maxRecDepth 100000
set_option maxHeartbeats 40000000
open Go.RowKit
variable {M:List ac} {T Z b base g hi hi' k lo lo' n nk nm vb:Nat} {V:List (List af)} {W w w':World} {bs gs:Nat→Nat} {oe op os ov:Option Nat} {xs:List Value}
theorem gG {base' size:Nat} {v:Value} (h:w.ownsRow base T size v n xs) (hb:base'≤base):w.ownsRow base' T size v n xs:=by
 refine ⟨h.1,?_⟩;rcases h.2 with h2 | ⟨g,cap,cur,hv,hg,r⟩
 · exact Or.inl h2
 · exact Or.inr ⟨g,cap,cur,hv,Nat.le_trans hb hg,r⟩
theorem dF.mono {B:List af} {es:Nat→Nat} (h:dF lo hi w g n B es) (h1:lo'≤lo) (h2:hi≤hi'):dF lo' hi' w g n B es:=by
 obtain ⟨xs,r1,r2⟩:=h.row;exact ⟨h.len,⟨xs,gG r1 h1,r2⟩,fun i p hp=>(h.ents i p hp).mono h1,h.up,⟨by have:=h.top.1;omega,fun i hi'=>by have:=h.top.2 i hi';omega⟩,h.wfs⟩
theorem dF.runsIn {B:List af} {es:Nat→Nat} (h:dF lo hi w g n B es):aw lo w (pT g) n n B:=by
 obtain ⟨xs,r1,r2⟩:=h.row;have hrc:=bX r1;have hl:=h.len;refine ⟨h.len,hrc.1,hrc.2,(fun e=>by cases e),?_,?_⟩
 · rintro x e _;cases e;exact ⟨(r1.lt g rfl).2,rfl,(r1.lt g rfl).1⟩
 · rintro x e i hi;cases e;have hp:=List.getElem?_eq_getElem hi;have hO:=h.ents i _ hp;refine ⟨h.wfs _ (List.getElem_mem hi),_,_,_,?_,?_,hO.entsAt,fun x e _=>by cases e;exact hO.lt.1⟩
   · simp only [Nat.zero_add];exact (r1.cellAt _ (by omega)).trans (r2 i _ hp).1
   · simp only [Nat.zero_add];exact (r1.cellAt _ (by omega)).trans (r2 i _ hp).2
def kT (Z:Nat) (w:World) (xs:List Value) (V:List (List af)) (k:Nat) (gs bs:Nat→Nat) (es:Nat→Nat→Nat):Prop :=
 bs 0=Z∧bs k≤w.heap.size∧(∀i j,i≤j→j≤k→bs i≤bs j)∧∀j,j<k→∃B:List af,V[j]?=some B∧xs[j]?=some (sL (gs j) B.length B.length)∧dF (bs j) (bs (j+1)) w (gs j) B.length B (es j)
theorem kT.hasR {es:Nat→Nat→Nat} (h:kT Z w xs V k gs bs es):wG Z w xs V k:=fun j hj=>by
 obtain ⟨B,h1,h2,h3⟩:=h.2.2.2 j hj
 have hu:=h.2.2.1 0 j (by omega) (by omega)
 rw [h.1] at hu
 exact ⟨_,_,B,h1,h2,h3.runsIn.mono hu⟩
theorem kT.keepO {es:Nat→Nat→Nat} (h:kT Z w xs V k gs bs es) (kk:cJ lo' hi' w w') (hd:hi'≤Z):kT Z w' xs V k gs bs es :=
 ⟨h.1,Nat.le_trans h.2.1 kk.size,h.2.2.1,fun j hj=>by
  obtain ⟨B,h1,h2,h3⟩:=h.2.2.2 j hj
  have hu:=h.2.2.1 0 j (by omega) (by omega)
  rw [h.1] at hu
  exact ⟨B,h1,h2,h3.keepO kk (Or.inr (by omega))⟩⟩
theorem kT.below {es:Nat→Nat→Nat} (h:kT Z w xs V k gs bs es) (hb:Bl w w'):kT Z w' xs V k gs bs es :=
 ⟨h.1,Nat.le_trans h.2.1 hb.size,h.2.2.1,fun j hj=>by
  obtain ⟨B,h1,h2,h3⟩:=h.2.2.2 j hj
  exact ⟨B,h1,h2,h3.below hb⟩⟩
theorem lJ {lo1:Nat} {w1 w2:World} {x:Nat} {B:List af} {es:Nat→Nat→Nat} {e1:Nat→Nat} {u:Value} (h:kT Z w xs V k gs bs es) (hl:xs.length=3*1) (hb:Bl w w1) (hw:w2=w1.setCell ⟨vb,k,none⟩ u) (hu:u=sL x n n) (hvb:vb<Z) (hR:dF lo1 w1.heap.size w1 x n B e1) (hlo:w.heap.size≤lo1) (hV:V[k]?=some B) (hk:k<3:=by omega) :
 ∃gs' bs' es',kT Z w2 (xs.set k u) V (k+1) gs' bs' es':=by
 have hkp:cJ vb (vb+1) w1 w2:=by rw [hw];exact ⟨rfl,rfl,rfl,by simp [World.setCell],fun q _ hq=>Below.heap_setCell _ _ _ _ (fun e=>by have e':q=vb:=e;omega)⟩
 have hsz:=hkp.size;have hZ:=h.1;have hbk:=h.2.1;have hup:=h.2.2.1;have hs1:=hb.size;have h0k:=hup 0 k (by omega) (by omega);have hn:B.length=n:=hR.len;subst hn;refine ⟨fun i=>if i=k then x else gs i,fun i=>if i≤k then bs i else w1.heap.size,fun i=>if i=k then e1 else es i,by simp [hZ],?_,?_,?_⟩
 · simp only [if_neg (show ¬k+1≤k by omega)];exact hsz
 · intro i j hij hj;simp only;by_cases hjk:j≤k
   · rw [if_pos hjk,if_pos (by omega)];exact hup i j hij hjk
   · rw [if_neg hjk];by_cases hik:i≤k
     · rw [if_pos hik];have:=hup i k hik (by omega);omega
     · rw [if_neg hik];exact Nat.le_refl _
 · intro j hj;by_cases e:j=k
   · subst e;refine ⟨B,hV,?_,?_⟩
     · rw [List.getElem?_set_self (by omega),hu];simp
     · simp only [if_true,Nat.le_refl,if_neg (show ¬j+1≤j by omega)];exact (hR.mono (by omega) (Nat.le_refl _)).keepO hkp (Or.inr (by omega))
   · obtain ⟨C,g1,g2,g3⟩:=h.2.2.2 j (by omega);have h0j:=hup 0 j (by omega) (by omega);refine ⟨C,g1,?_,?_⟩
     · simp only [if_neg e];rw [List.getElem?_set_ne (by omega)];exact g2
     · simp only [if_neg e,if_pos (show j≤k by omega),if_pos (show j+1≤k by omega)];exact (g3.below hb).keepO hkp (Or.inr (by omega))
theorem xF {es:Nat→Nat→Nat} (h:w.ownsRow base 61 1 (sL vb 3 3) 3 xs) (hb:lo≤base) (hZ:lo≤Z) (hvb:vb<Z) (hV:V.length=3) (h0:kT Z w xs V 3 gs bs es):fa lo w.heap.size w vb 3 V gs bs es:=by
 refine ⟨hV,⟨xs,gG h hb,fun i B hB=>?_⟩,fun i B hB=>?_,?_,h0.2.2.1,h0.2.1⟩
 · have hi:=(List.getElem?_eq_some_iff.1 hB).1;obtain ⟨C,g1,g2,_⟩:=h0.2.2.2 i (by omega);rw [hB] at g1;cases g1;exact g2
 · have hi:=(List.getElem?_eq_some_iff.1 hB).1;obtain ⟨C,g1,_,g3⟩:=h0.2.2.2 i (by omega);rw [hB] at g1;cases g1;exact g3
 · rw [h0.1];exact ⟨hZ,hvb⟩
theorem jQ {base T n g:Nat}:∀(cs:List Value) (o:Nat) (w:World) (xs:List Value),w.ownsRow base T 1 (sL g n n) n xs→∃ys,(w.setCells g o cs).ownsRow base T 1 (sL g n n) n ys∧(∀i,i<cs.length→o+i<n→ys[o+i]?=cs[i]?)∧∀i,i<o→ys[i]?=xs[i]?
 | [],_,_,xs,h=>⟨xs,h,(fun i hi=>absurd hi (Nat.not_lt_zero _)),fun _ _=>rfl⟩
 | c :: cs,o,w,xs,h=>by
  have h1:=(h.stored o c).1
  obtain ⟨ys,y1,y2,y3⟩:=jQ cs (o+1) _ _ h1
  have hxl:=h.1
  refine ⟨ys,y1,fun i hi hn=>?_,fun i hi=>?_⟩
  · cases i with
    | zero=>rw [Nat.add_zero,y3 o (by omega),List.getElem?_set_self (by omega)];rfl
    | succ i =>
     have:=y2 i (by simpa using hi) (by omega)
     rw [show o+(i+1)=o+1+i by omega,this]
     rfl
  · rw [y3 i (by omega),List.getElem?_set_ne (by omega)]
theorem vB {S:List Int} (h:w.ownsRow base 3 1 (sL g n n) n xs) (hS:S.length=n):kQ base (w.setCells g 0 (S.map iT)) g n S:=by
 obtain ⟨ys,y1,y2,_⟩:=jQ (S.map iT) 0 w xs h;refine ⟨hS,?_⟩;have e:ys=S.map iT:=by
  apply List.ext_getElem?;intro i;by_cases hi:i<n
  · have:=y2 i (by rw [List.length_map];omega) (by omega);rw [Nat.zero_add] at this;exact this
  · rw [List.getElem?_eq_none (by have:=y1.1;omega),List.getElem?_eq_none (by rw [List.length_map];omega)]
 rw [e] at y1;exact y1
theorem jk {ops:Array Oper} {o:Oper} {a:Act} {K:Act→World→Prop} {Q:Exit→Act→World→Prop} {E:Prop} {B:Nat} (hg:o.guard=none) (hop:o.op=Op.makeSlice 29 (.const (iT 3)) (.const (iT 3))) (hb:B≤w.heap.size) (hK:∀w' xs,w'.ownsRow B 61 1 (sL (w.heap.size) 3 3) 3 xs→w.grownBy w' none→K (a.put o.dst (sL (w.heap.size) 3 3)) w'):if Region.wanted o (yielded ops a.tmps)=true then Oper.wp Tryz.prog o a w K Q else E:=by
 obtain ⟨i1,hi1,hz10,hz11,hz12⟩:=info_parts Tryz.infoRunL;exact iB hg _ _ 29 hop B 61 i1 _ 1 Tryz.underlying29 hi1 hz10 hz11 .i64 .i64 _ _ 3 rfl rfl (by simp) (by simp) (by rw [hz12];omega) (by unfold maxLen;omega) hb (fun w' h1 h2=>hK w' _ h1 h2)
theorem jl {ops:Array Oper} {o:Oper} {a:Act} {K:Act→World→Prop} {Q:Exit→Act→World→Prop} {E:Prop} {B:Nat} (hg:o.guard=none) (hop:o.op=Op.makeSlice 24 (.tmp 14) (.tmp 14)) (hn:n≤1048576) (hv:a.eval (.tmp 14)=iT (n:Int)) (hb:B≤w.heap.size) (hK:∀w' xs,w'.ownsRow B 3 1 (sL (w.heap.size) n n) n xs→w.grownBy w' none→K (a.put o.dst (sL (w.heap.size) n n)) w'):if Region.wanted o (yielded ops a.tmps)=true then Oper.wp Tryz.prog o a w K Q else E:=by
 obtain ⟨i2,hi2,hz20,hz21,hz22⟩:=info_parts Tryz.infoInt;exact iB hg _ _ 24 hop B 3 i2 _ 1 Tryz.underlying24 hi2 hz20 hz21 .i64 .i64 _ _ n hv hv rfl rfl (by rw [hz22];omega) (by unfold maxLen;omega) hb (fun w' h1 h2=>hK w' _ h1 h2)
structure e9 (B nm nk:Nat) (M:List ac) (W w:World) (oe ov os op:Option Nat):Prop where
 low:Below B W w
 e:∀b,oe=some b→au w B b nm nm M
 v:∀b,ov=some b→∃xs,w.ownsRow B 61 1 (sL b 3 3) 3 xs
 s:∀b,os=some b→∃xs,w.ownsRow B 3 1 (sL b nk nk) nk xs
 p:∀b,op=some b→B≤b∧an w b 31 4∧ar w b (iT 0) nZ nZ nZ
theorem e9.keep {B:Nat} (h:e9 B nm nk M W w oe ov os op) (hs:B≤w.heap.size) (hb:Bl w w'):e9 B nm nk M W w' oe ov os op :=
 ⟨h.low.trans (hb.mono hs),fun b e=>(h.e b e).below hb,fun b e=>by obtain ⟨xs,hx⟩:=h.v b e;exact ⟨xs,fm hx hb⟩,fun b e=>by obtain ⟨xs,hx⟩:=h.s b e;exact ⟨xs,fm hx hb⟩,fun b e=>⟨(h.p b e).1,(h.p b e).2.1.below hb,(h.p b e).2.2.keep hb⟩⟩
theorem e9.addE {B:Nat} (h:e9 B nm nk M W w oe ov os op) (hs:B≤w.heap.size) (hE:au w' B b nm nm M) (hb:Bl w w'):e9 B nm nk M W w' (some b) ov os op :=
 ⟨(h.keep hs hb).low,fun c e=>by cases e;exact hE,(h.keep hs hb).v,(h.keep hs hb).s,(h.keep hs hb).p⟩
theorem e9.addV {B:Nat} (h:e9 B nm nk M W w oe ov os op) (hs:B≤w.heap.size) (hE:w'.ownsRow B 61 1 (sL b 3 3) 3 xs) (hb:w.grownBy w' none):e9 B nm nk M W w' oe (some b) os op:=by
 have k:=h.keep hs ((Below.refl _ _).grown hb (Nat.le_refl _) (by simp));exact ⟨k.low,k.e,fun c e=>by cases e;exact ⟨_,hE⟩,k.s,k.p⟩
theorem e9.addS {B:Nat} (h:e9 B nm nk M W w oe ov os op) (hs:B≤w.heap.size) (hE:w'.ownsRow B 3 1 (sL b nk nk) nk xs) (hb:w.grownBy w' none):e9 B nm nk M W w' oe ov (some b) op:=by
 have k:=h.keep hs ((Below.refl _ _).grown hb (Nat.le_refl _) (by simp));exact ⟨k.low,k.e,k.v,fun c e=>by cases e;exact ⟨_,hE⟩,k.p⟩
theorem e9.addP {B:Nat} (h:e9 B nm nk M W w oe ov os op) (hs:B≤w.heap.size):e9 B nm nk M W (w.alloc (.cells #[iT 0,nZ,nZ,nZ] 31)) oe ov os (some w.heap.size):=by
 have k:=h.keep hs ((Below.refl _ _).alloc (Nat.le_refl _) (.cells #[iT 0,nZ,nZ,nZ] 31));exact ⟨k.low,k.e,k.v,k.s,fun c e=>by cases e;exact ⟨hs,⟨#[iT 0,nZ,nZ,nZ],by unfold World.alloc;exact Array.getElem?_push_size,rfl⟩,ar.new _ _ _ _ _ _⟩⟩
theorem e9.fin {B eb sb P:Nat} (h:e9 B nm nk M W w (some eb) (some vb) (some sb) (some P)) (q:Int):∃(xs ys:List Value),ar ((((w.setCell ⟨P,0,none⟩ (iT q)).setCell ⟨P,1,none⟩ (sL eb nm nm)).setCell ⟨P,2,none⟩ (sL vb 3 3)).setCell ⟨P,3,none⟩ (sL sb nk nk)) P (iT q) (sL eb nm nm) (sL vb 3 3) (sL sb nk nk)∧au ((((w.setCell ⟨P,0,none⟩ (iT q)).setCell ⟨P,1,none⟩ (sL eb nm nm)).setCell ⟨P,2,none⟩ (sL vb 3 3)).setCell ⟨P,3,none⟩ (sL sb nk nk)) B eb nm nm M∧((((w.setCell ⟨P,0,none⟩ (iT q)).setCell ⟨P,1,none⟩ (sL eb nm nm)).setCell ⟨P,2,none⟩ (sL vb 3 3)).setCell ⟨P,3,none⟩ (sL sb nk nk)).ownsRow B 61 1 (sL vb 3 3) 3 xs∧((((w.setCell ⟨P,0,none⟩ (iT q)).setCell ⟨P,1,none⟩ (sL eb nm nm)).setCell ⟨P,2,none⟩ (sL vb 3 3)).setCell ⟨P,3,none⟩ (sL sb nk nk)).ownsRow B 3 1 (sL sb nk nk) nk ys∧(vb≠P∧sb≠P∧eb≠P∧vb≠eb∧vb≠sb∧sb≠eb)∧B≤P∧Below B W ((((w.setCell ⟨P,0,none⟩ (iT q)).setCell ⟨P,1,none⟩ (sL eb nm nm)).setCell ⟨P,2,none⟩ (sL vb 3 3)).setCell ⟨P,3,none⟩ (sL sb nk nk)):=by
 obtain ⟨hP,kP,bP⟩:=h.p P rfl;obtain ⟨xs,hv⟩:=h.v vb rfl;obtain ⟨ys,hs⟩:=h.s sb rfl;have hE:=h.e eb rfl;have kv:=dR hv;have ks:=dR hs;have ke:=dR hE.owns;have n1:vb≠P:=fun e=>by subst e;exact absurd (kv.kind kP) (by decide)
 have n2:sb≠P:=fun e=>by subst e;exact absurd (ks.kind kP) (by decide)
 have n3:eb≠P:=fun e=>by subst e;exact absurd (ke.kind kP) (by decide)
 have n4:vb≠eb:=fun e=>by subst e;exact absurd (kv.kind ke) (by decide)
 have n5:vb≠sb:=fun e=>by subst e;exact absurd (kv.kind ks) (by decide)
 have n6:sb≠eb:=fun e=>by subst e;exact absurd (ks.kind ke) (by decide)
 exact ⟨xs,ys,(((bP.set0 _).set1 _).set2 _).set3 _,(((hE.setCell (p:=⟨P,0,none⟩) n3.symm _).setCell (p:=⟨P,1,none⟩) n3.symm _).setCell (p:=⟨P,2,none⟩) n3.symm _).setCell (p:=⟨P,3,none⟩) n3.symm _,cw (cw (cw (cw hv n1 0 _) n1 1 _) n1 2 _) n1 3 _,cw (cw (cw (cw hs n2 0 _) n2 1 _) n2 2 _) n2 3 _,⟨n1,n2,n3,n4,n5,n6⟩,hP,gF h.low hP _ _ _ _⟩
def Al (q:Int) (nm nk:Nat) (M:List ac) (V:List (List af)) (S:List Int) (w:World) (e:Ending) (w':World):Prop :=
 ∃(eb vb sb:Nat) (gs bs:Nat→Nat) (es:Nat→Nat→Nat),e=.returned (.agg #[iT q,sL eb nm nm,sL vb 3 3,sL sb nk nk])∧aZ w.heap.size w' (pT eb) nm nm (pT vb) 3 3 (pT sb) nk nk M V S∧ec w.heap.size w'.heap.size w' eb nm vb 3 sb nk M V S gs bs es∧Bl w w'
theorem yi (lo:Nat) (q:Int) (am ak:Option Addr) (nm cm nk ck:Nat) (a0 a1 a2:Option Addr) (n0 c0 n1 c1 n2 c2:Nat) (M:List ac) (A B C:List af) (S:List Int) (w:World) (hM:aq w am nm cm M) (hS:aH lo w ak nk ck S) (h0:aw lo w a0 n0 c0 A) (h1:aw lo w a1 n1 c1 B) (h2:aw lo w a2 n2 c2 C)
 (bm:nm≤1048576) (bk:nk≤1048576) (em:oz M) (b0:iM A) (b1:iM B) (b2:iM C) (e0:f9 A) (e1:f9 B) (e2:f9 C) :
 Calls Tryz.prog 92 #[.agg #[iT q,.slice am nm cm,.slice a0 n0 c0,.slice a1 n1 c1,.slice a2 n2 c2,.slice ak nk ck]] w (Al q nm nk M [A,B,C] S w):=by
 obtain ⟨X,hX⟩:=aI w.heap.size;obtain ⟨W0,hW0⟩:=aI ((w.alloc (.cells #[iT q,.slice am nm cm,.slice a0 n0 c0,.slice a1 n1 c1,.slice a2 n2 c2,.slice ak nk ck] 82)).alloc (.cells #[iT 0,nZ,nZ,nZ] 31));have kW:Bl w W0:=by rw [hW0];exact bZ.alloc (by simp) _
 have x0:W0.cell? ⟨X,0,none⟩=some (iT q):=by rw [hW0,hX];simp
 have x1:W0.cell? ⟨X,1,none⟩=some (.slice am nm cm):=by rw [hW0,hX];simp
 have x2:W0.cell? ⟨X,2,none⟩=some (.slice a0 n0 c0):=by rw [hW0,hX];simp
 have x3:W0.cell? ⟨X,3,none⟩=some (.slice a1 n1 c1):=by rw [hW0,hX];simp
 have x4:W0.cell? ⟨X,4,none⟩=some (.slice a2 n2 c2):=by rw [hW0,hX];simp
 have x5:W0.cell? ⟨X,5,none⟩=some (.slice ak nk ck):=by rw [hW0,hX];simp
 have br:ar W0 (X+1) (iT 0) nZ nZ nZ:=by
  have:=ar.new (w.alloc (.cells #[iT q,.slice am nm cm,.slice a0 n0 c0,.slice a1 n1 c1,.slice a2 n2 c2,.slice ak nk ck] 82)) 31 (iT 0) nZ nZ nZ;rw [World.size_alloc] at this;rw [hW0,hX];exact this
 have hsz:W0.heap.size=X+1+1:=by rw [hW0,hX];simp
 have BR:Hid (ar W0 (X+1) (iT 0) nZ nZ nZ):=br;have HXW:Hid (X=w.heap.size):=hX;have HSZ:Hid (W0.heap.size=X+1+1):=hsz;have KW:Hid (Bl w W0):=kW;have HS:=bQ hS;have CE:Hid (∀w',Bl W0 w'→Calls Tryz.prog 149 #[.slice am nm cm] w' fun e w''=>∃b:Nat,e=.returned (sL b nm nm)∧w'.heap.size≤b∧au w'' W0.heap.size b nm nm M∧Bl w' w''):=fun w' k=>(oo am nm cm M w' ((hM.keep kW).keep k) bm em).mono (fun e w'' h=>⟨_,h.1,Nat.le_refl _,h.2.1.mono k.size,h.2.2.2⟩)
 have CR0:Hid (∀w',Bl W0 w'→Calls Tryz.prog 150 #[.slice a0 n0 c0] w' fun e w''=>∃b:Nat,e=.returned (sL b n0 n0)∧(∃e1,dF w'.heap.size w''.heap.size w'' b n0 A e1)∧Bl w' w''):=fun w' k=>(om lo a0 n0 c0 A w' ((h0.keep kW).keep k) b0 e0).mono (fun e w'' h=>⟨_,h.1,h.2.1,h.2.2.2⟩)
 have CR1:Hid (∀w',Bl W0 w'→Calls Tryz.prog 150 #[.slice a1 n1 c1] w' fun e w''=>∃b:Nat,e=.returned (sL b n1 n1)∧(∃e1,dF w'.heap.size w''.heap.size w'' b n1 B e1)∧Bl w' w''):=fun w' k=>(om lo a1 n1 c1 B w' ((h1.keep kW).keep k) b1 e1).mono (fun e w'' h=>⟨_,h.1,h.2.1,h.2.2.2⟩)
 have CR2:Hid (∀w',Bl W0 w'→Calls Tryz.prog 150 #[.slice a2 n2 c2] w' fun e w''=>∃b:Nat,e=.returned (sL b n2 n2)∧(∃e1,dF w'.heap.size w''.heap.size w'' b n2 C e1)∧Bl w' w''):=fun w' k=>(om lo a2 n2 c2 C w' ((h2.keep kW).keep k) b2 e2).mono (fun e w'' h=>⟨_,h.1,h.2.1,h.2.2.2⟩)
 have k0:Bl W0 W0.drew:=(Below.refl _ W0).drew;have HMK:Hid (∀w',Bl W0 w'→(w'.cell? ⟨X,0,none⟩=some (iT q)∧w'.cell? ⟨X,1,none⟩=some (.slice am nm cm)∧w'.cell? ⟨X,5,none⟩=some (.slice ak nk ck)∧X<w'.heap.size)):=fun w' kk=>⟨cell_later kk x0,cell_later kk x1,cell_later kk x5,World.block_lt_of_cell? _ _ (cell_later kk x0)⟩
 obtain ⟨i1,hi1,hz10,hz11,hz12⟩:=info_parts Tryz.infoRunL;obtain ⟨i2,hi2,hz20,hz21,hz22⟩:=info_parts Tryz.infoInt;clear br kW hM hS h0 h1 h2 b0 b1 b2 e0 e1 e2 em hsz;go_enter Tryz.func92,Tryz.ntmps92
 go_upto_region 1 with fail
 rw [← hX,← hW0];clear hX hW0;go_cut [3] (fun s3 wx=>∃(P eb vb sb:Nat) (xs ys:List Value),s3=.pointer (pT P)∧ar wx P (iT q) (sL eb nm nm) (sL vb 3 3) (sL sb nk nk)∧au wx W0.heap.size eb nm nm M∧wx.ownsRow W0.heap.size 61 1 (sL vb 3 3) 3 xs∧wx.ownsRow W0.heap.size 3 1 (sL sb nk nk) nk ys∧(vb≠P∧sb≠P∧eb≠P∧vb≠eb∧vb≠sb∧sb≠eb)∧W0.heap.size≤P∧Bl W0 wx)
 case first =>
  refine eD HMK k0 fun aa=>?_
  have st:e9 W0.heap.size nm nk M W0 W0.drew none none none none:=⟨k0,(fun _ e=>by cases e),(fun _ e=>by cases e),(fun _ e=>by cases e),(fun _ e=>by cases e)⟩;generalize W0.drew=wc at k0 st aa ⊢;refine aO 0 4 aa ?_;refine aO 6 3 aa ?_;refine wpAnyH_ready (rs:=[4,5,9,11]) (by kernel_rfl) (by simp) (bU rfl (fun K hK=>?_) (bU rfl (fun K hK=>?_) (bU rfl (fun K hK=>?_) (bU rfl (fun K hK=>?_) AllReadyH.nil))))
  · go_simp;refine (CE.out _ st.low).mono ?_;rintro e wc ⟨eb,rfl,_,hE,be⟩;have st:=st.addE st.low.size hE be;clear be hE;go_wp2_with fail;refine hK.out _ _ (HMK.out _ st.low) (fun aa=>?_);clear hK K;try go_frame
    refine wpAnyH_ready (rs:=[5,9,11]) (by kernel_rfl) (by simp) (bU rfl (fun K hK=>?_) (bU rfl (fun K hK=>?_) (bU rfl (fun K hK=>?_) AllReadyH.nil)))
    · refine jk rfl rfl st.low.size fun wc _ hov hgv=>?_;have st:=st.addV st.low.size hov hgv;clear hov hgv;refine hK.out _ _ (HMK.out _ st.low) (fun aa=>?_);clear hK K;try go_frame
      refine wpAnyH_ready (rs:=[9,11]) (by kernel_rfl) (by simp) (bU rfl (fun K hK=>?_) (bU rfl (fun K hK=>?_) AllReadyH.nil))
      · refine jl rfl rfl bk rfl st.low.size fun wc _ hov hgv=>?_;have st:=st.addS st.low.size hov hgv;clear hov hgv;refine hK.out _ _ (HMK.out _ st.low) (fun aa=>?_);clear hK K;try go_frame
        refine aO 10 1 aa ?_;refine aJ 11 fun K hK=>?_
        go_simp;have st:=st.addP st.low.size;refine hK.out _ _ (HMK.out _ st.low) (fun aa=>?_);clear hK K;generalize wc.alloc (.cells #[iT 0,nZ,nZ,nZ] 31)=wc at st aa ⊢;(try go_frame);refine aJ 12 fun K hK=>?_
        obtain ⟨xs,ys,hF⟩:=st.fin q;obtain ⟨hPw,_,hp⟩:=st.p _ rfl;have c0:=hp.c0;have c1:=hp.c1;have c2:=hp.c2;have c3:=hp.c3;have fz:=hp.fz;have zp:=hp.lt;go_simp;refine hK.out _ _ (HMK.out _ hF.2.2.2.2.2.2) (fun aa=>?_);clear hK K;(try go_frame);refine wpAnyH_done (by kernel_rfl) ?_ _;go_wp2;go_meet;exact ⟨_,_,_,_,xs,ys,rfl,hF⟩
      · go_simp;have st:=st.addP st.low.size;refine hK.out _ _ (HMK.out _ st.low) (fun aa=>?_);clear hK K;generalize wc.alloc (.cells #[iT 0,nZ,nZ,nZ] 31)=wc at st aa ⊢;(try go_frame);refine aJ 9 fun K hK=>?_
        refine jl rfl rfl bk rfl st.low.size fun wc _ hov hgv=>?_;have st:=st.addS st.low.size hov hgv;clear hov hgv;refine hK.out _ _ (HMK.out _ st.low) (fun aa=>?_);clear hK K;try go_frame
        refine aO 10 1 aa ?_;refine aJ 12 fun K hK=>?_
        obtain ⟨xs,ys,hF⟩:=st.fin q;obtain ⟨hPw,_,hp⟩:=st.p _ rfl;have c0:=hp.c0;have c1:=hp.c1;have c2:=hp.c2;have c3:=hp.c3;have fz:=hp.fz;have zp:=hp.lt;go_simp;refine hK.out _ _ (HMK.out _ hF.2.2.2.2.2.2) (fun aa=>?_);clear hK K;(try go_frame);refine wpAnyH_done (by kernel_rfl) ?_ _;go_wp2;go_meet;exact ⟨_,_,_,_,xs,ys,rfl,hF⟩
    · refine jl rfl rfl bk rfl st.low.size fun wc _ hov hgv=>?_;have st:=st.addS st.low.size hov hgv;clear hov hgv;refine hK.out _ _ (HMK.out _ st.low) (fun aa=>?_);clear hK K;try go_frame
      refine wpAnyH_ready (rs:=[5,11]) (by kernel_rfl) (by simp) (bU rfl (fun K hK=>?_) (bU rfl (fun K hK=>?_) AllReadyH.nil))
      · refine jk rfl rfl st.low.size fun wc _ hov hgv=>?_;have st:=st.addV st.low.size hov hgv;clear hov hgv;refine hK.out _ _ (HMK.out _ st.low) (fun aa=>?_);clear hK K;try go_frame
        refine aO 10 1 aa ?_;refine aJ 11 fun K hK=>?_
        go_simp;have st:=st.addP st.low.size;refine hK.out _ _ (HMK.out _ st.low) (fun aa=>?_);clear hK K;generalize wc.alloc (.cells #[iT 0,nZ,nZ,nZ] 31)=wc at st aa ⊢;(try go_frame);refine aJ 12 fun K hK=>?_
        obtain ⟨xs,ys,hF⟩:=st.fin q;obtain ⟨hPw,_,hp⟩:=st.p _ rfl;have c0:=hp.c0;have c1:=hp.c1;have c2:=hp.c2;have c3:=hp.c3;have fz:=hp.fz;have zp:=hp.lt;go_simp;refine hK.out _ _ (HMK.out _ hF.2.2.2.2.2.2) (fun aa=>?_);clear hK K;(try go_frame);refine wpAnyH_done (by kernel_rfl) ?_ _;go_wp2;go_meet;exact ⟨_,_,_,_,xs,ys,rfl,hF⟩
      · go_simp;have st:=st.addP st.low.size;refine hK.out _ _ (HMK.out _ st.low) (fun aa=>?_);clear hK K;generalize wc.alloc (.cells #[iT 0,nZ,nZ,nZ] 31)=wc at st aa ⊢;(try go_frame);refine aJ 5 fun K hK=>?_
        refine jk rfl rfl st.low.size fun wc _ hov hgv=>?_;have st:=st.addV st.low.size hov hgv;clear hov hgv;refine hK.out _ _ (HMK.out _ st.low) (fun aa=>?_);clear hK K;try go_frame
        refine aO 10 1 aa ?_;refine aJ 12 fun K hK=>?_
        obtain ⟨xs,ys,hF⟩:=st.fin q;obtain ⟨hPw,_,hp⟩:=st.p _ rfl;have c0:=hp.c0;have c1:=hp.c1;have c2:=hp.c2;have c3:=hp.c3;have fz:=hp.fz;have zp:=hp.lt;go_simp;refine hK.out _ _ (HMK.out _ hF.2.2.2.2.2.2) (fun aa=>?_);clear hK K;(try go_frame);refine wpAnyH_done (by kernel_rfl) ?_ _;go_wp2;go_meet;exact ⟨_,_,_,_,xs,ys,rfl,hF⟩
    · go_simp;have st:=st.addP st.low.size;refine hK.out _ _ (HMK.out _ st.low) (fun aa=>?_);clear hK K;generalize wc.alloc (.cells #[iT 0,nZ,nZ,nZ] 31)=wc at st aa ⊢;(try go_frame);refine wpAnyH_ready (rs:=[5,9]) (by kernel_rfl) (by simp) (bU rfl (fun K hK=>?_) (bU rfl (fun K hK=>?_) AllReadyH.nil))
      · refine jk rfl rfl st.low.size fun wc _ hov hgv=>?_;have st:=st.addV st.low.size hov hgv;clear hov hgv;refine hK.out _ _ (HMK.out _ st.low) (fun aa=>?_);clear hK K;try go_frame
        refine aJ 9 fun K hK=>?_
        refine jl rfl rfl bk rfl st.low.size fun wc _ hov hgv=>?_;have st:=st.addS st.low.size hov hgv;clear hov hgv;refine hK.out _ _ (HMK.out _ st.low) (fun aa=>?_);clear hK K;try go_frame
        refine aO 10 1 aa ?_;refine aJ 12 fun K hK=>?_
        obtain ⟨xs,ys,hF⟩:=st.fin q;obtain ⟨hPw,_,hp⟩:=st.p _ rfl;have c0:=hp.c0;have c1:=hp.c1;have c2:=hp.c2;have c3:=hp.c3;have fz:=hp.fz;have zp:=hp.lt;go_simp;refine hK.out _ _ (HMK.out _ hF.2.2.2.2.2.2) (fun aa=>?_);clear hK K;(try go_frame);refine wpAnyH_done (by kernel_rfl) ?_ _;go_wp2;go_meet;exact ⟨_,_,_,_,xs,ys,rfl,hF⟩
      · refine jl rfl rfl bk rfl st.low.size fun wc _ hov hgv=>?_;have st:=st.addS st.low.size hov hgv;clear hov hgv;refine hK.out _ _ (HMK.out _ st.low) (fun aa=>?_);clear hK K;try go_frame
        refine aJ 5 fun K hK=>?_
        refine jk rfl rfl st.low.size fun wc _ hov hgv=>?_;have st:=st.addV st.low.size hov hgv;clear hov hgv;refine hK.out _ _ (HMK.out _ st.low) (fun aa=>?_);clear hK K;try go_frame
        refine aO 10 1 aa ?_;refine aJ 12 fun K hK=>?_
        obtain ⟨xs,ys,hF⟩:=st.fin q;obtain ⟨hPw,_,hp⟩:=st.p _ rfl;have c0:=hp.c0;have c1:=hp.c1;have c2:=hp.c2;have c3:=hp.c3;have fz:=hp.fz;have zp:=hp.lt;go_simp;refine hK.out _ _ (HMK.out _ hF.2.2.2.2.2.2) (fun aa=>?_);clear hK K;(try go_frame);refine wpAnyH_done (by kernel_rfl) ?_ _;go_wp2;go_meet;exact ⟨_,_,_,_,xs,ys,rfl,hF⟩
  · refine jk rfl rfl st.low.size fun wc _ hov hgv=>?_;have st:=st.addV st.low.size hov hgv;clear hov hgv;refine hK.out _ _ (HMK.out _ st.low) (fun aa=>?_);clear hK K;try go_frame
    refine wpAnyH_ready (rs:=[4,9,11]) (by kernel_rfl) (by simp) (bU rfl (fun K hK=>?_) (bU rfl (fun K hK=>?_) (bU rfl (fun K hK=>?_) AllReadyH.nil)))
    · go_simp;refine (CE.out _ st.low).mono ?_;rintro e wc ⟨eb,rfl,_,hE,be⟩;have st:=st.addE st.low.size hE be;clear be hE;go_wp2_with fail;refine hK.out _ _ (HMK.out _ st.low) (fun aa=>?_);clear hK K;try go_frame
      refine wpAnyH_ready (rs:=[9,11]) (by kernel_rfl) (by simp) (bU rfl (fun K hK=>?_) (bU rfl (fun K hK=>?_) AllReadyH.nil))
      · refine jl rfl rfl bk rfl st.low.size fun wc _ hov hgv=>?_;have st:=st.addS st.low.size hov hgv;clear hov hgv;refine hK.out _ _ (HMK.out _ st.low) (fun aa=>?_);clear hK K;try go_frame
        refine aO 10 1 aa ?_;refine aJ 11 fun K hK=>?_
        go_simp;have st:=st.addP st.low.size;refine hK.out _ _ (HMK.out _ st.low) (fun aa=>?_);clear hK K;generalize wc.alloc (.cells #[iT 0,nZ,nZ,nZ] 31)=wc at st aa ⊢;(try go_frame);refine aJ 12 fun K hK=>?_
        obtain ⟨xs,ys,hF⟩:=st.fin q;obtain ⟨hPw,_,hp⟩:=st.p _ rfl;have c0:=hp.c0;have c1:=hp.c1;have c2:=hp.c2;have c3:=hp.c3;have fz:=hp.fz;have zp:=hp.lt;go_simp;refine hK.out _ _ (HMK.out _ hF.2.2.2.2.2.2) (fun aa=>?_);clear hK K;(try go_frame);refine wpAnyH_done (by kernel_rfl) ?_ _;go_wp2;go_meet;exact ⟨_,_,_,_,xs,ys,rfl,hF⟩
      · go_simp;have st:=st.addP st.low.size;refine hK.out _ _ (HMK.out _ st.low) (fun aa=>?_);clear hK K;generalize wc.alloc (.cells #[iT 0,nZ,nZ,nZ] 31)=wc at st aa ⊢;(try go_frame);refine aJ 9 fun K hK=>?_
        refine jl rfl rfl bk rfl st.low.size fun wc _ hov hgv=>?_;have st:=st.addS st.low.size hov hgv;clear hov hgv;refine hK.out _ _ (HMK.out _ st.low) (fun aa=>?_);clear hK K;try go_frame
        refine aO 10 1 aa ?_;refine aJ 12 fun K hK=>?_
        obtain ⟨xs,ys,hF⟩:=st.fin q;obtain ⟨hPw,_,hp⟩:=st.p _ rfl;have c0:=hp.c0;have c1:=hp.c1;have c2:=hp.c2;have c3:=hp.c3;have fz:=hp.fz;have zp:=hp.lt;go_simp;refine hK.out _ _ (HMK.out _ hF.2.2.2.2.2.2) (fun aa=>?_);clear hK K;(try go_frame);refine wpAnyH_done (by kernel_rfl) ?_ _;go_wp2;go_meet;exact ⟨_,_,_,_,xs,ys,rfl,hF⟩
    · refine jl rfl rfl bk rfl st.low.size fun wc _ hov hgv=>?_;have st:=st.addS st.low.size hov hgv;clear hov hgv;refine hK.out _ _ (HMK.out _ st.low) (fun aa=>?_);clear hK K;try go_frame
      refine wpAnyH_ready (rs:=[4,11]) (by kernel_rfl) (by simp) (bU rfl (fun K hK=>?_) (bU rfl (fun K hK=>?_) AllReadyH.nil))
      · go_simp;refine (CE.out _ st.low).mono ?_;rintro e wc ⟨eb,rfl,_,hE,be⟩;have st:=st.addE st.low.size hE be;clear be hE;go_wp2_with fail;refine hK.out _ _ (HMK.out _ st.low) (fun aa=>?_);clear hK K;try go_frame
        refine aO 10 1 aa ?_;refine aJ 11 fun K hK=>?_
        go_simp;have st:=st.addP st.low.size;refine hK.out _ _ (HMK.out _ st.low) (fun aa=>?_);clear hK K;generalize wc.alloc (.cells #[iT 0,nZ,nZ,nZ] 31)=wc at st aa ⊢;(try go_frame);refine aJ 12 fun K hK=>?_
        obtain ⟨xs,ys,hF⟩:=st.fin q;obtain ⟨hPw,_,hp⟩:=st.p _ rfl;have c0:=hp.c0;have c1:=hp.c1;have c2:=hp.c2;have c3:=hp.c3;have fz:=hp.fz;have zp:=hp.lt;go_simp;refine hK.out _ _ (HMK.out _ hF.2.2.2.2.2.2) (fun aa=>?_);clear hK K;(try go_frame);refine wpAnyH_done (by kernel_rfl) ?_ _;go_wp2;go_meet;exact ⟨_,_,_,_,xs,ys,rfl,hF⟩
      · go_simp;have st:=st.addP st.low.size;refine hK.out _ _ (HMK.out _ st.low) (fun aa=>?_);clear hK K;generalize wc.alloc (.cells #[iT 0,nZ,nZ,nZ] 31)=wc at st aa ⊢;(try go_frame);refine aJ 4 fun K hK=>?_
        go_simp;refine (CE.out _ st.low).mono ?_;rintro e wc ⟨eb,rfl,_,hE,be⟩;have st:=st.addE st.low.size hE be;clear be hE;go_wp2_with fail;refine hK.out _ _ (HMK.out _ st.low) (fun aa=>?_);clear hK K;try go_frame
        refine aO 10 1 aa ?_;refine aJ 12 fun K hK=>?_
        obtain ⟨xs,ys,hF⟩:=st.fin q;obtain ⟨hPw,_,hp⟩:=st.p _ rfl;have c0:=hp.c0;have c1:=hp.c1;have c2:=hp.c2;have c3:=hp.c3;have fz:=hp.fz;have zp:=hp.lt;go_simp;refine hK.out _ _ (HMK.out _ hF.2.2.2.2.2.2) (fun aa=>?_);clear hK K;(try go_frame);refine wpAnyH_done (by kernel_rfl) ?_ _;go_wp2;go_meet;exact ⟨_,_,_,_,xs,ys,rfl,hF⟩
    · go_simp;have st:=st.addP st.low.size;refine hK.out _ _ (HMK.out _ st.low) (fun aa=>?_);clear hK K;generalize wc.alloc (.cells #[iT 0,nZ,nZ,nZ] 31)=wc at st aa ⊢;(try go_frame);refine wpAnyH_ready (rs:=[4,9]) (by kernel_rfl) (by simp) (bU rfl (fun K hK=>?_) (bU rfl (fun K hK=>?_) AllReadyH.nil))
      · go_simp;refine (CE.out _ st.low).mono ?_;rintro e wc ⟨eb,rfl,_,hE,be⟩;have st:=st.addE st.low.size hE be;clear be hE;go_wp2_with fail;refine hK.out _ _ (HMK.out _ st.low) (fun aa=>?_);clear hK K;try go_frame
        refine aJ 9 fun K hK=>?_
        refine jl rfl rfl bk rfl st.low.size fun wc _ hov hgv=>?_;have st:=st.addS st.low.size hov hgv;clear hov hgv;refine hK.out _ _ (HMK.out _ st.low) (fun aa=>?_);clear hK K;try go_frame
        refine aO 10 1 aa ?_;refine aJ 12 fun K hK=>?_
        obtain ⟨xs,ys,hF⟩:=st.fin q;obtain ⟨hPw,_,hp⟩:=st.p _ rfl;have c0:=hp.c0;have c1:=hp.c1;have c2:=hp.c2;have c3:=hp.c3;have fz:=hp.fz;have zp:=hp.lt;go_simp;refine hK.out _ _ (HMK.out _ hF.2.2.2.2.2.2) (fun aa=>?_);clear hK K;(try go_frame);refine wpAnyH_done (by kernel_rfl) ?_ _;go_wp2;go_meet;exact ⟨_,_,_,_,xs,ys,rfl,hF⟩
      · refine jl rfl rfl bk rfl st.low.size fun wc _ hov hgv=>?_;have st:=st.addS st.low.size hov hgv;clear hov hgv;refine hK.out _ _ (HMK.out _ st.low) (fun aa=>?_);clear hK K;try go_frame
        refine aJ 4 fun K hK=>?_
        go_simp;refine (CE.out _ st.low).mono ?_;rintro e wc ⟨eb,rfl,_,hE,be⟩;have st:=st.addE st.low.size hE be;clear be hE;go_wp2_with fail;refine hK.out _ _ (HMK.out _ st.low) (fun aa=>?_);clear hK K;try go_frame
        refine aO 10 1 aa ?_;refine aJ 12 fun K hK=>?_
        obtain ⟨xs,ys,hF⟩:=st.fin q;obtain ⟨hPw,_,hp⟩:=st.p _ rfl;have c0:=hp.c0;have c1:=hp.c1;have c2:=hp.c2;have c3:=hp.c3;have fz:=hp.fz;have zp:=hp.lt;go_simp;refine hK.out _ _ (HMK.out _ hF.2.2.2.2.2.2) (fun aa=>?_);clear hK K;(try go_frame);refine wpAnyH_done (by kernel_rfl) ?_ _;go_wp2;go_meet;exact ⟨_,_,_,_,xs,ys,rfl,hF⟩
  · refine jl rfl rfl bk rfl st.low.size fun wc _ hov hgv=>?_;have st:=st.addS st.low.size hov hgv;clear hov hgv;refine hK.out _ _ (HMK.out _ st.low) (fun aa=>?_);clear hK K;try go_frame
    refine wpAnyH_ready (rs:=[4,5,11]) (by kernel_rfl) (by simp) (bU rfl (fun K hK=>?_) (bU rfl (fun K hK=>?_) (bU rfl (fun K hK=>?_) AllReadyH.nil)))
    · go_simp;refine (CE.out _ st.low).mono ?_;rintro e wc ⟨eb,rfl,_,hE,be⟩;have st:=st.addE st.low.size hE be;clear be hE;go_wp2_with fail;refine hK.out _ _ (HMK.out _ st.low) (fun aa=>?_);clear hK K;try go_frame
      refine wpAnyH_ready (rs:=[5,11]) (by kernel_rfl) (by simp) (bU rfl (fun K hK=>?_) (bU rfl (fun K hK=>?_) AllReadyH.nil))
      · refine jk rfl rfl st.low.size fun wc _ hov hgv=>?_;have st:=st.addV st.low.size hov hgv;clear hov hgv;refine hK.out _ _ (HMK.out _ st.low) (fun aa=>?_);clear hK K;try go_frame
        refine aO 10 1 aa ?_;refine aJ 11 fun K hK=>?_
        go_simp;have st:=st.addP st.low.size;refine hK.out _ _ (HMK.out _ st.low) (fun aa=>?_);clear hK K;generalize wc.alloc (.cells #[iT 0,nZ,nZ,nZ] 31)=wc at st aa ⊢;(try go_frame);refine aJ 12 fun K hK=>?_
        obtain ⟨xs,ys,hF⟩:=st.fin q;obtain ⟨hPw,_,hp⟩:=st.p _ rfl;have c0:=hp.c0;have c1:=hp.c1;have c2:=hp.c2;have c3:=hp.c3;have fz:=hp.fz;have zp:=hp.lt;go_simp;refine hK.out _ _ (HMK.out _ hF.2.2.2.2.2.2) (fun aa=>?_);clear hK K;(try go_frame);refine wpAnyH_done (by kernel_rfl) ?_ _;go_wp2;go_meet;exact ⟨_,_,_,_,xs,ys,rfl,hF⟩
      · go_simp;have st:=st.addP st.low.size;refine hK.out _ _ (HMK.out _ st.low) (fun aa=>?_);clear hK K;generalize wc.alloc (.cells #[iT 0,nZ,nZ,nZ] 31)=wc at st aa ⊢;(try go_frame);refine aJ 5 fun K hK=>?_
        refine jk rfl rfl st.low.size fun wc _ hov hgv=>?_;have st:=st.addV st.low.size hov hgv;clear hov hgv;refine hK.out _ _ (HMK.out _ st.low) (fun aa=>?_);clear hK K;try go_frame
        refine aO 10 1 aa ?_;refine aJ 12 fun K hK=>?_
        obtain ⟨xs,ys,hF⟩:=st.fin q;obtain ⟨hPw,_,hp⟩:=st.p _ rfl;have c0:=hp.c0;have c1:=hp.c1;have c2:=hp.c2;have c3:=hp.c3;have fz:=hp.fz;have zp:=hp.lt;go_simp;refine hK.out _ _ (HMK.out _ hF.2.2.2.2.2.2) (fun aa=>?_);clear hK K;(try go_frame);refine wpAnyH_done (by kernel_rfl) ?_ _;go_wp2;go_meet;exact ⟨_,_,_,_,xs,ys,rfl,hF⟩
    · refine jk rfl rfl st.low.size fun wc _ hov hgv=>?_;have st:=st.addV st.low.size hov hgv;clear hov hgv;refine hK.out _ _ (HMK.out _ st.low) (fun aa=>?_);clear hK K;try go_frame
      refine wpAnyH_ready (rs:=[4,11]) (by kernel_rfl) (by simp) (bU rfl (fun K hK=>?_) (bU rfl (fun K hK=>?_) AllReadyH.nil))
      · go_simp;refine (CE.out _ st.low).mono ?_;rintro e wc ⟨eb,rfl,_,hE,be⟩;have st:=st.addE st.low.size hE be;clear be hE;go_wp2_with fail;refine hK.out _ _ (HMK.out _ st.low) (fun aa=>?_);clear hK K;try go_frame
        refine aO 10 1 aa ?_;refine aJ 11 fun K hK=>?_
        go_simp;have st:=st.addP st.low.size;refine hK.out _ _ (HMK.out _ st.low) (fun aa=>?_);clear hK K;generalize wc.alloc (.cells #[iT 0,nZ,nZ,nZ] 31)=wc at st aa ⊢;(try go_frame);refine aJ 12 fun K hK=>?_
        obtain ⟨xs,ys,hF⟩:=st.fin q;obtain ⟨hPw,_,hp⟩:=st.p _ rfl;have c0:=hp.c0;have c1:=hp.c1;have c2:=hp.c2;have c3:=hp.c3;have fz:=hp.fz;have zp:=hp.lt;go_simp;refine hK.out _ _ (HMK.out _ hF.2.2.2.2.2.2) (fun aa=>?_);clear hK K;(try go_frame);refine wpAnyH_done (by kernel_rfl) ?_ _;go_wp2;go_meet;exact ⟨_,_,_,_,xs,ys,rfl,hF⟩
      · go_simp;have st:=st.addP st.low.size;refine hK.out _ _ (HMK.out _ st.low) (fun aa=>?_);clear hK K;generalize wc.alloc (.cells #[iT 0,nZ,nZ,nZ] 31)=wc at st aa ⊢;(try go_frame);refine aJ 4 fun K hK=>?_
        go_simp;refine (CE.out _ st.low).mono ?_;rintro e wc ⟨eb,rfl,_,hE,be⟩;have st:=st.addE st.low.size hE be;clear be hE;go_wp2_with fail;refine hK.out _ _ (HMK.out _ st.low) (fun aa=>?_);clear hK K;try go_frame
        refine aO 10 1 aa ?_;refine aJ 12 fun K hK=>?_
        obtain ⟨xs,ys,hF⟩:=st.fin q;obtain ⟨hPw,_,hp⟩:=st.p _ rfl;have c0:=hp.c0;have c1:=hp.c1;have c2:=hp.c2;have c3:=hp.c3;have fz:=hp.fz;have zp:=hp.lt;go_simp;refine hK.out _ _ (HMK.out _ hF.2.2.2.2.2.2) (fun aa=>?_);clear hK K;(try go_frame);refine wpAnyH_done (by kernel_rfl) ?_ _;go_wp2;go_meet;exact ⟨_,_,_,_,xs,ys,rfl,hF⟩
    · go_simp;have st:=st.addP st.low.size;refine hK.out _ _ (HMK.out _ st.low) (fun aa=>?_);clear hK K;generalize wc.alloc (.cells #[iT 0,nZ,nZ,nZ] 31)=wc at st aa ⊢;(try go_frame);refine wpAnyH_ready (rs:=[4,5]) (by kernel_rfl) (by simp) (bU rfl (fun K hK=>?_) (bU rfl (fun K hK=>?_) AllReadyH.nil))
      · go_simp;refine (CE.out _ st.low).mono ?_;rintro e wc ⟨eb,rfl,_,hE,be⟩;have st:=st.addE st.low.size hE be;clear be hE;go_wp2_with fail;refine hK.out _ _ (HMK.out _ st.low) (fun aa=>?_);clear hK K;try go_frame
        refine aJ 5 fun K hK=>?_
        refine jk rfl rfl st.low.size fun wc _ hov hgv=>?_;have st:=st.addV st.low.size hov hgv;clear hov hgv;refine hK.out _ _ (HMK.out _ st.low) (fun aa=>?_);clear hK K;try go_frame
        refine aO 10 1 aa ?_;refine aJ 12 fun K hK=>?_
        obtain ⟨xs,ys,hF⟩:=st.fin q;obtain ⟨hPw,_,hp⟩:=st.p _ rfl;have c0:=hp.c0;have c1:=hp.c1;have c2:=hp.c2;have c3:=hp.c3;have fz:=hp.fz;have zp:=hp.lt;go_simp;refine hK.out _ _ (HMK.out _ hF.2.2.2.2.2.2) (fun aa=>?_);clear hK K;(try go_frame);refine wpAnyH_done (by kernel_rfl) ?_ _;go_wp2;go_meet;exact ⟨_,_,_,_,xs,ys,rfl,hF⟩
      · refine jk rfl rfl st.low.size fun wc _ hov hgv=>?_;have st:=st.addV st.low.size hov hgv;clear hov hgv;refine hK.out _ _ (HMK.out _ st.low) (fun aa=>?_);clear hK K;try go_frame
        refine aJ 4 fun K hK=>?_
        go_simp;refine (CE.out _ st.low).mono ?_;rintro e wc ⟨eb,rfl,_,hE,be⟩;have st:=st.addE st.low.size hE be;clear be hE;go_wp2_with fail;refine hK.out _ _ (HMK.out _ st.low) (fun aa=>?_);clear hK K;try go_frame
        refine aO 10 1 aa ?_;refine aJ 12 fun K hK=>?_
        obtain ⟨xs,ys,hF⟩:=st.fin q;obtain ⟨hPw,_,hp⟩:=st.p _ rfl;have c0:=hp.c0;have c1:=hp.c1;have c2:=hp.c2;have c3:=hp.c3;have fz:=hp.fz;have zp:=hp.lt;go_simp;refine hK.out _ _ (HMK.out _ hF.2.2.2.2.2.2) (fun aa=>?_);clear hK K;(try go_frame);refine wpAnyH_done (by kernel_rfl) ?_ _;go_wp2;go_meet;exact ⟨_,_,_,_,xs,ys,rfl,hF⟩
  · go_simp;have st:=st.addP st.low.size;refine hK.out _ _ (HMK.out _ st.low) (fun aa=>?_);clear hK K;generalize wc.alloc (.cells #[iT 0,nZ,nZ,nZ] 31)=wc at st aa ⊢;(try go_frame);refine wpAnyH_ready (rs:=[4,5,9]) (by kernel_rfl) (by simp) (bU rfl (fun K hK=>?_) (bU rfl (fun K hK=>?_) (bU rfl (fun K hK=>?_) AllReadyH.nil)))
    · go_simp;refine (CE.out _ st.low).mono ?_;rintro e wc ⟨eb,rfl,_,hE,be⟩;have st:=st.addE st.low.size hE be;clear be hE;go_wp2_with fail;refine hK.out _ _ (HMK.out _ st.low) (fun aa=>?_);clear hK K;try go_frame
      refine wpAnyH_ready (rs:=[5,9]) (by kernel_rfl) (by simp) (bU rfl (fun K hK=>?_) (bU rfl (fun K hK=>?_) AllReadyH.nil))
      · refine jk rfl rfl st.low.size fun wc _ hov hgv=>?_;have st:=st.addV st.low.size hov hgv;clear hov hgv;refine hK.out _ _ (HMK.out _ st.low) (fun aa=>?_);clear hK K;try go_frame
        refine aJ 9 fun K hK=>?_
        refine jl rfl rfl bk rfl st.low.size fun wc _ hov hgv=>?_;have st:=st.addS st.low.size hov hgv;clear hov hgv;refine hK.out _ _ (HMK.out _ st.low) (fun aa=>?_);clear hK K;try go_frame
        refine aO 10 1 aa ?_;refine aJ 12 fun K hK=>?_
        obtain ⟨xs,ys,hF⟩:=st.fin q;obtain ⟨hPw,_,hp⟩:=st.p _ rfl;have c0:=hp.c0;have c1:=hp.c1;have c2:=hp.c2;have c3:=hp.c3;have fz:=hp.fz;have zp:=hp.lt;go_simp;refine hK.out _ _ (HMK.out _ hF.2.2.2.2.2.2) (fun aa=>?_);clear hK K;(try go_frame);refine wpAnyH_done (by kernel_rfl) ?_ _;go_wp2;go_meet;exact ⟨_,_,_,_,xs,ys,rfl,hF⟩
      · refine jl rfl rfl bk rfl st.low.size fun wc _ hov hgv=>?_;have st:=st.addS st.low.size hov hgv;clear hov hgv;refine hK.out _ _ (HMK.out _ st.low) (fun aa=>?_);clear hK K;try go_frame
        refine aJ 5 fun K hK=>?_
        refine jk rfl rfl st.low.size fun wc _ hov hgv=>?_;have st:=st.addV st.low.size hov hgv;clear hov hgv;refine hK.out _ _ (HMK.out _ st.low) (fun aa=>?_);clear hK K;try go_frame
        refine aO 10 1 aa ?_;refine aJ 12 fun K hK=>?_
        obtain ⟨xs,ys,hF⟩:=st.fin q;obtain ⟨hPw,_,hp⟩:=st.p _ rfl;have c0:=hp.c0;have c1:=hp.c1;have c2:=hp.c2;have c3:=hp.c3;have fz:=hp.fz;have zp:=hp.lt;go_simp;refine hK.out _ _ (HMK.out _ hF.2.2.2.2.2.2) (fun aa=>?_);clear hK K;(try go_frame);refine wpAnyH_done (by kernel_rfl) ?_ _;go_wp2;go_meet;exact ⟨_,_,_,_,xs,ys,rfl,hF⟩
    · refine jk rfl rfl st.low.size fun wc _ hov hgv=>?_;have st:=st.addV st.low.size hov hgv;clear hov hgv;refine hK.out _ _ (HMK.out _ st.low) (fun aa=>?_);clear hK K;try go_frame
      refine wpAnyH_ready (rs:=[4,9]) (by kernel_rfl) (by simp) (bU rfl (fun K hK=>?_) (bU rfl (fun K hK=>?_) AllReadyH.nil))
      · go_simp;refine (CE.out _ st.low).mono ?_;rintro e wc ⟨eb,rfl,_,hE,be⟩;have st:=st.addE st.low.size hE be;clear be hE;go_wp2_with fail;refine hK.out _ _ (HMK.out _ st.low) (fun aa=>?_);clear hK K;try go_frame
        refine aJ 9 fun K hK=>?_
        refine jl rfl rfl bk rfl st.low.size fun wc _ hov hgv=>?_;have st:=st.addS st.low.size hov hgv;clear hov hgv;refine hK.out _ _ (HMK.out _ st.low) (fun aa=>?_);clear hK K;try go_frame
        refine aO 10 1 aa ?_;refine aJ 12 fun K hK=>?_
        obtain ⟨xs,ys,hF⟩:=st.fin q;obtain ⟨hPw,_,hp⟩:=st.p _ rfl;have c0:=hp.c0;have c1:=hp.c1;have c2:=hp.c2;have c3:=hp.c3;have fz:=hp.fz;have zp:=hp.lt;go_simp;refine hK.out _ _ (HMK.out _ hF.2.2.2.2.2.2) (fun aa=>?_);clear hK K;(try go_frame);refine wpAnyH_done (by kernel_rfl) ?_ _;go_wp2;go_meet;exact ⟨_,_,_,_,xs,ys,rfl,hF⟩
      · refine jl rfl rfl bk rfl st.low.size fun wc _ hov hgv=>?_;have st:=st.addS st.low.size hov hgv;clear hov hgv;refine hK.out _ _ (HMK.out _ st.low) (fun aa=>?_);clear hK K;try go_frame
        refine aJ 4 fun K hK=>?_
        go_simp;refine (CE.out _ st.low).mono ?_;rintro e wc ⟨eb,rfl,_,hE,be⟩;have st:=st.addE st.low.size hE be;clear be hE;go_wp2_with fail;refine hK.out _ _ (HMK.out _ st.low) (fun aa=>?_);clear hK K;try go_frame
        refine aO 10 1 aa ?_;refine aJ 12 fun K hK=>?_
        obtain ⟨xs,ys,hF⟩:=st.fin q;obtain ⟨hPw,_,hp⟩:=st.p _ rfl;have c0:=hp.c0;have c1:=hp.c1;have c2:=hp.c2;have c3:=hp.c3;have fz:=hp.fz;have zp:=hp.lt;go_simp;refine hK.out _ _ (HMK.out _ hF.2.2.2.2.2.2) (fun aa=>?_);clear hK K;(try go_frame);refine wpAnyH_done (by kernel_rfl) ?_ _;go_wp2;go_meet;exact ⟨_,_,_,_,xs,ys,rfl,hF⟩
    · refine jl rfl rfl bk rfl st.low.size fun wc _ hov hgv=>?_;have st:=st.addS st.low.size hov hgv;clear hov hgv;refine hK.out _ _ (HMK.out _ st.low) (fun aa=>?_);clear hK K;try go_frame
      refine wpAnyH_ready (rs:=[4,5]) (by kernel_rfl) (by simp) (bU rfl (fun K hK=>?_) (bU rfl (fun K hK=>?_) AllReadyH.nil))
      · go_simp;refine (CE.out _ st.low).mono ?_;rintro e wc ⟨eb,rfl,_,hE,be⟩;have st:=st.addE st.low.size hE be;clear be hE;go_wp2_with fail;refine hK.out _ _ (HMK.out _ st.low) (fun aa=>?_);clear hK K;try go_frame
        refine aJ 5 fun K hK=>?_
        refine jk rfl rfl st.low.size fun wc _ hov hgv=>?_;have st:=st.addV st.low.size hov hgv;clear hov hgv;refine hK.out _ _ (HMK.out _ st.low) (fun aa=>?_);clear hK K;try go_frame
        refine aO 10 1 aa ?_;refine aJ 12 fun K hK=>?_
        obtain ⟨xs,ys,hF⟩:=st.fin q;obtain ⟨hPw,_,hp⟩:=st.p _ rfl;have c0:=hp.c0;have c1:=hp.c1;have c2:=hp.c2;have c3:=hp.c3;have fz:=hp.fz;have zp:=hp.lt;go_simp;refine hK.out _ _ (HMK.out _ hF.2.2.2.2.2.2) (fun aa=>?_);clear hK K;(try go_frame);refine wpAnyH_done (by kernel_rfl) ?_ _;go_wp2;go_meet;exact ⟨_,_,_,_,xs,ys,rfl,hF⟩
      · refine jk rfl rfl st.low.size fun wc _ hov hgv=>?_;have st:=st.addV st.low.size hov hgv;clear hov hgv;refine hK.out _ _ (HMK.out _ st.low) (fun aa=>?_);clear hK K;try go_frame
        refine aJ 4 fun K hK=>?_
        go_simp;refine (CE.out _ st.low).mono ?_;rintro e wc ⟨eb,rfl,_,hE,be⟩;have st:=st.addE st.low.size hE be;clear be hE;go_wp2_with fail;refine hK.out _ _ (HMK.out _ st.low) (fun aa=>?_);clear hK K;try go_frame
        refine aO 10 1 aa ?_;refine aJ 12 fun K hK=>?_
        obtain ⟨xs,ys,hF⟩:=st.fin q;obtain ⟨hPw,_,hp⟩:=st.p _ rfl;have c0:=hp.c0;have c1:=hp.c1;have c2:=hp.c2;have c3:=hp.c3;have fz:=hp.fz;have zp:=hp.lt;go_simp;refine hK.out _ _ (HMK.out _ hF.2.2.2.2.2.2) (fun aa=>?_);clear hK K;(try go_frame);refine wpAnyH_done (by kernel_rfl) ?_ _;go_wp2;go_meet;exact ⟨_,_,_,_,xs,ys,rfl,hF⟩
 case rest =>
  obtain ⟨P,eb,vb,sb,xs,ys,rfl,hbox,hE,hrow,hs,hne,hPw,hbw⟩:=hcut;have HNE:Hid (vb≠P∧sb≠P∧eb≠P∧vb≠eb∧vb≠sb∧sb≠eb):=hne;have hvw:W0.heap.size≤vb:=(hrow.lt vb rfl).1;have a2':=cell_later hbw x2;have a3':=cell_later hbw x3;have a4':=cell_later hbw x4;have za:=World.block_lt_of_cell? _ _ a2';simp only at za;obtain ⟨Z,hZ⟩:=aI wc.heap.size;have hvZ:vb<Z:=by rw [hZ];exact (hrow.lt vb rfl).2
  have hsZ:sb<Z:=by rw [hZ];exact (hs.lt sb rfl).2
  have heZ:eb<Z:=by rw [hZ];exact hE.lt.2
  have hWZ:W0.heap.size≤Z:=by rw [hZ];exact hbw.size
  have hZ0:Z≤wc.heap.size:=by omega
  have HB0:Hid (ar wc P (iT q) (sL eb nm nm) (sL vb 3 3) (sL sb nk nk)∧au wc W0.heap.size eb nm nm M∧wc.ownsRow W0.heap.size 61 1 (sL vb 3 3) 3 xs∧wc.ownsRow W0.heap.size 3 1 (sL sb nk nk) nk ys∧Bl W0 wc∧Z≤wc.heap.size):=⟨hbox,hE,hrow,hs,hbw,hZ0⟩;clear k0 HMK CE hbox hrow hbw hE hs hne hZ hZ0;go_wp2;go_loopw [19] (fun iv wr=>∃(k:Nat) (xs:List Value) (gs bs:Nat→Nat) (es:Nat→Nat→Nat),k≤3∧iv=iT k∧ar wr P (iT q) (sL eb nm nm) (sL vb 3 3) (sL sb nk nk)∧au wr W0.heap.size eb nm nm M∧wr.ownsRow W0.heap.size 61 1 (sL vb 3 3) 3 xs∧wr.ownsRow W0.heap.size 3 1 (sL sb nk nk) nk ys∧Bl W0 wr∧kT Z wr xs [A,B,C] k gs bs es∧Z≤wr.heap.size) (fun iv _=>3 - (intOf iv).toNat)
  case atStart=>exact ⟨0,xs,fun _=>0,fun _=>Z,fun _ _=>0,by omega,rfl,HB0.out.1,HB0.out.2.1,HB0.out.2.2.1,HB0.out.2.2.2.1,HB0.out.2.2.2.2.1,⟨rfl,HB0.out.2.2.2.2.2,fun _ _ _ _=>Nat.le_refl _,fun j hj=>absurd hj (Nat.not_lt_zero _)⟩,HB0.out.2.2.2.2.2⟩
  case round =>
   obtain ⟨k,xs,gs,bs,es,hk,rfl,hbox,hE,hrow,hs,hbw,hhas,hZ1⟩:=hrel;have hne:=HNE.out;have HAS:Hid (kT Z wr xs [A,B,C] k gs bs es):=hhas;have HBW:Hid (Bl W0 wr):=hbw;have HZ:Hid (Z≤wr.heap.size):=hZ1;clear hhas a2' a3' a4' za hZ1;have k0:Bl wr wr.drew:=(Below.refl _ wr).drew;have HM5:Hid (∀w',Bl wr w'→(w'.cell? ⟨P,2,none⟩=some (sL vb 3 3)∧P<w'.heap.size∧vb<w'.heap.size)):=fun w' kk=>⟨cell_later kk hbox.c2,Nat.lt_of_lt_of_le hbox.lt kk.size,Nat.lt_of_lt_of_le (hrow.lt vb rfl).2 kk.size⟩
   have HS5:Hid (∀w' o u,Bl wr w'→((w'.setCell ⟨vb,o,none⟩ u).cell? ⟨P,2,none⟩=some (sL vb 3 3)∧P<(w'.setCell ⟨vb,o,none⟩ u).heap.size∧vb<(w'.setCell ⟨vb,o,none⟩ u).heap.size)):=fun w' o u kk=>⟨(aj u (fun e=>hne.1 e.1.symm)).trans (cell_later kk hbox.c2),by simpa [World.setCell] using Nat.lt_of_lt_of_le hbox.lt kk.size,by simpa [World.setCell] using Nat.lt_of_lt_of_le (hrow.lt vb rfl).2 kk.size⟩
   have hcase:k=0∨k=1∨k=2∨k=3:=by omega
   rcases hcase with rfl | rfl | rfl | rfl
   · have hix:=fun w=>zE w a0 a1 a2 n0 c0 n1 c1 n2 c2
     go_wp2_with fail
     refine eD HM5 k0 fun aa=>?_
     refine aO 0 4 aa ?_;refine aJ 4 fun K hK=>?_
     go_simp;refine (CR0.out _ (HBW.out.trans (k0.mono HBW.out.size))).mono ?_;rintro e w1 ⟨rb,rfl,hrb,br⟩;have k1:Bl wr w1:=k0.trans (br.mono k0.size);obtain ⟨e1,hrb⟩:=hrb;have HRB:Hid (dF wr.drew.heap.size w1.heap.size w1 rb n0 A e1):=hrb;have hdz:wr.heap.size≤wr.drew.heap.size:=k0.size;clear br hrb;go_wp2_with fail
     refine hK.out _ _ (HM5.out _ k1) (fun aa=>?_);clear hK K;(try go_frame);refine aO 5 1 aa ?_;refine aJ 6 fun K hK=>?_
     have hr1:=fm hrow k1;have c0:∃v,w1.cell? ⟨vb,0,none⟩=some v:=⟨_,(hr1.cellAt 0 (by omega)).trans (List.getElem?_eq_getElem (by rw [hr1.1];omega))⟩;obtain ⟨v0,c0⟩:=c0;have f0:=hr1.frozenAt 0;go_simp;refine hK.out _ _ (HS5.out _ _ _ k1) (fun aa=>?_);clear hK K;(try go_frame);refine dN ?_;have t0:=(hr1.stored 0 (sL rb n0 n0)).1;have hx3:=hr1.1;have bq:=(hbox.keep k1).other (b':=vb) (o:=0) hne.1 (sL rb n0 n0);have kq:Bl W0 (w1.setCell ⟨vb,0,none⟩ (sL rb n0 n0)):=(HBW.out.trans (k1.mono HBW.out.size)).setCell (p:=⟨vb,0,none⟩) hvw _;have eq1:=(hE.below k1).setCell (p:=⟨vb,0,none⟩) hne.2.2.2.1 (sL rb n0 n0);have sq1:=cw (fm hs k1) hne.2.2.2.2.1.symm 0 (sL rb n0 n0);have hsm:cF Z w1 (w1.setCell ⟨vb,0,none⟩ (sL rb n0 n0)):=cF.of_set _ _ hvZ;have hz1:Z≤(w1.setCell ⟨vb,0,none⟩ (sL rb n0 n0)).heap.size:=Nat.le_trans (Nat.le_trans HZ.out k1.size) hsm.1;have hh1:=lJ (x:=rb) (n:=n0) (B:=A) HAS.out hx3 k1 rfl rfl hvZ HRB.out hdz rfl;have HT:Hid (_∧_∧_∧_∧_∧_∧_):=⟨bq,eq1,t0,sq1,kq,hh1,hz1⟩;clear aa k0 k1 HM5 HS5 c0 f0 hr1 t0 bq kq eq1 sq1 hh1 hz1 hsm hbox hrow hE hs HRB;go_wp2;go_roundw
     case rel =>
      obtain ⟨g',b',e',hh⟩:=HT.out.2.2.2.2.2.1;exact ⟨0+1,_,g',b',e',by omega,by go_num,HT.out.1,HT.out.2.1,HT.out.2.2.1,HT.out.2.2.2.1,HT.out.2.2.2.2.1,hh,HT.out.2.2.2.2.2.2⟩
     case measure=>simp [intOf]
   · have hix:=fun w=>zD w a0 a1 a2 n0 c0 n1 c1 n2 c2
     go_wp2_with fail
     refine eD HM5 k0 fun aa=>?_
     refine aO 0 4 aa ?_;refine aJ 4 fun K hK=>?_
     go_simp;refine (CR1.out _ (HBW.out.trans (k0.mono HBW.out.size))).mono ?_;rintro e w1 ⟨rb,rfl,hrb,br⟩;have k1:Bl wr w1:=k0.trans (br.mono k0.size);obtain ⟨e1,hrb⟩:=hrb;have HRB:Hid (dF wr.drew.heap.size w1.heap.size w1 rb n1 B e1):=hrb;have hdz:wr.heap.size≤wr.drew.heap.size:=k0.size;clear br hrb;go_wp2_with fail
     refine hK.out _ _ (HM5.out _ k1) (fun aa=>?_);clear hK K;(try go_frame);refine aO 5 1 aa ?_;refine aJ 6 fun K hK=>?_
     have hr1:=fm hrow k1;have c0:∃v,w1.cell? ⟨vb,1,none⟩=some v:=⟨_,(hr1.cellAt 1 (by omega)).trans (List.getElem?_eq_getElem (by rw [hr1.1];omega))⟩;obtain ⟨v0,c0⟩:=c0;have f0:=hr1.frozenAt 1;go_simp;refine hK.out _ _ (HS5.out _ _ _ k1) (fun aa=>?_);clear hK K;(try go_frame);refine dN ?_;have t0:=(hr1.stored 1 (sL rb n1 n1)).1;have hx3:=hr1.1;have bq:=(hbox.keep k1).other (b':=vb) (o:=1) hne.1 (sL rb n1 n1);have kq:Bl W0 (w1.setCell ⟨vb,1,none⟩ (sL rb n1 n1)):=(HBW.out.trans (k1.mono HBW.out.size)).setCell (p:=⟨vb,1,none⟩) hvw _;have eq1:=(hE.below k1).setCell (p:=⟨vb,1,none⟩) hne.2.2.2.1 (sL rb n1 n1);have sq1:=cw (fm hs k1) hne.2.2.2.2.1.symm 1 (sL rb n1 n1);have hsm:cF Z w1 (w1.setCell ⟨vb,1,none⟩ (sL rb n1 n1)):=cF.of_set _ _ hvZ;have hz1:Z≤(w1.setCell ⟨vb,1,none⟩ (sL rb n1 n1)).heap.size:=Nat.le_trans (Nat.le_trans HZ.out k1.size) hsm.1;have hh1:=lJ (x:=rb) (n:=n1) (B:=B) HAS.out hx3 k1 rfl rfl hvZ HRB.out hdz rfl;have HT:Hid (_∧_∧_∧_∧_∧_∧_):=⟨bq,eq1,t0,sq1,kq,hh1,hz1⟩;clear aa k0 k1 HM5 HS5 c0 f0 hr1 t0 bq kq eq1 sq1 hh1 hz1 hsm hbox hrow hE hs HRB;go_wp2;go_roundw
     case rel =>
      obtain ⟨g',b',e',hh⟩:=HT.out.2.2.2.2.2.1;exact ⟨1+1,_,g',b',e',by omega,by go_num,HT.out.1,HT.out.2.1,HT.out.2.2.1,HT.out.2.2.2.1,HT.out.2.2.2.2.1,hh,HT.out.2.2.2.2.2.2⟩
     case measure=>simp [intOf]
   · have hix:=fun w=>zC w a0 a1 a2 n0 c0 n1 c1 n2 c2
     go_wp2_with fail
     refine eD HM5 k0 fun aa=>?_
     refine aO 0 4 aa ?_;refine aJ 4 fun K hK=>?_
     go_simp;refine (CR2.out _ (HBW.out.trans (k0.mono HBW.out.size))).mono ?_;rintro e w1 ⟨rb,rfl,hrb,br⟩;have k1:Bl wr w1:=k0.trans (br.mono k0.size);obtain ⟨e1,hrb⟩:=hrb;have HRB:Hid (dF wr.drew.heap.size w1.heap.size w1 rb n2 C e1):=hrb;have hdz:wr.heap.size≤wr.drew.heap.size:=k0.size;clear br hrb;go_wp2_with fail
     refine hK.out _ _ (HM5.out _ k1) (fun aa=>?_);clear hK K;(try go_frame);refine aO 5 1 aa ?_;refine aJ 6 fun K hK=>?_
     have hr1:=fm hrow k1;have c0:∃v,w1.cell? ⟨vb,2,none⟩=some v:=⟨_,(hr1.cellAt 2 (by omega)).trans (List.getElem?_eq_getElem (by rw [hr1.1];omega))⟩;obtain ⟨v0,c0⟩:=c0;have f0:=hr1.frozenAt 2;go_simp;refine hK.out _ _ (HS5.out _ _ _ k1) (fun aa=>?_);clear hK K;(try go_frame);refine dN ?_;have t0:=(hr1.stored 2 (sL rb n2 n2)).1;have hx3:=hr1.1;have bq:=(hbox.keep k1).other (b':=vb) (o:=2) hne.1 (sL rb n2 n2);have kq:Bl W0 (w1.setCell ⟨vb,2,none⟩ (sL rb n2 n2)):=(HBW.out.trans (k1.mono HBW.out.size)).setCell (p:=⟨vb,2,none⟩) hvw _;have eq1:=(hE.below k1).setCell (p:=⟨vb,2,none⟩) hne.2.2.2.1 (sL rb n2 n2);have sq1:=cw (fm hs k1) hne.2.2.2.2.1.symm 2 (sL rb n2 n2);have hsm:cF Z w1 (w1.setCell ⟨vb,2,none⟩ (sL rb n2 n2)):=cF.of_set _ _ hvZ;have hz1:Z≤(w1.setCell ⟨vb,2,none⟩ (sL rb n2 n2)).heap.size:=Nat.le_trans (Nat.le_trans HZ.out k1.size) hsm.1;have hh1:=lJ (x:=rb) (n:=n2) (B:=C) HAS.out hx3 k1 rfl rfl hvZ HRB.out hdz rfl;have HT:Hid (_∧_∧_∧_∧_∧_∧_):=⟨bq,eq1,t0,sq1,kq,hh1,hz1⟩;clear aa k0 k1 HM5 HS5 c0 f0 hr1 t0 bq kq eq1 sq1 hh1 hz1 hsm hbox hrow hE hs HRB;go_wp2;go_roundw
     case rel =>
      obtain ⟨g',b',e',hh⟩:=HT.out.2.2.2.2.2.1;exact ⟨2+1,_,g',b',e',by omega,by go_num,HT.out.1,HT.out.2.1,HT.out.2.2.1,HT.out.2.2.2.1,HT.out.2.2.2.2.1,hh,HT.out.2.2.2.2.2.2⟩
     case measure=>simp [intOf]
   · have y5:=cell_later hbw x5;have zy:=World.block_lt_of_cell? _ _ y5;simp only at zy;obtain ⟨wz,hwz⟩:=aI (wr.setCells sb 0 (S.map iT));have hSl:S.length=nk:=HS.out.length;have hcp:(Builtin.copy_ #[24,24] 3 #[sL sb nk nk,.slice ak nk ck]).run Tryz.prog wr=.ok (iT nk) wz:=by
      rw [hwz];by_cases hk0:nk=0
      · have hS0:S=[]:=List.length_eq_zero_iff.1 (by omega);subst hS0;subst hk0;exact run_copy_none (P:=Tryz.prog) wr 24 24 3 3 (pT sb) ak 0 0 0 ck Tryz.underlying24 (by kernel_rfl) (by simp)
      · obtain ⟨b',o',rfl,hb'⟩:=(HS.out.keep KW.out).form (by omega);have:=run_copy_cells (P:=Tryz.prog) wr 24 24 3 3 sb 0 nk nk ⟨b',o',none⟩ nk ck (S.map iT) Tryz.underlying24 (by kernel_rfl) (by rw [List.length_map,hSl];exact (Nat.min_self nk).symm) ?_ ?_ ?_ ?_
        · rw [this,List.length_map,hSl];rfl
        · intro j v hj;rw [List.getElem?_map] at hj;rw [Go.WideShapes.add_plain];cases hx:S[j]? with
          | none=>rw [hx] at hj;cases hj
          | some z =>
           rw [hx] at hj;cases hj;have hjl:j<nk:=by rw [← hSl];exact (List.getElem?_eq_some_iff.1 hx).1
           obtain ⟨z',hz',_,cz⟩:=((HS.out.keep KW.out).keep hbw).num (Below.refl _ wr) j hjl;rw [hx] at hz';cases hz';exact cz
        · intro j hj;rw [List.length_map,hSl] at hj;rw [Nat.zero_add];rw [hs.cellAt j (by omega),List.getElem?_eq_getElem (by rw [hs.1];omega)];rfl
        · exact fun j _=>hs.frozenAt _
        · intro v hv;obtain ⟨z,_,rfl⟩:=List.mem_map.1 hv;rfl
     have hbz:ar wz P (iT q) (sL eb nm nm) (sL vb 3 3) (sL sb nk nk):=by rw [hwz];exact dU (R:=fun w'=>ar w' P (iT q) (sL eb nm nm) (sL vb 3 3) (sL sb nk nk)) (fun w' o u h=>h.other hne.2.1 u) _ _ _ hbox
     have hEz:au wz W0.heap.size eb nm nm M:=by rw [hwz];exact dU (R:=fun w'=>au w' W0.heap.size eb nm nm M) (fun w' o u h=>h.setCell (p:=⟨sb,o,none⟩) hne.2.2.2.2.2 u) _ _ _ hE
     have hrz:wz.ownsRow W0.heap.size 61 1 (sL vb 3 3) 3 xs:=by rw [hwz];exact dU (R:=fun w'=>w'.ownsRow W0.heap.size 61 1 (sL vb 3 3) 3 xs) (fun w' o u h=>cw h hne.2.2.2.2.1 o u) _ _ _ hrow
     have hbz0:Bl W0 wz:=by rw [hwz];exact dU (R:=fun w'=>Bl W0 w') (fun w' o u h=>h.setCell (p:=⟨sb,o,none⟩) (hs.lt sb rfl).1 u) _ _ _ hbw
     have hsmz:cF Z wr wz:=by rw [hwz];exact dU (R:=fun w'=>cF Z wr w') (fun w' o u h=>h.trans (cF.of_set _ _ hsZ)) _ _ _ ⟨Nat.le_refl _,fun _ _ _ _=>rfl⟩
     have hsw:W0.heap.size≤sb:=(hs.lt sb rfl).1;have hiz:aH W0.heap.size wz (pT sb) nk nk S:=by
      refine ⟨hSl,Nat.le_refl _,by unfold maxLen;omega,HS.out.wfs,(fun e=>by cases e),?_,?_⟩
      · rintro x e hp;cases e;exact ⟨Nat.lt_of_lt_of_le (hs.lt sb rfl).2 hsmz.1,rfl,hsw⟩
      · rintro x e i hi;cases e;have:=World.cell?_setCells_in sb (S.map iT) 0 wr (fun j hj=>by
         rw [List.length_map,hSl] at hj;rw [Nat.zero_add,hs.cellAt j (by omega),List.getElem?_eq_getElem (by rw [hs.1];omega)];rfl) i (by rw [List.length_map];exact hi)
        rw [hwz];simpa using this
     have hkz:cJ sb (sb+1) wr wz:=by rw [hwz];exact dU (R:=fun w'=>cJ sb (sb+1) wr w') (fun w' o u h=>h.trans ⟨rfl,rfl,rfl,by simp [World.setCell],fun q _ hq=>Below.heap_setCell _ _ _ _ (fun e=>by have e':q=sb:=e;omega)⟩) _ _ _ (cJ.refl _ _ _)
     have HHO:Hid (kT Z wz xs [A,B,C] 3 gs bs es):=HAS.out.keepO hkz hsZ;have HIO:Hid (kQ W0.heap.size wz sb nk S):=by rw [hwz];exact vB hs hSl
     have HHZ:Hid (wG Z wz xs [A,B,C] 3):=HHO.out.hasR;clear hkz;have c0':=hbz.c0;have c1':=hbz.c1;have c2':=hbz.c2;have c3':=hbz.c3;have c3r:=hbox.c3;have zpr:=hbox.lt;have zp:=hbz.lt;have bq:=BR.out.keep hbz0;have d0:=bq.c0;have d1:=bq.c1;have d2:=bq.c2;have d3:=bq.c3;have df:=bq.fz;have zd:=bq.lt;have HROW:Hid (wz.ownsRow W0.heap.size 61 1 (sL vb 3 3) 3 xs):=hrz;have HEZ:Hid (au wz W0.heap.size eb nm nm M):=hEz;have HIZ:Hid (aH W0.heap.size wz (pT sb) nk nk S):=hiz;have HBQ:Hid (ar wz (X+1) (iT 0) nZ nZ nZ):=bq;have HBZ:Hid (Bl W0 wz):=hbz0;have heb:W0.heap.size≤eb:=hE.lt.1;clear hrow hbox bq HM5 HS5 k0 hbw hbz hEz hrz hbz0 hsmz hiz hE hs hwz HAS;go_wp2;refine bodyPost_ret (v:=.agg #[iT q,sL eb nm nm,sL vb 3 3,sL sb nk nk]) ?_ rfl ⟨eb,vb,sb,gs,bs,es,rfl,?_,?_,?_⟩
     · have e:=(((HBQ.out.set0 (iT q)).set1 (sL eb nm nm)).set2 (sL vb 3 3)).set3 (sL sb nk nk);simp [results,Tryz.results92,go_sem,e.c0,e.c1,e.c2,e.c3]
     · have hsz:=HSZ.out;have hxw:=HXW.out;have hvX:vb≠X+1:=by omega
       have hm:cF W0.heap.size wz ((((wz.setCell ⟨X+1,0,none⟩ (iT q)).setCell ⟨X+1,1,none⟩ (sL eb nm nm)).setCell ⟨X+1,2,none⟩ (sL vb 3 3)).setCell ⟨X+1,3,none⟩ (sL sb nk nk)):=(((cF.of_set _ _ (by show X+1<_;omega)).trans (cF.of_set _ _ (by show X+1<_;omega))).trans (cF.of_set _ _ (by show X+1<_;omega))).trans (cF.of_set _ _ (by show X+1<_;omega));have r4:=cw (cw (cw (cw HROW.out hvX 0 (iT q)) hvX 1 (sL eb nm nm)) hvX 2 (sL vb 3 3)) hvX 3 (sL sb nk nk);have hE:dY W0.heap.size wz (pT eb) nm nm M:=⟨HEZ.out.entsAt,fun x e _=>by cases e;exact heb⟩;have hmZ:∀{u},cF W0.heap.size wz u→cF Z wz u:=fun h=>⟨h.1,fun b o hb hl=>h.2 b o (by omega) hl⟩
       exact ⟨(hE.same hm).mono (by omega),rO r4 (by omega) (by omega) rfl (HHZ.out.same (hmZ hm)),(HIZ.out.same hm).lower (by omega)⟩
     · have hsz:=HSZ.out;have hxw:=HXW.out;have hvX:vb≠X+1:=by omega
       have hsX:sb≠X+1:=by omega
       have heX:eb≠X+1:=by omega
       have r4:=cw (cw (cw (cw HROW.out hvX 0 (iT q)) hvX 1 (sL eb nm nm)) hvX 2 (sL vb 3 3)) hvX 3 (sL sb nk nk);have s4:=cw (cw (cw (cw HIO.out.2 hsX 0 (iT q)) hsX 1 (sL eb nm nm)) hsX 2 (sL vb 3 3)) hsX 3 (sL sb nk nk);have e4:=(((HEZ.out.setCell (p:=⟨X+1,0,none⟩) heX.symm (iT q)).setCell (p:=⟨X+1,1,none⟩) heX.symm (sL eb nm nm)).setCell (p:=⟨X+1,2,none⟩) heX.symm (sL vb 3 3)).setCell (p:=⟨X+1,3,none⟩) heX.symm (sL sb nk nk);have hset:∀(w':World) (o:Nat) (u:Value),cJ (X+1) (X+1+1) w' (w'.setCell ⟨X+1,o,none⟩ u):=fun w' o u=>⟨rfl,rfl,rfl,by simp [World.setCell],fun q _ hq=>Below.heap_setCell _ _ _ _ (fun e=>by have e':q=X+1:=e;omega)⟩
       have h4:=HHO.out.keepO ((((hset wz 0 (iT q)).trans (hset _ 1 (sL eb nm nm))).trans (hset _ 2 (sL vb 3 3))).trans (hset _ 3 (sL sb nk nk))) (by omega);have hlv:=xF (lo:=w.heap.size) r4 (by omega) (by omega) hvZ rfl h4;exact ⟨e4.mono (by omega),hlv,⟨HIO.out.1,gG s4 (by omega)⟩,by rw [h4.1];exact ⟨heZ,hsZ⟩⟩
     · have hx:w.heap.size≤X+1:=by have:=HXW.out;omega
       exact ((((KW.out.trans (HBZ.out.mono KW.out.size)).setCell (p:=⟨X+1,0,none⟩) hx _).setCell (p:=⟨X+1,1,none⟩) hx _).setCell (p:=⟨X+1,2,none⟩) hx _).setCell (p:=⟨X+1,3,none⟩) hx _
end Go.Proofs.YtpobkmjicbobdaaGreat
