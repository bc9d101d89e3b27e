/- Walks. -/
import Derived.Laws.IdiomCopy
import Derived.Test.YtpobkmjicbobdaaGreatBn16
import Derived.RangeFuncNested
import Derived.RangeFuncBound
import Derived.RangeFuncCalls
import Derived.RangeFuncLeaves
import Derived.RangeFuncBox
import Derived.Shelf.Abstract
import Derived.Shelf.RegionOpen
import Derived.OwnWalkIn
import Derived.TacticsInMore
import Derived.LoopNIn
import Derived.LoopIn
namespace Go.Proofs.YtpobkmjicbobdaaGreat
set_option maxRecDepth 100000
set_option maxHeartbeats 40000000
open Go.RowKit Go.Shelf
variable {G Z b1 b2 b3 g hi hi' j k lo lo' n nk nm ns nv:Nat} {M:List ac} {S:List Int} {V:List (List ag)} {W w w':World} {ak am av:Option Addr} {bs gs:Nat→Nat} {u0 u1 u2 u3:Value} {xs:List Value}
def Bn (Z:Nat) (w:World) (xs:List Value) (V:List (List ag)) (k:Nat):Prop:=∀j,j<k→∃(b n:Nat) (B:List ag),V[j]?=some B∧xs[j]?=some (sL b n n)∧az Z w (pT b) n n B
theorem Bn.same (h:Bn Z w xs V k) (hs:dJ Z w w'):Bn Z w' xs V k:=fun j hj=>by
 obtain ⟨b,n,B,h1,h2,h3⟩:=h j hj
 exact ⟨b,n,B,h1,h2,h3.same hs⟩
theorem wK {base base' T size:Nat} {v:Value} (h:w.ownsRow base T size v n xs) (hb:base'≤base):w.ownsRow base' T size v n xs:=by
 refine ⟨h.1,?_⟩;rcases h.2 with h2 | ⟨g,cap,cur,hv,hg,r⟩
 · exact Or.inl h2
 · exact Or.inr ⟨g,cap,cur,hv,Nat.le_trans hb hg,r⟩
theorem eT.mono {B:List ag} {es:Nat→Nat} (h:eT lo hi w g n B es) (h1:lo'≤lo) (h2:hi≤hi'):eT lo' hi' w g n B es:=by
 obtain ⟨xs,r1,r2⟩:=h.row;exact ⟨h.len,⟨xs,wK r1 h1,r2⟩,fun i p hp=>(h.ents i p hp).mono h1,h.up,⟨by have:=h.top.1;omega,fun i hi'=>by have:=h.top.2 i hi';omega⟩,h.wfs⟩
theorem eT.runsIn {B:List ag} {es:Nat→Nat} (h:eT lo hi w g n B es):az lo w (pT g) n n B:=by
 obtain ⟨xs,r1,r2⟩:=h.row;have hrc:=cj r1;have hl:=h.len;refine ⟨h.len,hrc.1,hrc.2,(fun e=>by cases e),?_,?_⟩
 · rintro x e _;cases e;exact ⟨(r1.lt g rfl).2,rfl,(r1.lt g rfl).1⟩
 · rintro x e i hi;cases e;have hp:=List.getElem?_eq_getElem hi;have hO:=h.ents i _ hp;refine ⟨h.wfs _ (List.getElem_mem hi),_,_,_,?_,?_,hO.entsAt,fun x e _=>by cases e;exact hO.lt.1⟩
   · simp only [Nat.zero_add];exact (r1.cellAt _ (by omega)).trans (r2 i _ hp).1
   · simp only [Nat.zero_add];exact (r1.cellAt _ (by omega)).trans (r2 i _ hp).2
def xZ (Z:Nat) (w:World) (xs:List Value) (V:List (List ag)) (k:Nat) (gs bs:Nat→Nat) (es:Nat→Nat→Nat):Prop :=
 bs 0=Z∧bs k≤w.heap.size∧(∀i j,i≤j→j≤k→bs i≤bs j)∧∀j,j<k→∃B:List ag,V[j]?=some B∧xs[j]?=some (sL (gs j) B.length B.length)∧eT (bs j) (bs (j+1)) w (gs j) B.length B (es j)
theorem xZ.keepO {es:Nat→Nat→Nat} (h:xZ Z w xs V k gs bs es) (kk:dM lo' hi' w w') (hd:hi'≤Z):xZ Z w' xs V k gs bs es :=
 ⟨h.1,Nat.le_trans h.2.1 kk.size,h.2.2.1,fun j hj=>by
  obtain ⟨B,h1,h2,h3⟩:=h.2.2.2 j hj
  have hu:=h.2.2.1 0 j (by omega) (by omega)
  rw [h.1] at hu
  exact ⟨B,h1,h2,h3.keepO kk (Or.inr (by omega))⟩⟩
theorem xZ.below {es:Nat→Nat→Nat} (h:xZ Z w xs V k gs bs es) (hb:Bl w w'):xZ Z w' xs V k gs bs es :=
 ⟨h.1,Nat.le_trans h.2.1 hb.size,h.2.2.1,fun j hj=>by
  obtain ⟨B,h1,h2,h3⟩:=h.2.2.2 j hj
  exact ⟨B,h1,h2,h3.below hb⟩⟩
structure tR (B nm nk:Nat) (M:List ac) (W w:World) (oe ov os op:Option Nat):Prop where
 low:Below B W w
 e:∀b,oe=some b→ay w B b nm nm M
 v:∀b,ov=some b→∃xs,w.ownsRow B 61 1 (sL b 3 3) 3 xs
 s:∀b,os=some b→∃xs,w.ownsRow B 3 1 (sL b nk nk) nk xs
 p:∀b,op=some b→B≤b∧an w b 31 4∧ar w b (iT 0) nZ nZ nZ
theorem tR.keep {B:Nat} {oe ov os op:Option Nat} (h:tR B nm nk M W w oe ov os op) (hs:B≤w.heap.size) (hb:Bl w w'):tR B nm nk M W w' oe ov os op :=
 ⟨h.low.trans (hb.mono hs),fun b e=>(h.e b e).below hb,fun b e=>by obtain ⟨xs,hx⟩:=h.v b e;exact ⟨xs,bg hx hb⟩,fun b e=>by obtain ⟨xs,hx⟩:=h.s b e;exact ⟨xs,bg hx hb⟩,fun b e=>⟨(h.p b e).1,(h.p b e).2.1.below hb,(h.p b e).2.2.keep hb⟩⟩
theorem tR.fin {B eb vb sb P:Nat} (h:tR B nm nk M W w (some eb) (some vb) (some sb) (some P)) (q:Int):∃(xs ys:List Value),ar ((((w.setCell ⟨P,0,none⟩ (iT q)).setCell ⟨P,1,none⟩ (sL eb nm nm)).setCell ⟨P,2,none⟩ (sL vb 3 3)).setCell ⟨P,3,none⟩ (sL sb nk nk)) P (iT q) (sL eb nm nm) (sL vb 3 3) (sL sb nk nk)∧ay ((((w.setCell ⟨P,0,none⟩ (iT q)).setCell ⟨P,1,none⟩ (sL eb nm nm)).setCell ⟨P,2,none⟩ (sL vb 3 3)).setCell ⟨P,3,none⟩ (sL sb nk nk)) B eb nm nm M∧((((w.setCell ⟨P,0,none⟩ (iT q)).setCell ⟨P,1,none⟩ (sL eb nm nm)).setCell ⟨P,2,none⟩ (sL vb 3 3)).setCell ⟨P,3,none⟩ (sL sb nk nk)).ownsRow B 61 1 (sL vb 3 3) 3 xs∧((((w.setCell ⟨P,0,none⟩ (iT q)).setCell ⟨P,1,none⟩ (sL eb nm nm)).setCell ⟨P,2,none⟩ (sL vb 3 3)).setCell ⟨P,3,none⟩ (sL sb nk nk)).ownsRow B 3 1 (sL sb nk nk) nk ys∧(vb≠P∧sb≠P∧eb≠P∧vb≠eb∧vb≠sb∧sb≠eb)∧B≤P∧Below B W ((((w.setCell ⟨P,0,none⟩ (iT q)).setCell ⟨P,1,none⟩ (sL eb nm nm)).setCell ⟨P,2,none⟩ (sL vb 3 3)).setCell ⟨P,3,none⟩ (sL sb nk nk)):=by
 obtain ⟨hP,kP,bP⟩:=h.p P rfl;obtain ⟨xs,hv⟩:=h.v vb rfl;obtain ⟨ys,hs⟩:=h.s sb rfl;have hE:=h.e eb rfl;have kv:=ee hv;have ks:=ee hs;have ke:=ee hE.owns;have n1:vb≠P:=fun e=>by subst e;exact absurd (kv.kind kP) (by decide)
 have n2:sb≠P:=fun e=>by subst e;exact absurd (ks.kind kP) (by decide)
 have n3:eb≠P:=fun e=>by subst e;exact absurd (ke.kind kP) (by decide)
 have n4:vb≠eb:=fun e=>by subst e;exact absurd (kv.kind ke) (by decide)
 have n5:vb≠sb:=fun e=>by subst e;exact absurd (kv.kind ks) (by decide)
 have n6:sb≠eb:=fun e=>by subst e;exact absurd (ks.kind ke) (by decide)
 exact ⟨xs,ys,(((bP.set0 _).set1 _).set2 _).set3 _,(((hE.setCell (p:=⟨P,0,none⟩) n3.symm _).setCell (p:=⟨P,1,none⟩) n3.symm _).setCell (p:=⟨P,2,none⟩) n3.symm _).setCell (p:=⟨P,3,none⟩) n3.symm _,au (au (au (au hv n1 0 _) n1 1 _) n1 2 _) n1 3 _,au (au (au (au hs n2 0 _) n2 1 _) n2 2 _) n2 3 _,⟨n1,n2,n3,n4,n5,n6⟩,hP,gG h.low hP _ _ _ _⟩
theorem an.same {t sz:Nat} (h:an w g t sz) (hf:w'.heap[g]?=w.heap[g]?):an w' g t sz:=by
 obtain ⟨cur,h1,h2⟩:=h;exact ⟨cur,hf.trans h1,h2⟩
def lJ (lo hi:Nat) (w w':World):Prop:=∀q,lo≤q→q<hi→w'.heap[q]?=w.heap[q]?
theorem lJ.trans {w'':World} (h:lJ lo hi w w') (k:lJ lo hi w' w''):lJ lo hi w w'':=fun q h1 h2=>(k q h1 h2).trans (h q h1 h2)
theorem lJ.of_below (h:Bl w w'):lJ lo w.heap.size w w':=fun q _ h2=>h.block q h2
theorem lJ.of_set (w:World) {g o:Nat} (v:Value) (hg:g<lo):lJ lo hi w (w.setCell ⟨g,o,none⟩ v):=fun q h1 _=>Below.heap_setCell _ _ _ _ (fun e=>by have e':q=g:=e;omega)
theorem lL.far {m:Nat} (h:lL lo hi w g m) (k:lJ lo hi w w'):lL lo hi w' g m:=⟨h.1,h.2.1,h.2.2.same (k _ h.1 h.2.1)⟩
theorem jl.far {B:List ag} (h:jl lo hi w g B) (k:lJ lo hi w w'):jl lo hi w' g B :=
 ⟨h.at1,h.at2,h.blk.same (k _ h.at1 h.at2),fun i p hp=>by obtain ⟨e,c,b⟩:=h.runs i p hp;exact ⟨e,(World.cell?_of_block (k _ h.at1 h.at2)).trans c,b.far k⟩⟩
theorem ki.far (h:ki lo hi w g V) (k:lJ lo hi w w'):ki lo hi w' g V :=
 ⟨h.at1,h.at2,h.blk.same (k _ h.at1 h.at2),fun i p hp=>by obtain ⟨e,c,b⟩:=h.levs i p hp;exact ⟨e,(World.cell?_of_block (k _ h.at1 h.at2)).trans c,b.far k⟩⟩
def lG (G:Nat) (w:World) (xs:List Value) (j:Nat) (p:ag):Prop :=
 ∃e,xs[j*2]?=some (sL e p.1.length p.1.length)∧xs[j*2+1]?=some (iT p.2)∧eu (G+1) w (pT e) p.1.length p.1.length p.1∧lL (G+1) w.heap.size w e p.1.length
theorem lG.has {p:ag} (h:lG G w xs j p):rU G w xs j p:=by
 obtain ⟨e,h0,h1,h2,_⟩:=h;exact ⟨_,_,_,h0,h1,h2⟩
theorem lG.other {p:ag} (h:lG G w xs j p) (hne:j≠k) (u0 u1:Value) (hs:dJ (G+1) w w') (hf:lJ (G+1) w.heap.size w w'):lG G w' ((xs.set (k*2) u0).set (k*2+1) u1) j p:=by
 obtain ⟨e,h0,h1,h2,h3⟩:=h;refine ⟨e,?_,?_,h2.same hs,(h3.far hf).mono (Nat.le_refl _) hs.1⟩ <;> (repeat rw [List.getElem?_set_ne (by omega)]) <;> assumption
def lH (G:Nat) (w:World) (xs:List Value) (j:Nat) (p:List ag):Prop :=
 ∃e,xs[j]?=some (sL e p.length p.length)∧az (G+1) w (pT e) p.length p.length p∧jl (G+1) w.heap.size w e p
theorem lH.has {p:List ag} (h:lH G w xs j p):rX G w xs j p:=by
 obtain ⟨e,h0,h2,_⟩:=h;exact ⟨_,_,_,h0,h2⟩
theorem lH.other {p:List ag} (h:lH G w xs j p) (hne:j≠k) (u0:Value) (hs:dJ (G+1) w w') (hf:lJ (G+1) w.heap.size w w'):lH G w' (xs.set k u0) j p:=by
 obtain ⟨e,h0,h2,h3⟩:=h;exact ⟨e,by rw [List.getElem?_set_ne (by omega)];exact h0,h2.same hs,(h3.far hf).mono (Nat.le_refl _) hs.1⟩
structure mv (lo hi:Nat) (w:World) (b1 nm b2:Nat) (V:List (List ag)) (b3 ns:Nat):Prop where
 mem:lL lo hi w b1 nm
 levs:ki lo hi w b2 V
 sn:lo≤b3∧b3<hi∧an w b3 3 (ns*1)
theorem mv.far (h:mv lo hi w b1 nm b2 V b3 ns) (k:lJ lo hi w w'):mv lo hi w' b1 nm b2 V b3 ns :=
 ⟨h.mem.far k,h.levs.far k,h.sn.1,h.sn.2.1,h.sn.2.2.same (k _ h.sn.1 h.sn.2.1)⟩
theorem mv.mono (h:mv lo hi w b1 nm b2 V b3 ns) (h1:lo'≤lo) (h2:hi≤hi'):mv lo' hi' w b1 nm b2 V b3 ns :=
 ⟨h.mem.mono h1 h2,h.levs.mono h1 h2,Nat.le_trans h1 h.sn.1,Nat.lt_of_lt_of_le h.sn.2.1 h2,h.sn.2.2⟩
theorem gU.cell (h:gU lo hi w w') {b o:Nat} {v:Value} (hb:b<lo∨hi≤b) (hc:w.cell? ⟨b,o,none⟩=some v):w'.cell? ⟨b,o,none⟩=some v :=
 (World.cell?_of_block (h.far b (World.block_lt_of_cell? _ _ hc) hb)).trans hc
def Br (e:ac):Prop:=e.1.size≤281474976710656∧e.2.2.2.1.size≤281474976710656
def BU (B:List ag):Nat:=(B.map fun p=>p.1.length).sum
def BT (V:List (List ag)):Nat:=(V.map fun B=>BU B+B.length).sum
def Cg (B:List ag):Prop:=∀p ∈ B,∀e ∈ p.1,Br e
theorem bf.lowR {cm cv cs:Nat} (h:bf lo w am nm cm av nv cv ak ns cs M V S) (hl:lo'≤lo):bf lo' w am nm cm av nv cv ak ns cs M V S:=⟨h.mem.mono hl,h.levels.mono hl,h.snaps.lower hl⟩
theorem fJ.levelsIn {es:Nat→Nat→Nat} (h:fJ lo hi w G n V gs bs es):bH lo w (pT G) n n V:=by
 obtain ⟨xs,r1,r2⟩:=h.row;have hrc:=cj r1;have hl:=h.len;refine ⟨h.len,hrc.1,hrc.2,(fun e=>by cases e),?_,?_⟩
 · rintro x e _;cases e;exact ⟨(r1.lt G rfl).2,rfl,(r1.lt G rfl).1⟩
 · rintro x e i hi;cases e;have hp:=List.getElem?_eq_getElem hi;have u:=h.up 0 i (by omega) (by omega);refine ⟨_,_,_,?_,(h.levs i _ hp).runsIn.mono (by have:=h.bot.1;omega)⟩;simp only [Nat.zero_add];exact (r1.cellAt _ (by omega)).trans (r2 i _ hp)
theorem ji.treeIn {es:Nat→Nat→Nat} (h:ji lo hi w b1 nm b2 nv b3 ns M V S gs bs es) (hw:∀z ∈ S,(Lit.int .i64 z).wf=true):bf 0 w (pT b1) nm nm (pT b2) nv nv (pT b3) ns ns M V S:=by
 have hrc:=cj h.sn.2;have hl:=h.sn.1;refine ⟨⟨h.mem.entsAt,fun x e _=>Nat.zero_le _⟩,h.levs.levelsIn.mono (Nat.zero_le _),⟨hl,hrc.1,hrc.2,hw,(fun e=>by cases e),?_,?_⟩⟩
 · rintro x e _;cases e;exact ⟨(h.sn.2.lt b3 rfl).2,rfl,Nat.zero_le _⟩
 · rintro x e i hi;cases e;simp only [Nat.zero_add];have h1:=h.sn.2.cellAt i (by omega);rw [List.getElem?_map,List.getElem?_eq_getElem hi] at h1;exact h1
def rV (lo hi:Nat) (w:World) (am:Option Addr) (nm:Nat) (av:Option Addr) (nv:Nat) (ak:Option Addr) (ns:Nat) (M:List ac) (V:List (List ag)) (S:List Int) (gs bs:Nat→Nat) (es:Nat→Nat→Nat):Prop :=
 (∃b1 b2 b3,am=some ⟨b1,0,none⟩∧av=some ⟨b2,0,none⟩∧ak=some ⟨b3,0,none⟩∧ji lo hi w b1 nm b2 nv b3 ns M V S gs bs es)∨(am=none∧av=none∧ak=none∧nm=0∧nv=0∧ns=0∧M=[]∧V=[]∧S=[])
theorem rV.below {es:Nat→Nat→Nat} (h:rV lo hi w am nm av nv ak ns M V S gs bs es) (hb:Bl w w'):rV lo hi w' am nm av nv ak ns M V S gs bs es:=by
 rcases h with ⟨b1,b2,b3,h1,h2,h3,h4⟩ | h
 · exact .inl ⟨b1,b2,b3,h1,h2,h3,h4.below hb⟩
 · exact .inr h
theorem rV.keepO {es:Nat→Nat→Nat} (h:rV lo hi w am nm av nv ak ns M V S gs bs es) (k:dM lo' hi' w w') (hd:hi'≤lo):rV lo hi w' am nm av nv ak ns M V S gs bs es:=by
 rcases h with ⟨b1,b2,b3,h1,h2,h3,h4⟩ | h
 · exact .inl ⟨b1,b2,b3,h1,h2,h3,h4.keepO k hd⟩
 · exact .inr h
theorem nK (lo:Nat) (w:World):bf lo w none 0 0 none 0 0 none 0 0 [] [] [] :=
 ⟨⟨⟨rfl,Nat.le_refl _,Nat.zero_le _,(fun e he=>by cases he),fun _=>rfl,(fun x e=>by cases e),(fun x e=>by cases e)⟩,fun x e=>by cases e⟩,⟨rfl,Nat.le_refl _,Nat.zero_le _,fun _=>rfl,(fun x e=>by cases e),(fun x e=>by cases e)⟩,⟨rfl,Nat.le_refl _,Nat.zero_le _,(fun z hz=>by cases hz),fun _=>rfl,(fun x e=>by cases e),(fun x e=>by cases e)⟩⟩
theorem rV.treeIn {es:Nat→Nat→Nat} (h:rV lo hi w am nm av nv ak ns M V S gs bs es) (hw:∀z ∈ S,(Lit.int .i64 z).wf=true):bf 0 w am nm nm av nv nv ak ns ns M V S:=by
 rcases h with ⟨b1,b2,b3,rfl,rfl,rfl,h4⟩ | ⟨rfl,rfl,rfl,rfl,rfl,rfl,rfl,rfl,rfl⟩
 · exact h4.treeIn hw
 · exact nK 0 w
structure ya (w:World) (b:Nat) (u0 u1 u2 u3:Value):Prop where
 c0:w.cell? ⟨b,0,none⟩=some u0
 c1:w.cell? ⟨b,1,none⟩=some u1
 c2:w.cell? ⟨b,2,none⟩=some u2
 c3:w.cell? ⟨b,3,none⟩=some u3
theorem ya.lt {b:Nat} (h:ya w b u0 u1 u2 u3):b<w.heap.size:=World.block_lt_of_cell? w _ h.c0
theorem ya.new (w:World) (t:TypeId) (u0 u1 u2 u3:Value):ya (w.alloc (.cells #[u0,u1,u2,u3] t)) w.heap.size u0 u1 u2 u3:=⟨by simp,by simp,by simp,by simp⟩
theorem ya.keep {b:Nat} (h:ya w b u0 u1 u2 u3) (hb:Bl w w'):ya w' b u0 u1 u2 u3:=⟨cell_later hb h.c0,cell_later hb h.c1,cell_later hb h.c2,cell_later hb h.c3⟩
theorem ya.keepO {b:Nat} (h:ya w b u0 u1 u2 u3) (k:dM lo hi w w') (hb:b<lo∨hi≤b):ya w' b u0 u1 u2 u3:=⟨jA k hb h.c0,jA k hb h.c1,jA k hb h.c2,jA k hb h.c3⟩
structure Aa (w6 wi:World) (Y:Nat) (y0 y1 y2 y3:Value) (G:Nat) (g0:Value) (lo hi:Nat) (am:Option Addr) (nm:Nat) (av:Option Addr) (nv:Nat) (ak:Option Addr) (ns:Nat) (M:List ac) (V:List (List ag)) (S:List Int) (gs bs:Nat→Nat) (es:Nat→Nat→Nat):Prop where
 low:Bl w6 wi
 hy:ya wi Y y0 y1 y2 y3
 hg:ya wi G g0 (.slice am nm nm) (.slice av nv nv) (.slice ak ns ns)
 res:rV lo hi wi am nm av nv ak ns M V S gs bs es
theorem Aa.below {w6 wi wj:World} {Y:Nat} {y0 y1 y2 y3 g0:Value} {es:Nat→Nat→Nat} (h:Aa w6 wi Y y0 y1 y2 y3 G g0 lo hi am nm av nv ak ns M V S gs bs es) (hb:Bl wi wj):Aa w6 wj Y y0 y1 y2 y3 G g0 lo hi am nm av nv ak ns M V S gs bs es :=
 ⟨h.low.trans (hb.mono h.low.size),h.hy.keep hb,h.hg.keep hb,h.res.below hb⟩
structure bE (K:Nat→Prop) (w w':World):Prop where
 os:w'.os=w.os
 tape:w'.tape=w.tape
 output:w'.output=w.output
 size:w.heap.size≤w'.heap.size
 block:∀k,K k→w'.heap[k]?=w.heap[k]?
theorem bE.of {K:Nat→Prop} {n₀:Nat} (h:Below n₀ w w') (hK:∀k,K k→k<n₀):bE K w w':=⟨h.os,h.tape,h.output,h.size,fun k hk=>h.block k (hK k hk)⟩
theorem bE.refl (K:Nat→Prop) (w:World):bE K w w:=⟨rfl,rfl,rfl,Nat.le_refl _,fun _ _=>rfl⟩
theorem bE.trans {K:Nat→Prop} {a b c:World} (h:bE K a b) (k:bE K b c):bE K a c :=
 ⟨k.os.trans h.os,k.tape.trans h.tape,k.output.trans h.output,Nat.le_trans h.size k.size,fun i hi=>(k.block i hi).trans (h.block i hi)⟩
theorem bE.cell {K:Nat→Prop} (h:bE K w w') {p:Addr} (hp:K p.block):w'.cell? p=w.cell? p:=World.cell?_of_block (w:=w) (h.block p.block hp)
theorem bE.grown {K:Nat→Prop} {row:Option Nat} (hg:w.grownBy w' row) (hK:∀k,K k→k<w.heap.size∧some k≠row):bE K w w':=⟨hg.os,hg.tape,hg.output,hg.size,fun k hk=>hg.block k (hK k hk).1 (hK k hk).2⟩
theorem nh {K:Nat→Prop} (hK:∀k,K k→k<w.heap.size) (W:World) (l:Nat) (o o':Obj) (hl:w.heap.size≤l) (h:W.heap[l]?=some o) (hc:o.isCells=false) (hw:o.isWalk=false):bE K W (W.putObj l o') :=
 bE.of (belowK_b (n₀:=w.heap.size) (w:=w) (Nat.le_refl _) W l o o' hl h hc hw) hK
theorem aj.keepS {K:Nat→Prop} {a:Option Addr} {len cap:Nat} {L:List ac} (h:aj w a len cap L) (hk:bE K w w') (hK:∀x,a=some x→0<len→K x.block):aj w' a len cap L :=
 h.moved hk.size (fun x e hp o=>hk.cell (p:=⟨x.block,o,none⟩) (hK x e hp))
section
attribute [local go_sem] Oper.semAt_some
def cf (n k:Nat):List (Fin n):=((List.finRange n).drop k).reverse
theorem pn (n:Nat):cf n n=[]:=by simp [cf]
theorem down_step (h:k<n):cf n k=cf n (k+1)++[⟨k,h⟩]:=by
 unfold cf;rw [List.drop_eq_getElem_cons (by simpa using h)];simp
theorem pl (n k:Nat):cf n k <+: cf n 0:=by
 unfold cf;rw [List.drop_zero];exact List.reverse_prefix.2 (List.drop_suffix _ _)
theorem ly (n k:Nat):(cf n k).length=n - k:=by simp [cf]
def BP (K:Nat→Prop) (w:World) (a:Option Addr) (len:Nat) (u0 u1 u2 u3 u4:Nat→Value):Prop:=∀b o,a=some ⟨b,o,none⟩→1≤len→K b∧∀i,i<len→w.cell? ⟨b,o+i*5,none⟩=some (u0 i)∧w.cell? ⟨b,o+i*5+1,none⟩=some (u1 i)∧w.cell? ⟨b,o+i*5+2,none⟩=some (u2 i)∧w.cell? ⟨b,o+i*5+3,none⟩=some (u3 i)∧w.cell? ⟨b,o+i*5+4,none⟩=some (u4 i)
theorem xV (n l Bp:Nat) (K:Nat→Prop) (hn:1≤n) (a:Option Addr) (len cap:Nat) (u0 u1 u2 u3 u4:Nat→Value) (J Jx:List (Fin len)→World→Prop) (W:World)
 (hY:∀pre (x:Fin len) W1,J pre W1→pre.length<len→YieldAt Fence.wide (n - 1) Tryz.prog l #[iT (x.1:Nat),.agg #[u0 x.1,u1 x.1,u2 x.1,u3 x.1,u4 x.1]] W1 fun e W' =>
  (e=.returned (.bool true)∧J (pre++[x]) W'∧bE K W1 W')∨(e=.returned (.bool false)∧Jx (pre++[x]) W'))
 (hKB:K Bp) (hp0:W.cell? ⟨Bp,0,none⟩=some (.slice a len cap)) (hs:1≤len→∃b o,a=some ⟨b,o,none⟩) (hroom:len≤cap) (hbig:cap≤maxLen) (hKs:∀k,K k→k<W.heap.size)
 (hV:BP K W a len u0 u1 u2 u3 u4) (h0:J [] W) :
 CallsIn Fence.wide n Tryz.prog 228 #[.func (.yield l) #[] #[],.pointer (pT Bp)] W fun e W'=>(∃v,e=.returned v) ∧
  ((∃ys,ys=cf len 0∧J ys W')∨(∃pre,pre <+: cf len 0∧Jx pre W')):=by
 unfold maxLen at hbig;have HKS:=b6 hKs;clear hKs;refine callsIn_of_wp Tryz.func228 rfl trivial ?_ rfl;simp only [Tryz.ntmps228,List.size_toArray,List.length_cons,List.length_nil,Nat.reduceAdd,Nat.reduceSub,Array.replicate_succ,Array.replicate_zero,List.push_toArray,List.append_toArray,List.nil_append,List.cons_append];have wl:IntKind.i64.wrap ((len:Int) - 1)=(len:Int) - 1:=by rw [IntWalk.i64_left];unfold wrap64;omega
 gi_wp2
 gi_loopw [3] (fun iv wr=>∃k:Nat,k≤len∧iv=iT ((k:Int) - 1)∧J (cf len k) wr∧bE K W wr) (fun iv _=>(intOf iv+1).toNat)
 case atStart=>exact ⟨len,Nat.le_refl _,rfl,by rw [pn];exact h0,bE.refl _ _⟩
 case round =>
  obtain ⟨k,hk,rfl,hJs,hb⟩:=hrel;have HB:Hid (bE K W wr):=hb;have hcc:=(hb.cell (p:=⟨Bp,0,none⟩) hKB).trans hp0;have hszw:=hb.size;have hBw:Bp<wr.heap.size:=Nat.lt_of_lt_of_le (HKS.out Bp hKB) hszw;cases k with
  | zero =>
   gi_wp2
   go_end0;exact ⟨⟨_,rfl⟩,.inl ⟨_,rfl,hJs⟩⟩
  | succ j =>
   have hj:((j+1:Nat):Int) - 1=(j:Int):=by omega
   rw [hj];have hjI:(j:Int)<(len:Int):=by omega
   have hjN:j<len:=by omega
   have hj0:(0:Int)≤(j:Int):=by omega
   have wj:IntKind.i64.wrap ((j:Int) - 1)=(j:Int) - 1:=by rw [IntWalk.i64_left];unfold wrap64;omega
   obtain ⟨b,o,rfl⟩:=hs (by omega);obtain ⟨hKb,hVe⟩:=hV b o rfl (by omega);have hbW:b<wr.heap.size:=Nat.lt_of_lt_of_le (HKS.out b hKb) hszw;obtain ⟨g0,g1,g2,g3,g4⟩:=hVe j hjN;have c0:=(HB.out.cell (p:=⟨b,o+j*5,none⟩) hKb).trans g0;have c1:=(HB.out.cell (p:=⟨b,o+j*5+1,none⟩) hKb).trans g1;have c2:=(HB.out.cell (p:=⟨b,o+j*5+2,none⟩) hKb).trans g2;have c3:=(HB.out.cell (p:=⟨b,o+j*5+3,none⟩) hKb).trans g3;have c4:=(HB.out.cell (p:=⟨b,o+j*5+4,none⟩) hKb).trans g4;clear g0 g1 g2 g3 g4;obtain ⟨fn,tmps,assign,body,hy,hR⟩:=hY _ ⟨j,hjN⟩ _ hJs (by rw [ly];omega);simp only at hy;clear hb hV hVe;gi_wp2
   refine hR.mono ?_;rintro e W3 (⟨rfl,hJ3,hk3⟩ | ⟨rfl,hJx3⟩)
   · gi_wp2
     go_roundw
     case rel=>exact ⟨j,by omega,by go_num,by rw [down_step hjN];exact hJ3,HB.out.trans hk3⟩
     case measure=>simp [intOf]
   · gi_wp2
     refine bodyPost_ret (results_none rfl _ _ _) rfl ?_;exact ⟨⟨_,rfl⟩,.inr ⟨_,by rw [← down_step hjN];exact pl _ _,hJx3⟩⟩
theorem zR (n:Nat) (a:Option Addr) (len cap:Nat) (w:World) :
 CallsIn Fence.wide n Tryz.prog 191 #[.slice a len cap] w fun e w'=>e=.returned (.func (.func 228) #[] #[.pointer (some ⟨w.heap.size,0,none⟩)]) ∧
  w'=w.alloc (.cells #[.slice a len cap] 28):=by
 refine callsIn_of_wp Tryz.func191 rfl trivial ?_ rfl;simp only [Tryz.ntmps191,List.size_toArray,List.length_cons,List.length_nil,Nat.reduceAdd,Nat.reduceSub,Array.replicate_succ,Array.replicate_zero,List.push_toArray,List.append_toArray,List.nil_append,List.cons_append];gi_wp2
 go_ret;exact ⟨rfl,rfl⟩
theorem tJ (n:Nat) (hn:1≤n) (Bp:Nat) (K:Nat→Prop) (a:Option Addr) (len cap:Nat) (u0 u1 u2 u3 u4:Nat→Value) (w:World)
 (hKB:K Bp) (hp0:w.cell? ⟨Bp,0,none⟩=some (.slice a len cap)) (hs:1≤len→∃b o,a=some ⟨b,o,none⟩) (hroom:len≤cap) (hbig:cap≤maxLen) (hKs:∀k,K k→k<w.heap.size)
 (hV:BP K w a len u0 u1 u2 u3 u4) :
 SeqStopsK Fence.wide n Tryz.prog 228 #[.pointer (pT Bp)] (fun x:Fin len=>#[iT (x.1:Nat),.agg #[u0 x.1,u1 x.1,u2 x.1,u3 x.1,u4 x.1]]) (bE K) (fun ys=>ys=cf len 0) (fun pre=>pre <+: cf len 0) len w :=
 fun l J Jx W hW _ _ hY h0=>xV n l Bp K hn a len cap u0 u1 u2 u3 u4 J Jx W hY hKB (cell_later hW hp0) hs hroom hbig (fun k hk=>Nat.lt_of_lt_of_le (hKs k hk) hW.size) (fun b o e h1=>⟨(hV b o e h1).1,fun i hi=>by obtain ⟨g0,g1,g2,g3,g4⟩:=(hV b o e h1).2 i hi;exact ⟨cell_later hW g0,cell_later hW g1,cell_later hW g2,cell_later hW g3,cell_later hW g4⟩⟩) h0
end
end Go.Proofs.YtpobkmjicbobdaaGreat
