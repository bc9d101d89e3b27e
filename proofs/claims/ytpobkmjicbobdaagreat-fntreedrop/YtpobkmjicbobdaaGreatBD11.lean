/- Walks. -/
import Derived.Test.YtpobkmjicbobdaaGreatBD10
namespace Go.Proofs.YtpobkmjicbobdaaGreat
set_option maxRecDepth 100000
set_option maxHeartbeats 40000000
open Go.RowKit
variable {M:List ac} {T Z b base g hi hi' k lo lo' n nk nm vb:Nat} {V:List (List af)} {W w w':World} {bs gs:Nat→Nat} {oe op os ov:Option Nat} {xs:List Value}
theorem qY (lo:Nat) (a:Option Addr) (len a0:Nat) (B:List af) (w:World) (Q:aw lo w a len a0 B) (hS:ki B) (hE:iF B) :
 Calls Tryz.prog 150 #[.slice a len a0] w fun e w'=>e=.returned (.slice (some ⟨w.heap.size,0,none⟩) len len)∧(∃f,d4 w.heap.size w'.heap.size w' w.heap.size len B f)∧w.heap.size<w'.heap.size∧Below w.heap.size w w':=by
 have F:Eq (B.length=len):=Q.length;have a9:Eq (∀p ∈ B,(Lit.int .i64 p.2).wf=true):=Q.wfs;have hbig:len≤1048576:=by have:=Q.length;have:=hS.1;omega
 have a7:Eq _:=hS;have aq:Eq _:=hE;have HL:Eq _:=Q;clear Q hS hE;obtain ⟨i0,hi,ag,am,ab⟩:=info_parts Tryz.infoRun;go_enter Tryz.func150,Tryz.ntmps150
 go_wp2_with (at_make;refine wpList_make_full _ rfl _ _ 61 rfl w.heap.size 63 i0 _ 2 Tryz.underlying61 hi ag am .i64 .i64 _ _ len rfl rfl (by simp) (by simp) (by rw [ab];omega) (by unfold maxLen;omega) (Gg _) ?_;intro w1 hown hgrow)
 have a4:Below w.heap.size w w1:=(Below.refl _ _).grown hgrow (Gg _) (by simp);have a2:w.heap.size<w1.heap.size:=(hown.lt _ rfl).2;obtain ⟨G,hG⟩:∃G,w.heap.size=G:=⟨_,rfl⟩;rw [hG] at hown a2 ⊢;have R:Eq (w.heap.size=G):=hG;have ap:Eq (Below G w w1):=by show Below G w w1;rw [← hG];exact a4
 clear hG a4 hgrow;go_loopw [11] (fun i wr=>∃(k:Nat) (xs:List Value) (f:Nat→Nat),k≤len∧i=.int .i64 k∧wr.ownsRow G 63 2 (.slice (some ⟨G,0,none⟩) len len) len xs∧Below G w wr∧(∀(j:Nat) (p:af),j<k→B[j]?=some p→xs[j*2]?=some (.slice (some ⟨f j,0,none⟩) p.1.length p.1.length)∧xs[j*2+1]?=some (.int .i64 p.2)∧ah wr (G+1) (f j) p.1.length p.1.length p.1)∧(∀i j,i<j→j<k→f i<f j)∧(∀i,i<k→f i<wr.heap.size)) (fun i _=>len - (intOf i).toNat)
 case atStart=>exact ⟨0,_,fun _=>0,Gl _,rfl,hown,ap.o,(fun j l h=>absurd h (G2 _)),(fun i j _ h=>absurd h (G2 _)),(fun i h=>absurd h (G2 _))⟩
 case round =>
  obtain ⟨k,xs,f,hk,rfl,ho,hb,hrow,C,d⟩:=hrel;have t:Eq (∀(j:Nat) (p:af),j<k→B[j]?=some p→xs[j*2]?=some (.slice (some ⟨f j,0,none⟩) p.1.length p.1.length)∧xs[j*2+1]?=some (.int .i64 p.2)∧ah wr (G+1) (f j) p.1.length p.1.length p.1):=hrow;have U:Eq (∀i j,i<j→j<k→f i<f j):=C;have D:Eq (∀i,i<k→f i<wr.heap.size):=d;clear hrow hown C d;have J:G<wr.heap.size:=(ho.lt _ rfl).2;have I:Below w.heap.size w wr:=by rw [R.o];exact hb
  have HB:Eq (Below G w wr):=hb;clear hb;by_cases y:k<len
  · have az:(k:Int)<(len:Int):=by omega
    obtain ⟨b,aG,rfl,ad⟩:=HL.o.form (by omega);obtain ⟨L,m,s,n,c,hg,_,g0,g1,E⟩:=HL.o.run I k y;have hn:n≤1048576:=by
     have:=a7.o.2 _ (Gk hg);have:=E.1.length;simp only at *;omega
    have ak:Eq (rl L):=aq.o _ (Gk hg);have HG:Eq (B[k]?=some (L,m)):=hg;have ac:Eq (L.length=n):=E.1.length;have aI:b<wr.heap.size:=E' ad I.size;have aa:Eq (aj wr s n c L):=E.1;have HX:Eq (xs.length=len*2):=ho.1;have HO:Eq (wr.ownsRow G 63 2 (.slice (some ⟨G,0,none⟩) len len) len xs):=ho;clear hg E ho I;go_upto_region 5 with fail
    obtain ⟨X,hX⟩:∃X,wr.heap.size=X:=⟨_,rfl⟩;obtain ⟨W,Y⟩:=aF (wr.alloc (.cells #[.slice s n c,.int .i64 m] 63));have kW:Below wr.heap.size wr W:=by rw [Y];exact (Below.refl _ _).alloc (Gg _) _
    have x0:W.cell? ⟨X,0,none⟩=some (.slice s n c):=by rw [Y,← hX];simp
    have x1:W.cell? ⟨X,1,none⟩=some (.int .i64 m):=by rw [Y,← hX];simp
    have xz:X<W.heap.size:=Gf _ _ x0;have r:Eq (Below wr.heap.size wr W):=kW;rw [← Y,hX];clear Y kW hX;have O:Eq (W.ownsRow G 63 2 (.slice (some ⟨G,0,none⟩) len len) len xs):=HO.o.kept (row:=none) (aJ r.o) (.inr (by simp [Value.ownBlock]));have N:G<W.heap.size:=E' J r.o.size;go_region_with (go_at_call 149;refine (iq s n c L _ ((aa.o.keep r.o).keep ((Below.refl _ W).drew)) hn ak.o).mono ?_;rintro e w2 ⟨rfl,x,H,a3⟩;have k2:Below W.heap.size W w2:=((Below.refl _ W).drew).trans a3;have aD:=cell_later k2 x1;have aB:=E' xz k2.size;have u:w2.ownsRow G 63 2 (.slice (some ⟨G,0,none⟩) len len) len xs:=O.o.kept (row:=none) (aJ k2) (.inr (by simp [Value.ownBlock]));obtain ⟨v0,c0⟩:∃v,w2.cell? ⟨G,k*2,none⟩=some v:=⟨_,(u.cellAt _ (by omega)).trans (j' (by rw [HX.o];omega))⟩;obtain ⟨v1,c1⟩:∃v,w2.cell? ⟨G,k*2+1,none⟩=some v:=⟨_,(u.cellAt _ (by omega)).trans (j' (by rw [HX.o];omega))⟩;have f0:w2.frozen? ⟨G,k*2,none⟩=false:=u.frozenAt _;have f1:w2.frozen? ⟨G,k*2+1,none⟩=false:=u.frozenAt _;have zG:=E' N k2.size)
    all_goals
     have ao:Eq (ah w2 (G+1) W.heap.size n n L):=x.mono N;have al:Eq (W.heap.size<w2.heap.size∧wr.heap.size≤W.heap.size):=⟨H,r.o.size⟩;have an:Eq (w2.ownsRow G 63 2 (.slice (some ⟨G,0,none⟩) len len) len xs):=u;have K2:Eq (Below wr.heap.size wr w2):=r.o.trans (k2.mono r.o.size);clear x H a3 k2 u c0 c1 f0 f1 O r x0 x1 xz;go_wp2;go_roundw
     case rel =>
      have t0:=an.o.stored (k*2) (.slice (some ⟨W.heap.size,0,none⟩) n n);have t1:=t0.1.stored (k*2+1) (.int .i64 m);have K:=t0.2.trans t1.2;have hz:=al.o;have aH:=K.size;refine ⟨k+1,_,fun i=>if i=k then W.heap.size else f i,by omega,by go_num,t1.1,?_,?_,?_,?_⟩
      · exact ((HB.o.trans (K2.o.mono (by omega))).setCell (p:=⟨G,_,none⟩) (Gg _) _).setCell (p:=⟨G,_,none⟩) (Gg _) _
      · intro j p hj hp;by_cases A:j=k
        · subst A;rw [HG.o] at hp;cases hp;simp only [if_true,ac.o];refine ⟨?_,?_,ao.o.grown K (fun e=>?_)⟩
          · rw [GE (by omega),GV (by rw [HX.o];omega)]
          · rw [GV (by rw [IH,HX.o];omega)]
          · have h1:W.heap.size=G:=Gi e;omega
        · obtain ⟨h1,h2,h3⟩:=t.o j p (by omega) hp;simp only [if_neg A];refine ⟨?_,?_,(h3.below K2.o).grown K (fun e=>?_)⟩
          · rw [GE (by omega),GE (by omega)];exact h1
          · rw [GE (by omega),GE (by omega)];exact h2
          · have h4:f j=G:=Gi e;have h5:=h3.lt.1;omega
      · intro i j ai hj;simp only;by_cases A:j=k
        · rw [if_pos A,if_neg (by omega)];have:=D.o i (by omega);omega
        · rw [if_neg A,if_neg (by omega)];exact U.o i j ai (by omega)
      · intro i hi';simp only;by_cases a1:i=k
        · rw [if_pos a1];omega
        · rw [if_neg a1];have:=D.o i (by omega);have:=K2.o.size;omega
     case measure=>simp [intOf];omega
  · go_wp2;go_ret;rw [R.o];have y:∀{i:Nat} {p:af},B[i]?=some p→i<k:=fun hp=>by have:=(F'.1 hp).1;rw [F.o] at this;omega
    have ae:k=len:=by omega
    have C:=U.o;have d:=D.o;rw [ae] at C d;exact ⟨rfl,⟨f,⟨F.o,⟨xs,ho,fun i p hp=>⟨(t.o i p (y hp) hp).1,(t.o i p (y hp) hp).2.1⟩⟩,fun i p hp=>(t.o i p (y hp) hp).2.2.mono (by omega),C,⟨J,d⟩,a9.o⟩⟩,J,HB.o⟩

theorem iN {base' size:Nat} {v:Value} (h:w.ownsRow base T size v n xs) (hb:base'≤base):w.ownsRow base' T size v n xs:=by
 refine ⟨h.1,?_⟩;rcases h.2 with h2 | ⟨g,e,d,hv,hg,r⟩
 · exact Or.inl h2
 · exact Or.inr ⟨g,e,d,hv,Gq hb hg,r⟩
theorem d4.mono {B:List af} {es:Nat→Nat} (h:d4 lo hi w g n B es) (h1:lo'≤lo) (h2:hi≤hi'):d4 lo' hi' w g n B es:=by
 obtain ⟨xs,d,r2⟩:=h.row;exact ⟨h.len,⟨xs,iN d h1,r2⟩,fun i p hp=>(h.ents i p hp).mono h1,h.up,⟨by have:=h.top.1;omega,fun i hi'=>by have:=h.top.2 i hi';omega⟩,h.wfs⟩
theorem d4.runsIn {B:List af} {m:Nat→Nat} (h:d4 lo hi w g n B m):aw lo w (pT g) n n B:=by
 obtain ⟨xs,d,r2⟩:=h.row;have f:=cy d;have hl:=h.len;refine ⟨h.len,f.1,f.2,(fun e=>by cases e),?_,?_⟩
 · rintro x e _;cases e;exact ⟨(d.lt g rfl).2,rfl,(d.lt g rfl).1⟩
 · rintro x e i hi;cases e;have hp:=j' hi;have hO:=h.ents i _ hp;refine ⟨h.wfs _ (GQ hi),_,_,_,?_,?_,hO.entsAt,fun x e _=>by cases e;exact hO.lt.1⟩
   · simp only [Gp];exact (d.cellAt _ (by omega)).trans (r2 i _ hp).1
   · simp only [Gp];exact (d.cellAt _ (by omega)).trans (r2 i _ hp).2
def mU (Z:Nat) (w:World) (xs:List Value) (V:List (List af)) (k:Nat) (gs bs:Nat→Nat) (es:Nat→Nat→Nat):Prop :=
 bs 0=Z∧bs k≤w.heap.size∧(∀i j,i≤j→j≤k→bs i≤bs j)∧∀j,j<k→∃B:List af,V[j]?=some B∧xs[j]?=some (sL (gs j) B.length B.length)∧d4 (bs j) (bs (j+1)) w (gs j) B.length B (es j)
theorem mU.hasR {f:Nat→Nat→Nat} (h:mU Z w xs V k gs bs f):Bk Z w xs V k:=fun j e=>by
 obtain ⟨B,h1,h2,h3⟩:=h.2.2.2 j e
 have d:=h.2.2.1 0 j (by omega) (by omega)
 rw [h.1] at d
 exact ⟨_,_,B,h1,h2,h3.runsIn.mono d⟩
theorem mU.keepO {es:Nat→Nat→Nat} (h:mU Z w xs V k gs bs es) (d:dy lo' hi' w w') (hd:hi'≤Z):mU Z w' xs V k gs bs es :=
 ⟨h.1,Gq h.2.1 d.size,h.2.2.1,fun j e=>by
  obtain ⟨B,h1,h2,h3⟩:=h.2.2.2 j e
  have f:=h.2.2.1 0 j (by omega) (by omega)
  rw [h.1] at f
  exact ⟨B,h1,h2,h3.keepO d (Or.inr (by omega))⟩⟩
theorem mU.below {es:Nat→Nat→Nat} (h:mU Z w xs V k gs bs es) (hb:Bl w w'):mU Z w' xs V k gs bs es :=
 ⟨h.1,Gq h.2.1 hb.size,h.2.2.1,fun j d=>by
  obtain ⟨B,h1,h2,h3⟩:=h.2.2.2 j d
  exact ⟨B,h1,h2,h3.below hb⟩⟩
theorem nW {s:Nat} {r w2:World} {x:Nat} {B:List af} {D:Nat→Nat→Nat} {e1:Nat→Nat} {u:Value} (h:mU Z w xs V k gs bs D) (hl:xs.length=3*1) (hb:Bl w r) (hw:w2=r.setCell ⟨vb,k,none⟩ u) (K:u=sL x n n) (E:vb<Z) (hR:d4 s r.heap.size r x n B e1) (Q:w.heap.size≤s) (hV:V[k]?=some B) (hk:k<3:=by omega) :
 ∃y A es',mU Z w2 (xs.set k u) V (k+1) y A es':=by
 have o:dy vb (vb+1) r w2:=by rw [hw];exact ⟨rfl,rfl,rfl,by simp [World.setCell],fun q _ hq=>Below.heap_setCell _ _ _ _ (fun e=>by have X:q=vb:=e;omega)⟩
 have hsz:=o.size;have N:=h.1;have L:=h.2.1;have d:=h.2.2.1;have J:=hb.size;have F:=d 0 k (by omega) (by omega);have hn:=hR.len;subst hn;refine ⟨fun i=>if i=k then x else gs i,fun i=>if i≤k then bs i else r.heap.size,fun i=>if i=k then e1 else D i,by simp [N],?_,?_,?_⟩
 · simp only [if_neg (show ¬k+1≤k by omega)];exact hsz
 · intro i j t R;simp only;by_cases f:j≤k
   · rw [if_pos f,if_pos (by omega)];exact d i j t f
   · rw [if_neg f];by_cases m:i≤k
     · rw [if_pos m];have:=d i k m (by omega);omega
     · rw [if_neg m];exact Gg _
 · intro j R;by_cases e:j=k
   · subst e;refine ⟨B,hV,?_,?_⟩
     · rw [GV (by omega),K];simp
     · simp only [if_true,Gg,if_neg (show ¬j+1≤j by omega)];exact (hR.mono (by omega) (Gg _)).keepO o (Or.inr (by omega))
   · obtain ⟨C,I,H,U⟩:=h.2.2.2 j (by omega);have O:=d 0 j (by omega) (by omega);refine ⟨C,I,?_,?_⟩
     · simp only [if_neg e];rw [GE (by omega)];exact H
     · simp only [if_neg e,if_pos (show j≤k by omega),if_pos (show j+1≤k by omega)];exact (U.below hb).keepO o (Or.inr (by omega))
theorem Cv {es:Nat→Nat→Nat} (h:w.ownsRow base 61 1 (sL vb 3 3) 3 xs) (hb:lo≤base) (m:lo≤Z) (e:vb<Z) (hV:V.length=3) (h0:mU Z w xs V 3 gs bs es):f6 lo w.heap.size w vb 3 V gs bs es:=by
 refine ⟨hV,⟨xs,iN h hb,fun i B hB=>?_⟩,fun i B hB=>?_,?_,h0.2.2.1,h0.2.1⟩
 · have hi:=(F'.1 hB).1;obtain ⟨C,d,f,_⟩:=h0.2.2.2 i (by omega);rw [hB] at d;cases d;exact f
 · have hi:=(F'.1 hB).1;obtain ⟨C,d,_,o⟩:=h0.2.2.2 i (by omega);rw [hB] at d;cases d;exact o
 · rw [h0.1];exact ⟨m,e⟩
theorem mu {base T n g:Nat}:∀(cs:List Value) (o:Nat) (w:World) (xs:List Value),w.ownsRow base T 1 (sL g n n) n xs→∃d,(w.setCells g o cs).ownsRow base T 1 (sL g n n) n d∧(∀i,i<cs.length→o+i<n→d[o+i]?=cs[i]?)∧∀i,i<o→d[i]?=xs[i]?
 | [],_,_,xs,h=>⟨xs,h,(fun i hi=>absurd hi (G2 _)),fun _ _=>rfl⟩
 | c :: cs,o,w,xs,h=>by
  have h1:=(h.stored o c).1
  obtain ⟨d,y1,m,e⟩:=mu cs (o+1) _ _ h1
  have f:=h.1
  refine ⟨d,y1,fun i hi hn=>?_,fun i hi=>?_⟩
  · cases i with
    | zero=>rw [Hl,e o (by omega),GV (by omega)];rfl
    | succ i =>
     have:=m i (by simpa using hi) (by omega)
     rw [show o+(i+1)=o+1+i by omega,this]
     rfl
  · rw [e i (by omega),GE (by omega)]
theorem Ax {S:List Int} (h:w.ownsRow base 3 1 (sL g n n) n xs) (hS:S.length=n):mT base (w.setCells g 0 (S.map iT)) g n S:=by
 obtain ⟨d,y1,f,_⟩:=mu (S.map iT) 0 w xs h;refine ⟨hS,?_⟩;have e:d=S.map iT:=by
  apply List.ext_getElem?;intro i;by_cases hi:i<n
  · have:=f i (by rw [Hd];omega) (by omega);rw [Gp] at this;exact this
  · rw [Ig (by have:=y1.1;omega),Ig (by rw [Hd];omega)]
 rw [e] at y1;exact y1
theorem Ef {r:Array Oper} {o:Oper} {a:Act} {K:Act→World→Prop} {Q:Exit→Act→World→Prop} {E:Prop} {B:Nat} (hg:o.guard=none) (hop:o.op=Op.makeSlice 29 (.const (iT 3)) (.const (iT 3))) (hb:B≤w.heap.size) (hK:∀w' xs,w'.ownsRow B 61 1 (sL (w.heap.size) 3 3) 3 xs→w.grownBy w' none→K (a.put o.dst (sL (w.heap.size) 3 3)) w'):if Region.wanted o (yielded r a.tmps)=true then Oper.wp Tryz.prog o a w K Q else E:=by
 obtain ⟨i1,m,d,f,e⟩:=info_parts Tryz.infoRunL;exact jI hg _ _ 29 hop B 61 i1 _ 1 Tryz.underlying29 m d f .i64 .i64 _ _ 3 rfl rfl (by simp) (by simp) (by rw [e];omega) (by unfold maxLen;omega) hb (fun w' h1 h2=>hK w' _ h1 h2)
theorem Eg {m:Array Oper} {o:Oper} {a:Act} {K:Act→World→Prop} {Q:Exit→Act→World→Prop} {E:Prop} {B:Nat} (hg:o.guard=none) (hop:o.op=Op.makeSlice 24 (.tmp 14) (.tmp 14)) (hn:n≤1048576) (hv:a.eval (.tmp 14)=iT (n:Int)) (hb:B≤w.heap.size) (hK:∀w' xs,w'.ownsRow B 3 1 (sL (w.heap.size) n n) n xs→w.grownBy w' none→K (a.put o.dst (sL (w.heap.size) n n)) w'):if Region.wanted o (yielded m a.tmps)=true then Oper.wp Tryz.prog o a w K Q else E:=by
 obtain ⟨i2,r,e,f,d⟩:=info_parts Tryz.infoInt;exact jI hg _ _ 24 hop B 3 i2 _ 1 Tryz.underlying24 r e f .i64 .i64 _ _ n hv hv rfl rfl (by rw [d];omega) (by unfold maxLen;omega) hb (fun w' h1 h2=>hK w' _ h1 h2)
structure f5 (B nm nk:Nat) (M:List ac) (W w:World) (oe ov os op:Option Nat):Prop where
 low:Below B W w
 e:∀b,oe=some b→ah w B b nm nm M
 v:∀b,ov=some b→∃xs,w.ownsRow B 61 1 (sL b 3 3) 3 xs
 s:∀b,os=some b→∃xs,w.ownsRow B 3 1 (sL b nk nk) nk xs
 p:∀b,op=some b→B≤b∧aq w b 31 4∧ay w b (iT 0) nZ nZ nZ
theorem f5.keep {B:Nat} (h:f5 B nm nk M W w oe ov os op) (hs:B≤w.heap.size) (hb:Bl w w'):f5 B nm nk M W w' oe ov os op :=
 ⟨h.low.trans (hb.mono hs),fun b e=>(h.e b e).below hb,fun b e=>by obtain ⟨xs,hx⟩:=h.v b e;exact ⟨xs,gJ hx hb⟩,fun b e=>by obtain ⟨xs,hx⟩:=h.s b e;exact ⟨xs,gJ hx hb⟩,fun b e=>⟨(h.p b e).1,(h.p b e).2.1.below hb,(h.p b e).2.2.keep hb⟩⟩
theorem f5.addE {B:Nat} (h:f5 B nm nk M W w oe ov os op) (hs:B≤w.heap.size) (hE:ah w' B b nm nm M) (hb:Bl w w'):f5 B nm nk M W w' (some b) ov os op :=
 ⟨(h.keep hs hb).low,fun c e=>by cases e;exact hE,(h.keep hs hb).v,(h.keep hs hb).s,(h.keep hs hb).p⟩
theorem f5.addV {B:Nat} (h:f5 B nm nk M W w oe ov os op) (hs:B≤w.heap.size) (hE:w'.ownsRow B 61 1 (sL b 3 3) 3 xs) (hb:w.grownBy w' none):f5 B nm nk M W w' oe (some b) os op:=by
 have k:=h.keep hs ((Below.refl _ _).grown hb (Gg _) (by simp));exact ⟨k.low,k.e,fun c e=>by cases e;exact ⟨_,hE⟩,k.s,k.p⟩
theorem f5.addS {B:Nat} (h:f5 B nm nk M W w oe ov os op) (hs:B≤w.heap.size) (hE:w'.ownsRow B 3 1 (sL b nk nk) nk xs) (hb:w.grownBy w' none):f5 B nm nk M W w' oe ov (some b) op:=by
 have k:=h.keep hs ((Below.refl _ _).grown hb (Gg _) (by simp));exact ⟨k.low,k.e,k.v,fun c e=>by cases e;exact ⟨_,hE⟩,k.p⟩
theorem f5.addP {B:Nat} (h:f5 B nm nk M W w oe ov os op) (hs:B≤w.heap.size):f5 B nm nk M W (w.alloc (.cells #[iT 0,nZ,nZ,nZ] 31)) oe ov os (some w.heap.size):=by
 have k:=h.keep hs ((Below.refl _ _).alloc (Gg _) (.cells #[iT 0,nZ,nZ,nZ] 31));exact ⟨k.low,k.e,k.v,k.s,fun c e=>by cases e;exact ⟨hs,⟨#[iT 0,nZ,nZ,nZ],by unfold World.alloc;exact Hm,rfl⟩,ay.new _ _ _ _ _ _⟩⟩
theorem f5.fin {B eb sb P:Nat} (h:f5 B nm nk M W w (some eb) (some vb) (some sb) (some P)) (q:Int):∃(xs u:List Value),ay ((((w.setCell ⟨P,0,none⟩ (iT q)).setCell ⟨P,1,none⟩ (sL eb nm nm)).setCell ⟨P,2,none⟩ (sL vb 3 3)).setCell ⟨P,3,none⟩ (sL sb nk nk)) P (iT q) (sL eb nm nm) (sL vb 3 3) (sL sb nk nk)∧ah ((((w.setCell ⟨P,0,none⟩ (iT q)).setCell ⟨P,1,none⟩ (sL eb nm nm)).setCell ⟨P,2,none⟩ (sL vb 3 3)).setCell ⟨P,3,none⟩ (sL sb nk nk)) B eb nm nm M∧((((w.setCell ⟨P,0,none⟩ (iT q)).setCell ⟨P,1,none⟩ (sL eb nm nm)).setCell ⟨P,2,none⟩ (sL vb 3 3)).setCell ⟨P,3,none⟩ (sL sb nk nk)).ownsRow B 61 1 (sL vb 3 3) 3 xs∧((((w.setCell ⟨P,0,none⟩ (iT q)).setCell ⟨P,1,none⟩ (sL eb nm nm)).setCell ⟨P,2,none⟩ (sL vb 3 3)).setCell ⟨P,3,none⟩ (sL sb nk nk)).ownsRow B 3 1 (sL sb nk nk) nk u∧(vb≠P∧sb≠P∧eb≠P∧vb≠eb∧vb≠sb∧sb≠eb)∧B≤P∧Below B W ((((w.setCell ⟨P,0,none⟩ (iT q)).setCell ⟨P,1,none⟩ (sL eb nm nm)).setCell ⟨P,2,none⟩ (sL vb 3 3)).setCell ⟨P,3,none⟩ (sL sb nk nk)):=by
 obtain ⟨x,r,D⟩:=h.p P rfl;obtain ⟨xs,hv⟩:=h.v vb rfl;obtain ⟨u,hs⟩:=h.s sb rfl;have hE:=h.e eb rfl;have t:=eL hv;have o:=eL hs;have m:=eL hE.owns;have f:vb≠P:=fun e=>by subst e;exact absurd (t.kind r) (by decide)
 have n2:sb≠P:=fun e=>by subst e;exact absurd (o.kind r) (by decide)
 have d:eb≠P:=fun e=>by subst e;exact absurd (m.kind r) (by decide)
 have C:vb≠eb:=fun e=>by subst e;exact absurd (t.kind m) (by decide)
 have A:vb≠sb:=fun e=>by subst e;exact absurd (t.kind o) (by decide)
 have y:sb≠eb:=fun e=>by subst e;exact absurd (o.kind m) (by decide)
 exact ⟨xs,u,(((D.set0 _).set1 _).set2 _).set3 _,(((hE.setCell (p:=⟨P,0,none⟩) d.symm _).setCell (p:=⟨P,1,none⟩) d.symm _).setCell (p:=⟨P,2,none⟩) d.symm _).setCell (p:=⟨P,3,none⟩) d.symm _,cV (cV (cV (cV hv f 0 _) f 1 _) f 2 _) f 3 _,cV (cV (cV (cV hs n2 0 _) n2 1 _) n2 2 _) n2 3 _,⟨f,n2,d,C,A,y⟩,x,lD h.low x _ _ _ _⟩
def FS (q:Int) (nm nk:Nat) (M:List ac) (V:List (List af)) (S:List Int) (w:World) (e:Ending) (w':World):Prop :=
 ∃(eb vb sb:Nat) (gs bs:Nat→Nat) (es:Nat→Nat→Nat),e=.returned (.agg #[iT q,sL eb nm nm,sL vb 3 3,sL sb nk nk])∧bn w.heap.size w' (pT eb) nm nm (pT vb) 3 3 (pT sb) nk nk M V S∧fe w.heap.size w'.heap.size w' eb nm vb 3 sb nk M V S gs bs es∧Bl w w'
theorem DI (lo:Nat) (q:Int) (am ak:Option Addr) (nm cm nk ck:Nat) (a0 a1 a2:Option Addr) (F c0 H c1 n2 c2:Nat) (M:List ac) (A B C:List af) (S:List Int) (w:World) (hM:aj w am nm cm M) (hS:aR lo w ak nk ck S) (h0:aw lo w a0 F c0 A) (h1:aw lo w a1 H c1 B) (h2:aw lo w a2 n2 c2 C)
 (bm:nm≤1048576) (bk:nk≤1048576) (em:rl M) (b0:ki A) (b1:ki B) (b2:ki C) (e0:iF A) (e1:iF B) (e2:iF C) :
 Calls Tryz.prog 92 #[.agg #[iT q,.slice am nm cm,.slice a0 F c0,.slice a1 H c1,.slice a2 n2 c2,.slice ak nk ck]] w (FS q nm nk M [A,B,C] S w):=by
 obtain ⟨X,hX⟩:=aF w.heap.size;obtain ⟨W0,Q⟩:=aF ((w.alloc (.cells #[iT q,.slice am nm cm,.slice a0 F c0,.slice a1 H c1,.slice a2 n2 c2,.slice ak nk ck] 82)).alloc (.cells #[iT 0,nZ,nZ,nZ] 31));have kW:Bl w W0:=by rw [Q];exact bZ.alloc (by simp) _
 have x0:W0.cell? ⟨X,0,none⟩=some (iT q):=by rw [Q,hX];simp
 have x1:W0.cell? ⟨X,1,none⟩=some (.slice am nm cm):=by rw [Q,hX];simp
 have x2:W0.cell? ⟨X,2,none⟩=some (.slice a0 F c0):=by rw [Q,hX];simp
 have x3:W0.cell? ⟨X,3,none⟩=some (.slice a1 H c1):=by rw [Q,hX];simp
 have x4:W0.cell? ⟨X,4,none⟩=some (.slice a2 n2 c2):=by rw [Q,hX];simp
 have x5:W0.cell? ⟨X,5,none⟩=some (.slice ak nk ck):=by rw [Q,hX];simp
 have br:ay W0 (X+1) (iT 0) nZ nZ nZ:=by
  have:=ay.new (w.alloc (.cells #[iT q,.slice am nm cm,.slice a0 F c0,.slice a1 H c1,.slice a2 n2 c2,.slice ak nk ck] 82)) 31 (iT 0) nZ nZ nZ;rw [Gu] at this;rw [Q,hX];exact this
 have hsz:W0.heap.size=X+1+1:=by rw [Q,hX];simp
 have BR:Eq (ay W0 (X+1) (iT 0) nZ nZ nZ):=br;have aP:Eq (X=w.heap.size):=hX;have ba:Eq (W0.heap.size=X+1+1):=hsz;have KW:Eq (Bl w W0):=kW;have HS:=az hS;have CE:Eq (∀w',Bl W0 w'→Calls Tryz.prog 149 #[.slice am nm cm] w' fun e D=>∃b:Nat,e=.returned (sL b nm nm)∧w'.heap.size≤b∧ah D W0.heap.size b nm nm M∧Bl w' D):=fun w' k=>(iq am nm cm M w' ((hM.keep kW).keep k) bm em).mono (fun e D h=>⟨_,h.1,Gg _,h.2.1.mono k.size,h.2.2.2⟩)
 have bv:Eq (∀w',Bl W0 w'→Calls Tryz.prog 150 #[.slice a0 F c0] w' fun e D=>∃b:Nat,e=.returned (sL b F F)∧(∃e1,d4 w'.heap.size D.heap.size D b F A e1)∧Bl w' D):=fun w' k=>(qY lo a0 F c0 A w' ((h0.keep kW).keep k) b0 e0).mono (fun e D h=>⟨_,h.1,h.2.1,h.2.2.2⟩)
 have bL:Eq (∀w',Bl W0 w'→Calls Tryz.prog 150 #[.slice a1 H c1] w' fun e D=>∃b:Nat,e=.returned (sL b H H)∧(∃e1,d4 w'.heap.size D.heap.size D b H B e1)∧Bl w' D):=fun w' k=>(qY lo a1 H c1 B w' ((h1.keep kW).keep k) b1 e1).mono (fun e D h=>⟨_,h.1,h.2.1,h.2.2.2⟩)
 have bI:Eq (∀w',Bl W0 w'→Calls Tryz.prog 150 #[.slice a2 n2 c2] w' fun e D=>∃b:Nat,e=.returned (sL b n2 n2)∧(∃e1,d4 w'.heap.size D.heap.size D b n2 C e1)∧Bl w' D):=fun w' k=>(qY lo a2 n2 c2 C w' ((h2.keep kW).keep k) b2 e2).mono (fun e D h=>⟨_,h.1,h.2.1,h.2.2.2⟩)
 have O:Bl W0 W0.drew:=(Below.refl _ W0).drew;have y:Eq (∀w',Bl W0 w'→(w'.cell? ⟨X,0,none⟩=some (iT q)∧w'.cell? ⟨X,1,none⟩=some (.slice am nm cm)∧w'.cell? ⟨X,5,none⟩=some (.slice ak nk ck)∧X<w'.heap.size)):=fun w' kk=>⟨cell_later kk x0,cell_later kk x1,cell_later kk x5,Gf _ _ (cell_later kk x0)⟩
 obtain ⟨i1,c4,bT,bQ,bU⟩:=info_parts Tryz.infoRunL;obtain ⟨i2,bX,bR,bO,bN⟩:=info_parts Tryz.infoInt;clear br kW hM hS h0 h1 h2 b0 b1 b2 e0 e1 e2 em hsz;go_enter Tryz.func92,Tryz.ntmps92
 go_upto_region 1 with fail
 rw [← hX,← Q];clear hX Q;go_cut [3] (fun s3 wx=>∃(P eb vb sb:Nat) (xs ys:List Value),s3=.pointer (pT P)∧ay wx P (iT q) (sL eb nm nm) (sL vb 3 3) (sL sb nk nk)∧ah wx W0.heap.size eb nm nm M∧wx.ownsRow W0.heap.size 61 1 (sL vb 3 3) 3 xs∧wx.ownsRow W0.heap.size 3 1 (sL sb nk nk) nk ys∧(vb≠P∧sb≠P∧eb≠P∧vb≠eb∧vb≠sb∧sb≠eb)∧W0.heap.size≤P∧Bl W0 wx)
 case first =>
  refine eJ y O fun s=>?_
  have d:f5 W0.heap.size nm nk M W0 W0.drew none none none none:=⟨O,(fun _ e=>by cases e),(fun _ e=>by cases e),(fun _ e=>by cases e),(fun _ e=>by cases e)⟩;generalize W0.drew=wc at O d s ⊢;refine aO 0 4 s ?_;refine aO 6 3 s ?_;refine wpAnyH_ready (rs:=[4,5,9,11]) (by kernel_rfl) (by simp) (cW rfl (fun K hK=>?_) (cW rfl (fun K hK=>?_) (cW rfl (fun K hK=>?_) (cW rfl (fun K hK=>?_) AllReadyH.nil))));all_goals first
   | (refine Ef rfl rfl d.low.size fun wc _ m r=>?_;have d:=d.addV d.low.size m r;clear m r;refine hK.o _ _ (y.o _ d.low) (fun s=>?_);clear hK K;try go_frame)
   | (refine Eg rfl rfl bk rfl d.low.size fun wc _ m r=>?_;have d:=d.addS d.low.size m r;clear m r;refine hK.o _ _ (y.o _ d.low) (fun s=>?_);clear hK K;try go_frame)
   | (go_simp;refine (CE.o _ d.low).mono ?_;rintro e wc ⟨eb,rfl,_,hE,be⟩;have d:=d.addE d.low.size hE be;clear be hE;go_wp2_with fail;refine hK.o _ _ (y.o _ d.low) (fun s=>?_);clear hK K;try go_frame)
   | (go_simp;have d:=d.addP d.low.size;refine hK.o _ _ (y.o _ d.low) (fun s=>?_);clear hK K;generalize wc.alloc (.cells #[iT 0,nZ,nZ,nZ] 31)=wc at d s ⊢;try go_frame)
  all_goals first
   | refine wpAnyH_ready (rs:=[4,5,9]) (by decide +kernel) (by simp) (cW rfl (fun K hK=>?_) (cW rfl (fun K hK=>?_) (cW rfl (fun K hK=>?_) AllReadyH.nil)))
   | refine wpAnyH_ready (rs:=[4,5,11]) (by decide +kernel) (by simp) (cW rfl (fun K hK=>?_) (cW rfl (fun K hK=>?_) (cW rfl (fun K hK=>?_) AllReadyH.nil)))
   | refine wpAnyH_ready (rs:=[4,9,11]) (by decide +kernel) (by simp) (cW rfl (fun K hK=>?_) (cW rfl (fun K hK=>?_) (cW rfl (fun K hK=>?_) AllReadyH.nil)))
   | refine wpAnyH_ready (rs:=[5,9,11]) (by decide +kernel) (by simp) (cW rfl (fun K hK=>?_) (cW rfl (fun K hK=>?_) (cW rfl (fun K hK=>?_) AllReadyH.nil)))
  all_goals first
   | (refine Ef rfl rfl d.low.size fun wc _ m r=>?_;have d:=d.addV d.low.size m r;clear m r;refine hK.o _ _ (y.o _ d.low) (fun s=>?_);clear hK K;try go_frame)
   | (refine Eg rfl rfl bk rfl d.low.size fun wc _ m r=>?_;have d:=d.addS d.low.size m r;clear m r;refine hK.o _ _ (y.o _ d.low) (fun s=>?_);clear hK K;try go_frame)
   | (go_simp;refine (CE.o _ d.low).mono ?_;rintro e wc ⟨eb,rfl,_,hE,be⟩;have d:=d.addE d.low.size hE be;clear be hE;go_wp2_with fail;refine hK.o _ _ (y.o _ d.low) (fun s=>?_);clear hK K;try go_frame)
   | (go_simp;have d:=d.addP d.low.size;refine hK.o _ _ (y.o _ d.low) (fun s=>?_);clear hK K;generalize wc.alloc (.cells #[iT 0,nZ,nZ,nZ] 31)=wc at d s ⊢;try go_frame)
  all_goals first
   | refine wpAnyH_ready (rs:=[4,5]) (by decide +kernel) (by simp) (cW rfl (fun K hK=>?_) (cW rfl (fun K hK=>?_) AllReadyH.nil))
   | refine wpAnyH_ready (rs:=[4,9]) (by decide +kernel) (by simp) (cW rfl (fun K hK=>?_) (cW rfl (fun K hK=>?_) AllReadyH.nil))
   | refine wpAnyH_ready (rs:=[4,11]) (by decide +kernel) (by simp) (cW rfl (fun K hK=>?_) (cW rfl (fun K hK=>?_) AllReadyH.nil))
   | refine wpAnyH_ready (rs:=[5,9]) (by decide +kernel) (by simp) (cW rfl (fun K hK=>?_) (cW rfl (fun K hK=>?_) AllReadyH.nil))
   | refine wpAnyH_ready (rs:=[5,11]) (by decide +kernel) (by simp) (cW rfl (fun K hK=>?_) (cW rfl (fun K hK=>?_) AllReadyH.nil))
   | refine wpAnyH_ready (rs:=[9,11]) (by decide +kernel) (by simp) (cW rfl (fun K hK=>?_) (cW rfl (fun K hK=>?_) AllReadyH.nil))
  all_goals first
   | (refine Ef rfl rfl d.low.size fun wc _ m r=>?_;have d:=d.addV d.low.size m r;clear m r;refine hK.o _ _ (y.o _ d.low) (fun s=>?_);clear hK K;try go_frame)
   | (refine Eg rfl rfl bk rfl d.low.size fun wc _ m r=>?_;have d:=d.addS d.low.size m r;clear m r;refine hK.o _ _ (y.o _ d.low) (fun s=>?_);clear hK K;try go_frame)
   | (go_simp;refine (CE.o _ d.low).mono ?_;rintro e wc ⟨eb,rfl,_,hE,be⟩;have d:=d.addE d.low.size hE be;clear be hE;go_wp2_with fail;refine hK.o _ _ (y.o _ d.low) (fun s=>?_);clear hK K;try go_frame)
   | (go_simp;have d:=d.addP d.low.size;refine hK.o _ _ (y.o _ d.low) (fun s=>?_);clear hK K;generalize wc.alloc (.cells #[iT 0,nZ,nZ,nZ] 31)=wc at d s ⊢;try go_frame)
  all_goals first
   | refine wpAnyH_ready (rs:=[4]) (by decide +kernel) (by simp) (cW rfl (fun K hK=>?_) AllReadyH.nil)
   | refine wpAnyH_ready (rs:=[5]) (by decide +kernel) (by simp) (cW rfl (fun K hK=>?_) AllReadyH.nil)
   | refine wpAnyH_ready (rs:=[9]) (by decide +kernel) (by simp) (cW rfl (fun K hK=>?_) AllReadyH.nil)
   | (refine aO 10 1 s ?_;refine wpAnyH_ready (rs:=[11]) (by kernel_rfl) (by simp) (cW rfl (fun K hK=>?_) AllReadyH.nil))
  all_goals first
   | (refine Ef rfl rfl d.low.size fun wc _ m r=>?_;have d:=d.addV d.low.size m r;clear m r;refine hK.o _ _ (y.o _ d.low) (fun s=>?_);clear hK K;try go_frame)
   | (refine Eg rfl rfl bk rfl d.low.size fun wc _ m r=>?_;have d:=d.addS d.low.size m r;clear m r;refine hK.o _ _ (y.o _ d.low) (fun s=>?_);clear hK K;try go_frame)
   | (go_simp;refine (CE.o _ d.low).mono ?_;rintro e wc ⟨eb,rfl,_,hE,be⟩;have d:=d.addE d.low.size hE be;clear be hE;go_wp2_with fail;refine hK.o _ _ (y.o _ d.low) (fun s=>?_);clear hK K;try go_frame)
   | (go_simp;have d:=d.addP d.low.size;refine hK.o _ _ (y.o _ d.low) (fun s=>?_);clear hK K;generalize wc.alloc (.cells #[iT 0,nZ,nZ,nZ] 31)=wc at d s ⊢;try go_frame)
  all_goals first
   | refine wpAnyH_ready (rs:=[12]) (by decide +kernel) (by simp) (cW rfl (fun K hK=>?_) AllReadyH.nil)
   | (refine aO 10 1 s ?_;refine wpAnyH_ready (rs:=[12]) (by kernel_rfl) (by simp) (cW rfl (fun K hK=>?_) AllReadyH.nil))
  all_goals (obtain ⟨xs,ys,hF⟩:=d.fin q;obtain ⟨bz,_,hp⟩:=d.p _ rfl;have c0:=hp.c0;have c1:=hp.c1;have c2:=hp.c2;have c3:=hp.c3;have cz:=hp.fz;go_simp;refine hK.o _ _ (y.o _ hF.2.2.2.2.2.2) (fun s=>?_);clear hK K;(try go_frame);refine dN ?_;go_wp2;go_meet;exact ⟨_,_,_,_,xs,ys,rfl,hF⟩)
 case rest =>
  obtain ⟨P,eb,vb,sb,xs,ys,rfl,f,hE,hrow,hs,E,bz,L⟩:=hcut;have bG:Eq (vb≠P∧sb≠P∧eb≠P∧vb≠eb∧vb≠sb∧sb≠eb):=E;have aQ:W0.heap.size≤vb:=(hrow.lt vb rfl).1;have b4:=cell_later L x2;have bE:=cell_later L x3;have bK:=cell_later L x4;have za:=Gf _ _ b4;simp only at za;obtain ⟨Z,hZ⟩:=aF wc.heap.size;have ad:vb<Z:=by rw [hZ];exact (hrow.lt vb rfl).2
  have aT:sb<Z:=by rw [hZ];exact (hs.lt sb rfl).2
  have bD:eb<Z:=by rw [hZ];exact hE.lt.2
  have ch:W0.heap.size≤Z:=by rw [hZ];exact L.size
  have b6:Z≤wc.heap.size:=by omega
  have ai:Eq (ay wc P (iT q) (sL eb nm nm) (sL vb 3 3) (sL sb nk nk)∧ah wc W0.heap.size eb nm nm M∧wc.ownsRow W0.heap.size 61 1 (sL vb 3 3) 3 xs∧wc.ownsRow W0.heap.size 3 1 (sL sb nk nk) nk ys∧Bl W0 wc∧Z≤wc.heap.size):=⟨f,hE,hrow,hs,L,b6⟩;clear O y CE f hrow L hE hs E hZ b6;go_wp2;go_loopw [19] (fun iv wr=>∃(k:Nat) (xs:List Value) (gs bs:Nat→Nat) (es:Nat→Nat→Nat),k≤3∧iv=iT k∧ay wr P (iT q) (sL eb nm nm) (sL vb 3 3) (sL sb nk nk)∧ah wr W0.heap.size eb nm nm M∧wr.ownsRow W0.heap.size 61 1 (sL vb 3 3) 3 xs∧wr.ownsRow W0.heap.size 3 1 (sL sb nk nk) nk ys∧Bl W0 wr∧mU Z wr xs [A,B,C] k gs bs es∧Z≤wr.heap.size) (fun iv _=>3 - (intOf iv).toNat)
  case atStart=>exact ⟨0,xs,fun _=>0,fun _=>Z,fun _ _=>0,by omega,rfl,ai.o.1,ai.o.2.1,ai.o.2.2.1,ai.o.2.2.2.1,ai.o.2.2.2.2.1,⟨rfl,ai.o.2.2.2.2.2,fun _ _ _ _=>Gg _,fun j hj=>absurd hj (G2 _)⟩,ai.o.2.2.2.2.2⟩
  case round =>
   obtain ⟨k,xs,gs,bs,es,hk,rfl,f,hE,hrow,hs,L,aI,b9⟩:=hrel;have E:=bG.o;have aB:Eq (mU Z wr xs [A,B,C] k gs bs es):=aI;have N:Eq (Bl W0 wr):=L;have HZ:Eq (Z≤wr.heap.size):=b9;clear aI b4 bE bK za b9;have O:Bl wr wr.drew:=(Below.refl _ wr).drew;have Y:Eq (∀w',Bl wr w'→(w'.cell? ⟨P,2,none⟩=some (sL vb 3 3)∧P<w'.heap.size∧vb<w'.heap.size)):=fun w' kk=>⟨cell_later kk f.c2,E' f.lt kk.size,E' (hrow.lt vb rfl).2 kk.size⟩
   have ag:Eq (∀w' o u,Bl wr w'→((w'.setCell ⟨vb,o,none⟩ u).cell? ⟨P,2,none⟩=some (sL vb 3 3)∧P<(w'.setCell ⟨vb,o,none⟩ u).heap.size∧vb<(w'.setCell ⟨vb,o,none⟩ u).heap.size)):=fun w' o u kk=>⟨(an u (fun e=>E.1 e.1.symm)).trans (cell_later kk f.c2),by simpa [World.setCell] using E' f.lt kk.size,by simpa [World.setCell] using E' (hrow.lt vb rfl).2 kk.size⟩
   have aU:k=0∨k=1∨k=2∨k=3:=by omega
   rcases aU with rfl | rfl | rfl | rfl
   · have aY:=fun w=>De w a0 a1 a2 F c0 H c1 n2 c2
     go_wp2_with fail
     refine eJ Y O fun s=>?_
     refine aO 0 4 s ?_;refine aS 4 fun K hK=>?_
     go_simp;refine (bv.o _ (N.o.trans (O.mono N.o.size))).mono ?_;rintro e w1 ⟨I,rfl,J,br⟩;have k1:Bl wr w1:=O.trans (br.mono O.size);obtain ⟨e1,J⟩:=J;have a6:Eq (d4 wr.drew.heap.size w1.heap.size w1 I F A e1):=J;have aC:wr.heap.size≤wr.drew.heap.size:=O.size;clear br J;go_wp2_with fail
     refine hK.o _ _ (Y.o _ k1) (fun s=>?_);clear hK K;(try go_frame);refine aO 5 1 s ?_;refine aS 6 fun K hK=>?_
     have t:=gJ hrow k1;have c0:∃v,w1.cell? ⟨vb,0,none⟩=some v:=⟨_,(t.cellAt 0 (by omega)).trans (j' (by rw [t.1];omega))⟩;obtain ⟨v0,c0⟩:=c0;have f0:=t.frozenAt 0;go_simp;refine hK.o _ _ (ag.o _ _ _ k1) (fun s=>?_);clear hK K;(try go_frame);refine dN ?_;have t0:=(t.stored 0 (sL I F F)).1;have av:=t.1;have bq:=(f.keep k1).other (b':=vb) (o:=0) E.1 (sL I F F);have kq:Bl W0 (w1.setCell ⟨vb,0,none⟩ (sL I F F)):=(N.o.trans (k1.mono N.o.size)).setCell (p:=⟨vb,0,none⟩) aQ _;have ab:=(hE.below k1).setCell (p:=⟨vb,0,none⟩) E.2.2.2.1 (sL I F F);have a8:=cV (gJ hs k1) E.2.2.2.2.1.symm 0 (sL I F F);have a7:dt Z w1 (w1.setCell ⟨vb,0,none⟩ (sL I F F)):=dt.of_set _ _ ad;have a9:Z≤(w1.setCell ⟨vb,0,none⟩ (sL I F F)).heap.size:=Gq (Gq HZ.o k1.size) a7.1;have a5:=nW (x:=I) (n:=F) (B:=A) aB.o av k1 rfl rfl ad a6.o aC rfl;have U:Eq (_∧_∧_∧_∧_∧_∧_):=⟨bq,ab,t0,a8,kq,a5,a9⟩;clear s O k1 Y ag c0 f0 t t0 bq kq ab a8 a5 a9 a7 f hrow hE hs a6;go_wp2;go_roundw
     case rel =>
      obtain ⟨g',b',e',hh⟩:=U.o.2.2.2.2.2.1;exact ⟨0+1,_,g',b',e',by omega,by go_num,U.o.1,U.o.2.1,U.o.2.2.1,U.o.2.2.2.1,U.o.2.2.2.2.1,hh,U.o.2.2.2.2.2.2⟩
     case measure=>simp [intOf]
   · have aY:=fun w=>Dd w a0 a1 a2 F c0 H c1 n2 c2
     go_wp2_with fail
     refine eJ Y O fun s=>?_
     refine aO 0 4 s ?_;refine aS 4 fun K hK=>?_
     go_simp;refine (bL.o _ (N.o.trans (O.mono N.o.size))).mono ?_;rintro e w1 ⟨I,rfl,J,br⟩;have k1:Bl wr w1:=O.trans (br.mono O.size);obtain ⟨e1,J⟩:=J;have a6:Eq (d4 wr.drew.heap.size w1.heap.size w1 I H B e1):=J;have aC:wr.heap.size≤wr.drew.heap.size:=O.size;clear br J;go_wp2_with fail
     refine hK.o _ _ (Y.o _ k1) (fun s=>?_);clear hK K;(try go_frame);refine aO 5 1 s ?_;refine aS 6 fun K hK=>?_
     have t:=gJ hrow k1;have c0:∃v,w1.cell? ⟨vb,1,none⟩=some v:=⟨_,(t.cellAt 1 (by omega)).trans (j' (by rw [t.1];omega))⟩;obtain ⟨v0,c0⟩:=c0;have f0:=t.frozenAt 1;go_simp;refine hK.o _ _ (ag.o _ _ _ k1) (fun s=>?_);clear hK K;(try go_frame);refine dN ?_;have t0:=(t.stored 1 (sL I H H)).1;have av:=t.1;have bq:=(f.keep k1).other (b':=vb) (o:=1) E.1 (sL I H H);have kq:Bl W0 (w1.setCell ⟨vb,1,none⟩ (sL I H H)):=(N.o.trans (k1.mono N.o.size)).setCell (p:=⟨vb,1,none⟩) aQ _;have ab:=(hE.below k1).setCell (p:=⟨vb,1,none⟩) E.2.2.2.1 (sL I H H);have a8:=cV (gJ hs k1) E.2.2.2.2.1.symm 1 (sL I H H);have a7:dt Z w1 (w1.setCell ⟨vb,1,none⟩ (sL I H H)):=dt.of_set _ _ ad;have a9:Z≤(w1.setCell ⟨vb,1,none⟩ (sL I H H)).heap.size:=Gq (Gq HZ.o k1.size) a7.1;have a5:=nW (x:=I) (n:=H) (B:=B) aB.o av k1 rfl rfl ad a6.o aC rfl;have U:Eq (_∧_∧_∧_∧_∧_∧_):=⟨bq,ab,t0,a8,kq,a5,a9⟩;clear s O k1 Y ag c0 f0 t t0 bq kq ab a8 a5 a9 a7 f hrow hE hs a6;go_wp2;go_roundw
     case rel =>
      obtain ⟨g',b',e',hh⟩:=U.o.2.2.2.2.2.1;exact ⟨1+1,_,g',b',e',by omega,by go_num,U.o.1,U.o.2.1,U.o.2.2.1,U.o.2.2.2.1,U.o.2.2.2.2.1,hh,U.o.2.2.2.2.2.2⟩
     case measure=>simp [intOf]
   · have aY:=fun w=>Dc w a0 a1 a2 F c0 H c1 n2 c2
     go_wp2_with fail
     refine eJ Y O fun s=>?_
     refine aO 0 4 s ?_;refine aS 4 fun K hK=>?_
     go_simp;refine (bI.o _ (N.o.trans (O.mono N.o.size))).mono ?_;rintro e w1 ⟨I,rfl,J,br⟩;have k1:Bl wr w1:=O.trans (br.mono O.size);obtain ⟨e1,J⟩:=J;have a6:Eq (d4 wr.drew.heap.size w1.heap.size w1 I n2 C e1):=J;have aC:wr.heap.size≤wr.drew.heap.size:=O.size;clear br J;go_wp2_with fail
     refine hK.o _ _ (Y.o _ k1) (fun s=>?_);clear hK K;(try go_frame);refine aO 5 1 s ?_;refine aS 6 fun K hK=>?_
     have t:=gJ hrow k1;have c0:∃v,w1.cell? ⟨vb,2,none⟩=some v:=⟨_,(t.cellAt 2 (by omega)).trans (j' (by rw [t.1];omega))⟩;obtain ⟨v0,c0⟩:=c0;have f0:=t.frozenAt 2;go_simp;refine hK.o _ _ (ag.o _ _ _ k1) (fun s=>?_);clear hK K;(try go_frame);refine dN ?_;have t0:=(t.stored 2 (sL I n2 n2)).1;have av:=t.1;have bq:=(f.keep k1).other (b':=vb) (o:=2) E.1 (sL I n2 n2);have kq:Bl W0 (w1.setCell ⟨vb,2,none⟩ (sL I n2 n2)):=(N.o.trans (k1.mono N.o.size)).setCell (p:=⟨vb,2,none⟩) aQ _;have ab:=(hE.below k1).setCell (p:=⟨vb,2,none⟩) E.2.2.2.1 (sL I n2 n2);have a8:=cV (gJ hs k1) E.2.2.2.2.1.symm 2 (sL I n2 n2);have a7:dt Z w1 (w1.setCell ⟨vb,2,none⟩ (sL I n2 n2)):=dt.of_set _ _ ad;have a9:Z≤(w1.setCell ⟨vb,2,none⟩ (sL I n2 n2)).heap.size:=Gq (Gq HZ.o k1.size) a7.1;have a5:=nW (x:=I) (n:=n2) (B:=C) aB.o av k1 rfl rfl ad a6.o aC rfl;have U:Eq (_∧_∧_∧_∧_∧_∧_):=⟨bq,ab,t0,a8,kq,a5,a9⟩;clear s O k1 Y ag c0 f0 t t0 bq kq ab a8 a5 a9 a7 f hrow hE hs a6;go_wp2;go_roundw
     case rel =>
      obtain ⟨g',b',e',hh⟩:=U.o.2.2.2.2.2.1;exact ⟨2+1,_,g',b',e',by omega,by go_num,U.o.1,U.o.2.1,U.o.2.2.1,U.o.2.2.2.1,U.o.2.2.2.2.1,hh,U.o.2.2.2.2.2.2⟩
     case measure=>simp [intOf]
   · have y5:=cell_later L x5;have zy:=Gf _ _ y5;simp only at zy;obtain ⟨wz,a3⟩:=aF (wr.setCells sb 0 (S.map iT));have ae:S.length=nk:=HS.o.length;have bW:(Builtin.copy_ #[24,24] 3 #[sL sb nk nk,.slice ak nk ck]).run Tryz.prog wr=.ok (iT nk) wz:=by
      rw [a3];by_cases bw:nk=0
      · have bx:S=[]:=G6.1 (by omega);subst bx;subst bw;exact run_copy_none (P:=Tryz.prog) wr 24 24 3 3 (pT sb) ak 0 0 0 ck Tryz.underlying24 (by kernel_rfl) (by simp)
      · obtain ⟨b',o',rfl,c9⟩:=(HS.o.keep KW.o).form (by omega);have:=run_copy_cells (P:=Tryz.prog) wr 24 24 3 3 sb 0 nk nk ⟨b',o',none⟩ nk ck (S.map iT) Tryz.underlying24 (by kernel_rfl) (by rw [Hd,ae];exact (Nat.min_self nk).symm) ?_ ?_ ?_ ?_
        · rw [this,Hd,ae];rfl
        · intro j v hj;rw [Id] at hj;rw [Gv];cases hx:S[j]? with
          | none=>rw [hx] at hj;cases hj
          | some z =>
           rw [hx] at hj;cases hj;have bo:j<nk:=by rw [← ae];exact (F'.1 hx).1
           obtain ⟨z',b8,_,cz⟩:=((HS.o.keep KW.o).keep L).num (Below.refl _ wr) j bo;rw [hx] at b8;cases b8;exact cz
        · intro j hj;rw [Hd,ae] at hj;rw [Gp];rw [hs.cellAt j (by omega),j' (by rw [hs.1];omega)];rfl
        · exact fun j _=>hs.frozenAt _
        · intro v hv;obtain ⟨z,_,rfl⟩:=G9.1 hv;rfl
     have aN:ay wz P (iT q) (sL eb nm nm) (sL vb 3 3) (sL sb nk nk):=by rw [a3];exact eN (R:=fun w'=>ay w' P (iT q) (sL eb nm nm) (sL vb 3 3) (sL sb nk nk)) (fun w' o u h=>h.other E.2.1 u) _ _ _ f
     have bc:ah wz W0.heap.size eb nm nm M:=by rw [a3];exact eN (R:=fun w'=>ah w' W0.heap.size eb nm nm M) (fun w' o u h=>h.setCell (p:=⟨sb,o,none⟩) E.2.2.2.2.2 u) _ _ _ hE
     have bd:wz.ownsRow W0.heap.size 61 1 (sL vb 3 3) 3 xs:=by rw [a3];exact eN (R:=fun w'=>w'.ownsRow W0.heap.size 61 1 (sL vb 3 3) 3 xs) (fun w' o u h=>cV h E.2.2.2.2.1 o u) _ _ _ hrow
     have au:Bl W0 wz:=by rw [a3];exact eN (R:=fun w'=>Bl W0 w') (fun w' o u h=>h.setCell (p:=⟨sb,o,none⟩) (hs.lt sb rfl).1 u) _ _ _ L
     have aM:dt Z wr wz:=by rw [a3];exact eN (R:=fun w'=>dt Z wr w') (fun w' o u h=>h.trans (dt.of_set _ _ aT)) _ _ _ ⟨Gg _,fun _ _ _ _=>rfl⟩
     have hsw:W0.heap.size≤sb:=(hs.lt sb rfl).1;have hiz:aR W0.heap.size wz (pT sb) nk nk S:=by
      refine ⟨ae,Gg _,by unfold maxLen;omega,HS.o.wfs,(fun e=>by cases e),?_,?_⟩
      · rintro x e hp;cases e;exact ⟨E' (hs.lt sb rfl).2 aM.1,rfl,hsw⟩
      · rintro x e i hi;cases e;have:=World.cell?_setCells_in sb (S.map iT) 0 wr (fun j hj=>by
         rw [Hd,ae] at hj;rw [Gp,hs.cellAt j (by omega),j' (by rw [hs.1];omega)];rfl) i (by rw [Hd];exact hi)
        rw [a3];simpa using this
     have bf:dy sb (sb+1) wr wz:=by rw [a3];exact eN (R:=fun w'=>dy sb (sb+1) wr w') (fun w' o u h=>h.trans ⟨rfl,rfl,rfl,by simp [World.setCell],fun q _ hq=>Below.heap_setCell _ _ _ _ (fun e=>by have e':q=sb:=e;omega)⟩) _ _ _ (dy.refl _ _ _)
     have bb:Eq (mU Z wz xs [A,B,C] 3 gs bs es):=aB.o.keepO bf aT;have bg:Eq (mT W0.heap.size wz sb nk S):=by rw [a3];exact Ax hs ae
     have bB:Eq (Bk Z wz xs [A,B,C] 3):=bb.o.hasR;clear bf;have c7:=aN.all;have cc:=f.c3;have ce:=f.lt;have zp:=aN.lt;have bq:=BR.o.keep au;have d0:=bq.all;have aJ:Eq (wz.ownsRow W0.heap.size 61 1 (sL vb 3 3) 3 xs):=bd;have b5:Eq (ah wz W0.heap.size eb nm nm M):=bc;have bu:Eq (aR W0.heap.size wz (pT sb) nk nk S):=hiz;have bA:Eq (ay wz (X+1) (iT 0) nZ nZ nZ):=bq;have bH:Eq (Bl W0 wz):=au;have bC:W0.heap.size≤eb:=hE.lt.1;clear hrow f bq Y ag O L aN bc bd au aM hiz hE hs a3 aB;go_wp2;refine bodyPost_ret (v:=.agg #[iT q,sL eb nm nm,sL vb 3 3,sL sb nk nk]) ?_ rfl ⟨eb,vb,sb,gs,bs,es,rfl,?_,?_,?_⟩
     · have e:=(((bA.o.set0 (iT q)).set1 (sL eb nm nm)).set2 (sL vb 3 3)).set3 (sL sb nk nk);simp [results,Tryz.results92,go_sem,e.all]
     · have hsz:=ba.o;have bJ:=aP.o;have a4:vb≠X+1:=by omega
       have hm:dt W0.heap.size wz ((((wz.setCell ⟨X+1,0,none⟩ (iT q)).setCell ⟨X+1,1,none⟩ (sL eb nm nm)).setCell ⟨X+1,2,none⟩ (sL vb 3 3)).setCell ⟨X+1,3,none⟩ (sL sb nk nk)):=(((dt.of_set _ _ (by show X+1<_;omega)).trans (dt.of_set _ _ (by show X+1<_;omega))).trans (dt.of_set _ _ (by show X+1<_;omega))).trans (dt.of_set _ _ (by show X+1<_;omega));have r4:=cV (cV (cV (cV aJ.o a4 0 (iT q)) a4 1 (sL eb nm nm)) a4 2 (sL vb 3 3)) a4 3 (sL sb nk nk);have hE:fj W0.heap.size wz (pT eb) nm nm M:=⟨b5.o.entsAt,fun x e _=>by cases e;exact bC⟩;have bF:∀{u},dt W0.heap.size wz u→dt Z wz u:=fun h=>⟨h.1,fun b o hb hl=>h.2 b o (by omega) hl⟩
       exact ⟨(hE.same hm).mono (by omega),vB r4 (by omega) (by omega) rfl (bB.o.same (bF hm)),(bu.o.same hm).lower (by omega)⟩
     · have hsz:=ba.o;have bJ:=aP.o;have a4:vb≠X+1:=by omega
       have aE:sb≠X+1:=by omega
       have aG:eb≠X+1:=by omega
       have r4:=cV (cV (cV (cV aJ.o a4 0 (iT q)) a4 1 (sL eb nm nm)) a4 2 (sL vb 3 3)) a4 3 (sL sb nk nk);have s4:=cV (cV (cV (cV bg.o.2 aE 0 (iT q)) aE 1 (sL eb nm nm)) aE 2 (sL vb 3 3)) aE 3 (sL sb nk nk);have e4:=(((b5.o.setCell (p:=⟨X+1,0,none⟩) aG.symm (iT q)).setCell (p:=⟨X+1,1,none⟩) aG.symm (sL eb nm nm)).setCell (p:=⟨X+1,2,none⟩) aG.symm (sL vb 3 3)).setCell (p:=⟨X+1,3,none⟩) aG.symm (sL sb nk nk);have al:∀(w':World) (o:Nat) (u:Value),dy (X+1) (X+1+1) w' (w'.setCell ⟨X+1,o,none⟩ u):=fun w' o u=>⟨rfl,rfl,rfl,by simp [World.setCell],fun q _ hq=>Below.heap_setCell _ _ _ _ (fun e=>by have e':q=X+1:=e;omega)⟩
       have h4:=bb.o.keepO ((((al wz 0 (iT q)).trans (al _ 1 (sL eb nm nm))).trans (al _ 2 (sL vb 3 3))).trans (al _ 3 (sL sb nk nk))) (by omega);have bM:=Cv (lo:=w.heap.size) r4 (by omega) (by omega) ad rfl h4;exact ⟨e4.mono (by omega),bM,⟨bg.o.1,iN s4 (by omega)⟩,by rw [h4.1];exact ⟨bD,aT⟩⟩
     · have hx:w.heap.size≤X+1:=by have:=aP.o;omega
       exact ((((KW.o.trans (bH.o.mono KW.o.size)).setCell (p:=⟨X+1,0,none⟩) hx _).setCell (p:=⟨X+1,1,none⟩) hx _).setCell (p:=⟨X+1,2,none⟩) hx _).setCell (p:=⟨X+1,3,none⟩) hx _
theorem aq.same {t sz:Nat} (h:aq w g t sz) (hf:w'.heap[g]?=w.heap[g]?):aq w' g t sz:=by
 obtain ⟨d,h1,h2⟩:=h;exact ⟨d,hf.trans h1,h2⟩
end Go.Proofs.YtpobkmjicbobdaaGreat
