/- Walks. -/
import Derived.Test.YtpobkmjicbobdaaGreatBW04
import Derived.Deep.RegionLaw
namespace Go.Proofs.YtpobkmjicbobdaaGreat
set_option maxRecDepth 100000
set_option maxHeartbeats 40000000
open Go.RowKit
variable {L X:List ac} {cap i j len:Nat} {k1 k2 key:ByteArray} {q seq:Int} {r:af} {w w':World}
def vZ (B:List af):Bool:=decide ((B.length:Int)≤4) && !eY B
def qH (B:List af):Bool:=decide ((B.length:Int)≤8) && (!eY B && bn B)
def bF (A B C:List af):Bool:=vZ A && (qH B && qH C)
theorem DB (w:World) (a0 a1 a2:Option Addr) (b c0 d c1 n2 c2:Nat):(Instr.index 80 (.agg #[.slice a0 b c0,.slice a1 d c1,.slice a2 n2 c2]) (iT 0)).run Tryz.prog w=.ok (.slice a0 b c0) w:=by
 simp [Instr.index,run_underlying Tryz.underlying80,asIntOf,go_sem,Tryz.isAgg61,Tryz.sizeOf61,part]
theorem DA (w:World) (a0 a1 a2:Option Addr) (d c0 b c1 n2 c2:Nat):(Instr.index 80 (.agg #[.slice a0 d c0,.slice a1 b c1,.slice a2 n2 c2]) (iT 1)).run Tryz.prog w=.ok (.slice a1 b c1) w:=by
 simp [Instr.index,run_underlying Tryz.underlying80,asIntOf,go_sem,Tryz.isAgg61,Tryz.sizeOf61,part]
theorem Dz (w:World) (a0 a1 a2:Option Addr) (d c0 b c1 n2 c2:Nat):(Instr.index 80 (.agg #[.slice a0 d c0,.slice a1 b c1,.slice a2 n2 c2]) (iT 2)).run Tryz.prog w=.ok (.slice a2 n2 c2) w:=by
 simp [Instr.index,run_underlying Tryz.underlying80,asIntOf,go_sem,Tryz.isAgg61,Tryz.sizeOf61,part]
theorem yP (lo:Nat) (q:Int) (am ak:Option Addr) (nm cm nk ck:Nat) (a0 a1 a2:Option Addr) (u c0 t c1 n2 c2:Nat) (A B C:List af) (w:World) (h0:aw lo w a0 u c0 A) (h1:aw lo w a1 t c1 B) (h2:aw lo w a2 n2 c2 C) :
 Calls Tryz.prog 197 #[.agg #[iT q,.slice am nm cm,.slice a0 u c0,.slice a1 t c1,.slice a2 n2 c2,.slice ak nk ck]] w fun e w'=>e=.returned (.bool (bF A B C))∧Bl w w':=by
 have a4:=az h0;have Z:=az h1;have U:=az h2;have I:Eq (A.length=u):=h0.length;have Y:Eq (B.length=t):=h1.length;have T:Eq (C.length=n2):=h2.length;clear h0 h1 h2;go_enter Tryz.func197,Tryz.ntmps197
 go_upto_region 1 with fail
 obtain ⟨W,E⟩:=aG (w.alloc (.cells #[iT q,.slice am nm cm,.slice a0 u c0,.slice a1 t c1,.slice a2 n2 c2,.slice ak nk ck] 82));have kW:Bl w W:=by rw [E];exact bZ
 have x2:W.cell? ⟨w.heap.size,2,none⟩=some (.slice a0 u c0):=by rw [E];simp
 have x3:W.cell? ⟨w.heap.size,3,none⟩=some (.slice a1 t c1):=by rw [E];simp
 have x4:W.cell? ⟨w.heap.size,4,none⟩=some (.slice a2 n2 c2):=by rw [E];simp
 have zX:=GK _ _ x2;have b:Eq (∀wr,Bl W wr→Bl w wr):=fun wr k=>kW.trans (k.mono kW.size)
 rw [← E];clear E kW;go_wp2;go_loopw [7] (fun iv wr=>∃i:Nat,i≤3∧iv=iT i∧Bl W wr∧(1≤i→vZ A=true)∧(2≤i→qH B=true)∧(3≤i→qH C=true)) (fun iv _=>3 - (intOf iv).toNat)
 case atStart=>exact ⟨0,by omega,rfl,Below.refl _ _,fun h=>absurd h (by omega),fun h=>absurd h (by omega),fun h=>absurd h (by omega)⟩
 case round =>
  obtain ⟨i,hi,rfl,hb,Q,J,F⟩:=hrel;have g:Eq (Bl W wr):=hb;have y:Eq (1≤i→vZ A=true):=Q;have N:Eq (2≤i→qH B=true):=J;have a5:Eq (3≤i→qH C=true):=F;clear hb Q J F;have x:i=0∨i=1∨i=2∨i=3:=by omega
  rcases x with D | D | D | D
  · skip
    subst D;by_cases hl:(4:Int)<(u:Int)
    · have d:Eq (bF A B C=false):=by
       have h1:decide ((A.length:Int)≤4)=false:=decide_eq_false (by have:=I.o;omega);show bF A B C=false
       unfold bF vZ qH;rw [h1];simp
      go_wp2_with fail
      rw [DB];go_wp2_with fail
      refine (tH wr).mono ?_;rintro e w' ⟨rfl,rfl⟩;go_wp2;go_ret;exact ⟨aj d.o.symm,b.o _ g.o⟩
    have K:Eq (decide ((A.length:Int)≤4)=true):=decide_eq_true (by have:=I.o;omega);obtain ⟨O,hO⟩:=aG (eY A);go_wp2_with fail
    rw [DB];go_wp2_with fail
    refine (tH wr).mono ?_;rintro e w' ⟨rfl,rfl⟩;go_wp2_with fail
    refine (kT lo a0 u c0 A _ (a4.o.keep (b.o _ g.o))).mono ?_;rw [← hO];rintro e R ⟨rfl,f⟩;have m:Eq (Bl W R):=g.o.trans (f.mono g.o.size);clear f;cases hOv:O with
    | true =>
     have d:Eq (bF A B C=false):=by
      have h1:eY A=true:=by rw [← hO,hOv]
      show bF A B C=false
      unfold bF vZ qH;rw [h1];simp
     go_wp2;go_ret;exact ⟨aj d.o.symm,b.o _ m.o⟩
    | false =>
     have d:Eq (vZ A=true):=by
      have h1:eY A=false:=by rw [← hO,hOv]
      show vZ A=true
      unfold vZ;rw [K.o,h1];rfl
     go_wp2;go_roundw
     case rel=>exact ⟨1,by omega,rfl,m.o,fun _=>d.o,fun h=>absurd h (by omega),fun h=>absurd h (by omega)⟩
     case measure=>simp [intOf]
  · skip
    subst D;by_cases hl:(8:Int)<(t:Int)
    · have d:Eq (bF A B C=false):=by
       have h1:decide ((B.length:Int)≤8)=false:=decide_eq_false (by have:=Y.o;omega);show bF A B C=false
       unfold bF vZ qH;rw [h1];simp
      go_wp2_with fail
      rw [DA];go_wp2_with fail
      refine (lL 1 wr (by omega)).mono ?_;rintro e w' ⟨rfl,rfl⟩;go_wp2;go_ret;exact ⟨aj d.o.symm,b.o _ g.o⟩
    have K:Eq (decide ((B.length:Int)≤8)=true):=decide_eq_true (by have:=Y.o;omega);obtain ⟨O,hO⟩:=aG (eY B);go_wp2_with fail
    rw [DA];go_wp2_with fail
    refine (lL 1 wr (by omega)).mono ?_;rintro e w' ⟨rfl,rfl⟩;go_wp2_with fail
    refine (kT lo a1 t c1 B _ (Z.o.keep (b.o _ g.o))).mono ?_;rw [← hO];rintro e R ⟨rfl,f⟩;have m:Eq (Bl W R):=g.o.trans (f.mono g.o.size);clear f;cases hOv:O with
    | true =>
     have d:Eq (bF A B C=false):=by
      have h1:eY B=true:=by rw [← hO,hOv]
      show bF A B C=false
      unfold bF vZ qH;rw [h1];simp
     go_wp2;go_ret;exact ⟨aj d.o.symm,b.o _ m.o⟩
    | false =>
     have n:Eq (eY B=false):=by show _=_;rw [← hO,hOv]
     obtain ⟨G,hG⟩:=aG (bn B);go_wp2_with fail
     refine (tK lo a1 t c1 B _ (Z.o.keep (b.o _ m.o)) (fun r hr=>(bE (nM n.o r hr)).1)).mono ?_;rw [← hG];rintro e w2 ⟨rfl,s⟩;have H:Eq (Bl W w2):=m.o.trans (s.mono m.o.size);clear s;cases hGv:G with
     | false =>
      have d:Eq (bF A B C=false):=by
       have h1:bn B=false:=by rw [← hG,hGv]
       show bF A B C=false
       unfold bF vZ qH;rw [h1];simp
      go_wp2;go_ret;exact ⟨aj d.o.symm,b.o _ H.o⟩
     | true =>
      have d:Eq (qH B=true):=by
       have h1:bn B=true:=by rw [← hG,hGv]
       show qH B=true
       unfold qH;rw [K.o,n.o,h1];rfl
      go_wp2;go_roundw
      case rel=>exact ⟨2,by omega,rfl,H.o,fun _=>y.o (by omega),fun _=>d.o,fun h=>absurd h (by omega)⟩
      case measure=>simp [intOf]
  · skip
    subst D;by_cases hl:(8:Int)<(n2:Int)
    · have d:Eq (bF A B C=false):=by
       have h1:decide ((C.length:Int)≤8)=false:=decide_eq_false (by have:=T.o;omega);show bF A B C=false
       unfold bF vZ qH;rw [h1];simp
      go_wp2_with fail
      rw [Dz];go_wp2_with fail
      refine (lL 2 wr (by omega)).mono ?_;rintro e w' ⟨rfl,rfl⟩;go_wp2;go_ret;exact ⟨aj d.o.symm,b.o _ g.o⟩
    have K:Eq (decide ((C.length:Int)≤8)=true):=decide_eq_true (by have:=T.o;omega);obtain ⟨O,hO⟩:=aG (eY C);go_wp2_with fail
    rw [Dz];go_wp2_with fail
    refine (lL 2 wr (by omega)).mono ?_;rintro e w' ⟨rfl,rfl⟩;go_wp2_with fail
    refine (kT lo a2 n2 c2 C _ (U.o.keep (b.o _ g.o))).mono ?_;rw [← hO];rintro e R ⟨rfl,f⟩;have m:Eq (Bl W R):=g.o.trans (f.mono g.o.size);clear f;cases hOv:O with
    | true =>
     have d:Eq (bF A B C=false):=by
      have h1:eY C=true:=by rw [← hO,hOv]
      show bF A B C=false
      unfold bF vZ qH;rw [h1];simp
     go_wp2;go_ret;exact ⟨aj d.o.symm,b.o _ m.o⟩
    | false =>
     have n:Eq (eY C=false):=by show _=_;rw [← hO,hOv]
     obtain ⟨G,hG⟩:=aG (bn C);go_wp2_with fail
     refine (tK lo a2 n2 c2 C _ (U.o.keep (b.o _ m.o)) (fun r hr=>(bE (nM n.o r hr)).1)).mono ?_;rw [← hG];rintro e w2 ⟨rfl,s⟩;have H:Eq (Bl W w2):=m.o.trans (s.mono m.o.size);clear s;cases hGv:G with
     | false =>
      have d:Eq (bF A B C=false):=by
       have h1:bn C=false:=by rw [← hG,hGv]
       show bF A B C=false
       unfold bF vZ qH;rw [h1];simp
      go_wp2;go_ret;exact ⟨aj d.o.symm,b.o _ H.o⟩
     | true =>
      have d:Eq (qH C=true):=by
       have h1:bn C=true:=by rw [← hG,hGv]
       show qH C=true
       unfold qH;rw [K.o,n.o,h1];rfl
      go_wp2;go_roundw
      case rel=>exact ⟨3,by omega,rfl,H.o,fun _=>y.o (by omega),fun _=>N.o (by omega),fun _=>d.o⟩
      case measure=>simp [intOf]
  · subst D;have HC:Eq (bF A B C=true):=by
     show bF A B C=true
     unfold bF;rw [y.o (by omega),N.o (by omega),a5.o (by omega)];rfl
    go_wp2;go_ret;exact ⟨aj HC.o.symm,b.o _ g.o⟩
def qD (x y:ac):Prop:=x.1=y.1→y.2.1<x.2.1
theorem mq (x y:ac):(!gW x y)=true ↔ qD x y:=by
 unfold gW qD;by_cases h:x.1=y.1
 · simp [h]
 · simp [h]
def Ov (A B:List ac):Prop:=∀x ∈ A,∀y ∈ B,qD x y
theorem xy {A B:List ac}:lc A B=true ↔ Ov A B:=by
 unfold lc Ov;simp only [Hf,mq]
theorem Aa {P:List (List ac)}:jp P=true ↔ P.Pairwise Ov:=by
 rw [Hl];unfold jp;simp only [Hf,Ia];constructor
 · intro h i j hi d b;have:=h i hi j d;rw [decide_eq_true b,oY (j' hi) (j' d)] at this;exact xy.1 (by simpa using this)
 · intro h i hi j d;by_cases b:i<j
   · rw [decide_eq_true b,oY (j' hi) (j' d),xy.2 (h i j hi d b)];rfl
   · rw [decide_eq_false b];rfl
def dP (q:Int):List ac→Bool
 | []=>true
 | e :: L=>dP q L && (decide (1≤e.2.1) && (decide (e.2.1≤q) && L.all (fun y=>!gW e y)))
theorem lF (q:Int) (L:List ac):dP q L=true ↔ L.Pairwise qD∧∀e ∈ L,1≤e.2.1∧e.2.1≤q:=by
 induction L with
 | nil=>simp [dP]
 | cons e L b =>
  simp only [dP,G2,b,decide_eq_true_eq,Hf,mq,Hb,GZ];constructor
  · rintro ⟨⟨h1,h2⟩,h3,h4,h5⟩;refine ⟨⟨h5,h1⟩,?_⟩;rintro x (rfl | hx)
    · exact ⟨h3,h4⟩
    · exact h2 x hx
  · rintro ⟨⟨h5,h1⟩,h2⟩;exact ⟨⟨h1,fun x hx=>h2 x (.inr hx)⟩,(h2 e (.inl rfl)).1,(h2 e (.inl rfl)).2,h5⟩
def pv:List ac→ByteArray→Int
 | [],_=>0
 | e :: L,k=>if e.1=k then e.2.1 else pv L k
theorem vh (e:ac) (L:List ac) (k:ByteArray):pv (e :: L) k=if e.1=k then e.2.1 else pv L k:=rfl
theorem xJ {q:Int} (e:ac):∀L:List ac,dP q L=true→(pv L e.1<e.2.1 ↔ (1≤e.2.1∧∀y ∈ L,qD e y))
 | [],_=>by simp [pv];omega
 | f :: L,h=>by
  have hn:=(lF q (f :: L)).1 h
  rw [Hb] at hn
  have b:=xJ e L (by simp only [dP,G2] at h;exact h.1)
  rw [vh]
  by_cases hk:f.1=e.1
  · rw [if_pos hk]
    have hf:=(hn.2 f (Ha ..)).1
    constructor
    · intro h1
      refine ⟨by omega,?_⟩
      intro y hy
      rw [GZ] at hy
      rcases hy with rfl | hy
      · intro _;exact h1
      · intro e1
        have:=hn.1.1 y hy (hk.trans e1)
        omega
    · rintro ⟨_,h2⟩
      exact h2 f (Ha ..) hk.symm
  · rw [if_neg hk,b]
    constructor
    · rintro ⟨h1,h2⟩
      refine ⟨h1,?_⟩
      intro y hy
      rw [GZ] at hy
      rcases hy with rfl | hy
      · intro e1;exact absurd e1.symm hk
      · exact h2 y hy
    · rintro ⟨h1,h2⟩
      exact ⟨h1,fun y hy=>h2 y (He _ hy)⟩
theorem yu {e:ac} (h:dP q L=true) (h1:pv L e.1<e.2.1) (h2:e.2.1≤q):dP q (e :: L)=true:=by
 have:=(xJ e L h).1 h1;simp only [dP,h,Bool.true_and,G2,decide_eq_true_eq,Hf,mq];exact ⟨this.1,h2,this.2⟩
theorem yt {e:ac} {A:List ac} (h:¬(pv L e.1<e.2.1∧e.2.1≤q)):dP q (A++e :: L)=false:=by
 induction A with
 | nil =>
  rw [Ho,IL];intro h1;have hL:dP q L=true:=by simp only [dP,G2] at h1;exact h1.1
  have h3:=(lF q _).1 h1;rw [Hb] at h3;have h4:=h3.2 e (Ha ..);exact h ⟨(xJ e L hL).2 ⟨h4.1,h3.1.1⟩,h4.2⟩
 | cons a A b =>
  rw [Ht,dP,b];rfl
theorem jB (h:aI L=true):L.Pairwise qD:=by
 rw [Hl];intro i j hi d b hk;rcases eD (fF h b (j' hi) (j' d)) with h1 | h1
 · rw [hk,cH] at h1;cases h1
 · exact h1.2
theorem lq (h:aI L=true):∀e ∈ L,1≤e.2.1:=by
 intro e d;obtain ⟨j,b,rfl⟩:=Hm d;exact (nH (eo h (j' b))).1
theorem ls (h:aI L=true) {e:ac} (d:e ∈ L):bj L=e.1∨Op.bytesLess (bj L).toList e.1.toList=true:=by
 obtain ⟨j,b,rfl⟩:=Hm d;obtain ⟨f,hf,hl⟩:=m9 (L:=L) (by omega);rw [hl];by_cases h0:j=0
 · subst h0;rw [j' b] at hf;cases hf;exact .inl rfl
 · rcases eD (fF h (Nat.pos_of_ne_zero h0) hf (j' b)) with h1 | h1
   · exact .inr (by rw [Hk,Hk];exact h1)
   · exact .inl h1.1
theorem mo (h:aI L=true) {e:ac} (d:e ∈ L):e.1=aT L∨Op.bytesLess e.1.toList (aT L).toList=true:=by
 obtain ⟨j,b,rfl⟩:=Hm d;obtain ⟨f,hf,hl⟩:=ji (L:=L) (by omega);rw [hl];by_cases h0:j=L.length - 1
 · subst h0;rw [j' b] at hf;cases hf;exact .inl rfl
 · rcases eD (fF h (by omega:j<L.length - 1) (j' b) hf) with h1 | h1
   · exact .inr (by rw [Hk,Hk];exact h1)
   · exact .inl h1.1
theorem jC (h:aI L=true) (hn:1≤L.length):bj L=aT L∨Op.bytesLess (bj L).toList (aT L).toList=true:=by
 obtain ⟨f,hf,hl⟩:=ji hn;rw [hl];exact ls h (GP hf)
theorem xv {B:List af} (h:bn B=true) {i:Nat} {p r:af} (hp:B[i]?=some p) (hr:B[i+1]?=some r):oX p.1 r.1=true:=by
 unfold bn at h;have:=(Hf.1 h) (i+1) (Ia.2 (F'.1 hr).1);unfold l6 iQ at this;simp only [hr,hp] at this;exact this
theorem lP {B:List af} (h:bn B=true) (b:∀r ∈ B,cU r.1 r.2=true):∀(d i:Nat) {p r:af},B[i]?=some p→B[i+1+d]?=some r→Op.bytesLess (aT p.1).toList (bj r.1).toList=true
 | 0,i,p,r,hp,hr=>xv h hp hr
 | d+1,i,p,r,hp,hr=>by
  obtain ⟨hl,_⟩:=F'.1 hr
  have hm:B[i+1+d]?=some (B[i+1+d]'(by omega)):=j' _
  have h1:=lP h b d i hp hm
  have h2:=xv h hm hr
  have h3:=bE (b _ (GP hm))
  unfold oX at h2
  rcases jC h3.2.2.1 h3.1 with e | e
  · rw [e] at h1;exact cJ _ _ _ h1 h2
  · exact cJ _ _ _ (cJ _ _ _ h1 e) h2
theorem nQ {B:List af} (h:bn B=true) (b:∀r ∈ B,cU r.1 r.2=true):(B.reverse.map (·.1)).Pairwise Ov:=by
 rw [List.pairwise_map,List.pairwise_reverse,Hl];intro i j hi g m x hx y hy hk;exfalso
 have h1:=lP h b (j - i - 1) i (j' hi) (by rw [show i+1+(j - i - 1)=j by omega];exact j' g);have d:=(bE (b _ (Hj hi))).2.2.1;have f:=(bE (b _ (Hj g))).2.2.1;have h2:Op.bytesLess y.1.toList (bj B[j].1).toList=true:=by
  rcases mo d hy with e | e
  · rw [e];exact h1
  · exact cJ _ _ _ e h1
 have h3:Op.bytesLess y.1.toList x.1.toList=true:=by
  rcases ls f hx with e | e
  · rw [← e];exact h2
  · exact cJ _ _ _ h2 e
 rw [hk,cH] at h3;cases h3
def dq (M:List ac) (A B C:List af):List (List ac):=M :: (A.reverse.map (·.1)++(B.reverse.map (·.1)++C.reverse.map (·.1)))
theorem gP {B:List af}:Ov X (aW B) ↔ ∀b ∈ B.reverse.map (·.1),Ov X b:=by
 unfold Ov aW;simp only [IR,Ib,Jf];constructor
 · rintro h b ⟨r,hr,rfl⟩ x hx y hy;exact h x hx y ⟨r,hr,hy⟩
 · rintro h x hx y ⟨r,hr,hy⟩;exact h r.1 ⟨r,hr,rfl⟩ x hx y hy
theorem zL {B:List af}:Ov (aW B) X ↔ ∀b ∈ B.reverse.map (·.1),Ov b X:=by
 unfold Ov aW;simp only [IR,Ib,Jf];constructor
 · rintro h b ⟨r,hr,rfl⟩ x hx y hy;exact h x ⟨r,hr,hx⟩ y hy
 · rintro h x ⟨r,hr,hx⟩ y hy;exact h r.1 ⟨r,hr,rfl⟩ x hx y hy
theorem pe {M:List ac} {A B C:List af} (hB:(B.reverse.map (·.1)).Pairwise Ov) (hC:(C.reverse.map (·.1)).Pairwise Ov):(eZ M [A,B,C]).Pairwise Ov ↔ (dq M A B C).Pairwise Ov:=by
 unfold eZ dq;simp only [List.headD_cons,List.drop_succ_cons,List.drop_zero,IH,I9,Ht,Hb,Ih,GX,GZ,Hs,or_false,List.Pairwise.nil,and_true,false_implies,implies_true];constructor
 · rintro ⟨h1,h2,h3,h4⟩;have d:=h3 _ rfl;refine ⟨?_,h2,⟨hB,hC,?_⟩,?_⟩
   · rintro a (h | h | h)
     · exact h1 a (.inl h)
     · exact gP.1 (h1 _ (.inr (.inl rfl))) a h
     · exact gP.1 (h1 _ (.inr (.inr rfl))) a h
   · intro b hb c hc;exact gP.1 (zL.1 d b hb) c hc
   · rintro a ha b (hb | hb)
     · exact gP.1 (h4 a ha _ (.inl rfl)) b hb
     · exact gP.1 (h4 a ha _ (.inr rfl)) b hb
 · rintro ⟨h1,h2,⟨_,_,h3⟩,h4⟩;refine ⟨?_,h2,?_,?_⟩
   · rintro a (h | h | h)
     · exact h1 a (.inl h)
     · rw [h];exact gP.2 (fun b hb=>h1 b (.inr (.inl hb)))
     · rw [h];exact gP.2 (fun b hb=>h1 b (.inr (.inr hb)))
   · intro c hc;rw [hc];exact zL.2 (fun b hb=>gP.2 (fun c hc=>h3 b hb c hc))
   · rintro a ha b (hb | hb)
     · rw [hb];exact gP.2 (fun c hc=>h4 a ha c (.inl hc))
     · rw [hb];exact gP.2 (fun c hc=>h4 a ha c (.inr hc))
theorem cP {B:List af} {d:Int} {e:Bool}:dK B d e q=true ↔ (B.length:Int)≤d∧eY B=false∧(∀r ∈ B,b6 r.1 q=true)∧(e=true→bn B=true):=by
 unfold dK eY bn;simp only [G2,decide_eq_true_eq,Hf,Ia];constructor
 · rintro ⟨h1,h2⟩;refine ⟨h1,?_,?_,?_⟩
   · rw [I5];intro r hr;obtain ⟨j,b,rfl⟩:=Hm hr;have:=h2 j b;rw [dY (j' b),G2] at this;simp [this.1]
   · intro r hr;obtain ⟨j,b,rfl⟩:=Hm hr;have:=h2 j b;rw [dY (j' b),G2,G2] at this;exact this.2.1
   · intro hap j b;have:=h2 j b;rw [dY (j' b),G2,G2,hap] at this;unfold l6;rw [j' b];simpa using this.2.2
 · rintro ⟨h1,h2,h3,h4⟩;refine ⟨h1,fun j b=>?_⟩;rw [I5] at h2;have e1:=h2 B[j] (Hj b);have e2:=h3 B[j] (Hj b);rw [dY (j' b),e2];have f:cU B[j].1 B[j].2=true:=by simpa using e1
   rw [f];cases e with
   | false=>rfl
   | true =>
    have:=h4 rfl j b;unfold l6 at this;rw [j' b] at this;simpa using this
theorem dz {B:List af} (h:eY B=false):∀r ∈ B,cU r.1 r.2=true:=by
 unfold eY at h;rw [I5] at h;intro r hr;simpa using h r hr
theorem lj (q:Int) (M:List ac) (A B C:List af) (S:List Int) :
 aP q M [A,B,C] S=true ↔ 0≤q∧q≤100000∧cG S q=true∧M.length≤60∧aI M=true∧bF A B C=true∧dP q (dq M A B C).flatten=true:=by
 have s:bF A B C=true ↔ ((A.length:Int)≤4∧eY A=false)∧((B.length:Int)≤8∧eY B=false∧bn B=true)∧((C.length:Int)≤8∧eY C=false∧bn C=true):=by
  unfold bF vZ qH;simp only [G2,decide_eq_true_eq,Jh]
 have o:aP q M [A,B,C] S=true ↔ 0≤q∧q≤100000∧M.length≤60∧aI M=true∧b6 M q=true∧cG S q=true∧(dK A 4 false q=true∧dK B 8 true q=true∧dK C 8 true q=true)∧jp (eZ M [A,B,C])=true:=by
  unfold aP fa;simp only [G2,decide_eq_true_eq,Hn,Io,Nat.reduceAdd,true_and]
 rw [o,s,cP,cP,cP,lF,Aa,List.pairwise_flatten];have n:∀{Z:List af} {l:List ac},l ∈ Z.reverse.map (·.1)→∃r ∈ Z,r.1=l:=by
  intro Z l hl;rw [Ib] at hl;obtain ⟨r,hr,rfl⟩:=hl;exact ⟨r,Jf.1 hr,rfl⟩
 have f:∀{L:List ac},b6 L q=true ↔ ∀e ∈ L,e.2.1≤q:=by
  intro L;unfold b6;simp only [Hf,decide_eq_true_eq]
 have b:∀{l:List ac},l ∈ dq M A B C ↔ l=M∨(∃r ∈ A,r.1=l)∨(∃r ∈ B,r.1=l)∨(∃r ∈ C,r.1=l):=by
  intro l;unfold dq;simp only [GZ,GX,Ib,Jf]
 constructor
 · rintro ⟨h1,h2,h3,h4,h5,h6,⟨⟨a1,a2,a3,_⟩,⟨b1,b2,b3,b4⟩,⟨c1,g,c3,c4⟩⟩,m⟩;have hB:=nQ (b4 rfl) (dz b2);have hC:=nQ (c4 rfl) (dz g);refine ⟨h1,h2,h6,h3,h4,⟨⟨a1,a2⟩,⟨b1,b2,b4 rfl⟩,⟨c1,g,c4 rfl⟩⟩,⟨?_,(pe hB hC).1 m⟩,?_⟩
   · intro l hl;rcases b.1 hl with rfl | ⟨r,hr,rfl⟩ | ⟨r,hr,rfl⟩ | ⟨r,hr,rfl⟩
     · exact jB h4
     · exact jB (bE (dz a2 r hr)).2.2.1
     · exact jB (bE (dz b2 r hr)).2.2.1
     · exact jB (bE (dz g r hr)).2.2.1
   · intro e d;obtain ⟨l,hl,hx⟩:=IS.1 d;clear d;have d:=hx;rcases b.1 hl with rfl | ⟨r,hr,rfl⟩ | ⟨r,hr,rfl⟩ | ⟨r,hr,rfl⟩
     · exact ⟨lq h4 e d,f.1 h5 e d⟩
     · exact ⟨lq (bE (dz a2 r hr)).2.2.1 e d,f.1 (a3 r hr) e d⟩
     · exact ⟨lq (bE (dz b2 r hr)).2.2.1 e d,f.1 (b3 r hr) e d⟩
     · exact ⟨lq (bE (dz g r hr)).2.2.1 e d,f.1 (c3 r hr) e d⟩
 · rintro ⟨h1,h2,h6,h3,h4,⟨⟨a1,a2⟩,⟨b1,b2,b4⟩,⟨c1,g,c4⟩⟩,⟨_,m⟩,t⟩;have hB:=nQ b4 (dz b2);have hC:=nQ c4 (dz g);have hw:∀l ∈ dq M A B C,b6 l q=true:=fun l hl=>f.2 (fun e d=>(t e (IS.2 ⟨l,hl,d⟩)).2)
   exact ⟨h1,h2,h3,h4,hw M (b.2 (.inl rfl)),h6,⟨⟨a1,a2,fun r hr=>hw _ (b.2 (.inr (.inl ⟨r,hr,rfl⟩))),fun e=>by cases e⟩,⟨b1,b2,fun r hr=>hw _ (b.2 (.inr (.inr (.inl ⟨r,hr,rfl⟩)))),fun _=>b4⟩,⟨c1,g,fun r hr=>hw _ (b.2 (.inr (.inr (.inr ⟨r,hr,rfl⟩)))),fun _=>c4⟩⟩,(pe hB hC).2 m⟩
def gh (B:List af) (k1 k2:ByteArray) (i j:Nat):Prop :=
 i≤B.length∧j≤B.length∧∀t r,B[t]?=some r→(t<i→Op.bytesLess (aT r.1).toList k1.toList=true)∧(i≤t→Op.bytesLess (aT r.1).toList k1.toList=false)∧(t<j→Op.bytesLess k2.toList (bj r.1).toList=false)∧(j≤t→Op.bytesLess k2.toList (bj r.1).toList=true)
theorem r8 {a b c:List UInt8} (h1:a=b∨Op.bytesLess a b=true) (h2:Op.bytesLess b c=true):Op.bytesLess a c=true:=by
 rcases h1 with rfl | h1
 · exact h2
 · exact cJ _ _ _ h1 h2
theorem eL (h:cU r.1 r.2=true):aI r.1=true∧1≤r.1.length∧r.1.length≤150:=by
 simp [cU] at h;exact ⟨h.2.2.1,by omega,by omega⟩
theorem zI {B:List af} (ha:bn B=true) (b:∀r ∈ B,cU r.1 r.2=true) {s t:Nat} {p r:af} (hs:B[s]?=some p) (d:B[t]?=some r) (e:s≤t) (k:ByteArray) (h:Op.bytesLess (aT r.1).toList k.toList=true):Op.bytesLess (aT p.1).toList k.toList=true:=by
 by_cases f:s=t
 · subst f;rw [hs] at d;cases d;exact h
 · have h1:=lP ha b (t - s - 1) s hs (by rw [← d];congr 1;omega);obtain ⟨hr,hl,_⟩:=eL (b r (GP d));have h2:=jC hr hl;refine cJ _ _ _ h1 (r8 ?_ h);rcases h2 with h2 | h2
   · exact .inl (by rw [h2])
   · exact .inr h2
theorem Di {B:List af} (ha:bn B=true) (b:∀r ∈ B,cU r.1 r.2=true) {s t:Nat} {p r:af} (hs:B[s]?=some p) (d:B[t]?=some r) (e:s≤t) (k:ByteArray) (h:Op.bytesLess k.toList (bj p.1).toList=true):Op.bytesLess k.toList (bj r.1).toList=true:=by
 by_cases f:s=t
 · subst f;rw [hs] at d;cases d;exact h
 · have h1:=lP ha b (t - s - 1) s hs (by rw [← d];congr 1;omega);obtain ⟨hr,hl,_⟩:=eL (b p (GP hs));have h2:=jC hr hl;refine cJ _ _ _ h (r8 ?_ h1);rcases h2 with h2 | h2
   · exact .inl (by rw [h2])
   · exact .inr h2
theorem gh.le {B:List af} (h:gh B k1 k2 i j) (b:∀r ∈ B,cU r.1 r.2=true) (hk:k1=k2∨Op.bytesLess k1.toList k2.toList=true):i≤j:=by
 by_cases d:i≤j
 · exact d
 · exfalso
   have e:j<B.length:=by have:=h.1;omega
   have hp:=j' e;obtain ⟨h1,_,_,h4⟩:=h.2.2 j _ hp;have h1:=h1 (by omega);have h4:=h4 (GL _);obtain ⟨hr,hl,_⟩:=eL (b _ (Hj e));have h2:=jC hr hl;have h5:Op.bytesLess (bj B[j].1).toList k1.toList=true:=r8 (by rcases h2 with h2 | h2;exact .inl (by rw [h2]);exact .inr h2) h1;have h6:Op.bytesLess (bj B[j].1).toList k2.toList=true:=by
    rcases hk with rfl | hk
    · exact h5
    · exact cJ _ _ _ h5 hk
   rw [fi _ _ h6] at h4;cases h4
theorem rF (hr:aI L=true) (h:Op.bytesLess (aT L).toList key.toList=true):bw L key seq=[]:=by
 unfold bw;rw [Im];intro e b hc;simp only [G2,decide_eq_true_eq] at hc;rcases mo hr b with h1 | h1
 · rw [← h1,hc.1,cH] at h;cases h
 · rw [hc.1] at h1;rw [fi _ _ h1] at h;cases h
theorem sQ (hr:aI L=true) (h:Op.bytesLess key.toList (bj L).toList=true):bw L key seq=[]:=by
 unfold bw;rw [Im];intro e b hc;simp only [G2,decide_eq_true_eq] at hc;rcases ls hr b with h1 | h1
 · rw [h1,hc.1,cH] at h;cases h
 · rw [hc.1] at h1;rw [fi _ _ h1] at h;cases h
def bK (B:List af) (key:ByteArray) (seq:Int):List ac:=B.flatMap (fun r=>bw r.1 key seq)
theorem tT {B:List af} (h:∀r ∈ B,bw r.1 key seq=[]):bK B key seq=[]:=by
 unfold bK;rw [List.flatMap_eq_nil_iff];exact h
theorem jm (A B:List af) (key:ByteArray) (seq:Int):bK (A++B) key seq=bK A key seq++bK B key seq:=by
 unfold bK;rw [List.flatMap_append]
theorem tu {B:List af} (h:gh B key key i j) (b:∀r ∈ B,cU r.1 r.2=true) (seq:Int):bK ((B.drop i).take (j - i)) key seq=bK B key seq:=by
 have f:=h.le b (.inl rfl);have e1:B=B.take i++((B.drop i).take (j - i)++B.drop j):=by
  have h2:(B.drop i).drop (j - i)=B.drop j:=by rw [IG];congr 1;omega
  rw [← h2,Hh,Hh]
 have e:bK (B.take i) key seq=[]:=tT fun r hr=>by
  obtain ⟨t,d,rfl⟩:=Hm hr;rw [GS] at d;rw [If];have hp:=j' (show t<B.length by omega);exact rF (eL (b _ (Hj _))).1 ((h.2.2 t _ hp).1 (by omega))
 have n2:bK (B.drop j) key seq=[]:=tT fun r hr=>by
  obtain ⟨t,d,rfl⟩:=Hm hr;rw [G7] at d;rw [Ij];have hp:=j' (show j+t<B.length by omega);exact sQ (eL (b _ (Hj _))).1 ((h.2.2 (j+t) _ hp).2.2.2 (by omega))
 conv=>rhs;rw [e1]
 rw [jm,jm,e,n2,Ho,Iv]
def fT (a b:ByteArray):Bool:=Op.bytesLess a.toList b.toList || a.toList == b.toList
def eG (low high:ByteArray) (r:af):Bool:=fT (bj r.1) high && fT low (aT r.1)
def fS (k:ByteArray) (B:List af):ByteArray:=B.foldl (fun k r=>if Op.bytesLess (bj r.1).toList k.toList then bj r.1 else k) k
def oQ (a b:ByteArray):Bool:=!Op.bytesLess a.toList b.toList && !(a.toList == b.toList)
def dG (k:ByteArray) (B:List af):ByteArray:=B.foldl (fun k r=>if oQ (aT r.1) k then aT r.1 else k) k
theorem tx (k:ByteArray) {B:List af} {i:Nat} {r:af} (h:B[i]?=some r):fS k (B.take (i+1))=(if Op.bytesLess (bj r.1).toList (fS k (B.take i)).toList then bj r.1 else fS k (B.take i)):=by
 rw [Hc,h];unfold fS;rw [I6];rfl
theorem gJ (k:ByteArray) {B:List af} {i:Nat} {r:af} (h:B[i]?=some r):dG k (B.take (i+1))=(if oQ (aT r.1) (dG k (B.take i)) then aT r.1 else dG k (B.take i)):=by
 rw [Hc,h];unfold dG;rw [I6];rfl
theorem iP {B:List af} (h:B[i]?=some r) (p:af→Bool):(B.take (i+1)).filter p=(B.take i).filter p++(if p r then [r] else []):=by
 rw [Hc,h,Hw];cases hp:p r <;> simp [hp]
def bG (B:List af):List (List ac):=B.map (·.1)
theorem ww {B:List af} (h:B[i]?=some r):bG (B.take (i+1))=bG (B.take i)++[r.1]:=by
 rw [Hc,h];simp [bG]
def iD (B:List af):Bool:=B.all (fun r=>decide (r.1.length≤150))
theorem EV {B:List af} (h:B[i]?=some r) (hr:150<r.1.length):iD B=false:=by
 unfold iD;rw [List.all_eq_false];exact ⟨r,GP h,by simp;omega⟩
theorem DO {B:List af} {n:Nat} (hl:B.length=n) (h:∀j r,j<n→B[j]?=some r→r.1.length≤150):iD B=true:=by
 unfold iD;rw [Hf];intro r hr;obtain ⟨j,b,rfl⟩:=Hm hr;exact decide_eq_true (h j _ (by omega) (j' b))
theorem dQ (a b:ByteArray):fT a b=!Op.bytesLess b.toList a.toList:=by
 unfold fT;by_cases h:a.toList=b.toList
 · rw [h,cH];simp
 · rcases kU _ _ h with h1 | h1
   · rw [h1,fi _ _ h1];rfl
   · rw [h1,fi _ _ h1];simp [h]
theorem uF (a b:ByteArray):oQ a b=Op.bytesLess b.toList a.toList:=by
 have h:=dQ a b;unfold fT at h;unfold oQ;rw [← Bool.not_or,h,Bool.not_not]
theorem qK {B:List af} (b:i≤j):B=B.take i++((B.drop i).take (j - i)++B.drop j):=by
 have h2:(B.drop i).drop (j - i)=B.drop j:=by rw [IG];congr 1;omega
 rw [← h2,Hh,Hh]
theorem ph {B:List af} (h:gh B k1 k2 i j) (d:i≤j):B.filter (eG k1 k2)=(B.drop i).take (j - i)∧B.filter (fun r=>!eG k1 k2 r)=B.take i++B.drop j:=by
 have h1:∀r ∈ B.take i,eG k1 k2 r=false:=fun r hr=>by
  obtain ⟨t,b,rfl⟩:=Hm hr;rw [GS] at b;rw [If];have h2:=(h.2.2 t _ (j' (show t<B.length by omega))).1 (by omega);unfold eG;rw [dQ k1,h2];simp
 have h2:∀r ∈ (B.drop i).take (j - i),eG k1 k2 r=true:=fun r hr=>by
  obtain ⟨t,b,rfl⟩:=Hm hr;rw [GS,G7] at b;rw [If,Ij];have h3:=h.2.2 (i+t) _ (j' (show i+t<B.length by omega));unfold eG;rw [dQ,dQ,h3.2.1 (by omega),h3.2.2.1 (by omega)];rfl
 have h3:∀r ∈ B.drop j,eG k1 k2 r=false:=fun r hr=>by
  obtain ⟨t,b,rfl⟩:=Hm hr;rw [G7] at b;rw [Ij];have h3:=(h.2.2 (j+t) _ (j' (show j+t<B.length by omega))).2.2.2 (by omega);unfold eG;rw [dQ (bj _),h3];rfl
 constructor
 · conv=>lhs;rw [qK (B:=B) d]
   rw [Hw,Hw,Im.2 (fun r hr=>by rw [h1 r hr];simp),List.filter_eq_self.2 h2,Im.2 (fun r hr=>by rw [h3 r hr];simp)];simp
 · conv=>lhs;rw [qK (B:=B) d]
   rw [Hw,Hw,List.filter_eq_self.2 (fun r hr=>by rw [h1 r hr];rfl),Im.2 (fun r hr=>by rw [h2 r hr];simp),List.filter_eq_self.2 (fun r hr=>by rw [h3 r hr];rfl)];simp
theorem fd (a:ByteArray):fT a a=true:=by rw [dQ,cH];rfl
theorem cW {a b c:ByteArray} (h1:fT a b=true) (h2:fT b c=true):fT a c=true:=by
 unfold fT at h1 h2 ⊢;simp only [Jd,beq_iff_eq] at h1 h2 ⊢;rcases h1 with h1 | h1
 · rcases h2 with h2 | h2
   · exact .inl (cJ _ _ _ h1 h2)
   · rw [← h2];exact .inl h1
 · rw [h1];exact h2
theorem qR {a b:ByteArray} (h1:fT a b=true) (h2:fT b a=true):a=b:=by
 rw [dQ] at h2;unfold fT at h1;simp only [Jd,beq_iff_eq] at h1;rcases h1 with h1 | h1
 · rw [h1] at h2;cases h2
 · rw [Hk,Hk] at h1;exact IP (II.1 h1)
theorem zF:∀(B:List af) (k:ByteArray),fT (fS k B) k=true∧∀r ∈ B,fT (fS k B) (bj r.1)=true
 | [],k=>⟨fd k,fun r hr=>by cases hr⟩
 | r :: B,k=>by
  have h:∃b,fS k (r :: B)=fS b B∧fT b k=true∧fT b (bj r.1)=true:=by
   refine ⟨if Op.bytesLess (bj r.1).toList k.toList then bj r.1 else k,rfl,?_⟩;cases hl:Op.bytesLess (bj r.1).toList k.toList with
   | true=>exact ⟨by simp only [if_true];unfold fT;rw [hl];rfl,by simp only [if_true];exact fd _⟩
   | false=>exact ⟨by simp only [I',if_false];exact fd _,by simp only [I',if_false];rw [dQ,hl];rfl⟩
  obtain ⟨b,h1,h2,h3⟩:=h;obtain ⟨h4,h5⟩:=zF B b;rw [h1];refine ⟨cW h4 h2,fun x hx=>?_⟩;rcases GZ.1 hx with rfl | hx
  · exact cW h4 h3
  · exact h5 x hx
theorem wg:∀(B:List af) (k:ByteArray),fS k B=k∨∃r ∈ B,fS k B=bj r.1
 | [],k=>.inl rfl
 | r :: B,k=>by
  have e:fS k (r :: B)=fS (if Op.bytesLess (bj r.1).toList k.toList then bj r.1 else k) B:=rfl
  rw [e]
  rcases wg B (if Op.bytesLess (bj r.1).toList k.toList then bj r.1 else k) with h | ⟨x,hx,h⟩
  · rw [h]
    split
    · exact .inr ⟨r,by simp,rfl⟩
    · exact .inl rfl
  · exact .inr ⟨x,He _ hx,h⟩
theorem wM:∀(B:List af) (k:ByteArray),fT k (dG k B)=true∧∀r ∈ B,fT (aT r.1) (dG k B)=true
 | [],k=>⟨fd k,fun r hr=>by cases hr⟩
 | r :: B,k=>by
  have h:∃b,dG k (r :: B)=dG b B∧fT k b=true∧fT (aT r.1) b=true:=by
   refine ⟨if oQ (aT r.1) k then aT r.1 else k,rfl,?_⟩;rw [uF];cases hl:Op.bytesLess k.toList (aT r.1).toList with
   | true=>exact ⟨by simp only [if_true];unfold fT;rw [hl];rfl,by simp only [if_true];exact fd _⟩
   | false=>exact ⟨by simp only [I',if_false];exact fd _,by simp only [I',if_false];rw [dQ,hl];rfl⟩
  obtain ⟨b,h1,h2,h3⟩:=h;obtain ⟨h4,h5⟩:=wM B b;rw [h1];refine ⟨cW h2 h4,fun x hx=>?_⟩;rcases GZ.1 hx with rfl | hx
  · exact cW h3 h4
  · exact h5 x hx
theorem tL:∀(B:List af) (k:ByteArray),dG k B=k∨∃r ∈ B,dG k B=aT r.1
 | [],k=>.inl rfl
 | r :: B,k=>by
  have e:dG k (r :: B)=dG (if oQ (aT r.1) k then aT r.1 else k) B:=rfl
  rw [e]
  rcases tL B (if oQ (aT r.1) k then aT r.1 else k) with h | ⟨x,hx,h⟩
  · rw [h]
    split
    · exact .inr ⟨r,by simp,rfl⟩
    · exact .inl rfl
  · exact .inr ⟨x,He _ hx,h⟩
structure bh (w:World) (R:Nat) (a:Option Addr) (len cap P:Nat):Prop where
 c0:w.cell? ⟨R,0,none⟩=some (.slice a len cap)
 c1:w.cell? ⟨R,1,none⟩=some (iT P)
 f1:w.frozen? ⟨R,1,none⟩=false
 few:len≤2000
 two:∀o,w.cell? ⟨R,o+2,none⟩=none
 bytes:len=0∨∃b off,a=some ⟨b,off,none⟩∧b≠R∧b<w.heap.size∧∀i,i<len→∃z:Nat,z≤255∧w.cell? ⟨b,off+i,none⟩=some (.int .u8 z)
theorem bh.lt {R:Nat} {a:Option Addr} {P:Nat} (h:bh w R a len cap P):R<w.heap.size:=GK w _ h.c0
theorem ae {a b c:World} {R:Option Nat} (h:a.grownBy b R) (k:b.grownBy c R):a.grownBy c R :=
 ⟨k.os.trans h.os,k.tape.trans h.tape,k.output.trans h.output,GU h.size k.size,fun i hi hn=>(k.block i (E' hi h.size) hn).trans (h.block i hi hn)⟩
theorem au {R:Nat} (hg:w.grownBy w' (some R)) {x:Addr} (hx:x.block<w.heap.size) (hn:x.block≠R):w'.cell? x=w.cell? x :=
 Hz (hg.block x.block hx (fun e=>hn (by cases e;rfl)))
theorem bh.below {R:Nat} {a:Option Addr} {P:Nat} (h:bh w R a len cap P) (hb:Bl w w'):bh w' R a len cap P where
 c0:=cell_later hb h.c0
 c1:=cell_later hb h.c1
 f1:=(hb.frozen (p:=⟨R,1,none⟩) h.lt).trans h.f1
 few:=h.few
 two:=fun o=>(Hz (a:=⟨R,o+2,none⟩) (hb.block R h.lt)).trans (h.two o)
 bytes:=by
  rcases h.bytes with h0 | ⟨b,d,ha,g,e,hc⟩
  · exact Or.inl h0
  · exact Or.inr ⟨b,d,ha,g,E' e hb.size,fun i hi=>by obtain ⟨z,hz,f⟩:=hc i hi;exact ⟨z,hz,cell_later hb f⟩⟩
theorem bh.next {R:Nat} {a:Option Addr} {P:Nat} (h:bh w R a len cap P):bh (w.setCell ⟨R,1,none⟩ (iT ((P:Int)+1))) R a len cap (P+1):=by
 refine ⟨?_,?_,?_,h.few,fun o=>?_,?_⟩
 · rw [GM _ _ _ _ (by simp)];exact h.c0
 · exact G3 _ _ _ (by rw [h.c1];rfl)
 · rw [G8];exact h.f1
 · rw [GM _ _ _ _ (by simp)];exact h.two o
 · rcases h.bytes with h0 | ⟨b,f,ha,d,g,hc⟩
   · exact Or.inl h0
   · refine Or.inr ⟨b,f,ha,d,by simpa [World.setCell] using g,fun i hi=>?_⟩;obtain ⟨z,hz,m⟩:=hc i hi;exact ⟨z,hz,by rw [GM _ _ _ _ (fun e=>d (congrArg Addr.block e).symm)];exact m⟩
theorem jJ (w:World) (R:Nat) (v:Value):w.grownBy (w.setCell ⟨R,1,none⟩ v) (some R) :=
 ⟨rfl,rfl,rfl,by simp [World.setCell],fun k _ hk=>Below.heap_setCell _ _ _ _ (fun e=>hk (by rw [e]))⟩
theorem aJ {R:Option Nat} (h:Bl w w'):w.grownBy w' R:=⟨h.os,h.tape,h.output,h.size,fun k hk _=>h.block k hk⟩
def Fo (n q:Int):Prop:=0≤q∧(1≤n→q<n)
theorem Eo (a b:Nat) (ha:a<4611686018427387904) (hb:b<4611686018427387904):bits .xor .i64 (a:Int) (b:Int)=((a ^^^ b:Nat):Int):=by
 have hx:a ^^^ b<2 ^ 62:=Nat.xor_lt_two_pow (by omega) (by omega);have h1:(BitVec.ofInt 64 (a:Int)).toNat=a:=by
  rw [BitVec.ofInt_natCast,BitVec.toNat_ofNat];exact Nat.mod_eq_of_lt (by omega)
 have h2:(BitVec.ofInt 64 (b:Int)).toNat=b:=by
  rw [BitVec.ofInt_natCast,BitVec.toNat_ofNat];exact Nat.mod_eq_of_lt (by omega)
 show IntKind.i64.wrap ((BitVec.ofInt 64 (a:Int) ^^^ BitVec.ofInt 64 (b:Int)).toNat:Int)=_
 rw [BitVec.toNat_xor,h1,h2,Hg];omega
theorem jr (n:Int) (h0:0≤n) (h1:n≤9223372036854775807):wrap64 n=n:=by
 unfold wrap64;omega
theorem C8 (z y P len:Nat) (n:Int) (hz:z≤255) (hy:y≤255) (f:P<100000) (hn:1≤n) :
 Fo n ((bits BinOp.xor IntKind.i64 (wrap64 (↑z*131+↑y*1117+↑P*29+wrap64 (wrap64 (↑P / ↑len)*53))) (wrap64 ((wrap64 (↑z*131+↑y*1117+↑P*29+wrap64 (wrap64 (↑P / ↑len)*53))).tdiv 64))).tmod n):=by
 have hq:=(Int.natCast_ediv P len).symm;have b:P / len≤P:=Nat.div_le_self _ _;rw [hq];generalize P / len=Q at b;rw [jr (Q:Int) (by omega) (by omega),jr ((Q:Int)*53) (by omega) (by omega),jr _ (by omega) (by omega)];have e:(↑z*131+↑y*1117+↑P*29+↑Q*53:Int)=((z*131+y*1117+P*29+Q*53:Nat):Int):=by omega
 rw [e];have d:z*131+y*1117+P*29+Q*53<100000000:=by omega
 generalize z*131+y*1117+P*29+Q*53=X at d;have e2:((X:Int).tdiv 64)=((X / 64:Nat):Int):=by
  rw [Int.tdiv_eq_ediv_of_nonneg (by omega)];omega
 rw [e2,jr _ (by omega) (by omega),Eo _ _ (by omega) (by omega)];generalize X ^^^ X / 64=Y;rw [Int.tmod_eq_emod_of_nonneg (by omega)];exact ⟨Int.emod_nonneg _ (by omega),fun _=>Int.emod_lt_of_pos _ (by omega)⟩
theorem bU {row:Option Nat} (hg:w.grownBy w' row) {x:Addr} (hx:x.block<w.heap.size) (hn:some x.block≠row):w'.frozen? x=w.frozen? x:=IT (hg.block x.block hx hn)
theorem qy {base e size k:Nat} {v:Value} {xs:List Value} (h:w.ownsRow base e size v k xs) (b:¬v=nZ):∃g cap,v=sL g k cap:=by
 rcases h.2 with ⟨h',_⟩ | ⟨g,cap,_,h',_⟩
 · exact absurd h' b
 · exact ⟨g,cap,h'⟩
theorem aE {P:Program} {b:Array Oper} {o:Oper} {a:Act} {w:World} {K:Act→World→Prop} {Q:Exit→Act→World→Prop} {E:Prop}
 (hg:o.guard=none) (s x:Operand) (t:TypeId) (hop:o.op=Op.call { callee:=Callee.builtin Builtin.append,args:=#[s,x],argTypes:=#[t,t] })
 (base:Nat) (e:TypeId) (i:TypeInfo) (z:Value) (size bytes:Nat) (h1:P.underlying t=some (.slice e)) (h2:P.info? e=some i) (h3:i.zero=some z) (h4:i.size=size) (h5:i.bytes=bytes) (h6:z.cells.size=size) (h7:0<size)
 (v:Value) (n:Nat) (olds:List Value) (hs:a.eval s=v) (hown:w.ownsRow base e size v n olds)
 (ad:Addr) (m c:Nat) (news:List Value) (hx:a.eval x=.slice (some ad) m c) (hn:news.length=m*size) (hc:∀j u,news[j]?=some u→w.cell? (ad.add j)=some u) (h1c:∀u ∈ news,u.oneCell'=true)
 (b1:n+m≤maxLen) (b2:(n+m)*bytes≤140737488355328) (b3:base≤w.heap.size)
 (hK:∀d w',w'.ownsRow base e size d (n+m) (olds++news)→w.grownBy w' v.ownBlock→(d=nZ ↔ v=nZ∧m=0)→K (a.put o.dst d) w') :
 if Region.wanted o (yielded b a.tmps)=true then Oper.wp P o a w K Q else E:=by
 have hw:Region.wanted o (yielded b a.tmps)=true:=by simp [Region.wanted,hg]
 rw [if_pos hw];obtain ⟨d,w',f,g,r2,r3⟩:=run_append_own (P:=P) w base t o.type e i z size bytes h1 h2 h3 h4 h5 h6 h7 v n olds hown ad m c news hn hc h1c b1 b2 b3;unfold Oper.wp;simp [execOp,hop,resolve,invoke,builtin,hs,hx,f,Result.andThen];exact hK d w' g r2 r3
end Go.Proofs.YtpobkmjicbobdaaGreat
