/- Walks. -/
import Derived.Test.YtpobkmjicbobdaaGreatBD04
import Derived.Deep.RegionLaw
namespace Go.Proofs.YtpobkmjicbobdaaGreat
set_option maxRecDepth 100000
set_option maxHeartbeats 40000000
open Go.RowKit
variable {L X:List ac} {cap i j len:Nat} {k1 k2 key:ByteArray} {q seq:Int} {r:af} {w w':World}
def vu (B:List af):Bool:=decide ((B.length:Int)≤4) && !eS B
def p9 (B:List af):Bool:=decide ((B.length:Int)≤8) && (!eS B && bi B)
def bu (A B C:List af):Bool:=vu A && (p9 B && p9 C)
theorem Db (w:World) (a0 a1 a2:Option Addr) (b c0 d c1 n2 c2:Nat):(Instr.index 80 (.agg #[.slice a0 b c0,.slice a1 d c1,.slice a2 n2 c2]) (iT 0)).run Tryz.prog w=.ok (.slice a0 b c0) w:=by
 simp [Instr.index,run_underlying Tryz.underlying80,asIntOf,go_sem,Tryz.isAgg61,Tryz.sizeOf61,part]
theorem Da (w:World) (a0 a1 a2:Option Addr) (d c0 b c1 n2 c2:Nat):(Instr.index 80 (.agg #[.slice a0 d c0,.slice a1 b c1,.slice a2 n2 c2]) (iT 1)).run Tryz.prog w=.ok (.slice a1 b c1) w:=by
 simp [Instr.index,run_underlying Tryz.underlying80,asIntOf,go_sem,Tryz.isAgg61,Tryz.sizeOf61,part]
theorem C9 (w:World) (a0 a1 a2:Option Addr) (d c0 b c1 n2 c2:Nat):(Instr.index 80 (.agg #[.slice a0 d c0,.slice a1 b c1,.slice a2 n2 c2]) (iT 2)).run Tryz.prog w=.ok (.slice a2 n2 c2) w:=by
 simp [Instr.index,run_underlying Tryz.underlying80,asIntOf,go_sem,Tryz.isAgg61,Tryz.sizeOf61,part]
theorem yj (lo:Nat) (q:Int) (am ak:Option Addr) (nm cm nk ck:Nat) (a0 a1 a2:Option Addr) (u c0 t c1 n2 c2:Nat) (A B C:List af) (w:World) (h0:aw lo w a0 u c0 A) (h1:aw lo w a1 t c1 B) (h2:aw lo w a2 n2 c2 C) :
 Calls Tryz.prog 197 #[.agg #[iT q,.slice am nm cm,.slice a0 u c0,.slice a1 t c1,.slice a2 n2 c2,.slice ak nk ck]] w fun e w'=>e=.returned (.bool (bu A B C))∧Bl w w':=by
 have a4:=az h0;have Z:=az h1;have U:=az h2;have I:Eq (A.length=u):=h0.length;have Y:Eq (B.length=t):=h1.length;have T:Eq (C.length=n2):=h2.length;clear h0 h1 h2;go_enter Tryz.func197,Tryz.ntmps197
 go_upto_region 1 with fail
 obtain ⟨W,E⟩:=aF (w.alloc (.cells #[iT q,.slice am nm cm,.slice a0 u c0,.slice a1 t c1,.slice a2 n2 c2,.slice ak nk ck] 82));have kW:Bl w W:=by rw [E];exact bZ
 have x2:W.cell? ⟨w.heap.size,2,none⟩=some (.slice a0 u c0):=by rw [E];simp
 have x3:W.cell? ⟨w.heap.size,3,none⟩=some (.slice a1 t c1):=by rw [E];simp
 have x4:W.cell? ⟨w.heap.size,4,none⟩=some (.slice a2 n2 c2):=by rw [E];simp
 have zX:=Gf _ _ x2;have b:Eq (∀wr,Bl W wr→Bl w wr):=fun wr k=>kW.trans (k.mono kW.size)
 rw [← E];clear E kW;go_wp2;go_loopw [7] (fun iv wr=>∃i:Nat,i≤3∧iv=iT i∧Bl W wr∧(1≤i→vu A=true)∧(2≤i→p9 B=true)∧(3≤i→p9 C=true)) (fun iv _=>3 - (intOf iv).toNat)
 case atStart=>exact ⟨0,by omega,rfl,Below.refl _ _,fun h=>absurd h (by omega),fun h=>absurd h (by omega),fun h=>absurd h (by omega)⟩
 case round =>
  obtain ⟨i,hi,rfl,hb,Q,J,F⟩:=hrel;have g:Eq (Bl W wr):=hb;have y:Eq (1≤i→vu A=true):=Q;have N:Eq (2≤i→p9 B=true):=J;have a5:Eq (3≤i→p9 C=true):=F;clear hb Q J F;have x:i=0∨i=1∨i=2∨i=3:=by omega
  rcases x with D | D | D | D
  · skip
    subst D;by_cases hl:(4:Int)<(u:Int)
    · have d:Eq (bu A B C=false):=by
       have h1:decide ((A.length:Int)≤4)=false:=decide_eq_false (by have:=I.o;omega);show bu A B C=false
       unfold bu vu p9;rw [h1];simp
      go_wp2_with fail
      rw [Db];go_wp2_with fail
      refine (s8 wr).mono ?_;rintro e w' ⟨rfl,rfl⟩;go_wp2;go_ret;exact ⟨ag d.o.symm,b.o _ g.o⟩
    have K:Eq (decide ((A.length:Int)≤4)=true):=decide_eq_true (by have:=I.o;omega);obtain ⟨O,hO⟩:=aF (eS A);go_wp2_with fail
    rw [Db];go_wp2_with fail
    refine (s8 wr).mono ?_;rintro e w' ⟨rfl,rfl⟩;go_wp2_with fail
    refine (jX lo a0 u c0 A _ (a4.o.keep (b.o _ g.o))).mono ?_;rw [← hO];rintro e R ⟨rfl,f⟩;have m:Eq (Bl W R):=g.o.trans (f.mono g.o.size);clear f;cases hOv:O with
    | true =>
     have d:Eq (bu A B C=false):=by
      have h1:eS A=true:=by rw [← hO,hOv]
      show bu A B C=false
      unfold bu vu p9;rw [h1];simp
     go_wp2;go_ret;exact ⟨ag d.o.symm,b.o _ m.o⟩
    | false =>
     have d:Eq (vu A=true):=by
      have h1:eS A=false:=by rw [← hO,hOv]
      show vu A=true
      unfold vu;rw [K.o,h1];rfl
     go_wp2;go_roundw
     case rel=>exact ⟨1,by omega,rfl,m.o,fun _=>d.o,fun h=>absurd h (by omega),fun h=>absurd h (by omega)⟩
     case measure=>simp [intOf]
  · skip
    subst D;by_cases hl:(8:Int)<(t:Int)
    · have d:Eq (bu A B C=false):=by
       have h1:decide ((B.length:Int)≤8)=false:=decide_eq_false (by have:=Y.o;omega);show bu A B C=false
       unfold bu vu p9;rw [h1];simp
      go_wp2_with fail
      rw [Da];go_wp2_with fail
      refine (lm 1 wr (by omega)).mono ?_;rintro e w' ⟨rfl,rfl⟩;go_wp2;go_ret;exact ⟨ag d.o.symm,b.o _ g.o⟩
    have K:Eq (decide ((B.length:Int)≤8)=true):=decide_eq_true (by have:=Y.o;omega);obtain ⟨O,hO⟩:=aF (eS B);go_wp2_with fail
    rw [Da];go_wp2_with fail
    refine (lm 1 wr (by omega)).mono ?_;rintro e w' ⟨rfl,rfl⟩;go_wp2_with fail
    refine (jX lo a1 t c1 B _ (Z.o.keep (b.o _ g.o))).mono ?_;rw [← hO];rintro e R ⟨rfl,f⟩;have m:Eq (Bl W R):=g.o.trans (f.mono g.o.size);clear f;cases hOv:O with
    | true =>
     have d:Eq (bu A B C=false):=by
      have h1:eS B=true:=by rw [← hO,hOv]
      show bu A B C=false
      unfold bu vu p9;rw [h1];simp
     go_wp2;go_ret;exact ⟨ag d.o.symm,b.o _ m.o⟩
    | false =>
     have n:Eq (eS B=false):=by show _=_;rw [← hO,hOv]
     obtain ⟨G,hG⟩:=aF (bi B);go_wp2_with fail
     refine (td lo a1 t c1 B _ (Z.o.keep (b.o _ m.o)) (fun r hr=>(bD (mQ n.o r hr)).1)).mono ?_;rw [← hG];rintro e w2 ⟨rfl,s⟩;have H:Eq (Bl W w2):=m.o.trans (s.mono m.o.size);clear s;cases hGv:G with
     | false =>
      have d:Eq (bu A B C=false):=by
       have h1:bi B=false:=by rw [← hG,hGv]
       show bu A B C=false
       unfold bu vu p9;rw [h1];simp
      go_wp2;go_ret;exact ⟨ag d.o.symm,b.o _ H.o⟩
     | true =>
      have d:Eq (p9 B=true):=by
       have h1:bi B=true:=by rw [← hG,hGv]
       show p9 B=true
       unfold p9;rw [K.o,n.o,h1];rfl
      go_wp2;go_roundw
      case rel=>exact ⟨2,by omega,rfl,H.o,fun _=>y.o (by omega),fun _=>d.o,fun h=>absurd h (by omega)⟩
      case measure=>simp [intOf]
  · skip
    subst D;by_cases hl:(8:Int)<(n2:Int)
    · have d:Eq (bu A B C=false):=by
       have h1:decide ((C.length:Int)≤8)=false:=decide_eq_false (by have:=T.o;omega);show bu A B C=false
       unfold bu vu p9;rw [h1];simp
      go_wp2_with fail
      rw [C9];go_wp2_with fail
      refine (lm 2 wr (by omega)).mono ?_;rintro e w' ⟨rfl,rfl⟩;go_wp2;go_ret;exact ⟨ag d.o.symm,b.o _ g.o⟩
    have K:Eq (decide ((C.length:Int)≤8)=true):=decide_eq_true (by have:=T.o;omega);obtain ⟨O,hO⟩:=aF (eS C);go_wp2_with fail
    rw [C9];go_wp2_with fail
    refine (lm 2 wr (by omega)).mono ?_;rintro e w' ⟨rfl,rfl⟩;go_wp2_with fail
    refine (jX lo a2 n2 c2 C _ (U.o.keep (b.o _ g.o))).mono ?_;rw [← hO];rintro e R ⟨rfl,f⟩;have m:Eq (Bl W R):=g.o.trans (f.mono g.o.size);clear f;cases hOv:O with
    | true =>
     have d:Eq (bu A B C=false):=by
      have h1:eS C=true:=by rw [← hO,hOv]
      show bu A B C=false
      unfold bu vu p9;rw [h1];simp
     go_wp2;go_ret;exact ⟨ag d.o.symm,b.o _ m.o⟩
    | false =>
     have n:Eq (eS C=false):=by show _=_;rw [← hO,hOv]
     obtain ⟨G,hG⟩:=aF (bi C);go_wp2_with fail
     refine (td lo a2 n2 c2 C _ (U.o.keep (b.o _ m.o)) (fun r hr=>(bD (mQ n.o r hr)).1)).mono ?_;rw [← hG];rintro e w2 ⟨rfl,s⟩;have H:Eq (Bl W w2):=m.o.trans (s.mono m.o.size);clear s;cases hGv:G with
     | false =>
      have d:Eq (bu A B C=false):=by
       have h1:bi C=false:=by rw [← hG,hGv]
       show bu A B C=false
       unfold bu vu p9;rw [h1];simp
      go_wp2;go_ret;exact ⟨ag d.o.symm,b.o _ H.o⟩
     | true =>
      have d:Eq (p9 C=true):=by
       have h1:bi C=true:=by rw [← hG,hGv]
       show p9 C=true
       unfold p9;rw [K.o,n.o,h1];rfl
      go_wp2;go_roundw
      case rel=>exact ⟨3,by omega,rfl,H.o,fun _=>y.o (by omega),fun _=>N.o (by omega),fun _=>d.o⟩
      case measure=>simp [intOf]
  · subst D;have HC:Eq (bu A B C=true):=by
     show bu A B C=true
     unfold bu;rw [y.o (by omega),N.o (by omega),a5.o (by omega)];rfl
    go_wp2;go_ret;exact ⟨ag HC.o.symm,b.o _ g.o⟩
def pZ (x y:ac):Prop:=x.1=y.1→y.2.1<x.2.1
theorem lS (x y:ac):(!gM x y)=true ↔ pZ x y:=by
 unfold gM pZ;by_cases h:x.1=y.1
 · simp [h]
 · simp [h]
def Ov (A B:List ac):Prop:=∀x ∈ A,∀y ∈ B,pZ x y
theorem wL {A B:List ac}:j9 A B=true ↔ Ov A B:=by
 unfold j9 Ov;simp only [GL,lS]
theorem zA {P:List (List ac)}:iZ P=true ↔ P.Pairwise Ov:=by
 rw [GO];unfold iZ;simp only [GL,G7];constructor
 · intro h i j hi d b;have:=h i hi j d;rw [decide_eq_true b,oq (j' hi) (j' d)] at this;exact wL.1 (by simpa using this)
 · intro h i hi j d;by_cases b:i<j
   · rw [decide_eq_true b,oq (j' hi) (j' d),wL.2 (h i j hi d b)];rfl
   · rw [decide_eq_false b];rfl
def dJ (q:Int):List ac→Bool
 | []=>true
 | e :: L=>dJ q L && (decide (1≤e.2.1) && (decide (e.2.1≤q) && L.all (fun y=>!gM e y)))
theorem ld (q:Int) (L:List ac):dJ q L=true ↔ L.Pairwise pZ∧∀e ∈ L,1≤e.2.1∧e.2.1≤q:=by
 induction L with
 | nil=>simp [dJ]
 | cons e L b =>
  simp only [dJ,Gx,b,decide_eq_true_eq,GL,lS,GG,Gz];constructor
  · rintro ⟨⟨h1,h2⟩,h3,h4,h5⟩;refine ⟨⟨h5,h1⟩,?_⟩;rintro x (rfl | hx)
    · exact ⟨h3,h4⟩
    · exact h2 x hx
  · rintro ⟨⟨h5,h1⟩,h2⟩;exact ⟨⟨h1,fun x hx=>h2 x (.inr hx)⟩,(h2 e (.inl rfl)).1,(h2 e (.inl rfl)).2,h5⟩
def oY:List ac→ByteArray→Int
 | [],_=>0
 | e :: L,k=>if e.1=k then e.2.1 else oY L k
theorem uD (e:ac) (L:List ac) (k:ByteArray):oY (e :: L) k=if e.1=k then e.2.1 else oY L k:=rfl
theorem xd {q:Int} (e:ac):∀L:List ac,dJ q L=true→(oY L e.1<e.2.1 ↔ (1≤e.2.1∧∀y ∈ L,pZ e y))
 | [],_=>by simp [oY];omega
 | f :: L,h=>by
  have hn:=(ld q (f :: L)).1 h
  rw [GG] at hn
  have b:=xd e L (by simp only [dJ,Gx] at h;exact h.1)
  rw [uD]
  by_cases hk:f.1=e.1
  · rw [if_pos hk]
    have hf:=(hn.2 f (GI ..)).1
    constructor
    · intro h1
      refine ⟨by omega,?_⟩
      intro y hy
      rw [Gz] at hy
      rcases hy with rfl | hy
      · intro _;exact h1
      · intro e1
        have:=hn.1.1 y hy (hk.trans e1)
        omega
    · rintro ⟨_,h2⟩
      exact h2 f (GI ..) hk.symm
  · rw [if_neg hk,b]
    constructor
    · rintro ⟨h1,h2⟩
      refine ⟨h1,?_⟩
      intro y hy
      rw [Gz] at hy
      rcases hy with rfl | hy
      · intro e1;exact absurd e1.symm hk
      · exact h2 y hy
    · rintro ⟨h1,h2⟩
      exact ⟨h1,fun y hy=>h2 y (GM _ hy)⟩
theorem xQ {e:ac} (h:dJ q L=true) (h1:oY L e.1<e.2.1) (h2:e.2.1≤q):dJ q (e :: L)=true:=by
 have:=(xd e L h).1 h1;simp only [dJ,h,Bool.true_and,Gx,decide_eq_true_eq,GL,lS];exact ⟨this.1,h2,this.2⟩
theorem xP {e:ac} {A:List ac} (h:¬(oY L e.1<e.2.1∧e.2.1≤q)):dJ q (A++e :: L)=false:=by
 induction A with
 | nil =>
  rw [GU,Ih];intro h1;have hL:dJ q L=true:=by simp only [dJ,Gx] at h1;exact h1.1
  have h3:=(ld q _).1 h1;rw [GG] at h3;have h4:=h3.2 e (GI ..);exact h ⟨(xd e L hL).2 ⟨h4.1,h3.1.1⟩,h4.2⟩
 | cons a A b =>
  rw [GY,dJ,b];rfl
theorem jl (h:aI L=true):L.Pairwise pZ:=by
 rw [GO];intro i j hi d b hk;rcases ef (fu h b (j' hi) (j' d)) with h1 | h1
 · rw [hk,cE] at h1;cases h1
 · exact h1.2
theorem kO (h:aI L=true):∀e ∈ L,1≤e.2.1:=by
 intro e d;obtain ⟨j,b,rfl⟩:=GT d;exact (mL (eC h (j' b))).1
theorem kQ (h:aI L=true) {e:ac} (d:e ∈ L):bh L=e.1∨Op.bytesLess (bh L).toList e.1.toList=true:=by
 obtain ⟨j,b,rfl⟩:=GT d;obtain ⟨f,hf,hl⟩:=mD (L:=L) (by omega);rw [hl];by_cases h0:j=0
 · subst h0;rw [j' b] at hf;cases hf;exact .inl rfl
 · rcases ef (fu h (Nat.pos_of_ne_zero h0) hf (j' b)) with h1 | h1
   · exact .inr (by rw [GS,GS];exact h1)
   · exact .inl h1.1
theorem lQ (h:aI L=true) {e:ac} (d:e ∈ L):e.1=aQ L∨Op.bytesLess e.1.toList (aQ L).toList=true:=by
 obtain ⟨j,b,rfl⟩:=GT d;obtain ⟨f,hf,hl⟩:=iV (L:=L) (by omega);rw [hl];by_cases h0:j=L.length - 1
 · subst h0;rw [j' b] at hf;cases hf;exact .inl rfl
 · rcases ef (fu h (by omega:j<L.length - 1) (j' b) hf) with h1 | h1
   · exact .inr (by rw [GS,GS];exact h1)
   · exact .inl h1.1
theorem jm (h:aI L=true) (hn:1≤L.length):bh L=aQ L∨Op.bytesLess (bh L).toList (aQ L).toList=true:=by
 obtain ⟨f,hf,hl⟩:=iV hn;rw [hl];exact kQ h (Gk hf)
theorem wJ {B:List af} (h:bi B=true) {i:Nat} {p r:af} (hp:B[i]?=some p) (hr:B[i+1]?=some r):oo p.1 r.1=true:=by
 unfold bi at h;have:=(GL.1 h) (i+1) (G7.2 (F'.1 hr).1);unfold lG iE at this;simp only [hr,hp] at this;exact this
theorem lp {B:List af} (h:bi B=true) (b:∀r ∈ B,cP r.1 r.2=true):∀(d i:Nat) {p r:af},B[i]?=some p→B[i+1+d]?=some r→Op.bytesLess (aQ p.1).toList (bh r.1).toList=true
 | 0,i,p,r,hp,hr=>wJ h hp hr
 | d+1,i,p,r,hp,hr=>by
  obtain ⟨hl,_⟩:=F'.1 hr
  have hm:B[i+1+d]?=some (B[i+1+d]'(by omega)):=j' _
  have h1:=lp h b d i hp hm
  have h2:=wJ h hm hr
  have h3:=bD (b _ (Gk hm))
  unfold oo at h2
  rcases jm h3.2.2.1 h3.1 with e | e
  · rw [e] at h1;exact cG _ _ _ h1 h2
  · exact cG _ _ _ (cG _ _ _ h1 e) h2
theorem mR {B:List af} (h:bi B=true) (b:∀r ∈ B,cP r.1 r.2=true):(B.reverse.map (·.1)).Pairwise Ov:=by
 rw [List.pairwise_map,List.pairwise_reverse,GO];intro i j hi g m x hx y hy hk;exfalso
 have h1:=lp h b (j - i - 1) i (j' hi) (by rw [show i+1+(j - i - 1)=j by omega];exact j' g);have d:=(bD (b _ (GQ hi))).2.2.1;have f:=(bD (b _ (GQ g))).2.2.1;have h2:Op.bytesLess y.1.toList (bh B[j].1).toList=true:=by
  rcases lQ d hy with e | e
  · rw [e];exact h1
  · exact cG _ _ _ e h1
 have h3:Op.bytesLess y.1.toList x.1.toList=true:=by
  rcases kQ f hx with e | e
  · rw [← e];exact h2
  · exact cG _ _ _ h2 e
 rw [hk,cE] at h3;cases h3
def dm (M:List ac) (A B C:List af):List (List ac):=M :: (A.reverse.map (·.1)++(B.reverse.map (·.1)++C.reverse.map (·.1)))
theorem gF {B:List af}:Ov X (bo B) ↔ ∀b ∈ B.reverse.map (·.1),Ov X b:=by
 unfold Ov bo;simp only [IA,G9,IG];constructor
 · rintro h b ⟨r,hr,rfl⟩ x hx y hy;exact h x hx y ⟨r,hr,hy⟩
 · rintro h x hx y ⟨r,hr,hy⟩;exact h r.1 ⟨r,hr,rfl⟩ x hx y hy
theorem ze {B:List af}:Ov (bo B) X ↔ ∀b ∈ B.reverse.map (·.1),Ov b X:=by
 unfold Ov bo;simp only [IA,G9,IG];constructor
 · rintro h b ⟨r,hr,rfl⟩ x hx y hy;exact h x ⟨r,hr,hx⟩ y hy
 · rintro h x ⟨r,hr,hx⟩ y hy;exact h r.1 ⟨r,hr,rfl⟩ x hx y hy
theorem oM {M:List ac} {A B C:List af} (hB:(B.reverse.map (·.1)).Pairwise Ov) (hC:(C.reverse.map (·.1)).Pairwise Ov):(eT M [A,B,C]).Pairwise Ov ↔ (dm M A B C).Pairwise Ov:=by
 unfold eT dm;simp only [List.headD_cons,List.drop_succ_cons,List.drop_zero,If,IB,GY,GG,Hh,Gw,Gz,GZ,or_false,List.Pairwise.nil,and_true,false_implies,implies_true];constructor
 · rintro ⟨h1,h2,h3,h4⟩;have d:=h3 _ rfl;refine ⟨?_,h2,⟨hB,hC,?_⟩,?_⟩
   · rintro a (h | h | h)
     · exact h1 a (.inl h)
     · exact gF.1 (h1 _ (.inr (.inl rfl))) a h
     · exact gF.1 (h1 _ (.inr (.inr rfl))) a h
   · intro b hb c hc;exact gF.1 (ze.1 d b hb) c hc
   · rintro a ha b (hb | hb)
     · exact gF.1 (h4 a ha _ (.inl rfl)) b hb
     · exact gF.1 (h4 a ha _ (.inr rfl)) b hb
 · rintro ⟨h1,h2,⟨_,_,h3⟩,h4⟩;refine ⟨?_,h2,?_,?_⟩
   · rintro a (h | h | h)
     · exact h1 a (.inl h)
     · rw [h];exact gF.2 (fun b hb=>h1 b (.inr (.inl hb)))
     · rw [h];exact gF.2 (fun b hb=>h1 b (.inr (.inr hb)))
   · intro c hc;rw [hc];exact ze.2 (fun b hb=>gF.2 (fun c hc=>h3 b hb c hc))
   · rintro a ha b (hb | hb)
     · rw [hb];exact gF.2 (fun c hc=>h4 a ha c (.inl hc))
     · rw [hb];exact gF.2 (fun c hc=>h4 a ha c (.inr hc))
theorem dh {B:List af} {d:Int} {e:Bool}:dF B d e q=true ↔ (B.length:Int)≤d∧eS B=false∧(∀r ∈ B,b9 r.1 q=true)∧(e=true→bi B=true):=by
 unfold dF eS bi;simp only [Gx,decide_eq_true_eq,GL,G7];constructor
 · rintro ⟨h1,h2⟩;refine ⟨h1,?_,?_,?_⟩
   · rw [Ix];intro r hr;obtain ⟨j,b,rfl⟩:=GT hr;have:=h2 j b;rw [dS (j' b),Gx] at this;simp [this.1]
   · intro r hr;obtain ⟨j,b,rfl⟩:=GT hr;have:=h2 j b;rw [dS (j' b),Gx,Gx] at this;exact this.2.1
   · intro hap j b;have:=h2 j b;rw [dS (j' b),Gx,Gx,hap] at this;unfold lG;rw [j' b];simpa using this.2.2
 · rintro ⟨h1,h2,h3,h4⟩;refine ⟨h1,fun j b=>?_⟩;rw [Ix] at h2;have e1:=h2 B[j] (GQ b);have e2:=h3 B[j] (GQ b);rw [dS (j' b),e2];have f:cP B[j].1 B[j].2=true:=by simpa using e1
   rw [f];cases e with
   | false=>rfl
   | true =>
    have:=h4 rfl j b;unfold lG at this;rw [j' b] at this;simpa using this
theorem dr {B:List af} (h:eS B=false):∀r ∈ B,cP r.1 r.2=true:=by
 unfold eS at h;rw [Ix] at h;intro r hr;simpa using h r hr
theorem ku (q:Int) (M:List ac) (A B C:List af) (S:List Int) :
 aT q M [A,B,C] S=true ↔ 0≤q∧q≤100000∧bX S q=true∧M.length≤60∧aI M=true∧bu A B C=true∧dJ q (dm M A B C).flatten=true:=by
 have s:bu A B C=true ↔ ((A.length:Int)≤4∧eS A=false)∧((B.length:Int)≤8∧eS B=false∧bi B=true)∧((C.length:Int)≤8∧eS C=false∧bi C=true):=by
  unfold bu vu p9;simp only [Gx,decide_eq_true_eq,II]
 have o:aT q M [A,B,C] S=true ↔ 0≤q∧q≤100000∧M.length≤60∧aI M=true∧b9 M q=true∧bX S q=true∧(dF A 4 false q=true∧dF B 8 true q=true∧dF C 8 true q=true)∧iZ (eT M [A,B,C])=true:=by
  unfold aT fq;simp only [Gx,decide_eq_true_eq,GR,Hp,Nat.reduceAdd,true_and]
 rw [o,s,dh,dh,dh,ld,zA,List.pairwise_flatten];have n:∀{Z:List af} {l:List ac},l ∈ Z.reverse.map (·.1)→∃r ∈ Z,r.1=l:=by
  intro Z l hl;rw [G9] at hl;obtain ⟨r,hr,rfl⟩:=hl;exact ⟨r,IG.1 hr,rfl⟩
 have f:∀{L:List ac},b9 L q=true ↔ ∀e ∈ L,e.2.1≤q:=by
  intro L;unfold b9;simp only [GL,decide_eq_true_eq]
 have b:∀{l:List ac},l ∈ dm M A B C ↔ l=M∨(∃r ∈ A,r.1=l)∨(∃r ∈ B,r.1=l)∨(∃r ∈ C,r.1=l):=by
  intro l;unfold dm;simp only [Gz,Gw,G9,IG]
 constructor
 · rintro ⟨h1,h2,h3,h4,h5,h6,⟨⟨a1,a2,a3,_⟩,⟨b1,b2,b3,b4⟩,⟨c1,g,c3,c4⟩⟩,m⟩;have hB:=mR (b4 rfl) (dr b2);have hC:=mR (c4 rfl) (dr g);refine ⟨h1,h2,h6,h3,h4,⟨⟨a1,a2⟩,⟨b1,b2,b4 rfl⟩,⟨c1,g,c4 rfl⟩⟩,⟨?_,(oM hB hC).1 m⟩,?_⟩
   · intro l hl;rcases b.1 hl with rfl | ⟨r,hr,rfl⟩ | ⟨r,hr,rfl⟩ | ⟨r,hr,rfl⟩
     · exact jl h4
     · exact jl (bD (dr a2 r hr)).2.2.1
     · exact jl (bD (dr b2 r hr)).2.2.1
     · exact jl (bD (dr g r hr)).2.2.1
   · intro e d;obtain ⟨l,hl,hx⟩:=Im.1 d;clear d;have d:=hx;rcases b.1 hl with rfl | ⟨r,hr,rfl⟩ | ⟨r,hr,rfl⟩ | ⟨r,hr,rfl⟩
     · exact ⟨kO h4 e d,f.1 h5 e d⟩
     · exact ⟨kO (bD (dr a2 r hr)).2.2.1 e d,f.1 (a3 r hr) e d⟩
     · exact ⟨kO (bD (dr b2 r hr)).2.2.1 e d,f.1 (b3 r hr) e d⟩
     · exact ⟨kO (bD (dr g r hr)).2.2.1 e d,f.1 (c3 r hr) e d⟩
 · rintro ⟨h1,h2,h6,h3,h4,⟨⟨a1,a2⟩,⟨b1,b2,b4⟩,⟨c1,g,c4⟩⟩,⟨_,m⟩,t⟩;have hB:=mR b4 (dr b2);have hC:=mR c4 (dr g);have hw:∀l ∈ dm M A B C,b9 l q=true:=fun l hl=>f.2 (fun e d=>(t e (Im.2 ⟨l,hl,d⟩)).2)
   exact ⟨h1,h2,h3,h4,hw M (b.2 (.inl rfl)),h6,⟨⟨a1,a2,fun r hr=>hw _ (b.2 (.inr (.inl ⟨r,hr,rfl⟩))),fun e=>by cases e⟩,⟨b1,b2,fun r hr=>hw _ (b.2 (.inr (.inr (.inl ⟨r,hr,rfl⟩)))),fun _=>b4⟩,⟨c1,g,fun r hr=>hw _ (b.2 (.inr (.inr (.inr ⟨r,hr,rfl⟩)))),fun _=>c4⟩⟩,(oM hB hC).2 m⟩
def fZ (B:List af) (k1 k2:ByteArray) (i j:Nat):Prop :=
 i≤B.length∧j≤B.length∧∀t r,B[t]?=some r→(t<i→Op.bytesLess (aQ r.1).toList k1.toList=true)∧(i≤t→Op.bytesLess (aQ r.1).toList k1.toList=false)∧(t<j→Op.bytesLess k2.toList (bh r.1).toList=false)∧(j≤t→Op.bytesLess k2.toList (bh r.1).toList=true)
theorem re {a b c:List UInt8} (h1:a=b∨Op.bytesLess a b=true) (h2:Op.bytesLess b c=true):Op.bytesLess a c=true:=by
 rcases h1 with rfl | h1
 · exact h2
 · exact cG _ _ _ h1 h2
theorem eu (h:cP r.1 r.2=true):aI r.1=true∧1≤r.1.length∧r.1.length≤150:=by
 simp [cP] at h;exact ⟨h.2.2.1,by omega,by omega⟩
theorem y6 {B:List af} (ha:bi B=true) (b:∀r ∈ B,cP r.1 r.2=true) {s t:Nat} {p r:af} (hs:B[s]?=some p) (d:B[t]?=some r) (e:s≤t) (k:ByteArray) (h:Op.bytesLess (aQ r.1).toList k.toList=true):Op.bytesLess (aQ p.1).toList k.toList=true:=by
 by_cases f:s=t
 · subst f;rw [hs] at d;cases d;exact h
 · have h1:=lp ha b (t - s - 1) s hs (by rw [← d];congr 1;omega);obtain ⟨hr,hl,_⟩:=eu (b r (Gk d));have h2:=jm hr hl;refine cG _ _ _ h1 (re ?_ h);rcases h2 with h2 | h2
   · exact .inl (by rw [h2])
   · exact .inr h2
theorem Cp {B:List af} (ha:bi B=true) (b:∀r ∈ B,cP r.1 r.2=true) {s t:Nat} {p r:af} (hs:B[s]?=some p) (d:B[t]?=some r) (e:s≤t) (k:ByteArray) (h:Op.bytesLess k.toList (bh p.1).toList=true):Op.bytesLess k.toList (bh r.1).toList=true:=by
 by_cases f:s=t
 · subst f;rw [hs] at d;cases d;exact h
 · have h1:=lp ha b (t - s - 1) s hs (by rw [← d];congr 1;omega);obtain ⟨hr,hl,_⟩:=eu (b p (Gk hs));have h2:=jm hr hl;refine cG _ _ _ h (re ?_ h1);rcases h2 with h2 | h2
   · exact .inl (by rw [h2])
   · exact .inr h2
theorem fZ.le {B:List af} (h:fZ B k1 k2 i j) (b:∀r ∈ B,cP r.1 r.2=true) (hk:k1=k2∨Op.bytesLess k1.toList k2.toList=true):i≤j:=by
 by_cases d:i≤j
 · exact d
 · exfalso
   have e:j<B.length:=by have:=h.1;omega
   have hp:=j' e;obtain ⟨h1,_,_,h4⟩:=h.2.2 j _ hp;have h1:=h1 (by omega);have h4:=h4 (Gg _);obtain ⟨hr,hl,_⟩:=eu (b _ (GQ e));have h2:=jm hr hl;have h5:Op.bytesLess (bh B[j].1).toList k1.toList=true:=re (by rcases h2 with h2 | h2;exact .inl (by rw [h2]);exact .inr h2) h1;have h6:Op.bytesLess (bh B[j].1).toList k2.toList=true:=by
    rcases hk with rfl | hk
    · exact h5
    · exact cG _ _ _ h5 hk
   rw [eY _ _ h6] at h4;cases h4
theorem qO (hr:aI L=true) (h:Op.bytesLess (aQ L).toList key.toList=true):cF L key seq=[]:=by
 unfold cF;rw [Hz];intro e b hc;simp only [Gx,decide_eq_true_eq] at hc;rcases lQ hr b with h1 | h1
 · rw [← h1,hc.1,cE] at h;cases h
 · rw [hc.1] at h1;rw [eY _ _ h1] at h;cases h
theorem rW (hr:aI L=true) (h:Op.bytesLess key.toList (bh L).toList=true):cF L key seq=[]:=by
 unfold cF;rw [Hz];intro e b hc;simp only [Gx,decide_eq_true_eq] at hc;rcases kQ hr b with h1 | h1
 · rw [h1,hc.1,cE] at h;cases h
 · rw [hc.1] at h1;rw [eY _ _ h1] at h;cases h
def bQ (B:List af) (key:ByteArray) (seq:Int):List ac:=B.flatMap (fun r=>cF r.1 key seq)
theorem tp {B:List af} (h:∀r ∈ B,cF r.1 key seq=[]):bQ B key seq=[]:=by
 unfold bQ;rw [List.flatMap_eq_nil_iff];exact h
theorem iX (A B:List af) (key:ByteArray) (seq:Int):bQ (A++B) key seq=bQ A key seq++bQ B key seq:=by
 unfold bQ;rw [List.flatMap_append]
theorem sP {B:List af} (h:fZ B key key i j) (b:∀r ∈ B,cP r.1 r.2=true) (seq:Int):bQ ((B.drop i).take (j - i)) key seq=bQ B key seq:=by
 have f:=h.le b (.inl rfl);have e1:B=B.take i++((B.drop i).take (j - i)++B.drop j):=by
  have h2:(B.drop i).drop (j - i)=B.drop j:=by rw [Ie];congr 1;omega
  rw [← h2,GK,GK]
 have e:bQ (B.take i) key seq=[]:=tp fun r hr=>by
  obtain ⟨t,d,rfl⟩:=GT hr;rw [Gn] at d;rw [Hf];have hp:=j' (show t<B.length by omega);exact qO (eu (b _ (GQ _))).1 ((h.2.2 t _ hp).1 (by omega))
 have n2:bQ (B.drop j) key seq=[]:=tp fun r hr=>by
  obtain ⟨t,d,rfl⟩:=GT hr;rw [Gy] at d;rw [Hj];have hp:=j' (show j+t<B.length by omega);exact rW (eu (b _ (GQ _))).1 ((h.2.2 (j+t) _ hp).2.2.2 (by omega))
 conv=>rhs;rw [e1]
 rw [iX,iX,e,n2,GU,Iq]
def fK (a b:ByteArray):Bool:=Op.bytesLess a.toList b.toList || a.toList == b.toList
def ep (low high:ByteArray) (r:af):Bool:=fK (bh r.1) high && fK low (aQ r.1)
def fJ (k:ByteArray) (B:List af):ByteArray:=B.foldl (fun k r=>if Op.bytesLess (bh r.1).toList k.toList then bh r.1 else k) k
def nY (a b:ByteArray):Bool:=!Op.bytesLess a.toList b.toList && !(a.toList == b.toList)
def dw (k:ByteArray) (B:List af):ByteArray:=B.foldl (fun k r=>if nY (aQ r.1) k then aQ r.1 else k) k
theorem sR (k:ByteArray) {B:List af} {i:Nat} {r:af} (h:B[i]?=some r):fJ k (B.take (i+1))=(if Op.bytesLess (bh r.1).toList (fJ k (B.take i)).toList then bh r.1 else fJ k (B.take i)):=by
 rw [GH,h];unfold fJ;rw [List.foldl_append];rfl
theorem gq (k:ByteArray) {B:List af} {i:Nat} {r:af} (h:B[i]?=some r):dw k (B.take (i+1))=(if nY (aQ r.1) (dw k (B.take i)) then aQ r.1 else dw k (B.take i)):=by
 rw [GH,h];unfold dw;rw [List.foldl_append];rfl
theorem iC {B:List af} (h:B[i]?=some r) (p:af→Bool):(B.take (i+1)).filter p=(B.take i).filter p++(if p r then [r] else []):=by
 rw [GH,h,Ho];cases hp:p r <;> simp [hp]
def bE (B:List af):List (List ac):=B.map (·.1)
theorem vA {B:List af} (h:B[i]?=some r):bE (B.take (i+1))=bE (B.take i)++[r.1]:=by
 rw [GH,h];simp [bE]
def ip (B:List af):Bool:=B.all (fun r=>decide (r.1.length≤150))
theorem Eu {B:List af} (h:B[i]?=some r) (hr:150<r.1.length):ip B=false:=by
 unfold ip;rw [List.all_eq_false];exact ⟨r,Gk h,by simp;omega⟩
theorem Dq {B:List af} {n:Nat} (hl:B.length=n) (h:∀j r,j<n→B[j]?=some r→r.1.length≤150):ip B=true:=by
 unfold ip;rw [GL];intro r hr;obtain ⟨j,b,rfl⟩:=GT hr;exact decide_eq_true (h j _ (by omega) (j' b))
theorem dK (a b:ByteArray):fK a b=!Op.bytesLess b.toList a.toList:=by
 unfold fK;by_cases h:a.toList=b.toList
 · rw [h,cE];simp
 · rcases jY _ _ h with h1 | h1
   · rw [h1,eY _ _ h1];rfl
   · rw [h1,eY _ _ h1];simp [h]
theorem ua (a b:ByteArray):nY a b=Op.bytesLess b.toList a.toList:=by
 have h:=dK a b;unfold fK at h;unfold nY;rw [← Bool.not_or,h,Bool.not_not]
theorem qh {B:List af} (b:i≤j):B=B.take i++((B.drop i).take (j - i)++B.drop j):=by
 have h2:(B.drop i).drop (j - i)=B.drop j:=by rw [Ie];congr 1;omega
 rw [← h2,GK,GK]
theorem oQ {B:List af} (h:fZ B k1 k2 i j) (d:i≤j):B.filter (ep k1 k2)=(B.drop i).take (j - i)∧B.filter (fun r=>!ep k1 k2 r)=B.take i++B.drop j:=by
 have h1:∀r ∈ B.take i,ep k1 k2 r=false:=fun r hr=>by
  obtain ⟨t,b,rfl⟩:=GT hr;rw [Gn] at b;rw [Hf];have h2:=(h.2.2 t _ (j' (show t<B.length by omega))).1 (by omega);unfold ep;rw [dK k1,h2];simp
 have h2:∀r ∈ (B.drop i).take (j - i),ep k1 k2 r=true:=fun r hr=>by
  obtain ⟨t,b,rfl⟩:=GT hr;rw [Gn,Gy] at b;rw [Hf,Hj];have h3:=h.2.2 (i+t) _ (j' (show i+t<B.length by omega));unfold ep;rw [dK,dK,h3.2.1 (by omega),h3.2.2.1 (by omega)];rfl
 have h3:∀r ∈ B.drop j,ep k1 k2 r=false:=fun r hr=>by
  obtain ⟨t,b,rfl⟩:=GT hr;rw [Gy] at b;rw [Hj];have h3:=(h.2.2 (j+t) _ (j' (show j+t<B.length by omega))).2.2.2 (by omega);unfold ep;rw [dK (bh _),h3];rfl
 constructor
 · conv=>lhs;rw [qh (B:=B) d]
   rw [Ho,Ho,Hz.2 (fun r hr=>by rw [h1 r hr];simp),IW.2 h2,Hz.2 (fun r hr=>by rw [h3 r hr];simp)];simp
 · conv=>lhs;rw [qh (B:=B) d]
   rw [Ho,Ho,IW.2 (fun r hr=>by rw [h1 r hr];rfl),Hz.2 (fun r hr=>by rw [h2 r hr];simp),IW.2 (fun r hr=>by rw [h3 r hr];rfl)];simp
theorem eW (a:ByteArray):fK a a=true:=by rw [dK,cE];rfl
theorem cT {a b c:ByteArray} (h1:fK a b=true) (h2:fK b c=true):fK a c=true:=by
 unfold fK at h1 h2 ⊢;simp only [IE,beq_iff_eq] at h1 h2 ⊢;rcases h1 with h1 | h1
 · rcases h2 with h2 | h2
   · exact .inl (cG _ _ _ h1 h2)
   · rw [← h2];exact .inl h1
 · rw [h1];exact h2
theorem qr {a b:ByteArray} (h1:fK a b=true) (h2:fK b a=true):a=b:=by
 rw [dK] at h2;unfold fK at h1;simp only [IE,beq_iff_eq] at h1;rcases h1 with h1 | h1
 · rw [h1] at h2;cases h2
 · rw [GS,GS] at h1;exact Io (Il.1 h1)
theorem yX:∀(B:List af) (k:ByteArray),fK (fJ k B) k=true∧∀r ∈ B,fK (fJ k B) (bh r.1)=true
 | [],k=>⟨eW k,fun r hr=>by cases hr⟩
 | r :: B,k=>by
  have h:∃b,fJ k (r :: B)=fJ b B∧fK b k=true∧fK b (bh r.1)=true:=by
   refine ⟨if Op.bytesLess (bh r.1).toList k.toList then bh r.1 else k,rfl,?_⟩;cases hl:Op.bytesLess (bh r.1).toList k.toList with
   | true=>exact ⟨by simp only [if_true];unfold fK;rw [hl];rfl,by simp only [if_true];exact eW _⟩
   | false=>exact ⟨by simp only [IM,if_false];exact eW _,by simp only [IM,if_false];rw [dK,hl];rfl⟩
  obtain ⟨b,h1,h2,h3⟩:=h;obtain ⟨h4,h5⟩:=yX B b;rw [h1];refine ⟨cT h4 h2,fun x hx=>?_⟩;rcases Gz.1 hx with rfl | hx
  · exact cT h4 h3
  · exact h5 x hx
theorem vx:∀(B:List af) (k:ByteArray),fJ k B=k∨∃r ∈ B,fJ k B=bh r.1
 | [],k=>.inl rfl
 | r :: B,k=>by
  have e:fJ k (r :: B)=fJ (if Op.bytesLess (bh r.1).toList k.toList then bh r.1 else k) B:=rfl
  rw [e]
  rcases vx B (if Op.bytesLess (bh r.1).toList k.toList then bh r.1 else k) with h | ⟨x,hx,h⟩
  · rw [h]
    split
    · exact .inr ⟨r,by simp,rfl⟩
    · exact .inl rfl
  · exact .inr ⟨x,GM _ hx,h⟩
theorem vN:∀(B:List af) (k:ByteArray),fK k (dw k B)=true∧∀r ∈ B,fK (aQ r.1) (dw k B)=true
 | [],k=>⟨eW k,fun r hr=>by cases hr⟩
 | r :: B,k=>by
  have h:∃b,dw k (r :: B)=dw b B∧fK k b=true∧fK (aQ r.1) b=true:=by
   refine ⟨if nY (aQ r.1) k then aQ r.1 else k,rfl,?_⟩;rw [ua];cases hl:Op.bytesLess k.toList (aQ r.1).toList with
   | true=>exact ⟨by simp only [if_true];unfold fK;rw [hl];rfl,by simp only [if_true];exact eW _⟩
   | false=>exact ⟨by simp only [IM,if_false];exact eW _,by simp only [IM,if_false];rw [dK,hl];rfl⟩
  obtain ⟨b,h1,h2,h3⟩:=h;obtain ⟨h4,h5⟩:=vN B b;rw [h1];refine ⟨cT h2 h4,fun x hx=>?_⟩;rcases Gz.1 hx with rfl | hx
  · exact cT h3 h4
  · exact h5 x hx
theorem te:∀(B:List af) (k:ByteArray),dw k B=k∨∃r ∈ B,dw k B=aQ r.1
 | [],k=>.inl rfl
 | r :: B,k=>by
  have e:dw k (r :: B)=dw (if nY (aQ r.1) k then aQ r.1 else k) B:=rfl
  rw [e]
  rcases te B (if nY (aQ r.1) k then aQ r.1 else k) with h | ⟨x,hx,h⟩
  · rw [h]
    split
    · exact .inr ⟨r,by simp,rfl⟩
    · exact .inl rfl
  · exact .inr ⟨x,GM _ hx,h⟩
structure bf (w:World) (R:Nat) (a:Option Addr) (len cap P:Nat):Prop where
 c0:w.cell? ⟨R,0,none⟩=some (.slice a len cap)
 c1:w.cell? ⟨R,1,none⟩=some (iT P)
 f1:w.frozen? ⟨R,1,none⟩=false
 few:len≤2000
 two:∀o,w.cell? ⟨R,o+2,none⟩=none
 bytes:len=0∨∃b off,a=some ⟨b,off,none⟩∧b≠R∧b<w.heap.size∧∀i,i<len→∃z:Nat,z≤255∧w.cell? ⟨b,off+i,none⟩=some (.int .u8 z)
theorem bf.lt {R:Nat} {a:Option Addr} {P:Nat} (h:bf w R a len cap P):R<w.heap.size:=Gf w _ h.c0
theorem ae {a b c:World} {R:Option Nat} (h:a.grownBy b R) (k:b.grownBy c R):a.grownBy c R :=
 ⟨k.os.trans h.os,k.tape.trans h.tape,k.output.trans h.output,Gq h.size k.size,fun i hi hn=>(k.block i (E' hi h.size) hn).trans (h.block i hi hn)⟩
theorem au {R:Nat} (hg:w.grownBy w' (some R)) {x:Addr} (hx:x.block<w.heap.size) (hn:x.block≠R):w'.cell? x=w.cell? x :=
 G8 (hg.block x.block hx (fun e=>hn (by cases e;rfl)))
theorem bf.below {R:Nat} {a:Option Addr} {P:Nat} (h:bf w R a len cap P) (hb:Bl w w'):bf w' R a len cap P where
 c0:=cell_later hb h.c0
 c1:=cell_later hb h.c1
 f1:=(hb.frozen (p:=⟨R,1,none⟩) h.lt).trans h.f1
 few:=h.few
 two:=fun o=>(G8 (a:=⟨R,o+2,none⟩) (hb.block R h.lt)).trans (h.two o)
 bytes:=by
  rcases h.bytes with h0 | ⟨b,d,ha,g,e,hc⟩
  · exact Or.inl h0
  · exact Or.inr ⟨b,d,ha,g,E' e hb.size,fun i hi=>by obtain ⟨z,hz,f⟩:=hc i hi;exact ⟨z,hz,cell_later hb f⟩⟩
theorem bf.next {R:Nat} {a:Option Addr} {P:Nat} (h:bf w R a len cap P):bf (w.setCell ⟨R,1,none⟩ (iT ((P:Int)+1))) R a len cap (P+1):=by
 refine ⟨?_,?_,?_,h.few,fun o=>?_,?_⟩
 · rw [Gh _ _ _ _ (by simp)];exact h.c0
 · exact GD _ _ _ (by rw [h.c1];rfl)
 · rw [GF];exact h.f1
 · rw [Gh _ _ _ _ (by simp)];exact h.two o
 · rcases h.bytes with h0 | ⟨b,f,ha,d,g,hc⟩
   · exact Or.inl h0
   · refine Or.inr ⟨b,f,ha,d,by simpa [World.setCell] using g,fun i hi=>?_⟩;obtain ⟨z,hz,m⟩:=hc i hi;exact ⟨z,hz,by rw [Gh _ _ _ _ (fun e=>d (congrArg Addr.block e).symm)];exact m⟩
theorem jr (w:World) (R:Nat) (v:Value):w.grownBy (w.setCell ⟨R,1,none⟩ v) (some R) :=
 ⟨rfl,rfl,rfl,by simp [World.setCell],fun k _ hk=>Below.heap_setCell _ _ _ _ (fun e=>hk (by rw [e]))⟩
theorem aJ {R:Option Nat} (h:Bl w w'):w.grownBy w' R:=⟨h.os,h.tape,h.output,h.size,fun k hk _=>h.block k hk⟩
def EX (n q:Int):Prop:=0≤q∧(1≤n→q<n)
theorem DV (a b:Nat) (ha:a<4611686018427387904) (hb:b<4611686018427387904):bits .xor .i64 (a:Int) (b:Int)=((a ^^^ b:Nat):Int):=by
 have hx:a ^^^ b<2 ^ 62:=Nat.xor_lt_two_pow (by omega) (by omega);have h1:(BitVec.ofInt 64 (a:Int)).toNat=a:=by
  rw [BitVec.ofInt_natCast,BitVec.toNat_ofNat];exact Nat.mod_eq_of_lt (by omega)
 have h2:(BitVec.ofInt 64 (b:Int)).toNat=b:=by
  rw [BitVec.ofInt_natCast,BitVec.toNat_ofNat];exact Nat.mod_eq_of_lt (by omega)
 show IntKind.i64.wrap ((BitVec.ofInt 64 (a:Int) ^^^ BitVec.ofInt 64 (b:Int)).toNat:Int)=_
 rw [BitVec.toNat_xor,h1,h2,GN];omega
theorem jb (n:Int) (h0:0≤n) (h1:n≤9223372036854775807):wrap64 n=n:=by
 unfold wrap64;omega
theorem Cf (z y P len:Nat) (n:Int) (hz:z≤255) (hy:y≤255) (f:P<100000) (hn:1≤n) :
 EX n ((bits BinOp.xor IntKind.i64 (wrap64 (↑z*131+↑y*1117+↑P*29+wrap64 (wrap64 (↑P / ↑len)*53))) (wrap64 ((wrap64 (↑z*131+↑y*1117+↑P*29+wrap64 (wrap64 (↑P / ↑len)*53))).tdiv 64))).tmod n):=by
 have hq:=(Int.natCast_ediv P len).symm;have b:P / len≤P:=Nat.div_le_self _ _;rw [hq];generalize P / len=Q at b;rw [jb (Q:Int) (by omega) (by omega),jb ((Q:Int)*53) (by omega) (by omega),jb _ (by omega) (by omega)];have e:(↑z*131+↑y*1117+↑P*29+↑Q*53:Int)=((z*131+y*1117+P*29+Q*53:Nat):Int):=by omega
 rw [e];have d:z*131+y*1117+P*29+Q*53<100000000:=by omega
 generalize z*131+y*1117+P*29+Q*53=X at d;have e2:((X:Int).tdiv 64)=((X / 64:Nat):Int):=by
  rw [Int.tdiv_eq_ediv_of_nonneg (by omega)];omega
 rw [e2,jb _ (by omega) (by omega),DV _ _ (by omega) (by omega)];generalize X ^^^ X / 64=Y;rw [Int.tmod_eq_emod_of_nonneg (by omega)];exact ⟨Int.emod_nonneg _ (by omega),fun _=>Int.emod_lt_of_pos _ (by omega)⟩
theorem bW {row:Option Nat} (hg:w.grownBy w' row) {x:Addr} (hx:x.block<w.heap.size) (hn:some x.block≠row):w'.frozen? x=w.frozen? x:=Iv (hg.block x.block hx hn)
theorem pS {base e size k:Nat} {v:Value} {xs:List Value} (h:w.ownsRow base e size v k xs) (b:¬v=nZ):∃g cap,v=sL g k cap:=by
 rcases h.2 with ⟨h',_⟩ | ⟨g,cap,_,h',_⟩
 · exact absurd h' b
 · exact ⟨g,cap,h'⟩
theorem aE {P:Program} {b:Array Oper} {o:Oper} {a:Act} {w:World} {K:Act→World→Prop} {Q:Exit→Act→World→Prop} {E:Prop}
 (hg:o.guard=none) (s x:Operand) (t:TypeId) (hop:o.op=Op.call { callee:=Callee.builtin Builtin.append,args:=#[s,x],argTypes:=#[t,t] })
 (base:Nat) (e:TypeId) (i:TypeInfo) (z:Value) (size bytes:Nat) (h1:P.underlying t=some (.slice e)) (h2:P.info? e=some i) (h3:i.zero=some z) (h4:i.size=size) (h5:i.bytes=bytes) (h6:z.cells.size=size) (h7:0<size)
 (v:Value) (n:Nat) (olds:List Value) (hs:a.eval s=v) (hown:w.ownsRow base e size v n olds)
 (ad:Addr) (m c:Nat) (news:List Value) (hx:a.eval x=.slice (some ad) m c) (hn:news.length=m*size) (hc:∀j u,news[j]?=some u→w.cell? (ad.add j)=some u) (h1c:∀u ∈ news,u.oneCell'=true)
 (b1:n+m≤maxLen) (b2:(n+m)*bytes≤140737488355328) (b3:base≤w.heap.size)
 (hK:∀d w',w'.ownsRow base e size d (n+m) (olds++news)→w.grownBy w' v.ownBlock→(d=nZ ↔ v=nZ∧m=0)→K (a.put o.dst d) w') :
 if Region.wanted o (yielded b a.tmps)=true then Oper.wp P o a w K Q else E:=by
 have hw:Region.wanted o (yielded b a.tmps)=true:=by simp [Region.wanted,hg]
 rw [if_pos hw];obtain ⟨d,w',f,g,r2,r3⟩:=run_append_own (P:=P) w base t o.type e i z size bytes h1 h2 h3 h4 h5 h6 h7 v n olds hown ad m c news hn hc h1c b1 b2 b3;unfold Oper.wp;simp [execOp,hop,resolve,invoke,builtin,hs,hx,f,Result.andThen];exact hK d w' g r2 r3
end Go.Proofs.YtpobkmjicbobdaaGreat
