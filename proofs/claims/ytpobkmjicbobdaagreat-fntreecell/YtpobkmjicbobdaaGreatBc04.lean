/- Walks. -/
import Derived.Test.YtpobkmjicbobdaaGreatBc03
namespace Go.Proofs.YtpobkmjicbobdaaGreat
set_option maxRecDepth 100000
set_option maxHeartbeats 40000000
open Go.RowKit
variable {M:List ae} {P:List (List ae)} {S:List Int} {V:List (List aj)} {c i k n:Nat} {q:Int} {r:aj} {w:World}
def jV (P:List (List ae)) (i k:Nat):Bool:=match P[i]? with | none=>true | some A=>match P[k]? with | none=>true | some B=>jt A B
theorem nL {A B:List ae} (h:P[i]?=some A) (h':P[k]?=some B):jV P i k=jt A B:=by
 unfold jV;simp only [h,h']
def nS (P:List (List ae)) (i:Nat):Prop:=∀j k,j<i→j<k→k<P.length→jV P j k=true
def qT (P:List (List ae)) (i k:Nat):Prop:=∀j,i<j→j<k→jV P i j=true
def iX (P:List (List ae)):Bool:=(List.range P.length).all fun i=>(List.range P.length).all fun k=>!decide (i<k) || jV P i k
theorem DQ (hi:i<k) (hk:k<P.length) (h:jV P i k=false):iX P=false:=by
 rw [GU];intro h1;unfold iX at h1;rw [FZ] at h1;have h2:=h1 i (Gh.2 (by omega));rw [FZ] at h2;have h3:=h2 k (Gh.2 hk);rw [h,decide_eq_true hi] at h3;cases h3
theorem C7 (h:nS P P.length):iX P=true:=by
 unfold iX;rw [FZ];intro i hi;rw [FZ];intro k hk;by_cases e:i<k
 · rw [h i k (Gh.1 hi) e (Gh.1 hk)];simp
 · rw [decide_eq_false e];rfl
theorem DR (h:qT P i k) (hk:jV P i k=true):qT P i (k+1):=by
 intro j h1 h2;by_cases e:j=k
 · subst e;exact hk
 · exact h j h1 (by omega)
theorem DP (h:nS P i) (hi:qT P i P.length):nS P (i+1):=by
 intro j k h1 h2 h3;by_cases e:j=i
 · subst e;exact hi k h2 h3
 · exact h j k (by omega) h2 h3
theorem Bf (sq:Int) (am av ak:Option Addr) (nm cm nv cv nk ck:Nat) (P:List (List ae)) (w:World)
 (hp:∀w1,Bl w w1→Calls Tryz.prog 110 #[.agg #[iT sq,.slice am nm cm,.slice av nv cv,.slice ak nk ck]] w1 fun e w'=>∃a n c,e=.returned (.slice a n c)∧cy w' a n c P∧Bl w1 w') :
 Calls Tryz.prog 91 #[.agg #[iT sq,.slice am nm cm,.slice av nv cv,.slice ak nk ck]] w fun e w'=>e=.returned (.bool (iX P))∧Bl w w':=by
 go_enter Tryz.func91,Tryz.ntmps91
 go_wp2_with fail
 refine (hp _ bZ).mono ?_;rintro e u ⟨a,n,c,rfl,J,Q⟩;have K1:∀o,Bl w (w.alloc o):=fun o=>(Below.refl _ _).alloc (Fv _) o
 have W:Eq (Bl w u):=(K1 _).trans (Q.mono (K1 _).size);clear Q hp K1;have y:Eq (P.length=n):=J.length;have hr:=J.room;have a4:=J.big;unfold maxLen at a4;have H:Eq (cy u a n c P):=J;clear J;go_wp2;go_loopw [4] (fun X wr=>∃i:Nat,i≤n∧X=iT i∧Bl u wr∧nS P i) (fun X _=>n - (intOf X).toNat)
 case atStart=>exact ⟨0,FB _,rfl,Below.refl _ _,fun j k hj=>absurd hj (Gy _)⟩
 case round =>
  obtain ⟨i,hi,rfl,hb,hw⟩:=hrel;have HW:Eq (nS P i):=hw;have HB:Eq (Bl u wr):=hb;clear hw hb;by_cases a7:i<n
  · have N:(i:Int)<(n:Int):=by omega
    obtain ⟨b,U,rfl,a8⟩:=H.o.form (by omega);go_wp2;go_loopw [5] (fun kv wq=>∃k:Nat,i<k∧k≤n∧kv=iT k∧Bl u wq∧qT P i k) (fun kv _=>n - (intOf kv).toNat)
    case atStart=>exact ⟨i+1,by omega,by omega,by go_num,HB.o,fun j h1 h2=>absurd h2 (by omega)⟩
    case round =>
     obtain ⟨k,a0,hk,rfl,g,R⟩:=hrel;have T:Eq (qT P i k):=R;have f:Eq (Bl u wr):=g;clear R;by_cases E:k<n
     · have I:(k:Int)<(n:Int):=by omega
       obtain ⟨A,Y,Z,c1,hA,g1,D⟩:=H.o.list g i a7;obtain ⟨B,s2,n2,c2,hB,g2,F⟩:=H.o.list g k E;have x:Eq (jV P i k=jt A B):=nL hA hB;have a9:Eq (k<P.length):=by show k<P.length;rw [y.o];exact E
       have zb:=u' a8 g.size;have L:Eq (∀w',Bl wr w'→Calls Tryz.prog 148 #[.slice Y Z c1,.slice s2 n2 c2] w' fun e a6=>e=.returned (.bool (jt A B))∧Bl w' a6):=fun w' C=>zm Y s2 Z c1 n2 c2 A B w' (D.keep C) (F.keep C)
       have d:Eq (∀w',Bl wr w'→(w'.cell? ⟨b,U+i,none⟩=some (.slice Y Z c1)∧w'.cell? ⟨b,U+k,none⟩=some (.slice s2 n2 c2)∧b<w'.heap.size)):=fun w' C=>⟨cell_later C g1,cell_later C g2,u' zb C.size⟩
       have s:Bl wr wr.drew:=(Below.refl _ wr).drew;clear hA hB g1 g2 D F zb g;obtain ⟨O,hO⟩:=aG (jt A B);rw [← hO] at L x;clear hO;cases O with
       | true =>
        go_wp2_with fail
        refine eJ d s fun t=>?_
        refine aP 0 8 t ?_;refine aQ 8 fun K hK=>?_
        go_simp;refine (L.o _ s).mono ?_;rintro e wk1 ⟨rfl,m⟩;have k1:Bl wr wk1:=s.trans (m.mono s.size);go_wp2_with fail
        refine hK.o _ _ (d.o _ k1) fun t=>?_
        (try go_frame);refine aP 9 1 t ?_;refine dN ?_;have KY:Eq (Bl u wk1):=f.o.trans (k1.mono f.o.size);clear s k1 m d L t;go_wp2;go_roundw
        case rel=>exact ⟨k+1,by omega,by omega,by go_num,KY.o,DR T.o x.o⟩
        case measure=>simp [intOf];omega
       | false =>
        go_wp2_with fail
        refine eJ d s fun t=>?_
        refine aP 0 8 t ?_;refine aQ 8 fun K hK=>?_
        go_simp;refine (L.o _ s).mono ?_;rintro e wk1 ⟨rfl,m⟩;have k1:Bl wr wk1:=s.trans (m.mono s.size);go_wp2_with fail
        refine hK.o _ _ (d.o _ k1) fun t=>?_
        (try go_frame);refine aP 9 1 t ?_;refine dN ?_;have KY:Eq (Bl u wk1):=f.o.trans (k1.mono f.o.size);clear s k1 m d L t;go_wp2;go_ret;exact ⟨aq (DQ a0 a9.o x.o).symm,W.o.trans (KY.o.mono W.o.size)⟩
     · have I:¬(k:Int)<(n:Int):=by omega
       have HN:Eq (nS P (i+1)):=by
        have h1:=T.o;have h2:k=P.length:=by rw [y.o];omega
        rw [h2] at h1;exact DP HW.o h1
       go_wp2;go_roundw
       case rel=>exact ⟨i+1,by omega,by go_num,f.o,HN.o⟩
       case measure=>simp [intOf];omega
  · have N:¬(i:Int)<(n:Int):=by omega
    have HC:Eq (iX P=true):=by
     have hw:=HW.o;have a2:i=P.length:=by rw [y.o];omega
     rw [a2] at hw;exact C7 hw
    go_wp2;go_ret;exact ⟨aq HC.o.symm,W.o.trans (HB.o.mono W.o.size)⟩
theorem bg.move {w':World} {base g:Nat} {o:List Value} {y y':Option Nat} (h:bg w base g n c P o y) (hg:w.grownBy w' y) (hy:y'=y∨y'=some w.heap.size):bg w' base g n c P o y' where
 owns:=h.owns.kept hg (.inr h.ne)
 len:=h.len
 ne:=(h.turn (y':=y') (by rcases hy with e | e;exact .inl e;exact .inr (.inr e))).ne
 lists:=fun i A hA=>by
  obtain ⟨s,m,d,hv,hE,hx⟩:=h.lists i A hA
  obtain ⟨B,u,t,b,_,f⟩:=(h.turn (y':=y') (by rcases hy with e | e;exact .inl e;exact .inr (.inr e))).lists i A hA
  rw [hv] at b
  cases b
  exact ⟨s,m,d,hv,hE.grownB hg (fun x e hp=>(hx x e hp).2),f⟩
theorem jq {b o:Nat} {L:List ae} (h:ah w (some ⟨b,o,none⟩) n c L):∀j u,(aC L)[j]?=some u→w.cell? ((⟨b,o,none⟩:Addr).add j)=some u:=by
 intro j u d;have f:j<(aC L).length:=(E'.1 d).1;rw [aV] at f;have hi:j / 5<L.length:=by omega
 obtain ⟨c0,c1,c2,c3,c4⟩:=h.cells _ rfl (j / 5) hi;obtain ⟨g,m,r2,r3,r4⟩:=fF L (j / 5) L[j / 5] (j' hi);rw [FO];simp only at c0 c1 c2 c3 c4;have:j=j / 5*5∨j=j / 5*5+1∨j=j / 5*5+2∨j=j / 5*5+3∨j=j / 5*5+4:=by omega
 rcases this with e | e | e | e | e
 · rw [← e] at g c0;rw [g] at d;cases d;exact c0
 · rw [G9,← e] at c1;rw [← e] at m;rw [m] at d;cases d;exact c1
 · rw [G9,← e] at c2;rw [← e] at r2;rw [r2] at d;cases d;exact c2
 · rw [G9,← e] at c3;rw [← e] at r3;rw [r3] at d;cases d;exact c3
 · rw [G9,← e] at c4;rw [← e] at r4;rw [r4] at d;cases d;exact c4
def bi (B:List aj):List ae:=B.flatMap (·.1)
def vQ (M:List ae) (B:List aj) (j:Nat):List (List ae):=M :: (B.drop j).reverse.map (·.1)
def lowP (M:List ae) (V:List (List aj)) (k:Nat):List (List ae):=vQ M (V.headD []) 0++((V.take k).drop 1).map bi
def eP (M:List ae) (V:List (List aj)):List (List ae):=M :: (V.headD []).reverse.map (·.1)++(V.drop 1).map bi
theorem Dd (M:List ae) (B:List aj):vQ M B B.length=[M]:=by simp [vQ]
theorem AR {B:List aj} {j:Nat} (h:B[j]?=some r):vQ M B j=vQ M B (j+1)++[r.1]:=by
 obtain ⟨b,e⟩:=E'.1 h;unfold vQ;rw [Gj b,e];simp
theorem BM (M:List ae) (V:List (List aj)):lowP M V 1=vQ M (V.headD []) 0:=by
 unfold lowP;cases V <;> simp
theorem zJ {B:List aj} (h:V[k]?=some B) (hk:1≤k):lowP M V (k+1)=lowP M V k++[bi B]:=by
 obtain ⟨hl,_⟩:=E'.1 h;unfold lowP;rw [FU,h,List.drop_append_of_le_length (by rw [FC];omega)];simp
theorem BN (M:List ae) (V:List (List aj)):lowP M V V.length=eP M V:=by
 unfold lowP eP vQ;simp
theorem xF {B:List aj} (h:B[i]?=some r):bi (B.take (i+1))=bi (B.take i)++r.1:=by
 unfold bi;rw [FU,h];simp
theorem Am {B:List aj} {m:Nat} (h:∀r ∈ B,r.1.length≤m):(bi B).length≤B.length*m:=by
 induction B with
 | nil=>simp [bi]
 | cons a t b =>
  have h1:=b (fun r hr=>h r (FY _ hr));have h2:=h a FV;have h3:bi (a :: t)=a.1++bi t:=by simp [bi]
  rw [h3,Fy,F5,Nat.succ_mul];omega
theorem rx (lo:Nat) (sq:Int) (Z av ak:Option Addr) (nm U F cv nk ck:Nat) (M:List ae) (V:List (List aj)) (S:List Int) (w:World) (hT:cj lo w Z nm U av F cv ak nk ck M V S)
 (hv1:1≤F) (hv2:F≤100) (hV:∀B ∈ V,B.length≤100∧∀r ∈ B,1≤r.1.length∧r.1.length≤10000) :
 Calls Tryz.prog 110 #[.agg #[iT sq,.slice Z nm U,.slice av F cv,.slice ak nk ck]] w fun e w'=>∃a n c,e=.returned (.slice a n c)∧cy w' a n c (eP M V)∧Below w.heap.size w w':=by
 have HV:=bT hV;have HM:Eq (ah w Z nm U M):=hT.mem.1;obtain ⟨b,K,rfl,an⟩:=hT.levels.form hv1;have HL:Eq (cX lo w (some ⟨b,K,none⟩) F cv V):=hT.levels;have ba:Eq (V.length=F):=hT.levels.length;obtain ⟨Q,a0,n0,c0,a3,aR,ar⟩:=hT.levels.level (Below.refl _ w) 0 (by omega);have b1:Eq (V.headD []=Q):=by
  show V.headD []=Q
  cases V with
  | nil=>cases a3
  | cons x t=>simp at a3;simp [a3]
 have bw:Eq (Q.length≤100∧∀r ∈ Q,1≤r.1.length∧r.1.length≤10000):=hV Q (Fw a3);have b8:Eq (az lo w a0 n0 c0 Q):=ar;have aa:Eq (Q.length=n0):=ar.length;have ce:n0≤100:=by have:=bw.o.1;have:=aa.o;omega
 clear hV hT a3 ar;obtain ⟨X,hX⟩:=aG w.heap.size;obtain ⟨W,hW⟩:=aG (w.alloc (.cells #[iT sq,.slice Z nm U,sO b K F cv,.slice ak nk ck] 31));have kW:Below w.heap.size w W:=by rw [hW];exact bZ
 have au:W.heap.size=w.heap.size+1:=by rw [hW];simp
 have x2:W.cell? ⟨X,2,none⟩=some (sO b K F cv):=by rw [hW,hX];simp
 have aN:Eq (∀wr,Below W.heap.size W wr→wr.cell? ⟨X,2,none⟩=some (sO b K F cv)):=fun wr k=>cell_later k x2
 have b6:Eq (∀wr,Below W.heap.size W wr→Below w.heap.size w wr):=fun wr k=>kW.trans (k.mono kW.size)
 have bq:Eq (W.heap.size=w.heap.size+1):=au;have ap:Eq (w.cell? ⟨b,K,none⟩=some (.slice a0 n0 c0)):=by show w.cell? _=_;simpa using aR
 have P0:bg (W.alloc (.cells #[.slice Z nm U] 28)) W.heap.size W.heap.size 1 1 [M] [.slice Z nm U] none:=by
  have hA:Below W.heap.size W (W.alloc (.cells #[.slice Z nm U] 28)):=bZ;refine ⟨?_,rfl,(fun e=>by cases e),?_⟩
  · have:=F6 (base:=W.heap.size) (e:=28) (size:=1) W #[.slice Z nm U] 1 (Fv _) (by unfold maxLen;omega) (by simp);simpa using this
  · intro i A N;match i,N with
    | 0,N =>
     simp at N;subst N;refine ⟨Z,nm,U,rfl,HM.o.keep (kW.trans (hA.mono kW.size)),fun x e hp=>⟨?_,fun e=>by cases e⟩⟩;have:=(HM.o.lies x e hp).1;omega
    | i+1,N=>simp at N
 have a2:W.heap.size=X+1:=by rw [au,hX]
 obtain ⟨wt,ab⟩:=aG (W.alloc (.cells #[.slice Z nm U] 28));have A0:Below W.heap.size W wt:=by rw [ab];exact bZ
 rw [← ab,a2] at P0;rw [a2] at A0;have bl:Eq (bg wt (X+1) (X+1) 1 1 [M] [.slice Z nm U] none):=P0;have af:Eq (Below (X+1) W wt):=A0;have y:Eq (∀wr,Below (X+1) W wr→Below w.heap.size w wr):=fun wr k=>b6.o wr (by rw [a2];exact k)
 have a9:Eq (∀wr,Below (X+1) W wr→wr.cell? ⟨X,2,none⟩=some (sO b K F cv)):=fun wr k=>aN.o wr (by rw [a2];exact k)
 have E:Eq (∀wr,Below (X+1) W wr→X+1≤wr.heap.size):=fun wr k=>by have:=k.size;omega
 have bf:Eq (X=w.heap.size):=hX;obtain ⟨i0,hi,aZ,aW,b9⟩:=info_parts Tryz.infoEntS;obtain ⟨i1,bJ,be,bE,bj⟩:=info_parts Tryz.infoEnt;clear P0 x2 aR A0 aN b6 bq au kW a2;go_enter Tryz.func110,Tryz.ntmps110
 go_upto_region 2 with fail
 rw [← hW,← hX,← ab];clear hW ab hX;have bW:(0:Int)<(F:Int):=by omega
 have t2:=a9.o wt af.o;have tl:=cell_later (y.o wt af.o) ap.o;have zb:=u' an (y.o wt af.o).size;have zX:=Fu _ _ t2;have wj:IntKind.i64.wrap ((n0:Int) - 1)=(n0:Int) - 1:=by rw [FQ];unfold wrap64;omega
 go_wp2;go_loopw [3,4] (fun o iv wr=>∃(j n g c:Nat) (I:List Value) (z:Int),j≤n0∧z=(j:Int) - 1∧iv=iT z∧o=sL g n c∧bg wr (X+1) g n c (vQ M Q j) I none∧Below (X+1) W wr) (fun _ iv _=>(intOf iv+1).toNat)
 case atStart=>exact ⟨n0,1,X+1,1,_,_,Fv _,rfl,rfl,rfl,by rw [← aa.o,Dd];exact bl.o,af.o⟩
 case round =>
  obtain ⟨j,n,g,c,I,z,hj,hz,rfl,rfl,hP,hb⟩:=hrel;have J:Eq (bg wr (X+1) g n c (vQ M Q j) I none):=hP;have f:Eq (Below (X+1) W wr):=hb;have hn:n≤101:=by have:=hP.len;have:=aa.o;simp [vQ] at *;omega
  clear hP hb t2 tl zb zX;have t2:=a9.o wr f.o;have tl:=cell_later (y.o wr f.o) ap.o;have zb:=u' an (y.o wr f.o).size;have zX:=Fu _ _ t2;by_cases aE:j=0
  · subst aE;have aA:z=-1:=by omega
    subst aA;have b4:Eq (bg wr (X+1) g n c (lowP M V 1) I none):=by show bg wr (X+1) g n c (lowP M V 1) I none;rw [BM,b1.o];exact J.o
    clear hz wj tl t2 zb zX;go_wp2;go_loopw [3,5] (fun o kv wr=>∃(k n g c:Nat) (I:List Value),1≤k∧k≤F∧kv=iT k∧o=sL g n c∧bg wr (X+1) g n c (lowP M V k) I none∧Below (X+1) W wr) (fun _ kv _=>F - (intOf kv).toNat)
    case atStart=>exact ⟨1,n,g,c,I,Fv _,by omega,rfl,rfl,b4.o,f.o⟩
    case round =>
     clear J b4 f hn;obtain ⟨k,n,g,c,I,bF,hk,rfl,rfl,hP,hb⟩:=hrel;have J:Eq (bg wr (X+1) g n c (lowP M V k) I none):=hP;have f:Eq (Below (X+1) W wr):=hb;have hn:n≤201:=by
      have h1:=hP.len;have h2:=aa.o;have h3:=ba.o;have h4:=b1.o;simp only [lowP,vQ,h4,Fy,F5,Hk,List.length_reverse,FN,FC] at h1;omega
     clear hP hb;have t2:=a9.o wr f.o;have zX:=Fu _ _ t2;have zb:=u' an (y.o wr f.o).size;by_cases bx:k<F
     · have aU:(k:Int)<(F:Int):=by omega
       obtain ⟨B,sB,nB,cB,hB,gB,ay⟩:=HL.o.level (Below.refl _ w) k bx;have aB:Eq (lowP M V (k+1)=lowP M V k++[bi B]):=zJ hB bF;have T:Eq (B.length≤100∧∀r ∈ B,1≤r.1.length∧r.1.length≤10000):=HV.o B (Fw hB);have b7:Eq (az lo w sB nB cB B):=ay;have aQ:Eq (B.length=nB):=ay.length;have bI:Eq (w.cell? ⟨b,K+k,none⟩=some (.slice sB nB cB)):=gB;have c7:nB≤100:=by have:=T.o.1;have:=aQ.o;omega
       clear hB gB ay;go_upto_region 10 with fail
       obtain ⟨ga,ac⟩:=aG wr.heap.size;obtain ⟨wa,a5⟩:=aG (wr.alloc (.cells #[] 50));have H:Below wr.heap.size wr wa:=by rw [a5];exact bZ
       have b3:Eq (ag wa (X+1) ga 0 0 (bi (B.take 0))):=by
        have:=F6 (base:=X+1) (e:=50) (size:=5) wr #[] 0 (E.o wr f.o) (by simp) (by simp);rw [a5,ac];exact ⟨by simpa [bi,aC] using this,rfl,by simp [bi]⟩
       have aT:Eq (bg wa (X+1) g n c (lowP M V k) I (some ga)):=by
        rw [ac];exact (J.o.turn (.inr (.inr rfl))).below H
       have aX:Eq (Below (X+1) W wa):=by rw [a5];exact f.o.alloc (E.o wr f.o) _
       rw [← a5,← ac];clear a5 ac H t2 zX zb;go_wp2;go_loopw [6,7] (fun o iv wq=>∃(i na ga ca:Nat),i≤nB∧iv=iT i∧o=sL ga na ca∧ag wq (X+1) ga na ca (bi (B.take i))∧bg wq (X+1) g n c (lowP M V k) I (some ga)∧Below (X+1) W wq) (fun _ iv _=>nB - (intOf iv).toNat)
       case atStart=>exact ⟨0,0,ga,0,FB _,rfl,rfl,b3.o,aT.o,aX.o⟩
       case round =>
        clear b3 aT aX J f;obtain ⟨i,na,ga,ca,c6,rfl,rfl,hO,hP,hb⟩:=hrel;have HO:Eq (ag wr (X+1) ga na ca (bi (B.take i))):=hO;have J:Eq (bg wr (X+1) g n c (lowP M V k) I (some ga)):=hP;have f:Eq (Below (X+1) W wr):=hb;have c2:na≤1000000:=by
         have h1:=hO.len;have h2:=Am (B:=B.take i) (m:=10000) (fun r hr=>(T.o.2 r (F9 hr)).2);have h3:(B.take i).length≤100:=by rw [FC];omega
         have h4:(B.take i).length*10000≤100*10000:=Nat.mul_le_mul_right _ h3;omega
        clear hO hP hb;have t2:=a9.o wr f.o;have zX:=Fu _ _ t2;have zb:=u' an (y.o wr f.o).size;have gB:=cell_later (y.o wr f.o) bI.o;by_cases bo:i<nB
        · have bp:(i:Int)<(nB:Int):=by omega
          obtain ⟨bB,oB,rfl,bu⟩:=b7.o.form (by omega);obtain ⟨L,m,s,ns,cs,hg,_,g0,_,hE⟩:=b7.o.run (Below.refl _ w) i bo;have ao:=T.o.2 _ (Fw hg);have ax:=hE.1.length;simp only at ao;obtain ⟨bs,os,rfl,cc⟩:=hE.1.form (by omega);have bR:1≤ns:=by omega
          have bO:ns≤10000:=by omega
          have aD:Eq (bi (B.take (i+1))=bi (B.take i)++L):=xF hg;have HE:Eq (ah w (some ⟨bs,os,none⟩) ns cs L):=hE.1;have bN:Eq ((aC L).length=ns*5):=by show _=_;rw [aV,ax]
          have aK:Eq (L.length=ns):=ax;have bt:Eq (∀j u,(aC L)[j]?=some u→wr.cell? ((⟨bs,os,none⟩:Addr).add j)=some u):=jq (hE.1.keep (y.o wr f.o));have bh:Eq (∀u ∈ aC L,u.oneCell'=true):=aO L;have g0:=cell_later (y.o wr f.o) g0;have zr:=u' bu (y.o wr f.o).size;clear hg hE ao ax;go_wp2_with (at_builtin;refine wpList_append_own_at _ rfl _ _ 28 rfl (X+1) 50 i1 _ 5 56 Tryz.underlying28 bJ be bE bj rfl (by decide) _ _ _ rfl HO.o.owns ⟨bs,os,none⟩ ns cs (aC L) rfl bN.o bt.o bh.o ?c3 ?c4 ?c5 ?_)
          case c3=>unfold maxLen;omega
          case c4=>omega
          case c5=>exact E.o wr f.o
          intro v' w2 d hgrow hnil hat;obtain ⟨O,C,rfl⟩:∃g D,v'=sL g (na+ns) D:=by
           rcases d.2 with ⟨hv,h0⟩ | ⟨g,D,b5,hv,_⟩
           · omega
           · exact ⟨g,D,hv⟩
          have bH:Eq (ag w2 (X+1) O (na+ns) C (bi (B.take (i+1)))):=by
           refine ⟨?_,?_,?_⟩
           · rw [aD.o,aL];exact d
           · rw [aD.o,Fy,HO.o.len,aK.o]
           · intro l hl;rw [aD.o] at hl;rcases FI.1 hl with h1 | h1
             · exact HO.o.ents l h1
             · exact HE.o.ents l h1
          have R:Eq (bg w2 (X+1) g n c (lowP M V k) I (some O)):=J.o.move hgrow (by rcases hat with h | h;exact .inl (by have h1:O=ga:=Fx h;rw [h1]);exact .inr (by have h1:O=wr.heap.size:=Fx h;rw [h1]));have Y:Eq (Below (X+1) W w2):=f.o.grown hgrow (E.o wr f.o) (fun q hq=>(HO.o.owns.lt q hq).1);clear d hgrow hnil hat;go_wp2;go_roundw
          case rel=>exact ⟨i+1,na+ns,O,C,by omega,by go_num,rfl,bH.o,R.o,Y.o⟩
          case measure=>simp [intOf] <;> omega
        · have bp:¬(i:Int)<(nB:Int):=by omega
          have bM:Eq (bi (B.take i)=bi B):=by show bi (B.take i)=_;rw [FH (by rw [aQ.o];omega)]
          go_wp2_with (at_builtin;refine wpList_append_own_at _ rfl _ _ 102 rfl (X+1) 28 i0 _ 1 24 Tryz.underlying102 hi aZ aW b9 rfl (by decide) _ _ _ rfl (J.o.owns.alloc _) ⟨wr.heap.size,0,none⟩ 1 1 [sL ga na ca] rfl rfl ?r1 ?r2 ?r3 ?r4 ?r5 ?_)
          case r2=>first | rfl | simp
          case r3=>unfold maxLen;omega
          case r4=>omega
          case r5=>have:=E.o wr f.o;simp;omega
          intro v' w2 d hgrow hnil hat;obtain ⟨O,C,rfl⟩:∃g D,v'=sL g (n+1) D:=by
           rcases d.2 with ⟨hv,h0⟩ | ⟨g,D,b5,hv,_⟩
           · omega
           · exact ⟨g,D,hv⟩
          have R:Eq (bg w2 (X+1) O (n+1) C (lowP M V (k+1)) (I++[sL ga na ca]) none):=by
           have H:∀o,Below wr.heap.size wr (wr.alloc o):=fun o=>(Below.refl _ _).alloc (Fv _) o
           have h1:=(J.o.below (H _)).push (A:=bi B) d hgrow (by rcases hat with h | h;exact .inl (Fx h);exact .inr (by have h1:O=wr.heap.size+1:=Fx h;simpa using h1)) (by rw [← bM.o];exact HO.o.entsAt.keep (H _)) (fun x e hp=>by
            have h3:=J.o.ne;cases e;exact fun e=>h3 (by rw [← e]))
           show bg _ _ _ _ _ _ _ _
           rw [aB.o];exact h1
          have Y:Eq (Below (X+1) W w2):=(f.o.alloc (E.o wr f.o) _).grown hgrow (by have:=E.o wr f.o;simp;omega) (fun q hq=>(J.o.owns.lt q hq).1);clear d hgrow hnil hat;go_wp2;go_roundw
          case rel=>exact ⟨k+1,n+1,O,C,_,by omega,by omega,by go_num,rfl,R.o,Y.o⟩
          case measure=>simp [intOf] <;> omega
     · have aU:¬(k:Int)<(F:Int):=by omega
       have HC:Eq (lowP M V k=eP M V):=by
        show lowP M V k=_
        rw [← BN,ba.o,show k=F by omega]
       go_wp2;go_ret;exact ⟨some ⟨g,0,none⟩,n,c,rfl,by rw [← HC.o];exact J.o.partsAt,y.o wr f.o⟩
  · obtain ⟨jj,rfl⟩:∃jj,j=jj+1:=⟨j - 1,by omega⟩;have aA:z=(jj:Int):=by omega
    subst aA;clear hz aE;have cf:(jj:Int)<(n0:Int):=by omega
    have aE:(0:Int)≤(jj:Int):=by omega
    obtain ⟨b0,o0,rfl,bz⟩:=b8.o.form (by omega);obtain ⟨L,m,s,ns,cs,hg,_,g0,_,hE⟩:=b8.o.run (Below.refl _ w) jj (by omega);have aB:Eq (vQ M Q jj=vQ M Q (jj+1)++[L]):=AR hg;have HE:Eq (ah w s ns cs L):=hE.1;have g0:=cell_later (y.o wr f.o) g0;have zr:=u' bz (y.o wr f.o).size;clear hg hE;go_wp2_with (at_builtin;refine wpList_append_own_at _ rfl _ _ 102 rfl (X+1) 28 i0 _ 1 24 Tryz.underlying102 hi aZ aW b9 rfl (by decide) _ _ _ rfl (J.o.owns.alloc _) ⟨wr.heap.size,0,none⟩ 1 1 [.slice s ns cs] rfl rfl ?q1 ?q2 ?q3 ?q4 ?q5 ?_)
    case q2=>first | rfl | simp
    case q3=>unfold maxLen;omega
    case q4=>omega
    case q5=>have:=E.o wr f.o;simp;omega
    intro v' w2 d hgrow hnil hat;obtain ⟨O,C,rfl⟩:∃g D,v'=sL g (n+1) D:=by
     rcases d.2 with ⟨hv,h0⟩ | ⟨g,D,b5,hv,_⟩
     · omega
     · exact ⟨g,D,hv⟩
    have R:Eq (bg w2 (X+1) O (n+1) C (vQ M Q jj) (I++[.slice s ns cs]) none):=by
     have H:∀o,Below wr.heap.size wr (wr.alloc o):=fun o=>(Below.refl _ _).alloc (Fv _) o
     have kw:=y.o wr f.o;have h1:=(J.o.below (H _)).push d hgrow (by rcases hat with h | h;exact .inl (Fx h);exact .inr (by have h1:O=wr.heap.size+1:=Fx h;simpa using h1)) (HE.o.keep (kw.trans ((H _).mono kw.size))) (fun x e hp=>by
      have h2:=(HE.o.lies x e hp).1;have h3:=(J.o.owns.lt g rfl).1;have h4:=bf.o;omega)
     show bg _ _ _ _ _ _ _ _
     rw [aB.o];exact h1
    have Y:Eq (Below (X+1) W w2):=(f.o.alloc (E.o wr f.o) _).grown hgrow (by have:=E.o wr f.o;simp;omega) (fun q hq=>(J.o.owns.lt q hq).1);clear d hgrow hnil hat;go_wp2;go_roundw
    case rel=>exact ⟨jj,n+1,O,C,_,(jj:Int) - 1,by omega,rfl,by go_num,rfl,R.o,Y.o⟩
    case measure=>simp [intOf] <;> omega
def ef (V:List (List aj)) (q:Int):Bool:=match V with
 | [A,B,C]=>dG A 4 false q && (dG B 8 true q && dG C 8 true q)
 | _=>false
def aY (q:Int) (M:List ae) (V:List (List aj)) (S:List Int):Bool :=
 decide (0≤q) && (decide (q≤100000) && (decide (M.length≤60) && (aJ M && (bX M q && (decide (V.length=3) && (cC S q && (ef V q && iX (eP M V))))))))
theorem cG {B:List aj} {b:Int} {e:Bool} (h:dG B b e q=true) (hm:b≤8):B.length≤100∧∀r ∈ B,1≤r.1.length∧r.1.length≤10000:=by
 unfold dG at h;rw [FJ] at h;have h1:=of_decide_eq_true h.1;refine ⟨by omega,fun r hr=>?_⟩;obtain ⟨j,d,rfl⟩:=F7 hr;have h2:=(FZ.1 h.2) j (Gh.2 d);rw [dS (j' d),FJ] at h2;have h3:=bF h2.1;omega
theorem iw (h:aY q M V S=true→False):aY q M V S=false:=by
 rw [GU];exact h
theorem aZ (h:aY q M V S=true):0≤q∧q≤100000∧M.length≤60∧aJ M=true∧bX M q=true∧V.length=3∧cC S q=true∧ef V q=true∧iX (eP M V)=true:=by
 simpa [aY] using h
theorem gZ (lo:Nat) (sq:Int) (U av ak:Option Addr) (y T nv cv nk ck:Nat) (M:List ae) (V:List (List aj)) (S:List Int) (w:World) (hT:cj lo w U y T av nv cv ak nk ck M V S) :
 Calls Tryz.prog 27 #[.agg #[iT sq,.slice U y T,.slice av nv cv,.slice ak nk ck]] w fun e w'=>e=.returned (.bool (aY sq M V S))∧Bl w w':=by
 have HT:=bT hT;have an:Eq (M.length=y):=hT.mem.1.length;have ar:Eq (V.length=nv):=hT.levels.length;have aX:=hT.mem.1.big;have b7:=hT.mem.1.room;have b1:=hT.levels.big;have b6:=hT.levels.room;unfold maxLen at aX b1;clear hT;obtain ⟨X,hX⟩:=aG w.heap.size;obtain ⟨W,hW⟩:=aG (w.alloc (.cells #[iT sq,.slice U y T,.slice av nv cv,.slice ak nk ck] 31));have kW:Bl w W:=by rw [hW];exact bZ
 have x0:W.cell? ⟨X,0,none⟩=some (iT sq):=by rw [hW,hX];simp
 have x1:W.cell? ⟨X,1,none⟩=some (.slice U y T):=by rw [hW,hX];simp
 have x2:W.cell? ⟨X,2,none⟩=some (.slice av nv cv):=by rw [hW,hX];simp
 have x3:W.cell? ⟨X,3,none⟩=some (.slice ak nk ck):=by rw [hW,hX];simp
 have zX:=Fu _ _ x0;have E:Eq (Bl w W):=kW;go_enter Tryz.func27,Tryz.ntmps27
 go_upto_region 1 with fail
 rw [← hW,← hX];clear hW hX kW;by_cases h1:sq<0
 · have g:Eq (aY sq M V S=false):=iw (fun h=>by have:=(aZ h).1;omega);go_wp2;go_ret;exact ⟨aq g.o.symm,E.o⟩
 by_cases h2:100000<sq
 · have g:Eq (aY sq M V S=false):=iw (fun h=>by have:=(aZ h).2.1;omega);go_wp2;go_ret;exact ⟨aq g.o.symm,E.o⟩
 by_cases h3:60<y
 · have g:Eq (aY sq M V S=false):=iw (fun h=>by have:=(aZ h).2.2.1;have:=an.o;omega);have aO:(60:Int)<(y:Int):=by omega
   go_wp2;go_ret;exact ⟨aq g.o.symm,E.o⟩
 have aO:¬(60:Int)<(y:Int):=by omega
 obtain ⟨R,hR⟩:=aG (aJ M);go_wp2_with fail
 refine (ke U y T M _ (HT.o.mem.1.keep E.o)).mono ?_;rw [← hR];rintro e w1 ⟨rfl,H⟩;have x0:=cell_later H x0;have x1:=cell_later H x1;have x2:=cell_later H x2;have x3:=cell_later H x3;have zX:=Fu _ _ x0;have K1:Eq (Bl w w1):=E.o.trans (H.mono E.o.size);clear H E;cases hRv:R with
 | false =>
  have g:Eq (aY sq M V S=false):=iw (fun h=>by have h':=(aZ h).2.2.2.1;rw [← hR,hRv] at h';cases h');go_wp2;go_ret;exact ⟨aq g.o.symm,K1.o⟩
 | true =>
 have aW:Eq (aJ M=true):=by show _=_;rw [← hR];exact hRv
 clear hR hRv;obtain ⟨I,hI⟩:=aG (bX M sq);go_wp2_with fail
 refine (pn U y T M sq _ (HT.o.mem.1.keep K1.o)).mono ?_;rw [← hI];rintro e b9 ⟨rfl,rfl⟩;cases hIv:I with
 | false =>
  have g:Eq (aY sq M V S=false):=iw (fun h=>by have h':=(aZ h).2.2.2.2.1;rw [← hI,hIv] at h';cases h');go_wp2;go_ret;exact ⟨aq g.o.symm,K1.o⟩
 | true =>
 have aS:Eq (bX M sq=true):=by show _=_;rw [← hI];exact hIv
 clear hI hIv;by_cases h4:¬nv=3
 · have g:Eq (aY sq M V S=false):=iw (fun h=>by have:=(aZ h).2.2.2.2.2.1;have:=ar.o;omega);have b8:¬(nv:Int)=3:=by omega
   go_wp2;go_ret;exact ⟨aq g.o.symm,K1.o⟩
 have h4:nv=3:=by omega
 subst h4;obtain ⟨N,hN⟩:=aG (cC S sq);go_wp2_with fail
 refine (zd sq lo _ _ ak nk ck S _ (HT.o.snaps.keep K1.o)).mono ?_;rw [← hN];rintro e wr ⟨rfl,J⟩;have x0:=cell_later J x0;have x1:=cell_later J x1;have x2:=cell_later J x2;have x3:=cell_later J x3;have zX:=Fu _ _ x0;have u:Eq (Bl w wr):=K1.o.trans (J.mono K1.o.size);clear J K1;cases hNv:N with
 | false =>
  have g:Eq (aY sq M V S=false):=iw (fun h=>by have h':=(aZ h).2.2.2.2.2.2.1;rw [← hN,hNv] at h';cases h');go_wp2;go_ret;exact ⟨aq g.o.symm,u.o⟩
 | true =>
 have aV:Eq (cC S sq=true):=by show _=_;rw [← hN];exact hNv
 clear hN hNv;obtain ⟨A,B,C,aK⟩:∃A B C,V=[A,B,C]:=by
  have:=ar.o;match V,this with
  | [A,B,C],_=>exact ⟨A,B,C,rfl⟩
 subst aK;obtain ⟨b,L,rfl,aC⟩:=HT.o.levels.form (by omega);obtain ⟨A',a0,n0,c0,hA,l0,az⟩:=HT.o.levels.level (Below.refl _ w) 0 (by omega);obtain ⟨B',a1,n1,c1,hB,l1,aB⟩:=HT.o.levels.level (Below.refl _ w) 1 (by omega);obtain ⟨C',a2,n2,c2,hC,l2,aA⟩:=HT.o.levels.level (Below.refl _ w) 2 (by omega);simp only [G6,Gw,G2] at hA hB hC;subst hA hB hC;rw [Gv] at l0;have l0:=cell_later u.o l0;have l1:=cell_later u.o l1;have l2:=cell_later u.o l2;have zb:=u' aC u.o.size;have d:Eq (∀w',Bl wr w'→(w'.cell? ⟨X,0,none⟩=some (iT sq)∧w'.cell? ⟨X,1,none⟩=some (.slice U y T)∧w'.cell? ⟨X,2,none⟩=some (sO b L 3 cv)∧w'.cell? ⟨X,3,none⟩=some (.slice ak nk ck)∧w'.cell? ⟨b,L,none⟩=some (.slice a0 n0 c0)∧w'.cell? ⟨b,L+1,none⟩=some (.slice a1 n1 c1)∧w'.cell? ⟨b,L+2,none⟩=some (.slice a2 n2 c2)∧b<w'.heap.size∧X<w'.heap.size)):=fun w' Q=>⟨cell_later Q x0,cell_later Q x1,cell_later Q x2,cell_later Q x3,cell_later Q l0,cell_later Q l1,cell_later Q l2,u' zb Q.size,u' zX Q.size⟩
 have m:Bl wr wr.drew:=(Below.refl _ wr).drew;have O:Eq (∀w',Bl wr w'→Bl w w'):=fun w' Q=>u.o.trans (Q.mono u.o.size)
 have s:Eq (aY sq M [A,B,C] S=(dG A 4 false sq && (dG B 8 true sq && (dG C 8 true sq && iX (eP M [A,B,C]))))):=by
  show aY sq M [A,B,C] S=_
  have e1:decide (0≤sq)=true:=decide_eq_true (by omega);have e2:decide (sq≤100000)=true:=decide_eq_true (by omega);have e3:decide (M.length≤60)=true:=decide_eq_true (by rw [an.o];omega);unfold aY;rw [e1,e2,e3,aW.o,aS.o,aV.o];simp [ef,Bool.and_assoc]
 obtain ⟨V0,aa⟩:∃x,x=dG A 4 false sq:=⟨_,rfl⟩;obtain ⟨V1,af⟩:∃x,x=dG B 8 true sq:=⟨_,rfl⟩;obtain ⟨V2,ab⟩:∃x,x=dG C 8 true sq:=⟨_,rfl⟩;obtain ⟨G,hG⟩:∃x,x=iX (eP M [A,B,C]):=⟨_,rfl⟩;rw [← aa,← af,← ab,← hG] at s;have a9:Eq (∀w',Bl wr w'→Calls Tryz.prog 90 #[.slice a0 n0 c0,iT 4,.bool false,iT sq] w' fun e t=>e=.returned (.bool V0)∧Bl w' t):=fun w' k=>by rw [aa];exact po lo a0 n0 c0 A 4 false sq w' (az.keep (O.o w' k))
 have a6:Eq (∀w',Bl wr w'→Calls Tryz.prog 90 #[.slice a1 n1 c1,iT 8,.bool true,iT sq] w' fun e t=>e=.returned (.bool V1)∧Bl w' t):=fun w' k=>by rw [af];exact po lo a1 n1 c1 B 8 true sq w' (aB.keep (O.o w' k))
 have ad:Eq (∀w',Bl wr w'→Calls Tryz.prog 90 #[.slice a2 n2 c2,iT 8,.bool true,iT sq] w' fun e t=>e=.returned (.bool V2)∧Bl w' t):=fun w' k=>by rw [ab];exact po lo a2 n2 c2 C 8 true sq w' (aA.keep (O.o w' k))
 have Z:Eq (V0=true→V1=true→V2=true→∀w',Bl wr w'→Calls Tryz.prog 91 #[.agg #[iT sq,.slice U y T,sO b L 3 cv,.slice ak nk ck]] w' fun e t=>e=.returned (.bool G)∧Bl w' t):=by
  intro e0 e1 e2 w' k;rw [hG];refine Bf sq U _ ak y T 3 cv nk ck (eP M [A,B,C]) w' (fun w1 k1=>?_);have kw:=O.o w' k;refine rx lo sq U _ ak y T 3 cv nk ck M [A,B,C] S w1 (HT.o.keep (kw.trans (k1.mono kw.size))) (by omega) (by omega) ?_;intro D hD;simp only [FF,F4,or_false] at hD;rcases hD with rfl | rfl | rfl
  · exact cG (by rw [← aa];exact e0) (by omega)
  · exact cG (by rw [← af];exact e1) (by omega)
  · exact cG (by rw [← ab];exact e2) (by omega)
 clear aa af ab hG az aB aA l0 l1 l2 x0 x1 x2 x3 zb HT O ar an aC;cases V0 with
 | false =>
  have g:Eq (aY sq M [A,B,C] S=false):=by show _=_;rw [s.o];rfl
  clear Z a6 ad s;go_wp2_with fail
  refine eJ d m fun f=>?_
  refine aP 0 6 f ?_;refine aQ 6 fun K hK=>?_
  go_simp;refine (a9.o _ m).mono ?_;rintro e wk1 ⟨rfl,F⟩;have k1:Bl wr wk1:=m.trans (F.mono m.size);go_wp2_with fail
  refine hK.o _ _ (d.o _ k1) fun f=>?_
  (try go_frame);refine aP 7 7 f ?_;refine aQ 14 fun K hK=>?_
  go_simp;refine hK.o _ _ (d.o _ k1) fun f=>?_
  (try go_frame);refine aP 15 8 f ?_;refine aQ 23 fun K hK=>?_
  go_simp;refine hK.o _ _ (d.o _ k1) fun f=>?_
  (try go_frame);refine aP 24 3 f ?_;refine aQ 27 fun K hK=>?_
  go_simp;refine hK.o _ _ (d.o _ k1) fun f=>?_
  (try go_frame);refine aP 28 2 f ?_;refine dN ?_;have KY:Eq (Bl w wk1):=u.o.trans (k1.mono u.o.size);clear m d f;go_wp2;go_ret;exact ⟨aq g.o.symm,KY.o⟩
 | true =>
 cases V1 with
 | false =>
  have g:Eq (aY sq M [A,B,C] S=false):=by show _=_;rw [s.o];rfl
  clear Z ad s;go_wp2_with fail
  refine eJ d m fun f=>?_
  refine aP 0 6 f ?_;refine aQ 6 fun K hK=>?_
  go_simp;refine (a9.o _ m).mono ?_;rintro e wk1 ⟨rfl,F⟩;have k1:Bl wr wk1:=m.trans (F.mono m.size);go_wp2_with fail
  refine hK.o _ _ (d.o _ k1) fun f=>?_
  (try go_frame);refine aP 7 7 f ?_;refine aQ 14 fun K hK=>?_
  go_simp;refine (a6.o _ k1).mono ?_;rintro e wk2 ⟨rfl,Y⟩;have k2:Bl wr wk2:=k1.trans (Y.mono k1.size);go_wp2_with fail
  refine hK.o _ _ (d.o _ k2) fun f=>?_
  (try go_frame);refine aP 15 8 f ?_;refine aQ 23 fun K hK=>?_
  go_simp;refine hK.o _ _ (d.o _ k2) fun f=>?_
  (try go_frame);refine aP 24 3 f ?_;refine aQ 27 fun K hK=>?_
  go_simp;refine hK.o _ _ (d.o _ k2) fun f=>?_
  (try go_frame);refine aP 28 2 f ?_;refine dN ?_;have KY:Eq (Bl w wk2):=u.o.trans (k2.mono u.o.size);clear m d f;go_wp2;go_ret;exact ⟨aq g.o.symm,KY.o⟩
 | true =>
 cases V2 with
 | false =>
  have g:Eq (aY sq M [A,B,C] S=false):=by show _=_;rw [s.o];rfl
  clear Z s;go_wp2_with fail
  refine eJ d m fun f=>?_
  refine aP 0 6 f ?_;refine aQ 6 fun K hK=>?_
  go_simp;refine (a9.o _ m).mono ?_;rintro e wk1 ⟨rfl,F⟩;have k1:Bl wr wk1:=m.trans (F.mono m.size);go_wp2_with fail
  refine hK.o _ _ (d.o _ k1) fun f=>?_
  (try go_frame);refine aP 7 7 f ?_;refine aQ 14 fun K hK=>?_
  go_simp;refine (a6.o _ k1).mono ?_;rintro e wk2 ⟨rfl,Y⟩;have k2:Bl wr wk2:=k1.trans (Y.mono k1.size);go_wp2_with fail
  refine hK.o _ _ (d.o _ k2) fun f=>?_
  (try go_frame);refine aP 15 8 f ?_;refine aQ 23 fun K hK=>?_
  go_simp;refine (ad.o _ k2).mono ?_;rintro e wk3 ⟨rfl,al⟩;have k3:Bl wr wk3:=k2.trans (al.mono k2.size);go_wp2_with fail
  refine hK.o _ _ (d.o _ k3) fun f=>?_
  (try go_frame);refine aP 24 3 f ?_;refine aQ 27 fun K hK=>?_
  go_simp;refine hK.o _ _ (d.o _ k3) fun f=>?_
  (try go_frame);refine aP 28 2 f ?_;refine dN ?_;have KY:Eq (Bl w wk3):=u.o.trans (k3.mono u.o.size);clear m d f;go_wp2;go_ret;exact ⟨aq g.o.symm,KY.o⟩
 | true =>
  have g:Eq (aY sq M [A,B,C] S=G):=by show _=_;rw [s.o];cases G <;> rfl
  have aL:Eq (∀w',Bl wr w'→Calls Tryz.prog 91 #[.agg #[iT sq,.slice U y T,sO b L 3 cv,.slice ak nk ck]] w' fun e t=>e=.returned (.bool G)∧Bl w' t):=Z.o rfl rfl rfl;clear s Z;go_wp2_with fail
  refine eJ d m fun f=>?_
  refine aP 0 6 f ?_;refine aQ 6 fun K hK=>?_
  go_simp;refine (a9.o _ m).mono ?_;rintro e wk1 ⟨rfl,F⟩;have k1:Bl wr wk1:=m.trans (F.mono m.size);go_wp2_with fail
  refine hK.o _ _ (d.o _ k1) fun f=>?_
  (try go_frame);refine aP 7 7 f ?_;refine aQ 14 fun K hK=>?_
  go_simp;refine (a6.o _ k1).mono ?_;rintro e wk2 ⟨rfl,Y⟩;have k2:Bl wr wk2:=k1.trans (Y.mono k1.size);go_wp2_with fail
  refine hK.o _ _ (d.o _ k2) fun f=>?_
  (try go_frame);refine aP 15 8 f ?_;refine aQ 23 fun K hK=>?_
  go_simp;refine (ad.o _ k2).mono ?_;rintro e wk3 ⟨rfl,al⟩;have k3:Bl wr wk3:=k2.trans (al.mono k2.size);go_wp2_with fail
  refine hK.o _ _ (d.o _ k3) fun f=>?_
  (try go_frame);refine aP 24 3 f ?_;refine aQ 27 fun K hK=>?_
  go_simp;refine (aL.o _ k3).mono ?_;rintro e wk4 ⟨rfl,aT⟩;have k4:Bl wr wk4:=k3.trans (aT.mono k3.size);go_wp2_with fail
  refine hK.o _ _ (d.o _ k4) fun f=>?_
  (try go_frame);refine aP 28 2 f ?_;refine dN ?_;have KY:Eq (Bl w wk4):=u.o.trans (k4.mono u.o.size);clear m d f;go_wp2;go_ret;exact ⟨aq g.o.symm,KY.o⟩
end Go.Proofs.YtpobkmjicbobdaaGreat
