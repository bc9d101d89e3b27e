/- Walks. -/
import Derived.Test.YtpobkmjicbobdaaGreatBW03
namespace Go.Proofs.YtpobkmjicbobdaaGreat
set_option maxRecDepth 100000
set_option maxHeartbeats 40000000
open Go.RowKit
variable {B:List af} {M:List ac} {S:List Int} {V:List (List af)} {c i k n:Nat} {q:Int} {r:af} {w:World}
theorem aY.move {w':World} {base g:Nat} {P:List (List ac)} {o:List Value} {y y':Option Nat} (h:aY w base g n c P o y) (hg:w.grownBy w' y) (hy:y'=y∨y'=some w.heap.size):aY w' base g n c P o y' where
 owns:=h.owns.kept hg (.inr h.ne)
 len:=h.len
 ne:=(h.turn (y':=y') (by rcases hy with e | e;exact .inl e;exact .inr (.inr e))).ne
 lists:=fun i A hA=>by
  obtain ⟨s,m,d,hv,hE,hx⟩:=h.lists i A hA
  obtain ⟨t,C,u,b,_,f⟩:=(h.turn (y':=y') (by rcases hy with e | e;exact .inl e;exact .inr (.inr e))).lists i A hA
  rw [hv] at b
  cases b
  exact ⟨s,m,d,hv,hE.grownB hg (fun x e hp=>(hx x e hp).2),f⟩
theorem jK {b o:Nat} {L:List ac} (h:ah w (some ⟨b,o,none⟩) n c L):∀j u,(aF L)[j]?=some u→w.cell? ((⟨b,o,none⟩:Addr).add j)=some u:=by
 intro j u d;have g:j<(aF L).length:=(F'.1 d).1;rw [aX] at g;have hi:j / 5<L.length:=by omega
 obtain ⟨c0,c1,f,c3,c4⟩:=h.cells _ rfl (j / 5) hi;obtain ⟨s,m,r2,r3,r4⟩:=fP L (j / 5) L[j / 5] (j' hi);rw [G6];simp only at c0 c1 f c3 c4;have:j=j / 5*5∨j=j / 5*5+1∨j=j / 5*5+2∨j=j / 5*5+3∨j=j / 5*5+4:=by omega
 rcases this with e | e | e | e | e
 · rw [← e] at s c0;rw [s] at d;cases d;exact c0
 · rw [IV,← e] at c1;rw [← e] at m;rw [m] at d;cases d;exact c1
 · rw [IV,← e] at f;rw [← e] at r2;rw [r2] at d;cases d;exact f
 · rw [IV,← e] at c3;rw [← e] at r3;rw [r3] at d;cases d;exact c3
 · rw [IV,← e] at c4;rw [← e] at r4;rw [r4] at d;cases d;exact c4
def aW (B:List af):List ac:=B.flatMap (·.1)
def xH (M:List ac) (B:List af) (j:Nat):List (List ac):=M :: (B.drop j).reverse.map (·.1)
def lowP (M:List ac) (V:List (List af)) (k:Nat):List (List ac):=xH M (V.headD []) 0++((V.take k).drop 1).map aW
def eZ (M:List ac) (V:List (List af)):List (List ac):=M :: (V.headD []).reverse.map (·.1)++(V.drop 1).map aW
theorem Er (M:List ac) (B:List af):xH M B B.length=[M]:=by simp [xH]
theorem B8 {j:Nat} (h:B[j]?=some r):xH M B j=xH M B (j+1)++[r.1]:=by
 obtain ⟨b,e⟩:=F'.1 h;unfold xH;rw [Ie b,e];simp
theorem Dk (M:List ac) (V:List (List af)):lowP M V 1=xH M (V.headD []) 0:=by
 unfold lowP;cases V <;> simp
theorem AL (h:V[k]?=some B) (hk:1≤k):lowP M V (k+1)=lowP M V k++[aW B]:=by
 obtain ⟨hl,_⟩:=F'.1 h;unfold lowP;rw [Hc,h,List.drop_append_of_le_length (by rw [GS];omega)];simp
theorem Dl (M:List ac) (V:List (List af)):lowP M V V.length=eZ M V:=by
 unfold lowP eZ xH;simp
theorem yU (h:B[i]?=some r):aW (B.take (i+1))=aW (B.take i)++r.1:=by
 unfold aW;rw [Hc,h];simp
theorem Bk {m:Nat} (h:∀r ∈ B,r.1.length≤m):(aW B).length≤B.length*m:=by
 induction B with
 | nil=>simp [aW]
 | cons a t b =>
  have h1:=b (fun r hr=>h r (He _ hr));have h2:=h a Ha;have h3:aW (a :: t)=a.1++aW t:=by simp [aW]
  rw [h3,GO,Hn,Nat.succ_mul];omega
theorem As (lo:Nat) (sq:Int) (R av ak:Option Addr) (T cm F cv nk ck:Nat) (M:List ac) (V:List (List af)) (S:List Int) (w:World) (hT:aZ lo w R T cm av F cv ak nk ck M V S)
 (hv1:1≤F) (hv2:F≤100) (hV:∀B ∈ V,B.length≤100∧∀r ∈ B,1≤r.1.length∧r.1.length≤10000) :
 Calls Tryz.prog 110 #[.agg #[iT sq,.slice R T cm,.slice av F cv,.slice ak nk ck]] w fun e w'=>∃a n c,e=.returned (.slice a n c)∧cZ w' a n c (eZ M V)∧Below w.heap.size w w':=by
 have HV:=az hV;have HM:Eq (ah w R T cm M):=hT.mem.1;obtain ⟨b,K,rfl,ab⟩:=hT.levels.form hv1;have HL:Eq (cF lo w (some ⟨b,K,none⟩) F cv V):=hT.levels;have b1:Eq (V.length=F):=hT.levels.length;obtain ⟨Q,a0,n0,c0,a2,aS,aC⟩:=hT.levels.level (Below.refl _ w) 0 (by omega);have aV:Eq (V.headD []=Q):=by
  show V.headD []=Q
  cases V with
  | nil=>cases a2
  | cons x t=>simp at a2;simp [a2]
 have bo:Eq (Q.length≤100∧∀r ∈ Q,1≤r.1.length∧r.1.length≤10000):=hV Q (GP a2);have aN:Eq (aw lo w a0 n0 c0 Q):=aC;have a9:Eq (Q.length=n0):=aC.length;have c9:n0≤100:=by have:=bo.o.1;have:=a9.o;omega
 clear hV hT a2 aC;obtain ⟨X,hX⟩:=aG w.heap.size;obtain ⟨W,hW⟩:=aG (w.alloc (.cells #[iT sq,.slice R T cm,sO b K F cv,.slice ak nk ck] 31));have kW:Below w.heap.size w W:=by rw [hW];exact bZ
 have ay:W.heap.size=w.heap.size+1:=by rw [hW];simp
 have x2:W.cell? ⟨X,2,none⟩=some (sO b K F cv):=by rw [hW,hX];simp
 have b8:Eq (∀wr,Below W.heap.size W wr→wr.cell? ⟨X,2,none⟩=some (sO b K F cv)):=fun wr k=>cell_later k x2
 have aP:Eq (∀wr,Below W.heap.size W wr→Below w.heap.size w wr):=fun wr k=>kW.trans (k.mono kW.size)
 have bk:Eq (W.heap.size=w.heap.size+1):=ay;have ao:Eq (w.cell? ⟨b,K,none⟩=some (.slice a0 n0 c0)):=by show w.cell? _=_;simpa using aS
 have P0:aY (W.alloc (.cells #[.slice R T cm] 28)) W.heap.size W.heap.size 1 1 [M] [.slice R T cm] none:=by
  have hA:Below W.heap.size W (W.alloc (.cells #[.slice R T cm] 28)):=bZ;refine ⟨?_,rfl,(fun e=>by cases e),?_⟩
  · have:=Hi (base:=W.heap.size) (e:=28) (size:=1) W #[.slice R T cm] 1 (GL _) (by unfold maxLen;omega) (by simp);simpa using this
  · intro i A O;match i,O with
    | 0,O =>
     simp at O;subst O;refine ⟨R,T,cm,rfl,HM.o.keep (kW.trans (hA.mono kW.size)),fun x e hp=>⟨?_,fun e=>by cases e⟩⟩;have:=(HM.o.lies x e hp).1;omega
    | i+1,O=>simp at O
 have a3:W.heap.size=X+1:=by rw [ay,hX]
 obtain ⟨wt,aj⟩:=aG (W.alloc (.cells #[.slice R T cm] 28));have A0:Below W.heap.size W wt:=by rw [aj];exact bZ
 rw [← aj,a3] at P0;rw [a3] at A0;have bq:Eq (aY wt (X+1) (X+1) 1 1 [M] [.slice R T cm] none):=P0;have ai:Eq (Below (X+1) W wt):=A0;have y:Eq (∀wr,Below (X+1) W wr→Below w.heap.size w wr):=fun wr k=>aP.o wr (by rw [a3];exact k)
 have al:Eq (∀wr,Below (X+1) W wr→wr.cell? ⟨X,2,none⟩=some (sO b K F cv)):=fun wr k=>b8.o wr (by rw [a3];exact k)
 have E:Eq (∀wr,Below (X+1) W wr→X+1≤wr.heap.size):=fun wr k=>by have:=k.size;omega
 have bh:Eq (X=w.heap.size):=hX;obtain ⟨i0,hi,aT,ba,b3⟩:=info_parts Tryz.infoEntS;obtain ⟨i1,bt,bK,bi,bw⟩:=info_parts Tryz.infoEnt;clear P0 x2 aS A0 b8 aP bk ay kW a3;go_enter Tryz.func110,Tryz.ntmps110
 go_upto_region 2 with fail
 rw [← hW,← hX,← aj];clear hW aj hX;have bY:(0:Int)<(F:Int):=by omega
 have t2:=al.o wt ai.o;have tl:=cell_later (y.o wt ai.o) ao.o;have zb:=E' ab (y.o wt ai.o).size;have zX:=GK _ _ t2;have wj:IntKind.i64.wrap ((n0:Int) - 1)=(n0:Int) - 1:=by rw [G4];unfold wrap64;omega
 go_wp2;go_loopw [3,4] (fun o iv wr=>∃(j n g c:Nat) (I:List Value) (z:Int),j≤n0∧z=(j:Int) - 1∧iv=iT z∧o=sL g n c∧aY wr (X+1) g n c (xH M Q j) I none∧Below (X+1) W wr) (fun _ iv _=>(intOf iv+1).toNat)
 case atStart=>exact ⟨n0,1,X+1,1,_,_,GL _,rfl,rfl,rfl,by rw [← a9.o,Er];exact bq.o,ai.o⟩
 case round =>
  obtain ⟨j,n,g,c,I,z,hj,hz,rfl,rfl,hP,hb⟩:=hrel;have J:Eq (aY wr (X+1) g n c (xH M Q j) I none):=hP;have f:Eq (Below (X+1) W wr):=hb;have hn:n≤101:=by have:=hP.len;have:=a9.o;simp [xH] at *;omega
  clear hP hb t2 tl zb zX;have t2:=al.o wr f.o;have tl:=cell_later (y.o wr f.o) ao.o;have zb:=E' ab (y.o wr f.o).size;have zX:=GK _ _ t2;by_cases aq:j=0
  · subst aq;have ax:z=-1:=by omega
    subst ax;have bb:Eq (aY wr (X+1) g n c (lowP M V 1) I none):=by show aY wr (X+1) g n c (lowP M V 1) I none;rw [Dk,aV.o];exact J.o
    clear hz wj tl t2 zb zX;go_wp2;go_loopw [3,5] (fun o kv wr=>∃(k n g c:Nat) (I:List Value),1≤k∧k≤F∧kv=iT k∧o=sL g n c∧aY wr (X+1) g n c (lowP M V k) I none∧Below (X+1) W wr) (fun _ kv _=>F - (intOf kv).toNat)
    case atStart=>exact ⟨1,n,g,c,I,GL _,by omega,rfl,rfl,bb.o,f.o⟩
    case round =>
     clear J bb f hn;obtain ⟨k,n,g,c,I,bM,hk,rfl,rfl,hP,hb⟩:=hrel;have J:Eq (aY wr (X+1) g n c (lowP M V k) I none):=hP;have f:Eq (Below (X+1) W wr):=hb;have hn:n≤201:=by
      have h1:=hP.len;have h2:=a9.o;have h3:=b1.o;have h4:=aV.o;simp only [lowP,xH,h4,GO,Hn,Id,List.length_reverse,G7,GS] at h1;omega
     clear hP hb;have t2:=al.o wr f.o;have zX:=GK _ _ t2;have zb:=E' ab (y.o wr f.o).size;by_cases bg:k<F
     · have b2:(k:Int)<(F:Int):=by omega
       obtain ⟨B,sB,nB,cB,hB,gB,aA⟩:=HL.o.level (Below.refl _ w) k bg;have aE:Eq (lowP M V (k+1)=lowP M V k++[aW B]):=AL hB bM;have U:Eq (B.length≤100∧∀r ∈ B,1≤r.1.length∧r.1.length≤10000):=HV.o B (GP hB);have aQ:Eq (aw lo w sB nB cB B):=aA;have b4:Eq (B.length=nB):=aA.length;have bp:Eq (w.cell? ⟨b,K+k,none⟩=some (.slice sB nB cB)):=gB;have cf:nB≤100:=by have:=U.o.1;have:=b4.o;omega
       clear hB gB aA;go_upto_region 10 with fail
       obtain ⟨ga,ad⟩:=aG wr.heap.size;obtain ⟨wa,a5⟩:=aG (wr.alloc (.cells #[] 50));have H:Below wr.heap.size wr wa:=by rw [a5];exact bZ
       have bc:Eq (ag wa (X+1) ga 0 0 (aW (B.take 0))):=by
        have:=Hi (base:=X+1) (e:=50) (size:=5) wr #[] 0 (E.o wr f.o) (by simp) (by simp);rw [a5,ad];exact ⟨by simpa [aW,aF] using this,rfl,by simp [aW]⟩
       have bd:Eq (aY wa (X+1) g n c (lowP M V k) I (some ga)):=by
        rw [ad];exact (J.o.turn (.inr (.inr rfl))).below H
       have aO:Eq (Below (X+1) W wa):=by rw [a5];exact f.o.alloc (E.o wr f.o) _
       rw [← a5,← ad];clear a5 ad H t2 zX zb;go_wp2;go_loopw [6,7] (fun o iv wq=>∃(i na ga ca:Nat),i≤nB∧iv=iT i∧o=sL ga na ca∧ag wq (X+1) ga na ca (aW (B.take i))∧aY wq (X+1) g n c (lowP M V k) I (some ga)∧Below (X+1) W wq) (fun _ iv _=>nB - (intOf iv).toNat)
       case atStart=>exact ⟨0,0,ga,0,GQ _,rfl,rfl,bc.o,bd.o,aO.o⟩
       case round =>
        clear bc bd aO J f;obtain ⟨i,na,ga,ca,ce,rfl,rfl,hO,hP,hb⟩:=hrel;have HO:Eq (ag wr (X+1) ga na ca (aW (B.take i))):=hO;have J:Eq (aY wr (X+1) g n c (lowP M V k) I (some ga)):=hP;have f:Eq (Below (X+1) W wr):=hb;have c7:na≤1000000:=by
         have h1:=hO.len;have h2:=Bk (B:=B.take i) (m:=10000) (fun r hr=>(U.o.2 r (Hq hr)).2);have h3:(B.take i).length≤100:=by rw [GS];omega
         have h4:(B.take i).length*10000≤100*10000:=Nat.mul_le_mul_right _ h3;omega
        clear hO hP hb;have t2:=al.o wr f.o;have zX:=GK _ _ t2;have zb:=E' ab (y.o wr f.o).size;have gB:=cell_later (y.o wr f.o) bp.o;by_cases bJ:i<nB
        · have bO:(i:Int)<(nB:Int):=by omega
          obtain ⟨bB,oB,rfl,br⟩:=aQ.o.form (by omega);obtain ⟨L,m,s,ns,cs,hg,_,g0,_,hE⟩:=aQ.o.run (Below.refl _ w) i bJ;have ap:=U.o.2 _ (GP hg);have au:=hE.1.length;simp only at ap;obtain ⟨bs,os,rfl,c2⟩:=hE.1.form (by omega);have bS:1≤ns:=by omega
          have bT:ns≤10000:=by omega
          have aD:Eq (aW (B.take (i+1))=aW (B.take i)++L):=yU hg;have HE:Eq (ah w (some ⟨bs,os,none⟩) ns cs L):=hE.1;have bv:Eq ((aF L).length=ns*5):=by show _=_;rw [aX,au]
          have b5:Eq (L.length=ns):=au;have bj:Eq (∀j u,(aF L)[j]?=some u→wr.cell? ((⟨bs,os,none⟩:Addr).add j)=some u):=jK (hE.1.keep (y.o wr f.o));have bl:Eq (∀u ∈ aF L,u.oneCell'=true):=bf L;have g0:=cell_later (y.o wr f.o) g0;have zr:=E' br (y.o wr f.o).size;clear hg hE ap au;go_wp2_with (at_builtin;refine wpList_append_own_at _ rfl _ _ 28 rfl (X+1) 50 i1 _ 5 56 Tryz.underlying28 bt bK bi bw rfl (by decide) _ _ _ rfl HO.o.owns ⟨bs,os,none⟩ ns cs (aF L) rfl bv.o bj.o bl.o ?c3 ?c4 ?c5 ?_)
          case c3=>unfold maxLen;omega
          case c4=>omega
          case c5=>exact E.o wr f.o
          intro v' w2 d hgrow hnil hat;obtain ⟨N,C,rfl⟩:∃g D,v'=sL g (na+ns) D:=by
           rcases d.2 with ⟨hv,h0⟩ | ⟨g,D,aR,hv,_⟩
           · omega
           · exact ⟨g,D,hv⟩
          have bz:Eq (ag w2 (X+1) N (na+ns) C (aW (B.take (i+1)))):=by
           refine ⟨?_,?_,?_⟩
           · rw [aD.o,bC];exact d
           · rw [aD.o,GO,HO.o.len,b5.o]
           · intro l hl;rw [aD.o] at hl;rcases GX.1 hl with h1 | h1
             · exact HO.o.ents l h1
             · exact HE.o.ents l h1
          have Y:Eq (aY w2 (X+1) g n c (lowP M V k) I (some N)):=J.o.move hgrow (by rcases hat with h | h;exact .inl (by have h1:N=ga:=GN h;rw [h1]);exact .inr (by have h1:N=wr.heap.size:=GN h;rw [h1]));have Z:Eq (Below (X+1) W w2):=f.o.grown hgrow (E.o wr f.o) (fun q hq=>(HO.o.owns.lt q hq).1);clear d hgrow hnil hat;go_wp2;go_roundw
          case rel=>exact ⟨i+1,na+ns,N,C,by omega,by go_num,rfl,bz.o,Y.o,Z.o⟩
          case measure=>simp [intOf] <;> omega
        · have bO:¬(i:Int)<(nB:Int):=by omega
          have bN:Eq (aW (B.take i)=aW B):=by show aW (B.take i)=_;rw [GV (by rw [b4.o];omega)]
          go_wp2_with (at_builtin;refine wpList_append_own_at _ rfl _ _ 102 rfl (X+1) 28 i0 _ 1 24 Tryz.underlying102 hi aT ba b3 rfl (by decide) _ _ _ rfl (J.o.owns.alloc _) ⟨wr.heap.size,0,none⟩ 1 1 [sL ga na ca] rfl rfl ?r1 ?r2 ?r3 ?r4 ?r5 ?_)
          case r2=>first | rfl | simp
          case r3=>unfold maxLen;omega
          case r4=>omega
          case r5=>have:=E.o wr f.o;simp;omega
          intro v' w2 d hgrow hnil hat;obtain ⟨N,C,rfl⟩:∃g D,v'=sL g (n+1) D:=by
           rcases d.2 with ⟨hv,h0⟩ | ⟨g,D,aR,hv,_⟩
           · omega
           · exact ⟨g,D,hv⟩
          have Y:Eq (aY w2 (X+1) N (n+1) C (lowP M V (k+1)) (I++[sL ga na ca]) none):=by
           have H:∀o,Below wr.heap.size wr (wr.alloc o):=fun o=>(Below.refl _ _).alloc (GL _) o
           have h1:=(J.o.below (H _)).push (A:=aW B) d hgrow (by rcases hat with h | h;exact .inl (GN h);exact .inr (by have h1:N=wr.heap.size+1:=GN h;simpa using h1)) (by rw [← bN.o];exact HO.o.entsAt.keep (H _)) (fun x e hp=>by
            have h3:=J.o.ne;cases e;exact fun e=>h3 (by rw [← e]))
           show aY _ _ _ _ _ _ _ _
           rw [aE.o];exact h1
          have Z:Eq (Below (X+1) W w2):=(f.o.alloc (E.o wr f.o) _).grown hgrow (by have:=E.o wr f.o;simp;omega) (fun q hq=>(J.o.owns.lt q hq).1);clear d hgrow hnil hat;go_wp2;go_roundw
          case rel=>exact ⟨k+1,n+1,N,C,_,by omega,by omega,by go_num,rfl,Y.o,Z.o⟩
          case measure=>simp [intOf] <;> omega
     · have b2:¬(k:Int)<(F:Int):=by omega
       have HC:Eq (lowP M V k=eZ M V):=by
        show lowP M V k=_
        rw [← Dl,b1.o,show k=F by omega]
       go_wp2;go_ret;exact ⟨some ⟨g,0,none⟩,n,c,rfl,by rw [← HC.o];exact J.o.partsAt,y.o wr f.o⟩
  · obtain ⟨jj,rfl⟩:∃jj,j=jj+1:=⟨j - 1,by omega⟩;have ax:z=(jj:Int):=by omega
    subst ax;clear hz aq;have c6:(jj:Int)<(n0:Int):=by omega
    have aq:(0:Int)≤(jj:Int):=by omega
    obtain ⟨b0,o0,rfl,bD⟩:=aN.o.form (by omega);obtain ⟨L,m,s,ns,cs,hg,_,g0,_,hE⟩:=aN.o.run (Below.refl _ w) jj (by omega);have aE:Eq (xH M Q jj=xH M Q (jj+1)++[L]):=B8 hg;have HE:Eq (ah w s ns cs L):=hE.1;have g0:=cell_later (y.o wr f.o) g0;have zr:=E' bD (y.o wr f.o).size;clear hg hE;go_wp2_with (at_builtin;refine wpList_append_own_at _ rfl _ _ 102 rfl (X+1) 28 i0 _ 1 24 Tryz.underlying102 hi aT ba b3 rfl (by decide) _ _ _ rfl (J.o.owns.alloc _) ⟨wr.heap.size,0,none⟩ 1 1 [.slice s ns cs] rfl rfl ?q1 ?q2 ?q3 ?q4 ?q5 ?_)
    case q2=>first | rfl | simp
    case q3=>unfold maxLen;omega
    case q4=>omega
    case q5=>have:=E.o wr f.o;simp;omega
    intro v' w2 d hgrow hnil hat;obtain ⟨N,C,rfl⟩:∃g D,v'=sL g (n+1) D:=by
     rcases d.2 with ⟨hv,h0⟩ | ⟨g,D,aR,hv,_⟩
     · omega
     · exact ⟨g,D,hv⟩
    have Y:Eq (aY w2 (X+1) N (n+1) C (xH M Q jj) (I++[.slice s ns cs]) none):=by
     have H:∀o,Below wr.heap.size wr (wr.alloc o):=fun o=>(Below.refl _ _).alloc (GL _) o
     have kw:=y.o wr f.o;have h1:=(J.o.below (H _)).push d hgrow (by rcases hat with h | h;exact .inl (GN h);exact .inr (by have h1:N=wr.heap.size+1:=GN h;simpa using h1)) (HE.o.keep (kw.trans ((H _).mono kw.size))) (fun x e hp=>by
      have h2:=(HE.o.lies x e hp).1;have h3:=(J.o.owns.lt g rfl).1;have h4:=bh.o;omega)
     show aY _ _ _ _ _ _ _ _
     rw [aE.o];exact h1
    have Z:Eq (Below (X+1) W w2):=(f.o.alloc (E.o wr f.o) _).grown hgrow (by have:=E.o wr f.o;simp;omega) (fun q hq=>(J.o.owns.lt q hq).1);clear d hgrow hnil hat;go_wp2;go_roundw
    case rel=>exact ⟨jj,n+1,N,C,_,(jj:Int) - 1,by omega,rfl,by go_num,rfl,Y.o,Z.o⟩
    case measure=>simp [intOf] <;> omega
def fa (V:List (List af)) (q:Int):Bool:=match V with
 | [A,B,C]=>dK A 4 false q && (dK B 8 true q && dK C 8 true q)
 | _=>false
def aP (q:Int) (M:List ac) (V:List (List af)) (S:List Int):Bool :=
 decide (0≤q) && (decide (q≤100000) && (decide (M.length≤60) && (aI M && (b6 M q && (decide (V.length=3) && (cG S q && (fa V q && jp (eZ M V))))))))
theorem cT {b:Int} {e:Bool} (h:dK B b e q=true) (hm:b≤8):B.length≤100∧∀r ∈ B,1≤r.1.length∧r.1.length≤10000:=by
 unfold dK at h;rw [G2] at h;have h1:=of_decide_eq_true h.1;refine ⟨by omega,fun r hr=>?_⟩;obtain ⟨j,d,rfl⟩:=Hm hr;have h2:=(Hf.1 h.2) j (Ia.2 d);rw [dY (j' d),G2] at h2;have h3:=bE h2.1;omega
theorem ii (h:aP q M V S=true→False):aP q M V S=false:=by
 rw [IL];exact h
theorem aL (h:aP q M V S=true):0≤q∧q≤100000∧M.length≤60∧aI M=true∧b6 M q=true∧V.length=3∧cG S q=true∧fa V q=true∧jp (eZ M V)=true:=by
 simpa [aP] using h
theorem iq (lo:Nat) (sq:Int) (Q av ak:Option Addr) (y Y nv cv nk ck:Nat) (M:List ac) (V:List (List af)) (S:List Int) (w:World) (hT:aZ lo w Q y Y av nv cv ak nk ck M V S) :
 Calls Tryz.prog 27 #[.agg #[iT sq,.slice Q y Y,.slice av nv cv,.slice ak nk ck]] w fun e w'=>e=.returned (.bool (aP sq M V S))∧Bl w w':=by
 have HT:=az hT;have ap:Eq (M.length=y):=hT.mem.1.length;have ao:Eq (V.length=nv):=hT.levels.length;have b4:=hT.mem.1.big;have bd:=hT.mem.1.room;have b2:=hT.levels.big;have bb:=hT.levels.room;unfold maxLen at b4 b2;clear hT;obtain ⟨X,hX⟩:=aG w.heap.size;obtain ⟨W,hW⟩:=aG (w.alloc (.cells #[iT sq,.slice Q y Y,.slice av nv cv,.slice ak nk ck] 31));have kW:Bl w W:=by rw [hW];exact bZ
 have x0:W.cell? ⟨X,0,none⟩=some (iT sq):=by rw [hW,hX];simp
 have x1:W.cell? ⟨X,1,none⟩=some (.slice Q y Y):=by rw [hW,hX];simp
 have x2:W.cell? ⟨X,2,none⟩=some (.slice av nv cv):=by rw [hW,hX];simp
 have x3:W.cell? ⟨X,3,none⟩=some (.slice ak nk ck):=by rw [hW,hX];simp
 have zX:=GK _ _ x0;have E:Eq (Bl w W):=kW;go_enter Tryz.func27,Tryz.ntmps27
 go_upto_region 1 with fail
 rw [← hW,← hX];clear hW hX kW;by_cases h1:sq<0
 · have g:Eq (aP sq M V S=false):=ii (fun h=>by have:=(aL h).1;omega);go_wp2;go_ret;exact ⟨aj g.o.symm,E.o⟩
 by_cases h2:100000<sq
 · have g:Eq (aP sq M V S=false):=ii (fun h=>by have:=(aL h).2.1;omega);go_wp2;go_ret;exact ⟨aj g.o.symm,E.o⟩
 by_cases h3:60<y
 · have g:Eq (aP sq M V S=false):=ii (fun h=>by have:=(aL h).2.2.1;have:=ap.o;omega);have aO:(60:Int)<(y:Int):=by omega
   go_wp2;go_ret;exact ⟨aj g.o.symm,E.o⟩
 have aO:¬(60:Int)<(y:Int):=by omega
 obtain ⟨R,hR⟩:=aG (aI M);go_wp2_with fail
 refine (ln Q y Y M _ (HT.o.mem.1.keep E.o)).mono ?_;rw [← hR];rintro e w1 ⟨rfl,O⟩;have x0:=cell_later O x0;have x1:=cell_later O x1;have x2:=cell_later O x2;have x3:=cell_later O x3;have zX:=GK _ _ x0;have K1:Eq (Bl w w1):=E.o.trans (O.mono E.o.size);clear O E;cases hRv:R with
 | false =>
  have g:Eq (aP sq M V S=false):=ii (fun h=>by have h':=(aL h).2.2.2.1;rw [← hR,hRv] at h';cases h');go_wp2;go_ret;exact ⟨aj g.o.symm,K1.o⟩
 | true =>
 have aW:Eq (aI M=true):=by show _=_;rw [← hR];exact hRv
 clear hR hRv;obtain ⟨I,hI⟩:=aG (b6 M sq);go_wp2_with fail
 refine (ql Q y Y M sq _ (HT.o.mem.1.keep K1.o)).mono ?_;rw [← hI];rintro e ba ⟨rfl,rfl⟩;cases hIv:I with
 | false =>
  have g:Eq (aP sq M V S=false):=ii (fun h=>by have h':=(aL h).2.2.2.2.1;rw [← hI,hIv] at h';cases h');go_wp2;go_ret;exact ⟨aj g.o.symm,K1.o⟩
 | true =>
 have aS:Eq (b6 M sq=true):=by show _=_;rw [← hI];exact hIv
 clear hI hIv;by_cases h4:¬nv=3
 · have g:Eq (aP sq M V S=false):=ii (fun h=>by have:=(aL h).2.2.2.2.2.1;have:=ao.o;omega);have bc:¬(nv:Int)=3:=by omega
   go_wp2;go_ret;exact ⟨aj g.o.symm,K1.o⟩
 have h4:nv=3:=by omega
 subst h4;obtain ⟨N,hN⟩:=aG (cG S sq);go_wp2_with fail
 refine (Ap sq lo _ _ ak nk ck S _ (HT.o.snaps.keep K1.o)).mono ?_;rw [← hN];rintro e wr ⟨rfl,L⟩;have x0:=cell_later L x0;have x1:=cell_later L x1;have x2:=cell_later L x2;have x3:=cell_later L x3;have zX:=GK _ _ x0;have F:Eq (Bl w wr):=K1.o.trans (L.mono K1.o.size);clear L K1;cases hNv:N with
 | false =>
  have g:Eq (aP sq M V S=false):=ii (fun h=>by have h':=(aL h).2.2.2.2.2.2.1;rw [← hN,hNv] at h';cases h');go_wp2;go_ret;exact ⟨aj g.o.symm,F.o⟩
 | true =>
 have aY:Eq (cG S sq=true):=by show _=_;rw [← hN];exact hNv
 clear hN hNv;obtain ⟨A,B,C,aT⟩:∃A B C,V=[A,B,C]:=by
  have:=ao.o;match V,this with
  | [A,B,C],_=>exact ⟨A,B,C,rfl⟩
 subst aT;obtain ⟨b,J,rfl,aA⟩:=HT.o.levels.form (by omega);obtain ⟨A',a0,n0,c0,hA,l0,aC⟩:=HT.o.levels.level (Below.refl _ w) 0 (by omega);obtain ⟨B',a1,n1,c1,hB,l1,aD⟩:=HT.o.levels.level (Below.refl _ w) 1 (by omega);obtain ⟨C',a2,n2,c2,hC,l2,aB⟩:=HT.o.levels.level (Below.refl _ w) 2 (by omega);simp only [IF,Ig,Ix] at hA hB hC;subst hA hB hC;rw [Ik] at l0;have l0:=cell_later F.o l0;have l1:=cell_later F.o l1;have l2:=cell_later F.o l2;have zb:=E' aA F.o.size;have d:Eq (∀w',Bl wr w'→(w'.cell? ⟨X,0,none⟩=some (iT sq)∧w'.cell? ⟨X,1,none⟩=some (.slice Q y Y)∧w'.cell? ⟨X,2,none⟩=some (sO b J 3 cv)∧w'.cell? ⟨X,3,none⟩=some (.slice ak nk ck)∧w'.cell? ⟨b,J,none⟩=some (.slice a0 n0 c0)∧w'.cell? ⟨b,J+1,none⟩=some (.slice a1 n1 c1)∧w'.cell? ⟨b,J+2,none⟩=some (.slice a2 n2 c2)∧b<w'.heap.size∧X<w'.heap.size)):=fun w' Z=>⟨cell_later Z x0,cell_later Z x1,cell_later Z x2,cell_later Z x3,cell_later Z l0,cell_later Z l1,cell_later Z l2,E' zb Z.size,E' zX Z.size⟩
 have m:Bl wr wr.drew:=(Below.refl _ wr).drew;have T:Eq (∀w',Bl wr w'→Bl w w'):=fun w' Z=>F.o.trans (Z.mono F.o.size)
 have s:Eq (aP sq M [A,B,C] S=(dK A 4 false sq && (dK B 8 true sq && (dK C 8 true sq && jp (eZ M [A,B,C]))))):=by
  show aP sq M [A,B,C] S=_
  have e1:decide (0≤sq)=true:=decide_eq_true (by omega);have e2:decide (sq≤100000)=true:=decide_eq_true (by omega);have e3:decide (M.length≤60)=true:=decide_eq_true (by rw [ap.o];omega);unfold aP;rw [e1,e2,e3,aW.o,aS.o,aY.o];simp [fa,Bool.and_assoc]
 obtain ⟨V0,a8⟩:∃x,x=dK A 4 false sq:=⟨_,rfl⟩;obtain ⟨V1,ae⟩:∃x,x=dK B 8 true sq:=⟨_,rfl⟩;obtain ⟨V2,ab⟩:∃x,x=dK C 8 true sq:=⟨_,rfl⟩;obtain ⟨G,hG⟩:∃x,x=jp (eZ M [A,B,C]):=⟨_,rfl⟩;rw [← a8,← ae,← ab,← hG] at s;have a7:Eq (∀w',Bl wr w'→Calls Tryz.prog 90 #[.slice a0 n0 c0,iT 4,.bool false,iT sq] w' fun e t=>e=.returned (.bool V0)∧Bl w' t):=fun w' k=>by rw [a8];exact qn lo a0 n0 c0 A 4 false sq w' (aC.keep (T.o w' k))
 have ah:Eq (∀w',Bl wr w'→Calls Tryz.prog 90 #[.slice a1 n1 c1,iT 8,.bool true,iT sq] w' fun e t=>e=.returned (.bool V1)∧Bl w' t):=fun w' k=>by rw [ae];exact qn lo a1 n1 c1 B 8 true sq w' (aD.keep (T.o w' k))
 have a9:Eq (∀w',Bl wr w'→Calls Tryz.prog 90 #[.slice a2 n2 c2,iT 8,.bool true,iT sq] w' fun e t=>e=.returned (.bool V2)∧Bl w' t):=fun w' k=>by rw [ab];exact qn lo a2 n2 c2 C 8 true sq w' (aB.keep (T.o w' k))
 have a3:Eq (V0=true→V1=true→V2=true→∀w',Bl wr w'→Calls Tryz.prog 91 #[.agg #[iT sq,.slice Q y Y,sO b J 3 cv,.slice ak nk ck]] w' fun e t=>e=.returned (.bool G)∧Bl w' t):=by
  intro e0 e1 e2 w' k;rw [hG];refine Ct sq Q _ ak y Y 3 cv nk ck (eZ M [A,B,C]) w' (fun w1 k1=>?_);have kw:=T.o w' k;refine As lo sq Q _ ak y Y 3 cv nk ck M [A,B,C] S w1 (HT.o.keep (kw.trans (k1.mono kw.size))) (by omega) (by omega) ?_;intro D hD;simp only [GZ,Hs,or_false] at hD;rcases hD with rfl | rfl | rfl
  · exact cT (by rw [← a8];exact e0) (by omega)
  · exact cT (by rw [← ae];exact e1) (by omega)
  · exact cT (by rw [← ab];exact e2) (by omega)
 clear a8 ae ab hG aC aD aB l0 l1 l2 x0 x1 x2 x3 zb HT T ao ap aA;cases V0 with
 | false =>
  have g:Eq (aP sq M [A,B,C] S=false):=by show _=_;rw [s.o];rfl
  clear a3 ah a9 s;go_wp2_with fail
  refine eJ d m fun f=>?_
  refine aR 0 6 f ?_;refine aV 6 fun K hK=>?_
  go_simp;refine (a7.o _ m).mono ?_;rintro e wk1 ⟨rfl,u⟩;have k1:Bl wr wk1:=m.trans (u.mono m.size);go_wp2_with fail
  refine hK.o _ _ (d.o _ k1) fun f=>?_
  (try go_frame);refine aR 7 7 f ?_;refine aV 14 fun K hK=>?_
  go_simp;refine hK.o _ _ (d.o _ k1) fun f=>?_
  (try go_frame);refine aR 15 8 f ?_;refine aV 23 fun K hK=>?_
  go_simp;refine hK.o _ _ (d.o _ k1) fun f=>?_
  (try go_frame);refine aR 24 3 f ?_;refine aV 27 fun K hK=>?_
  go_simp;refine hK.o _ _ (d.o _ k1) fun f=>?_
  (try go_frame);refine aR 28 2 f ?_;refine dN ?_;have KY:Eq (Bl w wk1):=F.o.trans (k1.mono F.o.size);clear m d f;go_wp2;go_ret;exact ⟨aj g.o.symm,KY.o⟩
 | true =>
 cases V1 with
 | false =>
  have g:Eq (aP sq M [A,B,C] S=false):=by show _=_;rw [s.o];rfl
  clear a3 a9 s;go_wp2_with fail
  refine eJ d m fun f=>?_
  refine aR 0 6 f ?_;refine aV 6 fun K hK=>?_
  go_simp;refine (a7.o _ m).mono ?_;rintro e wk1 ⟨rfl,u⟩;have k1:Bl wr wk1:=m.trans (u.mono m.size);go_wp2_with fail
  refine hK.o _ _ (d.o _ k1) fun f=>?_
  (try go_frame);refine aR 7 7 f ?_;refine aV 14 fun K hK=>?_
  go_simp;refine (ah.o _ k1).mono ?_;rintro e wk2 ⟨rfl,U⟩;have H:Bl wr wk2:=k1.trans (U.mono k1.size);go_wp2_with fail
  refine hK.o _ _ (d.o _ H) fun f=>?_
  (try go_frame);refine aR 15 8 f ?_;refine aV 23 fun K hK=>?_
  go_simp;refine hK.o _ _ (d.o _ H) fun f=>?_
  (try go_frame);refine aR 24 3 f ?_;refine aV 27 fun K hK=>?_
  go_simp;refine hK.o _ _ (d.o _ H) fun f=>?_
  (try go_frame);refine aR 28 2 f ?_;refine dN ?_;have KY:Eq (Bl w wk2):=F.o.trans (H.mono F.o.size);clear m d f;go_wp2;go_ret;exact ⟨aj g.o.symm,KY.o⟩
 | true =>
 cases V2 with
 | false =>
  have g:Eq (aP sq M [A,B,C] S=false):=by show _=_;rw [s.o];rfl
  clear a3 s;go_wp2_with fail
  refine eJ d m fun f=>?_
  refine aR 0 6 f ?_;refine aV 6 fun K hK=>?_
  go_simp;refine (a7.o _ m).mono ?_;rintro e wk1 ⟨rfl,u⟩;have k1:Bl wr wk1:=m.trans (u.mono m.size);go_wp2_with fail
  refine hK.o _ _ (d.o _ k1) fun f=>?_
  (try go_frame);refine aR 7 7 f ?_;refine aV 14 fun K hK=>?_
  go_simp;refine (ah.o _ k1).mono ?_;rintro e wk2 ⟨rfl,U⟩;have H:Bl wr wk2:=k1.trans (U.mono k1.size);go_wp2_with fail
  refine hK.o _ _ (d.o _ H) fun f=>?_
  (try go_frame);refine aR 15 8 f ?_;refine aV 23 fun K hK=>?_
  go_simp;refine (a9.o _ H).mono ?_;rintro e wk3 ⟨rfl,ar⟩;have k3:Bl wr wk3:=H.trans (ar.mono H.size);go_wp2_with fail
  refine hK.o _ _ (d.o _ k3) fun f=>?_
  (try go_frame);refine aR 24 3 f ?_;refine aV 27 fun K hK=>?_
  go_simp;refine hK.o _ _ (d.o _ k3) fun f=>?_
  (try go_frame);refine aR 28 2 f ?_;refine dN ?_;have KY:Eq (Bl w wk3):=F.o.trans (k3.mono F.o.size);clear m d f;go_wp2;go_ret;exact ⟨aj g.o.symm,KY.o⟩
 | true =>
  have g:Eq (aP sq M [A,B,C] S=G):=by show _=_;rw [s.o];cases G <;> rfl
  have b1:Eq (∀w',Bl wr w'→Calls Tryz.prog 91 #[.agg #[iT sq,.slice Q y Y,sO b J 3 cv,.slice ak nk ck]] w' fun e t=>e=.returned (.bool G)∧Bl w' t):=a3.o rfl rfl rfl;clear s a3;go_wp2_with fail
  refine eJ d m fun f=>?_
  refine aR 0 6 f ?_;refine aV 6 fun K hK=>?_
  go_simp;refine (a7.o _ m).mono ?_;rintro e wk1 ⟨rfl,u⟩;have k1:Bl wr wk1:=m.trans (u.mono m.size);go_wp2_with fail
  refine hK.o _ _ (d.o _ k1) fun f=>?_
  (try go_frame);refine aR 7 7 f ?_;refine aV 14 fun K hK=>?_
  go_simp;refine (ah.o _ k1).mono ?_;rintro e wk2 ⟨rfl,U⟩;have H:Bl wr wk2:=k1.trans (U.mono k1.size);go_wp2_with fail
  refine hK.o _ _ (d.o _ H) fun f=>?_
  (try go_frame);refine aR 15 8 f ?_;refine aV 23 fun K hK=>?_
  go_simp;refine (a9.o _ H).mono ?_;rintro e wk3 ⟨rfl,ar⟩;have k3:Bl wr wk3:=H.trans (ar.mono H.size);go_wp2_with fail
  refine hK.o _ _ (d.o _ k3) fun f=>?_
  (try go_frame);refine aR 24 3 f ?_;refine aV 27 fun K hK=>?_
  go_simp;refine (b1.o _ k3).mono ?_;rintro e wk4 ⟨rfl,b0⟩;have k4:Bl wr wk4:=k3.trans (b0.mono k3.size);go_wp2_with fail
  refine hK.o _ _ (d.o _ k4) fun f=>?_
  (try go_frame);refine aR 28 2 f ?_;refine dN ?_;have KY:Eq (Bl w wk4):=F.o.trans (k4.mono F.o.size);clear m d f;go_wp2;go_ret;exact ⟨aj g.o.symm,KY.o⟩
theorem lJ (b e n c:Nat) (L:List ac) (w:World) (h:ah w (some ⟨b,e,none⟩) n c L) (hn:1≤n) :
 Calls Tryz.prog 126 #[sO b e n c] w fun r w'=>r=.returned (.agg #[.string (bj L),.string (aT L)])∧Bl w w':=by
 have E:=h.length;have hr:=h.room;have I:=h.big;unfold maxLen at I;obtain ⟨y,g,x⟩:=m9 (L:=L) (by omega);obtain ⟨A,f,m⟩:=ji (L:=L) (by omega);rw [E] at f;rw [x,m];have u:=(h.lies _ rfl (by omega)).1;simp only at u;obtain ⟨s,q,d,t,nn,hg,_,H,_⟩:=h.ent (Below.refl _ w) u 0 (by omega);rw [g] at hg;cases hg;obtain ⟨N,q',Y,T,J,C,_,O,_⟩:=h.ent (Below.refl _ w) u (n - 1) (by omega);rw [f] at C;cases C;rw [I3,Ik] at H;have X:(0:Int)<(n:Int):=by omega
 have Z:0<n:=hn;have a0:(1:Int)≤(n:Int):=by omega
 have R:(0:Int)≤(n:Int) - 1:=by omega
 have a2:(n:Int) - 1<(n:Int):=by omega
 have U:((n:Int) - 1).toNat=n - 1:=by omega
 have wj:IntKind.i64.wrap ((n:Int) - 1)=(n:Int) - 1:=by rw [G4];unfold wrap64;omega
 clear h x m g f E;generalize g:(s,q,d,t,nn)=y;generalize f:(N,q',Y,T,J)=A;have e1:s=y.1:=by rw [← g]
 have e2:N=A.1:=by rw [← f]
 rw [e1] at H;rw [e2] at O;clear e1 e2 g f;have W:Bl w (w.alloc (.cells #[.string ⟨#[]⟩,.string ⟨#[]⟩] 135)).drew:=bZ.drew;have D:Eq (∀w',Bl w w'→w.heap.size<w'.heap.size→(w'.cell? ⟨b,e,none⟩=some (.string y.1)∧w'.cell? ⟨b,e+(n - 1)*5,none⟩=some (.string A.1)∧b<w'.heap.size∧w.heap.size<w'.heap.size)):=fun w' F z=>⟨cell_later F H,cell_later F O,E' u F.size,z⟩
 go_enter Tryz.func126,Tryz.ntmps126
 go_wp2_with fail
 refine wp_region_held_drew (S:=(fun w'=>w'.cell? ⟨b,e,none⟩=some (.string y.1)∧w'.cell? ⟨b,e+(n - 1)*5,none⟩=some (.string A.1)∧b<w'.heap.size∧w.heap.size<w'.heap.size)) (by kernel_rfl) (D.o _ W (by simp [World.drew])) (fun Q=>?_);refine aR 0 12 Q ?_;refine aV 12 fun K hK=>?_
 go_simp;go_wp2_with fail
 have k1:Bl w (w.alloc (.cells #[.string y.1,.string A.1] 135)).drew:=bZ.drew;refine hK.o _ _ (D.o _ k1 (by simp [World.drew])) fun Q=>?_
 (try go_frame);refine dN ?_;go_wp2;exact bodyPost_ret (v:=.agg #[.string y.1,.string A.1]) (by simp [results,Tryz.results126,go_sem]) rfl ⟨rfl,k1⟩
theorem oO (a b c d:ByteArray) (w:World) :
 Calls Tryz.prog 186 #[.agg #[.string a,.string b],.agg #[.string c,.string d]] w fun e w'=>e=.returned (.bool (Op.bytesLess b.toList c.toList))∧Bl w w':=by
 have m:∀g f,Bl w ((w.alloc g).alloc f):=fun g f=>((Below.refl _ _).alloc (GL _) g).alloc (by simp) f
 go_enter Tryz.func186,Tryz.ntmps186
 go_wp2;go_ret;exact ⟨rfl,m _ _⟩
def l6 (B:List af) (i:Nat):Bool:=match B[i]? with | none=>true | some r=>iQ B r i
def bn (B:List af):Bool:=(List.range B.length).all (l6 B)
theorem lQ {p:af} (h:B[i]?=some r) (hi:1≤i) (hp:B[i - 1]?=some p):l6 B i=oX p.1 r.1:=by
 obtain ⟨j,rfl⟩:∃j,i=j+1:=⟨i - 1,by omega⟩;simp only [Is] at hp;unfold l6 iQ;simp only [h,hp]
theorem Ea (hi:i<B.length) (h:l6 B i=false):bn B=false:=by
 rw [IL];intro h1;unfold bn at h1;rw [(Hf.1 h1) i (Ia.2 hi)] at h;cases h
theorem BO (h:∀j,1≤j→j<k→l6 B j=true) (hk:B.length≤k):bn B=true:=by
 unfold bn;rw [Hf];intro j b;have b:=Ia.1 b;by_cases e:j=0
 · subst e;unfold l6 iQ;cases B[0]? <;> rfl
 · exact h j (by omega) (by omega)
theorem zf (h:∀j,1≤j→j<k→l6 B j=true) (hk:l6 B k=true):∀j,1≤j→j<k+1→l6 B j=true:=by
 intro j h1 h2;by_cases e:j=k
 · subst e;exact hk
 · exact h j h1 (by omega)
theorem tK (lo:Nat) (a:Option Addr) (n c:Nat) (B:List af) (w:World) (h:aw lo w a n c B) (I:∀r ∈ B,1≤r.1.length) :
 Calls Tryz.prog 234 #[.slice a n c] w fun e w'=>e=.returned (.bool (bn B))∧Bl w w':=by
 have N:Eq (B.length=n):=h.length;have Q:=az I;have hr:=h.room;have a4:=h.big;unfold maxLen at a4;have H:=az h;clear h I;go_enter Tryz.func234,Tryz.ntmps234
 go_wp2;go_loopw [3] (fun iv wr=>∃i:Nat,1≤i∧i≤n+1∧iv=iT i∧Bl w wr∧(∀j,1≤j→j<i→l6 B j=true)) (fun iv _=>n - (intOf iv).toNat)
 case atStart=>exact ⟨1,GL _,by omega,rfl,Below.refl _ _,fun j h1 h2=>absurd h2 (by omega)⟩
 case round =>
  obtain ⟨i,R,hi,rfl,hb,hw⟩:=hrel;have HW:Eq (∀j,1≤j→j<i→l6 B j=true):=hw;have T:Eq (Bl w wr):=hb;clear hw;by_cases W:i<n
  · have U:(i:Int)<(n:Int):=by omega
    have a5:Eq (i<B.length):=by show i<B.length;rw [N.o];exact W
    obtain ⟨b,X,rfl,a3⟩:=H.o.form (by omega);obtain ⟨L,m,s,ns,cs,hg,_,g0,_,hE⟩:=H.o.run hb i W;obtain ⟨A,mp,sp,Z,cp,hp,_,p0,_,D⟩:=H.o.run hb (i - 1) (by omega);have l1:=Q.o _ (GP hg);have l2:=Q.o _ (GP hp);have hns:=hE.1.length;have ad:=D.1.length;simp only at l1 l2;obtain ⟨bs,os,rfl,_⟩:=hE.1.form (by omega);obtain ⟨bp,op,rfl,_⟩:=D.1.form (by omega);have E:Eq (l6 B i=Op.bytesLess (aT A).toList (bj L).toList):=lQ hg R hp;have zb:=E' a3 hb.size;have J:Eq (∀w',Bl wr w'→Calls Tryz.prog 126 #[sO bp op Z cp] w' fun r u=>r=.returned (.agg #[.string (bj A),.string (aT A)])∧Bl w' u):=fun w' k=>lJ bp op Z cp A w' (D.1.keep k) (by omega)
    have Y:Eq (∀w',Bl wr w'→Calls Tryz.prog 126 #[sO bs os ns cs] w' fun r u=>r=.returned (.agg #[.string (bj L),.string (aT L)])∧Bl w' u):=fun w' k=>lJ bs os ns cs L w' (hE.1.keep k) (by omega)
    have F:Eq (∀w',Bl wr w'→Calls Tryz.prog 186 #[.agg #[.string (bj A),.string (aT A)],.agg #[.string (bj L),.string (aT L)]] w' fun e u=>e=.returned (.bool (Op.bytesLess (aT A).toList (bj L).toList))∧Bl w' u):=fun w' _=>oO _ _ _ _ w'
    have d:Eq (∀w',Bl wr w'→(w'.cell? ⟨b,X+i*2,none⟩=some (sO bs os ns cs)∧w'.cell? ⟨b,X+(i - 1)*2,none⟩=some (sO bp op Z cp)∧b<w'.heap.size)):=fun w' kk=>⟨cell_later kk g0,cell_later kk p0,E' zb kk.size⟩
    have C:Bl wr wr.drew:=(Below.refl _ wr).drew;have ak:(0:Int)≤(i:Int) - 1:=by omega
    have ao:(i:Int) - 1<(n:Int):=by omega
    have an:(1:Int)≤(i:Int):=by omega
    have al:((i:Int) - 1).toNat=i - 1:=by omega
    have wj:IntKind.i64.wrap ((i:Int) - 1)=(i:Int) - 1:=by rw [G4];unfold wrap64;omega
    clear hg hp hE D l1 l2 hns ad g0 p0 zb hb R;generalize Op.bytesLess (aT A).toList (bj L).toList=O at E F;generalize bj A=x1,aT A=x2,bj L=x3,aT L=x4 at J Y F;cases O with
    | true =>
     go_wp2_with fail
     refine eJ d C fun f=>?_
     refine aR 0 6 f ?_;refine aR 7 5 f ?_;refine aV 6 fun K hK=>?_
     go_simp;refine (J.o _ C).mono ?_;rintro e wk1 ⟨rfl,g⟩;have k1:Bl wr wk1:=C.trans (g.mono C.size);go_wp2_with fail
     refine hK.o _ _ (d.o _ k1) fun f=>?_
     (try go_frame);refine aV 12 fun K hK=>?_
     go_simp;refine (Y.o _ k1).mono ?_;rintro e wk2 ⟨rfl,t⟩;have x:Bl wr wk2:=k1.trans (t.mono k1.size);go_wp2_with fail
     refine hK.o _ _ (d.o _ x) fun f=>?_
     (try go_frame);refine aV 13 fun K hK=>?_
     go_simp;refine (F.o _ x).mono ?_;rintro e wk3 ⟨rfl,y⟩;have k3:Bl wr wk3:=x.trans (y.mono x.size);go_wp2_with fail
     refine hK.o _ _ (d.o _ k3) fun f=>?_
     (try go_frame);refine aR 14 1 f ?_;refine dN ?_;have KY:Eq (Bl w wk3):=T.o.trans (k3.mono T.o.size);clear C k1 x k3 g t y d J Y F f;go_wp2;go_roundw
     case rel=>exact ⟨i+1,by omega,by omega,by go_num,KY.o,zf HW.o E.o⟩
     case measure=>simp [intOf];omega
    | false =>
     go_wp2_with fail
     refine eJ d C fun f=>?_
     refine aR 0 6 f ?_;refine aR 7 5 f ?_;refine aV 6 fun K hK=>?_
     go_simp;refine (J.o _ C).mono ?_;rintro e wk1 ⟨rfl,g⟩;have k1:Bl wr wk1:=C.trans (g.mono C.size);go_wp2_with fail
     refine hK.o _ _ (d.o _ k1) fun f=>?_
     (try go_frame);refine aV 12 fun K hK=>?_
     go_simp;refine (Y.o _ k1).mono ?_;rintro e wk2 ⟨rfl,t⟩;have x:Bl wr wk2:=k1.trans (t.mono k1.size);go_wp2_with fail
     refine hK.o _ _ (d.o _ x) fun f=>?_
     (try go_frame);refine aV 13 fun K hK=>?_
     go_simp;refine (F.o _ x).mono ?_;rintro e wk3 ⟨rfl,y⟩;have k3:Bl wr wk3:=x.trans (y.mono x.size);go_wp2_with fail
     refine hK.o _ _ (d.o _ k3) fun f=>?_
     (try go_frame);refine aR 14 1 f ?_;refine dN ?_;have KY:Eq (Bl w wk3):=T.o.trans (k3.mono T.o.size);clear C k1 x k3 g t y d J Y F f;go_wp2;go_ret;exact ⟨aj (Ea a5.o E.o).symm,KY.o⟩
  · have U:¬(i:Int)<(n:Int):=by omega
    have HC:Eq (bn B=true):=BO HW.o (by rw [N.o];omega);go_wp2;go_ret;exact ⟨aj HC.o.symm,T.o⟩
def eY (B:List af):Bool:=B.any (fun r=>!cU r.1 r.2)
theorem E5 (h:B[i]?=some r) (hr:cU r.1 r.2=false):eY B=true:=by
 unfold eY;rw [List.any_eq_true];exact ⟨r,GP h,by rw [hr];rfl⟩
theorem FN (h:∀j r,j<k→B[j]?=some r→cU r.1 r.2=true) (hk:B.length≤k):eY B=false:=by
 unfold eY;rw [I5];intro r hr;obtain ⟨j,b,e⟩:=Hm hr;rw [h j r (by omega) (by rw [j' b,e])];simp
theorem nM (h:eY B=false):∀r ∈ B,cU r.1 r.2=true:=by
 intro r hr;unfold eY at h;rw [I5] at h;simpa using h r hr
theorem Dv (lo:Nat) (a:Option Addr) (n c:Nat) (B:List af) (w:World) (h:aw lo w a n c B) :
 Calls Tryz.prog 251 #[.slice a n c,.func (.func 233) #[] #[]] w fun e w'=>(∃z:Int,e=.returned (iT z)∧decide (0≤z)=eY B)∧Bl w w':=by
 have f:=az h.length;have hr:=h.room;have x:=h.big;unfold maxLen at x;have H:=az h;go_enter Tryz.func251,Tryz.ntmps251
 go_wp2;go_loopw [8] (fun A wr=>∃i:Nat,i≤n∧A=iT i∧Bl w wr∧(∀j r,j<i→B[j]?=some r→cU r.1 r.2=true)) (fun A _=>n - (intOf A).toNat)
 case atStart=>exact ⟨0,GQ _,rfl,Below.refl _ _,fun j r I=>absurd I (H7 _)⟩
 case round =>
  obtain ⟨i,hi,rfl,hb,hw⟩:=hrel;have F:=az hw;have g:=az hb;by_cases u:i<n
  · have d:(i:Int)<(n:Int):=by omega
    obtain ⟨b,N,rfl,t⟩:=H.o.form (by omega);obtain ⟨L,m,s,J,cs,hg,_,U,W,hE⟩:=H.o.run hb i u;have D:=az hg;have Q:=az hE.1;have T:=E' t hb.size;obtain ⟨O,hO⟩:=aG (cU L m);go_wp2_with fail
    refine (A3 m s J cs L wr Q.o).mono ?_;rw [← hO];rintro e R ⟨rfl,C⟩;have E:=az (g.o.trans (C.mono g.o.size));cases hOv:O with
    | false =>
     have y:Eq (eY B=true):=E5 D.o (by show cU L m=false;rw [← hO,hOv]);go_wp2;go_ret;exact ⟨⟨(i:Int),rfl,by rw [y.o];simp⟩,E.o⟩
    | true =>
     have y:Eq (∀j r,j<i+1→B[j]?=some r→cU r.1 r.2=true):=by
      intro j r I hr;by_cases e:j=i
      · subst e;rw [D.o] at hr;cases hr;show cU L m=true;rw [← hO,hOv]
      · exact F.o j r (by omega) hr
     go_wp2;go_roundw
     case rel=>exact ⟨i+1,by omega,by go_num,E.o,y.o⟩
     case measure=>simp [intOf];omega
  · have d:¬(i:Int)<(n:Int):=by omega
    have K:Eq (eY B=false):=FN F.o (by rw [f.o];omega);go_wp2;go_ret;exact ⟨⟨-1,rfl,by rw [K.o];rfl⟩,g.o⟩
theorem kT (lo:Nat) (a:Option Addr) (n c:Nat) (B:List af) (w:World) (h:aw lo w a n c B) :
 Calls Tryz.prog 232 #[.slice a n c,.func (.func 233) #[] #[]] w fun e w'=>e=.returned (.bool (eY B))∧Bl w w':=by
 go_enter Tryz.func232,Tryz.ntmps232
 go_wp2_with fail
 refine (Dv lo a n c B w h).mono ?_;rintro e f ⟨⟨z,rfl,hz⟩,b⟩;have d:Eq (decide (0≤z)=eY B):=hz;clear hz;go_wp2;go_ret;exact ⟨aj d.o,b⟩
theorem tH (w:World):Calls Tryz.prog 231 #[iT 0] w fun e w'=>e=.returned (iT 4)∧w'=w:=by
 go_enter Tryz.func231,Tryz.ntmps231
 go_wp2;go_ret;exact ⟨rfl,rfl⟩
theorem lL (k:Nat) (w:World) (h:1≤k):Calls Tryz.prog 231 #[iT (k:Int)] w fun e w'=>e=.returned (iT 8)∧w'=w:=by
 have h1:¬(k:Int)=0:=by omega
 have h2:¬k=0:=by omega
 go_enter Tryz.func231,Tryz.ntmps231
 go_wp2;go_ret;exact ⟨rfl,rfl⟩
end Go.Proofs.YtpobkmjicbobdaaGreat
