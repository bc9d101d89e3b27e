/- Walks. -/
import Derived.Test.YtpobkmjicbobdaaGreatBl04
namespace Go.Proofs.YtpobkmjicbobdaaGreat
set_option maxRecDepth 100000
set_option maxHeartbeats 40000000
open Go.RowKit
variable {B:List an} {M:List ac} {S:List Int} {V:List (List an)} {c n:Nat} {q:Int} {r:an} {w:World}
theorem aW.move {w':World} {base g:Nat} {P:List (List ac)} {o:List Value} {y y':Option Nat} (h:aW w base g n c P o y) (hg:w.grownBy w' y) (hy:y'=y∨y'=some w.heap.size):aW w' base g n c P o y' where
 owns:=h.owns.kept hg (.inr h.ne)
 len:=h.len
 ne:=(h.turn (y':=y') (by rcases hy with e | e;exact .inl e;exact .inr (.inr e))).ne
 lists:=fun i A hA=>by
  obtain ⟨s,m,d,hv,hE,hx⟩:=h.lists i A hA
  obtain ⟨t,C,u,b,_,f⟩:=(h.turn (y':=y') (by rcases hy with e | e;exact .inl e;exact .inr (.inr e))).lists i A hA
  rw [hv] at b
  cases b
  exact ⟨s,m,d,hv,hE.grownB hg (fun x e hp=>(hx x e hp).2),f⟩
theorem iK {b o:Nat} {L:List ac} (h:ag w (some ⟨b,o,none⟩) n c L):∀j u,(aC L)[j]?=some u→w.cell? ((⟨b,o,none⟩:Addr).add j)=some u:=by
 intro j u d;have f:j<(aC L).length:=(Cx.1 d).1;rw [aU] at f;have hi:j / 5<L.length:=by omega
 obtain ⟨c0,c1,c2,c3,c4⟩:=h.cells _ rfl (j / 5) hi;obtain ⟨g,m,r2,r3,r4⟩:=fe L (j / 5) L[j / 5] (j' hi);rw [De];simp only at c0 c1 c2 c3 c4;have:j=j / 5*5∨j=j / 5*5+1∨j=j / 5*5+2∨j=j / 5*5+3∨j=j / 5*5+4:=by omega
 rcases this with e | e | e | e | e
 · rw [← e] at g c0;rw [g] at d;cases d;exact c0
 · rw [Eo,← e] at c1;rw [← e] at m;rw [m] at d;cases d;exact c1
 · rw [Eo,← e] at c2;rw [← e] at r2;rw [r2] at d;cases d;exact c2
 · rw [Eo,← e] at c3;rw [← e] at r3;rw [r3] at d;cases d;exact c3
 · rw [Eo,← e] at c4;rw [← e] at r4;rw [r4] at d;cases d;exact c4
def bC (B:List an):List ac:=B.flatMap (·.1)
def uc (M:List ac) (B:List an) (j:Nat):List (List ac):=M :: (B.drop j).reverse.map (·.1)
def lowP (M:List ac) (V:List (List an)) (k:Nat):List (List ac):=uc M (V.headD []) 0++((V.take k).drop 1).map bC
def eT (M:List ac) (V:List (List an)):List (List ac):=M :: (V.headD []).reverse.map (·.1)++(V.drop 1).map bC
theorem Ah (M:List ac) (B:List an):uc M B B.length=[M]:=by simp [uc]
theorem yp {j:Nat} (h:B[j]?=some r):uc M B j=uc M B (j+1)++[r.1]:=by
 obtain ⟨b,e⟩:=Cx.1 h;unfold uc;rw [DR b,e];simp
theorem zh (M:List ac) (V:List (List an)):lowP M V 1=uc M (V.headD []) 0:=by
 unfold lowP;cases V <;> simp
theorem xp {k:Nat} (h:V[k]?=some B) (hk:1≤k):lowP M V (k+1)=lowP M V k++[bC B]:=by
 obtain ⟨hl,_⟩:=Cx.1 h;unfold lowP;rw [Dl,h,List.drop_append_of_le_length (by rw [C5];omega)];simp
theorem zi (M:List ac) (V:List (List an)):lowP M V V.length=eT M V:=by
 unfold lowP eT uc;simp
theorem vd {i:Nat} (h:B[i]?=some r):bC (B.take (i+1))=bC (B.take i)++r.1:=by
 unfold bC;rw [Dl,h];simp
theorem xR {m:Nat} (h:∀r ∈ B,r.1.length≤m):(bC B).length≤B.length*m:=by
 induction B with
 | nil=>simp [bC]
 | cons a t b =>
  have h1:=b (fun r hr=>h r (DB _ hr));have h2:=h a Dy;have h3:bC (a :: t)=a.1++bC t:=by simp [bC]
  rw [h3,CW,DC,Nat.succ_mul];omega
theorem wR (lo:Nat) (sq:Int) (am av ak:Option Addr) (U R H cv nk ck:Nat) (M:List ac) (V:List (List an)) (S:List Int) (w:World) (hT:b6 lo w am U R av H cv ak nk ck M V S)
 (hv1:1≤H) (hv2:H≤100) (hV:∀B ∈ V,B.length≤100∧∀r ∈ B,1≤r.1.length∧r.1.length≤10000) :
 Calls Tryz.prog 110 #[.agg #[iT sq,.slice am U R,.slice av H cv,.slice ak nk ck]] w fun e w'=>∃a n c,e=.returned (.slice a n c)∧cY w' a n c (eT M V)∧Below w.heap.size w w':=by
 have HV:=bO hV;have HM:CG (ag w am U R M):=hT.mem.1;obtain ⟨b,K,rfl,al⟩:=hT.levels.form hv1;have HL:CG (cG lo w (some ⟨b,K,none⟩) H cv V):=hT.levels;have aZ:CG (V.length=H):=hT.levels.length;obtain ⟨Q,a0,n0,c0,Z,aM,aE⟩:=hT.levels.level (Below.refl _ w) 0 (by omega);have b3:CG (V.headD []=Q):=by
  show V.headD []=Q
  cases V with
  | nil=>cases Z
  | cons x t=>simp at Z;simp [Z]
 have bh:CG (Q.length≤100∧∀r ∈ Q,1≤r.1.length∧r.1.length≤10000):=hV Q (CV Z);have aO:CG (ay lo w a0 n0 c0 Q):=aE;have a9:CG (Q.length=n0):=aE.length;have c9:n0≤100:=by have:=bh.o.1;have:=a9.o;omega
 clear hV hT Z aE;obtain ⟨X,hX⟩:=aH w.heap.size;obtain ⟨W,hW⟩:=aH (w.alloc (.cells #[iT sq,.slice am U R,sO b K H cv,.slice ak nk ck] 31));have kW:Below w.heap.size w W:=by rw [hW];exact bZ
 have az:W.heap.size=w.heap.size+1:=by rw [hW];simp
 have x2:W.cell? ⟨X,2,none⟩=some (sO b K H cv):=by rw [hW,hX];simp
 have b1:CG (∀wr,Below W.heap.size W wr→wr.cell? ⟨X,2,none⟩=some (sO b K H cv)):=fun wr k=>cell_later k x2
 have aV:CG (∀wr,Below W.heap.size W wr→Below w.heap.size w wr):=fun wr k=>kW.trans (k.mono kW.size)
 have bv:CG (W.heap.size=w.heap.size+1):=az;have ap:CG (w.cell? ⟨b,K,none⟩=some (.slice a0 n0 c0)):=by show w.cell? _=_;simpa using aM
 have P0:aW (W.alloc (.cells #[.slice am U R] 28)) W.heap.size W.heap.size 1 1 [M] [.slice am U R] none:=by
  have hA:Below W.heap.size W (W.alloc (.cells #[.slice am U R] 28)):=bZ;refine ⟨?_,rfl,(fun e=>by cases e),?_⟩
  · have:=Do (base:=W.heap.size) (e:=28) (size:=1) W #[.slice am U R] 1 (Cy _) (by unfold maxLen;omega) (by simp);simpa using this
  · intro i A N;match i,N with
    | 0,N =>
     simp at N;subst N;refine ⟨am,U,R,rfl,HM.o.keep (kW.trans (hA.mono kW.size)),fun x e hp=>⟨?_,fun e=>by cases e⟩⟩;have:=(HM.o.lies x e hp).1;omega
    | i+1,N=>simp at N
 have a2:W.heap.size=X+1:=by rw [az,hX]
 obtain ⟨wt,ad⟩:=aH (W.alloc (.cells #[.slice am U R] 28));have A0:Below W.heap.size W wt:=by rw [ad];exact bZ
 rw [← ad,a2] at P0;rw [a2] at A0;have bi:CG (aW wt (X+1) (X+1) 1 1 [M] [.slice am U R] none):=P0;have aj:CG (Below (X+1) W wt):=A0;have y:CG (∀wr,Below (X+1) W wr→Below w.heap.size w wr):=fun wr k=>aV.o wr (by rw [a2];exact k)
 have ai:CG (∀wr,Below (X+1) W wr→wr.cell? ⟨X,2,none⟩=some (sO b K H cv)):=fun wr k=>b1.o wr (by rw [a2];exact k)
 have E:CG (∀wr,Below (X+1) W wr→X+1≤wr.heap.size):=fun wr k=>by have:=k.size;omega
 have bg:CG (X=w.heap.size):=hX;obtain ⟨i0,hi,ba,aR,aT⟩:=info_parts Tryz.infoEntS;obtain ⟨i1,bP,bF,bJ,bD⟩:=info_parts Tryz.infoEnt;clear P0 x2 aM A0 b1 aV bv az kW a2;go_enter Tryz.func110,Tryz.ntmps110
 go_upto_region 2 with fail
 rw [← hW,← hX,← ad];clear hW ad hX;have bV:(0:Int)<(H:Int):=by omega
 have t2:=ai.o wt aj.o;have tl:=cell_later (y.o wt aj.o) ap.o;have zb:=l' al (y.o wt aj.o).size;have zX:=Cz _ _ t2;have wj:IntKind.i64.wrap ((n0:Int) - 1)=(n0:Int) - 1:=by rw [Dg];unfold wrap64;omega
 go_wp2;go_loopw [3,4] (fun o iv wr=>∃(j n g c:Nat) (I:List Value) (z:Int),j≤n0∧z=(j:Int) - 1∧iv=iT z∧o=sL g n c∧aW wr (X+1) g n c (uc M Q j) I none∧Below (X+1) W wr) (fun _ iv _=>(intOf iv+1).toNat)
 case atStart=>exact ⟨n0,1,X+1,1,_,_,Cy _,rfl,rfl,rfl,by rw [← a9.o,Ah];exact bi.o,aj.o⟩
 case round =>
  obtain ⟨j,n,g,c,I,z,hj,hz,rfl,rfl,hP,hb⟩:=hrel;have J:CG (aW wr (X+1) g n c (uc M Q j) I none):=hP;have f:CG (Below (X+1) W wr):=hb;have hn:n≤101:=by have:=hP.len;have:=a9.o;simp [uc] at *;omega
  clear hP hb t2 tl zb zX;have t2:=ai.o wr f.o;have tl:=cell_later (y.o wr f.o) ap.o;have zb:=l' al (y.o wr f.o).size;have zX:=Cz _ _ t2;by_cases aw:j=0
  · subst aw;have ax:z=-1:=by omega
    subst ax;have aX:CG (aW wr (X+1) g n c (lowP M V 1) I none):=by show aW wr (X+1) g n c (lowP M V 1) I none;rw [zh,b3.o];exact J.o
    clear hz wj tl t2 zb zX;go_wp2;go_loopw [3,5] (fun o kv wr=>∃(k n g c:Nat) (I:List Value),1≤k∧k≤H∧kv=iT k∧o=sL g n c∧aW wr (X+1) g n c (lowP M V k) I none∧Below (X+1) W wr) (fun _ kv _=>H - (intOf kv).toNat)
    case atStart=>exact ⟨1,n,g,c,I,Cy _,by omega,rfl,rfl,aX.o,f.o⟩
    case round =>
     clear J aX f hn;obtain ⟨k,n,g,c,I,bp,hk,rfl,rfl,hP,hb⟩:=hrel;have J:CG (aW wr (X+1) g n c (lowP M V k) I none):=hP;have f:CG (Below (X+1) W wr):=hb;have hn:n≤201:=by
      have h1:=hP.len;have h2:=a9.o;have h3:=aZ.o;have h4:=b3.o;simp only [lowP,uc,h4,CW,DC,EI,List.length_reverse,Dh,C5] at h1;omega
     clear hP hb;have t2:=ai.o wr f.o;have zX:=Cz _ _ t2;have zb:=l' al (y.o wr f.o).size;by_cases bl:k<H
     · have aY:(k:Int)<(H:Int):=by omega
       obtain ⟨B,sB,nB,cB,hB,gB,aA⟩:=HL.o.level (Below.refl _ w) k bl;have aD:CG (lowP M V (k+1)=lowP M V k++[bC B]):=xp hB bp;have Y:CG (B.length≤100∧∀r ∈ B,1≤r.1.length∧r.1.length≤10000):=HV.o B (CV hB);have b2:CG (ay lo w sB nB cB B):=aA;have aN:CG (B.length=nB):=aA.length;have bL:CG (w.cell? ⟨b,K+k,none⟩=some (.slice sB nB cB)):=gB;have c8:nB≤100:=by have:=Y.o.1;have:=aN.o;omega
       clear hB gB aA;go_upto_region 10 with fail
       obtain ⟨ga,ab⟩:=aH wr.heap.size;obtain ⟨wa,a3⟩:=aH (wr.alloc (.cells #[] 50));have F:Below wr.heap.size wr wa:=by rw [a3];exact bZ
       have b5:CG (af wa (X+1) ga 0 0 (bC (B.take 0))):=by
        have:=Do (base:=X+1) (e:=50) (size:=5) wr #[] 0 (E.o wr f.o) (by simp) (by simp);rw [a3,ab];exact ⟨by simpa [bC,aC] using this,rfl,by simp [bC]⟩
       have aP:CG (aW wa (X+1) g n c (lowP M V k) I (some ga)):=by
        rw [ab];exact (J.o.turn (.inr (.inr rfl))).below F
       have b8:CG (Below (X+1) W wa):=by rw [a3];exact f.o.alloc (E.o wr f.o) _
       rw [← a3,← ab];clear a3 ab F t2 zX zb;go_wp2;go_loopw [6,7] (fun o iv wq=>∃(i na ga ca:Nat),i≤nB∧iv=iT i∧o=sL ga na ca∧af wq (X+1) ga na ca (bC (B.take i))∧aW wq (X+1) g n c (lowP M V k) I (some ga)∧Below (X+1) W wq) (fun _ iv _=>nB - (intOf iv).toNat)
       case atStart=>exact ⟨0,0,ga,0,C3 _,rfl,rfl,b5.o,aP.o,b8.o⟩
       case round =>
        clear b5 aP b8 J f;obtain ⟨i,na,ga,ca,ch,rfl,rfl,hO,hP,hb⟩:=hrel;have HO:CG (af wr (X+1) ga na ca (bC (B.take i))):=hO;have J:CG (aW wr (X+1) g n c (lowP M V k) I (some ga)):=hP;have f:CG (Below (X+1) W wr):=hb;have c7:na≤1000000:=by
         have h1:=hO.len;have h2:=xR (B:=B.take i) (m:=10000) (fun r hr=>(Y.o.2 r (Dw hr)).2);have h3:(B.take i).length≤100:=by rw [C5];omega
         have h4:(B.take i).length*10000≤100*10000:=Nat.mul_le_mul_right _ h3;omega
        clear hO hP hb;have t2:=ai.o wr f.o;have zX:=Cz _ _ t2;have zb:=l' al (y.o wr f.o).size;have gB:=cell_later (y.o wr f.o) bL.o;by_cases bK:i<nB
        · have bm:(i:Int)<(nB:Int):=by omega
          obtain ⟨bB,oB,rfl,bn⟩:=b2.o.form (by omega);obtain ⟨L,m,s,ns,cs,hg,_,g0,_,hE⟩:=b2.o.run (Below.refl _ w) i bK;have ao:=Y.o.2 _ (CV hg);have ar:=hE.1.length;simp only at ao;obtain ⟨bs,os,rfl,cd⟩:=hE.1.form (by omega);have bU:1≤ns:=by omega
          have bS:ns≤10000:=by omega
          have au:CG (bC (B.take (i+1))=bC (B.take i)++L):=vd hg;have HE:CG (ag w (some ⟨bs,os,none⟩) ns cs L):=hE.1;have bq:CG ((aC L).length=ns*5):=by show _=_;rw [aU,ar]
          have aS:CG (L.length=ns):=ar;have bj:CG (∀j u,(aC L)[j]?=some u→wr.cell? ((⟨bs,os,none⟩:Addr).add j)=some u):=iK (hE.1.keep (y.o wr f.o));have bH:CG (∀u ∈ aC L,u.oneCell'=true):=aL L;have g0:=cell_later (y.o wr f.o) g0;have zr:=l' bn (y.o wr f.o).size;clear hg hE ao ar;go_wp2_with (at_builtin;refine wpList_append_own_at _ rfl _ _ 28 rfl (X+1) 50 i1 _ 5 56 Tryz.underlying28 bP bF bJ bD rfl (by decide) _ _ _ rfl HO.o.owns ⟨bs,os,none⟩ ns cs (aC L) rfl bq.o bj.o bH.o ?c3 ?c4 ?c5 ?_)
          case c3=>unfold maxLen;omega
          case c4=>omega
          case c5=>exact E.o wr f.o
          intro v' w2 d hgrow hnil hat;obtain ⟨O,C,rfl⟩:∃g D,v'=sL g (na+ns) D:=by
           rcases d.2 with ⟨hv,h0⟩ | ⟨g,D,b7,hv,_⟩
           · omega
           · exact ⟨g,D,hv⟩
          have bM:CG (af w2 (X+1) O (na+ns) C (bC (B.take (i+1)))):=by
           refine ⟨?_,?_,?_⟩
           · rw [au.o,aJ];exact d
           · rw [au.o,CW,HO.o.len,aS.o]
           · intro l hl;rw [au.o] at hl;rcases Dd.1 hl with h1 | h1
             · exact HO.o.ents l h1
             · exact HE.o.ents l h1
          have T:CG (aW w2 (X+1) g n c (lowP M V k) I (some O)):=J.o.move hgrow (by rcases hat with h | h;exact .inl (by have h1:O=ga:=CZ h;rw [h1]);exact .inr (by have h1:O=wr.heap.size:=CZ h;rw [h1]));have a5:CG (Below (X+1) W w2):=f.o.grown hgrow (E.o wr f.o) (fun q hq=>(HO.o.owns.lt q hq).1);clear d hgrow hnil hat;go_wp2;go_roundw
          case rel=>exact ⟨i+1,na+ns,O,C,by omega,by go_num,rfl,bM.o,T.o,a5.o⟩
          case measure=>simp [intOf] <;> omega
        · have bm:¬(i:Int)<(nB:Int):=by omega
          have bN:CG (bC (B.take i)=bC B):=by show bC (B.take i)=_;rw [C9 (by rw [aN.o];omega)]
          go_wp2_with (at_builtin;refine wpList_append_own_at _ rfl _ _ 102 rfl (X+1) 28 i0 _ 1 24 Tryz.underlying102 hi ba aR aT rfl (by decide) _ _ _ rfl (J.o.owns.alloc _) ⟨wr.heap.size,0,none⟩ 1 1 [sL ga na ca] rfl rfl ?r1 ?r2 ?r3 ?r4 ?r5 ?_)
          case r2=>first | rfl | simp
          case r3=>unfold maxLen;omega
          case r4=>omega
          case r5=>have:=E.o wr f.o;simp;omega
          intro v' w2 d hgrow hnil hat;obtain ⟨O,C,rfl⟩:∃g D,v'=sL g (n+1) D:=by
           rcases d.2 with ⟨hv,h0⟩ | ⟨g,D,b7,hv,_⟩
           · omega
           · exact ⟨g,D,hv⟩
          have T:CG (aW w2 (X+1) O (n+1) C (lowP M V (k+1)) (I++[sL ga na ca]) none):=by
           have F:∀o,Below wr.heap.size wr (wr.alloc o):=fun o=>(Below.refl _ _).alloc (Cy _) o
           have h1:=(J.o.below (F _)).push (A:=bC B) d hgrow (by rcases hat with h | h;exact .inl (CZ h);exact .inr (by have h1:O=wr.heap.size+1:=CZ h;simpa using h1)) (by rw [← bN.o];exact HO.o.entsAt.keep (F _)) (fun x e hp=>by
            have h3:=J.o.ne;cases e;exact fun e=>h3 (by rw [← e]))
           show aW _ _ _ _ _ _ _ _
           rw [aD.o];exact h1
          have a5:CG (Below (X+1) W w2):=(f.o.alloc (E.o wr f.o) _).grown hgrow (by have:=E.o wr f.o;simp;omega) (fun q hq=>(J.o.owns.lt q hq).1);clear d hgrow hnil hat;go_wp2;go_roundw
          case rel=>exact ⟨k+1,n+1,O,C,_,by omega,by omega,by go_num,rfl,T.o,a5.o⟩
          case measure=>simp [intOf] <;> omega
     · have aY:¬(k:Int)<(H:Int):=by omega
       have HC:CG (lowP M V k=eT M V):=by
        show lowP M V k=_
        rw [← zi,aZ.o,show k=H by omega]
       go_wp2;go_ret;exact ⟨some ⟨g,0,none⟩,n,c,rfl,by rw [← HC.o];exact J.o.partsAt,y.o wr f.o⟩
  · obtain ⟨jj,rfl⟩:∃jj,j=jj+1:=⟨j - 1,by omega⟩;have ax:z=(jj:Int):=by omega
    subst ax;clear hz aw;have cc:(jj:Int)<(n0:Int):=by omega
    have aw:(0:Int)≤(jj:Int):=by omega
    obtain ⟨b0,o0,rfl,bw⟩:=aO.o.form (by omega);obtain ⟨L,m,s,ns,cs,hg,_,g0,_,hE⟩:=aO.o.run (Below.refl _ w) jj (by omega);have aD:CG (uc M Q jj=uc M Q (jj+1)++[L]):=yp hg;have HE:CG (ag w s ns cs L):=hE.1;have g0:=cell_later (y.o wr f.o) g0;have zr:=l' bw (y.o wr f.o).size;clear hg hE;go_wp2_with (at_builtin;refine wpList_append_own_at _ rfl _ _ 102 rfl (X+1) 28 i0 _ 1 24 Tryz.underlying102 hi ba aR aT rfl (by decide) _ _ _ rfl (J.o.owns.alloc _) ⟨wr.heap.size,0,none⟩ 1 1 [.slice s ns cs] rfl rfl ?q1 ?q2 ?q3 ?q4 ?q5 ?_)
    case q2=>first | rfl | simp
    case q3=>unfold maxLen;omega
    case q4=>omega
    case q5=>have:=E.o wr f.o;simp;omega
    intro v' w2 d hgrow hnil hat;obtain ⟨O,C,rfl⟩:∃g D,v'=sL g (n+1) D:=by
     rcases d.2 with ⟨hv,h0⟩ | ⟨g,D,b7,hv,_⟩
     · omega
     · exact ⟨g,D,hv⟩
    have T:CG (aW w2 (X+1) O (n+1) C (uc M Q jj) (I++[.slice s ns cs]) none):=by
     have F:∀o,Below wr.heap.size wr (wr.alloc o):=fun o=>(Below.refl _ _).alloc (Cy _) o
     have kw:=y.o wr f.o;have h1:=(J.o.below (F _)).push d hgrow (by rcases hat with h | h;exact .inl (CZ h);exact .inr (by have h1:O=wr.heap.size+1:=CZ h;simpa using h1)) (HE.o.keep (kw.trans ((F _).mono kw.size))) (fun x e hp=>by
      have h2:=(HE.o.lies x e hp).1;have h3:=(J.o.owns.lt g rfl).1;have h4:=bg.o;omega)
     show aW _ _ _ _ _ _ _ _
     rw [aD.o];exact h1
    have a5:CG (Below (X+1) W w2):=(f.o.alloc (E.o wr f.o) _).grown hgrow (by have:=E.o wr f.o;simp;omega) (fun q hq=>(J.o.owns.lt q hq).1);clear d hgrow hnil hat;go_wp2;go_roundw
    case rel=>exact ⟨jj,n+1,O,C,_,(jj:Int) - 1,by omega,rfl,by go_num,rfl,T.o,a5.o⟩
    case measure=>simp [intOf] <;> omega
def er (V:List (List an)) (q:Int):Bool:=match V with
 | [A,B,C]=>dh A 4 false q && (dh B 8 true q && dh C 8 true q)
 | _=>false
def bf (q:Int) (M:List ac) (V:List (List an)) (S:List Int):Bool :=
 decide (0≤q) && (decide (q≤100000) && (decide (M.length≤60) && (aI M && (bJ M q && (decide (V.length=3) && (b9 S q && (er V q && ip (eT M V))))))))
theorem de {b:Int} {e:Bool} (h:dh B b e q=true) (hm:b≤8):B.length≤100∧∀r ∈ B,1≤r.1.length∧r.1.length≤10000:=by
 unfold dh at h;rw [Db] at h;have h1:=of_decide_eq_true h.1;refine ⟨by omega,fun r hr=>?_⟩;obtain ⟨j,d,rfl⟩:=Du hr;have h2:=(Dn.1 h.2) j (DG.2 d);rw [dE (j' d),Db] at h2;have h3:=bE h2.1;omega
theorem iu (h:bf q M V S=true→False):bf q M V S=false:=by
 rw [D7];exact h
theorem aY (h:bf q M V S=true):0≤q∧q≤100000∧M.length≤60∧aI M=true∧bJ M q=true∧V.length=3∧b9 S q=true∧er V q=true∧ip (eT M V)=true:=by
 simpa [bf] using h
theorem ix (lo:Nat) (sq:Int) (Y av ak:Option Addr) (u Q nv cv nk ck:Nat) (M:List ac) (V:List (List an)) (S:List Int) (w:World) (hT:b6 lo w Y u Q av nv cv ak nk ck M V S) :
 Calls Tryz.prog 27 #[.agg #[iT sq,.slice Y u Q,.slice av nv cv,.slice ak nk ck]] w fun e w'=>e=.returned (.bool (bf sq M V S))∧Bl w w':=by
 have HT:=bO hT;have ao:CG (M.length=u):=hT.mem.1.length;have ar:CG (V.length=nv):=hT.levels.length;have aJ:=hT.mem.1.big;have bb:=hT.mem.1.room;have aO:=hT.levels.big;have bd:=hT.levels.room;unfold maxLen at aJ aO;clear hT;obtain ⟨X,hX⟩:=aH w.heap.size;obtain ⟨W,hW⟩:=aH (w.alloc (.cells #[iT sq,.slice Y u Q,.slice av nv cv,.slice ak nk ck] 31));have kW:Bl w W:=by rw [hW];exact bZ
 have x0:W.cell? ⟨X,0,none⟩=some (iT sq):=by rw [hW,hX];simp
 have x1:W.cell? ⟨X,1,none⟩=some (.slice Y u Q):=by rw [hW,hX];simp
 have x2:W.cell? ⟨X,2,none⟩=some (.slice av nv cv):=by rw [hW,hX];simp
 have x3:W.cell? ⟨X,3,none⟩=some (.slice ak nk ck):=by rw [hW,hX];simp
 have zX:=Cz _ _ x0;have y:CG (Bl w W):=kW;go_enter Tryz.func27,Tryz.ntmps27
 go_upto_region 1 with fail
 rw [← hW,← hX];clear hW hX kW;by_cases h1:sq<0
 · have g:CG (bf sq M V S=false):=iu (fun h=>by have:=(aY h).1;omega);go_wp2;go_ret;exact ⟨ah g.o.symm,y.o⟩
 by_cases h2:100000<sq
 · have g:CG (bf sq M V S=false):=iu (fun h=>by have:=(aY h).2.1;omega);go_wp2;go_ret;exact ⟨ah g.o.symm,y.o⟩
 by_cases h3:60<u
 · have g:CG (bf sq M V S=false):=iu (fun h=>by have:=(aY h).2.2.1;have:=ao.o;omega);have aN:(60:Int)<(u:Int):=by omega
   go_wp2;go_ret;exact ⟨ah g.o.symm,y.o⟩
 have aN:¬(60:Int)<(u:Int):=by omega
 obtain ⟨R,hR⟩:=aH (aI M);go_wp2_with fail
 refine (jt Y u Q M _ (HT.o.mem.1.keep y.o)).mono ?_;rw [← hR];rintro e w1 ⟨rfl,J⟩;have x0:=cell_later J x0;have x1:=cell_later J x1;have x2:=cell_later J x2;have x3:=cell_later J x3;have zX:=Cz _ _ x0;have K1:CG (Bl w w1):=y.o.trans (J.mono y.o.size);clear J y;cases hRv:R with
 | false =>
  have g:CG (bf sq M V S=false):=iu (fun h=>by have h':=(aY h).2.2.2.1;rw [← hR,hRv] at h';cases h');go_wp2;go_ret;exact ⟨ah g.o.symm,K1.o⟩
 | true =>
 have aW:CG (aI M=true):=by show _=_;rw [← hR];exact hRv
 clear hR hRv;obtain ⟨I,hI⟩:=aH (bJ M sq);go_wp2_with fail
 refine (nL Y u Q M sq _ (HT.o.mem.1.keep K1.o)).mono ?_;rw [← hI];rintro e ba ⟨rfl,rfl⟩;cases hIv:I with
 | false =>
  have g:CG (bf sq M V S=false):=iu (fun h=>by have h':=(aY h).2.2.2.2.1;rw [← hI,hIv] at h';cases h');go_wp2;go_ret;exact ⟨ah g.o.symm,K1.o⟩
 | true =>
 have aX:CG (bJ M sq=true):=by show _=_;rw [← hI];exact hIv
 clear hI hIv;by_cases h4:¬nv=3
 · have g:CG (bf sq M V S=false):=iu (fun h=>by have:=(aY h).2.2.2.2.2.1;have:=ar.o;omega);have bg:¬(nv:Int)=3:=by omega
   go_wp2;go_ret;exact ⟨ah g.o.symm,K1.o⟩
 have h4:nv=3:=by omega
 subst h4;obtain ⟨N,hN⟩:=aH (b9 S sq);go_wp2_with fail
 refine (wO sq lo _ _ ak nk ck S _ (HT.o.snaps.keep K1.o)).mono ?_;rw [← hN];rintro e wr ⟨rfl,L⟩;have x0:=cell_later L x0;have x1:=cell_later L x1;have x2:=cell_later L x2;have x3:=cell_later L x3;have zX:=Cz _ _ x0;have F:CG (Bl w wr):=K1.o.trans (L.mono K1.o.size);clear L K1;cases hNv:N with
 | false =>
  have g:CG (bf sq M V S=false):=iu (fun h=>by have h':=(aY h).2.2.2.2.2.2.1;rw [← hN,hNv] at h';cases h');go_wp2;go_ret;exact ⟨ah g.o.symm,F.o⟩
 | true =>
 have b0:CG (b9 S sq=true):=by show _=_;rw [← hN];exact hNv
 clear hN hNv;obtain ⟨A,B,C,aM⟩:∃A B C,V=[A,B,C]:=by
  have:=ar.o;match V,this with
  | [A,B,C],_=>exact ⟨A,B,C,rfl⟩
 subst aM;obtain ⟨b,H,rfl,aD⟩:=HT.o.levels.form (by omega);obtain ⟨A',a0,n0,c0,hA,l0,aC⟩:=HT.o.levels.level (Below.refl _ w) 0 (by omega);obtain ⟨B',a1,n1,c1,hB,l1,aA⟩:=HT.o.levels.level (Below.refl _ w) 1 (by omega);obtain ⟨C',a2,n2,c2,hC,l2,aB⟩:=HT.o.levels.level (Below.refl _ w) 2 (by omega);simp only [Ex,Ei,Er] at hA hB hC;subst hA hB hC;rw [DS] at l0;have l0:=cell_later F.o l0;have l1:=cell_later F.o l1;have l2:=cell_later F.o l2;have zb:=l' aD F.o.size;have d:CG (∀w',Bl wr w'→(w'.cell? ⟨X,0,none⟩=some (iT sq)∧w'.cell? ⟨X,1,none⟩=some (.slice Y u Q)∧w'.cell? ⟨X,2,none⟩=some (sO b H 3 cv)∧w'.cell? ⟨X,3,none⟩=some (.slice ak nk ck)∧w'.cell? ⟨b,H,none⟩=some (.slice a0 n0 c0)∧w'.cell? ⟨b,H+1,none⟩=some (.slice a1 n1 c1)∧w'.cell? ⟨b,H+2,none⟩=some (.slice a2 n2 c2)∧b<w'.heap.size∧X<w'.heap.size)):=fun w' Z=>⟨cell_later Z x0,cell_later Z x1,cell_later Z x2,cell_later Z x3,cell_later Z l0,cell_later Z l1,cell_later Z l2,l' zb Z.size,l' zX Z.size⟩
 have m:Bl wr wr.drew:=(Below.refl _ wr).drew;have O:CG (∀w',Bl wr w'→Bl w w'):=fun w' Z=>F.o.trans (Z.mono F.o.size)
 have t:CG (bf sq M [A,B,C] S=(dh A 4 false sq && (dh B 8 true sq && (dh C 8 true sq && ip (eT M [A,B,C]))))):=by
  show bf sq M [A,B,C] S=_
  have e1:decide (0≤sq)=true:=decide_eq_true (by omega);have e2:decide (sq≤100000)=true:=decide_eq_true (by omega);have e3:decide (M.length≤60)=true:=decide_eq_true (by rw [ao.o];omega);unfold bf;rw [e1,e2,e3,aW.o,aX.o,b0.o];simp [er,Bool.and_assoc]
 obtain ⟨V0,ad⟩:∃x,x=dh A 4 false sq:=⟨_,rfl⟩;obtain ⟨V1,af⟩:∃x,x=dh B 8 true sq:=⟨_,rfl⟩;obtain ⟨V2,a6⟩:∃x,x=dh C 8 true sq:=⟨_,rfl⟩;obtain ⟨G,hG⟩:∃x,x=ip (eT M [A,B,C]):=⟨_,rfl⟩;rw [← ad,← af,← a6,← hG] at t;have ae:CG (∀w',Bl wr w'→Calls Tryz.prog 90 #[.slice a0 n0 c0,iT 4,.bool false,iT sq] w' fun e s=>e=.returned (.bool V0)∧Bl w' s):=fun w' k=>by rw [ad];exact nM lo a0 n0 c0 A 4 false sq w' (aC.keep (O.o w' k))
 have a9:CG (∀w',Bl wr w'→Calls Tryz.prog 90 #[.slice a1 n1 c1,iT 8,.bool true,iT sq] w' fun e s=>e=.returned (.bool V1)∧Bl w' s):=fun w' k=>by rw [af];exact nM lo a1 n1 c1 B 8 true sq w' (aA.keep (O.o w' k))
 have ab:CG (∀w',Bl wr w'→Calls Tryz.prog 90 #[.slice a2 n2 c2,iT 8,.bool true,iT sq] w' fun e s=>e=.returned (.bool V2)∧Bl w' s):=fun w' k=>by rw [a6];exact nM lo a2 n2 c2 C 8 true sq w' (aB.keep (O.o w' k))
 have T:CG (V0=true→V1=true→V2=true→∀w',Bl wr w'→Calls Tryz.prog 91 #[.agg #[iT sq,.slice Y u Q,sO b H 3 cv,.slice ak nk ck]] w' fun e s=>e=.returned (.bool G)∧Bl w' s):=by
  intro e0 e1 e2 w' k;rw [hG];refine yL sq Y _ ak u Q 3 cv nk ck (eT M [A,B,C]) w' (fun w1 k1=>?_);have kw:=O.o w' k;refine wR lo sq Y _ ak u Q 3 cv nk ck M [A,B,C] S w1 (HT.o.keep (kw.trans (k1.mono kw.size))) (by omega) (by omega) ?_;intro D hD;simp only [Da,Dr,or_false] at hD;rcases hD with rfl | rfl | rfl
  · exact de (by rw [← ad];exact e0) (by omega)
  · exact de (by rw [← af];exact e1) (by omega)
  · exact de (by rw [← a6];exact e2) (by omega)
 clear ad af a6 hG aC aA aB l0 l1 l2 x0 x1 x2 x3 zb HT O ar ao aD;cases V0 with
 | false =>
  have g:CG (bf sq M [A,B,C] S=false):=by show _=_;rw [t.o];rfl
  clear T a9 ab t;go_wp2_with fail
  refine ez d m fun f=>?_
  refine aP 0 6 f ?_;refine aR 6 fun K hK=>?_
  go_simp;refine (ae.o _ m).mono ?_;rintro e wk1 ⟨rfl,E⟩;have k1:Bl wr wk1:=m.trans (E.mono m.size);go_wp2_with fail
  refine hK.o _ _ (d.o _ k1) fun f=>?_
  (try go_frame);refine aP 7 7 f ?_;refine aR 14 fun K hK=>?_
  go_simp;refine hK.o _ _ (d.o _ k1) fun f=>?_
  (try go_frame);refine aP 15 8 f ?_;refine aR 23 fun K hK=>?_
  go_simp;refine hK.o _ _ (d.o _ k1) fun f=>?_
  (try go_frame);refine aP 24 3 f ?_;refine aR 27 fun K hK=>?_
  go_simp;refine hK.o _ _ (d.o _ k1) fun f=>?_
  (try go_frame);refine aP 28 2 f ?_;refine dN ?_;have KY:CG (Bl w wk1):=F.o.trans (k1.mono F.o.size);clear m d f;go_wp2;go_ret;exact ⟨ah g.o.symm,KY.o⟩
 | true =>
 cases V1 with
 | false =>
  have g:CG (bf sq M [A,B,C] S=false):=by show _=_;rw [t.o];rfl
  clear T ab t;go_wp2_with fail
  refine ez d m fun f=>?_
  refine aP 0 6 f ?_;refine aR 6 fun K hK=>?_
  go_simp;refine (ae.o _ m).mono ?_;rintro e wk1 ⟨rfl,E⟩;have k1:Bl wr wk1:=m.trans (E.mono m.size);go_wp2_with fail
  refine hK.o _ _ (d.o _ k1) fun f=>?_
  (try go_frame);refine aP 7 7 f ?_;refine aR 14 fun K hK=>?_
  go_simp;refine (a9.o _ k1).mono ?_;rintro e wk2 ⟨rfl,U⟩;have k2:Bl wr wk2:=k1.trans (U.mono k1.size);go_wp2_with fail
  refine hK.o _ _ (d.o _ k2) fun f=>?_
  (try go_frame);refine aP 15 8 f ?_;refine aR 23 fun K hK=>?_
  go_simp;refine hK.o _ _ (d.o _ k2) fun f=>?_
  (try go_frame);refine aP 24 3 f ?_;refine aR 27 fun K hK=>?_
  go_simp;refine hK.o _ _ (d.o _ k2) fun f=>?_
  (try go_frame);refine aP 28 2 f ?_;refine dN ?_;have KY:CG (Bl w wk2):=F.o.trans (k2.mono F.o.size);clear m d f;go_wp2;go_ret;exact ⟨ah g.o.symm,KY.o⟩
 | true =>
 cases V2 with
 | false =>
  have g:CG (bf sq M [A,B,C] S=false):=by show _=_;rw [t.o];rfl
  clear T t;go_wp2_with fail
  refine ez d m fun f=>?_
  refine aP 0 6 f ?_;refine aR 6 fun K hK=>?_
  go_simp;refine (ae.o _ m).mono ?_;rintro e wk1 ⟨rfl,E⟩;have k1:Bl wr wk1:=m.trans (E.mono m.size);go_wp2_with fail
  refine hK.o _ _ (d.o _ k1) fun f=>?_
  (try go_frame);refine aP 7 7 f ?_;refine aR 14 fun K hK=>?_
  go_simp;refine (a9.o _ k1).mono ?_;rintro e wk2 ⟨rfl,U⟩;have k2:Bl wr wk2:=k1.trans (U.mono k1.size);go_wp2_with fail
  refine hK.o _ _ (d.o _ k2) fun f=>?_
  (try go_frame);refine aP 15 8 f ?_;refine aR 23 fun K hK=>?_
  go_simp;refine (ab.o _ k2).mono ?_;rintro e wk3 ⟨rfl,ap⟩;have k3:Bl wr wk3:=k2.trans (ap.mono k2.size);go_wp2_with fail
  refine hK.o _ _ (d.o _ k3) fun f=>?_
  (try go_frame);refine aP 24 3 f ?_;refine aR 27 fun K hK=>?_
  go_simp;refine hK.o _ _ (d.o _ k3) fun f=>?_
  (try go_frame);refine aP 28 2 f ?_;refine dN ?_;have KY:CG (Bl w wk3):=F.o.trans (k3.mono F.o.size);clear m d f;go_wp2;go_ret;exact ⟨ah g.o.symm,KY.o⟩
 | true =>
  have g:CG (bf sq M [A,B,C] S=G):=by show _=_;rw [t.o];cases G <;> rfl
  have aU:CG (∀w',Bl wr w'→Calls Tryz.prog 91 #[.agg #[iT sq,.slice Y u Q,sO b H 3 cv,.slice ak nk ck]] w' fun e s=>e=.returned (.bool G)∧Bl w' s):=T.o rfl rfl rfl;clear t T;go_wp2_with fail
  refine ez d m fun f=>?_
  refine aP 0 6 f ?_;refine aR 6 fun K hK=>?_
  go_simp;refine (ae.o _ m).mono ?_;rintro e wk1 ⟨rfl,E⟩;have k1:Bl wr wk1:=m.trans (E.mono m.size);go_wp2_with fail
  refine hK.o _ _ (d.o _ k1) fun f=>?_
  (try go_frame);refine aP 7 7 f ?_;refine aR 14 fun K hK=>?_
  go_simp;refine (a9.o _ k1).mono ?_;rintro e wk2 ⟨rfl,U⟩;have k2:Bl wr wk2:=k1.trans (U.mono k1.size);go_wp2_with fail
  refine hK.o _ _ (d.o _ k2) fun f=>?_
  (try go_frame);refine aP 15 8 f ?_;refine aR 23 fun K hK=>?_
  go_simp;refine (ab.o _ k2).mono ?_;rintro e wk3 ⟨rfl,ap⟩;have k3:Bl wr wk3:=k2.trans (ap.mono k2.size);go_wp2_with fail
  refine hK.o _ _ (d.o _ k3) fun f=>?_
  (try go_frame);refine aP 24 3 f ?_;refine aR 27 fun K hK=>?_
  go_simp;refine (aU.o _ k3).mono ?_;rintro e wk4 ⟨rfl,b3⟩;have k4:Bl wr wk4:=k3.trans (b3.mono k3.size);go_wp2_with fail
  refine hK.o _ _ (d.o _ k4) fun f=>?_
  (try go_frame);refine aP 28 2 f ?_;refine dN ?_;have KY:CG (Bl w wk4):=F.o.trans (k4.mono F.o.size);clear m d f;go_wp2;go_ret;exact ⟨ah g.o.symm,KY.o⟩
end Go.Proofs.YtpobkmjicbobdaaGreat
