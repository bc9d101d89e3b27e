/- Walks. -/
import Derived.Test.YtpobkmjicbobdaaGreatBl15
namespace Go.Proofs.YtpobkmjicbobdaaGreat
set_option maxRecDepth 100000
set_option maxHeartbeats 40000000
open Go.RowKit
variable {P:List (List ac)} {n:Nat} {vs:List Value} {w:World}
theorem tE (p:Nat→Prop) (w:World):dW p w [] []:=⟨rfl,fun i r h=>by simp at h⟩
theorem lG {s:Option Addr} {c:Nat} {m:Int} {L:List ac} (hm:(Lit.int .i64 m).wf=true) (h:ag w s n c L):dW (·<w.heap.size) w [.slice s n c,iT m] [(L,m)]:=by
 refine ⟨rfl,fun i r hr=>?_⟩;match i,hr with
 | 0,hr=>cases hr;exact ⟨hm,s,n,c,rfl,rfl,h,fun x e hp=>(h.lies x e hp).1⟩
def mR (w:World) (vs:List Value) (P:List (List ac)):Prop:=vs.length=P.length∧∀(j:Nat) (L:List ac),P[j]?=some L→∃(s:Option Addr) (m d:Nat),vs[j]?=some (Value.slice s m d)∧ag w s m d L
theorem zP (w:World):mR w [] []:=⟨rfl,fun j L h=>by simp at h⟩
theorem mR.keep {w':World} (h:mR w vs P) (hb:Bl w w'):mR w' vs P:=⟨h.1,fun j L b=>by
 obtain ⟨s,m,d,h1,h2⟩:=h.2 j L b
 exact ⟨s,m,d,h1,h2.keep hb⟩⟩
theorem mR.snoc (h:mR w vs P) {s:Option Addr} {m d:Nat} {L:List ac} (hE:ag w s m d L):mR w (vs++[.slice s m d]) (P++[L]):=by
 have hl:=h.1;refine ⟨by simp [hl],fun j X b=>?_⟩;by_cases e:j<P.length
 · rw [C7 e] at b;obtain ⟨g,r,o,h1,h2⟩:=h.2 j X b;exact ⟨g,r,o,by rw [C7 (by omega)];exact h1,h2⟩
 · rw [CU (by omega)] at b;have f:j - P.length=0:=by
    have:=(Cx.1 b).1;simp at this;omega
   rw [f] at b;cases b;exact ⟨s,m,d,by rw [CU (by omega),show j - vs.length=0 by omega];rfl,hE⟩
def pn (n:Nat) (B:List an) (w:World) (e:Ending) (w':World):Prop:=∃v vs,e=.returned v∧w'.ownsRow w.heap.size 28 1 v n vs∧mR w vs (bj B)∧Bl w w'
theorem td {base:Nat} {v:Value} (h:w.ownsRow base 28 1 v n vs) (d:mR w vs P):∃a c,v=.slice a n c∧cY w a n c P:=by
 have hn:P.length=n:=by have h1:=h.1;have h2:=d.1;omega
 rcases h.2 with ⟨hv,h0⟩ | ⟨g,f,r,hv,_⟩
 · subst hv h0;exact ⟨none,0,rfl,hn,Cy _,C3 _,fun _=>rfl,(fun x e=>by cases e),fun x e=>by cases e⟩
 · subst hv;have b:=cQ h;refine ⟨_,f,rfl,hn,b.1,b.2,(fun e=>by cases e),(fun x e _=>by cases e;exact ⟨(h.lt g rfl).2,rfl⟩),fun x e i hi=>?_⟩;cases e;obtain ⟨s,m,o,h1,h2⟩:=d.2 i _ (j' hi);have hc:=h.cells (g:=g) rfl i _ h1;rw [De] at hc;exact ⟨s,m,o,hc,h2⟩
theorem nR (a:Option Addr) (n c:Nat) (B:List an) (low f:ByteArray) (w:World) (h:ay 0 w a n c B) (aj:∀r ∈ B,1≤r.1.length) (hn:n≤1000) :
 Calls Tryz.prog 177 #[.slice a n c,.string low,.string f] w fun e w'=>∃g1 y c1 g2 n2 c2,e=.returned (.tuple #[sL g1 y c1,sL g2 n2 c2])∧ay 0 w' (pT g1) y c1 (B.filter (dX low f))∧ay 0 w' (pT g2) n2 c2 (B.filter (fun r=>!dX low f r))∧Bl w w':=by
 have HB:=bO h;have HL:CG (B.length=n):=h.length;have ar:=bO aj;obtain ⟨i0,hi,ah,ab,ad⟩:=info_parts Tryz.infoRun;clear h aj;obtain ⟨p,hp⟩:=aH (dX low f);obtain ⟨q,hq⟩:∃q:an→Bool,q=fun r=>!dX low f r:=⟨_,rfl⟩
 have E:CG (∀r,p r=dX low f r∧q r=!p r):=fun r=>by rw [hp,hq];exact ⟨rfl,rfl⟩
 rw [← hq,← hp];clear hp hq;have R1:CG ((w.alloc (.cells #[] 63)).ownsRow w.heap.size 63 2 (sL (w.heap.size) 0 0) 0 []):=by
  have:=Do (base:=w.heap.size) (e:=63) (size:=2) w #[] 0 (Cy _) (by simp) (by simp);show World.ownsRow _ _ _ _ _ _ _
  simpa using this
 have Z:CG (Bl w (w.alloc (.cells #[] 63))):=bZ;have R2:CG (((w.alloc (.cells #[] 63)).alloc (.cells #[] 63)).ownsRow w.heap.size 63 2 (sL (w.heap.size+1) 0 0) 0 []):=by
  have:=Do (base:=w.heap.size) (e:=63) (size:=2) (w.alloc (.cells #[] 63)) #[] 0 (by simp) (by simp) (by simp);show World.ownsRow _ _ _ _ _ _ _
  rw [Dc] at this;simpa using this
 have K2:CG (Below (w.alloc (.cells #[] 63)).heap.size (w.alloc (.cells #[] 63)) ((w.alloc (.cells #[] 63)).alloc (.cells #[] 63))):=bZ;go_enter Tryz.func177,Tryz.ntmps177
 go_wp2;go_loopw [8,9,10] (fun v1 v2 iv wr=>∃(i g1 y c1 g2 n2 c2:Nat) (xs N:List Value),i≤n∧iv=iT i∧v1=sL g1 y c1∧v2=sL g2 n2 c2∧g1≠g2∧y+n2≤i∧wr.ownsRow w.heap.size 63 2 (sL g1 y c1) y xs∧wr.ownsRow w.heap.size 63 2 (sL g2 n2 c2) n2 N∧dW (·<w.heap.size) w xs ((B.take i).filter p)∧dW (·<w.heap.size) w N ((B.take i).filter q)∧Bl w wr) (fun _ _ iv _=>n - (intOf iv).toNat)
 case atStart =>
  refine ⟨0,w.heap.size,0,0,w.heap.size+1,0,0,[],[],C3 _,rfl,rfl,by first | rfl | simp,by omega,Cy _,dx R1.o K2.o,R2.o,tE _ _,tE _ _,Z.o.trans (K2.o.mono Z.o.size)⟩
 case round =>
  clear R1 R2 Z K2;obtain ⟨i,g1,y,c1,g2,n2,c2,xs,N,aT,rfl,rfl,rfl,af,aC,ac,ai,aa,a9,hb⟩:=hrel;have Q:CG (wr.ownsRow w.heap.size 63 2 (sL g1 y c1) y xs):=ac;have W:CG (wr.ownsRow w.heap.size 63 2 (sL g2 n2 c2) n2 N):=ai;have U:CG (dW (·<w.heap.size) w xs ((B.take i).filter p)):=aa;have R:CG (dW (·<w.heap.size) w N ((B.take i).filter q)):=a9;have HK:CG (Bl w wr):=hb;have D:CG (g1≠g2):=af;have F:CG (y+n2≤i):=aC;clear ac ai aa a9;by_cases aw:i<n
  · have ag:(i:Int)<(n:Int):=by omega
    obtain ⟨b,a7,rfl,aD⟩:=HB.o.form (by omega);obtain ⟨L,m,s,len,g,hg,a0,c0,I,hE⟩:=HB.o.run (Below.refl _ w) i aw;have HG:CG (B[i]?=some (L,m)):=hg;have a4:CG (dW (·<w.heap.size) w [.slice s len g,iT m] [(L,m)]):=lG a0 hE.1;have ak:1≤len:=by have h1:=ar.o _ (CV hg);have h2:=hE.1.length;simp only at h1;omega
    obtain ⟨T,hT⟩:=aH (dX low f (L,m));have HT:CG (T=dX low f (L,m)):=hT;have CM:CG (Calls Tryz.prog 222 #[.agg #[.slice s len g,iT m],.string low,.string f] wr fun e w'=>e=.returned (.bool T)∧Bl wr w'):=by rw [hT];exact yH m s len g L low f wr (hE.1.keep hb) ak
    have C0:CG (w.cell? ⟨b,a7+i*2,none⟩=some (.slice s len g)∧w.cell? ⟨b,a7+i*2+1,none⟩=some (iT m)):=⟨c0,I⟩;have c0:=cell_later hb c0;have I:=cell_later hb I;have zb:b<wr.heap.size:=l' aD hb.size;clear hg a0 hE hb hT ak;go_wp2_with fail
    refine CM.o.mono ?_;rintro e K ⟨rfl,C⟩;have Z:CG (Bl w K):=HK.o.trans (C.mono HK.o.size);have S1:CG (K.ownsRow w.heap.size 63 2 (sL g1 y c1) y xs):=dx Q.o C;have S2:CG (K.ownsRow w.heap.size 63 2 (sL g2 n2 c2) n2 N):=dx W.o C;have c0:=cell_later C c0;have I:=cell_later C I;have zb:=l' zb C.size;have a2:=bH K (.slice s len g) (iT m) 63;have a8:=bO a2;have ka:Bl K (K.alloc (.cells #[.slice s len g,iT m] 63)):=bZ;have A1:CG ((K.alloc (.cells #[.slice s len g,iT m] 63)).ownsRow w.heap.size 63 2 (sL g1 y c1) y xs):=dx S1.o ka;have A2:CG ((K.alloc (.cells #[.slice s len g,iT m] 63)).ownsRow w.heap.size 63 2 (sL g2 n2 c2) n2 N):=dx S2.o ka;have Y:CG (Bl w (K.alloc (.cells #[.slice s len g,iT m] 63))):=Z.o.trans (ka.mono Z.o.size);clear C a2 ka Q W S1 S2 CM;cases T with
    | true =>
     go_wp2_with (at_builtin;refine wpList_append_own_at _ rfl _ _ 61 rfl w.heap.size 63 i0 _ 2 32 Tryz.underlying61 hi ah ab ad rfl (by decide) _ _ _ rfl A1.o ⟨K.heap.size,0,none⟩ 1 1 [.slice s len g,iT m] rfl rfl a8.o (by intro u hu;simp at hu;rcases hu with rfl | rfl <;> rfl) (by have:=F.o;unfold maxLen;omega) (by have:=F.o;omega) Y.o.size ?_;intro v3 w3 t d x A;obtain ⟨J,c3,rfl⟩:=aF t x)
     have X:J≠g2:=by
      have h1:=(A2.o.lt g2 rfl).2;have h2:=D.o;rcases A with h | h
      · have h3:J=g1:=CZ (show some J=some g1 from h);omega
      · have h3:=CZ (show some J=some _ from h);omega
     have O:CG (w3.ownsRow w.heap.size 63 2 (sL g2 n2 c2) n2 N):=A2.o.kept d (.inr (fun e=>by have h1:g2=g1:=CZ (show some g2=some g1 from e);have:=D.o;omega));have KB:CG (Bl w w3):=Y.o.grown d Y.o.size (fun k e=>(A1.o.lt k e).1);clear A d x;go_roundw
     case rel =>
      refine ⟨i+1,J,y+1,c3,g2,n2,c2,xs++[.slice s len g,iT m],N,by omega,by go_num,rfl,rfl,X,by have:=F.o;omega,t,O.o,(by rw [gS HG.o,(E.o _).1,← HT.o];exact U.o.app a4.o),(by rw [gS HG.o,(E.o _).2,(E.o _).1,← HT.o];simpa using R.o),KB.o⟩
     case measure=>simp [intOf];omega
    | false =>
     go_wp2_with (at_builtin;refine wpList_append_own_at _ rfl _ _ 61 rfl w.heap.size 63 i0 _ 2 32 Tryz.underlying61 hi ah ab ad rfl (by decide) _ _ _ rfl A2.o ⟨K.heap.size,0,none⟩ 1 1 [.slice s len g,iT m] rfl rfl a8.o (by intro u hu;simp at hu;rcases hu with rfl | rfl <;> rfl) (by have:=F.o;unfold maxLen;omega) (by have:=F.o;omega) Y.o.size ?_;intro v3 w3 t d x A;obtain ⟨J,c3,rfl⟩:=aF t x)
     have X:J≠g1:=by
      have h1:=(A1.o.lt g1 rfl).2;have h2:=D.o;rcases A with h | h
      · have h3:J=g2:=CZ (show some J=some g2 from h);omega
      · have h3:=CZ (show some J=some _ from h);omega
     have O:CG (w3.ownsRow w.heap.size 63 2 (sL g1 y c1) y xs):=A1.o.kept d (.inr (fun e=>by have h1:g1=g2:=CZ (show some g1=some g2 from e);have:=D.o;omega));have KB:CG (Bl w w3):=Y.o.grown d Y.o.size (fun k e=>(A2.o.lt k e).1);clear A d x;go_roundw
     case rel =>
      refine ⟨i+1,g1,y,c1,J,n2+1,c3,xs,N++[.slice s len g,iT m],by omega,by go_num,rfl,rfl,fun e=>X e.symm,by have:=F.o;omega,O.o,t,(by rw [gS HG.o,(E.o _).1,← HT.o];simpa using U.o),(by rw [gS HG.o,(E.o _).2,(E.o _).1,← HT.o];exact R.o.app a4.o),KB.o⟩
     case measure=>simp [intOf];omega
  · have ag:¬(i:Int)<(n:Int):=by omega
    have H:B.take i=B:=C9 (by rw [HL.o];omega);have D1:=U.o.low HK.o;have D2:=R.o.low HK.o;rw [H] at D1 D2;obtain ⟨a5,c5,e5,R5⟩:=iL Q.o D1.den;obtain ⟨a6,c6,e6,R6⟩:=iL W.o D2.den;cases e5;cases e6;have H5:CG (ay 0 wr (pT g1) y c1 (B.filter p)):=R5;have H6:CG (ay 0 wr (pT g2) n2 c2 (B.filter q)):=R6;clear D1 D2 H R5 R6;go_wp2;exact bodyPost_ret (v:=.tuple #[sL g1 y c1,sL g2 n2 c2]) (by simp [results,Tryz.results177,go_sem]) rfl ⟨_,_,_,_,_,_,rfl,H5.o,H6.o,HK.o⟩
theorem pO (a:Option Addr) (n c:Nat) (B:List an) (w:World) (h:ay 0 w a n c B) (hn:n≤1000) :
 Calls Tryz.prog 178 #[.slice a n c] w (pn n B w):=by
 have Z:=bO h;have HL:CG (B.length=n):=h.length;obtain ⟨i0,hi,F,T,D⟩:=info_parts Tryz.infoEntS;clear h;have W:CG ((w.alloc (.cells #[] 28)).ownsRow w.heap.size 28 1 (sL (w.heap.size) 0 0) 0 []):=by
  have:=Do (base:=w.heap.size) (e:=28) (size:=1) w #[] 0 (Cy _) (by simp) (by simp);show World.ownsRow _ _ _ _ _ _ _
  simpa using this
 have K1:CG (Bl w (w.alloc (.cells #[] 28))):=bZ;go_enter Tryz.func178,Tryz.ntmps178
 go_wp2;go_loopw [3,4] (fun vv J wr=>∃(i:Nat) (vs:List Value),i≤n∧J=iT i∧wr.ownsRow w.heap.size 28 1 vv i vs∧mR w vs (bj (B.take i))∧Bl w wr) (fun _ J _=>n - (intOf J).toNat)
 case atStart=>exact ⟨0,[],C3 _,rfl,W.o,zP _,K1.o⟩
 case round =>
  clear W K1;obtain ⟨i,vs,a3,rfl,hr,hd,hb⟩:=hrel;have R:CG (wr.ownsRow w.heap.size 28 1 _ i vs):=hr;have X:CG (mR w vs (bj (B.take i))):=hd;have E:CG (Bl w wr):=hb;clear hr hd;by_cases K:i<n
  · have y:(i:Int)<(n:Int):=by omega
    obtain ⟨b,a2,rfl,Q⟩:=Z.o.form (by omega);obtain ⟨L,m,s,len,d,hg,A,c0,c1,hE⟩:=Z.o.run (Below.refl _ w) i K;have HG:CG (B[i]?=some (L,m)):=hg;have HE:CG (ag w s len d L):=hE.1;have c0:=cell_later hb c0;have c1:=cell_later hb c1;have zb:b<wr.heap.size:=l' Q hb.size;have H:Bl wr (wr.alloc (.cells #[.slice s len d] 28)):=bZ;have x:=dV wr (.slice s len d) 28

    have I:=bO x;have HA:CG ((wr.alloc (.cells #[.slice s len d] 28)).ownsRow w.heap.size 28 1 _ i vs):=bu R.o H;have C:CG (Bl w (wr.alloc (.cells #[.slice s len d] 28))):=E.o.trans (H.mono E.o.size);clear hg A hE hb H x R;go_wp2_with (at_builtin;refine wpList_append_own _ rfl _ _ 102 rfl w.heap.size 28 i0 _ 1 24 Tryz.underlying102 hi F T D rfl (by decide) _ _ _ rfl HA.o ⟨wr.heap.size,0,none⟩ 1 1 [.slice s len d] rfl rfl I.o (by intro u U;simp at U;subst U;rfl) (by unfold maxLen;omega) (by omega) C.o.size ?_;intro v3 Y r f t)
    have KB:CG (Bl w Y):=C.o.grown f C.o.size (fun k e=>(HA.o.lt k e).1);have N:CG (Y.ownsRow w.heap.size 28 1 v3 (i+1) (vs++[.slice s len d])):=r;clear r f t;go_roundw
    case rel=>exact ⟨i+1,vs++[.slice s len d],by omega,by go_num,N.o,(by rw [tn HG.o];exact X.o.snoc HE.o),KB.o⟩
    case measure=>simp [intOf];omega
  · have y:¬(i:Int)<(n:Int):=by omega
    obtain rfl:i=n:=by omega
    have g:B.take i=B:=C9 (by rw [HL.o];omega);have hd:=X.o;rw [g] at hd;have O:CG (mR w vs (bj B)):=hd;clear hd g;go_wp2;go_ret;exact (show pn _ B w _ _ from ⟨_,vs,rfl,R.o,O.o,E.o⟩)
end Go.Proofs.YtpobkmjicbobdaaGreat
