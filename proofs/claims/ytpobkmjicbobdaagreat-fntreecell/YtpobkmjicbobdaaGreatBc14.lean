/- Walks. -/
import Derived.Test.YtpobkmjicbobdaaGreatBc13
namespace Go.Proofs.YtpobkmjicbobdaaGreat
set_option maxRecDepth 100000
set_option maxHeartbeats 40000000
open Go.RowKit
variable {P:List (List ae)} {n:Nat} {vs:List Value} {w:World}
theorem vm (p:Nat→Prop) (w:World):eC p w [] []:=⟨rfl,fun i r h=>by simp at h⟩
theorem my {s:Option Addr} {c:Nat} {m:Int} {L:List ae} (hm:(Lit.int .i64 m).wf=true) (h:ah w s n c L):eC (·<w.heap.size) w [.slice s n c,iT m] [(L,m)]:=by
 refine ⟨rfl,fun i r hr=>?_⟩;match i,hr with
 | 0,hr=>cases hr;exact ⟨hm,s,n,c,rfl,rfl,h,fun x e hp=>(h.lies x e hp).1⟩
def oP (w:World) (vs:List Value) (P:List (List ae)):Prop:=vs.length=P.length∧∀(j:Nat) (L:List ae),P[j]?=some L→∃(s:Option Addr) (m d:Nat),vs[j]?=some (Value.slice s m d)∧ah w s m d L
theorem Ct (w:World):oP w [] []:=⟨rfl,fun j L h=>by simp at h⟩
theorem oP.keep {w':World} (h:oP w vs P) (hb:Bl w w'):oP w' vs P:=⟨h.1,fun j L b=>by
 obtain ⟨s,m,d,h1,h2⟩:=h.2 j L b
 exact ⟨s,m,d,h1,h2.keep hb⟩⟩
theorem oP.snoc (h:oP w vs P) {s:Option Addr} {m d:Nat} {L:List ae} (hE:ah w s m d L):oP w (vs++[.slice s m d]) (P++[L]):=by
 have hl:=h.1;refine ⟨by simp [hl],fun j X b=>?_⟩;by_cases e:j<P.length
 · rw [FE e] at b;obtain ⟨r,o,g,h1,h2⟩:=h.2 j X b;exact ⟨r,o,g,by rw [FE (by omega)];exact h1,h2⟩
 · rw [Fz (by omega)] at b;have f:j - P.length=0:=by
    have:=(E'.1 b).1;simp at this;omega
   rw [f] at b;cases b;exact ⟨s,m,d,by rw [Fz (by omega),show j - vs.length=0 by omega];rfl,hE⟩
def qO (n:Nat) (B:List aj) (w:World) (e:Ending) (w':World):Prop:=∃v vs,e=.returned v∧w'.ownsRow w.heap.size 28 1 v n vs∧oP w vs (bG B)∧Bl w w'
theorem uQ {base:Nat} {v:Value} (h:w.ownsRow base 28 1 v n vs) (d:oP w vs P):∃a c,v=.slice a n c∧cy w a n c P:=by
 have hn:P.length=n:=by have h1:=h.1;have h2:=d.1;omega
 rcases h.2 with ⟨hv,h0⟩ | ⟨g,f,o,hv,_⟩
 · subst hv h0;exact ⟨none,0,rfl,hn,Fv _,FB _,fun _=>rfl,(fun x e=>by cases e),fun x e=>by cases e⟩
 · subst hv;have b:=cZ h;refine ⟨_,f,rfl,hn,b.1,b.2,(fun e=>by cases e),(fun x e _=>by cases e;exact ⟨(h.lt g rfl).2,rfl⟩),fun x e i hi=>?_⟩;cases e;obtain ⟨s,m,r,h1,h2⟩:=d.2 i _ (j' hi);have hc:=h.cells (g:=g) rfl i _ h1;rw [FO] at hc;exact ⟨s,m,r,hc,h2⟩
theorem pq (a:Option Addr) (n c:Nat) (B:List aj) (low f:ByteArray) (w:World) (h:az 0 w a n c B) (a8:∀r ∈ B,1≤r.1.length) (hn:n≤1000) :
 Calls Tryz.prog 177 #[.slice a n c,.string low,.string f] w fun e w'=>∃g1 y c1 g2 n2 c2,e=.returned (.tuple #[sL g1 y c1,sL g2 n2 c2])∧az 0 w' (pT g1) y c1 (B.filter (eD low f))∧az 0 w' (pT g2) n2 c2 (B.filter (fun r=>!eD low f r))∧Bl w w':=by
 have HB:=bT h;have HL:Eq (B.length=n):=h.length;have ay:=bT a8;obtain ⟨i0,hi,a2,a1,ai⟩:=info_parts Tryz.infoRun;clear h a8;obtain ⟨p,hp⟩:=aG (eD low f);obtain ⟨q,hq⟩:∃q:aj→Bool,q=fun r=>!eD low f r:=⟨_,rfl⟩
 have E:Eq (∀r,p r=eD low f r∧q r=!p r):=fun r=>by rw [hp,hq];exact ⟨rfl,rfl⟩
 rw [← hq,← hp];clear hp hq;have R1:Eq ((w.alloc (.cells #[] 63)).ownsRow w.heap.size 63 2 (sL (w.heap.size) 0 0) 0 []):=by
  have:=F6 (base:=w.heap.size) (e:=63) (size:=2) w #[] 0 (Fv _) (by simp) (by simp);show World.ownsRow _ _ _ _ _ _ _
  simpa using this
 have Y:Eq (Bl w (w.alloc (.cells #[] 63))):=bZ;have R2:Eq (((w.alloc (.cells #[] 63)).alloc (.cells #[] 63)).ownsRow w.heap.size 63 2 (sL (w.heap.size+1) 0 0) 0 []):=by
  have:=F6 (base:=w.heap.size) (e:=63) (size:=2) (w.alloc (.cells #[] 63)) #[] 0 (by simp) (by simp) (by simp);show World.ownsRow _ _ _ _ _ _ _
  rw [FP] at this;simpa using this
 have K2:Eq (Below (w.alloc (.cells #[] 63)).heap.size (w.alloc (.cells #[] 63)) ((w.alloc (.cells #[] 63)).alloc (.cells #[] 63))):=bZ;go_enter Tryz.func177,Tryz.ntmps177
 go_wp2;go_loopw [8,9,10] (fun v1 v2 iv wr=>∃(i g1 y c1 g2 n2 c2:Nat) (xs N:List Value),i≤n∧iv=iT i∧v1=sL g1 y c1∧v2=sL g2 n2 c2∧g1≠g2∧y+n2≤i∧wr.ownsRow w.heap.size 63 2 (sL g1 y c1) y xs∧wr.ownsRow w.heap.size 63 2 (sL g2 n2 c2) n2 N∧eC (·<w.heap.size) w xs ((B.take i).filter p)∧eC (·<w.heap.size) w N ((B.take i).filter q)∧Bl w wr) (fun _ _ iv _=>n - (intOf iv).toNat)
 case atStart =>
  refine ⟨0,w.heap.size,0,0,w.heap.size+1,0,0,[],[],FB _,rfl,rfl,by first | rfl | simp,by omega,Fv _,dO R1.o K2.o,R2.o,vm _ _,vm _ _,Y.o.trans (K2.o.mono Y.o.size)⟩
 case round =>
  clear R1 R2 Y K2;obtain ⟨i,g1,y,c1,g2,n2,c2,xs,N,aT,rfl,rfl,rfl,aa,aC,ae,a9,ak,ag,hb⟩:=hrel;have U:Eq (wr.ownsRow w.heap.size 63 2 (sL g1 y c1) y xs):=ae;have X:Eq (wr.ownsRow w.heap.size 63 2 (sL g2 n2 c2) n2 N):=a9;have O:Eq (eC (·<w.heap.size) w xs ((B.take i).filter p)):=ak;have R:Eq (eC (·<w.heap.size) w N ((B.take i).filter q)):=ag;have HK:Eq (Bl w wr):=hb;have D:Eq (g1≠g2):=aa;have F:Eq (y+n2≤i):=aC;clear ae a9 ak ag;by_cases aD:i<n
  · have ab:(i:Int)<(n:Int):=by omega
    obtain ⟨b,al,rfl,aB⟩:=HB.o.form (by omega);obtain ⟨L,m,s,len,g,hg,ah,c0,K,hE⟩:=HB.o.run (Below.refl _ w) i aD;have HG:Eq (B[i]?=some (L,m)):=hg;have a0:Eq (eC (·<w.heap.size) w [.slice s len g,iT m] [(L,m)]):=my ah hE.1;have ad:1≤len:=by have h1:=ay.o _ (Fw hg);have h2:=hE.1.length;simp only at h1;omega
    obtain ⟨T,hT⟩:=aG (eD low f (L,m));have HT:Eq (T=eD low f (L,m)):=hT;have CM:Eq (Calls Tryz.prog 222 #[.agg #[.slice s len g,iT m],.string low,.string f] wr fun e w'=>e=.returned (.bool T)∧Bl wr w'):=by rw [hT];exact Ba m s len g L low f wr (hE.1.keep hb) ad
    have C0:Eq (w.cell? ⟨b,al+i*2,none⟩=some (.slice s len g)∧w.cell? ⟨b,al+i*2+1,none⟩=some (iT m)):=⟨c0,K⟩;have c0:=cell_later hb c0;have K:=cell_later hb K;have zb:b<wr.heap.size:=u' aB hb.size;clear hg ah hE hb hT ad;go_wp2_with fail
    refine CM.o.mono ?_;rintro e H ⟨rfl,C⟩;have Y:Eq (Bl w H):=HK.o.trans (C.mono HK.o.size);have S1:Eq (H.ownsRow w.heap.size 63 2 (sL g1 y c1) y xs):=dO U.o C;have S2:Eq (H.ownsRow w.heap.size 63 2 (sL g2 n2 c2) n2 N):=dO X.o C;have c0:=cell_later C c0;have K:=cell_later C K;have zb:=u' zb C.size;have a3:=bW H (.slice s len g) (iT m) 63;have a7:=bT a3;have ka:Bl H (H.alloc (.cells #[.slice s len g,iT m] 63)):=bZ;have A1:Eq ((H.alloc (.cells #[.slice s len g,iT m] 63)).ownsRow w.heap.size 63 2 (sL g1 y c1) y xs):=dO S1.o ka;have A2:Eq ((H.alloc (.cells #[.slice s len g,iT m] 63)).ownsRow w.heap.size 63 2 (sL g2 n2 c2) n2 N):=dO S2.o ka;have Z:Eq (Bl w (H.alloc (.cells #[.slice s len g,iT m] 63))):=Y.o.trans (ka.mono Y.o.size);clear C a3 ka U X S1 S2 CM;cases T with
    | true =>
     go_wp2_with (at_builtin;refine wpList_append_own_at _ rfl _ _ 61 rfl w.heap.size 63 i0 _ 2 32 Tryz.underlying61 hi a2 a1 ai rfl (by decide) _ _ _ rfl A1.o ⟨H.heap.size,0,none⟩ 1 1 [.slice s len g,iT m] rfl rfl a7.o (by intro u hu;simp at hu;rcases hu with rfl | rfl <;> rfl) (by have:=F.o;unfold maxLen;omega) (by have:=F.o;omega) Z.o.size ?_;intro v3 w3 t d x A;obtain ⟨I,c3,rfl⟩:=aH t x)
     have W:I≠g2:=by
      have h1:=(A2.o.lt g2 rfl).2;have h2:=D.o;rcases A with h | h
      · have h3:I=g1:=Fx (show some I=some g1 from h);omega
      · have h3:=Fx (show some I=some _ from h);omega
     have Q:Eq (w3.ownsRow w.heap.size 63 2 (sL g2 n2 c2) n2 N):=A2.o.kept d (.inr (fun e=>by have h1:g2=g1:=Fx (show some g2=some g1 from e);have:=D.o;omega));have KB:Eq (Bl w w3):=Z.o.grown d Z.o.size (fun k e=>(A1.o.lt k e).1);clear A d x;go_roundw
     case rel =>
      refine ⟨i+1,I,y+1,c3,g2,n2,c2,xs++[.slice s len g,iT m],N,by omega,by go_num,rfl,rfl,W,by have:=F.o;omega,t,Q.o,(by rw [iC HG.o,(E.o _).1,← HT.o];exact O.o.app a0.o),(by rw [iC HG.o,(E.o _).2,(E.o _).1,← HT.o];simpa using R.o),KB.o⟩
     case measure=>simp [intOf];omega
    | false =>
     go_wp2_with (at_builtin;refine wpList_append_own_at _ rfl _ _ 61 rfl w.heap.size 63 i0 _ 2 32 Tryz.underlying61 hi a2 a1 ai rfl (by decide) _ _ _ rfl A2.o ⟨H.heap.size,0,none⟩ 1 1 [.slice s len g,iT m] rfl rfl a7.o (by intro u hu;simp at hu;rcases hu with rfl | rfl <;> rfl) (by have:=F.o;unfold maxLen;omega) (by have:=F.o;omega) Z.o.size ?_;intro v3 w3 t d x A;obtain ⟨I,c3,rfl⟩:=aH t x)
     have W:I≠g1:=by
      have h1:=(A1.o.lt g1 rfl).2;have h2:=D.o;rcases A with h | h
      · have h3:I=g2:=Fx (show some I=some g2 from h);omega
      · have h3:=Fx (show some I=some _ from h);omega
     have Q:Eq (w3.ownsRow w.heap.size 63 2 (sL g1 y c1) y xs):=A1.o.kept d (.inr (fun e=>by have h1:g1=g2:=Fx (show some g1=some g2 from e);have:=D.o;omega));have KB:Eq (Bl w w3):=Z.o.grown d Z.o.size (fun k e=>(A2.o.lt k e).1);clear A d x;go_roundw
     case rel =>
      refine ⟨i+1,g1,y,c1,I,n2+1,c3,xs,N++[.slice s len g,iT m],by omega,by go_num,rfl,rfl,fun e=>W e.symm,by have:=F.o;omega,Q.o,t,(by rw [iC HG.o,(E.o _).1,← HT.o];simpa using O.o),(by rw [iC HG.o,(E.o _).2,(E.o _).1,← HT.o];exact R.o.app a0.o),KB.o⟩
     case measure=>simp [intOf];omega
  · have ab:¬(i:Int)<(n:Int):=by omega
    have J:B.take i=B:=FH (by rw [HL.o];omega);have D1:=O.o.low HK.o;have D2:=R.o.low HK.o;rw [J] at D1 D2;obtain ⟨a5,c5,e5,R5⟩:=jr U.o D1.den;obtain ⟨a6,c6,e6,R6⟩:=jr X.o D2.den;cases e5;cases e6;have H5:Eq (az 0 wr (pT g1) y c1 (B.filter p)):=R5;have H6:Eq (az 0 wr (pT g2) n2 c2 (B.filter q)):=R6;clear D1 D2 J R5 R6;go_wp2;exact bodyPost_ret (v:=.tuple #[sL g1 y c1,sL g2 n2 c2]) (by simp [results,Tryz.results177,go_sem]) rfl ⟨_,_,_,_,_,_,rfl,H5.o,H6.o,HK.o⟩
theorem rD (a:Option Addr) (n c:Nat) (B:List aj) (w:World) (h:az 0 w a n c B) (hn:n≤1000) :
 Calls Tryz.prog 178 #[.slice a n c] w (qO n B w):=by
 have X:=bT h;have HL:Eq (B.length=n):=h.length;obtain ⟨i0,hi,E,D,N⟩:=info_parts Tryz.infoEntS;clear h;have Y:Eq ((w.alloc (.cells #[] 28)).ownsRow w.heap.size 28 1 (sL (w.heap.size) 0 0) 0 []):=by
  have:=F6 (base:=w.heap.size) (e:=28) (size:=1) w #[] 0 (Fv _) (by simp) (by simp);show World.ownsRow _ _ _ _ _ _ _
  simpa using this
 have K1:Eq (Bl w (w.alloc (.cells #[] 28))):=bZ;go_enter Tryz.func178,Tryz.ntmps178
 go_wp2;go_loopw [3,4] (fun vv A wr=>∃(i:Nat) (vs:List Value),i≤n∧A=iT i∧wr.ownsRow w.heap.size 28 1 vv i vs∧oP w vs (bG (B.take i))∧Bl w wr) (fun _ A _=>n - (intOf A).toNat)
 case atStart=>exact ⟨0,[],FB _,rfl,Y.o,Ct _,K1.o⟩
 case round =>
  clear Y K1;obtain ⟨i,vs,a4,rfl,hr,hd,hb⟩:=hrel;have C:Eq (wr.ownsRow w.heap.size 28 1 _ i vs):=hr;have U:Eq (oP w vs (bG (B.take i))):=hd;have H:Eq (Bl w wr):=hb;clear hr hd;by_cases O:i<n
  · have y:(i:Int)<(n:Int):=by omega
    obtain ⟨b,a8,rfl,F⟩:=X.o.form (by omega);obtain ⟨L,m,s,len,d,hg,K,c0,c1,hE⟩:=X.o.run (Below.refl _ w) i O;have HG:Eq (B[i]?=some (L,m)):=hg;have HE:Eq (ah w s len d L):=hE.1;have c0:=cell_later hb c0;have c1:=cell_later hb c1;have zb:b<wr.heap.size:=u' F hb.size;have T:Bl wr (wr.alloc (.cells #[.slice s len d] 28)):=bZ;have x:=ew wr (.slice s len d) 28

    have I:=bT x;have Z:Eq ((wr.alloc (.cells #[.slice s len d] 28)).ownsRow w.heap.size 28 1 _ i vs):=bK C.o T;have R:Eq (Bl w (wr.alloc (.cells #[.slice s len d] 28))):=H.o.trans (T.mono H.o.size);clear hg K hE hb T x C;go_wp2_with (at_builtin;refine wpList_append_own _ rfl _ _ 102 rfl w.heap.size 28 i0 _ 1 24 Tryz.underlying102 hi E D N rfl (by decide) _ _ _ rfl Z.o ⟨wr.heap.size,0,none⟩ 1 1 [.slice s len d] rfl rfl I.o (by intro u W;simp at W;subst W;rfl) (by unfold maxLen;omega) (by omega) R.o.size ?_;intro v3 w3 g f t)
    have KB:Eq (Bl w w3):=R.o.grown f R.o.size (fun k e=>(Z.o.lt k e).1);have J:Eq (w3.ownsRow w.heap.size 28 1 v3 (i+1) (vs++[.slice s len d])):=g;clear g f t;go_roundw
    case rel=>exact ⟨i+1,vs++[.slice s len d],by omega,by go_num,J.o,(by rw [uZ HG.o];exact U.o.snoc HE.o),KB.o⟩
    case measure=>simp [intOf];omega
  · have y:¬(i:Int)<(n:Int):=by omega
    obtain rfl:i=n:=by omega
    have r:B.take i=B:=FH (by rw [HL.o];omega);have hd:=U.o;rw [r] at hd;have Q:Eq (oP w vs (bG B)):=hd;clear hd r;go_wp2;go_ret;exact (show qO _ B w _ _ from ⟨_,vs,rfl,C.o,Q.o,H.o⟩)
end Go.Proofs.YtpobkmjicbobdaaGreat
