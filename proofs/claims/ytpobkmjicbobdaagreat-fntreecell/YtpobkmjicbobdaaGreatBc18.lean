/- Walks. -/
import Derived.Test.YtpobkmjicbobdaaGreatBc16
import Derived.Test.YtpobkmjicbobdaaGreatBc17
import Derived.Laws.OwnMore
namespace Go.Proofs.YtpobkmjicbobdaaGreat
set_option maxRecDepth 100000
set_option maxHeartbeats 40000000
open Go.RowKit
variable {A B C:List aj} {G T X Y b base c c1 c3 c4 g g1 g3 i k n n1 n2 n4 nm ns nv sz:Nat} {L M:List ae} {P:List (List ae)} {S:List Int} {V:List (List aj)} {q x z:Int} {u0 u1 u2 u3:Value} {w w' wr:World}
theorem Dl (lo:Nat) (q d:Int) (O av r:Option Addr) (nm cm nv R ns cs:Nat) (S:List Int) (w:World) (hS:b6 lo w r ns cs S) (hn:ns≤1048576) :
 Calls Tryz.prog 102 #[.agg #[iT q,.slice O nm cm,.slice av nv R,.slice r ns cs],iT d] w fun e w'=>e=.returned (.bool (decide (d ∈ S)))∧Bl w w':=by
 obtain ⟨X,H⟩:=aG w.heap.size;obtain ⟨W,y⟩:=aG (w.alloc (.cells #[iT q,.slice O nm cm,.slice av nv R,.slice r ns cs] 31));have I:Bl w W:=by rw [y];exact bZ
 have x3:W.cell? ⟨X,3,none⟩=some (.slice r ns cs):=by rw [y,H];simp
 have Q:Eq (b6 lo W r ns cs S):=hS.keep I;have HL:Eq (S.length=ns):=hS.length;have U:Eq (Bl w W):=I;have xz:=Fu _ _ x3;simp only at xz;obtain ⟨Z,F⟩:=aG (decide (d ∈ S));have N:Eq (Z=decide (d ∈ S)):=F;rw [← F];clear hS I F;go_enter Tryz.func102,Tryz.ntmps102
 go_upto_region 1 with fail
 rw [← H,← y];clear H y;go_wp2;go_loopw [5] (fun D wr=>∃(k:Nat),k≤ns∧D=iT k∧(∀j,j<k→¬S[j]?=some d)∧W=wr) (fun D _=>ns - (intOf D).toNat)
 case atStart=>exact ⟨0,FB _,rfl,fun j m=>absurd m (Gy _),rfl⟩
 case round =>
  obtain ⟨k,hk,rfl,f,rfl⟩:=hrel;have s:Eq (∀j,j<k→¬S[j]?=some d):=f;clear f;by_cases J:k<ns
  · have u:(k:Int)<(ns:Int):=by omega
    obtain ⟨b,a8,rfl,a4⟩:=Q.o.form (by omega);obtain ⟨z,hz,_,g0⟩:=Q.o.num (Below.refl _ W) k J;have t:Eq (S[k]?=some z):=hz;clear hz;by_cases hq:z=d
    · subst hq;have E:Eq (Z=true):=by show _=_;rw [N.o];exact decide_eq_true (Fw t.o)
      go_wp2;go_ret;exact ⟨by have e:=E.o;first | (rw [e];rfl) | (subst e;rfl) | simp [e],U.o⟩
    · have a6:(z == d)=false:=by simpa using hq
      go_wp2;go_roundw
      case rel =>
       refine ⟨k+1,by omega,by go_num,fun j m=>?_,by first | rfl | trivial⟩;by_cases e:j=k
       · subst e;rw [t.o];intro h;exact hq (Fx h)
       · exact s.o j (by omega)
      case measure=>simp [intOf];omega
  · have u:¬(k:Int)<(ns:Int):=by omega
    have E:Eq (Z=false):=by
     show _=_
     rw [N.o];refine decide_eq_false (fun hm=>?_);obtain ⟨j,m⟩:=F' hm;have K:=(E'.1 m).1;rw [HL.o] at K;exact s.o j (by omega) m
    go_wp2;go_ret;exact ⟨by have e:=E.o;first | (rw [e];rfl) | (subst e;rfl) | simp [e],U.o⟩
theorem aE.grownB (h:aE w b u0 u1 u2 u3) (hg:w.grownBy w' (some g)) (d:b≠g):aE w' b u0 u1 u2 u3 :=
 have hn:some b≠some g:=fun e=>d (Fx e)
 ⟨hg.cell h.c0 hn,hg.cell h.c1 hn,hg.cell h.c2 hn,hg.cell h.c3 hn,fun o=>(bo hg (x:=⟨b,o,none⟩) h.lt hn).trans (h.fz o)⟩
theorem cU.kind (h:cU base w g1 nm c1 G nv c g3 ns c3 M V S) (hB:ay w Y T sz) (t0:T≠61) (m:T≠63) (f:T≠50) (t3:T≠3) (hg:w.grownBy w' (some Y)):cU base w' g1 nm c1 G nv c g3 ns c3 M V S:=by
 obtain ⟨_,k1⟩:=aS h.mem.owns;obtain ⟨_,k3⟩:=aS h.sn;refine ⟨h.mem.grown hg (fun e=>?_),h.levs.grown hB t0 m f hg,h.slen,h.swf,h.sn.kept hg (.inr fun e=>?_)⟩
 · have d:g1=Y:=Fx e;subst d;exact f (hB.kind k1)
 · have d:g3=Y:=by simpa [Value.ownBlock] using e
   subst d;exact t3 (hB.kind k3)
def vK (q:Int) (nm nv n:Nat) (M:List ae) (V:List (List aj)) (S:List Int) (ok:Bool) (w:World) (e:Ending) (w':World):Prop :=
 ∃g1 c1 G c g3 c3,e=.returned (.tuple #[.agg #[iT q,sL g1 nm c1,sL G nv c,sL g3 n c3],.bool ok])∧cU w.heap.size w' g1 nm c1 G nv c g3 n c3 M V S∧Bl w w'
theorem cU.push {d:Nat} (h:cU base w g1 nm c1 G nv c g3 ns c3 M V S) (hg:w.grownBy w' (some g3)) (ho:w'.ownsRow base 3 1 (sL d (ns+1) c4) (ns+1) (S.map iT++[iT q])) (hq:(Lit.int .i64 q).wf=true):cU base w' g1 nm c1 G nv c d (ns+1) c4 M V (S++[q]) :=
 ⟨dP h.mem h.sn (by decide) hg,ie h.levs h.sn (by decide) (by decide) (by decide) hg,by rw [Fy,h.slen];rfl,fun z hz=>by
  rcases FI.1 hz with h1 | h1
  · exact h.swf z h1
  · rw [FL] at h1;subst h1;exact hq,by rw [GM];exact ho⟩
theorem Ao (S:List Int) (x:Int):(S.filter (fun y=>decide (¬y=x))).length<S.length ↔ x ∈ S:=by
 induction S with
 | nil=>simp
 | cons a S e =>
  have d:=Hw (fun y=>decide (¬y=x)) S;by_cases ha:a=x
  · subst ha;simp;simpa using Nat.lt_succ_of_le d
  · have hb:(a :: S).filter (fun y=>decide (¬y=x))=a :: S.filter (fun y=>decide (¬y=x)):=by simp [ha]
    rw [hb];simp only [F5,FF];constructor
    · intro h;exact .inr (e.1 (by omega))
    · rintro (h | h)
      · exact absurd h.symm ha
      · have:=e.2 h;omega
def gG (S:List Int) (x:Int):List Int:=S.filter (fun y=>decide (¬y=x))
theorem drop_take {a:Int} (h:S[k]?=some a):gG (S.take (k+1)) x=if a=x then gG (S.take k) x else gG (S.take k) x++[a]:=by
 unfold gG;rw [FU,h,Gt];by_cases ha:a=x <;> simp [ha]
theorem Cq (S:List Int) (x:Int):(gG S x).length≤S.length:=Hw _ _
theorem DG (S:List Int) (x:Int):decide ((gG S x).length<S.length)=decide (x ∈ S):=by
 rw [decide_eq_decide];exact Ao S x
theorem Cp (h:z ∈ gG S x):z ∈ S:=(Hj.1 h).1
structure fu (w wr:World) (base X Y:Nat) (u0 u1 u2 u3:Value) (q:Int) (g1 nm c1 G nv c g n4 c4:Nat) (M:List ae) (V:List (List aj)) (S:List Int):Prop where
 low:Bl w wr
 bx:aE wr X u0 u1 u2 u3
 br:aE wr (X+1) (iT 0) nZ nZ nZ
 hy:aE wr Y (iT q) (sL g1 nm c1) (sL G nv c) (sL g n4 c4)
 cp:cU base wr g1 nm c1 G nv c g n4 c4 M V S
 ky:ay wr Y 31 4
 lows:X+1<base∧X+1<Y∧w.heap.size≤base∧w.heap.size≤X
theorem fu.below {d:World} (h:fu w wr base X Y u0 u1 u2 u3 q g1 nm c1 G nv c g n4 c4 M V S) (hb:Bl wr d):fu w d base X Y u0 u1 u2 u3 q g1 nm c1 G nv c g n4 c4 M V S :=
 ⟨h.low.trans (hb.mono h.low.size),h.bx.keep hb,h.br.keep hb,h.hy.keep hb,h.cp.below hb,h.ky.below hb,h.lows⟩
theorem fu.ne (h:fu w wr base X Y u0 u1 u2 u3 q g1 nm c1 G nv c g n4 c4 M V S):X≠g∧X+1≠g∧Y≠g:=by
 have h1:=(h.cp.sn.lt g rfl).1;have h2:=h.lows;refine ⟨by omega,by omega,fun e=>?_⟩;obtain ⟨_,k3⟩:=aS h.cp.sn;subst e;exact absurd (h.ky.kind k3) (by decide)
theorem fu.push {d:World} {o c':Nat} (h:fu w wr base X Y u0 u1 u2 u3 q g1 nm c1 G nv c g n4 c4 M V S) (hg:wr.grownBy d (some g)) (ho:d.ownsRow base 3 1 (sL o (n4+1) c') (n4+1) (S.map iT++[iT z])) (hz:(Lit.int .i64 z).wf=true):fu w (d.setCell ⟨Y,3,none⟩ (sL o (n4+1) c')) base X Y u0 u1 u2 u3 q g1 nm c1 G nv c o (n4+1) c' M V (S++[z]):=by
 obtain ⟨e1,e2,e3⟩:=h.ne;have hl:=h.lows;have f:ay d Y 31 4:=by
  obtain ⟨r,h1,h2⟩:=h.ky;exact ⟨r,(hg.block Y (Gm.1 h1).1 (fun e=>e3 (Fx e))).trans h1,h2⟩
 have m:d.grownBy (d.setCell ⟨Y,3,none⟩ (sL o (n4+1) c')) (some Y):=cJ _ _ _ _;refine ⟨?_,?_,?_,?_,?_,?_,h.lows⟩
 · exact (h.low.grown hg h.low.size (fun k e=>by cases e;have:=(h.cp.sn.lt g rfl).1;omega)).setCell (p:=⟨Y,3,none⟩) (by show _≤Y;omega) _
 · exact (h.bx.grownB hg e1).other (by omega) _
 · exact (h.br.grownB hg e2).other (by omega) _
 · exact (h.hy.grownB hg e3).set3 _
 · exact (h.cp.push hg ho hz).kind f (by decide) (by decide) (by decide) (by decide) m
 · exact f.setCell _
theorem bw.grownR (h:bw base w g n c B) (hG:ay w G 63 sz) (m:g≠G) (hg:w.grownBy w' (some G)):bw base w' g n c B:=by
 obtain ⟨h1,h2,xs,h3,h4⟩:=h;refine ⟨h1,h2,xs,h3.kept hg (.inr ?_),fun i p hp=>?_⟩
 · intro e;have f:g=G:=by simpa [Value.ownBlock] using e
   exact m f
 · obtain ⟨e,d,a1,a2,a3⟩:=h4 i p hp;obtain ⟨s,r⟩:=aS a3.owns;refine ⟨e,d,a1,a2,a3.grown hg (fun f=>?_)⟩;have o:e=G:=Fx f;subst o;exact absurd (hG.kind r) (by decide)
theorem cU.split (h:cU base w g1 nm c1 G nv c g3 ns c3 M [A,B,C] S):∃e r f o gC m,w.ownsRow base 61 1 (sL G 3 c) 3 [sL e A.length r,sL f B.length o,sL gC C.length m]∧bw base w e A.length r A∧bw base w f B.length o B∧bw base w gC C.length m C∧e≠f∧e≠gC:=by
 obtain ⟨h1,xs,h3,h4,h5⟩:=h.levs;have hn:nv=3:=h1.symm;subst hn;obtain ⟨e,r,a1,a2⟩:=h4 0 A rfl;obtain ⟨f,o,b1,b2⟩:=h4 1 B rfl;obtain ⟨gC,m,d,c2⟩:=h4 2 C rfl;have hx:xs=[sL e A.length r,sL f B.length o,sL gC C.length m]:=by
  have hl:=h3.1;match xs,hl,a1,b1,d with
  | [x,y,z],_,a1,b1,d=>simp at a1 b1 d;rw [a1,b1,d]
 rw [hx] at h3 h5;exact ⟨e,r,f,o,gC,m,h3,a2,b2,c2,h5 0 1 _ _ _ _ _ _ (by omega) rfl rfl,h5 0 2 _ _ _ _ _ _ (by omega) rfl rfl⟩
theorem zq (L:List ae) (e:ae):bD (L++[e])=eE (bD L) e:=by simp [bD]
theorem sI (_h:P[i]?=some L) (k:Nat) {e:ae} (d:L[k]?=some e):(P.take i).flatten++L.take (k+1)=((P.take i).flatten++L.take k)++[e]:=by
 rw [FU,d];simp
theorem sJ (h:P[i]?=some L):(P.take (i+1)).flatten=(P.take i).flatten++L.take L.length:=by
 rw [FU,h];simp
theorem BI (h:P[i]?=some L):((P.take i).flatten++L.take k).length≤P.flatten.length:=by
 have h1:P.flatten=(P.take (i+1)).flatten++(P.drop (i+1)).flatten:=by rw [← GT,FX]
 rw [h1,sJ h,Fy,Fy,Fy,FC,FC];omega
theorem mM (a:Option Addr) (n c:Nat) (P:List (List ae)) (w:World) (J:cy w a n c P) (t:P.flatten.length≤1048576) :
 Calls Tryz.prog 109 #[.slice a n c] w fun e w'=>∃g d,e=.returned (sL g P.flatten.length d)∧ag w' w.heap.size g P.flatten.length d (bD P.flatten)∧Bl w w':=by
 have HP:=bT J;have W:Eq (P.length=n):=J.length;have al:=bT t;have hroom:=J.room;have hbig:=J.big;unfold maxLen at hbig;clear J t;obtain ⟨N,hN⟩:∃N,P.flatten.length=N:=⟨_,rfl⟩;have HN:Eq (P.flatten.length=N):=hN;rw [hN];clear hN;go_enter Tryz.func109,Tryz.ntmps109
 go_wp2;go_loopw [3,4] (fun ov iv wr=>∃(i g d m:Nat) (F:List ae),i≤n∧iv=iT i∧F=(P.take i).flatten∧F.length=m∧ov=sL g m d∧ag wr w.heap.size g m d (bD F)∧Bl w wr) (fun _ iv _=>n - (intOf iv).toNat)
 case atStart=>exact ⟨0,w.heap.size,0,0,[],FB _,rfl,by simp,rfl,rfl,bV w _ (Fv _),bZ⟩
 case round =>
  obtain ⟨i,g,d,m,F,hi,rfl,hF,U,rfl,hO,hb⟩:=hrel;have u:Eq (F=(P.take i).flatten):=hF;have E:Eq (F.length=m):=U;have r:Eq (ag wr w.heap.size g m d (bD F)):=hO;have f:Eq (Bl w wr):=hb;clear hF U hO hb;by_cases a1:i<n
  · have K:(i:Int)<(n:Int):=by omega
    obtain ⟨b,az,rfl,ac⟩:=HP.o.form (by omega);obtain ⟨L,hL⟩:∃L,P[i]?=some L:=⟨_,j' (by rw [W.o];exact a1)⟩;have Z:Eq (P[i]?=some L):=hL;clear hL;go_wp2;go_loopw [3,5] (fun ov kv wq=>∃(k g d m:Nat) (G:List ae),k≤L.length∧kv=iT k∧G=F++L.take k∧G.length=m∧ov=sL g m d∧ag wq w.heap.size g m d (bD G)∧Bl w wq) (fun _ kv _=>L.length - (intOf kv).toNat)
    case atStart=>exact ⟨0,g,d,m,F,FB _,rfl,by simp,E.o,rfl,r.o,f.o⟩
    case round =>
     clear r f E;obtain ⟨k,g,d,m,G,hk,rfl,hG,H,rfl,hO,hb⟩:=hrel;obtain ⟨L',s,len,ax,O,c0,hE⟩:=HP.o.list hb i a1;rw [Z.o] at O;cases O;have HG:Eq (G=F++L.take k):=hG;have a0:Eq (G.length=m):=H;have r:Eq (ag wr w.heap.size g m d (bD G)):=hO;have f:Eq (Bl w wr):=hb;have y:=hE.length;have D:Eq (L.length=len):=y;have zb:b<wr.heap.size:=u' ac hb.size;have av:=hE.room;have a8:=hE.big;unfold maxLen at a8;have hm:m≤1048576:=by
      have h1:=BI (k:=k) Z.o;rw [← u.o,← hG] at h1;have h2:=al.o;omega
     rw [y] at hk;clear hG H hO hb y;by_cases aj:k<len
     · have Q:(k:Int)<(len:Int):=by omega
       obtain ⟨bs,os,rfl,zs⟩:=hE.form (by omega);obtain ⟨es,eq,ed,et,en,hx,hw,e0,e1,e2,e3,e4⟩:=hE.ent (Below.refl _ wr) zs k aj;have HX:Eq (L[k]?=some (es,eq,ed,et,en)):=hx;have CP:=tg g m d (bD G) es et eq ed en wr r.o.entsAt r.o.lt.2 hm hw;clear hx hw hE;go_wp2_with fail
       refine CP.mono ?_;rintro e w2 ⟨g2,c2,rfl,I,R⟩;have a6:Eq (ag w2 w.heap.size g2 (m+1) c2 (eE (bD G) (es,eq,ed,et,en))):=I.mono f.o.size;have a7:Eq (Bl w w2):=f.o.trans (R.mono f.o.size);clear I R CP r f;go_wp2;go_roundw
       case rel =>
        refine ⟨k+1,g2,c2,m+1,F++L.take (k+1),by have:=D.o;omega,by go_num,rfl,?_,rfl,?_,a7.o⟩
        · rw [u.o,sI Z.o k HX.o,← u.o,← HG.o,Fy,a0.o];rfl
        · rw [u.o,sI Z.o k HX.o,← u.o,← HG.o,zq];exact a6.o
       case measure=>have:=D.o;simp [intOf];omega
     · have Q:¬(k:Int)<(len:Int):=by omega
       have ad:Eq (k=L.length):=by have:=D.o;show k=_;omega
       have wi:IntKind.i64.wrap ((i:Int)+1)=((i+1:Nat):Int):=by rw [FQ];unfold wrap64;omega
       go_wp2;go_roundw
       case rel =>
        refine ⟨i+1,g,d,m,G,by omega,by first | rfl | go_num,?_,a0.o,rfl,r.o,f.o⟩;rw [sJ Z.o,HG.o,u.o,ad.o]
       case measure=>simp [intOf];omega
  · have ab:i=n:=by omega
    have K:¬(i:Int)<(n:Int):=by omega
    have ai:Eq (F=P.flatten):=by show F=_;rw [u.o,FH (by rw [W.o];omega)]
    clear ab;go_wp2;go_ret;have h1:=E.o;have h2:=r.o;rw [ai.o] at h1 h2;obtain rfl:N=m:=by have:=HN.o;omega
    exact ⟨g,d,rfl,h2,f.o⟩
def AN (w:World) (X:Nat):Prop:=∀o,(∀s,w.cell? ⟨X,o,none⟩≠some (.string s))∧∀a n c k,w.cell? ⟨X,o,none⟩=some (.slice a n c)→w.cell? ⟨X,o+1,none⟩≠some (iT k)
theorem cP (w:World) (cs:Array Value) (t:Nat):ay (w.alloc (.cells cs t)) w.heap.size t cs.size:=⟨cs,(by unfold World.alloc;exact GE),rfl⟩
theorem mh {o:Nat} {xs:List Value} (h:oO w (sO b o n c) n xs):Eq (∀j u,xs[j]?=some u→w.cell? ((⟨b,o,none⟩:Addr).add j)=some u):=fun j u d=>by
 rcases h.2.2 with ⟨h1,_⟩ | ⟨b',e,c',h1,hc⟩
 · cases h1
 · cases h1
   rw [FO]
   exact hc j u d
theorem Ee (hb:ay w X T k) (h0:w.cell? ⟨X,0,none⟩=some (iT q)) (hs:∀o,1≤o→o<k→∃a n c,w.cell? ⟨X,o,none⟩=some (.slice a n c)):AN w X:=by
 have far:∀o,k≤o→w.cell? ⟨X,o,none⟩=none:=fun o ho=>by
  obtain ⟨d,h1,h2⟩:=hb;simp [World.cell?,h1,Array.getElem?_eq_none (show d.size≤o by omega)]
 intro o;refine ⟨fun s e=>?_,fun a n c z _ e=>?_⟩
 · by_cases ho:o=0
   · subst ho;rw [h0] at e;cases e
   · by_cases hk:o<k
     · obtain ⟨a,n,c,h⟩:=hs o (by omega) hk;rw [h] at e;cases e
     · rw [far o (by omega)] at e;cases e
 · by_cases hk:o+1<k
   · obtain ⟨a,n,c,h⟩:=hs (o+1) (by omega) hk;rw [h] at e;cases e
   · rw [far (o+1) (by omega)] at e;cases e
theorem gq {w:World} {X T:Nat} {q:Int} {a1 a2 a3:Option Addr} {n1 c1 n2 c2 d c3:Nat} (hb:ay w X T 4) (h:aE w X (iT q) (.slice a1 n1 c1) (.slice a2 n2 c2) (.slice a3 d c3)):AN w X :=
 Ee hb h.c0 (fun o h1 h2=>by
  match o,h1,h2 with
  | 1,_,_=>exact ⟨_,_,_,h.c1⟩
  | 2,_,_=>exact ⟨_,_,_,h.c2⟩
  | 3,_,_=>exact ⟨_,_,_,h.c3⟩)
theorem qj (w:World) (X:Nat) (u0 u1 u2 u3:Value):∀b,b≠X→∀o,((((w.setCell ⟨X,0,none⟩ u0).setCell ⟨X,1,none⟩ u1).setCell ⟨X,2,none⟩ u2).setCell ⟨X,3,none⟩ u3).cell? ⟨b,o,none⟩=w.cell? ⟨b,o,none⟩:=fun b hb o=>by
 have h1:∀(w:World) (k:Nat) (u:Value),(w.setCell ⟨X,k,none⟩ u).cell? ⟨b,o,none⟩=w.cell? ⟨b,o,none⟩:=fun w k u=>by
  simp only [World.cell?,Below.heap_setCell w (⟨X,k,none⟩:Addr) u b hb]
 rw [h1,h1,h1,h1]
theorem sF (w:World) (X:Nat) (u0 u1 u2 u3:Value):((((w.setCell ⟨X,0,none⟩ u0).setCell ⟨X,1,none⟩ u1).setCell ⟨X,2,none⟩ u2).setCell ⟨X,3,none⟩ u3).heap.size=w.heap.size:=by simp [World.setCell]
theorem jN {s r u:Option Addr} {m t f o:Nat} (hc:3≤c) (d:c≤maxLen) (c0:w.cell? ⟨G,0,none⟩=some (.slice s m t)) (c1:w.cell? ⟨G,1,none⟩=some (.slice r n1 f)) (c2:w.cell? ⟨G,2,none⟩=some (.slice u n2 o)) (h0:az 0 w s m t A) (h1:az 0 w r n1 f B) (h2:az 0 w u n2 o C):cX 0 w (pT G) 3 c [A,B,C]:=by
 refine ⟨rfl,hc,d,(fun e=>by cases e),?_,?_⟩
 · rintro x e _;cases e;exact ⟨Fu _ _ c0,rfl,FB _⟩
 · rintro x e i hi;cases e;simp only [FG];match i,hi with
   | 0,_=>exact ⟨_,_,_,c0,h0⟩
   | 1,_=>exact ⟨_,_,_,c1,h1⟩
   | 2,_=>exact ⟨_,_,_,c2,h2⟩
theorem om {e:Ending} (h:qO n B w e w'):∃a c,e=.returned (.slice a n c)∧cy w' a n c (bG B)∧Bl w w':=by
 obtain ⟨v,d,rfl,h1,h2,h3⟩:=h;obtain ⟨a,c,rfl,h4⟩:=uQ h1 (h2.keep h3);exact ⟨a,c,rfl,h4,h3⟩
theorem tR (L:List ae):∀k,(fl L k).1.length≤k
 | 0=>Fv _
 | k+1=>by
  have:=tR L k
  rw [fl]
  split
  · rw [Fy];simp;omega
  · omega
theorem mV:∀(B A:List aj),(dJ A B).length=A.length+B.length
 | [],A=>rfl
 | r :: B,A=>by
  show (dJ (m9 A r) B).length=_
  rw [mV B]
  simp [m9]
  omega
theorem pw {P:Program} (base:Nat) (t o e:TypeId) (i:TypeInfo) (size:Nat) (f:P.underlying t=some (.slice e)) (hi:P.info? e=some i) (v:Value) (n c:Nat) (xs:List Value) (hown:w.ownsRow base e size v n xs) :
 (Builtin.append_ #[t,t] o #[v,.slice none 0 c]).run P w=.ok v w:=by
 rcases hown.2 with ⟨rfl,rfl⟩ | ⟨g,r,m,rfl,_,_,d,_⟩
 · simp [Builtin.append_,run_underlying f,sizeOf,typeInfo,hi,Builtin.lenOf,Builtin.firstCells]
 · simp [Builtin.append_,run_underlying f,sizeOf,typeInfo,hi,Builtin.lenOf,Builtin.firstCells,d,storeCells]
theorem dy {P:Program} {f:Array Oper} {o:Oper} {a:Act} {w:World} {K:Act→World→Prop} {Q:Exit→Act→World→Prop} {E:Prop}
 (hg:o.guard=none) (s x:Operand) (t:TypeId) (hop:o.op=Op.call { callee:=Callee.builtin Builtin.append,args:=#[s,x],argTypes:=#[t,t] })
 (base:Nat) (e:TypeId) (i:TypeInfo) (z:Value) (size bytes:Nat) (h1:P.underlying t=some (.slice e)) (h2:P.info? e=some i) (h3:i.zero=some z) (h4:i.size=size) (h5:i.bytes=bytes) (h6:z.cells.size=size) (h7:0<size)
 (v:Value) (n:Nat) (olds:List Value) (hs:a.eval s=v) (hown:w.ownsRow base e size v n olds)
 (ad:Option Addr) (m c:Nat) (news:List Value) (hx:a.eval x=.slice ad m c) (hn:news.length=m*size) (hz:ad=none→m=0) (hc:∀y,ad=some y→∀j u,news[j]?=some u→w.cell? (y.add j)=some u) (h1c:∀u ∈ news,u.oneCell'=true)
 (b1:n+m≤maxLen) (b2:(n+m)*bytes≤140737488355328) (b3:base≤w.heap.size)
 (hK:∀r w',w'.ownsRow base e size r (n+m) (olds++news)→w.grownBy w' v.ownBlock→(r=nZ ↔ v=nZ∧m=0)→K (a.put o.dst r) w') :
 if Region.wanted o (yielded f a.tmps)=true then Oper.wp P o a w K Q else E:=by
 cases ad with
 | some y=>exact aw hg s x t hop base e i z size bytes h1 h2 h3 h4 h5 h6 h7 v n olds hs hown y m c news hx hn (hc y rfl) h1c b1 b2 b3 hK
 | none =>
  have hw:Region.wanted o (yielded f a.tmps)=true:=by simp [Region.wanted,hg]
  rw [if_pos hw];obtain rfl:m=0:=hz rfl;have D:news=[]:=List.eq_nil_of_length_eq_zero (by rw [hn];simp);subst D;have d:=pw (P:=P) (w:=w) base t o.type e i size h1 h2 v n c olds hown;unfold Oper.wp;simp [execOp,hop,resolve,invoke,builtin,hs,hx,d,Result.andThen];exact hK v w (by rw [GR];exact hown) ⟨rfl,rfl,rfl,Fv _,fun _ _ _=>rfl⟩ ⟨fun h=>⟨h,rfl⟩,fun h=>h.1⟩
theorem lL {a:Option Addr} (h:ah w a n c L):∀y,a=some y→∀j u,(aC L)[j]?=some u→w.cell? (y.add j)=some u:=by
 rintro ⟨b,o,s⟩ rfl j u e;have d:j<(aC L).length:=(E'.1 e).1;rw [aV] at d;have hs:=(h.lies _ rfl (by have:=h.length;omega)).2;simp only at hs;subst hs;exact jq h j u e
theorem jl {f:Nat} {a:Option Addr} (h:b6 f w a n c S):∀y,a=some y→∀j u,(S.map iT)[j]?=some u→w.cell? (y.add j)=some u:=by
 rintro ⟨b,o,s⟩ rfl j u e;have d:j<(S.map iT).length:=(E'.1 e).1;rw [Hk] at d;have hs:=(h.lies _ rfl (by have:=h.length;omega)).2.1;simp only at hs;subst hs;exact zR h j u e
theorem ep.low (h:ep base w G n c V) (f:X<base) (hg:w.grownBy w' (some X)):ep base w' G n c V:=by
 obtain ⟨h1,xs,h3,h4,h5⟩:=h;refine ⟨h1,xs,h3.kept hg (.inr fun e=>?_),fun i p hp=>(by obtain ⟨e,d,a1,a3⟩:=h4 i p hp;exact ⟨e,d,a1,a3.low f hg⟩),h5⟩;have m:G=X:=by simpa [Value.ownBlock] using e
 have:=(h3.lt G rfl).1;omega
theorem rH (lo:Nat) (q:Int) (am av ak:Option Addr) (nm cm nv cv ns cs:Nat) (M:List ae) (V:List (List aj)) (S:List Int) (w:World) (hT:cj lo w am nm cm av nv cv ak ns cs M V S) (b9:nm≤1048576) (be:ns≤1048576) (b1:nv≤100) (hS:∀B ∈ V,B.length≤100∧∀r ∈ B,1≤r.1.length∧r.1.length≤10000) :
 Calls Tryz.prog 57 #[.agg #[iT q,.slice am nm cm,.slice av nv cv,.slice ak ns cs]] w fun e w'=>∃g1 c1 G c g3 c3,e=.returned (.agg #[iT q,sL g1 nm c1,sL G nv c,sL g3 ns c3])∧cU w.heap.size w' g1 nm c1 G nv c g3 ns c3 M V S∧Bl w w'∧∃b,w.heap.size≤b∧g1<b∧ep b w' G nv c V:=by
 obtain ⟨i0,hi,az,ax,aM⟩:=info_parts Tryz.infoEnt;obtain ⟨j0,hj,ai,an,ao⟩:=info_parts Tryz.infoInt;obtain ⟨X,hX⟩:=aG w.heap.size;obtain ⟨W0,a5⟩:=aG ((w.alloc (.cells #[iT q,.slice am nm cm,.slice av nv cv,.slice ak ns cs] 31)).alloc (.cells #[iT 0,nZ,nZ,nZ] 31));have kW:Bl w W0:=by rw [a5];exact bZ.alloc (by simp) _
 have bx:aE W0 X (iT q) (.slice am nm cm) (.slice av nv cv) (.slice ak ns cs):=by rw [a5,hX];exact (aE.new _ _ _ _ _ _).alloc _
 have br:aE W0 (X+1) (iT 0) nZ nZ nZ:=by
  have:=aE.new (w.alloc (.cells #[iT q,.slice am nm cm,.slice av nv cv,.slice ak ns cs] 31)) 31 (iT 0) nZ nZ nZ;rw [FP] at this;rw [a5,hX];exact this
 have R:Eq (W0.heap.size=X+1+1):=by rw [a5,hX];simp [Eq]
 have aq:Eq (X=w.heap.size):=hX;have KW:Eq (Bl w W0):=kW;have BX:Eq (aE W0 X (iT q) (.slice am nm cm) (.slice av nv cv) (.slice ak ns cs)):=bx;have BR:Eq (aE W0 (X+1) (iT 0) nZ nZ nZ):=br;have HM:Eq (ah W0 am nm cm M):=hT.mem.1.keep kW;have HS:Eq (b6 lo W0 ak ns cs S):=hT.snaps.keep kW;have a6:Eq (M.length=nm):=hT.mem.1.length;have Z:Eq (S.length=ns):=hT.snaps.length;have ap:Eq (∀z ∈ S,(Lit.int .i64 z).wf=true):=hT.snaps.wfs;have HV:Eq (cX lo W0 av nv cv V):=hT.levels.keep kW;have CL:Eq (∀w',Bl W0 w'→Calls Tryz.prog 120 #[.slice av nv cv] w' fun e aI=>∃G c,e=.returned (sL G nv c)∧ep w'.heap.size aI G nv c V∧Bl w' aI):=fun w' k=>(pr lo av nv cv V w' (HV.o.keep k) b1 hS).mono (fun e aI h=>by obtain ⟨G,c,h1,h2,h3⟩:=h;exact ⟨G,c,h1,h2,h3⟩)
 have d:Bl W0 W0.drew:=(Below.refl _ W0).drew;have D:Eq (∀w',Bl W0 w'→(fun w'=>w'.cell? ⟨X,0,none⟩=some (iT q)∧w'.cell? ⟨X,1,none⟩=some (.slice am nm cm)∧w'.cell? ⟨X,2,none⟩=some (.slice av nv cv)∧w'.cell? ⟨X,3,none⟩=some (.slice ak ns cs)∧X<w'.heap.size) w'):=fun w' kk=>⟨cell_later kk BX.o.c0,cell_later kk BX.o.c1,cell_later kk BX.o.c2,cell_later kk BX.o.c3,u' BX.o.lt kk.size⟩
 have al:Eq (∀(w':World) (u0 u1 u2 u3:Value),Bl W0 w'→(fun w'=>w'.cell? ⟨X,0,none⟩=some (iT q)∧w'.cell? ⟨X,1,none⟩=some (.slice am nm cm)∧w'.cell? ⟨X,2,none⟩=some (.slice av nv cv)∧w'.cell? ⟨X,3,none⟩=some (.slice ak ns cs)∧X<w'.heap.size) ((((w'.setCell ⟨X+1,0,none⟩ u0).setCell ⟨X+1,1,none⟩ u1).setCell ⟨X+1,2,none⟩ u2).setCell ⟨X+1,3,none⟩ u3)):=fun w' u0 u1 u2 u3 kk=>by
  have b:=((((BX.o.keep kk).other (b':=X+1) (o:=0) (by omega) u0).other (b':=X+1) (o:=1) (by omega) u1).other (b':=X+1) (o:=2) (by omega) u2).other (b':=X+1) (o:=3) (by omega) u3;exact ⟨b.c0,b.c1,b.c2,b.c3,b.lt⟩
 clear hT kW bx br hS;go_enter Tryz.func57,Tryz.ntmps57
 go_upto_region 1 with fail
 rw [← hX,← a5];clear hX a5;refine eJ D d fun E=>?_
 generalize W0.drew=wd at d E ⊢;refine aP 0 2 E ?_;refine aP 3 2 E ?_;refine aP 6 2 E ?_;refine aP 10 2 E ?_;refine lg 2 9 (fun K hK=>?_) fun K hK=>?_
 · go_simp;have t:Bl wd (wd.alloc (.cells #[] 50)):=bZ;have m:=bV wd W0.heap.size d.size;have d:=d.trans (t.mono d.size);clear t;generalize wd.heap.size=ga at m ⊢;generalize wd.alloc (.cells #[] 50)=w1 at d m ⊢;refine hK.o _ _ (D.o _ d) fun E=>?_
   (try go_frame);refine lg 5 9 (fun K hK=>?_) fun K hK=>?_
   · refine dy rfl (.tmp 5) (.tmp 7) 28 rfl W0.heap.size 50 i0 _ 5 56 Tryz.underlying28 hi az ax aM rfl (Ga 4) _ _ _ rfl m.owns am nm cm (aC M) rfl (by rw [aV,a6.o]) HM.o.nil (lL (HM.o.keep d)) (aO _) ?_ ?_ ?_ ?_
     · unfold maxLen;omega
     · omega
     · exact d.size
     intro v1 w2 Q W U;obtain ⟨g1,c1,rfl⟩:=aH Q U;have F:w1.grownBy w2 (some ga):=W;have d:Bl W0 w2:=d.grown F d.size (fun k e=>by cases e;exact m.lt.1);have m:ag w2 W0.heap.size g1 nm c1 M:=⟨by have h1:=Q;rw [FG] at h1;simpa [aC] using h1,a6.o,HM.o.ents⟩;rw [FG];clear Q W U F;refine hK.o _ _ (D.o _ d) fun E=>?_
     (try go_frame);refine lg 8 9 (fun K hK=>?_) fun K hK=>?_
     · go_simp;refine (CL.o _ d).mono ?_;rintro e w3 ⟨G,c,rfl,I,t⟩;have a3:=m.lt.2;have m:=m.below t;have N:=d.size;have d:=d.trans (t.mono d.size);clear t;go_wp2_with fail
       refine hK.o _ _ (D.o _ d) fun E=>?_
       (try go_frame);refine aQ 9 fun K hK=>?_
       go_simp;have t:Bl w3 (w3.alloc (.cells #[] 3)):=bZ;have m:=m.below t;have I:=I.below t;have s:(w3.alloc (.cells #[] 3)).ownsRow W0.heap.size 3 1 (sL (w3.heap.size) 0 0) 0 []:=F6 (base:=W0.heap.size) (e:=3) (size:=1) w3 #[] 0 d.size (by simp) (by simp);have d:=d.trans (t.mono d.size);clear t;generalize w3.heap.size=gi at s ⊢;generalize w3.alloc (.cells #[] 3)=w4 at d m I s ⊢;refine hK.o _ _ (D.o _ d) fun E=>?_
       (try go_frame);refine aQ 12 fun K hK=>?_
       refine dy rfl (.tmp 12) (.tmp 14) 24 rfl W0.heap.size 3 j0 _ 1 8 Tryz.underlying24 hj ai an ao rfl (Ga 0) _ _ _ rfl s ak ns cs (S.map iT) rfl (by rw [Hk,Z.o,Nat.mul_one]) HS.o.nil (jl (HS.o.keep d)) (by intro u hu;obtain ⟨z,_,rfl⟩:=Gp.1 hu;rfl) ?_ ?_ ?_ ?_
       · unfold maxLen;omega
       · omega
       · exact d.size
       intro v2 w5 H J O;obtain ⟨g3,c3,rfl⟩:=aH H O;have f:w4.grownBy w5 (some gi):=J;have m:=dP m s (by decide) f;have I:=ie I s (by decide) (by decide) (by decide) f;have d:Bl W0 w5:=d.grown f d.size (fun k e=>by cases e;exact (s.lt gi rfl).1);have s:w5.ownsRow W0.heap.size 3 1 (sL g3 ns c3) ns (S.map iT):=by have h1:=H;rw [FG,Gb] at h1;exact h1
       rw [FG];clear H J O f;refine hK.o _ _ (D.o _ d) fun E=>?_
       (try go_frame);refine aP 13 1 E ?_;refine aQ 14 fun K hK=>?_
       have bq:=BR.o.keep d;have d0:=bq.all;go_simp;clear d0;refine hK.o _ _ (al.o _ _ _ _ _ d) fun E=>?_
       (try go_frame);refine dN ?_;clear E;have HC:Eq (cU W0.heap.size w5 g1 nm c1 G nv c g3 ns c3 M V S):=⟨m,I.mono N,Z.o,ap.o,s⟩;have HF:Eq (∃b,W0.heap.size≤b∧g1<b∧ep b w5 G nv c V):=⟨_,N,a3,I⟩;have HK:Eq (Bl W0 w5):=d;have a2:Eq (aE w5 (X+1) (iT 0) nZ nZ nZ):=bq;clear m I s d bq;go_wp2;refine bodyPost_ret (v:=.agg #[iT q,sL g1 nm c1,sL G nv c,sL g3 ns c3]) ?_ rfl ⟨g1,c1,G,c,g3,c3,rfl,?_,?_,?_⟩
       · have e:=(((a2.o.set0 (iT q)).set1 (sL g1 nm c1)).set2 (sL G nv c)).set3 (sL g3 ns c3);simp [results,Tryz.results57,go_sem,e.all]
       · exact (HC.o.four (by have:=R.o;omega) _ _ _ _).mono KW.o.size
       · have hx:w.heap.size≤X+1:=by have:=aq.o;omega
         exact ((((KW.o.trans (HK.o.mono KW.o.size)).setCell (p:=⟨X+1,0,none⟩) hx _).setCell (p:=⟨X+1,1,none⟩) hx _).setCell (p:=⟨X+1,2,none⟩) hx _).setCell (p:=⟨X+1,3,none⟩) hx _
       · obtain ⟨b,f1,f3,f4⟩:=HF.o;have y:X+1<b:=by have:=R.o;omega
         exact ⟨b,FK KW.o.size f1,f3,(((f4.low y (cJ _ _ _ _)).low y (cJ _ _ _ _)).low y (cJ _ _ _ _)).low y (cJ _ _ _ _)⟩
     · go_simp;have t:Bl w2 (w2.alloc (.cells #[] 3)):=bZ;have m:=m.below t;have s:(w2.alloc (.cells #[] 3)).ownsRow W0.heap.size 3 1 (sL (w2.heap.size) 0 0) 0 []:=F6 (base:=W0.heap.size) (e:=3) (size:=1) w2 #[] 0 d.size (by simp) (by simp);have d:=d.trans (t.mono d.size);clear t;generalize w2.heap.size=gi at s ⊢;generalize w2.alloc (.cells #[] 3)=w6 at d m s ⊢;refine hK.o _ _ (D.o _ d) fun E=>?_
       (try go_frame);refine aQ 8 fun K hK=>?_
       go_simp;refine (CL.o _ d).mono ?_;rintro e w7 ⟨G,c,rfl,I,t⟩;have a3:=m.lt.2;have m:=m.below t;have s:=dO s t;have N:=d.size;have d:=d.trans (t.mono d.size);clear t;go_wp2_with fail
       refine hK.o _ _ (D.o _ d) fun E=>?_
       (try go_frame);refine aQ 12 fun K hK=>?_
       refine dy rfl (.tmp 12) (.tmp 14) 24 rfl W0.heap.size 3 j0 _ 1 8 Tryz.underlying24 hj ai an ao rfl (Ga 0) _ _ _ rfl s ak ns cs (S.map iT) rfl (by rw [Hk,Z.o,Nat.mul_one]) HS.o.nil (jl (HS.o.keep d)) (by intro u hu;obtain ⟨z,_,rfl⟩:=Gp.1 hu;rfl) ?_ ?_ ?_ ?_
       · unfold maxLen;omega
       · omega
       · exact d.size
       intro v2 w8 H J O;obtain ⟨g3,c3,rfl⟩:=aH H O;have f:w7.grownBy w8 (some gi):=J;have m:=dP m s (by decide) f;have I:=ie I s (by decide) (by decide) (by decide) f;have d:Bl W0 w8:=d.grown f d.size (fun k e=>by cases e;exact (s.lt gi rfl).1);have s:w8.ownsRow W0.heap.size 3 1 (sL g3 ns c3) ns (S.map iT):=by have h1:=H;rw [FG,Gb] at h1;exact h1
       rw [FG];clear H J O f;refine hK.o _ _ (D.o _ d) fun E=>?_
       (try go_frame);refine aP 13 1 E ?_;refine aQ 14 fun K hK=>?_
       have bq:=BR.o.keep d;have d0:=bq.all;go_simp;clear d0;refine hK.o _ _ (al.o _ _ _ _ _ d) fun E=>?_
       (try go_frame);refine dN ?_;clear E;have HC:Eq (cU W0.heap.size w8 g1 nm c1 G nv c g3 ns c3 M V S):=⟨m,I.mono N,Z.o,ap.o,s⟩;have HF:Eq (∃b,W0.heap.size≤b∧g1<b∧ep b w8 G nv c V):=⟨_,N,a3,I⟩;have HK:Eq (Bl W0 w8):=d;have a2:Eq (aE w8 (X+1) (iT 0) nZ nZ nZ):=bq;clear m I s d bq;go_wp2;refine bodyPost_ret (v:=.agg #[iT q,sL g1 nm c1,sL G nv c,sL g3 ns c3]) ?_ rfl ⟨g1,c1,G,c,g3,c3,rfl,?_,?_,?_⟩
       · have e:=(((a2.o.set0 (iT q)).set1 (sL g1 nm c1)).set2 (sL G nv c)).set3 (sL g3 ns c3);simp [results,Tryz.results57,go_sem,e.all]
       · exact (HC.o.four (by have:=R.o;omega) _ _ _ _).mono KW.o.size
       · have hx:w.heap.size≤X+1:=by have:=aq.o;omega
         exact ((((KW.o.trans (HK.o.mono KW.o.size)).setCell (p:=⟨X+1,0,none⟩) hx _).setCell (p:=⟨X+1,1,none⟩) hx _).setCell (p:=⟨X+1,2,none⟩) hx _).setCell (p:=⟨X+1,3,none⟩) hx _
       · obtain ⟨b,f1,f3,f4⟩:=HF.o;have y:X+1<b:=by have:=R.o;omega
         exact ⟨b,FK KW.o.size f1,f3,(((f4.low y (cJ _ _ _ _)).low y (cJ _ _ _ _)).low y (cJ _ _ _ _)).low y (cJ _ _ _ _)⟩
   · go_simp;have t:Bl w1 (w1.alloc (.cells #[] 3)):=bZ;have m:=m.below t;have s:(w1.alloc (.cells #[] 3)).ownsRow W0.heap.size 3 1 (sL (w1.heap.size) 0 0) 0 []:=F6 (base:=W0.heap.size) (e:=3) (size:=1) w1 #[] 0 d.size (by simp) (by simp);have d:=d.trans (t.mono d.size);clear t;generalize w1.heap.size=gi at s ⊢;generalize w1.alloc (.cells #[] 3)=w9 at d m s ⊢;refine hK.o _ _ (D.o _ d) fun E=>?_
     (try go_frame);refine aQ 5 fun K hK=>?_
     refine dy rfl (.tmp 5) (.tmp 7) 28 rfl W0.heap.size 50 i0 _ 5 56 Tryz.underlying28 hi az ax aM rfl (Ga 4) _ _ _ rfl m.owns am nm cm (aC M) rfl (by rw [aV,a6.o]) HM.o.nil (lL (HM.o.keep d)) (aO _) ?_ ?_ ?_ ?_
     · unfold maxLen;omega
     · omega
     · exact d.size
     intro v1 w10 Q W U;obtain ⟨g1,c1,rfl⟩:=aH Q U;have F:w9.grownBy w10 (some ga):=W;have s:=cH s m.owns (by decide) F;have d:Bl W0 w10:=d.grown F d.size (fun k e=>by cases e;exact m.lt.1);have m:ag w10 W0.heap.size g1 nm c1 M:=⟨by have h1:=Q;rw [FG] at h1;simpa [aC] using h1,a6.o,HM.o.ents⟩;rw [FG];clear Q W U F;refine hK.o _ _ (D.o _ d) fun E=>?_
     (try go_frame);refine aQ 8 fun K hK=>?_
     go_simp;refine (CL.o _ d).mono ?_;rintro e b3 ⟨G,c,rfl,I,t⟩;have a3:=m.lt.2;have m:=m.below t;have s:=dO s t;have N:=d.size;have d:=d.trans (t.mono d.size);clear t;go_wp2_with fail
     refine hK.o _ _ (D.o _ d) fun E=>?_
     (try go_frame);refine aQ 12 fun K hK=>?_
     refine dy rfl (.tmp 12) (.tmp 14) 24 rfl W0.heap.size 3 j0 _ 1 8 Tryz.underlying24 hj ai an ao rfl (Ga 0) _ _ _ rfl s ak ns cs (S.map iT) rfl (by rw [Hk,Z.o,Nat.mul_one]) HS.o.nil (jl (HS.o.keep d)) (by intro u hu;obtain ⟨z,_,rfl⟩:=Gp.1 hu;rfl) ?_ ?_ ?_ ?_
     · unfold maxLen;omega
     · omega
     · exact d.size
     intro v2 w12 H J O;obtain ⟨g3,c3,rfl⟩:=aH H O;have f:b3.grownBy w12 (some gi):=J;have m:=dP m s (by decide) f;have I:=ie I s (by decide) (by decide) (by decide) f;have d:Bl W0 w12:=d.grown f d.size (fun k e=>by cases e;exact (s.lt gi rfl).1);have s:w12.ownsRow W0.heap.size 3 1 (sL g3 ns c3) ns (S.map iT):=by have h1:=H;rw [FG,Gb] at h1;exact h1
     rw [FG];clear H J O f;refine hK.o _ _ (D.o _ d) fun E=>?_
     (try go_frame);refine aP 13 1 E ?_;refine aQ 14 fun K hK=>?_
     have bq:=BR.o.keep d;have d0:=bq.all;go_simp;clear d0;refine hK.o _ _ (al.o _ _ _ _ _ d) fun E=>?_
     (try go_frame);refine dN ?_;clear E;have HC:Eq (cU W0.heap.size w12 g1 nm c1 G nv c g3 ns c3 M V S):=⟨m,I.mono N,Z.o,ap.o,s⟩;have HF:Eq (∃b,W0.heap.size≤b∧g1<b∧ep b w12 G nv c V):=⟨_,N,a3,I⟩;have HK:Eq (Bl W0 w12):=d;have a2:Eq (aE w12 (X+1) (iT 0) nZ nZ nZ):=bq;clear m I s d bq;go_wp2;refine bodyPost_ret (v:=.agg #[iT q,sL g1 nm c1,sL G nv c,sL g3 ns c3]) ?_ rfl ⟨g1,c1,G,c,g3,c3,rfl,?_,?_,?_⟩
     · have e:=(((a2.o.set0 (iT q)).set1 (sL g1 nm c1)).set2 (sL G nv c)).set3 (sL g3 ns c3);simp [results,Tryz.results57,go_sem,e.all]
     · exact (HC.o.four (by have:=R.o;omega) _ _ _ _).mono KW.o.size
     · have hx:w.heap.size≤X+1:=by have:=aq.o;omega
       exact ((((KW.o.trans (HK.o.mono KW.o.size)).setCell (p:=⟨X+1,0,none⟩) hx _).setCell (p:=⟨X+1,1,none⟩) hx _).setCell (p:=⟨X+1,2,none⟩) hx _).setCell (p:=⟨X+1,3,none⟩) hx _
     · obtain ⟨b,f1,f3,f4⟩:=HF.o;have y:X+1<b:=by have:=R.o;omega
       exact ⟨b,FK KW.o.size f1,f3,(((f4.low y (cJ _ _ _ _)).low y (cJ _ _ _ _)).low y (cJ _ _ _ _)).low y (cJ _ _ _ _)⟩
 · go_simp;have t:Bl wd (wd.alloc (.cells #[] 3)):=bZ;have s:(wd.alloc (.cells #[] 3)).ownsRow W0.heap.size 3 1 (sL (wd.heap.size) 0 0) 0 []:=F6 (base:=W0.heap.size) (e:=3) (size:=1) wd #[] 0 d.size (by simp) (by simp);have d:=d.trans (t.mono d.size);clear t;generalize wd.heap.size=gi at s ⊢;generalize wd.alloc (.cells #[] 3)=aa at d s ⊢;refine hK.o _ _ (D.o _ d) fun E=>?_
   (try go_frame);refine aQ 2 fun K hK=>?_
   go_simp;have t:Bl aa (aa.alloc (.cells #[] 50)):=bZ;have s:=dO s t;have m:=bV aa W0.heap.size d.size;have d:=d.trans (t.mono d.size);clear t;generalize aa.heap.size=ga at m ⊢;generalize aa.alloc (.cells #[] 50)=b0 at d m s ⊢;refine hK.o _ _ (D.o _ d) fun E=>?_
   (try go_frame);refine aQ 5 fun K hK=>?_
   refine dy rfl (.tmp 5) (.tmp 7) 28 rfl W0.heap.size 50 i0 _ 5 56 Tryz.underlying28 hi az ax aM rfl (Ga 4) _ _ _ rfl m.owns am nm cm (aC M) rfl (by rw [aV,a6.o]) HM.o.nil (lL (HM.o.keep d)) (aO _) ?_ ?_ ?_ ?_
   · unfold maxLen;omega
   · omega
   · exact d.size
   intro v1 w15 Q W U;obtain ⟨g1,c1,rfl⟩:=aH Q U;have F:b0.grownBy w15 (some ga):=W;have s:=cH s m.owns (by decide) F;have d:Bl W0 w15:=d.grown F d.size (fun k e=>by cases e;exact m.lt.1);have m:ag w15 W0.heap.size g1 nm c1 M:=⟨by have h1:=Q;rw [FG] at h1;simpa [aC] using h1,a6.o,HM.o.ents⟩;rw [FG];clear Q W U F;refine hK.o _ _ (D.o _ d) fun E=>?_
   (try go_frame);refine aQ 8 fun K hK=>?_
   go_simp;refine (CL.o _ d).mono ?_;rintro e b2 ⟨G,c,rfl,I,t⟩;have a3:=m.lt.2;have m:=m.below t;have s:=dO s t;have N:=d.size;have d:=d.trans (t.mono d.size);clear t;go_wp2_with fail
   refine hK.o _ _ (D.o _ d) fun E=>?_
   (try go_frame);refine aQ 12 fun K hK=>?_
   refine dy rfl (.tmp 12) (.tmp 14) 24 rfl W0.heap.size 3 j0 _ 1 8 Tryz.underlying24 hj ai an ao rfl (Ga 0) _ _ _ rfl s ak ns cs (S.map iT) rfl (by rw [Hk,Z.o,Nat.mul_one]) HS.o.nil (jl (HS.o.keep d)) (by intro u hu;obtain ⟨z,_,rfl⟩:=Gp.1 hu;rfl) ?_ ?_ ?_ ?_
   · unfold maxLen;omega
   · omega
   · exact d.size
   intro v2 w17 H J O;obtain ⟨g3,c3,rfl⟩:=aH H O;have f:b2.grownBy w17 (some gi):=J;have m:=dP m s (by decide) f;have I:=ie I s (by decide) (by decide) (by decide) f;have d:Bl W0 w17:=d.grown f d.size (fun k e=>by cases e;exact (s.lt gi rfl).1);have s:w17.ownsRow W0.heap.size 3 1 (sL g3 ns c3) ns (S.map iT):=by have h1:=H;rw [FG,Gb] at h1;exact h1
   rw [FG];clear H J O f;refine hK.o _ _ (D.o _ d) fun E=>?_
   (try go_frame);refine aP 13 1 E ?_;refine aQ 14 fun K hK=>?_
   have bq:=BR.o.keep d;have d0:=bq.all;go_simp;clear d0;refine hK.o _ _ (al.o _ _ _ _ _ d) fun E=>?_
   (try go_frame);refine dN ?_;clear E;have HC:Eq (cU W0.heap.size w17 g1 nm c1 G nv c g3 ns c3 M V S):=⟨m,I.mono N,Z.o,ap.o,s⟩;have HF:Eq (∃b,W0.heap.size≤b∧g1<b∧ep b w17 G nv c V):=⟨_,N,a3,I⟩;have HK:Eq (Bl W0 w17):=d;have a2:Eq (aE w17 (X+1) (iT 0) nZ nZ nZ):=bq;clear m I s d bq;go_wp2;refine bodyPost_ret (v:=.agg #[iT q,sL g1 nm c1,sL G nv c,sL g3 ns c3]) ?_ rfl ⟨g1,c1,G,c,g3,c3,rfl,?_,?_,?_⟩
   · have e:=(((a2.o.set0 (iT q)).set1 (sL g1 nm c1)).set2 (sL G nv c)).set3 (sL g3 ns c3);simp [results,Tryz.results57,go_sem,e.all]
   · exact (HC.o.four (by have:=R.o;omega) _ _ _ _).mono KW.o.size
   · have hx:w.heap.size≤X+1:=by have:=aq.o;omega
     exact ((((KW.o.trans (HK.o.mono KW.o.size)).setCell (p:=⟨X+1,0,none⟩) hx _).setCell (p:=⟨X+1,1,none⟩) hx _).setCell (p:=⟨X+1,2,none⟩) hx _).setCell (p:=⟨X+1,3,none⟩) hx _
   · obtain ⟨b,f1,f3,f4⟩:=HF.o;have y:X+1<b:=by have:=R.o;omega
     exact ⟨b,FK KW.o.size f1,f3,(((f4.low y (cJ _ _ _ _)).low y (cJ _ _ _ _)).low y (cJ _ _ _ _)).low y (cJ _ _ _ _)⟩
theorem iK (D:Nat) (q:Int) (f u s:Option Addr) (nm y nv o ns cs:Nat) (M:List ae) (V:List (List aj)) (S:List Int) (w:World) (E:cj D w f nm y u nv o s ns cs M V S) (d:nm≤1048576) (t:ns≤1048576) (m:nv≤100) (hS:∀B ∈ V,B.length≤100∧∀r ∈ B,1≤r.1.length∧r.1.length≤10000) :
 Calls Tryz.prog 57 #[.agg #[iT q,.slice f nm y,.slice u nv o,.slice s ns cs]] w fun e w'=>∃g1 c1 G c g3 c3,e=.returned (.agg #[iT q,sL g1 nm c1,sL G nv c,sL g3 ns c3])∧cU w.heap.size w' g1 nm c1 G nv c g3 ns c3 M V S∧Bl w w' :=
 (rH D q f u s nm y nv o ns cs M V S w E d t m hS).mono (fun e w' h=>by obtain ⟨g1,c1,G,c,g3,c3,h1,h2,h3,_⟩:=h;exact ⟨g1,c1,G,c,g3,c3,h1,h2,h3⟩)

end Go.Proofs.YtpobkmjicbobdaaGreat
