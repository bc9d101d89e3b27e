/- Walks. -/
import Derived.Test.YtpobkmjicbobdaaGreatBD09
import Derived.Laws.AppendOwnNone
import Derived.Lib.SlBytesRow
import Derived.Test.YtpobkmjicbobdaaGreatBD08
import Derived.Shelf.LaysM
import Derived.Shelf.Strconv.Clone
import Derived.Laws.CopyOwn
import Derived.Laws.IdiomCopy
namespace Go.Proofs.YtpobkmjicbobdaaGreat
set_option maxRecDepth 100000
set_option maxHeartbeats 40000000
open Go.RowKit Go.Shelf
variable {G K T T' X Z b b1 b2 b3 base base' c c' c1 c3 g g' g1 g3 hi hi' j k lo lo' m m' n' nm ns nv o size size':Nat} {L M:List ac} {S:List Int} {V:List (List af)} {bs gs:Nat→Nat} {d q:Int} {s t:ByteArray} {v:Value} {w w' w'' w0 w1:World} {xs xs':List Value}
theorem cw {n:Nat} (h:w.ownsRow base T size (sL g m c) n xs) (hb:Bl w w'):w'.ownsRow base T size (sL g m c) n xs:=h.kept (row:=none) ⟨hb.os,hb.tape,hb.output,hb.size,fun k hk _=>hb.block k hk⟩ (.inr (by simp [Value.ownBlock]))
theorem cQ {n:Nat} (h:w.ownsRow base T size (sL g m c) n xs) (h':w.ownsRow base' T' size' (sL g' m' c') n' xs') (f:T≠T') (hg:w.grownBy w' (some g')):w'.ownsRow base T size (sL g m c) n xs:=by
 refine h.kept hg (.inr fun e=>?_);have r:g=g':=by simpa [Value.ownBlock] using e
 subst r;obtain ⟨_,k1⟩:=aP h;obtain ⟨_,k2⟩:=aP h';exact f (k1.kind k2)
theorem dP {n:Nat} (h:ah w base g n c L) (h':w.ownsRow base' T' size' (sL g' m' c') n' xs') (e:50≠T') (hg:w.grownBy w' (some g')):ah w' base g n c L:=⟨cQ h.owns h' e hg,h.len,h.ents⟩
theorem ij {n:Nat} (h:d5 base w g n c V) (h':w.ownsRow base' T' size' (sL g' m' c') n' xs') (t0:T'≠61) (f:T'≠63) (e:T'≠50) (hg:w.grownBy w' (some g')):d5 base w' g n c V:=by
 obtain ⟨_,k⟩:=aP h';exact h.grown k t0 f e hg
theorem sW {n:Nat} (h:aR lo w (some ⟨b,o,none⟩) n c S):∀j u,(S.map iT)[j]?=some u→w.cell? ((⟨b,o,none⟩:Addr).add j)=some u:=by
 intro j u e;rw [Gv];rw [Id] at e;cases hx:S[j]? with
 | none=>rw [hx] at e;cases e
 | some z =>
  rw [hx] at e;cases e;have r:j<n:=by rw [← h.length];exact (F'.1 hx).1
  obtain ⟨y,f,_,x⟩:=h.num (Below.refl _ w) j r;rw [hx] at f;cases f;exact x
structure cK (base:Nat) (w:World) (g1 nm c1 G nv c g3 ns c3:Nat) (M:List ac) (V:List (List af)) (S:List Int):Prop where
 mem:ah w base g1 nm c1 M
 levs:d5 base w G nv c V
 slen:S.length=ns
 swf:∀z ∈ S,(Lit.int .i64 z).wf=true
 sn:w.ownsRow base 3 1 (sL g3 ns c3) ns (S.map iT)
theorem cK.below (h:cK base w g1 nm c1 G nv c g3 ns c3 M V S) (hb:Bl w w'):cK base w' g1 nm c1 G nv c g3 ns c3 M V S:=⟨h.mem.below hb,h.levs.below hb,h.slen,h.swf,cw h.sn hb⟩
theorem cK.mono (h:cK base w g1 nm c1 G nv c g3 ns c3 M V S) (hb:base'≤base):cK base' w g1 nm c1 G nv c g3 ns c3 M V S:=⟨h.mem.mono hb,h.levs.mono hb,h.slen,h.swf,ew h.sn hb⟩
theorem bj.low {n:Nat} {B:List af} (h:bj base w g n c B) (r:X<base) (hg:w.grownBy w' (some X)):bj base w' g n c B:=by
 obtain ⟨h1,h2,xs,h3,h4⟩:=h;refine ⟨h1,h2,xs,h3.kept hg (.inr fun e=>?_),fun i p hp=>?_⟩
 · have f:g=X:=by simpa [Value.ownBlock] using e
   have:=(h3.lt g rfl).1;omega
 · obtain ⟨e,d,a1,a2,a3⟩:=h4 i p hp;exact ⟨e,d,a1,a2,a3.grown hg (fun f=>by have h5:=Gi f;have:=a3.lt.1;omega)⟩
theorem cK.low (h:cK base w g1 nm c1 G nv c g3 ns c3 M V S) (f:X<base) (hg:w.grownBy w' (some X)):cK base w' g1 nm c1 G nv c g3 ns c3 M V S:=by
 have hk:∀{T size n m g c:Nat} {xs:List Value},w.ownsRow base T size (sL g m c) n xs→w'.ownsRow base T size (sL g m c) n xs:=fun {T size n m g c xs} h3=>h3.kept hg (.inr fun e=>by
  have r:g=X:=by simpa [Value.ownBlock] using e
  have:=(h3.lt g rfl).1;omega)
 obtain ⟨h1,xs,h3,h4,h5⟩:=h.levs;exact ⟨⟨hk h.mem.owns,h.mem.len,h.mem.ents⟩,⟨h1,xs,hk h3,(fun i p hp=>by obtain ⟨e,d,a1,a3⟩:=h4 i p hp;exact ⟨e,d,a1,a3.low f hg⟩),h5⟩,h.slen,h.swf,hk h.sn⟩
theorem dg (w:World) (g o:Nat) (u:Value):w.grownBy (w.setCell ⟨g,o,none⟩ u) (some g):=⟨rfl,rfl,rfl,by simp [World.setCell],fun k _ hk=>Below.heap_setCell _ _ _ _ (fun e=>hk (by rw [e]))⟩
theorem cK.four (h:cK base w g1 nm c1 G nv c g3 ns c3 M V S) (e:X<base) (u0 u1 u2 u3:Value):cK base ((((w.setCell ⟨X,0,none⟩ u0).setCell ⟨X,1,none⟩ u1).setCell ⟨X,2,none⟩ u2).setCell ⟨X,3,none⟩ u3) g1 nm c1 G nv c g3 ns c3 M V S :=
 (((h.low e (dg _ _ _ _)).low e (dg _ _ _ _)).low e (dg _ _ _ _)).low e (dg _ _ _ _)
theorem cK.treeIn (h:cK base w g1 nm c1 G nv c g3 ns c3 M V S):bn base w (pT g1) nm c1 (pT G) nv c (pT g3) ns c3 M V S:=by
 have f:=cy h.sn;have hl:=h.slen;refine ⟨⟨h.mem.entsAt,fun x e _=>by cases e;exact h.mem.lt.1⟩,h.levs.levelsIn,⟨h.slen,f.1,f.2,h.swf,(fun e=>by cases e),?_,?_⟩⟩
 · rintro x e _;cases e;exact ⟨(h.sn.lt g3 rfl).2,rfl,(h.sn.lt g3 rfl).1⟩
 · rintro x e i hi;cases e;simp only [Gp];have h1:=h.sn.cellAt i (by omega);rw [Id,j' hi] at h1;exact h1
def ja (w:World) (p:Nat) (P:List (List Int)):Prop:=p<w.heap.size∧∀(i:Nat) (S:List Int),P[i]?=some S→∃b o c,w.cell? ⟨p,i,none⟩=some (sO b o S.length c)∧aR 0 w (some ⟨b,o,none⟩) S.length c S
theorem ja.keep {p:Nat} {P:List (List Int)} (h:ja w p P) (hb:Bl w w'):ja w' p P :=
 ⟨E' h.1 hb.size,fun i S hS=>by obtain ⟨b,o,c,h1,h2⟩:=h.2 i S hS;exact ⟨b,o,c,cell_later hb h1,h2.keep hb⟩⟩
theorem sd {P:List (List Int)} (h:P[k]?=some S):(P.take (k+1)).flatten=(P.take k).flatten++S:=by
 rw [GH,h];simp
theorem gX (P:List (List Int)) (k:Nat):(P.take k).flatten.length≤P.flatten.length:=by
 have h:P.flatten=(P.take k).flatten++(P.drop k).flatten:=by rw [← Ia,GK]
 rw [h,Gj];omega
theorem qW (p m:Nat) (P:List (List Int)) (w:World) (hP:ja w p P) (hm:P.length=m) (au:m≤100) (hs:P.flatten.length≤1048576) :
 Calls Tryz.prog 162 #[sL p m m] w fun e w'=>∃v,e=.returned v∧w'.ownsRow w.heap.size 3 1 v P.flatten.length (P.flatten.map iT)∧Bl w w':=by
 have HP:=az hP;have Y:=az hm;have n:=az hs;obtain ⟨N,hN⟩:=aF P.flatten.length;have HN:Eq (N=P.flatten.length):=hN;have aa:N≤1048576:=by omega
 rw [← hN];obtain ⟨F,hF⟩:=aF (P.flatten.map iT);have HF:Eq (F=P.flatten.map iT):=hF;rw [← hF];clear hF;have am:=hP.1;clear hP hm hs hN;have CG:Eq (∀w',Calls Tryz.prog 208 #[nZ,iT N] w' fun e w''=>∃v,e=.returned v∧w''.ownsRow w'.heap.size 3 1 v 0 []∧Bl w' w''):=fun w'=>by
  by_cases h0:N=0
  · rw [h0];refine (Dk w').mono ?_;rintro e w'' ⟨rfl,rfl⟩;exact ⟨_,rfl,World.ownsRow_nil _ _ _ _,Below.refl _ _⟩
  · refine (Dl N w' (by omega) aa).mono ?_;rintro e w'' ⟨c,rfl,h1,h2⟩;exact ⟨_,rfl,h1,h2⟩
 obtain ⟨i0,hi,a9,ac,a5⟩:=info_parts Tryz.infoInt;go_enter Tryz.func162,Tryz.ntmps162
 go_wp2;go_loopw [3,11] (fun sv A wr=>∃(k T:Nat),k≤m∧A=iT k∧sv=iT (T:Int)∧T=(P.take k).flatten.length∧w=wr) (fun _ A _=>m - (intOf A).toNat)
 case atStart=>exact ⟨0,0,Gl _,rfl,rfl,by simp,rfl⟩
 case round =>
  obtain ⟨k,T,hk,rfl,rfl,hT,rfl⟩:=hrel;have HT:Eq (T=(P.take k).flatten.length):=hT;have al:T≤1048576:=by have h1:=gX P k;have h2:=n.o;omega
  clear hT;by_cases a8:k<m
  · have J:(k:Int)<(m:Int):=by omega
    obtain ⟨S,hS⟩:∃S,P[k]?=some S:=⟨_,j' (by rw [Y.o];exact a8)⟩;obtain ⟨b,o,c,g0,hI⟩:=HP.o.2 k S hS;have C:Eq (T+S.length=(P.take (k+1)).flatten.length):=by show _=_;rw [sd hS,Gj,HT.o]
    have B:T+S.length≤1048576:=by have h1:=gX P (k+1);have h2:=n.o;have h3:=C.o;omega
    obtain ⟨D,f⟩:=aF S.length;rw [← f] at g0 B C;clear hI hS f;have aj:¬((T:Int)+(D:Int))<0:=by omega
    go_wp2;go_roundw
    case rel=>exact ⟨k+1,T+D,by omega,by go_num,by go_num,C.o,by first | rfl | trivial⟩
    case measure=>simp [intOf];omega
  · have J:¬(k:Int)<(m:Int):=by omega
    have Q:Eq (T=N):=by
     have:=HT.o;rw [Gr (by rw [Y.o];omega),← HN.o] at this;exact this
    obtain rfl:=Q.o;clear Q;go_wp2_with fail
    refine (CG.o _).mono ?_;rintro e w1 ⟨v,rfl,hv,R⟩;have x:Eq (w1.ownsRow w.heap.size 3 1 v 0 []):=hv;have E:Eq (Bl w w1):=R;clear hv R;go_wp2;go_loopw [6,27] (fun vv A wr=>∃(k:Nat),k≤m∧A=iT k∧wr.ownsRow w.heap.size 3 1 vv (P.take k).flatten.length ((P.take k).flatten.map iT)∧Bl w wr) (fun _ A _=>m - (intOf A).toNat)
    case atStart=>exact ⟨0,Gl _,rfl,by simpa using x.o,E.o⟩
    case round =>
     clear x E;obtain ⟨j,hj,rfl,hv,hb⟩:=hrel;have x:Eq (wr.ownsRow w.heap.size 3 1 _ (P.take j).flatten.length ((P.take j).flatten.map iT)):=hv;have HB:Eq (Bl w wr):=hb;have a4:=hb.size;obtain ⟨U,hU⟩:=aF ((P.take j).flatten.length);have HU:Eq (U=(P.take j).flatten.length):=hU;have av:U≤1048576:=by have h1:=gX P j;have h2:=n.o;omega
     rw [← hU] at x;clear hv hU;by_cases O:j<m
     · have H:(j:Int)<(m:Int):=by omega
       obtain ⟨S,hS⟩:∃S,P[j]?=some S:=⟨_,j' (by rw [Y.o];exact O)⟩;obtain ⟨b,o,c,g0,hI⟩:=(HP.o.keep hb).2 j S hS;have I:Eq ((P.take (j+1)).flatten=(P.take j).flatten++S):=sd hS;have B:U+S.length≤1048576:=by have h1:=gX P (j+1);have h2:=n.o;have h3:=HU.o;rw [I.o,Gj] at h1;omega
       have a3:=Gf _ _ g0;simp only at a3;obtain ⟨D,f⟩:=aF S.length;have W:Eq (D=S.length):=f;have HI:Eq (aR 0 wr (some ⟨b,o,none⟩) D c S):=by rw [f];exact hI
       rw [← f] at g0 B;clear hI hS f hb;go_wp2_with (at_builtin;refine wpList_append_own _ rfl _ _ 24 rfl w.heap.size 3 i0 _ 1 8 Tryz.underlying24 hi a9 ac a5 rfl (by decide) _ _ _ rfl x.o ⟨b,o,none⟩ D c (S.map iT) rfl (by rw [Hd,W.o,IV]) (sW HI.o) (by intro u hu;obtain ⟨z,_,rfl⟩:=G9.1 hu;rfl) (by unfold maxLen;omega) (by omega) a4 ?_;intro v2 w2 y r a7)
       go_roundw
       case rel =>
        refine ⟨j+1,by omega,by go_num,?_,?_⟩
        · rw [I.o,Gj,Ht,← HU.o,← W.o];exact y
        · exact HB.o.grown r HB.o.size (fun k e=>(x.o.lt k e).1)
       case measure=>simp [intOf];omega
     · have H:¬(j:Int)<(m:Int):=by omega
       have h1:=x.o;have h2:=HU.o;rw [Gr (by rw [Y.o];omega)] at h1 h2;rw [h2,← HN.o] at h1;have a2:Eq (World.ownsRow _ _ _ _ _ _ _):=h1;clear h1 h2;clear x hb;go_wp2;go_ret;exact ⟨u6,by first | rfl | simp,by rw [HF.o];exact a2.o,HB.o⟩
def pd (w:World) (v:Value) (n:Nat) (xs:List Value):Prop :=
 xs.length=n*2∧(∀u ∈ xs,u.oneCell'=true)∧((v=nZ∧n=0)∨∃b o c,v=sO b o n c∧∀j u,xs[j]?=some u→w.cell? ⟨b,o+j,none⟩=some u)
theorem pd.keep {n:Nat} (h:pd w v n xs) (hb:Bl w w'):pd w' v n xs:=by
 obtain ⟨h1,h2,h3⟩:=h;refine ⟨h1,h2,?_⟩;rcases h3 with h | ⟨b,o,c,hv,hc⟩
 · exact .inl h
 · exact .inr ⟨b,o,c,hv,fun j u e=>cell_later hb (hc j u e)⟩
def mi (w:World) (xs:List Value) (B:List af):Prop :=
 xs.length=B.length*2∧∀i (p:af),B[i]?=some p→(Lit.int .i64 p.2).wf=true∧∃s n c,xs[i*2]?=some (.slice s n c)∧xs[i*2+1]?=some (iT p.2)∧fj 0 w s n c p.1
theorem mi.keep {B:List af} (h:mi w xs B) (hb:Bl w w'):mi w' xs B :=
 ⟨h.1,fun i p hp=>by obtain ⟨h1,s,n,c,h2,h3,h4⟩:=h.2 i p hp;exact ⟨h1,s,n,c,h2,h3,h4.same (dt.of_below hb)⟩⟩
theorem mi.one {B:List af} (h:mi w xs B):∀u ∈ xs,u.oneCell'=true:=by
 intro u f;obtain ⟨j,e,rfl⟩:=GT f;have hB:j / 2<B.length:=by have:=h.1;omega
 obtain ⟨_,s,n,c,h2,h3,_⟩:=h.2 (j / 2) _ (j' hB);rcases Nat.mod_two_eq_zero_or_one j with hm | hm
 · rw [show j / 2*2=j by omega,j' e] at h2;rw [Gi h2];rfl
 · rw [show j / 2*2+1=j by omega,j' e] at h3;rw [Gi h3];rfl
theorem mi.app {e:List Value} {A B:List af} (h:mi w xs A) (k:mi w e B):mi w (xs++e) (A++B):=by
 have hl:=h.1;have kl:=k.1;refine ⟨by rw [Gj,Gj,hl,kl];omega,fun i p hp=>?_⟩;by_cases hi:i<A.length
 · rw [Gt hi] at hp;rw [Gt (by omega),Gt (by omega)];exact h.2 i p hp
 · rw [Gm (by omega)] at hp;rw [Gm (by omega),Gm (by omega),show i*2 - xs.length=(i - A.length)*2 by omega,show i*2+1 - xs.length=(i - A.length)*2+1 by omega];exact k.2 _ p hp
theorem jt {n:Nat} {B:List af} (h:w.ownsRow base 63 2 v n xs) (d:mi w xs B):∃a c,v=.slice a n c∧aw 0 w a n c B:=by
 have hn:B.length=n:=by have h1:=h.1;have h2:=d.1;omega
 rcases h.2 with ⟨hv,h0⟩ | ⟨g,r,u,hv,_⟩
 · subst hv h0;obtain rfl:=G6.1 hn;exact ⟨none,0,rfl,xv 0 w⟩
 · subst hv;have f:=cy h;refine ⟨_,r,rfl,hn,f.1,f.2,(fun e=>by cases e),?_,?_⟩
   · rintro x e _;cases e;exact ⟨(h.lt g rfl).2,rfl,Gl _⟩
   · rintro x e i hi;cases e;obtain ⟨h1,s,n',c,h2,h3,h4⟩:=d.2 i _ (j' hi);refine ⟨h1,s,n',c,?_,?_,h4⟩
     · simp only [Gp];exact (h.cellAt _ (by omega)).trans h2
     · simp only [Gp];exact (h.cellAt _ (by omega)).trans h3
theorem aw.raw {n:Nat} {B:List af} (h:aw lo w (some ⟨b,o,none⟩) n c B):∃xs,mi w xs B∧pd w (sO b o n c) n xs:=by
 have hl:=h.length;refine ⟨(List.range (n*2)).map (fun j=>(w.cell? ⟨b,o+j,none⟩).getD (iT 0)),?_⟩;have hat:∀i (hi:i<B.length),(Lit.int .i64 B[i].2).wf=true∧∃s n' c',w.cell? ⟨b,o+i*2,none⟩=some (.slice s n' c')∧w.cell? ⟨b,o+(i*2+1),none⟩=some (iT B[i].2)∧fj lo w s n' c' B[i].1:=fun i hi=>by
  have:=h.runs _ rfl i hi;simpa [Ip] using this
 have hd:mi w ((List.range (n*2)).map (fun j=>(w.cell? ⟨b,o+j,none⟩).getD (iT 0))) B:=by
  refine ⟨by simp [hl],fun i p hp=>?_⟩;have hi:=(F'.1 hp).1;have f:=(F'.1 hp).2;obtain ⟨h1,s,n',c',h2,h3,h4⟩:=hat i hi;rw [f] at h1 h3 h4;refine ⟨h1,s,n',c',?_,?_,h4.mono (Gl _)⟩
  · rw [Id,List.getElem?_range (by omega)];simp [h2]
  · rw [Id,List.getElem?_range (by omega)];simp [h3]
 refine ⟨hd,by simp,hd.one,.inr ⟨b,o,c,rfl,fun j u e=>?_⟩⟩;have r:j<n*2:=by have:=(F'.1 e).1;simpa using this
 rw [Id,List.getElem?_range r] at e;simp only [Option.map_some] at e;have hi:j / 2<B.length:=by omega
 obtain ⟨h1,s,n',c',h2,h3,h4⟩:=hat (j / 2) hi;rcases Nat.mod_two_eq_zero_or_one j with hm | hm
 · rw [show j / 2*2=j by omega] at h2;rw [h2] at e ⊢;simpa using e
 · rw [show j / 2*2+1=j by omega] at h3;rw [h3] at e ⊢;simpa using e
structure dy (lo hi:Nat) (w w':World):Prop where
 os:w'.os=w.os
 tape:w'.tape=w.tape
 output:w'.output=w.output
 size:w.heap.size≤w'.heap.size
 block:∀k,k<w.heap.size→(k<lo∨hi≤k)→w'.heap[k]?=w.heap[k]?
theorem dy.refl (lo hi:Nat) (w:World):dy lo hi w w:=⟨rfl,rfl,rfl,Gg _,fun _ _ _=>rfl⟩
theorem dy.grown (h:dy lo hi w w') (hg:w'.grownBy w'' (some g)) (h1:lo≤g) (h2:g<hi):dy lo hi w w'' :=
 ⟨hg.os.trans h.os,hg.tape.trans h.tape,hg.output.trans h.output,Gq h.size hg.size,fun k hk ho=>(hg.block k (E' hk h.size) (fun e=>by have:=Gi e;omega)).trans (h.block k hk ho)⟩
theorem dy.own {n:Nat} (h:dy lo hi w w') (hO:ah w base g n c L) (hg:g<lo∨hi≤g):ah w' base g n c L:=by
 refine ⟨⟨hO.owns.1,?_⟩,hO.len,hO.ents⟩;have r:=hO.lt.2;rcases hO.owns.2 with hn | ⟨g1,x,e,e1,u,f,rest⟩
 · exact .inl hn
 · cases e1;exact .inr ⟨g,c,e,rfl,u,(h.block g r hg).trans f,rest⟩
theorem dy.below {B:Nat} (h:dy lo hi w w') (hB:B≤lo) (hw:B≤w.heap.size):Below B w w':=⟨h.os,h.tape,h.output,h.size,fun k hk=>h.block k (by omega) (.inl (by omega))⟩
theorem dy.trans (h:dy lo hi w w') (k:dy lo hi w' w''):dy lo hi w w'' :=
 ⟨k.os.trans h.os,k.tape.trans h.tape,k.output.trans h.output,Gq h.size k.size,fun q hq ho=>(k.block q (E' hq h.size) ho).trans (h.block q hq ho)⟩
theorem dy.mono (h:dy lo hi w w') (h1:lo'≤lo) (h2:hi≤hi'):dy lo' hi' w w' :=
 ⟨h.os,h.tape,h.output,h.size,fun q hq ho=>h.block q hq (by omega)⟩
theorem dy.of_below (h:Bl w w'):dy lo hi w w':=⟨h.os,h.tape,h.output,h.size,fun q hq _=>h.block q hq⟩
theorem dy.row {n:Nat} (h:dy lo hi w w') (hO:w.ownsRow base T size (sL g m c) n xs) (hg:g<lo∨hi≤g):w'.ownsRow base T size (sL g m c) n xs:=by
 refine ⟨hO.1,?_⟩;have r:=(hO.lt g rfl).2;rcases hO.2 with hn | ⟨g1,x,e,e1,u,f,rest⟩
 · exact .inl hn
 · cases e1;exact .inr ⟨g,c,e,rfl,u,(h.block g r hg).trans f,rest⟩
section
attribute [local go_sem] Hc
structure d4 (lo hi:Nat) (w:World) (g n:Nat) (B:List af) (es:Nat→Nat):Prop where
 len:B.length=n
 row:∃xs,w.ownsRow lo 63 2 (sL g n n) n xs∧∀(i:Nat) (p:af),B[i]?=some p→xs[i*2]?=some (sL (es i) p.1.length p.1.length)∧xs[i*2+1]?=some (iT p.2)
 ents:∀(i:Nat) (p:af),B[i]?=some p→ah w lo (es i) p.1.length p.1.length p.1
 up:∀i j,i<j→j<n→es i<es j
 top:g<hi∧∀i,i<n→es i<hi
 wfs:∀p ∈ B,(Lit.int .i64 p.2).wf=true
theorem d4.keepO {n:Nat} {B:List af} {es:Nat→Nat} (h:d4 lo hi w g n B es) (k:dy lo' hi' w w') (hd:hi≤lo'∨hi'≤lo):d4 lo hi w' g n B es:=by
 obtain ⟨xs,h1,h2⟩:=h.row;have hg:=(h1.lt g rfl).1;refine ⟨h.len,⟨xs,k.row h1 (by have:=h.top.1;omega),h2⟩,fun i p hp=>?_,h.up,h.top,h.wfs⟩;have hO:=h.ents i p hp;have hi':=(F'.1 hp).1;exact k.own hO (by have h3:=hO.lt.1;have h4:=h.top.2 i (by rw [← h.len];exact hi');omega)
theorem d4.below {n:Nat} {B:List af} {es:Nat→Nat} (h:d4 lo hi w g n B es) (hb:Bl w w'):d4 lo hi w' g n B es:=by
 obtain ⟨xs,h1,h2⟩:=h.row;exact ⟨h.len,⟨xs,h1.kept (row:=none) ⟨hb.os,hb.tape,hb.output,hb.size,fun k hk _=>hb.block k hk⟩ (.inr (by simp [Value.ownBlock])),h2⟩,fun i p hp=>(h.ents i p hp).below hb,h.up,h.top,h.wfs⟩
theorem d4.ne {n:Nat} {B:List af} {f:Nat→Nat} (h:d4 lo hi w g n B f) {i:Nat} {p:af} (hp:B[i]?=some p):g≠f i:=by
 intro e;obtain ⟨xs,h1,_⟩:=h.row;have b1:=eL h1;have b2:=eL (h.ents i p hp).owns;rw [← e] at b2;exact absurd (b1.kind b2) (by decide)
theorem d4.cell {n:Nat} {B:List af} {e:Nat→Nat} (h:d4 lo hi w g n B e) {i:Nat} {p:af} (hp:B[i]?=some p):w.cell? ⟨g,i*2,none⟩=some (sL (e i) p.1.length p.1.length)∧w.cell? ⟨g,i*2+1,none⟩=some (iT p.2)∧w.frozen? ⟨g,i*2+1,none⟩=false∧g<w.heap.size:=by
 obtain ⟨xs,h1,h2⟩:=h.row;have hi':=(F'.1 hp).1;rw [h.len] at hi';exact ⟨(h1.cellAt _ (by omega)).trans (h2 i p hp).1,(h1.cellAt _ (by omega)).trans (h2 i p hp).2,h1.frozenAt _,(h1.lt g rfl).2⟩
theorem d4.put {n:Nat} {B:List af} {u:Nat→Nat} {p:af} (h:d4 lo hi w g n B u) (hp:B[j]?=some p) {L:List ac} (hL:L.length=p.1.length) (hO:ah w1 lo (u j) p.1.length p.1.length L) (hg:w.grownBy w1 (some (u j))) (v:Int) (hv:(Lit.int .i64 v).wf=true) :
 d4 lo hi (w1.setCell ⟨g,j*2+1,none⟩ (iT v)) g n (B.set j (L,v)) u:=by
 have r:=h.ne hp;have f:j<B.length:=(F'.1 hp).1;obtain ⟨xs,h1,h2⟩:=h.row;have x:=h1.1;have y:=h.len;have A:=h1.kept hg (.inr (by simpa [Value.ownBlock] using r));have r2:=(A.stored (j*2+1) (iT v)).1;refine ⟨by rw [IH];exact h.len,⟨_,r2,fun i q hq=>?_⟩,fun i q hq=>?_,h.up,h.top,fun q hq=>?_⟩
 · by_cases e:j=i
   · subst e;rw [GV f] at hq;cases hq;rw [GE (by omega),GV (by omega)];simp only [hL];exact ⟨(h2 j p hp).1,trivial⟩
   · rw [GE e] at hq;rw [GE (by omega),GE (by omega)];exact h2 i q hq
 · by_cases e:j=i
   · subst e;rw [GV f] at hq;cases hq;simp only [hL];exact hO.setCell (p:=⟨g,j*2+1,none⟩) r _
   · rw [GE e] at hq;have hi':=(F'.1 hq).1;refine (((h.ents i q hq).grown hg (fun C=>?_))).setCell (p:=⟨g,j*2+1,none⟩) (h.ne hq) _;have e2:=Gi C;rcases Nat.lt_or_gt_of_ne e with h3 | h3
     · have:=h.up j i h3 (by omega);omega
     · have:=h.up i j h3 (by omega);omega
 · rcases Iz hq with h3 | h3
   · exact h.wfs q h3
   · subst h3;exact hv
end
section
attribute [local go_sem] Hc
structure f6 (lo hi:Nat) (w:World) (G n:Nat) (V:List (List af)) (gs bs:Nat→Nat) (es:Nat→Nat→Nat):Prop where
 len:V.length=n
 row:∃xs,w.ownsRow lo 61 1 (sL G n n) n xs∧∀(i:Nat) (B:List af),V[i]?=some B→xs[i]?=some (sL (gs i) B.length B.length)
 levs:∀(i:Nat) (B:List af),V[i]?=some B→d4 (bs i) (bs (i+1)) w (gs i) B.length B (es i)
 bot:lo≤bs 0∧G<bs 0
 up:∀i j,i≤j→j≤n→bs i≤bs j
 top:bs n≤hi
theorem f6.below {n:Nat} {es:Nat→Nat→Nat} (h:f6 lo hi w G n V gs bs es) (hb:Bl w w'):f6 lo hi w' G n V gs bs es:=by
 obtain ⟨xs,h1,h2⟩:=h.row;exact ⟨h.len,⟨xs,h1.kept (row:=none) ⟨hb.os,hb.tape,hb.output,hb.size,fun k hk _=>hb.block k hk⟩ (.inr (by simp [Value.ownBlock])),h2⟩,fun i B hB=>(h.levs i B hB).below hb,h.bot,h.up,h.top⟩
theorem f6.keepO {n:Nat} {es:Nat→Nat→Nat} (h:f6 lo hi w G n V gs bs es) (k:dy lo' hi' w w') (hG:G<lo'∨hi'≤G) (hd:bs n≤lo'∨hi'≤bs 0):f6 lo hi w' G n V gs bs es:=by
 obtain ⟨xs,h1,h2⟩:=h.row;refine ⟨h.len,⟨xs,k.row h1 hG,h2⟩,fun i B hB=>(h.levs i B hB).keepO k ?_,h.bot,h.up,h.top⟩;have hi':=(F'.1 hB).1;rw [h.len] at hi';have u1:=h.up 0 i (by omega) (by omega);have u2:=h.up (i+1) n (by omega) (by omega);omega
theorem f6.cell {n:Nat} {e:Nat→Nat→Nat} (h:f6 lo hi w G n V gs bs e) {i:Nat} {B:List af} (hB:V[i]?=some B):w.cell? ⟨G,i,none⟩=some (sL (gs i) B.length B.length)∧G<w.heap.size:=by
 obtain ⟨xs,h1,h2⟩:=h.row;have hi':=(F'.1 hB).1;rw [h.len] at hi';exact ⟨(h1.cellAt _ (by omega)).trans (h2 i B hB),(h1.lt G rfl).2⟩
theorem f6.put {n:Nat} {es:Nat→Nat→Nat} {B f:List af} (h:f6 lo hi w G n V gs bs es) (hB:V[j]?=some B) (hl:f.length=B.length) (hR:d4 (bs j) (bs (j+1)) w1 (gs j) B.length f (es j)) (hk:dy (bs j) (bs (j+1)) w w1):f6 lo hi w1 G n (V.set j f) gs bs es:=by
 have r:=(F'.1 hB).1;have u:=h.len;have u0:=h.up 0 j (by omega) (by omega);have hb:=h.bot.2;obtain ⟨xs,h1,h2⟩:=h.row;refine ⟨by rw [IH];exact h.len,⟨xs,hk.row h1 (by omega),fun i C hC=>?_⟩,fun i C hC=>?_,h.bot,h.up,h.top⟩
 · by_cases e:j=i
   · subst e;rw [GV r] at hC;cases hC;rw [hl];exact h2 j B hB
   · rw [GE e] at hC;exact h2 i C hC
 · by_cases e:j=i
   · subst e;rw [GV r] at hC;cases hC;rw [hl];exact hR
   · rw [GE e] at hC;have hi':=(F'.1 hC).1;refine (h.levs i C hC).keepO hk ?_;rcases Nat.lt_or_gt_of_ne e with h3 | h3
     · have:=h.up (j+1) i (by omega) (by omega);omega
     · have:=h.up (i+1) j (by omega) (by omega);omega
def mT (lo:Nat) (w:World) (g n:Nat) (S:List Int):Prop:=S.length=n∧w.ownsRow lo 3 1 (sL g n n) n (S.map iT)
end
structure fe (lo hi:Nat) (w:World) (b1 nm b2 nv b3 ns:Nat) (M:List ac) (V:List (List af)) (S:List Int) (gs bs:Nat→Nat) (es:Nat→Nat→Nat):Prop where
 mem:ah w lo b1 nm nm M
 levs:f6 lo hi w b2 nv V gs bs es
 sn:mT lo w b3 ns S
 ahead:b1<bs 0∧b3<bs 0
theorem mT.grown {n:Nat} {row:Option Nat} (h:mT lo w g n S) (hg:w.grownBy w' row) (e:some g≠row):mT lo w' g n S:=⟨h.1,h.2.kept hg (.inr (by simpa [Value.ownBlock] using e))⟩
theorem mT.keepO {n:Nat} (h:mT lo w g n S) (k:dy lo' hi' w w') (hg:g<lo'∨hi'≤g):mT lo w' g n S:=⟨h.1,k.row h.2 hg⟩
theorem fe.below {es:Nat→Nat→Nat} (h:fe lo hi w b1 nm b2 nv b3 ns M V S gs bs es) (hb:Bl w w'):fe lo hi w' b1 nm b2 nv b3 ns M V S gs bs es :=
 ⟨h.mem.below hb,h.levs.below hb,h.sn.grown (row:=none) ⟨hb.os,hb.tape,hb.output,hb.size,fun k hk _=>hb.block k hk⟩ (by simp),h.ahead⟩
theorem fe.keepO {es:Nat→Nat→Nat} (h:fe lo hi w b1 nm b2 nv b3 ns M V S gs bs es) (k:dy lo' hi' w w') (hd:hi'≤lo):fe lo hi w' b1 nm b2 nv b3 ns M V S gs bs es:=by
 obtain ⟨xs,h1,_⟩:=h.levs.row;have e:=(h1.lt b2 rfl).1;have g1:=h.mem.lt.1;have g3:=(h.sn.2.lt b3 rfl).1;have f:=h.levs.bot.1;exact ⟨k.own h.mem (by omega),h.levs.keepO k (by omega) (by omega),h.sn.keepO k (by omega),h.ahead⟩
theorem fe.apart {f:Nat→Nat→Nat} (h:fe lo hi w b1 nm b2 nv b3 ns M V S gs bs f):b1≠b2∧b1≠b3∧b2≠b3:=by
 obtain ⟨xs,h1,_⟩:=h.levs.row;have k1:=eL h.mem.owns;have k2:=eL h1;have k3:=eL h.sn.2;refine ⟨fun e=>?_,fun e=>?_,fun e=>?_⟩ <;> subst e
 · exact absurd (k1.kind k2) (by decide)
 · exact absurd (k1.kind k3) (by decide)
 · exact absurd (k2.kind k3) (by decide)
theorem f6.grown {n:Nat} {es:Nat→Nat→Nat} (h:f6 lo hi w G n V gs bs es) (hg:w.grownBy w' (some g)) (f:G≠g) (hl:g<bs 0):f6 lo hi w' G n V gs bs es:=by
 refine h.keepO (lo':=g) (hi':=g+1) ⟨hg.os,hg.tape,hg.output,hg.size,fun q hq ho=>hg.block q hq (fun e=>by have:=Gi e;omega)⟩ (by omega) (by omega)
def Tryz.laysM316_ren : Go.Shelf.Ren := ⟨fun | 316 => 216 | n => n, fun | 9 => 9 | 3 => 3 | 4 => 4 | 37 => 38 | 0 => 0 | 127 => 247 | 5 => 5 | n => n, fun | n => n⟩
theorem Tryz.laysM316 : Go.Proofs.LaysM.n316 Tryz.prog Tryz.laysM316_ren := {
  mixed := by kernel_rfl
  f316 := Tryz.func216.trans (congrArg some (by kernel_rfl))
  t0 := Tryz.underlying0
  a0 := Tryz.isAgg0
  z0 := Tryz.sizeOf0
  v0 := Tryz.zeroValue0
  t3 := Tryz.underlying3
  a3 := Tryz.isAgg3
  z3 := Tryz.sizeOf3
  v3 := Tryz.zeroValue3
  t4 := Tryz.underlying4
  a4 := Tryz.isAgg4
  z4 := Tryz.sizeOf4
  v4 := Tryz.zeroValue4
  t9 := Tryz.underlying9
  a9 := Tryz.isAgg9
  z9 := Tryz.sizeOf9
  v9 := Tryz.zeroValue9
  t37 := Tryz.underlying38
  a37 := Tryz.isAgg38
  z37 := Tryz.sizeOf38
  v37 := Tryz.zeroValue38
  t127 := Tryz.underlying247
  a127 := Tryz.isAgg247
  z127 := Tryz.sizeOf247
  v127 := Tryz.zeroValue247
  t5 := Tryz.underlying5
  a5 := Tryz.isAgg5
  z5 := Tryz.sizeOf5
  v5 := Tryz.zeroValue5
  i0 := by kernel_rfl
  i3 := by kernel_rfl
  i4 := by kernel_rfl
  i5 := by kernel_rfl
  i9 := by kernel_rfl
  i37 := by kernel_rfl
  i127 := by kernel_rfl }
open Go.RowKit in
/-- internal/stringslite.Clone (what strings.Clone calls): "Clone returns a fresh copy of s.": THE SAME BYTES. Of what was there nothing has turned (a new row is laid, and frozen, where s is not empty). (LAID: no walk: one application.) -/
theorem Tryz.stringslite_Clone (s : ByteArray) (w : World) (f : s.size ≤ 281474976710656) :
    Calls Tryz.prog 216 #[.string s] w fun e w' => e = .returned (.string s) ∧ Below w.heap.size w w' := Any.stringslite_Clone Tryz.laysM316 s w f
theorem pD (s:ByteArray) (w:World) (h:s.size≤281474976710656) :
 Calls Tryz.prog 171 #[.string s] w fun e w'=>e=.returned (.string s)∧Bl w w':=by
 go_enter Tryz.func171,Tryz.ntmps171
 go_wp2_with fail
 refine (Tryz.stringslite_Clone s _ h).mono ?_;rintro e w1 ⟨rfl,f⟩;go_wp2;go_ret;exact ⟨rfl,f⟩
structure ir (w0 w:World) (X:Nat) (s t:ByteArray) (q d n:Int):Prop where
 low:Below X w0 w
 c0:w.cell? ⟨X,0,none⟩=some (.string s)
 c1:w.cell? ⟨X,1,none⟩=some (iT q)
 c2:w.cell? ⟨X,2,none⟩=some (iT d)
 c3:w.cell? ⟨X,3,none⟩=some (.string t)
 c4:w.cell? ⟨X,4,none⟩=some (iT n)
 fr:∀o,w.frozen? ⟨X,o,none⟩=false
theorem ir.lt {n:Int} (h:ir w0 w X s t q d n):X<w.heap.size:=Gf _ _ h.c0
theorem ir.all {n:Int}(h:ir w0 w X s t q d n):w.cell? ⟨X,0,none⟩=some (.string s)∧w.cell? ⟨X,1,none⟩=some (iT q)∧w.cell? ⟨X,2,none⟩=some (iT d)∧w.cell? ⟨X,3,none⟩=some (.string t)∧w.cell? ⟨X,4,none⟩=some (iT n)∧(∀o,w.frozen? ⟨X,o,none⟩=false)∧X<w.heap.size:=⟨h.c0,h.c1,h.c2,h.c3,h.c4,h.fr,h.lt⟩
theorem ir.call {n:Int} (h:ir w0 w X s t q d n) (hb:Bl w w'):ir w0 w' X s t q d n :=
 ⟨h.low.trans (hb.mono (Nat.le_of_lt h.lt)),cell_later hb h.c0,cell_later hb h.c1,cell_later hb h.c2,cell_later hb h.c3,cell_later hb h.c4,fun o=>(hb.frozen (p:=⟨X,o,none⟩) h.lt).trans (h.fr o)⟩
theorem ir.drew {n:Int} (h:ir w0 w X s t q d n):ir w0 w.drew X s t q d n:=h.call (Below.refl _ w).drew
theorem ir.store0 {n:Int} (h:ir w0 w X s t q d n):ir w0 (w.setCell ⟨X,0,none⟩ (.string s)) X s t q d n :=
 ⟨h.low.setCell (p:=⟨X,0,none⟩) (Gg _) _,GD _ _ _ (by rw [h.c0];rfl),by rw [Gh _ _ _ _ (by simp)];exact h.c1,by rw [Gh _ _ _ _ (by simp)];exact h.c2,by rw [Gh _ _ _ _ (by simp)];exact h.c3,by rw [Gh _ _ _ _ (by simp)];exact h.c4,fun o=>by rw [GF];exact h.fr o⟩
theorem ir.store3 {n:Int} (h:ir w0 w X s t q d n):ir w0 (w.setCell ⟨X,3,none⟩ (.string t)) X s t q d n :=
 ⟨h.low.setCell (p:=⟨X,3,none⟩) (Gg _) _,by rw [Gh _ _ _ _ (by simp)];exact h.c0,by rw [Gh _ _ _ _ (by simp)];exact h.c1,by rw [Gh _ _ _ _ (by simp)];exact h.c2,GD _ _ _ (by rw [h.c3];rfl),by rw [Gh _ _ _ _ (by simp)];exact h.c4,fun o=>by rw [GF];exact h.fr o⟩
theorem ir.new (w:World) (T:TypeId) (s t:ByteArray) (q d n:Int):ir w (w.alloc (.cells #[.string s,iT q,iT d,.string t,iT n] T)) w.heap.size s t q d n :=
 ⟨bZ,by simp,by simp,by simp,by simp,by simp,fun o=>IJ w _ _ o⟩
theorem iq (a:Option Addr) (len I:Nat) (L:List ac) (w:World) (hL:aj w a len I L) (hbig:len≤1048576) (F:∀e ∈ L,e.1.size≤281474976710656∧e.2.2.2.1.size≤281474976710656) :
 Calls Tryz.prog 149 #[.slice a len I] w fun e w'=>e=.returned (sL (w.heap.size) len len)∧ah w' w.heap.size w.heap.size len len L∧w.heap.size<w'.heap.size∧Bl w w':=by
 have x:Eq (L.length=len):=hL.length;have B:Eq (∀l ∈ L,eG l):=hL.ents;have Q:=az F;have HL:=az hL;clear hL F;obtain ⟨i0,hi,a3,a6,R⟩:=info_parts Tryz.infoEnt;go_enter Tryz.func149,Tryz.ntmps149
 go_wp2_with (at_make;refine wpList_make_full _ rfl _ _ 28 rfl w.heap.size 50 i0 _ 5 Tryz.underlying28 hi a3 a6 .i64 .i64 _ _ len rfl rfl (by simp) (by simp) (by rw [R];omega) (by unfold maxLen;omega) (Gg _) ?_;intro w1 hown hgrow)
 have O:Bl w w1:=(Below.refl _ _).grown hgrow (Gg _) (by simp);have N:w.heap.size<w1.heap.size:=(hown.lt _ rfl).2;go_loopw [11] (fun i wr=>∃(k:Nat) (xs:List Value),k≤len∧i=iT k∧wr.ownsRow w.heap.size 50 5 (sL (w.heap.size) len len) len xs∧Bl w wr∧(∀j l,j<k→L[j]?=some l→jw xs j l)) (fun i _=>len - (intOf i).toNat)
 case atStart=>exact ⟨0,_,Gl _,rfl,hown,O,fun j l h=>absurd h (G2 _)⟩
 case round =>
  obtain ⟨k,xs,hk,rfl,ho,hb,hrow⟩:=hrel;have A:Eq (∀j l,j<k→L[j]?=some l→jw xs j l):=hrow;clear hrow hown hgrow O N;by_cases a2:k<len
  · obtain ⟨b,am,rfl,U⟩:=HL.o.form (by omega);obtain ⟨s,q,d,t,n,hg,a0,g0,g1,g2,g3,g4⟩:=HL.o.ent hb U k a2;have HG:Eq (L[k]?=some (s,q,d,t,n)):=hg;obtain ⟨hs,ht⟩:=Q.o _ (Gk hg);simp only at hs ht;clear hg a0;have D:Eq (xs.length=len*5):=ho.1;have HO:Eq (wr.ownsRow w.heap.size 50 5 (sL (w.heap.size) len len) len xs):=ho;have a1:=(ho.lt w.heap.size rfl).2;clear ho;go_wp2_with fail
    obtain ⟨X,E⟩:=aF wr.heap.size;obtain ⟨W,hW⟩:=aF (wr.alloc (.cells #[.string s,iT q,iT d,.string t,iT n] 50));have kW:ir wr W X s t q d n:=by rw [hW,E];exact ir.new wr 50 s t q d n
    have ai:w.heap.size<X:=by rw [E];exact a1
    have Y:Eq (X=wr.heap.size):=E;rw [← hW,← E];clear hW E;have k0:ir wr W.drew X s t q d n:=kW.drew;have r:Eq (∀w',ir wr w' X s t q d n→(w'.cell? ⟨X,0,none⟩=some (.string s)∧w'.cell? ⟨X,3,none⟩=some (.string t))):=fun w' kk=>⟨kk.c0,kk.c3⟩
    refine eJ r k0 fun y=>?_
    refine aO 0 2 y ?_;refine aO 3 2 y ?_;refine aS 2 fun K hK=>?_
    go_simp;refine (pD _ _ hs).mono ?_;rintro e w1 ⟨rfl,b1⟩;have k1:=k0.call b1;go_wp2_with fail
    refine hK.o _ _ (r.o _ k1) fun y=>?_
    (try go_frame);refine aO 6 1 y ?_;refine aS 5 fun K hK=>?_
    go_simp;refine (pD _ _ ht).mono ?_;rintro e w2 ⟨rfl,b2⟩;have k2:=k1.call b2;go_wp2_with fail
    refine hK.o _ _ (r.o _ k2) fun y=>?_
    (try go_frame);refine aS 7 fun K hK=>?_
    have c3:=k2.c0;have f3:=k2.fr 0;go_simp;have k3:=k2.store0;clear c3 f3;refine hK.o _ _ (r.o _ k3) fun y=>?_
    (try go_frame);refine aO 8 1 y ?_;refine aS 9 fun K hK=>?_
    have c4:=k3.c3;have f4:=k3.fr 3;go_simp;have C:=k3.store3;clear c4 f4;refine hK.o _ _ (r.o _ C) fun y=>?_
    (try go_frame);refine dN ?_;obtain ⟨W4,J⟩:=aF (((w2.setCell ⟨X,0,none⟩ (.string s)).setCell ⟨X,3,none⟩ (.string t)));rw [← J] at C ⊢;have u:Bl wr W4:=by have:=C.low;rw [Y.o] at this;exact this
    have z0:=C.all;have K4:Eq (ir wr W4 X s t q d n):=C;clear J k1 k2 k3 C k0 kW b1 b2 r y;have f:W4.ownsRow w.heap.size 50 5 (sL (w.heap.size) len len) len xs:=HO.o.kept (row:=none) ⟨u.os,u.tape,u.output,u.size,fun k hk _=>u.block k hk⟩ (.inr (by simp [Value.ownBlock]));have c0:∃v,W4.cell? ⟨w.heap.size,k*5,none⟩=some v:=⟨_,(f.cellAt _ (by omega)).trans (j' (by rw [D.o];omega))⟩;have c1:∃v,W4.cell? ⟨w.heap.size,k*5+1,none⟩=some v:=⟨_,(f.cellAt _ (by omega)).trans (j' (by rw [D.o];omega))⟩;have c2:∃v,W4.cell? ⟨w.heap.size,k*5+2,none⟩=some v:=⟨_,(f.cellAt _ (by omega)).trans (j' (by rw [D.o];omega))⟩;have c3:∃v,W4.cell? ⟨w.heap.size,k*5+3,none⟩=some v:=⟨_,(f.cellAt _ (by omega)).trans (j' (by rw [D.o];omega))⟩;have c4:∃v,W4.cell? ⟨w.heap.size,k*5+4,none⟩=some v:=⟨_,(f.cellAt _ (by omega)).trans (j' (by rw [D.o];omega))⟩;obtain ⟨v0,c0⟩:=c0;obtain ⟨v1,c1⟩:=c1;obtain ⟨v2,c2⟩:=c2;obtain ⟨v3,c3⟩:=c3;obtain ⟨v4,c4⟩:=c4;have f0:W4.frozen? ⟨w.heap.size,k*5,none⟩=false:=f.frozenAt _;have f1:W4.frozen? ⟨w.heap.size,k*5+1,none⟩=false:=f.frozenAt _;have f2:W4.frozen? ⟨w.heap.size,k*5+2,none⟩=false:=f.frozenAt _;have f3:W4.frozen? ⟨w.heap.size,k*5+3,none⟩=false:=f.frozenAt _;have f4:W4.frozen? ⟨w.heap.size,k*5+4,none⟩=false:=f.frozenAt _;have a7:Eq (W4.ownsRow w.heap.size 50 5 (sL (w.heap.size) len len) len xs):=f;clear f;go_wp2;go_roundw
    case rel =>
     have t0:=a7.o.stored (k*5) (.string s);have t1:=t0.1.stored (k*5+1) (iT q);have t2:=t1.1.stored (k*5+2) (iT d);have t3:=t2.1.stored (k*5+3) (.string t);have t4:=t3.1.stored (k*5+4) (iT n);refine ⟨k+1,_,by omega,by go_num,t4.1,?_,?_⟩
     · exact (((((hb.trans (u.mono hb.size)).setCell (p:=⟨w.heap.size,_,none⟩) (Gg _) _).setCell (p:=⟨w.heap.size,_,none⟩) (Gg _) _).setCell (p:=⟨w.heap.size,_,none⟩) (Gg _) _).setCell (p:=⟨w.heap.size,_,none⟩) (Gg _) _).setCell (p:=⟨w.heap.size,_,none⟩) (Gg _) _
     · intro j l hj hl;by_cases H:j=k
       · subst H;rw [HG.o] at hl;cases hl;exact jM s t q d n (by rw [D.o];omega)
       · exact jh (A.o j l (by omega) hl) H _ _ _ _ _
    case measure=>simp [intOf];omega
  · go_wp2;go_ret;exact ⟨rfl,⟨by rw [← pU (xs:=xs) (L:=L) (by rw [x.o];exact ho.1) (fun j l hl=>A.o j l (by have:=(F'.1 hl).1;rw [x.o] at this;omega) hl)];exact ho,x.o,B.o⟩,(ho.lt _ rfl).2,hb⟩
theorem jI {P:Program} {f:Array Oper} {o:Oper} {a:Act} {K:Act→World→Prop} {Q:Exit→Act→World→Prop} {E:Prop}
 (hg:o.guard=none) (l c:Operand) (t:TypeId) (hop:o.op=Op.makeSlice t l c)
 (base:Nat) (e:TypeId) (i:TypeInfo) (z:Value) (size:Nat) (h1:P.underlying t=some (.slice e)) (h2:P.info? e=some i) (h3:i.zero=some z) (h4:i.size=size)
 (kl kc:IntKind) (L C:Int) (n:Nat) (hl:a.eval l=.int kl L) (hc:a.eval c=.int kc C) (hL:L=(n:Int)) (hC:C=(n:Int)) (b2:i.bytes*n≤281474976710656) (b3:n≤maxLen) (b4:base≤w.heap.size)
 (hK:∀w',w'.ownsRow base e size (sL (w.heap.size) n n) n (madeCells z.cells (n*size)).toList→w.grownBy w' none→K (a.put o.dst (sL (w.heap.size) n n)) w') :
 if Region.wanted o (yielded f a.tmps)=true then Oper.wp P o a w K Q else E:=by
 have hw:Region.wanted o (yielded f a.tmps)=true:=by simp [Region.wanted,hg]
 rw [if_pos hw];obtain ⟨w',r,u,r2⟩:=run_make_full (P:=P) w base t e i z size h1 h2 h3 h4 kl kc n b2 b3 b4;subst hL;subst hC;unfold Oper.wp;simp [execOp,hop,hl,hc,r,Result.andThen];exact hK w' u r2
theorem gJ {e:TypeId} {n:Nat} (h:w.ownsRow base e K (sL g n c) k xs) (hb:Bl w w'):w'.ownsRow base e K (sL g n c) k xs :=
 h.kept (row:=none) ⟨hb.os,hb.tape,hb.output,hb.size,fun k hk _=>hb.block k hk⟩ (.inr (by simp [Value.ownBlock]))
theorem cV {e:TypeId} {n P:Nat} (h:w.ownsRow base e K (sL g n c) k xs) (f:g≠P) (o:Nat) (u:Value):(w.setCell ⟨P,o,none⟩ u).ownsRow base e K (sL g n c) k xs :=
 h.kept (row:=some P) ⟨rfl,rfl,rfl,by simp [World.setCell],fun k _ hk=>Below.heap_setCell _ _ _ _ (fun e=>hk (by rw [e]))⟩ (.inr (by simp [Value.ownBlock];exact f))
theorem AV (lo:Nat) (w:World) (a:Option Addr):fj lo w a 0 0 []:=⟨⟨rfl,Gg _,Gl _,by simp,fun _=>rfl,(fun x e hp=>absurd hp (IY _)),(fun x e i hi=>by simp at hi)⟩,(fun x e hp=>absurd hp (IY _))⟩
def rl (L:List ac):Prop:=∀e ∈ L,e.1.size≤281474976710656∧e.2.2.2.1.size≤281474976710656
def iF (B:List af):Prop:=∀p ∈ B,rl p.1
theorem De (w:World) (a0 a1 a2:Option Addr) (e c0 f c1 n2 c2:Nat):(Instr.index 80 (.agg #[.slice a0 e c0,.slice a1 f c1,.slice a2 n2 c2]) (iT 0)).run Tryz.prog w=.ok (.slice a0 e c0) w:=by
 simp [Instr.index,run_underlying Tryz.underlying80,asIntOf,go_sem,Tryz.isAgg61,Tryz.sizeOf61,part]
theorem Dd (w:World) (a0 a1 a2:Option Addr) (f c0 e c1 n2 c2:Nat):(Instr.index 80 (.agg #[.slice a0 f c0,.slice a1 e c1,.slice a2 n2 c2]) (iT 1)).run Tryz.prog w=.ok (.slice a1 e c1) w:=by
 simp [Instr.index,run_underlying Tryz.underlying80,asIntOf,go_sem,Tryz.isAgg61,Tryz.sizeOf61,part]
theorem Dc (w:World) (a0 a1 a2:Option Addr) (f c0 e c1 n2 c2:Nat):(Instr.index 80 (.agg #[.slice a0 f c0,.slice a1 e c1,.slice a2 n2 c2]) (iT 2)).run Tryz.prog w=.ok (.slice a2 n2 c2) w:=by
 simp [Instr.index,run_underlying Tryz.underlying80,asIntOf,go_sem,Tryz.isAgg61,Tryz.sizeOf61,part]
def Bk (Z:Nat) (w:World) (xs:List Value) (V:List (List af)) (k:Nat):Prop:=∀j,j<k→∃(b n:Nat) (B:List af),V[j]?=some B∧xs[j]?=some (sL b n n)∧aw Z w (pT b) n n B
theorem Bk.same (h:Bk Z w xs V k) (hs:dt Z w w'):Bk Z w' xs V k:=fun j e=>by
 obtain ⟨b,n,B,h1,h2,h3⟩:=h j e
 exact ⟨b,n,B,h1,h2,h3.same hs⟩
theorem vB {f:Nat} (h:w.ownsRow base 61 1 (sL f 3 3) 3 xs) (hb:lo≤f) (u:lo≤Z) (hV:V.length=3) (h0:Bk Z w xs V 3):cC lo w (pT f) 3 3 V:=by
 have r:=(h.lt f rfl).2;refine ⟨hV,Gg _,by unfold maxLen;omega,(fun e=>by cases e),(fun x e _=>by cases e;exact ⟨r,rfl,hb⟩),?_⟩;rintro x e i hi;cases e;obtain ⟨b,n,B,h1,h2,h3⟩:=h0 i (by omega);rw [j' hi] at h1;cases h1;exact ⟨some ⟨b,0,none⟩,n,n,by simp only [Gp];exact (h.cellAt i (by omega)).trans h2,h3.mono u⟩
theorem eN {R:World→Prop} {b:Nat} (vM:∀w o u,R w→R (w.setCell ⟨b,o,none⟩ u)):∀(cs:List Value) (o:Nat) (w:World),R w→R (w.setCells b o cs)
 | [],_,_,h=>h
 | c :: cs,o,w,h=>eN vM cs (o+1) (w.setCell ⟨b,o,none⟩ c) (vM w o c h)
end Go.Proofs.YtpobkmjicbobdaaGreat
