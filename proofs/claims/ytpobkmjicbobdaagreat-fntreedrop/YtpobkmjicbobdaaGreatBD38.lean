/- Walks. -/
import Derived.Test.YtpobkmjicbobdaaGreatBD37
namespace Go.Proofs.YtpobkmjicbobdaaGreat
set_option maxRecDepth 100000
set_option maxHeartbeats 40000000
open Go.RowKit
variable {B:List af} {base c g i n:Nat} {w w':World}
theorem pL {lo:Nat} {b j:Nat} (h:aw lo w (pT b) n c B) (f:i≤j) (m:j≤n):aw lo w (some ⟨b,if c=i then 0 else i*2,none⟩) (j - i) (c - i) ((B.drop i).take (j - i)) where
 length:=by rw [Gn,Gy,h.length];omega
 room:=by have:=h.room;omega
 big:=by have:=h.big;omega
 nil:=fun e=>by cases e
 lies:=fun x e hp=>by
  have h1:=h.lies _ rfl (by omega)
  cases e
  exact h1
 runs:=fun x e t d=>by
  rw [Gn,Gy,h.length] at d
  have hc:¬c=i:=by have:=h.room;omega
  have hl:i+t<B.length:=by rw [h.length];omega
  have h1:=h.runs _ rfl (i+t) hl
  cases e
  rw [Hf,Hj,if_neg hc]
  simp only [Gp] at h1
  rw [show i*2+t*2=(i+t)*2 by omega]
  exact h1
theorem C8 (q:Int) (b1 nm cm e0 n0 c0 e1 n1 c1 e2 n2 c2:Nat) (ak:Option Addr) (nk ck:Nat) (M:List ac) (A B C:List af) (S:List Int) (key:ByteArray) (seq:Int) (w:World) (ay:ow w (pT b1) nm cm (pT e0) n0 c0 (pT e1) n1 c1 (pT e2) n2 c2 ak nk ck M A B C S) (cj:nm≤60) (hA:A.length≤4) (hB:B.length≤8) (hC:C.length≤8) (hM:aI M=true) (aJ:∀Z ∈ [A,B,C],∀r ∈ Z,cP r.1 r.2=true) (b8:bi B=true) (b5:bi C=true) :
 Calls Tryz.prog 107 #[.agg #[iT q,sL b1 nm cm,sL e0 n0 c0,sL e1 n1 c1,sL e2 n2 c2,.slice ak nk ck],.string key,iT seq] w fun e w'=>e=.returned (iD (vZ (M++[A,B,C].flatMap (fun Z=>bQ Z key seq)) key seq))∧Bl w w':=by
 have bO:=ay.r0.length;have an:=ay.r1.length;have hl2:=ay.r2.length;have co:n0≤4:=by omega
 have cg:n1≤8:=by omega
 have cu:n2≤8:=by omega
 have bq:Eq (∀r ∈ A,cP r.1 r.2=true):=aJ A (by simp);have au:Eq (∀r ∈ B,cP r.1 r.2=true):=aJ B (by simp);have av:Eq (∀r ∈ C,cP r.1 r.2=true):=aJ C (by simp);have bu:=az b8;have bF:=az b5;have aA:=az ay;have bP:Eq (∀e ∈ M++[A,B,C].flatMap (fun Z=>bQ Z key seq),e.2.2.2.1.size≤281474976710656):=fun e he=>by
  rcases Gw.1 he with h | h
  · exact (oK hM e h).2
  · obtain ⟨Z,hZ,c7⟩:=IA.1 h;obtain ⟨r,hr,bR⟩:=IA.1 c7;exact (oK (eu (aJ Z hZ r hr)).1 e (Iy.1 bR).1).2
 obtain ⟨RC,b2⟩:=aF (iD (vZ (M++[A,B,C].flatMap (fun Z=>bQ Z key seq)) key seq));have CA:Eq (∀(base g n c:Nat) (w':World),ah w' base g n c (M++[A,B,C].flatMap (fun Z=>bQ Z key seq))→n≤1048576→Calls Tryz.prog 43 #[sL g n c,.string key,iT seq] w' fun e c4=>e=.returned RC∧Bl w' c4):=fun base g n c w' h hn=>by
  rw [b2];exact vL _ n c _ key seq w' h.entsAt hn bP.o
 obtain ⟨rb,rt,rn,bX⟩:∃(rb:Bool) (rt:ByteArray) (rn:Int),RC=.agg #[.bool rb,.string rt,iT rn]:=by
  rw [b2];exact ⟨_,_,_,rfl⟩
 rw [← b2];clear b2 bO an hl2 aJ b8 b5 hM hA hB hC;subst bX;obtain ⟨X,hX⟩:=aF w.heap.size;obtain ⟨W,hW⟩:=aF ((w.alloc (.cells #[iT q,sL b1 nm cm,sL e0 n0 c0,sL e1 n1 c1,sL e2 n2 c2,.slice ak nk ck] 82)).alloc (.cells #[.bool false,.string ⟨#[]⟩,iT 0] 57));have kW:Bl w W:=by rw [hW];exact bZ.alloc (by simp) _
 have bx:b6 W X (iT q) (sL b1 nm cm) (sL e0 n0 c0) (sL e1 n1 c1) (sL e2 n2 c2) (.slice ak nk ck):=by rw [hW,hX];exact (b6.new _ _ _ _ _ _ _ _).alloc _
 have CC:Eq (Calls Tryz.prog 165 #[sL b1 nm cm] W fun e w'=>∃g c',e=.returned (sL g nm c')∧ah w' W.heap.size g nm c' M∧Bl W w'):=DD b1 nm cm M W (ay.mem.keep kW) (by omega);have K0:Eq (Bl w W):=kW;have HX:Eq (X=w.heap.size):=hX;have BX:Eq (b6 W X (iT q) (sL b1 nm cm) (sL e0 n0 c0) (sL e1 n1 c1) (sL e2 n2 c2) (.slice ak nk ck)):=bx;have bT:Eq (W.cell? ⟨X+1,0,none⟩=some (.bool false)∧W.cell? ⟨X+1,1,none⟩=some (.string ⟨#[]⟩)∧W.cell? ⟨X+1,2,none⟩=some (iT 0)∧(∀o,W.frozen? ⟨X+1,o,none⟩=false)∧X+1<W.heap.size):=by
  rw [hW,hX];refine ⟨?_,?_,?_,fun o=>?_,?_⟩ <;> simp
 have x1:=bx.c1;have xz:=bx.lt;clear kW bx ay;go_enter Tryz.func107,Tryz.ntmps107
 go_wp2_with fail
 rw [← hX,← hW];clear hX hW x1 xz;refine CC.o.mono ?_;rintro e u ⟨g,c',rfl,bs,b⟩;have x:Eq (ah u W.heap.size g nm c' M):=bs;have K1:Eq (Bl w u):=K0.o.trans (b.mono K0.o.size);have bz:=BX.o.keep b;have x2:=bz.all;have bl:Eq (Bl W u):=b;clear b bs CC bz;go_wp2;clear x2;go_loopw [7,19] (fun fv kv wr=>∃(k gf nf cf:Nat),k≤3∧kv=iT k∧fv=sL gf nf cf∧nf≤60+1200*k∧ah wr W.heap.size gf nf cf (M++([A,B,C].take k).flatMap (fun Z=>bQ Z key seq))∧(Bl w wr∧Bl W wr)) (fun _ kv _=>3 - (intOf kv).toNat)
 case atStart=>exact ⟨0,g,nm,c',by omega,rfl,rfl,by omega,by simpa using x.o,K1.o,bl.o⟩
 case round =>
  clear x K1 bl;obtain ⟨k,gf,nf,cf,hk,rfl,rfl,cl,br,bt,O⟩:=hrel;have ao:Eq (ah wr W.heap.size gf nf cf (M++([A,B,C].take k).flatMap (fun Z=>bQ Z key seq))):=br;have T:Eq (Bl w wr):=bt;have d:Eq (Bl W wr):=O;clear br bt O;match k,hk with
  | 0,_ =>
   have HR:Eq (∀w',Bl w w'→aw 0 w' (pT e0) n0 c0 A):=fun w' kk=>aA.o.r0.keep kk
   have bU:Eq (A.length=n0):=aA.o.r0.length;obtain ⟨G,hG⟩:=aF (M++([A,B,C].take 0).flatMap (fun Z=>bQ Z key seq));have HG:Eq (G=M++([A,B,C].take 0).flatMap (fun Z=>bQ Z key seq)):=hG;have J:Eq (ah wr W.heap.size gf nf cf G):=by rw [hG];exact ao.o
   clear hG ao;obtain ⟨f,t⟩:=aF A;have ad:Eq (∀w',Bl w w'→aw 0 w' (pT e0) n0 c0 f):=by rw [t];exact HR.o
   have a7:Eq (∀r ∈ f,cP r.1 r.2=true):=by rw [t];exact bq.o
   have aW:Eq (f.length=n0):=by rw [t];exact bU.o
   have N:Eq (n0≤8):=by show _≤_;omega
   have aV:Eq (bQ f key seq=bQ A key seq):=by rw [t];rfl
   have a2:Eq (ah wr W.heap.size gf nf cf G):=J.o;have a8:Eq (Bl w wr):=T.o;have E:Eq (Bl W wr):=d.o;clear t J HR;go_wp2_with fail
   rw [De];go_wp2;go_loopw [7,39] (fun fv jv wr=>∃(j g n c:Nat),j≤n0∧jv=iT j∧fv=sL g n c∧n≤60+150*j∧ah wr W.heap.size g n c (G++bQ (f.take j) key seq)∧(Bl w wr∧Bl W wr)) (fun _ jv _=>n0 - (intOf jv).toNat)
   case atStart=>exact ⟨0,gf,nf,cf,Gl _,rfl,rfl,by omega,by simpa [bQ] using a2.o,a8.o,E.o⟩
   case round =>
    clear a2 a8 E;obtain ⟨j,g,n,c,hj,rfl,rfl,hn,hO,hb,O⟩:=hrel;have d:Eq (Bl W wr):=O;clear O;have HO:Eq (ah wr W.heap.size g n c (G++bQ (f.take j) key seq)):=hO;have HB:Eq (Bl w wr):=hb;clear hO hb;by_cases aL:j<n0
    · have ai:(j:Int)<((n0:Nat):Int):=by omega
      have a3:(j:Int)<n0:=by omega
      obtain ⟨L,m,s,ne,ce,hr,bn,g0,g1,hE⟩:=(ad.o _ HB.o).run (Below.refl _ wr) j aL;have aR:Eq (f[j]?=some (L,m)):=hr;try simp only [Gp] at g0 g1
      have aG:=((ad.o _ HB.o).lies _ rfl (by omega)).1;simp only at aG;obtain ⟨aK,an,hl2⟩:=eu (a7.o _ (Gk hr));have a5:Eq (aj wr s ne ce L):=hE.1;have bg:ne≤150:=by have:=hE.1.length;simp only at hl2;omega
      have aP:Eq (gQ L m key seq=cF L key seq):=by
       show gQ L m key seq=_
       exact ln (a7.o _ (Gk hr))
      clear hr hE aK an hl2;obtain ⟨wq,Q⟩:=aF (wr.alloc (.cells #[.slice s ne ce,iT m] 63));have kq:Bl wr wq:=by rw [Q];exact bZ
      have CF:Eq (Calls Tryz.prog 166 #[.agg #[.slice s ne ce,iT m],.string key,iT seq] wq (rx (cF L key seq) wq)):=by
       have h:=qx s ne ce L m key seq wq (a5.o.keep kq) (by omega);rw [aP.o] at h;exact h
      have a6:Eq (Bl w wq):=HB.o.trans (kq.mono HB.o.size);have F:Eq (Bl W wq):=d.o.trans (kq.mono d.o.size);have b0:Eq (ah wq W.heap.size g n c (G++bQ (f.take j) key seq)):=HO.o.below kq;clear kq;go_wp2_with fail
      rw [← Q];clear Q;refine CF.o.mono ?_;intro e u aa;obtain ⟨ar,nr,cr,rfl,K,b⟩:=l6 aa;have D:Eq (Bl w u):=a6.o.trans (b.mono a6.o.size);have x:Eq (ah u W.heap.size g n c (G++bQ (f.take j) key seq)):=b0.o.below b;have H:Eq (Bl W u):=F.o.trans (b.mono F.o.size);have aM:Eq (cX u wq.heap.size ar nr cr (cF L key seq)):=K;have bk:nr≤150:=by have h1:=K.entsAt.length;have h2:=mK L key seq;have h3:=a5.o.length;omega
      obtain ⟨y,a9⟩:=aF (n+nr);have aT:Eq (y=n+nr):=a9;have aU:Eq (y≤60+150*(j+1)):=by show _≤_;omega
      have aZ:n≤1048576:=by have:=N.o;omega
      have bA:j≤8:=by have:=N.o;omega
      clear aa K b a9;go_wp2_with (at_builtin;refine uv rfl _ _ rfl W.heap.size wq.heap.size g n c _ rfl x.o ar nr cr _ rfl aM.o aZ (by omega) y aT.o ?_;intro g2 c2 w2 aH ae)
      go_roundw
      case rel =>
       refine ⟨j+1,g2,y,c2,by omega,by go_num,rfl,aU.o,?_,D.o.grown ae D.o.size (fun k e=>by cases e;exact Gq K0.o.size x.o.lt.1),H.o.grown ae H.o.size (fun k e=>by cases e;exact x.o.lt.1)⟩;rw [GH,aR.o];have e1:bQ (f.take j++(some (L,m)).toList) key seq=bQ (f.take j) key seq++cF L key seq:=by rw [iX];simp [bQ]
       rw [e1,← GJ];exact aH
      case measure=>simp [intOf];omega
    · have ai:¬(j:Int)<((n0:Nat):Int):=by omega
      have a3:¬(j:Int)<n0:=by omega
      have a0:j=n0:=by omega
      have I:Eq (ah wr W.heap.size g n c (M++([A,B,C].take 1).flatMap (fun Z=>bQ Z key seq))∧n≤60+1200):=by
       have h:=HO.o;rw [a0,Gr (by rw [aW.o];omega)] at h;refine ⟨?_,by have:=N.o;omega⟩;rw [HG.o,aV.o] at h;simpa [List.take,IS,GJ] using h
      clear a0 HO;go_wp2;go_roundw
      case rel=>exact ⟨1,g,n,c,by omega,by go_num,rfl,by have:=I.o.2;omega,I.o.1,HB.o,d.o⟩
      case measure=>simp [intOf]
  | 1,_ =>
   have HR:Eq (∀w',Bl w w'→aw 0 w' (pT e1) n1 c1 B):=fun w' kk=>aA.o.r1.keep kk
   have bp:Eq (B.length=n1):=aA.o.r1.length;obtain ⟨G,hG⟩:=aF (M++([A,B,C].take 1).flatMap (fun Z=>bQ Z key seq));have HG:Eq (G=M++([A,B,C].take 1).flatMap (fun Z=>bQ Z key seq)):=hG;have J:Eq (ah wr W.heap.size gf nf cf G):=by rw [hG];exact ao.o
   clear hG ao;have CM:Eq (Calls Tryz.prog 125 #[sL e1 n1 c1,.agg #[.string key,.string key]] wr fun e' w'=>∃i j:Nat,e'=.returned (.tuple #[iT i,iT j])∧fZ B key key i j∧Bl wr w'):=oV 0 _ n1 c1 B key key wr (HR.o _ T.o) (by omega) bu.o au.o;go_wp2_with fail
   rw [Dd];go_wp2_with fail
   refine CM.o.mono ?_;rintro e' u ⟨i0,j0,rfl,R,b⟩;have D:Eq (Bl w u):=T.o.trans (b.mono T.o.size);have a1:Eq (ah u W.heap.size gf nf cf G):=J.o.below b;have aY:Eq (fZ B key key i0 j0):=R;have aN:i0≤j0:=R.le au.o (.inl rfl);have Y:j0≤n1:=by have h1:=R.2.1;have h2:=bp.o;omega
   have aE:=(HR.o _ D.o).room;have aD:(i0:Int)≤(j0:Int):=by omega
   have aS:(j0:Int)≤(c1:Int):=by omega
   obtain ⟨ox,ap⟩:=aF (if c1=i0 then 0 else i0*2);obtain ⟨nn,U⟩:=aF (j0 - i0);obtain ⟨cx,am⟩:=aF (c1 - i0);obtain ⟨f,t⟩:=aF ((B.drop i0).take (j0 - i0));have ad:Eq (∀w',Bl w w'→aw 0 w' (some ⟨e1,ox,none⟩) nn cx f):=fun w' kk=>by rw [t,ap,U,am];exact pL (HR.o w' kk) aN Y
   have a7:Eq (∀r ∈ f,cP r.1 r.2=true):=by rw [t];exact fun r hr=>au.o r (Ha (GX hr))
   have aW:Eq (f.length=nn):=by show _=_;rw [t,U,Gn,Gy,bp.o];omega
   have N:Eq (nn≤8):=by show _≤_;omega
   have aV:Eq (bQ f key seq=bQ B key seq):=by rw [t];exact sP aY.o au.o seq
   have a2:Eq (ah u W.heap.size gf nf cf G):=a1.o;have a8:Eq (Bl w u):=D.o;have E:Eq (Bl W u):=d.o.trans (b.mono d.o.size);have aX:(if c1=i0 then some (⟨e1,0,none⟩:Addr) else some ⟨e1,i0*2,none⟩)=some ⟨e1,ox,none⟩:=by rw [ap];split <;> rfl
   clear b R J CM aY a1 HR t ap;go_upto_region 8 with fail
   try rw [aX]
   rw [← U,← am];clear aX U am aN Y aD aS aE;go_wp2;go_loopw [7,39] (fun fv jv wr=>∃(j g n c:Nat),j≤nn∧jv=iT j∧fv=sL g n c∧n≤1260+150*j∧ah wr W.heap.size g n c (G++bQ (f.take j) key seq)∧(Bl w wr∧Bl W wr)) (fun _ jv _=>nn - (intOf jv).toNat)
   case atStart=>exact ⟨0,gf,nf,cf,Gl _,rfl,rfl,by omega,by simpa [bQ] using a2.o,a8.o,E.o⟩
   case round =>
    clear a2 a8 E;obtain ⟨j,g,n,c,hj,rfl,rfl,hn,hO,hb,O⟩:=hrel;have d:Eq (Bl W wr):=O;clear O;have HO:Eq (ah wr W.heap.size g n c (G++bQ (f.take j) key seq)):=hO;have HB:Eq (Bl w wr):=hb;clear hO hb;by_cases aL:j<nn
    · have ai:(j:Int)<((nn:Nat):Int):=by omega
      have a3:(j:Int)<nn:=by omega
      obtain ⟨L,m,s,ne,ce,hr,bn,g0,g1,hE⟩:=(ad.o _ HB.o).run (Below.refl _ wr) j aL;have aR:Eq (f[j]?=some (L,m)):=hr;try simp only [Gp] at g0 g1
      have aG:=((ad.o _ HB.o).lies _ rfl (by omega)).1;simp only at aG;obtain ⟨aK,an,hl2⟩:=eu (a7.o _ (Gk hr));have a5:Eq (aj wr s ne ce L):=hE.1;have bg:ne≤150:=by have:=hE.1.length;simp only at hl2;omega
      have aP:Eq (gQ L m key seq=cF L key seq):=by
       show gQ L m key seq=_
       exact ln (a7.o _ (Gk hr))
      clear hr hE aK an hl2;obtain ⟨wq,Q⟩:=aF (wr.alloc (.cells #[.slice s ne ce,iT m] 63));have kq:Bl wr wq:=by rw [Q];exact bZ
      have CF:Eq (Calls Tryz.prog 166 #[.agg #[.slice s ne ce,iT m],.string key,iT seq] wq (rx (cF L key seq) wq)):=by
       have h:=qx s ne ce L m key seq wq (a5.o.keep kq) (by omega);rw [aP.o] at h;exact h
      have a6:Eq (Bl w wq):=HB.o.trans (kq.mono HB.o.size);have F:Eq (Bl W wq):=d.o.trans (kq.mono d.o.size);have b0:Eq (ah wq W.heap.size g n c (G++bQ (f.take j) key seq)):=HO.o.below kq;clear kq;go_wp2_with fail
      rw [← Q];clear Q;refine CF.o.mono ?_;intro e u aa;obtain ⟨ar,nr,cr,rfl,K,b⟩:=l6 aa;have D:Eq (Bl w u):=a6.o.trans (b.mono a6.o.size);have x:Eq (ah u W.heap.size g n c (G++bQ (f.take j) key seq)):=b0.o.below b;have H:Eq (Bl W u):=F.o.trans (b.mono F.o.size);have aM:Eq (cX u wq.heap.size ar nr cr (cF L key seq)):=K;have bk:nr≤150:=by have h1:=K.entsAt.length;have h2:=mK L key seq;have h3:=a5.o.length;omega
      obtain ⟨y,a9⟩:=aF (n+nr);have aT:Eq (y=n+nr):=a9;have aU:Eq (y≤1260+150*(j+1)):=by show _≤_;omega
      have aZ:n≤1048576:=by have:=N.o;omega
      have bA:j≤8:=by have:=N.o;omega
      clear aa K b a9;go_wp2_with (at_builtin;refine uv rfl _ _ rfl W.heap.size wq.heap.size g n c _ rfl x.o ar nr cr _ rfl aM.o aZ (by omega) y aT.o ?_;intro g2 c2 w2 aH ae)
      go_roundw
      case rel =>
       refine ⟨j+1,g2,y,c2,by omega,by go_num,rfl,aU.o,?_,D.o.grown ae D.o.size (fun k e=>by cases e;exact Gq K0.o.size x.o.lt.1),H.o.grown ae H.o.size (fun k e=>by cases e;exact x.o.lt.1)⟩;rw [GH,aR.o];have e1:bQ (f.take j++(some (L,m)).toList) key seq=bQ (f.take j) key seq++cF L key seq:=by rw [iX];simp [bQ]
       rw [e1,← GJ];exact aH
      case measure=>simp [intOf];omega
    · have ai:¬(j:Int)<((nn:Nat):Int):=by omega
      have a3:¬(j:Int)<nn:=by omega
      have a0:j=nn:=by omega
      have I:Eq (ah wr W.heap.size g n c (M++([A,B,C].take 2).flatMap (fun Z=>bQ Z key seq))∧n≤1260+1200):=by
       have h:=HO.o;rw [a0,Gr (by rw [aW.o];omega)] at h;refine ⟨?_,by have:=N.o;omega⟩;rw [HG.o,aV.o] at h;simpa [List.take,IS,GJ] using h
      clear a0 HO;go_wp2;go_roundw
      case rel=>exact ⟨2,g,n,c,by omega,by go_num,rfl,by have:=I.o.2;omega,I.o.1,HB.o,d.o⟩
      case measure=>simp [intOf]
  | 2,_ =>
   have HR:Eq (∀w',Bl w w'→aw 0 w' (pT e2) n2 c2 C):=fun w' kk=>aA.o.r2.keep kk
   have bv:Eq (C.length=n2):=aA.o.r2.length;obtain ⟨G,hG⟩:=aF (M++([A,B,C].take 2).flatMap (fun Z=>bQ Z key seq));have HG:Eq (G=M++([A,B,C].take 2).flatMap (fun Z=>bQ Z key seq)):=hG;have J:Eq (ah wr W.heap.size gf nf cf G):=by rw [hG];exact ao.o
   clear hG ao;have CM:Eq (Calls Tryz.prog 125 #[sL e2 n2 c2,.agg #[.string key,.string key]] wr fun e' w'=>∃i j:Nat,e'=.returned (.tuple #[iT i,iT j])∧fZ C key key i j∧Bl wr w'):=oV 0 _ n2 c2 C key key wr (HR.o _ T.o) (by omega) bF.o av.o;go_wp2_with fail
   rw [Dc];go_wp2_with fail
   refine CM.o.mono ?_;rintro e' u ⟨i0,j0,rfl,R,b⟩;have D:Eq (Bl w u):=T.o.trans (b.mono T.o.size);have a1:Eq (ah u W.heap.size gf nf cf G):=J.o.below b;have aY:Eq (fZ C key key i0 j0):=R;have aN:i0≤j0:=R.le av.o (.inl rfl);have Y:j0≤n2:=by have h1:=R.2.1;have h2:=bv.o;omega
   have aE:=(HR.o _ D.o).room;have aD:(i0:Int)≤(j0:Int):=by omega
   have aS:(j0:Int)≤(c2:Int):=by omega
   obtain ⟨ox,ap⟩:=aF (if c2=i0 then 0 else i0*2);obtain ⟨nn,U⟩:=aF (j0 - i0);obtain ⟨cx,am⟩:=aF (c2 - i0);obtain ⟨f,t⟩:=aF ((C.drop i0).take (j0 - i0));have ad:Eq (∀w',Bl w w'→aw 0 w' (some ⟨e2,ox,none⟩) nn cx f):=fun w' kk=>by rw [t,ap,U,am];exact pL (HR.o w' kk) aN Y
   have a7:Eq (∀r ∈ f,cP r.1 r.2=true):=by rw [t];exact fun r hr=>av.o r (Ha (GX hr))
   have aW:Eq (f.length=nn):=by show _=_;rw [t,U,Gn,Gy,bv.o];omega
   have N:Eq (nn≤8):=by show _≤_;omega
   have aV:Eq (bQ f key seq=bQ C key seq):=by rw [t];exact sP aY.o av.o seq
   have a2:Eq (ah u W.heap.size gf nf cf G):=a1.o;have a8:Eq (Bl w u):=D.o;have E:Eq (Bl W u):=d.o.trans (b.mono d.o.size);have aX:(if c2=i0 then some (⟨e2,0,none⟩:Addr) else some ⟨e2,i0*2,none⟩)=some ⟨e2,ox,none⟩:=by rw [ap];split <;> rfl
   clear b R J CM aY a1 HR t ap;go_upto_region 8 with fail
   try rw [aX]
   rw [← U,← am];clear aX U am aN Y aD aS aE;go_wp2;go_loopw [7,39] (fun fv jv wr=>∃(j g n c:Nat),j≤nn∧jv=iT j∧fv=sL g n c∧n≤2460+150*j∧ah wr W.heap.size g n c (G++bQ (f.take j) key seq)∧(Bl w wr∧Bl W wr)) (fun _ jv _=>nn - (intOf jv).toNat)
   case atStart=>exact ⟨0,gf,nf,cf,Gl _,rfl,rfl,by omega,by simpa [bQ] using a2.o,a8.o,E.o⟩
   case round =>
    clear a2 a8 E;obtain ⟨j,g,n,c,hj,rfl,rfl,hn,hO,hb,O⟩:=hrel;have d:Eq (Bl W wr):=O;clear O;have HO:Eq (ah wr W.heap.size g n c (G++bQ (f.take j) key seq)):=hO;have HB:Eq (Bl w wr):=hb;clear hO hb;by_cases aL:j<nn
    · have ai:(j:Int)<((nn:Nat):Int):=by omega
      have a3:(j:Int)<nn:=by omega
      obtain ⟨L,m,s,ne,ce,hr,bn,g0,g1,hE⟩:=(ad.o _ HB.o).run (Below.refl _ wr) j aL;have aR:Eq (f[j]?=some (L,m)):=hr;try simp only [Gp] at g0 g1
      have aG:=((ad.o _ HB.o).lies _ rfl (by omega)).1;simp only at aG;obtain ⟨aK,an,hl2⟩:=eu (a7.o _ (Gk hr));have a5:Eq (aj wr s ne ce L):=hE.1;have bg:ne≤150:=by have:=hE.1.length;simp only at hl2;omega
      have aP:Eq (gQ L m key seq=cF L key seq):=by
       show gQ L m key seq=_
       exact ln (a7.o _ (Gk hr))
      clear hr hE aK an hl2;obtain ⟨wq,Q⟩:=aF (wr.alloc (.cells #[.slice s ne ce,iT m] 63));have kq:Bl wr wq:=by rw [Q];exact bZ
      have CF:Eq (Calls Tryz.prog 166 #[.agg #[.slice s ne ce,iT m],.string key,iT seq] wq (rx (cF L key seq) wq)):=by
       have h:=qx s ne ce L m key seq wq (a5.o.keep kq) (by omega);rw [aP.o] at h;exact h
      have a6:Eq (Bl w wq):=HB.o.trans (kq.mono HB.o.size);have F:Eq (Bl W wq):=d.o.trans (kq.mono d.o.size);have b0:Eq (ah wq W.heap.size g n c (G++bQ (f.take j) key seq)):=HO.o.below kq;clear kq;go_wp2_with fail
      rw [← Q];clear Q;refine CF.o.mono ?_;intro e u aa;obtain ⟨ar,nr,cr,rfl,K,b⟩:=l6 aa;have D:Eq (Bl w u):=a6.o.trans (b.mono a6.o.size);have x:Eq (ah u W.heap.size g n c (G++bQ (f.take j) key seq)):=b0.o.below b;have H:Eq (Bl W u):=F.o.trans (b.mono F.o.size);have aM:Eq (cX u wq.heap.size ar nr cr (cF L key seq)):=K;have bk:nr≤150:=by have h1:=K.entsAt.length;have h2:=mK L key seq;have h3:=a5.o.length;omega
      obtain ⟨y,a9⟩:=aF (n+nr);have aT:Eq (y=n+nr):=a9;have aU:Eq (y≤2460+150*(j+1)):=by show _≤_;omega
      have aZ:n≤1048576:=by have:=N.o;omega
      have bA:j≤8:=by have:=N.o;omega
      clear aa K b a9;go_wp2_with (at_builtin;refine uv rfl _ _ rfl W.heap.size wq.heap.size g n c _ rfl x.o ar nr cr _ rfl aM.o aZ (by omega) y aT.o ?_;intro g2 c2 w2 aH ae)
      go_roundw
      case rel =>
       refine ⟨j+1,g2,y,c2,by omega,by go_num,rfl,aU.o,?_,D.o.grown ae D.o.size (fun k e=>by cases e;exact Gq K0.o.size x.o.lt.1),H.o.grown ae H.o.size (fun k e=>by cases e;exact x.o.lt.1)⟩;rw [GH,aR.o];have e1:bQ (f.take j++(some (L,m)).toList) key seq=bQ (f.take j) key seq++cF L key seq:=by rw [iX];simp [bQ]
       rw [e1,← GJ];exact aH
      case measure=>simp [intOf];omega
    · have ai:¬(j:Int)<((nn:Nat):Int):=by omega
      have a3:¬(j:Int)<nn:=by omega
      have a0:j=nn:=by omega
      have I:Eq (ah wr W.heap.size g n c (M++([A,B,C].take 3).flatMap (fun Z=>bQ Z key seq))∧n≤2460+1200):=by
       have h:=HO.o;rw [a0,Gr (by rw [aW.o];omega)] at h;refine ⟨?_,by have:=N.o;omega⟩;rw [HG.o,aV.o] at h;simpa [List.take,IS,GJ] using h
      clear a0 HO;go_wp2;go_roundw
      case rel=>exact ⟨3,g,n,c,by omega,by go_num,rfl,by have:=I.o.2;omega,I.o.1,HB.o,d.o⟩
      case measure=>simp [intOf]
  | 3,_ =>
   have c6:Eq (ah wr W.heap.size gf nf cf (M++[A,B,C].flatMap (fun Z=>bQ Z key seq))):=ao.o;go_wp2_with fail
   refine (CA.o _ _ _ _ _ c6.o (by omega)).mono ?_;rintro e w2 ⟨rfl,bc⟩;have K2:Eq (Bl w w2):=T.o.trans (bc.mono T.o.size);have ax:=d.o.trans (bc.mono d.o.size);obtain ⟨r0,r1,r2,rf,rz⟩:=bT.o;have r0:=cell_later ax r0;have r1:=cell_later ax r1;have r2:=cell_later ax r2;have rf:∀o,w2.frozen? ⟨X+1,o,none⟩=false:=fun o=>(ax.frozen (p:=⟨X+1,o,none⟩) rz).trans (rf o)
   have rz:=E' rz ax.size;clear bc ax;go_wp2;refine bodyPost_ret (v:=.agg #[.bool rb,.string rt,iT rn]) ?_ rfl ⟨rfl,?_⟩
   · have bY:(((w2.setCell ⟨X+1,0,none⟩ (.bool rb)).setCell ⟨X+1,1,none⟩ (.string rt)).setCell ⟨X+1,2,none⟩ (iT rn)).cell? ⟨X+1,0,none⟩=some (.bool rb):=by rw [Gh _ _ _ _ (by simp),Gh _ _ _ _ (by simp)];exact GD _ _ _ (by rw [r0];rfl)
     have c8:(((w2.setCell ⟨X+1,0,none⟩ (.bool rb)).setCell ⟨X+1,1,none⟩ (.string rt)).setCell ⟨X+1,2,none⟩ (iT rn)).cell? ⟨X+1,1,none⟩=some (.string rt):=by rw [Gh _ _ _ _ (by simp)];exact GD _ _ _ (by rw [Gh _ _ _ _ (by simp),r1];rfl)
     have bM:(((w2.setCell ⟨X+1,0,none⟩ (.bool rb)).setCell ⟨X+1,1,none⟩ (.string rt)).setCell ⟨X+1,2,none⟩ (iT rn)).cell? ⟨X+1,2,none⟩=some (iT rn):=GD _ _ _ (by rw [Gh _ _ _ _ (by simp),Gh _ _ _ _ (by simp),r2];rfl);simp [results,Tryz.results107,go_sem,bY,c8,bM]
   · have hx:w.heap.size≤X+1:=by have:=HX.o;omega
     exact ((K2.o.setCell (p:=⟨X+1,0,none⟩) hx _).setCell (p:=⟨X+1,1,none⟩) hx _).setCell (p:=⟨X+1,2,none⟩) hx _
theorem oD {q:Int} {M:List ac} {A C:List af} {S:List Int} (d:aT q M [A,B,C] S=true):(A.length≤4∧B.length≤8∧C.length≤8)∧(∀Z ∈ [A,B,C],∀r ∈ Z,cP r.1 r.2=true)∧bi B=true∧bi C=true:=by
 have b:=(aV d).2.2.2.2.2.2.2.1;unfold fq at b;simp only [Gx] at b;obtain ⟨hA,hB,hC⟩:=b;rw [dh] at hA hB hC;have hb:∀{Z:List af},eS Z=false→∀r ∈ Z,cP r.1 r.2=true:=fun {Z} h r hr=>by
  unfold eS at h;rw [Ix] at h;simpa using h r hr
 refine ⟨⟨by have:=hA.1;omega,by have:=hB.1;omega,by have:=hC.1;omega⟩,fun Z e=>?_,hB.2.2.2 rfl,hC.2.2.2 rfl⟩;simp only [Gz,GZ,or_false] at e;rcases e with rfl | rfl | rfl
 · exact hb hA.2.1
 · exact hb hB.2.1
 · exact hb hC.2.1
def kF (M:List ac) (V:List (List af)) (key:ByteArray) (seq:Int):fp:=vZ (M++V.flatMap (fun Z=>bQ Z key seq)) key seq
theorem o6 (q:Int) (x L F:Option Addr) (y C D H E J:Nat) (s0 s1 s2 s3 U:Value) (hs:(∃a n c,s0=.slice a n c)∧(∃a n c,s1=.slice a n c)∧(∃a n c,s2=.slice a n c)∧(∃a n c,s3=.slice a n c)∧(∃a n c,U=.slice a n c)) (key:ByteArray) (seq:Int) (f:Bool) (m:ByteArray) (r:Int) (w:World)
 (hC:∀w',Bl w w'→Calls Tryz.prog 86 #[.agg #[iT q,.slice x y C,.slice L D H,.slice F E J]] w' fun e d=>e=.returned (.tuple #[.agg #[iT q,s0,s1,s2,s3,U],.bool true])∧Bl w' d)
 (hD:∀w',Bl w w'→Calls Tryz.prog 107 #[.agg #[iT q,s0,s1,s2,s3,U],.string key,iT seq] w' fun e d=>e=.returned (.agg #[.bool f,.string m,iT r])∧Bl w' d) :
 Calls Tryz.prog 39 #[.agg #[iT q,.slice x y C,.slice L D H,.slice F E J],.string key,iT seq] w fun e w'=>e=.returned (.agg #[.bool f,.string m,iT r])∧Bl w w':=by
 obtain ⟨⟨m1,m2,m3,rfl⟩,⟨y1,y2,y3,rfl⟩,⟨z1,z2,z3,rfl⟩,⟨u1,u2,u3,rfl⟩,⟨v1,v2,v3,rfl⟩⟩:=hs;obtain ⟨X,A⟩:=aF w.heap.size;obtain ⟨W,I⟩:=aF ((w.alloc (.cells #[iT q,.slice x y C,.slice L D H,.slice F E J] 31)).alloc (.cells #[.bool false,.string ⟨#[]⟩,iT 0] 57));have T:Bl w W:=by rw [I];exact bZ.alloc (by simp) _
 have R:ay W X (iT q) (.slice x y C) (.slice L D H) (.slice F E J):=by rw [I,A];exact (ay.new _ _ _ _ _ _).alloc _
 have a0:Eq (W.cell? ⟨X+1,0,none⟩=some (.bool false)∧W.cell? ⟨X+1,1,none⟩=some (.string ⟨#[]⟩)∧W.cell? ⟨X+1,2,none⟩=some (iT 0)∧(∀o,W.frozen? ⟨X+1,o,none⟩=false)∧X+1<W.heap.size):=by
  rw [I,A];refine ⟨?_,?_,?_,fun o=>?_,?_⟩ <;> simp
 have O:Eq (Bl w W):=T;have HX:Eq (X=w.heap.size):=A;have BX:Eq (ay W X (iT q) (.slice x y C) (.slice L D H) (.slice F E J)):=R;have CS:=hC W T;have CD:Eq (∀w',Bl w w'→Calls Tryz.prog 107 #[.agg #[iT q,.slice m1 m2 m3,.slice y1 y2 y3,.slice z1 z2 z3,.slice u1 u2 u3,.slice v1 v2 v3],.string key,iT seq] w' fun e d=>e=.returned (.agg #[.bool f,.string m,iT r])∧Bl w' d):=hD;have x0:=R.all;clear R T hC hD;go_enter Tryz.func39,Tryz.ntmps39
 go_wp2_with fail
 rw [← A,← I];clear A I x0;refine CS.mono ?_;rintro e w1 ⟨rfl,u⟩;obtain ⟨wb,s⟩:=aF (w1.alloc (.cells #[iT q,.slice m1 m2 m3,.slice y1 y2 y3,.slice z1 z2 z3,.slice u1 u2 u3,.slice v1 v2 v3] 82));have kb:Bl w1 wb:=by rw [s];exact bZ
 have t:Eq (Bl W wb):=u.trans (kb.mono u.size);clear u kb;go_wp2_with fail
 rw [← s];clear s CS;refine (CD.o _ (O.o.trans (t.o.mono O.o.size))).mono ?_;rintro e N ⟨rfl,K⟩;have b:=t.o.trans (K.mono t.o.size);clear K;obtain ⟨Y,r1,r2,rf,rz⟩:=a0.o;have Y:=cell_later b Y;have r1:=cell_later b r1;have r2:=cell_later b r2;have rf:∀o,N.frozen? ⟨X+1,o,none⟩=false:=fun o=>(b.frozen (p:=⟨X+1,o,none⟩) rz).trans (rf o)
 have rz:=E' rz b.size;have K2:Eq (Bl w N):=O.o.trans (b.mono O.o.size);clear b;go_wp2;refine bodyPost_ret (v:=.agg #[.bool f,.string m,iT r]) ?_ rfl ⟨rfl,?_⟩
 · have Z:(((N.setCell ⟨X+1,0,none⟩ (.bool f)).setCell ⟨X+1,1,none⟩ (.string m)).setCell ⟨X+1,2,none⟩ (iT r)).cell? ⟨X+1,0,none⟩=some (.bool f):=by rw [Gh _ _ _ _ (by simp),Gh _ _ _ _ (by simp)];exact GD _ _ _ (by rw [Y];rfl)
   have a7:(((N.setCell ⟨X+1,0,none⟩ (.bool f)).setCell ⟨X+1,1,none⟩ (.string m)).setCell ⟨X+1,2,none⟩ (iT r)).cell? ⟨X+1,1,none⟩=some (.string m):=by rw [Gh _ _ _ _ (by simp)];exact GD _ _ _ (by rw [Gh _ _ _ _ (by simp),r1];rfl)
   have Q:(((N.setCell ⟨X+1,0,none⟩ (.bool f)).setCell ⟨X+1,1,none⟩ (.string m)).setCell ⟨X+1,2,none⟩ (iT r)).cell? ⟨X+1,2,none⟩=some (iT r):=GD _ _ _ (by rw [Gh _ _ _ _ (by simp),Gh _ _ _ _ (by simp),r2];rfl);simp [results,Tryz.results39,go_sem,Z,a7,Q]
 · have hx:w.heap.size≤X+1:=by have:=HX.o;omega
   exact ((K2.o.setCell (p:=⟨X+1,0,none⟩) hx _).setCell (p:=⟨X+1,1,none⟩) hx _).setCell (p:=⟨X+1,2,none⟩) hx _
abbrev de:=Nat × Nat × Nat × Nat × Nat
def jH (x:de):List Value:=[.slice (some ⟨x.1,x.2.1,none⟩) x.2.2.1 x.2.2.2.1,iT x.2.2.2.2]
def fm (X:List de):List Value:=X.flatMap jH
theorem io (x:de) (X:List de):fm (x :: X)=.slice (some ⟨x.1,x.2.1,none⟩) x.2.2.1 x.2.2.2.1 :: iT x.2.2.2.2 :: fm X:=rfl
theorem uc (A B:List de):fm (A++B)=fm A++fm B:=by simp [fm]
theorem AS (X:List de):(fm X).length=X.length*2:=by
 induction X with
 | nil=>rfl
 | cons x r b=>rw [io,GR,GR,b,GR];omega
theorem tn:∀(X:List de) (j:Nat) (x:de),X[j]?=some x→(fm X)[j*2]?=some (.slice (some ⟨x.1,x.2.1,none⟩) x.2.2.1 x.2.2.2.1)∧(fm X)[j*2+1]?=some (iT x.2.2.2.2)
 | [],j,x,h=>by simp at h
 | y :: X,0,x,h=>by simp at h;subst h;exact ⟨rfl,rfl⟩
 | y :: X,j+1,x,h=>by
  have:=tn X j x (by simpa using h)
  rw [io,show (j+1)*2=j*2+1+1 by omega]
  exact ⟨by rw [Hg,Hg];exact this.1,by rw [Hg,Hg];exact this.2⟩
theorem tm:∀(X:List de) (j:Nat) (x:de),((fm X).set (j*2) (.slice (some ⟨x.1,x.2.1,none⟩) x.2.2.1 x.2.2.2.1)).set (j*2+1) (iT x.2.2.2.2)=fm (X.set j x)
 | [],j,x=>rfl
 | y :: X,0,x=>rfl
 | y :: X,j+1,x=>by
  have:=tm X j x
  rw [io,show (j+1)*2=j*2+1+1 by omega,H9,H9,H9,H9,this]
  rfl
structure gT (w:World) (base g n c:Nat) (X:List de):Prop where
 owns:w.ownsRow base 164 2 (sL g n c) n (fm X)
 len:X.length=n
theorem gT.lt {X:List de} (h:gT w base g n c X):base≤g∧g<w.heap.size:=h.owns.lt g rfl
theorem gT.grown {X:List de} {row:Option Nat} (h:gT w base g n c X) (hg:w.grownBy w' row) (b:some g≠row):gT w' base g n c X:=⟨h.owns.kept hg (.inr b),h.len⟩
theorem gT.below {X:List de} (h:gT w base g n c X) (hb:Bl w w'):gT w' base g n c X :=
 h.grown (row:=none) ⟨hb.os,hb.tape,hb.output,hb.size,fun k hk _=>hb.block k hk⟩ (by simp)
theorem gT.at2 {X:List de} {x:de} (h:gT w base g n c X) (hx:X[i]?=some x):w.cell? ⟨g,i*2,none⟩=some (.slice (some ⟨x.1,x.2.1,none⟩) x.2.2.1 x.2.2.2.1)∧w.cell? ⟨g,i*2+1,none⟩=some (iT x.2.2.2.2):=by
 have hc:=h.owns.cells (g:=g) rfl;obtain ⟨h0,h1⟩:=tn X i x hx;have a0:=hc _ _ h0;have a1:=hc _ _ h1;rw [Gv] at a0 a1;simp only [Gp] at a0 a1;exact ⟨a0,a1⟩
theorem gT.cells {X:List de} (h:gT w base g n c X):∃d,w.heap[g]?=some (.cells d 164 (0,0)):=by
 rcases h.owns.2 with ⟨hv,_⟩ | ⟨f,e,b,hv,_,hg,_⟩
 · cases hv
 · cases hv;exact ⟨_,hg⟩
def setH (w:World) (g i:Nat) (x:de):World:=(w.setCell ⟨g,i*2,none⟩ (.slice (some ⟨x.1,x.2.1,none⟩) x.2.2.1 x.2.2.2.1)).setCell ⟨g,i*2+1,none⟩ (iT x.2.2.2.2)
theorem gT.setH {X:List de} {x:de} (h:gT w base g n c X):gT (setH w g i x) base g n c (X.set i x):=by
 have t0:=h.owns.stored (i*2) (.slice (some ⟨x.1,x.2.1,none⟩) x.2.2.1 x.2.2.2.1);have b:=t0.1.stored (i*2+1) (iT x.2.2.2.2);refine ⟨?_,by simp [h.len]⟩;have h1:=b.1;rw [tm] at h1;exact h1
theorem fG (w:World) (g o:Nat) (v:Value):w.grownBy (w.setCell ⟨g,o,none⟩ v) (some g) :=
 ⟨rfl,rfl,rfl,by simp [World.setCell],fun k _ hk=>Below.heap_setCell _ _ _ _ (fun e=>hk (by rw [e]))⟩
theorem qE (w:World) (g i:Nat) (x:de):w.grownBy (Go.Proofs.YtpobkmjicbobdaaGreat.setH w g i x) (some g):=(fG _ _ _ _).trans (fG _ _ _ _)
section
attribute [local go_sem] Hc
theorem qD (a:Option Addr) (n c:Nat) (w:World):Calls Tryz.prog 306 #[.slice a n c] w fun e w'=>e=.returned (iT n)∧w'=w:=by
 go_enter Tryz.func306,Tryz.ntmps306
 go_wp2;go_ret;exact ⟨rfl,rfl⟩
theorem iW (base g n c i j:Nat) (X:List de) (x y:de) (w:World) (hO:gT w base g n c X) (hx:X[i]?=some x) (hy:X[j]?=some y) :
 Calls Tryz.prog 308 #[sL g n c,iT i,iT j] w fun e w'=>e=.returned (.tuple #[])∧gT w' base g n c ((X.set i y).set j x)∧w.grownBy w' (some g):=by
 obtain ⟨J,N,H,I,L⟩:=x;obtain ⟨C,A,t,u,F⟩:=y;have U:=az hx;have Z:=az hy;have O:=az hO.len;have HI:Eq (i<n):=by have:=(F'.1 hx).1;have:=hO.len;show i<n;omega
 have W:Eq (j<n):=by have:=(F'.1 hy).1;have:=hO.len;show j<n;omega
 have pi:(i:Int)<(n:Int):=by have:=HI.o;omega
 have pj:(j:Int)<(n:Int):=by have:=W.o;omega
 have f:=hO.below (Below.refl _ w).drew;have Y:w.grownBy w.drew (some g):=⟨rfl,rfl,rfl,Gg _,fun _ _ _=>rfl⟩;go_enter Tryz.func308,Tryz.ntmps308
 go_wp2_with fail
 refine wp_region_held_drew (S:=(fun w'=>g<w'.heap.size)) (by kernel_rfl) (by exact f.lt.2) (fun m=>?_);generalize w.drew=T at f Y m ⊢;refine aO 0 7 m ?_;refine aO 8 3 m ?_;refine lI 7 11 (fun K hK=>?_) fun K hK=>?_
 focus
  obtain ⟨b,d⟩:=f.at2 Z.o
  simp only at b d
  have r:=f.lt.2
  go_simp
  refine hK.o _ _ (by exact f.lt.2) fun m=>?_
  refine aS 11 fun K hK=>?_
  obtain ⟨b,d⟩:=f.at2 U.o
 rotate_left
 focus
  obtain ⟨b,d⟩:=f.at2 U.o
  simp only at b d
  have r:=f.lt.2
  go_simp
  refine hK.o _ _ (by exact f.lt.2) fun m=>?_
  refine aS 7 fun K hK=>?_
  obtain ⟨b,d⟩:=f.at2 Z.o
 all_goals
  simp only at b d
  have r:=f.lt.2
  go_simp
  refine hK.o _ _ (by exact f.lt.2) fun m=>?_
  refine aO 12 1 m ?_
  refine aS 13 fun K hK=>?_
  obtain ⟨b,d⟩:=f.at2 U.o
  simp only at b d
  have r:=f.lt.2
  have D:=f.owns.frozenAt
  have f0:=D (i*2)
  have f1:=D (i*2+1)
  go_simp
  have k1:=f.setH (i:=i) (x:=(C,A,t,u,F))
  refine hK.o _ (setH T g i (C,A,t,u,F)) (by exact k1.lt.2) (fun m=>?_)
  have E:=qE T g i (C,A,t,u,F)
  generalize setH T g i (C,A,t,u,F)=s at k1 E m ⊢
  refine aO 14 1 m ?_
  refine aS 15 fun K hK=>?_
  obtain ⟨⟨zb,zo,zn,zc,zk⟩,HZ⟩:∃z,(X.set i (C,A,t,u,F))[j]?=some z:=⟨_,j' (by rw [IH,O.o];exact W.o)⟩
  obtain ⟨b,d⟩:=k1.at2 HZ
  simp only at b d
  have r:=k1.lt.2
  have D:=k1.owns.frozenAt
  have f0:=D (j*2)
  have f1:=D (j*2+1)
  go_simp
  have k2:=k1.setH (i:=j) (x:=(J,N,H,I,L))
  refine hK.o _ (setH s g j (J,N,H,I,L)) (by exact k2.lt.2) (fun m=>?_)
  have gw:=E.trans (qE s g j (J,N,H,I,L))
  generalize setH s g j (J,N,H,I,L)=a2 at k2 gw m ⊢
  refine dN ?_
  have R:=az k2
  have Q:=az (Y.trans gw)
  go_wp2
  go_end0
  exact ⟨rfl,R.o,Q.o⟩
end
end Go.Proofs.YtpobkmjicbobdaaGreat
