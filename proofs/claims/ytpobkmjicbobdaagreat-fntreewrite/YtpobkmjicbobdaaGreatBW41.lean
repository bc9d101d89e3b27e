/- Walks. -/
import Derived.Test.YtpobkmjicbobdaaGreatBW40
namespace Go.Proofs.YtpobkmjicbobdaaGreat
set_option maxRecDepth 100000
set_option maxHeartbeats 40000000
open Go.RowKit
variable {B:List af} {c n:Nat} {w:World}
theorem qt {lo:Nat} {b i j:Nat} (h:aw lo w (pT b) n c B) (f:i≤j) (g:j≤n):aw lo w (some ⟨b,if c=i then 0 else i*2,none⟩) (j - i) (c - i) ((B.drop i).take (j - i)) where
 length:=by rw [GS,G7,h.length];omega
 room:=by have:=h.room;omega
 big:=by have:=h.big;omega
 nil:=fun e=>by cases e
 lies:=fun x e hp=>by
  have h1:=h.lies _ rfl (by omega)
  cases e
  exact h1
 runs:=fun x e t d=>by
  rw [GS,G7,h.length] at d
  have hc:¬c=i:=by have:=h.room;omega
  have hl:i+t<B.length:=by rw [h.length];omega
  have h1:=h.runs _ rfl (i+t) hl
  cases e
  rw [If,Ij,if_neg hc]
  simp only [GT] at h1
  rw [show i*2+t*2=(i+t)*2 by omega]
  exact h1
theorem Dy (q:Int) (b1 nm cm e0 n0 c0 e1 n1 c1 e2 n2 c2:Nat) (ak:Option Addr) (nk ck:Nat) (M:List ac) (A B C:List af) (S:List Int) (key:ByteArray) (seq:Int) (w:World) (ay:pD w (pT b1) nm cm (pT e0) n0 c0 (pT e1) n1 c1 (pT e2) n2 c2 ak nk ck M A B C S) (cj:nm≤60) (hA:A.length≤4) (hB:B.length≤8) (hC:C.length≤8) (hM:aI M=true) (aJ:∀Z ∈ [A,B,C],∀r ∈ Z,cU r.1 r.2=true) (b7:bn B=true) (b5:bn C=true) :
 Calls Tryz.prog 107 #[.agg #[iT q,sL b1 nm cm,sL e0 n0 c0,sL e1 n1 c1,sL e2 n2 c2,.slice ak nk ck],.string key,iT seq] w fun e w'=>e=.returned (f5 (eX (M++[A,B,C].flatMap (fun Z=>bK Z key seq)) key seq))∧Bl w w':=by
 have bP:=ay.r0.length;have an:=ay.r1.length;have hl2:=ay.r2.length;have co:n0≤4:=by omega
 have cg:n1≤8:=by omega
 have cv:n2≤8:=by omega
 have bp:Eq (∀r ∈ A,cU r.1 r.2=true):=aJ A (by simp);have au:Eq (∀r ∈ B,cU r.1 r.2=true):=aJ B (by simp);have av:Eq (∀r ∈ C,cU r.1 r.2=true):=aJ C (by simp);have bt:=az b7;have bF:=az b5;have aA:=az ay;have bQ:Eq (∀e ∈ M++[A,B,C].flatMap (fun Z=>bK Z key seq),e.2.2.2.1.size≤281474976710656):=fun e he=>by
  rcases GX.1 he with h | h
  · exact (pd hM e h).2
  · obtain ⟨Z,hZ,c7⟩:=IR.1 h;obtain ⟨r,hr,bR⟩:=IR.1 c7;exact (pd (eL (aJ Z hZ r hr)).1 e (ID.1 bR).1).2
 obtain ⟨RC,b2⟩:=aG (f5 (eX (M++[A,B,C].flatMap (fun Z=>bK Z key seq)) key seq));have CA:Eq (∀(base g n c:Nat) (w':World),ag w' base g n c (M++[A,B,C].flatMap (fun Z=>bK Z key seq))→n≤1048576→Calls Tryz.prog 43 #[sL g n c,.string key,iT seq] w' fun e c4=>e=.returned RC∧Bl w' c4):=fun base g n c w' h hn=>by
  rw [b2];exact wK _ n c _ key seq w' h.entsAt hn bQ.o
 obtain ⟨rb,rt,rn,bX⟩:∃(rb:Bool) (rt:ByteArray) (rn:Int),RC=.agg #[.bool rb,.string rt,iT rn]:=by
  rw [b2];exact ⟨_,_,_,rfl⟩
 rw [← b2];clear b2 bP an hl2 aJ b7 b5 hM hA hB hC;subst bX;obtain ⟨X,hX⟩:=aG w.heap.size;obtain ⟨W,hW⟩:=aG ((w.alloc (.cells #[iT q,sL b1 nm cm,sL e0 n0 c0,sL e1 n1 c1,sL e2 n2 c2,.slice ak nk ck] 82)).alloc (.cells #[.bool false,.string ⟨#[]⟩,iT 0] 57));have kW:Bl w W:=by rw [hW];exact bZ.alloc (by simp) _
 have bx:cu W X (iT q) (sL b1 nm cm) (sL e0 n0 c0) (sL e1 n1 c1) (sL e2 n2 c2) (.slice ak nk ck):=by rw [hW,hX];exact (cu.new _ _ _ _ _ _ _ _).alloc _
 have CC:Eq (Calls Tryz.prog 165 #[sL b1 nm cm] W fun e w'=>∃g c',e=.returned (sL g nm c')∧ag w' W.heap.size g nm c' M∧Bl W w'):=D3 b1 nm cm M W (ay.mem.keep kW) (by omega);have K0:Eq (Bl w W):=kW;have HX:Eq (X=w.heap.size):=hX;have BX:Eq (cu W X (iT q) (sL b1 nm cm) (sL e0 n0 c0) (sL e1 n1 c1) (sL e2 n2 c2) (.slice ak nk ck)):=bx;have bT:Eq (W.cell? ⟨X+1,0,none⟩=some (.bool false)∧W.cell? ⟨X+1,1,none⟩=some (.string ⟨#[]⟩)∧W.cell? ⟨X+1,2,none⟩=some (iT 0)∧(∀o,W.frozen? ⟨X+1,o,none⟩=false)∧X+1<W.heap.size):=by
  rw [hW,hX];refine ⟨?_,?_,?_,fun o=>?_,?_⟩ <;> simp
 have x1:=bx.c1;have xz:=bx.lt;clear kW bx ay;go_enter Tryz.func107,Tryz.ntmps107
 go_wp2_with fail
 rw [← hX,← hW];clear hX hW x1 xz;refine CC.o.mono ?_;rintro e u ⟨g,c',rfl,br,b⟩;have x:Eq (ag u W.heap.size g nm c' M):=br;have K1:Eq (Bl w u):=K0.o.trans (b.mono K0.o.size);have bz:=BX.o.keep b;have x2:=bz.all;have bj:Eq (Bl W u):=b;clear b br CC bz;go_wp2;clear x2;go_loopw [7,19] (fun fv kv wr=>∃(k gf nf cf:Nat),k≤3∧kv=iT k∧fv=sL gf nf cf∧nf≤60+1200*k∧ag wr W.heap.size gf nf cf (M++([A,B,C].take k).flatMap (fun Z=>bK Z key seq))∧(Bl w wr∧Bl W wr)) (fun _ kv _=>3 - (intOf kv).toNat)
 case atStart=>exact ⟨0,g,nm,c',by omega,rfl,rfl,by omega,by simpa using x.o,K1.o,bj.o⟩
 case round =>
  clear x K1 bj;obtain ⟨k,gf,nf,cf,hk,rfl,rfl,cl,bq,bs,O⟩:=hrel;have ao:Eq (ag wr W.heap.size gf nf cf (M++([A,B,C].take k).flatMap (fun Z=>bK Z key seq))):=bq;have T:Eq (Bl w wr):=bs;have d:Eq (Bl W wr):=O;clear bq bs O;match k,hk with
  | 0,_ =>
   have HR:Eq (∀w',Bl w w'→aw 0 w' (pT e0) n0 c0 A):=fun w' kk=>aA.o.r0.keep kk
   have bU:Eq (A.length=n0):=aA.o.r0.length;obtain ⟨G,hG⟩:=aG (M++([A,B,C].take 0).flatMap (fun Z=>bK Z key seq));have HG:Eq (G=M++([A,B,C].take 0).flatMap (fun Z=>bK Z key seq)):=hG;have J:Eq (ag wr W.heap.size gf nf cf G):=by rw [hG];exact ao.o
   clear hG ao;obtain ⟨f,t⟩:=aG A;have ad:Eq (∀w',Bl w w'→aw 0 w' (pT e0) n0 c0 f):=by rw [t];exact HR.o
   have a7:Eq (∀r ∈ f,cU r.1 r.2=true):=by rw [t];exact bp.o
   have aW:Eq (f.length=n0):=by rw [t];exact bU.o
   have N:Eq (n0≤8):=by show _≤_;omega
   have aV:Eq (bK f key seq=bK A key seq):=by rw [t];rfl
   have a2:Eq (ag wr W.heap.size gf nf cf G):=J.o;have a8:Eq (Bl w wr):=T.o;have E:Eq (Bl W wr):=d.o;clear t J HR;go_wp2_with fail
   rw [DE];go_wp2;go_loopw [7,39] (fun fv jv wr=>∃(j g n c:Nat),j≤n0∧jv=iT j∧fv=sL g n c∧n≤60+150*j∧ag wr W.heap.size g n c (G++bK (f.take j) key seq)∧(Bl w wr∧Bl W wr)) (fun _ jv _=>n0 - (intOf jv).toNat)
   case atStart=>exact ⟨0,gf,nf,cf,GQ _,rfl,rfl,by omega,by simpa [bK] using a2.o,a8.o,E.o⟩
   case round =>
    clear a2 a8 E;obtain ⟨j,g,n,c,hj,rfl,rfl,hn,hO,hb,O⟩:=hrel;have d:Eq (Bl W wr):=O;clear O;have HO:Eq (ag wr W.heap.size g n c (G++bK (f.take j) key seq)):=hO;have HB:Eq (Bl w wr):=hb;clear hO hb;by_cases aL:j<n0
    · have aj:(j:Int)<((n0:Nat):Int):=by omega
      have a3:(j:Int)<n0:=by omega
      obtain ⟨L,m,s,ne,ce,hr,bl,g0,g1,hE⟩:=(ad.o _ HB.o).run (Below.refl _ wr) j aL;have aR:Eq (f[j]?=some (L,m)):=hr;try simp only [GT] at g0 g1
      have aF:=((ad.o _ HB.o).lies _ rfl (by omega)).1;simp only at aF;obtain ⟨aK,an,hl2⟩:=eL (a7.o _ (GP hr));have a5:Eq (ah wr s ne ce L):=hE.1;have bf:ne≤150:=by have:=hE.1.length;simp only at hl2;omega
      have aP:Eq (ia L m key seq=bw L key seq):=by
       show ia L m key seq=_
       exact lN (a7.o _ (GP hr))
      clear hr hE aK an hl2;obtain ⟨wq,Q⟩:=aG (wr.alloc (.cells #[.slice s ne ce,iT m] 63));have kq:Bl wr wq:=by rw [Q];exact bZ
      have CF:Eq (Calls Tryz.prog 166 #[.agg #[.slice s ne ce,iT m],.string key,iT seq] wq (sy (bw L key seq) wq)):=by
       have h:=qX s ne ce L m key seq wq (a5.o.keep kq) (by omega);rw [aP.o] at h;exact h
      have a6:Eq (Bl w wq):=HB.o.trans (kq.mono HB.o.size);have F:Eq (Bl W wq):=d.o.trans (kq.mono d.o.size);have b0:Eq (ag wq W.heap.size g n c (G++bK (f.take j) key seq)):=HO.o.below kq;clear kq;go_wp2_with fail
      rw [← Q];clear Q;refine CF.o.mono ?_;intro e u aa;obtain ⟨ar,nr,cr,rfl,K,b⟩:=my aa;have D:Eq (Bl w u):=a6.o.trans (b.mono a6.o.size);have x:Eq (ag u W.heap.size g n c (G++bK (f.take j) key seq)):=b0.o.below b;have H:Eq (Bl W u):=F.o.trans (b.mono F.o.size);have aM:Eq (cE u wq.heap.size ar nr cr (bw L key seq)):=K;have bi:nr≤150:=by have h1:=K.entsAt.length;have h2:=nE L key seq;have h3:=a5.o.length;omega
      obtain ⟨y,a9⟩:=aG (n+nr);have aT:Eq (y=n+nr):=a9;have aU:Eq (y≤60+150*(j+1)):=by show _≤_;omega
      have aZ:n≤1048576:=by have:=N.o;omega
      have bA:j≤8:=by have:=N.o;omega
      clear aa K b a9;go_wp2_with (at_builtin;refine uY rfl _ _ rfl W.heap.size wq.heap.size g n c _ rfl x.o ar nr cr _ rfl aM.o aZ (by omega) y aT.o ?_;intro g2 c2 w2 aH ae)
      go_roundw
      case rel =>
       refine ⟨j+1,g2,y,c2,by omega,by go_num,rfl,aU.o,?_,D.o.grown ae D.o.size (fun k e=>by cases e;exact GU K0.o.size x.o.lt.1),H.o.grown ae H.o.size (fun k e=>by cases e;exact x.o.lt.1)⟩;rw [Hc,aR.o];have e1:bK (f.take j++(some (L,m)).toList) key seq=bK (f.take j) key seq++bw L key seq:=by rw [jm];simp [bK]
       rw [e1,← Hd];exact aH
      case measure=>simp [intOf];omega
    · have aj:¬(j:Int)<((n0:Nat):Int):=by omega
      have a3:¬(j:Int)<n0:=by omega
      have a0:j=n0:=by omega
      have I:Eq (ag wr W.heap.size g n c (M++([A,B,C].take 1).flatMap (fun Z=>bK Z key seq))∧n≤60+1200):=by
       have h:=HO.o;rw [a0,GV (by rw [aW.o];omega)] at h;refine ⟨?_,by have:=N.o;omega⟩;rw [HG.o,aV.o] at h;simpa [List.take,I7,Hd] using h
      clear a0 HO;go_wp2;go_roundw
      case rel=>exact ⟨1,g,n,c,by omega,by go_num,rfl,by have:=I.o.2;omega,I.o.1,HB.o,d.o⟩
      case measure=>simp [intOf]
  | 1,_ =>
   have HR:Eq (∀w',Bl w w'→aw 0 w' (pT e1) n1 c1 B):=fun w' kk=>aA.o.r1.keep kk
   have bo:Eq (B.length=n1):=aA.o.r1.length;obtain ⟨G,hG⟩:=aG (M++([A,B,C].take 1).flatMap (fun Z=>bK Z key seq));have HG:Eq (G=M++([A,B,C].take 1).flatMap (fun Z=>bK Z key seq)):=hG;have J:Eq (ag wr W.heap.size gf nf cf G):=by rw [hG];exact ao.o
   clear hG ao;have CM:Eq (Calls Tryz.prog 125 #[sL e1 n1 c1,.agg #[.string key,.string key]] wr fun e' w'=>∃i j:Nat,e'=.returned (.tuple #[iT i,iT j])∧gh B key key i j∧Bl wr w'):=pr 0 _ n1 c1 B key key wr (HR.o _ T.o) (by omega) bt.o au.o;go_wp2_with fail
   rw [DD];go_wp2_with fail
   refine CM.o.mono ?_;rintro e' u ⟨i0,j0,rfl,R,b⟩;have D:Eq (Bl w u):=T.o.trans (b.mono T.o.size);have a1:Eq (ag u W.heap.size gf nf cf G):=J.o.below b;have aY:Eq (gh B key key i0 j0):=R;have aN:i0≤j0:=R.le au.o (.inl rfl);have Y:j0≤n1:=by have h1:=R.2.1;have h2:=bo.o;omega
   have aE:=(HR.o _ D.o).room;have aD:(i0:Int)≤(j0:Int):=by omega
   have aS:(j0:Int)≤(c1:Int):=by omega
   obtain ⟨ox,ap⟩:=aG (if c1=i0 then 0 else i0*2);obtain ⟨nn,U⟩:=aG (j0 - i0);obtain ⟨cx,am⟩:=aG (c1 - i0);obtain ⟨f,t⟩:=aG ((B.drop i0).take (j0 - i0));have ad:Eq (∀w',Bl w w'→aw 0 w' (some ⟨e1,ox,none⟩) nn cx f):=fun w' kk=>by rw [t,ap,U,am];exact qt (HR.o w' kk) aN Y
   have a7:Eq (∀r ∈ f,cU r.1 r.2=true):=by rw [t];exact fun r hr=>au.o r (H8 (Hq hr))
   have aW:Eq (f.length=nn):=by show _=_;rw [t,U,GS,G7,bo.o];omega
   have N:Eq (nn≤8):=by show _≤_;omega
   have aV:Eq (bK f key seq=bK B key seq):=by rw [t];exact tu aY.o au.o seq
   have a2:Eq (ag u W.heap.size gf nf cf G):=a1.o;have a8:Eq (Bl w u):=D.o;have E:Eq (Bl W u):=d.o.trans (b.mono d.o.size);have aX:(if c1=i0 then some (⟨e1,0,none⟩:Addr) else some ⟨e1,i0*2,none⟩)=some ⟨e1,ox,none⟩:=by rw [ap];split <;> rfl
   clear b R J CM aY a1 HR t ap;go_upto_region 8 with fail
   try rw [aX]
   rw [← U,← am];clear aX U am aN Y aD aS aE;go_wp2;go_loopw [7,39] (fun fv jv wr=>∃(j g n c:Nat),j≤nn∧jv=iT j∧fv=sL g n c∧n≤1260+150*j∧ag wr W.heap.size g n c (G++bK (f.take j) key seq)∧(Bl w wr∧Bl W wr)) (fun _ jv _=>nn - (intOf jv).toNat)
   case atStart=>exact ⟨0,gf,nf,cf,GQ _,rfl,rfl,by omega,by simpa [bK] using a2.o,a8.o,E.o⟩
   case round =>
    clear a2 a8 E;obtain ⟨j,g,n,c,hj,rfl,rfl,hn,hO,hb,O⟩:=hrel;have d:Eq (Bl W wr):=O;clear O;have HO:Eq (ag wr W.heap.size g n c (G++bK (f.take j) key seq)):=hO;have HB:Eq (Bl w wr):=hb;clear hO hb;by_cases aL:j<nn
    · have aj:(j:Int)<((nn:Nat):Int):=by omega
      have a3:(j:Int)<nn:=by omega
      obtain ⟨L,m,s,ne,ce,hr,bl,g0,g1,hE⟩:=(ad.o _ HB.o).run (Below.refl _ wr) j aL;have aR:Eq (f[j]?=some (L,m)):=hr;try simp only [GT] at g0 g1
      have aF:=((ad.o _ HB.o).lies _ rfl (by omega)).1;simp only at aF;obtain ⟨aK,an,hl2⟩:=eL (a7.o _ (GP hr));have a5:Eq (ah wr s ne ce L):=hE.1;have bf:ne≤150:=by have:=hE.1.length;simp only at hl2;omega
      have aP:Eq (ia L m key seq=bw L key seq):=by
       show ia L m key seq=_
       exact lN (a7.o _ (GP hr))
      clear hr hE aK an hl2;obtain ⟨wq,Q⟩:=aG (wr.alloc (.cells #[.slice s ne ce,iT m] 63));have kq:Bl wr wq:=by rw [Q];exact bZ
      have CF:Eq (Calls Tryz.prog 166 #[.agg #[.slice s ne ce,iT m],.string key,iT seq] wq (sy (bw L key seq) wq)):=by
       have h:=qX s ne ce L m key seq wq (a5.o.keep kq) (by omega);rw [aP.o] at h;exact h
      have a6:Eq (Bl w wq):=HB.o.trans (kq.mono HB.o.size);have F:Eq (Bl W wq):=d.o.trans (kq.mono d.o.size);have b0:Eq (ag wq W.heap.size g n c (G++bK (f.take j) key seq)):=HO.o.below kq;clear kq;go_wp2_with fail
      rw [← Q];clear Q;refine CF.o.mono ?_;intro e u aa;obtain ⟨ar,nr,cr,rfl,K,b⟩:=my aa;have D:Eq (Bl w u):=a6.o.trans (b.mono a6.o.size);have x:Eq (ag u W.heap.size g n c (G++bK (f.take j) key seq)):=b0.o.below b;have H:Eq (Bl W u):=F.o.trans (b.mono F.o.size);have aM:Eq (cE u wq.heap.size ar nr cr (bw L key seq)):=K;have bi:nr≤150:=by have h1:=K.entsAt.length;have h2:=nE L key seq;have h3:=a5.o.length;omega
      obtain ⟨y,a9⟩:=aG (n+nr);have aT:Eq (y=n+nr):=a9;have aU:Eq (y≤1260+150*(j+1)):=by show _≤_;omega
      have aZ:n≤1048576:=by have:=N.o;omega
      have bA:j≤8:=by have:=N.o;omega
      clear aa K b a9;go_wp2_with (at_builtin;refine uY rfl _ _ rfl W.heap.size wq.heap.size g n c _ rfl x.o ar nr cr _ rfl aM.o aZ (by omega) y aT.o ?_;intro g2 c2 w2 aH ae)
      go_roundw
      case rel =>
       refine ⟨j+1,g2,y,c2,by omega,by go_num,rfl,aU.o,?_,D.o.grown ae D.o.size (fun k e=>by cases e;exact GU K0.o.size x.o.lt.1),H.o.grown ae H.o.size (fun k e=>by cases e;exact x.o.lt.1)⟩;rw [Hc,aR.o];have e1:bK (f.take j++(some (L,m)).toList) key seq=bK (f.take j) key seq++bw L key seq:=by rw [jm];simp [bK]
       rw [e1,← Hd];exact aH
      case measure=>simp [intOf];omega
    · have aj:¬(j:Int)<((nn:Nat):Int):=by omega
      have a3:¬(j:Int)<nn:=by omega
      have a0:j=nn:=by omega
      have I:Eq (ag wr W.heap.size g n c (M++([A,B,C].take 2).flatMap (fun Z=>bK Z key seq))∧n≤1260+1200):=by
       have h:=HO.o;rw [a0,GV (by rw [aW.o];omega)] at h;refine ⟨?_,by have:=N.o;omega⟩;rw [HG.o,aV.o] at h;simpa [List.take,I7,Hd] using h
      clear a0 HO;go_wp2;go_roundw
      case rel=>exact ⟨2,g,n,c,by omega,by go_num,rfl,by have:=I.o.2;omega,I.o.1,HB.o,d.o⟩
      case measure=>simp [intOf]
  | 2,_ =>
   have HR:Eq (∀w',Bl w w'→aw 0 w' (pT e2) n2 c2 C):=fun w' kk=>aA.o.r2.keep kk
   have bu:Eq (C.length=n2):=aA.o.r2.length;obtain ⟨G,hG⟩:=aG (M++([A,B,C].take 2).flatMap (fun Z=>bK Z key seq));have HG:Eq (G=M++([A,B,C].take 2).flatMap (fun Z=>bK Z key seq)):=hG;have J:Eq (ag wr W.heap.size gf nf cf G):=by rw [hG];exact ao.o
   clear hG ao;have CM:Eq (Calls Tryz.prog 125 #[sL e2 n2 c2,.agg #[.string key,.string key]] wr fun e' w'=>∃i j:Nat,e'=.returned (.tuple #[iT i,iT j])∧gh C key key i j∧Bl wr w'):=pr 0 _ n2 c2 C key key wr (HR.o _ T.o) (by omega) bF.o av.o;go_wp2_with fail
   rw [DC];go_wp2_with fail
   refine CM.o.mono ?_;rintro e' u ⟨i0,j0,rfl,R,b⟩;have D:Eq (Bl w u):=T.o.trans (b.mono T.o.size);have a1:Eq (ag u W.heap.size gf nf cf G):=J.o.below b;have aY:Eq (gh C key key i0 j0):=R;have aN:i0≤j0:=R.le av.o (.inl rfl);have Y:j0≤n2:=by have h1:=R.2.1;have h2:=bu.o;omega
   have aE:=(HR.o _ D.o).room;have aD:(i0:Int)≤(j0:Int):=by omega
   have aS:(j0:Int)≤(c2:Int):=by omega
   obtain ⟨ox,ap⟩:=aG (if c2=i0 then 0 else i0*2);obtain ⟨nn,U⟩:=aG (j0 - i0);obtain ⟨cx,am⟩:=aG (c2 - i0);obtain ⟨f,t⟩:=aG ((C.drop i0).take (j0 - i0));have ad:Eq (∀w',Bl w w'→aw 0 w' (some ⟨e2,ox,none⟩) nn cx f):=fun w' kk=>by rw [t,ap,U,am];exact qt (HR.o w' kk) aN Y
   have a7:Eq (∀r ∈ f,cU r.1 r.2=true):=by rw [t];exact fun r hr=>av.o r (H8 (Hq hr))
   have aW:Eq (f.length=nn):=by show _=_;rw [t,U,GS,G7,bu.o];omega
   have N:Eq (nn≤8):=by show _≤_;omega
   have aV:Eq (bK f key seq=bK C key seq):=by rw [t];exact tu aY.o av.o seq
   have a2:Eq (ag u W.heap.size gf nf cf G):=a1.o;have a8:Eq (Bl w u):=D.o;have E:Eq (Bl W u):=d.o.trans (b.mono d.o.size);have aX:(if c2=i0 then some (⟨e2,0,none⟩:Addr) else some ⟨e2,i0*2,none⟩)=some ⟨e2,ox,none⟩:=by rw [ap];split <;> rfl
   clear b R J CM aY a1 HR t ap;go_upto_region 8 with fail
   try rw [aX]
   rw [← U,← am];clear aX U am aN Y aD aS aE;go_wp2;go_loopw [7,39] (fun fv jv wr=>∃(j g n c:Nat),j≤nn∧jv=iT j∧fv=sL g n c∧n≤2460+150*j∧ag wr W.heap.size g n c (G++bK (f.take j) key seq)∧(Bl w wr∧Bl W wr)) (fun _ jv _=>nn - (intOf jv).toNat)
   case atStart=>exact ⟨0,gf,nf,cf,GQ _,rfl,rfl,by omega,by simpa [bK] using a2.o,a8.o,E.o⟩
   case round =>
    clear a2 a8 E;obtain ⟨j,g,n,c,hj,rfl,rfl,hn,hO,hb,O⟩:=hrel;have d:Eq (Bl W wr):=O;clear O;have HO:Eq (ag wr W.heap.size g n c (G++bK (f.take j) key seq)):=hO;have HB:Eq (Bl w wr):=hb;clear hO hb;by_cases aL:j<nn
    · have aj:(j:Int)<((nn:Nat):Int):=by omega
      have a3:(j:Int)<nn:=by omega
      obtain ⟨L,m,s,ne,ce,hr,bl,g0,g1,hE⟩:=(ad.o _ HB.o).run (Below.refl _ wr) j aL;have aR:Eq (f[j]?=some (L,m)):=hr;try simp only [GT] at g0 g1
      have aF:=((ad.o _ HB.o).lies _ rfl (by omega)).1;simp only at aF;obtain ⟨aK,an,hl2⟩:=eL (a7.o _ (GP hr));have a5:Eq (ah wr s ne ce L):=hE.1;have bf:ne≤150:=by have:=hE.1.length;simp only at hl2;omega
      have aP:Eq (ia L m key seq=bw L key seq):=by
       show ia L m key seq=_
       exact lN (a7.o _ (GP hr))
      clear hr hE aK an hl2;obtain ⟨wq,Q⟩:=aG (wr.alloc (.cells #[.slice s ne ce,iT m] 63));have kq:Bl wr wq:=by rw [Q];exact bZ
      have CF:Eq (Calls Tryz.prog 166 #[.agg #[.slice s ne ce,iT m],.string key,iT seq] wq (sy (bw L key seq) wq)):=by
       have h:=qX s ne ce L m key seq wq (a5.o.keep kq) (by omega);rw [aP.o] at h;exact h
      have a6:Eq (Bl w wq):=HB.o.trans (kq.mono HB.o.size);have F:Eq (Bl W wq):=d.o.trans (kq.mono d.o.size);have b0:Eq (ag wq W.heap.size g n c (G++bK (f.take j) key seq)):=HO.o.below kq;clear kq;go_wp2_with fail
      rw [← Q];clear Q;refine CF.o.mono ?_;intro e u aa;obtain ⟨ar,nr,cr,rfl,K,b⟩:=my aa;have D:Eq (Bl w u):=a6.o.trans (b.mono a6.o.size);have x:Eq (ag u W.heap.size g n c (G++bK (f.take j) key seq)):=b0.o.below b;have H:Eq (Bl W u):=F.o.trans (b.mono F.o.size);have aM:Eq (cE u wq.heap.size ar nr cr (bw L key seq)):=K;have bi:nr≤150:=by have h1:=K.entsAt.length;have h2:=nE L key seq;have h3:=a5.o.length;omega
      obtain ⟨y,a9⟩:=aG (n+nr);have aT:Eq (y=n+nr):=a9;have aU:Eq (y≤2460+150*(j+1)):=by show _≤_;omega
      have aZ:n≤1048576:=by have:=N.o;omega
      have bA:j≤8:=by have:=N.o;omega
      clear aa K b a9;go_wp2_with (at_builtin;refine uY rfl _ _ rfl W.heap.size wq.heap.size g n c _ rfl x.o ar nr cr _ rfl aM.o aZ (by omega) y aT.o ?_;intro g2 c2 w2 aH ae)
      go_roundw
      case rel =>
       refine ⟨j+1,g2,y,c2,by omega,by go_num,rfl,aU.o,?_,D.o.grown ae D.o.size (fun k e=>by cases e;exact GU K0.o.size x.o.lt.1),H.o.grown ae H.o.size (fun k e=>by cases e;exact x.o.lt.1)⟩;rw [Hc,aR.o];have e1:bK (f.take j++(some (L,m)).toList) key seq=bK (f.take j) key seq++bw L key seq:=by rw [jm];simp [bK]
       rw [e1,← Hd];exact aH
      case measure=>simp [intOf];omega
    · have aj:¬(j:Int)<((nn:Nat):Int):=by omega
      have a3:¬(j:Int)<nn:=by omega
      have a0:j=nn:=by omega
      have I:Eq (ag wr W.heap.size g n c (M++([A,B,C].take 3).flatMap (fun Z=>bK Z key seq))∧n≤2460+1200):=by
       have h:=HO.o;rw [a0,GV (by rw [aW.o];omega)] at h;refine ⟨?_,by have:=N.o;omega⟩;rw [HG.o,aV.o] at h;simpa [List.take,I7,Hd] using h
      clear a0 HO;go_wp2;go_roundw
      case rel=>exact ⟨3,g,n,c,by omega,by go_num,rfl,by have:=I.o.2;omega,I.o.1,HB.o,d.o⟩
      case measure=>simp [intOf]
  | 3,_ =>
   have c6:Eq (ag wr W.heap.size gf nf cf (M++[A,B,C].flatMap (fun Z=>bK Z key seq))):=ao.o;go_wp2_with fail
   refine (CA.o _ _ _ _ _ c6.o (by omega)).mono ?_;rintro e w2 ⟨rfl,bb⟩;have K2:Eq (Bl w w2):=T.o.trans (bb.mono T.o.size);have ax:=d.o.trans (bb.mono d.o.size);obtain ⟨r0,r1,r2,rf,rz⟩:=bT.o;have r0:=cell_later ax r0;have r1:=cell_later ax r1;have r2:=cell_later ax r2;have rf:∀o,w2.frozen? ⟨X+1,o,none⟩=false:=fun o=>(ax.frozen (p:=⟨X+1,o,none⟩) rz).trans (rf o)
   have rz:=E' rz ax.size;clear bb ax;go_wp2;refine bodyPost_ret (v:=.agg #[.bool rb,.string rt,iT rn]) ?_ rfl ⟨rfl,?_⟩
   · have bY:(((w2.setCell ⟨X+1,0,none⟩ (.bool rb)).setCell ⟨X+1,1,none⟩ (.string rt)).setCell ⟨X+1,2,none⟩ (iT rn)).cell? ⟨X+1,0,none⟩=some (.bool rb):=by rw [GM _ _ _ _ (by simp),GM _ _ _ _ (by simp)];exact G3 _ _ _ (by rw [r0];rfl)
     have c8:(((w2.setCell ⟨X+1,0,none⟩ (.bool rb)).setCell ⟨X+1,1,none⟩ (.string rt)).setCell ⟨X+1,2,none⟩ (iT rn)).cell? ⟨X+1,1,none⟩=some (.string rt):=by rw [GM _ _ _ _ (by simp)];exact G3 _ _ _ (by rw [GM _ _ _ _ (by simp),r1];rfl)
     have bN:(((w2.setCell ⟨X+1,0,none⟩ (.bool rb)).setCell ⟨X+1,1,none⟩ (.string rt)).setCell ⟨X+1,2,none⟩ (iT rn)).cell? ⟨X+1,2,none⟩=some (iT rn):=G3 _ _ _ (by rw [GM _ _ _ _ (by simp),GM _ _ _ _ (by simp),r2];rfl);simp [results,Tryz.results107,go_sem,bY,c8,bN]
   · have hx:w.heap.size≤X+1:=by have:=HX.o;omega
     exact ((K2.o.setCell (p:=⟨X+1,0,none⟩) hx _).setCell (p:=⟨X+1,1,none⟩) hx _).setCell (p:=⟨X+1,2,none⟩) hx _
theorem jZ {q:Int} {M:List ac} {A C:List af} {S:List Int} (d:aP q M [A,B,C] S=true):(A.length≤4∧B.length≤8∧C.length≤8)∧(∀Z ∈ [A,B,C],∀r ∈ Z,cU r.1 r.2=true)∧bn B=true∧bn C=true:=by
 have b:=(aL d).2.2.2.2.2.2.2.1;unfold fa at b;simp only [G2] at b;obtain ⟨hA,hB,hC⟩:=b;rw [cP] at hA hB hC;have hb:∀{Z:List af},eY Z=false→∀r ∈ Z,cU r.1 r.2=true:=fun {Z} h r hr=>by
  unfold eY at h;rw [I5] at h;simpa using h r hr
 refine ⟨⟨by have:=hA.1;omega,by have:=hB.1;omega,by have:=hC.1;omega⟩,fun Z e=>?_,hB.2.2.2 rfl,hC.2.2.2 rfl⟩;simp only [GZ,Hs,or_false] at e;rcases e with rfl | rfl | rfl
 · exact hb hA.2.1
 · exact hb hB.2.1
 · exact hb hC.2.1
theorem Bn (L:List ac) (key:ByteArray) (seq:Int):bw (bw L key seq) key seq=bw L key seq:=by
 unfold bw;rw [List.filter_filter];simp
theorem jl (L K:List ac) (key:ByteArray) (seq:Int):bw (L++K) key seq=bw L key seq++bw K key seq:=by
 unfold bw;rw [Hw]
def b7 (M:List ac) (V:List (List af)) (key:ByteArray) (seq:Int):dE:=eX (M++V.flatMap (fun Z=>bK Z key seq)) key seq
theorem pB (q:Int) (u K E:Option Addr) (x A C F D I:Nat) (s0 s1 s2 s3 T:Value) (hs:(∃a n c,s0=.slice a n c)∧(∃a n c,s1=.slice a n c)∧(∃a n c,s2=.slice a n c)∧(∃a n c,s3=.slice a n c)∧(∃a n c,T=.slice a n c)) (key:ByteArray) (seq:Int) (f:Bool) (g:ByteArray) (m:Int) (w:World)
 (hC:∀w',Bl w w'→Calls Tryz.prog 86 #[.agg #[iT q,.slice u x A,.slice K C F,.slice E D I]] w' fun e d=>e=.returned (.tuple #[.agg #[iT q,s0,s1,s2,s3,T],.bool true])∧Bl w' d)
 (hD:∀w',Bl w w'→Calls Tryz.prog 107 #[.agg #[iT q,s0,s1,s2,s3,T],.string key,iT seq] w' fun e d=>e=.returned (.agg #[.bool f,.string g,iT m])∧Bl w' d) :
 Calls Tryz.prog 39 #[.agg #[iT q,.slice u x A,.slice K C F,.slice E D I],.string key,iT seq] w fun e w'=>e=.returned (.agg #[.bool f,.string g,iT m])∧Bl w w':=by
 obtain ⟨⟨m1,m2,m3,rfl⟩,⟨y1,y2,y3,rfl⟩,⟨z1,z2,z3,rfl⟩,⟨u1,u2,u3,rfl⟩,⟨v1,v2,v3,rfl⟩⟩:=hs;obtain ⟨X,y⟩:=aG w.heap.size;obtain ⟨W,H⟩:=aG ((w.alloc (.cells #[iT q,.slice u x A,.slice K C F,.slice E D I] 31)).alloc (.cells #[.bool false,.string ⟨#[]⟩,iT 0] 57));have R:Bl w W:=by rw [H];exact bZ.alloc (by simp) _
 have Q:ay W X (iT q) (.slice u x A) (.slice K C F) (.slice E D I):=by rw [H,y];exact (ay.new _ _ _ _ _ _).alloc _
 have Z:Eq (W.cell? ⟨X+1,0,none⟩=some (.bool false)∧W.cell? ⟨X+1,1,none⟩=some (.string ⟨#[]⟩)∧W.cell? ⟨X+1,2,none⟩=some (iT 0)∧(∀o,W.frozen? ⟨X+1,o,none⟩=false)∧X+1<W.heap.size):=by
  rw [H,y];refine ⟨?_,?_,?_,fun o=>?_,?_⟩ <;> simp
 have N:Eq (Bl w W):=R;have HX:Eq (X=w.heap.size):=y;have BX:Eq (ay W X (iT q) (.slice u x A) (.slice K C F) (.slice E D I)):=Q;have CS:=hC W R;have CD:Eq (∀w',Bl w w'→Calls Tryz.prog 107 #[.agg #[iT q,.slice m1 m2 m3,.slice y1 y2 y3,.slice z1 z2 z3,.slice u1 u2 u3,.slice v1 v2 v3],.string key,iT seq] w' fun e d=>e=.returned (.agg #[.bool f,.string g,iT m])∧Bl w' d):=hD;have x0:=Q.all;clear Q R hC hD;go_enter Tryz.func39,Tryz.ntmps39
 go_wp2_with fail
 rw [← y,← H];clear y H x0;refine CS.mono ?_;rintro e w1 ⟨rfl,t⟩;obtain ⟨wb,r⟩:=aG (w1.alloc (.cells #[iT q,.slice m1 m2 m3,.slice y1 y2 y3,.slice z1 z2 z3,.slice u1 u2 u3,.slice v1 v2 v3] 82));have kb:Bl w1 wb:=by rw [r];exact bZ
 have s:Eq (Bl W wb):=t.trans (kb.mono t.size);clear t kb;go_wp2_with fail
 rw [← r];clear r CS;refine (CD.o _ (N.o.trans (s.o.mono N.o.size))).mono ?_;rintro e L ⟨rfl,J⟩;have b:=s.o.trans (J.mono s.o.size);clear J;obtain ⟨U,r1,r2,rf,rz⟩:=Z.o;have U:=cell_later b U;have r1:=cell_later b r1;have r2:=cell_later b r2;have rf:∀o,L.frozen? ⟨X+1,o,none⟩=false:=fun o=>(b.frozen (p:=⟨X+1,o,none⟩) rz).trans (rf o)
 have rz:=E' rz b.size;have K2:Eq (Bl w L):=N.o.trans (b.mono N.o.size);clear b;go_wp2;refine bodyPost_ret (v:=.agg #[.bool f,.string g,iT m]) ?_ rfl ⟨rfl,?_⟩
 · have Y:(((L.setCell ⟨X+1,0,none⟩ (.bool f)).setCell ⟨X+1,1,none⟩ (.string g)).setCell ⟨X+1,2,none⟩ (iT m)).cell? ⟨X+1,0,none⟩=some (.bool f):=by rw [GM _ _ _ _ (by simp),GM _ _ _ _ (by simp)];exact G3 _ _ _ (by rw [U];rfl)
   have a6:(((L.setCell ⟨X+1,0,none⟩ (.bool f)).setCell ⟨X+1,1,none⟩ (.string g)).setCell ⟨X+1,2,none⟩ (iT m)).cell? ⟨X+1,1,none⟩=some (.string g):=by rw [GM _ _ _ _ (by simp)];exact G3 _ _ _ (by rw [GM _ _ _ _ (by simp),r1];rfl)
   have O:(((L.setCell ⟨X+1,0,none⟩ (.bool f)).setCell ⟨X+1,1,none⟩ (.string g)).setCell ⟨X+1,2,none⟩ (iT m)).cell? ⟨X+1,2,none⟩=some (iT m):=G3 _ _ _ (by rw [GM _ _ _ _ (by simp),GM _ _ _ _ (by simp),r2];rfl);simp [results,Tryz.results39,go_sem,Y,a6,O]
 · have hx:w.heap.size≤X+1:=by have:=HX.o;omega
   exact ((K2.o.setCell (p:=⟨X+1,0,none⟩) hx _).setCell (p:=⟨X+1,1,none⟩) hx _).setCell (p:=⟨X+1,2,none⟩) hx _
theorem sK {base g:Nat} {f:List Value} {P:List (List ac)} (ho:w.ownsRow base 28 1 (sL g n c) n f) (hh:ft w f P):cZ w (pT g) n c P:=by
 have b:=cC ho;have hl:P.length=n:=by have h1:=ho.1;have h2:=hh.1;omega
 refine ⟨hl,b.1,b.2,(fun e=>by cases e),?_,?_⟩
 · rintro x e _;cases e;exact ⟨(ho.lt g rfl).2,rfl⟩
 · rintro x e i hi;cases e;obtain ⟨s,m,d,h1,h2⟩:=hh.2 i P[i] (j' hi);refine ⟨s,m,d,?_,h2⟩;simp only [GT];exact (ho.cellAt i (by omega)).trans h1
def GE (w:World) (F:List ac) (e:Ending) (w':World):Prop:=(∃a n,e=.returned (.slice a n n)∧cE w' w.heap.size a n n F)∧Bl w w'
theorem pp (lo:Nat) (d:Int) (J av O:Option Addr) (K L X cv N Q:Nat) (M:List ac) (V:List (List af)) (S:List Int) (w:World) (D:aZ lo w J K L av X cv O N Q M V S) (hsz:aP d M V S=true→M.length+(Fv V+V.length)≤1048576) (I:aP d M V S=true→∀e ∈ M,FP e) (F:aP d M V S=true→∀B ∈ V,Gm B) :
 Calls Tryz.prog 29 #[.agg #[iT d,.slice J K L,.slice av X cv,.slice O N Q]] w (GE w (jP d M V S)):=by
 have y:Eq (V.length=X):=D.levels.length;have E:∀o,Bl w (w.alloc o):=fun o=>(Below.refl _ _).alloc (GL _) o
 by_cases hn:X=3
 · subst hn;obtain ⟨A,B,C,al⟩:∃A B C,V=[A,B,C]:=by
    have:=y.o;match V,this with
    | [A,B,C],_=>exact ⟨A,B,C,rfl⟩
   subst al;obtain ⟨b,a9,rfl,Y⟩:=D.levels.form (by omega);obtain ⟨A',a0,W,c0,hA,l0,s⟩:=D.levels.level (Below.refl _ w) 0 (by omega);obtain ⟨B',a1,n1,c1,hB,l1,u⟩:=D.levels.level (Below.refl _ w) 1 (by omega);obtain ⟨C',a2,n2,c2,hC,l2,t⟩:=D.levels.level (Below.refl _ w) 2 (by omega);simp only [IF,Ig,Ix] at hA hB hC;subst hA hB hC;rw [Ik] at l0;obtain ⟨Z,U⟩:=aG (aP d M [A,B,C] S);have H:Eq (∀w',Bl w w'→Calls Tryz.prog 86 #[.agg #[iT d,.slice J K L,sO b a9 3 cv,.slice O N Q]] w' fun e ao=>e=.returned (.tuple #[.agg #[iT d,.slice J K L,.slice a0 W c0,.slice a1 n1 c1,.slice a2 n2 c2,.slice O N Q],.bool Z])∧Bl w' ao):=fun w' k=>by
    rw [U];exact jh lo d J O K L b a9 cv N Q M A B C S a0 a1 a2 W c0 n1 c1 n2 c2 w' (D.mem.1.keep k) (D.snaps.keep k) (s.keep k) (u.keep k) (t.keep k) (cell_later k l0) (cell_later k l1) (cell_later k l2)
   cases Z with
   | false =>
    have HF:Eq (jP d M [A,B,C] S=[]):=by show jP _ _ _ _=_;unfold jP;rw [← U];rfl
    clear U D y l0 l1 l2 s u t Y hsz I F;go_enter Tryz.func29,Tryz.ntmps29
    go_wp2_with fail
    refine (H.o _ (E _)).mono ?_;rintro e w1 ⟨rfl,f⟩;have x:Eq (Bl w w1):=(E _).trans (f.mono (E _).size);clear f E H;go_wp2;go_ret;exact ⟨⟨none,0,rfl,by rw [HF.o];exact cE.none _ _⟩,x.o.alloc x.o.size _⟩
   | true =>
    have hq:=(lj d M A B C S).1 U.symm;have r:=U.symm;obtain ⟨P,T⟩:=aG (dq M A B C);have HF:Eq (jP d M [A,B,C] S=aS P.flatten):=by show jP _ _ _ _=_;unfold jP;rw [if_pos r,← Aw r,T]
    have aj:=(gG M A B C).length_eq;have ap:=vg M A B C;have a4:=zl (I r) (F r);have a3:∀e ∈ P.flatten,FP e:=fun e he=>a4 e ((gG M A B C).mem_iff.1 (by rw [← T];exact he))
    have ab:P.flatten.length≤1048576:=by have:=hsz r;rw [T];omega
    have hsl:W≤8∧n1≤8∧n2≤8:=by
     have h6:=hq.2.2.2.2.2.1;have hI:bF A B C=true→((A.length:Int)≤4)∧((B.length:Int)≤8)∧((C.length:Int)≤8):=by
      unfold bF vZ qH;simp only [G2,decide_eq_true_eq,Jh];rintro ⟨⟨h1,_⟩,⟨h2,_⟩,h3,_⟩;exact ⟨h1,h2,h3⟩
     have h7:=hI h6;have e0:=s.length;have e1:=u.length;have e2:=t.length;omega
    have CL:Eq (∀w',Bl w w'→Calls Tryz.prog 94 #[.agg #[iT d,.slice J K L,.slice a0 W c0,.slice a1 n1 c1,.slice a2 n2 c2,.slice O N Q]] w' (zi w w' P)):=fun w' k=>by
     rw [T];exact callsIn_wide.1 (tJ lo d J O K L N Q a0 a1 a2 W c0 n1 c1 n2 c2 M A B C w w' k D.mem.1 s u t hsl.1 hsl.2.1 hsl.2.2)
    have an:P.length≤1048576:=by
     have e0:=s.length;have e1:=u.length;have e2:=t.length;rw [T];simp [dq];omega
    have CM:Eq (∀(g n c:Nat) (w':World),cZ w' (pT g) n c P→Calls Tryz.prog 93 #[sL g n c] w' (Ej w' P)):=fun g n c w' h=>callsIn_wide.1 (tI _ _ _ P w' h (by have:=h.length;omega) ab a3)
    clear U D y l0 l1 l2 s u t Y hsz I F T hq r aj ap a4 a3 ab hsl an;go_enter Tryz.func29,Tryz.ntmps29
    go_wp2_with fail
    refine (H.o _ (E _)).mono ?_;rintro e w1 ⟨rfl,f⟩;have x:Eq (Bl w w1):=(E _).trans (f.mono (E _).size);clear f E H;go_wp2_with fail
    refine (CL.o _ (x.o.alloc x.o.size _)).mono ?_;rintro e w2 ⟨⟨g,n,c,vs,rfl,ho,hh⟩,aa⟩;have K2:Eq (Bl w w2):=(x.o.alloc x.o.size _).trans (aa.mono (x.o.alloc x.o.size _).size);have a5:Eq (cZ w2 (pT g) n c P):=sK ho (hh.keep K2.o);clear ho hh aa;go_wp2_with fail
    refine (CM.o _ _ _ _ a5.o).mono ?_;rintro e w3 ⟨⟨g3,rfl,R⟩,ae⟩;obtain ⟨m,hm⟩:=aG P.flatten.length;rw [← hm] at R ⊢;have aq:Eq (ag w3 w.heap.size g3 m m (aS P.flatten)):=R.mono K2.o.size;have K3:Eq (Bl w w3):=K2.o.trans (ae.mono K2.o.size);clear R ae a5 hm;go_wp2;go_ret;exact ⟨⟨_,m,rfl,by rw [HF.o];exact cE.some aq.o⟩,K3.o⟩
 · have HZ:Eq (aP d M V S=false):=ii (fun h=>hn (by have:=(aL h).2.2.2.2.2.1;have:=y.o;omega));have HF:Eq (jP d M V S=[]):=by show jP _ _ _ _=_;unfold jP;rw [HZ.o];rfl
   clear D y hsz I F;go_enter Tryz.func29,Tryz.ntmps29
   go_wp2_with fail
   refine (kM d J av O K L X cv N Q _ hn).mono ?_;rintro e w1 ⟨rfl,f⟩;have x:Eq (Bl w w1):=(E _).trans (f.mono (E _).size);clear f E;go_wp2;go_ret;exact ⟨⟨none,0,rfl,by rw [HF.o];exact cE.none _ _⟩,x.o.alloc x.o.size _⟩
theorem Tryz.infoStrK:(Tryz.prog.info? 9).map (fun i=>(i.zero,i.size,i.bytes))=some (some (.string ByteArray.empty),1,16):=by kernel_rfl
def Gg (n:Nat) (w:World) (e:Ending) (w':World):Prop:=∃(g m k:Nat) (ks:List ByteArray),e=.returned (sL g m k)∧w'.ownsRow w.heap.size 9 1 (sL g m k) m (ks.map .string)∧m≤n+2∧Bl w w'
theorem pV (a:Option Addr) (n c:Nat) (L:List ac) (w:World) (hE:ah w a n c L) (hn:n≤100000) :
 Calls Tryz.prog 50 #[.slice a n c] w (Gg n w):=by
 obtain ⟨i0,hi,a0,a2,Y⟩:=info_parts Tryz.infoStrK;obtain ⟨W,U⟩:=aG (w.alloc (.cells #[.string ⟨#[97]⟩,.string ⟨#[110,111,110,101]⟩] 9));have hO:W.ownsRow w.heap.size 9 1 (sL (w.heap.size) 2 2) 2 (([⟨#[97]⟩,⟨#[110,111,110,101]⟩]:List ByteArray).map .string):=by
  rw [U];exact Hi (base:=w.heap.size) (e:=9) (size:=1) w #[.string ⟨#[97]⟩,.string ⟨#[110,111,110,101]⟩] 2 (GL _) (by unfold maxLen;omega) (by simp)
 have kW:Bl w W:=by rw [U];exact bZ
 have T:=az hE;clear hE;go_enter Tryz.func50,Tryz.ntmps50
 go_upto_region 2 with fail
 rw [← U];clear U;go_wp2;go_loopw [3,4] (fun ov Z wr=>∃(i g m k:Nat) (s:List ByteArray),Z=iT (i:Int)∧i≤n∧ov=sL g m k∧2≤m∧m≤i+2∧wr.ownsRow w.heap.size 9 1 (sL g m k) m (s.map .string)∧Bl w wr) (fun _ Z _=>n - (intOf Z).toNat)
 case atStart=>exact ⟨0,w.heap.size,2,2,_,rfl,by omega,rfl,by omega,by omega,hO,kW⟩
 case round =>
  clear hO kW;obtain ⟨i,g,m,k,s,rfl,ak,rfl,a3,ab,ho,hb⟩:=hrel;have H:Eq (wr.ownsRow w.heap.size 9 1 (sL g m k) m (s.map .string)):=ho;have A:Eq (Bl w wr):=hb;clear ho hb;by_cases af:i<n
  · have R:(i:Int)<(n:Int):=by omega
    have a7:IntKind.i64.wrap ((i:Int)+1)=(i:Int)+1:=by rw [G4];unfold wrap64;omega
    have ad:IntKind.i64.wrap ((m:Int) - 1)=((m - 1:Nat):Int):=by rw [G4];unfold wrap64;omega
    have am:m - 1<m:=by omega
    have J:i<L.length:=by have:=T.o.length;omega
    obtain ⟨x,rfl⟩:∃x,a=some x:=by
     cases a with
     | none=>have:=T.o.nil rfl;omega
     | some x=>exact ⟨x,rfl⟩
    obtain ⟨b,Q,sp⟩:=x;have I:=(T.o.lies _ rfl (by omega)).2;simp only at I;subst I;have r:Eq (∀w',Bl wr w'→w'.cell? ⟨b,Q+i*5,none⟩=some (.string L[i].1)∧b<w'.heap.size):=fun w' hk=>by
     have h1:=(T.o.keep (A.o.trans (hk.mono A.o.size))).cells _ rfl i J;exact ⟨by simpa using h1.1,E' (GK _ _ ((T.o.cells _ rfl i J).1)) (GU A.o.size hk.size)⟩
    obtain ⟨key,y⟩:=aG (L[i].1);have ag:s.length=m:=by have:=H.o.1;rw [Id] at this;omega
    obtain ⟨last,f⟩:=aG (s[m - 1]'(by omega));have K:Eq (∀w',Bl wr w'→w'.cell? ⟨g,m - 1,none⟩=some (.string last)∧g<w'.heap.size):=fun w' hk=>by
     have h1:=(mS H.o hk).cellAt (m - 1) (by omega);rw [Iy,j' (by omega),← f] at h1;exact ⟨h1,E' (H.o.lt g rfl).2 hk.size⟩
    rw [← y] at r;clear f y;have X:Eq (∀w',Bl wr w'→(fun w':World=>w'.cell? ⟨b,Q+i*5,none⟩=some (.string key)∧b<w'.heap.size∧w'.cell? ⟨g,m - 1,none⟩=some (.string last)∧g<w'.heap.size) w'):=fun w' hk=>⟨(r.o w' hk).1,(r.o w' hk).2,(K.o w' hk).1,(K.o w' hk).2⟩
    go_upto_region 5 with fail
    refine eJ X (Below.refl _ wr).drew fun aa=>?_
    have D:Eq (Bl wr wr.drew):=(Below.refl _ wr).drew;generalize wr.drew=F at aa D ⊢;by_cases hs:key=last
    · have g1:(key.toList == last.toList)=true:=by simpa using congrArg ByteArray.toList hs
      refine aR 0 12 aa ?_;refine dN ?_;go_wp2;go_roundw
      case rel=>exact ⟨i+1,g,m,k,s,by rw [show ((i+1:Nat):Int)=(i:Int)+1 by omega],by omega,rfl,a3,by omega,mS H.o D.o,A.o.trans (D.o.mono A.o.size)⟩
      case measure=>simp [intOf];omega
    · have g1:(key.toList == last.toList)=false:=by rw [beq_eq_false_iff_ne];intro e;rw [Hk,Hk] at e;exact hs (IP (II.1 e))
      refine aR 0 12 aa ?_;refine dN ?_;have ae:=(r.o F D.o).1;have a8:=(r.o F D.o).2;have O:Eq (F.ownsRow w.heap.size 9 1 (sL g m k) m (s.map .string)):=mS H.o D.o;have u:Eq (Bl w F):=A.o.trans (D.o.mono A.o.size);go_wp2_with (at_builtin;refine wpList_append_own _ rfl _ _ 67 rfl w.heap.size 9 i0 _ 1 16 Tryz.underlying67 hi a0 a2 Y rfl (by decide) _ _ _ rfl (O.o.alloc _) ⟨F.heap.size,0,none⟩ 1 1 [Value.string key] rfl rfl (by intro j u' E;match j,E with | 0,E=>simp at E;subst E;simp [Addr.add]) (by intro u' N;simp at N;subst N;rfl) (by unfold maxLen;omega) (by omega) (by have:=u.o.size;simp;omega) ?_;intro v2 w4 d t C;obtain ⟨g2,c2,rfl⟩:=ur d C)
      have a1:(F.alloc (.cells #[.string key] 9)).grownBy w4 (some g):=t;go_roundw
      case rel=>exact ⟨i+1,g2,m+1,c2,s++[key],by rw [show ((i+1:Nat):Int)=(i:Int)+1 by omega],by omega,rfl,by omega,by omega,by rw [Iw];exact d,(u.o.alloc u.o.size _).grown a1 (by have:=u.o.size;simp;omega) (fun j E=>by cases E;exact (O.o.lt g rfl).1)⟩
      case measure=>simp [intOf];omega
  · have R:¬(i:Int)<(n:Int):=by omega
    go_wp2_with fail
    go_ret;exact ⟨g,m,k,s,rfl,H.o,by omega,A.o⟩
end Go.Proofs.YtpobkmjicbobdaaGreat
