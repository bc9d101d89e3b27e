/- Walks. -/
import Derived.Test.YtpobkmjicbobdaaGreatBc35
namespace Go.Proofs.YtpobkmjicbobdaaGreat
set_option maxRecDepth 100000
set_option maxHeartbeats 40000000
open Go.RowKit
theorem pt {d:Nat} {w:World} {b n c i j:Nat} {B:List aj} (h:az d w (pT b) n c B) (f:i≤j) (m:j≤n):az d w (some ⟨b,if c=i then 0 else i*2,none⟩) (j - i) (c - i) ((B.drop i).take (j - i)) where
 length:=by rw [FC,FN,h.length];omega
 room:=by have:=h.room;omega
 big:=by have:=h.big;omega
 nil:=fun e=>by cases e
 lies:=fun x e hp=>by
  have h1:=h.lies _ rfl (by omega)
  cases e
  exact h1
 runs:=fun x e t g=>by
  rw [FC,FN,h.length] at g
  have hc:¬c=i:=by have:=h.room;omega
  have hl:i+t<B.length:=by rw [h.length];omega
  have h1:=h.runs _ rfl (i+t) hl
  cases e
  rw [Gn,Gr,if_neg hc]
  simp only [FG] at h1
  rw [show i*2+t*2=(i+t)*2 by omega]
  exact h1
theorem B8 (q:Int) (b1 nm cm e0 n0 c0 e1 n1 c1 e2 n2 c2:Nat) (ak:Option Addr) (nk ck:Nat) (M:List ae) (A B C:List aj) (S:List Int) (key:ByteArray) (seq:Int) (w:World) (ax:C8 w (pT b1) nm cm (pT e0) n0 c0 (pT e1) n1 c1 (pT e2) n2 c2 ak nk ck M A B C S) (ch:nm≤60) (hA:A.length≤4) (hB:B.length≤8) (hC:C.length≤8) (hM:aJ M=true) (aF:∀Z ∈ [A,B,C],∀r ∈ Z,cF r.1 r.2=true) (b4:bu B=true) (b7:bu C=true) :
 Calls Tryz.prog 107 #[.agg #[iT q,sL b1 nm cm,sL e0 n0 c0,sL e1 n1 c1,sL e2 n2 c2,.slice ak nk ck],.string key,iT seq] w fun e w'=>e=.returned (eW (gH (M++[A,B,C].flatMap (fun Z=>bf Z key seq)) key seq))∧Bl w w':=by
 have bU:=ax.r0.length;have ao:=ax.r1.length;have hl2:=ax.r2.length;have cp:n0≤4:=by omega
 have co:n1≤8:=by omega
 have ct:n2≤8:=by omega
 have bi:Eq (∀r ∈ A,cF r.1 r.2=true):=aF A (by simp);have aq:Eq (∀r ∈ B,cF r.1 r.2=true):=aF B (by simp);have au:Eq (∀r ∈ C,cF r.1 r.2=true):=aF C (by simp);have bm:=bT b4;have bF:=bT b7;have aw:=bT ax;have bQ:Eq (∀e ∈ M++[A,B,C].flatMap (fun Z=>bf Z key seq),e.2.2.2.1.size≤281474976710656):=fun e he=>by
  rcases FI.1 he with h | h
  · exact (nY hM e h).2
  · obtain ⟨Z,hZ,bX⟩:=He.1 h;obtain ⟨r,hr,bM⟩:=He.1 bX;exact (nY (d5 (aF Z hZ r hr)).1 e (Hj.1 bM).1).2
 obtain ⟨RC,b3⟩:=aG (eW (gH (M++[A,B,C].flatMap (fun Z=>bf Z key seq)) key seq));have CA:Eq (∀(base g n c:Nat) (w':World),ag w' base g n c (M++[A,B,C].flatMap (fun Z=>bf Z key seq))→n≤1048576→Calls Tryz.prog 43 #[sL g n c,.string key,iT seq] w' fun e c5=>e=.returned RC∧Bl w' c5):=fun base g n c w' h hn=>by
  rw [b3];exact ow _ n c _ key seq w' h.entsAt hn bQ.o
 obtain ⟨rb,rt,rn,bS⟩:∃(rb:Bool) (rt:ByteArray) (rn:Int),RC=.agg #[.bool rb,.string rt,iT rn]:=by
  rw [b3];exact ⟨_,_,_,rfl⟩
 rw [← b3];clear b3 bU ao hl2 aF b4 b7 hM hA hB hC;subst bS;obtain ⟨X,hX⟩:=aG w.heap.size;obtain ⟨W,hW⟩:=aG ((w.alloc (.cells #[iT q,sL b1 nm cm,sL e0 n0 c0,sL e1 n1 c1,sL e2 n2 c2,.slice ak nk ck] 82)).alloc (.cells #[.bool false,.string ⟨#[]⟩,iT 0] 57));have kW:Bl w W:=by rw [hW];exact bZ.alloc (by simp) _
 have bx:dE W X (iT q) (sL b1 nm cm) (sL e0 n0 c0) (sL e1 n1 c1) (sL e2 n2 c2) (.slice ak nk ck):=by rw [hW,hX];exact (dE.new _ _ _ _ _ _ _ _).alloc _
 have CC:Eq (Calls Tryz.prog 165 #[sL b1 nm cm] W fun e w'=>∃g c',e=.returned (sL g nm c')∧ag w' W.heap.size g nm c' M∧Bl W w'):=Cx b1 nm cm M W (ax.mem.keep kW) (by omega);have K0:Eq (Bl w W):=kW;have HX:Eq (X=w.heap.size):=hX;have BX:Eq (dE W X (iT q) (sL b1 nm cm) (sL e0 n0 c0) (sL e1 n1 c1) (sL e2 n2 c2) (.slice ak nk ck)):=bx;have c6:Eq (W.cell? ⟨X+1,0,none⟩=some (.bool false)∧W.cell? ⟨X+1,1,none⟩=some (.string ⟨#[]⟩)∧W.cell? ⟨X+1,2,none⟩=some (iT 0)∧(∀o,W.frozen? ⟨X+1,o,none⟩=false)∧X+1<W.heap.size):=by
  rw [hW,hX];refine ⟨?_,?_,?_,fun o=>?_,?_⟩ <;> simp
 have x1:=bx.c1;have xz:=bx.lt;clear kW bx ax;go_enter Tryz.func107,Tryz.ntmps107
 go_wp2_with fail
 rw [← hX,← hW];clear hX hW x1 xz;refine CC.o.mono ?_;rintro e u ⟨g,c',rfl,bE,b⟩;have D:Eq (ag u W.heap.size g nm c' M):=bE;have K1:Eq (Bl w u):=K0.o.trans (b.mono K0.o.size);have bj:=BX.o.keep b;have x2:=bj.all;have bl:Eq (Bl W u):=b;clear b bE CC bj;go_wp2;clear x2;go_loopw [7,19] (fun fv kv wr=>∃(k gf nf cf:Nat),k≤3∧kv=iT k∧fv=sL gf nf cf∧nf≤60+1200*k∧ag wr W.heap.size gf nf cf (M++([A,B,C].take k).flatMap (fun Z=>bf Z key seq))∧(Bl w wr∧Bl W wr)) (fun _ kv _=>3 - (intOf kv).toNat)
 case atStart=>exact ⟨0,g,nm,c',by omega,rfl,rfl,by omega,by simpa using D.o,K1.o,bl.o⟩
 case round =>
  clear D K1 bl;obtain ⟨k,gf,nf,cf,hk,rfl,rfl,cl,bJ,bg,K⟩:=hrel;have ap:Eq (ag wr W.heap.size gf nf cf (M++([A,B,C].take k).flatMap (fun Z=>bf Z key seq))):=bJ;have T:Eq (Bl w wr):=bg;have d:Eq (Bl W wr):=K;clear bJ bg K;match k,hk with
  | 0,_ =>
   have HR:Eq (∀w',Bl w w'→az 0 w' (pT e0) n0 c0 A):=fun w' kk=>aw.o.r0.keep kk
   have c4:Eq (A.length=n0):=aw.o.r0.length;obtain ⟨G,hG⟩:=aG (M++([A,B,C].take 0).flatMap (fun Z=>bf Z key seq));have HG:Eq (G=M++([A,B,C].take 0).flatMap (fun Z=>bf Z key seq)):=hG;have I:Eq (ag wr W.heap.size gf nf cf G):=by rw [hG];exact ap.o
   clear hG ap;obtain ⟨t,f⟩:=aG A;have a1:Eq (∀w',Bl w w'→az 0 w' (pT e0) n0 c0 t):=by rw [f];exact HR.o
   have a7:Eq (∀r ∈ t,cF r.1 r.2=true):=by rw [f];exact bi.o
   have aK:Eq (t.length=n0):=by rw [f];exact c4.o
   have Q:Eq (n0≤8):=by show _≤_;omega
   have aP:Eq (bf t key seq=bf A key seq):=by rw [f];rfl
   have a5:Eq (ag wr W.heap.size gf nf cf G):=I.o;have a8:Eq (Bl w wr):=T.o;have F:Eq (Bl W wr):=d.o;clear f I HR;go_wp2_with fail
   rw [Es];go_wp2;go_loopw [7,39] (fun fv jv wr=>∃(j g n c:Nat),j≤n0∧jv=iT j∧fv=sL g n c∧n≤60+150*j∧ag wr W.heap.size g n c (G++bf (t.take j) key seq)∧(Bl w wr∧Bl W wr)) (fun _ jv _=>n0 - (intOf jv).toNat)
   case atStart=>exact ⟨0,gf,nf,cf,FB _,rfl,rfl,by omega,by simpa [bf] using a5.o,a8.o,F.o⟩
   case round =>
    clear a5 a8 F;obtain ⟨j,g,n,c,hj,rfl,rfl,hn,hO,hb,K⟩:=hrel;have d:Eq (Bl W wr):=K;clear K;have HO:Eq (ag wr W.heap.size g n c (G++bf (t.take j) key seq)):=hO;have HB:Eq (Bl w wr):=hb;clear hO hb;by_cases aW:j<n0
    · have aa:(j:Int)<((n0:Nat):Int):=by omega
      have ab:(j:Int)<n0:=by omega
      obtain ⟨L,m,s,ne,ce,hr,bp,g0,g1,hE⟩:=(a1.o _ HB.o).run (Below.refl _ wr) j aW;have aN:Eq (t[j]?=some (L,m)):=hr;try simp only [FG] at g0 g1
      have aZ:=((a1.o _ HB.o).lies _ rfl (by omega)).1;simp only at aZ;obtain ⟨aS,ao,hl2⟩:=d5 (a7.o _ (Fw hr));have a3:Eq (ah wr s ne ce L):=hE.1;have bC:ne≤150:=by have:=hE.1.length;simp only at hl2;omega
      have b0:Eq (gM L m key seq=aR L key seq):=by
       show gM L m key seq=_
       exact kT (a7.o _ (Fw hr))
      clear hr hE aS ao hl2;obtain ⟨wq,N⟩:=aG (wr.alloc (.cells #[.slice s ne ce,iT m] 63));have kq:Bl wr wq:=by rw [N];exact bZ
      have CF:Eq (Calls Tryz.prog 166 #[.agg #[.slice s ne ce,iT m],.string key,iT seq] wq (qQ (aR L key seq) wq)):=by
       have h:=p6 s ne ce L m key seq wq (a3.o.keep kq) (by omega);rw [b0.o] at h;exact h
      have a6:Eq (Bl w wq):=HB.o.trans (kq.mono HB.o.size);have J:Eq (Bl W wq):=d.o.trans (kq.mono d.o.size);have aY:Eq (ag wq W.heap.size g n c (G++bf (t.take j) key seq)):=HO.o.below kq;clear kq;go_wp2_with fail
      rw [← N];clear N;refine CF.o.mono ?_;intro e u a4;obtain ⟨ar,nr,cr,rfl,O,b⟩:=lI a4;have y:Eq (Bl w u):=a6.o.trans (b.mono a6.o.size);have D:Eq (ag u W.heap.size g n c (G++bf (t.take j) key seq)):=aY.o.below b;have H:Eq (Bl W u):=J.o.trans (b.mono J.o.size);have aV:Eq (cT u wq.heap.size ar nr cr (aR L key seq)):=O;have bn:nr≤150:=by have h1:=O.entsAt.length;have h2:=iU L key seq;have h3:=a3.o.length;omega
      obtain ⟨x,ad⟩:=aG (n+nr);have aU:Eq (x=n+nr):=ad;have aI:Eq (x≤60+150*(j+1)):=by show _≤_;omega
      have aT:n≤1048576:=by have:=Q.o;omega
      have bh:j≤8:=by have:=Q.o;omega
      clear a4 O b ad;go_wp2_with (at_builtin;refine o7 rfl _ _ rfl W.heap.size wq.heap.size g n c _ rfl D.o ar nr cr _ rfl aV.o aT (by omega) x aU.o ?_;intro g2 c2 w2 aH a0)
      go_roundw
      case rel =>
       refine ⟨j+1,g2,x,c2,by omega,by go_num,rfl,aI.o,?_,y.o.grown a0 y.o.size (fun k e=>by cases e;exact FK K0.o.size D.o.lt.1),H.o.grown a0 H.o.size (fun k e=>by cases e;exact D.o.lt.1)⟩;rw [FU,aN.o];have e1:bf (t.take j++(some (L,m)).toList) key seq=bf (t.take j) key seq++aR L key seq:=by rw [gh];simp [bf]
       rw [e1,← FT];exact aH
      case measure=>simp [intOf];omega
    · have aa:¬(j:Int)<((n0:Nat):Int):=by omega
      have ab:¬(j:Int)<n0:=by omega
      have a9:j=n0:=by omega
      have E:Eq (ag wr W.heap.size g n c (M++([A,B,C].take 1).flatMap (fun Z=>bf Z key seq))∧n≤60+1200):=by
       have h:=HO.o;rw [a9,FH (by rw [aK.o];omega)] at h;refine ⟨?_,by have:=Q.o;omega⟩;rw [HG.o,aP.o] at h;simpa [List.take,Hr,FT] using h
      clear a9 HO;go_wp2;go_roundw
      case rel=>exact ⟨1,g,n,c,by omega,by go_num,rfl,by have:=E.o.2;omega,E.o.1,HB.o,d.o⟩
      case measure=>simp [intOf]
  | 1,_ =>
   have HR:Eq (∀w',Bl w w'→az 0 w' (pT e1) n1 c1 B):=fun w' kk=>aw.o.r1.keep kk
   have bD:Eq (B.length=n1):=aw.o.r1.length;obtain ⟨G,hG⟩:=aG (M++([A,B,C].take 1).flatMap (fun Z=>bf Z key seq));have HG:Eq (G=M++([A,B,C].take 1).flatMap (fun Z=>bf Z key seq)):=hG;have I:Eq (ag wr W.heap.size gf nf cf G):=by rw [hG];exact ap.o
   clear hG ap;have CM:Eq (Calls Tryz.prog 125 #[sL e1 n1 c1,.agg #[.string key,.string key]] wr fun e' w'=>∃i j:Nat,e'=.returned (.tuple #[iT i,iT j])∧f5 B key key i j∧Bl wr w'):=ou 0 _ n1 c1 B key key wr (HR.o _ T.o) (by omega) bm.o aq.o;go_wp2_with fail
   rw [Er];go_wp2_with fail
   refine CM.o.mono ?_;rintro e' u ⟨i0,j0,rfl,U,b⟩;have y:Eq (Bl w u):=T.o.trans (b.mono T.o.size);have Y:Eq (ag u W.heap.size gf nf cf G):=I.o.below b;have aM:Eq (f5 B key key i0 j0):=U;have aX:i0≤j0:=U.le aq.o (.inl rfl);have a2:j0≤n1:=by have h1:=U.2.1;have h2:=bD.o;omega
   have aO:=(HR.o _ y.o).room;have aL:(i0:Int)≤(j0:Int):=by omega
   have aQ:(j0:Int)≤(c1:Int):=by omega
   obtain ⟨ox,an⟩:=aG (if c1=i0 then 0 else i0*2);obtain ⟨nn,R⟩:=aG (j0 - i0);obtain ⟨cx,am⟩:=aG (c1 - i0);obtain ⟨t,f⟩:=aG ((B.drop i0).take (j0 - i0));have a1:Eq (∀w',Bl w w'→az 0 w' (some ⟨e1,ox,none⟩) nn cx t):=fun w' kk=>by rw [f,an,R,am];exact pt (HR.o w' kk) aX a2
   have a7:Eq (∀r ∈ t,cF r.1 r.2=true):=by rw [f];exact fun r hr=>aq.o r (Gf (F9 hr))
   have aK:Eq (t.length=nn):=by show _=_;rw [f,R,FC,FN,bD.o];omega
   have Q:Eq (nn≤8):=by show _≤_;omega
   have aP:Eq (bf t key seq=bf B key seq):=by rw [f];exact rX aM.o aq.o seq
   have a5:Eq (ag u W.heap.size gf nf cf G):=Y.o;have a8:Eq (Bl w u):=y.o;have F:Eq (Bl W u):=d.o.trans (b.mono d.o.size);have aD:(if c1=i0 then some (⟨e1,0,none⟩:Addr) else some ⟨e1,i0*2,none⟩)=some ⟨e1,ox,none⟩:=by rw [an];split <;> rfl
   clear b U I CM aM Y HR f an;go_upto_region 8 with fail
   try rw [aD]
   rw [← R,← am];clear aD R am aX a2 aL aQ aO;go_wp2;go_loopw [7,39] (fun fv jv wr=>∃(j g n c:Nat),j≤nn∧jv=iT j∧fv=sL g n c∧n≤1260+150*j∧ag wr W.heap.size g n c (G++bf (t.take j) key seq)∧(Bl w wr∧Bl W wr)) (fun _ jv _=>nn - (intOf jv).toNat)
   case atStart=>exact ⟨0,gf,nf,cf,FB _,rfl,rfl,by omega,by simpa [bf] using a5.o,a8.o,F.o⟩
   case round =>
    clear a5 a8 F;obtain ⟨j,g,n,c,hj,rfl,rfl,hn,hO,hb,K⟩:=hrel;have d:Eq (Bl W wr):=K;clear K;have HO:Eq (ag wr W.heap.size g n c (G++bf (t.take j) key seq)):=hO;have HB:Eq (Bl w wr):=hb;clear hO hb;by_cases aW:j<nn
    · have aa:(j:Int)<((nn:Nat):Int):=by omega
      have ab:(j:Int)<nn:=by omega
      obtain ⟨L,m,s,ne,ce,hr,bp,g0,g1,hE⟩:=(a1.o _ HB.o).run (Below.refl _ wr) j aW;have aN:Eq (t[j]?=some (L,m)):=hr;try simp only [FG] at g0 g1
      have aZ:=((a1.o _ HB.o).lies _ rfl (by omega)).1;simp only at aZ;obtain ⟨aS,ao,hl2⟩:=d5 (a7.o _ (Fw hr));have a3:Eq (ah wr s ne ce L):=hE.1;have bC:ne≤150:=by have:=hE.1.length;simp only at hl2;omega
      have b0:Eq (gM L m key seq=aR L key seq):=by
       show gM L m key seq=_
       exact kT (a7.o _ (Fw hr))
      clear hr hE aS ao hl2;obtain ⟨wq,N⟩:=aG (wr.alloc (.cells #[.slice s ne ce,iT m] 63));have kq:Bl wr wq:=by rw [N];exact bZ
      have CF:Eq (Calls Tryz.prog 166 #[.agg #[.slice s ne ce,iT m],.string key,iT seq] wq (qQ (aR L key seq) wq)):=by
       have h:=p6 s ne ce L m key seq wq (a3.o.keep kq) (by omega);rw [b0.o] at h;exact h
      have a6:Eq (Bl w wq):=HB.o.trans (kq.mono HB.o.size);have J:Eq (Bl W wq):=d.o.trans (kq.mono d.o.size);have aY:Eq (ag wq W.heap.size g n c (G++bf (t.take j) key seq)):=HO.o.below kq;clear kq;go_wp2_with fail
      rw [← N];clear N;refine CF.o.mono ?_;intro e u a4;obtain ⟨ar,nr,cr,rfl,O,b⟩:=lI a4;have y:Eq (Bl w u):=a6.o.trans (b.mono a6.o.size);have D:Eq (ag u W.heap.size g n c (G++bf (t.take j) key seq)):=aY.o.below b;have H:Eq (Bl W u):=J.o.trans (b.mono J.o.size);have aV:Eq (cT u wq.heap.size ar nr cr (aR L key seq)):=O;have bn:nr≤150:=by have h1:=O.entsAt.length;have h2:=iU L key seq;have h3:=a3.o.length;omega
      obtain ⟨x,ad⟩:=aG (n+nr);have aU:Eq (x=n+nr):=ad;have aI:Eq (x≤1260+150*(j+1)):=by show _≤_;omega
      have aT:n≤1048576:=by have:=Q.o;omega
      have bh:j≤8:=by have:=Q.o;omega
      clear a4 O b ad;go_wp2_with (at_builtin;refine o7 rfl _ _ rfl W.heap.size wq.heap.size g n c _ rfl D.o ar nr cr _ rfl aV.o aT (by omega) x aU.o ?_;intro g2 c2 w2 aH a0)
      go_roundw
      case rel =>
       refine ⟨j+1,g2,x,c2,by omega,by go_num,rfl,aI.o,?_,y.o.grown a0 y.o.size (fun k e=>by cases e;exact FK K0.o.size D.o.lt.1),H.o.grown a0 H.o.size (fun k e=>by cases e;exact D.o.lt.1)⟩;rw [FU,aN.o];have e1:bf (t.take j++(some (L,m)).toList) key seq=bf (t.take j) key seq++aR L key seq:=by rw [gh];simp [bf]
       rw [e1,← FT];exact aH
      case measure=>simp [intOf];omega
    · have aa:¬(j:Int)<((nn:Nat):Int):=by omega
      have ab:¬(j:Int)<nn:=by omega
      have a9:j=nn:=by omega
      have E:Eq (ag wr W.heap.size g n c (M++([A,B,C].take 2).flatMap (fun Z=>bf Z key seq))∧n≤1260+1200):=by
       have h:=HO.o;rw [a9,FH (by rw [aK.o];omega)] at h;refine ⟨?_,by have:=Q.o;omega⟩;rw [HG.o,aP.o] at h;simpa [List.take,Hr,FT] using h
      clear a9 HO;go_wp2;go_roundw
      case rel=>exact ⟨2,g,n,c,by omega,by go_num,rfl,by have:=E.o.2;omega,E.o.1,HB.o,d.o⟩
      case measure=>simp [intOf]
  | 2,_ =>
   have HR:Eq (∀w',Bl w w'→az 0 w' (pT e2) n2 c2 C):=fun w' kk=>aw.o.r2.keep kk
   have bv:Eq (C.length=n2):=aw.o.r2.length;obtain ⟨G,hG⟩:=aG (M++([A,B,C].take 2).flatMap (fun Z=>bf Z key seq));have HG:Eq (G=M++([A,B,C].take 2).flatMap (fun Z=>bf Z key seq)):=hG;have I:Eq (ag wr W.heap.size gf nf cf G):=by rw [hG];exact ap.o
   clear hG ap;have CM:Eq (Calls Tryz.prog 125 #[sL e2 n2 c2,.agg #[.string key,.string key]] wr fun e' w'=>∃i j:Nat,e'=.returned (.tuple #[iT i,iT j])∧f5 C key key i j∧Bl wr w'):=ou 0 _ n2 c2 C key key wr (HR.o _ T.o) (by omega) bF.o au.o;go_wp2_with fail
   rw [Ep];go_wp2_with fail
   refine CM.o.mono ?_;rintro e' u ⟨i0,j0,rfl,U,b⟩;have y:Eq (Bl w u):=T.o.trans (b.mono T.o.size);have Y:Eq (ag u W.heap.size gf nf cf G):=I.o.below b;have aM:Eq (f5 C key key i0 j0):=U;have aX:i0≤j0:=U.le au.o (.inl rfl);have a2:j0≤n2:=by have h1:=U.2.1;have h2:=bv.o;omega
   have aO:=(HR.o _ y.o).room;have aL:(i0:Int)≤(j0:Int):=by omega
   have aQ:(j0:Int)≤(c2:Int):=by omega
   obtain ⟨ox,an⟩:=aG (if c2=i0 then 0 else i0*2);obtain ⟨nn,R⟩:=aG (j0 - i0);obtain ⟨cx,am⟩:=aG (c2 - i0);obtain ⟨t,f⟩:=aG ((C.drop i0).take (j0 - i0));have a1:Eq (∀w',Bl w w'→az 0 w' (some ⟨e2,ox,none⟩) nn cx t):=fun w' kk=>by rw [f,an,R,am];exact pt (HR.o w' kk) aX a2
   have a7:Eq (∀r ∈ t,cF r.1 r.2=true):=by rw [f];exact fun r hr=>au.o r (Gf (F9 hr))
   have aK:Eq (t.length=nn):=by show _=_;rw [f,R,FC,FN,bv.o];omega
   have Q:Eq (nn≤8):=by show _≤_;omega
   have aP:Eq (bf t key seq=bf C key seq):=by rw [f];exact rX aM.o au.o seq
   have a5:Eq (ag u W.heap.size gf nf cf G):=Y.o;have a8:Eq (Bl w u):=y.o;have F:Eq (Bl W u):=d.o.trans (b.mono d.o.size);have aD:(if c2=i0 then some (⟨e2,0,none⟩:Addr) else some ⟨e2,i0*2,none⟩)=some ⟨e2,ox,none⟩:=by rw [an];split <;> rfl
   clear b U I CM aM Y HR f an;go_upto_region 8 with fail
   try rw [aD]
   rw [← R,← am];clear aD R am aX a2 aL aQ aO;go_wp2;go_loopw [7,39] (fun fv jv wr=>∃(j g n c:Nat),j≤nn∧jv=iT j∧fv=sL g n c∧n≤2460+150*j∧ag wr W.heap.size g n c (G++bf (t.take j) key seq)∧(Bl w wr∧Bl W wr)) (fun _ jv _=>nn - (intOf jv).toNat)
   case atStart=>exact ⟨0,gf,nf,cf,FB _,rfl,rfl,by omega,by simpa [bf] using a5.o,a8.o,F.o⟩
   case round =>
    clear a5 a8 F;obtain ⟨j,g,n,c,hj,rfl,rfl,hn,hO,hb,K⟩:=hrel;have d:Eq (Bl W wr):=K;clear K;have HO:Eq (ag wr W.heap.size g n c (G++bf (t.take j) key seq)):=hO;have HB:Eq (Bl w wr):=hb;clear hO hb;by_cases aW:j<nn
    · have aa:(j:Int)<((nn:Nat):Int):=by omega
      have ab:(j:Int)<nn:=by omega
      obtain ⟨L,m,s,ne,ce,hr,bp,g0,g1,hE⟩:=(a1.o _ HB.o).run (Below.refl _ wr) j aW;have aN:Eq (t[j]?=some (L,m)):=hr;try simp only [FG] at g0 g1
      have aZ:=((a1.o _ HB.o).lies _ rfl (by omega)).1;simp only at aZ;obtain ⟨aS,ao,hl2⟩:=d5 (a7.o _ (Fw hr));have a3:Eq (ah wr s ne ce L):=hE.1;have bC:ne≤150:=by have:=hE.1.length;simp only at hl2;omega
      have b0:Eq (gM L m key seq=aR L key seq):=by
       show gM L m key seq=_
       exact kT (a7.o _ (Fw hr))
      clear hr hE aS ao hl2;obtain ⟨wq,N⟩:=aG (wr.alloc (.cells #[.slice s ne ce,iT m] 63));have kq:Bl wr wq:=by rw [N];exact bZ
      have CF:Eq (Calls Tryz.prog 166 #[.agg #[.slice s ne ce,iT m],.string key,iT seq] wq (qQ (aR L key seq) wq)):=by
       have h:=p6 s ne ce L m key seq wq (a3.o.keep kq) (by omega);rw [b0.o] at h;exact h
      have a6:Eq (Bl w wq):=HB.o.trans (kq.mono HB.o.size);have J:Eq (Bl W wq):=d.o.trans (kq.mono d.o.size);have aY:Eq (ag wq W.heap.size g n c (G++bf (t.take j) key seq)):=HO.o.below kq;clear kq;go_wp2_with fail
      rw [← N];clear N;refine CF.o.mono ?_;intro e u a4;obtain ⟨ar,nr,cr,rfl,O,b⟩:=lI a4;have y:Eq (Bl w u):=a6.o.trans (b.mono a6.o.size);have D:Eq (ag u W.heap.size g n c (G++bf (t.take j) key seq)):=aY.o.below b;have H:Eq (Bl W u):=J.o.trans (b.mono J.o.size);have aV:Eq (cT u wq.heap.size ar nr cr (aR L key seq)):=O;have bn:nr≤150:=by have h1:=O.entsAt.length;have h2:=iU L key seq;have h3:=a3.o.length;omega
      obtain ⟨x,ad⟩:=aG (n+nr);have aU:Eq (x=n+nr):=ad;have aI:Eq (x≤2460+150*(j+1)):=by show _≤_;omega
      have aT:n≤1048576:=by have:=Q.o;omega
      have bh:j≤8:=by have:=Q.o;omega
      clear a4 O b ad;go_wp2_with (at_builtin;refine o7 rfl _ _ rfl W.heap.size wq.heap.size g n c _ rfl D.o ar nr cr _ rfl aV.o aT (by omega) x aU.o ?_;intro g2 c2 w2 aH a0)
      go_roundw
      case rel =>
       refine ⟨j+1,g2,x,c2,by omega,by go_num,rfl,aI.o,?_,y.o.grown a0 y.o.size (fun k e=>by cases e;exact FK K0.o.size D.o.lt.1),H.o.grown a0 H.o.size (fun k e=>by cases e;exact D.o.lt.1)⟩;rw [FU,aN.o];have e1:bf (t.take j++(some (L,m)).toList) key seq=bf (t.take j) key seq++aR L key seq:=by rw [gh];simp [bf]
       rw [e1,← FT];exact aH
      case measure=>simp [intOf];omega
    · have aa:¬(j:Int)<((nn:Nat):Int):=by omega
      have ab:¬(j:Int)<nn:=by omega
      have a9:j=nn:=by omega
      have E:Eq (ag wr W.heap.size g n c (M++([A,B,C].take 3).flatMap (fun Z=>bf Z key seq))∧n≤2460+1200):=by
       have h:=HO.o;rw [a9,FH (by rw [aK.o];omega)] at h;refine ⟨?_,by have:=Q.o;omega⟩;rw [HG.o,aP.o] at h;simpa [List.take,Hr,FT] using h
      clear a9 HO;go_wp2;go_roundw
      case rel=>exact ⟨3,g,n,c,by omega,by go_num,rfl,by have:=E.o.2;omega,E.o.1,HB.o,d.o⟩
      case measure=>simp [intOf]
  | 3,_ =>
   have bY:Eq (ag wr W.heap.size gf nf cf (M++[A,B,C].flatMap (fun Z=>bf Z key seq))):=ap.o;go_wp2_with fail
   refine (CA.o _ _ _ _ _ bY.o (by omega)).mono ?_;rintro e w2 ⟨rfl,be⟩;have K2:Eq (Bl w w2):=T.o.trans (be.mono T.o.size);have ay:=d.o.trans (be.mono d.o.size);obtain ⟨r0,r1,r2,rf,rz⟩:=c6.o;have r0:=cell_later ay r0;have r1:=cell_later ay r1;have r2:=cell_later ay r2;have rf:∀o,w2.frozen? ⟨X+1,o,none⟩=false:=fun o=>(ay.frozen (p:=⟨X+1,o,none⟩) rz).trans (rf o)
   have rz:=u' rz ay.size;clear be ay;go_wp2;refine bodyPost_ret (v:=.agg #[.bool rb,.string rt,iT rn]) ?_ rfl ⟨rfl,?_⟩
   · have bW:(((w2.setCell ⟨X+1,0,none⟩ (.bool rb)).setCell ⟨X+1,1,none⟩ (.string rt)).setCell ⟨X+1,2,none⟩ (iT rn)).cell? ⟨X+1,0,none⟩=some (.bool rb):=by rw [Ft _ _ _ _ (by simp),Ft _ _ _ _ (by simp)];exact FD _ _ _ (by rw [r0];rfl)
     have c8:(((w2.setCell ⟨X+1,0,none⟩ (.bool rb)).setCell ⟨X+1,1,none⟩ (.string rt)).setCell ⟨X+1,2,none⟩ (iT rn)).cell? ⟨X+1,1,none⟩=some (.string rt):=by rw [Ft _ _ _ _ (by simp)];exact FD _ _ _ (by rw [Ft _ _ _ _ (by simp),r1];rfl)
     have bR:(((w2.setCell ⟨X+1,0,none⟩ (.bool rb)).setCell ⟨X+1,1,none⟩ (.string rt)).setCell ⟨X+1,2,none⟩ (iT rn)).cell? ⟨X+1,2,none⟩=some (iT rn):=FD _ _ _ (by rw [Ft _ _ _ _ (by simp),Ft _ _ _ _ (by simp),r2];rfl);simp [results,Tryz.results107,go_sem,bW,c8,bR]
   · have hx:w.heap.size≤X+1:=by have:=HX.o;omega
     exact ((K2.o.setCell (p:=⟨X+1,0,none⟩) hx _).setCell (p:=⟨X+1,1,none⟩) hx _).setCell (p:=⟨X+1,2,none⟩) hx _
section
attribute [local go_sem] Gi
theorem Bd (b:Bool) (t k m:ByteArray) (n q d f:Int) (w:World) :
 Calls Tryz.prog 212 #[.agg #[.bool b,.string t,iT n],.agg #[.string k,iT q,iT d,.string m,iT f]] w fun e w'=>e=.returned (eW (fY b t n d m f))∧Bl w w':=by
 by_cases g:d=1
 · subst g;go_enter Tryz.func212,Tryz.ntmps212
   go_wp2;refine bodyPost_ret (v:=.agg #[.bool true,.string m,iT f]) (by simp [results,Tryz.results212,go_sem]) rfl ⟨by rw [yI];rfl,?_⟩;exact ((bZ.alloc (by simp) _).alloc (by simp;omega) _)
 by_cases r:d=2
 · subst r;go_enter Tryz.func212,Tryz.ntmps212
   go_wp2;refine bodyPost_ret (v:=.agg #[.bool false,.string ⟨#[]⟩,iT 0]) (by simp [results,Tryz.results212,go_sem]) rfl ⟨by rw [yH];rfl,?_⟩;exact ((bZ.alloc (by simp) _).alloc (by simp;omega) _)
 by_cases o:d=3
 · subst o;go_enter Tryz.func212,Tryz.ntmps212
   go_wp2;refine bodyPost_ret (v:=.agg #[.bool true,.string t,iT (wrap64 (n+f))]) (by simp [results,Tryz.results212,go_sem]) rfl ⟨by rw [yG];rfl,?_⟩;exact ((bZ.alloc (by simp) _).alloc (by simp;omega) _)
 have e1:(d == 1)=false:=by simpa using g
 have e2:(d == 2)=false:=by simpa using r
 have e3:(d == 3)=false:=by simpa using o
 go_enter Tryz.func212,Tryz.ntmps212
 go_wp2;refine bodyPost_ret (v:=.agg #[.bool b,.string t,iT n]) (by simp [results,Tryz.results212,go_sem]) rfl ⟨by rw [yJ g r o];rfl,?_⟩;exact ((bZ.alloc (by simp) _).alloc (by simp;omega) _)
end
end Go.Proofs.YtpobkmjicbobdaaGreat
