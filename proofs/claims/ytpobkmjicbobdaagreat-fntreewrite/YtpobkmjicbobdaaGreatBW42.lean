/- Walks. -/
import Derived.Test.YtpobkmjicbobdaaGreatBW41
namespace Go.Proofs.YtpobkmjicbobdaaGreat
set_option maxRecDepth 100000
set_option maxHeartbeats 40000000
open Go.RowKit
variable {K L M:List ac} {S:List Int} {V:List (List af)} {av:Option Addr} {b c k lo o:Nat} {q:Int} {w w':World}
def u9 (c:dE) (w:World) (e:Ending) (w':World):Prop:=e=.returned (.agg #[.bool c.1,.string c.2.1,iT c.2.2])∧Bl w w'
theorem zv {base base' e size n m g:Nat} {xs:List Value} (h:w.ownsRow base e size (sL g m c) n xs) (hb:base'≤base):w.ownsRow base' e size (sL g m c) n xs:=eN h hb
theorem Ch (q1:Int) (F:Option Addr) (D O:Nat) (N:Option Addr) (H J:Nat) (r:Option Addr) (f m:Nat) (S:List Int) (q2:Int) (a8:Option Addr) (a9 Y:Nat) (Z:Option Addr) (a4 a1:Nat) (a5:Option Addr) (ab a7:Nat) (L:List ac) (c:ByteArray→Int→dE) (w:World)
 (hS:bJ 0 w r f m S) (hns:f≤100) (hL:L.length≤100000)
 (hAll:∀w',Bl w w'→Calls Tryz.prog 29 #[.agg #[iT q1,.slice F D O,.slice N H J,.slice r f m]] w' fun e U=>(∃a n k,e=.returned (.slice a n k)∧ah U a n k L)∧Bl w' U)
 (hA:∀key t,t ∈ S++[q1]→∀w',Bl w w'→Calls Tryz.prog 39 #[.agg #[iT q1,.slice F D O,.slice N H J,.slice r f m],.string key,iT t] w' (u9 (c key t) w'))
 (hB:∀key t,t ∈ S++[q1]→∀w',Bl w w'→Calls Tryz.prog 39 #[.agg #[iT q2,.slice a8 a9 Y,.slice Z a4 a1,.slice a5 ab a7],.string key,iT t] w' (u9 (c key t) w')) :
 Calls Tryz.prog 46 #[.agg #[iT q1,.slice F D O,.slice N H J,.slice r f m],.agg #[iT q2,.slice a8 a9 Y,.slice Z a4 a1,.slice a5 ab a7]] w fun e w'=>e=.returned (.bool true)∧Bl w w':=by
 obtain ⟨j0,E,ak,ag,ai⟩:=info_parts Tryz.infoInt;obtain ⟨X,hX⟩:=aG w.heap.size;obtain ⟨W,hW⟩:=aG ((w.alloc (.cells #[iT q1,.slice F D O,.slice N H J,.slice r f m] 31)).alloc (.cells #[iT q2,.slice a8 a9 Y,.slice Z a4 a1,.slice a5 ab a7] 31));have kW:Bl w W:=by rw [hW];exact bZ.alloc (by simp) _
 have BA:Eq (ay W X (iT q1) (.slice F D O) (.slice N H J) (.slice r f m)):=by rw [hW,hX];exact (ay.new _ _ _ _ _ _).alloc _
 have BB:Eq (ay W (X+1) (iT q2) (.slice a8 a9 Y) (.slice Z a4 a1) (.slice a5 ab a7)):=by
  have:=ay.new (w.alloc (.cells #[iT q1,.slice F D O,.slice N H J,.slice r f m] 31)) 31 (iT q2) (.slice a8 a9 Y) (.slice Z a4 a1) (.slice a5 ab a7);rw [GY] at this;rw [hW,hX];exact this
 have KW:Eq (Bl w W):=kW;have HS:Eq (bJ 0 W r f m S):=hS.keep kW;have aA:Eq (∀w',Bl W w'→Calls Tryz.prog 29 #[.agg #[iT q1,.slice F D O,.slice N H J,.slice r f m]] w' fun e U=>(∃a n k,e=.returned (.slice a n k)∧ah U a n k L)∧Bl w' U):=fun w' k=>hAll w' (kW.trans (k.mono kW.size))
 have CA:Eq (∀key t,t ∈ S++[q1]→∀w',Bl W w'→Calls Tryz.prog 39 #[.agg #[iT q1,.slice F D O,.slice N H J,.slice r f m],.string key,iT t] w' (u9 (c key t) w')):=fun key t ht w' k=>hA key t ht w' (kW.trans (k.mono kW.size))
 have CB:Eq (∀key t,t ∈ S++[q1]→∀w',Bl W w'→Calls Tryz.prog 39 #[.agg #[iT q2,.slice a8 a9 Y,.slice Z a4 a1,.slice a5 ab a7],.string key,iT t] w' (u9 (c key t) w')):=fun key t ht w' k=>hB key t ht w' (kW.trans (k.mono kW.size))
 have HL:=az hL;have x0:=BA.o.all;clear hAll hA hB kW hS hL;go_enter Tryz.func46,Tryz.ntmps46
 go_upto_region 1 with fail
 rw [← hX,← hW];clear hX hW;go_wp2_with fail
 clear x0;refine (aA.o _ (Below.refl _ _)).mono ?_;rintro e w1 ⟨⟨al,nl,kl,rfl,aJ⟩,b8⟩;have bo:=aJ.length;have aL:Eq (Bl W w1):=b8;clear b8 aA;go_wp2_with fail
 refine (pV al nl kl L w1 aJ (by have:=HL.o;omega)).mono ?_;rintro e B ⟨gk,mk,ck,ks,rfl,ap,hmk,aW⟩;have I:Eq (Bl W B):=aL.o.trans (aW.mono aL.o.size);have aK:Eq (B.ownsRow w1.heap.size 9 1 (sL gk mk ck) mk (ks.map .string)):=ap;have br:mk≤100002:=by have:=HL.o;omega
 clear ap aW aJ bo hmk aL;have aw:Eq (S.length=f):=HS.o.length;go_upto_region 2 with fail
 have s:Eq (∀w',Bl B w'→(fun w':World=>w'.cell? ⟨X,0,none⟩=some (iT q1)∧w'.cell? ⟨X,3,none⟩=some (.slice r f m)∧X<w'.heap.size) w'):=fun w' k=>by
  have b:=BA.o.keep (I.o.trans (k.mono I.o.size));exact ⟨b.c0,b.c3,b.lt⟩
 have aj:Eq (bJ 0 B r f m S):=HS.o.keep I.o;go_cut [6] (fun v wz=>∃gt ct,v=sL gt (f+1) ct∧wz.ownsRow W.heap.size 3 1 (sL gt (f+1) ct) (f+1) ((S++[q1]).map iT)∧Bl W wz∧wz.ownsRow w1.heap.size 9 1 (sL gk mk ck) mk (ks.map .string))
 case first =>
  have d:Bl B B.drew:=(Below.refl _ B).drew;refine eJ s d fun A=>?_
  generalize B.drew=wd at A d ⊢;refine aR 1 2 A ?_;refine aR 4 2 A ?_;refine mK 0 6 (fun K hK=>?_) (fun K hK=>?_)
  · go_simp;have kb:Bl wd (wd.alloc (.cells #[] 3)):=bZ;have y:(wd.alloc (.cells #[] 3)).ownsRow B.heap.size 3 1 (sL (wd.heap.size) 0 0) 0 []:=Hi (base:=B.heap.size) (e:=3) (size:=1) wd #[] 0 d.size (by simp) (by simp);have d:=d.trans (kb.mono d.size);clear kb;generalize wd.heap.size=gi at y ⊢;generalize wd.alloc (.cells #[] 3)=R at d y ⊢;refine hK.o _ _ (s.o _ d) fun A=>?_
    (try go_frame);refine mK 3 6 (fun K hK=>?_) (fun K hK=>?_)
    focus
     refine cy rfl (.tmp 12) (.tmp 14) 24 rfl B.heap.size 3 j0 _ 1 8 Tryz.underlying24 E ak ag ai rfl (Hx 0) _ _ _ rfl y r f m (S.map iT) rfl (by rw [Id,aw.o,Nat.mul_one]) aj.o.nil (fH (aj.o.keep d)) (by intro u hu;obtain ⟨z,_,rfl⟩:=Ib.1 hu;rfl) (by unfold maxLen;omega) (by omega) d.size ?_;intro u1 v22 C a3 a0;obtain ⟨gj,cj,rfl⟩:=aO C a0;have x:R.grownBy v22 (some gi):=a3;have d:=d.grown x d.size (fun k e=>by cases e;exact (y.lt gi rfl).1);have y:v22.ownsRow B.heap.size 3 1 (sL gj f cj) f (S.map iT):=by have h1:=C;rw [GT,Ho] at h1;exact h1
     rw [GT]
     clear C a3 a0 x
     obtain ⟨gi,rfl⟩:=aG gj
     refine hK.o _ _ (s.o _ d) fun A=>?_
     (try go_frame)
     refine aV 6 fun K hK=>?_
     go_simp
     have kb:Bl v22 (v22.alloc (.cells #[iT q1] 3)):=bZ
     have g:(v22.alloc (.cells #[iT q1] 3)).cell? ⟨v22.heap.size,0,none⟩=some (iT q1):=by simp
     have ao:B.heap.size≤v22.heap.size:=d.size
     have an:gi<v22.heap.size:=(y.lt gi rfl).2
     have y:=b9 y kb
     have d:=d.trans (kb.mono d.size)
     clear kb
     generalize v22.heap.size=gb at g ao an ⊢
     generalize v22.alloc (.cells #[iT q1] 3)=bp at d g y ⊢
     refine hK.o _ _ (s.o _ d) fun A=>?_
     (try go_frame)
     refine aV 7 fun K hK=>?_
     refine aE rfl (.tmp 15) (.tmp 18) 24 rfl B.heap.size 3 j0 _ 1 8 Tryz.underlying24 E ak ag ai rfl (Hx 0) _ _ _ rfl y ⟨gb,0,none⟩ 1 1 [iT q1] rfl rfl (by intro j u' E;match j,E with | 0,E=>simp at E;subst E;simpa [Addr.add] using g) (by intro u' a2;simp at a2;subst a2;rfl) (by unfold maxLen;omega) (by omega) d.size ?_
     intro u2 be T af ax
     obtain ⟨gt,ct,rfl⟩:=ownsRow_succ T
     have Q:bp.grownBy be (some gi):=af
    rotate_left
    focus
     go_simp
     have kb:Bl R (R.alloc (.cells #[iT q1] 3)):=bZ
     have g:(R.alloc (.cells #[iT q1] 3)).cell? ⟨R.heap.size,0,none⟩=some (iT q1):=by simp
     have ao:B.heap.size≤R.heap.size:=d.size
     have an:gi<R.heap.size:=(y.lt gi rfl).2
     have y:=b9 y kb
     have d:=d.trans (kb.mono d.size)
     clear kb
     generalize R.heap.size=gb at g ao an ⊢
     generalize R.alloc (.cells #[iT q1] 3)=v25 at d g y ⊢
     refine hK.o _ _ (s.o _ d) fun A=>?_
     (try go_frame)
     refine aV 3 fun K hK=>?_
     refine cy rfl (.tmp 12) (.tmp 14) 24 rfl B.heap.size 3 j0 _ 1 8 Tryz.underlying24 E ak ag ai rfl (Hx 0) _ _ _ rfl y r f m (S.map iT) rfl (by rw [Id,aw.o,Nat.mul_one]) aj.o.nil (fH (aj.o.keep d)) (by intro u hu;obtain ⟨z,_,rfl⟩:=Ib.1 hu;rfl) (by unfold maxLen;omega) (by omega) d.size ?_;intro u1 aM C a3 a0;obtain ⟨gj,cj,rfl⟩:=aO C a0;have x:v25.grownBy aM (some gi):=a3;have g:=x.cell g (fun e=>by have h9:gb=gi:=GN e;omega);have d:=d.grown x d.size (fun k e=>by cases e;exact (y.lt gi rfl).1);have y:aM.ownsRow B.heap.size 3 1 (sL gj f cj) f (S.map iT):=by have h1:=C;rw [GT,Ho] at h1;exact h1
     rw [GT]
     clear C a3 a0 x
     obtain ⟨gi,rfl⟩:=aG gj
     refine hK.o _ _ (s.o _ d) fun A=>?_
     (try go_frame)
     refine aV 7 fun K hK=>?_
     refine aE rfl (.tmp 15) (.tmp 18) 24 rfl B.heap.size 3 j0 _ 1 8 Tryz.underlying24 E ak ag ai rfl (Hx 0) _ _ _ rfl y ⟨gb,0,none⟩ 1 1 [iT q1] rfl rfl (by intro j u' E;match j,E with | 0,E=>simp at E;subst E;simpa [Addr.add] using g) (by intro u' a2;simp at a2;subst a2;rfl) (by unfold maxLen;omega) (by omega) d.size ?_
     intro u2 bh T af ax
     obtain ⟨gt,ct,rfl⟩:=ownsRow_succ T
     have Q:aM.grownBy bh (some gi):=af
    all_goals
     have d:=d.grown Q d.size (fun k e=>by cases e;exact (y.lt gi rfl).1)
     have y:=T
     clear T af ax Q
     refine hK.o _ _ (s.o _ d) fun A=>?_
     (try go_frame)
     refine aR 8 1 A ?_
     refine dN ?_
     clear A
     go_wp2
     go_meet
     exact ⟨gt,ct,rfl,by rw [Iw];exact zv y (I.o.size),I.o.trans (d.mono I.o.size),b9 aK.o d⟩
  · go_simp;have kb:Bl wd (wd.alloc (.cells #[iT q1] 3)):=bZ;have g:(wd.alloc (.cells #[iT q1] 3)).cell? ⟨wd.heap.size,0,none⟩=some (iT q1):=by simp
    have ao:B.heap.size≤wd.heap.size:=d.size;have d:=d.trans (kb.mono d.size);clear kb;generalize wd.heap.size=gb at g ao ⊢;generalize wd.alloc (.cells #[iT q1] 3)=ad at d g ⊢;refine hK.o _ _ (s.o _ d) fun A=>?_
    (try go_frame);refine aV 0 fun K hK=>?_
    go_simp;have kb:Bl ad (ad.alloc (.cells #[] 3)):=bZ;have y:(ad.alloc (.cells #[] 3)).ownsRow B.heap.size 3 1 (sL (ad.heap.size) 0 0) 0 []:=Hi (base:=B.heap.size) (e:=3) (size:=1) ad #[] 0 d.size (by simp) (by simp);have an:gb<ad.heap.size:=GK _ _ g;have g:=cell_later kb g;have d:=d.trans (kb.mono d.size);clear kb;generalize ad.heap.size=gi at y an ⊢;generalize ad.alloc (.cells #[] 3)=bk at d y g ⊢;refine hK.o _ _ (s.o _ d) fun A=>?_
    (try go_frame);refine aV 3 fun K hK=>?_
    refine cy rfl (.tmp 12) (.tmp 14) 24 rfl B.heap.size 3 j0 _ 1 8 Tryz.underlying24 E ak ag ai rfl (Hx 0) _ _ _ rfl y r f m (S.map iT) rfl (by rw [Id,aw.o,Nat.mul_one]) aj.o.nil (fH (aj.o.keep d)) (by intro u hu;obtain ⟨z,_,rfl⟩:=Ib.1 hu;rfl) (by unfold maxLen;omega) (by omega) d.size ?_;intro u1 aI C a3 a0;obtain ⟨gj,cj,rfl⟩:=aO C a0;have x:bk.grownBy aI (some gi):=a3;have g:=x.cell g (fun e=>by have h9:gb=gi:=GN e;omega);have d:=d.grown x d.size (fun k e=>by cases e;exact (y.lt gi rfl).1);have y:aI.ownsRow B.heap.size 3 1 (sL gj f cj) f (S.map iT):=by have h1:=C;rw [GT,Ho] at h1;exact h1
    rw [GT];clear C a3 a0 x;obtain ⟨gi,rfl⟩:=aG gj;refine hK.o _ _ (s.o _ d) fun A=>?_
    (try go_frame);refine aV 7 fun K hK=>?_
    refine aE rfl (.tmp 15) (.tmp 18) 24 rfl B.heap.size 3 j0 _ 1 8 Tryz.underlying24 E ak ag ai rfl (Hx 0) _ _ _ rfl y ⟨gb,0,none⟩ 1 1 [iT q1] rfl rfl (by intro j u' E;match j,E with | 0,E=>simp at E;subst E;simpa [Addr.add] using g) (by intro u' a2;simp at a2;subst a2;rfl) (by unfold maxLen;omega) (by omega) d.size ?_;intro u2 bl T af ax;obtain ⟨gt,ct,rfl⟩:=ownsRow_succ T;have Q:aI.grownBy bl (some gi):=af;have d:=d.grown Q d.size (fun k e=>by cases e;exact (y.lt gi rfl).1);have y:=T;clear T af ax Q;refine hK.o _ _ (s.o _ d) fun A=>?_
    (try go_frame);refine aR 8 1 A ?_;refine dN ?_;clear A;go_wp2;go_meet
    exact ⟨gt,ct,rfl,by rw [Iw];exact zv y (I.o.size),I.o.trans (d.mono I.o.size),b9 aK.o d⟩
 case rest =>
  obtain ⟨gt,ct,rfl,ht,hk,ap⟩:=hcut;have HB:Eq (Bl W wc):=hk;have HT:Eq (wc.ownsRow W.heap.size 3 1 (sL gt (f+1) ct) (f+1) ((S++[q1]).map iT)):=ht;have HK:Eq (wc.ownsRow w1.heap.size 9 1 (sL gk mk ck) mk (ks.map .string)):=ap;have aN:Eq ((S++[q1]).length=f+1∧ks.length=mk):=⟨by have:=aw.o;simp;omega,by have:=HK.o.1;rw [Id] at this;omega⟩;clear ht hk ap I aK;go_wp2;go_loopw [7] (fun iv wr=>∃i:Nat,iv=iT (i:Int)∧i≤mk∧Bl wc wr) (fun iv _=>mk - (intOf iv).toNat)
  case atStart=>exact ⟨0,rfl,by omega,Below.refl _ _⟩
  case round =>
   obtain ⟨i,rfl,hi,hk⟩:=hrel;have KR:Eq (Bl wc wr):=hk;clear hk;by_cases bx:i<mk
   · have b6:(i:Int)<(mk:Int):=by omega
     have bD:IntKind.i64.wrap ((i:Int)+1)=(i:Int)+1:=by rw [G4];unfold wrap64;omega
     rename World=>wo
     go_wp2;go_loopw [8] (fun jv wr=>∃j:Nat,jv=iT (j:Int)∧j≤f+1∧Bl wc wr) (fun jv _=>f+1 - (intOf jv).toNat)
     case atStart=>exact ⟨0,rfl,by omega,KR.o⟩
     case round =>
      clear KR;obtain ⟨j,rfl,bG,hk⟩:=hrel;have KR:Eq (Bl wc wr):=hk;clear hk;by_cases bB:j<f+1
      · have aT:(j:Int)<((f+1:Nat):Int):=by omega
        have b4:(j:Int)<(f:Int)+1:=by omega
        have bw:IntKind.i64.wrap ((j:Int)+1)=(j:Int)+1:=by rw [G4];unfold wrap64;omega
        obtain ⟨key,aD⟩:∃key,ks[i]?=some key:=⟨_,j' (by have:=aN.o;omega)⟩;obtain ⟨t,aH⟩:∃t,(S++[q1])[j]?=some t:=⟨_,j' (by have:=aN.o;omega)⟩;have b5:Eq (t ∈ S++[q1]):=GP aH;have s:Eq (∀w',Bl wc w'→(fun w':World=>w'.cell? ⟨X,0,none⟩=some (iT q1)∧w'.cell? ⟨X,1,none⟩=some (.slice F D O)∧w'.cell? ⟨X,2,none⟩=some (.slice N H J)∧w'.cell? ⟨X,3,none⟩=some (.slice r f m)∧w'.cell? ⟨X+1,0,none⟩=some (iT q2)∧w'.cell? ⟨X+1,1,none⟩=some (.slice a8 a9 Y)∧w'.cell? ⟨X+1,2,none⟩=some (.slice Z a4 a1)∧w'.cell? ⟨X+1,3,none⟩=some (.slice a5 ab a7)∧X+1<w'.heap.size∧X<w'.heap.size∧w'.cell? ⟨gk,i,none⟩=some (.string key)∧w'.cell? ⟨gt,j,none⟩=some (iT t)∧gk<w'.heap.size∧gt<w'.heap.size) w'):=fun w' k=>by
         have a:=BA.o.keep (HB.o.trans (k.mono HB.o.size));have b:=BB.o.keep (HB.o.trans (k.mono HB.o.size));have r1:=(b9 HK.o k).cellAt i (by have:=aN.o;omega);have r2:=(b9 HT.o k).cellAt j (by omega);rw [Iy,aD] at r1;rw [Iy,aH] at r2;exact ⟨a.c0,a.c1,a.c2,a.c3,b.c0,b.c1,b.c2,b.c3,b.lt,a.lt,r1,r2,E' (HK.o.lt gk rfl).2 k.size,E' (HT.o.lt gt rfl).2 k.size⟩
        obtain ⟨rb,rt,rn,hc⟩:∃rb rt rn,c key t=(rb,rt,rn):=⟨_,_,_,rfl⟩;have aU:Eq (∀w',Bl wc w'→Calls Tryz.prog 39 #[.agg #[iT q1,.slice F D O,.slice N H J,.slice r f m],.string key,iT t] w' fun e U=>e=.returned (.agg #[.bool rb,.string rt,iT rn])∧Bl w' U):=fun w' k=>by
         have h:=CA.o key t b5.o w' (HB.o.trans (k.mono HB.o.size));rw [hc] at h;exact h
        have aS:Eq (∀w',Bl wc w'→Calls Tryz.prog 39 #[.agg #[iT q2,.slice a8 a9 Y,.slice Z a4 a1,.slice a5 ab a7],.string key,iT t] w' fun e U=>e=.returned (.agg #[.bool rb,.string rt,iT rn])∧Bl w' U):=fun w' k=>by
         have h:=CB.o key t b5.o w' (HB.o.trans (k.mono HB.o.size));rw [hc] at h;exact h
        clear aD aH hc;go_upto_region 9 with fail
        have d:=KR.o.trans ((Below.refl wr.heap.size wr).drew.mono KR.o.size);refine eJ s d fun A=>?_
        generalize wr.drew=wd at A d ⊢;refine aR 0 9 A ?_;refine aR 10 9 A ?_;refine aV 9 fun K hK=>?_
        go_simp;refine (aU.o _ d).mono ?_;rintro e w3 ⟨rfl,aX⟩;have d:=d.trans (aX.mono d.size);clear aX;go_wp2_with fail
        refine hK.o _ _ (s.o _ d) fun A=>?_
        (try go_frame);refine aV 19 fun K hK=>?_
        go_simp;refine (aS.o _ d).mono ?_;rintro e w4 ⟨rfl,b7⟩;have d:=d.trans (b7.mono d.size);clear b7;go_wp2_with fail
        refine hK.o _ _ (s.o _ d) fun A=>?_
        (try go_frame);refine aR 20 1 A ?_;refine dN ?_;have KZ:Eq (Bl wc w4):=d;clear A s aU aS KR d;go_wp2;go_roundw
        case rel=>exact ⟨j+1,by rw [show ((j+1:Nat):Int)=(j:Int)+1 by omega],by omega,KZ.o⟩
        case measure=>simp [intOf];omega
      · have aT:¬(j:Int)<((f+1:Nat):Int):=by omega
        have b4:¬(j:Int)<(f:Int)+1:=by omega
        go_wp2;go_roundw
        case rel=>exact ⟨i+1,by rw [show ((i+1:Nat):Int)=(i:Int)+1 by omega],by omega,KR.o⟩
        case measure=>simp [intOf];omega
   · have b6:¬(i:Int)<(mk:Int):=by omega
     go_wp2;go_ret;exact ⟨rfl,KW.o.trans ((HB.o.trans (KR.o.mono HB.o.size)).mono KW.o.size)⟩
theorem su.nn (h:su w (pT b) V):ig w b V:=fun i B hB=>by
 obtain ⟨b',e,n,c,e1,h1⟩:=h i B hB
 cases e1
 exact ⟨e,n,c,h1⟩
theorem su.some (h:su w av V) (hV:V≠[]):∃b,av=some ⟨b,0,none⟩:=by
 match V,hV,h with
 | B :: V,_,h =>
  obtain ⟨b,e,n,c,e1,_⟩:=h 0 B rfl;exact ⟨b,e1⟩
theorem ya {hi f e m:Nat} {d s:Option Addr} {t r:Nat→Nat} {n:Nat→Nat→Nat} (hR:o4 lo hi w d f av e s m M V S t r n) (hV:V≠[]):(∃b,d=some ⟨b,0,none⟩)∧∃b,av=some ⟨b,0,none⟩∧ig w b V:=by
 rcases hR with ⟨b1,b2,b3,rfl,rfl,_,h⟩ | ⟨_,_,_,_,_,_,_,h,_⟩
 · refine ⟨⟨_,rfl⟩,⟨_,rfl,fun i B hB=>?_⟩⟩;obtain ⟨xs,g,r2⟩:=h.levs.row;have hl:=h.levs.len;have hi:=(F'.1 hB).1;exact ⟨_,_,_,(g.cellAt i (by omega)).trans (r2 i B hB)⟩
 · exact absurd h hV
theorem Fw {B:List af} (h:∀p ∈ B,p.1.length≤k):BU B≤B.length*k:=by
 induction B with
 | nil=>simp [BU]
 | cons p B d =>
  have h1:=d (fun x hx=>h x (He _ hx));have h2:=h p Ha;have h3:BU (p :: B)=p.1.length+BU B:=by simp [BU]
  rw [h3,Hn,Nat.add_mul];omega
theorem mf (h:aP q M V S=true):M.length+(Fv V+V.length)≤100000∧(∀e ∈ M,FP e)∧∀B ∈ V,Gm B:=by
 obtain ⟨A,B,C,rfl⟩:=dX h;obtain ⟨hl,d,_,_⟩:=jZ h;have f:=qE h;have hf:=iZ h;have hs:∀Z ∈ [A,B,C],BU Z≤Z.length*150:=fun Z g=>Fw fun p hp=>(bE (d Z g p hp)).2.1
 have h1:=hs A (by simp);have h2:=hs B (by simp);have h3:=hs C (by simp);have h4:Fv [A,B,C]=BU A+A.length+(BU B+B.length+(BU C+C.length)):=by simp [Fv]
 refine ⟨by rw [h4];simp only [Hn,Io];omega,f.em,fun Z g p hp e m=>?_⟩;exact oy (bE (d Z g p hp)).2.2.1 e m
theorem lM (q:Int) (r f n b D x:Nat) (E:Option Addr) (m cs:Nat) (M:List ac) (V:List (List af)) (S:List Int) (key:ByteArray) (seq:Int) (w:World) (y:aZ 0 w (pT r) f n (pT b) D x E m cs M V S) (d:aP q M V S=true) (R:ig w b V) :
 Calls Tryz.prog 39 #[.agg #[iT q,sL r f n,sL b D x,.slice E m cs],.string key,iT seq] w (u9 (b7 M V key seq) w):=by
 obtain ⟨A,B,C,e0,H,c0,e1,O,c1,e2,n2,I,rfl,rfl,u,g⟩:=y.shareN d R;obtain ⟨hl,t,e,s⟩:=jZ d;have F:=(aL d).2.2.1;have J:=y.mem.1.length;refine pB q _ _ _ _ _ _ _ _ _ _ _ _ _ _ ⟨⟨_,_,_,rfl⟩,⟨_,_,_,rfl⟩,⟨_,_,_,rfl⟩,⟨_,_,_,rfl⟩,⟨_,_,_,rfl⟩⟩ key seq _ _ _ w g (fun Q N=>?_);exact Dy q r f n e0 H c0 e1 O c1 e2 n2 I _ m cs M A B C S key seq Q (u.keep N) (by omega) hl.1 hl.2.1 hl.2.2 (aL d).2.2.2.1 t e s
theorem FW (q1:Int) (Q s D b1 y u:Nat) (x:Option Addr) (F E:Nat) (f:List ac) (d:List (List af)) (g:List Int) (q2:Int) (g2 A r b2 H I:Nat) (C:Option Addr) (B m:Nat) (N:List ac) (J:List (List af)) (O:List Int) (w:World)
 (hT1:aZ 0 w (pT Q) s D (pT b1) y u x F E f d g) (ht1:aP q1 f d g=true) (hN1:ig w b1 d)
 (hT2:aZ 0 w (pT g2) A r (pT b2) H I C B m N J O) (ht2:aP q2 N J O=true) (hN2:ig w b2 J)
 (hc:∀key t,t ∈ g++[q1]→b7 N J key t=b7 f d key t) :
 Calls Tryz.prog 46 #[.agg #[iT q1,sL Q s D,sL b1 y u,.slice x F E],.agg #[iT q2,sL g2 A r,sL b2 H I,.slice C B m]] w fun e w'=>e=.returned (.bool true)∧Bl w w':=by
 have hs:=mf ht1;have hl:=xw (q:=q1) (M:=f) (V:=d) (S:=g);have hsn:=hT1.snaps.length;have hf:=iZ ht1;refine Ch q1 _ _ _ _ _ _ _ _ _ g q2 _ _ _ _ _ _ _ _ _ (jP q1 f d g) (b7 f d) w hT1.snaps (by omega) (by omega) (fun w' k=>?_) (fun key t R w' k=>?_) (fun key t R w' k=>?_)
 · refine (pp 0 q1 _ _ _ _ _ _ _ _ _ f d g w' (hT1.keep k) (fun _=>by omega) (fun _=>hs.2.1) (fun _=>hs.2.2)).mono ?_;rintro e T ⟨⟨a,n,rfl,ho⟩,hb⟩;exact ⟨⟨a,n,n,rfl,ho.entsAt⟩,hb⟩
 · exact lM q1 Q s D b1 y u x F E f d g key t w' (hT1.keep k) ht1 (hN1.keep k)
 · rw [← hc key t R];exact lM q2 g2 A r b2 H I C B m N J O key t w' (hT2.keep k) ht2 (hN2.keep k)
theorem u9.as {c:dE} {g:Bool} {f:ByteArray} {d:Int} {e:Ending} (h:u9 c w e w') (hc:c=(g,f,d)):e=.returned (.agg #[.bool g,.string f,iT d])∧Bl w w':=by
 subst hc;exact h
theorem bJ.take {n:Nat} (h:bJ lo w (some ⟨b,o,none⟩) n c S) (hk:k≤n):bJ lo w (some ⟨b,o,none⟩) k c (S.take k) where
 length:=by rw [GS,h.length];omega
 room:=GU hk h.room
 big:=h.big
 wfs:=fun z hz=>h.wfs z (Hq hz)
 nil:=fun e=>by cases e
 lies:=fun x e hp=>h.lies x e (by omega)
 cells:=fun x e i hi=>by
  have hl:i<S.length:=by rw [GS] at hi;omega
  rw [If]
  exact h.cells x e i hl
theorem bJ.drop {n:Nat} (h:bJ lo w (some ⟨b,o,none⟩) n c S) (hk:k≤n):bJ lo w (some ⟨b,o+k,none⟩) (n - k) (c - k) (S.drop k) where
 length:=by rw [G7,h.length]
 room:=by have:=h.room;omega
 big:=by have:=h.big;omega
 wfs:=fun z hz=>h.wfs z (H8 hz)
 nil:=fun e=>by cases e
 lies:=fun x e hp=>by have h1:=h.lies _ rfl (by omega);cases e;exact h1
 cells:=fun x e i hi=>by
  have hl:k+i<S.length:=by rw [G7] at hi;omega
  have h1:=h.cells _ rfl (k+i) hl
  cases e
  rw [Ij]
  simp only [IV] at h1 ⊢
  exact h1
theorem qU (lo:Nat) (m:Int) (r av y:Option Addr) (s t H D x u:Nat) (M:List ac) (V:List (List af)) (S:List Int) (w:World) (g:aZ lo w r s t av H D y x u M V S) :
 Calls Tryz.prog 26 #[.agg #[iT m,.slice r s t,.slice av H D,.slice y x u]] w fun e w'=>e=.returned (.bool (aP m M V S))∧Bl w w':=by
 have f:Eq (V.length=H):=g.levels.length;by_cases hn:H=3
 · subst hn;obtain ⟨A,B,C,Q⟩:∃A B C,V=[A,B,C]:=by
    have:=f.o;match V,this with
    | [A,B,C],_=>exact ⟨A,B,C,rfl⟩
   subst Q;obtain ⟨b,I,rfl,R⟩:=g.levels.form (by omega);obtain ⟨A',a0,X,c0,hA,l0,F⟩:=g.levels.level (Below.refl _ w) 0 (by omega);obtain ⟨B',a1,n1,c1,hB,l1,N⟩:=g.levels.level (Below.refl _ w) 1 (by omega);obtain ⟨C',a2,n2,Y,hC,l2,J⟩:=g.levels.level (Below.refl _ w) 2 (by omega);simp only [IF,Ig,Ix] at hA hB hC;subst hA hB hC;rw [Ik] at l0;obtain ⟨Z,U⟩:=aG (aP m M [A,B,C] S);have T:Eq (∀w',Bl w w'→Calls Tryz.prog 86 #[.agg #[iT m,.slice r s t,sO b I 3 D,.slice y x u]] w' fun e W=>e=.returned (.tuple #[.agg #[iT m,.slice r s t,.slice a0 X c0,.slice a1 n1 c1,.slice a2 n2 Y,.slice y x u],.bool Z])∧Bl w' W):=fun w' k=>by
    rw [U];exact jh lo m r y s t b I D x u M A B C S a0 a1 a2 X c0 n1 c1 n2 Y w' (g.mem.1.keep k) (g.snaps.keep k) (F.keep k) (N.keep k) (J.keep k) (cell_later k l0) (cell_later k l1) (cell_later k l2)
   rw [← U];have n:∀o,Bl w (w.alloc o):=fun o=>(Below.refl _ _).alloc (GL _) o
   clear U g f l0 l1 l2 F N J R;go_enter Tryz.func26,Tryz.ntmps26
   go_wp2_with fail
   refine (T.o _ (n _)).mono ?_;rintro e O ⟨rfl,d⟩;have E:Eq (Bl w O):=(n _).trans (d.mono (n _).size);clear d n;go_wp2;go_ret;exact ⟨rfl,E.o.alloc E.o.size _⟩
 · have HZ:Eq (aP m M V S=false):=ii (fun h=>hn (by have:=(aL h).2.2.2.2.2.1;have:=f.o;omega));clear g f;go_enter Tryz.func26,Tryz.ntmps26
   go_wp2_with fail
   refine (kM m r av y s t H D x u _ hn).mono ?_;have n:∀o,Bl w (w.alloc o):=fun o=>(Below.refl _ _).alloc (GL _) o
   rintro e O ⟨rfl,d⟩;have E:Eq (Bl w O):=(n _).trans (d.mono (n _).size);clear d n;go_wp2;go_ret;exact ⟨aj HZ.o.symm,E.o.alloc E.o.size _⟩
def FO (P:Prop) (q2:Int) (M2:List ac) (V2:List (List af)) (S2:List Int) (ok:Bool) (w:World) (e:Ending) (w':World):Prop:=∃a1 n1 k1 a2 n2 k2 a3 n3 k3,e=.returned (.tuple #[.agg #[iT q2,.slice a1 n1 k1,.slice a2 n2 k2,.slice a3 n3 k3],.bool ok])∧aZ 0 w' a1 n1 k1 a2 n2 k2 a3 n3 k3 M2 V2 S2∧(P→(∃b,a1=some ⟨b,0,none⟩)∧∃b,a2=some ⟨b,0,none⟩∧ig w' b V2)∧Bl w w'
theorem pF.tupD {P:Prop} {d:Bool} {e:Ending} (h:pF q M V S d w e w') (hw:∀z ∈ S,(Lit.int .i64 z).wf=true) (hV:P→V≠[]):FO P q M V S d w e w':=by
 obtain ⟨f,m,av,g,t,r,u,s,n,rfl,hR,hb⟩:=h;exact ⟨_,_,_,_,_,_,_,_,_,rfl,hR.treeIn hw,fun hp=>ya hR (hV hp),hb⟩
theorem Bq (h:nU K):e9 K:=fun e d=>by
 have:=h e d
 exact ⟨by have:=this.1.1;omega,by have:=this.2.1;omega⟩
theorem p7 (h:aP q M V S=true):(∀e ∈ M,1≤e.2.1∧e.2.1≤q)∧∀Z ∈ V,∀r ∈ Z,∀e ∈ r.1,1≤e.2.1∧e.2.1≤q:=by
 obtain ⟨A,B,C,rfl⟩:=dX h;obtain ⟨_,_,_,h4,h5,_,⟨ha,hb,hc⟩,_⟩:=dJ.1 h;have one:∀{L:List ac},aI L=true→b6 L q=true→∀e ∈ L,1≤e.2.1∧e.2.1≤q:=fun {L} h1 h2 e g=>by
  obtain ⟨j,m⟩:=Hr g;have h3:=eo h1 m;refine ⟨?_,du.1 h2 e g⟩;unfold dM at h3;simp at h3;omega
 refine ⟨one h4 h5,fun Z d r hr=>?_⟩;have f:=(jZ h).2.1 Z d r hr;refine one (bE f).2.2.1 ?_;simp only [GZ,Hs,or_false] at d;rcases d with rfl | rfl | rfl
 · exact (cP.1 ha).2.2.1 r hr
 · exact (cP.1 hb).2.2.1 r hr
 · exact (cP.1 hc).2.2.1 r hr
theorem xK {key:ByteArray} {s:Int} (h:∀e ∈ L,¬(e.1=key∧e.2.1≤s)):bw L key s=[]:=by
 unfold bw;rw [Im];intro e d;have:=h e d;simpa using this
theorem mA (B:List af) (key:ByteArray) (seq:Int):bw (aW B) key seq=bK B key seq:=by
 unfold bw aW bK bw;rw [List.filter_flatMap]
theorem rH (B:List af) (key:ByteArray) (seq:Int):bw (bK B key seq) key seq=bK B key seq:=by
 rw [← mA,Bn]
theorem sZ (h:f6 L) (key:ByteArray) (seq:Int):Fn (bw L key seq):=by
 unfold Fn bw;rw [List.pairwise_filter];refine h.imp fun {x y} d hx hy e=>d ?_
 simp only [G2,decide_eq_true_eq] at hx hy;exact ⟨hx.1.trans hy.1.symm,e⟩
theorem Ee (h:aP q M V S=true) (key:ByteArray) (seq:Int):eX (jP q M V S) key seq=b7 M V key seq:=by
 obtain ⟨A,B,C,rfl⟩:=dX h;have f:=(iJ h).perm (gG M A B C) (fun {x y} d e=>d ⟨e.1.symm,e.2.symm⟩);have hp:(jP q M [A,B,C] S).Perm (M++(aW A++(aW B++aW C))):=by
  unfold jP;rw [if_pos h];exact (bu _).2.trans (parts_flat M A B C)
 have e1:bw (M++[A,B,C].flatMap (fun Z=>bK Z key seq)) key seq=bw (M++(aW A++(aW B++aW C))) key seq:=by
  simp only [I7,List.flatMap_nil,Iv,jl,mA,rH]
 unfold b7 eX;rw [e1,tZ (B:=bw (jP q M [A,B,C] S) key seq) (sZ f key seq) (hp.symm.filter _)]
theorem yX (V:List (List af)) (key:ByteArray) (t:Int):bw (V.flatMap (fun Z=>bK Z key t)) key t=bw (V.flatMap aW) key t:=by
 induction V with
 | nil=>rfl
 | cons Z V d=>rw [I7,I7,jl,jl,rH,mA,d]
theorem ui (M:List ac) (V:List (List af)) (key:ByteArray) (t:Int):b7 M V key t=eX (M++V.flatMap aW) key t:=by
 unfold b7 eX;rw [jl,jl,yX]
theorem wX {A B:List ac} (u:f6 A) (p:A.Perm B) (key:ByteArray) (t:Int):eX A key t=eX B key t:=by
 unfold eX;rw [tZ (B:=bw B key t) (sZ u key t) (p.filter _)]
theorem pt {D:List ac} {t:Int} (h:∀e ∈ D,t<e.2.1) (key:ByteArray):eX (L++D) key t=eX L key t:=by
 unfold eX;rw [jl,xK (L:=D) (fun e d k=>by have:=h e d;omega),Iv]
theorem BE {n:Int} (h:∀e ∈ L,e.2.1≤n) (key:ByteArray) (y:ac) (hy:y.2.1=n+1):eX (L++[y]) key (n+1)=if y.1=key then sS (eX L key n) y else eX L key n:=by
 have e1:F8 (L++[y]) key (n+1)=if y.1=key then [y] else []:=by
  unfold F8;rw [Hw,Im.2 (fun e d=>by have:=h e d;simp;intro _;omega),Ho];by_cases hk:y.1=key
  · simp [hk,hy]
  · simp [hk]
 rw [BF,e1,Int.add_sub_cancel,pt (D:=[y]) (fun e d=>by rw [G5] at d;subst d;omega)];by_cases hk:y.1=key
 · rw [if_pos hk,if_pos hk];rfl
 · rw [if_neg hk,if_neg hk];rfl
theorem wW (h:∀e ∈ L,e.2.1≤q) (K:List ac) (key:ByteArray):∀i,i≤K.length→eX (L++dh q (K.take i)) key (q+i)=((K.take i).filter (fun e=>decide (e.1=key))).foldl sS (eX L key q):=by
 intro i;induction i with
 | zero =>
  intro _;simp [dh]
 | succ i d =>
  intro hi;have hg:K[i]?=some K[i]:=j' (by omega);have hl:∀e ∈ L++dh q (K.take i),e.2.1≤q+i:=fun e f=>by
   rcases GX.1 f with h1 | h1
   · have:=h e h1;omega
   · obtain ⟨j,g,h2⟩:=qd h1;rw [GS] at g;omega
  have hs:=BE hl key (Ey q i K[i]) (by unfold Ey;show q+1+(i:Int)=_;omega);rw [qg hg,← Hd,show q+((i+1:Nat):Int)=q+i+1 by omega,hs,d (by omega),Hc,hg,Hw,I6];have e1:(Ey q i K[i]).1=K[i].1:=rfl;rw [e1];by_cases hk:K[i].1=key
  · rw [if_pos hk];simp [hk];rfl
  · rw [if_neg hk];simp [hk]
theorem vd (h:aP q M V S=true) (hw:bX q M K=true) :
 (∀key,b7 (aS (M++dh q K)) V key (q+K.length)=(K.filter (fun e=>decide (e.1=key))).foldl sS (b7 M V key q))∧∀key t,t≤q→b7 (aS (M++dh q K)) V key t=b7 M V key t:=by
 obtain ⟨A,B,C,rfl⟩:=dX h;have h2:=me h hw;rw [oR (aL h).2.2.2.1] at h2;have hp:(dq (aS (M++dh q K)) A B C).flatten.Perm ((M++[A,B,C].flatMap aW)++dh q K):=by
  refine (gG _ A B C).trans ?_;have e:[A,B,C].flatMap aW=aW A++(aW B++aW C):=by simp
  rw [e];refine ((bu (M++dh q K)).2.append_right _).trans ?_;rw [Hd,Hd];exact (List.perm_append_comm).append_left _
 have g:=(iJ h2).perm hp (fun {x y} d e=>d ⟨e.1.symm,e.2.symm⟩);have hq:(aS (M++dh q K)++[A,B,C].flatMap aW).Perm ((M++[A,B,C].flatMap aW)++dh q K):=by
  refine ((bu (M++dh q K)).2.append_right _).trans ?_;rw [Hd,Hd];exact (List.perm_append_comm).append_left _
 have hc:∀key t,b7 (aS (M++dh q K)) [A,B,C] key t=eX ((M++[A,B,C].flatMap aW)++dh q K) key t:=fun key t=>by
  rw [ui];exact (wX g hq.symm key t).symm
 have hl:∀e ∈ M++[A,B,C].flatMap aW,e.2.1≤q:=fun e f=>by
  rcases GX.1 f with h1 | h1
  · exact ((p7 h).1 e h1).2
  · obtain ⟨Z,m,h3⟩:=IR.1 h1;obtain ⟨r,hr,h4⟩:=IR.1 h3;exact ((p7 h).2 Z m r hr e h4).2
 refine ⟨fun key=>?_,fun key t n=>?_⟩
 · have h5:=wW hl K key K.length (GL _);rw [List.take_length] at h5;rw [hc,h5,ui]
 · rw [hc,ui];exact pt (fun e f=>by obtain ⟨j,_,h6⟩:=qd f;omega) key
section
attribute [local go_sem] Ic
theorem gQ (T F : Nat) (b : Bool) (t k m : ByteArray) (n q d u : Int) (w : World) (ht : t.size ≤ 281474976710656) (E : m.size ≤ 281474976710656) (D : ∀ w, Calls Tryz.prog 100 #[.agg #[.string k, iT q, iT d, .string m, iT u]] w fun e w' => e = .returned (.iface T (.agg #[])) ∧ Bl w w') (y : ∀ w, Calls Tryz.prog F #[.agg #[], .agg #[.bool b, .string t, iT n], .agg #[.string k, iT q, iT d, .string m, iT u]] w fun e w' => e = .returned (f5 (fh b t n d m u)) ∧ Bl w w') (hm : ∀ w : World, (method 400 T (.agg #[]) "loop.example/comptoir/impl.do").run Tryz.prog w = .ok (F, .agg #[]) w) (a5 : ∀ (xs : Array Value) (w : World), (callFunc F xs).run Tryz.prog w = .ok (.enter F xs) w) :
 Calls Tryz.prog 51 #[.agg #[.bool b,.string t,iT n],.agg #[.string k,iT q,iT d,.string m,iT u]] w fun e w'=>e=.returned (f5 (fh b t n d m u))∧Bl w w':=by
 obtain ⟨c,hc⟩:=aG (fh b t n d m u);have O:c.2.1.size≤281474976710656:=by rw [hc];exact jO ht E
 rw [← hc] at y;rw [← hc];clear hc;go_enter Tryz.func51,Tryz.ntmps51
 go_wp2_with fail
 obtain ⟨X,f⟩:=aG w.heap.size;obtain ⟨W,g⟩:=aG (((w.alloc (.cells #[.bool b,.string t,iT n] 57)).alloc (.cells #[.string k,iT q,iT d,.string m,iT u] 50)).alloc (.cells #[.bool false,.string ⟨#[]⟩,iT 0] 57));have x0:W.cell? ⟨X,0,none⟩=some (.bool b):=by rw [g,f,se];simp
 have x1:W.cell? ⟨X,1,none⟩=some (.string t):=by rw [g,f,se];simp
 have x2:W.cell? ⟨X,2,none⟩=some (iT n):=by rw [g,f,se];simp
 have y0:W.cell? ⟨X+1,0,none⟩=some (.string k):=by rw [g,f,k9];simp
 have y1:W.cell? ⟨X+1,1,none⟩=some (iT q):=by rw [g,f,k9];simp
 have y2:W.cell? ⟨X+1,2,none⟩=some (iT d):=by rw [g,f,k9];simp
 have y3:W.cell? ⟨X+1,3,none⟩=some (.string m):=by rw [g,f,k9];simp
 have y4:W.cell? ⟨X+1,4,none⟩=some (iT u):=by rw [g,f,k9];simp
 have B:W.cell? ⟨X+1+1,0,none⟩=some (.bool false):=by rw [g,f,sd];rfl
 have C:W.cell? ⟨X+1+1,1,none⟩=some (.string ⟨#[]⟩):=by rw [g,f,sd];rfl
 have r2:W.cell? ⟨X+1+1,2,none⟩=some (iT 0):=by rw [g,f,sd];rfl
 have I:Eq (∀o,W.frozen? ⟨X+1+1,o,none⟩=false):=by intro o;rw [g,f];exact Eb _ _ _ _ _ o
 have hz:X+1+1<W.heap.size:=by simp [g,f]
 have Y:Bl w W:=by rw [g];exact (bZ.alloc (by simp) _).alloc (by simp;omega) _
 have HX:Eq (X=w.heap.size):=f;rw [← g,← f];clear g f;have A:Eq (Bl w W):=Y;clear Y;have N:Eq (W.cell? ⟨X+1+1,0,none⟩=some (.bool false)∧W.cell? ⟨X+1+1,1,none⟩=some (.string ⟨#[]⟩)∧W.cell? ⟨X+1+1,2,none⟩=some (iT 0)):=⟨B,C,r2⟩;clear B C r2;have J:Bl W W.drew:=(Below.refl _ W).drew;have r:Eq (∀w',Below (X+1+1) W w'→(w'.cell? ⟨X,0,none⟩=some (.bool b)∧w'.cell? ⟨X,1,none⟩=some (.string t)∧w'.cell? ⟨X,2,none⟩=some (iT n)∧w'.cell? ⟨X+1,0,none⟩=some (.string k)∧w'.cell? ⟨X+1,1,none⟩=some (iT q)∧w'.cell? ⟨X+1,2,none⟩=some (iT d)∧w'.cell? ⟨X+1,3,none⟩=some (.string m)∧w'.cell? ⟨X+1,4,none⟩=some (iT u)∧X+1+1<w'.heap.size∧Below (X+1+1) W w')):=fun w' k=>⟨(k.cell (p:=⟨X,0,none⟩) (by show X<X+1+1;omega)).trans x0,(k.cell (p:=⟨X,1,none⟩) (by show X<X+1+1;omega)).trans x1,(k.cell (p:=⟨X,2,none⟩) (by show X<X+1+1;omega)).trans x2,(k.cell (p:=⟨X+1,0,none⟩) (by show X+1<X+1+1;omega)).trans y0,(k.cell (p:=⟨X+1,1,none⟩) (by show X+1<X+1+1;omega)).trans y1,(k.cell (p:=⟨X+1,2,none⟩) (by show X+1<X+1+1;omega)).trans y2,(k.cell (p:=⟨X+1,3,none⟩) (by show X+1<X+1+1;omega)).trans y3,(k.cell (p:=⟨X+1,4,none⟩) (by show X+1<X+1+1;omega)).trans y4,E' hz k.size,k⟩
 have s:X+1+1≤W.heap.size:=Nat.le_of_lt hz;obtain ⟨cb,ct,Z⟩:=c;go_region_held3 (fun w'=>w'.cell? ⟨X,0,none⟩=some (.bool b)∧w'.cell? ⟨X,1,none⟩=some (.string t)∧w'.cell? ⟨X,2,none⟩=some (iT n)∧w'.cell? ⟨X+1,0,none⟩=some (.string k)∧w'.cell? ⟨X+1,1,none⟩=some (iT q)∧w'.cell? ⟨X+1,2,none⟩=some (iT d)∧w'.cell? ⟨X+1,3,none⟩=some (.string m)∧w'.cell? ⟨X+1,4,none⟩=some (iT u)∧X+1+1<w'.heap.size∧Below (X+1+1) W w') (first | exact r.o _ (k3.mono s) | exact r.o _ ((((k3.mono s).setCell (p:=⟨X+1+1,0,none⟩) (GL _) _).setCell (p:=⟨X+1+1,1,none⟩) (GL _) _).setCell (p:=⟨X+1+1,2,none⟩) (GL _) _) | exact r.o _ (H.mono s) | exact r.o _ (k1.mono s) | exact r.o _ (J.mono s)) (first
  | (go_at_call 100;refine (D _).mono ?_;rintro e w1 ⟨rfl,R⟩;have k1:Bl W w1:=J.trans (R.mono J.size))
  | (go_at_call 113;refine (l8 (cb,ct,Z) _ O).mono ?_;rintro e w3 ⟨rfl,U⟩;have k3:Bl W w3:=H.trans (U.mono H.size);have B:=cell_later k3 N.o.1;have C:=cell_later k3 N.o.2.1;have r2:=cell_later k3 N.o.2.2;have f0:=(k3.frozen (p:=⟨X+1+1,0,none⟩) hz).trans (I.o 0);have f1:=(k3.frozen (p:=⟨X+1+1,1,none⟩) hz).trans (I.o 1);have f2:=(k3.frozen (p:=⟨X+1+1,2,none⟩) hz).trans (I.o 2);unfold f5;simp only)
  | (refine (y _).mono ?_;rintro e w2 ⟨rfl,Q⟩;have H:Bl W w2:=k1.trans (Q.mono k1.size)))
 have K:Bl w w3:=A.o.trans (k3.mono A.o.size);have x:w.heap.size≤X+1+1:=by rw [HX.o];omega
 go_wp2;refine bodyPost_ret (v:=.agg #[.bool cb,.string ct,iT Z]) (by simp [results,Tryz.results51,go_sem,B,C,r2]) rfl ⟨rfl,?_⟩;exact ((K.setCell (p:=⟨X+1+1,0,none⟩) x _).setCell (p:=⟨X+1+1,1,none⟩) x _).setCell (p:=⟨X+1+1,2,none⟩) x _
theorem A7 (b:Bool) (t k f:ByteArray) (n q d g:Int) (w:World) (r:t.size≤281474976710656) (m:f.size≤281474976710656) :
 Calls Tryz.prog 51 #[.agg #[.bool b,.string t,iT n],.agg #[.string k,iT q,iT d,.string f,iT g]] w fun e w'=>e=.returned (f5 (fh b t n d f g))∧Bl w w':=by
 by_cases x:d=1
 · subst x;exact gQ 176 311 b t k f n q 1 g w r m (iz k f q g) (fun w=>by rw [zZ];exact rP b t k f n q 1 g w) (fun _=>by kernel_rfl) (fun _ _=>by kernel_rfl)
 by_cases s:d=2
 · subst s;exact gQ 177 313 b t k f n q 2 g w r m (iA k f q g) (fun w=>by rw [zY];exact rS b t k f n q 2 g w) (fun _=>by kernel_rfl) (fun _ _=>by kernel_rfl)
 by_cases u:d=3
 · subst u;exact gQ 178 315 b t k f n q 3 g w r m (iB k f q g) (fun w=>by rw [zW];exact rU b t k f n q 3 g w) (fun _=>by kernel_rfl) (fun _ _=>by kernel_rfl)
 exact gQ 179 317 b t k f n q d g w r m (fun w=>iV k f q d g w x s u) (fun w=>by rw [z6 x s u];exact tV b t k f n q d g w) (fun _=>by kernel_rfl) (fun _ _=>by kernel_rfl)
end
end Go.Proofs.YtpobkmjicbobdaaGreat
