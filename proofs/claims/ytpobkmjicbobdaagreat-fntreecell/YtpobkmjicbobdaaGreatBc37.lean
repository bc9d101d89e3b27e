/- Walks. -/
import Derived.Test.YtpobkmjicbobdaaGreatBc36
namespace Go.Proofs.YtpobkmjicbobdaaGreat
set_option maxRecDepth 100000
set_option maxHeartbeats 40000000
open Go.RowKit
variable {A B D:List ae} {C X c ct g gt j m n nt:Nat} {q:Int} {v0 v1 v2:Value} {w wi wj:World} {x:ae}
theorem ag.prefix {base k:Nat} {L:List ae} (h:ag w base g n c L) (hk:k≤n):ag w base g k c (L.take k):=by
 refine ⟨?_,by have:=h.len;simp;omega,fun l hl=>h.ents l (F9 hl)⟩;have hf:aC (L.take k)=(aC L).take (k*5):=by
  have e:aC L=aC (L.take k)++aC (L.drop k):=by rw [← aL,FX]
  have hl:(aC (L.take k)).length=k*5:=by rw [aV,FC,h.len];congr 1;omega
  rw [e,← hl];exact List.take_left.symm
 refine ⟨by rw [aV,FC,h.len];congr 1;omega,Or.inr ?_⟩;rcases h.owns.2 with ⟨hv,_⟩ | ⟨f,d,b,hv,h1,h2,h3,h4,h5,h6⟩
 · cases hv
 · cases hv;refine ⟨g,c,b,rfl,h1,h2,by omega,h4,h5,?_⟩;rw [hf,← h6,List.take_take];congr 1
   omega
structure Ea (w wi:World):Prop where
 low:Bl w wi
structure mD (w wi:World) (g n c gt nt ct:Nat) (A B:List ae):Prop where
 low:Bl w wi
 o:ag wi w.heap.size g n c A
 tl:ag wi w.heap.size gt nt ct B
 ne:gt≠g
theorem mD.below (h:mD w wi g n c gt nt ct A B) (hb:Bl wi wj):mD w wj g n c gt nt ct A B :=
 ⟨h.low.trans (hb.mono h.low.size),h.o.below hb,h.tl.below hb,h.ne⟩
structure EJ (w wi:World) (g n c gt nt ct:Nat) (A B:List ae):Prop where
 low:Bl w wi
 o:ag wi w.heap.size g n c A
 tl:ag wi w.heap.size gt nt ct B
theorem mD.grown {f d c':Nat} {b:List ae} (h:mD w wi g n c gt nt ct A B) (hg:wi.grownBy wj (some g)) (ho:ag wj w.heap.size f d c' b):EJ w wj f d c' gt nt ct b B :=
 ⟨h.low.grown hg h.low.size (fun k e=>by cases e;exact h.o.lt.1),ho,h.tl.grown hg (fun e=>h.ne (by cases e;rfl))⟩
theorem Bv (h:A[j]?=some x) (hx:¬q<x.2.1):io A q (j+1)=j+1:=by rw [io,h];simp only;rw [if_neg hx]
theorem Em (h:A[j]?=some x) (hx:q<x.2.1):io A q (j+1)=io A q j:=by rw [io,h];simp only;rw [if_pos hx]
theorem Dm (a:Option Addr) (len bb:Nat) (L:List ae) (key:ByteArray) (seq:Int) (w:World) (hL:ah w a len bb L) (hlen:len≤1048576) :
 Calls Tryz.prog 211 #[.slice a len bb,.string key,iT seq] w fun e w'=>∃g n c,e=.returned (sL g n c)∧ag w' w.heap.size g n c (bE (aR L key seq))∧Bl w w':=by
 have b5:Eq (L.length=len):=hL.length;have bl:Eq (∀l ∈ L,dR l):=hL.ents;have c6:=hL.room;have bh:=hL.big;unfold maxLen at bh;have HL:=bT hL;clear hL;obtain ⟨i0,hi,am,al,aq⟩:=info_parts Tryz.infoEnt;have b8:Eq (ag (w.alloc (.cells #[] 50)) w.heap.size w.heap.size 0 0 (bE (aR (L.take 0) key seq))):=by
  have:=bV w _ (Fv _);simpa [aR,bE,Eq] using this
 have b7:Eq (Bl w (w.alloc (.cells #[] 50))):=bZ;go_enter Tryz.func211,Tryz.ntmps211
 go_wp2;go_loopw [7,8] (fun ov iv wr=>∃(k g m c:Nat),k≤len∧m≤k∧iv=iT k∧ov=sL g m c∧ag wr w.heap.size g m c (bE (aR (L.take k) key seq))∧Bl w wr) (fun _ iv _=>len - (intOf iv).toNat)
 case atStart=>exact ⟨0,w.heap.size,0,0,FB _,FB _,rfl,rfl,b8.o,b7.o⟩
 case round =>
  rename World=>wo
  obtain ⟨k,g,m,c,hk,hmk,rfl,rfl,hO,hb⟩:=hrel;have HO:Eq (ag wo w.heap.size g m c (bE (aR (L.take k) key seq))):=hO;clear hO b8 b7;by_cases b6:k<len
  · obtain ⟨b,f,rfl,ax⟩:=HL.o.form (by omega);obtain ⟨s,q,d,t,n,hg,b9,g0,g1,g2,g3,g4⟩:=HL.o.ent hb ax k b6;have HG:Eq (L[k]?=some (s,q,d,t,n)):=hg;have aF:Eq (dR (s,q,d,t,n)):=b9;have bt:b<wo.heap.size:=u' ax hb.size;clear hg b9;by_cases ab:s=key
    · by_cases hq:q≤seq
      · obtain ⟨A,hA⟩:=aG (bE (aR (L.take k) key seq));have T:Eq (bE (aR (L.take (k+1)) key seq)=eX A (s,q,d,t,n)):=by
         show bE (aR (L.take (k+1)) key seq)=_
         rw [iH HG.o ab hq,kU,hA]
        have a6:Eq (ag wo w.heap.size g m c A):=by rw [hA];exact HO.o
        have a1:Eq (A.length=m):=a6.o.len;have cb:m≤c:=a6.o.entsAt.room;have bj:c≤maxLen:=a6.o.entsAt.big;unfold maxLen at bj;have R:Eq (∀w',Bl w w'→(w'.cell? ⟨b,f+k*5,none⟩=some (.string s)∧w'.cell? ⟨b,f+k*5+1,none⟩=some (iT q)∧w'.cell? ⟨b,f+k*5+2,none⟩=some (iT d)∧w'.cell? ⟨b,f+k*5+3,none⟩=some (.string t)∧w'.cell? ⟨b,f+k*5+4,none⟩=some (iT n)∧b<w'.heap.size)):=fun w' kb=>by
         obtain ⟨s',q',d',t',n',ai,_,e0,e1,e2,e3,e4⟩:=HL.o.ent kb ax k b6;rw [HG.o] at ai;cases ai;exact ⟨e0,e1,e2,e3,e4,u' ax kb.size⟩
        have bM:¬seq<q:=by omega
        subst ab;clear hA HO;go_upto_block 2 with fail
        go_cut [9] (fun s9 wx=>∃j:Nat,s9=iT j∧j≤m∧io A q m=j∧Bl wo wx)
        case first =>
         go_wp2_with fail
         go_loopw [9] (fun kv wq=>∃j:Nat,j≤m∧kv=iT j∧io A q m=io A q j∧Bl wo wq) (fun kv _=>(intOf kv).toNat)
         case atStart=>exact ⟨m,Fv _,rfl,rfl,Below.refl _ _⟩
         case round =>
         obtain ⟨j,hj,rfl,an,W⟩:=hrel;have aW:Eq (io A q m=io A q j):=an;have KB:Eq (Bl w wr):=hb.trans (W.mono hb.size);clear an;by_cases bv:j=0
         · subst bv;have Z:Bl wr wr.drew:=(Below.refl _ _).drew;have a9:Eq (∀w',Bl wr w'→(w'.cell? ⟨b,f+k*5,none⟩=some (.string s)∧w'.cell? ⟨b,f+k*5+1,none⟩=some (iT q)∧w'.cell? ⟨b,f+k*5+2,none⟩=some (iT d)∧w'.cell? ⟨b,f+k*5+3,none⟩=some (.string t)∧w'.cell? ⟨b,f+k*5+4,none⟩=some (iT n)∧b<w'.heap.size)):=fun w' kk=>R.o w' (KB.o.trans (kk.mono KB.o.size))
           go_wp2_with fail
           refine eJ a9 Z fun N=>?_
           refine aP 0 16 N ?_;refine dN ?_;have KZ:Eq (Bl wo wr.drew):=W.trans (Z.mono W.size);clear Z a9 N;go_wp2;go_meet
           exact ⟨0,rfl,FB _,by rw [aW.o];rfl,KZ.o⟩
         · have bR:0<j:=by omega
           have bP:(0:Int)<(j:Int):=by omega
           have bX:(0:Int)≤(j:Int) - 1:=by omega
           have c4:(j:Int) - 1<(m:Int):=by omega
           have bN:(1:Int)≤(j:Int):=by omega
           have bL:((j:Int) - 1).toNat=j - 1:=by omega
           have wj:IntKind.i64.wrap ((j:Int) - 1)=(j:Int) - 1:=by rw [FQ];unfold wrap64;omega
           have aT:=a6.o.lt.2;obtain ⟨s',q',d',t',n',ai,_,e0,e1,e2,e3,e4⟩:=a6.o.entsAt.ent W aT (j - 1) (by omega);simp only [FG] at e1;have b2:Eq (A[j - 1]?=some (s',q',d',t',n')):=ai;have b3:Eq (j=j - 1+1):=by show j=j - 1+1;omega
           have Z:Bl wr wr.drew:=(Below.refl _ _).drew;have bp:g<wr.heap.size:=u' aT W.size;have a9:Eq (∀w',Bl wr w'→(w'.cell? ⟨b,f+k*5,none⟩=some (.string s)∧w'.cell? ⟨b,f+k*5+1,none⟩=some (iT q)∧w'.cell? ⟨b,f+k*5+2,none⟩=some (iT d)∧w'.cell? ⟨b,f+k*5+3,none⟩=some (.string t)∧w'.cell? ⟨b,f+k*5+4,none⟩=some (iT n)∧b<w'.heap.size∧w'.cell? ⟨g,(j - 1)*5+1,none⟩=some (iT q')∧g<w'.heap.size)):=fun w' kk=>by
            obtain ⟨y0,y1,y2,y3,y4,y5⟩:=R.o w' (KB.o.trans (kk.mono KB.o.size));exact ⟨y0,y1,y2,y3,y4,y5,cell_later kk e1,u' bp kk.size⟩
           clear e0 e1 e2 e3 e4 ai aT;by_cases aI:q<q'
           · have bg:decide (q<q')=true:=decide_eq_true aI;go_wp2_with fail
             refine eJ a9 Z fun N=>?_
             refine aP 0 16 N ?_;refine dN ?_;have KZ:Eq (Bl wo wr.drew):=W.trans (Z.mono W.size);clear Z a9 N;go_wp2;go_roundw
             case rel =>
              have az:io A q m=io A q (j - 1):=by
               have:=Em b2.o aI;rw [← b3.o] at this;rw [aW.o,this]
              first | exact ⟨j - 1,by omega,by first | go_num | (congr 1;omega),az,KZ.o⟩ | ((repeat apply Exists.intro);exact ⟨⟨j - 1,by omega,by first | go_num | (congr 1;omega),az,KZ.o⟩,rfl⟩)
             case measure=>simp [intOf];omega
           · have bg:decide (q<q')=false:=decide_eq_false aI;go_wp2_with fail
             refine eJ a9 Z fun N=>?_
             refine aP 0 16 N ?_;refine dN ?_;have KZ:Eq (Bl wo wr.drew):=W.trans (Z.mono W.size);clear Z a9 N;go_wp2;go_meet
             refine ⟨j,rfl,hj,?_,KZ.o⟩;have:=Bv (q:=q) b2.o (by simp only;omega);rw [← b3.o] at this;rw [aW.o,this]
        case rest =>
         obtain ⟨j,rfl,bx,an,aD⟩:=hcut;have ap:Eq (eX A (s,q,d,t,n)=A.take j++([(s,q,d,t,n)]++A.drop j)):=by show eX A (s,q,d,t,n)=_;unfold eX;rw [a1.o,an]
         have aN:Eq (∀l ∈ A,dR l):=a6.o.ents;have aM:Eq (∀l ∈ A.take j++[(s,q,d,t,n)],dR l):=fun l hl=>by rcases FI.1 hl with h1 | h1;exact aN.o l (F9 h1);simp only [FL] at h1;subst h1;exact aF.o
         have aB:Eq (∀l ∈ eX A (s,q,d,t,n),dR l):=fun l hl=>by rw [ap.o,← FT] at hl;rcases FI.1 hl with h1 | h1;exact aM.o l h1;exact aN.o l (Gf h1)
         have ad:Eq (ag wc w.heap.size g m c A):=a6.o.below aD;have KC:Eq (Bl w wc):=hb.trans (aD.mono hb.size);have kt:Bl wc (wc.alloc (.cells #[] 50)):=bZ;have au:Eq (ag (wc.alloc (.cells #[] 50)) wc.heap.size wc.heap.size 0 0 []):=bV wc _ (Fv _);have av:Eq (ah (wc.alloc (.cells #[] 50)) (pT g) m c A):=ad.o.entsAt.keep kt;have ak:Eq (g<wc.heap.size):=ad.o.lt.2;have cg:j≤c:=by omega
         have bB:(j:Int)≤(c:Int):=by omega
         have bH:(j:Int)≤(m:Int):=by omega
         clear an aD hb g0 g1 g2 g3 g4 bt;by_cases bs:c=j
         · subst bs;have ay:m=c:=by omega
           have bi:Eq (m=c):=ay;have bk:Eq (A.drop c=[]):=GD (by rw [a1.o];omega);clear ay;go_upto_region 10 with fail
           obtain ⟨gt,ao⟩:=aG wc.heap.size;obtain ⟨wt,ar⟩:=aG (wc.alloc (.cells #[] 50));have aJ:Bl wc wt:=by rw [ar];exact kt
           have Z:mD w wt.drew g c c gt 0 0 (A.take c) (A.drop c):=mD.below ⟨KC.o.trans (aJ.mono KC.o.size),(ad.o.below aJ).prefix (by omega),by rw [ar,ao,bk.o];exact au.o.mono KC.o.size,by have:=ak.o;omega⟩ (Below.refl _ _).drew;rw [← ar,← ao];clear ar ao kt aJ au av ad ak;have aS:c+1+0=m+1:=by have:=bi.o;omega
           go_wp2_with fail
           refine wp_region_held_drew (S:=(fun w'=>w'.cell? ⟨b,f+k*5,none⟩=some (.string s)∧w'.cell? ⟨b,f+k*5+1,none⟩=some (iT q)∧w'.cell? ⟨b,f+k*5+2,none⟩=some (iT d)∧w'.cell? ⟨b,f+k*5+3,none⟩=some (.string t)∧w'.cell? ⟨b,f+k*5+4,none⟩=some (iT n)∧b<w'.heap.size)) (by kernel_rfl) (R.o _ Z.low) (fun N=>?_);generalize wt.drew=wd at Z N ⊢;refine aP 0 7 N ?_;refine aP 9 1 N ?_;refine aQ 7 fun K hK=>?_
           go_simp;have kN:Bl wd (wd.alloc (.cells #[.string s,iT q,iT d,.string t,iT n] 50)):=bZ;have sN:=Z.below kN;have rN:ah (wd.alloc (.cells #[.string s,iT q,iT d,.string t,iT n] 50)) (some ⟨wd.heap.size,0,none⟩) 1 1 [(s,q,d,t,n)]:=df wd _ _ _ _ _ aF.o;generalize wd.heap.size=gn at rN ⊢;generalize wd.alloc (.cells #[.string s,iT q,iT d,.string t,iT n] 50)=wn at sN rN kN ⊢;refine hK.o _ _ (R.o _ sN.low) fun N=>?_
           (try go_frame);refine aQ 8 fun K hK=>?_
           refine aw rfl (.tmp 61) (.tmp 66) 28 rfl w.heap.size 50 i0 _ 5 56 Tryz.underlying28 hi am al aq rfl (Ga 4) _ _ _ rfl sN.o.owns ⟨gn,0,none⟩ 1 1 (aC [(s,q,d,t,n)]) rfl rfl (bC rN) (aO _) ?_ ?_ ?_ ?_
           · unfold maxLen;omega
           · omega
           · exact sN.low.size
           intro v8 w8 H I Q;obtain ⟨g8,c8,rfl⟩:=aH H Q;have E:wn.grownBy w8 (some g):=I;have r8:ag w8 w.heap.size g8 (c+1) c8 (A.take c++[(s,q,d,t,n)]):=⟨by rw [aL];exact H,by simp [a1.o];omega,aM.o⟩;have Y:=sN.grown E r8;refine hK.o _ _ (R.o _ Y.low) fun N=>?_
           (try go_frame);refine aQ 10 fun K hK=>?_
           refine aw rfl (.tmp 67) (.tmp 68) 28 rfl w.heap.size 50 i0 _ 5 56 Tryz.underlying28 hi am al aq rfl (Ga 4) _ _ _ rfl Y.o.owns ⟨gt,0,none⟩ 0 0 (aC (A.drop c)) rfl ?_ (bC Y.tl.entsAt) (aO _) ?_ ?_ ?_ ?_
           · rw [aV,Y.tl.len]
           · unfold maxLen;omega
           · omega
           · exact Y.low.size
           intro bz w10 r F J;obtain ⟨a5,a8,rfl⟩:=aH r J;have y:w8.grownBy w10 (some g8):=F;have a3:Bl w w10:=Y.low.grown y Y.low.size (fun k e=>by cases e;exact Y.o.lt.1);have aj:Ea w w10:=⟨a3⟩;refine hK.o _ _ (R.o _ aj.low) fun N=>?_
           (try go_frame);refine aP 11 1 N ?_;refine dN ?_;rw [aS] at r ⊢;have a2:Eq (ag w10 w.heap.size a5 (m+1) a8 (bE (aR (L.take (k+1)) s seq))):=by
            refine ⟨?_,?_,?_⟩
            · rw [T.o,ap.o,← FT,aL];exact r
            · rw [T.o,pD,a1.o]
            · rw [T.o];exact aB.o
           have a0:Eq (Bl w w10):=a3;clear r F y J Y H I E Q sN r8 a3 aj N;go_wp2;go_roundw
           case rel =>
            first | exact ⟨k+1,a5,m+1,a8,by omega,by omega,by go_num,rfl,a2.o,a0.o⟩ | ((repeat apply Exists.intro);exact ⟨⟨k+1,a5,m+1,a8,by omega,by omega,by go_num,rfl,a2.o,a0.o⟩,rfl⟩)
           case measure=>simp [intOf];omega
         · have bG:¬(c:Int)=(j:Int):=by omega
           have aS:j+1+(m - j)=m+1:=by omega
           go_upto_region 10 with (at_builtin;refine wpList_append_own _ rfl _ _ 28 rfl wc.heap.size 50 i0 _ 5 56 Tryz.underlying28 hi am al aq rfl (by decide) _ _ _ rfl au.o.owns ⟨g,j*5,none⟩ (m - j) (c - j) (aC (A.drop j)) rfl ?_ ?_ ?_ ?_ ?_ ?_ ?_)
           all_goals try (first | (rw [aV,FN,a1.o];done) | exact nE av.o j | exact aO _ | (intro x u hu;have:=nE av.o j x u hu;rw [FO] at this;exact this))
           all_goals try (first | (unfold maxLen;omega) | omega | (simp;omega))
           intro vt wt U aa a7;obtain ⟨gt,ct,rfl⟩:=l9 U (by first | exact a7 | (intro e;exact absurd (a7.1 e).1 (by simp)));have O:(wc.alloc (.cells #[] 50)).grownBy wt (some wc.heap.size):=aa;have TL:ag wt wc.heap.size gt (m - j) ct (A.drop j):=⟨by first | exact U | (have h0:=U;rw [FG] at h0;exact h0),by rw [FN,a1.o],fun l hl=>aN.o l (Gf hl)⟩;have Z:mD w wt.drew g j c gt (m - j) ct (A.take j) (A.drop j):=mD.below ⟨(KC.o.trans (kt.mono KC.o.size)).grown O (FK KC.o.size kt.size) (fun k e=>by cases e;exact KC.o.size),((ad.o.below kt).grown O (fun e=>by cases e;have:=ak.o;omega)).prefix bx,TL.mono KC.o.size,by have:=TL.lt.1;have:=ak.o;omega⟩ (Below.refl _ _).drew;clear U aa O a7 TL kt au av ad ak;go_wp2_with fail
           refine wp_region_held_drew (S:=(fun w'=>w'.cell? ⟨b,f+k*5,none⟩=some (.string s)∧w'.cell? ⟨b,f+k*5+1,none⟩=some (iT q)∧w'.cell? ⟨b,f+k*5+2,none⟩=some (iT d)∧w'.cell? ⟨b,f+k*5+3,none⟩=some (.string t)∧w'.cell? ⟨b,f+k*5+4,none⟩=some (iT n)∧b<w'.heap.size)) (by kernel_rfl) (R.o _ Z.low) (fun N=>?_);generalize wt.drew=wd at Z N ⊢;refine aP 0 7 N ?_;refine aP 9 1 N ?_;refine aQ 7 fun K hK=>?_
           go_simp;have kN:Bl wd (wd.alloc (.cells #[.string s,iT q,iT d,.string t,iT n] 50)):=bZ;have sN:=Z.below kN;have rN:ah (wd.alloc (.cells #[.string s,iT q,iT d,.string t,iT n] 50)) (some ⟨wd.heap.size,0,none⟩) 1 1 [(s,q,d,t,n)]:=df wd _ _ _ _ _ aF.o;generalize wd.heap.size=gn at rN ⊢;generalize wd.alloc (.cells #[.string s,iT q,iT d,.string t,iT n] 50)=wn at sN rN kN ⊢;refine hK.o _ _ (R.o _ sN.low) fun N=>?_
           (try go_frame);refine aQ 8 fun K hK=>?_
           refine aw rfl (.tmp 61) (.tmp 66) 28 rfl w.heap.size 50 i0 _ 5 56 Tryz.underlying28 hi am al aq rfl (Ga 4) _ _ _ rfl sN.o.owns ⟨gn,0,none⟩ 1 1 (aC [(s,q,d,t,n)]) rfl rfl (bC rN) (aO _) ?_ ?_ ?_ ?_
           · unfold maxLen;omega
           · omega
           · exact sN.low.size
           intro v8 w8 H I Q;obtain ⟨g8,c8,rfl⟩:=aH H Q;have E:wn.grownBy w8 (some g):=I;have r8:ag w8 w.heap.size g8 (j+1) c8 (A.take j++[(s,q,d,t,n)]):=⟨by rw [aL];exact H,by simp [a1.o];omega,aM.o⟩;have Y:=sN.grown E r8;refine hK.o _ _ (R.o _ Y.low) fun N=>?_
           (try go_frame);refine aQ 10 fun K hK=>?_
           refine aw rfl (.tmp 67) (.tmp 68) 28 rfl w.heap.size 50 i0 _ 5 56 Tryz.underlying28 hi am al aq rfl (Ga 4) _ _ _ rfl Y.o.owns ⟨gt,0,none⟩ (m - j) ct (aC (A.drop j)) rfl ?_ (bC Y.tl.entsAt) (aO _) ?_ ?_ ?_ ?_
           · rw [aV,Y.tl.len]
           · unfold maxLen;omega
           · omega
           · exact Y.low.size
           intro bz w10 r F J;obtain ⟨a5,a8,rfl⟩:=aH r J;have y:w8.grownBy w10 (some g8):=F;have a3:Bl w w10:=Y.low.grown y Y.low.size (fun k e=>by cases e;exact Y.o.lt.1);have aj:Ea w w10:=⟨a3⟩;refine hK.o _ _ (R.o _ aj.low) fun N=>?_
           (try go_frame);refine aP 11 1 N ?_;refine dN ?_;rw [aS] at r ⊢;have a2:Eq (ag w10 w.heap.size a5 (m+1) a8 (bE (aR (L.take (k+1)) s seq))):=by
            refine ⟨?_,?_,?_⟩
            · rw [T.o,ap.o,← FT,aL];exact r
            · rw [T.o,pD,a1.o]
            · rw [T.o];exact aB.o
           have a0:Eq (Bl w w10):=a3;clear r F y J Y H I E Q sN r8 a3 aj N;go_wp2;go_roundw
           case rel =>
            first | exact ⟨k+1,a5,m+1,a8,by omega,by omega,by go_num,rfl,a2.o,a0.o⟩ | ((repeat apply Exists.intro);exact ⟨⟨k+1,a5,m+1,a8,by omega,by omega,by go_num,rfl,a2.o,a0.o⟩,rfl⟩)
           case measure=>simp [intOf];omega
      · have HF:Eq (aR (L.take (k+1)) key seq=aR (L.take k) key seq):=fj HG.o (by simp;omega);have bQ:seq<q:=by omega
        subst ab;go_wp2;go_roundw
        case rel=>exact ⟨k+1,g,m,c,by omega,by omega,by go_num,rfl,by rw [HF.o];exact HO.o,hb⟩
        case measure=>simp [intOf];omega
    · have HF:Eq (aR (L.take (k+1)) key seq=aR (L.take k) key seq):=fj HG.o (fun h=>ab h.1);have br:¬s.toList=key.toList:=by
       rw [F1,F1];intro h;exact ab (GX (GS.1 h))
      have bI:(s.toList == key.toList)=false:=by simpa using br
      clear ab;go_wp2;go_roundw
      case rel=>exact ⟨k+1,g,m,c,by omega,by omega,by go_num,rfl,by rw [HF.o];exact HO.o,hb⟩
      case measure=>simp [intOf];omega
  · have HF:Eq (aR (L.take k) key seq=aR L key seq):=by show aR (L.take k) key seq=_;rw [FH (by rw [b5.o];omega)]
    go_wp2;go_ret;exact ⟨g,m,c,rfl,by rw [← HF.o];exact HO.o,hb⟩
section
attribute [local go_sem] Gi
structure rk (w wi:World) (C:Nat) (v0 v1 v2:Value) (g m c:Nat) (D:List ae):Prop where
 low:Bl w wi
 bc:eR wi C v0 v1 v2
 row:ag wi w.heap.size g m c D
theorem rk.below (h:rk w wi C v0 v1 v2 g m c D) (hb:Bl wi wj):rk w wj C v0 v1 v2 g m c D :=
 ⟨h.low.trans (hb.mono h.low.size),h.bc.below hb,h.row.below hb⟩
theorem rk.set (h:rk w wi C v0 v1 v2 g m c D) (hC:w.heap.size≤C) (hE:C≠g) (u0 u1 u2:Value) :
 rk w (((wi.setCell ⟨C,0,none⟩ u0).setCell ⟨C,1,none⟩ u1).setCell ⟨C,2,none⟩ u2) C u0 u1 u2 g m c D :=
 ⟨((h.low.setCell (p:=⟨C,0,none⟩) hC _).setCell (p:=⟨C,1,none⟩) hC _).setCell (p:=⟨C,2,none⟩) hC _,h.bc.setAll _ _ _,((h.row.setCell (p:=⟨C,0,none⟩) hE _).setCell (p:=⟨C,1,none⟩) hE _).setCell (p:=⟨C,2,none⟩) hE _⟩
structure nQ (w wi:World) (C X:Nat) (v0 v1 v2:Value) (g m c:Nat) (D:List ae):Prop where
 st:rk w wi C v0 v1 v2 g m c D
 bx:eR wi X (.bool false) (.string ⟨#[]⟩) (iT 0)
theorem nQ.below (h:nQ w wi C X v0 v1 v2 g m c D) (hb:Bl wi wj):nQ w wj C X v0 v1 v2 g m c D:=⟨h.st.below hb,h.bx.below hb⟩
theorem nQ.bc (h:nQ w wi C X v0 v1 v2 g m c D):eR wi C v0 v1 v2:=h.st.bc
theorem nQ.row (h:nQ w wi C X v0 v1 v2 g m c D):ag wi w.heap.size g m c D:=h.st.row
theorem nQ.set (h:nQ w wi C X v0 v1 v2 g m c D) (hC:w.heap.size≤C) (hE:C≠g) (b:X≠C) (u0 u1 u2:Value) :
 nQ w (((wi.setCell ⟨C,0,none⟩ u0).setCell ⟨C,1,none⟩ u1).setCell ⟨C,2,none⟩ u2) C X u0 u1 u2 g m c D:=⟨h.st.set hC hE u0 u1 u2,((h.bx.other b 0 _).other b 1 _).other b 2 _⟩
theorem uw (a:Option Addr) (len H:Nat) (L:List ae) (key:ByteArray) (seq:Int) (w:World) (hL:ah w a len H L) (hlen:len≤1048576) :
 Calls Tryz.prog 168 #[.slice a len H,.string key,iT seq] w fun e w'=>e=.returned (eW (gH L key seq))∧Bl w w':=by
 obtain ⟨D,hD⟩:=aG (bE (aR L key seq));obtain ⟨RC,Q⟩:=aG (gH L key seq);have ad:Eq (RC=jz D):=by rw [Q,hD];rfl
 have CC:Eq (∀w',Bl w w'→Calls Tryz.prog 211 #[.slice a len H,.string key,iT seq] w' fun e a3=>∃g n c,e=.returned (sL g n c)∧ag a3 w'.heap.size g n c D∧Bl w' a3):=by rw [hD];exact fun w' kb=>Dm a len H L key seq w' (hL.keep kb) hlen
 rw [← Q];clear Q hD hL;obtain ⟨X,hX⟩:=aG w.heap.size;obtain ⟨W,Y⟩:=aG ((w.alloc (.cells #[.bool false,.string ⟨#[]⟩,iT 0] 57)).alloc (.cells #[.bool false,.string ⟨#[]⟩,iT 0] 57));have kA:Bl w (w.alloc (.cells #[.bool false,.string ⟨#[]⟩,iT 0] 57)):=bZ;have b:Eq (eR W X (.bool false) (.string ⟨#[]⟩) (iT 0)):=by rw [Y,hX];exact (eR.new _ _ _ _ _).alloc _
 have J:Eq (eR W (X+1) (.bool false) (.string ⟨#[]⟩) (iT 0)):=by
  have:=eR.new (w.alloc (.cells #[.bool false,.string ⟨#[]⟩,iT 0] 57)) 57 (.bool false) (.string ⟨#[]⟩) (iT 0);rw [FP] at this;rw [Y,hX];exact this
 have r:Eq (Bl w W):=by rw [Y];exact kA.alloc kA.size _
 have F:Eq (w.heap.size≤X):=by show w.heap.size≤X;omega
 go_enter Tryz.func168,Tryz.ntmps168
 go_wp2_with fail
 rw [← Y,← hX];clear Y hX kA;refine (CC.o _ r.o).mono ?_;rintro e w1 ⟨g,m,c,rfl,hO,E⟩;have R:Eq (rk w w1 (X+1) (.bool false) (.string ⟨#[]⟩) (iT 0) g m c D):=⟨r.o.trans (E.mono r.o.size),J.o.below E,hO.mono r.o.size⟩;have a1:Eq (eR w1 X (.bool false) (.string ⟨#[]⟩) (iT 0)):=b.o.below E;have a8:Eq (X+1<g):=by have:=hO.lt.1;have:=J.o.lt;show X+1<g;omega
 have a5:Eq (D.length=m):=hO.len;have ay:=hO.entsAt.room;have ai:=hO.entsAt.big;unfold maxLen at ai;obtain ⟨C,hC⟩:=aG (X+1);rw [← hC] at R a8 ⊢;have al:Eq (X≠C):=by show X≠C;omega
 have ao:Eq (w.heap.size≤C):=by have:=F.o;show w.heap.size≤C;omega
 have aj:Eq (C≠g):=by have:=a8.o;show C≠g;omega
 clear hC b J hO E CC r;go_wp2;go_loopw [9] (fun iv wr=>∃(k:Nat) (f:fe),k≤m∧iv=iT k∧f=jz (D.take k)∧rk w wr C (.bool f.1) (.string f.2.1) (iT f.2.2) g m c D∧eR wr X (.bool false) (.string ⟨#[]⟩) (iT 0)) (fun iv _=>m - (intOf iv).toNat)
 case atStart=>exact ⟨0,(false,⟨#[]⟩,0),FB _,rfl,rfl,R.o,a1.o⟩
 case round =>
  obtain ⟨k,f,hk,rfl,a4,U,a2⟩:=hrel;have I:Eq (f=jz (D.take k)):=a4;have N:Eq (rk w wr C (.bool f.1) (.string f.2.1) (iT f.2.2) g m c D):=U;have b:Eq (eR wr X (.bool false) (.string ⟨#[]⟩) (iT 0)):=a2;clear a4 U a2 R a1;by_cases a7:k<m
  · obtain ⟨⟨s,q,d,t,n⟩,hg⟩:∃x,D[k]?=some x:=⟨_,j' (by rw [a5.o];exact a7)⟩;have HG:Eq (D[k]?=some (s,q,d,t,n)):=hg;have y:Eq (∀w',ag w' w.heap.size g m c D→(w'.cell? ⟨g,k*5,none⟩=some (.string s)∧w'.cell? ⟨g,k*5+1,none⟩=some (iT q)∧w'.cell? ⟨g,k*5+2,none⟩=some (iT d)∧w'.cell? ⟨g,k*5+3,none⟩=some (.string t)∧w'.cell? ⟨g,k*5+4,none⟩=some (iT n)∧g<w'.heap.size)):=fun w' ho=>by
     obtain ⟨s',q',d',t',n',Z,_,e0,e1,e2,e3,e4⟩:=ho.entsAt.ent (Below.refl w'.heap.size w') ho.lt.2 k a7;rw [HG.o] at Z;cases Z;simp only [FG] at e0 e1 e2 e3 e4;exact ⟨e0,e1,e2,e3,e4,ho.lt.2⟩
    obtain ⟨u,O⟩:=aG (fY f.1 f.2.1 f.2.2 d t n);have a0:∀w,Calls Tryz.prog 212 #[.agg #[.bool f.1,.string f.2.1,iT f.2.2],.agg #[.string s,iT q,iT d,.string t,iT n]] w fun e w'=>e=.returned (eW u)∧Bl w w':=by rw [O];exact fun w=>Bd f.1 f.2.1 s t f.2.2 q d n w
    have an:Eq (u=AK (jz (D.take k)) (s,q,d,t,n)):=by rw [O,← I.o];rfl
    have k0:nQ w wr.drew C X (.bool f.1) (.string f.2.1) (iT f.2.2) g m c D:=nQ.below ⟨N.o,b.o⟩ (Below.refl _ _).drew;clear hg O N b I;go_wp2_with fail
    refine wp_region_held_drew (S:=(fun w'=>w'.cell? ⟨g,k*5,none⟩=some (.string s)∧w'.cell? ⟨g,k*5+1,none⟩=some (iT q)∧w'.cell? ⟨g,k*5+2,none⟩=some (iT d)∧w'.cell? ⟨g,k*5+3,none⟩=some (.string t)∧w'.cell? ⟨g,k*5+4,none⟩=some (iT n)∧g<w'.heap.size)) (by kernel_rfl) (y.o _ k0.row) (fun T=>?_);generalize wr.drew=wd at k0 T ⊢;refine aP 1 4 T ?_;refine aQ 0 fun K hK=>?_
    have c0:=k0.bc.all;go_simp;clear c0;refine hK.o _ _ (y.o _ k0.row) fun T=>?_
    (try go_frame);refine aQ 5 fun K hK=>?_
    go_simp;refine (a0 _).mono ?_;rintro e w1 ⟨rfl,b1⟩;have k1:=k0.below b1;unfold eW;go_wp2_with fail
    refine hK.o _ _ (y.o _ k1.row) fun T=>?_
    (try go_frame);refine aQ 6 fun K hK=>?_
    have c0:=k1.bc.all;have f0:=k1.bc.fr 0;have f1:=k1.bc.fr 1;have f2:=k1.bc.fr 2;go_simp;have k2:=k1.set ao.o aj.o al.o (.bool u.1) (.string u.2.1) (iT u.2.2);clear c0 f0 f1 f2;refine hK.o _ _ (y.o _ k2.row) fun T=>?_
    (try go_frame);refine dN ?_;have HK:Eq (nQ w _ C X (.bool u.1) (.string u.2.1) (iT u.2.2) g m c D):=k2;clear a0 T;go_wp2;go_roundw
    case rel=>exact ⟨k+1,u,by omega,by go_num,an.o.trans (lJ HG.o).symm,HK.o.st,HK.o.bx⟩
    case measure=>simp [intOf];omega
  · have aa:Eq (RC=f):=by show RC=f;rw [ad.o,I.o,FH (by rw [a5.o];omega)]
    obtain ⟨cb,ct,cn⟩:=f;have c0:=N.o.bc.c0;have c1:=N.o.bc.c1;have c2:=N.o.bc.c2;have cl:=N.o.bc.lt;have x0:=b.o.c0;have x1:=b.o.c1;have x2:=b.o.c2;have xl:=b.o.lt;have f0:=b.o.fr 0;have f1:=b.o.fr 1;have f2:=b.o.fr 2;simp only at c0 c1 c2;go_wp2;refine bodyPost_ret (v:=.agg #[.bool cb,.string ct,iT cn]) (by simp [results,Tryz.results168,go_sem,x0,x1,x2]) rfl ⟨by rw [aa.o];rfl,?_⟩;exact ((N.o.low.setCell (p:=⟨X,0,none⟩) F.o _).setCell (p:=⟨X,1,none⟩) F.o _).setCell (p:=⟨X,2,none⟩) F.o _
end
theorem zl (lo:Nat) (q:Int) (am:Option Addr) (R cm b d cv:Nat) (ak:Option Addr) (ns cs:Nat) (M:List ae) (A B C:List aj) (S:List Int) (key:ByteArray) (seq:Int) (w:World) (hT:cj lo w am R cm (some ⟨b,d,none⟩) 3 cv ak ns cs M [A,B,C] S) (bW:R≤60) (hl:∀Z ∈ [A,B,C],Z.length≤8) (an:∀Z ∈ [A,B,C],∀r ∈ Z,cF r.1 r.2=true) :
 Calls Tryz.prog 108 #[.agg #[iT q,.slice am R cm,sO b d 3 cv,.slice ak ns cs],.string key,iT seq] w fun e w'=>e=.returned (eW (gH (aR M key seq++[A,B,C].flatMap (fun Z=>bf Z key seq)) key seq))∧Bl w w':=by
 have HT:=bT hT;have ba:=bT hl;have aq:=bT an;obtain ⟨RC,K⟩:=aG (eW (gH (aR M key seq++[A,B,C].flatMap (fun Z=>bf Z key seq)) key seq));have CA:Eq (∀(base g n c:Nat) (w':World),ag w' base g n c (aR M key seq++[A,B,C].flatMap (fun Z=>bf Z key seq))→n≤1048576→Calls Tryz.prog 168 #[sL g n c,.string key,iT seq] w' fun e bD=>e=.returned RC∧Bl w' bD):=fun base g n c w' h hn=>by
  rw [K];exact uw _ n c _ key seq w' h.entsAt hn
 obtain ⟨rb,rt,rn,br⟩:∃(rb:Bool) (rt:ByteArray) (rn:Int),RC=.agg #[.bool rb,.string rt,iT rn]:=by
  rw [K];exact ⟨_,_,_,rfl⟩
 rw [← K];clear K;subst br;obtain ⟨J,N⟩:=aG (aR M key seq);have bp:Eq (J.length≤R):=by have h1:=iU M key seq;have h2:=hT.mem.1.length;show _≤_;rw [N];omega
 obtain ⟨X,hX⟩:=aG w.heap.size;obtain ⟨W,hW⟩:=aG ((w.alloc (.cells #[iT q,.slice am R cm,sO b d 3 cv,.slice ak ns cs] 31)).alloc (.cells #[.bool false,.string ⟨#[]⟩,iT 0] 57));have kW:Bl w W:=by rw [hW];exact bZ.alloc (by simp) _
 have bx:aE W X (iT q) (.slice am R cm) (sO b d 3 cv) (.slice ak ns cs):=by rw [hW,hX];exact (aE.new _ _ _ _ _ _).alloc _
 have CC:Eq (Calls Tryz.prog 167 #[.slice am R cm,.string key,iT seq] W fun e w'=>∃g n c,e=.returned (sL g n c)∧ag w' W.heap.size g n c J∧Bl W w'):=by rw [N];exact rG am R cm M key seq W (hT.mem.1.keep kW) (by omega)
 rw [← N] at CA;have K0:Eq (Bl w W):=kW;have HX:Eq (X=w.heap.size):=hX;have ai:Eq (∀w',Bl W w'→w'.cell? ⟨X,2,none⟩=some (sO b d 3 cv)∧X<w'.heap.size):=fun w' k=>⟨cell_later k bx.c2,u' bx.lt k.size⟩
 have bE:Eq (W.cell? ⟨X+1,0,none⟩=some (.bool false)∧W.cell? ⟨X+1,1,none⟩=some (.string ⟨#[]⟩)∧W.cell? ⟨X+1,2,none⟩=some (iT 0)∧(∀o,W.frozen? ⟨X+1,o,none⟩=false)∧X+1<W.heap.size):=by
  rw [hW,hX];refine ⟨?_,?_,?_,fun o=>?_,?_⟩ <;> simp
 have x1:=bx.c1;have xz:=bx.lt;clear kW bx hT hl an N;go_enter Tryz.func108,Tryz.ntmps108
 go_wp2_with fail
 rw [← hX,← hW];clear hX hW x1 xz;refine CC.o.mono ?_;rintro e w1 ⟨g,n,c,rfl,a4,u⟩;have F:Eq (ag w1 W.heap.size g n c J):=a4;have c7:n≤60:=by have h1:=a4.len;have h2:=bp.o;omega
 have ao:Eq (Bl W w1):=u;clear u a4 CC;go_wp2;go_loopw [7,8] (fun fv kv wr=>∃(k gf U Y:Nat),k≤3∧kv=iT k∧fv=sL gf U Y∧U≤60+1200*k∧ag wr W.heap.size gf U Y (J++([A,B,C].take k).flatMap (fun Z=>bf Z key seq))∧Bl W wr) (fun _ kv _=>3 - (intOf kv).toNat)
 case atStart=>exact ⟨0,g,n,c,by omega,rfl,rfl,by omega,by simpa using F.o,ao.o⟩
 case round =>
  clear F ao;obtain ⟨k,gf,U,Y,hk,rfl,rfl,c9,b1,af⟩:=hrel;have a7:Eq (ag wr W.heap.size gf U Y (J++([A,B,C].take k).flatMap (fun Z=>bf Z key seq))):=b1;have f:Eq (Bl W wr):=af;clear b1 af;obtain ⟨x2,xz⟩:=ai.o _ f.o;by_cases ax:k<3
  · have aD:(k:Int)<3:=by omega
    have H:Eq (∀w',Bl W w'→Bl w w'):=fun w' kk=>K0.o.trans (kk.mono K0.o.size)
    obtain ⟨Z,sz,nz,cz,hZ,gz,E⟩:=HT.o.levels.level (H.o _ f.o) k ax;have y:=(HT.o.levels.lies _ rfl (by omega)).1;simp only at y;have aH:Eq (∀w',Bl W w'→w'.cell? ⟨b,d+k,none⟩=some (.slice sz nz cz)∧b<w'.heap.size∧az lo w' sz nz cz Z):=fun w' kk=>by
     obtain ⟨Z',bY,cd,ci,aT,aV,ad⟩:=HT.o.levels.level (H.o _ kk) k ax;rw [hZ] at aT;cases aT;have e1:wr.cell? ⟨b,d+k,none⟩=w.cell? ⟨b,d+k,none⟩:=Gc ((H.o _ f.o).block b y);have e2:w'.cell? ⟨b,d+k,none⟩=w.cell? ⟨b,d+k,none⟩:=Gc ((H.o _ kk).block b y);rw [e2,← e1,gz] at aV;cases aV;exact ⟨by rw [e2,← e1];exact gz,u' y (H.o _ kk).size,ad⟩
    have aF:Eq (Z ∈ [A,B,C]):=Fw hZ;have aZ:Eq (Z.length=nz):=E.length;have bF:Eq ([A,B,C][k]?=some Z):=hZ;have co:nz≤8:=by have h1:=ba.o Z aF.o;have h2:=aZ.o;omega
    obtain ⟨G,hG⟩:=aG (J++([A,B,C].take k).flatMap (fun Z=>bf Z key seq));have HG:Eq (G=J++([A,B,C].take k).flatMap (fun Z=>bf Z key seq)):=hG;have aC:Eq (ag wr W.heap.size gf U Y G):=by rw [hG];exact a7.o
    have aL:Eq (Bl W wr):=f.o;clear hG a7 gz E hZ y;go_wp2;clear x2 xz;go_loopw [7,9] (fun fv jv wr=>∃(j g n c:Nat),j≤nz∧jv=iT j∧fv=sL g n c∧n≤60+1200*k+150*j∧ag wr W.heap.size g n c (G++bf (Z.take j) key seq)∧Bl W wr) (fun _ jv _=>nz - (intOf jv).toNat)
    case atStart=>exact ⟨0,gf,U,Y,FB _,rfl,rfl,by omega,by simpa [bf] using aC.o,aL.o⟩
    case round =>
     clear aC aL f;obtain ⟨j,g,n,c,hj,rfl,rfl,hn,hO,hb⟩:=hrel;have HO:Eq (ag wr W.heap.size g n c (G++bf (Z.take j) key seq)):=hO;have T:Eq (Bl W wr):=hb;clear hO hb;obtain ⟨x2,xz⟩:=ai.o _ T.o;obtain ⟨gz,bB,_⟩:=aH.o _ T.o;by_cases bw:j<nz
     · have aQ:(j:Int)<(nz:Int):=by omega
       have E:=(aH.o _ T.o).2.2;obtain ⟨bz,oz,rfl,y⟩:=E.form (by omega);obtain ⟨L,m,s,ne,ce,hr,c6,g0,g1,hE⟩:=E.run (Below.refl _ wr) j bw;have ar:Eq (Z[j]?=some (L,m)):=hr;obtain ⟨a2,au,hl2⟩:=d5 (aq.o Z aF.o _ (Fw hr));simp only at a2 au hl2;have aK:Eq (aJ L=true):=a2;have ap:=hE.1.length;have aw:Eq (∀w',Bl wr w'→ah w' s ne ce L):=fun w' kk=>hE.1.keep kk
       have ch:ne≤150:=by omega
       have aI:1≤ne:=by omega
       obtain ⟨be,oe,rfl,ay⟩:=hE.1.form aI;obtain ⟨s0,q0,d0,t0,m0,aB,_,z0,_⟩:=hE.1.ent (Below.refl _ wr) ay 0 (by omega);obtain ⟨Q,q1,d1,t1,m1,av,_,z1,_⟩:=hE.1.ent (Below.refl _ wr) ay (ne - 1) (by omega);simp only [G4,Gv] at z0;have bd:Eq (bn L=s0):=by show bn L=s0;unfold bn;rw [aB]
       have bI:Eq (aU L=Q):=by show aU L=Q;unfold aU;rw [ap,av]
       have cb:(0:Int)≤(ne:Int) - 1:=by omega
       have cg:(ne:Int) - 1<(ne:Int):=by omega
       have bV:((ne:Int) - 1).toNat=ne - 1:=by omega
       have bS:(0:Int)<(ne:Int):=by omega
       have wj:IntKind.i64.wrap ((ne:Int) - 1)=(ne:Int) - 1:=by rw [FQ];unfold wrap64;omega
       have bX:j≤8:=by omega
       have bs:n≤1048576:=by omega
       have aM:Eq (aR L key seq=[]→ag wr W.heap.size g n c (G++bf (Z.take (j+1)) key seq)):=fun h0=>by
        have e1:bf (Z.take (j+1)) key seq=bf (Z.take j) key seq:=by
         rw [FU,ar.o,gh];simp [bf,h0]
        rw [e1];exact HO.o
       clear hr a2 au hl2 hE aB av E ap;cases h1:Op.bytesLess key.toList s0.toList with
       | true =>
        have HS:Eq (ag wr W.heap.size g n c (G++bf (Z.take (j+1)) key seq)):=aM.o (lm aK.o (by rw [bd.o];exact h1));go_wp2;go_roundw
        case rel=>exact ⟨j+1,g,n,c,by omega,by go_num,rfl,by omega,HS.o,T.o⟩
        case measure=>simp [intOf];omega
       | false =>
        by_cases h2:Op.bytesLess Q.toList key.toList=true
        · have h3:Op.bytesLess key.toList Q.toList=false:=eK _ _ h2;have h4:(key.toList == Q.toList)=false:=by
           rw [beq_eq_false_iff_ne];intro e;rw [e,b9] at h2;cases h2
          have HS:Eq (ag wr W.heap.size g n c (G++bf (Z.take (j+1)) key seq)):=aM.o (jR aK.o (by rw [bI.o];exact h2));clear h2;go_wp2;go_roundw
          case rel=>exact ⟨j+1,g,n,c,by omega,by go_num,rfl,by omega,HS.o,T.o⟩
          case measure=>simp [intOf];omega
        · have h3:(Op.bytesLess key.toList Q.toList || key.toList == Q.toList)=true:=by
           by_cases he:key.toList=Q.toList
           · rw [he];simp
           · rcases iD _ _ he with h | h
             · rw [h];rfl
             · exact absurd h h2
          have CF:Eq (Calls Tryz.prog 167 #[sO be oe ne ce,.string key,iT seq] wr fun e w'=>∃g n c,e=.returned (sL g n c)∧ag w' wr.heap.size g n c (aR L key seq)∧Bl wr w'):=rG _ ne ce L key seq wr (aw.o _ (Below.refl _ _)) (by omega);clear h2;go_wp2_with fail
          refine CF.o.mono ?_;rintro e w1 ⟨gr,nr,cr,rfl,a1,u⟩;have aA:Eq (Bl W w1):=T.o.trans (u.mono T.o.size);have F:Eq (ag w1 W.heap.size g n c (G++bf (Z.take j) key seq)):=HO.o.below u;have bv:Eq (cT w1 wr.heap.size (pT gr) nr cr (aR L key seq)):=cT.some a1;have c0:nr≤150:=by have h1:=a1.len;have h2:=iU L key seq;have h3:=(aw.o _ (Below.refl _ _)).length;omega
          obtain ⟨I,aY⟩:=aG (n+nr);have bK:Eq (I=n+nr):=aY;have bj:Eq (I≤60+1200*k+150*(j+1)):=by show _≤_;omega
          clear a1 u aY x2 xz gz bB g0 g1 z0 z1;go_wp2_with (at_builtin;refine o7 rfl _ _ rfl W.heap.size wr.heap.size g n c _ rfl F.o _ nr cr _ rfl bv.o bs (by omega) I bK.o ?_;intro g2 c2 w2 bg bk)
          go_roundw
          case rel =>
           refine ⟨j+1,g2,I,c2,by omega,by go_num,rfl,bj.o,?_,aA.o.grown bk aA.o.size (fun k e=>by cases e;exact F.o.lt.1)⟩;rw [FU,ar.o];have e1:bf (Z.take j++(some (L,m)).toList) key seq=bf (Z.take j) key seq++aR L key seq:=by rw [gh];simp [bf]
           rw [e1,← FT];exact bg
          case measure=>simp [intOf];omega
     · have aQ:¬(j:Int)<(nz:Int):=by omega
       have aN:j=nz:=by omega
       have O:Eq (ag wr W.heap.size g n c (J++([A,B,C].take (k+1)).flatMap (fun Z=>bf Z key seq))∧n≤60+1200*(k+1)):=by
        have h:=HO.o;rw [aN,FH (by rw [aZ.o];omega)] at h;refine ⟨?_,by omega⟩;rw [HG.o] at h;rw [FU,bF.o,List.flatMap_append,← FT];simpa using h
       clear aN HO;go_wp2;go_roundw
       case rel=>exact ⟨k+1,g,n,c,by omega,by go_num,rfl,O.o.2,O.o.1,T.o⟩
       case measure=>simp [intOf];omega
  · have aD:¬(k:Int)<3:=by omega
    obtain rfl:k=3:=by omega
    have bC:Eq (ag wr W.heap.size gf U Y (J++[A,B,C].flatMap (fun Z=>bf Z key seq))):=a7.o;go_wp2_with fail
    clear x2 xz;refine (CA.o _ _ _ _ _ bC.o (by omega)).mono ?_;rintro e w2 ⟨rfl,aX⟩;have t:=f.o.trans (aX.mono f.o.size);have K2:Eq (Bl w w2):=K0.o.trans (t.mono K0.o.size);obtain ⟨r0,r1,r2,rf,rz⟩:=bE.o;have r0:=cell_later t r0;have r1:=cell_later t r1;have r2:=cell_later t r2;have rf:∀o,w2.frozen? ⟨X+1,o,none⟩=false:=fun o=>(t.frozen (p:=⟨X+1,o,none⟩) rz).trans (rf o)
    have rz:=u' rz t.size;clear aX t;go_wp2;refine bodyPost_ret (v:=.agg #[.bool rb,.string rt,iT rn]) ?_ rfl ⟨rfl,?_⟩
    · have bu:(((w2.setCell ⟨X+1,0,none⟩ (.bool rb)).setCell ⟨X+1,1,none⟩ (.string rt)).setCell ⟨X+1,2,none⟩ (iT rn)).cell? ⟨X+1,0,none⟩=some (.bool rb):=by rw [Ft _ _ _ _ (by simp),Ft _ _ _ _ (by simp)];exact FD _ _ _ (by rw [r0];rfl)
      have bJ:(((w2.setCell ⟨X+1,0,none⟩ (.bool rb)).setCell ⟨X+1,1,none⟩ (.string rt)).setCell ⟨X+1,2,none⟩ (iT rn)).cell? ⟨X+1,1,none⟩=some (.string rt):=by rw [Ft _ _ _ _ (by simp)];exact FD _ _ _ (by rw [Ft _ _ _ _ (by simp),r1];rfl)
      have bq:(((w2.setCell ⟨X+1,0,none⟩ (.bool rb)).setCell ⟨X+1,1,none⟩ (.string rt)).setCell ⟨X+1,2,none⟩ (iT rn)).cell? ⟨X+1,2,none⟩=some (iT rn):=FD _ _ _ (by rw [Ft _ _ _ _ (by simp),Ft _ _ _ _ (by simp),r2];rfl);simp [results,Tryz.results108,go_sem,bu,bJ,bq]
    · have hx:w.heap.size≤X+1:=by have:=HX.o;omega
      exact ((K2.o.setCell (p:=⟨X+1,0,none⟩) hx _).setCell (p:=⟨X+1,1,none⟩) hx _).setCell (p:=⟨X+1,2,none⟩) hx _
end Go.Proofs.YtpobkmjicbobdaaGreat
