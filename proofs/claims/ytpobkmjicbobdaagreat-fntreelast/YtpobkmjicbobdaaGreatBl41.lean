/- Walks. -/
import Derived.Test.YtpobkmjicbobdaaGreatBl40
namespace Go.Proofs.YtpobkmjicbobdaaGreat
set_option maxRecDepth 100000
set_option maxHeartbeats 40000000
open Go.RowKit
variable {A B D:List ac} {C X c ct g gt j m n nt:Nat} {q:Int} {v0 v1 v2:Value} {w wi wj:World} {x:ac}
theorem af.prefix {base k:Nat} {L:List ac} (h:af w base g n c L) (hk:k≤n):af w base g k c (L.take k):=by
 refine ⟨?_,by have:=h.len;simp;omega,fun l hl=>h.ents l (Dw hl)⟩;have hf:aC (L.take k)=(aC L).take (k*5):=by
  have e:aC L=aC (L.take k)++aC (L.drop k):=by rw [← aJ,Ds]
  have hl:(aC (L.take k)).length=k*5:=by rw [aU,C5,h.len];congr 1;omega
  rw [e,← hl];exact List.take_left.symm
 refine ⟨by rw [aU,C5,h.len];congr 1;omega,Or.inr ?_⟩;rcases h.owns.2 with ⟨hv,_⟩ | ⟨f,d,b,hv,h1,h2,h3,h4,h5,h6⟩
 · cases hv
 · cases hv;refine ⟨g,c,b,rfl,h1,h2,by omega,h4,h5,?_⟩;rw [hf,← h6,List.take_take];congr 1
   omega
structure A7 (w wi:World):Prop where
 low:Bl w wi
structure lK (w wi:World) (g n c gt nt ct:Nat) (A B:List ac):Prop where
 low:Bl w wi
 o:af wi w.heap.size g n c A
 tl:af wi w.heap.size gt nt ct B
 ne:gt≠g
theorem lK.below (h:lK w wi g n c gt nt ct A B) (hb:Bl wi wj):lK w wj g n c gt nt ct A B :=
 ⟨h.low.trans (hb.mono h.low.size),h.o.below hb,h.tl.below hb,h.ne⟩
structure BH (w wi:World) (g n c gt nt ct:Nat) (A B:List ac):Prop where
 low:Bl w wi
 o:af wi w.heap.size g n c A
 tl:af wi w.heap.size gt nt ct B
theorem lK.grown {d f c':Nat} {b:List ac} (h:lK w wi g n c gt nt ct A B) (hg:wi.grownBy wj (some g)) (ho:af wj w.heap.size d f c' b):BH w wj d f c' gt nt ct b B :=
 ⟨h.low.grown hg h.low.size (fun k e=>by cases e;exact h.o.lt.1),ho,h.tl.grown hg (fun e=>h.ne (by cases e;rfl))⟩
theorem yW (h:A[j]?=some x) (hx:¬q<x.2.1):gG A q (j+1)=j+1:=by rw [gG,h];simp only;rw [if_neg hx]
theorem Bk (h:A[j]?=some x) (hx:q<x.2.1):gG A q (j+1)=gG A q j:=by rw [gG,h];simp only;rw [if_pos hx]
theorem Ap (a:Option Addr) (len aZ:Nat) (L:List ac) (key:ByteArray) (seq:Int) (w:World) (hL:ag w a len aZ L) (bH:len≤1048576) :
 Calls Tryz.prog 211 #[.slice a len aZ,.string key,iT seq] w fun e w'=>∃g n c,e=.returned (sL g n c)∧af w' w.heap.size g n c (bk (aQ L key seq))∧Bl w w':=by
 have bd:CG (L.length=len):=hL.length;have bp:CG (∀l ∈ L,dR l):=hL.ents;have co:=hL.room;have bg:=hL.big;unfold maxLen at bg;have HL:=bO hL;clear hL;obtain ⟨i0,hi,ap,am,an⟩:=info_parts Tryz.infoEnt;have b3:CG (af (w.alloc (.cells #[] 50)) w.heap.size w.heap.size 0 0 (bk (aQ (L.take 0) key seq))):=by
  have:=bI w _ (Cy _);simpa [aQ,bk,CG] using this
 have b5:CG (Bl w (w.alloc (.cells #[] 50))):=bZ;go_enter Tryz.func211,Tryz.ntmps211
 go_wp2;go_loopw [7,8] (fun ov iv wr=>∃(k g m c:Nat),k≤len∧m≤k∧iv=iT k∧ov=sL g m c∧af wr w.heap.size g m c (bk (aQ (L.take k) key seq))∧Bl w wr) (fun _ iv _=>len - (intOf iv).toNat)
 case atStart=>exact ⟨0,w.heap.size,0,0,C3 _,C3 _,rfl,rfl,b3.o,b5.o⟩
 case round =>
  rename World=>wo
  obtain ⟨k,g,m,c,hk,c2,rfl,rfl,hO,hb⟩:=hrel;have HO:CG (af wo w.heap.size g m c (bk (aQ (L.take k) key seq))):=hO;clear hO b3 b5;by_cases b6:k<len
  · obtain ⟨b,f,rfl,av⟩:=HL.o.form (by omega);obtain ⟨s,q,d,t,n,hg,b0,g0,g1,g2,g3,g4⟩:=HL.o.ent hb av k b6;have HG:CG (L[k]?=some (s,q,d,t,n)):=hg;have aV:CG (dR (s,q,d,t,n)):=b0;have bA:b<wo.heap.size:=l' av hb.size;clear hg b0;by_cases ah:s=key
    · by_cases hq:q≤seq
      · obtain ⟨A,hA⟩:=aH (bk (aQ (L.take k) key seq));have T:CG (bk (aQ (L.take (k+1)) key seq)=eD A (s,q,d,t,n)):=by
         show bk (aQ (L.take (k+1)) key seq)=_
         rw [gY HG.o ah hq,jJ,hA]
        have a8:CG (af wo w.heap.size g m c A):=by rw [hA];exact HO.o
        have a2:CG (A.length=m):=a8.o.len;have bU:m≤c:=a8.o.entsAt.room;have bm:c≤maxLen:=a8.o.entsAt.big;unfold maxLen at bm;have R:CG (∀w',Bl w w'→(w'.cell? ⟨b,f+k*5,none⟩=some (.string s)∧w'.cell? ⟨b,f+k*5+1,none⟩=some (iT q)∧w'.cell? ⟨b,f+k*5+2,none⟩=some (iT d)∧w'.cell? ⟨b,f+k*5+3,none⟩=some (.string t)∧w'.cell? ⟨b,f+k*5+4,none⟩=some (iT n)∧b<w'.heap.size)):=fun w' kb=>by
         obtain ⟨s',q',d',t',n',aj,_,e0,e1,e2,e3,e4⟩:=HL.o.ent kb av k b6;rw [HG.o] at aj;cases aj;exact ⟨e0,e1,e2,e3,e4,l' av kb.size⟩
        have bY:¬seq<q:=by omega
        subst ah;clear hA HO;go_upto_block 2 with fail
        go_cut [9] (fun s9 wx=>∃j:Nat,s9=iT j∧j≤m∧gG A q m=j∧Bl wo wx)
        case first =>
         go_wp2_with fail
         go_loopw [9] (fun kv wq=>∃j:Nat,j≤m∧kv=iT j∧gG A q m=gG A q j∧Bl wo wq) (fun kv _=>(intOf kv).toNat)
         case atStart=>exact ⟨m,Cy _,rfl,rfl,Below.refl _ _⟩
         case round =>
         obtain ⟨j,hj,rfl,ao,U⟩:=hrel;have aW:CG (gG A q m=gG A q j):=ao;have KB:CG (Bl w wr):=hb.trans (U.mono hb.size);clear ao;by_cases bz:j=0
         · subst bz;have Z:Bl wr wr.drew:=(Below.refl _ _).drew;have a3:CG (∀w',Bl wr w'→(w'.cell? ⟨b,f+k*5,none⟩=some (.string s)∧w'.cell? ⟨b,f+k*5+1,none⟩=some (iT q)∧w'.cell? ⟨b,f+k*5+2,none⟩=some (iT d)∧w'.cell? ⟨b,f+k*5+3,none⟩=some (.string t)∧w'.cell? ⟨b,f+k*5+4,none⟩=some (iT n)∧b<w'.heap.size)):=fun w' kk=>R.o w' (KB.o.trans (kk.mono KB.o.size))
           go_wp2_with fail
           refine ez a3 Z fun N=>?_
           refine aP 0 16 N ?_;refine dN ?_;have KZ:CG (Bl wo wr.drew):=U.trans (Z.mono U.size);clear Z a3 N;go_wp2;go_meet
           exact ⟨0,rfl,C3 _,by rw [aW.o];rfl,KZ.o⟩
         · have cc:0<j:=by omega
           have ci:(0:Int)<(j:Int):=by omega
           have cm:(0:Int)≤(j:Int) - 1:=by omega
           have ck:(j:Int) - 1<(m:Int):=by omega
           have c7:(1:Int)≤(j:Int):=by omega
           have bV:((j:Int) - 1).toNat=j - 1:=by omega
           have wj:IntKind.i64.wrap ((j:Int) - 1)=(j:Int) - 1:=by rw [Dg];unfold wrap64;omega
           have aN:=a8.o.lt.2;obtain ⟨s',q',d',t',n',aj,_,e0,e1,e2,e3,e4⟩:=a8.o.entsAt.ent U aN (j - 1) (by omega);simp only [C6] at e1;have b4:CG (A[j - 1]?=some (s',q',d',t',n')):=aj;have b7:CG (j=j - 1+1):=by show j=j - 1+1;omega
           have Z:Bl wr wr.drew:=(Below.refl _ _).drew;have bF:g<wr.heap.size:=l' aN U.size;have a3:CG (∀w',Bl wr w'→(w'.cell? ⟨b,f+k*5,none⟩=some (.string s)∧w'.cell? ⟨b,f+k*5+1,none⟩=some (iT q)∧w'.cell? ⟨b,f+k*5+2,none⟩=some (iT d)∧w'.cell? ⟨b,f+k*5+3,none⟩=some (.string t)∧w'.cell? ⟨b,f+k*5+4,none⟩=some (iT n)∧b<w'.heap.size∧w'.cell? ⟨g,(j - 1)*5+1,none⟩=some (iT q')∧g<w'.heap.size)):=fun w' kk=>by
            obtain ⟨y0,y1,y2,y3,y4,y5⟩:=R.o w' (KB.o.trans (kk.mono KB.o.size));exact ⟨y0,y1,y2,y3,y4,y5,cell_later kk e1,l' bF kk.size⟩
           clear e0 e1 e2 e3 e4 aj aN;by_cases aM:q<q'
           · have bw:decide (q<q')=true:=decide_eq_true aM;go_wp2_with fail
             refine ez a3 Z fun N=>?_
             refine aP 0 16 N ?_;refine dN ?_;have KZ:CG (Bl wo wr.drew):=U.trans (Z.mono U.size);clear Z a3 N;go_wp2;go_roundw
             case rel =>
              have ay:gG A q m=gG A q (j - 1):=by
               have:=Bk b4.o aM;rw [← b7.o] at this;rw [aW.o,this]
              first | exact ⟨j - 1,by omega,by first | go_num | (congr 1;omega),ay,KZ.o⟩ | ((repeat apply Exists.intro);exact ⟨⟨j - 1,by omega,by first | go_num | (congr 1;omega),ay,KZ.o⟩,rfl⟩)
             case measure=>simp [intOf];omega
           · have bw:decide (q<q')=false:=decide_eq_false aM;go_wp2_with fail
             refine ez a3 Z fun N=>?_
             refine aP 0 16 N ?_;refine dN ?_;have KZ:CG (Bl wo wr.drew):=U.trans (Z.mono U.size);clear Z a3 N;go_wp2;go_meet
             refine ⟨j,rfl,hj,?_,KZ.o⟩;have:=yW (q:=q) b4.o (by simp only;omega);rw [← b7.o] at this;rw [aW.o,this]
        case rest =>
         obtain ⟨j,rfl,bl,ao,aT⟩:=hcut;have al:CG (eD A (s,q,d,t,n)=A.take j++([(s,q,d,t,n)]++A.drop j)):=by show eD A (s,q,d,t,n)=_;unfold eD;rw [a2.o,ao]
         have aD:CG (∀l ∈ A,dR l):=a8.o.ents;have aO:CG (∀l ∈ A.take j++[(s,q,d,t,n)],dR l):=fun l hl=>by rcases Dd.1 hl with h1 | h1;exact aD.o l (Dw h1);simp only [Df] at h1;subst h1;exact aV.o
         have az:CG (∀l ∈ eD A (s,q,d,t,n),dR l):=fun l hl=>by rw [al.o,← Di] at hl;rcases Dd.1 hl with h1 | h1;exact aO.o l h1;exact aD.o l (DE h1)
         have ad:CG (af wc w.heap.size g m c A):=a8.o.below aT;have KC:CG (Bl w wc):=hb.trans (aT.mono hb.size);have kt:Bl wc (wc.alloc (.cells #[] 50)):=bZ;have ar:CG (af (wc.alloc (.cells #[] 50)) wc.heap.size wc.heap.size 0 0 []):=bI wc _ (Cy _);have ax:CG (ag (wc.alloc (.cells #[] 50)) (pT g) m c A):=ad.o.entsAt.keep kt;have aq:CG (g<wc.heap.size):=ad.o.lt.2;have cb:j≤c:=by omega
         have bP:(j:Int)≤(c:Int):=by omega
         have bN:(j:Int)≤(m:Int):=by omega
         clear ao aT hb g0 g1 g2 g3 g4 bA;by_cases bj:c=j
         · subst bj;have aB:m=c:=by omega
           have bh:CG (m=c):=aB;have br:CG (A.drop c=[]):=DY (by rw [a2.o];omega);clear aB;go_upto_region 10 with fail
           obtain ⟨gt,ai⟩:=aH wc.heap.size;obtain ⟨wt,au⟩:=aH (wc.alloc (.cells #[] 50));have aK:Bl wc wt:=by rw [au];exact kt
           have Z:lK w wt.drew g c c gt 0 0 (A.take c) (A.drop c):=lK.below ⟨KC.o.trans (aK.mono KC.o.size),(ad.o.below aK).prefix (by omega),by rw [au,ai,br.o];exact ar.o.mono KC.o.size,by have:=aq.o;omega⟩ (Below.refl _ _).drew;rw [← au,← ai];clear au ai kt aK ar ax ad aq;have aE:c+1+0=m+1:=by have:=bh.o;omega
           go_wp2_with fail
           refine wp_region_held_drew (S:=(fun w'=>w'.cell? ⟨b,f+k*5,none⟩=some (.string s)∧w'.cell? ⟨b,f+k*5+1,none⟩=some (iT q)∧w'.cell? ⟨b,f+k*5+2,none⟩=some (iT d)∧w'.cell? ⟨b,f+k*5+3,none⟩=some (.string t)∧w'.cell? ⟨b,f+k*5+4,none⟩=some (iT n)∧b<w'.heap.size)) (by kernel_rfl) (R.o _ Z.low) (fun N=>?_);generalize wt.drew=wd at Z N ⊢;refine aP 0 7 N ?_;refine aP 9 1 N ?_;refine aR 7 fun K hK=>?_
           go_simp;have kN:Bl wd (wd.alloc (.cells #[.string s,iT q,iT d,.string t,iT n] 50)):=bZ;have sN:=Z.below kN;have rN:ag (wd.alloc (.cells #[.string s,iT q,iT d,.string t,iT n] 50)) (some ⟨wd.heap.size,0,none⟩) 1 1 [(s,q,d,t,n)]:=cK wd _ _ _ _ _ aV.o;generalize wd.heap.size=gn at rN ⊢;generalize wd.alloc (.cells #[.string s,iT q,iT d,.string t,iT n] 50)=wn at sN rN kN ⊢;refine hK.o _ _ (R.o _ sN.low) fun N=>?_
           (try go_frame);refine aR 8 fun K hK=>?_
           refine aw rfl (.tmp 61) (.tmp 66) 28 rfl w.heap.size 50 i0 _ 5 56 Tryz.underlying28 hi ap am an rfl (Dz 4) _ _ _ rfl sN.o.owns ⟨gn,0,none⟩ 1 1 (aC [(s,q,d,t,n)]) rfl rfl (bi rN) (aL _) ?_ ?_ ?_ ?_
           · unfold maxLen;omega
           · omega
           · exact sN.low.size
           intro v8 w8 H J Q;obtain ⟨g8,c8,rfl⟩:=aF H Q;have F:wn.grownBy w8 (some g):=J;have r8:af w8 w.heap.size g8 (c+1) c8 (A.take c++[(s,q,d,t,n)]):=⟨by rw [aJ];exact H,by simp [a2.o];omega,aO.o⟩;have Y:=sN.grown F r8;refine hK.o _ _ (R.o _ Y.low) fun N=>?_
           (try go_frame);refine aR 10 fun K hK=>?_
           refine aw rfl (.tmp 67) (.tmp 68) 28 rfl w.heap.size 50 i0 _ 5 56 Tryz.underlying28 hi ap am an rfl (Dz 4) _ _ _ rfl Y.o.owns ⟨gt,0,none⟩ 0 0 (aC (A.drop c)) rfl ?_ (bi Y.tl.entsAt) (aL _) ?_ ?_ ?_ ?_
           · rw [aU,Y.tl.len]
           · unfold maxLen;omega
           · omega
           · exact Y.low.size
           intro bq w10 r E I;obtain ⟨a6,a5,rfl⟩:=aF r I;have y:w8.grownBy w10 (some g8):=E;have a7:Bl w w10:=Y.low.grown y Y.low.size (fun k e=>by cases e;exact Y.o.lt.1);have ak:A7 w w10:=⟨a7⟩;refine hK.o _ _ (R.o _ ak.low) fun N=>?_
           (try go_frame);refine aP 11 1 N ?_;refine dN ?_;rw [aE] at r ⊢;have a0:CG (af w10 w.heap.size a6 (m+1) a5 (bk (aQ (L.take (k+1)) s seq))):=by
            refine ⟨?_,?_,?_⟩
            · rw [T.o,al.o,← Di,aJ];exact r
            · rw [T.o,od,a2.o]
            · rw [T.o];exact az.o
           have a1:CG (Bl w w10):=a7;clear r E y I Y H J F Q sN r8 a7 ak N;go_wp2;go_roundw
           case rel =>
            first | exact ⟨k+1,a6,m+1,a5,by omega,by omega,by go_num,rfl,a0.o,a1.o⟩ | ((repeat apply Exists.intro);exact ⟨⟨k+1,a6,m+1,a5,by omega,by omega,by go_num,rfl,a0.o,a1.o⟩,rfl⟩)
           case measure=>simp [intOf];omega
         · have bJ:¬(c:Int)=(j:Int):=by omega
           have aE:j+1+(m - j)=m+1:=by omega
           go_upto_region 10 with (at_builtin;refine wpList_append_own _ rfl _ _ 28 rfl wc.heap.size 50 i0 _ 5 56 Tryz.underlying28 hi ap am an rfl (by decide) _ _ _ rfl ar.o.owns ⟨g,j*5,none⟩ (m - j) (c - j) (aC (A.drop j)) rfl ?_ ?_ ?_ ?_ ?_ ?_ ?_)
           all_goals try (first | (rw [aU,Dh,a2.o];done) | exact ml ax.o j | exact aL _ | (intro x u hu;have:=ml ax.o j x u hu;rw [De] at this;exact this))
           all_goals try (first | (unfold maxLen;omega) | omega | (simp;omega))
           intro vt wt W ab a4;obtain ⟨gt,ct,rfl⟩:=lg W (by first | exact a4 | (intro e;exact absurd (a4.1 e).1 (by simp)));have O:(wc.alloc (.cells #[] 50)).grownBy wt (some wc.heap.size):=ab;have TL:af wt wc.heap.size gt (m - j) ct (A.drop j):=⟨by first | exact W | (have h0:=W;rw [C6] at h0;exact h0),by rw [Dh,a2.o],fun l hl=>aD.o l (DE hl)⟩;have Z:lK w wt.drew g j c gt (m - j) ct (A.take j) (A.drop j):=lK.below ⟨(KC.o.trans (kt.mono KC.o.size)).grown O (C8 KC.o.size kt.size) (fun k e=>by cases e;exact KC.o.size),((ad.o.below kt).grown O (fun e=>by cases e;have:=aq.o;omega)).prefix bl,TL.mono KC.o.size,by have:=TL.lt.1;have:=aq.o;omega⟩ (Below.refl _ _).drew;clear W ab O a4 TL kt ar ax ad aq;go_wp2_with fail
           refine wp_region_held_drew (S:=(fun w'=>w'.cell? ⟨b,f+k*5,none⟩=some (.string s)∧w'.cell? ⟨b,f+k*5+1,none⟩=some (iT q)∧w'.cell? ⟨b,f+k*5+2,none⟩=some (iT d)∧w'.cell? ⟨b,f+k*5+3,none⟩=some (.string t)∧w'.cell? ⟨b,f+k*5+4,none⟩=some (iT n)∧b<w'.heap.size)) (by kernel_rfl) (R.o _ Z.low) (fun N=>?_);generalize wt.drew=wd at Z N ⊢;refine aP 0 7 N ?_;refine aP 9 1 N ?_;refine aR 7 fun K hK=>?_
           go_simp;have kN:Bl wd (wd.alloc (.cells #[.string s,iT q,iT d,.string t,iT n] 50)):=bZ;have sN:=Z.below kN;have rN:ag (wd.alloc (.cells #[.string s,iT q,iT d,.string t,iT n] 50)) (some ⟨wd.heap.size,0,none⟩) 1 1 [(s,q,d,t,n)]:=cK wd _ _ _ _ _ aV.o;generalize wd.heap.size=gn at rN ⊢;generalize wd.alloc (.cells #[.string s,iT q,iT d,.string t,iT n] 50)=wn at sN rN kN ⊢;refine hK.o _ _ (R.o _ sN.low) fun N=>?_
           (try go_frame);refine aR 8 fun K hK=>?_
           refine aw rfl (.tmp 61) (.tmp 66) 28 rfl w.heap.size 50 i0 _ 5 56 Tryz.underlying28 hi ap am an rfl (Dz 4) _ _ _ rfl sN.o.owns ⟨gn,0,none⟩ 1 1 (aC [(s,q,d,t,n)]) rfl rfl (bi rN) (aL _) ?_ ?_ ?_ ?_
           · unfold maxLen;omega
           · omega
           · exact sN.low.size
           intro v8 w8 H J Q;obtain ⟨g8,c8,rfl⟩:=aF H Q;have F:wn.grownBy w8 (some g):=J;have r8:af w8 w.heap.size g8 (j+1) c8 (A.take j++[(s,q,d,t,n)]):=⟨by rw [aJ];exact H,by simp [a2.o];omega,aO.o⟩;have Y:=sN.grown F r8;refine hK.o _ _ (R.o _ Y.low) fun N=>?_
           (try go_frame);refine aR 10 fun K hK=>?_
           refine aw rfl (.tmp 67) (.tmp 68) 28 rfl w.heap.size 50 i0 _ 5 56 Tryz.underlying28 hi ap am an rfl (Dz 4) _ _ _ rfl Y.o.owns ⟨gt,0,none⟩ (m - j) ct (aC (A.drop j)) rfl ?_ (bi Y.tl.entsAt) (aL _) ?_ ?_ ?_ ?_
           · rw [aU,Y.tl.len]
           · unfold maxLen;omega
           · omega
           · exact Y.low.size
           intro bq w10 r E I;obtain ⟨a6,a5,rfl⟩:=aF r I;have y:w8.grownBy w10 (some g8):=E;have a7:Bl w w10:=Y.low.grown y Y.low.size (fun k e=>by cases e;exact Y.o.lt.1);have ak:A7 w w10:=⟨a7⟩;refine hK.o _ _ (R.o _ ak.low) fun N=>?_
           (try go_frame);refine aP 11 1 N ?_;refine dN ?_;rw [aE] at r ⊢;have a0:CG (af w10 w.heap.size a6 (m+1) a5 (bk (aQ (L.take (k+1)) s seq))):=by
            refine ⟨?_,?_,?_⟩
            · rw [T.o,al.o,← Di,aJ];exact r
            · rw [T.o,od,a2.o]
            · rw [T.o];exact az.o
           have a1:CG (Bl w w10):=a7;clear r E y I Y H J F Q sN r8 a7 ak N;go_wp2;go_roundw
           case rel =>
            first | exact ⟨k+1,a6,m+1,a5,by omega,by omega,by go_num,rfl,a0.o,a1.o⟩ | ((repeat apply Exists.intro);exact ⟨⟨k+1,a6,m+1,a5,by omega,by omega,by go_num,rfl,a0.o,a1.o⟩,rfl⟩)
           case measure=>simp [intOf];omega
      · have HF:CG (aQ (L.take (k+1)) key seq=aQ (L.take k) key seq):=eR HG.o (by simp;omega);have bX:seq<q:=by omega
        subst ah;go_wp2;go_roundw
        case rel=>exact ⟨k+1,g,m,c,by omega,by omega,by go_num,rfl,by rw [HF.o];exact HO.o,hb⟩
        case measure=>simp [intOf];omega
    · have HF:CG (aQ (L.take (k+1)) key seq=aQ (L.take k) key seq):=eR HG.o (fun h=>ah h.1);have bG:¬s.toList=key.toList:=by
       rw [Dp,Dp];intro h;exact ah (Ef (Ed.1 h))
      have bS:(s.toList == key.toList)=false:=by simpa using bG
      clear ah;go_wp2;go_roundw
      case rel=>exact ⟨k+1,g,m,c,by omega,by omega,by go_num,rfl,by rw [HF.o];exact HO.o,hb⟩
      case measure=>simp [intOf];omega
  · have HF:CG (aQ (L.take k) key seq=aQ L key seq):=by show aQ (L.take k) key seq=_;rw [C9 (by rw [bd.o];omega)]
    go_wp2;go_ret;exact ⟨g,m,c,rfl,by rw [← HF.o];exact HO.o,hb⟩
section
attribute [local go_sem] DN
structure pH (w wi:World) (C:Nat) (v0 v1 v2:Value) (g m c:Nat) (D:List ac):Prop where
 low:Bl w wi
 bc:ew wi C v0 v1 v2
 row:af wi w.heap.size g m c D
theorem pH.below (h:pH w wi C v0 v1 v2 g m c D) (hb:Bl wi wj):pH w wj C v0 v1 v2 g m c D :=
 ⟨h.low.trans (hb.mono h.low.size),h.bc.below hb,h.row.below hb⟩
theorem pH.set (h:pH w wi C v0 v1 v2 g m c D) (hC:w.heap.size≤C) (hE:C≠g) (u0 u1 u2:Value) :
 pH w (((wi.setCell ⟨C,0,none⟩ u0).setCell ⟨C,1,none⟩ u1).setCell ⟨C,2,none⟩ u2) C u0 u1 u2 g m c D :=
 ⟨((h.low.setCell (p:=⟨C,0,none⟩) hC _).setCell (p:=⟨C,1,none⟩) hC _).setCell (p:=⟨C,2,none⟩) hC _,h.bc.setAll _ _ _,((h.row.setCell (p:=⟨C,0,none⟩) hE _).setCell (p:=⟨C,1,none⟩) hE _).setCell (p:=⟨C,2,none⟩) hE _⟩
structure mu (w wi:World) (C X:Nat) (v0 v1 v2:Value) (g m c:Nat) (D:List ac):Prop where
 st:pH w wi C v0 v1 v2 g m c D
 bx:ew wi X (.bool false) (.string ⟨#[]⟩) (iT 0)
theorem mu.below (h:mu w wi C X v0 v1 v2 g m c D) (hb:Bl wi wj):mu w wj C X v0 v1 v2 g m c D:=⟨h.st.below hb,h.bx.below hb⟩
theorem mu.bc (h:mu w wi C X v0 v1 v2 g m c D):ew wi C v0 v1 v2:=h.st.bc
theorem mu.row (h:mu w wi C X v0 v1 v2 g m c D):af wi w.heap.size g m c D:=h.st.row
theorem mu.set (h:mu w wi C X v0 v1 v2 g m c D) (hC:w.heap.size≤C) (hE:C≠g) (b:X≠C) (u0 u1 u2:Value) :
 mu w (((wi.setCell ⟨C,0,none⟩ u0).setCell ⟨C,1,none⟩ u1).setCell ⟨C,2,none⟩ u2) C X u0 u1 u2 g m c D:=⟨h.st.set hC hE u0 u1 u2,((h.bx.other b 0 _).other b 1 _).other b 2 _⟩
theorem sJ (a:Option Addr) (len u:Nat) (L:List ac) (key:ByteArray) (seq:Int) (w:World) (hL:ag w a len u L) (Z:len≤1048576) :
 Calls Tryz.prog 168 #[.slice a len u,.string key,iT seq] w fun e w'=>e=.returned (eK (gT L key seq))∧Bl w w':=by
 obtain ⟨D,hD⟩:=aH (bk (aQ L key seq));obtain ⟨RC,N⟩:=aH (gT L key seq);have ae:CG (RC=iU D):=by rw [N,hD];rfl
 have CC:CG (∀w',Bl w w'→Calls Tryz.prog 211 #[.slice a len u,.string key,iT seq] w' fun e a5=>∃g n c,e=.returned (sL g n c)∧af a5 w'.heap.size g n c D∧Bl w' a5):=by rw [hD];exact fun w' kb=>Ap a len u L key seq w' (hL.keep kb) Z
 rw [← N];clear N hD hL;obtain ⟨X,hX⟩:=aH w.heap.size;obtain ⟨W,hW⟩:=aH ((w.alloc (.cells #[.bool false,.string ⟨#[]⟩,iT 0] 57)).alloc (.cells #[.bool false,.string ⟨#[]⟩,iT 0] 57));have kA:Bl w (w.alloc (.cells #[.bool false,.string ⟨#[]⟩,iT 0] 57)):=bZ;have b:CG (ew W X (.bool false) (.string ⟨#[]⟩) (iT 0)):=by rw [hW,hX];exact (ew.new _ _ _ _ _).alloc _
 have J:CG (ew W (X+1) (.bool false) (.string ⟨#[]⟩) (iT 0)):=by
  have:=ew.new (w.alloc (.cells #[.bool false,.string ⟨#[]⟩,iT 0] 57)) 57 (.bool false) (.string ⟨#[]⟩) (iT 0);rw [Dc] at this;rw [hW,hX];exact this
 have r:CG (Bl w W):=by rw [hW];exact kA.alloc kA.size _
 have y:CG (w.heap.size≤X):=by show w.heap.size≤X;omega
 go_enter Tryz.func168,Tryz.ntmps168
 go_wp2_with fail
 rw [← hW,← hX];clear hW hX kA;refine (CC.o _ r.o).mono ?_;rintro e w1 ⟨g,m,c,rfl,hO,H⟩;have R:CG (pH w w1 (X+1) (.bool false) (.string ⟨#[]⟩) (iT 0) g m c D):=⟨r.o.trans (H.mono r.o.size),J.o.below H,hO.mono r.o.size⟩;have a6:CG (ew w1 X (.bool false) (.string ⟨#[]⟩) (iT 0)):=b.o.below H;have a4:CG (X+1<g):=by have:=hO.lt.1;have:=J.o.lt;show X+1<g;omega
 have a9:CG (D.length=m):=hO.len;have aD:=hO.entsAt.room;have ak:=hO.entsAt.big;unfold maxLen at ak;obtain ⟨C,hC⟩:=aH (X+1);rw [← hC] at R a4 ⊢;have aj:CG (X≠C):=by show X≠C;omega
 have an:CG (w.heap.size≤C):=by have:=y.o;show w.heap.size≤C;omega
 have ap:CG (C≠g):=by have:=a4.o;show C≠g;omega
 clear hC b J hO H CC r;go_wp2;go_loopw [9] (fun iv wr=>∃(k:Nat) (f:eN),k≤m∧iv=iT k∧f=iU (D.take k)∧pH w wr C (.bool f.1) (.string f.2.1) (iT f.2.2) g m c D∧ew wr X (.bool false) (.string ⟨#[]⟩) (iT 0)) (fun iv _=>m - (intOf iv).toNat)
 case atStart=>exact ⟨0,(false,⟨#[]⟩,0),C3 _,rfl,rfl,R.o,a6.o⟩
 case round =>
  obtain ⟨k,f,hk,rfl,U,a1,a8⟩:=hrel;have I:CG (f=iU (D.take k)):=U;have O:CG (pH w wr C (.bool f.1) (.string f.2.1) (iT f.2.2) g m c D):=a1;have b:CG (ew wr X (.bool false) (.string ⟨#[]⟩) (iT 0)):=a8;clear U a1 a8 R a6;by_cases a0:k<m
  · obtain ⟨⟨s,q,d,t,n⟩,hg⟩:∃x,D[k]?=some x:=⟨_,j' (by rw [a9.o];exact a0)⟩;have HG:CG (D[k]?=some (s,q,d,t,n)):=hg;have F:CG (∀w',af w' w.heap.size g m c D→(w'.cell? ⟨g,k*5,none⟩=some (.string s)∧w'.cell? ⟨g,k*5+1,none⟩=some (iT q)∧w'.cell? ⟨g,k*5+2,none⟩=some (iT d)∧w'.cell? ⟨g,k*5+3,none⟩=some (.string t)∧w'.cell? ⟨g,k*5+4,none⟩=some (iT n)∧g<w'.heap.size)):=fun w' ho=>by
     obtain ⟨s',q',d',t',n',Y,_,e0,e1,e2,e3,e4⟩:=ho.entsAt.ent (Below.refl w'.heap.size w') ho.lt.2 k a0;rw [HG.o] at Y;cases Y;simp only [C6] at e0 e1 e2 e3 e4;exact ⟨e0,e1,e2,e3,e4,ho.lt.2⟩
    obtain ⟨E,Q⟩:=aH (fA f.1 f.2.1 f.2.2 d t n);have a7:∀w,Calls Tryz.prog 212 #[.agg #[.bool f.1,.string f.2.1,iT f.2.2],.agg #[.string s,iT q,iT d,.string t,iT n]] w fun e w'=>e=.returned (eK E)∧Bl w w':=by rw [Q];exact fun w=>yK f.1 f.2.1 s t f.2.2 q d n w
    have al:CG (E=yk (iU (D.take k)) (s,q,d,t,n)):=by rw [Q,← I.o];rfl
    have k0:mu w wr.drew C X (.bool f.1) (.string f.2.1) (iT f.2.2) g m c D:=mu.below ⟨O.o,b.o⟩ (Below.refl _ _).drew;clear hg Q O b I;go_wp2_with fail
    refine wp_region_held_drew (S:=(fun w'=>w'.cell? ⟨g,k*5,none⟩=some (.string s)∧w'.cell? ⟨g,k*5+1,none⟩=some (iT q)∧w'.cell? ⟨g,k*5+2,none⟩=some (iT d)∧w'.cell? ⟨g,k*5+3,none⟩=some (.string t)∧w'.cell? ⟨g,k*5+4,none⟩=some (iT n)∧g<w'.heap.size)) (by kernel_rfl) (F.o _ k0.row) (fun T=>?_);generalize wr.drew=wd at k0 T ⊢;refine aP 1 4 T ?_;refine aR 0 fun K hK=>?_
    have c0:=k0.bc.all;go_simp;clear c0;refine hK.o _ _ (F.o _ k0.row) fun T=>?_
    (try go_frame);refine aR 5 fun K hK=>?_
    go_simp;refine (a7 _).mono ?_;rintro e w1 ⟨rfl,b1⟩;have k1:=k0.below b1;unfold eK;go_wp2_with fail
    refine hK.o _ _ (F.o _ k1.row) fun T=>?_
    (try go_frame);refine aR 6 fun K hK=>?_
    have c0:=k1.bc.all;have f0:=k1.bc.fr 0;have f1:=k1.bc.fr 1;have f2:=k1.bc.fr 2;go_simp;have k2:=k1.set an.o ap.o aj.o (.bool E.1) (.string E.2.1) (iT E.2.2);clear c0 f0 f1 f2;refine hK.o _ _ (F.o _ k2.row) fun T=>?_
    (try go_frame);refine dN ?_;have HK:CG (mu w _ C X (.bool E.1) (.string E.2.1) (iT E.2.2) g m c D):=k2;clear a7 T;go_wp2;go_roundw
    case rel=>exact ⟨k+1,E,by omega,by go_num,al.o.trans (ku HG.o).symm,HK.o.st,HK.o.bx⟩
    case measure=>simp [intOf];omega
  · have ai:CG (RC=f):=by show RC=f;rw [ae.o,I.o,C9 (by rw [a9.o];omega)]
    obtain ⟨cb,ct,cn⟩:=f;have c0:=O.o.bc.c0;have c1:=O.o.bc.c1;have c2:=O.o.bc.c2;have cl:=O.o.bc.lt;have x0:=b.o.c0;have x1:=b.o.c1;have x2:=b.o.c2;have xl:=b.o.lt;have f0:=b.o.fr 0;have f1:=b.o.fr 1;have f2:=b.o.fr 2;simp only at c0 c1 c2;go_wp2;refine bodyPost_ret (v:=.agg #[.bool cb,.string ct,iT cn]) (by simp [results,Tryz.results168,go_sem,x0,x1,x2]) rfl ⟨by rw [ai.o];rfl,?_⟩;exact ((O.o.low.setCell (p:=⟨X,0,none⟩) y.o _).setCell (p:=⟨X,1,none⟩) y.o _).setCell (p:=⟨X,2,none⟩) y.o _
end
end Go.Proofs.YtpobkmjicbobdaaGreat
