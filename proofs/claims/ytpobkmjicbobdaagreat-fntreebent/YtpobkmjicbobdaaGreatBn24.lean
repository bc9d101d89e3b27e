/- Walks. -/
import Derived.Test.YtpobkmjicbobdaaGreatBn12
namespace Go.Proofs.YtpobkmjicbobdaaGreat
open Go.RowKit
set_option maxRecDepth 100000
set_option maxHeartbeats 4000000
attribute [local go_sem] Oper.semAt_some
theorem ir {w:World} {b o n c:Nat} {L:List ac} (h:aj w (some ⟨b,o,none⟩) n c L):∀j u,(aE L)[j]?=some u→w.cell? ((⟨b,o,none⟩:Addr).add j)=some u:=by
 intro j u hj;have hlt:j<(aE L).length:=(List.getElem?_eq_some_iff.1 hj).1;rw [bi] at hlt;have hi:j / 5<L.length:=by omega
 obtain ⟨c0,c1,c2,c3,c4⟩:=h.cells _ rfl (j / 5) hi;obtain ⟨r0,r1,r2,r3,r4⟩:=fs L (j / 5) L[j / 5] (List.getElem?_eq_getElem hi);rw [Go.WideShapes.add_plain];simp only at c0 c1 c2 c3 c4;have:j=j / 5*5∨j=j / 5*5+1∨j=j / 5*5+2∨j=j / 5*5+3∨j=j / 5*5+4:=by omega
 rcases this with e | e | e | e | e
 · rw [← e] at r0 c0;rw [r0] at hj;cases hj;exact c0
 · rw [Nat.add_assoc,← e] at c1;rw [← e] at r1;rw [r1] at hj;cases hj;exact c1
 · rw [Nat.add_assoc,← e] at c2;rw [← e] at r2;rw [r2] at hj;cases hj;exact c2
 · rw [Nat.add_assoc,← e] at c3;rw [← e] at r3;rw [r3] at hj;cases hj;exact c3
 · rw [Nat.add_assoc,← e] at c4;rw [← e] at r4;rw [r4] at hj;cases hj;exact c4
theorem Ca {G n c:Nat} {k:Nat} (h:(sL G n c).ownBlock=some k):k=G:=by simp [Value.ownBlock] at h;exact h.symm
theorem rP (w:World) (base:Nat) (o:Obj) (h:base≤w.heap.size) (s t:ByteArray) (q d n:Int) (hw:ec (s,q,d,t,n)):ay ((w.alloc o).alloc (.cells #[.string s,iT q,iT d,.string t,iT n] 50)) base (w.heap.size+1) 1 1 [(s,q,d,t,n)]:=by
 have:=Bg (w.alloc o) base (by simp;omega) s t q d n hw;simpa using this
theorem ww (b off n c:Nat) (L:List ac) (s0:ByteArray) (q0:Int) (bare:Bool) (w:World) (hL:aj w (some ⟨b,off,none⟩) n c L) (hn:1≤n) (hn2:n≤1048576) (h0:∃r,L[0]?=some (s0,q0,r)) (hN:∀e ∈ L,-1000000≤e.2.2.2.2∧e.2.2.2.2≤1000000) :
 Calls Tryz.prog 245 #[sO b off n c,.bool bare] w fun e w'=>∃g n' c',e=.returned (sL g n' c')∧ay w' w.heap.size g n' c' (dP bare s0 q0 L)∧Bl w w':=by
 have HL:=b6 hL;obtain ⟨r,hr0⟩:=h0;have hw0:=hL.ents _ (List.mem_of_getElem? hr0);have HTX:Hid ((aY true 0 L).2.1.size≤maxLen):=uO L true 0 (fun e he=>(hL.ents e he).2.2.2.1);have HKD:Hid (1≤(aY true 0 L).1∧(aY true 0 L).1≤3):=uP L true 0;have HW0:Hid (s0.size≤maxLen∧(Lit.int .i64 q0).wf=true):=⟨hw0.1,hw0.2.1⟩;have CJ:=yC b off n c L s0 q0 w hL hn hn2 ⟨r,hr0⟩ hN;have HC:Hid (∀d t a,aY true 0 L=(d,t,a)→dP bare s0 q0 L=if dO a=true then (if bare=true∧d=2 then [] else [(s0,q0,(if bare=true∧d=3 then 1 else d),t,a)]) else L):=fun d t a h=>by unfold dP;rw [h]
 obtain ⟨d,t,a,hj⟩:∃d t a,aY true 0 L=(d,t,a):=⟨_,_,_,rfl⟩;have HCL:=HC.out d t a hj;rw [hj] at HTX HKD CJ;have HJ:Hid (dP bare s0 q0 L=if dO a=true then (if bare=true∧d=2 then [] else [(s0,q0,(if bare=true∧d=3 then 1 else d),t,a)]) else L):=HCL;clear HCL hj HC hw0 hr0 hL hN;simp only at HTX HKD CJ;go_enter Tryz.func245,Tryz.ntmps245
 go_wp2_with fail
 refine CJ.mono ?_;rintro e w1 ⟨rfl,hb1⟩;have HB1:Hid (Bl w w1):=hb1;clear hb1 CJ;obtain ⟨i0,hi,hz0,hz1,hz2⟩:=info_parts Tryz.infoEnt;cases hs:dO a with
 | true =>
  have hA:-1000000≤a∧a≤1000000:=by simpa [dO] using hs
  have HWa:Hid ((Lit.int .i64 a).wf=true):=B8 hA.1 hA.2;have HWd:Hid ((Lit.int .i64 d).wf=true):=B8 (by have:=HKD.out;omega) (by have:=HKD.out;omega);cases bare with
  | true =>
   by_cases hd2:d=2
   · subst hd2;have hcl:dP true s0 q0 L=[]:=by rw [HJ.out];simp [hs]
     go_wp2;go_ret;exact ⟨w1.heap.size+1,0,0,rfl,by rw [hcl];have:=mt (w1.alloc (.cells #[.string s0,iT q0,iT 2,.string t,iT a] 50)) w.heap.size (by have:=HB1.out.size;simp;omega);simpa using this,(HB1.out.alloc HB1.out.size _).alloc (by have:=HB1.out.size;simp;omega) _⟩
   · by_cases hd3:d=3
     · subst hd3;have hcl:dP true s0 q0 L=[(s0,q0,1,t,a)]:=by rw [HJ.out];simp [hs]
       go_wp2;go_ret;exact ⟨w1.heap.size+1,1,1,rfl,by rw [hcl];exact rP _ _ _ HB1.out.size _ _ _ _ _ ⟨HW0.out.1,HW0.out.2,B8 (z:=1) (by omega) (by omega),HTX.out,HWa.out⟩,(HB1.out.alloc HB1.out.size _).alloc (by have:=HB1.out.size;simp;omega) _⟩
     · have hcl:dP true s0 q0 L=[(s0,q0,d,t,a)]:=by rw [HJ.out];simp [hs,hd2,hd3]
       go_wp2;go_ret;exact ⟨w1.heap.size+1,1,1,rfl,by rw [hcl];exact rP _ _ _ HB1.out.size _ _ _ _ _ ⟨HW0.out.1,HW0.out.2,HWd.out,HTX.out,HWa.out⟩,(HB1.out.alloc HB1.out.size _).alloc (by have:=HB1.out.size;simp;omega) _⟩
  | false =>
   have hcl:dP false s0 q0 L=[(s0,q0,d,t,a)]:=by rw [HJ.out];simp [hs]
   go_wp2;go_ret;exact ⟨w1.heap.size+1,1,1,rfl,by rw [hcl];exact rP _ _ _ HB1.out.size _ _ _ _ _ ⟨HW0.out.1,HW0.out.2,HWd.out,HTX.out,HWa.out⟩,(HB1.out.alloc HB1.out.size _).alloc (by have:=HB1.out.size;simp;omega) _⟩
 | false =>
  have hcl:dP bare s0 q0 L=L:=by rw [HJ.out];simp [hs]
  obtain ⟨W,hW⟩:=aS (w1.alloc (.cells #[.string s0,iT q0,iT d,.string t,iT a] 50));have HBW:Hid (Bl w W):=by rw [hW];exact HB1.out.alloc HB1.out.size _
  have HBV:Hid (Bl w (W.alloc (.cells #[] 50))):=HBW.out.alloc HBW.out.size _;have HO:Hid (ay (W.alloc (.cells #[] 50)) w.heap.size W.heap.size 0 0 []):=mt W _ HBW.out.size;have HLW:Hid (aj (W.alloc (.cells #[] 50)) (some ⟨b,off,none⟩) n c L):=HL.out.keep HBV.out;have HSZ:Hid (W.heap.size=w1.heap.size+1):=by rw [hW];simp [Hid]
  go_upto_region 3 with fail
  rw [← hW];clear hW;go_wp2_with (at_builtin;refine wpList_append_lies _ rfl (.tmp 14) (.tmp 15) 28 rfl w.heap.size 50 i0 _ 5 56 Tryz.underlying28 hi hz0 hz1 hz2 rfl (by omega) _ 0 _ rfl HO.out.owns ⟨b,off,none⟩ n c (aE L) rfl (by rw [bi,HL.out.length]) (ir HLW.out) (aQ _) (by omega) (by unfold maxLen;omega) (by omega) HBV.out.size (W.heap.size+1) (by simp) ?_;intro g cap' w3 hown hgrow hat hltg)
  go_ret;refine ⟨g,n,cap',rfl,by rw [hcl];exact ⟨by simpa [aE] using hown,HL.out.length,HL.out.ents⟩,?_⟩;exact HBV.out.grown hgrow HBV.out.size (fun j e=>by rw [Ca e];exact HBW.out.size)
end Go.Proofs.YtpobkmjicbobdaaGreat
namespace Go.Proofs.YtpobkmjicbobdaaGreat
open Go.RowKit
set_option maxRecDepth 100000
set_option maxHeartbeats 4000000
theorem A6 {k:Nat} (h:1≤k) (hk:k≤1048576):IntKind.i64.wrap ((k:Int) - 1)=((k - 1:Nat):Int):=by
 have e:((k - 1:Nat):Int)=(k:Int) - 1:=by omega
 rw [e,IntWalk.i64_left];unfold wrap64;omega
theorem mD (lo b off n c:Nat) (L:List ac) (a:Option Addr) (m d:Nat) (S:List Int) (w:World) (hL:aj w (some ⟨b,off,none⟩) n c L) (hS:bG lo w a m d S) (hn:n≤1048576) (hbw:b<w.heap.size) :
 Calls Tryz.prog 221 #[sO b off n c,.slice a m d] w fun e w'=>∃g k cp,e=.returned (sL g k cp)∧cK w' (pT g) k cp (Sq.parts (fW S) L)∧Bl w w':=by
 have HLEN:Hid (L.length=n):=hL.length;have hroom:=hL.room;have hbig:=hL.big;unfold maxLen at hbig;have HL:=b6 hL;have HS:=b6 hS;have P0:aX (w.alloc (.cells #[] 28)) w.heap.size w.heap.size 0 0 [] [] none:=by
  refine ⟨?_,rfl,(fun e=>by cases e),fun i A hA=>by simp at hA⟩;have:=World.ownsRow_lit (base:=w.heap.size) (e:=28) (size:=1) w #[] 0 (Nat.le_refl _) (by simp) (by simp);simpa using this
 have HP0:Hid (aX (w.alloc (.cells #[] 28)) w.heap.size w.heap.size 0 0 [] [] none):=P0;have HA0:Hid (Bl w (w.alloc (.cells #[] 28))):=bZ;obtain ⟨i0,hi,hz0,hz1,hz2⟩:=info_parts Tryz.infoEntS;clear hL hS P0;go_enter Tryz.func221,Tryz.ntmps221
 go_wp2;go_loopw [5,6] (fun o iv wr=>∃(i nP g cp:Nat) (P:List (List ac)) (vs:List Value),i≤n∧iv=iT i∧o=sL g nP cp∧aX wr w.heap.size g nP cp P vs none∧Bl w wr∧nP≤i∧Sq.parts (fW S) L=P++Sq.parts (fW S) (L.drop i)) (fun _ iv _=>n - (intOf iv).toNat)
 case atStart=>exact ⟨0,0,w.heap.size,0,[],[],Nat.zero_le _,rfl,rfl,HP0.out,HA0.out,Nat.le_refl _,rfl⟩
 case round =>
  obtain ⟨i,nP,g,cp,P,vs,hin,rfl,rfl,hP,hb,hPi,hcut⟩:=hrel;have HP:Hid (aX wr w.heap.size g nP cp P vs none):=hP;have HBO:Hid (Bl w wr):=hb;have HCUT:Hid (Sq.parts (fW S) L=P++Sq.parts (fW S) (L.drop i)):=hcut;clear hP hb hcut HP0 HA0;by_cases hil:i<n
  · have hilI:(i:Int)<(n:Int):=by omega
    obtain ⟨wo,hwo⟩:=aS wr;subst hwo;go_wp2;go_loopw [7] (fun kv wq=>∃k:Nat,i<k∧k≤n∧kv=iT k∧Bl wo wq∧(∀j,i<j→j<k→∀x y,L[j - 1]?=some x→L[j]?=some y→fW S x y=true)) (fun kv _=>n - (intOf kv).toNat)
    case atStart=>exact ⟨i+1,by omega,by omega,by go_num,Below.refl _ _,fun j h1 h2=>by omega⟩
    case round =>
     obtain ⟨k,hik,hkn,rfl,hbk,hch⟩:=hrel;have HCH:Hid (∀j,i<j→j<k→∀x y,L[j - 1]?=some x→L[j]?=some y→fW S x y=true):=hch;have HB:Hid (Bl w wr):=HBO.out.trans (hbk.mono HBO.out.size);have HBK:Hid (Bl wo wr):=hbk;clear hch;have zb:b<wr.heap.size:=Nat.lt_of_lt_of_le hbw HB.out.size;have k0:Bl wr wr.drew:=(Below.refl _ wr).drew;by_cases hkl:k<n
     · have hklI:(k:Int)<(n:Int):=by omega
       have hwk:IntKind.i64.wrap ((k:Int) - 1)=((k - 1:Nat):Int):=A6 (by omega) (by omega);have hk1I:((k - 1:Nat):Int)<(n:Int):=by omega
       obtain ⟨s,q,dd,tt,nn,hx,_,_,g1,_⟩:=HL.out.ent HB.out hbw k hkl;obtain ⟨s0,q0,dd0,tt0,nn0,hy,_,_,e1,_⟩:=HL.out.ent HB.out hbw (k - 1) (by omega);have HX:Hid (L[k]?=some (s,q,dd,tt,nn)):=hx;have HY:Hid (L[k - 1]?=some (s0,q0,dd0,tt0,nn0)):=hy;have HCB:Hid (fW S (s0,q0,dd0,tt0,nn0) (s,q,dd,tt,nn)=!fi S q q0):=rfl;have HMK:Hid (∀w',Bl wr w'→(w'.cell? ⟨b,off+k*5+1,none⟩=some (iT q)∧w'.cell? ⟨b,off+(k - 1)*5+1,none⟩=some (iT q0)∧b<w'.heap.size)):=fun w' kk=>⟨cell_later kk g1,cell_later kk e1,Nat.lt_of_lt_of_le zb kk.size⟩
       clear hx hy g1 e1 hbk;cases hap:fi S q q0 with
       | false =>
        go_wp2_with fail
        refine eC HMK k0 fun aa=>?_
        refine aO 0 17 aa ?_;refine aI 17 fun K hK=>?_
        go_simp;refine (qh lo a m d S q q0 _ (HS.out.keep (HB.out.trans (k0.mono HB.out.size)))).mono ?_;rintro e w1 ⟨rfl,b1⟩;have k1:Bl wr w1:=k0.trans (b1.mono k0.size);go_wp2_with fail
        refine hK.out _ _ (HMK.out _ k1) fun aa=>?_
        (try go_frame);refine aO 18 2 aa ?_;refine dN ?_;clear k0 HMK aa;have HB2:Hid (Bl wo w1):=HBK.out.trans (k1.mono HBK.out.size);clear k1;go_wp2;go_roundw
        case rel =>
         refine ⟨k+1,by omega,by omega,by go_num,HB2.out,fun j h1 h2 x y hx hy=>?_⟩;by_cases hj:j<k
         · exact HCH.out j h1 hj x y hx hy
         · have:j=k:=by omega
           subst this;rw [HX.out] at hy;rw [HY.out] at hx;cases hx;cases hy;rw [HCB.out,hap];rfl
        case measure=>simp [intOf];omega
       | true =>
        go_wp2_with fail
        refine eC HMK k0 fun aa=>?_
        refine aO 0 17 aa ?_;refine aI 17 fun K hK=>?_
        go_simp;refine (qh lo a m d S q q0 _ (HS.out.keep (HB.out.trans (k0.mono HB.out.size)))).mono ?_;rintro e w1 ⟨rfl,b1⟩;have k1:Bl wr w1:=k0.trans (b1.mono k0.size);go_wp2_with fail
        refine hK.out _ _ (HMK.out _ k1) fun aa=>?_
        (try go_frame);refine aO 18 2 aa ?_;refine dN ?_;clear k0 HMK aa;have HB2:Hid (Bl w w1):=HB.out.trans (k1.mono HB.out.size);have HB3:Hid (Bl wo w1):=HBK.out.trans (k1.mono HBK.out.size);have HPF:Hid (Sq.parts (fW S) (L.drop i)=(L.drop i).take (k - i) :: Sq.parts (fW S) (L.drop k)):=Sq.parts_front _ L i k hik (by rw [HLEN.out];omega) HCH.out (fun x y hx hy=>by
         rw [HX.out] at hy;rw [HY.out] at hx;cases hx;cases hy;rw [HCB.out,hap];rfl)
        have hs1:=HB2.out.size;have HP1:Hid (aX w1 w.heap.size g nP cp P vs none):=HP.out.below HB3.out;clear k1 HB HBK HCH HX HY HCB HP HB3 HBO;have hiI:(0:Int)≤(i:Int):=by omega
        have hikI:(i:Int)≤(k:Int):=by omega
        have hkcI:(k:Int)≤(c:Int):=by omega
        have hci:¬c - i=0:=by omega
        go_wp2_with (at_builtin;refine wpList_append_own_at _ rfl _ _ 102 rfl w.heap.size 28 i0 _ 1 24 Tryz.underlying102 hi hz0 hz1 hz2 rfl (by decide) _ _ _ rfl (HP1.out.owns.alloc _) ⟨w1.heap.size,0,none⟩ 1 1 [.slice (some ⟨b,off+i*5,none⟩) (k - i) (c - i)] rfl rfl ?q1 ?q2 ?q3 ?q4 ?q5 ?_)
        case q1 =>
         intro j u hj;match j,hj with
         | 0,hj=>simp at hj;subst hj;rw [Go.WideShapes.add_plain];simp
         | j+1,hj=>simp at hj
        case q2=>intro u hu;simp at hu;subst hu;rfl
        case q3=>unfold maxLen;omega
        case q4=>omega
        case q5=>simp;omega
        intro v' w2 hown' hgrow hnil hat;obtain ⟨g2,cap2,rfl⟩:∃g cap,v'=sL g (nP+1) cap:=by
         rcases hown'.2 with ⟨hv,h0⟩ | ⟨g,cap,cur,hv,_⟩
         · omega
         · exact ⟨g,cap,hv⟩
        have HP2:Hid (aX w2 w.heap.size g2 (nP+1) cap2 (P++[(L.drop i).take (k - i)]) (vs++[.slice (some ⟨b,off+i*5,none⟩) (k - i) (c - i)]) none):=by
         have hka:∀o,Bl w1 (w1.alloc o):=fun o=>(Below.refl _ _).alloc (Nat.le_refl _) o
         exact (HP1.out.below (hka _)).push hown' hgrow (by rcases hat with h | h;exact .inl (Option.some.inj h);exact .inr (by have h1:g2=w1.heap.size+1:=Option.some.inj h;simpa using h1)) ((HL.out.keep (HB2.out.trans ((hka _).mono HB2.out.size))).sub (by omega) hkn) (fun x e hp=>by
          have h3:=(HP1.out.owns.lt g rfl).1;cases e;show b≠g
          omega)
        have HB4:Hid (Bl w w2):=(HB2.out.alloc HB2.out.size _).grown hgrow (by simp;omega) (fun q hq=>(HP1.out.owns.lt q hq).1);clear hown' hgrow hnil hat HP1 HB2;go_wp2;go_roundw
        case rel=>exact ⟨k,nP+1,g2,cap2,_,_,by omega,rfl,rfl,HP2.out,HB4.out,by omega,by rw [HCUT.out,HPF.out];simp⟩
        case measure=>simp [intOf];omega
     · have hklI:¬(k:Int)<(n:Int):=by omega
       have hkE:k=n:=by omega
       subst hkE;have HMK:Hid (∀w',Bl wr w'→(b<w'.heap.size)):=fun w' kk=>Nat.lt_of_lt_of_le zb kk.size
       clear hbk;go_wp2_with fail
       refine eC HMK k0 fun aa=>?_
       refine aO 0 17 aa ?_;refine aI 17 fun K hK=>?_
       go_simp;refine hK.out _ _ (HMK.out _ k0) fun aa=>?_
       (try go_frame);refine aO 18 2 aa ?_;refine dN ?_;clear HMK aa;have HB2:Hid (Bl w wr.drew):=HB.out.trans (k0.mono HB.out.size);have HB3:Hid (Bl wo wr.drew):=HBK.out.trans (k0.mono HBK.out.size);have HPF:Hid (Sq.parts (fW S) (L.drop i)=(L.drop i).take (k - i) :: Sq.parts (fW S) (L.drop k)):=Sq.parts_front _ L i k hik (by rw [HLEN.out];omega) HCH.out (fun x y hx hy=>by rw [List.getElem?_eq_none (by rw [HLEN.out];omega)] at hy;cases hy);have HP1:Hid (aX wr.drew w.heap.size g nP cp P vs none):=HP.out.below HB3.out;obtain ⟨w1,hw1⟩:=aS wr.drew;rw [← hw1] at HB2 HP1 ⊢;have hs1:=HB2.out.size;clear k0 HB HBK HCH HP HB3 HBO hw1;have hiI:(0:Int)≤(i:Int):=by omega
       have hikI:(i:Int)≤(k:Int):=by omega
       have hkcI:(k:Int)≤(c:Int):=by omega
       have hci:¬c - i=0:=by omega
       go_wp2_with (at_builtin;refine wpList_append_own_at _ rfl _ _ 102 rfl w.heap.size 28 i0 _ 1 24 Tryz.underlying102 hi hz0 hz1 hz2 rfl (by decide) _ _ _ rfl (HP1.out.owns.alloc _) ⟨w1.heap.size,0,none⟩ 1 1 [.slice (some ⟨b,off+i*5,none⟩) (k - i) (c - i)] rfl rfl ?q1 ?q2 ?q3 ?q4 ?q5 ?_)
       case q1 =>
        intro j u hj;match j,hj with
        | 0,hj=>simp at hj;subst hj;rw [Go.WideShapes.add_plain];simp
        | j+1,hj=>simp at hj
       case q2=>intro u hu;simp at hu;subst hu;rfl
       case q3=>unfold maxLen;omega
       case q4=>omega
       case q5=>simp;omega
       intro v' w2 hown' hgrow hnil hat;obtain ⟨g2,cap2,rfl⟩:∃g cap,v'=sL g (nP+1) cap:=by
        rcases hown'.2 with ⟨hv,h0⟩ | ⟨g,cap,cur,hv,_⟩
        · omega
        · exact ⟨g,cap,hv⟩
       have HP2:Hid (aX w2 w.heap.size g2 (nP+1) cap2 (P++[(L.drop i).take (k - i)]) (vs++[.slice (some ⟨b,off+i*5,none⟩) (k - i) (c - i)]) none):=by
        have hka:∀o,Bl w1 (w1.alloc o):=fun o=>(Below.refl _ _).alloc (Nat.le_refl _) o
        exact (HP1.out.below (hka _)).push hown' hgrow (by rcases hat with h | h;exact .inl (Option.some.inj h);exact .inr (by have h1:g2=w1.heap.size+1:=Option.some.inj h;simpa using h1)) ((HL.out.keep (HB2.out.trans ((hka _).mono HB2.out.size))).sub (by omega) hkn) (fun x e hp=>by
         have h3:=(HP1.out.owns.lt g rfl).1;cases e;show b≠g
         omega)
       have HB4:Hid (Bl w w2):=(HB2.out.alloc HB2.out.size _).grown hgrow (by simp;omega) (fun q hq=>(HP1.out.owns.lt q hq).1);clear hown' hgrow hnil hat HP1 HB2;go_wp2;go_roundw
       case rel=>exact ⟨k,nP+1,g2,cap2,_,_,by omega,rfl,rfl,HP2.out,HB4.out,by omega,by rw [HCUT.out,HPF.out];simp⟩
       case measure=>simp [intOf];omega
  · have hilI:¬(i:Int)<(n:Int):=by omega
    have HE:Hid (Sq.parts (fW S) L=P):=by
     have h:=HCUT.out;rw [List.drop_eq_nil_of_le (by rw [HLEN.out];omega)] at h;rw [show Sq.parts (fW S) []=[] from rfl,List.append_nil] at h;exact h
    go_wp2;go_ret;exact ⟨g,nP,cp,rfl,by rw [HE.out];exact HP.out.partsAt,HBO.out⟩
end Go.Proofs.YtpobkmjicbobdaaGreat
namespace Go.Proofs.YtpobkmjicbobdaaGreat
open Go.RowKit
set_option maxRecDepth 100000
set_option maxHeartbeats 4000000
attribute [local go_sem] Oper.semAt_some
def mT (P:List (List ac)) (bottom:Bool) (j:Nat):Bool × List ac:=(P.drop j).foldr (Sq.stepD lN) (bottom,[])
theorem yZ {P:List (List ac)} {bottom:Bool} {j:Nat} {A:List ac} (h:P[j]?=some A):mT P bottom j=(if (lN (mT P bottom (j+1)).1 A).isEmpty then (mT P bottom (j+1)).1 else false,lN (mT P bottom (j+1)).1 A++(mT P bottom (j+1)).2):=wU bottom P j A h
theorem At (P:List (List ac)) (bottom:Bool) (j:Nat):(mT P bottom j).2.length≤P.flatten.length:=by
 refine Nat.le_trans (oJ bottom (P.drop j)) ?_;conv=>rhs;rw [← List.take_append_drop j P]
 rw [List.flatten_append,List.length_append];omega
theorem AP {w w2 w3:World} {G nc g n' c':Nat} {C R:List ac} {v3:Value} (hO:ay w2 w.heap.size G 0 0 []) (hR:ay w2 w.heap.size g n' c' R) (hB:Bl w w2) (hg:g≠G)
 (hown:w3.ownsRow w.heap.size 50 5 v3 (0+nc) (aE []++aE C)) (hgrow:w2.grownBy w3 (sL G 0 0).ownBlock) (hnil:v3=nZ ↔ sL G 0 0=nZ∧nc=0) :
 ∃g3 cap3,g3<w3.heap.size∧v3=sL g3 nc cap3∧Hid (ay w3 w.heap.size g n' c' R)∧Hid (Bl w w3)∧Hid (w3.ownsRow w.heap.size 50 5 (sL g3 nc cap3) nc (aE C)):=by
 rw [Nat.zero_add] at hown;have hown':w3.ownsRow w.heap.size 50 5 v3 nc (aE C):=by simpa [aE] using hown
 obtain ⟨g3,cap3,rfl⟩:∃g cap,v3=sL g nc cap:=by
  rcases hown'.2 with ⟨hv,h0⟩ | ⟨g,cap,cur,hv,_⟩
  · have:=(hnil.1 hv).1;cases this
  · exact ⟨g,cap,hv⟩
 exact ⟨g3,cap3,(hown'.lt g3 rfl).2,rfl,hR.grown hgrow (fun e=>hg (Option.some.inj e)),hB.grown hgrow hB.size (fun q hq=>(hO.owns.lt q hq).1),hown'⟩
theorem AO {w w3 w4:World} {g3 cap3 nc g n' c':Nat} {C R:List ac} {v4:Value} (hO:w3.ownsRow w.heap.size 50 5 (sL g3 nc cap3) nc (aE C)) (hR:ay w3 w.heap.size g n' c' R) (hB:Bl w w3) (hE:∀l ∈ C,ec l) (hL:C.length=nc)
 (hown:w4.ownsRow w.heap.size 50 5 v4 (nc+n') (aE C++aE R)) (hgrow:w3.grownBy w4 (sL g3 nc cap3).ownBlock) (hnil:v4=nZ ↔ sL g3 nc cap3=nZ∧n'=0) :
 ∃g4 cap4,v4=sL g4 (nc+n') cap4∧Hid (ay w4 w.heap.size g4 (nc+n') cap4 (C++R))∧Hid (Bl w w4):=by
 obtain ⟨g4,cap4,rfl⟩:∃g cap,v4=sL g (nc+n') cap:=by
  rcases hown.2 with ⟨hv,h0⟩ | ⟨g,cap,cur,hv,_⟩
  · have:=(hnil.1 hv).1;cases this
  · exact ⟨g,cap,hv⟩
 refine ⟨g4,cap4,rfl,⟨by rw [aU];exact hown,by rw [List.length_append,hL,hR.len],fun l hl=>?_⟩,hB.grown hgrow hB.size (fun q hq=>(hO.lt q hq).1)⟩;rcases List.mem_append.1 hl with h | h
 · exact hE l h
 · exact hR.ents l h
theorem sC (a:Option Addr) (n c:Nat) (P:List (List ac)) (bottom:Bool) (w:World) (hP:cK w a n c P) (hne:∀A ∈ P,A≠[]) (hT:P.flatten.length≤1048576) (hn:n≤1048576) (hN:∀A ∈ P,∀e ∈ A,-1000000≤e.2.2.2.2∧e.2.2.2.2≤1000000) :
 Calls Tryz.prog 220 #[.slice a n c,.bool bottom] w fun e w'=>∃g n' c',e=.returned (sL g n' c')∧ay w' w.heap.size g n' c' (Sq.leftD lN bottom P)∧Bl w w':=by
 have HP:=b6 hP;have HNE:=b6 hne;have HN:=b6 hN;have HT:=b6 hT;have hroom:=hP.room;have hbig:=hP.big;unfold maxLen at hbig;have HO0:Hid (ay (w.alloc (.cells #[] 50)) w.heap.size w.heap.size 0 0 (mT P bottom n).2):=by
  have e:(mT P bottom n).2=[]:=by unfold mT;rw [List.drop_eq_nil_of_le (by rw [hP.length];exact Nat.le_refl _)];rfl
  show ay _ _ _ _ _ _
  rw [e];exact mt w _ (Nat.le_refl _)
 have HS0:Hid ((mT P bottom n).1=bottom):=by show (mT P bottom n).1=bottom;unfold mT;rw [List.drop_eq_nil_of_le (by rw [hP.length];exact Nat.le_refl _)];rfl
 have HA0:Hid (Bl w (w.alloc (.cells #[] 50))):=bZ;obtain ⟨i0,hi,hz0,hz1,hz2⟩:=info_parts Tryz.infoEnt;clear hP hne hN hT;have wn:IntKind.i64.wrap ((n:Int) - 1)=(n:Int) - 1:=by rw [IntWalk.i64_left];unfold wrap64;omega
 go_enter Tryz.func220,Tryz.ntmps220
 go_wp2;go_loopw [1,5,6] (fun bv o iv wr=>∃(j n' g c':Nat) (z:Int),j≤n∧z=(j:Int) - 1∧iv=iT z∧bv=.bool (mT P bottom j).1∧o=sL g n' c'∧ay wr w.heap.size g n' c' (mT P bottom j).2∧Bl w wr) (fun _ _ iv _=>(intOf iv+1).toNat)
 case atStart=>exact ⟨n,0,w.heap.size,0,_,Nat.le_refl _,rfl,rfl,by rw [HS0.out],rfl,HO0.out,HA0.out⟩
 case round =>
  obtain ⟨j,n',g,c',z,hj,hz,rfl,rfl,rfl,hO,hb⟩:=hrel;have HR:Hid (ay wr w.heap.size g n' c' (mT P bottom j).2):=hO;have HB:Hid (Bl w wr):=hb;clear hO hb HO0 HS0 HA0;by_cases hj0:j=0
  · subst hj0;have hz':z=-1:=by omega
    subst hz';clear hz wn;go_wp2;go_ret;exact ⟨g,n',c',rfl,by have h:=HR.out;unfold mT at h;rw [List.drop_zero] at h;exact h,HB.out⟩
  · obtain ⟨jj,rfl⟩:∃jj,j=jj+1:=⟨j - 1,by omega⟩;have hz':z=(jj:Int):=by omega
    subst hz';clear hz hj0;have hjI:(jj:Int)<(n:Int):=by omega
    have hj0:(0:Int)≤(jj:Int):=by omega
    have hjn:jj<n:=by omega
    obtain ⟨b,off,rfl,hbb⟩:=HP.out.form (by omega);obtain ⟨A,s,m,d,hA,gA,hE⟩:=HP.out.list HB.out jj hjn;have hmem:=List.mem_of_getElem? hA;have hAne:=HNE.out A hmem;have hAl:=hE.length;have hm1:1≤m:=by
     rw [← hAl];cases A with
     | nil=>exact absurd rfl hAne
     | cons=>simp
    obtain ⟨bs,os,rfl,hbs⟩:=hE.form hm1;obtain ⟨e0,he0⟩:∃e0,A[0]?=some e0:=⟨A[0]'(by omega),List.getElem?_eq_getElem (by omega)⟩;obtain ⟨s0,q0,r0⟩:=e0;have hAt:A.length≤P.flatten.length:=by
     obtain ⟨X,Y,e⟩:=List.append_of_mem hmem;rw [e];simp;omega
    have hT':=HT.out;have hm2:m≤1048576:=by omega
    have zb:b<wr.heap.size:=Nat.lt_of_lt_of_le hbb HB.out.size;have hln:n'≤1048576:=by have h1:=HR.out.len;have h2:=At P bottom (jj+1);omega
    obtain ⟨bb,hbbE⟩:=aS ((mT P bottom (jj+1)).1);have CC:=ww bs os m d A s0 q0 bb wr hE hm1 hm2 ⟨r0,he0⟩ (HN.out A hmem);obtain ⟨C,hC⟩:=aS (lN bb A);rw [← tD bb he0,← hC] at CC;have hCl:C.length≤m:=by rw [hC,← hAl];exact vE _ _
    have HST:Hid (mT P bottom jj=(if C.isEmpty then bb else false,C++(mT P bottom (jj+1)).2)):=by show mT P bottom jj=_;rw [yZ hA,← hbbE,← hC]
    rw [← hbbE];clear hA hE hAne hAl he0 hAt hbbE hC hmem HP HNE HN;go_wp2_with fail
    refine CC.mono ?_;rintro e w1 ⟨gc,nc,cc,rfl,hcO,hb1⟩;have HC:Hid (ay w1 wr.heap.size gc nc cc C):=hcO;have HB1:Hid (Bl w w1):=HB.out.trans (hb1.mono HB.out.size);have HR1:Hid (ay w1 w.heap.size g n' c' (mT P bottom (jj+1)).2):=HR.out.below hb1;have hncl:=hcO.len;have hnc:nc≤1048576:=by omega
    have hwr:=hb1.size;have wj:IntKind.i64.wrap ((jj:Int) - 1)=(jj:Int) - 1:=by rw [IntWalk.i64_left];unfold wrap64;omega
    clear CC hcO hb1 HB HR gA;by_cases hnz:nc=0
    · have HCZ:Hid (C.isEmpty=true):=by show C.isEmpty=true;rw [List.isEmpty_iff];exact List.length_eq_zero_iff.1 (by omega)
      subst hnz;go_upto_region 8 with fail
      obtain ⟨w2,hw2⟩:=aS (w1.alloc (.cells #[] 50));have hs2:w2.heap.size=w1.heap.size+1:=by rw [hw2];simp
      have HO2:Hid (ay w2 w.heap.size w1.heap.size 0 0 []):=by rw [hw2];exact mt w1 _ HB1.out.size
      have ha2:Bl w1 w2:=by rw [hw2];exact bZ
      have HB2:Hid (Bl w w2):=HB1.out.trans (ha2.mono HB1.out.size);have HC2:Hid (ay w2 wr.heap.size gc 0 cc C):=HC.out.below ha2;have HR2:Hid (ay w2 w.heap.size g n' c' (mT P bottom (jj+1)).2):=HR1.out.below ha2;have hgw:g<w1.heap.size:=HR1.out.lt.2;have HCE:Hid (∀l ∈ C,ec l):=HC2.out.ents;have HCL:Hid (C.length=0):=HC2.out.len;clear ha2 HB1 HC HR1;go_wp2_with (first
       | (at_builtin;rw [← hw2];refine wpList_append_own_at _ rfl _ _ 28 rfl w.heap.size 50 i0 _ 5 56 Tryz.underlying28 hi hz0 hz1 hz2 rfl (by decide) _ _ _ rfl HO2.out.owns ⟨gc,0,none⟩ 0 cc (aE C) rfl (by rw [bi,HC2.out.len]) (ir HC2.out.entsAt) (aQ _) (by unfold maxLen;omega) (by omega) HB2.out.size ?_;intro v3 w3 hown3 hgrow3 hnil3 hat3;obtain ⟨g3,cap3,hg3,rfl,HR3,HB3,HO3⟩:=AP HO2.out HR2.out HB2.out (by omega) hown3 hgrow3 hnil3;clear hown3 hgrow3 hnil3 hat3 hw2 HC2 HO2 HR2 HB2)
       | (at_builtin;refine wpList_append_own_at _ rfl _ _ 28 rfl w.heap.size 50 i0 _ 5 56 Tryz.underlying28 hi hz0 hz1 hz2 rfl (by decide) _ _ _ rfl HO3.out ⟨g,0,none⟩ n' c' (aE (mT P bottom (jj+1)).2) rfl (by rw [bi,HR3.out.len]) (ir HR3.out.entsAt) (aQ _) (by unfold maxLen;omega) (by omega) HB3.out.size ?_;intro v4 w4 hown4 hgrow4 hnil4 hat4;obtain ⟨g4,cap4,rfl,HR4,HB4⟩:=AO HO3.out HR3.out HB3.out HCE.out HCL.out hown4 hgrow4 hnil4;clear hown4 hgrow4 hnil4 hat4 HR3 HB3 HO3 HCE))
      rw [Nat.zero_add] at HR4;go_roundw
      case rel=>exact ⟨jj,n',g4,cap4,(jj:Int) - 1,by omega,rfl,by go_num,by rw [HST.out];rw [HCZ.out];rfl,rfl,by rw [HST.out];exact HR4.out,HB4.out⟩
      case measure=>simp [intOf] <;> omega
    · have HCZ:Hid (C.isEmpty=false):=by
       show C.isEmpty=false
       cases hC:C with
       | nil=>rw [hC] at hncl;simp at hncl;omega
       | cons=>rfl
      have hnzI:(0:Int)<(nc:Int):=by omega
      go_upto_region 8 with fail
      obtain ⟨w2,hw2⟩:=aS (w1.alloc (.cells #[] 50));have hs2:w2.heap.size=w1.heap.size+1:=by rw [hw2];simp
      have HO2:Hid (ay w2 w.heap.size w1.heap.size 0 0 []):=by rw [hw2];exact mt w1 _ HB1.out.size
      have ha2:Bl w1 w2:=by rw [hw2];exact bZ
      have HB2:Hid (Bl w w2):=HB1.out.trans (ha2.mono HB1.out.size);have HC2:Hid (ay w2 wr.heap.size gc nc cc C):=HC.out.below ha2;have HR2:Hid (ay w2 w.heap.size g n' c' (mT P bottom (jj+1)).2):=HR1.out.below ha2;have hgw:g<w1.heap.size:=HR1.out.lt.2;have HCE:Hid (∀l ∈ C,ec l):=HC2.out.ents;have HCL:Hid (C.length=nc):=HC2.out.len;clear ha2 HB1 HC HR1;go_wp2_with (first
       | (at_builtin;rw [← hw2];refine wpList_append_own_at _ rfl _ _ 28 rfl w.heap.size 50 i0 _ 5 56 Tryz.underlying28 hi hz0 hz1 hz2 rfl (by decide) _ _ _ rfl HO2.out.owns ⟨gc,0,none⟩ nc cc (aE C) rfl (by rw [bi,HC2.out.len]) (ir HC2.out.entsAt) (aQ _) (by unfold maxLen;omega) (by omega) HB2.out.size ?_;intro v3 w3 hown3 hgrow3 hnil3 hat3;obtain ⟨g3,cap3,hg3,rfl,HR3,HB3,HO3⟩:=AP HO2.out HR2.out HB2.out (by omega) hown3 hgrow3 hnil3;clear hown3 hgrow3 hnil3 hat3 hw2 HC2 HO2 HR2 HB2)
       | (at_builtin;refine wpList_append_own_at _ rfl _ _ 28 rfl w.heap.size 50 i0 _ 5 56 Tryz.underlying28 hi hz0 hz1 hz2 rfl (by decide) _ _ _ rfl HO3.out ⟨g,0,none⟩ n' c' (aE (mT P bottom (jj+1)).2) rfl (by rw [bi,HR3.out.len]) (ir HR3.out.entsAt) (aQ _) (by unfold maxLen;omega) (by omega) HB3.out.size ?_;intro v4 w4 hown4 hgrow4 hnil4 hat4;obtain ⟨g4,cap4,rfl,HR4,HB4⟩:=AO HO3.out HR3.out HB3.out HCE.out HCL.out hown4 hgrow4 hnil4;clear hown4 hgrow4 hnil4 hat4 HR3 HB3 HO3 HCE))
      go_roundw
      case rel=>exact ⟨jj,nc+n',g4,cap4,(jj:Int) - 1,by omega,rfl,by go_num,by rw [HST.out];rw [HCZ.out];rfl,rfl,by rw [HST.out];exact HR4.out,HB4.out⟩
      case measure=>simp [intOf] <;> omega
end Go.Proofs.YtpobkmjicbobdaaGreat
namespace Go.Proofs.YtpobkmjicbobdaaGreat
open Go.RowKit
set_option maxRecDepth 100000
set_option maxHeartbeats 4000000
theorem mH (r:ac→ac→Bool) (L:List ac):(Sq.parts r L).length≤L.length:=by
 have key:∀P:List (List ac),(∀c ∈ P,c≠[])→P.length≤P.flatten.length:=by
  intro P;induction P with
  | nil=>intro _;exact Nat.le_refl _
  | cons c P ih =>
   intro h;have h1:=ih (fun x hx=>h x (List.mem_cons_of_mem _ hx));have h2:1≤c.length:=by
    cases c with
    | nil=>exact absurd rfl (h [] List.mem_cons_self)
    | cons=>simp
   rw [List.length_cons,List.flatten_cons,List.length_append];omega
 have:=key _ (ju r L);rwa [Sq.parts_flat] at this
theorem xD {L:List ac} {P:List (List ac)} {i:Nat} (h:Sq.parts eR L=P++Sq.parts eR (L.drop i)) (S:List Int) (bottom:Bool):(P.flatMap (eF S bottom)).length≤L.length:=by
 have h1:=pd S bottom P;have h2:=Sq.parts_flat eR L;rw [h,List.flatten_append] at h2;have h3:=congrArg List.length h2;rw [List.length_append] at h3;omega
theorem AQ {w w3 w4:World} {base g n c g3 n3 c3:Nat} {R C:List ac} {v4:Value} (hO:ay w3 w.heap.size g n c R) (hC:ay w3 base g3 n3 c3 C) (hB:Bl w w3)
 (hown:w4.ownsRow w.heap.size 50 5 v4 (n+n3) (aE R++aE C)) (hgrow:w3.grownBy w4 (sL g n c).ownBlock) (hnil:v4=nZ ↔ sL g n c=nZ∧n3=0) :
 ∃g4 cap4,v4=sL g4 (n+n3) cap4∧Hid (ay w4 w.heap.size g4 (n+n3) cap4 (R++C))∧Hid (Bl w w4):=by
 obtain ⟨g4,cap4,rfl⟩:∃g cap,v4=sL g (n+n3) cap:=by
  rcases hown.2 with ⟨hv,h0⟩ | ⟨g,cap,cur,hv,_⟩
  · have:=(hnil.1 hv).1;cases this
  · exact ⟨g,cap,hv⟩
 refine ⟨g4,cap4,rfl,⟨by rw [aU];exact hown,by rw [List.length_append,hO.len,hC.len],fun l hl=>?_⟩,hB.grown hgrow hB.size (fun q hq=>(hO.owns.lt q hq).1)⟩;rcases List.mem_append.1 hl with h | h
 · exact hO.ents l h
 · exact hC.ents l h
theorem jO (lo:Nat) (al:Option Addr) (n c:Nat) (L:List ac) (a:Option Addr) (m d:Nat) (S:List Int) (bottom:Bool) (w:World) (hL:aj w al n c L) (hS:bG lo w a m d S) (hn:n≤1048576) :
 Calls Tryz.prog 174 #[.slice al n c,.slice a m d,.bool bottom] w fun e w'=>∃g n' c',e=.returned (sL g n' c')∧ay w' w.heap.size g n' c' (bI L S bottom)∧Bl w w':=by
 have HLEN:Hid (L.length=n):=hL.length;have hroom:=hL.room;have hbig:=hL.big;unfold maxLen at hbig;have HL:=b6 hL;have HS:=b6 hS;obtain ⟨w0,hw0⟩:=aS (w.alloc (.cells #[] 50));have ha0:Bl w w0:=by rw [hw0];exact bZ
 have HO0:Hid (ay w0 w.heap.size w.heap.size 0 0 []):=by rw [hw0];exact mt w _ (Nat.le_refl _)
 have CR:=jp al n c L w0 (hL.keep ha0);obtain ⟨i0,hi,hz0,hz1,hz2⟩:=info_parts Tryz.infoEnt;clear hL hS;go_enter Tryz.func174,Tryz.ntmps174
 go_wp2_with fail
 rw [← hw0];refine CR.mono ?_;rintro e w1 ⟨rfl,hb1⟩;have HA0:Hid (Bl w w1):=ha0.trans (hb1.mono ha0.size);have HO1:Hid (ay w1 w.heap.size w.heap.size 0 0 []):=HO0.out.below hb1;clear CR hb1 ha0 HO0 hw0;cases hR:aR L with
 | false =>
  have HQ:Hid (bI L S bottom=[]):=by show bI L S bottom=[];unfold bI;rw [hR];rfl
  go_wp2;go_ret;exact ⟨w.heap.size,0,0,rfl,by rw [HQ.out];exact HO1.out,HA0.out⟩
 | true =>
  have HQ:Hid (bI L S bottom=(Sq.parts eR L).flatMap (eF S bottom)):=by show bI L S bottom=_;unfold bI;rw [if_pos hR]
  have HNU:Hid (∀e ∈ L,-1000000≤e.2.2.2.2∧e.2.2.2.2≤1000000):=fun e he=>(uo hR e he).1
  clear hR;go_wp2;go_loopw [7,8] (fun o iv wr=>∃(i n' g c':Nat) (P:List (List ac)),i≤n∧iv=iT i∧o=sL g n' c'∧ay wr w.heap.size g n' c' (P.flatMap (eF S bottom))∧Bl w wr∧Sq.parts eR L=P++Sq.parts eR (L.drop i)) (fun _ iv _=>n - (intOf iv).toNat)
  case atStart=>exact ⟨0,0,w.heap.size,0,[],Nat.zero_le _,rfl,rfl,HO1.out,HA0.out,rfl⟩
  case round =>
   obtain ⟨i,n',g,c',P,hin,rfl,rfl,hO,hb,hcut⟩:=hrel;have HO:Hid (ay wr w.heap.size g n' c' (P.flatMap (eF S bottom))):=hO;have HBO:Hid (Bl w wr):=hb;have HCUT:Hid (Sq.parts eR L=P++Sq.parts eR (L.drop i)):=hcut;have hn':n'≤n:=by have h1:=hO.len;have h2:=xD hcut S bottom;have h3:=HLEN.out;omega
   clear hO hb hcut HO1 HA0;by_cases hil:i<n
   · have hilI:(i:Int)<(n:Int):=by omega
     obtain ⟨b,off,rfl,hbw⟩:=HL.out.form (by omega);obtain ⟨si,qi,di,ti,ni,hxi,_,_,_⟩:=HL.out.ent HBO.out hbw i hil;have HXI:Hid (L[i]?=some (si,qi,di,ti,ni)):=hxi;clear hxi;obtain ⟨wo,hwo⟩:=aS wr;subst hwo;go_wp2;go_loopw [9] (fun kv wq=>∃k:Nat,i<k∧k≤n∧kv=iT k∧Bl wo wq∧(∀j,i≤j→j<k→∀x,L[j]?=some x→x.1=si)) (fun kv _=>n - (intOf kv).toNat)
     case atStart=>exact ⟨i+1,by omega,by omega,by go_num,Below.refl _ _,fun j h1 h2 x hx=>by
      have:j=i:=by omega
      subst this;rw [HXI.out] at hx;cases hx;rfl⟩
     case round =>
      obtain ⟨k,hik,hkn,rfl,hbk,hch⟩:=hrel;have HCH:Hid (∀j,i≤j→j<k→∀x,L[j]?=some x→x.1=si):=hch;have HB:Hid (Bl w wr):=HBO.out.trans (hbk.mono HBO.out.size);have HBK:Hid (Bl wo wr):=hbk;have HCC:Hid (∀j,i<j→j<k→∀x y,L[j - 1]?=some x→L[j]?=some y→eR x y=true):=fun j h1 h2 x y hx hy=>by
       show decide (x.1=y.1)=true
       rw [hch (j - 1) (by omega) (by omega) x hx,hch j (by omega) h2 y hy];simp
      clear hch;have zb:b<wr.heap.size:=Nat.lt_of_lt_of_le hbw HB.out.size;have k0:Bl wr wr.drew:=(Below.refl _ wr).drew;have HB2:Hid (Bl w wr.drew):=HB.out.trans (k0.mono HB.out.size);have HB3:Hid (Bl wo wr.drew):=HBK.out.trans (k0.mono HBK.out.size);by_cases hkl:k<n
      · have hklI:(k:Int)<(n:Int):=by omega
        obtain ⟨s,q,dd,tt,nn,hx,_,g0,_⟩:=HL.out.ent HB.out hbw k hkl;obtain ⟨s2,q2,dd2,tt2,nn2,hx2,_,e0,_⟩:=HL.out.ent HB.out hbw i hil;rw [HXI.out] at hx2;cases hx2;have HX:Hid (L[k]?=some (s,q,dd,tt,nn)):=hx;have HMK:Hid (∀w',Bl wr w'→(w'.cell? ⟨b,off+k*5,none⟩=some (.string s)∧w'.cell? ⟨b,off+i*5,none⟩=some (.string si)∧b<w'.heap.size)):=fun w' kk=>⟨cell_later kk g0,cell_later kk e0,Nat.lt_of_lt_of_le zb kk.size⟩
        clear hx g0 e0 hbk;by_cases hss:s=si
        · subst hss;go_wp2_with fail
          refine eC HMK k0 fun aa=>?_
          refine aO 0 17 aa ?_;refine dN ?_;clear k0 HMK aa;go_wp2;go_roundw
          case rel =>
           refine ⟨k+1,by omega,by omega,by go_num,HB3.out,fun j h1 h2 x hx=>?_⟩;by_cases hj:j<k
           · exact HCH.out j h1 hj x hx
           · have:j=k:=by omega
             subst this;rw [HX.out] at hx;cases hx;rfl
          case measure=>simp [intOf];omega
        · have hne:¬s.toList=si.toList:=by
           rw [ByteArray.toList_eq,ByteArray.toList_eq];intro h;exact hss (ByteArray.ext (Array.toList_inj.1 h))
          have hne':(s.toList == si.toList)=false:=by simpa using hne
          have HPF:Hid (Sq.parts eR (L.drop i)=(L.drop i).take (k - i) :: Sq.parts eR (L.drop k)):=Sq.parts_front _ L i k hik (by rw [HLEN.out];omega) HCC.out (fun x y hx hy=>by
           rw [HX.out] at hy;cases hy;show decide (x.1=s)=false
           rw [HCH.out (k - 1) (by omega) (by omega) x hx];exact decide_eq_false (fun h=>hss h.symm))
          clear hss;go_wp2_with fail
          refine eC HMK k0 fun aa=>?_
          refine aO 0 17 aa ?_;refine dN ?_;clear k0 HMK aa HCH HCC HX hne hne';have HO1:Hid (ay wr.drew w.heap.size g n' c' (P.flatMap (eF S bottom))):=HO.out.below HB3.out;obtain ⟨w1,hw1⟩:=aS wr.drew;rw [← hw1] at HB2 HO1 ⊢;have hs1:=HB2.out.size;clear HB HBK HO HB3 HBO hw1;have hiI:(0:Int)≤(i:Int):=by omega
          have hikI:(i:Int)≤(k:Int):=by omega
          have hkcI:(k:Int)≤(c:Int):=by omega
          have hci:¬c - i=0:=by omega
          obtain ⟨G,hG⟩:=aS ((L.drop i).take (k - i));have hGl:G.length=k - i:=by rw [hG,List.length_take,List.length_drop,HLEN.out];omega
          have HGM:Hid (∀e ∈ G,e ∈ L):=fun e he=>by rw [hG] at he;exact List.mem_of_mem_drop (List.mem_of_mem_take he)
          have CK:=mD lo b (off+i*5) (k - i) (c - i) G a m d S w1 (by rw [hG];exact (HL.out.keep HB2.out).sub (by omega) hkn) (HS.out.keep HB2.out) (by omega) (by omega);rw [← hG] at HPF;clear hG;go_wp2_with fail
          refine CK.mono ?_;rintro e w2 ⟨g2,n2,c2,rfl,hP2,hb2⟩;have CF:=sC (pT g2) n2 c2 (Sq.parts (fW S) G) bottom w2 hP2 (ju _ _) (by rw [Sq.parts_flat];omega) (by have h1:=hP2.length;have h2:=mH (fW S) G;omega) (fun A hA e he=>HNU.out e (HGM.out e ((ib _ _ A hA).2 e he)));have HB5:Hid (Bl w w2):=HB2.out.trans (hb2.mono HB2.out.size);have HO5:Hid (ay w2 w.heap.size g n' c' (P.flatMap (eF S bottom))):=HO1.out.below hb2;clear CK hP2 hb2 HB2 HO1 hs1;go_wp2_with fail
          refine CF.mono ?_;rintro e w3 ⟨g3,n3,c3,rfl,hC3,hb3⟩;have HC3:Hid (ay w3 w2.heap.size g3 n3 c3 (eF S bottom G)):=hC3;have HB6:Hid (Bl w w3):=HB5.out.trans (hb3.mono HB5.out.size);have HO6:Hid (ay w3 w.heap.size g n' c' (P.flatMap (eF S bottom))):=HO5.out.below hb3;have hn3:n3≤k - i:=by have h1:=hC3.len;have h2:=mh S bottom G;unfold eF at h2;omega
          clear CF hC3 hb3 HB5 HO5;go_wp2_with (at_builtin;refine wpList_append_own_at _ rfl _ _ 28 rfl w.heap.size 50 i0 _ 5 56 Tryz.underlying28 hi hz0 hz1 hz2 rfl (by decide) _ _ _ rfl HO6.out.owns ⟨g3,0,none⟩ n3 c3 (aE (eF S bottom G)) rfl (by rw [bi,HC3.out.len]) (ir HC3.out.entsAt) (aQ _) (by unfold maxLen;omega) (by omega) HB6.out.size ?_;intro v4 w4 hown4 hgrow4 hnil4 hat4;obtain ⟨g4,cap4,rfl,HR4,HB4⟩:=AQ HO6.out HC3.out HB6.out hown4 hgrow4 hnil4;clear hown4 hgrow4 hnil4 hat4 HO6 HC3 HB6)
          go_roundw
          case rel=>exact ⟨k,n'+n3,g4,cap4,P++[G],by omega,rfl,rfl,by rw [List.flatMap_append];simpa using HR4.out,HB4.out,by rw [HCUT.out,HPF.out];simp⟩
          case measure=>simp [intOf];omega
      · have hklI:¬(k:Int)<(n:Int):=by omega
        have hkE:k=n:=by omega
        subst hkE;have HMK:Hid (∀w',Bl wr w'→(b<w'.heap.size)):=fun w' kk=>Nat.lt_of_lt_of_le zb kk.size
        have HPF:Hid (Sq.parts eR (L.drop i)=(L.drop i).take (k - i) :: Sq.parts eR (L.drop k)):=Sq.parts_front _ L i k hik (by rw [HLEN.out];omega) HCC.out (fun x y hx hy=>by rw [List.getElem?_eq_none (by rw [HLEN.out];omega)] at hy;cases hy);clear hbk;go_wp2_with fail
        refine eC HMK k0 fun aa=>?_
        refine aO 0 17 aa ?_;refine dN ?_;clear HMK aa k0 HCH HCC;have HO1:Hid (ay wr.drew w.heap.size g n' c' (P.flatMap (eF S bottom))):=HO.out.below HB3.out;obtain ⟨w1,hw1⟩:=aS wr.drew;rw [← hw1] at HB2 HO1 ⊢;have hs1:=HB2.out.size;clear HB HBK HO HB3 HBO hw1;have hiI:(0:Int)≤(i:Int):=by omega
        have hikI:(i:Int)≤(k:Int):=by omega
        have hkcI:(k:Int)≤(c:Int):=by omega
        have hci:¬c - i=0:=by omega
        obtain ⟨G,hG⟩:=aS ((L.drop i).take (k - i));have hGl:G.length=k - i:=by rw [hG,List.length_take,List.length_drop,HLEN.out];omega
        have HGM:Hid (∀e ∈ G,e ∈ L):=fun e he=>by rw [hG] at he;exact List.mem_of_mem_drop (List.mem_of_mem_take he)
        have CK:=mD lo b (off+i*5) (k - i) (c - i) G a m d S w1 (by rw [hG];exact (HL.out.keep HB2.out).sub (by omega) hkn) (HS.out.keep HB2.out) (by omega) (by omega);rw [← hG] at HPF;clear hG;go_wp2_with fail
        refine CK.mono ?_;rintro e w2 ⟨g2,n2,c2,rfl,hP2,hb2⟩;have CF:=sC (pT g2) n2 c2 (Sq.parts (fW S) G) bottom w2 hP2 (ju _ _) (by rw [Sq.parts_flat];omega) (by have h1:=hP2.length;have h2:=mH (fW S) G;omega) (fun A hA e he=>HNU.out e (HGM.out e ((ib _ _ A hA).2 e he)));have HB5:Hid (Bl w w2):=HB2.out.trans (hb2.mono HB2.out.size);have HO5:Hid (ay w2 w.heap.size g n' c' (P.flatMap (eF S bottom))):=HO1.out.below hb2;clear CK hP2 hb2 HB2 HO1 hs1;go_wp2_with fail
        refine CF.mono ?_;rintro e w3 ⟨g3,n3,c3,rfl,hC3,hb3⟩;have HC3:Hid (ay w3 w2.heap.size g3 n3 c3 (eF S bottom G)):=hC3;have HB6:Hid (Bl w w3):=HB5.out.trans (hb3.mono HB5.out.size);have HO6:Hid (ay w3 w.heap.size g n' c' (P.flatMap (eF S bottom))):=HO5.out.below hb3;have hn3:n3≤k - i:=by have h1:=hC3.len;have h2:=mh S bottom G;unfold eF at h2;omega
        clear CF hC3 hb3 HB5 HO5;go_wp2_with (at_builtin;refine wpList_append_own_at _ rfl _ _ 28 rfl w.heap.size 50 i0 _ 5 56 Tryz.underlying28 hi hz0 hz1 hz2 rfl (by decide) _ _ _ rfl HO6.out.owns ⟨g3,0,none⟩ n3 c3 (aE (eF S bottom G)) rfl (by rw [bi,HC3.out.len]) (ir HC3.out.entsAt) (aQ _) (by unfold maxLen;omega) (by omega) HB6.out.size ?_;intro v4 w4 hown4 hgrow4 hnil4 hat4;obtain ⟨g4,cap4,rfl,HR4,HB4⟩:=AQ HO6.out HC3.out HB6.out hown4 hgrow4 hnil4;clear hown4 hgrow4 hnil4 hat4 HO6 HC3 HB6)
        go_roundw
        case rel=>exact ⟨k,n'+n3,g4,cap4,P++[G],by omega,rfl,rfl,by rw [List.flatMap_append];simpa using HR4.out,HB4.out,by rw [HCUT.out,HPF.out];simp⟩
        case measure=>simp [intOf];omega
   · have hilI:¬(i:Int)<(n:Int):=by omega
     have HE:Hid (bI L S bottom=P.flatMap (eF S bottom)):=by
      have h:=HCUT.out;rw [List.drop_eq_nil_of_le (by rw [HLEN.out];omega),show Sq.parts eR []=[] from rfl,List.append_nil] at h;show bI L S bottom=_
      rw [HQ.out,h]
     go_wp2;go_ret;exact ⟨g,n',c',rfl,by rw [HE.out];exact HO.out,HBO.out⟩
end Go.Proofs.YtpobkmjicbobdaaGreat
