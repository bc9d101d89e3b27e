/- Walks. -/
import Derived.Test.YtpobkmjicbobdaaGreatBn47
namespace Go.Proofs.YtpobkmjicbobdaaGreat
set_option maxRecDepth 100000
set_option maxHeartbeats 40000000
open Go.RowKit Go.Shelf
variable {BH base c g i k n xk:Nat} {L l out:List ac} {P Z:List (List ac)} {W w w':World} {av:Value} {e m:ac}
section
attribute [local go_sem] Oper.semAt_some
def zH (b off cap:Nat) {n:Nat} (p:mw n):Array Value:=#[Value.slice (some ⟨b,off+p.1.1*5,none⟩) (p.1.2 - p.1.1) (cap - p.1.1)]
theorem sa (n l B1:Nat) (K:Nat→Prop) (hn:2≤n) (b off:Nat) (al:Option Addr) (len cap:Nat) (hal:1≤len→al=some ⟨b,off,none⟩) (L:List ac) (J Jx:List (mw len)→World→Prop) (W:World)
 (hY:∀pre (x:mw len) W1,J pre W1→pre.length<len→YieldAt Fence.wide (n - 1) Tryz.prog l (zH b off cap x) W1 fun e W' =>
  (e=.returned (.bool true)∧J (pre++[x]) W'∧bE K W1 W')∨(e=.returned (.bool false)∧Jx (pre++[x]) W'))
 (hJ:AbidesFrom W.heap.size J)
 (hK1:K B1) (hKb:1≤len→K b) (hKs:∀k,K k→k<W.heap.size)
 (hp1:W.cell? ⟨B1,0,none⟩=some (.slice al len cap))
 (hL:aj W al len cap L) (hlen:len≤1048576) (h0:J [] W) :
 CallsIn Fence.wide n Tryz.prog 202 #[.func (.yield l) #[] #[],.pointer (pT B1)] W fun e W'=>(∃v,e=.returned v) ∧
  ((∃ys,AM L ys∧J ys W')∨(∃pre:List (mw len),True∧Jx pre W')):=by
 have HLEN:Hid (L.length=len):=hL.length;have hroom:=hL.room;have hbig:=hL.big;unfold maxLen at hbig;have HKZ:=b6 hKs;have HLK:Hid (∀w',bE K W w'→aj w' al len cap L):=fun w' k=>hL.keepS k (fun x e hp=>by rw [hal (by omega)] at e;cases e;exact hKb (by omega))
 have HJ:=b6 hJ;have HP1:Hid (∀w',bE K W w'→w'.cell? ⟨B1,0,none⟩=some (.slice al len cap)):=fun w' k=>(k.cell (p:=⟨B1,0,none⟩) hK1).trans hp1
 have HBW:Hid (1≤len→b<W.heap.size):=fun h=>hKs b (hKb h)
 have hn1:1≤n:=by omega
 have hB1W:=hKs B1 hK1;clear hL hKs hJ hKb hp1;refine callsIn_of_wp Tryz.func202 rfl trivial ?_ rfl;simp only [Tryz.ntmps202,List.size_toArray,List.length_cons,List.length_nil,Nat.reduceAdd,Nat.reduceSub,Array.replicate_succ,Array.replicate_zero,List.push_toArray,List.append_toArray,List.nil_append,List.cons_append];gi_wp2
 gi_loopw [3] (fun tv wr=>∃(f:Nat) (pre:List (mw len)),f≤len∧tv=iT (f:Nat)∧J pre wr∧bE K W wr∧pre.length≤f∧x7 L f pre) (fun tv _=>len - (intOf tv).toNat)
 case atStart=>exact ⟨0,[],by omega,rfl,h0,bE.refl _ _,by simp,x7.zero L⟩
 case round =>
  obtain ⟨f,pre,hf,rfl,hJs,hb,hpl,hpt⟩:=hrel;have HKO:Hid (bE K W wr):=hb;have HPT:Hid (x7 L f pre):=hpt;have HJO:Hid (J pre wr):=hJs;have c0:=HP1.out wr hb;have hsz0:=hb.size;clear hb hpt hJs;by_cases ht0:f=len
  · have HAC:Hid (AM L pre):=by
     have:=HPT.out;rw [ht0] at this;exact this.done HLEN.out
    have hnl:¬(f:Int)<(len:Int):=by omega
    clear ht0;gi_wp2
    go_end0;exact ⟨⟨_,rfl⟩,.inl ⟨pre,HAC.out,HJO.out⟩⟩
  · have htI:(f:Int)<(len:Int):=by omega
    have htN:f<len:=by omega
    obtain rfl:=hal (by omega);have wt:IntKind.i64.wrap ((f:Int)+1)=((f+1:Nat):Int):=by
     have e:((f+1:Nat):Int)=(f:Int)+1:=by omega
     rw [e,IntWalk.i64_left];unfold wrap64;omega
    have hbW:=HBW.out (by omega);gi_wp2
    clear c0;gi_loopw [4] (fun fv wq=>∃up:Nat,f<up∧up≤len∧fv=iT (up:Nat)∧J pre wq∧bE K W wq∧Mg.Asc aP ((L.drop f).take (up - f))) (fun fv _=>len - (intOf fv).toNat)
    case atStart=>exact ⟨f+1,by omega,by omega,by first | rfl | go_num,HJO.out,HKO.out,AG L f⟩
    case round =>
     clear HKO HJO wt;obtain ⟨up,hft,hto,rfl,hJs,hks,hch⟩:=hrel;have HKS:Hid (bE K W wr):=hks;have HJR:Hid (J pre wr):=hJs;have HCH:Hid (Mg.Asc aP ((L.drop f).take (up - f))):=hch;clear hks hJs hch;have hsz:=HKS.out.size;have k0:Bl wr wr.drew:=(Below.refl _ wr).drew;have c1:=HP1.out wr HKS.out;by_cases hf0:up=len
     · have hnl:¬(up:Int)<(len:Int):=by omega
       have hnd:decide ((up:Int)<(len:Int))=false:=decide_eq_false hnl;have hnn:¬up<len:=by omega
       have hne:decide (up<len)=false:=decide_eq_false hnn;have HUP:Hid (up=len):=hf0;clear hf0;have HMK:Hid (∀w',Bl wr w'→(w'.cell? ⟨B1,0,none⟩=some (sO b off len cap))):=fun w' kk=>cell_later kk c1
       gi_wp2_with fail
       refine wpIn_wide.2 ?_;refine eC HMK k0 fun aa=>?_
       refine aO 0 14 aa ?_;refine aI 14 fun K hK=>?_
       go_simp;refine hK.out _ _ (HMK.out _ k0) (fun aa=>?_);clear hK K;(try go_frame);refine aO 15 2 aa ?_;refine dN ?_;clear HMK aa;have hK2:bE K wr wr.drew:=bE.of k0 (fun k hk=>Nat.lt_of_lt_of_le (HKZ.out k hk) hsz);have HKS2:Hid (bE K W wr.drew):=HKS.out.trans hK2;have HJ2:Hid (J pre wr.drew):=HJ.out _ _ _ none HJR.out (dE k0) (fun r e=>by cases e);obtain ⟨w1,hw1⟩:=aS wr.drew;rw [← hw1] at HKS2 HJ2 ⊢;clear hK2 k0 hw1 c1 HKS HJR hnl hnd hnn hne;have c1:=HP1.out w1 HKS2.out;have hsz1:=HKS2.out.size;have HUS:Hid (x7 L up (pre++[⟨(f,up),hft,hto⟩])):=HPT.out.step HLEN.out hft hto HCH.out;have hff:(f:Int)≤(up:Int):=by omega
       have hfz:(0:Int)≤(f:Int):=by omega
       have htc:(up:Int)≤(cap:Int):=by omega
       have hci:¬cap - f=0:=by omega
       obtain ⟨fn,tmps,assign,body,hy,hR⟩:=hY pre ⟨(f,up),hft,hto⟩ w1 HJ2.out (by omega);simp only [zH] at hy;clear HCH HJ2;gi_wp2
       refine hR.mono ?_;rintro e W3 (⟨rfl,hJ3,hk3⟩ | ⟨rfl,hJx3⟩)
       · have HK3:Hid (bE K W W3):=HKS2.out.trans hk3;have HJ3:Hid (J (pre++[⟨(f,up),hft,hto⟩]) W3):=hJ3;clear hk3 hJ3;gi_wp2
         go_roundw
         case rel=>exact ⟨up,pre++[⟨(f,up),hft,hto⟩],hto,by first | rfl | go_num,HJ3.out,HK3.out,by simp;omega,HUS.out⟩
         case measure=>simp [intOf];omega
       · gi_wp2
         refine bodyPost_ret (results_none rfl _ _ _) rfl ?_;exact ⟨⟨_,rfl⟩,.inr ⟨_,trivial,hJx3⟩⟩
     · obtain ⟨g,hg⟩:∃g,up=g+1:=⟨up - 1,by omega⟩;have hfI:(up:Int)<(len:Int):=by omega
       have hfd:decide ((up:Int)<(len:Int))=true:=decide_eq_true hfI;have hfn:up<len:=by omega
       have hfe:decide (up<len)=true:=decide_eq_true hfn;have wf:IntKind.i64.wrap ((up:Int) - 1)=(g:Int):=by
        have e:(up:Int) - 1=(g:Int):=by omega
        rw [e,IntWalk.i64_left];unfold wrap64;omega
       have hf1L:(g:Int)<(len:Int):=by omega
       obtain ⟨s,q,d,t,m,hx,_,g0,g1,g2,g3,g4⟩:=(HLK.out wr HKS.out).ent (Below.refl _ wr) (by omega) up (by omega);obtain ⟨s',q',d',t',m',hy,_,e0,e1,e2,e3,e4⟩:=(HLK.out wr HKS.out).ent (Below.refl _ wr) (by omega) g (by omega);have HX:Hid (L[up]?=some (s,q,d,t,m)):=hx;have HY:Hid (L[g]?=some (s',q',d',t',m')):=hy;have HFG:Hid (up=g+1):=hg;clear hg hf0;have zb:b<wr.heap.size:=by omega
       have HMK:Hid (∀w',Bl wr w'→(w'.cell? ⟨B1,0,none⟩=some (sO b off len cap)∧w'.cell? ⟨b,off+up*5,none⟩=some (.string s)∧w'.cell? ⟨b,off+up*5+1,none⟩=some (iT q)∧w'.cell? ⟨b,off+up*5+2,none⟩=some (iT d)∧w'.cell? ⟨b,off+up*5+3,none⟩=some (.string t)∧w'.cell? ⟨b,off+up*5+4,none⟩=some (iT m)∧w'.cell? ⟨b,off+g*5,none⟩=some (.string s')∧w'.cell? ⟨b,off+g*5+1,none⟩=some (iT q')∧w'.cell? ⟨b,off+g*5+2,none⟩=some (iT d')∧w'.cell? ⟨b,off+g*5+3,none⟩=some (.string t')∧w'.cell? ⟨b,off+g*5+4,none⟩=some (iT m')∧b<w'.heap.size)):=fun w' kk=>⟨cell_later kk c1,cell_later kk g0,cell_later kk g1,cell_later kk g2,cell_later kk g3,cell_later kk g4,cell_later kk e0,cell_later kk e1,cell_later kk e2,cell_later kk e3,cell_later kk e4,Nat.lt_of_lt_of_le zb kk.size⟩
       clear hx hy g0 g1 g2 g3 g4 e0 e1 e2 e3 e4 c1;cases hap:b7 s q s' q' with
       | false =>
        gi_wp2_with fail
        refine wpIn_wide.2 ?_;refine eC HMK k0 fun aa=>?_
        refine aO 0 14 aa ?_;refine aI 14 fun K hK=>?_
        go_simp;refine (oV s t s' t' q d m q' d' m' _).mono ?_;rintro e w1 ⟨rfl,b1⟩;have k1:Bl wr w1:=k0.trans (b1.mono k0.size);go_wp2_with fail
        refine hK.out _ _ (HMK.out _ k1) (fun aa=>?_);clear hK K;(try go_frame);refine aO 15 2 aa ?_;refine dN ?_;clear HMK aa;have hK2:bE K wr w1:=bE.of k1 (fun k hk=>Nat.lt_of_lt_of_le (HKZ.out k hk) hsz);have HKS2:Hid (bE K W w1):=HKS.out.trans hK2;have HJ2:Hid (J pre w1):=HJ.out _ _ _ none HJR.out (dE k1) (fun r e=>by cases e);have wu:IntKind.i64.wrap ((up:Int)+1)=((up+1:Nat):Int):=by
         have e:((up+1:Nat):Int)=(up:Int)+1:=by omega
         rw [e,IntWalk.i64_left];unfold wrap64;omega
        clear hK2 k0 k1 b1 HKS HJR;gi_wp2
        go_roundw
        case rel =>
         have hfg:=HFG.out;exact ⟨up+1,by omega,by omega,by first | rfl | go_num,HJ2.out,HKS2.out,zT hft (x:=(s',q',d',t',m')) (by rw [show up - 1=g by omega];exact HY.out) HX.out HCH.out hap⟩
        case measure=>simp [intOf];omega
       | true =>
        gi_wp2_with fail
        refine wpIn_wide.2 ?_;refine eC HMK k0 fun aa=>?_
        refine aO 0 14 aa ?_;refine aI 14 fun K hK=>?_
        go_simp;refine (oV s t s' t' q d m q' d' m' _).mono ?_;rintro e w1 ⟨rfl,b1⟩;have k1:Bl wr w1:=k0.trans (b1.mono k0.size);go_wp2_with fail
        refine hK.out _ _ (HMK.out _ k1) (fun aa=>?_);clear hK K;(try go_frame);refine aO 15 2 aa ?_;refine dN ?_;clear HMK aa;have hK2:bE K wr w1:=bE.of k1 (fun k hk=>Nat.lt_of_lt_of_le (HKZ.out k hk) hsz);have HKS2:Hid (bE K W w1):=HKS.out.trans hK2;have HJ2:Hid (J pre w1):=HJ.out _ _ _ none HJR.out (dE k1) (fun r e=>by cases e);clear hK2 k0 k1 b1 HKS HJR HX HY hap hfd hfe;have c1:=HP1.out w1 HKS2.out;have hsz1:=HKS2.out.size;have HUS:Hid (x7 L up (pre++[⟨(f,up),hft,hto⟩])):=HPT.out.step HLEN.out hft hto HCH.out;have hff:(f:Int)≤(up:Int):=by omega
        have hfz:(0:Int)≤(f:Int):=by omega
        have htc:(up:Int)≤(cap:Int):=by omega
        have hci:¬cap - f=0:=by omega
        obtain ⟨fn,tmps,assign,body,hy,hR⟩:=hY pre ⟨(f,up),hft,hto⟩ w1 HJ2.out (by omega);simp only [zH] at hy;clear HCH HJ2;gi_wp2
        refine hR.mono ?_;rintro e W3 (⟨rfl,hJ3,hk3⟩ | ⟨rfl,hJx3⟩)
        · have HK3:Hid (bE K W W3):=HKS2.out.trans hk3;have HJ3:Hid (J (pre++[⟨(f,up),hft,hto⟩]) W3):=hJ3;clear hk3 hJ3;gi_wp2
          go_roundw
          case rel=>exact ⟨up,pre++[⟨(f,up),hft,hto⟩],hto,by first | rfl | go_num,HJ3.out,HK3.out,by simp;omega,HUS.out⟩
          case measure=>simp [intOf];omega
        · gi_wp2
          refine bodyPost_ret (results_none rfl _ _ _) rfl ?_;exact ⟨⟨_,rfl⟩,.inr ⟨_,trivial,hJx3⟩⟩
theorem pQ (n B1:Nat) (K:Nat→Prop) (hn:2≤n) (b off:Nat) (al:Option Addr) (len cap:Nat) (hal:1≤len→al=some ⟨b,off,none⟩) (L:List ac) (w:World)
 (hK1:K B1) (hKb:1≤len→K b) (hKs:∀k,K k→k<w.heap.size)
 (hp1:w.cell? ⟨B1,0,none⟩=some (.slice al len cap)) (hL:aj w al len cap L) (hlen:len≤1048576) :
 SeqStopsK Fence.wide n Tryz.prog 202 #[.pointer (pT B1)] (fun x:mw len=>zH b off cap x) (bE K) (fun ys=>AM L ys) (fun _=>True) len w :=
 fun l J Jx W hW hJ _ hY h0=>sa n l B1 K hn b off al len cap hal L J Jx W hY hJ hK1 hKb (fun k hk=>Nat.lt_of_lt_of_le (hKs k hk) hW.size) (cell_later hW hp1) (hL.keep hW) hlen h0
theorem nL (n:Nat) (al:Option Addr) (len cap:Nat) (w:World) :
 CallsIn Fence.wide n Tryz.prog 151 #[.slice al len cap] w fun e w'=>e=.returned (.func (.func 202) #[] #[.pointer (some ⟨w.heap.size,0,none⟩)])∧w'=w.alloc (.cells #[.slice al len cap] 28):=by
 refine callsIn_of_wp Tryz.func151 rfl trivial ?_ rfl;simp only [Tryz.ntmps151,List.size_toArray,List.length_cons,List.length_nil,Nat.reduceAdd,Nat.reduceSub,Array.replicate_succ,Array.replicate_zero,List.push_toArray,List.append_toArray,List.nil_append,List.cons_append];gi_wp2
 go_ret;exact ⟨rfl,rfl⟩
end
def JS (w:World) (BH:Nat) (Z:List (List ac)) (W:World):Prop:=∃v X H,iW W w.heap.size BH v X H∧Mg.HSt H Z∧Mg.HeapTo (Mg.lessS aP) H.length H∧H.length=Z.length
theorem JS.empty (hb:Boxed W BH 157 nZ) (hB:w.heap.size≤BH):JS w BH [] W:=⟨_,_,_,iW.empty hb hB,Mg.HSt.nil,fun _ _ hc=>absurd hc (Nat.not_lt_zero _),rfl⟩
theorem JS.own {B:Nat} {β:Type} (f:β→List (List ac)) (hB:w.heap.size≤B):OwnFrom B (fun (s:β) W=>JS w BH (f s) W):=fun s X Y row hs hg hr=>by
 obtain ⟨v,X,H,h1,h2,h3,h4⟩:=hs
 exact ⟨v,X,H,h1.own hB hg hr,h2,h3,h4⟩
theorem JS.below {W':World} (h:JS w BH Z W) (hb:Bl W W'):JS w BH Z W':=by
 obtain ⟨v,X,H,h1,h2,h3,h4⟩:=h;exact ⟨v,X,H,h1.below hb,h2,h3,h4⟩
theorem iW.form {v:Value} {X:List cQ} {H:List (List ac × Nat)} (h:iW w base BH v X H):∃av cv,v=.slice av H.length cv:=by
 rcases h.row.2 with ⟨hv,h0⟩ | ⟨g,cap,cur,hv,_⟩
 · exact ⟨none,0,by rw [hv,h0]⟩
 · exact ⟨_,_,hv⟩
theorem JS.push {W3:World} {H H3:List (List ac × Nat)} {v3:Value} {X3:List cQ} (hS:Mg.HSt H Z) (hL:H.length=Z.length) (hV3:iW W3 w.heap.size BH v3 X3 H3) (hP3:H3.Perm (H++[(e :: l,H.length)])) (hT3:Mg.HeapTo (Mg.lessS aP) H3.length H3):JS w BH (Z++[e :: l]) W3:=by
 refine ⟨v3,X3,H3,hV3,?_,hT3,?_⟩
 · rw [hL] at hP3;exact hS.push.perm hP3
 · rw [hP3.length_eq,List.length_append,List.length_append,hL];rfl
theorem oG (h:P[i]?=some L):(P.take (i+1)).flatten=(P.take i).flatten++L:=by
 rw [List.take_add_one,h];simp
theorem wQ (h:P[i]?=some L):(P.take i).flatten.length+L.length≤P.flatten.length:=by
 have h1:P.flatten=(P.take (i+1)).flatten++(P.drop (i+1)).flatten:=by rw [← List.flatten_append,List.take_append_drop]
 rw [h1,oG h,List.length_append,List.length_append];omega
theorem ru:∀{Z:List (List ac)},(∀l ∈ Z,l≠[]∧Mg.Asc aP l)→Z.length≤Z.flatten.length
 | [],_=>Nat.le_refl _
 | l :: Z,h=>by
  have h1:=(h l List.mem_cons_self).1
  have h2:=ru (Z:=Z) (fun x hx=>h x (List.mem_cons_of_mem _ hx))
  have h3:0<l.length:=List.length_pos_iff.2 h1
  rw [List.flatten_cons,List.length_append,List.length_cons]
  omega
theorem lp {r:List ac} (h:Z[k]?=some (m :: r)):(Z.set k r).flatten.length+1=Z.flatten.length:=by
 obtain ⟨hl,he⟩:=List.getElem?_eq_some_iff.1 h;have hZ:Z=Z.take k++(m :: r) :: Z.drop (k+1):=by
  conv=>lhs;rw [← List.take_append_drop k Z]
  rw [List.drop_eq_getElem_cons hl,he]
 obtain ⟨A,B,hA,hlen⟩:∃A B,Z=A++(m :: r) :: B∧A.length=k:=⟨_,_,hZ,by rw [List.length_take];omega⟩;have hset:Z.set k r=A++r :: B:=by
  rw [hA,List.set_append_right _ _ (by omega),hlen];simp
 rw [hset,hA];simp;omega
theorem cT.kept {X:List cQ} {H:List (List ac × Nat)} {row:Option Nat} (h:cT w base BH g n c X H) (hg:w.grownBy w' row) (h1:some BH≠row) (h2:some g≠row) (h3:∀x ∈ X,some x.1≠row):cT w' base BH g n c X H:=by
 have hbl:=World.block_lt_of_cell? _ _ h.box;refine ⟨?_,h.own.grown hg h2,h.len,fun k x s hx hs=>?_,h.ne⟩
 · rw [World.cell?_of_block (a:=⟨BH,0,none⟩) (hg.block BH hbl h1)];exact h.box
 · obtain ⟨l,r1,r2,r3,r4⟩:=h.rest k x s hx hs;refine ⟨l,r1,r2.grownB hg (fun y ey _=>?_),Nat.lt_of_lt_of_le r3 hg.size,r4⟩;cases ey;exact h3 x (List.mem_of_getElem? hx)
theorem cT.cut {xb xo xn xc no:Nat} {X:List cQ} {R:List (List ac × Nat)} (h:cT w base BH g n c ((xb,xo,xn,xc,xk) :: X) ((e :: l,xk) :: R)) (hE:aj w (some ⟨xb,no,none⟩) (xn - 1) (xc - 1) l) :
 cT (w.setCell ⟨g,0,none⟩ (sO xb no (xn - 1) (xc - 1))) base BH g n c ((xb,no,xn - 1,xc - 1,xk) :: X) ((l,xk) :: R):=by
 have hg:=e9 w g 0 (sO xb no (xn - 1) (xc - 1));have hO:fj (w.setCell ⟨g,0,none⟩ (sO xb no (xn - 1) (xc - 1))) base g n c ((xb,no,xn - 1,xc - 1,xk) :: X):=⟨(h.own.owns.stored 0 (sO xb no (xn - 1) (xc - 1))).1,h.own.len⟩;have hbl:=World.block_lt_of_cell? _ _ h.box;refine ⟨?_,hO,h.len,fun k x s hx hs=>?_,h.ne⟩
 · rw [World.cell?_of_block (a:=⟨BH,0,none⟩) (hg.block BH hbl (fun e=>h.ne (Option.some.inj e)))];exact h.box
 · match k,hx,hs with
   | 0,hx,hs =>
    simp at hx hs;subst hx;subst hs;obtain ⟨_,_,_,r3,r4⟩:=h.rest 0 _ _ rfl rfl;refine ⟨l,rfl,hE.grownB hg (fun y ey _=>?_),Nat.lt_of_lt_of_le r3 hg.size,r4⟩;cases ey;exact fun e'=>r4.1 (Option.some.inj e')
   | k+1,hx,hs =>
    obtain ⟨l',r1,r2,r3,r4⟩:=h.rest (k+1) x s (by simpa using hx) (by simpa using hs);refine ⟨l',r1,r2.grownB hg (fun y ey _=>?_),Nat.lt_of_lt_of_le r3 hg.size,r4⟩;cases ey;exact fun e'=>r4.1 (Option.some.inj e')
theorem aj.tail {b off len cap:Nat} (h:aj w (some ⟨b,off,none⟩) len cap (e :: l)):∃no,(if cap - 1=0 then no=off else no=off+5)∧aj w (some ⟨b,no,none⟩) (len - 1) (cap - 1) l:=by
 have hl:=h.length;have hr:=h.room;simp at hl;by_cases hc:cap - 1=0
 · refine ⟨off,by rw [if_pos hc],?_⟩;have hl0:l=[]:=List.length_eq_zero_iff.1 (by omega);subst hl0;have h1:len - 1=0:=by omega
   rw [h1,hc];exact ⟨rfl,Nat.le_refl _,Nat.zero_le _,(fun e h=>by cases h),(fun e=>by cases e),(fun x e hp=>absurd hp (Nat.lt_irrefl _)),(fun x e i hi=>by simp at hi)⟩
 · refine ⟨off+5,by rw [if_neg hc],?_⟩;have:=h.sub (i:=1) (j:=len) (by omega) (Nat.le_refl _);simp only [Nat.one_mul,List.drop_succ_cons,List.drop_zero] at this;rw [List.take_of_length_le (by omega)] at this;exact this
theorem xv {R:List (List ac × Nat)} (h:Mg.HeapTo (Mg.lessS aP) n (([m],k) :: R)) (hR:∀s ∈ R,s.1≠[]):Mg.HeapTo (Mg.lessS aP) n (([],k) :: R):=by
 intro c c0 hc u v hu hv;have hv':(([m],k) :: R)[c]?=some v:=by
  match c,c0,hv with
  | c+1,_,hv=>simpa using hv
 by_cases hp:(c - 1) / 2=0
 · rw [hp] at hu;simp at hu;subst hu;have hv2:v ∈ R:=by
    match c,c0,hv with
    | c+1,_,hv=>exact List.mem_of_getElem? (by simpa using hv)
   obtain ⟨b,r,hb⟩:=List.exists_cons_of_ne_nil (hR v hv2);obtain ⟨v1,v2⟩:=v;simp only at hb;subst hb;rfl
 · obtain ⟨p,hp'⟩:∃p,(c - 1) / 2=p+1:=⟨(c - 1) / 2 - 1,by omega⟩;refine h c c0 hc u v ?_ hv';rw [hp'] at hu ⊢;simpa using hu
structure pC (w:World) (BH:Nat) (P:List (List ac)) (ds:List Nat) (av:Value) (W:World) (out:List ac) (Z:List (List ac)) (H:List (List ac × Nat)):Prop where
 box:∃a c,W.cell? ⟨BH,0,none⟩=some (.slice a H.length c)
 fr:W.frozen? ⟨BH,0,none⟩=false
 hp:0<H.length→∃g c X,cT W w.heap.size BH g H.length c X H∧∀x ∈ X,x.1<w.heap.size
 hst:Mg.HSt H Z
 heap:Mg.HeapTo (Mg.lessS aP) H.length H
 mst:Mg.MSt aP P.flatten out Z
 row:W.ownsRow (BH+1) 50 5 av out.length (aE out)
 ents:∀e ∈ out,ec e
 len:out.length+Z.flatten.length=P.flatten.length
 few:H.length≤1048576
 mks:cW w.heap.size W ds
 bel:Bl w W
theorem pC.start {ds:List Nat} (hJ:JS w BH Z W) (hZ:Z.flatten=P.flatten) (hA:∀l ∈ Z,l≠[]∧Mg.Asc aP l) (hP:P.flatten.length≤1048576) (hmk:cW w.heap.size W ds) (hb:Bl w W):∃H,pC w BH P ds nZ W [] Z H:=by
 obtain ⟨v,X,H,hV,hS,hT,hL⟩:=hJ;obtain ⟨av,cv,hv⟩:=hV.form;refine ⟨H,⟨⟨av,cv,by rw [← hv];exact hV.box.cell⟩,hV.box.frozen,fun h0=>?_,hS,hT,?_,⟨rfl,.inl ⟨rfl,rfl⟩⟩,(fun e he=>by cases he),by rw [hZ];simp,?_,hmk,hb⟩⟩
 · rcases hV.row.2 with ⟨_,h1⟩ | ⟨g,cap,cur,hv',_⟩
   · omega
   · rw [hv'] at hV;exact ⟨g,cap,X,hV.hp rfl,hV.low⟩
 · rw [← hZ];exact Mg.MSt.start (fun l hl=>(hA l hl).2)
 · have:=ru hA;rw [hZ] at this;omega
theorem pC.first {ds:List Nat} {H:List (List ac × Nat)} (h:pC w BH P ds av W out Z H) (h0:0<H.length) :
 ∃g c X xb xo xn xc xk e l R,H=(e :: l,xk) :: R∧cT W w.heap.size BH g H.length c ((xb,xo,xn,xc,xk) :: X) H∧(∀x ∈ (xb,xo,xn,xc,xk) :: X,x.1<w.heap.size)∧aj W (some ⟨xb,xo,none⟩) xn xc (e :: l):=by
 obtain ⟨g,c,X,hS,hl⟩:=h.hp h0;have hXl:=hS.own.len;match H,X,h0,hS,hl,h with
 | [],_,h0,_,_,_=>exact absurd h0 (by simp)
 | s :: R,[],_,_,_,_=>simp at hXl
 | s :: R,(xb,xo,xn,xc,xk) :: X,_,hS,hl,h =>
  obtain ⟨l0,rfl,hE,_⟩:=hS.rest 0 _ _ rfl rfl;obtain ⟨e,l,rfl⟩:=List.exists_cons_of_ne_nil ((h.hst.live _ List.mem_cons_self).1);exact ⟨g,c,X,xb,xo,xn,xc,xk,e,l,R,rfl,hS,hl,hE⟩
theorem sQ (h:W.ownsRow base 50 5 av out.length (aE out)) (hw:∀e ∈ out,ec e):∃a c,av=.slice a out.length c∧aj W a out.length c out:=by
 rcases h.2 with ⟨rfl,h0⟩ | ⟨g,cap,cur,rfl,_⟩
 · have:out=[]:=List.length_eq_zero_iff.1 h0;subst this;exact ⟨none,0,rfl,⟨rfl,Nat.le_refl _,Nat.zero_le _,by simp,fun _=>rfl,(fun x e=>by cases e),(fun x e=>by cases e)⟩⟩
 · exact ⟨_,cap,rfl,ay.entsAt ⟨h,rfl,hw⟩⟩
theorem ay.cellsKept (h:ay w base g n c L) (hc:∀(k:Nat) (o:Obj),w.heap[k]?=some o→o.isCells=true→w'.heap[k]?=some o):ay w' base g n c L:=by
 refine ⟨⟨h.owns.1,?_⟩,h.len,h.ents⟩;rcases h.owns.2 with hn | ⟨g1,cap1,cur1,e1,hb1,hgb,rest⟩
 · exact .inl hn
 · exact .inr ⟨g1,cap1,cur1,e1,hb1,hc g1 _ hgb rfl,rest⟩
theorem rx (e:ac):aE [e]=b9 e:=by simp [aE]
theorem pC.next {w4:World} {ds:List Nat} {av':Value} {R H4:List (List ac × Nat)} {X4:List cQ} (h:pC w BH P ds av W out Z ((e :: l,xk) :: R)) (hS4:cT w4 w.heap.size BH g H4.length c X4 H4) (hH4:Mg.HSt H4 (Z.set xk l)) (hT4:Mg.HeapTo (Mg.lessS aP) H4.length H4)
 (hx4:∀x ∈ X4,x.1<w.heap.size) (hf4:w4.frozen? ⟨BH,0,none⟩=false) (hrow:w4.ownsRow (BH+1) 50 5 av' (out.length+1) (aE out++b9 e)) (hew:ec e) (hmk:cW w.heap.size w4 ds) (hbel:Bl w w4) (hfew:H4.length≤1048576):pC w BH P ds av' w4 (out++[e]) (Z.set xk l) H4:=by
 obtain ⟨h1,h2⟩:=h.hst.least dH h.heap;have h3:=lp h1;have h4:=h.len;refine ⟨⟨_,_,hS4.box⟩,hf4,fun _=>⟨g,c,X4,hS4,hx4⟩,hH4,hT4,h.mst.step dH h1 h2,?_,?_,?_,hfew,hmk,hbel⟩
 · rw [List.length_append,aU,rx];exact hrow
 · intro x hx;rcases List.mem_append.1 hx with h5 | h5
   · exact h.ents x h5
   · rw [List.mem_singleton] at h5;subst h5;exact hew
 · rw [List.length_append,List.length_singleton];omega
def yH:Value→Nat
 | .slice _ n _=>n
 | _=>0
end Go.Proofs.YtpobkmjicbobdaaGreat
