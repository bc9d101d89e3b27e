/- Walks. -/
import Derived.Test.YtpobkmjicbobdaaGreatBW33
namespace Go.Proofs.YtpobkmjicbobdaaGreat
set_option maxRecDepth 100000
set_option maxHeartbeats 40000000
open Go.RowKit Go.Shelf
variable {BH base c g i k n xk:Nat} {L l out:List ac} {P Z:List (List ac)} {W w w':World} {av:Value} {e m:ac}
section
attribute [local go_sem] Ic
def DR (b off cap:Nat) {n:Nat} (p:oZ n):Array Value:=#[Value.slice (some ⟨b,off+p.1.1*5,none⟩) (p.1.2 - p.1.1) (cap - p.1.1)]
theorem vo (n l B1:Nat) (K:Nat→Prop) (hn:2≤n) (b B:Nat) (al:Option Addr) (len D:Nat) (an:1≤len→al=some ⟨b,B,none⟩) (L:List ac) (J Jx:List (oZ len)→World→Prop) (W:World)
 (hY:∀u (x:oZ len) W1,J u W1→u.length<len→YieldAt Fence.wide (n - 1) Tryz.prog l (DR b B D x) W1 fun e W' =>
  (e=.returned (.bool true)∧J (u++[x]) W'∧bQ K W1 W')∨(e=.returned (.bool false)∧Jx (u++[x]) W'))
 (hJ:AbidesFrom W.heap.size J)
 (hK1:K B1) (hKb:1≤len→K b) (hKs:∀k,K k→k<W.heap.size)
 (hp1:W.cell? ⟨B1,0,none⟩=some (.slice al len D))
 (hL:ah W al len D L) (hlen:len≤1048576) (h0:J [] W) :
 CallsIn Fence.wide n Tryz.prog 202 #[.func (.yield l) #[] #[],.pointer (pT B1)] W fun e W'=>(∃v,e=.returned v) ∧
  ((∃ys,Fe L ys∧J ys W')∨(∃u:List (oZ len),True∧Jx u W')):=by
 have Y:Eq (L.length=len):=hL.length;have hroom:=hL.room;have hbig:=hL.big;unfold maxLen at hbig;have a7:=az hKs;have ar:Eq (∀w',bQ K W w'→ah w' al len D L):=fun w' k=>hL.keepS k (fun x e hp=>by rw [an (by omega)] at e;cases e;exact hKb (by omega))
 have HJ:=az hJ;have a3:Eq (∀w',bQ K W w'→w'.cell? ⟨B1,0,none⟩=some (.slice al len D)):=fun w' k=>(k.cell (p:=⟨B1,0,none⟩) hK1).trans hp1
 have aT:Eq (1≤len→b<W.heap.size):=fun h=>hKs b (hKb h)
 have bc:1≤n:=by omega
 have b7:=hKs B1 hK1;clear hL hKs hJ hKb hp1;refine callsIn_of_wp Tryz.func202 rfl trivial ?_ rfl;simp only [Tryz.ntmps202,Ir,Hn,Io,Nat.reduceAdd,Nat.reduceSub,IA,IB,IM,IE,Ho,Ht];gi_wp2
 gi_loopw [3] (fun tv wr=>∃(f:Nat) (u:List (oZ len)),f≤len∧tv=iT (f:Nat)∧J u wr∧bQ K W wr∧u.length≤f∧BV L f u) (fun tv _=>len - (intOf tv).toNat)
 case atStart=>exact ⟨0,[],by omega,rfl,h0,bQ.refl _ _,by simp,BV.zero L⟩
 case round =>
  obtain ⟨f,u,hf,rfl,X,hb,bh,ap⟩:=hrel;have aq:Eq (bQ K W wr):=hb;have a5:Eq (BV L f u):=ap;have a8:Eq (J u wr):=X;have c0:=a3.o wr hb;have b2:=hb.size;clear hb ap X;by_cases aw:f=len
  · have aI:Eq (Fe L u):=by
     have:=a5.o;rw [aw] at this;exact this.done Y.o
    have ae:¬(f:Int)<(len:Int):=by omega
    clear aw;gi_wp2
    go_end0;exact ⟨⟨_,rfl⟩,.inl ⟨u,aI.o,a8.o⟩⟩
  · have bg:(f:Int)<(len:Int):=by omega
    have bf:f<len:=by omega
    obtain rfl:=an (by omega);have wt:IntKind.i64.wrap ((f:Int)+1)=((f+1:Nat):Int):=by
     have e:((f+1:Nat):Int)=(f:Int)+1:=by omega
     rw [e,G4];unfold wrap64;omega
    have bk:=aT.o (by omega);gi_wp2
    clear c0;gi_loopw [4] (fun fv wq=>∃y:Nat,f<y∧y≤len∧fv=iT (y:Nat)∧J u wq∧bQ K W wq∧Mg.Asc aU ((L.drop f).take (y - f))) (fun fv _=>len - (intOf fv).toNat)
    case atStart=>exact ⟨f+1,by omega,by omega,by first | rfl | go_num,a8.o,aq.o,E6 L f⟩
    case round =>
     clear aq a8 wt;obtain ⟨y,E,C,rfl,X,ay,ax⟩:=hrel;have F:Eq (bQ K W wr):=ay;have R:Eq (J u wr):=X;have U:Eq (Mg.Asc aU ((L.drop f).take (y - f))):=ax;clear ay X ax;have hsz:=F.o.size;have T:Bl wr wr.drew:=(Below.refl _ wr).drew;have c1:=a3.o wr F.o;by_cases ad:y=len
     · have ae:¬(y:Int)<(len:Int):=by omega
       have aW:decide ((y:Int)<(len:Int))=false:=decide_eq_false ae;have aC:¬y<len:=by omega
       have aD:decide (y<len)=false:=decide_eq_false aC;have be:Eq (y=len):=ad;clear ad;have H:Eq (∀w',Bl wr w'→(w'.cell? ⟨B1,0,none⟩=some (sO b B len D))):=fun w' O=>cell_later O c1
       gi_wp2_with fail
       refine wpIn_wide.2 ?_;refine eJ H T fun Q=>?_
       refine aR 0 14 Q ?_;refine aV 14 fun K hK=>?_
       go_simp;refine hK.o _ _ (H.o _ T) (fun Q=>?_);clear hK K;(try go_frame);refine aR 15 2 Q ?_;refine dN ?_;clear H Q;have N:bQ K wr wr.drew:=bQ.of T (fun k hk=>E' (a7.o k hk) hsz);have A:Eq (bQ K W wr.drew):=F.o.trans N;have I:Eq (J u wr.drew):=HJ.o _ _ _ none R.o (d4 T) (fun r e=>by cases e);obtain ⟨w1,am⟩:=aG wr.drew;rw [← am] at A I ⊢;clear N T am c1 F R ae aW aC aD;have c1:=a3.o w1 A.o;have ao:=A.o.size;have a6:Eq (BV L y (u++[⟨(f,y),E,C⟩])):=a5.o.step Y.o E C U.o;have aK:(f:Int)≤(y:Int):=by omega
       have aM:(0:Int)≤(f:Int):=by omega
       have aH:(y:Int)≤(D:Int):=by omega
       have aJ:¬D - f=0:=by omega
       obtain ⟨fn,tmps,assign,body,hy,hR⟩:=hY u ⟨(f,y),E,C⟩ w1 I.o (by omega);simp only [DR] at hy;clear U I;gi_wp2
       refine hR.mono ?_;rintro e W3 (⟨rfl,a2,a1⟩ | ⟨rfl,a0⟩)
       · have a9:Eq (bQ K W W3):=A.o.trans a1;have ab:Eq (J (u++[⟨(f,y),E,C⟩]) W3):=a2;clear a1 a2;gi_wp2
         go_roundw
         case rel=>exact ⟨y,u++[⟨(f,y),E,C⟩],C,by first | rfl | go_num,ab.o,a9.o,by simp;omega,a6.o⟩
         case measure=>simp [intOf];omega
       · gi_wp2
         refine bodyPost_ret (results_none rfl _ _ _) rfl ?_;exact ⟨⟨_,rfl⟩,.inr ⟨_,trivial,a0⟩⟩
     · obtain ⟨g,hg⟩:∃g,y=g+1:=⟨y - 1,by omega⟩;have aL:(y:Int)<(len:Int):=by omega
       have aF:decide ((y:Int)<(len:Int))=true:=decide_eq_true aL;have aN:y<len:=by omega
       have aX:decide (y<len)=true:=decide_eq_true aN;have wf:IntKind.i64.wrap ((y:Int) - 1)=(g:Int):=by
        have e:(y:Int) - 1=(g:Int):=by omega
        rw [e,G4];unfold wrap64;omega
       have b0:(g:Int)<(len:Int):=by omega
       obtain ⟨s,q,d,t,m,hx,_,g0,g1,g2,g3,g4⟩:=(ar.o wr F.o).ent (Below.refl _ wr) (by omega) y (by omega);obtain ⟨s',q',d',t',m',hy,_,e0,e1,e2,e3,e4⟩:=(ar.o wr F.o).ent (Below.refl _ wr) (by omega) g (by omega);have HX:Eq (L[y]?=some (s,q,d,t,m)):=hx;have HY:Eq (L[g]?=some (s',q',d',t',m')):=hy;have aQ:Eq (y=g+1):=hg;clear hg ad;have zb:b<wr.heap.size:=by omega
       have H:Eq (∀w',Bl wr w'→(w'.cell? ⟨B1,0,none⟩=some (sO b B len D)∧w'.cell? ⟨b,B+y*5,none⟩=some (.string s)∧w'.cell? ⟨b,B+y*5+1,none⟩=some (iT q)∧w'.cell? ⟨b,B+y*5+2,none⟩=some (iT d)∧w'.cell? ⟨b,B+y*5+3,none⟩=some (.string t)∧w'.cell? ⟨b,B+y*5+4,none⟩=some (iT m)∧w'.cell? ⟨b,B+g*5,none⟩=some (.string s')∧w'.cell? ⟨b,B+g*5+1,none⟩=some (iT q')∧w'.cell? ⟨b,B+g*5+2,none⟩=some (iT d')∧w'.cell? ⟨b,B+g*5+3,none⟩=some (.string t')∧w'.cell? ⟨b,B+g*5+4,none⟩=some (iT m')∧b<w'.heap.size)):=fun w' O=>⟨cell_later O c1,cell_later O g0,cell_later O g1,cell_later O g2,cell_later O g3,cell_later O g4,cell_later O e0,cell_later O e1,cell_later O e2,cell_later O e3,cell_later O e4,E' zb O.size⟩
       clear hx hy g0 g1 g2 g3 g4 e0 e1 e2 e3 e4 c1;cases hap:bI s q s' q' with
       | false =>
        gi_wp2_with fail
        refine wpIn_wide.2 ?_;refine eJ H T fun Q=>?_
        refine aR 0 14 Q ?_;refine aV 14 fun K hK=>?_
        go_simp;refine (qW s t s' t' q d m q' d' m' _).mono ?_;rintro e w1 ⟨rfl,b1⟩;have k1:Bl wr w1:=T.trans (b1.mono T.size);go_wp2_with fail
        refine hK.o _ _ (H.o _ k1) (fun Q=>?_);clear hK K;(try go_frame);refine aR 15 2 Q ?_;refine dN ?_;clear H Q;have N:bQ K wr w1:=bQ.of k1 (fun k hk=>E' (a7.o k hk) hsz);have A:Eq (bQ K W w1):=F.o.trans N;have I:Eq (J u w1):=HJ.o _ _ _ none R.o (d4 k1) (fun r e=>by cases e);have wu:IntKind.i64.wrap ((y:Int)+1)=((y+1:Nat):Int):=by
         have e:((y+1:Nat):Int)=(y:Int)+1:=by omega
         rw [e,G4];unfold wrap64;omega
        clear N T k1 b1 F R;gi_wp2
        go_roundw
        case rel =>
         have bd:=aQ.o;exact ⟨y+1,by omega,by omega,by first | rfl | go_num,I.o,A.o,D8 E (x:=(s',q',d',t',m')) (by rw [show y - 1=g by omega];exact HY.o) HX.o U.o hap⟩
        case measure=>simp [intOf];omega
       | true =>
        gi_wp2_with fail
        refine wpIn_wide.2 ?_;refine eJ H T fun Q=>?_
        refine aR 0 14 Q ?_;refine aV 14 fun K hK=>?_
        go_simp;refine (qW s t s' t' q d m q' d' m' _).mono ?_;rintro e w1 ⟨rfl,b1⟩;have k1:Bl wr w1:=T.trans (b1.mono T.size);go_wp2_with fail
        refine hK.o _ _ (H.o _ k1) (fun Q=>?_);clear hK K;(try go_frame);refine aR 15 2 Q ?_;refine dN ?_;clear H Q;have N:bQ K wr w1:=bQ.of k1 (fun k hk=>E' (a7.o k hk) hsz);have A:Eq (bQ K W w1):=F.o.trans N;have I:Eq (J u w1):=HJ.o _ _ _ none R.o (d4 k1) (fun r e=>by cases e);clear N T k1 b1 F R HX HY hap aF aX;have c1:=a3.o w1 A.o;have ao:=A.o.size;have a6:Eq (BV L y (u++[⟨(f,y),E,C⟩])):=a5.o.step Y.o E C U.o;have aK:(f:Int)≤(y:Int):=by omega
        have aM:(0:Int)≤(f:Int):=by omega
        have aH:(y:Int)≤(D:Int):=by omega
        have aJ:¬D - f=0:=by omega
        obtain ⟨fn,tmps,assign,body,hy,hR⟩:=hY u ⟨(f,y),E,C⟩ w1 I.o (by omega);simp only [DR] at hy;clear U I;gi_wp2
        refine hR.mono ?_;rintro e W3 (⟨rfl,a2,a1⟩ | ⟨rfl,a0⟩)
        · have a9:Eq (bQ K W W3):=A.o.trans a1;have ab:Eq (J (u++[⟨(f,y),E,C⟩]) W3):=a2;clear a1 a2;gi_wp2
          go_roundw
          case rel=>exact ⟨y,u++[⟨(f,y),E,C⟩],C,by first | rfl | go_num,ab.o,a9.o,by simp;omega,a6.o⟩
          case measure=>simp [intOf];omega
        · gi_wp2
          refine bodyPost_ret (results_none rfl _ _ _) rfl ?_;exact ⟨⟨_,rfl⟩,.inr ⟨_,trivial,a0⟩⟩
theorem sH (n r:Nat) (K:Nat→Prop) (hn:2≤n) (b f:Nat) (o:Option Addr) (len d:Nat) (t:1≤len→o=some ⟨b,f,none⟩) (L:List ac) (w:World)
 (hK1:K r) (hKb:1≤len→K b) (hKs:∀k,K k→k<w.heap.size)
 (hp1:w.cell? ⟨r,0,none⟩=some (.slice o len d)) (hL:ah w o len d L) (hlen:len≤1048576) :
 SeqStopsK Fence.wide n Tryz.prog 202 #[.pointer (pT r)] (fun x:oZ len=>DR b f d x) (bQ K) (fun y=>Fe L y) (fun _=>True) len w :=
 fun l J u W s hJ _ hY h0=>vo n l r K hn b f o len d t L J u W hY hJ hK1 hKb (fun k hk=>E' (hKs k hk) s.size) (cell_later s hp1) (hL.keep s) hlen h0
theorem p8 (n:Nat) (d:Option Addr) (len b:Nat) (w:World) :
 CallsIn Fence.wide n Tryz.prog 151 #[.slice d len b] w fun e w'=>e=.returned (.func (.func 202) #[] #[.pointer (some ⟨w.heap.size,0,none⟩)])∧w'=w.alloc (.cells #[.slice d len b] 28):=by
 refine callsIn_of_wp Tryz.func151 rfl trivial ?_ rfl;simp only [Tryz.ntmps151,Ir,Hn,Io,Nat.reduceAdd,Nat.reduceSub,IA,IB,IM,IE,Ho,Ht];gi_wp2
 go_ret;exact ⟨rfl,rfl⟩
end
def JS (w:World) (BH:Nat) (Z:List (List ac)) (W:World):Prop:=∃v X H,lh W w.heap.size BH v X H∧Mg.HSt H Z∧Mg.HeapTo (Mg.lessS aU) H.length H∧H.length=Z.length
theorem JS.empty (hb:Boxed W BH 157 nZ) (hB:w.heap.size≤BH):JS w BH [] W:=⟨_,_,_,lh.empty hb hB,Mg.HSt.nil,fun _ _ hc=>absurd hc (H7 _),rfl⟩
theorem JS.own {B:Nat} {β:Type} (f:β→List (List ac)) (hB:w.heap.size≤B):OwnFrom B (fun (s:β) W=>JS w BH (f s) W):=fun s X Y row hs hg hr=>by
 obtain ⟨v,X,H,h1,h2,h3,h4⟩:=hs
 exact ⟨v,X,H,h1.own hB hg hr,h2,h3,h4⟩
theorem JS.below {W':World} (h:JS w BH Z W) (hb:Bl W W'):JS w BH Z W':=by
 obtain ⟨v,X,H,h1,h2,h3,h4⟩:=h;exact ⟨v,X,H,h1.below hb,h2,h3,h4⟩
theorem lh.form {v:Value} {X:List df} {H:List (List ac × Nat)} (h:lh w base BH v X H):∃av cv,v=.slice av H.length cv:=by
 rcases h.row.2 with ⟨hv,h0⟩ | ⟨g,d,b,hv,_⟩
 · exact ⟨none,0,by rw [hv,h0]⟩
 · exact ⟨_,_,hv⟩
theorem JS.push {r:World} {H d:List (List ac × Nat)} {v3:Value} {s:List df} (hS:Mg.HSt H Z) (hL:H.length=Z.length) (f:lh r w.heap.size BH v3 s d) (b:d.Perm (H++[(e :: l,H.length)])) (o:Mg.HeapTo (Mg.lessS aU) d.length d):JS w BH (Z++[e :: l]) r:=by
 refine ⟨v3,s,d,f,?_,o,?_⟩
 · rw [hL] at b;exact hS.push.perm b
 · rw [b.length_eq,GO,GO,hL];rfl
theorem qO (h:P[i]?=some L):(P.take (i+1)).flatten=(P.take i).flatten++L:=by
 rw [Hc,h];simp
theorem AK (h:P[i]?=some L):(P.take i).flatten.length+L.length≤P.flatten.length:=by
 have h1:P.flatten=(P.take (i+1)).flatten++(P.drop (i+1)).flatten:=by rw [← IJ,Hh]
 rw [h1,qO h,GO,GO];omega
theorem uG:∀{Z:List (List ac)},(∀l ∈ Z,l≠[]∧Mg.Asc aU l)→Z.length≤Z.flatten.length
 | [],_=>GL _
 | l :: Z,h=>by
  have h1:=(h l Ha).1
  have h2:=uG (Z:=Z) (fun x hx=>h x (He _ hx))
  have h3:=List.length_pos_iff.2 h1
  rw [Ip,GO,Hn]
  omega
theorem nu {r:List ac} (h:Z[k]?=some (m :: r)):(Z.set k r).flatten.length+1=Z.flatten.length:=by
 obtain ⟨hl,d⟩:=F'.1 h;have f:Z=Z.take k++(m :: r) :: Z.drop (k+1):=by
  conv=>lhs;rw [← Hh k Z]
  rw [Ie hl,d]
 obtain ⟨A,B,hA,hlen⟩:∃A B,Z=A++(m :: r) :: B∧A.length=k:=⟨_,_,f,by rw [GS];omega⟩;have b:Z.set k r=A++r :: B:=by
  rw [hA,Iq _ _ (by omega),hlen];simp
 rw [b,hA];simp;omega
theorem dF.kept {X:List df} {H:List (List ac × Nat)} {row:Option Nat} (h:dF w base BH g n c X H) (hg:w.grownBy w' row) (h1:some BH≠row) (h2:some g≠row) (h3:∀x ∈ X,some x.1≠row):dF w' base BH g n c X H:=by
 have b:=GK _ _ h.box;refine ⟨?_,h.own.grown hg h2,h.len,fun k x s hx hs=>?_,h.ne⟩
 · rw [Hz (a:=⟨BH,0,none⟩) (hg.block BH b h1)];exact h.box
 · obtain ⟨l,d,r2,r3,r4⟩:=h.rest k x s hx hs;refine ⟨l,d,r2.grownB hg (fun y f _=>?_),E' r3 hg.size,r4⟩;cases f;exact h3 x (GP hx)
theorem dF.cut {d B b f no:Nat} {X:List df} {R:List (List ac × Nat)} (h:dF w base BH g n c ((d,B,b,f,xk) :: X) ((e :: l,xk) :: R)) (hE:ah w (some ⟨d,no,none⟩) (b - 1) (f - 1) l) :
 dF (w.setCell ⟨g,0,none⟩ (sO d no (b - 1) (f - 1))) base BH g n c ((d,no,b - 1,f - 1,xk) :: X) ((l,xk) :: R):=by
 have hg:=fO w g 0 (sO d no (b - 1) (f - 1));have hO:ib (w.setCell ⟨g,0,none⟩ (sO d no (b - 1) (f - 1))) base g n c ((d,no,b - 1,f - 1,xk) :: X):=⟨(h.own.owns.stored 0 (sO d no (b - 1) (f - 1))).1,h.own.len⟩;have o:=GK _ _ h.box;refine ⟨?_,hO,h.len,fun k x s hx hs=>?_,h.ne⟩
 · rw [Hz (a:=⟨BH,0,none⟩) (hg.block BH o (fun e=>h.ne (GN e)))];exact h.box
 · match k,hx,hs with
   | 0,hx,hs =>
    simp at hx hs;subst hx;subst hs;obtain ⟨_,_,_,r3,r4⟩:=h.rest 0 _ _ rfl rfl;refine ⟨l,rfl,hE.grownB hg (fun y r _=>?_),E' r3 hg.size,r4⟩;cases r;exact fun t=>r4.1 (GN t)
   | k+1,hx,hs =>
    obtain ⟨A,u,r2,r3,r4⟩:=h.rest (k+1) x s (by simpa using hx) (by simpa using hs);refine ⟨A,u,r2.grownB hg (fun y r _=>?_),E' r3 hg.size,r4⟩;cases r;exact fun t=>r4.1 (GN t)
theorem ah.tail {b d len f:Nat} (h:ah w (some ⟨b,d,none⟩) len f (e :: l)):∃no,(if f - 1=0 then no=d else no=d+5)∧ah w (some ⟨b,no,none⟩) (len - 1) (f - 1) l:=by
 have hl:=h.length;have hr:=h.room;simp at hl;by_cases hc:f - 1=0
 · refine ⟨d,by rw [if_pos hc],?_⟩;have o:l=[]:=Hy.1 (by omega);subst o;have h1:len - 1=0:=by omega
   rw [h1,hc];exact ⟨rfl,GL _,GQ _,(fun e h=>by cases h),(fun e=>by cases e),(fun x e hp=>absurd hp (Jq _)),(fun x e i hi=>by simp at hi)⟩
 · refine ⟨d+5,by rw [if_neg hc],?_⟩;have:=h.sub (i:=1) (j:=len) (by omega) (GL _);simp only [Nat.one_mul,List.drop_succ_cons,List.drop_zero] at this;rw [GV (by omega)] at this;exact this
theorem A9 {R:List (List ac × Nat)} (h:Mg.HeapTo (Mg.lessS aU) n (([m],k) :: R)) (hR:∀s ∈ R,s.1≠[]):Mg.HeapTo (Mg.lessS aU) n (([],k) :: R):=by
 intro c c0 hc u v d hv;have f:(([m],k) :: R)[c]?=some v:=by
  match c,c0,hv with
  | c+1,_,hv=>simpa using hv
 by_cases hp:(c - 1) / 2=0
 · rw [hp] at d;simp at d;subst d;have hv2:v ∈ R:=by
    match c,c0,hv with
    | c+1,_,hv=>exact GP (by simpa using hv)
   obtain ⟨b,r,hb⟩:=I4 (hR v hv2);obtain ⟨x,t⟩:=v;simp only at hb;subst hb;rfl
 · obtain ⟨p,o⟩:∃p,(c - 1) / 2=p+1:=⟨(c - 1) / 2 - 1,by omega⟩;refine h c c0 hc u v ?_ f;rw [o] at d ⊢;simpa using d
structure sm (w:World) (BH:Nat) (P:List (List ac)) (ds:List Nat) (av:Value) (W:World) (out:List ac) (Z:List (List ac)) (H:List (List ac × Nat)):Prop where
 box:∃a c,W.cell? ⟨BH,0,none⟩=some (.slice a H.length c)
 fr:W.frozen? ⟨BH,0,none⟩=false
 hp:0<H.length→∃g c X,dF W w.heap.size BH g H.length c X H∧∀x ∈ X,x.1<w.heap.size
 hst:Mg.HSt H Z
 heap:Mg.HeapTo (Mg.lessS aU) H.length H
 mst:Mg.MSt aU P.flatten out Z
 row:W.ownsRow (BH+1) 50 5 av out.length (aF out)
 ents:∀e ∈ out,d9 e
 len:out.length+Z.flatten.length=P.flatten.length
 few:H.length≤1048576
 mks:dS w.heap.size W ds
 bel:Bl w W
theorem sm.start {o:List Nat} (hJ:JS w BH Z W) (b:Z.flatten=P.flatten) (hA:∀l ∈ Z,l≠[]∧Mg.Asc aU l) (x:P.flatten.length≤1048576) (hmk:dS w.heap.size W o) (hb:Bl w W):∃H,sm w BH P o nZ W [] Z H:=by
 obtain ⟨v,X,H,hV,hS,u,hL⟩:=hJ;obtain ⟨av,s,hv⟩:=hV.form;refine ⟨H,⟨⟨av,s,by rw [← hv];exact hV.box.cell⟩,hV.box.frozen,fun h0=>?_,hS,u,?_,⟨rfl,.inl ⟨rfl,rfl⟩⟩,(fun e t=>by cases t),by rw [b];simp,?_,hmk,hb⟩⟩
 · rcases hV.row.2 with ⟨_,h1⟩ | ⟨g,f,r,d,_⟩
   · omega
   · rw [d] at hV;exact ⟨g,f,X,hV.hp rfl,hV.low⟩
 · rw [← b];exact Mg.MSt.start (fun l hl=>(hA l hl).2)
 · have:=uG hA;rw [b] at this;omega
theorem sm.first {t:List Nat} {H:List (List ac × Nat)} (h:sm w BH P t av W out Z H) (h0:0<H.length) :
 ∃g c X b f d o xk e l R,H=(e :: l,xk) :: R∧dF W w.heap.size BH g H.length c ((b,f,d,o,xk) :: X) H∧(∀x ∈ (b,f,d,o,xk) :: X,x.1<w.heap.size)∧ah W (some ⟨b,f,none⟩) d o (e :: l):=by
 obtain ⟨g,c,X,hS,hl⟩:=h.hp h0;have r:=hS.own.len;match H,X,h0,hS,hl,h with
 | [],_,h0,_,_,_=>exact absurd h0 (by simp)
 | s :: R,[],_,_,_,_=>simp at r
 | s :: R,(b,f,d,o,xk) :: X,_,hS,hl,h =>
  obtain ⟨l0,rfl,hE,_⟩:=hS.rest 0 _ _ rfl rfl;obtain ⟨e,l,rfl⟩:=I4 ((h.hst.live _ Ha).1);exact ⟨g,c,X,b,f,d,o,xk,e,l,R,rfl,hS,hl,hE⟩
theorem vJ (h:W.ownsRow base 50 5 av out.length (aF out)) (hw:∀e ∈ out,d9 e):∃a c,av=.slice a out.length c∧ah W a out.length c out:=by
 rcases h.2 with ⟨rfl,h0⟩ | ⟨g,b,d,rfl,_⟩
 · have:out=[]:=Hy.1 h0;subst this;exact ⟨none,0,rfl,⟨rfl,GL _,GQ _,by simp,fun _=>rfl,(fun x e=>by cases e),(fun x e=>by cases e)⟩⟩
 · exact ⟨_,b,rfl,ag.entsAt ⟨h,rfl,hw⟩⟩
theorem ag.cellsKept (h:ag w base g n c L) (hc:∀(k:Nat) (o:Obj),w.heap[k]?=some o→o.isCells=true→w'.heap[k]?=some o):ag w' base g n c L:=by
 refine ⟨⟨h.owns.1,?_⟩,h.len,h.ents⟩;rcases h.owns.2 with hn | ⟨s,d,b,e1,r,f,rest⟩
 · exact .inl hn
 · exact .inr ⟨s,d,b,e1,r,hc s _ f rfl,rest⟩
theorem uI (e:ac):aF [e]=bi e:=by simp [aF]
theorem sm.next {d:World} {t:List Nat} {o:Value} {R b:List (List ac × Nat)} {X4:List df} (h:sm w BH P t av W out Z ((e :: l,xk) :: R)) (f:dF d w.heap.size BH g b.length c X4 b) (s:Mg.HSt b (Z.set xk l)) (r:Mg.HeapTo (Mg.lessS aU) b.length b)
 (hx4:∀x ∈ X4,x.1<w.heap.size) (hf4:d.frozen? ⟨BH,0,none⟩=false) (hrow:d.ownsRow (BH+1) 50 5 o (out.length+1) (aF out++bi e)) (hew:d9 e) (hmk:dS w.heap.size d t) (hbel:Bl w d) (hfew:b.length≤1048576):sm w BH P t o d (out++[e]) (Z.set xk l) b:=by
 obtain ⟨h1,h2⟩:=h.hst.least d5 h.heap;have h3:=nu h1;have h4:=h.len;refine ⟨⟨_,_,f.box⟩,hf4,fun _=>⟨g,c,X4,f,hx4⟩,s,r,h.mst.step d5 h1 h2,?_,?_,?_,hfew,hmk,hbel⟩
 · rw [GO,bC,uI];exact hrow
 · intro x hx;rcases GX.1 hx with h5 | h5
   · exact h.ents x h5
   · rw [G5] at h5;subst h5;exact hew
 · rw [GO,List.length_singleton];omega
def Cv:Value→Nat
 | .slice _ n _=>n
 | _=>0
section
attribute [local go_sem] Ic
theorem yd {F:Fence} {n:Nat} {P:Program} {x:Code} {Q:Exit→Act→World→Prop} {a:Act} {w:World} (M:Act→World→Prop) (h1:x.wpIn F n P (Exit.then M (fun _ _ _=>False)) a w) (h2:∀b w',M b w'→Q .normal b w'):x.wpIn F n P Q a w :=
 wpIn_mono h1 (fun e a w h=>by
  cases e with
  | normal=>exact h2 _ _ h
  | _=>exact False.elim h)
def Ej (w:World) (P:List (List ac)) (e:Ending) (w':World):Prop:=(∃g,e=.returned (sL g P.flatten.length P.flatten.length)∧ag w' w.heap.size g P.flatten.length P.flatten.length (aS P.flatten))∧Bl w w'
theorem tI (a:Option Addr) (n c:Nat) (P:List (List ac)) (w:World) (hP:cZ w a n c P) (hn:n≤1048576) (aP:P.flatten.length≤1048576) (bn:∀e ∈ P.flatten,e.1.size≤281474976710656∧e.2.2.2.1.size≤281474976710656) :
 CallsIn Fence.wide 6 Tryz.prog 93 #[.slice a n c] w (Ej w P):=by
 have HP:=az hP;have dj:=az bn;have aj:=az aP;have hroom:=hP.room;have cl:Eq (P.length=n):=hP.length;clear hP bn aP;obtain ⟨i0,hi,dn,dE,db⟩:=info_parts Tryz.infoEnt;refine callsIn_of_wp_marks Tryz.func93 rfl trivial ?_ rfl;simp only [Tryz.ntmps93,Ir,Hn,Io,Nat.reduceAdd,Nat.reduceSub,IA,IB,IM,IE,Ho,Ht];gi_wp2
 obtain ⟨W0,aB⟩:=aG (w.alloc (.cells #[nZ] 157));have cw:Bl w W0:=by rw [aB];exact (Below.refl _ w).alloc (GL _) _
 have aQ:Boxed W0 w.heap.size 157 nZ:=by rw [aB];exact Boxed.new w _ _
 rw [← aB];clear aB;refine wpIn_loop (fun a' W=>∃(i:Nat) (E:List Nat) (Z:List (List ac)) (u5 u11 u12 u13 u14 u15 u24:Value),a'={ tmps:=#[.slice a n c,undef,nZ,.pointer (some ⟨w.heap.size,0,none⟩),undef,u5,undef,undef,.slice a n c,iT (n:Nat),iT (i:Nat),u11,u12,u13,u14,u15,undef,undef,undef,undef,undef,undef,undef,undef,u24,undef,undef,undef,undef,undef,undef,undef,undef,undef,undef,undef,undef,undef,undef,undef,undef,undef,undef,undef,undef,undef,undef,undef,undef,undef,undef,undef,undef,undef,undef,undef,undef],defers:=pL E } ∧
  i≤n∧JS w w.heap.size Z W∧Z.flatten=(P.take i).flatten∧(∀l ∈ Z,l≠[]∧Mg.Asc aU l)∧dS w.heap.size W E∧Bl w W∧w.heap.size<W.heap.size) (fun a' _=>n - (intOf (a'.tmps.getD 10 undef)).toNat) ?_ ?_
 · exact ⟨0,[],[],undef,undef,undef,undef,undef,undef,undef,rfl,by omega,JS.empty aQ (GL _),by simp,(fun l hl=>by cases hl),⟨List.nodup_nil,fun D hD=>by cases hD⟩,cw,aQ.lt⟩
 rintro a' W ⟨i,E,Z,u5,u11,u12,u13,u14,u15,u24,rfl,dH,hJ,hZ,bK,hmk,hB,cG⟩;clear cw aQ;have HJ:Eq (JS w w.heap.size Z W):=hJ;have HZ:Eq (Z.flatten=(P.take i).flatten):=hZ;have aJ:Eq (∀l ∈ Z,l≠[]∧Mg.Asc aU l):=bK;have a3:Eq (dS w.heap.size W E):=hmk;have HB:Eq (Bl w W):=hB;have bt:=hB.size;clear hJ hZ bK hmk hB;by_cases ay:i<n
 · have dT:(i:Int)<(n:Int):=by omega
   have wi:IntKind.i64.wrap ((i:Int)+1)=((i+1:Nat):Int):=by rw [G4];unfold wrap64;omega
   obtain ⟨ba,oa,rfl,ef⟩:=HP.o.form (by omega);obtain ⟨L,al,len,d,aD,cL,hE⟩:=HP.o.list HB.o i ay;obtain ⟨_,_,_,_,_,d2⟩:=HP.o.list (Below.refl _ w) i ay;have aH:ah w al len d L:=by
    obtain ⟨L',em,dV,dM,h1,h2,h3⟩:=HP.o.list (Below.refl _ w) i ay;rw [aD] at h1;cases h1;rw [cell_later HB.o h2] at cL;cases cL;exact h3
   have dy:Eq (P[i]?=some L):=aD;have HE:Eq (ah w al len d L):=aH;have dD:L.length=len:=aH.length;have e7:=aH.room;have bq:=AK aD;have du:len≤1048576:=by have:=aj.o;omega
   have bC:=uG aJ.o;rw [HZ.o] at bC;have dm:Eq (Z.length+len≤1048576):=by have h1:=aj.o;show _≤_;omega
   clear hE d2 aH aD dD bq bC;obtain ⟨b,I,b5⟩:∃b I,1≤len→al=some ⟨b,I,none⟩∧b<w.heap.size:=by
    by_cases h1:1≤len
    · obtain ⟨b,I,e,hb⟩:=HE.o.form h1;exact ⟨b,I,fun _=>⟨e,hb⟩⟩
    · exact ⟨0,0,fun h=>absurd h h1⟩
   have ev:ba<W.heap.size:=by omega
   gi_wp2_with (refine ⟨trivial,?_⟩;gi_at_call 151;refine (p8 _ _ _ _ _).mono ?_;rintro e w' ⟨rfl,rfl⟩)
   have bP:=Boxed.new W 28 (.slice al len d);have c0:Bl w (W.alloc (.cells #[.slice al len d] 28)):=HB.o.alloc bt _;have dc:=HJ.o.below ((Below.refl W.heap.size W).alloc (GL _) (.cells #[.slice al len d] 28));have bJ:=a3.o.others (KeepsOthers.alloc W (.cells #[.slice al len d] 28));have aN:∀D ∈ E,D<W.heap.size:=fun D hD=>(Ii.1 (a3.o.2 D hD).2).1
   have cF:Eq (∀D ∈ E,D<W.heap.size):=aN;refine wpIn_rangeFunc_ownH rfl (by omega) (gf:=202) (lb:=#[.pointer (some ⟨W.heap.size,0,none⟩)]) rfl trivial (enters_of Tryz.func202 (by kernel_rfl) rfl)
    (sH (6 - 1) W.heap.size (fun k=>k<w.heap.size∨k=W.heap.size) (by omega) b I al len d (fun h=>(b5 h).1) L _ (.inr rfl) (fun h=>.inl (b5 h).2) (fun k hk=>by simp;omega) bP.cell (HE.o.keep c0) du)
    bQ.trans (pP (fun k hk=>by simp;omega)) (Below.refl _ _) (fun _=>rfl)
    (fun T W'=>JS w w.heap.size (Z++T.map (pw L)) W'∧(Boxed W' W.heap.size 28 (.slice al len d)∧(Bl w W'∧dS w.heap.size W' E)))
    (fun _ _ _=>False)
    (OwnFrom.and (JS.own (fun T:List (oZ len)=>Z++T.map (pw L)) (by simp;omega)) (OwnFrom.and (Own.from (boxed_own _ _ _) _) (OwnFrom.and (ownFrom_below (GL _) (by simp;omega)) (tw (fun D hD=>by have:=aN D hD;simp;omega)))))
    (fun _ _ _ _ _ hs _ _=>hs)
    ⟨by simpa using dc,bP,c0,bJ⟩
    (fun x a' W'=>a'={ tmps:=#[sO ba oa n c,undef,nZ,.pointer (some ⟨w.heap.size,0,none⟩),undef,.slice al len d,.slice (some ⟨b,I+x.1.1*5,none⟩) (x.1.2 - x.1.1) (d - x.1.1),undef,sO ba oa n c,iT (n:Nat),iT (i:Nat),.bool true,.pointer (some ⟨ba,oa+i,none⟩),.slice al len d,.slice al len d,.func (.func 202) #[] #[.pointer (some ⟨W.heap.size,0,none⟩)],.slice (some ⟨b,I+x.1.1*5,none⟩) (x.1.2 - x.1.1) (d - x.1.1),undef,undef,undef,undef,undef,undef,undef,u24,undef,undef,undef,undef,undef,undef,undef,undef,undef,undef,undef,undef,undef,undef,undef,undef,undef,undef,undef,undef,undef,undef,undef,undef,undef,undef,undef,undef,undef,undef,undef,undef],defers:=[] })
    (fun x a' _ X Y row hs hg hr=>hs)
    ?assign ?body ?done ?stop
   case assign =>
    rintro l T x W2 K ⟨b6,a8,N,f⟩ hK;simp only [DR];gi_wp2
    exact hK _ _ ((KeepsOthers.refl _).from _) (bQ.refl _ _) ⟨b6,a8,N,f⟩ rfl
   case body =>
    rintro l T x a' W2 hl _ ⟨⟨v2,X2,H2,aC,cr,hT2,aT⟩,a8,N,f⟩ rfl ee;obtain ⟨av,cv,rfl⟩:=aC.form;have aE:1≤len:=by have:=x.2;omega
    obtain ⟨rfl,d8⟩:=b5 aE;have an:=HE.o.sub (i:=x.1.1) (j:=x.1.2) (Nat.le_of_lt x.2.1) x.2.2;have cf:pw L x≠[]:=fun e0=>by
     have h1:(pw L x).length=x.1.2 - x.1.1:=an.length;rw [e0] at h1;have:=x.2.1;simp at h1;omega
    obtain ⟨e0,l0,ap⟩:=I4 cf;have cj:ah W2 (some ⟨b,I+x.1.1*5,none⟩) (x.1.2 - x.1.1) (d - x.1.1) (e0 :: l0):=by rw [← ap];exact an.keep N
    have ak:H2.length<1048576:=by
     rw [aT,GO,Id];have:=dm.o;omega
    have CP:=DH w.heap.size w.heap.size _ X2 H2 b (I+x.1.1*5) (x.1.2 - x.1.1) (d - x.1.1) H2.length e0 l0 W2 ak N.size aC cj d8 hT2;have cB:=aC.box.cell;have c4:Eq (dS w.heap.size W2 E):=f;have d3:Eq (Bl w W2):=N;have dp:Eq (Mg.HSt H2 (Z++T.map (pw L))):=cr;have d7:Eq (H2.length=(Z++T.map (pw L)).length):=aT;have ci:Eq (pw L x=e0 :: l0):=ap;clear f N cr aT ap an cf cj ak aC hT2;gi_wp2_with (refine ⟨trivial,?_⟩;gi_at_call 152;refine (CallsIn.inRound l (callsIn_wide.2 CP)).mono ?_;rintro e W3 ⟨rfl,⟨v3,X3,H3,da,dz,dl,_⟩,bD,cx,d1⟩)
    have bI:Boxed W3 W.heap.size 28 _:=d1 _ _ _ a8 (by decide) (by omega);refine ⟨cx.from _,oJ bD a8 bI,⟨?_,bI,d3.o.trans bD,c4.o.others cx⟩⟩;have:=JS.push dp.o d7.o da dz dl;rw [← ci.o,Hd] at this;rw [Iw];exact this
   case done =>
    rintro D xs W2 hD hAll ⟨b6,a8,N,f⟩ hK;have eo:=a8.lt;gi_wp2
    refine ⟨⟨i+1,D :: E,Z++xs.map (pw L),_,_,_,_,_,_,_,rfl,by omega,b6,?_,?_,?_,N,by omega⟩,?_⟩
    · rw [IJ,hAll.1,HZ.o,qO dy.o]
    · intro l hl;rcases GX.1 hl with h | h
      · exact aJ.o l h
      · exact hAll.2 l h
    · simp at hD;refine ⟨Jr.2 ⟨fun h=>by have:=cF.o D h;omega,f.1⟩,fun D' di=>?_⟩;rcases GZ.1 di with rfl | h
      · exact ⟨by omega,hK⟩
      · exact f.2 D' h
    · simp [intOf];omega
   case stop =>
    rintro D c T W2 _ _ h _;exact h.elim
 · have dd:i=n:=by omega
   subst dd;have de:¬(i:Int)<(i:Int):=by omega
   have cd:Eq (Z.flatten=P.flatten):=by
    show _=_
    rw [HZ.o,GV (by rw [cl.o];omega)]
   obtain ⟨H0,ch⟩:=sm.start HJ.o cd.o aJ.o aj.o a3.o HB.o;have cs:Eq (sm w w.heap.size P E nZ W [] Z H0):=ch;clear ch HJ HZ cd aJ a3 HB HP cl hn hroom dH ay cG bt;gi_wp2
   clear de;gi_loopw [7] (fun av wr=>∃out Z H,sm w w.heap.size P E av wr out Z H) (fun av _=>P.flatten.length - Cv av)
   case atStart=>exact ⟨[],Z,H0,cs.o⟩
   case round =>
    clear cs;obtain ⟨out,Z1,H,hM⟩:=hrel;by_cases h0:H.length=0
    · have dA:H=[]:=Hy.1 h0;subst dA;clear h0;obtain ⟨ab,cb,cB⟩:=hM.box;have hlen:out.length=P.flatten.length:=by have h1:=hM.len;rw [hM.hst.none] at h1;simpa using h1
      have ar:out=aS P.flatten:=yw hM.mst hM.hst;obtain ⟨ao,co,rfl,bM⟩:=vJ hM.row hM.ents;have cE:Eq (out.length=P.flatten.length):=hlen;have bH:Eq (out=aS P.flatten):=ar;have bv:out.length≤1048576:=by have:=aj.o;omega
      have CE:=iE ao out.length co out wr bM bv (fun e he=>dj.o e (by rw [ar] at he;exact (bu _).2.mem_iff.1 he));have a3:Eq (dS w.heap.size wr E):=hM.mks;have bc:Eq (Bl w wr):=hM.bel;simp only [Io] at cB;have nn:¬(0:Int)<0:=by omega
      clear hM hlen ar bM;gi_wp2_with (refine ⟨trivial,?_⟩;gi_at_call 149;refine (callsIn_wide.2 CE).mono ?_;rintro e w5 ⟨rfl,dk,e8,bT⟩)
      refine jE E w5 (a3.o.others (KeepsOthers.of_grownBy (d4 bT) (fun j o e _=>by cases e))) (fun W' dt dq=>?_);refine ⟨_,results_tmp rfl _ _ _,⟨wr.heap.size,by rw [cE.o];rfl,?_⟩,?_⟩
      · rw [← cE.o,← bH.o];exact (dk.mono bc.o.size).cellsKept dq
      · exact (bc.o.trans (bT.mono bc.o.size)).trans dt
    · obtain ⟨g,cg,X,xb,xo,xn,F,xk,e,l,R,hH,hS,aK,hE⟩:=hM.first (by omega);subst hH;obtain ⟨u,y,r,t,A⟩:=e;have cH:Eq (d9 (u,y,r,t,A)):=hE.ents _ Ha;have J:Eq (sm w w.heap.size P E _ wr out Z1 (((u,y,r,t,A) :: l,xk) :: R)):=hM;obtain ⟨ao,co,dC,_⟩:=vJ hM.row hM.ents;subst dC;have aq:Eq (wr.ownsRow (w.heap.size+1) 50 5 (.slice ao out.length co) out.length (aF out)):=hM.row;have HS:Eq (dF wr w.heap.size w.heap.size g (R.length+1) cg ((xb,xo,xn,F,xk) :: X) (((u,y,r,t,A) :: l,xk) :: R)):=hS;have Q:Eq (∀x ∈ (xb,xo,xn,F,xk) :: X,x.1<w.heap.size):=aK;have hfew:R.length+1≤1048576:=hM.few;have bv:out.length+1≤1048576:=by
       have h1:=aj.o;have h2:=hM.len;have h3:=nu (hM.hst.least d5 hM.heap).1;omega
      have ea:0<xn:=by have:=hE.length;simp at this;omega
      have el:=hE.room;have bk:Eq (l.length+1=xn):=by have:=hE.length;simp at this;exact this
      have cB:wr.cell? ⟨w.heap.size,0,none⟩=some (sL g (R.length+1) cg):=hS.box;obtain ⟨y0,y1⟩:=hS.own.at2 (i:=0) rfl;simp only [I3,GT] at y0 y1;obtain ⟨e0,e1,e2,e3,e4⟩:=hE.cells _ rfl 0 (by simp);simp only [I3,Ik,List.getElem_cons_zero] at e0 e1 e2 e3 e4;have zg:g<wr.heap.size:=hS.own.lt.2;have zx:=GK _ _ e0;simp only at zx;have bw:(0:Int)<(xn:Int):=by omega
      have cX:w.heap.size<wr.heap.size:=GK _ _ cB;clear hM hS aK hE h0;gi_wp2_with (gi_at_builtin;refine wpListIn_append_own_at _ rfl _ _ 28 rfl (w.heap.size+1) 50 i0 _ 5 56 Tryz.underlying28 hi dn dE db rfl (by decide) _ _ _ rfl (aq.o.alloc _) ⟨wr.heap.size,0,none⟩ 1 1 (bi (u,y,r,t,A)) rfl rfl (BJ _ _ _ _ _ _ _) (bf [(u,y,r,t,A)]) (by unfold maxLen;omega) (by omega) (by simp;omega) ?_;intro v1 w1 B a2 b4 bj;obtain ⟨g1,c1,rfl⟩:=ownsRow_succ B)
      have a5:Bl wr (wr.alloc (.cells #[.string u,iT y,iT r,.string t,iT A] 50)):=bZ;have aI:∀k,(Value.slice ao out.length co).ownBlock=some k→w.heap.size+1≤k:=fun k ek=>(aq.o.lt k ek).1
      have nB:some w.heap.size≠(Value.slice ao out.length co).ownBlock:=fun ek=>by have:=aI _ ek.symm;omega
      have nG:some g≠(Value.slice ao out.length co).ownBlock:=(zu HS.o.own.owns aq.o (by decide) rfl).symm;have nX:∀x ∈ (xb,xo,xn,F,xk) :: X,some x.1≠(Value.slice ao out.length co).ownBlock:=fun x hx ek=>by have:=aI _ ek.symm;have:=Q.o x hx;omega
      have aw:(wr.alloc (.cells #[.string u,iT y,iT r,.string t,iT A] 50)).grownBy w1 (Value.slice ao out.length co).ownBlock:=a2;have aZ:dF w1 w.heap.size w.heap.size g (R.length+1) cg ((xb,xo,xn,F,xk) :: X) (((u,y,r,t,A) :: l,xk) :: R):=(HS.o.below a5).kept aw nB nG nX;have ck:KeepsOthers wr w1:=(KeepsOthers.alloc wr (.cells #[.string u,iT y,iT r,.string t,iT A] 50)).trans (KeepsOthers.of_grownBy aw (fun j o ej hj=>by
       rcases (aq.o.alloc (.cells #[.string u,iT y,iT r,.string t,iT A] 50)).2 with ⟨hv,_⟩ | ⟨gr,d,dZ,hv,_,df,_⟩
       · rw [hv] at ej;cases ej
       · rw [hv] at ej;cases ej;rw [df] at hj;cases hj;rfl))
      have cM:Bl w w1:=(J.o.bel.trans (a5.mono J.o.bel.size)).grown aw (by have:=a5.size;omega) (fun k ek=>by have:=aI k ek;omega);have cK:w1.frozen? ⟨w.heap.size,0,none⟩=false:=by
       rw [bU aw (x:=⟨w.heap.size,0,none⟩) (by have:=a5.size;simp only;omega) nB,(xe a5).2 _ _ cX];exact J.o.fr
      have bp:Eq (w1.ownsRow (w.heap.size+1) 50 5 (sL g1 (out.length+1) c1) (out.length+1) (aF out++bi (u,y,r,t,A))):=B;have bY:Eq (g1≠g):=fun C=>(zu aZ.own.owns B (by decide) rfl) (by rw [C];rfl)
      have cu:Eq (Bl w w1.drew):=cM.drew;have bl:Eq (dS w.heap.size w1.drew E):=(J.o.mks.others ck).others (KeepsOthers.drew w1);clear aI nB nG nX aw a5 B a2 b4 bj ck cM y0 y1 e0 e1 e2 e3 e4 cB zg zx bw aq HS;have kd:dF w1.drew w.heap.size w.heap.size g (R.length+1) cg ((xb,xo,xn,F,xk) :: X) (((u,y,r,t,A) :: l,xk) :: R):=aZ.below (Below.refl _ w1).drew;have cq:w1.drew.frozen? ⟨w.heap.size,0,none⟩=false:=cK;have cP:w1.drew.ownsRow (w.heap.size+1) 50 5 (sL g1 (out.length+1) c1) (out.length+1) (aF out++bi (u,y,r,t,A)):=bp.o.kept (d4 (Below.refl _ w1).drew) (.inr (fun C=>by cases C));obtain ⟨y0,_⟩:=kd.own.at2 (i:=0) rfl;simp only [I3] at y0;have f0:=kd.own.owns.frozenAt 0;obtain ⟨le,bo,cN,_⟩:=kd.rest 0 _ _ rfl rfl;cases bo;obtain ⟨no,ax,cz⟩:=ah.tail (show ah w1.drew (some ⟨xb,xo,none⟩) xn F ((u,y,r,t,A) :: l) from cN);have U:Eq (dF (w1.drew.setCell ⟨g,0,none⟩ (sO xb no (xn - 1) (F - 1))) w.heap.size w.heap.size g (R.length+1) cg ((xb,no,xn - 1,F - 1,xk) :: X) ((l,xk) :: R)):=kd.cut cz;have a1:Eq (Bl w (w1.drew.setCell ⟨g,0,none⟩ (sO xb no (xn - 1) (F - 1)))):=cu.o.setCell (p:=⟨g,0,none⟩) kd.own.lt.1 _;have a4:Eq (dS w.heap.size (w1.drew.setCell ⟨g,0,none⟩ (sO xb no (xn - 1) (F - 1))) E):=bl.o.others (KeepsOthers.setCell _ _ _);have a7:Eq ((w1.drew.setCell ⟨g,0,none⟩ (sO xb no (xn - 1) (F - 1))).frozen? ⟨w.heap.size,0,none⟩=false):=by
       show _=_
       rw [G8];exact cq
      have a6:Eq ((w1.drew.setCell ⟨g,0,none⟩ (sO xb no (xn - 1) (F - 1))).ownsRow (w.heap.size+1) 50 5 (sL g1 (out.length+1) c1) (out.length+1) (aF out++bi (u,y,r,t,A))):=cP.kept (fO _ _ _ _) (.inr (fun C=>bY.o (GN C)));clear aZ cN cz cK cq cP bp cu bl;have eh:(1:Int)≤(xn:Int):=by omega
      have e9:1≤xn:=by omega
      have e6:(1:Int)≤(F:Int):=by omega
      refine yd (fun a' w'=>∃t25 c2 bs cA bx bS cD cn bh bR bF cO t37 cm bO c9 c7 bB ce bL ca ct cI bA c5 bX bm cJ bN bg,a'={ tmps:=#[.slice a i c,undef,nZ,.pointer (some ⟨w.heap.size,0,none⟩),undef,u5,undef,sL g1 (out.length+1) c1,.slice a i c,iT (i:Nat),iT (i:Nat),.bool false,u12,u13,u14,u15,undef,undef,undef,undef,undef,undef,undef,undef,u24,t25,c2,bs,cA,bx,bS,cD,cn,bh,bR,bF,cO,t37,cm,bO,c9,c7,bB,ce,bL,ca,ct,cI,bA,c5,bX,bm,cJ,bN,bg,undef,undef],defers:=pL E }∧dF w' w.heap.size w.heap.size g (R.length+1) cg ((xb,no,xn - 1,F - 1,xk) :: X) ((l,xk) :: R)∧Bl w w'∧dS w.heap.size w' E∧w'.frozen? ⟨w.heap.size,0,none⟩=false∧w'.ownsRow (w.heap.size+1) 50 5 (sL g1 (out.length+1) c1) (out.length+1) (aF out++bi (u,y,r,t,A))) ?_ ?_
      · by_cases dh:F=1
        focus
         subst dh
         obtain rfl:xn=1:=by omega
         rw [if_pos rfl] at ax
        rotate_left
        focus
         have d6:¬F - 1=0:=by omega
         rw [if_neg d6] at ax
        all_goals
         subst ax
         refine wpIn_wide.2 ?_
         refine wp_region_held_drew (S:=(fun w'=>w'.cell? ⟨w.heap.size,0,none⟩=some (sL g (R.length+1) cg)∧g<w'.heap.size)) (by kernel_rfl) (⟨kd.box,kd.own.lt.2⟩) (fun aa=>?_)
         generalize w1.drew=wd at kd y0 f0 U a1 a4 a7 a6 aa ⊢
         refine aR 0 4 aa ?_
         refine aV 4 fun K hK=>?_
         go_simp
         refine hK.o _ _ (⟨kd.box,kd.own.lt.2⟩) (fun aa=>?_)
         clear hK K
         (try go_frame)
         refine aR 5 3 aa ?_
         refine aV 8 fun K hK=>?_
         have zg:=kd.own.lt.2
         go_simp
         clear zg
         refine hK.o _ _ (⟨U.o.box,U.o.own.lt.2⟩) (fun aa=>?_)
         clear hK K
         (try go_frame)
         refine dN ?_
         exact ⟨_,_,_,_,_,_,_,_,_,_,_,_,_,_,_,_,_,_,_,_,_,_,_,_,_,_,_,_,_,_,rfl,U.o,a1.o,a4.o,a7.o,a6.o⟩
      rintro a' w3 ⟨t25,c2,bs,cA,bx,bS,cD,cn,bh,bR,bF,cO,t37,cm,bO,c9,c7,bB,ce,bL,ca,ct,cI,bA,c5,bX,bm,cJ,bN,bg,rfl,O,c8,bE,bG,b9⟩;clear U a1 a4 a7 a6 kd y0 f0 ax;have U:Eq (dF w3 w.heap.size w.heap.size g (R.length+1) cg ((xb,no,xn - 1,F - 1,xk) :: X) ((l,xk) :: R)):=O;have a1:Eq (Bl w w3):=c8;have a4:Eq (dS w.heap.size w3 E):=bE;have a7:Eq (w3.frozen? ⟨w.heap.size,0,none⟩=false):=bG;have a6:Eq (w3.ownsRow (w.heap.size+1) 50 5 (sL g1 (out.length+1) c1) (out.length+1) (aF out++bi (u,y,r,t,A))):=b9;have cB:w3.cell? ⟨w.heap.size,0,none⟩=some (sL g (R.length+1) cg):=O.box;obtain ⟨y0,_⟩:=O.own.at2 (i:=0) rfl;simp only [I3] at y0;have zg:g<w3.heap.size:=O.own.lt.2;have bz:Eq (g1≠g):=bY.o;have dw:Eq (∃cc,w3.heap[g]?=some (.cells cc 164 (0,0))):=O.own.cells;have c6:Eq (w.heap.size≤g∧w.heap.size≠g):=⟨O.own.lt.1,O.ne⟩;have bV:Eq (w.heap.size+1≤g1):=(b9.lt g1 rfl).1;have zB:=GK _ _ cB;simp only at zB;have b3:Eq (∀s ∈ R,s.1≠[]):=fun s hs=>(J.o.hst.live s (He _ hs)).1
      clear O c8 bE bG b9;cases l with
      | nil =>
       have aE:xn - 1=0:=by have:=bk.o;simp at this;omega
       have d0:=ER w.heap.size w.heap.size g (R.length+1) cg R.length _ _ ([],xk) w3 rfl hfew (GL _) a7.o U.o (A9 J.o.heap b3.o) rfl (fun j s hj hs=>by
        match j,hj,hs with
        | j+1,_,hs=>exact b3.o s (GP (by simpa using hs)))
       rw [aE] at y0;gi_wp2_with (refine ⟨trivial,?_⟩;gi_at_call 153;refine (callsIn_wide.2 d0).mono ?_;rintro e w4 ⟨⟨v4,rfl⟩,⟨X4,H4,aX,aA,b1,b7⟩,b2,b0,hf4,wm,a9,dI⟩)
       have br:H4.Perm R:=(List.perm_cons _).1 aA;have au:H4.length=R.length:=br.length_eq;have b8:w4.ownsRow (w.heap.size+1) 50 5 (sL g1 (out.length+1) c1) (out.length+1) (aF out++bi (u,y,r,t,A)):=(a6.o.kept a9 (.inr (fun C=>bz.o (GN C)))).kept dI (.inr (fun C=>by have h1:=GN C;have h2:=bV.o;simp only at h1;omega));go_roundw
       case rel =>
        refine ⟨out++[(u,y,r,t,A)],Z1.set xk [],H4,J.o.next (g:=g) (c:=cg) (X4:=X4) (by rw [au];exact aX) (J.o.hst.last.perm br) (by rw [au];exact b1) (fun x hx=>?_) hf4 b8 cH.o (a4.o.others b0) (a1.o.trans b2) (by omega)⟩;have h1:=b7 x hx;rcases GZ.1 h1 with rfl | h2
        · exact Q.o (xb,xo,xn,F,xk) Ha
        · exact Q.o x (He _ h2)
       case measure=>show P.flatten.length - (out.length+1)<P.flatten.length - out.length;have h2:=J.o.len;have h3:=nu (J.o.hst.least d5 J.o.heap).1;omega
      | cons e2 l2 =>
       have aE:¬xn - 1=0:=by have:=bk.o;simp at this;omega
       have dK:¬((xn - 1:Nat):Int)=0:=by omega
       have cY:=ES w.heap.size w.heap.size g (R.length+1) cg _ _ w3 hfew (by omega) U.o (Mg.down_start J.o.heap (fun k k0 _=>by match k,k0 with | k+1,_=>rfl)) (fun s hs=>by
        rcases GZ.1 hs with rfl | h2
        · exact fun C=>by cases C
        · exact b3.o s h2)
       gi_wp2_with (refine ⟨trivial,?_⟩;gi_at_call 154;refine (callsIn_wide.2 cY).mono ?_;rintro e w4 ⟨rfl,⟨X4,H4,aX,aA,b7,b1⟩,a9⟩)
       have au:H4.length=R.length+1:=aA.length_eq;have b8:w4.ownsRow (w.heap.size+1) 50 5 (sL g1 (out.length+1) c1) (out.length+1) (aF out++bi (u,y,r,t,A)):=a6.o.kept a9 (.inr (fun C=>bz.o (GN C)));have b0:KeepsOthers w3 w4:=KeepsOthers.of_grownBy a9 (fun j o C ho=>by cases C;obtain ⟨cc,hc⟩:=dw.o;rw [hc] at ho;cases ho;rfl);have hf4:w4.frozen? ⟨w.heap.size,0,none⟩=false:=by rw [bU a9 (x:=⟨w.heap.size,0,none⟩) zB (fun C=>c6.o.2 (GN C))];exact a7.o
       have b2:Bl w w4:=a1.o.grown a9 a1.o.size (fun k C=>by cases C;exact c6.o.1);go_roundw
       case rel =>
        refine ⟨out++[(u,y,r,t,A)],Z1.set xk (e2 :: l2),H4,J.o.next (g:=g) (c:=cg) (X4:=X4) (by rw [au];exact aX) (J.o.hst.more.perm aA) (by rw [au];exact b1) (fun x hx=>?_) hf4 b8 cH.o (a4.o.others b0) b2 (by omega)⟩;have h1:=b7.mem_iff.1 hx;rcases GZ.1 h1 with rfl | h2
        · exact Q.o (xb,xo,xn,F,xk) Ha
        · exact Q.o x (He _ h2)
       case measure=>show P.flatten.length - (out.length+1)<P.flatten.length - out.length;have h2:=J.o.len;have h3:=nu (J.o.hst.least d5 J.o.heap).1;omega
end
end Go.Proofs.YtpobkmjicbobdaaGreat
