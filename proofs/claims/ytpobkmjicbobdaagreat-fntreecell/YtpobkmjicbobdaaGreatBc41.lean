/- Walks. -/
import Derived.Test.YtpobkmjicbobdaaGreatBc40
namespace Go.Proofs.YtpobkmjicbobdaaGreat
set_option maxRecDepth 100000
set_option maxHeartbeats 40000000
open Go.RowKit Go.Shelf
variable {BH base c g i k n xk:Nat} {L l out:List ae} {P Z:List (List ae)} {W w w':World} {av:Value} {e m:ae}
section
attribute [local go_sem] Gi
def Cn (b off cap:Nat) {n:Nat} (p:nM n):Array Value:=#[Value.slice (some ⟨b,off+p.1.1*5,none⟩) (p.1.2 - p.1.1) (cap - p.1.1)]
theorem uh (n l B1:Nat) (K:Nat→Prop) (hn:2≤n) (b B:Nat) (al:Option Addr) (len E:Nat) (ar:1≤len→al=some ⟨b,B,none⟩) (L:List ae) (J Jx:List (nM len)→World→Prop) (W:World)
 (hY:∀u (x:nM len) W1,J u W1→u.length<len→YieldAt Fence.wide (n - 1) Tryz.prog l (Cn b B E x) W1 fun e W' =>
  (e=.returned (.bool true)∧J (u++[x]) W'∧bJ K W1 W')∨(e=.returned (.bool false)∧Jx (u++[x]) W'))
 (hJ:AbidesFrom W.heap.size J)
 (hK1:K B1) (hKb:1≤len→K b) (hKs:∀k,K k→k<W.heap.size)
 (hp1:W.cell? ⟨B1,0,none⟩=some (.slice al len E))
 (hL:ah W al len E L) (hlen:len≤1048576) (h0:J [] W) :
 CallsIn Fence.wide n Tryz.prog 202 #[.func (.yield l) #[] #[],.pointer (pT B1)] W fun e W'=>(∃v,e=.returned v) ∧
  ((∃ys,DV L ys∧J ys W')∨(∃u:List (nM len),True∧Jx u W')):=by
 have U:Eq (L.length=len):=hL.length;have hroom:=hL.room;have hbig:=hL.big;unfold maxLen at hbig;have aa:=bT hKs;have aw:Eq (∀w',bJ K W w'→ah w' al len E L):=fun w' k=>hL.keepS k (fun x e hp=>by rw [ar (by omega)] at e;cases e;exact hKb (by omega))
 have HJ:=bT hJ;have a3:Eq (∀w',bJ K W w'→w'.cell? ⟨B1,0,none⟩=some (.slice al len E)):=fun w' k=>(k.cell (p:=⟨B1,0,none⟩) hK1).trans hp1
 have aJ:Eq (1≤len→b<W.heap.size):=fun h=>hKs b (hKb h)
 have bg:1≤n:=by omega
 have aY:=hKs B1 hK1;clear hL hKs hJ hKb hp1;refine callsIn_of_wp Tryz.func202 rfl trivial ?_ rfl;simp only [Tryz.ntmps202,GF,F5,Gz,Nat.reduceAdd,Nat.reduceSub,GJ,GK,GV,GN,Gb,Gd];gi_wp2
 gi_loopw [3] (fun tv wr=>∃(f:Nat) (u:List (nM len)),f≤len∧tv=iT (f:Nat)∧J u wr∧bJ K W wr∧u.length≤f∧AM L f u) (fun tv _=>len - (intOf tv).toNat)
 case atStart=>exact ⟨0,[],by omega,rfl,h0,bJ.refl _ _,by simp,AM.zero L⟩
 case round =>
  obtain ⟨f,u,hf,rfl,a2,hb,bi,an⟩:=hrel;have ao:Eq (bJ K W wr):=hb;have a6:Eq (AM L f u):=an;have ad:Eq (J u wr):=a2;have c0:=a3.o wr hb;have b9:=hb.size;clear hb an a2;by_cases am:f=len
  · have aM:Eq (DV L u):=by
     have:=a6.o;rw [am] at this;exact this.done U.o
    have a9:¬(f:Int)<(len:Int):=by omega
    clear am;gi_wp2
    go_end0;exact ⟨⟨_,rfl⟩,.inl ⟨u,aM.o,ad.o⟩⟩
  · have bh:(f:Int)<(len:Int):=by omega
    have bc:f<len:=by omega
    obtain rfl:=ar (by omega);have wt:IntKind.i64.wrap ((f:Int)+1)=((f+1:Nat):Int):=by
     have e:((f+1:Nat):Int)=(f:Int)+1:=by omega
     rw [e,FQ];unfold wrap64;omega
    have bb:=aJ.o (by omega);gi_wp2
    clear c0;gi_loopw [4] (fun fv wq=>∃y:Nat,f<y∧y≤len∧fv=iT (y:Nat)∧J u wq∧bJ K W wq∧Mg.Asc aW ((L.drop f).take (y - f))) (fun fv _=>len - (intOf fv).toNat)
    case atStart=>exact ⟨f+1,by omega,by omega,by first | rfl | go_num,ad.o,ao.o,DN L f⟩
    case round =>
     clear ao ad wt;obtain ⟨y,D,C,rfl,a2,ak,aj⟩:=hrel;have F:Eq (bJ K W wr):=ak;have T:Eq (J u wr):=a2;have X:Eq (Mg.Asc aW ((L.drop f).take (y - f))):=aj;clear ak a2 aj;have hsz:=F.o.size;have R:Bl wr wr.drew:=(Below.refl _ wr).drew;have c1:=a3.o wr F.o;by_cases ab:y=len
     · have a9:¬(y:Int)<(len:Int):=by omega
       have aK:decide ((y:Int)<(len:Int))=false:=decide_eq_false a9;have aq:¬y<len:=by omega
       have aL:decide (y<len)=false:=decide_eq_false aq;have bj:Eq (y=len):=ab;clear ab;have H:Eq (∀w',Bl wr w'→(w'.cell? ⟨B1,0,none⟩=some (sO b B len E))):=fun w' O=>cell_later O c1
       gi_wp2_with fail
       refine wpIn_wide.2 ?_;refine eJ H R fun Q=>?_
       refine aP 0 14 Q ?_;refine aQ 14 fun K hK=>?_
       go_simp;refine hK.o _ _ (H.o _ R) (fun Q=>?_);clear hK K;(try go_frame);refine aP 15 2 Q ?_;refine dN ?_;clear H Q;have I:bJ K wr wr.drew:=bJ.of R (fun k hk=>u' (aa.o k hk) hsz);have A:Eq (bJ K W wr.drew):=F.o.trans I;have N:Eq (J u wr.drew):=HJ.o _ _ _ none T.o (dU R) (fun r e=>by cases e);obtain ⟨w1,aB⟩:=aG wr.drew;rw [← aB] at A N ⊢;clear I R aB c1 F T a9 aK aq aL;have c1:=a3.o w1 A.o;have ap:=A.o.size;have a7:Eq (AM L y (u++[⟨(f,y),D,C⟩])):=a6.o.step U.o D C X.o;have aH:(f:Int)≤(y:Int):=by omega
       have aN:(0:Int)≤(f:Int):=by omega
       have aU:(y:Int)≤(E:Int):=by omega
       have aI:¬E - f=0:=by omega
       obtain ⟨fn,tmps,assign,body,hy,hR⟩:=hY u ⟨(f,y),D,C⟩ w1 N.o (by omega);simp only [Cn] at hy;clear X N;gi_wp2
       refine hR.mono ?_;rintro e W3 (⟨rfl,a1,Y⟩ | ⟨rfl,a0⟩)
       · have a8:Eq (bJ K W W3):=A.o.trans Y;have a5:Eq (J (u++[⟨(f,y),D,C⟩]) W3):=a1;clear Y a1;gi_wp2
         go_roundw
         case rel=>exact ⟨y,u++[⟨(f,y),D,C⟩],C,by first | rfl | go_num,a5.o,a8.o,by simp;omega,a7.o⟩
         case measure=>simp [intOf];omega
       · gi_wp2
         refine bodyPost_ret (results_none rfl _ _ _) rfl ?_;exact ⟨⟨_,rfl⟩,.inr ⟨_,trivial,a0⟩⟩
     · obtain ⟨g,hg⟩:∃g,y=g+1:=⟨y - 1,by omega⟩;have aC:(y:Int)<(len:Int):=by omega
       have aR:decide ((y:Int)<(len:Int))=true:=decide_eq_true aC;have aE:y<len:=by omega
       have aT:decide (y<len)=true:=decide_eq_true aE;have wf:IntKind.i64.wrap ((y:Int) - 1)=(g:Int):=by
        have e:(y:Int) - 1=(g:Int):=by omega
        rw [e,FQ];unfold wrap64;omega
       have b7:(g:Int)<(len:Int):=by omega
       obtain ⟨s,q,d,t,m,hx,_,g0,g1,g2,g3,g4⟩:=(aw.o wr F.o).ent (Below.refl _ wr) (by omega) y (by omega);obtain ⟨s',q',d',t',m',hy,_,e0,e1,e2,e3,e4⟩:=(aw.o wr F.o).ent (Below.refl _ wr) (by omega) g (by omega);have HX:Eq (L[y]?=some (s,q,d,t,m)):=hx;have HY:Eq (L[g]?=some (s',q',d',t',m')):=hy;have aD:Eq (y=g+1):=hg;clear hg ab;have zb:b<wr.heap.size:=by omega
       have H:Eq (∀w',Bl wr w'→(w'.cell? ⟨B1,0,none⟩=some (sO b B len E)∧w'.cell? ⟨b,B+y*5,none⟩=some (.string s)∧w'.cell? ⟨b,B+y*5+1,none⟩=some (iT q)∧w'.cell? ⟨b,B+y*5+2,none⟩=some (iT d)∧w'.cell? ⟨b,B+y*5+3,none⟩=some (.string t)∧w'.cell? ⟨b,B+y*5+4,none⟩=some (iT m)∧w'.cell? ⟨b,B+g*5,none⟩=some (.string s')∧w'.cell? ⟨b,B+g*5+1,none⟩=some (iT q')∧w'.cell? ⟨b,B+g*5+2,none⟩=some (iT d')∧w'.cell? ⟨b,B+g*5+3,none⟩=some (.string t')∧w'.cell? ⟨b,B+g*5+4,none⟩=some (iT m')∧b<w'.heap.size)):=fun w' O=>⟨cell_later O c1,cell_later O g0,cell_later O g1,cell_later O g2,cell_later O g3,cell_later O g4,cell_later O e0,cell_later O e1,cell_later O e2,cell_later O e3,cell_later O e4,u' zb O.size⟩
       clear hx hy g0 g1 g2 g3 g4 e0 e1 e2 e3 e4 c1;cases hap:bI s q s' q' with
       | false =>
        gi_wp2_with fail
        refine wpIn_wide.2 ?_;refine eJ H R fun Q=>?_
        refine aP 0 14 Q ?_;refine aQ 14 fun K hK=>?_
        go_simp;refine (pZ s t s' t' q d m q' d' m' _).mono ?_;rintro e w1 ⟨rfl,b1⟩;have k1:Bl wr w1:=R.trans (b1.mono R.size);go_wp2_with fail
        refine hK.o _ _ (H.o _ k1) (fun Q=>?_);clear hK K;(try go_frame);refine aP 15 2 Q ?_;refine dN ?_;clear H Q;have I:bJ K wr w1:=bJ.of k1 (fun k hk=>u' (aa.o k hk) hsz);have A:Eq (bJ K W w1):=F.o.trans I;have N:Eq (J u w1):=HJ.o _ _ _ none T.o (dU k1) (fun r e=>by cases e);have wu:IntKind.i64.wrap ((y:Int)+1)=((y+1:Nat):Int):=by
         have e:((y+1:Nat):Int)=(y:Int)+1:=by omega
         rw [e,FQ];unfold wrap64;omega
        clear I R k1 b1 F T;gi_wp2
        go_roundw
        case rel =>
         have bk:=aD.o;exact ⟨y+1,by omega,by omega,by first | rfl | go_num,N.o,A.o,CV D (x:=(s',q',d',t',m')) (by rw [show y - 1=g by omega];exact HY.o) HX.o X.o hap⟩
        case measure=>simp [intOf];omega
       | true =>
        gi_wp2_with fail
        refine wpIn_wide.2 ?_;refine eJ H R fun Q=>?_
        refine aP 0 14 Q ?_;refine aQ 14 fun K hK=>?_
        go_simp;refine (pZ s t s' t' q d m q' d' m' _).mono ?_;rintro e w1 ⟨rfl,b1⟩;have k1:Bl wr w1:=R.trans (b1.mono R.size);go_wp2_with fail
        refine hK.o _ _ (H.o _ k1) (fun Q=>?_);clear hK K;(try go_frame);refine aP 15 2 Q ?_;refine dN ?_;clear H Q;have I:bJ K wr w1:=bJ.of k1 (fun k hk=>u' (aa.o k hk) hsz);have A:Eq (bJ K W w1):=F.o.trans I;have N:Eq (J u w1):=HJ.o _ _ _ none T.o (dU k1) (fun r e=>by cases e);clear I R k1 b1 F T HX HY hap aR aT;have c1:=a3.o w1 A.o;have ap:=A.o.size;have a7:Eq (AM L y (u++[⟨(f,y),D,C⟩])):=a6.o.step U.o D C X.o;have aH:(f:Int)≤(y:Int):=by omega
        have aN:(0:Int)≤(f:Int):=by omega
        have aU:(y:Int)≤(E:Int):=by omega
        have aI:¬E - f=0:=by omega
        obtain ⟨fn,tmps,assign,body,hy,hR⟩:=hY u ⟨(f,y),D,C⟩ w1 N.o (by omega);simp only [Cn] at hy;clear X N;gi_wp2
        refine hR.mono ?_;rintro e W3 (⟨rfl,a1,Y⟩ | ⟨rfl,a0⟩)
        · have a8:Eq (bJ K W W3):=A.o.trans Y;have a5:Eq (J (u++[⟨(f,y),D,C⟩]) W3):=a1;clear Y a1;gi_wp2
          go_roundw
          case rel=>exact ⟨y,u++[⟨(f,y),D,C⟩],C,by first | rfl | go_num,a5.o,a8.o,by simp;omega,a7.o⟩
          case measure=>simp [intOf];omega
        · gi_wp2
          refine bodyPost_ret (results_none rfl _ _ _) rfl ?_;exact ⟨⟨_,rfl⟩,.inr ⟨_,trivial,a0⟩⟩
theorem qX (n r:Nat) (K:Nat→Prop) (hn:2≤n) (b f:Nat) (o:Option Addr) (len d:Nat) (s:1≤len→o=some ⟨b,f,none⟩) (L:List ae) (w:World)
 (hK1:K r) (hKb:1≤len→K b) (hKs:∀k,K k→k<w.heap.size)
 (hp1:w.cell? ⟨r,0,none⟩=some (.slice o len d)) (hL:ah w o len d L) (hlen:len≤1048576) :
 SeqStopsK Fence.wide n Tryz.prog 202 #[.pointer (pT r)] (fun x:nM len=>Cn b f d x) (bJ K) (fun y=>DV L y) (fun _=>True) len w :=
 fun l J u W t hJ _ hY h0=>uh n l r K hn b f o len d s L J u W hY hJ hK1 hKb (fun k hk=>u' (hKs k hk) t.size) (cell_later t hp1) (hL.keep t) hlen h0
theorem ph (n:Nat) (d:Option Addr) (len b:Nat) (w:World) :
 CallsIn Fence.wide n Tryz.prog 151 #[.slice d len b] w fun e w'=>e=.returned (.func (.func 202) #[] #[.pointer (some ⟨w.heap.size,0,none⟩)])∧w'=w.alloc (.cells #[.slice d len b] 28):=by
 refine callsIn_of_wp Tryz.func151 rfl trivial ?_ rfl;simp only [Tryz.ntmps151,GF,F5,Gz,Nat.reduceAdd,Nat.reduceSub,GJ,GK,GV,GN,Gb,Gd];gi_wp2
 go_ret;exact ⟨rfl,rfl⟩
end
def JS (w:World) (BH:Nat) (Z:List (List ae)) (W:World):Prop:=∃v X H,jD W w.heap.size BH v X H∧Mg.HSt H Z∧Mg.HeapTo (Mg.lessS aW) H.length H∧H.length=Z.length
theorem JS.empty (hb:Boxed W BH 157 nZ) (hB:w.heap.size≤BH):JS w BH [] W:=⟨_,_,_,jD.empty hb hB,Mg.HSt.nil,fun _ _ hc=>absurd hc (Gy _),rfl⟩
theorem JS.own {B:Nat} {β:Type} (f:β→List (List ae)) (hB:w.heap.size≤B):OwnFrom B (fun (s:β) W=>JS w BH (f s) W):=fun s X Y row hs hg hr=>by
 obtain ⟨v,X,H,h1,h2,h3,h4⟩:=hs
 exact ⟨v,X,H,h1.own hB hg hr,h2,h3,h4⟩
theorem JS.below {W':World} (h:JS w BH Z W) (hb:Bl W W'):JS w BH Z W':=by
 obtain ⟨v,X,H,h1,h2,h3,h4⟩:=h;exact ⟨v,X,H,h1.below hb,h2,h3,h4⟩
theorem jD.form {v:Value} {X:List cW} {H:List (List ae × Nat)} (h:jD w base BH v X H):∃av cv,v=.slice av H.length cv:=by
 rcases h.row.2 with ⟨hv,h0⟩ | ⟨g,d,b,hv,_⟩
 · exact ⟨none,0,by rw [hv,h0]⟩
 · exact ⟨_,_,hv⟩
theorem JS.push {s:World} {H d:List (List ae × Nat)} {v3:Value} {r:List cW} (hS:Mg.HSt H Z) (hL:H.length=Z.length) (f:jD s w.heap.size BH v3 r d) (b:d.Perm (H++[(e :: l,H.length)])) (o:Mg.HeapTo (Mg.lessS aW) d.length d):JS w BH (Z++[e :: l]) s:=by
 refine ⟨v3,r,d,f,?_,o,?_⟩
 · rw [hL] at b;exact hS.push.perm b
 · rw [b.length_eq,Fy,Fy,hL];rfl
theorem pO (h:P[i]?=some L):(P.take (i+1)).flatten=(P.take i).flatten++L:=by
 rw [FU,h];simp
theorem zI (h:P[i]?=some L):(P.take i).flatten.length+L.length≤P.flatten.length:=by
 have h1:P.flatten=(P.take (i+1)).flatten++(P.drop (i+1)).flatten:=by rw [← GT,FX]
 rw [h1,pO h,Fy,Fy];omega
theorem tF:∀{Z:List (List ae)},(∀l ∈ Z,l≠[]∧Mg.Asc aW l)→Z.length≤Z.flatten.length
 | [],_=>Fv _
 | l :: Z,h=>by
  have h1:=(h l FV).1
  have h2:=tF (Z:=Z) (fun x hx=>h x (FY _ hx))
  have h3:0<l.length:=List.length_pos_iff.2 h1
  rw [GA,Fy,F5]
  omega
theorem mt {r:List ae} (h:Z[k]?=some (m :: r)):(Z.set k r).flatten.length+1=Z.flatten.length:=by
 obtain ⟨hl,f⟩:=E'.1 h;have d:Z=Z.take k++(m :: r) :: Z.drop (k+1):=by
  conv=>lhs;rw [← FX k Z]
  rw [Gj hl,f]
 obtain ⟨A,B,hA,hlen⟩:∃A B,Z=A++(m :: r) :: B∧A.length=k:=⟨_,_,d,by rw [FC];omega⟩;have b:Z.set k r=A++r :: B:=by
  rw [hA,GB _ _ (by omega),hlen];simp
 rw [b,hA];simp;omega
theorem cY.kept {X:List cW} {H:List (List ae × Nat)} {row:Option Nat} (h:cY w base BH g n c X H) (hg:w.grownBy w' row) (h1:some BH≠row) (h2:some g≠row) (h3:∀x ∈ X,some x.1≠row):cY w' base BH g n c X H:=by
 have b:=Fu _ _ h.box;refine ⟨?_,h.own.grown hg h2,h.len,fun k x s hx hs=>?_,h.ne⟩
 · rw [Gc (a:=⟨BH,0,none⟩) (hg.block BH b h1)];exact h.box
 · obtain ⟨l,d,r2,r3,r4⟩:=h.rest k x s hx hs;refine ⟨l,d,r2.grownB hg (fun y f _=>?_),u' r3 hg.size,r4⟩;cases f;exact h3 x (Fw hx)
theorem cY.cut {f A d b no:Nat} {X:List cW} {R:List (List ae × Nat)} (h:cY w base BH g n c ((f,A,d,b,xk) :: X) ((e :: l,xk) :: R)) (hE:ah w (some ⟨f,no,none⟩) (d - 1) (b - 1) l) :
 cY (w.setCell ⟨g,0,none⟩ (sO f no (d - 1) (b - 1))) base BH g n c ((f,no,d - 1,b - 1,xk) :: X) ((l,xk) :: R):=by
 have hg:=fE w g 0 (sO f no (d - 1) (b - 1));have hO:fT (w.setCell ⟨g,0,none⟩ (sO f no (d - 1) (b - 1))) base g n c ((f,no,d - 1,b - 1,xk) :: X):=⟨(h.own.owns.stored 0 (sO f no (d - 1) (b - 1))).1,h.own.len⟩;have o:=Fu _ _ h.box;refine ⟨?_,hO,h.len,fun k x s hx hs=>?_,h.ne⟩
 · rw [Gc (a:=⟨BH,0,none⟩) (hg.block BH o (fun e=>h.ne (Fx e)))];exact h.box
 · match k,hx,hs with
   | 0,hx,hs =>
    simp at hx hs;subst hx;subst hs;obtain ⟨_,_,_,r3,r4⟩:=h.rest 0 _ _ rfl rfl;refine ⟨l,rfl,hE.grownB hg (fun y t _=>?_),u' r3 hg.size,r4⟩;cases t;exact fun r=>r4.1 (Fx r)
   | k+1,hx,hs =>
    obtain ⟨u,B,r2,r3,r4⟩:=h.rest (k+1) x s (by simpa using hx) (by simpa using hs);refine ⟨u,B,r2.grownB hg (fun y t _=>?_),u' r3 hg.size,r4⟩;cases t;exact fun r=>r4.1 (Fx r)
theorem ah.tail {b d len f:Nat} (h:ah w (some ⟨b,d,none⟩) len f (e :: l)):∃no,(if f - 1=0 then no=d else no=d+5)∧ah w (some ⟨b,no,none⟩) (len - 1) (f - 1) l:=by
 have hl:=h.length;have hr:=h.room;simp at hl;by_cases hc:f - 1=0
 · refine ⟨d,by rw [if_pos hc],?_⟩;have o:l=[]:=Gk.1 (by omega);subst o;have h1:len - 1=0:=by omega
   rw [h1,hc];exact ⟨rfl,Fv _,FB _,(fun e h=>by cases h),(fun e=>by cases e),(fun x e hp=>absurd hp (H7 _)),(fun x e i hi=>by simp at hi)⟩
 · refine ⟨d+5,by rw [if_neg hc],?_⟩;have:=h.sub (i:=1) (j:=len) (by omega) (Fv _);simp only [Nat.one_mul,List.drop_succ_cons,List.drop_zero] at this;rw [FH (by omega)] at this;exact this
theorem Aa {R:List (List ae × Nat)} (h:Mg.HeapTo (Mg.lessS aW) n (([m],k) :: R)) (hR:∀s ∈ R,s.1≠[]):Mg.HeapTo (Mg.lessS aW) n (([],k) :: R):=by
 intro c c0 hc u v d hv;have f:(([m],k) :: R)[c]?=some v:=by
  match c,c0,hv with
  | c+1,_,hv=>simpa using hv
 by_cases hp:(c - 1) / 2=0
 · rw [hp] at d;simp at d;subst d;have hv2:v ∈ R:=by
    match c,c0,hv with
    | c+1,_,hv=>exact Fw (by simpa using hv)
   obtain ⟨b,r,hb⟩:=Ha (hR v hv2);obtain ⟨x,t⟩:=v;simp only at hb;subst hb;rfl
 · obtain ⟨p,o⟩:∃p,(c - 1) / 2=p+1:=⟨(c - 1) / 2 - 1,by omega⟩;refine h c c0 hc u v ?_ f;rw [o] at d ⊢;simpa using d
structure qN (w:World) (BH:Nat) (P:List (List ae)) (ds:List Nat) (av:Value) (W:World) (out:List ae) (Z:List (List ae)) (H:List (List ae × Nat)):Prop where
 box:∃a c,W.cell? ⟨BH,0,none⟩=some (.slice a H.length c)
 fr:W.frozen? ⟨BH,0,none⟩=false
 hp:0<H.length→∃g c X,cY W w.heap.size BH g H.length c X H∧∀x ∈ X,x.1<w.heap.size
 hst:Mg.HSt H Z
 heap:Mg.HeapTo (Mg.lessS aW) H.length H
 mst:Mg.MSt aW P.flatten out Z
 row:W.ownsRow (BH+1) 50 5 av out.length (aC out)
 ents:∀e ∈ out,dR e
 len:out.length+Z.flatten.length=P.flatten.length
 few:H.length≤1048576
 mks:dr w.heap.size W ds
 bel:Bl w W
theorem qN.start {o:List Nat} (hJ:JS w BH Z W) (f:Z.flatten=P.flatten) (hA:∀l ∈ Z,l≠[]∧Mg.Asc aW l) (x:P.flatten.length≤1048576) (hmk:dr w.heap.size W o) (hb:Bl w W):∃H,qN w BH P o nZ W [] Z H:=by
 obtain ⟨v,X,H,hV,hS,u,hL⟩:=hJ;obtain ⟨av,s,hv⟩:=hV.form;refine ⟨H,⟨⟨av,s,by rw [← hv];exact hV.box.cell⟩,hV.box.frozen,fun h0=>?_,hS,u,?_,⟨rfl,.inl ⟨rfl,rfl⟩⟩,(fun e t=>by cases t),by rw [f];simp,?_,hmk,hb⟩⟩
 · rcases hV.row.2 with ⟨_,h1⟩ | ⟨g,d,r,b,_⟩
   · omega
   · rw [b] at hV;exact ⟨g,d,X,hV.hp rfl,hV.low⟩
 · rw [← f];exact Mg.MSt.start (fun l hl=>(hA l hl).2)
 · have:=tF hA;rw [f] at this;omega
theorem qN.first {t:List Nat} {H:List (List ae × Nat)} (h:qN w BH P t av W out Z H) (h0:0<H.length) :
 ∃g c X o d f b xk e l R,H=(e :: l,xk) :: R∧cY W w.heap.size BH g H.length c ((o,d,f,b,xk) :: X) H∧(∀x ∈ (o,d,f,b,xk) :: X,x.1<w.heap.size)∧ah W (some ⟨o,d,none⟩) f b (e :: l):=by
 obtain ⟨g,c,X,hS,hl⟩:=h.hp h0;have r:=hS.own.len;match H,X,h0,hS,hl,h with
 | [],_,h0,_,_,_=>exact absurd h0 (by simp)
 | s :: R,[],_,_,_,_=>simp at r
 | s :: R,(o,d,f,b,xk) :: X,_,hS,hl,h =>
  obtain ⟨l0,rfl,hE,_⟩:=hS.rest 0 _ _ rfl rfl;obtain ⟨e,l,rfl⟩:=Ha ((h.hst.live _ FV).1);exact ⟨g,c,X,o,d,f,b,xk,e,l,R,rfl,hS,hl,hE⟩
theorem uE (h:W.ownsRow base 50 5 av out.length (aC out)) (hw:∀e ∈ out,dR e):∃a c,av=.slice a out.length c∧ah W a out.length c out:=by
 rcases h.2 with ⟨rfl,h0⟩ | ⟨g,b,d,rfl,_⟩
 · have:out=[]:=Gk.1 h0;subst this;exact ⟨none,0,rfl,⟨rfl,Fv _,FB _,by simp,fun _=>rfl,(fun x e=>by cases e),(fun x e=>by cases e)⟩⟩
 · exact ⟨_,b,rfl,ag.entsAt ⟨h,rfl,hw⟩⟩
theorem ag.cellsKept (h:ag w base g n c L) (hc:∀(k:Nat) (o:Obj),w.heap[k]?=some o→o.isCells=true→w'.heap[k]?=some o):ag w' base g n c L:=by
 refine ⟨⟨h.owns.1,?_⟩,h.len,h.ents⟩;rcases h.owns.2 with hn | ⟨s,d,b,e1,f,r,rest⟩
 · exact .inl hn
 · exact .inr ⟨s,d,b,e1,f,hc s _ r rfl,rest⟩
theorem tH (e:ae):aC [e]=aX e:=by simp [aC]
theorem qN.next {d:World} {r:List Nat} {o:Value} {R b:List (List ae × Nat)} {X4:List cW} (h:qN w BH P r av W out Z ((e :: l,xk) :: R)) (f:cY d w.heap.size BH g b.length c X4 b) (s:Mg.HSt b (Z.set xk l)) (t:Mg.HeapTo (Mg.lessS aW) b.length b)
 (hx4:∀x ∈ X4,x.1<w.heap.size) (hf4:d.frozen? ⟨BH,0,none⟩=false) (hrow:d.ownsRow (BH+1) 50 5 o (out.length+1) (aC out++aX e)) (hew:dR e) (hmk:dr w.heap.size d r) (hbel:Bl w d) (hfew:b.length≤1048576):qN w BH P r o d (out++[e]) (Z.set xk l) b:=by
 obtain ⟨h1,h2⟩:=h.hst.least dW h.heap;have h3:=mt h1;have h4:=h.len;refine ⟨⟨_,_,f.box⟩,hf4,fun _=>⟨g,c,X4,f,hx4⟩,s,t,h.mst.step dW h1 h2,?_,?_,?_,hfew,hmk,hbel⟩
 · rw [Fy,aL,tH];exact hrow
 · intro x hx;rcases FI.1 hx with h5 | h5
   · exact h.ents x h5
   · rw [FL] at h5;subst h5;exact hew
 · rw [Fy,List.length_singleton];omega
def Bh:Value→Nat
 | .slice _ n _=>n
 | _=>0
end Go.Proofs.YtpobkmjicbobdaaGreat
