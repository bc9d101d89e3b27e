/- Walks. -/
import Derived.Test.YtpobkmjicbobdaaGreatBl16
namespace Go.Proofs.YtpobkmjicbobdaaGreat
set_option maxRecDepth 100000
set_option maxHeartbeats 40000000
open Go.RowKit
variable {O:List an} {c k n:Nat} {r x:an} {w:World} {xs:List Value}
theorem AB (h:x ∈ me O r):x=r∨x ∈ O:=by
 unfold me at h;rcases Dd.1 h with h | h
 · exact .inr (Dw h)
 · rcases Dd.1 h with h | h
   · exact .inl (Df.1 h)
   · exact .inr (DE h)
theorem jB:∀(B A:List an) {x:an},x ∈ dq A B→x ∈ A∨x ∈ B
 | [],A,x,h=>.inl h
 | r :: B,A,x,h=>by
  rcases jB B (me A r) h with h | h
  · rcases AB h with h | h
    · exact .inr (by simp [h])
    · exact .inl h
  · exact .inr (DB _ h)
theorem sX (h:pt O r n=pt O r k) (hk:0<k) (hx:O[k - 1]?=some x) (hg:mi (bd x.1) (bd r.1)=false):pt O r n=k:=by
 obtain ⟨b,rfl⟩:∃b,k=b+1:=⟨k - 1,by omega⟩;rw [DU] at hx;rw [h,pt,hx];simp only [hg,EE,if_false]
theorem jZ (A:List an) {B:List an} {i:Nat} {r:an} (h:B[i]?=some r):dq A (B.take (i+1))=me (dq A (B.take i)) r:=by
 rw [Dl,h];unfold dq;rw [List.foldl_append];rfl
theorem l7 {base e size g:Nat} (h:w.ownsRow base e size (sL g n c) n xs) (hk:k≤n):w.ownsRow base e size (sL g k c) k (xs.take (k*size)):=by
 have hl:=h.1;have hm:k*size≤n*size:=Nat.mul_le_mul_right _ hk;rcases h.2 with ⟨hv,_⟩ | ⟨f,d,b,hv,h1,h2,h3,h4,h5,h6⟩
 · cases hv
 · cases hv;refine ⟨by rw [C5,hl];omega,.inr ⟨g,c,b,rfl,h1,h2,by omega,h4,h5,?_⟩⟩;rw [← h6,List.take_take];congr 1
   omega
theorem rx {p:Nat→Prop} {a b:Value} (hd:dW p w xs O) (hr:dW p w [a,b] [r]) (hk:k≤O.length):dW p w (xs.take (k*2)++[a,b]++xs.drop (k*2)) (O.take k++([r]++O.drop k)):=by
 have hl:=hd.1;have h1:dW p w (xs.take (k*2)) (O.take k):=by
  refine ⟨by rw [C5,C5];omega,fun i x hx=>?_⟩;have hi:=(Cx.1 hx).1;rw [C5] at hi;rw [DI (by omega)] at hx;rw [DI (by omega),DI (by omega)];exact hd.2 i x hx
 have h2:dW p w (xs.drop (k*2)) (O.drop k):=by
  refine ⟨by rw [Dh,Dh];omega,fun i x hx=>?_⟩;rw [DH] at hx;rw [DH,DH,show k*2+i*2=(k+i)*2 by omega,show k*2+(i*2+1)=(k+i)*2+1 by omega];exact hd.2 (k+i) x hx
 have:=h1.app (hr.app h2);simpa using this
theorem pL (bA oA nA cA:Nat) (A:List an) (bB oB nB cB:Nat) (B:List an) (w:World) (hA:ay 0 w (some ⟨bA,oA,none⟩) nA cA A) (hB:ay 0 w (some ⟨bB,oB,none⟩) nB cB B) (b8:bB<w.heap.size) (bb:∀r ∈ A,1≤r.1.length) (bc:∀r ∈ B,1≤r.1.length) (d1:nA≤1000) (cW:nB≤100000) :
 Calls Tryz.prog 180 #[sO bA oA nA cA,sO bB oB nB cB] w fun e w'=>∃g n c xs,e=.returned (sL g n c)∧w'.ownsRow w.heap.size 63 2 (sL g n c) n xs∧dW (·<w.heap.size) w xs (dq A B)∧Bl w w':=by
 obtain ⟨j0,hj,a2,a3,a1⟩:=info_parts Tryz.infoRun;have HB:=bO hB;have cp:CG (B.length=nB):=hB.length;have cw:=bO bb;have bN:=bO bc;obtain ⟨aC,dA,rA⟩:=hA.raw;have bW:CG (dW (·<w.heap.size) w aC A):=dA.denP;have bE:CG (mQ w (sO bA oA nA cA) nA aC):=rA;have ka:Bl w (w.alloc (.cells #[] 63)):=bZ;have KA:CG (Bl w (w.alloc (.cells #[] 63))):=ka;have R1:CG ((w.alloc (.cells #[] 63)).ownsRow w.heap.size 63 2 (sL (w.heap.size) 0 0) 0 []):=by
  have:=Do (base:=w.heap.size) (e:=63) (size:=2) w #[] 0 (Cy _) (by simp) (by simp);show World.ownsRow _ _ _ _ _ _ _
  simpa using this
 have a8:CG (∀j u,aC[j]?=some u→(w.alloc (.cells #[] 63)).cell? ((⟨bA,oA,none⟩:Addr).add j)=some u):=fun j u R=>by
  rcases (rA.keep ka).2.2 with ⟨h,_⟩ | ⟨b,o,c,h,hc⟩
  · cases h
  · cases h;rw [De];exact hc j u R
 clear hA hB bb bc dA rA ka;go_enter Tryz.func180,Tryz.ntmps180
 go_wp2_with (at_builtin;refine wpList_append_own _ rfl _ _ 61 rfl w.heap.size 63 j0 _ 2 32 Tryz.underlying61 hj a2 a3 a1 rfl (by decide) _ _ _ rfl R1.o ⟨bA,oA,none⟩ nA cA aC rfl bE.o.1 a8.o bE.o.2.1 (by unfold maxLen;omega) (by omega) (by simp) ?_;intro v1 w1 al ar aK;obtain ⟨g1,c1,rfl⟩:=aF al aK)
 have c7:CG (w1.ownsRow w.heap.size 63 2 (sL g1 nA c1) nA aC):=by
  show World.ownsRow _ _ _ _ _ _ _
  simpa using al
 have K1:CG (Bl w w1):=KA.o.grown ar KA.o.size (fun k e=>(R1.o.lt k e).1);clear al ar aK;go_wp2;go_loopw [5,6] (fun ov iv wr=>∃(i g n c:Nat) (xs:List Value),i≤nB∧iv=iT (i:Int)∧ov=sL g n c∧n=nA+i∧wr.ownsRow w.heap.size 63 2 (sL g n c) n xs∧dW (·<w.heap.size) w xs (dq A (B.take i))∧Bl w wr) (fun _ iv _=>nB - (intOf iv).toNat)
 case atStart=>exact ⟨0,g1,nA,c1,aC,C3 _,rfl,by first | rfl | simp,rfl,c7.o,bW.o,K1.o⟩
 case round =>
  clear c7 K1 R1 KA a8 bE bW;obtain ⟨i,g,n,c,xs,da,rfl,rfl,cf,hr,hd,hb⟩:=hrel;have HR:CG (wr.ownsRow w.heap.size 63 2 (sL g n c) n xs):=hr;have HD:CG (dW (·<w.heap.size) w xs (dq A (B.take i))):=hd;have HK:CG (Bl w wr):=hb;have bF:CG (n=nA+i):=cf;have d2:n≤101000:=by omega
  clear hr hd cf;by_cases cD:i<nB
  · have cc:(i:Int)<(nB:Int):=by omega
    obtain ⟨Lr,y,T,L,Q,bx,cG,q0,q1,bs⟩:=HB.o.run (Below.refl _ w) i cD;have bC:CG (B[i]?=some (Lr,y)):=bx;have cu:CG (1≤L):=by have h1:=bN.o _ (CV bx);have h2:=bs.1.length;show _≤_;simp only at h1;omega
    obtain ⟨O,hO⟩:=aH (dq A (B.take i));have bD:CG (O=dq A (B.take i)):=hO;have bz:CG ((Lit.int .i64 y).wf=true):=cG;have bw:CG (ag w T L Q Lr):=bs.1;have ah:CG (dW (·<w.heap.size) w xs O):=by rw [hO];exact HD.o
    have ap:CG (O.length=n):=by show _=_;have h1:=HR.o.1;have h2:=ah.o.1;omega
    have cv:CG (∀r ∈ O,1≤r.1.length):=by
     rw [hO];intro r hr;rcases jB _ _ hr with h | h
     · exact cw.o r h
     · exact bN.o r (Dw h)
    obtain ⟨Wq,bv⟩:=aH wr;rw [← bv] at HR HK;have cd:CG (Bl Wq wr):=by rw [bv];exact Below.refl _ _
    clear bv bx;go_wp2;go_loopw [7] (fun kv wr=>∃k:Nat,k≤n∧kv=iT (k:Int)∧pt O (Lr,y) n=pt O (Lr,y) k∧Bl Wq wr) (fun kv _=>(intOf kv).toNat)
    case atStart=>exact ⟨n,Cy _,rfl,rfl,cd.o⟩
    case round =>
     clear cd;obtain ⟨k,aA,rfl,c2,bo⟩:=hrel;have ba:CG (pt O (Lr,y) n=pt O (Lr,y) k):=c2;have b7:CG (Bl Wq wr):=bo;have aB:Bl w wr:=HK.o.trans (bo.mono HK.o.size);have zz:0<wr.heap.size:=by have:=aB.size;omega
     clear c2;have F:Bl wr wr.drew:=(Below.refl _ wr).drew;by_cases bQ:k=0
     · have HJ:CG (pt O (Lr,y) n=k):=by show _=_;rw [ba.o,bQ];rfl
       have bS:¬(k:Int) > 0:=by omega
       have aV:¬(0:Int)<(k:Int):=by omega
       have aL:¬0<k:=by omega
       have cn:decide ((0:Int)<(k:Int))=false:=decide_eq_false aV;have co:decide (0<k)=false:=decide_eq_false aL;clear bQ;have m:CG (∀w',Bl wr w'→(fun w'=>0<w'.heap.size) w'):=fun w' X=>l' zz X.size
       go_upto_region 6 with fail
       refine ez m F fun t=>?_
       generalize wr.drew=Z at F t ⊢;refine aP 0 8 t ?_;refine aP 9 4 t ?_;refine aR 8 fun K hK=>?_
       go_simp;refine hK.o _ _ (m.o _ F) fun t=>?_
       (try go_frame);refine aR 13 fun K hK=>?_
       go_simp;refine hK.o _ _ (m.o _ F) fun t=>?_
       (try go_frame);refine aP 14 2 t ?_;refine dN ?_;generalize Z=f at F t ⊢;have KZ:CG (Bl Wq f):=b7.o.trans (F.mono b7.o.size);clear t m F;have ad:CG (Bl w f):=HK.o.trans (KZ.o.mono HK.o.size);have E:CG (f.ownsRow w.heap.size 63 2 (sL g n c) n xs):=bu HR.o KZ.o;have c4:=(cQ E.o).1;have a4:=E.o.1;obtain ⟨ox,a0⟩:=aH (if c=k then 0 else k*2);have bY:(if c=k then some (⟨g,0,none⟩:Addr) else some ⟨g,k*2,none⟩)=some ⟨g,ox,none⟩:=by rw [a0];split <;> rfl
       obtain ⟨nt,aE⟩:∃nt,n - k=nt:=⟨_,rfl⟩;obtain ⟨ct,bX⟩:∃ct,c - k=ct:=⟨_,rfl⟩;have kt:Bl f (f.alloc (.cells #[] 63)):=bZ;have KT:CG (Bl f (f.alloc (.cells #[] 63))):=kt;have a8:CG (∀j u,(xs.drop (k*2))[j]?=some u→(f.alloc (.cells #[] 63)).cell? ((⟨g,ox,none⟩:Addr).add j)=some u):=fun j u R=>by
        rw [DH] at R;have h1:=(bu E.o kt).cells (g:=g) rfl _ _ R;have h2:¬c=k:=by intro e;have h3:=(Cx.1 R).1;omega
        rw [De,C6] at h1;rw [De,a0,if_neg h2];exact h1
       have ai:CG (∀u ∈ xs.drop (k*2),u.oneCell'=true):=fun u R=>ah.o.den.one u (DE R)
       have a7:CG ((xs.drop (k*2)).length=nt*2):=by show _=_;rw [Dh,a4,← aE];omega
       have R0:CG ((f.alloc (.cells #[] 63)).ownsRow f.heap.size 63 2 (sL (f.heap.size) 0 0) 0 []):=by
        have:=Do (base:=f.heap.size) (e:=63) (size:=2) f #[] 0 (Cy _) (by simp) (by simp);show World.ownsRow _ _ _ _ _ _ _
        simpa using this
       have bg:(k:Int)≤(n:Int):=by omega
       have bk:(k:Int)≤(c:Int):=by omega
       have bi:(n:Int)≤(c:Int):=by omega
       have bh:nt≤101000:=by omega
       clear kt a0 a4;go_upto_region 9 with (at_builtin;refine wpList_append_own _ rfl _ _ 61 rfl f.heap.size 63 j0 _ 2 32 Tryz.underlying61 hj a2 a3 a1 rfl (by decide) _ _ _ rfl R0.o ⟨g,ox,none⟩ nt ct (xs.drop (k*2)) rfl a7.o a8.o ai.o (by unfold maxLen;omega) (by omega) (by simp) ?_;intro vt I d s C;obtain ⟨Y,ab,rfl⟩:=aF d C)
       all_goals try (rename_i hbad;exact absurd hbad.1 (by decide))
       simp only [C6] at d;have a6:CG (Bl f I):=KT.o.grown s KT.o.size (fun k e=>by have h1:=CZ (show some f.heap.size=some k from e);omega);have aU:CG (I.ownsRow f.heap.size 63 2 (sL Y nt ab) nt (xs.drop (k*2))):=d;have aN:CG (I.ownsRow w.heap.size 63 2 (sL g k c) k (xs.take (k*2))):=l7 (bu E.o a6.o) aA;have aZ:CG (Y≠g):=by have h1:=(E.o.lt g rfl).2;have h2:=(d.lt Y rfl).1;show Y≠g;omega
       have ac:CG (Bl w I):=ad.o.trans (a6.o.mono ad.o.size);have af:=q0;have aj:=q1;have m:CG (∀w',Bl w w'→(fun w'=>w'.cell? ⟨bB,oB+i*2,none⟩=some (.slice T L Q)∧w'.cell? ⟨bB,oB+i*2+1,none⟩=some (iT y)∧bB<w'.heap.size) w'):=fun w' X=>⟨cell_later X af,cell_later X aj,l' b8 X.size⟩
       have kd:Bl I I.drew:=(Below.refl _ I).drew;have F:Bl w I.drew:=ac.o.trans (kd.mono ac.o.size);have p0:=bu aN.o kd;have t0:=bu aU.o kd;clear d s C kd af aj;refine ez m F fun t=>?_
       generalize I.drew=Z at F p0 t0 t ⊢;refine aP 0 7 t ?_;refine aP 9 1 t ?_;refine aR 7 fun K hK=>?_
       go_simp;have kc:Bl Z (Z.alloc (.cells #[.slice T L Q,iT y] 63)):=bZ;have k1:Bl w (Z.alloc (.cells #[.slice T L Q,iT y] 63)):=F.trans (kc.mono F.size);have p1:=bu p0 kc;have t1:=bu t0 kc;have H:=bH Z (.slice T L Q) (iT y) 63;generalize Z.heap.size=gb at H ⊢;generalize Z.alloc (.cells #[.slice T L Q,iT y] 63)=wb at k1 p1 t1 H ⊢;refine hK.o _ _ (m.o _ k1) fun t=>?_
       (try go_frame);refine aR 8 fun K hK=>?_
       refine aw rfl (.tmp 45) (.tmp 50) 61 rfl w.heap.size 63 j0 _ 2 32 Tryz.underlying61 hj a2 a3 a1 rfl (by decide) _ _ _ rfl p1 ⟨gb,0,none⟩ 1 1 [.slice T L Q,iT y] rfl rfl H (by intro u R;simp at R;rcases R with rfl | rfl <;> rfl) ?_ ?_ ?_ ?_
       · unfold maxLen;omega
       · omega
       · exact k1.size
       intro v8 w8 N a5 ae;obtain ⟨g8,c8,rfl⟩:=aF N ae;have D:wb.grownBy w8 (some g):=a5;have t2:=t1.kept D (.inr (fun e=>aZ.o (CZ (show some Y=some g from e))));have k2:Bl w w8:=k1.grown D k1.size (fun x e=>by have h1:=CZ e;have h2:=(p1.lt g rfl).1;omega);refine hK.o _ _ (m.o _ k2) fun t=>?_
       (try go_frame);refine aR 10 fun K hK=>?_
       refine aw rfl (.tmp 51) (.tmp 52) 61 rfl w.heap.size 63 j0 _ 2 32 Tryz.underlying61 hj a2 a3 a1 rfl (by decide) _ _ _ rfl N ⟨Y,0,none⟩ nt ab (xs.drop (k*2)) rfl a7.o (t2.cells (g:=Y) rfl) ai.o ?_ ?_ ?_ ?_
       · unfold maxLen;omega
       · omega
       · exact k2.size
       intro v9 w9 J a9 ak;obtain ⟨g9,c9,rfl⟩:=aF J ak;have U:w8.grownBy w9 (some g8):=a9;have k3:Bl w w9:=k2.grown U k2.size (fun x e=>by have h1:=CZ e;have h2:=(N.lt g8 rfl).1;omega);refine hK.o _ _ (m.o _ k3) fun t=>?_
       (try go_frame);refine aP 11 1 t ?_;refine dN ?_;have W:k+1+nt=n+1:=by omega
       rw [W] at J;have aI:CG (w9.ownsRow w.heap.size 63 2 (sL g9 (n+1) c9) (n+1) (xs.take (k*2)++[.slice T L Q,iT y]++xs.drop (k*2))):=J;have K9:CG (Bl w w9):=k3;have aO:CG (dW (·<w.heap.size) w (xs.take (k*2)++[.slice T L Q,iT y]++xs.drop (k*2)) (dq A (B.take (i+1)))):=by
        rw [jZ A bC.o,← bD.o];unfold me;rw [ap.o,HJ.o];exact rx ah.o (lG bz.o bw.o) (by rw [ap.o];exact aA)
       clear t F k1 k2 k3 p0 p1 t0 t1 t2 H N a5 D ae J a9 U ak;go_wp2;go_roundw
       case rel=>exact ⟨i+1,g9,n+1,c9,_,by omega,by go_num,by simp only [W],by have:=bF.o;omega,aI.o,aO.o,K9.o⟩
       case measure=>simp [intOf];omega
     · have bS:(k:Int) > 0:=by omega
       have aV:(0:Int)<(k:Int):=by omega
       have aL:0<k:=by omega
       have cn:decide ((0:Int)<(k:Int))=true:=decide_eq_true aV;have co:decide (0<k)=true:=decide_eq_true aL;have d8:IntKind.i64.wrap ((k:Int) - 1)=(k:Int) - 1:=by rw [Dg];unfold wrap64;omega
       have cY:(0:Int)≤(k:Int) - 1:=by omega
       have cK:(1:Int)≤(k:Int):=by omega
       have d5:(k:Int) - 1<(n:Int):=by omega
       have d4:((k:Int) - 1).toNat=k - 1:=by omega
       obtain ⟨⟨Lx,mx⟩,b6⟩:∃r,O[k - 1]?=some r:=⟨_,j' (by have:=ap.o;omega)⟩;obtain ⟨_,sx,nx,cx,bV,c6,bq,_⟩:=ah.o.2 (k - 1) _ b6;have au:=bu HR.o bo;have bG:=au.cells (g:=g) rfl _ _ bV;have bt:=au.cells (g:=g) rfl _ _ c6;rw [De,C6] at bG bt;have gz:=(au.lt g rfl).2;have c5:=cell_later aB q0;have cg:=cell_later aB q1;have qz:=l' b8 aB.size;have m:CG (∀w',Bl wr w'→(fun w'=>w'.cell? ⟨g,(k - 1)*2,none⟩=some (.slice sx nx cx)∧w'.cell? ⟨g,(k - 1)*2+1,none⟩=some (iT mx)∧w'.cell? ⟨bB,oB+i*2,none⟩=some (.slice T L Q)∧w'.cell? ⟨bB,oB+i*2+1,none⟩=some (iT y)∧g<w'.heap.size∧bB<w'.heap.size) w'):=fun w' X=>⟨cell_later X bG,cell_later X bt,cell_later X c5,cell_later X cg,l' gz X.size,l' qz X.size⟩
       obtain ⟨lx,bp⟩:=aH (bd Lx);obtain ⟨lr,bI⟩:=aH (bd Lr);have ch:1≤nx:=by have h1:=cv.o _ (CV b6);have h2:=bq.length;simp only at h1 h2;omega
       have bL:CG (∀w',Bl wr w'→Calls Tryz.prog 147 #[.agg #[.slice sx nx cx,iT mx]] w' fun r br=>r=.returned (.string lx)∧Bl w' br):=by rw [bp];exact fun w' X=>lc mx sx nx cx Lx w' ((bq.keep aB).keep X) ch
       have bP:CG (∀w',Bl wr w'→Calls Tryz.prog 147 #[.agg #[.slice T L Q,iT y]] w' fun r br=>r=.returned (.string lr)∧Bl w' br):=by rw [bI];exact fun w' X=>lc y T L Q Lr w' ((bs.1.keep aB).keep X) cu.o
       have am:CG (O[k - 1]?=some (Lx,mx)∧lx=bd Lx∧lr=bd Lr):=⟨b6,bp,bI⟩;clear b6 bV c6 bq au bG bt c5 cg bp bI ch;go_upto_region 6 with fail
       refine ez m F fun t=>?_
       generalize wr.drew=Z at F t ⊢;refine aP 0 8 t ?_;refine aP 9 4 t ?_;refine aR 8 fun K hK=>?_
       go_simp;refine (bL.o _ F).mono ?_;rintro e wCLX ⟨rfl,aY⟩;have aQ:Bl wr wCLX:=F.trans (aY.mono F.size);go_wp2_with fail
       refine hK.o _ _ (m.o _ aQ) fun t=>?_
       (try go_frame);refine aR 13 fun K hK=>?_
       go_simp;refine (bP.o _ aQ).mono ?_;rintro e wCLR ⟨rfl,aM⟩;have az:Bl wr wCLR:=aQ.trans (aM.mono aQ.size);go_wp2_with fail
       refine hK.o _ _ (m.o _ az) fun t=>?_
       (try go_frame);refine aP 14 2 t ?_;refine dN ?_;generalize wCLR=f at az t ⊢;have KZ:CG (Bl Wq f):=b7.o.trans (az.mono b7.o.size);clear t m F aQ az aY aM bL bP;cases ha:Op.bytesLess lx.toList lr.toList with
       | true =>
        have HJ:CG (pt O (Lr,y) n=k):=sX ba.o aL am.o.1 (by rw [← am.o.2.1,← am.o.2.2];simp [mi,ha]);have hb:(lx.toList == lr.toList)=false:=by rw [beq_eq_false_iff_ne];intro e;rw [e,bU] at ha;cases ha
        have cV:(!Op.bytesLess lx.toList lr.toList)=false:=by rw [ha];rfl
        have d7:(!Op.bytesLess lx.toList lr.toList && !lx.toList == lr.toList)=false:=by rw [ha];rfl
        clear hb;have ad:CG (Bl w f):=HK.o.trans (KZ.o.mono HK.o.size);have E:CG (f.ownsRow w.heap.size 63 2 (sL g n c) n xs):=bu HR.o KZ.o;have c4:=(cQ E.o).1;have a4:=E.o.1;obtain ⟨ox,a0⟩:=aH (if c=k then 0 else k*2);have bY:(if c=k then some (⟨g,0,none⟩:Addr) else some ⟨g,k*2,none⟩)=some ⟨g,ox,none⟩:=by rw [a0];split <;> rfl
        obtain ⟨nt,aE⟩:∃nt,n - k=nt:=⟨_,rfl⟩;obtain ⟨ct,bX⟩:∃ct,c - k=ct:=⟨_,rfl⟩;have kt:Bl f (f.alloc (.cells #[] 63)):=bZ;have KT:CG (Bl f (f.alloc (.cells #[] 63))):=kt;have a8:CG (∀j u,(xs.drop (k*2))[j]?=some u→(f.alloc (.cells #[] 63)).cell? ((⟨g,ox,none⟩:Addr).add j)=some u):=fun j u R=>by
         rw [DH] at R;have h1:=(bu E.o kt).cells (g:=g) rfl _ _ R;have h2:¬c=k:=by intro e;have h3:=(Cx.1 R).1;omega
         rw [De,C6] at h1;rw [De,a0,if_neg h2];exact h1
        have ai:CG (∀u ∈ xs.drop (k*2),u.oneCell'=true):=fun u R=>ah.o.den.one u (DE R)
        have a7:CG ((xs.drop (k*2)).length=nt*2):=by show _=_;rw [Dh,a4,← aE];omega
        have R0:CG ((f.alloc (.cells #[] 63)).ownsRow f.heap.size 63 2 (sL (f.heap.size) 0 0) 0 []):=by
         have:=Do (base:=f.heap.size) (e:=63) (size:=2) f #[] 0 (Cy _) (by simp) (by simp);show World.ownsRow _ _ _ _ _ _ _
         simpa using this
        have bg:(k:Int)≤(n:Int):=by omega
        have bk:(k:Int)≤(c:Int):=by omega
        have bi:(n:Int)≤(c:Int):=by omega
        have bh:nt≤101000:=by omega
        clear kt a0 a4;go_upto_region 9 with (at_builtin;refine wpList_append_own _ rfl _ _ 61 rfl f.heap.size 63 j0 _ 2 32 Tryz.underlying61 hj a2 a3 a1 rfl (by decide) _ _ _ rfl R0.o ⟨g,ox,none⟩ nt ct (xs.drop (k*2)) rfl a7.o a8.o ai.o (by unfold maxLen;omega) (by omega) (by simp) ?_;intro vt I d s C;obtain ⟨Y,ab,rfl⟩:=aF d C)
        all_goals try (rename_i hbad;exact absurd hbad.1 (by decide))
        simp only [C6] at d;have a6:CG (Bl f I):=KT.o.grown s KT.o.size (fun k e=>by have h1:=CZ (show some f.heap.size=some k from e);omega);have aU:CG (I.ownsRow f.heap.size 63 2 (sL Y nt ab) nt (xs.drop (k*2))):=d;have aN:CG (I.ownsRow w.heap.size 63 2 (sL g k c) k (xs.take (k*2))):=l7 (bu E.o a6.o) aA;have aZ:CG (Y≠g):=by have h1:=(E.o.lt g rfl).2;have h2:=(d.lt Y rfl).1;show Y≠g;omega
        have ac:CG (Bl w I):=ad.o.trans (a6.o.mono ad.o.size);have af:=q0;have aj:=q1;have m:CG (∀w',Bl w w'→(fun w'=>w'.cell? ⟨bB,oB+i*2,none⟩=some (.slice T L Q)∧w'.cell? ⟨bB,oB+i*2+1,none⟩=some (iT y)∧bB<w'.heap.size) w'):=fun w' X=>⟨cell_later X af,cell_later X aj,l' b8 X.size⟩
        have kd:Bl I I.drew:=(Below.refl _ I).drew;have F:Bl w I.drew:=ac.o.trans (kd.mono ac.o.size);have p0:=bu aN.o kd;have t0:=bu aU.o kd;clear d s C kd af aj;refine ez m F fun t=>?_
        generalize I.drew=Z at F p0 t0 t ⊢;refine aP 0 7 t ?_;refine aP 9 1 t ?_;refine aR 7 fun K hK=>?_
        go_simp;have kc:Bl Z (Z.alloc (.cells #[.slice T L Q,iT y] 63)):=bZ;have k1:Bl w (Z.alloc (.cells #[.slice T L Q,iT y] 63)):=F.trans (kc.mono F.size);have p1:=bu p0 kc;have t1:=bu t0 kc;have H:=bH Z (.slice T L Q) (iT y) 63;generalize Z.heap.size=gb at H ⊢;generalize Z.alloc (.cells #[.slice T L Q,iT y] 63)=wb at k1 p1 t1 H ⊢;refine hK.o _ _ (m.o _ k1) fun t=>?_
        (try go_frame);refine aR 8 fun K hK=>?_
        refine aw rfl (.tmp 45) (.tmp 50) 61 rfl w.heap.size 63 j0 _ 2 32 Tryz.underlying61 hj a2 a3 a1 rfl (by decide) _ _ _ rfl p1 ⟨gb,0,none⟩ 1 1 [.slice T L Q,iT y] rfl rfl H (by intro u R;simp at R;rcases R with rfl | rfl <;> rfl) ?_ ?_ ?_ ?_
        · unfold maxLen;omega
        · omega
        · exact k1.size
        intro v8 w8 N a5 ae;obtain ⟨g8,c8,rfl⟩:=aF N ae;have D:wb.grownBy w8 (some g):=a5;have t2:=t1.kept D (.inr (fun e=>aZ.o (CZ (show some Y=some g from e))));have k2:Bl w w8:=k1.grown D k1.size (fun x e=>by have h1:=CZ e;have h2:=(p1.lt g rfl).1;omega);refine hK.o _ _ (m.o _ k2) fun t=>?_
        (try go_frame);refine aR 10 fun K hK=>?_
        refine aw rfl (.tmp 51) (.tmp 52) 61 rfl w.heap.size 63 j0 _ 2 32 Tryz.underlying61 hj a2 a3 a1 rfl (by decide) _ _ _ rfl N ⟨Y,0,none⟩ nt ab (xs.drop (k*2)) rfl a7.o (t2.cells (g:=Y) rfl) ai.o ?_ ?_ ?_ ?_
        · unfold maxLen;omega
        · omega
        · exact k2.size
        intro v9 w9 J a9 ak;obtain ⟨g9,c9,rfl⟩:=aF J ak;have U:w8.grownBy w9 (some g8):=a9;have k3:Bl w w9:=k2.grown U k2.size (fun x e=>by have h1:=CZ e;have h2:=(N.lt g8 rfl).1;omega);refine hK.o _ _ (m.o _ k3) fun t=>?_
        (try go_frame);refine aP 11 1 t ?_;refine dN ?_;have W:k+1+nt=n+1:=by omega
        rw [W] at J;have aI:CG (w9.ownsRow w.heap.size 63 2 (sL g9 (n+1) c9) (n+1) (xs.take (k*2)++[.slice T L Q,iT y]++xs.drop (k*2))):=J;have K9:CG (Bl w w9):=k3;have aO:CG (dW (·<w.heap.size) w (xs.take (k*2)++[.slice T L Q,iT y]++xs.drop (k*2)) (dq A (B.take (i+1)))):=by
         rw [jZ A bC.o,← bD.o];unfold me;rw [ap.o,HJ.o];exact rx ah.o (lG bz.o bw.o) (by rw [ap.o];exact aA)
        clear t F k1 k2 k3 p0 p1 t0 t1 t2 H N a5 D ae J a9 U ak;go_wp2;go_roundw
        case rel=>exact ⟨i+1,g9,n+1,c9,_,by omega,by go_num,by simp only [W],by have:=bF.o;omega,aI.o,aO.o,K9.o⟩
        case measure=>simp [intOf];omega
       | false =>
        cases hb:(lx.toList == lr.toList) with
        | true =>
         have HJ:CG (pt O (Lr,y) n=k):=sX ba.o aL am.o.1 (by rw [← am.o.2.1,← am.o.2.2];simp [mi,hb]);have cZ:lx.toList=lr.toList:=by simpa using hb
         have ad:CG (Bl w f):=HK.o.trans (KZ.o.mono HK.o.size);have E:CG (f.ownsRow w.heap.size 63 2 (sL g n c) n xs):=bu HR.o KZ.o;have c4:=(cQ E.o).1;have a4:=E.o.1;obtain ⟨ox,a0⟩:=aH (if c=k then 0 else k*2);have bY:(if c=k then some (⟨g,0,none⟩:Addr) else some ⟨g,k*2,none⟩)=some ⟨g,ox,none⟩:=by rw [a0];split <;> rfl
         obtain ⟨nt,aE⟩:∃nt,n - k=nt:=⟨_,rfl⟩;obtain ⟨ct,bX⟩:∃ct,c - k=ct:=⟨_,rfl⟩;have kt:Bl f (f.alloc (.cells #[] 63)):=bZ;have KT:CG (Bl f (f.alloc (.cells #[] 63))):=kt;have a8:CG (∀j u,(xs.drop (k*2))[j]?=some u→(f.alloc (.cells #[] 63)).cell? ((⟨g,ox,none⟩:Addr).add j)=some u):=fun j u R=>by
          rw [DH] at R;have h1:=(bu E.o kt).cells (g:=g) rfl _ _ R;have h2:¬c=k:=by intro e;have h3:=(Cx.1 R).1;omega
          rw [De,C6] at h1;rw [De,a0,if_neg h2];exact h1
         have ai:CG (∀u ∈ xs.drop (k*2),u.oneCell'=true):=fun u R=>ah.o.den.one u (DE R)
         have a7:CG ((xs.drop (k*2)).length=nt*2):=by show _=_;rw [Dh,a4,← aE];omega
         have R0:CG ((f.alloc (.cells #[] 63)).ownsRow f.heap.size 63 2 (sL (f.heap.size) 0 0) 0 []):=by
          have:=Do (base:=f.heap.size) (e:=63) (size:=2) f #[] 0 (Cy _) (by simp) (by simp);show World.ownsRow _ _ _ _ _ _ _
          simpa using this
         have bg:(k:Int)≤(n:Int):=by omega
         have bk:(k:Int)≤(c:Int):=by omega
         have bi:(n:Int)≤(c:Int):=by omega
         have bh:nt≤101000:=by omega
         clear kt a0 a4;go_upto_region 9 with (at_builtin;refine wpList_append_own _ rfl _ _ 61 rfl f.heap.size 63 j0 _ 2 32 Tryz.underlying61 hj a2 a3 a1 rfl (by decide) _ _ _ rfl R0.o ⟨g,ox,none⟩ nt ct (xs.drop (k*2)) rfl a7.o a8.o ai.o (by unfold maxLen;omega) (by omega) (by simp) ?_;intro vt I d s C;obtain ⟨Y,ab,rfl⟩:=aF d C)
         all_goals try (rename_i hbad;exact absurd hbad.1 (by decide))
         simp only [C6] at d;have a6:CG (Bl f I):=KT.o.grown s KT.o.size (fun k e=>by have h1:=CZ (show some f.heap.size=some k from e);omega);have aU:CG (I.ownsRow f.heap.size 63 2 (sL Y nt ab) nt (xs.drop (k*2))):=d;have aN:CG (I.ownsRow w.heap.size 63 2 (sL g k c) k (xs.take (k*2))):=l7 (bu E.o a6.o) aA;have aZ:CG (Y≠g):=by have h1:=(E.o.lt g rfl).2;have h2:=(d.lt Y rfl).1;show Y≠g;omega
         have ac:CG (Bl w I):=ad.o.trans (a6.o.mono ad.o.size);have af:=q0;have aj:=q1;have m:CG (∀w',Bl w w'→(fun w'=>w'.cell? ⟨bB,oB+i*2,none⟩=some (.slice T L Q)∧w'.cell? ⟨bB,oB+i*2+1,none⟩=some (iT y)∧bB<w'.heap.size) w'):=fun w' X=>⟨cell_later X af,cell_later X aj,l' b8 X.size⟩
         have kd:Bl I I.drew:=(Below.refl _ I).drew;have F:Bl w I.drew:=ac.o.trans (kd.mono ac.o.size);have p0:=bu aN.o kd;have t0:=bu aU.o kd;clear d s C kd af aj;refine ez m F fun t=>?_
         generalize I.drew=Z at F p0 t0 t ⊢;refine aP 0 7 t ?_;refine aP 9 1 t ?_;refine aR 7 fun K hK=>?_
         go_simp;have kc:Bl Z (Z.alloc (.cells #[.slice T L Q,iT y] 63)):=bZ;have k1:Bl w (Z.alloc (.cells #[.slice T L Q,iT y] 63)):=F.trans (kc.mono F.size);have p1:=bu p0 kc;have t1:=bu t0 kc;have H:=bH Z (.slice T L Q) (iT y) 63;generalize Z.heap.size=gb at H ⊢;generalize Z.alloc (.cells #[.slice T L Q,iT y] 63)=wb at k1 p1 t1 H ⊢;refine hK.o _ _ (m.o _ k1) fun t=>?_
         (try go_frame);refine aR 8 fun K hK=>?_
         refine aw rfl (.tmp 45) (.tmp 50) 61 rfl w.heap.size 63 j0 _ 2 32 Tryz.underlying61 hj a2 a3 a1 rfl (by decide) _ _ _ rfl p1 ⟨gb,0,none⟩ 1 1 [.slice T L Q,iT y] rfl rfl H (by intro u R;simp at R;rcases R with rfl | rfl <;> rfl) ?_ ?_ ?_ ?_
         · unfold maxLen;omega
         · omega
         · exact k1.size
         intro v8 w8 N a5 ae;obtain ⟨g8,c8,rfl⟩:=aF N ae;have D:wb.grownBy w8 (some g):=a5;have t2:=t1.kept D (.inr (fun e=>aZ.o (CZ (show some Y=some g from e))));have k2:Bl w w8:=k1.grown D k1.size (fun x e=>by have h1:=CZ e;have h2:=(p1.lt g rfl).1;omega);refine hK.o _ _ (m.o _ k2) fun t=>?_
         (try go_frame);refine aR 10 fun K hK=>?_
         refine aw rfl (.tmp 51) (.tmp 52) 61 rfl w.heap.size 63 j0 _ 2 32 Tryz.underlying61 hj a2 a3 a1 rfl (by decide) _ _ _ rfl N ⟨Y,0,none⟩ nt ab (xs.drop (k*2)) rfl a7.o (t2.cells (g:=Y) rfl) ai.o ?_ ?_ ?_ ?_
         · unfold maxLen;omega
         · omega
         · exact k2.size
         intro v9 w9 J a9 ak;obtain ⟨g9,c9,rfl⟩:=aF J ak;have U:w8.grownBy w9 (some g8):=a9;have k3:Bl w w9:=k2.grown U k2.size (fun x e=>by have h1:=CZ e;have h2:=(N.lt g8 rfl).1;omega);refine hK.o _ _ (m.o _ k3) fun t=>?_
         (try go_frame);refine aP 11 1 t ?_;refine dN ?_;have W:k+1+nt=n+1:=by omega
         rw [W] at J;have aI:CG (w9.ownsRow w.heap.size 63 2 (sL g9 (n+1) c9) (n+1) (xs.take (k*2)++[.slice T L Q,iT y]++xs.drop (k*2))):=J;have K9:CG (Bl w w9):=k3;have aO:CG (dW (·<w.heap.size) w (xs.take (k*2)++[.slice T L Q,iT y]++xs.drop (k*2)) (dq A (B.take (i+1)))):=by
          rw [jZ A bC.o,← bD.o];unfold me;rw [ap.o,HJ.o];exact rx ah.o (lG bz.o bw.o) (by rw [ap.o];exact aA)
         clear t F k1 k2 k3 p0 p1 t0 t1 t2 H N a5 D ae J a9 U ak;go_wp2;go_roundw
         case rel=>exact ⟨i+1,g9,n+1,c9,_,by omega,by go_num,by simp only [W],by have:=bF.o;omega,aI.o,aO.o,K9.o⟩
         case measure=>simp [intOf];omega
        | false =>
         have cs:CG (pt O (Lr,y) n=pt O (Lr,y) (k - 1)):=by
          show _=_
          obtain ⟨k',rfl⟩:∃k',k=k'+1:=⟨k - 1,by omega⟩;have h1:=am.o;rw [DU] at h1 ⊢;rw [ba.o,pt,h1.1];simp only [← h1.2.1,← h1.2.2];rw [show mi lx lr=true by simp [mi,ha,hb]];rfl
         go_wp2;go_roundw
         case rel=>exact ⟨k - 1,by omega,by first | rfl | go_num,cs.o,KZ.o⟩
         case measure=>simp [intOf];omega
  · have cc:¬(i:Int)<(nB:Int):=by omega
    have aD:B.take i=B:=C9 (by rw [cp.o];omega);have hd:=HD.o;rw [aD] at hd;have cF:CG (dW (·<w.heap.size) w xs (dq A B)):=hd;clear hd aD;go_wp2;go_ret;exact ⟨g,n,c,rfl,xs,HR.o,cF.o,HK.o⟩
theorem oY {b f:Nat} {L:List ac} (h:ag w (some ⟨b,f,none⟩) n c L):∀j u,(aC L)[j]?=some u→w.cell? ((⟨b,f,none⟩:Addr).add j)=some u:=by
 intro j u d;have g:j<(aC L).length:=(Cx.1 d).1;rw [aU] at g;have hi:j / 5<L.length:=by omega
 obtain ⟨c0,c1,c2,c3,c4⟩:=h.cells _ rfl (j / 5) hi;obtain ⟨m,o,r2,r3,r4⟩:=fe L (j / 5) L[j / 5] (j' hi);rw [De];simp only [Eo] at c0 c1 c2 c3 c4;have:j=j / 5*5∨j=j / 5*5+1∨j=j / 5*5+2∨j=j / 5*5+3∨j=j / 5*5+4:=by omega
 rcases this with e | e | e | e | e
 · rw [← e] at m c0;rw [m] at d;cases d;exact c0
 · rw [← e] at o c1;rw [o] at d;cases d;exact c1
 · rw [← e] at r2 c2;rw [r2] at d;cases d;exact c2
 · rw [← e] at r3 c3;rw [r3] at d;cases d;exact c3
 · rw [← e] at r4 c4;rw [r4] at d;cases d;exact c4
theorem nQ (a:Option Addr) (n c:Nat) (L:List ac) (w:World) (hL:ag w a n c L) :
 Calls Tryz.prog 173 #[.slice a n c] w fun e w'=>e=.returned (.agg #[.slice a n c,iT ((cV L:Nat):Int)])∧Bl w w':=by
 go_enter Tryz.func173,Tryz.ntmps173
 go_wp2_with fail
 refine (lV a n c L _ (hL.keep bZ)).mono ?_;rintro e w1 ⟨rfl,b⟩;obtain ⟨d,f⟩:=wg b;have hz:=b.size;simp at hz;go_wp2;refine bodyPost_ret (v:=.agg #[.slice a n c,iT ((cV L:Nat):Int)]) (by simp [results,Tryz.results173,go_sem,d]) rfl ⟨rfl,?_⟩;have hB:Bl w w1:=bZ.trans (b.mono (by simp));exact (hB.setCell (p:=⟨w.heap.size,0,none⟩) (Cy _) _).setCell (p:=⟨w.heap.size,1,none⟩) (Cy _) _
end Go.Proofs.YtpobkmjicbobdaaGreat
