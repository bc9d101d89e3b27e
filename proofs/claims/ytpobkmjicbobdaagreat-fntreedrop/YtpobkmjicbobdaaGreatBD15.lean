/- Walks. -/
import Derived.Test.YtpobkmjicbobdaaGreatBD14
namespace Go.Proofs.YtpobkmjicbobdaaGreat
set_option maxRecDepth 100000
set_option maxHeartbeats 40000000
open Go.RowKit
variable {O:List af} {c k n:Nat} {r x:af} {w:World} {xs:List Value}
theorem Em (h:x ∈ nT O r):x=r∨x ∈ O:=by
 unfold nT at h;rcases Gw.1 h with h | h
 · exact .inr (GX h)
 · rcases Gw.1 h with h | h
   · exact .inl (GC.1 h)
   · exact .inr (Ha h)
theorem k9:∀(B A:List af) {x:af},x ∈ dH A B→x ∈ A∨x ∈ B
 | [],A,x,h=>.inl h
 | r :: B,A,x,h=>by
  rcases k9 B (nT A r) h with h | h
  · rcases Em h with h | h
    · exact .inr (by simp [h])
    · exact .inl h
  · exact .inr (GM _ h)
theorem vh (h:rF O r n=rF O r k) (hk:0<k) (hx:O[k - 1]?=some x) (hg:nY (bh x.1) (bh r.1)=false):rF O r n=k:=by
 obtain ⟨b,rfl⟩:∃b,k=b+1:=⟨k - 1,by omega⟩;rw [Hv] at hx;rw [h,rF,hx];simp only [hg,IM,if_false]
theorem lT (A:List af) {B:List af} {i:Nat} {r:af} (h:B[i]?=some r):dH A (B.take (i+1))=nT (dH A (B.take i)) r:=by
 rw [GH,h];unfold dH;rw [List.foldl_append];rfl
theorem nE {base e size g:Nat} (h:w.ownsRow base e size (sL g n c) n xs) (hk:k≤n):w.ownsRow base e size (sL g k c) k (xs.take (k*size)):=by
 have hl:=h.1;have hm:k*size≤n*size:=Nat.mul_le_mul_right _ hk;rcases h.2 with ⟨hv,_⟩ | ⟨f,d,b,hv,h1,h2,h3,h4,h5,h6⟩
 · cases hv
 · cases hv;refine ⟨by rw [Gn,hl];omega,.inr ⟨g,c,b,rfl,h1,h2,by omega,h4,h5,?_⟩⟩;rw [← h6,List.take_take];congr 1
   omega
theorem tZ {p:Nat→Prop} {a b:Value} (hd:dW p w xs O) (hr:dW p w [a,b] [r]) (hk:k≤O.length):dW p w (xs.take (k*2)++[a,b]++xs.drop (k*2)) (O.take k++([r]++O.drop k)):=by
 have hl:=hd.1;have h1:dW p w (xs.take (k*2)) (O.take k):=by
  refine ⟨by rw [Gn,Gn];omega,fun i x hx=>?_⟩;have hi:=(F'.1 hx).1;rw [Gn] at hi;rw [G3 (by omega)] at hx;rw [G3 (by omega),G3 (by omega)];exact hd.2 i x hx
 have h2:dW p w (xs.drop (k*2)) (O.drop k):=by
  refine ⟨by rw [Gy,Gy];omega,fun i x hx=>?_⟩;rw [Hb] at hx;rw [Hb,Hb,show k*2+i*2=(k+i)*2 by omega,show k*2+(i*2+1)=(k+i)*2+1 by omega];exact hd.2 (k+i) x hx
 have:=h1.app (hr.app h2);simpa using this
theorem se (bA oA nA cA:Nat) (A:List af) (bB oB nB cB:Nat) (B:List af) (w:World) (hA:aw 0 w (some ⟨bA,oA,none⟩) nA cA A) (hB:aw 0 w (some ⟨bB,oB,none⟩) nB cB B) (b5:bB<w.heap.size) (bd:∀r ∈ A,1≤r.1.length) (bk:∀r ∈ B,1≤r.1.length) (d0:nA≤1000) (d7:nB≤100000) :
 Calls Tryz.prog 180 #[sO bA oA nA cA,sO bB oB nB cB] w fun e w'=>∃g n c xs,e=.returned (sL g n c)∧w'.ownsRow w.heap.size 63 2 (sL g n c) n xs∧dW (·<w.heap.size) w xs (dH A B)∧Bl w w':=by
 obtain ⟨j0,hj,a3,a1,a2⟩:=info_parts Tryz.infoRun;have HB:=az hB;have cm:Eq (B.length=nB):=hB.length;have cu:=az bd;have c4:=az bk;obtain ⟨aB,dA,rA⟩:=hA.raw;have bL:Eq (dW (·<w.heap.size) w aB A):=dA.denP;have bI:Eq (pd w (sO bA oA nA cA) nA aB):=rA;have ka:Bl w (w.alloc (.cells #[] 63)):=bZ;have KA:Eq (Bl w (w.alloc (.cells #[] 63))):=ka;have R1:Eq ((w.alloc (.cells #[] 63)).ownsRow w.heap.size 63 2 (sL (w.heap.size) 0 0) 0 []):=by
  have:=GP (base:=w.heap.size) (e:=63) (size:=2) w #[] 0 (Gg _) (by simp) (by simp);show World.ownsRow _ _ _ _ _ _ _
  simpa using this
 have a4:Eq (∀j u,aB[j]?=some u→(w.alloc (.cells #[] 63)).cell? ((⟨bA,oA,none⟩:Addr).add j)=some u):=fun j u T=>by
  rcases (rA.keep ka).2.2 with ⟨h,_⟩ | ⟨b,o,c,h,hc⟩
  · cases h
  · cases h;rw [Gv];exact hc j u T
 clear hA hB bd bk dA rA ka;go_enter Tryz.func180,Tryz.ntmps180
 go_wp2_with (at_builtin;refine wpList_append_own _ rfl _ _ 61 rfl w.heap.size 63 j0 _ 2 32 Tryz.underlying61 hj a3 a1 a2 rfl (by decide) _ _ _ rfl R1.o ⟨bA,oA,none⟩ nA cA aB rfl bI.o.1 a4.o bI.o.2.1 (by unfold maxLen;omega) (by omega) (by simp) ?_;intro v1 w1 ao ar aC;obtain ⟨g1,c1,rfl⟩:=aL ao aC)
 have bO:Eq (w1.ownsRow w.heap.size 63 2 (sL g1 nA c1) nA aB):=by
  show World.ownsRow _ _ _ _ _ _ _
  simpa using ao
 have K1:Eq (Bl w w1):=KA.o.grown ar KA.o.size (fun k e=>(R1.o.lt k e).1);clear ao ar aC;go_wp2;go_loopw [5,6] (fun ov iv wr=>∃(i g n c:Nat) (xs:List Value),i≤nB∧iv=iT (i:Int)∧ov=sL g n c∧n=nA+i∧wr.ownsRow w.heap.size 63 2 (sL g n c) n xs∧dW (·<w.heap.size) w xs (dH A (B.take i))∧Bl w wr) (fun _ iv _=>nB - (intOf iv).toNat)
 case atStart=>exact ⟨0,g1,nA,c1,aB,Gl _,rfl,by first | rfl | simp,rfl,bO.o,bL.o,K1.o⟩
 case round =>
  clear bO K1 R1 KA a4 bI bL;obtain ⟨i,g,n,c,xs,d2,rfl,rfl,ce,hr,hd,hb⟩:=hrel;have HR:Eq (wr.ownsRow w.heap.size 63 2 (sL g n c) n xs):=hr;have HD:Eq (dW (·<w.heap.size) w xs (dH A (B.take i))):=hd;have HK:Eq (Bl w wr):=hb;have bz:Eq (n=nA+i):=ce;have d5:n≤101000:=by omega
  clear hr hd ce;by_cases co:i<nB
  · have cd:(i:Int)<(nB:Int):=by omega
    obtain ⟨Lr,y,Q,N,R,bG,cv,q0,q1,bD⟩:=HB.o.run (Below.refl _ w) i co;have bs:Eq (B[i]?=some (Lr,y)):=bG;have cC:Eq (1≤N):=by have h1:=c4.o _ (Gk bG);have h2:=bD.1.length;show _≤_;simp only at h1;omega
    obtain ⟨O,hO⟩:=aF (dH A (B.take i));have bv:Eq (O=dH A (B.take i)):=hO;have bn:Eq ((Lit.int .i64 y).wf=true):=cv;have bt:Eq (aj w Q N R Lr):=bD.1;have ab:Eq (dW (·<w.heap.size) w xs O):=by rw [hO];exact HD.o
    have am:Eq (O.length=n):=by show _=_;have h1:=HR.o.1;have h2:=ab.o.1;omega
    have cp:Eq (∀r ∈ O,1≤r.1.length):=by
     rw [hO];intro r hr;rcases k9 _ _ hr with h | h
     · exact cu.o r h
     · exact c4.o r (GX h)
    obtain ⟨Wq,bu⟩:=aF wr;rw [← bu] at HR HK;have c5:Eq (Bl Wq wr):=by rw [bu];exact Below.refl _ _
    clear bu bG;go_wp2;go_loopw [7] (fun kv wr=>∃k:Nat,k≤n∧kv=iT (k:Int)∧rF O (Lr,y) n=rF O (Lr,y) k∧Bl Wq wr) (fun kv _=>(intOf kv).toNat)
    case atStart=>exact ⟨n,Gg _,rfl,rfl,c5.o⟩
    case round =>
     clear c5;obtain ⟨k,ay,rfl,bX,bE⟩:=hrel;have b8:Eq (rF O (Lr,y) n=rF O (Lr,y) k):=bX;have b7:Eq (Bl Wq wr):=bE;have aA:Bl w wr:=HK.o.trans (bE.mono HK.o.size);have zz:0<wr.heap.size:=by have:=aA.size;omega
     clear bX;have F:Bl wr wr.drew:=(Below.refl _ wr).drew;by_cases bT:k=0
     · have HJ:Eq (rF O (Lr,y) n=k):=by show _=_;rw [b8.o,bT];rfl
       have bK:¬(k:Int) > 0:=by omega
       have aV:¬(0:Int)<(k:Int):=by omega
       have aR:¬0<k:=by omega
       have cz:decide ((0:Int)<(k:Int))=false:=decide_eq_false aV;have cq:decide (0<k)=false:=decide_eq_false aR;clear bT;have m:Eq (∀w',Bl wr w'→(fun w'=>0<w'.heap.size) w'):=fun w' X=>E' zz X.size
       go_upto_region 6 with fail
       refine eJ m F fun t=>?_
       generalize wr.drew=Y at F t ⊢;refine aO 0 8 t ?_;refine aO 9 4 t ?_;refine aS 8 fun K hK=>?_
       go_simp;refine hK.o _ _ (m.o _ F) fun t=>?_
       (try go_frame);refine aS 13 fun K hK=>?_
       go_simp;refine hK.o _ _ (m.o _ F) fun t=>?_
       (try go_frame);refine aO 14 2 t ?_;refine dN ?_;generalize Y=f at F t ⊢;have KZ:Eq (Bl Wq f):=b7.o.trans (F.mono b7.o.size);clear t m F;have a6:Eq (Bl w f):=HK.o.trans (KZ.o.mono HK.o.size);have E:Eq (f.ownsRow w.heap.size 63 2 (sL g n c) n xs):=bH HR.o KZ.o;have bQ:=(cy E.o).1;have a9:=E.o.1;obtain ⟨ox,a0⟩:=aF (if c=k then 0 else k*2);have c7:(if c=k then some (⟨g,0,none⟩:Addr) else some ⟨g,k*2,none⟩)=some ⟨g,ox,none⟩:=by rw [a0];split <;> rfl
       obtain ⟨nt,aP⟩:∃nt,n - k=nt:=⟨_,rfl⟩;obtain ⟨ct,cc⟩:∃ct,c - k=ct:=⟨_,rfl⟩;have kt:Bl f (f.alloc (.cells #[] 63)):=bZ;have KT:Eq (Bl f (f.alloc (.cells #[] 63))):=kt;have a4:Eq (∀j u,(xs.drop (k*2))[j]?=some u→(f.alloc (.cells #[] 63)).cell? ((⟨g,ox,none⟩:Addr).add j)=some u):=fun j u T=>by
        rw [Hb] at T;have h1:=(bH E.o kt).cells (g:=g) rfl _ _ T;have h2:¬c=k:=by intro e;have h3:=(F'.1 T).1;omega
        rw [Gv,Gp] at h1;rw [Gv,a0,if_neg h2];exact h1
       have a7:Eq (∀u ∈ xs.drop (k*2),u.oneCell'=true):=fun u T=>ab.o.den.one u (Ha T)
       have ag:Eq ((xs.drop (k*2)).length=nt*2):=by show _=_;rw [Gy,a9,← aP];omega
       have R0:Eq ((f.alloc (.cells #[] 63)).ownsRow f.heap.size 63 2 (sL (f.heap.size) 0 0) 0 []):=by
        have:=GP (base:=f.heap.size) (e:=63) (size:=2) f #[] 0 (Gg _) (by simp) (by simp);show World.ownsRow _ _ _ _ _ _ _
        simpa using this
       have bi:(k:Int)≤(n:Int):=by omega
       have bc:(k:Int)≤(c:Int):=by omega
       have bf:(n:Int)≤(c:Int):=by omega
       have bm:nt≤101000:=by omega
       clear kt a0 a9;go_upto_region 9 with (at_builtin;refine wpList_append_own _ rfl _ _ 61 rfl f.heap.size 63 j0 _ 2 32 Tryz.underlying61 hj a3 a1 a2 rfl (by decide) _ _ _ rfl R0.o ⟨g,ox,none⟩ nt ct (xs.drop (k*2)) rfl ag.o a4.o a7.o (by unfold maxLen;omega) (by omega) (by simp) ?_;intro vt J d s D;obtain ⟨Z,ah,rfl⟩:=aL d D)
       all_goals try (rename_i hbad;exact absurd hbad.1 (by decide))
       simp only [Gp] at d;have a5:Eq (Bl f J):=KT.o.grown s KT.o.size (fun k e=>by have h1:=Gi (show some f.heap.size=some k from e);omega);have aM:Eq (J.ownsRow f.heap.size 63 2 (sL Z nt ah) nt (xs.drop (k*2))):=d;have aN:Eq (J.ownsRow w.heap.size 63 2 (sL g k c) k (xs.take (k*2))):=nE (bH E.o a5.o) ay;have aJ:Eq (Z≠g):=by have h1:=(E.o.lt g rfl).2;have h2:=(d.lt Z rfl).1;show Z≠g;omega
       have ae:Eq (Bl w J):=a6.o.trans (a5.o.mono a6.o.size);have ac:=q0;have a8:=q1;have m:Eq (∀w',Bl w w'→(fun w'=>w'.cell? ⟨bB,oB+i*2,none⟩=some (.slice Q N R)∧w'.cell? ⟨bB,oB+i*2+1,none⟩=some (iT y)∧bB<w'.heap.size) w'):=fun w' X=>⟨cell_later X ac,cell_later X a8,E' b5 X.size⟩
       have kd:Bl J J.drew:=(Below.refl _ J).drew;have F:Bl w J.drew:=ae.o.trans (kd.mono ae.o.size);have p0:=bH aN.o kd;have t0:=bH aM.o kd;clear d s D kd ac a8;refine eJ m F fun t=>?_
       generalize J.drew=Y at F p0 t0 t ⊢;refine aO 0 7 t ?_;refine aO 9 1 t ?_;refine aS 7 fun K hK=>?_
       go_simp;have kc:Bl Y (Y.alloc (.cells #[.slice Q N R,iT y] 63)):=bZ;have k1:Bl w (Y.alloc (.cells #[.slice Q N R,iT y] 63)):=F.trans (kc.mono F.size);have p1:=bH p0 kc;have t1:=bH t0 kc;have I:=bC Y (.slice Q N R) (iT y) 63;generalize Y.heap.size=gb at I ⊢;generalize Y.alloc (.cells #[.slice Q N R,iT y] 63)=wb at k1 p1 t1 I ⊢;refine hK.o _ _ (m.o _ k1) fun t=>?_
       (try go_frame);refine aS 8 fun K hK=>?_
       refine aE rfl (.tmp 45) (.tmp 50) 61 rfl w.heap.size 63 j0 _ 2 32 Tryz.underlying61 hj a3 a1 a2 rfl (by decide) _ _ _ rfl p1 ⟨gb,0,none⟩ 1 1 [.slice Q N R,iT y] rfl rfl I (by intro u T;simp at T;rcases T with rfl | rfl <;> rfl) ?_ ?_ ?_ ?_
       · unfold maxLen;omega
       · omega
       · exact k1.size
       intro v8 w8 H ak ad;obtain ⟨g8,c8,rfl⟩:=aL H ad;have C:wb.grownBy w8 (some g):=ak;have t2:=t1.kept C (.inr (fun e=>aJ.o (Gi (show some Z=some g from e))));have k2:Bl w w8:=k1.grown C k1.size (fun x e=>by have h1:=Gi e;have h2:=(p1.lt g rfl).1;omega);refine hK.o _ _ (m.o _ k2) fun t=>?_
       (try go_frame);refine aS 10 fun K hK=>?_
       refine aE rfl (.tmp 51) (.tmp 52) 61 rfl w.heap.size 63 j0 _ 2 32 Tryz.underlying61 hj a3 a1 a2 rfl (by decide) _ _ _ rfl H ⟨Z,0,none⟩ nt ah (xs.drop (k*2)) rfl ag.o (t2.cells (g:=Z) rfl) a7.o ?_ ?_ ?_ ?_
       · unfold maxLen;omega
       · omega
       · exact k2.size
       intro v9 w9 L ai al;obtain ⟨g9,c9,rfl⟩:=aL L al;have U:w8.grownBy w9 (some g8):=ai;have k3:Bl w w9:=k2.grown U k2.size (fun x e=>by have h1:=Gi e;have h2:=(H.lt g8 rfl).1;omega);refine hK.o _ _ (m.o _ k3) fun t=>?_
       (try go_frame);refine aO 11 1 t ?_;refine dN ?_;have W:k+1+nt=n+1:=by omega
       rw [W] at L;have aD:Eq (w9.ownsRow w.heap.size 63 2 (sL g9 (n+1) c9) (n+1) (xs.take (k*2)++[.slice Q N R,iT y]++xs.drop (k*2))):=L;have K9:Eq (Bl w w9):=k3;have aQ:Eq (dW (·<w.heap.size) w (xs.take (k*2)++[.slice Q N R,iT y]++xs.drop (k*2)) (dH A (B.take (i+1)))):=by
        rw [lT A bs.o,← bv.o];unfold nT;rw [am.o,HJ.o];exact tZ ab.o (mO bn.o bt.o) (by rw [am.o];exact ay)
       clear t F k1 k2 k3 p0 p1 t0 t1 t2 I H ak C ad L ai U al;go_wp2;go_roundw
       case rel=>exact ⟨i+1,g9,n+1,c9,_,by omega,by go_num,by simp only [W],by have:=bz.o;omega,aD.o,aQ.o,K9.o⟩
       case measure=>simp [intOf];omega
     · have bK:(k:Int) > 0:=by omega
       have aV:(0:Int)<(k:Int):=by omega
       have aR:0<k:=by omega
       have cz:decide ((0:Int)<(k:Int))=true:=decide_eq_true aV;have cq:decide (0<k)=true:=decide_eq_true aR;have cX:IntKind.i64.wrap ((k:Int) - 1)=(k:Int) - 1:=by rw [GB];unfold wrap64;omega
       have cY:(0:Int)≤(k:Int) - 1:=by omega
       have cH:(1:Int)≤(k:Int):=by omega
       have cT:(k:Int) - 1<(n:Int):=by omega
       have cV:((k:Int) - 1).toNat=k - 1:=by omega
       obtain ⟨⟨Lx,mx⟩,b6⟩:∃r,O[k - 1]?=some r:=⟨_,j' (by have:=am.o;omega)⟩;obtain ⟨_,sx,nx,cx,ca,bY,bx,_⟩:=ab.o.2 (k - 1) _ b6;have hrow:=bH HR.o bE;have br:=hrow.cells (g:=g) rfl _ _ ca;have bo:=hrow.cells (g:=g) rfl _ _ bY;rw [Gv,Gp] at br bo;have gz:=(hrow.lt g rfl).2;have bS:=cell_later aA q0;have c2:=cell_later aA q1;have qz:=E' b5 aA.size;have m:Eq (∀w',Bl wr w'→(fun w'=>w'.cell? ⟨g,(k - 1)*2,none⟩=some (.slice sx nx cx)∧w'.cell? ⟨g,(k - 1)*2+1,none⟩=some (iT mx)∧w'.cell? ⟨bB,oB+i*2,none⟩=some (.slice Q N R)∧w'.cell? ⟨bB,oB+i*2+1,none⟩=some (iT y)∧g<w'.heap.size∧bB<w'.heap.size) w'):=fun w' X=>⟨cell_later X br,cell_later X bo,cell_later X bS,cell_later X c2,E' gz X.size,E' qz X.size⟩
       obtain ⟨lx,bq⟩:=aF (bh Lx);obtain ⟨lr,bp⟩:=aF (bh Lr);have bU:1≤nx:=by have h1:=cp.o _ (Gk b6);have h2:=bx.length;simp only at h1 h2;omega
       have bN:Eq (∀w',Bl wr w'→Calls Tryz.prog 147 #[.agg #[.slice sx nx cx,iT mx]] w' fun r bw=>r=.returned (.string lx)∧Bl w' bw):=by rw [bq];exact fun w' X=>ms mx sx nx cx Lx w' ((bx.keep aA).keep X) bU
       have bW:Eq (∀w',Bl wr w'→Calls Tryz.prog 147 #[.agg #[.slice Q N R,iT y]] w' fun r bw=>r=.returned (.string lr)∧Bl w' bw):=by rw [bp];exact fun w' X=>ms y Q N R Lr w' ((bD.1.keep aA).keep X) cC.o
       have ap:Eq (O[k - 1]?=some (Lx,mx)∧lx=bh Lx∧lr=bh Lr):=⟨b6,bq,bp⟩;clear b6 ca bY bx hrow br bo bS c2 bq bp bU;go_upto_region 6 with fail
       refine eJ m F fun t=>?_
       generalize wr.drew=Y at F t ⊢;refine aO 0 8 t ?_;refine aO 9 4 t ?_;refine aS 8 fun K hK=>?_
       go_simp;refine (bN.o _ F).mono ?_;rintro e wCLX ⟨rfl,aH⟩;have aW:Bl wr wCLX:=F.trans (aH.mono F.size);go_wp2_with fail
       refine hK.o _ _ (m.o _ aW) fun t=>?_
       (try go_frame);refine aS 13 fun K hK=>?_
       go_simp;refine (bW.o _ aW).mono ?_;rintro e wCLR ⟨rfl,aK⟩;have au:Bl wr wCLR:=aW.trans (aK.mono aW.size);go_wp2_with fail
       refine hK.o _ _ (m.o _ au) fun t=>?_
       (try go_frame);refine aO 14 2 t ?_;refine dN ?_;generalize wCLR=f at au t ⊢;have KZ:Eq (Bl Wq f):=b7.o.trans (au.mono b7.o.size);clear t m F aW au aH aK bN bW;cases ha:Op.bytesLess lx.toList lr.toList with
       | true =>
        have HJ:Eq (rF O (Lr,y) n=k):=vh b8.o aR ap.o.1 (by rw [← ap.o.2.1,← ap.o.2.2];simp [nY,ha]);have hb:(lx.toList == lr.toList)=false:=by rw [beq_eq_false_iff_ne];intro e;rw [e,cE] at ha;cases ha
        have d3:(!Op.bytesLess lx.toList lr.toList)=false:=by rw [ha];rfl
        have cW:(!Op.bytesLess lx.toList lr.toList && !lx.toList == lr.toList)=false:=by rw [ha];rfl
        clear hb;have a6:Eq (Bl w f):=HK.o.trans (KZ.o.mono HK.o.size);have E:Eq (f.ownsRow w.heap.size 63 2 (sL g n c) n xs):=bH HR.o KZ.o;have bQ:=(cy E.o).1;have a9:=E.o.1;obtain ⟨ox,a0⟩:=aF (if c=k then 0 else k*2);have c7:(if c=k then some (⟨g,0,none⟩:Addr) else some ⟨g,k*2,none⟩)=some ⟨g,ox,none⟩:=by rw [a0];split <;> rfl
        obtain ⟨nt,aP⟩:∃nt,n - k=nt:=⟨_,rfl⟩;obtain ⟨ct,cc⟩:∃ct,c - k=ct:=⟨_,rfl⟩;have kt:Bl f (f.alloc (.cells #[] 63)):=bZ;have KT:Eq (Bl f (f.alloc (.cells #[] 63))):=kt;have a4:Eq (∀j u,(xs.drop (k*2))[j]?=some u→(f.alloc (.cells #[] 63)).cell? ((⟨g,ox,none⟩:Addr).add j)=some u):=fun j u T=>by
         rw [Hb] at T;have h1:=(bH E.o kt).cells (g:=g) rfl _ _ T;have h2:¬c=k:=by intro e;have h3:=(F'.1 T).1;omega
         rw [Gv,Gp] at h1;rw [Gv,a0,if_neg h2];exact h1
        have a7:Eq (∀u ∈ xs.drop (k*2),u.oneCell'=true):=fun u T=>ab.o.den.one u (Ha T)
        have ag:Eq ((xs.drop (k*2)).length=nt*2):=by show _=_;rw [Gy,a9,← aP];omega
        have R0:Eq ((f.alloc (.cells #[] 63)).ownsRow f.heap.size 63 2 (sL (f.heap.size) 0 0) 0 []):=by
         have:=GP (base:=f.heap.size) (e:=63) (size:=2) f #[] 0 (Gg _) (by simp) (by simp);show World.ownsRow _ _ _ _ _ _ _
         simpa using this
        have bi:(k:Int)≤(n:Int):=by omega
        have bc:(k:Int)≤(c:Int):=by omega
        have bf:(n:Int)≤(c:Int):=by omega
        have bm:nt≤101000:=by omega
        clear kt a0 a9;go_upto_region 9 with (at_builtin;refine wpList_append_own _ rfl _ _ 61 rfl f.heap.size 63 j0 _ 2 32 Tryz.underlying61 hj a3 a1 a2 rfl (by decide) _ _ _ rfl R0.o ⟨g,ox,none⟩ nt ct (xs.drop (k*2)) rfl ag.o a4.o a7.o (by unfold maxLen;omega) (by omega) (by simp) ?_;intro vt J d s D;obtain ⟨Z,ah,rfl⟩:=aL d D)
        all_goals try (rename_i hbad;exact absurd hbad.1 (by decide))
        simp only [Gp] at d;have a5:Eq (Bl f J):=KT.o.grown s KT.o.size (fun k e=>by have h1:=Gi (show some f.heap.size=some k from e);omega);have aM:Eq (J.ownsRow f.heap.size 63 2 (sL Z nt ah) nt (xs.drop (k*2))):=d;have aN:Eq (J.ownsRow w.heap.size 63 2 (sL g k c) k (xs.take (k*2))):=nE (bH E.o a5.o) ay;have aJ:Eq (Z≠g):=by have h1:=(E.o.lt g rfl).2;have h2:=(d.lt Z rfl).1;show Z≠g;omega
        have ae:Eq (Bl w J):=a6.o.trans (a5.o.mono a6.o.size);have ac:=q0;have a8:=q1;have m:Eq (∀w',Bl w w'→(fun w'=>w'.cell? ⟨bB,oB+i*2,none⟩=some (.slice Q N R)∧w'.cell? ⟨bB,oB+i*2+1,none⟩=some (iT y)∧bB<w'.heap.size) w'):=fun w' X=>⟨cell_later X ac,cell_later X a8,E' b5 X.size⟩
        have kd:Bl J J.drew:=(Below.refl _ J).drew;have F:Bl w J.drew:=ae.o.trans (kd.mono ae.o.size);have p0:=bH aN.o kd;have t0:=bH aM.o kd;clear d s D kd ac a8;refine eJ m F fun t=>?_
        generalize J.drew=Y at F p0 t0 t ⊢;refine aO 0 7 t ?_;refine aO 9 1 t ?_;refine aS 7 fun K hK=>?_
        go_simp;have kc:Bl Y (Y.alloc (.cells #[.slice Q N R,iT y] 63)):=bZ;have k1:Bl w (Y.alloc (.cells #[.slice Q N R,iT y] 63)):=F.trans (kc.mono F.size);have p1:=bH p0 kc;have t1:=bH t0 kc;have I:=bC Y (.slice Q N R) (iT y) 63;generalize Y.heap.size=gb at I ⊢;generalize Y.alloc (.cells #[.slice Q N R,iT y] 63)=wb at k1 p1 t1 I ⊢;refine hK.o _ _ (m.o _ k1) fun t=>?_
        (try go_frame);refine aS 8 fun K hK=>?_
        refine aE rfl (.tmp 45) (.tmp 50) 61 rfl w.heap.size 63 j0 _ 2 32 Tryz.underlying61 hj a3 a1 a2 rfl (by decide) _ _ _ rfl p1 ⟨gb,0,none⟩ 1 1 [.slice Q N R,iT y] rfl rfl I (by intro u T;simp at T;rcases T with rfl | rfl <;> rfl) ?_ ?_ ?_ ?_
        · unfold maxLen;omega
        · omega
        · exact k1.size
        intro v8 w8 H ak ad;obtain ⟨g8,c8,rfl⟩:=aL H ad;have C:wb.grownBy w8 (some g):=ak;have t2:=t1.kept C (.inr (fun e=>aJ.o (Gi (show some Z=some g from e))));have k2:Bl w w8:=k1.grown C k1.size (fun x e=>by have h1:=Gi e;have h2:=(p1.lt g rfl).1;omega);refine hK.o _ _ (m.o _ k2) fun t=>?_
        (try go_frame);refine aS 10 fun K hK=>?_
        refine aE rfl (.tmp 51) (.tmp 52) 61 rfl w.heap.size 63 j0 _ 2 32 Tryz.underlying61 hj a3 a1 a2 rfl (by decide) _ _ _ rfl H ⟨Z,0,none⟩ nt ah (xs.drop (k*2)) rfl ag.o (t2.cells (g:=Z) rfl) a7.o ?_ ?_ ?_ ?_
        · unfold maxLen;omega
        · omega
        · exact k2.size
        intro v9 w9 L ai al;obtain ⟨g9,c9,rfl⟩:=aL L al;have U:w8.grownBy w9 (some g8):=ai;have k3:Bl w w9:=k2.grown U k2.size (fun x e=>by have h1:=Gi e;have h2:=(H.lt g8 rfl).1;omega);refine hK.o _ _ (m.o _ k3) fun t=>?_
        (try go_frame);refine aO 11 1 t ?_;refine dN ?_;have W:k+1+nt=n+1:=by omega
        rw [W] at L;have aD:Eq (w9.ownsRow w.heap.size 63 2 (sL g9 (n+1) c9) (n+1) (xs.take (k*2)++[.slice Q N R,iT y]++xs.drop (k*2))):=L;have K9:Eq (Bl w w9):=k3;have aQ:Eq (dW (·<w.heap.size) w (xs.take (k*2)++[.slice Q N R,iT y]++xs.drop (k*2)) (dH A (B.take (i+1)))):=by
         rw [lT A bs.o,← bv.o];unfold nT;rw [am.o,HJ.o];exact tZ ab.o (mO bn.o bt.o) (by rw [am.o];exact ay)
        clear t F k1 k2 k3 p0 p1 t0 t1 t2 I H ak C ad L ai U al;go_wp2;go_roundw
        case rel=>exact ⟨i+1,g9,n+1,c9,_,by omega,by go_num,by simp only [W],by have:=bz.o;omega,aD.o,aQ.o,K9.o⟩
        case measure=>simp [intOf];omega
       | false =>
        cases hb:(lx.toList == lr.toList) with
        | true =>
         have HJ:Eq (rF O (Lr,y) n=k):=vh b8.o aR ap.o.1 (by rw [← ap.o.2.1,← ap.o.2.2];simp [nY,hb]);have d8:lx.toList=lr.toList:=by simpa using hb
         have a6:Eq (Bl w f):=HK.o.trans (KZ.o.mono HK.o.size);have E:Eq (f.ownsRow w.heap.size 63 2 (sL g n c) n xs):=bH HR.o KZ.o;have bQ:=(cy E.o).1;have a9:=E.o.1;obtain ⟨ox,a0⟩:=aF (if c=k then 0 else k*2);have c7:(if c=k then some (⟨g,0,none⟩:Addr) else some ⟨g,k*2,none⟩)=some ⟨g,ox,none⟩:=by rw [a0];split <;> rfl
         obtain ⟨nt,aP⟩:∃nt,n - k=nt:=⟨_,rfl⟩;obtain ⟨ct,cc⟩:∃ct,c - k=ct:=⟨_,rfl⟩;have kt:Bl f (f.alloc (.cells #[] 63)):=bZ;have KT:Eq (Bl f (f.alloc (.cells #[] 63))):=kt;have a4:Eq (∀j u,(xs.drop (k*2))[j]?=some u→(f.alloc (.cells #[] 63)).cell? ((⟨g,ox,none⟩:Addr).add j)=some u):=fun j u T=>by
          rw [Hb] at T;have h1:=(bH E.o kt).cells (g:=g) rfl _ _ T;have h2:¬c=k:=by intro e;have h3:=(F'.1 T).1;omega
          rw [Gv,Gp] at h1;rw [Gv,a0,if_neg h2];exact h1
         have a7:Eq (∀u ∈ xs.drop (k*2),u.oneCell'=true):=fun u T=>ab.o.den.one u (Ha T)
         have ag:Eq ((xs.drop (k*2)).length=nt*2):=by show _=_;rw [Gy,a9,← aP];omega
         have R0:Eq ((f.alloc (.cells #[] 63)).ownsRow f.heap.size 63 2 (sL (f.heap.size) 0 0) 0 []):=by
          have:=GP (base:=f.heap.size) (e:=63) (size:=2) f #[] 0 (Gg _) (by simp) (by simp);show World.ownsRow _ _ _ _ _ _ _
          simpa using this
         have bi:(k:Int)≤(n:Int):=by omega
         have bc:(k:Int)≤(c:Int):=by omega
         have bf:(n:Int)≤(c:Int):=by omega
         have bm:nt≤101000:=by omega
         clear kt a0 a9;go_upto_region 9 with (at_builtin;refine wpList_append_own _ rfl _ _ 61 rfl f.heap.size 63 j0 _ 2 32 Tryz.underlying61 hj a3 a1 a2 rfl (by decide) _ _ _ rfl R0.o ⟨g,ox,none⟩ nt ct (xs.drop (k*2)) rfl ag.o a4.o a7.o (by unfold maxLen;omega) (by omega) (by simp) ?_;intro vt J d s D;obtain ⟨Z,ah,rfl⟩:=aL d D)
         all_goals try (rename_i hbad;exact absurd hbad.1 (by decide))
         simp only [Gp] at d;have a5:Eq (Bl f J):=KT.o.grown s KT.o.size (fun k e=>by have h1:=Gi (show some f.heap.size=some k from e);omega);have aM:Eq (J.ownsRow f.heap.size 63 2 (sL Z nt ah) nt (xs.drop (k*2))):=d;have aN:Eq (J.ownsRow w.heap.size 63 2 (sL g k c) k (xs.take (k*2))):=nE (bH E.o a5.o) ay;have aJ:Eq (Z≠g):=by have h1:=(E.o.lt g rfl).2;have h2:=(d.lt Z rfl).1;show Z≠g;omega
         have ae:Eq (Bl w J):=a6.o.trans (a5.o.mono a6.o.size);have ac:=q0;have a8:=q1;have m:Eq (∀w',Bl w w'→(fun w'=>w'.cell? ⟨bB,oB+i*2,none⟩=some (.slice Q N R)∧w'.cell? ⟨bB,oB+i*2+1,none⟩=some (iT y)∧bB<w'.heap.size) w'):=fun w' X=>⟨cell_later X ac,cell_later X a8,E' b5 X.size⟩
         have kd:Bl J J.drew:=(Below.refl _ J).drew;have F:Bl w J.drew:=ae.o.trans (kd.mono ae.o.size);have p0:=bH aN.o kd;have t0:=bH aM.o kd;clear d s D kd ac a8;refine eJ m F fun t=>?_
         generalize J.drew=Y at F p0 t0 t ⊢;refine aO 0 7 t ?_;refine aO 9 1 t ?_;refine aS 7 fun K hK=>?_
         go_simp;have kc:Bl Y (Y.alloc (.cells #[.slice Q N R,iT y] 63)):=bZ;have k1:Bl w (Y.alloc (.cells #[.slice Q N R,iT y] 63)):=F.trans (kc.mono F.size);have p1:=bH p0 kc;have t1:=bH t0 kc;have I:=bC Y (.slice Q N R) (iT y) 63;generalize Y.heap.size=gb at I ⊢;generalize Y.alloc (.cells #[.slice Q N R,iT y] 63)=wb at k1 p1 t1 I ⊢;refine hK.o _ _ (m.o _ k1) fun t=>?_
         (try go_frame);refine aS 8 fun K hK=>?_
         refine aE rfl (.tmp 45) (.tmp 50) 61 rfl w.heap.size 63 j0 _ 2 32 Tryz.underlying61 hj a3 a1 a2 rfl (by decide) _ _ _ rfl p1 ⟨gb,0,none⟩ 1 1 [.slice Q N R,iT y] rfl rfl I (by intro u T;simp at T;rcases T with rfl | rfl <;> rfl) ?_ ?_ ?_ ?_
         · unfold maxLen;omega
         · omega
         · exact k1.size
         intro v8 w8 H ak ad;obtain ⟨g8,c8,rfl⟩:=aL H ad;have C:wb.grownBy w8 (some g):=ak;have t2:=t1.kept C (.inr (fun e=>aJ.o (Gi (show some Z=some g from e))));have k2:Bl w w8:=k1.grown C k1.size (fun x e=>by have h1:=Gi e;have h2:=(p1.lt g rfl).1;omega);refine hK.o _ _ (m.o _ k2) fun t=>?_
         (try go_frame);refine aS 10 fun K hK=>?_
         refine aE rfl (.tmp 51) (.tmp 52) 61 rfl w.heap.size 63 j0 _ 2 32 Tryz.underlying61 hj a3 a1 a2 rfl (by decide) _ _ _ rfl H ⟨Z,0,none⟩ nt ah (xs.drop (k*2)) rfl ag.o (t2.cells (g:=Z) rfl) a7.o ?_ ?_ ?_ ?_
         · unfold maxLen;omega
         · omega
         · exact k2.size
         intro v9 w9 L ai al;obtain ⟨g9,c9,rfl⟩:=aL L al;have U:w8.grownBy w9 (some g8):=ai;have k3:Bl w w9:=k2.grown U k2.size (fun x e=>by have h1:=Gi e;have h2:=(H.lt g8 rfl).1;omega);refine hK.o _ _ (m.o _ k3) fun t=>?_
         (try go_frame);refine aO 11 1 t ?_;refine dN ?_;have W:k+1+nt=n+1:=by omega
         rw [W] at L;have aD:Eq (w9.ownsRow w.heap.size 63 2 (sL g9 (n+1) c9) (n+1) (xs.take (k*2)++[.slice Q N R,iT y]++xs.drop (k*2))):=L;have K9:Eq (Bl w w9):=k3;have aQ:Eq (dW (·<w.heap.size) w (xs.take (k*2)++[.slice Q N R,iT y]++xs.drop (k*2)) (dH A (B.take (i+1)))):=by
          rw [lT A bs.o,← bv.o];unfold nT;rw [am.o,HJ.o];exact tZ ab.o (mO bn.o bt.o) (by rw [am.o];exact ay)
         clear t F k1 k2 k3 p0 p1 t0 t1 t2 I H ak C ad L ai U al;go_wp2;go_roundw
         case rel=>exact ⟨i+1,g9,n+1,c9,_,by omega,by go_num,by simp only [W],by have:=bz.o;omega,aD.o,aQ.o,K9.o⟩
         case measure=>simp [intOf];omega
        | false =>
         have cG:Eq (rF O (Lr,y) n=rF O (Lr,y) (k - 1)):=by
          show _=_
          obtain ⟨k',rfl⟩:∃k',k=k'+1:=⟨k - 1,by omega⟩;have h1:=ap.o;rw [Hv] at h1 ⊢;rw [b8.o,rF,h1.1];simp only [← h1.2.1,← h1.2.2];rw [show nY lx lr=true by simp [nY,ha,hb]];rfl
         go_wp2;go_roundw
         case rel=>exact ⟨k - 1,by omega,by first | rfl | go_num,cG.o,KZ.o⟩
         case measure=>simp [intOf];omega
  · have cd:¬(i:Int)<(nB:Int):=by omega
    have aY:B.take i=B:=Gr (by rw [cm.o];omega);have hd:=HD.o;rw [aY] at hd;have ck:Eq (dW (·<w.heap.size) w xs (dH A B)):=hd;clear hd aY;go_wp2;go_ret;exact ⟨g,n,c,rfl,xs,HR.o,ck.o,HK.o⟩
theorem qP {b f:Nat} {L:List ac} (h:aj w (some ⟨b,f,none⟩) n c L):∀j u,(aG L)[j]?=some u→w.cell? ((⟨b,f,none⟩:Addr).add j)=some u:=by
 intro j u d;have m:=(F'.1 d).1;rw [aW] at m;have hi:j / 5<L.length:=by omega
 obtain ⟨c0,c1,g,c3,c4⟩:=h.cells _ rfl (j / 5) hi;obtain ⟨s,o,r2,r3,r4⟩:=fH L (j / 5) L[j / 5] (j' hi);rw [Gv];simp only [Ip] at c0 c1 g c3 c4;have:j=j / 5*5∨j=j / 5*5+1∨j=j / 5*5+2∨j=j / 5*5+3∨j=j / 5*5+4:=by omega
 rcases this with e | e | e | e | e
 · rw [← e] at s c0;rw [s] at d;cases d;exact c0
 · rw [← e] at o c1;rw [o] at d;cases d;exact c1
 · rw [← e] at r2 g;rw [r2] at d;cases d;exact g
 · rw [← e] at r3 c3;rw [r3] at d;cases d;exact c3
 · rw [← e] at r4 c4;rw [r4] at d;cases d;exact c4
theorem pH (a:Option Addr) (n c:Nat) (L:List ac) (w:World) (hL:aj w a n c L) :
 Calls Tryz.prog 173 #[.slice a n c] w fun e w'=>e=.returned (.agg #[.slice a n c,iT ((dG L:Nat):Int)])∧Bl w w':=by
 go_enter Tryz.func173,Tryz.ntmps173
 go_wp2_with fail
 refine (nh a n c L _ (hL.keep bZ)).mono ?_;rintro e g ⟨rfl,b⟩;obtain ⟨d,f⟩:=wg b;have hz:=b.size;simp at hz;go_wp2;refine bodyPost_ret (v:=.agg #[.slice a n c,iT ((dG L:Nat):Int)]) (by simp [results,Tryz.results173,go_sem,d]) rfl ⟨rfl,?_⟩;have hB:=bZ.trans (b.mono (by simp));exact (hB.setCell (p:=⟨w.heap.size,0,none⟩) (Gg _) _).setCell (p:=⟨w.heap.size,1,none⟩) (Gg _) _
end Go.Proofs.YtpobkmjicbobdaaGreat
