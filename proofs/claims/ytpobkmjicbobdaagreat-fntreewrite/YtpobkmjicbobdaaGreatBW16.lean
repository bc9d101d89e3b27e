/- Walks. -/
import Derived.Test.YtpobkmjicbobdaaGreatBW15
namespace Go.Proofs.YtpobkmjicbobdaaGreat
set_option maxRecDepth 100000
set_option maxHeartbeats 40000000
open Go.RowKit
variable {O:List af} {c k n:Nat} {r x:af} {w:World} {xs:List Value}
theorem EO (h:x ∈ oK O r):x=r∨x ∈ O:=by
 unfold oK at h;rcases GX.1 h with h | h
 · exact .inr (Hq h)
 · rcases GX.1 h with h | h
   · exact .inl (G5.1 h)
   · exact .inr (H8 h)
theorem lD:∀(B A:List af) {x:af},x ∈ dO A B→x ∈ A∨x ∈ B
 | [],A,x,h=>.inl h
 | r :: B,A,x,h=>by
  rcases lD B (oK A r) h with h | h
  · rcases EO h with h | h
    · exact .inr (by simp [h])
    · exact .inl h
  · exact .inr (He _ h)
theorem vP (h:sD O r n=sD O r k) (hk:0<k) (hx:O[k - 1]?=some x) (hg:oQ (bj x.1) (bj r.1)=false):sD O r n=k:=by
 obtain ⟨b,rfl⟩:∃b,k=b+1:=⟨k - 1,by omega⟩;rw [Is] at hx;rw [h,sD,hx];simp only [hg,I',if_false]
theorem ms (A:List af) {B:List af} {i:Nat} {r:af} (h:B[i]?=some r):dO A (B.take (i+1))=oK (dO A (B.take i)) r:=by
 rw [Hc,h];unfold dO;rw [I6];rfl
theorem ow {base e size g:Nat} (h:w.ownsRow base e size (sL g n c) n xs) (hk:k≤n):w.ownsRow base e size (sL g k c) k (xs.take (k*size)):=by
 have hl:=h.1;have hm:k*size≤n*size:=Nat.mul_le_mul_right _ hk;rcases h.2 with ⟨hv,_⟩ | ⟨f,d,b,hv,h1,h2,h3,h4,h5,h6⟩
 · cases hv
 · cases hv;refine ⟨by rw [GS,hl];omega,.inr ⟨g,c,b,rfl,h1,h2,by omega,h4,h5,?_⟩⟩;rw [← h6,List.take_take];congr 1
   omega
theorem uD {p:Nat→Prop} {a b:Value} (hd:ee p w xs O) (hr:ee p w [a,b] [r]) (hk:k≤O.length):ee p w (xs.take (k*2)++[a,b]++xs.drop (k*2)) (O.take k++([r]++O.drop k)):=by
 have hl:=hd.1;have h1:ee p w (xs.take (k*2)) (O.take k):=by
  refine ⟨by rw [GS,GS];omega,fun i x hx=>?_⟩;have hi:=(F'.1 hx).1;rw [GS] at hi;rw [Hv (by omega)] at hx;rw [Hv (by omega),Hv (by omega)];exact hd.2 i x hx
 have h2:ee p w (xs.drop (k*2)) (O.drop k):=by
  refine ⟨by rw [G7,G7];omega,fun i x hx=>?_⟩;rw [H9] at hx;rw [H9,H9,show k*2+i*2=(k+i)*2 by omega,show k*2+(i*2+1)=(k+i)*2+1 by omega];exact hd.2 (k+i) x hx
 have:=h1.app (hr.app h2);simpa using this
theorem s8 (bA oA nA cA:Nat) (A:List af) (bB oB nB cB:Nat) (B:List af) (w:World) (hA:aw 0 w (some ⟨bA,oA,none⟩) nA cA A) (hB:aw 0 w (some ⟨bB,oB,none⟩) nB cB B) (b6:bB<w.heap.size) (be:∀r ∈ A,1≤r.1.length) (bl:∀r ∈ B,1≤r.1.length) (d1:nA≤1000) (d8:nB≤100000) :
 Calls Tryz.prog 180 #[sO bA oA nA cA,sO bB oB nB cB] w fun e w'=>∃g n c xs,e=.returned (sL g n c)∧w'.ownsRow w.heap.size 63 2 (sL g n c) n xs∧ee (·<w.heap.size) w xs (dO A B)∧Bl w w':=by
 obtain ⟨j0,hj,a3,a1,a2⟩:=info_parts Tryz.infoRun;have HB:=az hB;have cn:Eq (B.length=nB):=hB.length;have cv:=az be;have c5:=az bl;obtain ⟨aC,dA,rA⟩:=hA.raw;have bL:Eq (ee (·<w.heap.size) w aC A):=dA.denP;have bI:Eq (pE w (sO bA oA nA cA) nA aC):=rA;have ka:Bl w (w.alloc (.cells #[] 63)):=bZ;have KA:Eq (Bl w (w.alloc (.cells #[] 63))):=ka;have R1:Eq ((w.alloc (.cells #[] 63)).ownsRow w.heap.size 63 2 (sL (w.heap.size) 0 0) 0 []):=by
  have:=Hi (base:=w.heap.size) (e:=63) (size:=2) w #[] 0 (GL _) (by simp) (by simp);show World.ownsRow _ _ _ _ _ _ _
  simpa using this
 have a4:Eq (∀j u,aC[j]?=some u→(w.alloc (.cells #[] 63)).cell? ((⟨bA,oA,none⟩:Addr).add j)=some u):=fun j u T=>by
  rcases (rA.keep ka).2.2 with ⟨h,_⟩ | ⟨b,o,c,h,hc⟩
  · cases h
  · cases h;rw [G6];exact hc j u T
 clear hA hB be bl dA rA ka;go_enter Tryz.func180,Tryz.ntmps180
 go_wp2_with (at_builtin;refine wpList_append_own _ rfl _ _ 61 rfl w.heap.size 63 j0 _ 2 32 Tryz.underlying61 hj a3 a1 a2 rfl (by decide) _ _ _ rfl R1.o ⟨bA,oA,none⟩ nA cA aC rfl bI.o.1 a4.o bI.o.2.1 (by unfold maxLen;omega) (by omega) (by simp) ?_;intro v1 w1 ap au aD;obtain ⟨g1,c1,rfl⟩:=aO ap aD)
 have bO:Eq (w1.ownsRow w.heap.size 63 2 (sL g1 nA c1) nA aC):=by
  show World.ownsRow _ _ _ _ _ _ _
  simpa using ap
 have K1:Eq (Bl w w1):=KA.o.grown au KA.o.size (fun k e=>(R1.o.lt k e).1);clear ap au aD;go_wp2;go_loopw [5,6] (fun ov iv wr=>∃(i g n c:Nat) (xs:List Value),i≤nB∧iv=iT (i:Int)∧ov=sL g n c∧n=nA+i∧wr.ownsRow w.heap.size 63 2 (sL g n c) n xs∧ee (·<w.heap.size) w xs (dO A (B.take i))∧Bl w wr) (fun _ iv _=>nB - (intOf iv).toNat)
 case atStart=>exact ⟨0,g1,nA,c1,aC,GQ _,rfl,by first | rfl | simp,rfl,bO.o,bL.o,K1.o⟩
 case round =>
  clear bO K1 R1 KA a4 bI bL;obtain ⟨i,g,n,c,xs,d3,rfl,rfl,cf,hr,hd,hb⟩:=hrel;have HR:Eq (wr.ownsRow w.heap.size 63 2 (sL g n c) n xs):=hr;have HD:Eq (ee (·<w.heap.size) w xs (dO A (B.take i))):=hd;have HK:Eq (Bl w wr):=hb;have bC:Eq (n=nA+i):=cf;have d6:n≤101000:=by omega
  clear hr hd cf;by_cases cp:i<nB
  · have ce:(i:Int)<(nB:Int):=by omega
    obtain ⟨Lr,y,Q,N,R,bH,cw,q0,q1,bE⟩:=HB.o.run (Below.refl _ w) i cp;have bt:Eq (B[i]?=some (Lr,y)):=bH;have cD:Eq (1≤N):=by have h1:=c5.o _ (GP bH);have h2:=bE.1.length;show _≤_;simp only at h1;omega
    obtain ⟨O,hO⟩:=aG (dO A (B.take i));have bw:Eq (O=dO A (B.take i)):=hO;have bo:Eq ((Lit.int .i64 y).wf=true):=cw;have bu:Eq (ah w Q N R Lr):=bE.1;have ac:Eq (ee (·<w.heap.size) w xs O):=by rw [hO];exact HD.o
    have an:Eq (O.length=n):=by show _=_;have h1:=HR.o.1;have h2:=ac.o.1;omega
    have cq:Eq (∀r ∈ O,1≤r.1.length):=by
     rw [hO];intro r hr;rcases lD _ _ hr with h | h
     · exact cv.o r h
     · exact c5.o r (Hq h)
    obtain ⟨Wq,bv⟩:=aG wr;rw [← bv] at HR HK;have c6:Eq (Bl Wq wr):=by rw [bv];exact Below.refl _ _
    clear bv bH;go_wp2;go_loopw [7] (fun kv wr=>∃k:Nat,k≤n∧kv=iT (k:Int)∧sD O (Lr,y) n=sD O (Lr,y) k∧Bl Wq wr) (fun kv _=>(intOf kv).toNat)
    case atStart=>exact ⟨n,GL _,rfl,rfl,c6.o⟩
    case round =>
     clear c6;obtain ⟨k,aA,rfl,bY,bF⟩:=hrel;have b9:Eq (sD O (Lr,y) n=sD O (Lr,y) k):=bY;have b8:Eq (Bl Wq wr):=bF;have aB:Bl w wr:=HK.o.trans (bF.mono HK.o.size);have zz:0<wr.heap.size:=by have:=aB.size;omega
     clear bY;have F:Bl wr wr.drew:=(Below.refl _ wr).drew;by_cases bT:k=0
     · have HJ:Eq (sD O (Lr,y) n=k):=by show _=_;rw [b9.o,bT];rfl
       have bK:¬(k:Int) > 0:=by omega
       have aW:¬(0:Int)<(k:Int):=by omega
       have aS:¬0<k:=by omega
       have cz:decide ((0:Int)<(k:Int))=false:=decide_eq_false aW;have cs:decide (0<k)=false:=decide_eq_false aS;clear bT;have m:Eq (∀w',Bl wr w'→(fun w'=>0<w'.heap.size) w'):=fun w' X=>E' zz X.size
       go_upto_region 6 with fail
       refine eJ m F fun t=>?_
       generalize wr.drew=Y at F t ⊢;refine aR 0 8 t ?_;refine aR 9 4 t ?_;refine aV 8 fun K hK=>?_
       go_simp;refine hK.o _ _ (m.o _ F) fun t=>?_
       (try go_frame);refine aV 13 fun K hK=>?_
       go_simp;refine hK.o _ _ (m.o _ F) fun t=>?_
       (try go_frame);refine aR 14 2 t ?_;refine dN ?_;generalize Y=f at F t ⊢;have KZ:Eq (Bl Wq f):=b8.o.trans (F.mono b8.o.size);clear t m F;have a6:Eq (Bl w f):=HK.o.trans (KZ.o.mono HK.o.size);have E:Eq (f.ownsRow w.heap.size 63 2 (sL g n c) n xs):=bD HR.o KZ.o;have bQ:=(cC E.o).1;have ab:=E.o.1;obtain ⟨ox,a0⟩:=aG (if c=k then 0 else k*2);have ca:(if c=k then some (⟨g,0,none⟩:Addr) else some ⟨g,k*2,none⟩)=some ⟨g,ox,none⟩:=by rw [a0];split <;> rfl
       obtain ⟨nt,aP⟩:∃nt,n - k=nt:=⟨_,rfl⟩;obtain ⟨ct,cd⟩:∃ct,c - k=ct:=⟨_,rfl⟩;have kt:Bl f (f.alloc (.cells #[] 63)):=bZ;have KT:Eq (Bl f (f.alloc (.cells #[] 63))):=kt;have a4:Eq (∀j u,(xs.drop (k*2))[j]?=some u→(f.alloc (.cells #[] 63)).cell? ((⟨g,ox,none⟩:Addr).add j)=some u):=fun j u T=>by
        rw [H9] at T;have h1:=(bD E.o kt).cells (g:=g) rfl _ _ T;have h2:¬c=k:=by intro e;have h3:=(F'.1 T).1;omega
        rw [G6,GT] at h1;rw [G6,a0,if_neg h2];exact h1
       have a7:Eq (∀u ∈ xs.drop (k*2),u.oneCell'=true):=fun u T=>ac.o.den.one u (H8 T)
       have ai:Eq ((xs.drop (k*2)).length=nt*2):=by show _=_;rw [G7,ab,← aP];omega
       have R0:Eq ((f.alloc (.cells #[] 63)).ownsRow f.heap.size 63 2 (sL (f.heap.size) 0 0) 0 []):=by
        have:=Hi (base:=f.heap.size) (e:=63) (size:=2) f #[] 0 (GL _) (by simp) (by simp);show World.ownsRow _ _ _ _ _ _ _
        simpa using this
       have bi:(k:Int)≤(n:Int):=by omega
       have bd:(k:Int)≤(c:Int):=by omega
       have bg:(n:Int)≤(c:Int):=by omega
       have bn:nt≤101000:=by omega
       clear kt a0 ab;go_upto_region 9 with (at_builtin;refine wpList_append_own _ rfl _ _ 61 rfl f.heap.size 63 j0 _ 2 32 Tryz.underlying61 hj a3 a1 a2 rfl (by decide) _ _ _ rfl R0.o ⟨g,ox,none⟩ nt ct (xs.drop (k*2)) rfl ai.o a4.o a7.o (by unfold maxLen;omega) (by omega) (by simp) ?_;intro vt J d s D;obtain ⟨Z,aj,rfl⟩:=aO d D)
       all_goals try (rename_i hbad;exact absurd hbad.1 (by decide))
       simp only [GT] at d;have a5:Eq (Bl f J):=KT.o.grown s KT.o.size (fun k e=>by have h1:=GN (show some f.heap.size=some k from e);omega);have aM:Eq (J.ownsRow f.heap.size 63 2 (sL Z nt aj) nt (xs.drop (k*2))):=d;have aN:Eq (J.ownsRow w.heap.size 63 2 (sL g k c) k (xs.take (k*2))):=ow (bD E.o a5.o) aA;have aK:Eq (Z≠g):=by have h1:=(E.o.lt g rfl).2;have h2:=(d.lt Z rfl).1;show Z≠g;omega
       have ag:Eq (Bl w J):=a6.o.trans (a5.o.mono a6.o.size);have ad:=q0;have a9:=q1;have m:Eq (∀w',Bl w w'→(fun w'=>w'.cell? ⟨bB,oB+i*2,none⟩=some (.slice Q N R)∧w'.cell? ⟨bB,oB+i*2+1,none⟩=some (iT y)∧bB<w'.heap.size) w'):=fun w' X=>⟨cell_later X ad,cell_later X a9,E' b6 X.size⟩
       have kd:Bl J J.drew:=(Below.refl _ J).drew;have F:Bl w J.drew:=ag.o.trans (kd.mono ag.o.size);have p0:=bD aN.o kd;have t0:=bD aM.o kd;clear d s D kd ad a9;refine eJ m F fun t=>?_
       generalize J.drew=Y at F p0 t0 t ⊢;refine aR 0 7 t ?_;refine aR 9 1 t ?_;refine aV 7 fun K hK=>?_
       go_simp;have kc:Bl Y (Y.alloc (.cells #[.slice Q N R,iT y] 63)):=bZ;have k1:Bl w (Y.alloc (.cells #[.slice Q N R,iT y] 63)):=F.trans (kc.mono F.size);have p1:=bD p0 kc;have t1:=bD t0 kc;have I:=bW Y (.slice Q N R) (iT y) 63;generalize Y.heap.size=gb at I ⊢;generalize Y.alloc (.cells #[.slice Q N R,iT y] 63)=wb at k1 p1 t1 I ⊢;refine hK.o _ _ (m.o _ k1) fun t=>?_
       (try go_frame);refine aV 8 fun K hK=>?_
       refine aE rfl (.tmp 45) (.tmp 50) 61 rfl w.heap.size 63 j0 _ 2 32 Tryz.underlying61 hj a3 a1 a2 rfl (by decide) _ _ _ rfl p1 ⟨gb,0,none⟩ 1 1 [.slice Q N R,iT y] rfl rfl I (by intro u T;simp at T;rcases T with rfl | rfl <;> rfl) ?_ ?_ ?_ ?_
       · unfold maxLen;omega
       · omega
       · exact k1.size
       intro v8 w8 H al ae;obtain ⟨g8,c8,rfl⟩:=aO H ae;have C:wb.grownBy w8 (some g):=al;have t2:=t1.kept C (.inr (fun e=>aK.o (GN (show some Z=some g from e))));have k2:Bl w w8:=k1.grown C k1.size (fun x e=>by have h1:=GN e;have h2:=(p1.lt g rfl).1;omega);refine hK.o _ _ (m.o _ k2) fun t=>?_
       (try go_frame);refine aV 10 fun K hK=>?_
       refine aE rfl (.tmp 51) (.tmp 52) 61 rfl w.heap.size 63 j0 _ 2 32 Tryz.underlying61 hj a3 a1 a2 rfl (by decide) _ _ _ rfl H ⟨Z,0,none⟩ nt aj (xs.drop (k*2)) rfl ai.o (t2.cells (g:=Z) rfl) a7.o ?_ ?_ ?_ ?_
       · unfold maxLen;omega
       · omega
       · exact k2.size
       intro v9 w9 L ak am;obtain ⟨g9,c9,rfl⟩:=aO L am;have U:w8.grownBy w9 (some g8):=ak;have k3:Bl w w9:=k2.grown U k2.size (fun x e=>by have h1:=GN e;have h2:=(H.lt g8 rfl).1;omega);refine hK.o _ _ (m.o _ k3) fun t=>?_
       (try go_frame);refine aR 11 1 t ?_;refine dN ?_;have W:k+1+nt=n+1:=by omega
       rw [W] at L;have aF:Eq (w9.ownsRow w.heap.size 63 2 (sL g9 (n+1) c9) (n+1) (xs.take (k*2)++[.slice Q N R,iT y]++xs.drop (k*2))):=L;have K9:Eq (Bl w w9):=k3;have aQ:Eq (ee (·<w.heap.size) w (xs.take (k*2)++[.slice Q N R,iT y]++xs.drop (k*2)) (dO A (B.take (i+1)))):=by
        rw [ms A bt.o,← bw.o];unfold oK;rw [an.o,HJ.o];exact uD ac.o (nK bo.o bu.o) (by rw [an.o];exact aA)
       clear t F k1 k2 k3 p0 p1 t0 t1 t2 I H al C ae L ak U am;go_wp2;go_roundw
       case rel=>exact ⟨i+1,g9,n+1,c9,_,by omega,by go_num,by simp only [W],by have:=bC.o;omega,aF.o,aQ.o,K9.o⟩
       case measure=>simp [intOf];omega
     · have bK:(k:Int) > 0:=by omega
       have aW:(0:Int)<(k:Int):=by omega
       have aS:0<k:=by omega
       have cz:decide ((0:Int)<(k:Int))=true:=decide_eq_true aW;have cs:decide (0<k)=true:=decide_eq_true aS;have cY:IntKind.i64.wrap ((k:Int) - 1)=(k:Int) - 1:=by rw [G4];unfold wrap64;omega
       have cZ:(0:Int)≤(k:Int) - 1:=by omega
       have cI:(1:Int)≤(k:Int):=by omega
       have cU:(k:Int) - 1<(n:Int):=by omega
       have cW:((k:Int) - 1).toNat=k - 1:=by omega
       obtain ⟨⟨Lx,mx⟩,b7⟩:∃r,O[k - 1]?=some r:=⟨_,j' (by have:=an.o;omega)⟩;obtain ⟨_,sx,nx,cx,cb,c0,bz,_⟩:=ac.o.2 (k - 1) _ b7;have hrow:=bD HR.o bF;have bs:=hrow.cells (g:=g) rfl _ _ cb;have bp:=hrow.cells (g:=g) rfl _ _ c0;rw [G6,GT] at bs bp;have gz:=(hrow.lt g rfl).2;have bS:=cell_later aB q0;have c4:=cell_later aB q1;have qz:=E' b6 aB.size;have m:Eq (∀w',Bl wr w'→(fun w'=>w'.cell? ⟨g,(k - 1)*2,none⟩=some (.slice sx nx cx)∧w'.cell? ⟨g,(k - 1)*2+1,none⟩=some (iT mx)∧w'.cell? ⟨bB,oB+i*2,none⟩=some (.slice Q N R)∧w'.cell? ⟨bB,oB+i*2+1,none⟩=some (iT y)∧g<w'.heap.size∧bB<w'.heap.size) w'):=fun w' X=>⟨cell_later X bs,cell_later X bp,cell_later X bS,cell_later X c4,E' gz X.size,E' qz X.size⟩
       obtain ⟨lx,br⟩:=aG (bj Lx);obtain ⟨lr,bq⟩:=aG (bj Lr);have bU:1≤nx:=by have h1:=cq.o _ (GP b7);have h2:=bz.length;simp only at h1 h2;omega
       have bN:Eq (∀w',Bl wr w'→Calls Tryz.prog 147 #[.agg #[.slice sx nx cx,iT mx]] w' fun r bx=>r=.returned (.string lx)∧Bl w' bx):=by rw [br];exact fun w' X=>mP mx sx nx cx Lx w' ((bz.keep aB).keep X) bU
       have bX:Eq (∀w',Bl wr w'→Calls Tryz.prog 147 #[.agg #[.slice Q N R,iT y]] w' fun r bx=>r=.returned (.string lr)∧Bl w' bx):=by rw [bq];exact fun w' X=>mP y Q N R Lr w' ((bE.1.keep aB).keep X) cD.o
       have aq:Eq (O[k - 1]?=some (Lx,mx)∧lx=bj Lx∧lr=bj Lr):=⟨b7,br,bq⟩;clear b7 cb c0 bz hrow bs bp bS c4 br bq bU;go_upto_region 6 with fail
       refine eJ m F fun t=>?_
       generalize wr.drew=Y at F t ⊢;refine aR 0 8 t ?_;refine aR 9 4 t ?_;refine aV 8 fun K hK=>?_
       go_simp;refine (bN.o _ F).mono ?_;rintro e wCLX ⟨rfl,aI⟩;have aX:Bl wr wCLX:=F.trans (aI.mono F.size);go_wp2_with fail
       refine hK.o _ _ (m.o _ aX) fun t=>?_
       (try go_frame);refine aV 13 fun K hK=>?_
       go_simp;refine (bX.o _ aX).mono ?_;rintro e wCLR ⟨rfl,aL⟩;have av:Bl wr wCLR:=aX.trans (aL.mono aX.size);go_wp2_with fail
       refine hK.o _ _ (m.o _ av) fun t=>?_
       (try go_frame);refine aR 14 2 t ?_;refine dN ?_;generalize wCLR=f at av t ⊢;have KZ:Eq (Bl Wq f):=b8.o.trans (av.mono b8.o.size);clear t m F aX av aI aL bN bX;cases ha:Op.bytesLess lx.toList lr.toList with
       | true =>
        have HJ:Eq (sD O (Lr,y) n=k):=vP b9.o aS aq.o.1 (by rw [← aq.o.2.1,← aq.o.2.2];simp [oQ,ha]);have hb:(lx.toList == lr.toList)=false:=by rw [beq_eq_false_iff_ne];intro e;rw [e,cH] at ha;cases ha
        have d4:(!Op.bytesLess lx.toList lr.toList)=false:=by rw [ha];rfl
        have cX:(!Op.bytesLess lx.toList lr.toList && !lx.toList == lr.toList)=false:=by rw [ha];rfl
        clear hb;have a6:Eq (Bl w f):=HK.o.trans (KZ.o.mono HK.o.size);have E:Eq (f.ownsRow w.heap.size 63 2 (sL g n c) n xs):=bD HR.o KZ.o;have bQ:=(cC E.o).1;have ab:=E.o.1;obtain ⟨ox,a0⟩:=aG (if c=k then 0 else k*2);have ca:(if c=k then some (⟨g,0,none⟩:Addr) else some ⟨g,k*2,none⟩)=some ⟨g,ox,none⟩:=by rw [a0];split <;> rfl
        obtain ⟨nt,aP⟩:∃nt,n - k=nt:=⟨_,rfl⟩;obtain ⟨ct,cd⟩:∃ct,c - k=ct:=⟨_,rfl⟩;have kt:Bl f (f.alloc (.cells #[] 63)):=bZ;have KT:Eq (Bl f (f.alloc (.cells #[] 63))):=kt;have a4:Eq (∀j u,(xs.drop (k*2))[j]?=some u→(f.alloc (.cells #[] 63)).cell? ((⟨g,ox,none⟩:Addr).add j)=some u):=fun j u T=>by
         rw [H9] at T;have h1:=(bD E.o kt).cells (g:=g) rfl _ _ T;have h2:¬c=k:=by intro e;have h3:=(F'.1 T).1;omega
         rw [G6,GT] at h1;rw [G6,a0,if_neg h2];exact h1
        have a7:Eq (∀u ∈ xs.drop (k*2),u.oneCell'=true):=fun u T=>ac.o.den.one u (H8 T)
        have ai:Eq ((xs.drop (k*2)).length=nt*2):=by show _=_;rw [G7,ab,← aP];omega
        have R0:Eq ((f.alloc (.cells #[] 63)).ownsRow f.heap.size 63 2 (sL (f.heap.size) 0 0) 0 []):=by
         have:=Hi (base:=f.heap.size) (e:=63) (size:=2) f #[] 0 (GL _) (by simp) (by simp);show World.ownsRow _ _ _ _ _ _ _
         simpa using this
        have bi:(k:Int)≤(n:Int):=by omega
        have bd:(k:Int)≤(c:Int):=by omega
        have bg:(n:Int)≤(c:Int):=by omega
        have bn:nt≤101000:=by omega
        clear kt a0 ab;go_upto_region 9 with (at_builtin;refine wpList_append_own _ rfl _ _ 61 rfl f.heap.size 63 j0 _ 2 32 Tryz.underlying61 hj a3 a1 a2 rfl (by decide) _ _ _ rfl R0.o ⟨g,ox,none⟩ nt ct (xs.drop (k*2)) rfl ai.o a4.o a7.o (by unfold maxLen;omega) (by omega) (by simp) ?_;intro vt J d s D;obtain ⟨Z,aj,rfl⟩:=aO d D)
        all_goals try (rename_i hbad;exact absurd hbad.1 (by decide))
        simp only [GT] at d;have a5:Eq (Bl f J):=KT.o.grown s KT.o.size (fun k e=>by have h1:=GN (show some f.heap.size=some k from e);omega);have aM:Eq (J.ownsRow f.heap.size 63 2 (sL Z nt aj) nt (xs.drop (k*2))):=d;have aN:Eq (J.ownsRow w.heap.size 63 2 (sL g k c) k (xs.take (k*2))):=ow (bD E.o a5.o) aA;have aK:Eq (Z≠g):=by have h1:=(E.o.lt g rfl).2;have h2:=(d.lt Z rfl).1;show Z≠g;omega
        have ag:Eq (Bl w J):=a6.o.trans (a5.o.mono a6.o.size);have ad:=q0;have a9:=q1;have m:Eq (∀w',Bl w w'→(fun w'=>w'.cell? ⟨bB,oB+i*2,none⟩=some (.slice Q N R)∧w'.cell? ⟨bB,oB+i*2+1,none⟩=some (iT y)∧bB<w'.heap.size) w'):=fun w' X=>⟨cell_later X ad,cell_later X a9,E' b6 X.size⟩
        have kd:Bl J J.drew:=(Below.refl _ J).drew;have F:Bl w J.drew:=ag.o.trans (kd.mono ag.o.size);have p0:=bD aN.o kd;have t0:=bD aM.o kd;clear d s D kd ad a9;refine eJ m F fun t=>?_
        generalize J.drew=Y at F p0 t0 t ⊢;refine aR 0 7 t ?_;refine aR 9 1 t ?_;refine aV 7 fun K hK=>?_
        go_simp;have kc:Bl Y (Y.alloc (.cells #[.slice Q N R,iT y] 63)):=bZ;have k1:Bl w (Y.alloc (.cells #[.slice Q N R,iT y] 63)):=F.trans (kc.mono F.size);have p1:=bD p0 kc;have t1:=bD t0 kc;have I:=bW Y (.slice Q N R) (iT y) 63;generalize Y.heap.size=gb at I ⊢;generalize Y.alloc (.cells #[.slice Q N R,iT y] 63)=wb at k1 p1 t1 I ⊢;refine hK.o _ _ (m.o _ k1) fun t=>?_
        (try go_frame);refine aV 8 fun K hK=>?_
        refine aE rfl (.tmp 45) (.tmp 50) 61 rfl w.heap.size 63 j0 _ 2 32 Tryz.underlying61 hj a3 a1 a2 rfl (by decide) _ _ _ rfl p1 ⟨gb,0,none⟩ 1 1 [.slice Q N R,iT y] rfl rfl I (by intro u T;simp at T;rcases T with rfl | rfl <;> rfl) ?_ ?_ ?_ ?_
        · unfold maxLen;omega
        · omega
        · exact k1.size
        intro v8 w8 H al ae;obtain ⟨g8,c8,rfl⟩:=aO H ae;have C:wb.grownBy w8 (some g):=al;have t2:=t1.kept C (.inr (fun e=>aK.o (GN (show some Z=some g from e))));have k2:Bl w w8:=k1.grown C k1.size (fun x e=>by have h1:=GN e;have h2:=(p1.lt g rfl).1;omega);refine hK.o _ _ (m.o _ k2) fun t=>?_
        (try go_frame);refine aV 10 fun K hK=>?_
        refine aE rfl (.tmp 51) (.tmp 52) 61 rfl w.heap.size 63 j0 _ 2 32 Tryz.underlying61 hj a3 a1 a2 rfl (by decide) _ _ _ rfl H ⟨Z,0,none⟩ nt aj (xs.drop (k*2)) rfl ai.o (t2.cells (g:=Z) rfl) a7.o ?_ ?_ ?_ ?_
        · unfold maxLen;omega
        · omega
        · exact k2.size
        intro v9 w9 L ak am;obtain ⟨g9,c9,rfl⟩:=aO L am;have U:w8.grownBy w9 (some g8):=ak;have k3:Bl w w9:=k2.grown U k2.size (fun x e=>by have h1:=GN e;have h2:=(H.lt g8 rfl).1;omega);refine hK.o _ _ (m.o _ k3) fun t=>?_
        (try go_frame);refine aR 11 1 t ?_;refine dN ?_;have W:k+1+nt=n+1:=by omega
        rw [W] at L;have aF:Eq (w9.ownsRow w.heap.size 63 2 (sL g9 (n+1) c9) (n+1) (xs.take (k*2)++[.slice Q N R,iT y]++xs.drop (k*2))):=L;have K9:Eq (Bl w w9):=k3;have aQ:Eq (ee (·<w.heap.size) w (xs.take (k*2)++[.slice Q N R,iT y]++xs.drop (k*2)) (dO A (B.take (i+1)))):=by
         rw [ms A bt.o,← bw.o];unfold oK;rw [an.o,HJ.o];exact uD ac.o (nK bo.o bu.o) (by rw [an.o];exact aA)
        clear t F k1 k2 k3 p0 p1 t0 t1 t2 I H al C ae L ak U am;go_wp2;go_roundw
        case rel=>exact ⟨i+1,g9,n+1,c9,_,by omega,by go_num,by simp only [W],by have:=bC.o;omega,aF.o,aQ.o,K9.o⟩
        case measure=>simp [intOf];omega
       | false =>
        cases hb:(lx.toList == lr.toList) with
        | true =>
         have HJ:Eq (sD O (Lr,y) n=k):=vP b9.o aS aq.o.1 (by rw [← aq.o.2.1,← aq.o.2.2];simp [oQ,hb]);have d9:lx.toList=lr.toList:=by simpa using hb
         have a6:Eq (Bl w f):=HK.o.trans (KZ.o.mono HK.o.size);have E:Eq (f.ownsRow w.heap.size 63 2 (sL g n c) n xs):=bD HR.o KZ.o;have bQ:=(cC E.o).1;have ab:=E.o.1;obtain ⟨ox,a0⟩:=aG (if c=k then 0 else k*2);have ca:(if c=k then some (⟨g,0,none⟩:Addr) else some ⟨g,k*2,none⟩)=some ⟨g,ox,none⟩:=by rw [a0];split <;> rfl
         obtain ⟨nt,aP⟩:∃nt,n - k=nt:=⟨_,rfl⟩;obtain ⟨ct,cd⟩:∃ct,c - k=ct:=⟨_,rfl⟩;have kt:Bl f (f.alloc (.cells #[] 63)):=bZ;have KT:Eq (Bl f (f.alloc (.cells #[] 63))):=kt;have a4:Eq (∀j u,(xs.drop (k*2))[j]?=some u→(f.alloc (.cells #[] 63)).cell? ((⟨g,ox,none⟩:Addr).add j)=some u):=fun j u T=>by
          rw [H9] at T;have h1:=(bD E.o kt).cells (g:=g) rfl _ _ T;have h2:¬c=k:=by intro e;have h3:=(F'.1 T).1;omega
          rw [G6,GT] at h1;rw [G6,a0,if_neg h2];exact h1
         have a7:Eq (∀u ∈ xs.drop (k*2),u.oneCell'=true):=fun u T=>ac.o.den.one u (H8 T)
         have ai:Eq ((xs.drop (k*2)).length=nt*2):=by show _=_;rw [G7,ab,← aP];omega
         have R0:Eq ((f.alloc (.cells #[] 63)).ownsRow f.heap.size 63 2 (sL (f.heap.size) 0 0) 0 []):=by
          have:=Hi (base:=f.heap.size) (e:=63) (size:=2) f #[] 0 (GL _) (by simp) (by simp);show World.ownsRow _ _ _ _ _ _ _
          simpa using this
         have bi:(k:Int)≤(n:Int):=by omega
         have bd:(k:Int)≤(c:Int):=by omega
         have bg:(n:Int)≤(c:Int):=by omega
         have bn:nt≤101000:=by omega
         clear kt a0 ab;go_upto_region 9 with (at_builtin;refine wpList_append_own _ rfl _ _ 61 rfl f.heap.size 63 j0 _ 2 32 Tryz.underlying61 hj a3 a1 a2 rfl (by decide) _ _ _ rfl R0.o ⟨g,ox,none⟩ nt ct (xs.drop (k*2)) rfl ai.o a4.o a7.o (by unfold maxLen;omega) (by omega) (by simp) ?_;intro vt J d s D;obtain ⟨Z,aj,rfl⟩:=aO d D)
         all_goals try (rename_i hbad;exact absurd hbad.1 (by decide))
         simp only [GT] at d;have a5:Eq (Bl f J):=KT.o.grown s KT.o.size (fun k e=>by have h1:=GN (show some f.heap.size=some k from e);omega);have aM:Eq (J.ownsRow f.heap.size 63 2 (sL Z nt aj) nt (xs.drop (k*2))):=d;have aN:Eq (J.ownsRow w.heap.size 63 2 (sL g k c) k (xs.take (k*2))):=ow (bD E.o a5.o) aA;have aK:Eq (Z≠g):=by have h1:=(E.o.lt g rfl).2;have h2:=(d.lt Z rfl).1;show Z≠g;omega
         have ag:Eq (Bl w J):=a6.o.trans (a5.o.mono a6.o.size);have ad:=q0;have a9:=q1;have m:Eq (∀w',Bl w w'→(fun w'=>w'.cell? ⟨bB,oB+i*2,none⟩=some (.slice Q N R)∧w'.cell? ⟨bB,oB+i*2+1,none⟩=some (iT y)∧bB<w'.heap.size) w'):=fun w' X=>⟨cell_later X ad,cell_later X a9,E' b6 X.size⟩
         have kd:Bl J J.drew:=(Below.refl _ J).drew;have F:Bl w J.drew:=ag.o.trans (kd.mono ag.o.size);have p0:=bD aN.o kd;have t0:=bD aM.o kd;clear d s D kd ad a9;refine eJ m F fun t=>?_
         generalize J.drew=Y at F p0 t0 t ⊢;refine aR 0 7 t ?_;refine aR 9 1 t ?_;refine aV 7 fun K hK=>?_
         go_simp;have kc:Bl Y (Y.alloc (.cells #[.slice Q N R,iT y] 63)):=bZ;have k1:Bl w (Y.alloc (.cells #[.slice Q N R,iT y] 63)):=F.trans (kc.mono F.size);have p1:=bD p0 kc;have t1:=bD t0 kc;have I:=bW Y (.slice Q N R) (iT y) 63;generalize Y.heap.size=gb at I ⊢;generalize Y.alloc (.cells #[.slice Q N R,iT y] 63)=wb at k1 p1 t1 I ⊢;refine hK.o _ _ (m.o _ k1) fun t=>?_
         (try go_frame);refine aV 8 fun K hK=>?_
         refine aE rfl (.tmp 45) (.tmp 50) 61 rfl w.heap.size 63 j0 _ 2 32 Tryz.underlying61 hj a3 a1 a2 rfl (by decide) _ _ _ rfl p1 ⟨gb,0,none⟩ 1 1 [.slice Q N R,iT y] rfl rfl I (by intro u T;simp at T;rcases T with rfl | rfl <;> rfl) ?_ ?_ ?_ ?_
         · unfold maxLen;omega
         · omega
         · exact k1.size
         intro v8 w8 H al ae;obtain ⟨g8,c8,rfl⟩:=aO H ae;have C:wb.grownBy w8 (some g):=al;have t2:=t1.kept C (.inr (fun e=>aK.o (GN (show some Z=some g from e))));have k2:Bl w w8:=k1.grown C k1.size (fun x e=>by have h1:=GN e;have h2:=(p1.lt g rfl).1;omega);refine hK.o _ _ (m.o _ k2) fun t=>?_
         (try go_frame);refine aV 10 fun K hK=>?_
         refine aE rfl (.tmp 51) (.tmp 52) 61 rfl w.heap.size 63 j0 _ 2 32 Tryz.underlying61 hj a3 a1 a2 rfl (by decide) _ _ _ rfl H ⟨Z,0,none⟩ nt aj (xs.drop (k*2)) rfl ai.o (t2.cells (g:=Z) rfl) a7.o ?_ ?_ ?_ ?_
         · unfold maxLen;omega
         · omega
         · exact k2.size
         intro v9 w9 L ak am;obtain ⟨g9,c9,rfl⟩:=aO L am;have U:w8.grownBy w9 (some g8):=ak;have k3:Bl w w9:=k2.grown U k2.size (fun x e=>by have h1:=GN e;have h2:=(H.lt g8 rfl).1;omega);refine hK.o _ _ (m.o _ k3) fun t=>?_
         (try go_frame);refine aR 11 1 t ?_;refine dN ?_;have W:k+1+nt=n+1:=by omega
         rw [W] at L;have aF:Eq (w9.ownsRow w.heap.size 63 2 (sL g9 (n+1) c9) (n+1) (xs.take (k*2)++[.slice Q N R,iT y]++xs.drop (k*2))):=L;have K9:Eq (Bl w w9):=k3;have aQ:Eq (ee (·<w.heap.size) w (xs.take (k*2)++[.slice Q N R,iT y]++xs.drop (k*2)) (dO A (B.take (i+1)))):=by
          rw [ms A bt.o,← bw.o];unfold oK;rw [an.o,HJ.o];exact uD ac.o (nK bo.o bu.o) (by rw [an.o];exact aA)
         clear t F k1 k2 k3 p0 p1 t0 t1 t2 I H al C ae L ak U am;go_wp2;go_roundw
         case rel=>exact ⟨i+1,g9,n+1,c9,_,by omega,by go_num,by simp only [W],by have:=bC.o;omega,aF.o,aQ.o,K9.o⟩
         case measure=>simp [intOf];omega
        | false =>
         have cG:Eq (sD O (Lr,y) n=sD O (Lr,y) (k - 1)):=by
          show _=_
          obtain ⟨k',rfl⟩:∃k',k=k'+1:=⟨k - 1,by omega⟩;have h1:=aq.o;rw [Is] at h1 ⊢;rw [b9.o,sD,h1.1];simp only [← h1.2.1,← h1.2.2];rw [show oQ lx lr=true by simp [oQ,ha,hb]];rfl
         go_wp2;go_roundw
         case rel=>exact ⟨k - 1,by omega,by first | rfl | go_num,cG.o,KZ.o⟩
         case measure=>simp [intOf];omega
  · have ce:¬(i:Int)<(nB:Int):=by omega
    have aZ:B.take i=B:=GV (by rw [cn.o];omega);have hd:=HD.o;rw [aZ] at hd;have cl:Eq (ee (·<w.heap.size) w xs (dO A B)):=hd;clear hd aZ;go_wp2;go_ret;exact ⟨g,n,c,rfl,xs,HR.o,cl.o,HK.o⟩
theorem rJ {b f:Nat} {L:List ac} (h:ah w (some ⟨b,f,none⟩) n c L):∀j u,(aF L)[j]?=some u→w.cell? ((⟨b,f,none⟩:Addr).add j)=some u:=by
 intro j u d;have m:=(F'.1 d).1;rw [aX] at m;have hi:j / 5<L.length:=by omega
 obtain ⟨c0,c1,g,c3,c4⟩:=h.cells _ rfl (j / 5) hi;obtain ⟨s,o,r2,r3,r4⟩:=fP L (j / 5) L[j / 5] (j' hi);rw [G6];simp only [IV] at c0 c1 g c3 c4;have:j=j / 5*5∨j=j / 5*5+1∨j=j / 5*5+2∨j=j / 5*5+3∨j=j / 5*5+4:=by omega
 rcases this with e | e | e | e | e
 · rw [← e] at s c0;rw [s] at d;cases d;exact c0
 · rw [← e] at o c1;rw [o] at d;cases d;exact c1
 · rw [← e] at r2 g;rw [r2] at d;cases d;exact g
 · rw [← e] at r3 c3;rw [r3] at d;cases d;exact c3
 · rw [← e] at r4 c4;rw [r4] at d;cases d;exact c4
theorem qo (a:Option Addr) (n c:Nat) (L:List ac) (w:World) (hL:ah w a n c L) :
 Calls Tryz.prog 173 #[.slice a n c] w fun e w'=>e=.returned (.agg #[.slice a n c,iT ((dL L:Nat):Int)])∧Bl w w':=by
 go_enter Tryz.func173,Tryz.ntmps173
 go_wp2_with fail
 refine (om a n c L _ (hL.keep bZ)).mono ?_;rintro e g ⟨rfl,b⟩;obtain ⟨d,f⟩:=xe b;have hz:=b.size;simp at hz;go_wp2;refine bodyPost_ret (v:=.agg #[.slice a n c,iT ((dL L:Nat):Int)]) (by simp [results,Tryz.results173,go_sem,d]) rfl ⟨rfl,?_⟩;have hB:=bZ.trans (b.mono (by simp));exact (hB.setCell (p:=⟨w.heap.size,0,none⟩) (GL _) _).setCell (p:=⟨w.heap.size,1,none⟩) (GL _) _
end Go.Proofs.YtpobkmjicbobdaaGreat
