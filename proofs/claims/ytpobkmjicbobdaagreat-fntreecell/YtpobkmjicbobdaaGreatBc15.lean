/- Walks. -/
import Derived.Test.YtpobkmjicbobdaaGreatBc14
namespace Go.Proofs.YtpobkmjicbobdaaGreat
set_option maxRecDepth 100000
set_option maxHeartbeats 40000000
open Go.RowKit
variable {O:List aj} {c k n:Nat} {r x:aj} {w:World} {xs:List Value}
theorem Dy (h:x ∈ m9 O r):x=r∨x ∈ O:=by
 unfold m9 at h;rcases FI.1 h with h | h
 · exact .inr (F9 h)
 · rcases FI.1 h with h | h
   · exact .inl (FL.1 h)
   · exact .inr (Gf h)
theorem kH:∀(B A:List aj) {x:aj},x ∈ dJ A B→x ∈ A∨x ∈ B
 | [],A,x,h=>.inl h
 | r :: B,A,x,h=>by
  rcases kH B (m9 A r) h with h | h
  · rcases Dy h with h | h
    · exact .inr (by simp [h])
    · exact .inl h
  · exact .inr (FY _ h)
theorem uK (h:qU O r n=qU O r k) (hk:0<k) (hx:O[k - 1]?=some x) (hg:nq (bn x.1) (bn r.1)=false):qU O r n=k:=by
 obtain ⟨b,rfl⟩:∃b,k=b+1:=⟨k - 1,by omega⟩;rw [GG] at hx;rw [h,qU,hx];simp only [hg,Hn,if_false]
theorem lD (A:List aj) {B:List aj} {i:Nat} {r:aj} (h:B[i]?=some r):dJ A (B.take (i+1))=m9 (dJ A (B.take i)) r:=by
 rw [FU,h];unfold dJ;rw [List.foldl_append];rfl
theorem mR {base e size g:Nat} (h:w.ownsRow base e size (sL g n c) n xs) (hk:k≤n):w.ownsRow base e size (sL g k c) k (xs.take (k*size)):=by
 have hl:=h.1;have hm:k*size≤n*size:=Nat.mul_le_mul_right _ hk;rcases h.2 with ⟨hv,_⟩ | ⟨f,d,b,hv,h1,h2,h3,h4,h5,h6⟩
 · cases hv
 · cases hv;refine ⟨by rw [FC,hl];omega,.inr ⟨g,c,b,rfl,h1,h2,by omega,h4,h5,?_⟩⟩;rw [← h6,List.take_take];congr 1
   omega
theorem tD {p:Nat→Prop} {a b:Value} (hd:eC p w xs O) (hr:eC p w [a,b] [r]) (hk:k≤O.length):eC p w (xs.take (k*2)++[a,b]++xs.drop (k*2)) (O.take k++([r]++O.drop k)):=by
 have hl:=hd.1;have h1:eC p w (xs.take (k*2)) (O.take k):=by
  refine ⟨by rw [FC,FC];omega,fun i x hx=>?_⟩;have hi:=(E'.1 hx).1;rw [FC] at hi;rw [Ge (by omega)] at hx;rw [Ge (by omega),Ge (by omega)];exact hd.2 i x hx
 have h2:eC p w (xs.drop (k*2)) (O.drop k):=by
  refine ⟨by rw [FN,FN];omega,fun i x hx=>?_⟩;rw [Gg] at hx;rw [Gg,Gg,show k*2+i*2=(k+i)*2 by omega,show k*2+(i*2+1)=(k+i)*2+1 by omega];exact hd.2 (k+i) x hx
 have:=h1.app (hr.app h2);simpa using this
theorem ry (bA oA nA cA:Nat) (A:List aj) (bB oB nB cB:Nat) (B:List aj) (w:World) (hA:az 0 w (some ⟨bA,oA,none⟩) nA cA A) (hB:az 0 w (some ⟨bB,oB,none⟩) nB cB B) (b5:bB<w.heap.size) (bd:∀r ∈ A,1≤r.1.length) (bb:∀r ∈ B,1≤r.1.length) (d2:nA≤1000) (cV:nB≤100000) :
 Calls Tryz.prog 180 #[sO bA oA nA cA,sO bB oB nB cB] w fun e w'=>∃g n c xs,e=.returned (sL g n c)∧w'.ownsRow w.heap.size 63 2 (sL g n c) n xs∧eC (·<w.heap.size) w xs (dJ A B)∧Bl w w':=by
 obtain ⟨j0,hj,a1,a3,a2⟩:=info_parts Tryz.infoRun;have HB:=bT hB;have cs:Eq (B.length=nB):=hB.length;have cE:=bT bd;have bO:=bT bb;obtain ⟨ay,dA,rA⟩:=hA.raw;have ce:Eq (eC (·<w.heap.size) w ay A):=dA.denP;have bG:Eq (oO w (sO bA oA nA cA) nA ay):=rA;have ka:Bl w (w.alloc (.cells #[] 63)):=bZ;have KA:Eq (Bl w (w.alloc (.cells #[] 63))):=ka;have R1:Eq ((w.alloc (.cells #[] 63)).ownsRow w.heap.size 63 2 (sL (w.heap.size) 0 0) 0 []):=by
  have:=F6 (base:=w.heap.size) (e:=63) (size:=2) w #[] 0 (Fv _) (by simp) (by simp);show World.ownsRow _ _ _ _ _ _ _
  simpa using this
 have af:Eq (∀j u,ay[j]?=some u→(w.alloc (.cells #[] 63)).cell? ((⟨bA,oA,none⟩:Addr).add j)=some u):=fun j u T=>by
  rcases (rA.keep ka).2.2 with ⟨h,_⟩ | ⟨b,o,c,h,hc⟩
  · cases h
  · cases h;rw [FO];exact hc j u T
 clear hA hB bd bb dA rA ka;go_enter Tryz.func180,Tryz.ntmps180
 go_wp2_with (at_builtin;refine wpList_append_own _ rfl _ _ 61 rfl w.heap.size 63 j0 _ 2 32 Tryz.underlying61 hj a1 a3 a2 rfl (by decide) _ _ _ rfl R1.o ⟨bA,oA,none⟩ nA cA ay rfl bG.o.1 af.o bG.o.2.1 (by unfold maxLen;omega) (by omega) (by simp) ?_;intro v1 w1 an ar aU;obtain ⟨g1,c1,rfl⟩:=aH an aU)
 have c6:Eq (w1.ownsRow w.heap.size 63 2 (sL g1 nA c1) nA ay):=by
  show World.ownsRow _ _ _ _ _ _ _
  simpa using an
 have K1:Eq (Bl w w1):=KA.o.grown ar KA.o.size (fun k e=>(R1.o.lt k e).1);clear an ar aU;go_wp2;go_loopw [5,6] (fun ov iv wr=>∃(i g n c:Nat) (xs:List Value),i≤nB∧iv=iT (i:Int)∧ov=sL g n c∧n=nA+i∧wr.ownsRow w.heap.size 63 2 (sL g n c) n xs∧eC (·<w.heap.size) w xs (dJ A (B.take i))∧Bl w wr) (fun _ iv _=>nB - (intOf iv).toNat)
 case atStart=>exact ⟨0,g1,nA,c1,ay,FB _,rfl,by first | rfl | simp,rfl,c6.o,ce.o,K1.o⟩
 case round =>
  clear c6 K1 R1 KA af bG ce;obtain ⟨i,g,n,c,xs,cT,rfl,rfl,bV,hr,hd,hb⟩:=hrel;have HR:Eq (wr.ownsRow w.heap.size 63 2 (sL g n c) n xs):=hr;have HD:Eq (eC (·<w.heap.size) w xs (dJ A (B.take i))):=hd;have HK:Eq (Bl w wr):=hb;have br:Eq (n=nA+i):=bV;have d7:n≤101000:=by omega
  clear hr hd bV;by_cases cu:i<nB
  · have c7:(i:Int)<(nB:Int):=by omega
    obtain ⟨Lr,y,Q,N,R,bE,cn,q0,q1,bt⟩:=HB.o.run (Below.refl _ w) i cu;have bv:Eq (B[i]?=some (Lr,y)):=bE;have co:Eq (1≤N):=by have h1:=bO.o _ (Fw bE);have h2:=bt.1.length;show _≤_;simp only at h1;omega
    obtain ⟨O,hO⟩:=aG (dJ A (B.take i));have bs:Eq (O=dJ A (B.take i)):=hO;have bz:Eq ((Lit.int .i64 y).wf=true):=cn;have bo:Eq (ah w Q N R Lr):=bt.1;have a4:Eq (eC (·<w.heap.size) w xs O):=by rw [hO];exact HD.o
    have ao:Eq (O.length=n):=by show _=_;have h1:=HR.o.1;have h2:=a4.o.1;omega
    have cq:Eq (∀r ∈ O,1≤r.1.length):=by
     rw [hO];intro r hr;rcases kH _ _ hr with h | h
     · exact cE.o r h
     · exact bO.o r (F9 h)
    obtain ⟨Wq,bx⟩:=aG wr;rw [← bx] at HR HK;have cf:Eq (Bl Wq wr):=by rw [bx];exact Below.refl _ _
    clear bx bE;go_wp2;go_loopw [7] (fun kv wr=>∃k:Nat,k≤n∧kv=iT (k:Int)∧qU O (Lr,y) n=qU O (Lr,y) k∧Bl Wq wr) (fun kv _=>(intOf kv).toNat)
    case atStart=>exact ⟨n,Fv _,rfl,rfl,cf.o⟩
    case round =>
     clear cf;obtain ⟨k,aB,rfl,cc,bw⟩:=hrel;have ba:Eq (qU O (Lr,y) n=qU O (Lr,y) k):=cc;have b7:Eq (Bl Wq wr):=bw;have aA:Bl w wr:=HK.o.trans (bw.mono HK.o.size);have zz:0<wr.heap.size:=by have:=aA.size;omega
     clear cc;have F:Bl wr wr.drew:=(Below.refl _ wr).drew;by_cases bU:k=0
     · have HJ:Eq (qU O (Lr,y) n=k):=by show _=_;rw [ba.o,bU];rfl
       have bM:¬(k:Int) > 0:=by omega
       have aT:¬(0:Int)<(k:Int):=by omega
       have aE:¬0<k:=by omega
       have cp:decide ((0:Int)<(k:Int))=false:=decide_eq_false aT;have cG:decide (0<k)=false:=decide_eq_false aE;clear bU;have m:Eq (∀w',Bl wr w'→(fun w'=>0<w'.heap.size) w'):=fun w' X=>u' zz X.size
       go_upto_region 6 with fail
       refine eJ m F fun t=>?_
       generalize wr.drew=Z at F t ⊢;refine aP 0 8 t ?_;refine aP 9 4 t ?_;refine aQ 8 fun K hK=>?_
       go_simp;refine hK.o _ _ (m.o _ F) fun t=>?_
       (try go_frame);refine aQ 13 fun K hK=>?_
       go_simp;refine hK.o _ _ (m.o _ F) fun t=>?_
       (try go_frame);refine aP 14 2 t ?_;refine dN ?_;generalize Z=f at F t ⊢;have KZ:Eq (Bl Wq f):=b7.o.trans (F.mono b7.o.size);clear t m F;have ai:Eq (Bl w f):=HK.o.trans (KZ.o.mono HK.o.size);have C:Eq (f.ownsRow w.heap.size 63 2 (sL g n c) n xs):=bK HR.o KZ.o;have bJ:=(cZ C.o).1;have a9:=C.o.1;obtain ⟨ox,Y⟩:=aG (if c=k then 0 else k*2);have bI:(if c=k then some (⟨g,0,none⟩:Addr) else some ⟨g,k*2,none⟩)=some ⟨g,ox,none⟩:=by rw [Y];split <;> rfl
       obtain ⟨nt,aV⟩:∃nt,n - k=nt:=⟨_,rfl⟩;obtain ⟨ct,ca⟩:∃ct,c - k=ct:=⟨_,rfl⟩;have kt:Bl f (f.alloc (.cells #[] 63)):=bZ;have KT:Eq (Bl f (f.alloc (.cells #[] 63))):=kt;have af:Eq (∀j u,(xs.drop (k*2))[j]?=some u→(f.alloc (.cells #[] 63)).cell? ((⟨g,ox,none⟩:Addr).add j)=some u):=fun j u T=>by
        rw [Gg] at T;have h1:=(bK C.o kt).cells (g:=g) rfl _ _ T;have h2:¬c=k:=by intro e;have h3:=(E'.1 T).1;omega
        rw [FO,FG] at h1;rw [FO,Y,if_neg h2];exact h1
       have a8:Eq (∀u ∈ xs.drop (k*2),u.oneCell'=true):=fun u T=>a4.o.den.one u (Gf T)
       have ak:Eq ((xs.drop (k*2)).length=nt*2):=by show _=_;rw [FN,a9,← aV];omega
       have R0:Eq ((f.alloc (.cells #[] 63)).ownsRow f.heap.size 63 2 (sL (f.heap.size) 0 0) 0 []):=by
        have:=F6 (base:=f.heap.size) (e:=63) (size:=2) f #[] 0 (Fv _) (by simp) (by simp);show World.ownsRow _ _ _ _ _ _ _
        simpa using this
       have bi:(k:Int)≤(n:Int):=by omega
       have bm:(k:Int)≤(c:Int):=by omega
       have bh:(n:Int)≤(c:Int):=by omega
       have be:nt≤101000:=by omega
       clear kt Y a9;go_upto_region 9 with (at_builtin;refine wpList_append_own _ rfl _ _ 61 rfl f.heap.size 63 j0 _ 2 32 Tryz.underlying61 hj a1 a3 a2 rfl (by decide) _ _ _ rfl R0.o ⟨g,ox,none⟩ nt ct (xs.drop (k*2)) rfl ak.o af.o a8.o (by unfold maxLen;omega) (by omega) (by simp) ?_;intro vt I d s E;obtain ⟨gt,ad,rfl⟩:=aH d E)
       all_goals try (rename_i hbad;exact absurd hbad.1 (by decide))
       simp only [FG] at d;have ae:Eq (Bl f I):=KT.o.grown s KT.o.size (fun k e=>by have h1:=Fx (show some f.heap.size=some k from e);omega);have aC:Eq (I.ownsRow f.heap.size 63 2 (sL gt nt ad) nt (xs.drop (k*2))):=d;have aL:Eq (I.ownsRow w.heap.size 63 2 (sL g k c) k (xs.take (k*2))):=mR (bK C.o ae.o) aB;have aM:Eq (gt≠g):=by have h1:=(C.o.lt g rfl).2;have h2:=(d.lt gt rfl).1;show gt≠g;omega
       have a7:Eq (Bl w I):=ai.o.trans (ae.o.mono ai.o.size);have ab:=q0;have a5:=q1;have m:Eq (∀w',Bl w w'→(fun w'=>w'.cell? ⟨bB,oB+i*2,none⟩=some (.slice Q N R)∧w'.cell? ⟨bB,oB+i*2+1,none⟩=some (iT y)∧bB<w'.heap.size) w'):=fun w' X=>⟨cell_later X ab,cell_later X a5,u' b5 X.size⟩
       have kd:Bl I I.drew:=(Below.refl _ I).drew;have F:Bl w I.drew:=a7.o.trans (kd.mono a7.o.size);have p0:=bK aL.o kd;have t0:=bK aC.o kd;clear d s E kd ab a5;refine eJ m F fun t=>?_
       generalize I.drew=Z at F p0 t0 t ⊢;refine aP 0 7 t ?_;refine aP 9 1 t ?_;refine aQ 7 fun K hK=>?_
       go_simp;have kc:Bl Z (Z.alloc (.cells #[.slice Q N R,iT y] 63)):=bZ;have k1:Bl w (Z.alloc (.cells #[.slice Q N R,iT y] 63)):=F.trans (kc.mono F.size);have p1:=bK p0 kc;have t1:=bK t0 kc;have J:=bW Z (.slice Q N R) (iT y) 63;generalize Z.heap.size=gb at J ⊢;generalize Z.alloc (.cells #[.slice Q N R,iT y] 63)=wb at k1 p1 t1 J ⊢;refine hK.o _ _ (m.o _ k1) fun t=>?_
       (try go_frame);refine aQ 8 fun K hK=>?_
       refine aw rfl (.tmp 45) (.tmp 50) 61 rfl w.heap.size 63 j0 _ 2 32 Tryz.underlying61 hj a1 a3 a2 rfl (by decide) _ _ _ rfl p1 ⟨gb,0,none⟩ 1 1 [.slice Q N R,iT y] rfl rfl J (by intro u T;simp at T;rcases T with rfl | rfl <;> rfl) ?_ ?_ ?_ ?_
       · unfold maxLen;omega
       · omega
       · exact k1.size
       intro v8 w8 L al aa;obtain ⟨g8,c8,rfl⟩:=aH L aa;have D:wb.grownBy w8 (some g):=al;have t2:=t1.kept D (.inr (fun e=>aM.o (Fx (show some gt=some g from e))));have k2:Bl w w8:=k1.grown D k1.size (fun x e=>by have h1:=Fx e;have h2:=(p1.lt g rfl).1;omega);refine hK.o _ _ (m.o _ k2) fun t=>?_
       (try go_frame);refine aQ 10 fun K hK=>?_
       refine aw rfl (.tmp 51) (.tmp 52) 61 rfl w.heap.size 63 j0 _ 2 32 Tryz.underlying61 hj a1 a3 a2 rfl (by decide) _ _ _ rfl L ⟨gt,0,none⟩ nt ad (xs.drop (k*2)) rfl ak.o (t2.cells (g:=gt) rfl) a8.o ?_ ?_ ?_ ?_
       · unfold maxLen;omega
       · omega
       · exact k2.size
       intro v9 w9 H a6 ag;obtain ⟨g9,c9,rfl⟩:=aH H ag;have W:w8.grownBy w9 (some g8):=a6;have k3:Bl w w9:=k2.grown W k2.size (fun x e=>by have h1:=Fx e;have h2:=(L.lt g8 rfl).1;omega);refine hK.o _ _ (m.o _ k3) fun t=>?_
       (try go_frame);refine aP 11 1 t ?_;refine dN ?_;have U:k+1+nt=n+1:=by omega
       rw [U] at H;have aJ:Eq (w9.ownsRow w.heap.size 63 2 (sL g9 (n+1) c9) (n+1) (xs.take (k*2)++[.slice Q N R,iT y]++xs.drop (k*2))):=H;have K9:Eq (Bl w w9):=k3;have aI:Eq (eC (·<w.heap.size) w (xs.take (k*2)++[.slice Q N R,iT y]++xs.drop (k*2)) (dJ A (B.take (i+1)))):=by
        rw [lD A bv.o,← bs.o];unfold m9;rw [ao.o,HJ.o];exact tD a4.o (my bz.o bo.o) (by rw [ao.o];exact aB)
       clear t F k1 k2 k3 p0 p1 t0 t1 t2 J L al D aa H a6 W ag;go_wp2;go_roundw
       case rel=>exact ⟨i+1,g9,n+1,c9,_,by omega,by go_num,by simp only [U],by have:=br.o;omega,aJ.o,aI.o,K9.o⟩
       case measure=>simp [intOf];omega
     · have bM:(k:Int) > 0:=by omega
       have aT:(0:Int)<(k:Int):=by omega
       have aE:0<k:=by omega
       have cp:decide ((0:Int)<(k:Int))=true:=decide_eq_true aT;have cG:decide (0<k)=true:=decide_eq_true aE;have cX:IntKind.i64.wrap ((k:Int) - 1)=(k:Int) - 1:=by rw [FQ];unfold wrap64;omega
       have d3:(0:Int)≤(k:Int) - 1:=by omega
       have cQ:(1:Int)≤(k:Int):=by omega
       have d9:(k:Int) - 1<(n:Int):=by omega
       have d1:((k:Int) - 1).toNat=k - 1:=by omega
       obtain ⟨⟨Lx,mx⟩,b8⟩:∃r,O[k - 1]?=some r:=⟨_,j' (by have:=ao.o;omega)⟩;obtain ⟨_,sx,nx,cx,cd,bN,bH,_⟩:=a4.o.2 (k - 1) _ b8;have hrow:=bK HR.o bw;have bp:=hrow.cells (g:=g) rfl _ _ cd;have bC:=hrow.cells (g:=g) rfl _ _ bN;rw [FO,FG] at bp bC;have gz:=(hrow.lt g rfl).2;have cg:=cell_later aA q0;have c4:=cell_later aA q1;have qz:=u' b5 aA.size;have m:Eq (∀w',Bl wr w'→(fun w'=>w'.cell? ⟨g,(k - 1)*2,none⟩=some (.slice sx nx cx)∧w'.cell? ⟨g,(k - 1)*2+1,none⟩=some (iT mx)∧w'.cell? ⟨bB,oB+i*2,none⟩=some (.slice Q N R)∧w'.cell? ⟨bB,oB+i*2+1,none⟩=some (iT y)∧g<w'.heap.size∧bB<w'.heap.size) w'):=fun w' X=>⟨cell_later X bp,cell_later X bC,cell_later X cg,cell_later X c4,u' gz X.size,u' qz X.size⟩
       obtain ⟨lx,bq⟩:=aG (bn Lx);obtain ⟨lr,bu⟩:=aG (bn Lr);have c5:1≤nx:=by have h1:=cq.o _ (Fw b8);have h2:=bH.length;simp only at h1 h2;omega
       have bS:Eq (∀w',Bl wr w'→Calls Tryz.prog 147 #[.agg #[.slice sx nx cx,iT mx]] w' fun r bF=>r=.returned (.string lx)∧Bl w' bF):=by rw [bq];exact fun w' X=>l7 mx sx nx cx Lx w' ((bH.keep aA).keep X) c5
       have bR:Eq (∀w',Bl wr w'→Calls Tryz.prog 147 #[.agg #[.slice Q N R,iT y]] w' fun r bF=>r=.returned (.string lr)∧Bl w' bF):=by rw [bu];exact fun w' X=>l7 y Q N R Lr w' ((bt.1.keep aA).keep X) co.o
       have am:Eq (O[k - 1]?=some (Lx,mx)∧lx=bn Lx∧lr=bn Lr):=⟨b8,bq,bu⟩;clear b8 cd bN bH hrow bp bC cg c4 bq bu c5;go_upto_region 6 with fail
       refine eJ m F fun t=>?_
       generalize wr.drew=Z at F t ⊢;refine aP 0 8 t ?_;refine aP 9 4 t ?_;refine aQ 8 fun K hK=>?_
       go_simp;refine (bS.o _ F).mono ?_;rintro e wCLX ⟨rfl,aN⟩;have aW:Bl wr wCLX:=F.trans (aN.mono F.size);go_wp2_with fail
       refine hK.o _ _ (m.o _ aW) fun t=>?_
       (try go_frame);refine aQ 13 fun K hK=>?_
       go_simp;refine (bR.o _ aW).mono ?_;rintro e wCLR ⟨rfl,aR⟩;have au:Bl wr wCLR:=aW.trans (aR.mono aW.size);go_wp2_with fail
       refine hK.o _ _ (m.o _ au) fun t=>?_
       (try go_frame);refine aP 14 2 t ?_;refine dN ?_;generalize wCLR=f at au t ⊢;have KZ:Eq (Bl Wq f):=b7.o.trans (au.mono b7.o.size);clear t m F aW au aN aR bS bR;cases ha:Op.bytesLess lx.toList lr.toList with
       | true =>
        have HJ:Eq (qU O (Lr,y) n=k):=uK ba.o aE am.o.1 (by rw [← am.o.2.1,← am.o.2.2];simp [nq,ha]);have hb:(lx.toList == lr.toList)=false:=by rw [beq_eq_false_iff_ne];intro e;rw [e,b9] at ha;cases ha
        have cY:(!Op.bytesLess lx.toList lr.toList)=false:=by rw [ha];rfl
        have cW:(!Op.bytesLess lx.toList lr.toList && !lx.toList == lr.toList)=false:=by rw [ha];rfl
        clear hb;have ai:Eq (Bl w f):=HK.o.trans (KZ.o.mono HK.o.size);have C:Eq (f.ownsRow w.heap.size 63 2 (sL g n c) n xs):=bK HR.o KZ.o;have bJ:=(cZ C.o).1;have a9:=C.o.1;obtain ⟨ox,Y⟩:=aG (if c=k then 0 else k*2);have bI:(if c=k then some (⟨g,0,none⟩:Addr) else some ⟨g,k*2,none⟩)=some ⟨g,ox,none⟩:=by rw [Y];split <;> rfl
        obtain ⟨nt,aV⟩:∃nt,n - k=nt:=⟨_,rfl⟩;obtain ⟨ct,ca⟩:∃ct,c - k=ct:=⟨_,rfl⟩;have kt:Bl f (f.alloc (.cells #[] 63)):=bZ;have KT:Eq (Bl f (f.alloc (.cells #[] 63))):=kt;have af:Eq (∀j u,(xs.drop (k*2))[j]?=some u→(f.alloc (.cells #[] 63)).cell? ((⟨g,ox,none⟩:Addr).add j)=some u):=fun j u T=>by
         rw [Gg] at T;have h1:=(bK C.o kt).cells (g:=g) rfl _ _ T;have h2:¬c=k:=by intro e;have h3:=(E'.1 T).1;omega
         rw [FO,FG] at h1;rw [FO,Y,if_neg h2];exact h1
        have a8:Eq (∀u ∈ xs.drop (k*2),u.oneCell'=true):=fun u T=>a4.o.den.one u (Gf T)
        have ak:Eq ((xs.drop (k*2)).length=nt*2):=by show _=_;rw [FN,a9,← aV];omega
        have R0:Eq ((f.alloc (.cells #[] 63)).ownsRow f.heap.size 63 2 (sL (f.heap.size) 0 0) 0 []):=by
         have:=F6 (base:=f.heap.size) (e:=63) (size:=2) f #[] 0 (Fv _) (by simp) (by simp);show World.ownsRow _ _ _ _ _ _ _
         simpa using this
        have bi:(k:Int)≤(n:Int):=by omega
        have bm:(k:Int)≤(c:Int):=by omega
        have bh:(n:Int)≤(c:Int):=by omega
        have be:nt≤101000:=by omega
        clear kt Y a9;go_upto_region 9 with (at_builtin;refine wpList_append_own _ rfl _ _ 61 rfl f.heap.size 63 j0 _ 2 32 Tryz.underlying61 hj a1 a3 a2 rfl (by decide) _ _ _ rfl R0.o ⟨g,ox,none⟩ nt ct (xs.drop (k*2)) rfl ak.o af.o a8.o (by unfold maxLen;omega) (by omega) (by simp) ?_;intro vt I d s E;obtain ⟨gt,ad,rfl⟩:=aH d E)
        all_goals try (rename_i hbad;exact absurd hbad.1 (by decide))
        simp only [FG] at d;have ae:Eq (Bl f I):=KT.o.grown s KT.o.size (fun k e=>by have h1:=Fx (show some f.heap.size=some k from e);omega);have aC:Eq (I.ownsRow f.heap.size 63 2 (sL gt nt ad) nt (xs.drop (k*2))):=d;have aL:Eq (I.ownsRow w.heap.size 63 2 (sL g k c) k (xs.take (k*2))):=mR (bK C.o ae.o) aB;have aM:Eq (gt≠g):=by have h1:=(C.o.lt g rfl).2;have h2:=(d.lt gt rfl).1;show gt≠g;omega
        have a7:Eq (Bl w I):=ai.o.trans (ae.o.mono ai.o.size);have ab:=q0;have a5:=q1;have m:Eq (∀w',Bl w w'→(fun w'=>w'.cell? ⟨bB,oB+i*2,none⟩=some (.slice Q N R)∧w'.cell? ⟨bB,oB+i*2+1,none⟩=some (iT y)∧bB<w'.heap.size) w'):=fun w' X=>⟨cell_later X ab,cell_later X a5,u' b5 X.size⟩
        have kd:Bl I I.drew:=(Below.refl _ I).drew;have F:Bl w I.drew:=a7.o.trans (kd.mono a7.o.size);have p0:=bK aL.o kd;have t0:=bK aC.o kd;clear d s E kd ab a5;refine eJ m F fun t=>?_
        generalize I.drew=Z at F p0 t0 t ⊢;refine aP 0 7 t ?_;refine aP 9 1 t ?_;refine aQ 7 fun K hK=>?_
        go_simp;have kc:Bl Z (Z.alloc (.cells #[.slice Q N R,iT y] 63)):=bZ;have k1:Bl w (Z.alloc (.cells #[.slice Q N R,iT y] 63)):=F.trans (kc.mono F.size);have p1:=bK p0 kc;have t1:=bK t0 kc;have J:=bW Z (.slice Q N R) (iT y) 63;generalize Z.heap.size=gb at J ⊢;generalize Z.alloc (.cells #[.slice Q N R,iT y] 63)=wb at k1 p1 t1 J ⊢;refine hK.o _ _ (m.o _ k1) fun t=>?_
        (try go_frame);refine aQ 8 fun K hK=>?_
        refine aw rfl (.tmp 45) (.tmp 50) 61 rfl w.heap.size 63 j0 _ 2 32 Tryz.underlying61 hj a1 a3 a2 rfl (by decide) _ _ _ rfl p1 ⟨gb,0,none⟩ 1 1 [.slice Q N R,iT y] rfl rfl J (by intro u T;simp at T;rcases T with rfl | rfl <;> rfl) ?_ ?_ ?_ ?_
        · unfold maxLen;omega
        · omega
        · exact k1.size
        intro v8 w8 L al aa;obtain ⟨g8,c8,rfl⟩:=aH L aa;have D:wb.grownBy w8 (some g):=al;have t2:=t1.kept D (.inr (fun e=>aM.o (Fx (show some gt=some g from e))));have k2:Bl w w8:=k1.grown D k1.size (fun x e=>by have h1:=Fx e;have h2:=(p1.lt g rfl).1;omega);refine hK.o _ _ (m.o _ k2) fun t=>?_
        (try go_frame);refine aQ 10 fun K hK=>?_
        refine aw rfl (.tmp 51) (.tmp 52) 61 rfl w.heap.size 63 j0 _ 2 32 Tryz.underlying61 hj a1 a3 a2 rfl (by decide) _ _ _ rfl L ⟨gt,0,none⟩ nt ad (xs.drop (k*2)) rfl ak.o (t2.cells (g:=gt) rfl) a8.o ?_ ?_ ?_ ?_
        · unfold maxLen;omega
        · omega
        · exact k2.size
        intro v9 w9 H a6 ag;obtain ⟨g9,c9,rfl⟩:=aH H ag;have W:w8.grownBy w9 (some g8):=a6;have k3:Bl w w9:=k2.grown W k2.size (fun x e=>by have h1:=Fx e;have h2:=(L.lt g8 rfl).1;omega);refine hK.o _ _ (m.o _ k3) fun t=>?_
        (try go_frame);refine aP 11 1 t ?_;refine dN ?_;have U:k+1+nt=n+1:=by omega
        rw [U] at H;have aJ:Eq (w9.ownsRow w.heap.size 63 2 (sL g9 (n+1) c9) (n+1) (xs.take (k*2)++[.slice Q N R,iT y]++xs.drop (k*2))):=H;have K9:Eq (Bl w w9):=k3;have aI:Eq (eC (·<w.heap.size) w (xs.take (k*2)++[.slice Q N R,iT y]++xs.drop (k*2)) (dJ A (B.take (i+1)))):=by
         rw [lD A bv.o,← bs.o];unfold m9;rw [ao.o,HJ.o];exact tD a4.o (my bz.o bo.o) (by rw [ao.o];exact aB)
        clear t F k1 k2 k3 p0 p1 t0 t1 t2 J L al D aa H a6 W ag;go_wp2;go_roundw
        case rel=>exact ⟨i+1,g9,n+1,c9,_,by omega,by go_num,by simp only [U],by have:=br.o;omega,aJ.o,aI.o,K9.o⟩
        case measure=>simp [intOf];omega
       | false =>
        cases hb:(lx.toList == lr.toList) with
        | true =>
         have HJ:Eq (qU O (Lr,y) n=k):=uK ba.o aE am.o.1 (by rw [← am.o.2.1,← am.o.2.2];simp [nq,hb]);have cS:lx.toList=lr.toList:=by simpa using hb
         have ai:Eq (Bl w f):=HK.o.trans (KZ.o.mono HK.o.size);have C:Eq (f.ownsRow w.heap.size 63 2 (sL g n c) n xs):=bK HR.o KZ.o;have bJ:=(cZ C.o).1;have a9:=C.o.1;obtain ⟨ox,Y⟩:=aG (if c=k then 0 else k*2);have bI:(if c=k then some (⟨g,0,none⟩:Addr) else some ⟨g,k*2,none⟩)=some ⟨g,ox,none⟩:=by rw [Y];split <;> rfl
         obtain ⟨nt,aV⟩:∃nt,n - k=nt:=⟨_,rfl⟩;obtain ⟨ct,ca⟩:∃ct,c - k=ct:=⟨_,rfl⟩;have kt:Bl f (f.alloc (.cells #[] 63)):=bZ;have KT:Eq (Bl f (f.alloc (.cells #[] 63))):=kt;have af:Eq (∀j u,(xs.drop (k*2))[j]?=some u→(f.alloc (.cells #[] 63)).cell? ((⟨g,ox,none⟩:Addr).add j)=some u):=fun j u T=>by
          rw [Gg] at T;have h1:=(bK C.o kt).cells (g:=g) rfl _ _ T;have h2:¬c=k:=by intro e;have h3:=(E'.1 T).1;omega
          rw [FO,FG] at h1;rw [FO,Y,if_neg h2];exact h1
         have a8:Eq (∀u ∈ xs.drop (k*2),u.oneCell'=true):=fun u T=>a4.o.den.one u (Gf T)
         have ak:Eq ((xs.drop (k*2)).length=nt*2):=by show _=_;rw [FN,a9,← aV];omega
         have R0:Eq ((f.alloc (.cells #[] 63)).ownsRow f.heap.size 63 2 (sL (f.heap.size) 0 0) 0 []):=by
          have:=F6 (base:=f.heap.size) (e:=63) (size:=2) f #[] 0 (Fv _) (by simp) (by simp);show World.ownsRow _ _ _ _ _ _ _
          simpa using this
         have bi:(k:Int)≤(n:Int):=by omega
         have bm:(k:Int)≤(c:Int):=by omega
         have bh:(n:Int)≤(c:Int):=by omega
         have be:nt≤101000:=by omega
         clear kt Y a9;go_upto_region 9 with (at_builtin;refine wpList_append_own _ rfl _ _ 61 rfl f.heap.size 63 j0 _ 2 32 Tryz.underlying61 hj a1 a3 a2 rfl (by decide) _ _ _ rfl R0.o ⟨g,ox,none⟩ nt ct (xs.drop (k*2)) rfl ak.o af.o a8.o (by unfold maxLen;omega) (by omega) (by simp) ?_;intro vt I d s E;obtain ⟨gt,ad,rfl⟩:=aH d E)
         all_goals try (rename_i hbad;exact absurd hbad.1 (by decide))
         simp only [FG] at d;have ae:Eq (Bl f I):=KT.o.grown s KT.o.size (fun k e=>by have h1:=Fx (show some f.heap.size=some k from e);omega);have aC:Eq (I.ownsRow f.heap.size 63 2 (sL gt nt ad) nt (xs.drop (k*2))):=d;have aL:Eq (I.ownsRow w.heap.size 63 2 (sL g k c) k (xs.take (k*2))):=mR (bK C.o ae.o) aB;have aM:Eq (gt≠g):=by have h1:=(C.o.lt g rfl).2;have h2:=(d.lt gt rfl).1;show gt≠g;omega
         have a7:Eq (Bl w I):=ai.o.trans (ae.o.mono ai.o.size);have ab:=q0;have a5:=q1;have m:Eq (∀w',Bl w w'→(fun w'=>w'.cell? ⟨bB,oB+i*2,none⟩=some (.slice Q N R)∧w'.cell? ⟨bB,oB+i*2+1,none⟩=some (iT y)∧bB<w'.heap.size) w'):=fun w' X=>⟨cell_later X ab,cell_later X a5,u' b5 X.size⟩
         have kd:Bl I I.drew:=(Below.refl _ I).drew;have F:Bl w I.drew:=a7.o.trans (kd.mono a7.o.size);have p0:=bK aL.o kd;have t0:=bK aC.o kd;clear d s E kd ab a5;refine eJ m F fun t=>?_
         generalize I.drew=Z at F p0 t0 t ⊢;refine aP 0 7 t ?_;refine aP 9 1 t ?_;refine aQ 7 fun K hK=>?_
         go_simp;have kc:Bl Z (Z.alloc (.cells #[.slice Q N R,iT y] 63)):=bZ;have k1:Bl w (Z.alloc (.cells #[.slice Q N R,iT y] 63)):=F.trans (kc.mono F.size);have p1:=bK p0 kc;have t1:=bK t0 kc;have J:=bW Z (.slice Q N R) (iT y) 63;generalize Z.heap.size=gb at J ⊢;generalize Z.alloc (.cells #[.slice Q N R,iT y] 63)=wb at k1 p1 t1 J ⊢;refine hK.o _ _ (m.o _ k1) fun t=>?_
         (try go_frame);refine aQ 8 fun K hK=>?_
         refine aw rfl (.tmp 45) (.tmp 50) 61 rfl w.heap.size 63 j0 _ 2 32 Tryz.underlying61 hj a1 a3 a2 rfl (by decide) _ _ _ rfl p1 ⟨gb,0,none⟩ 1 1 [.slice Q N R,iT y] rfl rfl J (by intro u T;simp at T;rcases T with rfl | rfl <;> rfl) ?_ ?_ ?_ ?_
         · unfold maxLen;omega
         · omega
         · exact k1.size
         intro v8 w8 L al aa;obtain ⟨g8,c8,rfl⟩:=aH L aa;have D:wb.grownBy w8 (some g):=al;have t2:=t1.kept D (.inr (fun e=>aM.o (Fx (show some gt=some g from e))));have k2:Bl w w8:=k1.grown D k1.size (fun x e=>by have h1:=Fx e;have h2:=(p1.lt g rfl).1;omega);refine hK.o _ _ (m.o _ k2) fun t=>?_
         (try go_frame);refine aQ 10 fun K hK=>?_
         refine aw rfl (.tmp 51) (.tmp 52) 61 rfl w.heap.size 63 j0 _ 2 32 Tryz.underlying61 hj a1 a3 a2 rfl (by decide) _ _ _ rfl L ⟨gt,0,none⟩ nt ad (xs.drop (k*2)) rfl ak.o (t2.cells (g:=gt) rfl) a8.o ?_ ?_ ?_ ?_
         · unfold maxLen;omega
         · omega
         · exact k2.size
         intro v9 w9 H a6 ag;obtain ⟨g9,c9,rfl⟩:=aH H ag;have W:w8.grownBy w9 (some g8):=a6;have k3:Bl w w9:=k2.grown W k2.size (fun x e=>by have h1:=Fx e;have h2:=(L.lt g8 rfl).1;omega);refine hK.o _ _ (m.o _ k3) fun t=>?_
         (try go_frame);refine aP 11 1 t ?_;refine dN ?_;have U:k+1+nt=n+1:=by omega
         rw [U] at H;have aJ:Eq (w9.ownsRow w.heap.size 63 2 (sL g9 (n+1) c9) (n+1) (xs.take (k*2)++[.slice Q N R,iT y]++xs.drop (k*2))):=H;have K9:Eq (Bl w w9):=k3;have aI:Eq (eC (·<w.heap.size) w (xs.take (k*2)++[.slice Q N R,iT y]++xs.drop (k*2)) (dJ A (B.take (i+1)))):=by
          rw [lD A bv.o,← bs.o];unfold m9;rw [ao.o,HJ.o];exact tD a4.o (my bz.o bo.o) (by rw [ao.o];exact aB)
         clear t F k1 k2 k3 p0 p1 t0 t1 t2 J L al D aa H a6 W ag;go_wp2;go_roundw
         case rel=>exact ⟨i+1,g9,n+1,c9,_,by omega,by go_num,by simp only [U],by have:=br.o;omega,aJ.o,aI.o,K9.o⟩
         case measure=>simp [intOf];omega
        | false =>
         have cy:Eq (qU O (Lr,y) n=qU O (Lr,y) (k - 1)):=by
          show _=_
          obtain ⟨k',rfl⟩:∃k',k=k'+1:=⟨k - 1,by omega⟩;have h1:=am.o;rw [GG] at h1 ⊢;rw [ba.o,qU,h1.1];simp only [← h1.2.1,← h1.2.2];rw [show nq lx lr=true by simp [nq,ha,hb]];rfl
         go_wp2;go_roundw
         case rel=>exact ⟨k - 1,by omega,by first | rfl | go_num,cy.o,KZ.o⟩
         case measure=>simp [intOf];omega
  · have c7:¬(i:Int)<(nB:Int):=by omega
    have aY:B.take i=B:=FH (by rw [cs.o];omega);have hd:=HD.o;rw [aY] at hd;have cD:Eq (eC (·<w.heap.size) w xs (dJ A B)):=hd;clear hd aY;go_wp2;go_ret;exact ⟨g,n,c,rfl,xs,HR.o,cD.o,HK.o⟩
theorem qu {b f:Nat} {L:List ae} (h:ah w (some ⟨b,f,none⟩) n c L):∀j u,(aC L)[j]?=some u→w.cell? ((⟨b,f,none⟩:Addr).add j)=some u:=by
 intro j u d;have g:j<(aC L).length:=(E'.1 d).1;rw [aV] at g;have hi:j / 5<L.length:=by omega
 obtain ⟨c0,c1,c2,c3,c4⟩:=h.cells _ rfl (j / 5) hi;obtain ⟨m,o,r2,r3,r4⟩:=fF L (j / 5) L[j / 5] (j' hi);rw [FO];simp only [G9] at c0 c1 c2 c3 c4;have:j=j / 5*5∨j=j / 5*5+1∨j=j / 5*5+2∨j=j / 5*5+3∨j=j / 5*5+4:=by omega
 rcases this with e | e | e | e | e
 · rw [← e] at m c0;rw [m] at d;cases d;exact c0
 · rw [← e] at o c1;rw [o] at d;cases d;exact c1
 · rw [← e] at r2 c2;rw [r2] at d;cases d;exact c2
 · rw [← e] at r3 c3;rw [r3] at d;cases d;exact c3
 · rw [← e] at r4 c4;rw [r4] at d;cases d;exact c4
theorem pp (a:Option Addr) (n c:Nat) (L:List ae) (w:World) (hL:ah w a n c L) :
 Calls Tryz.prog 173 #[.slice a n c] w fun e w'=>e=.returned (.agg #[.slice a n c,iT ((du L:Nat):Int)])∧Bl w w':=by
 go_enter Tryz.func173,Tryz.ntmps173
 go_wp2_with fail
 refine (mN a n c L _ (hL.keep bZ)).mono ?_;rintro e w1 ⟨rfl,b⟩;obtain ⟨d,f⟩:=vw b;have hz:=b.size;simp at hz;go_wp2;refine bodyPost_ret (v:=.agg #[.slice a n c,iT ((du L:Nat):Int)]) (by simp [results,Tryz.results173,go_sem,d]) rfl ⟨rfl,?_⟩;have hB:Bl w w1:=bZ.trans (b.mono (by simp));exact (hB.setCell (p:=⟨w.heap.size,0,none⟩) (Fv _) _).setCell (p:=⟨w.heap.size,1,none⟩) (Fv _) _
end Go.Proofs.YtpobkmjicbobdaaGreat
