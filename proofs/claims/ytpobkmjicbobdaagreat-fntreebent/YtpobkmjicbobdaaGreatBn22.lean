/- Walks. -/
import Derived.Test.YtpobkmjicbobdaaGreatBn21
namespace Go.Proofs.YtpobkmjicbobdaaGreat
set_option maxRecDepth 100000
set_option maxHeartbeats 40000000
open Go.RowKit
variable {O:List ag} {c k n:Nat} {r x:ag} {w:World} {xs:List Value}
theorem Au (h:x ∈ mj O r):x=r∨x ∈ O:=by
 unfold mj at h;rcases List.mem_append.1 h with h | h
 · exact .inr (List.mem_of_mem_take h)
 · rcases List.mem_append.1 h with h | h
   · exact .inl (List.mem_singleton.1 h)
   · exact .inr (List.mem_of_mem_drop h)
theorem jw:∀(B A:List ag) {x:ag},x ∈ dq A B→x ∈ A∨x ∈ B
 | [],A,x,h=>.inl h
 | r :: B,A,x,h=>by
  rcases jw B (mj A r) h with h | h
  · rcases Au h with h | h
    · exact .inr (by simp [h])
    · exact .inl h
  · exact .inr (List.mem_cons_of_mem _ h)
theorem sT (h:pJ O r n=pJ O r k) (hk:0<k) (hx:O[k - 1]?=some x) (hg:mn (bj x.1) (bj r.1)=false):pJ O r n=k:=by
 obtain ⟨k',rfl⟩:∃k',k=k'+1:=⟨k - 1,by omega⟩;rw [Nat.add_sub_cancel] at hx;rw [h,pJ,hx];simp only [hg,Bool.false_eq_true,if_false]
theorem jS (A:List ag) {B:List ag} {i:Nat} {r:ag} (h:B[i]?=some r):dq A (B.take (i+1))=mj (dq A (B.take i)) r:=by
 rw [List.take_add_one,h];unfold dq;rw [List.foldl_append];rfl
theorem l6 {base e size g:Nat} (h:w.ownsRow base e size (sL g n c) n xs) (hk:k≤n):w.ownsRow base e size (sL g k c) k (xs.take (k*size)):=by
 have hl:=h.1;have hm:k*size≤n*size:=Nat.mul_le_mul_right _ hk;rcases h.2 with ⟨hv,_⟩ | ⟨g',cap,cur,hv,h1,h2,h3,h4,h5,h6⟩
 · cases hv
 · cases hv;refine ⟨by rw [List.length_take,hl];omega,.inr ⟨g,c,cur,rfl,h1,h2,by omega,h4,h5,?_⟩⟩;rw [← h6,List.take_take];congr 1
   omega
theorem rp {p:Nat→Prop} {a b:Value} (hd:dK p w xs O) (hr:dK p w [a,b] [r]) (hk:k≤O.length):dK p w (xs.take (k*2)++[a,b]++xs.drop (k*2)) (O.take k++([r]++O.drop k)):=by
 have hl:=hd.1;have h1:dK p w (xs.take (k*2)) (O.take k):=by
  refine ⟨by rw [List.length_take,List.length_take];omega,fun i x hx=>?_⟩;have hi:=(List.getElem?_eq_some_iff.1 hx).1;rw [List.length_take] at hi;rw [List.getElem?_take_of_lt (by omega)] at hx;rw [List.getElem?_take_of_lt (by omega),List.getElem?_take_of_lt (by omega)];exact hd.2 i x hx
 have h2:dK p w (xs.drop (k*2)) (O.drop k):=by
  refine ⟨by rw [List.length_drop,List.length_drop];omega,fun i x hx=>?_⟩;rw [List.getElem?_drop] at hx;rw [List.getElem?_drop,List.getElem?_drop,show k*2+i*2=(k+i)*2 by omega,show k*2+(i*2+1)=(k+i)*2+1 by omega];exact hd.2 (k+i) x hx
 have:=h1.app (hr.app h2);simpa using this
theorem p7 (bA oA nA cA:Nat) (A:List ag) (bB oB nB cB:Nat) (B:List ag) (w:World) (hA:az 0 w (some ⟨bA,oA,none⟩) nA cA A) (hB:az 0 w (some ⟨bB,oB,none⟩) nB cB B) (hbB:bB<w.heap.size) (hneA:∀r ∈ A,1≤r.1.length) (hneB:∀r ∈ B,1≤r.1.length) (hnA:nA≤1000) (hnB:nB≤100000) :
 Calls Tryz.prog 180 #[sO bA oA nA cA,sO bB oB nB cB] w fun e w'=>∃g n c xs,e=.returned (sL g n c)∧w'.ownsRow w.heap.size 63 2 (sL g n c) n xs∧dK (·<w.heap.size) w xs (dq A B)∧Bl w w':=by
 obtain ⟨j0,hj,hy0,hy1,hy2⟩:=info_parts Tryz.infoRun;have HB:=b6 hB;have HLB:Hid (B.length=nB):=hB.length;have HNA:=b6 hneA;have HNB:=b6 hneB;obtain ⟨xsA,dA,rA⟩:=hA.raw;have HDA:Hid (dK (·<w.heap.size) w xsA A):=dA.denP;have HRA:Hid (my w (sO bA oA nA cA) nA xsA):=rA;have ka:Bl w (w.alloc (.cells #[] 63)):=bZ;have KA:Hid (Bl w (w.alloc (.cells #[] 63))):=ka;have R1:Hid ((w.alloc (.cells #[] 63)).ownsRow w.heap.size 63 2 (sL (w.heap.size) 0 0) 0 []):=by
  have:=World.ownsRow_lit (base:=w.heap.size) (e:=63) (size:=2) w #[] 0 (Nat.le_refl _) (by simp) (by simp);show World.ownsRow _ _ _ _ _ _ _
  simpa using this
 have HNW:Hid (∀j u,xsA[j]?=some u→(w.alloc (.cells #[] 63)).cell? ((⟨bA,oA,none⟩:Addr).add j)=some u):=fun j u hu=>by
  rcases (rA.keep ka).2.2 with ⟨h,_⟩ | ⟨b,o,c,h,hc⟩
  · cases h
  · cases h;rw [Go.WideShapes.add_plain];exact hc j u hu
 clear hA hB hneA hneB dA rA ka;go_enter Tryz.func180,Tryz.ntmps180
 go_wp2_with (at_builtin;refine wpList_append_own _ rfl _ _ 61 rfl w.heap.size 63 j0 _ 2 32 Tryz.underlying61 hj hy0 hy1 hy2 rfl (by decide) _ _ _ rfl R1.out ⟨bA,oA,none⟩ nA cA xsA rfl HRA.out.1 HNW.out HRA.out.2.1 (by unfold maxLen;omega) (by omega) (by simp) ?_;intro v1 w1 hown1 hgrow1 hnil1;obtain ⟨g1,c1,rfl⟩:=aG hown1 hnil1)
 have HO1:Hid (w1.ownsRow w.heap.size 63 2 (sL g1 nA c1) nA xsA):=by
  show World.ownsRow _ _ _ _ _ _ _
  simpa using hown1
 have K1:Hid (Bl w w1):=KA.out.grown hgrow1 KA.out.size (fun k e=>(R1.out.lt k e).1);clear hown1 hgrow1 hnil1;go_wp2;go_loopw [5,6] (fun ov iv wr=>∃(i g n c:Nat) (xs:List Value),i≤nB∧iv=iT (i:Int)∧ov=sL g n c∧n=nA+i∧wr.ownsRow w.heap.size 63 2 (sL g n c) n xs∧dK (·<w.heap.size) w xs (dq A (B.take i))∧Bl w wr) (fun _ iv _=>nB - (intOf iv).toNat)
 case atStart=>exact ⟨0,g1,nA,c1,xsA,Nat.zero_le _,rfl,by first | rfl | simp,rfl,HO1.out,HDA.out,K1.out⟩
 case round =>
  clear HO1 K1 R1 KA HNW HRA HDA;obtain ⟨i,g,n,c,xs,hin,rfl,rfl,hnn,hr,hd,hb⟩:=hrel;have HR:Hid (wr.ownsRow w.heap.size 63 2 (sL g n c) n xs):=hr;have HD:Hid (dK (·<w.heap.size) w xs (dq A (B.take i))):=hd;have HK:Hid (Bl w wr):=hb;have HNN:Hid (n=nA+i):=hnn;have hn2:n≤101000:=by omega
  clear hr hd hnn;by_cases hlt:i<nB
  · have hltI:(i:Int)<(nB:Int):=by omega
    obtain ⟨Lr,mr,sr,nr,cr,hgr,hwr,q0,q1,hEr⟩:=HB.out.run (Below.refl _ w) i hlt;have HGR:Hid (B[i]?=some (Lr,mr)):=hgr;have HNR:Hid (1≤nr):=by have h1:=HNB.out _ (List.mem_of_getElem? hgr);have h2:=hEr.1.length;show _≤_;simp only at h1;omega
    obtain ⟨O,hO⟩:=aS (dq A (B.take i));have HOE:Hid (O=dq A (B.take i)):=hO;have HWR:Hid ((Lit.int .i64 mr).wf=true):=hwr;have HER:Hid (aj w sr nr cr Lr):=hEr.1;have HDO:Hid (dK (·<w.heap.size) w xs O):=by rw [hO];exact HD.out
    have HOL:Hid (O.length=n):=by show _=_;have h1:=HR.out.1;have h2:=HDO.out.1;omega
    have HNO:Hid (∀r ∈ O,1≤r.1.length):=by
     rw [hO];intro r hr;rcases jw _ _ hr with h | h
     · exact HNA.out r h
     · exact HNB.out r (List.mem_of_mem_take h)
    obtain ⟨Wq,hWq⟩:=aS wr;rw [← hWq] at HR HK;have HRQ:Hid (Bl Wq wr):=by rw [hWq];exact Below.refl _ _
    clear hWq hgr;go_wp2;go_loopw [7] (fun kv wr=>∃k:Nat,k≤n∧kv=iT (k:Int)∧pJ O (Lr,mr) n=pJ O (Lr,mr) k∧Bl Wq wr) (fun kv _=>(intOf kv).toNat)
    case atStart=>exact ⟨n,Nat.le_refl _,rfl,rfl,HRQ.out⟩
    case round =>
     clear HRQ;obtain ⟨k,hkn,rfl,hpl,hbq⟩:=hrel;have HPL:Hid (pJ O (Lr,mr) n=pJ O (Lr,mr) k):=hpl;have HKQ:Hid (Bl Wq wr):=hbq;have hbw:Bl w wr:=HK.out.trans (hbq.mono HK.out.size);have zz:0<wr.heap.size:=by have:=hbw.size;omega
     clear hpl;have k0:Bl wr wr.drew:=(Below.refl _ wr).drew;by_cases hk0:k=0
     · have HJ:Hid (pJ O (Lr,mr) n=k):=by show _=_;rw [HPL.out,hk0];rfl
       have hk0I:¬(k:Int) > 0:=by omega
       have hk0J:¬(0:Int)<(k:Int):=by omega
       have hkN:¬0<k:=by omega
       have hkd:decide ((0:Int)<(k:Int))=false:=decide_eq_false hk0J;have hke:decide (0<k)=false:=decide_eq_false hkN;clear hk0;have HMK:Hid (∀w',Bl wr w'→(fun w'=>0<w'.heap.size) w'):=fun w' kk=>Nat.lt_of_lt_of_le zz kk.size
       go_upto_region 6 with fail
       refine eC HMK k0 fun aa=>?_
       generalize wr.drew=wd at k0 aa ⊢;refine aO 0 8 aa ?_;refine aO 9 4 aa ?_;refine aI 8 fun K hK=>?_
       go_simp;refine hK.out _ _ (HMK.out _ k0) fun aa=>?_
       (try go_frame);refine aI 13 fun K hK=>?_
       go_simp;refine hK.out _ _ (HMK.out _ k0) fun aa=>?_
       (try go_frame);refine aO 14 2 aa ?_;refine dN ?_;generalize wd=wz at k0 aa ⊢;have KZ:Hid (Bl Wq wz):=HKQ.out.trans (k0.mono HKQ.out.size);clear aa HMK k0;have HKW:Hid (Bl w wz):=HK.out.trans (KZ.out.mono HK.out.size);have HRZ:Hid (wz.ownsRow w.heap.size 63 2 (sL g n c) n xs):=bF HR.out KZ.out;have hrm:=(cj HRZ.out).1;have hxl:=HRZ.out.1;obtain ⟨ox,hox⟩:=aS (if c=k then 0 else k*2);have hav:(if c=k then some (⟨g,0,none⟩:Addr) else some ⟨g,k*2,none⟩)=some ⟨g,ox,none⟩:=by rw [hox];split <;> rfl
       obtain ⟨nt,hnt⟩:∃nt,n - k=nt:=⟨_,rfl⟩;obtain ⟨ct,hct⟩:∃ct,c - k=ct:=⟨_,rfl⟩;have kt:Bl wz (wz.alloc (.cells #[] 63)):=bZ;have KT:Hid (Bl wz (wz.alloc (.cells #[] 63))):=kt;have HNW:Hid (∀j u,(xs.drop (k*2))[j]?=some u→(wz.alloc (.cells #[] 63)).cell? ((⟨g,ox,none⟩:Addr).add j)=some u):=fun j u hu=>by
        rw [List.getElem?_drop] at hu;have h1:=(bF HRZ.out kt).cells (g:=g) rfl _ _ hu;have h2:¬c=k:=by intro e;have h3:=(List.getElem?_eq_some_iff.1 hu).1;omega
        rw [Go.WideShapes.add_plain,Nat.zero_add] at h1;rw [Go.WideShapes.add_plain,hox,if_neg h2];exact h1
       have HON:Hid (∀u ∈ xs.drop (k*2),u.oneCell'=true):=fun u hu=>HDO.out.den.one u (List.mem_of_mem_drop hu)
       have HXT:Hid ((xs.drop (k*2)).length=nt*2):=by show _=_;rw [List.length_drop,hxl,← hnt];omega
       have R0:Hid ((wz.alloc (.cells #[] 63)).ownsRow wz.heap.size 63 2 (sL (wz.heap.size) 0 0) 0 []):=by
        have:=World.ownsRow_lit (base:=wz.heap.size) (e:=63) (size:=2) wz #[] 0 (Nat.le_refl _) (by simp) (by simp);show World.ownsRow _ _ _ _ _ _ _
        simpa using this
       have hknI:(k:Int)≤(n:Int):=by omega
       have hkcI:(k:Int)≤(c:Int):=by omega
       have hncI:(n:Int)≤(c:Int):=by omega
       have hnt2:nt≤101000:=by omega
       clear kt hox hxl;go_upto_region 9 with (at_builtin;refine wpList_append_own _ rfl _ _ 61 rfl wz.heap.size 63 j0 _ 2 32 Tryz.underlying61 hj hy0 hy1 hy2 rfl (by decide) _ _ _ rfl R0.out ⟨g,ox,none⟩ nt ct (xs.drop (k*2)) rfl HXT.out HNW.out HON.out (by unfold maxLen;omega) (by omega) (by simp) ?_;intro vt wt hownt hgrowt hnilt;obtain ⟨gt,ct2,rfl⟩:=aG hownt hnilt)
       all_goals try (rename_i hbad;exact absurd hbad.1 (by decide))
       simp only [Nat.zero_add] at hownt;have KWT:Hid (Bl wz wt):=KT.out.grown hgrowt KT.out.size (fun k e=>by have h1:=Option.some.inj (show some wz.heap.size=some k from e);omega);have HTT:Hid (wt.ownsRow wz.heap.size 63 2 (sL gt nt ct2) nt (xs.drop (k*2))):=hownt;have HPT:Hid (wt.ownsRow w.heap.size 63 2 (sL g k c) k (xs.take (k*2))):=l6 (bF HRZ.out KWT.out) hkn;have HGG:Hid (gt≠g):=by have h1:=(HRZ.out.lt g rfl).2;have h2:=(hownt.lt gt rfl).1;show gt≠g;omega
       have HKT:Hid (Bl w wt):=HKW.out.trans (KWT.out.mono HKW.out.size);have q0':=q0;have q1':=q1;have HMK:Hid (∀w',Bl w w'→(fun w'=>w'.cell? ⟨bB,oB+i*2,none⟩=some (.slice sr nr cr)∧w'.cell? ⟨bB,oB+i*2+1,none⟩=some (iT mr)∧bB<w'.heap.size) w'):=fun w' kk=>⟨cell_later kk q0',cell_later kk q1',Nat.lt_of_lt_of_le hbB kk.size⟩
       have kd:Bl wt wt.drew:=(Below.refl _ wt).drew;have k0:Bl w wt.drew:=HKT.out.trans (kd.mono HKT.out.size);have p0:=bF HPT.out kd;have t0:=bF HTT.out kd;clear hownt hgrowt hnilt kd q0' q1';refine eC HMK k0 fun aa=>?_
       generalize wt.drew=wd at k0 p0 t0 aa ⊢;refine aO 0 7 aa ?_;refine aO 9 1 aa ?_;refine aI 7 fun K hK=>?_
       go_simp;have kc:Bl wd (wd.alloc (.cells #[.slice sr nr cr,iT mr] 63)):=bZ;have k1:Bl w (wd.alloc (.cells #[.slice sr nr cr,iT mr] 63)):=k0.trans (kc.mono k0.size);have p1:=bF p0 kc;have t1:=bF t0 kc;have hcn:=bT wd (.slice sr nr cr) (iT mr) 63;generalize wd.heap.size=gb at hcn ⊢;generalize wd.alloc (.cells #[.slice sr nr cr,iT mr] 63)=wb at k1 p1 t1 hcn ⊢;refine hK.out _ _ (HMK.out _ k1) fun aa=>?_
       (try go_frame);refine aI 8 fun K hK=>?_
       refine ax rfl (.tmp 45) (.tmp 50) 61 rfl w.heap.size 63 j0 _ 2 32 Tryz.underlying61 hj hy0 hy1 hy2 rfl (by decide) _ _ _ rfl p1 ⟨gb,0,none⟩ 1 1 [.slice sr nr cr,iT mr] rfl rfl hcn (by intro u hu;simp at hu;rcases hu with rfl | rfl <;> rfl) ?_ ?_ ?_ ?_
       · unfold maxLen;omega
       · omega
       · exact k1.size
       intro v8 w8 ho8 hg8 hn8;obtain ⟨g8,c8,rfl⟩:=aG ho8 hn8;have hg8':wb.grownBy w8 (some g):=hg8;have t2:=t1.kept hg8' (.inr (fun e=>HGG.out (Option.some.inj (show some gt=some g from e))));have k2:Bl w w8:=k1.grown hg8' k1.size (fun x e=>by have h1:=Option.some.inj e;have h2:=(p1.lt g rfl).1;omega);refine hK.out _ _ (HMK.out _ k2) fun aa=>?_
       (try go_frame);refine aI 10 fun K hK=>?_
       refine ax rfl (.tmp 51) (.tmp 52) 61 rfl w.heap.size 63 j0 _ 2 32 Tryz.underlying61 hj hy0 hy1 hy2 rfl (by decide) _ _ _ rfl ho8 ⟨gt,0,none⟩ nt ct2 (xs.drop (k*2)) rfl HXT.out (t2.cells (g:=gt) rfl) HON.out ?_ ?_ ?_ ?_
       · unfold maxLen;omega
       · omega
       · exact k2.size
       intro v9 w9 ho9 hg9 hn9;obtain ⟨g9,c9,rfl⟩:=aG ho9 hn9;have hg9':w8.grownBy w9 (some g8):=hg9;have k3:Bl w w9:=k2.grown hg9' k2.size (fun x e=>by have h1:=Option.some.inj e;have h2:=(ho8.lt g8 rfl).1;omega);refine hK.out _ _ (HMK.out _ k3) fun aa=>?_
       (try go_frame);refine aO 11 1 aa ?_;refine dN ?_;have hkn1:k+1+nt=n+1:=by omega
       rw [hkn1] at ho9;have HO9:Hid (w9.ownsRow w.heap.size 63 2 (sL g9 (n+1) c9) (n+1) (xs.take (k*2)++[.slice sr nr cr,iT mr]++xs.drop (k*2))):=ho9;have K9:Hid (Bl w w9):=k3;have HIN:Hid (dK (·<w.heap.size) w (xs.take (k*2)++[.slice sr nr cr,iT mr]++xs.drop (k*2)) (dq A (B.take (i+1)))):=by
        rw [jS A HGR.out,← HOE.out];unfold mj;rw [HOL.out,HJ.out];exact rp HDO.out (lA HWR.out HER.out) (by rw [HOL.out];exact hkn)
       clear aa k0 k1 k2 k3 p0 p1 t0 t1 t2 hcn ho8 hg8 hg8' hn8 ho9 hg9 hg9' hn9;go_wp2;go_roundw
       case rel=>exact ⟨i+1,g9,n+1,c9,_,by omega,by go_num,by simp only [hkn1],by have:=HNN.out;omega,HO9.out,HIN.out,K9.out⟩
       case measure=>simp [intOf];omega
     · have hk0I:(k:Int) > 0:=by omega
       have hk0J:(0:Int)<(k:Int):=by omega
       have hkN:0<k:=by omega
       have hkd:decide ((0:Int)<(k:Int))=true:=decide_eq_true hk0J;have hke:decide (0<k)=true:=decide_eq_true hkN;have wk1:IntKind.i64.wrap ((k:Int) - 1)=(k:Int) - 1:=by rw [IntWalk.i64_left];unfold wrap64;omega
       have hk1:(0:Int)≤(k:Int) - 1:=by omega
       have hk1b:(1:Int)≤(k:Int):=by omega
       have hk2:(k:Int) - 1<(n:Int):=by omega
       have hkt:((k:Int) - 1).toNat=k - 1:=by omega
       obtain ⟨⟨Lx,mx⟩,hgx⟩:∃r,O[k - 1]?=some r:=⟨_,List.getElem?_eq_getElem (by have:=HOL.out;omega)⟩;obtain ⟨_,sx,nx,cx,xx0,xx1,hEx,_⟩:=HDO.out.2 (k - 1) _ hgx;have hrow:=bF HR.out hbq;have gx0:=hrow.cells (g:=g) rfl _ _ xx0;have gx1:=hrow.cells (g:=g) rfl _ _ xx1;rw [Go.WideShapes.add_plain,Nat.zero_add] at gx0 gx1;have gz:=(hrow.lt g rfl).2;have qw0:=cell_later hbw q0;have qw1:=cell_later hbw q1;have qz:=Nat.lt_of_lt_of_le hbB hbw.size;have HMK:Hid (∀w',Bl wr w'→(fun w'=>w'.cell? ⟨g,(k - 1)*2,none⟩=some (.slice sx nx cx)∧w'.cell? ⟨g,(k - 1)*2+1,none⟩=some (iT mx)∧w'.cell? ⟨bB,oB+i*2,none⟩=some (.slice sr nr cr)∧w'.cell? ⟨bB,oB+i*2+1,none⟩=some (iT mr)∧g<w'.heap.size∧bB<w'.heap.size) w'):=fun w' kk=>⟨cell_later kk gx0,cell_later kk gx1,cell_later kk qw0,cell_later kk qw1,Nat.lt_of_lt_of_le gz kk.size,Nat.lt_of_lt_of_le qz kk.size⟩
       obtain ⟨lx,hlx⟩:=aS (bj Lx);obtain ⟨lr,hlr⟩:=aS (bj Lr);have hnx:1≤nx:=by have h1:=HNO.out _ (List.mem_of_getElem? hgx);have h2:=hEx.length;simp only at h1 h2;omega
       have CLX:Hid (∀w',Bl wr w'→Calls Tryz.prog 147 #[.agg #[.slice sx nx cx,iT mx]] w' fun r w''=>r=.returned (.string lx)∧Bl w' w''):=by rw [hlx];exact fun w' kk=>kM mx sx nx cx Lx w' ((hEx.keep hbw).keep kk) hnx
       have CLR:Hid (∀w',Bl wr w'→Calls Tryz.prog 147 #[.agg #[.slice sr nr cr,iT mr]] w' fun r w''=>r=.returned (.string lr)∧Bl w' w''):=by rw [hlr];exact fun w' kk=>kM mr sr nr cr Lr w' ((hEr.1.keep hbw).keep kk) HNR.out
       have HGX:Hid (O[k - 1]?=some (Lx,mx)∧lx=bj Lx∧lr=bj Lr):=⟨hgx,hlx,hlr⟩;clear hgx xx0 xx1 hEx hrow gx0 gx1 qw0 qw1 hlx hlr hnx;go_upto_region 6 with fail
       refine eC HMK k0 fun aa=>?_
       generalize wr.drew=wd at k0 aa ⊢;refine aO 0 8 aa ?_;refine aO 9 4 aa ?_;refine aI 8 fun K hK=>?_
       go_simp;refine (CLX.out _ k0).mono ?_;rintro e wCLX ⟨rfl,hbCLX⟩;have k0':Bl wr wCLX:=k0.trans (hbCLX.mono k0.size);go_wp2_with fail
       refine hK.out _ _ (HMK.out _ k0') fun aa=>?_
       (try go_frame);refine aI 13 fun K hK=>?_
       go_simp;refine (CLR.out _ k0').mono ?_;rintro e wCLR ⟨rfl,hbCLR⟩;have k0'':Bl wr wCLR:=k0'.trans (hbCLR.mono k0'.size);go_wp2_with fail
       refine hK.out _ _ (HMK.out _ k0'') fun aa=>?_
       (try go_frame);refine aO 14 2 aa ?_;refine dN ?_;generalize wCLR=wz at k0'' aa ⊢;have KZ:Hid (Bl Wq wz):=HKQ.out.trans (k0''.mono HKQ.out.size);clear aa HMK k0 k0' k0'' hbCLX hbCLR CLX CLR;cases ha:Op.bytesLess lx.toList lr.toList with
       | true =>
        have HJ:Hid (pJ O (Lr,mr) n=k):=sT HPL.out hkN HGX.out.1 (by rw [← HGX.out.2.1,← HGX.out.2.2];simp [mn,ha]);have hb:(lx.toList == lr.toList)=false:=by rw [beq_eq_false_iff_ne];intro e;rw [e,dG] at ha;cases ha
        have hnl:(!Op.bytesLess lx.toList lr.toList)=false:=by rw [ha];rfl
        have hgt:(!Op.bytesLess lx.toList lr.toList && !lx.toList == lr.toList)=false:=by rw [ha];rfl
        clear hb;have HKW:Hid (Bl w wz):=HK.out.trans (KZ.out.mono HK.out.size);have HRZ:Hid (wz.ownsRow w.heap.size 63 2 (sL g n c) n xs):=bF HR.out KZ.out;have hrm:=(cj HRZ.out).1;have hxl:=HRZ.out.1;obtain ⟨ox,hox⟩:=aS (if c=k then 0 else k*2);have hav:(if c=k then some (⟨g,0,none⟩:Addr) else some ⟨g,k*2,none⟩)=some ⟨g,ox,none⟩:=by rw [hox];split <;> rfl
        obtain ⟨nt,hnt⟩:∃nt,n - k=nt:=⟨_,rfl⟩;obtain ⟨ct,hct⟩:∃ct,c - k=ct:=⟨_,rfl⟩;have kt:Bl wz (wz.alloc (.cells #[] 63)):=bZ;have KT:Hid (Bl wz (wz.alloc (.cells #[] 63))):=kt;have HNW:Hid (∀j u,(xs.drop (k*2))[j]?=some u→(wz.alloc (.cells #[] 63)).cell? ((⟨g,ox,none⟩:Addr).add j)=some u):=fun j u hu=>by
         rw [List.getElem?_drop] at hu;have h1:=(bF HRZ.out kt).cells (g:=g) rfl _ _ hu;have h2:¬c=k:=by intro e;have h3:=(List.getElem?_eq_some_iff.1 hu).1;omega
         rw [Go.WideShapes.add_plain,Nat.zero_add] at h1;rw [Go.WideShapes.add_plain,hox,if_neg h2];exact h1
        have HON:Hid (∀u ∈ xs.drop (k*2),u.oneCell'=true):=fun u hu=>HDO.out.den.one u (List.mem_of_mem_drop hu)
        have HXT:Hid ((xs.drop (k*2)).length=nt*2):=by show _=_;rw [List.length_drop,hxl,← hnt];omega
        have R0:Hid ((wz.alloc (.cells #[] 63)).ownsRow wz.heap.size 63 2 (sL (wz.heap.size) 0 0) 0 []):=by
         have:=World.ownsRow_lit (base:=wz.heap.size) (e:=63) (size:=2) wz #[] 0 (Nat.le_refl _) (by simp) (by simp);show World.ownsRow _ _ _ _ _ _ _
         simpa using this
        have hknI:(k:Int)≤(n:Int):=by omega
        have hkcI:(k:Int)≤(c:Int):=by omega
        have hncI:(n:Int)≤(c:Int):=by omega
        have hnt2:nt≤101000:=by omega
        clear kt hox hxl;go_upto_region 9 with (at_builtin;refine wpList_append_own _ rfl _ _ 61 rfl wz.heap.size 63 j0 _ 2 32 Tryz.underlying61 hj hy0 hy1 hy2 rfl (by decide) _ _ _ rfl R0.out ⟨g,ox,none⟩ nt ct (xs.drop (k*2)) rfl HXT.out HNW.out HON.out (by unfold maxLen;omega) (by omega) (by simp) ?_;intro vt wt hownt hgrowt hnilt;obtain ⟨gt,ct2,rfl⟩:=aG hownt hnilt)
        all_goals try (rename_i hbad;exact absurd hbad.1 (by decide))
        simp only [Nat.zero_add] at hownt;have KWT:Hid (Bl wz wt):=KT.out.grown hgrowt KT.out.size (fun k e=>by have h1:=Option.some.inj (show some wz.heap.size=some k from e);omega);have HTT:Hid (wt.ownsRow wz.heap.size 63 2 (sL gt nt ct2) nt (xs.drop (k*2))):=hownt;have HPT:Hid (wt.ownsRow w.heap.size 63 2 (sL g k c) k (xs.take (k*2))):=l6 (bF HRZ.out KWT.out) hkn;have HGG:Hid (gt≠g):=by have h1:=(HRZ.out.lt g rfl).2;have h2:=(hownt.lt gt rfl).1;show gt≠g;omega
        have HKT:Hid (Bl w wt):=HKW.out.trans (KWT.out.mono HKW.out.size);have q0':=q0;have q1':=q1;have HMK:Hid (∀w',Bl w w'→(fun w'=>w'.cell? ⟨bB,oB+i*2,none⟩=some (.slice sr nr cr)∧w'.cell? ⟨bB,oB+i*2+1,none⟩=some (iT mr)∧bB<w'.heap.size) w'):=fun w' kk=>⟨cell_later kk q0',cell_later kk q1',Nat.lt_of_lt_of_le hbB kk.size⟩
        have kd:Bl wt wt.drew:=(Below.refl _ wt).drew;have k0:Bl w wt.drew:=HKT.out.trans (kd.mono HKT.out.size);have p0:=bF HPT.out kd;have t0:=bF HTT.out kd;clear hownt hgrowt hnilt kd q0' q1';refine eC HMK k0 fun aa=>?_
        generalize wt.drew=wd at k0 p0 t0 aa ⊢;refine aO 0 7 aa ?_;refine aO 9 1 aa ?_;refine aI 7 fun K hK=>?_
        go_simp;have kc:Bl wd (wd.alloc (.cells #[.slice sr nr cr,iT mr] 63)):=bZ;have k1:Bl w (wd.alloc (.cells #[.slice sr nr cr,iT mr] 63)):=k0.trans (kc.mono k0.size);have p1:=bF p0 kc;have t1:=bF t0 kc;have hcn:=bT wd (.slice sr nr cr) (iT mr) 63;generalize wd.heap.size=gb at hcn ⊢;generalize wd.alloc (.cells #[.slice sr nr cr,iT mr] 63)=wb at k1 p1 t1 hcn ⊢;refine hK.out _ _ (HMK.out _ k1) fun aa=>?_
        (try go_frame);refine aI 8 fun K hK=>?_
        refine ax rfl (.tmp 45) (.tmp 50) 61 rfl w.heap.size 63 j0 _ 2 32 Tryz.underlying61 hj hy0 hy1 hy2 rfl (by decide) _ _ _ rfl p1 ⟨gb,0,none⟩ 1 1 [.slice sr nr cr,iT mr] rfl rfl hcn (by intro u hu;simp at hu;rcases hu with rfl | rfl <;> rfl) ?_ ?_ ?_ ?_
        · unfold maxLen;omega
        · omega
        · exact k1.size
        intro v8 w8 ho8 hg8 hn8;obtain ⟨g8,c8,rfl⟩:=aG ho8 hn8;have hg8':wb.grownBy w8 (some g):=hg8;have t2:=t1.kept hg8' (.inr (fun e=>HGG.out (Option.some.inj (show some gt=some g from e))));have k2:Bl w w8:=k1.grown hg8' k1.size (fun x e=>by have h1:=Option.some.inj e;have h2:=(p1.lt g rfl).1;omega);refine hK.out _ _ (HMK.out _ k2) fun aa=>?_
        (try go_frame);refine aI 10 fun K hK=>?_
        refine ax rfl (.tmp 51) (.tmp 52) 61 rfl w.heap.size 63 j0 _ 2 32 Tryz.underlying61 hj hy0 hy1 hy2 rfl (by decide) _ _ _ rfl ho8 ⟨gt,0,none⟩ nt ct2 (xs.drop (k*2)) rfl HXT.out (t2.cells (g:=gt) rfl) HON.out ?_ ?_ ?_ ?_
        · unfold maxLen;omega
        · omega
        · exact k2.size
        intro v9 w9 ho9 hg9 hn9;obtain ⟨g9,c9,rfl⟩:=aG ho9 hn9;have hg9':w8.grownBy w9 (some g8):=hg9;have k3:Bl w w9:=k2.grown hg9' k2.size (fun x e=>by have h1:=Option.some.inj e;have h2:=(ho8.lt g8 rfl).1;omega);refine hK.out _ _ (HMK.out _ k3) fun aa=>?_
        (try go_frame);refine aO 11 1 aa ?_;refine dN ?_;have hkn1:k+1+nt=n+1:=by omega
        rw [hkn1] at ho9;have HO9:Hid (w9.ownsRow w.heap.size 63 2 (sL g9 (n+1) c9) (n+1) (xs.take (k*2)++[.slice sr nr cr,iT mr]++xs.drop (k*2))):=ho9;have K9:Hid (Bl w w9):=k3;have HIN:Hid (dK (·<w.heap.size) w (xs.take (k*2)++[.slice sr nr cr,iT mr]++xs.drop (k*2)) (dq A (B.take (i+1)))):=by
         rw [jS A HGR.out,← HOE.out];unfold mj;rw [HOL.out,HJ.out];exact rp HDO.out (lA HWR.out HER.out) (by rw [HOL.out];exact hkn)
        clear aa k0 k1 k2 k3 p0 p1 t0 t1 t2 hcn ho8 hg8 hg8' hn8 ho9 hg9 hg9' hn9;go_wp2;go_roundw
        case rel=>exact ⟨i+1,g9,n+1,c9,_,by omega,by go_num,by simp only [hkn1],by have:=HNN.out;omega,HO9.out,HIN.out,K9.out⟩
        case measure=>simp [intOf];omega
       | false =>
        cases hb:(lx.toList == lr.toList) with
        | true =>
         have HJ:Hid (pJ O (Lr,mr) n=k):=sT HPL.out hkN HGX.out.1 (by rw [← HGX.out.2.1,← HGX.out.2.2];simp [mn,hb]);have hbe:lx.toList=lr.toList:=by simpa using hb
         have HKW:Hid (Bl w wz):=HK.out.trans (KZ.out.mono HK.out.size);have HRZ:Hid (wz.ownsRow w.heap.size 63 2 (sL g n c) n xs):=bF HR.out KZ.out;have hrm:=(cj HRZ.out).1;have hxl:=HRZ.out.1;obtain ⟨ox,hox⟩:=aS (if c=k then 0 else k*2);have hav:(if c=k then some (⟨g,0,none⟩:Addr) else some ⟨g,k*2,none⟩)=some ⟨g,ox,none⟩:=by rw [hox];split <;> rfl
         obtain ⟨nt,hnt⟩:∃nt,n - k=nt:=⟨_,rfl⟩;obtain ⟨ct,hct⟩:∃ct,c - k=ct:=⟨_,rfl⟩;have kt:Bl wz (wz.alloc (.cells #[] 63)):=bZ;have KT:Hid (Bl wz (wz.alloc (.cells #[] 63))):=kt;have HNW:Hid (∀j u,(xs.drop (k*2))[j]?=some u→(wz.alloc (.cells #[] 63)).cell? ((⟨g,ox,none⟩:Addr).add j)=some u):=fun j u hu=>by
          rw [List.getElem?_drop] at hu;have h1:=(bF HRZ.out kt).cells (g:=g) rfl _ _ hu;have h2:¬c=k:=by intro e;have h3:=(List.getElem?_eq_some_iff.1 hu).1;omega
          rw [Go.WideShapes.add_plain,Nat.zero_add] at h1;rw [Go.WideShapes.add_plain,hox,if_neg h2];exact h1
         have HON:Hid (∀u ∈ xs.drop (k*2),u.oneCell'=true):=fun u hu=>HDO.out.den.one u (List.mem_of_mem_drop hu)
         have HXT:Hid ((xs.drop (k*2)).length=nt*2):=by show _=_;rw [List.length_drop,hxl,← hnt];omega
         have R0:Hid ((wz.alloc (.cells #[] 63)).ownsRow wz.heap.size 63 2 (sL (wz.heap.size) 0 0) 0 []):=by
          have:=World.ownsRow_lit (base:=wz.heap.size) (e:=63) (size:=2) wz #[] 0 (Nat.le_refl _) (by simp) (by simp);show World.ownsRow _ _ _ _ _ _ _
          simpa using this
         have hknI:(k:Int)≤(n:Int):=by omega
         have hkcI:(k:Int)≤(c:Int):=by omega
         have hncI:(n:Int)≤(c:Int):=by omega
         have hnt2:nt≤101000:=by omega
         clear kt hox hxl;go_upto_region 9 with (at_builtin;refine wpList_append_own _ rfl _ _ 61 rfl wz.heap.size 63 j0 _ 2 32 Tryz.underlying61 hj hy0 hy1 hy2 rfl (by decide) _ _ _ rfl R0.out ⟨g,ox,none⟩ nt ct (xs.drop (k*2)) rfl HXT.out HNW.out HON.out (by unfold maxLen;omega) (by omega) (by simp) ?_;intro vt wt hownt hgrowt hnilt;obtain ⟨gt,ct2,rfl⟩:=aG hownt hnilt)
         all_goals try (rename_i hbad;exact absurd hbad.1 (by decide))
         simp only [Nat.zero_add] at hownt;have KWT:Hid (Bl wz wt):=KT.out.grown hgrowt KT.out.size (fun k e=>by have h1:=Option.some.inj (show some wz.heap.size=some k from e);omega);have HTT:Hid (wt.ownsRow wz.heap.size 63 2 (sL gt nt ct2) nt (xs.drop (k*2))):=hownt;have HPT:Hid (wt.ownsRow w.heap.size 63 2 (sL g k c) k (xs.take (k*2))):=l6 (bF HRZ.out KWT.out) hkn;have HGG:Hid (gt≠g):=by have h1:=(HRZ.out.lt g rfl).2;have h2:=(hownt.lt gt rfl).1;show gt≠g;omega
         have HKT:Hid (Bl w wt):=HKW.out.trans (KWT.out.mono HKW.out.size);have q0':=q0;have q1':=q1;have HMK:Hid (∀w',Bl w w'→(fun w'=>w'.cell? ⟨bB,oB+i*2,none⟩=some (.slice sr nr cr)∧w'.cell? ⟨bB,oB+i*2+1,none⟩=some (iT mr)∧bB<w'.heap.size) w'):=fun w' kk=>⟨cell_later kk q0',cell_later kk q1',Nat.lt_of_lt_of_le hbB kk.size⟩
         have kd:Bl wt wt.drew:=(Below.refl _ wt).drew;have k0:Bl w wt.drew:=HKT.out.trans (kd.mono HKT.out.size);have p0:=bF HPT.out kd;have t0:=bF HTT.out kd;clear hownt hgrowt hnilt kd q0' q1';refine eC HMK k0 fun aa=>?_
         generalize wt.drew=wd at k0 p0 t0 aa ⊢;refine aO 0 7 aa ?_;refine aO 9 1 aa ?_;refine aI 7 fun K hK=>?_
         go_simp;have kc:Bl wd (wd.alloc (.cells #[.slice sr nr cr,iT mr] 63)):=bZ;have k1:Bl w (wd.alloc (.cells #[.slice sr nr cr,iT mr] 63)):=k0.trans (kc.mono k0.size);have p1:=bF p0 kc;have t1:=bF t0 kc;have hcn:=bT wd (.slice sr nr cr) (iT mr) 63;generalize wd.heap.size=gb at hcn ⊢;generalize wd.alloc (.cells #[.slice sr nr cr,iT mr] 63)=wb at k1 p1 t1 hcn ⊢;refine hK.out _ _ (HMK.out _ k1) fun aa=>?_
         (try go_frame);refine aI 8 fun K hK=>?_
         refine ax rfl (.tmp 45) (.tmp 50) 61 rfl w.heap.size 63 j0 _ 2 32 Tryz.underlying61 hj hy0 hy1 hy2 rfl (by decide) _ _ _ rfl p1 ⟨gb,0,none⟩ 1 1 [.slice sr nr cr,iT mr] rfl rfl hcn (by intro u hu;simp at hu;rcases hu with rfl | rfl <;> rfl) ?_ ?_ ?_ ?_
         · unfold maxLen;omega
         · omega
         · exact k1.size
         intro v8 w8 ho8 hg8 hn8;obtain ⟨g8,c8,rfl⟩:=aG ho8 hn8;have hg8':wb.grownBy w8 (some g):=hg8;have t2:=t1.kept hg8' (.inr (fun e=>HGG.out (Option.some.inj (show some gt=some g from e))));have k2:Bl w w8:=k1.grown hg8' k1.size (fun x e=>by have h1:=Option.some.inj e;have h2:=(p1.lt g rfl).1;omega);refine hK.out _ _ (HMK.out _ k2) fun aa=>?_
         (try go_frame);refine aI 10 fun K hK=>?_
         refine ax rfl (.tmp 51) (.tmp 52) 61 rfl w.heap.size 63 j0 _ 2 32 Tryz.underlying61 hj hy0 hy1 hy2 rfl (by decide) _ _ _ rfl ho8 ⟨gt,0,none⟩ nt ct2 (xs.drop (k*2)) rfl HXT.out (t2.cells (g:=gt) rfl) HON.out ?_ ?_ ?_ ?_
         · unfold maxLen;omega
         · omega
         · exact k2.size
         intro v9 w9 ho9 hg9 hn9;obtain ⟨g9,c9,rfl⟩:=aG ho9 hn9;have hg9':w8.grownBy w9 (some g8):=hg9;have k3:Bl w w9:=k2.grown hg9' k2.size (fun x e=>by have h1:=Option.some.inj e;have h2:=(ho8.lt g8 rfl).1;omega);refine hK.out _ _ (HMK.out _ k3) fun aa=>?_
         (try go_frame);refine aO 11 1 aa ?_;refine dN ?_;have hkn1:k+1+nt=n+1:=by omega
         rw [hkn1] at ho9;have HO9:Hid (w9.ownsRow w.heap.size 63 2 (sL g9 (n+1) c9) (n+1) (xs.take (k*2)++[.slice sr nr cr,iT mr]++xs.drop (k*2))):=ho9;have K9:Hid (Bl w w9):=k3;have HIN:Hid (dK (·<w.heap.size) w (xs.take (k*2)++[.slice sr nr cr,iT mr]++xs.drop (k*2)) (dq A (B.take (i+1)))):=by
          rw [jS A HGR.out,← HOE.out];unfold mj;rw [HOL.out,HJ.out];exact rp HDO.out (lA HWR.out HER.out) (by rw [HOL.out];exact hkn)
         clear aa k0 k1 k2 k3 p0 p1 t0 t1 t2 hcn ho8 hg8 hg8' hn8 ho9 hg9 hg9' hn9;go_wp2;go_roundw
         case rel=>exact ⟨i+1,g9,n+1,c9,_,by omega,by go_num,by simp only [hkn1],by have:=HNN.out;omega,HO9.out,HIN.out,K9.out⟩
         case measure=>simp [intOf];omega
        | false =>
         have HP1:Hid (pJ O (Lr,mr) n=pJ O (Lr,mr) (k - 1)):=by
          show _=_
          obtain ⟨k',rfl⟩:∃k',k=k'+1:=⟨k - 1,by omega⟩;have h1:=HGX.out;rw [Nat.add_sub_cancel] at h1 ⊢;rw [HPL.out,pJ,h1.1];simp only [← h1.2.1,← h1.2.2];rw [show mn lx lr=true by simp [mn,ha,hb]];rfl
         go_wp2;go_roundw
         case rel=>exact ⟨k - 1,by omega,by first | rfl | go_num,HP1.out,KZ.out⟩
         case measure=>simp [intOf];omega
  · have hltI:¬(i:Int)<(nB:Int):=by omega
    have hfull:B.take i=B:=List.take_of_length_le (by rw [HLB.out];omega);have hd:=HD.out;rw [hfull] at hd;have HD2:Hid (dK (·<w.heap.size) w xs (dq A B)):=hd;clear hd hfull;go_wp2;go_ret;exact ⟨g,n,c,rfl,xs,HR.out,HD2.out,HK.out⟩
theorem pg {b off:Nat} {L:List ac} (h:aj w (some ⟨b,off,none⟩) n c L):∀j u,(aE L)[j]?=some u→w.cell? ((⟨b,off,none⟩:Addr).add j)=some u:=by
 intro j u hj;have hlt:j<(aE L).length:=(List.getElem?_eq_some_iff.1 hj).1;rw [bi] at hlt;have hi:j / 5<L.length:=by omega
 obtain ⟨c0,c1,c2,c3,c4⟩:=h.cells _ rfl (j / 5) hi;obtain ⟨r0,r1,r2,r3,r4⟩:=fs L (j / 5) L[j / 5] (List.getElem?_eq_getElem hi);rw [Go.WideShapes.add_plain];simp only [Nat.add_assoc] at c0 c1 c2 c3 c4;have:j=j / 5*5∨j=j / 5*5+1∨j=j / 5*5+2∨j=j / 5*5+3∨j=j / 5*5+4:=by omega
 rcases this with e | e | e | e | e
 · rw [← e] at r0 c0;rw [r0] at hj;cases hj;exact c0
 · rw [← e] at r1 c1;rw [r1] at hj;cases hj;exact c1
 · rw [← e] at r2 c2;rw [r2] at hj;cases hj;exact c2
 · rw [← e] at r3 c3;rw [r3] at hj;cases hj;exact c3
 · rw [← e] at r4 c4;rw [r4] at hj;cases hj;exact c4
theorem nS (a:Option Addr) (n c:Nat) (L:List ac) (w:World) (hL:aj w a n c L) :
 Calls Tryz.prog 173 #[.slice a n c] w fun e w'=>e=.returned (.agg #[.slice a n c,iT ((cZ L:Nat):Int)])∧Bl w w':=by
 go_enter Tryz.func173,Tryz.ntmps173
 go_wp2_with fail
 refine (lT a n c L _ (hL.keep bZ)).mono ?_;rintro e w1 ⟨rfl,hb1⟩;obtain ⟨hc1,hf1⟩:=vH hb1;have hz:=hb1.size;simp at hz;go_wp2;refine bodyPost_ret (v:=.agg #[.slice a n c,iT ((cZ L:Nat):Int)]) (by simp [results,Tryz.results173,go_sem,hc1]) rfl ⟨rfl,?_⟩;have hB:Bl w w1:=bZ.trans (hb1.mono (by simp));exact (hB.setCell (p:=⟨w.heap.size,0,none⟩) (Nat.le_refl _) _).setCell (p:=⟨w.heap.size,1,none⟩) (Nat.le_refl _) _
end Go.Proofs.YtpobkmjicbobdaaGreat
