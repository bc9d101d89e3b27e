/-
  A tree in memory of a call's own, every list in a block of its own; the laws' marks on it, and the marks found again; by walks of their Go text.
-/
import Derived.Test.YtlmgojlffgkciaaGreatTc20
import Derived.Test.YtlmgojlffgkciaaGreatTc21
import Derived.Test.YtlmgojlffgkciaaGreatTc14
namespace Go.Proofs.YtlmgojlffgkciaaGreat
open Go.RowKit
set_option maxRecDepth 100000
set_option maxHeartbeats 2000000
attribute [local go_sem] Oper.semAt_some
structure cG (lo hi:Nat) (w:World) (g n:Nat) (B:List ae) (es:Nat→Nat):Prop where
 len:B.length=n
 row:∃xs,w.ownsRow lo 102 2 (sL g n n) n xs∧∀(i:Nat) (p:ae),B[i]?=some p→xs[i*2]?=some (sL (es i) p.1.length p.1.length)∧xs[i*2+1]?=some (iT p.2)
 ents:∀(i:Nat) (p:ae),B[i]?=some p→aE w lo (es i) p.1.length p.1.length p.1
 up:∀i j,i<j→j<n→es i<es j
 top:g<hi∧∀i,i<n→es i<hi
 wfs:∀p ∈ B,(Lit.int .i64 p.2).wf=true
theorem cG.keepO {lo hi lo' hi' g n:Nat} {w w':World} {B:List ae} {es:Nat→Nat} (h:cG lo hi w g n B es) (k:bu lo' hi' w w') (hd:hi≤lo'∨hi'≤lo):cG lo hi w' g n B es:=by
 obtain ⟨xs,h1,h2⟩:=h.row;have hg:=(h1.lt g rfl).1;refine ⟨h.len,⟨xs,k.row h1 (by have:=h.top.1;omega),h2⟩,fun i p hp=>?_,h.up,h.top,h.wfs⟩;have hO:=h.ents i p hp;have hi':=(List.getElem?_eq_some_iff.1 hp).1;exact k.own hO (by have h3:=hO.lt.1;have h4:=h.top.2 i (by rw [← h.len];exact hi');omega)
theorem cG.below {lo hi g n:Nat} {w w':World} {B:List ae} {es:Nat→Nat} (h:cG lo hi w g n B es) (hb:Bl w w'):cG lo hi w' g n B es:=by
 obtain ⟨xs,h1,h2⟩:=h.row;exact ⟨h.len,⟨xs,h1.kept (row:=none) ⟨hb.os,hb.tape,hb.output,hb.size,fun k hk _=>hb.block k hk⟩ (.inr (by simp [Value.ownBlock])),h2⟩,fun i p hp=>(h.ents i p hp).below hb,h.up,h.top,h.wfs⟩
theorem cG.ne {lo hi g n:Nat} {w:World} {B:List ae} {es:Nat→Nat} (h:cG lo hi w g n B es) {i:Nat} {p:ae} (hp:B[i]?=some p):g≠es i:=by
 intro e;obtain ⟨xs,h1,_⟩:=h.row;have b1:=cj h1;have b2:=cj (h.ents i p hp).owns;rw [← e] at b2;exact absurd (b1.kind b2) (by decide)
theorem cG.cell {lo hi g n:Nat} {w:World} {B:List ae} {es:Nat→Nat} (h:cG lo hi w g n B es) {i:Nat} {p:ae} (hp:B[i]?=some p):w.cell? ⟨g,i*2,none⟩=some (sL (es i) p.1.length p.1.length)∧w.cell? ⟨g,i*2+1,none⟩=some (iT p.2)∧w.frozen? ⟨g,i*2+1,none⟩=false∧g<w.heap.size:=by
 obtain ⟨xs,h1,h2⟩:=h.row;have hi':=(List.getElem?_eq_some_iff.1 hp).1;rw [h.len] at hi';exact ⟨(h1.cellAt _ (by omega)).trans (h2 i p hp).1,(h1.cellAt _ (by omega)).trans (h2 i p hp).2,h1.frozenAt _,(h1.lt g rfl).2⟩
theorem cG.put {lo hi g n j:Nat} {w w1:World} {B:List ae} {es:Nat→Nat} {p:ae} (h:cG lo hi w g n B es) (hp:B[j]?=some p) {L:List ac} (hL:L.length=p.1.length) (hO:aE w1 lo (es j) p.1.length p.1.length L) (hg:w.grownBy w1 (some (es j))) (v:Int) (hv:(Lit.int .i64 v).wf=true) :
 cG lo hi (w1.setCell ⟨g,j*2+1,none⟩ (iT v)) g n (B.set j (L,v)) es:=by
 have hne:=h.ne hp;have hjn:j<B.length:=(List.getElem?_eq_some_iff.1 hp).1;obtain ⟨xs,h1,h2⟩:=h.row;have hxl:=h1.1;have hln:=h.len;have r1:=h1.kept hg (.inr (by simpa [Value.ownBlock] using hne));have r2:=(r1.stored (j*2+1) (iT v)).1;refine ⟨by rw [List.length_set];exact h.len,⟨_,r2,fun i q hq=>?_⟩,fun i q hq=>?_,h.up,h.top,fun q hq=>?_⟩
 · by_cases e:j=i
   · subst e;rw [List.getElem?_set_self hjn] at hq;cases hq;rw [List.getElem?_set_ne (by omega),List.getElem?_set_self (by omega)];simp only [hL];exact ⟨(h2 j p hp).1,trivial⟩
   · rw [List.getElem?_set_ne e] at hq;rw [List.getElem?_set_ne (by omega),List.getElem?_set_ne (by omega)];exact h2 i q hq
 · by_cases e:j=i
   · subst e;rw [List.getElem?_set_self hjn] at hq;cases hq;simp only [hL];exact hO.setCell (p:=⟨g,j*2+1,none⟩) hne _
   · rw [List.getElem?_set_ne e] at hq;have hi':=(List.getElem?_eq_some_iff.1 hq).1;refine (((h.ents i q hq).grown hg (fun e'=>?_))).setCell (p:=⟨g,j*2+1,none⟩) (h.ne hq) _;have e2:=Option.some.inj e';rcases Nat.lt_or_gt_of_ne e with h3 | h3
     · have:=h.up j i h3 (by omega);omega
     · have:=h.up i j h3 (by omega);omega
 · rcases List.mem_or_eq_of_mem_set hq with h3 | h3
   · exact h.wfs q h3
   · subst h3;exact hv
def kR (k:Nat):List ae→List ae
 | []=>[]
 | p :: B=>(dO k p.1.length,((k+5*p.1.length:Nat):Int)) :: kR (k+5*p.1.length+1) B
theorem jr:∀(B:List ae) (k:Nat),(kR k B).length=B.length
 | [],_=>rfl
 | p :: B,k=>by simp [kR,jr B]
theorem qY:∀{B:List ae} {k i:Nat} {p:ae},B[i]?=some p→(kR k B)[i]?=some (dO (k+eu (B.take i)) p.1.length,((k+eu (B.take i)+5*p.1.length:Nat):Int))
 | [],_,_,_,h=>by simp at h
 | q :: B,k,0,p,h=>by
  simp at h
  subst h
  simp [kR,eu]
 | q :: B,k,i+1,p,h=>by
  simp at h
  have:=qY (k:=k+5*q.1.length+1) h
  simp only [kR,List.getElem?_cons_succ,List.take_succ_cons]
  rw [this]
  have e:k+5*q.1.length+1+eu (B.take i)=k+eu (q :: B.take i):=by simp only [eu,List.map_cons,List.sum_cons];omega
  rw [e]
theorem sU {α:Type} {A B:List α} {j:Nat} {x:α} (hl:A.length=B.length) (hx:A[j]?=some x):(A.take j++B.drop j).set j x=A.take (j+1)++B.drop (j+1):=by
 have hj:=(List.getElem?_eq_some_iff.1 hx).1;apply List.ext_getElem?;intro i;have ht:(A.take j).length=j:=by rw [List.length_take];omega
 have ht1:(A.take (j+1)).length=j+1:=by rw [List.length_take];omega
 by_cases e:j=i
 · subst e;rw [List.getElem?_set_self (by rw [List.length_append,ht,List.length_drop];omega),List.getElem?_append_left (by omega),List.getElem?_take_of_lt (by omega),hx]
 · rw [List.getElem?_set_ne e];by_cases hi:i<j
   · rw [List.getElem?_append_left (by omega),List.getElem?_append_left (by omega),List.getElem?_take_of_lt hi,List.getElem?_take_of_lt (by omega)]
   · rw [List.getElem?_append_right (by omega),List.getElem?_append_right (by omega),ht,ht1,List.getElem?_drop,List.getElem?_drop];congr 1
     omega
theorem vT {α:Type} {A B:List α} {j:Nat} {x:α} (hl:A.length=B.length) (hx:B[j]?=some x):(A.take j++B.drop j)[j]?=some x:=by
 have hj:=(List.getElem?_eq_some_iff.1 hx).1;have ht:(A.take j).length=j:=by rw [List.length_take];omega
 rw [List.getElem?_append_right (by omega),ht,List.getElem?_drop];simpa using hx
theorem uR (lo hi g n k:Nat) (B:List ae) (es:Nat→Nat) (w:World) (hR:cG lo hi w g n B es) (hcm:n≤1048576) (hsm:∀p ∈ B,p.1.length≤1048576) (hk:1≤k) (hn:k+eu B≤1000000000) :
 Calls Tryz.prog 83 #[sL g n n,iT k] w fun e w'=>e=.returned (iT ((k+eu B:Nat):Int))∧cG lo hi w' g n (kR k B) es∧bu lo hi w w':=by
 have HLN:Hid (B.length=n):=hR.len;have HR0:=bc hR;have HSM:=bc hsm;have HN:=bc hn;clear hR hsm hn;obtain ⟨D,hD⟩:=ay (kR k B);have HDL:Hid (D.length=B.length):=by rw [hD];exact jr B k
 have HDA:Hid (∀i p,B[i]?=some p→D[i]?=some (dO (k+eu (B.take i)) p.1.length,((k+eu (B.take i)+5*p.1.length:Nat):Int))):=by rw [hD];exact fun i p h=>qY h
 rw [← hD];clear hD;go_enter Tryz.func83,Tryz.ntmps83
 go_wp2;go_loopw [1,5] (fun kv iv wr=>∃(j K:Nat),j≤n∧iv=iT j∧kv=iT (K:Int)∧K=k+eu (B.take j)∧cG lo hi wr g n (D.take j++B.drop j) es∧bu lo hi w wr) (fun _ iv _=>n - (intOf iv).toNat)
 case atStart=>exact ⟨0,k,Nat.zero_le _,rfl,rfl,by simp [eu],by simpa using HR0.out,bu.refl _ _ _⟩
 case round =>
  obtain ⟨j,K,hj,rfl,rfl,hK,hR,hM⟩:=hrel;have HM:Hid (bu lo hi w wr):=hM;have HR:Hid (cG lo hi wr g n (D.take j++B.drop j) es):=hR;have HK:Hid (K=k+eu (B.take j)):=hK;clear hK hM hR;by_cases hlt:j<n
  · have hltI:(j:Int)<(n:Int):=by omega
    obtain ⟨p,hp⟩:∃p,B[j]?=some p:=⟨_,List.getElem?_eq_getElem (by rw [HLN.out];exact hlt)⟩;have hpj:=vT HDL.out hp;obtain ⟨c0,_,_,hgw⟩:=HR.out.cell hpj;have hE:=HR.out.ents j p hpj;have hsp:=HSM.out p (List.mem_of_getElem? hp);have HNX:Hid (eu (B.take (j+1))=eu (B.take j)+(5*p.1.length+1)):=oD hp;have hle:K+5*p.1.length+1≤1000000000:=by
     have a1:=uO B (j+1);have a2:=HNX.out;have a3:=HN.out;have a4:=HK.out;omega
    have hk1:1≤K:=by have:=HK.out;omega
    have HP:Hid (B[j]?=some p):=hp;have HPJ:Hid ((D.take j++B.drop j)[j]?=some p):=hpj;obtain ⟨m,hm⟩:∃m,p.1.length=m:=⟨_,rfl⟩;have HMM:Hid (p.1.length=m):=hm;rw [hm] at c0 hE hsp hle;have CM:Hid (Calls Tryz.prog 27 #[sL (es j) m m,iT (K:Int)] wr fun e w'=>e=.returned (iT ((K+5*m:Nat):Int))∧aE w' lo (es j) m m (dO K m)∧wr.grownBy w' (some (es j))):=qh lo (es j) m m K p.1 wr hE hk1 (by omega);have HLJ:Hid (lo≤es j∧es j<hi∧lo≤g∧g<hi):=⟨hE.lt.1,HR.out.top.2 j hlt,by obtain ⟨xs,h1,_⟩:=HR.out.row;exact (h1.lt g rfl).1,HR.out.top.1⟩;clear hm hE hp hpj;go_wp2_with fail
    refine CM.out.mono ?_;rintro e' w1 ⟨rfl,hO1,hg1⟩;have hx1:g<w1.heap.size:=Nat.lt_of_lt_of_le hgw hg1.size;have hne:=HR.out.ne HPJ.out;have c1:=(HR.out.cell HPJ.out).2.1;have f1:=(HR.out.cell HPJ.out).2.2.1;have c1':w1.cell? ⟨g,j*2+1,none⟩=some (iT p.2):=hg1.cell c1 (fun e=>hne (Option.some.inj e));obtain ⟨xs0,hr0,_⟩:=HR.out.row;have f1':w1.frozen? ⟨g,j*2+1,none⟩=false:=(hr0.kept hg1 (.inr (by simpa [Value.ownBlock] using hne))).frozenAt _;obtain ⟨K1,hK1⟩:∃K1:Nat,K1=K+5*m:=⟨_,rfl⟩;have HK1:Hid (K1=K+5*m):=hK1;rw [← hK1];have hK1b:K1≤1000000000:=by omega
    have HO1:Hid (aE w1 lo (es j) m m (dO K m)):=hO1;have HG1:Hid (wr.grownBy w1 (some (es j))):=hg1;clear hK1 c0 hO1 hg1 c1 f1 hr0 hne;go_wp2;go_roundw
    case rel =>
     have a1:=HNX.out;have a2:=HK.out;have a3:=HK1.out;have a4:=HMM.out;have hl:=HLJ.out;refine ⟨j+1,K1+1,by omega,by go_num,by go_num,by omega,?_,?_⟩
     · have hx:=HDA.out j p HP.out;have hO:=HO1.out;rw [← a4] at hO;have hput:=HR.out.put HPJ.out (L:=dO K p.1.length) (eS _ _) hO HG1.out (K1:Int) (lj _ (by omega));have he:(dO K p.1.length,(K1:Int))=(dO (k+eu (B.take j)) p.1.length,((k+eu (B.take j)+5*p.1.length:Nat):Int)):=by rw [← a2,a3,← a4]
       rw [he,sU HDL.out hx] at hput;exact hput
     · exact (HM.out.grown HG1.out hl.1 hl.2.1).trans ⟨rfl,rfl,rfl,by simp [World.setCell],fun q _ hq=>Below.heap_setCell _ _ _ _ (fun e=>by have e':q=g:=e;omega)⟩
    case measure=>simp [intOf];omega
  · have hltI:¬(j:Int)<(n:Int):=by omega
    have hjB:B.length≤j:=by rw [HLN.out];omega
    have HKN:Hid (K=k+eu B):=by
     have:=HK.out;rw [List.take_of_length_le hjB] at this;exact this
    have HRN:Hid (cG lo hi wr g n D es):=by
     have:=HR.out;rw [List.take_of_length_le (by rw [HDL.out];exact hjB),List.drop_eq_nil_of_le hjB,List.append_nil] at this;exact this
    clear hjB;go_wp2;go_ret;exact ⟨by have e:=HKN.out;first | rfl | (subst e;rfl) | (rw [e];simp) | (simp [e]),HRN.out,HM.out⟩
theorem vk (lo hi g n k:Nat) (B:List ae) (es:Nat→Nat) (w:World) (hR:cG lo hi w g n (kR k B) es) (hcm:n≤1048576) (hsm:∀p ∈ B,p.1.length≤1048576) (hk:1≤k) (hn:k+eu B≤1000000000) :
 Calls Tryz.prog 84 #[sL g n n,iT k] w fun e w'=>e=.returned (iT ((k+eu B:Nat):Int))∧Bl w w':=by
 have HLN:Hid (B.length=n):=by have:=hR.len;rw [jr] at this;exact this
 have HR0:=bc hR;have HSM:=bc hsm;have HN:=bc hn;clear hR hsm hn;go_enter Tryz.func84,Tryz.ntmps84
 go_wp2;go_loopw [1,5] (fun kv iv wr=>∃(j K:Nat),j≤n∧iv=iT j∧kv=iT (K:Int)∧K=k+eu (B.take j)∧Bl w wr) (fun _ iv _=>n - (intOf iv).toNat)
 case atStart=>exact ⟨0,k,Nat.zero_le _,rfl,rfl,by simp [eu],Below.refl _ _⟩
 case round =>
  obtain ⟨j,K,hj,rfl,rfl,hK,hM⟩:=hrel;have HM:Hid (Bl w wr):=hM;have HR:Hid (cG lo hi wr g n (kR k B) es):=HR0.out.below hM;have HK:Hid (K=k+eu (B.take j)):=hK;clear hK hM;by_cases hlt:j<n
  · have hltI:(j:Int)<(n:Int):=by omega
    obtain ⟨p,hp⟩:∃p,B[j]?=some p:=⟨_,List.getElem?_eq_getElem (by rw [HLN.out];exact hlt)⟩;have hd:=qY (k:=k) hp;rw [← HK.out] at hd;obtain ⟨c0,c1,_,hgw⟩:=HR.out.cell hd;have hE:=(HR.out.ents j _ hd).entsAt;simp only [eS] at c0 c1 hE;have hsp:=HSM.out p (List.mem_of_getElem? hp);have HNX:Hid (eu (B.take (j+1))=eu (B.take j)+(5*p.1.length+1)):=oD hp;have hle:K+5*p.1.length+1≤1000000000:=by
     have a1:=uO B (j+1);have a2:=HNX.out;have a3:=HN.out;have a4:=HK.out;omega
    have hk1:1≤K:=by have:=HK.out;omega
    obtain ⟨m,hm⟩:∃m,p.1.length=m:=⟨_,rfl⟩;have HMM:Hid (p.1.length=m):=hm;rw [hm] at c0 c1 hE hsp hle;obtain ⟨K1,hK1⟩:∃K1:Nat,K1=K+5*m:=⟨_,rfl⟩;have HK1:Hid (K1=K+5*m):=hK1;have CM:Hid (Calls Tryz.prog 34 #[sL (es j) m m,iT (K:Int)] wr fun e w'=>e=.returned (iT (K1:Int))∧Bl wr w'):=by rw [hK1];exact qw (es j) m m K wr hE hk1 (by omega)
    rw [← hK1] at c1;have hK1b:K1≤1000000000:=by omega
    clear hm hE hp hd hK1;go_wp2_with fail
    refine CM.out.mono ?_;rintro e' w1 ⟨rfl,hb1⟩;have c1':=cell_later hb1 c1;have hx1:g<w1.heap.size:=Nat.lt_of_lt_of_le hgw hb1.size;have HM1:Hid (Bl w w1):=HM.out.trans (hb1.mono HM.out.size);clear c0 c1 hb1;have hK0:¬(K1:Int)<0:=by omega
    go_wp2;go_roundw
    case rel =>
     have a1:=HNX.out;have a2:=HK.out;have a3:=HK1.out;have a4:=HMM.out;exact ⟨j+1,K1+1,by omega,by go_num,by go_num,by omega,HM1.out⟩
    case measure=>simp [intOf];omega
  · have hltI:¬(j:Int)<(n:Int):=by omega
    have HKN:Hid (K=k+eu B):=by
     have:=HK.out;rw [List.take_of_length_le (by rw [HLN.out];omega)] at this;exact this
    go_wp2;go_ret;exact ⟨by have e:=HKN.out;first | rfl | (subst e;rfl) | (rw [e];simp) | (simp [e]),HM.out⟩
end Go.Proofs.YtlmgojlffgkciaaGreat

namespace Go.Proofs.YtlmgojlffgkciaaGreat
open Go.RowKit
set_option maxRecDepth 100000
set_option maxHeartbeats 2000000
attribute [local go_sem] Oper.semAt_some
structure dQ (lo hi:Nat) (w:World) (G n:Nat) (V:List (List ae)) (gs bs:Nat→Nat) (es:Nat→Nat→Nat):Prop where
 len:V.length=n
 row:∃xs,w.ownsRow lo 64 1 (sL G n n) n xs∧∀(i:Nat) (B:List ae),V[i]?=some B→xs[i]?=some (sL (gs i) B.length B.length)
 levs:∀(i:Nat) (B:List ae),V[i]?=some B→cG (bs i) (bs (i+1)) w (gs i) B.length B (es i)
 bot:lo≤bs 0∧G<bs 0
 up:∀i j,i≤j→j≤n→bs i≤bs j
 top:bs n≤hi
theorem dQ.below {lo hi G n:Nat} {w w':World} {V:List (List ae)} {gs bs:Nat→Nat} {es:Nat→Nat→Nat} (h:dQ lo hi w G n V gs bs es) (hb:Bl w w'):dQ lo hi w' G n V gs bs es:=by
 obtain ⟨xs,h1,h2⟩:=h.row;exact ⟨h.len,⟨xs,h1.kept (row:=none) ⟨hb.os,hb.tape,hb.output,hb.size,fun k hk _=>hb.block k hk⟩ (.inr (by simp [Value.ownBlock])),h2⟩,fun i B hB=>(h.levs i B hB).below hb,h.bot,h.up,h.top⟩
theorem dQ.keepO {lo hi lo' hi' G n:Nat} {w w':World} {V:List (List ae)} {gs bs:Nat→Nat} {es:Nat→Nat→Nat} (h:dQ lo hi w G n V gs bs es) (k:bu lo' hi' w w') (hG:G<lo'∨hi'≤G) (hd:bs n≤lo'∨hi'≤bs 0):dQ lo hi w' G n V gs bs es:=by
 obtain ⟨xs,h1,h2⟩:=h.row;refine ⟨h.len,⟨xs,k.row h1 hG,h2⟩,fun i B hB=>(h.levs i B hB).keepO k ?_,h.bot,h.up,h.top⟩;have hi':=(List.getElem?_eq_some_iff.1 hB).1;rw [h.len] at hi';have u1:=h.up 0 i (by omega) (by omega);have u2:=h.up (i+1) n (by omega) (by omega);omega
theorem dQ.cell {lo hi G n:Nat} {w:World} {V:List (List ae)} {gs bs:Nat→Nat} {es:Nat→Nat→Nat} (h:dQ lo hi w G n V gs bs es) {i:Nat} {B:List ae} (hB:V[i]?=some B):w.cell? ⟨G,i,none⟩=some (sL (gs i) B.length B.length)∧G<w.heap.size:=by
 obtain ⟨xs,h1,h2⟩:=h.row;have hi':=(List.getElem?_eq_some_iff.1 hB).1;rw [h.len] at hi';exact ⟨(h1.cellAt _ (by omega)).trans (h2 i B hB),(h1.lt G rfl).2⟩
theorem dQ.put {lo hi G n j:Nat} {w w1:World} {V:List (List ae)} {gs bs:Nat→Nat} {es:Nat→Nat→Nat} {B B':List ae} (h:dQ lo hi w G n V gs bs es) (hB:V[j]?=some B) (hl:B'.length=B.length) (hR:cG (bs j) (bs (j+1)) w1 (gs j) B.length B' (es j)) (hk:bu (bs j) (bs (j+1)) w w1):dQ lo hi w1 G n (V.set j B') gs bs es:=by
 have hj:=(List.getElem?_eq_some_iff.1 hB).1;have hln:=h.len;have u0:=h.up 0 j (by omega) (by omega);have hb:=h.bot.2;obtain ⟨xs,h1,h2⟩:=h.row;refine ⟨by rw [List.length_set];exact h.len,⟨xs,hk.row h1 (by omega),fun i C hC=>?_⟩,fun i C hC=>?_,h.bot,h.up,h.top⟩
 · by_cases e:j=i
   · subst e;rw [List.getElem?_set_self hj] at hC;cases hC;rw [hl];exact h2 j B hB
   · rw [List.getElem?_set_ne e] at hC;exact h2 i C hC
 · by_cases e:j=i
   · subst e;rw [List.getElem?_set_self hj] at hC;cases hC;rw [hl];exact hR
   · rw [List.getElem?_set_ne e] at hC;have hi':=(List.getElem?_eq_some_iff.1 hC).1;refine (h.levs i C hC).keepO hk ?_;rcases Nat.lt_or_gt_of_ne e with h3 | h3
     · have:=h.up (j+1) i (by omega) (by omega);omega
     · have:=h.up (i+1) j (by omega) (by omega);omega
def gS (k:Nat):List (List ae)→List (List ae)
 | []=>[]
 | B :: V=>kR k B :: gS (k+eu B) V
theorem jp:∀(V:List (List ae)) (k:Nat),(gS k V).length=V.length
 | [],_=>rfl
 | B :: V,k=>by simp [gS,jp V]
theorem qX:∀{V:List (List ae)} {k i:Nat} {B:List ae},V[i]?=some B→(gS k V)[i]?=some (kR (k+eP (V.take i)) B)
 | [],_,_,_,h=>by simp at h
 | A :: V,k,0,B,h=>by
  simp at h
  subst h
  simp [gS,eP]
 | A :: V,k,i+1,B,h=>by
  simp at h
  have:=qX (k:=k+eu A) h
  simp only [gS,List.getElem?_cons_succ,List.take_succ_cons]
  rw [this]
  have e:k+eu A+eP (V.take i)=k+eP (A :: V.take i):=by simp only [eP,List.map_cons,List.sum_cons];omega
  rw [e]
theorem uS (lo hi G n k:Nat) (V:List (List ae)) (gs bs:Nat→Nat) (es:Nat→Nat→Nat) (w:World) (hR:dQ lo hi w G n V gs bs es) (hcm:n≤1048576) (hsm:∀B ∈ V,B.length≤1048576∧∀p ∈ B,p.1.length≤1048576) (hk:1≤k) (hn:k+eP V≤1000000000) :
 Calls Tryz.prog 46 #[sL G n n,iT k] w fun e w'=>e=.returned (iT ((k+eP V:Nat):Int))∧dQ lo hi w' G n (gS k V) gs bs es∧bu (bs 0) (bs n) w w':=by
 have HLN:Hid (V.length=n):=hR.len;have HR0:=bc hR;have HSM:=bc hsm;have HN:=bc hn;clear hR hsm hn;obtain ⟨D,hD⟩:=ay (gS k V);have HDL:Hid (D.length=V.length):=by rw [hD];exact jp V k
 have HDA:Hid (∀i B,V[i]?=some B→D[i]?=some (kR (k+eP (V.take i)) B)):=by rw [hD];exact fun i p h=>qX h
 rw [← hD];clear hD;go_enter Tryz.func46,Tryz.ntmps46
 go_wp2;go_loopw [1,5] (fun kv iv wr=>∃(j K:Nat),j≤n∧iv=iT j∧kv=iT (K:Int)∧K=k+eP (V.take j)∧dQ lo hi wr G n (D.take j++V.drop j) gs bs es∧bu (bs 0) (bs n) w wr) (fun _ iv _=>n - (intOf iv).toNat)
 case atStart=>exact ⟨0,k,Nat.zero_le _,rfl,rfl,by simp [eP],by simpa using HR0.out,bu.refl _ _ _⟩
 case round =>
  obtain ⟨j,K,hj,rfl,rfl,hK,hR,hM⟩:=hrel;have HM:Hid (bu (bs 0) (bs n) w wr):=hM;have HR:Hid (dQ lo hi wr G n (D.take j++V.drop j) gs bs es):=hR;have HK:Hid (K=k+eP (V.take j)):=hK;clear hK hM hR;by_cases hlt:j<n
  · have hltI:(j:Int)<(n:Int):=by omega
    obtain ⟨B,hp⟩:∃B,V[j]?=some B:=⟨_,List.getElem?_eq_getElem (by rw [HLN.out];exact hlt)⟩;have hpj:=vT HDL.out hp;obtain ⟨c0,hgw⟩:=HR.out.cell hpj;have hE:=HR.out.levs j B hpj;have hsp:=HSM.out B (List.mem_of_getElem? hp);have HNX:Hid (eP (V.take (j+1))=eP (V.take j)+eu B):=oC hp;have hle:K+eu B≤1000000000:=by
     have a1:=uN V (j+1);have a2:=HNX.out;have a3:=HN.out;have a4:=HK.out;omega
    have hk1:1≤K:=by have:=HK.out;omega
    have HP:Hid (V[j]?=some B):=hp;have HPJ:Hid ((D.take j++V.drop j)[j]?=some B):=hpj;obtain ⟨m,hm⟩:∃m,B.length=m:=⟨_,rfl⟩;have HMM:Hid (B.length=m):=hm;obtain ⟨K1,hK1⟩:∃K1:Nat,K1=K+eu B:=⟨_,rfl⟩;have HK1:Hid (K1=K+eu B):=hK1;rw [hm] at c0 hE hsp;have CM:Hid (Calls Tryz.prog 83 #[sL (gs j) m m,iT (K:Int)] wr fun e w'=>e=.returned (iT (K1:Int))∧cG (bs j) (bs (j+1)) w' (gs j) m (kR K B) (es j)∧bu (bs j) (bs (j+1)) wr w'):=by rw [hK1];exact uR _ _ (gs j) m K B (es j) wr hE hsp.1 hsp.2 hk1 hle
    have hK1b:K1≤1000000000:=by omega
    obtain ⟨hsp,_⟩:=hsp;clear hm hE hp hpj hK1 hle;go_wp2_with fail
    refine CM.out.mono ?_;rintro e' w1 ⟨rfl,hR1,hk1'⟩;have HR1:Hid (cG (bs j) (bs (j+1)) w1 (gs j) m (kR K B) (es j)):=hR1;have HKP:Hid (bu (bs j) (bs (j+1)) wr w1):=hk1';clear c0 hR1 hk1';go_wp2;go_roundw
    case rel =>
     have a1:=HNX.out;have a2:=HK.out;have a3:=HK1.out;have a4:=HMM.out;refine ⟨j+1,K1,by omega,by go_num,rfl,by omega,?_,?_⟩
     · have hx:=HDA.out j B HP.out;have hO:=HR1.out;rw [← a4] at hO;have hput:=HR.out.put HPJ.out (jr B K) hO HKP.out;rw [← a2] at hx;rw [sU HDL.out hx] at hput;exact hput
     · exact HM.out.trans (HKP.out.mono (HR.out.up 0 j (by omega) (by omega)) (HR.out.up (j+1) n (by omega) (by omega)))
    case measure=>simp [intOf];omega
  · have hltI:¬(j:Int)<(n:Int):=by omega
    have hjB:V.length≤j:=by rw [HLN.out];omega
    have HKN:Hid (K=k+eP V):=by
     have:=HK.out;rw [List.take_of_length_le hjB] at this;exact this
    have HRN:Hid (dQ lo hi wr G n D gs bs es):=by
     have:=HR.out;rw [List.take_of_length_le (by rw [HDL.out];exact hjB),List.drop_eq_nil_of_le hjB,List.append_nil] at this;exact this
    clear hjB;go_wp2;go_ret;exact ⟨by have e:=HKN.out;first | rfl | (subst e;rfl) | (rw [e];simp) | (simp [e]),HRN.out,HM.out⟩
theorem vl (lo hi G n k:Nat) (V:List (List ae)) (gs bs:Nat→Nat) (es:Nat→Nat→Nat) (w:World) (hR:dQ lo hi w G n (gS k V) gs bs es) (hcm:n≤1048576) (hsm:∀B ∈ V,B.length≤1048576∧∀p ∈ B,p.1.length≤1048576) (hk:1≤k) (hn:k+eP V≤1000000000) :
 Calls Tryz.prog 48 #[sL G n n,iT k] w fun e w'=>e=.returned (iT ((k+eP V:Nat):Int))∧Bl w w':=by
 have HLN:Hid (V.length=n):=by have:=hR.len;rw [jp] at this;exact this
 have HR0:=bc hR;have HSM:=bc hsm;have HN:=bc hn;clear hR hsm hn;go_enter Tryz.func48,Tryz.ntmps48
 go_wp2;go_loopw [1,5] (fun kv iv wr=>∃(j K:Nat),j≤n∧iv=iT j∧kv=iT (K:Int)∧K=k+eP (V.take j)∧Bl w wr) (fun _ iv _=>n - (intOf iv).toNat)
 case atStart=>exact ⟨0,k,Nat.zero_le _,rfl,rfl,by simp [eP],Below.refl _ _⟩
 case round =>
  obtain ⟨j,K,hj,rfl,rfl,hK,hM⟩:=hrel;have HM:Hid (Bl w wr):=hM;have HR:Hid (dQ lo hi wr G n (gS k V) gs bs es):=HR0.out.below hM;have HK:Hid (K=k+eP (V.take j)):=hK;clear hK hM;by_cases hlt:j<n
  · have hltI:(j:Int)<(n:Int):=by omega
    obtain ⟨B,hp⟩:∃B,V[j]?=some B:=⟨_,List.getElem?_eq_getElem (by rw [HLN.out];exact hlt)⟩;have hd:=qX (k:=k) hp;rw [← HK.out] at hd;obtain ⟨c0,hgw⟩:=HR.out.cell hd;have hE:=HR.out.levs j _ hd;rw [jr] at c0 hE;have hsp:=HSM.out B (List.mem_of_getElem? hp);have HNX:Hid (eP (V.take (j+1))=eP (V.take j)+eu B):=oC hp;have hle:K+eu B≤1000000000:=by
     have a1:=uN V (j+1);have a2:=HNX.out;have a3:=HN.out;have a4:=HK.out;omega
    have hk1:1≤K:=by have:=HK.out;omega
    obtain ⟨m,hm⟩:∃m,B.length=m:=⟨_,rfl⟩;obtain ⟨K1,hK1⟩:∃K1:Nat,K1=K+eu B:=⟨_,rfl⟩;have HK1:Hid (K1=K+eu B):=hK1;rw [hm] at c0 hE hsp;have CM:Hid (Calls Tryz.prog 84 #[sL (gs j) m m,iT (K:Int)] wr fun e w'=>e=.returned (iT (K1:Int))∧Bl wr w'):=by rw [hK1];exact vk _ _ (gs j) m K B (es j) wr hE hsp.1 hsp.2 hk1 hle
    have hK1b:K1≤1000000000:=by omega
    obtain ⟨hsp,_⟩:=hsp;clear hm hE hp hd hK1 hle;go_wp2_with fail
    refine CM.out.mono ?_;rintro e' w1 ⟨rfl,hb1⟩;have HM1:Hid (Bl w w1):=HM.out.trans (hb1.mono HM.out.size);have hK0:¬(K1:Int)<0:=by omega
    clear c0 hb1;go_wp2;go_roundw
    case rel =>
     have a1:=HNX.out;have a2:=HK.out;have a3:=HK1.out;exact ⟨j+1,K1,by omega,by go_num,rfl,by omega,HM1.out⟩
    case measure=>simp [intOf];omega
  · have hltI:¬(j:Int)<(n:Int):=by omega
    have HKN:Hid (K=k+eP V):=by
     have:=HK.out;rw [List.take_of_length_le (by rw [HLN.out];omega)] at this;exact this
    go_wp2;go_ret;exact ⟨by have e:=HKN.out;first | rfl | (subst e;rfl) | (rw [e];simp) | (simp [e]),HM.out⟩
def fT (lo:Nat) (w:World) (g n:Nat) (S:List Int):Prop:=S.length=n∧w.ownsRow lo 3 1 (sL g n n) n (S.map iT)
def jq (k n:Nat):List Int:=(List.range n).map (fun i=>((k+i:Nat):Int))
theorem vU {k n i:Nat} (h:i<n):(jq k n)[i]?=some ((k+i:Nat):Int):=by simp [jq,h]
theorem s9 (k n:Nat):(jq k n).length=n:=by simp [jq]
theorem uT (lo g n k:Nat) (S:List Int) (w:World) (hO:fT lo w g n S) (hn:k+n≤1000000000) :
 Calls Tryz.prog 47 #[sL g n n,iT k] w fun e w'=>e=.returned (iT ((k+n:Nat):Int))∧fT lo w' g n (jq k n)∧w.grownBy w' (some g):=by
 have HO0:Hid (w.ownsRow lo 3 1 (sL g n n) n (S.map iT)):=hO.2;clear hO;go_enter Tryz.func47,Tryz.ntmps47
 go_wp2;go_loopw [1,5] (fun kv iv wr=>∃(j:Nat) (xs:List Value),j≤n∧iv=iT j∧kv=iT ((k+j:Nat):Int)∧wr.ownsRow lo 3 1 (sL g n n) n xs∧(∀i,i<j→xs[i]?=some (iT ((k+i:Nat):Int)))∧w.grownBy wr (some g)) (fun _ iv _=>n - (intOf iv).toNat)
 case atStart=>exact ⟨0,_,Nat.zero_le _,rfl,rfl,HO0.out,fun i hi=>absurd hi (Nat.not_lt_zero _),⟨rfl,rfl,rfl,Nat.le_refl _,fun _ _ _=>rfl⟩⟩
 case round =>
  obtain ⟨j,xs,hj,rfl,rfl,ho,hrow,hg⟩:=hrel;have hbr:=(ho.lt g rfl).2;have HG:Hid (w.grownBy wr (some g)):=hg;have HROW:Hid (∀i,i<j→xs[i]?=some (iT ((k+i:Nat):Int))):=hrow;have HXL:Hid (xs.length=n*1):=ho.1;clear hg hrow;obtain ⟨K,hK⟩:=ay (k+j);rw [← hK];have HK:Hid (K=k+j):=hK;have hK2:K+1≤1000000001:=by omega
  clear hK;by_cases hlt:j<n
  · have hltI:(j:Int)<(n:Int):=by omega
    have c0:∃v,wr.cell? ⟨g,j,none⟩=some v:=⟨_,(ho.cellAt _ (by omega)).trans (List.getElem?_eq_getElem (by rw [ho.1];omega))⟩;obtain ⟨v0,c0⟩:=c0;have f0:wr.frozen? ⟨g,j,none⟩=false:=ho.frozenAt _;have HO:Hid (wr.ownsRow lo 3 1 (sL g n n) n xs):=ho;clear ho;go_wp2;go_roundw
    case rel =>
     have t0:=HO.out.stored j (iT K);refine ⟨j+1,_,by omega,by go_num,by have:=HK.out;go_num,t0.1,fun i hi'=>?_,HG.out.trans t0.2⟩;by_cases e:j=i
     · subst e;rw [List.getElem?_set_self (by rw [HXL.out];omega),HK.out]
     · rw [List.getElem?_set_ne e];exact HROW.out i (by omega)
    case measure=>simp [intOf];omega
  · have hltI:¬(j:Int)<(n:Int):=by omega
    have hjn:j=n:=by omega
    have HKN:Hid (K=k+n):=by have:=HK.out;show K=k+n;omega
    have HXE:Hid (xs=(jq k n).map iT):=by
     apply List.ext_getElem?;intro i;by_cases hi':i<n
     · rw [HROW.out i (by omega),List.getElem?_map,vU hi'];rfl
     · rw [List.getElem?_eq_none (by rw [HXL.out];omega),List.getElem?_eq_none (by rw [List.length_map,s9];omega)]
    have HO:Hid (wr.ownsRow lo 3 1 (sL g n n) n xs):=ho;clear ho hjn;go_wp2;go_ret;exact ⟨by rw [HKN.out];first | rfl | simp,⟨s9 _ _,by rw [← HXE.out];exact HO.out⟩,HG.out⟩
theorem vm (lo g n k:Nat) (w:World) (hO:fT lo w g n (jq k n)) (hn:k+n≤1000000000) :
 Calls Tryz.prog 49 #[sL g n n,iT k] w fun e w'=>e=.returned (iT ((k+n:Nat):Int))∧Bl w w':=by
 have hgl:=(hO.2.lt g rfl).2;have HC:Hid (∀i,i<n→w.cell? ⟨g,i,none⟩=some (iT ((k+i:Nat):Int))):=fun i hi=>by
  have h1:=hO.2.cellAt i (by omega);rw [List.getElem?_map,vU hi] at h1;exact h1
 clear hO;go_enter Tryz.func49,Tryz.ntmps49
 go_wp2;go_loopw [1,5] (fun kv iv wr=>∃(j:Nat),j≤n∧iv=iT j∧kv=iT ((k+j:Nat):Int)∧Bl w wr) (fun _ iv _=>n - (intOf iv).toNat)
 case atStart=>exact ⟨0,Nat.zero_le _,rfl,rfl,Below.refl _ _⟩
 case round =>
  obtain ⟨j,hj,rfl,rfl,hb⟩:=hrel;have HB:Hid (Bl w wr):=hb;obtain ⟨K,hK⟩:=ay (k+j);rw [← hK];have HK:Hid (K=k+j):=hK;have hK2:K+1≤1000000001:=by omega
  by_cases hlt:j<n
  · have hltI:(j:Int)<(n:Int):=by omega
    have c0:=cell_later hb (HC.out j hlt);rw [← hK] at c0;have hgr:g<wr.heap.size:=Nat.lt_of_lt_of_le hgl hb.size;clear hb hK;go_wp2;go_roundw
    case rel=>exact ⟨j+1,by omega,by go_num,by have:=HK.out;go_num,HB.out⟩
    case measure=>simp [intOf];omega
  · have hltI:¬(j:Int)<(n:Int):=by omega
    have HKN:Hid (K=k+n):=by have:=HK.out;show K=k+n;omega
    clear hb hK;go_wp2;go_ret;exact ⟨by rw [HKN.out];first | rfl | simp,HB.out⟩
end Go.Proofs.YtlmgojlffgkciaaGreat

namespace Go.Proofs.YtlmgojlffgkciaaGreat
open Go.RowKit
set_option maxHeartbeats 800000 in
theorem xG (k:Nat) (w:World) :
 Calls Tryz.prog 27 #[nZ,iT k] w fun e w'=>e=.returned (iT (k:Int))∧w'=w:=by
 go_enter Tryz.func27,Tryz.ntmps27
 go_wp2;go_loopw [1,5] (fun kv i wr=>kv=iT (k:Int)∧i=iT 0∧wr=w) (fun _ i _=>0)
 case atStart=>exact ⟨rfl,rfl,rfl⟩
 case round =>
  obtain ⟨rfl,rfl,rfl⟩:=hrel;go_wp2;go_ret;exact ⟨rfl,rfl⟩
set_option maxHeartbeats 800000 in
theorem xY (k:Nat) (w:World) :
 Calls Tryz.prog 34 #[nZ,iT k] w fun e w'=>e=.returned (iT (k:Int))∧w'=w:=by
 go_enter Tryz.func34,Tryz.ntmps34
 go_wp2;go_loopw [1,5] (fun kv i wr=>kv=iT (k:Int)∧i=iT 0∧wr=w) (fun _ i _=>0)
 case atStart=>exact ⟨rfl,rfl,rfl⟩
 case round =>
  obtain ⟨rfl,rfl,rfl⟩:=hrel;go_wp2;go_ret;exact ⟨rfl,rfl⟩
end Go.Proofs.YtlmgojlffgkciaaGreat
