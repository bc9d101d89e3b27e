/- Walks. -/
import Derived.Test.YtehiefdphnljaaaGreatDoorSw03
namespace Go.Proofs.YtehiefdphnljaaaGreatDoor
set_option maxRecDepth 100000
set_option maxHeartbeats 40000000
open Go.RowKit
variable {B:List aq} {G b1 b2 b3 base c cap g hi hi' lo lo' n nm ns nv:Nat} {L M:List ae} {S:List Int} {V:List (List aq)} {a:Option Addr} {bs gs:Nat→Nat} {es:Nat→Nat→Nat} {row:Option Nat} {w w':World} {xs:List Value}
section
attribute [local go_sem] Oper.semAt_some
structure bQ (lo hi:Nat) (w:World) (G n:Nat) (V:List (List aq)) (gs bs:Nat→Nat) (es:Nat→Nat→Nat):Prop where
 len:V.length=n
 row:∃xs,w.ownsRow lo 83 1 (sL G n n) n xs∧∀(i:Nat) (B:List aq),V[i]?=some B→xs[i]?=some (sL (gs i) B.length B.length)
 levs:∀(i:Nat) (B:List aq),V[i]?=some B→ch (bs i) (bs (i+1)) w (gs i) B.length B (es i)
 bot:lo≤bs 0∧G<bs 0
 up:∀i j,i≤j→j≤n→bs i≤bs j
 top:bs n≤hi
theorem bQ.below (h:bQ lo hi w G n V gs bs es) (hb:Bl w w'):bQ lo hi w' G n V gs bs es:=by
 obtain ⟨xs,h1,h2⟩:=h.row;exact ⟨h.len,⟨xs,h1.kept (row:=none) ⟨hb.os,hb.tape,hb.output,hb.size,fun k hk _=>hb.block k hk⟩ (.inr (by simp [Value.ownBlock])),h2⟩,fun i B hB=>(h.levs i B hB).below hb,h.bot,h.up,h.top⟩
theorem bQ.keepO (h:bQ lo hi w G n V gs bs es) (k:aI lo' hi' w w') (hG:G<lo'∨hi'≤G) (hd:bs n≤lo'∨hi'≤bs 0):bQ lo hi w' G n V gs bs es:=by
 obtain ⟨xs,h1,h2⟩:=h.row;refine ⟨h.len,⟨xs,k.row h1 hG,h2⟩,fun i B hB=>(h.levs i B hB).keepO k ?_,h.bot,h.up,h.top⟩;have hi':=(List.getElem?_eq_some_iff.1 hB).1;rw [h.len] at hi';have u1:=h.up 0 i (by omega) (by omega);have u2:=h.up (i+1) n (by omega) (by omega);omega
theorem bQ.cell (h:bQ lo hi w G n V gs bs es) {i:Nat} {B:List aq} (hB:V[i]?=some B):w.cell? ⟨G,i,none⟩=some (sL (gs i) B.length B.length)∧G<w.heap.size:=by
 obtain ⟨xs,h1,h2⟩:=h.row;have hi':=(List.getElem?_eq_some_iff.1 hB).1;rw [h.len] at hi';exact ⟨(h1.cellAt _ (by omega)).trans (h2 i B hB),(h1.lt G rfl).2⟩
theorem bQ.put {j:Nat} {w1:World} {B':List aq} (h:bQ lo hi w G n V gs bs es) (hB:V[j]?=some B) (hl:B'.length=B.length) (hR:ch (bs j) (bs (j+1)) w1 (gs j) B.length B' (es j)) (hk:aI (bs j) (bs (j+1)) w w1):bQ lo hi w1 G n (V.set j B') gs bs es:=by
 have hj:=(List.getElem?_eq_some_iff.1 hB).1;have hln:=h.len;have u0:=h.up 0 j (by omega) (by omega);have hb:=h.bot.2;obtain ⟨xs,h1,h2⟩:=h.row;refine ⟨by rw [List.length_set];exact h.len,⟨xs,hk.row h1 (by omega),fun i C hC=>?_⟩,fun i C hC=>?_,h.bot,h.up,h.top⟩
 · by_cases e:j=i
   · subst e;rw [List.getElem?_set_self hj] at hC;cases hC;rw [hl];exact h2 j B hB
   · rw [List.getElem?_set_ne e] at hC;exact h2 i C hC
 · by_cases e:j=i
   · subst e;rw [List.getElem?_set_self hj] at hC;cases hC;rw [hl];exact hR
   · rw [List.getElem?_set_ne e] at hC;have hi':=(List.getElem?_eq_some_iff.1 hC).1;refine (h.levs i C hC).keepO hk ?_;rcases Nat.lt_or_gt_of_ne e with h3 | h3
     · have:=h.up (j+1) i (by omega) (by omega);omega
     · have:=h.up (i+1) j (by omega) (by omega);omega
def eu (k:Nat):List (List aq)→List (List aq)
 | []=>[]
 | B :: V=>jL k B :: eu (k+ew B) V
theorem fO:∀(V:List (List aq)) (k:Nat),(eu k V).length=V.length
 | [],_=>rfl
 | B :: V,k=>by simp [eu,fO V]
theorem pL:∀{V:List (List aq)} {k i:Nat} {B:List aq},V[i]?=some B→(eu k V)[i]?=some (jL (k+cZ (V.take i)) B)
 | [],_,_,_,h=>by simp at h
 | A :: V,k,0,B,h=>by
  simp at h
  subst h
  simp [eu,cZ]
 | A :: V,k,i+1,B,h=>by
  simp at h
  have:=pL (k:=k+ew A) h
  simp only [eu,List.getElem?_cons_succ,List.take_succ_cons]
  rw [this]
  have e:k+ew A+cZ (V.take i)=k+cZ (A :: V.take i):=by simp only [cZ,List.map_cons,List.sum_cons];omega
  rw [e]
theorem mZ (lo hi G n k:Nat) (V:List (List aq)) (gs bs:Nat→Nat) (es:Nat→Nat→Nat) (w:World) (hR:bQ lo hi w G n V gs bs es) (hcm:n≤1048576) (hsm:∀B ∈ V,B.length≤1048576∧∀p ∈ B,p.1.length≤1048576) (hk:1≤k) (hn:k+cZ V≤1000000000) :
 Calls Tryz.prog 57 #[sL G n n,iT k] w fun e w'=>e=.returned (iT ((k+cZ V:Nat):Int))∧bQ lo hi w' G n (eu k V) gs bs es∧aI (bs 0) (bs n) w w':=by
 have HLN:Hid (V.length=n):=hR.len;have HR0:=ar hR;have HSM:=ar hsm;have HN:=ar hn;clear hR hsm hn;obtain ⟨D,hD⟩:=aw (eu k V);have HDL:Hid (D.length=V.length):=by rw [hD];exact fO V k
 have HDA:Hid (∀i B,V[i]?=some B→D[i]?=some (jL (k+cZ (V.take i)) B)):=by rw [hD];exact fun i p h=>pL h
 rw [← hD];clear hD;go_enter Tryz.func57,Tryz.ntmps57
 go_wp2;go_loopw [1,5] (fun kv iv wr=>∃(j K:Nat),j≤n∧iv=iT j∧kv=iT (K:Int)∧K=k+cZ (V.take j)∧bQ lo hi wr G n (D.take j++V.drop j) gs bs es∧aI (bs 0) (bs n) w wr) (fun _ iv _=>n - (intOf iv).toNat)
 case atStart=>exact ⟨0,k,Nat.zero_le _,rfl,rfl,by simp [cZ],by simpa using HR0.out,aI.refl _ _ _⟩
 case round =>
  obtain ⟨j,K,hj,rfl,rfl,hK,hR,hM⟩:=hrel;have HM:Hid (aI (bs 0) (bs n) w wr):=hM;have HR:Hid (bQ lo hi wr G n (D.take j++V.drop j) gs bs es):=hR;have HK:Hid (K=k+cZ (V.take j)):=hK;clear hK hM hR;by_cases hlt:j<n
  · have hltI:(j:Int)<(n:Int):=by omega
    obtain ⟨B,hp⟩:∃B,V[j]?=some B:=⟨_,List.getElem?_eq_getElem (by rw [HLN.out];exact hlt)⟩;have hpj:=uw HDL.out hp;obtain ⟨c0,hgw⟩:=HR.out.cell hpj;have hE:=HR.out.levs j B hpj;have hsp:=HSM.out B (List.mem_of_getElem? hp);have HNX:Hid (cZ (V.take (j+1))=cZ (V.take j)+ew B):=mV hp;have hle:K+ew B≤1000000000:=by
     have a1:=ty V (j+1);have a2:=HNX.out;have a3:=HN.out;have a4:=HK.out;omega
    have hk1:1≤K:=by have:=HK.out;omega
    have HP:Hid (V[j]?=some B):=hp;have HPJ:Hid ((D.take j++V.drop j)[j]?=some B):=hpj;obtain ⟨m,hm⟩:∃m,B.length=m:=⟨_,rfl⟩;have HMM:Hid (B.length=m):=hm;obtain ⟨K1,hK1⟩:∃K1:Nat,K1=K+ew B:=⟨_,rfl⟩;have HK1:Hid (K1=K+ew B):=hK1;rw [hm] at c0 hE hsp;have CM:Hid (Calls Tryz.prog 99 #[sL (gs j) m m,iT (K:Int)] wr fun e w'=>e=.returned (iT (K1:Int))∧ch (bs j) (bs (j+1)) w' (gs j) m (jL K B) (es j)∧aI (bs j) (bs (j+1)) wr w'):=by rw [hK1];exact tD _ _ (gs j) m K B (es j) wr hE hsp.1 hsp.2 hk1 hle
    have hK1b:K1≤1000000000:=by omega
    obtain ⟨hsp,_⟩:=hsp;clear hm hE hp hpj hK1 hle;go_wp2_with fail
    refine CM.out.mono ?_;rintro e' w1 ⟨rfl,hR1,hk1'⟩;have HR1:Hid (ch (bs j) (bs (j+1)) w1 (gs j) m (jL K B) (es j)):=hR1;have HKP:Hid (aI (bs j) (bs (j+1)) wr w1):=hk1';clear c0 hR1 hk1';go_wp2;go_roundw
    case rel =>
     have a1:=HNX.out;have a2:=HK.out;have a3:=HK1.out;have a4:=HMM.out;refine ⟨j+1,K1,by omega,by go_num,rfl,by omega,?_,?_⟩
     · have hx:=HDA.out j B HP.out;have hO:=HR1.out;rw [← a4] at hO;have hput:=HR.out.put HPJ.out (iL B K) hO HKP.out;rw [← a2] at hx;rw [rg HDL.out hx] at hput;exact hput
     · exact HM.out.trans (HKP.out.mono (HR.out.up 0 j (by omega) (by omega)) (HR.out.up (j+1) n (by omega) (by omega)))
    case measure=>simp [intOf];omega
  · have hltI:¬(j:Int)<(n:Int):=by omega
    have hjB:V.length≤j:=by rw [HLN.out];omega
    have HKN:Hid (K=k+cZ V):=by
     have:=HK.out;rw [List.take_of_length_le hjB] at this;exact this
    have HRN:Hid (bQ lo hi wr G n D gs bs es):=by
     have:=HR.out;rw [List.take_of_length_le (by rw [HDL.out];exact hjB),List.drop_eq_nil_of_le hjB,List.append_nil] at this;exact this
    clear hjB;go_wp2;go_ret;exact ⟨by have e:=HKN.out;first | rfl | (subst e;rfl) | (rw [e];simp) | (simp [e]),HRN.out,HM.out⟩
theorem nu (lo hi G n k:Nat) (V:List (List aq)) (gs bs:Nat→Nat) (es:Nat→Nat→Nat) (w:World) (hR:bQ lo hi w G n (eu k V) gs bs es) (hcm:n≤1048576) (hsm:∀B ∈ V,B.length≤1048576∧∀p ∈ B,p.1.length≤1048576) (hk:1≤k) (hn:k+cZ V≤1000000000) :
 Calls Tryz.prog 60 #[sL G n n,iT k] w fun e w'=>e=.returned (iT ((k+cZ V:Nat):Int))∧Bl w w':=by
 have HLN:Hid (V.length=n):=by have:=hR.len;rw [fO] at this;exact this
 have HR0:=ar hR;have HSM:=ar hsm;have HN:=ar hn;clear hR hsm hn;go_enter Tryz.func60,Tryz.ntmps60
 go_wp2;go_loopw [1,5] (fun kv iv wr=>∃(j K:Nat),j≤n∧iv=iT j∧kv=iT (K:Int)∧K=k+cZ (V.take j)∧Bl w wr) (fun _ iv _=>n - (intOf iv).toNat)
 case atStart=>exact ⟨0,k,Nat.zero_le _,rfl,rfl,by simp [cZ],Below.refl _ _⟩
 case round =>
  obtain ⟨j,K,hj,rfl,rfl,hK,hM⟩:=hrel;have HM:Hid (Bl w wr):=hM;have HR:Hid (bQ lo hi wr G n (eu k V) gs bs es):=HR0.out.below hM;have HK:Hid (K=k+cZ (V.take j)):=hK;clear hK hM;by_cases hlt:j<n
  · have hltI:(j:Int)<(n:Int):=by omega
    obtain ⟨B,hp⟩:∃B,V[j]?=some B:=⟨_,List.getElem?_eq_getElem (by rw [HLN.out];exact hlt)⟩;have hd:=pL (k:=k) hp;rw [← HK.out] at hd;obtain ⟨c0,hgw⟩:=HR.out.cell hd;have hE:=HR.out.levs j _ hd;rw [iL] at c0 hE;have hsp:=HSM.out B (List.mem_of_getElem? hp);have HNX:Hid (cZ (V.take (j+1))=cZ (V.take j)+ew B):=mV hp;have hle:K+ew B≤1000000000:=by
     have a1:=ty V (j+1);have a2:=HNX.out;have a3:=HN.out;have a4:=HK.out;omega
    have hk1:1≤K:=by have:=HK.out;omega
    obtain ⟨m,hm⟩:∃m,B.length=m:=⟨_,rfl⟩;obtain ⟨K1,hK1⟩:∃K1:Nat,K1=K+ew B:=⟨_,rfl⟩;have HK1:Hid (K1=K+ew B):=hK1;rw [hm] at c0 hE hsp;have CM:Hid (Calls Tryz.prog 100 #[sL (gs j) m m,iT (K:Int)] wr fun e w'=>e=.returned (iT (K1:Int))∧Bl wr w'):=by rw [hK1];exact tQ _ _ (gs j) m K B (es j) wr hE hsp.1 hsp.2 hk1 hle
    have hK1b:K1≤1000000000:=by omega
    obtain ⟨hsp,_⟩:=hsp;clear hm hE hp hd hK1 hle;go_wp2_with fail
    refine CM.out.mono ?_;rintro e' w1 ⟨rfl,hb1⟩;have HM1:Hid (Bl w w1):=HM.out.trans (hb1.mono HM.out.size);have hK0:¬(K1:Int)<0:=by omega
    clear c0 hb1;go_wp2;go_roundw
    case rel =>
     have a1:=HNX.out;have a2:=HK.out;have a3:=HK1.out;exact ⟨j+1,K1,by omega,by go_num,rfl,by omega,HM1.out⟩
    case measure=>simp [intOf];omega
  · have hltI:¬(j:Int)<(n:Int):=by omega
    have HKN:Hid (K=k+cZ V):=by
     have:=HK.out;rw [List.take_of_length_le (by rw [HLN.out];omega)] at this;exact this
    go_wp2;go_ret;exact ⟨by have e:=HKN.out;first | rfl | (subst e;rfl) | (rw [e];simp) | (simp [e]),HM.out⟩
def fs (lo:Nat) (w:World) (g n:Nat) (S:List Int):Prop:=S.length=n∧w.ownsRow lo 3 1 (sL g n n) n (S.map iT)
def gY (k n:Nat):List Int:=(List.range n).map (fun i=>((k+i:Nat):Int))
theorem ux {k i:Nat} (h:i<n):(gY k n)[i]?=some ((k+i:Nat):Int):=by simp [gY,h]
theorem rp (k n:Nat):(gY k n).length=n:=by simp [gY]
theorem tE (lo g n k:Nat) (S:List Int) (w:World) (hO:fs lo w g n S) (hn:k+n≤1000000000) :
 Calls Tryz.prog 58 #[sL g n n,iT k] w fun e w'=>e=.returned (iT ((k+n:Nat):Int))∧fs lo w' g n (gY k n)∧w.grownBy w' (some g):=by
 have HO0:Hid (w.ownsRow lo 3 1 (sL g n n) n (S.map iT)):=hO.2;clear hO;go_enter Tryz.func58,Tryz.ntmps58
 go_wp2;go_loopw [1,5] (fun kv iv wr=>∃(j:Nat) (xs:List Value),j≤n∧iv=iT j∧kv=iT ((k+j:Nat):Int)∧wr.ownsRow lo 3 1 (sL g n n) n xs∧(∀i,i<j→xs[i]?=some (iT ((k+i:Nat):Int)))∧w.grownBy wr (some g)) (fun _ iv _=>n - (intOf iv).toNat)
 case atStart=>exact ⟨0,_,Nat.zero_le _,rfl,rfl,HO0.out,fun i hi=>absurd hi (Nat.not_lt_zero _),⟨rfl,rfl,rfl,Nat.le_refl _,fun _ _ _=>rfl⟩⟩
 case round =>
  obtain ⟨j,xs,hj,rfl,rfl,ho,hrow,hg⟩:=hrel;have hbr:=(ho.lt g rfl).2;have HG:Hid (w.grownBy wr (some g)):=hg;have HROW:Hid (∀i,i<j→xs[i]?=some (iT ((k+i:Nat):Int))):=hrow;have HXL:Hid (xs.length=n*1):=ho.1;clear hg hrow;obtain ⟨K,hK⟩:=aw (k+j);rw [← hK];have HK:Hid (K=k+j):=hK;have hK2:K+1≤1000000001:=by omega
  clear hK;by_cases hlt:j<n
  · have hltI:(j:Int)<(n:Int):=by omega
    have c0:∃v,wr.cell? ⟨g,j,none⟩=some v:=⟨_,(ho.cellAt _ (by omega)).trans (List.getElem?_eq_getElem (by rw [ho.1];omega))⟩;obtain ⟨v0,c0⟩:=c0;have f0:wr.frozen? ⟨g,j,none⟩=false:=ho.frozenAt _;have HO:Hid (wr.ownsRow lo 3 1 (sL g n n) n xs):=ho;clear ho;go_wp2;go_roundw
    case rel =>
     have t0:=HO.out.stored j (iT K);refine ⟨j+1,_,by omega,by go_num,by have:=HK.out;go_num,t0.1,fun i hi'=>?_,HG.out.trans t0.2⟩;by_cases e:j=i
     · subst e;rw [List.getElem?_set_self (by rw [HXL.out];omega),HK.out]
     · rw [List.getElem?_set_ne e];exact HROW.out i (by omega)
    case measure=>simp [intOf];omega
  · have hltI:¬(j:Int)<(n:Int):=by omega
    have hjn:j=n:=by omega
    have HKN:Hid (K=k+n):=by have:=HK.out;show K=k+n;omega
    have HXE:Hid (xs=(gY k n).map iT):=by
     apply List.ext_getElem?;intro i;by_cases hi':i<n
     · rw [HROW.out i (by omega),List.getElem?_map,ux hi'];rfl
     · rw [List.getElem?_eq_none (by rw [HXL.out];omega),List.getElem?_eq_none (by rw [List.length_map,rp];omega)]
    have HO:Hid (wr.ownsRow lo 3 1 (sL g n n) n xs):=ho;clear ho hjn;go_wp2;go_ret;exact ⟨by rw [HKN.out];first | rfl | simp,⟨rp _ _,by rw [← HXE.out];exact HO.out⟩,HG.out⟩
theorem tR (lo g n k:Nat) (w:World) (hO:fs lo w g n (gY k n)) (hn:k+n≤1000000000) :
 Calls Tryz.prog 61 #[sL g n n,iT k] w fun e w'=>e=.returned (iT ((k+n:Nat):Int))∧Bl w w':=by
 have hgl:=(hO.2.lt g rfl).2;have HC:Hid (∀i,i<n→w.cell? ⟨g,i,none⟩=some (iT ((k+i:Nat):Int))):=fun i hi=>by
  have h1:=hO.2.cellAt i (by omega);rw [List.getElem?_map,ux hi] at h1;exact h1
 clear hO;go_enter Tryz.func61,Tryz.ntmps61
 go_wp2;go_loopw [1,5] (fun kv iv wr=>∃(j:Nat),j≤n∧iv=iT j∧kv=iT ((k+j:Nat):Int)∧Bl w wr) (fun _ iv _=>n - (intOf iv).toNat)
 case atStart=>exact ⟨0,Nat.zero_le _,rfl,rfl,Below.refl _ _⟩
 case round =>
  obtain ⟨j,hj,rfl,rfl,hb⟩:=hrel;have HB:Hid (Bl w wr):=hb;obtain ⟨K,hK⟩:=aw (k+j);rw [← hK];have HK:Hid (K=k+j):=hK;have hK2:K+1≤1000000001:=by omega
  by_cases hlt:j<n
  · have hltI:(j:Int)<(n:Int):=by omega
    have c0:=cell_later hb (HC.out j hlt);rw [← hK] at c0;have hgr:g<wr.heap.size:=Nat.lt_of_lt_of_le hgl hb.size;clear hb hK;go_wp2;go_roundw
    case rel=>exact ⟨j+1,by omega,by go_num,by have:=HK.out;go_num,HB.out⟩
    case measure=>simp [intOf];omega
  · have hltI:¬(j:Int)<(n:Int):=by omega
    have HKN:Hid (K=k+n):=by have:=HK.out;show K=k+n;omega
    clear hb hK;go_wp2;go_ret;exact ⟨by rw [HKN.out];first | rfl | simp,HB.out⟩
end
structure dB (w:World) (base:Nat) (a:Option Addr) (n c:Nat) (L:List ae):Prop where
 nil:a=none→n=0∧c=0∧L=[]
 own:∀x,a=some x→∃g,x=⟨g,0,none⟩∧aE w base g n c L
theorem dB.some (h:aE w base g n c L):dB w base (pT g) n c L:=⟨(fun e=>by cases e),(fun x e=>by cases e;exact ⟨g,rfl,h⟩)⟩
theorem dB.none (w:World) (base:Nat):dB w base none 0 0 []:=⟨fun _=>⟨rfl,rfl,rfl⟩,fun x e=>by cases e⟩
theorem dB.len (h:dB w base a n c L):L.length=n:=by
 cases a with
 | none=>obtain ⟨h1,_,h3⟩:=h.nil rfl;rw [h1,h3];rfl
 | some x=>obtain ⟨g,_,h2⟩:=h.own x rfl;exact h2.len
theorem dB.entsAt (h:dB w base a n c L):an w a n c L:=by
 cases a with
 | none =>
  obtain ⟨h1,h2,h3⟩:=h.nil rfl;subst h1 h2 h3;exact ⟨rfl,Nat.le_refl _,Nat.zero_le _,by simp,fun _=>rfl,(fun x e=>by cases e),(fun x e=>by cases e)⟩
 | some x=>obtain ⟨g,rfl,h2⟩:=h.own x rfl;exact h2.entsAt
theorem dB.lt (h:dB w base a n c L):∀x,a=.some x→base≤x.block∧x.block<w.heap.size:=fun x e=>by
 obtain ⟨g,rfl,h2⟩:=h.own x e
 exact h2.lt
theorem dB.grown (h:dB w base a n c L) (hg:w.grownBy w' row) (hne:∀x,a=.some x→.some x.block≠row):dB w' base a n c L :=
 ⟨h.nil,fun x e=>by obtain ⟨g,rfl,h2⟩:=h.own x e;exact ⟨g,rfl,h2.grown hg (hne _ e)⟩⟩
theorem ny (hb:Bl w w'):w.grownBy w' none:=⟨hb.os,hb.tape,hb.output,hb.size,fun k hk _=>hb.block k hk⟩
theorem dB.below (h:dB w base a n c L) (hb:Bl w w'):dB w' base a n c L:=h.grown (ny hb) (fun x _ e=>by cases e)
theorem wW (w:World) (T:TypeId) (s t:ByteArray) (q d n:Int):∀j u,(b9 (s,q,d,t,n))[j]?=some u→(w.alloc (.cells #[.string s,iT q,iT d,.string t,iT n] T)).cell? ((⟨w.heap.size,0,none⟩:Addr).add j)=some u:=by
 intro j u hj;rw [Go.WideShapes.add_plain];match j,hj with
 | 0,hj=>simp [b9] at hj;subst hj;simp
 | 1,hj=>simp [b9] at hj;subst hj;simp
 | 2,hj=>simp [b9] at hj;subst hj;simp
 | 3,hj=>simp [b9] at hj;subst hj;simp
 | 4,hj=>simp [b9] at hj;subst hj;simp
 | j+5,hj=>simp [b9] at hj
theorem ms {W:World} {b b' e e' s s' n':Nat} {v v':Value} {xs':List Value} (h:W.ownsRow b e s v n xs) (h':W.ownsRow b' e' s' v' n' xs') (hne:e≠e') {k:Nat} (hk:v.ownBlock=some k):v'.ownBlock≠some k:=fun hk'=>by
 rcases h.2 with ⟨rfl,_⟩ | ⟨g,cap,cur,rfl,_,hg,_⟩
 · cases hk
 · cases hk
   rcases h'.2 with ⟨rfl,_⟩ | ⟨g',cap',cur',rfl,_,hg',_⟩
   · cases hk'
   · cases hk'
     rw [hg] at hg'
     cases hg'
     exact hne rfl
theorem rW (a1 a2:Option Addr) (c1 c2:Nat) (w:World) :
 Calls Tryz.prog 11 #[.slice a1 0 c1,.slice a2 0 c2] w fun e w'=>e=.returned (.bool true)∧Bl w w':=by
 go_enter Tryz.func11,Tryz.ntmps11
 go_wp2;go_loopw [5] (fun i wr=>i=iT 0∧wr=w) (fun i _=>0)
 case atStart=>exact ⟨rfl,rfl⟩
 case round =>
  obtain ⟨rfl,rfl⟩:=hrel;go_wp2;go_ret;exact ⟨rfl,Below.refl _ _⟩
theorem uc (a1 a2:Option Addr) (len c1 c2:Nat) (L:List ae) (w:World) (h1:an w a1 len c1 L) (h2:an w a2 len c2 L) :
 Calls Tryz.prog 11 #[.slice a1 len c1,.slice a2 len c2] w fun e w'=>e=.returned (.bool true)∧Bl w w':=by
 by_cases h0:len=0
 · subst h0;exact rW a1 a2 c1 c2 w
 · obtain ⟨b1,o1,rfl,_⟩:=h1.form (by omega);obtain ⟨b2,o2,rfl,_⟩:=h2.form (by omega);exact lV b1 o1 b2 o2 len c1 c2 L w h1 h2
theorem vC (k:Nat) (w:World) :
 Calls Tryz.prog 13 #[nZ,iT k] w fun e w'=>e=.returned (iT (k:Int))∧w'=w:=by
 go_enter Tryz.func13,Tryz.ntmps13
 go_wp2;go_loopw [1,5] (fun kv i wr=>kv=iT (k:Int)∧i=iT 0∧wr=w) (fun _ i _=>0)
 case atStart=>exact ⟨rfl,rfl,rfl⟩
 case round =>
  obtain ⟨rfl,rfl,rfl⟩:=hrel;go_wp2;go_ret;exact ⟨rfl,rfl⟩
theorem vZ (k:Nat) (w:World) :
 Calls Tryz.prog 59 #[nZ,iT k] w fun e w'=>e=.returned (iT (k:Int))∧w'=w:=by
 go_enter Tryz.func59,Tryz.ntmps59
 go_wp2;go_loopw [1,5] (fun kv i wr=>kv=iT (k:Int)∧i=iT 0∧wr=w) (fun _ i _=>0)
 case atStart=>exact ⟨rfl,rfl,rfl⟩
 case round =>
  obtain ⟨rfl,rfl,rfl⟩:=hrel;go_wp2;go_ret;exact ⟨rfl,rfl⟩
structure dG (lo hi:Nat) (w:World) (b1 nm b2 nv b3 ns:Nat) (M:List ae) (V:List (List aq)) (S:List Int) (gs bs:Nat→Nat) (es:Nat→Nat→Nat):Prop where
 mem:aE w lo b1 nm nm M
 levs:bQ lo hi w b2 nv V gs bs es
 sn:fs lo w b3 ns S
 ahead:b1<bs 0∧b3<bs 0
theorem fs.grown (h:fs lo w g n S) (hg:w.grownBy w' row) (hne:some g≠row):fs lo w' g n S:=⟨h.1,h.2.kept hg (.inr (by simpa [Value.ownBlock] using hne))⟩
theorem fs.keepO (h:fs lo w g n S) (k:aI lo' hi' w w') (hg:g<lo'∨hi'≤g):fs lo w' g n S:=⟨h.1,k.row h.2 hg⟩
theorem dG.below (h:dG lo hi w b1 nm b2 nv b3 ns M V S gs bs es) (hb:Bl w w'):dG lo hi w' b1 nm b2 nv b3 ns M V S gs bs es :=
 ⟨h.mem.below hb,h.levs.below hb,h.sn.grown (row:=none) ⟨hb.os,hb.tape,hb.output,hb.size,fun k hk _=>hb.block k hk⟩ (by simp),h.ahead⟩
theorem dG.keepO (h:dG lo hi w b1 nm b2 nv b3 ns M V S gs bs es) (k:aI lo' hi' w w') (hd:hi'≤lo):dG lo hi w' b1 nm b2 nv b3 ns M V S gs bs es:=by
 obtain ⟨xs,h1,_⟩:=h.levs.row;have g2:=(h1.lt b2 rfl).1;have g1:=h.mem.lt.1;have g3:=(h.sn.2.lt b3 rfl).1;have g0:=h.levs.bot.1;exact ⟨k.own h.mem (by omega),h.levs.keepO k (by omega) (by omega),h.sn.keepO k (by omega),h.ahead⟩
theorem dG.apart (h:dG lo hi w b1 nm b2 nv b3 ns M V S gs bs es):b1≠b2∧b1≠b3∧b2≠b3:=by
 obtain ⟨xs,h1,_⟩:=h.levs.row;have k1:=bK h.mem.owns;have k2:=bK h1;have k3:=bK h.sn.2;refine ⟨fun e=>?_,fun e=>?_,fun e=>?_⟩ <;> subst e
 · exact absurd (k1.kind k2) (by decide)
 · exact absurd (k1.kind k3) (by decide)
 · exact absurd (k2.kind k3) (by decide)
theorem dG.tops (h:dG lo hi w b1 nm b2 nv b3 ns M V S gs bs es):(lo≤b1∧b1<hi)∧(lo≤b2∧b2<hi)∧(lo≤b3∧b3<hi)∧lo≤bs 0∧bs nv≤hi∧bs 0≤bs nv:=by
 obtain ⟨xs,h1,_⟩:=h.levs.row;have g1:=h.mem.lt.1;have g2:=(h1.lt b2 rfl).1;have g3:=(h.sn.2.lt b3 rfl).1;have u:=h.levs.up 0 nv (by omega) (by omega);have t:=h.levs.top;have bt:=h.levs.bot;have a:=h.ahead;omega
theorem bQ.grown (h:bQ lo hi w G n V gs bs es) (hg:w.grownBy w' (some g)) (hne:G≠g) (hl:g<bs 0):bQ lo hi w' G n V gs bs es:=by
 refine h.keepO (lo':=g) (hi':=g+1) ⟨hg.os,hg.tape,hg.output,hg.size,fun q hq ho=>hg.block q hq (fun e=>by have:=Option.some.inj e;omega)⟩ (by omega) (by omega)
theorem dK (h:aI lo hi w w') {b o:Nat} {v:Value} (hb:b<lo∨hi≤b) (hc:w.cell? ⟨b,o,none⟩=some v):w'.cell? ⟨b,o,none⟩=some v :=
 (World.cell?_of_block (h.block b (World.block_lt_of_cell? _ _ hc) hb)).trans hc
theorem tC (q:Int) (lo hi b1 nm b2 nv b3 ns k:Nat) (M:List ae) (V:List (List aq)) (S:List Int) (gs bs:Nat→Nat) (es:Nat→Nat→Nat) (w:World) (hT:dG lo hi w b1 nm b2 nv b3 ns M V S gs bs es) (hhi:hi≤w.heap.size) (h1:nm≤1048576) (h0:nv≤1048576) (h2:∀B ∈ V,B.length≤1048576∧∀p ∈ B,p.1.length≤1048576) (h3:ns≤1048576) (hk:1≤k) (hn:k+5*nm+cZ V+ns≤1000000000) :
 Calls Tryz.prog 29 #[.agg #[iT q,sL b1 nm nm,sL b2 nv nv,sL b3 ns ns],iT k] w fun e w'=>e=.returned (iT ((k+5*nm+cZ V+ns:Nat):Int))∧dG lo hi w' b1 nm b2 nv b3 ns (dc k nm) (eu (k+5*nm) V) (gY (k+5*nm+cZ V) ns) gs bs es∧aI lo hi w w':=by
 have hz:=hT.tops;have hap:=hT.apart;have hah:=hT.ahead;obtain ⟨Y,hY⟩:=aw w.heap.size;obtain ⟨W,hW⟩:=aw (w.alloc (.cells #[iT q,sL b1 nm nm,sL b2 nv nv,sL b3 ns ns] 36));have kW:Bl w W:=by rw [hW];exact bZ
 have x2:W.cell? ⟨Y,2,none⟩=some (sL b2 nv nv):=by rw [hW,hY];simp
 have x3:W.cell? ⟨Y,3,none⟩=some (sL b3 ns ns):=by rw [hW,hY];simp
 have HT:Hid (dG lo hi W b1 nm b2 nv b3 ns M V S gs bs es):=hT.below kW;have K0:Hid (aI lo hi w W):=aI.of_below kW;have HYH:Hid (hi≤Y):=by rw [hY];exact hhi
 have HZ:Hid ((lo≤b1∧b1<hi)∧(lo≤b2∧b2<hi)∧(lo≤b3∧b3<hi)∧lo≤bs 0∧bs nv≤hi∧bs 0≤bs nv):=hz;have HAP:Hid (b1≠b2∧b1≠b3∧b2≠b3):=hap;have HAH:Hid (b1<bs 0∧b3<bs 0):=hah;have hn1:k+5*nm≤1000000000:=by omega
 obtain ⟨K1,hK1⟩:∃K1:Nat,K1=k+5*nm:=⟨_,rfl⟩;obtain ⟨K2,hK2⟩:∃K2:Nat,K2=K1+cZ V:=⟨_,rfl⟩;obtain ⟨K3,hK3⟩:∃K3:Nat,K3=K2+ns:=⟨_,rfl⟩;have CE:Hid (∀w',aE w' lo b1 nm nm M→Calls Tryz.prog 13 #[sL b1 nm nm,iT k] w' fun e w''=>e=.returned (iT (K1:Int))∧aE w'' lo b1 nm nm (dc k nm)∧w'.grownBy w'' (some b1)):=by
  rw [hK1];exact fun w' h=>oT lo b1 nm nm k M w' h hk hn1
 have CL:Hid (∀w',bQ lo hi w' b2 nv V gs bs es→Calls Tryz.prog 57 #[sL b2 nv nv,iT (K1:Int)] w' fun e w''=>e=.returned (iT (K2:Int))∧bQ lo hi w'' b2 nv (eu K1 V) gs bs es∧aI (bs 0) (bs nv) w' w''):=by
  rw [hK2];exact fun w' h=>mZ lo hi b2 nv K1 V gs bs es w' h h0 h2 (by omega) (by omega)
 have CI:Hid (∀w',fs lo w' b3 ns S→Calls Tryz.prog 58 #[sL b3 ns ns,iT (K2:Int)] w' fun e w''=>e=.returned (iT (K3:Int))∧fs lo w'' b3 ns (gY K2 ns)∧w'.grownBy w'' (some b3)):=by
  rw [hK3];exact fun w' h=>tE lo b3 ns K2 S w' h (by omega)
 rw [← hK1,← hK2,← hK3];clear hT kW hhi hz hap hah hK1 hK2 hK3 hn hn1 h2;go_enter Tryz.func29,Tryz.ntmps29
 go_wp2_with fail
 rw [← hW];try rw [← hY]
 clear hW hY;refine (CE.out _ HT.out.mem).mono ?_;rintro e w1 ⟨rfl,hO1,hg1⟩;have hz:=HZ.out;have hap:=HAP.out;have hah:=HAH.out;have hyh:=HYH.out;have x2:=hg1.cell x2 (fun e=>by have h4:Y=b1:=Option.some.inj e;omega);have x3:=hg1.cell x3 (fun e=>by have h4:Y=b1:=Option.some.inj e;omega);have HO1:Hid (aE w1 lo b1 nm nm (dc k nm)):=hO1;have HL1:Hid (bQ lo hi w1 b2 nv V gs bs es):=HT.out.levs.grown hg1 (by omega) (by omega);have HS1:Hid (fs lo w1 b3 ns S):=HT.out.sn.grown hg1 (fun e=>by have h4:b3=b1:=Option.some.inj e;omega);have M1:Hid (aI lo hi w w1):=K0.out.grown hg1 (by omega) (by omega);have z1:=World.block_lt_of_cell? _ _ x2;simp only at z1;clear hg1 hO1 hz hap hah hyh HT;go_wp2_with fail
 refine (CL.out _ HL1.out).mono ?_;rintro e w2 ⟨rfl,hL2,hk2⟩;have hz:=HZ.out;have hah:=HAH.out;have hyh:=HYH.out;have x3:=dK hk2 (.inr (by omega)) x3;have HL2:Hid (bQ lo hi w2 b2 nv (eu K1 V) gs bs es):=hL2;have HO2:Hid (aE w2 lo b1 nm nm (dc k nm)):=hk2.own HO1.out (by omega);have HS2:Hid (fs lo w2 b3 ns S):=HS1.out.keepO hk2 (by omega);have M2:Hid (aI lo hi w w2):=M1.out.trans (hk2.mono (by omega) (by omega));have z1:=World.block_lt_of_cell? _ _ x3;simp only at z1;clear hL2 hk2 x2 HO1 HS1 HL1 hz hah hyh;go_wp2_with fail
 refine (CI.out _ HS2.out).mono ?_;rintro e w3 ⟨rfl,hS3,hg3⟩;have hz:=HZ.out;have hap:=HAP.out;have hah:=HAH.out;have HT3:Hid (dG lo hi w3 b1 nm b2 nv b3 ns (dc k nm) (eu K1 V) (gY K2 ns) gs bs es):=⟨HO2.out.grown hg3 (fun e=>by have h4:b1=b3:=Option.some.inj e;omega),HL2.out.grown hg3 (by omega) (by omega),hS3,hah⟩;have M3:Hid (aI lo hi w w3):=M2.out.grown hg3 (by omega) (by omega);clear hg3 hS3 hz hap hah x3 HO2 HL2 HS2;go_wp2;go_ret;exact ⟨rfl,HT3.out,M3.out⟩
theorem tP (q:Int) (lo hi b1 nm b2 nv b3 ns k:Nat) (V:List (List aq)) (gs bs:Nat→Nat) (es:Nat→Nat→Nat) (w:World) (hT:dG lo hi w b1 nm b2 nv b3 ns (dc k nm) (eu (k+5*nm) V) (gY (k+5*nm+cZ V) ns) gs bs es) (h1:nm≤1048576) (h0:nv≤1048576) (h2:∀B ∈ V,B.length≤1048576∧∀p ∈ B,p.1.length≤1048576) (h3:ns≤1048576) (hk:1≤k) (hn:k+5*nm+cZ V+ns≤1000000000) :
 Calls Tryz.prog 32 #[.agg #[iT q,sL b1 nm nm,sL b2 nv nv,sL b3 ns ns],iT k] w fun e w'=>e=.returned (iT ((k+5*nm+cZ V+ns:Nat):Int))∧Bl w w':=by
 obtain ⟨Y,hY⟩:=aw w.heap.size;obtain ⟨W,hW⟩:=aw (w.alloc (.cells #[iT q,sL b1 nm nm,sL b2 nv nv,sL b3 ns ns] 36));have kW:Bl w W:=by rw [hW];exact bZ
 have x2:W.cell? ⟨Y,2,none⟩=some (sL b2 nv nv):=by rw [hW,hY];simp
 have x3:W.cell? ⟨Y,3,none⟩=some (sL b3 ns ns):=by rw [hW,hY];simp
 have K0:Hid (Bl w W):=kW;have hn1:k+5*nm≤1000000000:=by omega
 obtain ⟨K1,hK1⟩:∃K1:Nat,K1=k+5*nm:=⟨_,rfl⟩;obtain ⟨K2,hK2⟩:∃K2:Nat,K2=K1+cZ V:=⟨_,rfl⟩;obtain ⟨K3,hK3⟩:∃K3:Nat,K3=K2+ns:=⟨_,rfl⟩;have CE:Hid (∀w',aE w' lo b1 nm nm (dc k nm)→Calls Tryz.prog 59 #[sL b1 nm nm,iT k] w' fun e w''=>e=.returned (iT (K1:Int))∧Bl w' w''):=by
  rw [hK1];exact fun w' h=>pf b1 nm nm k w' h.entsAt hk hn1
 have CL:Hid (∀w',bQ lo hi w' b2 nv (eu K1 V) gs bs es→Calls Tryz.prog 60 #[sL b2 nv nv,iT (K1:Int)] w' fun e w''=>e=.returned (iT (K2:Int))∧Bl w' w''):=by
  rw [hK2];exact fun w' h=>nu lo hi b2 nv K1 V gs bs es w' h h0 h2 (by omega) (by omega)
 have CI:Hid (∀w',fs lo w' b3 ns (gY K2 ns)→Calls Tryz.prog 61 #[sL b3 ns ns,iT (K2:Int)] w' fun e w''=>e=.returned (iT (K3:Int))∧Bl w' w''):=by
  rw [hK3];exact fun w' h=>tR lo b3 ns K2 w' h (by omega)
 rw [← hK1,← hK2] at hT;rw [← hK1,← hK2,← hK3];have HT:Hid (dG lo hi w b1 nm b2 nv b3 ns (dc k nm) (eu K1 V) (gY K2 ns) gs bs es):=hT;have hn3:¬(K3:Int)<0:=by omega
 have hn2:¬(K2:Int)<0:=by omega
 have hn4:¬(K1:Int)<0:=by omega
 clear hT kW hK1 hK2 hK3 hn hn1 h2;go_enter Tryz.func32,Tryz.ntmps32
 go_wp2_with fail
 rw [← hW];try rw [← hY]
 clear hW hY;refine (CE.out _ (HT.out.below K0.out).mem).mono ?_;rintro e w1 ⟨rfl,hb1⟩;have x2:=cell_later hb1 x2;have x3:=cell_later hb1 x3;have K1':Hid (Bl w w1):=K0.out.trans (hb1.mono K0.out.size);have z1:=World.block_lt_of_cell? _ _ x2;simp only at z1;clear hb1;go_wp2_with fail
 refine (CL.out _ (HT.out.below K1'.out).levs).mono ?_;rintro e w2 ⟨rfl,hb2⟩;have x3:=cell_later hb2 x3;have K2':Hid (Bl w w2):=K1'.out.trans (hb2.mono K1'.out.size);have z1:=World.block_lt_of_cell? _ _ x3;simp only at z1;clear hb2 x2;go_wp2_with fail
 refine (CI.out _ (HT.out.below K2'.out).sn).mono ?_;rintro e w3 ⟨rfl,hb3⟩;have K3':Hid (Bl w w3):=K2'.out.trans (hb3.mono K2'.out.size);clear hb3 x3;go_wp2;go_ret;exact ⟨rfl,K3'.out⟩
theorem Tryz.infoRun:(Tryz.prog.info? 119).map (fun i=>(i.zero,i.size,i.bytes))=some (some (.agg #[nZ,iT 0]),2,32):=by kernel_rfl
theorem Tryz.infoRunL:(Tryz.prog.info? 83).map (fun i=>(i.zero,i.size,i.bytes))=some (some nZ,1,24):=by kernel_rfl
def eF (B:List aq):Prop:=B.length≤1048576∧∀p ∈ B,p.1.length≤1048576
def iY (V:List (List aq)):Prop:=V.length≤1048576∧∀B ∈ V,eF B
def Aj (G:Nat) (w:World) (xs:List Value) (j:Nat) (p:aq):Prop :=
 ∃s n c,xs[j*2]?=some (.slice s n c)∧xs[j*2+1]?=some (iT p.2)∧cT (G+1) w s n c p.1
theorem dI {K:Nat} {T:TypeId} (h:w.ownsRow base T K (sL g n cap) n xs):n≤cap∧cap≤maxLen:=by
 rcases h.2 with ⟨h',_⟩ | ⟨g',cap',cur,h',_,_,hnc,hcm,_,_⟩
 · simp at h'
 · simp only [Value.slice.injEq,Option.some.injEq,Addr.mk.injEq,and_true,true_and] at h';obtain ⟨rfl,rfl⟩:=h';exact ⟨hnc,hcm⟩
theorem nV (h:w.ownsRow base 119 2 (sL g n cap) n xs) (hn:B.length=n) (hw:∀p ∈ B,(Lit.int .i64 p.2).wf=true)
 (hh:∀j p,B[j]?=some p→Aj g w xs j p):aF g w (pT g) n cap B:=by
 have hlt:=(h.lt g rfl).2;have hrc:=dI h;refine ⟨hn,hrc.1,hrc.2,(fun e=>by cases e),?_,?_⟩
 · rintro x e _;cases e;exact ⟨hlt,rfl,Nat.le_refl _⟩
 · rintro x e i hi;cases e;obtain ⟨s,m,c,r0,r1,r2⟩:=hh i B[i] (List.getElem?_eq_getElem hi);refine ⟨hw _ (List.getElem_mem hi),s,m,c,?_,?_,r2.mono (by omega)⟩
   · simp only [Nat.zero_add];exact (h.cellAt _ (by omega)).trans r0
   · simp only [Nat.zero_add];exact (h.cellAt _ (by omega)).trans r1
def Al (G:Nat) (w:World) (xs:List Value) (j:Nat) (p:List aq):Prop :=
 ∃s n c,xs[j]?=some (.slice s n c)∧aF (G+1) w s n c p
theorem mg (h:w.ownsRow base 83 1 (sL g n cap) n xs) (hn:V.length=n) (_:True)
 (hh:∀j p,V[j]?=some p→Al g w xs j p):au g w (pT g) n cap V:=by
 have hlt:=(h.lt g rfl).2;have hrc:=dI h;refine ⟨hn,hrc.1,hrc.2,(fun e=>by cases e),?_,?_⟩
 · rintro x e _;cases e;exact ⟨hlt,rfl,Nat.le_refl _⟩
 · rintro x e i hi;cases e;obtain ⟨s,m,c,r0,r2⟩:=hh i V[i] (List.getElem?_eq_getElem hi);refine ⟨s,m,c,?_,r2.mono (by omega)⟩;simp only [Nat.zero_add];exact (h.cellAt _ (by omega)).trans r0
theorem n8 (h:w.ownsRow base 3 1 (sL g n cap) n xs) (hn:S.length=n) (hw:∀q ∈ S,(Lit.int .i64 q).wf=true)
 (hh:∀(j:Nat) (q:Int),S[j]?=some q→xs[j]?=some (iT q)):bC g w (pT g) n cap S:=by
 have hlt:=(h.lt g rfl).2;have hrc:=dI h;refine ⟨hn,hrc.1,hrc.2,hw,(fun e=>by cases e),?_,?_⟩
 · rintro x e _;cases e;exact ⟨hlt,rfl,Nat.le_refl _⟩
 · rintro x e i hi;cases e;simp only [Nat.zero_add];exact (h.cellAt _ (by omega)).trans (hh i _ (List.getElem?_eq_getElem hi))
end Go.Proofs.YtehiefdphnljaaaGreatDoor
