/- Walks. -/
import Derived.Lib.AppendZerosOnto
import Derived.Lib.AppendZeros
import Derived.Test.YtpobkmjicbobdaaGreatSn14
namespace Go.Proofs.YtpobkmjicbobdaaGreat
set_option maxRecDepth 100000
set_option maxHeartbeats 40000000
open Go.RowKit
variable {G T b base base' c c' cap d e g g' n size sz t:Nat} {V:List (List af)} {u0 u1 u2 u3:Value} {w w':World} {xs:List Value}
theorem xV (n:Nat) (w:World) (h1:1≤n) (h2:n≤1048576) :
 Calls Tryz.prog 208 #[nZ,iT n] w fun e w'=>∃c,e=.returned (sL (w.heap.size) 0 c)∧w'.ownsRow w.heap.size 3 1 (sL (w.heap.size) 0 c) 0 []∧Bl w w':=by
 obtain ⟨i0,hi,hz0,hz1,hz2⟩:=info_parts Tryz.infoInt;have hold:(Builtin.firstCells i0.size 0 nZ).run Tryz.prog w.drew=.ok ([]:List Value).toArray w.drew:=run_firstCells_none w.drew i0.size 0 0 0;obtain ⟨G,hG⟩:=aI (grownCap w n 0 3);obtain ⟨W,hW⟩:=aI (w.drew.alloc (.cells (([]:List Value).toArray++Builtin.zeroCells (iT 0).cells n++Builtin.zeroCells (iT 0).cells (G - n)) 3));have hrz:∀ty,(Builtin.append_ #[24,3] ty #[nZ,iT n]).run Tryz.prog w=.ok (sL (w.heap.size) n G) W:=fun ty=>by
  have h:=Lib.run_append_grow_zeros w 24 3 ty 3 i0 _ .i64 .i64 Tryz.underlying24 Tryz.underlying3 hi hz0 none 0 0 [] hold n h1 (by rw [hz1];omega) (by omega) (by omega) (by rw [hz2];omega) (by unfold Builtin.nextslicecap;rw [if_pos (by omega),hz2];omega);simp only [Nat.zero_add] at h;rw [hW,hG];exact h
 have hGn:n≤G:=by rw [hG];exact grownCap_ge w _ _ _
 have hGm:G≤maxLen:=by rw [hG];exact grownCap_le_maxLen w n 0 3 (by unfold maxLen;omega)
 have HO:Hid (W.ownsRow w.heap.size 3 1 (sL (w.heap.size) 0 G) 0 []):=by
  rw [hW];refine ⟨rfl,Or.inr ⟨w.heap.size,G,_,rfl,Nat.le_refl _,(by show (w.drew.heap.push _)[w.drew.heap.size]?=_;exact Array.getElem?_push_size),Nat.zero_le _,hGm,?_,?_⟩⟩
  · simp [Builtin.zeroCells,Value.cells];omega
  · simp
 have HB:Hid (Bl w W):=by rw [hW];exact ((Below.refl _ w).drew).alloc (Nat.le_refl _) _
 unfold maxLen at hGm;clear hold hG hW;go_enter Tryz.func208,Tryz.ntmps208
 go_wp2_with (at_builtin;refine Lib.wpList_append_run _ rfl _ _ _ _ rfl _ _ rfl rfl _ _ (hrz _) ?_)
 all_goals (go_ret;exact ⟨G,rfl,HO.out,HB.out⟩)
theorem xU (w:World) :
 Calls Tryz.prog 208 #[nZ,iT 0] w fun e w'=>e=.returned nZ∧w'=w:=by
 go_enter Tryz.func208,Tryz.ntmps208
 go_wp2;go_ret;exact ⟨rfl,rfl⟩
theorem zB {S:List Int} {q:Int} {k:Nat} (h:S[k]?=some q) (hn:∀j,j<k→¬S[j]?=some q):S.idxOf q=k:=by
 induction S generalizing k with
 | nil=>simp at h
 | cons a S ih =>
  cases k with
  | zero=>simp at h;subst h;simp
  | succ k =>
   have h0:=hn 0 (by omega);simp at h0;rw [List.idxOf_cons];rw [show (a == q)=false by simpa using h0,cond_false];have:=ih (k:=k) (by simpa using h) (fun j hj=>by have:=hn (j+1) (by omega);simpa using this);omega
theorem lH (lo:Nat) (a:Option Addr) (n c:Nat) (S:List Int) (q:Int) (w:World) (hS:aH lo w a n c S) (hn:n≤1048576) :
 Calls Tryz.prog 163 #[.slice a n c,iT q] w fun e w'=>e=.returned (iT (if q ∈ S then ((S.idxOf q:Nat):Int) else -1))∧w'=w:=by
 have HS:=bQ hS;have HL:Hid (S.length=n):=hS.length;clear hS;obtain ⟨R,hR⟩:∃R:Int,R=(if q ∈ S then ((S.idxOf q:Nat):Int) else -1):=⟨_,rfl⟩;have HRD:Hid (R=(if q ∈ S then ((S.idxOf q:Nat):Int) else -1)):=hR;rw [← hR];clear hR;go_enter Tryz.func163,Tryz.ntmps163
 go_wp2;go_loopw [8] (fun iv wr=>∃(k:Nat),k≤n∧iv=iT k∧(∀j,j<k→¬S[j]?=some q)∧wr=w) (fun iv _=>n - (intOf iv).toNat)
 case atStart=>exact ⟨0,Nat.zero_le _,rfl,fun j hj=>absurd hj (Nat.not_lt_zero _),rfl⟩
 case round =>
  obtain ⟨k,hk,rfl,hno,rfl⟩:=hrel;have HNO:Hid (∀j,j<k→¬S[j]?=some q):=hno;clear hno;by_cases hlt:k<n
  · have hltI:(k:Int)<(n:Int):=by omega
    obtain ⟨b,off,rfl,hbb⟩:=HS.out.form (by omega);obtain ⟨z,hz,_,g0⟩:=HS.out.num (Below.refl _ wr) k hlt;have HZ:Hid (S[k]?=some z):=hz;clear hz;by_cases hq:q=z
    · subst hq;have HR:Hid (R=(k:Int)):=by
       show _=_
       rw [HRD.out,if_pos (List.mem_of_getElem? HZ.out),zB HZ.out HNO.out]
      go_wp2;go_ret;exact ⟨by have e:=HR.out;first | (rw [e];rfl) | (subst e;rfl) | simp [e],by first | rfl | trivial⟩
    · have hqb:(q == z)=false:=by simpa using hq
      go_wp2;go_roundw
      case rel =>
       refine ⟨k+1,by omega,by go_num,fun j hj=>?_,by first | rfl | trivial⟩;by_cases e:j=k
       · subst e;rw [HZ.out];intro h;exact hq (Option.some.inj h).symm
       · exact HNO.out j (by omega)
      case measure=>simp [intOf];omega
  · have hltI:¬(k:Int)<(n:Int):=by omega
    have HR:Hid (R=-1):=by
     show _=_
     rw [HRD.out,if_neg];intro hm;obtain ⟨j,hj⟩:=List.getElem?_of_mem hm;have hjl:=(List.getElem?_eq_some_iff.1 hj).1;rw [HL.out] at hjl;exact HNO.out j (by omega) hj
    go_wp2;go_ret;exact ⟨by have e:=HR.out;first | (rw [e];rfl) | (subst e;rfl) | simp [e],by first | rfl | trivial⟩
theorem qJ (lo:Nat) (a:Option Addr) (n c:Nat) (S:List Int) (q:Int) (w:World) (hS:aH lo w a n c S) (hn:n≤1048576) :
 Calls Tryz.prog 161 #[.slice a n c,iT q] w fun e w'=>e=.returned (.bool (decide (q ∈ S)))∧w'=w:=by
 have CI:=lH lo a n c S q w hS hn;by_cases hm:q ∈ S
 · obtain ⟨k,hk⟩:∃k:Nat,k=S.idxOf q:=⟨_,rfl⟩;rw [if_pos hm,← hk] at CI;have hge:(k:Int) ≥ 0:=by omega
   have hd:decide (q ∈ S)=true:=decide_eq_true hm;rw [hd];clear hS hd hk hm;go_enter Tryz.func161,Tryz.ntmps161
   go_wp2_with fail
   refine CI.mono ?_;rintro e w1 ⟨rfl,rfl⟩;go_wp2;go_ret;exact ⟨by simp,rfl⟩
 · rw [if_neg hm] at CI;have hd:decide (q ∈ S)=false:=decide_eq_false hm;rw [hd];clear hS hd hm;go_enter Tryz.func161,Tryz.ntmps161
   go_wp2_with fail
   refine CI.mono ?_;rintro e w1 ⟨rfl,rfl⟩;go_wp2;go_ret;exact ⟨by simp,rfl⟩
def an (w:World) (g t sz:Nat):Prop:=∃cur:Array Value,w.heap[g]?=some (.cells cur t (0,0))∧cur.size=sz
theorem an.lt (h:an w g t sz):g<w.heap.size:=by
 obtain ⟨cur,h,_⟩:=h;exact (Array.getElem?_eq_some_iff.1 h).1
theorem an.cell (h:an w g t sz) {o:Nat} (ho:o<sz):∃v,w.cell? ⟨g,o,none⟩=some v:=by
 obtain ⟨cur,h,hs⟩:=h;exact ⟨cur[o]'(by omega),by simp [World.cell?,h,Array.getElem?_eq_getElem (show o<cur.size by omega)]⟩
theorem an.frozen (h:an w g t sz) (o:Nat):w.frozen? ⟨g,o,none⟩=false:=by
 obtain ⟨cur,h,hs⟩:=h;simp [World.frozen?,h]
theorem an.setCell (h:an w g t sz) {b o:Nat} (v:Value) (_:True:=trivial):an (w.setCell ⟨b,o,none⟩ v) g t sz:=by
 obtain ⟨cur,h,hs⟩:=h;by_cases e:g=b
 · subst e;exact ⟨_,heap_setCell_same w g o cur t v h,by simp [hs]⟩
 · exact ⟨cur,(Below.heap_setCell _ _ _ _ e).trans h,hs⟩
theorem an.below (h:an w g t sz) (hb:Bl w w'):an w' g t sz:=by
 obtain ⟨cur,h',hs⟩:=h;exact ⟨cur,(hb.block g (Array.getElem?_eq_some_iff.1 h').1).trans h',hs⟩
theorem dR (h:w.ownsRow base e size (sL g n cap) n xs):an w g e (cap*size):=by
 rcases h.2 with ⟨h',_⟩ | ⟨g',cap',cur,h',_,hg,_,_,hs,_⟩
 · simp at h'
 · simp only [Value.slice.injEq,Option.some.injEq,Addr.mk.injEq,and_true,true_and] at h';obtain ⟨rfl,rfl⟩:=h';exact ⟨cur,hg,hs⟩
theorem an.kind {t' sz':Nat} (h:an w g t sz) (h':an w g t' sz'):t=t':=by
 obtain ⟨cur,h1,_⟩:=h;obtain ⟨cur',h2,_⟩:=h';rw [h1] at h2;cases h2;rfl
theorem bg (w:World) (x y:Value) (t:TypeId):∀j u,[x,y][j]?=some u→(w.alloc (.cells #[x,y] t)).cell? ((⟨w.heap.size,0,none⟩:Addr).add j)=some u:=by
 intro j u hj;rw [Go.WideShapes.add_plain,Nat.zero_add];match j,hj with
 | 0,hj=>simp at hj;subst hj;simp
 | 1,hj=>simp at hj;subst hj;simp
theorem dJ (w:World) (x:Value) (t:TypeId):∀j u,[x][j]?=some u→(w.alloc (.cells #[x] t)).cell? ((⟨w.heap.size,0,none⟩:Addr).add j)=some u:=by
 intro j u hj;rw [Go.WideShapes.add_plain,Nat.zero_add];match j,hj with
 | 0,hj=>simp at hj;subst hj;simp
theorem d9 {v:Value} (h:w.ownsRow base T size v n xs) (hb:base'≤base):w.ownsRow base' T size v n xs:=by
 refine ⟨h.1,?_⟩;rcases h.2 with h2 | ⟨g,cap,cur,hv,hg,r⟩
 · exact Or.inl h2
 · exact Or.inr ⟨g,cap,cur,hv,Nat.le_trans hb hg,r⟩
theorem aG {m:Nat} (h:w.ownsRow base e size (sL g m cap) n xs):∃sz,an w g e sz:=by
 rcases h.2 with ⟨h',_⟩ | ⟨g',cap',cur,h',_,hg,_,_,hs,_⟩
 · simp at h'
 · simp only [Value.slice.injEq,Option.some.injEq,Addr.mk.injEq,and_true] at h';obtain ⟨rfl,_⟩:=h';exact ⟨_,cur,hg,rfl⟩
def aV (base:Nat) (w:World) (g n c:Nat) (B:List af):Prop :=
 B.length=n∧(∀p ∈ B,(Lit.int .i64 p.2).wf=true)∧∃xs,w.ownsRow base 63 2 (sL g n c) n xs∧∀(i:Nat) (p:af),B[i]?=some p→∃e d,xs[i*2]?=some (sL e p.1.length d)∧xs[i*2+1]?=some (iT p.2)∧au w base e p.1.length d p.1
theorem aV.below {B:List af} (h:aV base w g n c B) (hb:Bl w w'):aV base w' g n c B:=by
 obtain ⟨h1,h2,xs,h3,h4⟩:=h;exact ⟨h1,h2,xs,h3.kept (row:=none) ⟨hb.os,hb.tape,hb.output,hb.size,fun k hk _=>hb.block k hk⟩ (.inr (by simp [Value.ownBlock])),fun i p hp=>by obtain ⟨e,d,a1,a2,a3⟩:=h4 i p hp;exact ⟨e,d,a1,a2,a3.below hb⟩⟩
theorem aV.mono {B:List af} (h:aV base w g n c B) (hb:base'≤base):aV base' w g n c B:=by
 obtain ⟨h1,h2,xs,h3,h4⟩:=h;exact ⟨h1,h2,xs,d9 h3 hb,fun i p hp=>by obtain ⟨e,d,a1,a2,a3⟩:=h4 i p hp;exact ⟨e,d,a1,a2,a3.mono hb⟩⟩
theorem aV.lt {B:List af} (h:aV base w g n c B):base≤g∧g<w.heap.size:=by
 obtain ⟨_,_,xs,h3,_⟩:=h;exact h3.lt g rfl
theorem aV.grown {B:List af} (h:aV base w g n c B) (hG:an w G T sz) (t1:T≠63) (t2:T≠50) (hg:w.grownBy w' (some G)):aV base w' g n c B:=by
 obtain ⟨h1,h2,xs,h3,h4⟩:=h;obtain ⟨s3,k3⟩:=aG h3;refine ⟨h1,h2,xs,h3.kept hg (.inr ?_),fun i p hp=>?_⟩
 · intro e;have e':g=G:=by simpa [Value.ownBlock] using e
   subst e';exact t1 (hG.kind k3)
 · obtain ⟨e,d,a1,a2,a3⟩:=h4 i p hp;obtain ⟨s4,k4⟩:=aG a3.owns;refine ⟨e,d,a1,a2,a3.grown hg (fun e'=>?_)⟩;have e'':e=G:=Option.some.inj e';subst e'';exact t2 (hG.kind k4)
theorem fN {B:List af} {L:List ac} {m:Int} (h1:B.length=n) (h2:∀p ∈ B,(Lit.int .i64 p.2).wf=true) (h3:w.ownsRow base 63 2 (sL g n c) n xs)
 (h4:∀(i:Nat) (p:af),B[i]?=some p→∃e d,xs[i*2]?=some (sL e p.1.length d)∧xs[i*2+1]?=some (iT p.2)∧au w base e p.1.length d p.1)
 (hL:au w base e L.length d L) (hm:(Lit.int .i64 m).wf=true) (hg:w.grownBy w' (some g)) (ho:w'.ownsRow base 63 2 (sL g' (n+1) c') (n+1) (xs++[sL e L.length d,iT m])):aV base w' g' (n+1) c' (B++[(L,m)]):=by
 obtain ⟨s3,k3⟩:=aG h3;have hne:∀{e d:Nat} {L:List ac},au w base e L.length d L→au w' base e L.length d L:=fun {e d L} hO=>by
  obtain ⟨s4,k4⟩:=aG hO.owns;refine hO.grown hg (fun e'=>?_);have e'':e=g:=Option.some.inj e';subst e'';exact absurd (k3.kind k4) (by decide)
 have hxl:=h3.1;refine ⟨by rw [List.length_append,h1];rfl,fun p hp=>?_,_,ho,fun i p hp=>?_⟩
 · rcases List.mem_append.1 hp with h | h
   · exact h2 p h
   · rw [List.mem_singleton] at h;subst h;exact hm
 · by_cases hi:i<B.length
   · rw [List.getElem?_append_left hi] at hp;obtain ⟨e0,d0,a1,a2,a3⟩:=h4 i p hp;exact ⟨e0,d0,by rw [List.getElem?_append_left (by omega)];exact a1,by rw [List.getElem?_append_left (by omega)];exact a2,hne a3⟩
   · have hi':=(List.getElem?_eq_some_iff.1 hp).1;rw [List.length_append] at hi';have hi2:i=B.length:=by have:[(L,m)].length=1:=rfl;omega
     subst hi2;rw [List.getElem?_append_right (Nat.le_refl _),Nat.sub_self] at hp;cases hp;refine ⟨e,d,?_,?_,hne hL⟩
     · rw [List.getElem?_append_right (by omega),show B.length*2 - xs.length=0 by omega];rfl
     · rw [List.getElem?_append_right (by omega),show B.length*2+1 - xs.length=1 by omega];rfl
theorem aV.runsIn {B:List af} (h:aV base w g n c B):aw base w (pT g) n c B:=by
 obtain ⟨h1,h2,xs,h3,h4⟩:=h;have hrc:=bX h3;refine ⟨h1,hrc.1,hrc.2,(fun e=>by cases e),?_,?_⟩
 · rintro x e _;cases e;exact ⟨(h3.lt g rfl).2,rfl,(h3.lt g rfl).1⟩
 · rintro x e i hi;cases e;obtain ⟨e0,d0,a1,a2,a3⟩:=h4 i _ (List.getElem?_eq_getElem hi);refine ⟨h2 _ (List.getElem_mem hi),_,_,_,?_,?_,a3.entsAt,fun x e _=>by cases e;exact a3.lt.1⟩
   · simp only [Nat.zero_add];exact (h3.cellAt _ (by omega)).trans a1
   · simp only [Nat.zero_add];exact (h3.cellAt _ (by omega)).trans a2
def sP (xs:List Value):Prop:=∀(i j gi ni di gj nj dj:Nat),i<j→xs[i]?=some (sL gi ni di)→xs[j]?=some (sL gj nj dj)→gi≠gj
theorem ue (h:sP xs) (hl:∀(i gi ni di:Nat),xs[i]?=some (sL gi ni di)→gi≠g):sP (xs++[sL g n d]):=by
 intro i j gi ni di gj nj dj hij hi hj;have hj':=(List.getElem?_eq_some_iff.1 hj).1;rw [List.length_append] at hj';have h1:([sL g n d]:List Value).length=1:=rfl;rw [List.getElem?_append_left (by omega)] at hi;by_cases hx:j<xs.length
 · rw [List.getElem?_append_left hx] at hj;exact h i j gi ni di gj nj dj hij hi hj
 · have hje:j=xs.length:=by omega
   subst hje;rw [List.getElem?_append_right (Nat.le_refl _),Nat.sub_self] at hj;cases hj;exact hl i gi ni di hi
def dG (base:Nat) (w:World) (G n c:Nat) (V:List (List af)):Prop :=
 V.length=n∧∃xs,w.ownsRow base 61 1 (sL G n c) n xs∧(∀(i:Nat) (B:List af),V[i]?=some B→∃g d,xs[i]?=some (sL g B.length d)∧aV base w g B.length d B)∧sP xs
theorem dG.below (h:dG base w g n c V) (hb:Bl w w'):dG base w' g n c V:=by
 obtain ⟨h1,xs,h3,h4,h5⟩:=h;exact ⟨h1,xs,h3.kept (row:=none) ⟨hb.os,hb.tape,hb.output,hb.size,fun k hk _=>hb.block k hk⟩ (.inr (by simp [Value.ownBlock])),(fun i p hp=>by obtain ⟨e,d,a1,a3⟩:=h4 i p hp;exact ⟨e,d,a1,a3.below hb⟩),h5⟩
theorem tC {B:List af} (h1:V.length=n) (h3:w.ownsRow base 61 1 (sL g n c) n xs)
 (h4:∀(i:Nat) (B:List af),V[i]?=some B→∃g d,xs[i]?=some (sL g B.length d)∧aV base w g B.length d B)
 (hL:aV base w e B.length d B) (hg:w.grownBy w' (some g)) (ho:w'.ownsRow base 61 1 (sL g' (n+1) c') (n+1) (xs++[sL e B.length d])) (hd:sP xs) (hl:∀(i gi ni di:Nat),xs[i]?=some (sL gi ni di)→gi≠e):dG base w' g' (n+1) c' (V++[B]):=by
 obtain ⟨s3,k3⟩:=aG h3;have hxl:=h3.1;refine ⟨by rw [List.length_append,h1];rfl,_,ho,fun i p hp=>?_,ue hd hl⟩;by_cases hi:i<V.length
 · rw [List.getElem?_append_left hi] at hp;obtain ⟨e0,d0,a1,a3⟩:=h4 i p hp;exact ⟨e0,d0,by rw [List.getElem?_append_left (by omega)];exact a1,a3.grown k3 (by decide) (by decide) hg⟩
 · have hi':=(List.getElem?_eq_some_iff.1 hp).1;rw [List.length_append] at hi';have hi2:i=V.length:=by have:[B].length=1:=rfl;omega
   subst hi2;rw [List.getElem?_append_right (Nat.le_refl _),Nat.sub_self] at hp;cases hp;exact ⟨e,d,by rw [List.getElem?_append_right (by omega),show V.length - xs.length=0 by omega];rfl,hL.grown k3 (by decide) (by decide) hg⟩
theorem dG.grown (h:dG base w g n c V) (hG:an w G T sz) (t0:T≠61) (t1:T≠63) (t2:T≠50) (hg:w.grownBy w' (some G)):dG base w' g n c V:=by
 obtain ⟨h1,xs,h3,h4,h5⟩:=h;obtain ⟨s3,k3⟩:=aG h3;refine ⟨h1,xs,h3.kept hg (.inr ?_),(fun i p hp=>by obtain ⟨e,d,a1,a3⟩:=h4 i p hp;exact ⟨e,d,a1,a3.grown hG t1 t2 hg⟩),h5⟩;intro e;have e':g=G:=by simpa [Value.ownBlock] using e
 subst e';exact t0 (hG.kind k3)
theorem dG.mono (h:dG base w g n c V) (hb:base'≤base):dG base' w g n c V:=by
 obtain ⟨h1,xs,h3,h4,h5⟩:=h;exact ⟨h1,xs,d9 h3 hb,(fun i p hp=>by obtain ⟨e,d,a1,a3⟩:=h4 i p hp;exact ⟨e,d,a1,a3.mono hb⟩),h5⟩
theorem dG.levelsIn (h:dG base w g n c V):bI base w (pT g) n c V:=by
 obtain ⟨h1,xs,h3,h4,_⟩:=h;have hrc:=bX h3;refine ⟨h1,hrc.1,hrc.2,(fun e=>by cases e),?_,?_⟩
 · rintro x e _;cases e;exact ⟨(h3.lt g rfl).2,rfl,(h3.lt g rfl).1⟩
 · rintro x e i hi;cases e;obtain ⟨e0,d0,a1,a3⟩:=h4 i _ (List.getElem?_eq_getElem hi);refine ⟨_,_,_,?_,a3.runsIn⟩;simp only [Nat.zero_add];exact (h3.cellAt _ (by omega)).trans a1
theorem mN (lo:Nat) (a:Option Addr) (nv cv:Nat) (V:List (List af)) (w:World) (hV:bI lo w a nv cv V) (hnv:nv≤100) (hS:∀B ∈ V,B.length≤100∧∀r ∈ B,1≤r.1.length∧r.1.length≤10000) :
 Calls Tryz.prog 120 #[.slice a nv cv] w fun e w'=>∃G c,e=.returned (sL G nv c)∧dG w.heap.size w' G nv c V∧Bl w w':=by
 have HVL:Hid (V.length=nv):=hV.length;have HV:=bQ hV;have HS:=bQ hS;clear hV hS;obtain ⟨i0,hi,hz0,hz1,hz2⟩:=info_parts Tryz.infoEnt;obtain ⟨j0,hj,hy0,hy1,hy2⟩:=info_parts Tryz.infoRun;obtain ⟨l0,hl,hx0,hx1,hx2⟩:=info_parts Tryz.infoRunL;have HE0:Hid (dG w.heap.size (w.alloc (.cells #[] 61)) w.heap.size 0 0 (V.take 0)):=by
  have:=World.ownsRow_lit (base:=w.heap.size) (e:=61) (size:=1) w #[] 0 (Nat.le_refl _) (by simp) (by simp);exact ⟨by simp,_,this,(fun i B hB=>by simp at hB),fun i j gi ni di gj nj dj _ hi _=>by simp at hi⟩
 have hB0:Bl w (w.alloc (.cells #[] 61)):=bZ;go_enter Tryz.func120,Tryz.ntmps120
 go_wp2;go_loopw [3,4] (fun o iv wr=>∃(i G c:Nat),i≤nv∧iv=iT i∧o=sL G i c∧dG w.heap.size wr G i c (V.take i)∧Bl w wr) (fun _ iv _=>nv - (intOf iv).toNat)
 case atStart=>exact ⟨0,_,0,Nat.zero_le _,rfl,rfl,HE0.out,hB0⟩
 case round =>
  clear HE0 hB0;obtain ⟨i,G,c0,hin,rfl,rfl,hLG,hbw⟩:=hrel;have HLG:Hid (dG w.heap.size wr G i c0 (V.take i)):=hLG;have HBW:Hid (Bl w wr):=hbw;clear hLG;by_cases hlt:i<nv
  · have hltI:(i:Int)<(nv:Int):=by omega
    obtain ⟨b,off,rfl,hbb⟩:=HV.out.form (by omega);obtain ⟨B,aB,nB,cB,hB,gB,hRB⟩:=HV.out.level (Below.refl _ w) i hlt;have HGI:Hid (V[i]?=some B):=hB;have HSB:Hid (B.length≤100∧∀r ∈ B,1≤r.1.length∧r.1.length≤10000):=HS.out B (List.mem_of_getElem? hB);have HNB:Hid (B.length=nB):=hRB.length;have HRB:Hid (aw lo w aB nB cB B):=hRB;have HCB:Hid (w.cell? ⟨b,off+i,none⟩=some (.slice aB nB cB)):=gB;have hnB:nB≤100:=by have:=HSB.out.1;have:=HNB.out;omega
    clear hB gB hRB hbw;go_upto_region 6 with fail
    obtain ⟨Wi,hWi⟩:=aI wr.heap.size;obtain ⟨wq,hwq⟩:=aI (wr.alloc (.cells #[] 63));have kq:Bl wr wq:=by rw [hwq];exact bZ
    have HG0:Hid (aV Wi wq Wi 0 0 (B.take 0)):=by
     have:=World.ownsRow_lit (base:=wr.heap.size) (e:=63) (size:=2) wr #[] 0 (Nat.le_refl _) (by simp) (by simp);rw [hwq,hWi];exact ⟨by simp,fun p hp=>by simp at hp,_,this,fun i B hB=>by simp at hB⟩
    have HKQ:Hid (Below Wi wr wq):=by rw [hWi];exact kq
    have HWW:Hid (w.heap.size≤Wi∧Wi=wr.heap.size):=⟨by rw [hWi];exact HBW.out.size,hWi⟩;rw [← hwq,← hWi];clear hwq hWi kq;obtain ⟨Wq,hWq⟩:=aI wr;rw [← hWq] at HLG HBW HKQ HWW;clear hWq;go_wp2;go_loopw [5,6] (fun o kv wr=>∃(j g c:Nat),j≤nB∧kv=iT j∧o=sL g j c∧aV Wi wr g j c (B.take j)∧Below Wi Wq wr) (fun _ kv _=>nB - (intOf kv).toNat)
    case atStart=>exact ⟨0,_,0,Nat.zero_le _,rfl,rfl,HG0.out,HKQ.out⟩
    case round =>
     clear HG0 HKQ;obtain ⟨j,g,c,hjn,rfl,rfl,hRG,hbi⟩:=hrel;have HRG:Hid (aV Wi wr g j c (B.take j)):=hRG;have HBI:Hid (Below Wi Wq wr):=hbi;have HGW:Hid (Wi≤g):=hRG.lt.1;have hbr:Bl w wr:=HBW.out.trans (hbi.mono HWW.out.1);have HWI:Hid (Wi≤wr.heap.size):=by have h1:=HWW.out.2;have h2:=hbi.size;show Wi≤_;omega
     have tl:=cell_later hbr HCB.out;have zb:=Nat.lt_of_lt_of_le hbb hbr.size;clear hRG hbi;by_cases hkn:j<nB
     · have hknI:(j:Int)<(nB:Int):=by omega
       obtain ⟨rb,ro,rfl,hrb⟩:=HRB.out.form (by omega);obtain ⟨L,mm,s,m,d,hgj,hmw,r0,r1,hLk⟩:=HRB.out.run hbr j hkn;have HGJ:Hid (B[j]?=some (L,mm)):=hgj;have HMW:Hid ((Lit.int .i64 mm).wf=true):=hmw;have hsz:=HSB.out.2 _ (List.mem_of_getElem? hgj);simp only at hsz;have HLM:Hid (L.length=m):=hLk.1.length;have hm:1≤m∧m≤10000:=by have:=HLM.out;omega
       obtain ⟨sb,so,rfl,hsb⟩:=hLk.1.form (by omega);have HLE:Hid (aq wr (some ⟨sb,so,none⟩) m d L):=hLk.1;have zr:=Nat.lt_of_lt_of_le hrb hbr.size;have k0:Bl wr wr.drew:=(Below.refl _ wr).drew;have HMK:Hid (∀w',Bl wr w'→(fun w'=>w'.cell? ⟨b,off+i,none⟩=some (sO rb ro nB cB)∧w'.cell? ⟨rb,ro+j*2,none⟩=some (sO sb so m d)∧w'.cell? ⟨rb,ro+j*2+1,none⟩=some (iT mm)∧b<w'.heap.size∧rb<w'.heap.size) w'):=fun w' kk=>⟨cell_later kk tl,cell_later kk r0,cell_later kk r1,Nat.lt_of_lt_of_le zb kk.size,Nat.lt_of_lt_of_le zr kk.size⟩
       have HMK2:Hid (∀(wb w':World),wb.grownBy w' (some g)→Bl wr wb→(fun w'=>w'.cell? ⟨b,off+i,none⟩=some (sO rb ro nB cB)∧w'.cell? ⟨rb,ro+j*2,none⟩=some (sO sb so m d)∧w'.cell? ⟨rb,ro+j*2+1,none⟩=some (iT mm)∧b<w'.heap.size∧rb<w'.heap.size) w'):=fun wb w' hg kk=>by
        have hgl:=HGW.out;have hww:=HWW.out;have hbw:=HBW.out.size;have hne:∀{x:Nat},x<w.heap.size→some x≠some g:=fun {x} hx e=>by have:=Option.some.inj e;omega
        exact ⟨hg.cell (cell_later kk tl) (hne hbb),hg.cell (cell_later kk r0) (hne hrb),hg.cell (cell_later kk r1) (hne hrb),Nat.lt_of_lt_of_le zb (Nat.le_trans kk.size hg.size),Nat.lt_of_lt_of_le zr (Nat.le_trans kk.size hg.size)⟩
       clear hgj hmw hLk hsz hsb;go_wp2_with fail
       clear tl r0 r1 zr zb;refine eD HMK k0 fun aa=>?_
       generalize wr.drew=wd at k0 aa ⊢;refine aO 0 1 aa ?_;refine aO 2 8 aa ?_;refine aO 11 8 aa ?_;refine aJ 1 fun K hK=>?_
       go_simp;have ka0:Bl wd (wd.alloc (.cells #[] 50)):=bZ;have oa:=bJ wd wr.heap.size k0.size;have ka:=k0.trans (ka0.mono k0.size);have ga1:wr.heap.size≤wd.heap.size:=k0.size;generalize wd.heap.size=ga at oa ga1 ⊢;generalize wd.alloc (.cells #[] 50)=wa at oa ka ⊢;clear ka0;refine hK.out _ _ (HMK.out _ ka) fun aa=>?_
       (try go_frame);refine aJ 10 fun K hK=>?_
       refine ax rfl (.tmp 25) (.tmp 33) 28 rfl wr.heap.size 50 i0 _ 5 56 Tryz.underlying28 hi hz0 hz1 hz2 rfl (Nat.succ_pos 4) _ _ _ rfl oa.owns ⟨sb,so,none⟩ m d (az L) rfl (by rw [bc,HLM.out]) (ik (HLE.out.keep ka)) (aQ _) ?_ ?_ ?_ ?_
       · unfold maxLen;omega
       · omega
       · exact ka.size
       intro v1 w1 ho1 hg1 hn1;obtain ⟨e1,d1,rfl⟩:=aE ho1 hn1;have hg1':wa.grownBy w1 (some ga):=hg1;have k1:Bl wr w1:=ka.grown hg1' ka.size (fun k e=>by cases e;exact ga1);have o1:au w1 wr.heap.size e1 m d1 L:=⟨by have h1:=ho1;rw [Nat.zero_add] at h1;simpa [az] using h1,HLM.out,HLE.out.ents⟩;rw [Nat.zero_add];clear ho1 hg1 hn1 hg1' oa ga1 ka;refine hK.out _ _ (HMK.out _ k1) fun aa=>?_
       (try go_frame);refine aO 19 1 aa ?_;refine aJ 20 fun K hK=>?_
       go_simp;have kb0:Bl w1 (w1.alloc (.cells #[sL e1 m d1,iT mm] 63)):=bZ;have kb:=k1.trans (kb0.mono k1.size);have ob:=o1.below kb0;have nw:=bg w1 (sL e1 m d1) (iT mm) 63;generalize w1.heap.size=gb at nw ⊢;generalize w1.alloc (.cells #[sL e1 m d1,iT mm] 63)=wb at kb ob nw ⊢;clear kb0;refine hK.out _ _ (HMK.out _ kb) fun aa=>?_
       (try go_frame);refine aJ 21 fun K hK=>?_
       obtain ⟨hl2,hw2,xs2,ho2,hx2⟩:=HRG.out.below kb;refine ax rfl (.tmp 24) (.tmp 44) 61 rfl Wi 63 j0 _ 2 32 Tryz.underlying61 hj hy0 hy1 hy2 rfl (Nat.succ_pos 1) _ _ _ rfl ho2 ⟨gb,0,none⟩ 1 1 [sL e1 m d1,iT mm] rfl rfl nw (by simp [Value.oneCell']) ?_ ?_ ?_ ?_
       · unfold maxLen;omega
       · omega
       · have h1:=kb.size;have h2:=HWI.out;omega
       intro v2 w2 ho3 hg2 hn2;obtain ⟨g2,c2,rfl⟩:=aE ho3 hn2;have hg2:wb.grownBy w2 (some g):=hg2;have hG2:=fN (L:=L) hl2 hw2 ho2 hx2 (by rw [HLM.out];exact ob.mono HWI.out) HMW.out hg2 (by rw [HLM.out];exact ho3);have k2:=(HBI.out.trans (kb.mono HWI.out)).grown hg2 (Nat.le_trans HWI.out kb.size) (fun k e=>by cases e;exact HGW.out);refine hK.out _ _ (HMK2.out _ w2 hg2 kb) fun aa=>?_
       (try go_frame);refine aO 22 1 aa ?_;refine dN ?_;have HG2:Hid (aV Wi w2 g2 (j+1) c2 (B.take (j+1))):=by rw [List.take_add_one,HGJ.out];exact hG2
       have HK2:Hid (Below Wi Wq w2):=k2;clear aa hG2 k2 ho3 hg2 hn2 hl2 hw2 ho2 hx2 kb ob nw k1 o1 k0;go_wp2;go_roundw
       case rel=>exact ⟨j+1,g2,c2,by omega,by go_num,rfl,HG2.out,HK2.out⟩
       case measure=>simp [intOf];omega
     · have hknI:¬(j:Int)<(nB:Int):=by omega
       obtain rfl:j=nB:=by omega
       have kx:Bl Wq wr:=by have h1:=HBI.out;rw [HWW.out.2] at h1;exact h1
       obtain ⟨q1,xs,p2,p3,p4⟩:=HLG.out;have HLOW:Hid (∀(i' gi ni di:Nat),xs[i']?=some (sL gi ni di)→gi≠g):=fun i' gi ni di hx=>by
        have hi':=(List.getElem?_eq_some_iff.1 hx).1;have hxl:=p2.1;obtain ⟨B',hB'⟩:∃B',(V.take i)[i']?=some B':=⟨_,List.getElem?_eq_getElem (by rw [q1];omega)⟩;obtain ⟨g',d',a1,a3⟩:=p3 i' B' hB';rw [hx] at a1;cases a1;have h1:=a3.lt.2;have h2:=HGW.out;have h3:=HWW.out.2;omega
       have HRW:Hid (aV w.heap.size wr g j c B):=by
        have h1:=HRG.out.mono HWW.out.1;rw [List.take_of_length_le (by rw [HNB.out];omega)] at h1;exact h1
       have HBR:Hid (Bl w wr):=hbr;have wi:IntKind.i64.wrap ((i:Int)+1)=((i+1:Nat):Int):=by rw [IntWalk.i64_left];unfold wrap64;omega
       clear HLG HRG;have HDX:Hid (sP xs):=p4;have ka:Bl wr (wr.alloc (.cells #[sL g j c] 61)):=bZ;have kxa:=kx.trans (ka.mono kx.size);have q2:=p2.kept (row:=none) ⟨kxa.os,kxa.tape,kxa.output,kxa.size,fun k hk _=>kxa.block k hk⟩ (.inr (by simp [Value.ownBlock]));have q3:∀(i':Nat) (B:List af),(V.take i)[i']?=some B→∃e d,xs[i']?=some (sL e B.length d)∧aV w.heap.size (wr.alloc (.cells #[sL g j c] 61)) e B.length d B:=fun i' B hB=>by obtain ⟨g',d',a1,a3⟩:=p3 i' B hB;exact ⟨g',d',a1,a3.below kxa⟩
       clear p2 p3 p4 kx kxa;have HQ:Hid (_∧_):=⟨q2,q3⟩;have hbz:=hbr.size;clear hbr;go_wp2_with (at_builtin;refine wpList_append_own _ rfl _ _ 29 rfl w.heap.size 61 l0 _ 1 24 Tryz.underlying29 hl hx0 hx1 hx2 rfl (by decide) _ _ _ rfl HQ.out.1 ⟨wr.heap.size,0,none⟩ 1 1 [sL g j c] rfl rfl (dJ _ _ _) (by simp [Value.oneCell']) (by unfold maxLen;omega) (by omega) (by simp;omega) ?_;intro v2 w2 hown2 hgrow2 hnil2;obtain ⟨g2,c2,rfl⟩:=aE hown2 hnil2)
       go_roundw
       case rel =>
        have hgr:(wr.alloc (.cells #[sL g j c] 61)).grownBy w2 (some G):=hgrow2;have hnb:=HNB.out;have hpush:=tC (B:=B) q1 HQ.out.1 HQ.out.2 (by rw [hnb];exact HRW.out.below ka) hgr (by rw [hnb];exact hown2) HDX.out HLOW.out;refine ⟨i+1,g2,c2,by omega,by go_num,rfl,by rw [List.take_add_one,HGI.out];exact hpush,?_⟩;exact (HBR.out.alloc HBR.out.size _).grown hgr (by simp;omega) (fun k e=>by cases e;exact (HQ.out.1.lt G rfl).1)
       case measure=>simp [intOf];omega
  · have hltI:¬(i:Int)<(nv:Int):=by omega
    obtain rfl:i=nv:=by omega
    have HLV:Hid (dG w.heap.size wr G i c0 V):=by
     have:=HLG.out;rw [List.take_of_length_le (by rw [HVL.out];omega)] at this;exact this
    clear hbw;go_wp2;go_ret;exact ⟨G,c0,rfl,HLV.out,HBW.out⟩
structure ar (w:World) (b:Nat) (u0 u1 u2 u3:Value):Prop where
 c0:w.cell? ⟨b,0,none⟩=some u0
 c1:w.cell? ⟨b,1,none⟩=some u1
 c2:w.cell? ⟨b,2,none⟩=some u2
 c3:w.cell? ⟨b,3,none⟩=some u3
 fz:∀o,w.frozen? ⟨b,o,none⟩=false
theorem ar.lt (h:ar w b u0 u1 u2 u3):b<w.heap.size:=World.block_lt_of_cell? w _ h.c0
theorem ar.new (w:World) (t:TypeId) (u0 u1 u2 u3:Value):ar (w.alloc (.cells #[u0,u1,u2,u3] t)) w.heap.size u0 u1 u2 u3:=⟨by simp,by simp,by simp,by simp,fun o=>by simp⟩
theorem ar.below {B:Nat} (h:ar w b u0 u1 u2 u3) (hb:Below B w w') (hB:b<B):ar w' b u0 u1 u2 u3 :=
 ⟨(hb.cell (p:=⟨b,0,none⟩) hB).trans h.c0,(hb.cell (p:=⟨b,1,none⟩) hB).trans h.c1,(hb.cell (p:=⟨b,2,none⟩) hB).trans h.c2,(hb.cell (p:=⟨b,3,none⟩) hB).trans h.c3,fun o=>(hb.frozen (p:=⟨b,o,none⟩) hB).trans (h.fz o)⟩
theorem ar.keep (h:ar w b u0 u1 u2 u3) (hb:Bl w w'):ar w' b u0 u1 u2 u3:=h.below hb h.lt
theorem ar.alloc (h:ar w b u0 u1 u2 u3) (o:Obj):ar (w.alloc o) b u0 u1 u2 u3:=h.keep bZ
theorem aj {o b' o':Nat} (x:Value) (h:¬(b=b'∧o=o')):(w.setCell ⟨b',o',none⟩ x).cell? ⟨b,o,none⟩=w.cell? ⟨b,o,none⟩ :=
 World.cell?_setCell_other _ _ _ _ (fun e=>h (by cases e;exact ⟨rfl,rfl⟩))
theorem ar.other (h:ar w b u0 u1 u2 u3) {b' o:Nat} (hp:b'≠b) (x:Value):ar (w.setCell ⟨b',o,none⟩ x) b u0 u1 u2 u3 :=
 ⟨(aj x (fun e=>hp e.1.symm)).trans h.c0,(aj x (fun e=>hp e.1.symm)).trans h.c1,(aj x (fun e=>hp e.1.symm)).trans h.c2,(aj x (fun e=>hp e.1.symm)).trans h.c3,fun o=>by rw [World.frozen?_setCell];exact h.fz o⟩
theorem ar.set0 (h:ar w b u0 u1 u2 u3) (x:Value):ar (w.setCell ⟨b,0,none⟩ x) b x u1 u2 u3 :=
 ⟨World.cell?_setCell_same' _ _ _ (by rw [h.c0];rfl),(aj x (by simp)).trans h.c1,(aj x (by simp)).trans h.c2,(aj x (by simp)).trans h.c3,fun o=>by rw [World.frozen?_setCell];exact h.fz o⟩
theorem ar.set1 (h:ar w b u0 u1 u2 u3) (x:Value):ar (w.setCell ⟨b,1,none⟩ x) b u0 x u2 u3 :=
 ⟨(aj x (by simp)).trans h.c0,World.cell?_setCell_same' _ _ _ (by rw [h.c1];rfl),(aj x (by simp)).trans h.c2,(aj x (by simp)).trans h.c3,fun o=>by rw [World.frozen?_setCell];exact h.fz o⟩
theorem ar.set2 (h:ar w b u0 u1 u2 u3) (x:Value):ar (w.setCell ⟨b,2,none⟩ x) b u0 u1 x u3 :=
 ⟨(aj x (by simp)).trans h.c0,(aj x (by simp)).trans h.c1,World.cell?_setCell_same' _ _ _ (by rw [h.c2];rfl),(aj x (by simp)).trans h.c3,fun o=>by rw [World.frozen?_setCell];exact h.fz o⟩
theorem ar.set3 (h:ar w b u0 u1 u2 u3) (x:Value):ar (w.setCell ⟨b,3,none⟩ x) b u0 u1 u2 x :=
 ⟨(aj x (by simp)).trans h.c0,(aj x (by simp)).trans h.c1,(aj x (by simp)).trans h.c2,World.cell?_setCell_same' _ _ _ (by rw [h.c3];rfl),fun o=>by rw [World.frozen?_setCell];exact h.fz o⟩
end Go.Proofs.YtpobkmjicbobdaaGreat
