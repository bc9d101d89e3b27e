/-
  The laws' own helpers over a list of entries (its size, its copy, that two are the same), by walks of their Go text.
-/
import Derived.Deep.RegionWith
import Derived.Deep.LoopGhost
import Derived.Test.YtlmgojlffgkciaaGreatTc00
import Derived.Maps.AppendAt
import Derived.Test.YtlmgojlffgkciaaGreatTc05
namespace Go.Proofs.YtlmgojlffgkciaaGreat
open Go.RowKit
set_option maxHeartbeats 400000 in
theorem Bo (a:Option Addr) (len cap:Nat) (L:List ac) (left:Int) (w:World) (hL:af w a len cap L) (h0:0≤left) (h1:left≤1048576) :
 Calls Tryz.prog 22 #[.slice a len cap,iT left] w fun e w'=>∃r:Int,e=.returned (iT r)∧(r=-1∨(0≤r∧r≤left∧(len:Int)≤left))∧Bl w w':=by
 have hbl:=hL.room;have hbc:=hL.big;unfold maxLen at hbc;have HL:=bc hL;clear hL;by_cases hb:left<len
 · go_enter Tryz.func22,Tryz.ntmps22
   go_wp2;go_ret;exact ⟨-1,rfl,Or.inl rfl,Below.refl _ _⟩
 · go_enter Tryz.func22,Tryz.ntmps22
   go_wp2;go_loopw [1,5] (fun l i wr=>∃(k:Nat) (r:Int),k≤len∧i=iT k∧l=iT r∧0≤r∧r≤left∧Bl w wr) (fun _ i _=>len - (intOf i).toNat)
   case atStart=>exact ⟨0,left - len,Nat.zero_le _,rfl,rfl,by omega,by omega,Below.refl _ _⟩
   case round =>
    obtain ⟨k,r,hk,rfl,rfl,hr0,hr1,hbw⟩:=hrel;by_cases hlt:k<len
    · obtain ⟨b,off,rfl,hbb⟩:=HL.out.form (by omega);obtain ⟨s,q,d,t,n,hg,hlw,g0,g1,g2,g3,g4⟩:=HL.out.ent hbw hbb k hlt;have hs:=hlw.1;have ht:=hlw.2.2.2.1;simp only at hs ht;clear hg hlw;by_cases hsz:r<s.size+t.size
      · go_wp2_with (go_at_call 55;refine (r9 _ _ _ _ _ _ _ hs ht hr0 (by omega) hsz).mono ?_;rintro e w1 ⟨rfl,hb1⟩)
        go_ret;exact ⟨-1,rfl,Or.inl rfl,hbw.trans (hb1.mono hbw.size)⟩
      · go_wp2_with (go_at_call 55;refine (pN _ _ _ _ _ _ _ (by omega) (by omega)).mono ?_;rintro e w1 ⟨rfl,hb1⟩)
        go_roundw
        case rel=>exact ⟨k+1,r - s.size - t.size,by omega,by go_num,rfl,by omega,by omega,hbw.trans (hb1.mono hbw.size)⟩
        case measure=>simp [intOf];omega
    · go_wp2;go_ret;exact ⟨r,rfl,Or.inr ⟨hr0,hr1,by omega⟩,hbw⟩
set_option maxHeartbeats 400000 in
theorem vy (s t:ByteArray) (q d n:Int) (w:World) :
 Calls Tryz.prog 60 #[.agg #[.string s,iT q,iT d,.string t,iT n],.agg #[.string s,iT q,iT d,.string t,iT n]] w fun e w'=>e=.returned (.bool true)∧Bl w w':=by
 go_enter Tryz.func60,Tryz.ntmps60
 go_wp2;go_ret;exact ⟨rfl,bZ.alloc (by simp) _⟩
theorem Tryz.infoEnt:(Tryz.prog.info? 78).map (fun i=>(i.zero,i.size,i.bytes))=some (some (.agg #[.string ByteArray.empty,iT 0,iT 0,.string ByteArray.empty,iT 0]),5,56):=by kernel_rfl
def fg (xs:List Value) (j:Nat) (l:ac):Prop:=xs[j*5]?=some (.string l.1)∧xs[j*5+1]?=some (iT l.2.1)∧xs[j*5+2]?=some (iT l.2.2.1)∧xs[j*5+3]?=some (.string l.2.2.2.1)∧xs[j*5+4]?=some (iT l.2.2.2.2)
theorem e9 {xs:List Value} {j k:Nat} {l:ac} (h:fg xs j l) (hne:j≠k) (u0 u1 u2 u3 u4:Value):fg (((((xs.set (k*5) u0).set (k*5+1) u1).set (k*5+2) u2).set (k*5+3) u3).set (k*5+4) u4) j l:=by
 obtain ⟨h0,h1,h2,h3,h4⟩:=h;refine ⟨?_,?_,?_,?_,?_⟩ <;> (repeat rw [List.getElem?_set_ne (by omega)]) <;> assumption
theorem fO {xs:List Value} {k:Nat} (s t:ByteArray) (q d n:Int) (h:k*5+4<xs.length):fg (((((xs.set (k*5) (.string s)).set (k*5+1) (iT q)).set (k*5+2) (iT d)).set (k*5+3) (.string t)).set (k*5+4) (iT n)) k (s,q,d,t,n):=by
 refine ⟨?_,?_,?_,?_,?_⟩
 · rw [List.getElem?_set_ne (by omega),List.getElem?_set_ne (by omega),List.getElem?_set_ne (by omega),List.getElem?_set_ne (by omega),List.getElem?_set_self (by omega)]
 · rw [List.getElem?_set_ne (by omega),List.getElem?_set_ne (by omega),List.getElem?_set_ne (by omega),List.getElem?_set_self (by simp;omega)]
 · rw [List.getElem?_set_ne (by omega),List.getElem?_set_ne (by omega),List.getElem?_set_self (by simp;omega)]
 · rw [List.getElem?_set_ne (by omega),List.getElem?_set_self (by simp;omega)]
 · rw [List.getElem?_set_self (by simp;omega)]
theorem kH {w:World} {base g n cap:Nat} {xs:List Value} {L:List ac} (h:w.ownsRow base 78 5 (sL g n cap) n xs) (hn:L.length=n) (hw:∀l ∈ L,eO l)
 (hh:∀j l,L[j]?=some l→fg xs j l):af w (pT g) n cap L:=by
 have hlt:=(h.lt g rfl).2;have hrc:n≤cap∧cap≤maxLen:=by
  rcases h.2 with ⟨h',_⟩ | ⟨g',cap',cur,h',_,_,hnc,hcm,_,_⟩
  · simp at h'
  · simp only [Value.slice.injEq,Option.some.injEq,Addr.mk.injEq,and_true,true_and] at h';obtain ⟨rfl,rfl⟩:=h';exact ⟨hnc,hcm⟩
 refine ⟨hn,hrc.1,hrc.2,hw,(fun e=>by cases e),?_,?_⟩
 · rintro x e _;cases e;exact ⟨hlt,rfl⟩
 · rintro x e i hi;cases e;obtain ⟨r0,r1,r2,r3,r4⟩:=hh i L[i] (List.getElem?_eq_getElem hi);rw [hn] at hi;simp only [Nat.zero_add];exact ⟨(h.cellAt _ (by omega)).trans r0,(h.cellAt _ (by omega)).trans r1,(h.cellAt _ (by omega)).trans r2,(h.cellAt _ (by omega)).trans r3,(h.cellAt _ (by omega)).trans r4⟩
set_option maxHeartbeats 1000000 in
theorem nL (a:Option Addr) (len cap:Nat) (L:List ac) (w:World) (hL:af w a len cap L) (hbig:len≤1048576) :
 Calls Tryz.prog 24 #[.slice a len cap] w fun e w'=>e=.returned (sL (w.heap.size) len len)∧af w' (some ⟨w.heap.size,0,none⟩) len len L∧w.heap.size<w'.heap.size∧Bl w w':=by
 have HLEN:Hid (L.length=len):=hL.length;have HENTS:Hid (∀l ∈ L,eO l):=hL.ents;have HL:=bc hL;clear hL;obtain ⟨i0,hi,hz0,hz1,hz2⟩:=info_parts Tryz.infoEnt;go_enter Tryz.func24,Tryz.ntmps24
 go_wp2_with (at_make;refine wpList_make_full _ rfl _ _ 28 rfl w.heap.size 78 i0 _ 5 Tryz.underlying28 hi hz0 hz1 .i64 .i64 _ _ len rfl rfl (by simp) (by simp) (by rw [hz2];omega) (by unfold maxLen;omega) (Nat.le_refl _) ?_;intro w1 hown hgrow)
 have hb1:Bl w w1:=(Below.refl _ _).grown hgrow (Nat.le_refl _) (by simp);have hsz1:w.heap.size<w1.heap.size:=(hown.lt _ rfl).2;go_loopw [4] (fun i wr=>∃(k:Nat) (xs:List Value),k≤len∧i=iT k∧wr.ownsRow w.heap.size 78 5 (sL (w.heap.size) len len) len xs∧Bl w wr∧(∀j l,j<k→L[j]?=some l→fg xs j l)) (fun i _=>len - (intOf i).toNat)
 case atStart=>exact ⟨0,_,Nat.zero_le _,rfl,hown,hb1,fun j l h=>absurd h (Nat.not_lt_zero _)⟩
 case round =>
  obtain ⟨k,xs,hk,rfl,ho,hb,hrow⟩:=hrel;have HROW:Hid (∀j l,j<k→L[j]?=some l→fg xs j l):=hrow;clear hrow hown hgrow;by_cases hlt:k<len
  · obtain ⟨b,off,rfl,hbb⟩:=HL.out.form (by omega);obtain ⟨s,q,d,t,n,hg,hlw,g0,g1,g2,g3,g4⟩:=HL.out.ent hb hbb k hlt;have HG:Hid (L[k]?=some (s,q,d,t,n)):=hg;clear hg hlw;have hxl:=ho.1;have HX:Hid (xs.length=len*5):=hxl;clear hxl;have HO:Hid (wr.ownsRow w.heap.size 78 5 (sL (w.heap.size) len len) len xs):=ho;clear ho;go_wp2_with fail
    refine (pM _ _ _ _ _ _).mono ?_;rintro e w2 ⟨rfl,hb2⟩;have ho2:w2.ownsRow w.heap.size 78 5 (sL (w.heap.size) len len) len xs:=HO.out.kept (row:=none) ⟨hb2.os,hb2.tape,hb2.output,hb2.size,fun k hk _=>hb2.block k hk⟩ (.inr (by simp [Value.ownBlock]));have c0:∃v,w2.cell? ⟨w.heap.size,k*5,none⟩=some v:=⟨_,(ho2.cellAt _ (by omega)).trans (List.getElem?_eq_getElem (by rw [HX.out];omega))⟩;have c1:∃v,w2.cell? ⟨w.heap.size,k*5+1,none⟩=some v:=⟨_,(ho2.cellAt _ (by omega)).trans (List.getElem?_eq_getElem (by rw [HX.out];omega))⟩;have c2:∃v,w2.cell? ⟨w.heap.size,k*5+2,none⟩=some v:=⟨_,(ho2.cellAt _ (by omega)).trans (List.getElem?_eq_getElem (by rw [HX.out];omega))⟩;have c3:∃v,w2.cell? ⟨w.heap.size,k*5+3,none⟩=some v:=⟨_,(ho2.cellAt _ (by omega)).trans (List.getElem?_eq_getElem (by rw [HX.out];omega))⟩;have c4:∃v,w2.cell? ⟨w.heap.size,k*5+4,none⟩=some v:=⟨_,(ho2.cellAt _ (by omega)).trans (List.getElem?_eq_getElem (by rw [HX.out];omega))⟩;obtain ⟨v0,c0⟩:=c0;obtain ⟨v1,c1⟩:=c1;obtain ⟨v2,c2⟩:=c2;obtain ⟨v3,c3⟩:=c3;obtain ⟨v4,c4⟩:=c4;have f0:w2.frozen? ⟨w.heap.size,k*5,none⟩=false:=ho2.frozenAt _;have f1:w2.frozen? ⟨w.heap.size,k*5+1,none⟩=false:=ho2.frozenAt _;have f2:w2.frozen? ⟨w.heap.size,k*5+2,none⟩=false:=ho2.frozenAt _;have f3:w2.frozen? ⟨w.heap.size,k*5+3,none⟩=false:=ho2.frozenAt _;have f4:w2.frozen? ⟨w.heap.size,k*5+4,none⟩=false:=ho2.frozenAt _;have HO2:Hid (w2.ownsRow w.heap.size 78 5 (sL (w.heap.size) len len) len xs):=ho2;clear ho2;go_wp2;go_roundw
    case rel =>
     have t0:=HO2.out.stored (k*5) (.string s);have t1:=t0.1.stored (k*5+1) (iT q);have t2:=t1.1.stored (k*5+2) (iT d);have t3:=t2.1.stored (k*5+3) (.string t);have t4:=t3.1.stored (k*5+4) (iT n);refine ⟨k+1,_,by omega,by go_num,t4.1,?_,?_⟩
     · exact (((((hb.trans (hb2.mono hb.size)).setCell (p:=⟨w.heap.size,_,none⟩) (Nat.le_refl _) _).setCell (p:=⟨w.heap.size,_,none⟩) (Nat.le_refl _) _).setCell (p:=⟨w.heap.size,_,none⟩) (Nat.le_refl _) _).setCell (p:=⟨w.heap.size,_,none⟩) (Nat.le_refl _) _).setCell (p:=⟨w.heap.size,_,none⟩) (Nat.le_refl _) _
     · intro j l hj hl;by_cases hjk:j=k
       · subst hjk;rw [HG.out] at hl;cases hl;exact fO s t q d n (by rw [HX.out];omega)
       · exact e9 (HROW.out j l (by omega) hl) hjk _ _ _ _ _
    case measure=>simp [intOf];omega
  · go_wp2;go_ret;exact ⟨rfl,kH ho HLEN.out HENTS.out (fun j l hl=>HROW.out j l (by have:=(List.getElem?_eq_some_iff.1 hl).1;rw [HLEN.out] at this;omega) hl),(ho.lt _ rfl).2,hb⟩
set_option maxHeartbeats 800000 in
theorem tL (b1 o1 b2 o2 len cap1 cap2:Nat) (L:List ac) (w:World) (h1:af w (some ⟨b1,o1,none⟩) len cap1 L) (h2:af w (some ⟨b2,o2,none⟩) len cap2 L) :
 Calls Tryz.prog 26 #[sO b1 o1 len cap1,sO b2 o2 len cap2] w fun e w'=>e=.returned (.bool true)∧Bl w w':=by
 have hbl:=h1.room;have hbc:=h1.big;unfold maxLen at hbc;have H1:=bc h1;have H2:=bc h2;clear h1 h2;go_enter Tryz.func26,Tryz.ntmps26
 go_wp2;go_loopw [5] (fun i wr=>∃k:Nat,k≤len∧i=iT k∧Bl w wr) (fun i _=>len - (intOf i).toNat)
 case atStart=>exact ⟨0,Nat.zero_le _,rfl,Below.refl _ _⟩
 case round =>
  obtain ⟨k,hk,rfl,hb⟩:=hrel;by_cases hlt:k<len
  · obtain ⟨s,q,d,t,n,hg,_,g0,g1,g2,g3,g4⟩:=H1.out.ent hb (H1.out.lies _ rfl (by omega)).1 k hlt;obtain ⟨s',q',d',t',n',hg',_,p0,p1,p2,p3,p4⟩:=H2.out.ent hb (H2.out.lies _ rfl (by omega)).1 k hlt;rw [hg] at hg';cases hg';clear hg;have hltI:(k:Int)<(len:Int):=by omega
    go_wp2_with fail
    go_region_with (go_at_call 60;refine (vy _ _ _ _ _ _).mono ?_;rintro e w1 ⟨rfl,hb1⟩)
    all_goals
     go_wp2;go_roundw
     case rel=>exact ⟨k+1,by omega,by go_num,hb.drew.trans (hb1.mono hb.size)⟩
     case measure=>simp [intOf];omega
  · go_wp2;go_ret;exact ⟨rfl,hb⟩
end Go.Proofs.YtlmgojlffgkciaaGreat

namespace Go.Proofs.YtlmgojlffgkciaaGreat
open Go.RowKit
def aW (e:ac):List Value:=[.string e.1,iT e.2.1,iT e.2.2.1,.string e.2.2.2.1,iT e.2.2.2.2]
def aI (L:List ac):List Value:=L.flatMap aW
theorem b7 (A B:List ac):aI (A++B)=aI A++aI B:=by simp [aI]
theorem aZ (L:List ac):(aI L).length=L.length*5:=by
 induction L with
 | nil=>rfl
 | cons l r ih=>simp [aI,aW] at ih ⊢;omega
theorem vu (l:ac) (r:List ac):aI (l :: r)=.string l.1 :: iT l.2.1 :: iT l.2.2.1 :: .string l.2.2.2.1 :: iT l.2.2.2.2 :: aI r:=rfl
theorem fy (L:List ac) (j:Nat) (l:ac) (h:L[j]?=some l):fg (aI L) j l:=by
 induction L generalizing j with
 | nil=>simp at h
 | cons a r ih =>
  rw [vu];cases j with
  | zero=>simp at h;subst h;exact ⟨rfl,rfl,rfl,rfl,rfl⟩
  | succ j =>
   simp at h;obtain ⟨h0,h1,h2,h3,h4⟩:=ih j h;refine ⟨?_,?_,?_,?_,?_⟩
   · rw [show (j+1)*5=j*5+1+1+1+1+1 by omega];simpa using h0
   · rw [show (j+1)*5+1=j*5+1+1+1+1+1+1 by omega];simpa using h1
   · rw [show (j+1)*5+2=j*5+2+1+1+1+1+1 by omega];simpa using h2
   · rw [show (j+1)*5+3=j*5+3+1+1+1+1+1 by omega];simpa using h3
   · rw [show (j+1)*5+4=j*5+4+1+1+1+1+1 by omega];simpa using h4
theorem lw {xs:List Value} {L:List ac} (hx:xs.length=L.length*5) (hh:∀j l,L[j]?=some l→fg xs j l):xs=aI L:=by
 apply List.ext_getElem?;intro i;by_cases hi:i<L.length*5
 · have hj:i / 5<L.length:=by omega
   obtain ⟨a0,a1,a2,a3,a4⟩:=hh (i / 5) L[i / 5] (List.getElem?_eq_getElem hj);obtain ⟨b0,b1,b2,b3,b4⟩:=fy L (i / 5) L[i / 5] (List.getElem?_eq_getElem hj);have:i=i / 5*5∨i=i / 5*5+1∨i=i / 5*5+2∨i=i / 5*5+3∨i=i / 5*5+4:=by omega
   rcases this with e | e | e | e | e
   · rw [e,a0,b0]
   · rw [e,a1,b1]
   · rw [e,a2,b2]
   · rw [e,a3,b3]
   · rw [e,a4,b4]
 · rw [List.getElem?_eq_none (by omega),List.getElem?_eq_none (by rw [aZ];omega)]
theorem bj (L:List ac):∀u ∈ aI L,u.oneCell'=true:=by
 intro u hu;simp only [aI,List.mem_flatMap,aW,List.mem_cons,List.not_mem_nil,or_false] at hu;obtain ⟨l,_,rfl | rfl | rfl | rfl | rfl⟩:=hu <;> rfl
structure aE (w:World) (base b n cap:Nat) (L:List ac):Prop where
 owns:w.ownsRow base 78 5 (sL b n cap) n (aI L)
 len:L.length=n
 ents:∀l ∈ L,eO l
theorem aE.entsAt {w:World} {base b n cap:Nat} {L:List ac} (h:aE w base b n cap L):af w (pT b) n cap L :=
 kH h.owns h.len h.ents (fun j l hl=>fy L j l hl)
theorem aE.lt {w:World} {base b n cap:Nat} {L:List ac} (h:aE w base b n cap L):base≤b∧b<w.heap.size:=h.owns.lt b rfl
theorem aE.grown {w w':World} {base b n cap:Nat} {L:List ac} {row:Option Nat} (h:aE w base b n cap L) (hg:w.grownBy w' row) (hne:some b≠row):aE w' base b n cap L :=
 ⟨h.owns.kept hg (.inr hne),h.len,h.ents⟩
theorem aE.below {w w':World} {base b n cap:Nat} {L:List ac} (h:aE w base b n cap L) (hb:Bl w w'):aE w' base b n cap L:=h.grown (row:=none) ⟨hb.os,hb.tape,hb.output,hb.size,fun k hk _=>hb.block k hk⟩ (by simp)
theorem aE.setCell {w:World} {base b n cap:Nat} {L:List ac} (h:aE w base b n cap L) {p:Addr} (hp:p.block≠b) (u:Value):aE (w.setCell p u) base b n cap L :=
 h.grown (row:=some p.block) ⟨rfl,rfl,rfl,by simp [World.setCell],fun k _ hk=>Below.heap_setCell _ _ _ _ (fun e=>hk (by rw [e]))⟩ (fun e=>hp (by cases e;rfl))
theorem aE.mono {w:World} {base base' b n cap:Nat} {L:List ac} (h:aE w base b n cap L) (hb:base'≤base):aE w base' b n cap L:=by
 refine ⟨⟨h.owns.1,?_⟩,h.len,h.ents⟩;rcases h.owns.2 with h2 | ⟨g,cap,cur,hv,hg,r⟩
 · exact Or.inl h2
 · exact Or.inr ⟨g,cap,cur,hv,Nat.le_trans hb hg,r⟩
set_option maxHeartbeats 1000000 in
theorem nK (a:Option Addr) (len cap:Nat) (L:List ac) (w:World) (hL:af w a len cap L) (hbig:len≤1048576) :
 Calls Tryz.prog 24 #[.slice a len cap] w fun e w'=>e=.returned (sL (w.heap.size) len len)∧aE w' w.heap.size w.heap.size len len L∧w.heap.size<w'.heap.size∧Bl w w':=by
 have HLEN:Hid (L.length=len):=hL.length;have HENTS:Hid (∀l ∈ L,eO l):=hL.ents;have HL:=bc hL;clear hL;obtain ⟨i0,hi,hz0,hz1,hz2⟩:=info_parts Tryz.infoEnt;go_enter Tryz.func24,Tryz.ntmps24
 go_wp2_with (at_make;refine wpList_make_full _ rfl _ _ 28 rfl w.heap.size 78 i0 _ 5 Tryz.underlying28 hi hz0 hz1 .i64 .i64 _ _ len rfl rfl (by simp) (by simp) (by rw [hz2];omega) (by unfold maxLen;omega) (Nat.le_refl _) ?_;intro w1 hown hgrow)
 have hb1:Bl w w1:=(Below.refl _ _).grown hgrow (Nat.le_refl _) (by simp);have hsz1:w.heap.size<w1.heap.size:=(hown.lt _ rfl).2;go_loopw [4] (fun i wr=>∃(k:Nat) (xs:List Value),k≤len∧i=iT k∧wr.ownsRow w.heap.size 78 5 (sL (w.heap.size) len len) len xs∧Bl w wr∧(∀j l,j<k→L[j]?=some l→fg xs j l)) (fun i _=>len - (intOf i).toNat)
 case atStart=>exact ⟨0,_,Nat.zero_le _,rfl,hown,hb1,fun j l h=>absurd h (Nat.not_lt_zero _)⟩
 case round =>
  obtain ⟨k,xs,hk,rfl,ho,hb,hrow⟩:=hrel;have HROW:Hid (∀j l,j<k→L[j]?=some l→fg xs j l):=hrow;clear hrow hown hgrow;by_cases hlt:k<len
  · obtain ⟨b,off,rfl,hbb⟩:=HL.out.form (by omega);obtain ⟨s,q,d,t,n,hg,hlw,g0,g1,g2,g3,g4⟩:=HL.out.ent hb hbb k hlt;have HG:Hid (L[k]?=some (s,q,d,t,n)):=hg;clear hg hlw;have hxl:=ho.1;have HX:Hid (xs.length=len*5):=hxl;clear hxl;have HO:Hid (wr.ownsRow w.heap.size 78 5 (sL (w.heap.size) len len) len xs):=ho;clear ho;go_wp2_with fail
    refine (pM _ _ _ _ _ _).mono ?_;rintro e w2 ⟨rfl,hb2⟩;have ho2:w2.ownsRow w.heap.size 78 5 (sL (w.heap.size) len len) len xs:=HO.out.kept (row:=none) ⟨hb2.os,hb2.tape,hb2.output,hb2.size,fun k hk _=>hb2.block k hk⟩ (.inr (by simp [Value.ownBlock]));have c0:∃v,w2.cell? ⟨w.heap.size,k*5,none⟩=some v:=⟨_,(ho2.cellAt _ (by omega)).trans (List.getElem?_eq_getElem (by rw [HX.out];omega))⟩;have c1:∃v,w2.cell? ⟨w.heap.size,k*5+1,none⟩=some v:=⟨_,(ho2.cellAt _ (by omega)).trans (List.getElem?_eq_getElem (by rw [HX.out];omega))⟩;have c2:∃v,w2.cell? ⟨w.heap.size,k*5+2,none⟩=some v:=⟨_,(ho2.cellAt _ (by omega)).trans (List.getElem?_eq_getElem (by rw [HX.out];omega))⟩;have c3:∃v,w2.cell? ⟨w.heap.size,k*5+3,none⟩=some v:=⟨_,(ho2.cellAt _ (by omega)).trans (List.getElem?_eq_getElem (by rw [HX.out];omega))⟩;have c4:∃v,w2.cell? ⟨w.heap.size,k*5+4,none⟩=some v:=⟨_,(ho2.cellAt _ (by omega)).trans (List.getElem?_eq_getElem (by rw [HX.out];omega))⟩;obtain ⟨v0,c0⟩:=c0;obtain ⟨v1,c1⟩:=c1;obtain ⟨v2,c2⟩:=c2;obtain ⟨v3,c3⟩:=c3;obtain ⟨v4,c4⟩:=c4;have f0:w2.frozen? ⟨w.heap.size,k*5,none⟩=false:=ho2.frozenAt _;have f1:w2.frozen? ⟨w.heap.size,k*5+1,none⟩=false:=ho2.frozenAt _;have f2:w2.frozen? ⟨w.heap.size,k*5+2,none⟩=false:=ho2.frozenAt _;have f3:w2.frozen? ⟨w.heap.size,k*5+3,none⟩=false:=ho2.frozenAt _;have f4:w2.frozen? ⟨w.heap.size,k*5+4,none⟩=false:=ho2.frozenAt _;have HO2:Hid (w2.ownsRow w.heap.size 78 5 (sL (w.heap.size) len len) len xs):=ho2;clear ho2;go_wp2;go_roundw
    case rel =>
     have t0:=HO2.out.stored (k*5) (.string s);have t1:=t0.1.stored (k*5+1) (iT q);have t2:=t1.1.stored (k*5+2) (iT d);have t3:=t2.1.stored (k*5+3) (.string t);have t4:=t3.1.stored (k*5+4) (iT n);refine ⟨k+1,_,by omega,by go_num,t4.1,?_,?_⟩
     · exact (((((hb.trans (hb2.mono hb.size)).setCell (p:=⟨w.heap.size,_,none⟩) (Nat.le_refl _) _).setCell (p:=⟨w.heap.size,_,none⟩) (Nat.le_refl _) _).setCell (p:=⟨w.heap.size,_,none⟩) (Nat.le_refl _) _).setCell (p:=⟨w.heap.size,_,none⟩) (Nat.le_refl _) _).setCell (p:=⟨w.heap.size,_,none⟩) (Nat.le_refl _) _
     · intro j l hj hl;by_cases hjk:j=k
       · subst hjk;rw [HG.out] at hl;cases hl;exact fO s t q d n (by rw [HX.out];omega)
       · exact e9 (HROW.out j l (by omega) hl) hjk _ _ _ _ _
    case measure=>simp [intOf];omega
  · go_wp2;go_ret;exact ⟨rfl,⟨by rw [← lw (xs:=xs) (L:=L) (by rw [HLEN.out];exact ho.1) (fun j l hl=>HROW.out j l (by have:=(List.getElem?_eq_some_iff.1 hl).1;rw [HLEN.out] at this;omega) hl)];exact ho,HLEN.out,HENTS.out⟩,(ho.lt _ rfl).2,hb⟩
theorem af.sub {w:World} {b off len cap i j:Nat} {L:List ac} (h:af w (some ⟨b,off,none⟩) len cap L) (hij:i≤j) (hj:j≤len):af w (some ⟨b,off+i*5,none⟩) (j - i) (cap - i) ((L.drop i).take (j - i)) where
 length:=by have:=h.length;simp;omega
 room:=by have:=h.room;omega
 big:=by have:=h.big;omega
 ents:=fun l hl=>h.ents l (List.mem_of_mem_drop (List.mem_of_mem_take hl))
 nil:=fun e=>by cases e
 lies:=fun x e hp=>by cases e;exact h.lies ⟨b,off,none⟩ rfl (by omega)
 cells:=fun x e k hk=>by
  cases e
  have hk':i+k<L.length:=by simp at hk;omega
  have h1:=h.cells ⟨b,off,none⟩ rfl (i+k) hk'
  have e1:off+(i+k)*5=off+i*5+k*5:=by omega
  simp only [e1] at h1
  simpa using h1
end Go.Proofs.YtlmgojlffgkciaaGreat

namespace Go.Proofs.YtlmgojlffgkciaaGreat
open Go.RowKit
structure bW (w:World) (a:Option Addr) (n c:Nat) (P:List (List ac)):Prop where
 length:P.length=n
 room:n≤c
 big:c≤maxLen
 nil:a=none→n=0
 lies:∀x,a=some x→0<n→x.block<w.heap.size∧x.spot=none
 lists:∀x,a=some x→∀i (h:i<P.length),∃s m d,w.cell? ⟨x.block,x.off+i,none⟩=some (.slice s m d)∧af w s m d P[i]
theorem bW.keep {w w':World} {a:Option Addr} {n c:Nat} {P:List (List ac)} (h:bW w a n c P) (hb:Bl w w'):bW w' a n c P where
 length:=h.length
 room:=h.room
 big:=h.big
 nil:=h.nil
 lies:=fun x e hp=>⟨Nat.lt_of_lt_of_le (h.lies x e hp).1 hb.size,(h.lies x e hp).2⟩
 lists:=fun x e i hi=>by
  obtain ⟨s,m,d,c0,hL⟩:=h.lists x e i hi
  exact ⟨s,m,d,cell_later hb c0,hL.keep hb⟩
theorem bW.form {w:World} {a:Option Addr} {n c:Nat} {P:List (List ac)} (h:bW w a n c P) (hl:1≤n):∃b off,a=some ⟨b,off,none⟩∧b<w.heap.size:=by
 cases a with
 | none=>have:=h.nil rfl;omega
 | some x =>
  obtain ⟨b,off,spot⟩:=x;obtain ⟨h1,h2⟩:=h.lies _ rfl (by omega);simp only at h1 h2;subst h2;exact ⟨b,off,rfl,h1⟩
theorem bW.list {w wr:World} {b off n c:Nat} {P:List (List ac)} (h:bW w (some ⟨b,off,none⟩) n c P) (hb:Bl w wr) (k:Nat) (hk:k<n) :
 ∃A s m d,P[k]?=some A∧wr.cell? ⟨b,off+k,none⟩=some (.slice s m d)∧af wr s m d A:=by
 have hk':k<P.length:=by rw [h.length];exact hk
 obtain ⟨s,m,d,c0,hL⟩:=(h.keep hb).lists _ rfl k hk';exact ⟨P[k],s,m,d,List.getElem?_eq_getElem hk',c0,hL⟩
theorem Tryz.infoEntS:(Tryz.prog.info? 28).map (fun i=>(i.zero,i.size,i.bytes))=some (some nZ,1,24):=by kernel_rfl
structure aV (w:World) (base g n c:Nat) (P:List (List ac)) (vs:List Value) (y:Option Nat):Prop where
 owns:w.ownsRow base 28 1 (sL g n c) n vs
 len:P.length=n
 ne:some g≠y
 lists:∀(i:Nat) A,P[i]?=some A→∃s m d,vs[i]?=some (.slice s m d)∧af w s m d A∧∀x,s=some x→0<m→x.block≠g∧some x.block≠y
theorem af.grownB {w w':World} {s:Option Addr} {m d:Nat} {A:List ac} {row:Option Nat} (h:af w s m d A) (hg:w.grownBy w' row) (hne:∀x,s=some x→0<m→some x.block≠row):af w' s m d A :=
 h.moved hg.size (fun x e hp o=>World.cell?_of_block (a:=⟨x.block,o,none⟩) (hg.block x.block (h.lies x e hp).1 (hne x e hp)))
theorem aV.partsAt {w:World} {base g n c:Nat} {P:List (List ac)} {vs:List Value} {y:Option Nat} (h:aV w base g n c P vs y):bW w (pT g) n c P:=by
 have hlt:=(h.owns.lt g rfl).2;have hrc:n≤c∧c≤maxLen:=by
  rcases h.owns.2 with ⟨h',_⟩ | ⟨g',cap',cur,h',_,_,hnc,hcm,_,_⟩
  · simp at h'
  · simp only [Value.slice.injEq,Option.some.injEq,Addr.mk.injEq,and_true,true_and] at h';obtain ⟨rfl,rfl⟩:=h';exact ⟨hnc,hcm⟩
 refine ⟨h.len,hrc.1,hrc.2,(fun e=>by cases e),?_,?_⟩
 · rintro x e _;cases e;exact ⟨hlt,rfl⟩
 · rintro x e i hi;cases e;obtain ⟨s,m,d,hv,hE,_⟩:=h.lists i _ (List.getElem?_eq_getElem hi);refine ⟨s,m,d,?_,hE⟩;have:=h.owns.cellAt i (by rw [← h.len];omega);rw [hv] at this;simpa using this
theorem aV.grown {w w':World} {base g n c:Nat} {P:List (List ac)} {vs:List Value} {y row:Option Nat} (h:aV w base g n c P vs y) (hg:w.grownBy w' row) (hr:∀k,row=some k→y=some k):aV w' base g n c P vs y where
 owns:=h.owns.kept hg (.inr (fun e=>h.ne (by rw [hr g e.symm])))
 len:=h.len
 ne:=h.ne
 lists:=fun i A hA=>by
  obtain ⟨s,m,d,hv,hE,hx⟩:=h.lists i A hA
  exact ⟨s,m,d,hv,hE.grownB hg (fun x e hp e'=>(hx x e hp).2 (hr _ e'.symm).symm),hx⟩
theorem bf {w w':World} (hb:Bl w w'):w.grownBy w' none:=⟨hb.os,hb.tape,hb.output,hb.size,fun k hk _=>hb.block k hk⟩
theorem aV.below {w w':World} {base g n c:Nat} {P:List (List ac)} {vs:List Value} {y:Option Nat} (h:aV w base g n c P vs y) (hb:Bl w w'):aV w' base g n c P vs y:=h.grown (bf hb) (fun k e=>by cases e)
theorem aV.turn {w:World} {base g n c:Nat} {P:List (List ac)} {vs:List Value} {y:Option Nat} (h:aV w base g n c P vs y) {y':Option Nat} (hy:y'=y∨y'=none∨y'=some w.heap.size):aV w base g n c P vs y' where
 owns:=h.owns
 len:=h.len
 ne:=by
  rcases hy with rfl | rfl | rfl
  · exact h.ne
  · exact fun e=>by cases e
  · intro e;have h1:=(h.owns.lt g rfl).2;have h2:=Option.some.inj e;omega
 lists:=fun i A hA=>by
  obtain ⟨s,m,d,hv,hE,hx⟩:=h.lists i A hA;refine ⟨s,m,d,hv,hE,fun x e hp=>⟨(hx x e hp).1,?_⟩⟩;rcases hy with rfl | rfl | rfl
  · exact (hx x e hp).2
  · exact fun e=>by cases e
  · intro e';have h1:=(hE.lies x e hp).1;have h2:=Option.some.inj e';omega
theorem aV.push {w w':World} {base g n c g2 c2:Nat} {P:List (List ac)} {vs:List Value} {y:Option Nat} (h:aV w base g n c P vs y) {s:Option Addr} {m d:Nat} {A:List ac}
 (ho:w'.ownsRow base 28 1 (sL g2 (n+1) c2) (n+1) (vs++[.slice s m d])) (hg:w.grownBy w' (some g)) (h2:g2=g∨g2=w.heap.size)
 (hE:af w s m d A) (hx:∀x,s=some x→0<m→x.block≠g):aV w' base g2 (n+1) c2 (P++[A]) (vs++[.slice s m d]) none where
 owns:=ho
 len:=by rw [List.length_append,h.len];rfl
 ne:=fun e=>by cases e
 lists:=fun i B hB=>by
  have hvl:vs.length=n:=by have:=h.owns.1;omega
  by_cases hi:i<n
  · rw [List.getElem?_append_left (by rw [h.len];exact hi)] at hB
    obtain ⟨s',m',d',hv,hE',hx'⟩:=h.lists i B hB
    refine ⟨s',m',d',by rw [List.getElem?_append_left (by rw [hvl];exact hi)];exact hv,hE'.grownB hg (fun x e hp e'=>(hx' x e hp).1 (by cases e';rfl)),fun x e hp=>⟨?_,fun e=>by cases e⟩⟩
    rcases h2 with rfl | rfl
    · exact (hx' x e hp).1
    · have:=(hE'.lies x e hp).1;omega
  · rw [List.getElem?_append_right (by rw [h.len];omega),h.len] at hB
    have hi0:i - n=0:=by
     by_cases e:i - n=0
     · exact e
     · rw [List.getElem?_eq_none (by simp;omega)] at hB;cases hB
    rw [hi0] at hB
    simp at hB
    subst hB
    refine ⟨s,m,d,by rw [List.getElem?_append_right (by rw [hvl];omega),hvl,hi0];rfl,hE.grownB hg (fun x e hp e'=>hx x e hp (by cases e';rfl)),fun x e hp=>⟨?_,fun e=>by cases e⟩⟩
    rcases h2 with rfl | rfl
    · exact hx x e hp
    · have:=(hE.lies x e hp).1;omega
end Go.Proofs.YtlmgojlffgkciaaGreat

namespace Go.Proofs.YtlmgojlffgkciaaGreat
open Go.RowKit
set_option maxRecDepth 100000
set_option maxHeartbeats 8000000
def jC (P:List (List ac)) (i k:Nat):Bool:=match P[i]? with | none=>true | some A=>match P[k]? with | none=>true | some B=>iX A B
theorem mB {P:List (List ac)} {i k:Nat} {A B:List ac} (h:P[i]?=some A) (h':P[k]?=some B):jC P i k=iX A B:=by
 unfold jC;simp only [h,h']
def mE (P:List (List ac)) (i:Nat):Prop:=∀j k,j<i→j<k→k<P.length→jC P j k=true
def pB (P:List (List ac)) (i k:Nat):Prop:=∀j,i<j→j<k→jC P i j=true
def ir (P:List (List ac)):Bool:=(List.range P.length).all fun i=>(List.range P.length).all fun k=>!decide (i<k) || jC P i k
theorem A5 {P:List (List ac)} {i k:Nat} (hi:i<k) (hk:k<P.length) (h:jC P i k=false):ir P=false:=by
 rw [Bool.eq_false_iff];intro h1;unfold ir at h1;rw [List.all_eq_true] at h1;have h2:=h1 i (List.mem_range.2 (by omega));rw [List.all_eq_true] at h2;have h3:=h2 k (List.mem_range.2 hk);rw [h,decide_eq_true hi] at h3;cases h3
theorem Aw {P:List (List ac)} (h:mE P P.length):ir P=true:=by
 unfold ir;rw [List.all_eq_true];intro i hi;rw [List.all_eq_true];intro k hk;by_cases e:i<k
 · rw [h i k (List.mem_range.1 hi) e (List.mem_range.1 hk)];simp
 · rw [decide_eq_false e];rfl
theorem A6 {P:List (List ac)} {i k:Nat} (h:pB P i k) (hk:jC P i k=true):pB P i (k+1):=by
 intro j h1 h2;by_cases e:j=k
 · subst e;exact hk
 · exact h j h1 (by omega)
theorem A3 {P:List (List ac)} {i:Nat} (h:mE P i) (hi:pB P i P.length):mE P (i+1):=by
 intro j k h1 h2 h3;by_cases e:j=i
 · subst e;exact hi k h2 h3
 · exact h j k (by omega) h2 h3
theorem yY (sq:Int) (am av ak:Option Addr) (nm cm nv cv nk ck:Nat) (P:List (List ac)) (w:World)
 (hp:∀w1,Bl w w1→Calls Tryz.prog 68 #[.agg #[iT sq,.slice am nm cm,.slice av nv cv,.slice ak nk ck]] w1 fun e w'=>∃a n c,e=.returned (.slice a n c)∧bW w' a n c P∧Bl w1 w') :
 Calls Tryz.prog 76 #[.agg #[iT sq,.slice am nm cm,.slice av nv cv,.slice ak nk ck]] w fun e w'=>e=.returned (.bool (ir P))∧Bl w w':=by
 go_enter Tryz.func76,Tryz.ntmps76
 go_wp2_with fail
 refine (hp _ bZ).mono ?_;rintro e w2 ⟨a,n,c,rfl,hP,hb2⟩;have K1:∀o,Bl w (w.alloc o):=fun o=>(Below.refl _ _).alloc (Nat.le_refl _) o
 have K2:Hid (Bl w w2):=(K1 _).trans (hb2.mono (K1 _).size);clear hb2 hp K1;have HLN:Hid (P.length=n):=hP.length;have hr:=hP.room;have hbg:=hP.big;unfold maxLen at hbg;have H:Hid (bW w2 a n c P):=hP;clear hP;go_wp2;go_loopw [4] (fun iv wr=>∃i:Nat,i≤n∧iv=iT i∧Bl w2 wr∧mE P i) (fun iv _=>n - (intOf iv).toNat)
 case atStart=>exact ⟨0,Nat.zero_le _,rfl,Below.refl _ _,fun j k hj=>absurd hj (Nat.not_lt_zero _)⟩
 case round =>
  obtain ⟨i,hi,rfl,hb,hw⟩:=hrel;have HW:Hid (mE P i):=hw;have HB:Hid (Bl w2 wr):=hb;clear hw hb;by_cases hin:i<n
  · have hinI:(i:Int)<(n:Int):=by omega
    obtain ⟨b,off,rfl,hbb⟩:=H.out.form (by omega);go_wp2;go_loopw [5] (fun kv wq=>∃k:Nat,i<k∧k≤n∧kv=iT k∧Bl w2 wq∧pB P i k) (fun kv _=>n - (intOf kv).toNat)
    case atStart=>exact ⟨i+1,by omega,by omega,by go_num,HB.out,fun j h1 h2=>absurd h2 (by omega)⟩
    case round =>
     obtain ⟨k,hik,hk,rfl,hbk,hwk⟩:=hrel;have HWK:Hid (pB P i k):=hwk;have HBK:Hid (Bl w2 wr):=hbk;clear hwk;by_cases hkn:k<n
     · have hknI:(k:Int)<(n:Int):=by omega
       obtain ⟨A,s1,n1,c1,hA,g1,hE1⟩:=H.out.list hbk i hin;obtain ⟨B,s2,n2,c2,hB,g2,hE2⟩:=H.out.list hbk k hkn;have HAT:Hid (jC P i k=iX A B):=mB hA hB;have HKL:Hid (k<P.length):=by show k<P.length;rw [HLN.out];exact hkn
       have zb:=Nat.lt_of_lt_of_le hbb hbk.size;have CA:Hid (∀w',Bl wr w'→Calls Tryz.prog 119 #[.slice s1 n1 c1,.slice s2 n2 c2] w' fun e w''=>e=.returned (.bool (iX A B))∧Bl w' w''):=fun w' kk=>xr s1 s2 n1 c1 n2 c2 A B w' (hE1.keep kk) (hE2.keep kk)
       have HMK:Hid (∀w',Bl wr w'→(w'.cell? ⟨b,off+i,none⟩=some (.slice s1 n1 c1)∧w'.cell? ⟨b,off+k,none⟩=some (.slice s2 n2 c2)∧b<w'.heap.size)):=fun w' kk=>⟨cell_later kk g1,cell_later kk g2,Nat.lt_of_lt_of_le zb kk.size⟩
       have k0:Bl wr wr.drew:=(Below.refl _ wr).drew;clear hA hB g1 g2 hE1 hE2 zb hbk;obtain ⟨O,hO⟩:=ay (iX A B);rw [← hO] at CA HAT;clear hO;cases O with
       | true =>
        go_wp2_with fail
        refine dM HMK k0 fun aa=>?_
        refine aL 0 8 aa ?_;refine aS 8 fun K hK=>?_
        go_simp;refine (CA.out _ k0).mono ?_;rintro e wk1 ⟨rfl,bk1⟩;have k1:Bl wr wk1:=k0.trans (bk1.mono k0.size);go_wp2_with fail
        refine hK.out _ _ (HMK.out _ k1) fun aa=>?_
        (try go_frame);refine aL 9 1 aa ?_;refine dN ?_;have KY:Hid (Bl w2 wk1):=HBK.out.trans (k1.mono HBK.out.size);clear k0 k1 bk1 HMK CA aa;go_wp2;go_roundw
        case rel=>exact ⟨k+1,by omega,by omega,by go_num,KY.out,A6 HWK.out HAT.out⟩
        case measure=>simp [intOf];omega
       | false =>
        go_wp2_with fail
        refine dM HMK k0 fun aa=>?_
        refine aL 0 8 aa ?_;refine aS 8 fun K hK=>?_
        go_simp;refine (CA.out _ k0).mono ?_;rintro e wk1 ⟨rfl,bk1⟩;have k1:Bl wr wk1:=k0.trans (bk1.mono k0.size);go_wp2_with fail
        refine hK.out _ _ (HMK.out _ k1) fun aa=>?_
        (try go_frame);refine aL 9 1 aa ?_;refine dN ?_;have KY:Hid (Bl w2 wk1):=HBK.out.trans (k1.mono HBK.out.size);clear k0 k1 bk1 HMK CA aa;go_wp2;go_ret;exact ⟨aq (A5 hik HKL.out HAT.out).symm,K2.out.trans (KY.out.mono K2.out.size)⟩
     · have hknI:¬(k:Int)<(n:Int):=by omega
       have HN:Hid (mE P (i+1)):=by
        have h1:=HWK.out;have h2:k=P.length:=by rw [HLN.out];omega
        rw [h2] at h1;exact A3 HW.out h1
       go_wp2;go_roundw
       case rel=>exact ⟨i+1,by omega,by go_num,HBK.out,HN.out⟩
       case measure=>simp [intOf];omega
  · have hinI:¬(i:Int)<(n:Int):=by omega
    have HC:Hid (ir P=true):=by
     have hw:=HW.out;have hii:i=P.length:=by rw [HLN.out];omega
     rw [hii] at hw;exact Aw hw
    go_wp2;go_ret;exact ⟨aq HC.out.symm,K2.out.trans (HB.out.mono K2.out.size)⟩
end Go.Proofs.YtlmgojlffgkciaaGreat
