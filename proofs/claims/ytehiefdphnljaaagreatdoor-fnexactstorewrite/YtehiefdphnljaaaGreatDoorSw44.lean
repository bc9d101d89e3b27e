/- Walks. -/
import Derived.Test.YtehiefdphnljaaaGreatDoorSw43
namespace Go.Proofs.YtehiefdphnljaaaGreatDoor
set_option maxRecDepth 100000
set_option maxHeartbeats 40000000
open Go.RowKit
variable {B:List aq} {G T base base' c c' d e g g' n size sz:Nat} {V:List (List aq)} {w w':World} {xs:List Value}
def Am (q:Int) (M:List ae) (V:List (List aq)) (S:List Int) (lg:ByteArray) (sd:Int) (U:List (List aq)) (P:List (List ae)) (k:Nat):Bool :=
 bn q M V S && (decide (U=V) && (decide (0≤sd) && (decide (sd≤q) && (decide (k=lg.size) && (decide (bg (P.map (aS sd)).flatten=M) && decide (bh sd P=q))))))
def UpE (q:Int) (M:List ae) (V:List (List aq)) (S:List Int) (lg:ByteArray) (sd:Int) (U:List (List aq)) (w:World) (e:Ending) (w':World):Prop:=∃b,e=.returned (.bool b)∧(∀P k,ce lg.data.toList P k→b=Am q M V S lg sd U P k)∧Bl w w'
theorem ya (lo:Nat) (up:Bool) (q:Int) (am av ak dv:Option Addr) (nm cm nv cv ns cs nd cd:Nat) (M:List ae) (V:List (List aq)) (S:List Int) (lg:ByteArray) (sf sd:Int) (U:List (List aq)) (w:World) (hT:aX lo w am nm cm av nv cv ak ns cs M V S) (hU:au lo w dv nd cd U) (hlg:lg.size≤1048576) :
 Calls Tryz.prog 37 #[.agg #[.bool up,iT q,.slice am nm cm,.slice av nv cv,.slice ak ns cs,.string lg,iT sf,.slice dv nd cd,iT sd]] w (UpE q M V S lg sd U w):=by
 obtain ⟨X,hX⟩:=aw w.heap.size;obtain ⟨W,hW⟩:=aw (w.alloc (.cells #[.bool up,iT q,.slice am nm cm,.slice av nv cv,.slice ak ns cs,.string lg,iT sf,.slice dv nd cd,iT sd] 40));have kW:Bl w W:=by rw [hW];exact bZ
 have bx:aC W X (.bool up) (iT q) (.slice am nm cm) (.slice av nv cv) (.slice ak ns cs) (.string lg) (iT sf) (.slice dv nd cd) (iT sd):=by rw [hW,hX];exact aC.new _ _ _ _ _ _ _ _ _ _ _
 have HBX:=ar bx;have HKW:=ar kW;have HT:=ar (hT.keep kW);have HU:=ar (hU.keep kW);have HMN:Hid (M.length=nm):=hT.mem.1.length;obtain ⟨TB,hTB⟩:=aw (bn q M V S);have HTB:=ar hTB;have CT:=mL lo q am av ak nm cm nv cv ns cs M V S W HT.out;rw [← hTB] at CT;have x1:=bx.all;clear kW bx hT hU hTB;go_enter Tryz.func37,Tryz.ntmps37
 go_upto_region 1 with fail
 rw [← hX,← hW];clear hX hW;go_wp2_with fail
 refine CT.mono ?_;rintro e w1 ⟨rfl,hb1⟩;have KB1:=ar hb1;have K1:Hid (Bl w w1):=HKW.out.trans (hb1.mono HKW.out.size);have xl:=HBX.out.keep hb1;have y1:=xl.all;clear hb1 CT x1 xl;cases hTv:TB with
 | false =>
  rw [hTv] at HTB;go_wp2;go_ret;exact ⟨false,rfl,fun P k _=>by unfold Am;rw [← HTB.out];rfl,K1.out⟩
 | true =>
  rw [hTv] at HTB;obtain ⟨EQ,hEQ⟩:=aw (decide (U=V));have HEQ:=ar hEQ;have CL:=mO lo lo dv av nd cd nv cv U V w1 (HU.out.keep KB1.out) (HT.out.keep KB1.out).levels;rw [← hEQ] at CL;clear hEQ hTv;go_wp2_with fail
  refine CL.mono ?_;rintro e w2 ⟨rfl,hb2⟩;have KB2:Hid (Bl W w2):=KB1.out.trans (hb2.mono KB1.out.size);have K2:Hid (Bl w w2):=K1.out.trans (hb2.mono K1.out.size);have xl:=HBX.out.keep KB2.out;have z1:=xl.all;clear hb2 CL y1 xl;cases hEv:EQ with
  | false =>
   rw [hEv] at HEQ;go_wp2;go_ret;exact ⟨false,rfl,fun P k _=>by unfold Am;rw [← HTB.out,← HEQ.out];rfl,K2.out⟩
  | true =>
   rw [hEv] at HEQ;clear hEv;by_cases s0:sd<0
   · have s0':¬0≤sd:=by omega
     have hd:Hid (decide (0≤sd)=false):=decide_eq_false s0';go_wp2;go_ret;exact ⟨false,rfl,fun P k _=>by unfold Am;rw [← HTB.out,← HEQ.out,hd.out];rfl,K2.out⟩
   have s0':0≤sd:=by omega
   by_cases s1:sd > q
   · have s1':¬sd≤q:=by omega
     have hd:Hid (decide (sd≤q)=false):=decide_eq_false s1';have hd0:Hid (decide (0≤sd)=true):=decide_eq_true s0';go_wp2;go_ret;exact ⟨false,rfl,fun P k _=>by unfold Am;rw [← HTB.out,← HEQ.out,hd.out,hd0.out];rfl,K2.out⟩
   have s1':sd≤q:=by omega
   have hd1:Hid (decide (sd≤q)=true):=decide_eq_true s1';have hd0:Hid (decide (0≤sd)=true):=decide_eq_true s0';have CR:=yd lg w2 hlg;go_wp2_with fail
   refine CR.mono ?_;rintro e w3 ⟨⟨P,k,g,n,c,rfl,hwh,hP⟩,hb3⟩;have KB3:Hid (Bl W w3):=KB2.out.trans (hb3.mono KB2.out.size);have K3:Hid (Bl w w3):=K2.out.trans (hb3.mono K2.out.size);have HWH:=ar hwh;have hfl:P.flatten.length≤1048576:=by
    have h1:=(ja hwh).2;have h2:=jT hwh;have h3:lg.data.toList.length=lg.size:=by rw [Array.length_toList];rfl
    have h4:=iO P;omega
   have CM:=us (pT g) n c P sd w3 hP hfl;have xl:=HBX.out.keep KB3.out;have u1:=xl.all;clear hb3 hwh hP hfl CR z1 xl;go_wp2_with fail
   refine CM.mono ?_;rintro e w4 ⟨g2,cg,rfl,hO,hb4⟩;have KB4:Hid (Bl W w4):=KB3.out.trans (hb4.mono KB3.out.size);have K4:Hid (Bl w w4):=K3.out.trans (hb4.mono K3.out.size);have xl:=HBX.out.keep KB4.out;have v1:=xl.all;obtain ⟨N,hN⟩:=aw (P.map (aS sd)).flatten.length;rw [← hN] at hO ⊢;obtain ⟨SL,hSL⟩:=aw (bg (P.map (aS sd)).flatten);rw [← hSL] at hO;obtain ⟨LQ,hLQ⟩:=aw (bh sd P);rw [← hLQ];have HSL:=ar hSL;have HLQ:=ar hLQ;have CE:=sU (pT g2) am N cg nm cm SL M w4 hO.entsAt (HT.out.mem.1.keep KB4.out);have HR:Hid (∀b,b=(decide (k=lg.size) && (decide (SL=M) && decide (LQ=q)))→∀P' k',ce lg.data.toList P' k'→b=Am q M V S lg sd U P' k'):=fun b hb P' k' hW'=>by
    obtain ⟨rfl,rfl⟩:=jb HWH.out hW';unfold Am;rw [← HTB.out,← HEQ.out,hd0.out,hd1.out,hb,HSL.out,HLQ.out];rfl
   clear hb4 hN hSL hLQ hO CM u1 xl s0 s0' s1 s1';by_cases h1:k=lg.size
   · have h1I:(k:Int)=(lg.size:Int):=by omega
     have h1b:((k:Int) == (lg.size:Int))=true:=by simpa using h1I
     have hk:Hid (decide (k=lg.size)=true):=decide_eq_true h1;obtain ⟨kk,hkk⟩:∃kk:Int,kk=(k:Int):=⟨_,rfl⟩;rw [← hkk] at h1I h1b ⊢;clear h1 hkk;obtain ⟨ES,hES⟩:=aw (decide (SL=M));have HES:=ar hES;rw [← hES] at CE;clear hES;go_wp2_with fail
     refine CE.mono ?_;rintro e w5 ⟨rfl,hb5⟩;have K5:Hid (Bl w w5):=K4.out.trans (hb5.mono K4.out.size);have xl:=HBX.out.keep (KB4.out.trans (hb5.mono KB4.out.size));have t1:=xl.c1;have tz:=xl.lt;clear hb5 CE xl v1;cases hSv:ES with
     | false =>
      rw [hSv] at HES;have HR2:=ar (HR.out false (by rw [hk.out,← HES.out];rfl));clear HR hSv;go_wp2;go_ret;exact ⟨false,rfl,HR2.out,K5.out⟩
     | true =>
      rw [hSv] at HES;by_cases h2:LQ=q
      · have h2b:(LQ == q)=true:=by simpa using h2
        have HR2:=ar (HR.out true (by rw [hk.out,← HES.out,decide_eq_true h2];rfl));clear HR hSv;go_wp2;go_ret;exact ⟨true,rfl,HR2.out,K5.out⟩
      · have h2b:(LQ == q)=false:=by simpa using h2
        have HR2:=ar (HR.out false (by rw [hk.out,← HES.out,decide_eq_false h2];rfl));clear HR hSv;go_wp2;go_ret;exact ⟨false,rfl,HR2.out,K5.out⟩
   · have h1I:¬(k:Int)=(lg.size:Int):=by omega
     have h1b:((k:Int) == (lg.size:Int))=false:=by simpa using h1I
     have HR2:=ar (HR.out false (by rw [decide_eq_false h1];rfl));clear HR CE;go_wp2;go_ret;exact ⟨false,rfl,HR2.out,K4.out⟩
theorem oh (w:World) (x y:Value) (t:TypeId):∀j u,[x,y][j]?=some u→(w.alloc (.cells #[x,y] t)).cell? ((⟨w.heap.size,0,none⟩:Addr).add j)=some u:=by
 intro j u hj;rw [Go.WideShapes.add_plain,Nat.zero_add];match j,hj with
 | 0,hj=>simp at hj;subst hj;simp
 | 1,hj=>simp at hj;subst hj;simp
theorem oj (w:World) (x:Value) (t:TypeId):∀j u,[x][j]?=some u→(w.alloc (.cells #[x] t)).cell? ((⟨w.heap.size,0,none⟩:Addr).add j)=some u:=by
 intro j u hj;rw [Go.WideShapes.add_plain,Nat.zero_add];match j,hj with
 | 0,hj=>simp at hj;subst hj;simp
theorem kZ {v:Value} (h:w.ownsRow base T size v n xs) (hb:base'≤base):w.ownsRow base' T size v n xs:=by
 refine ⟨h.1,?_⟩;rcases h.2 with h2 | ⟨g,cap,cur,hv,hg,r⟩
 · exact Or.inl h2
 · exact Or.inr ⟨g,cap,cur,hv,Nat.le_trans hb hg,r⟩
theorem eR {m cap:Nat} (h:w.ownsRow base e size (sL g m cap) n xs):∃sz,aV w g e sz:=by
 rcases h.2 with ⟨h',_⟩ | ⟨g',cap',cur,h',_,hg,_,_,hs,_⟩
 · simp at h'
 · simp only [Value.slice.injEq,Option.some.injEq,Addr.mk.injEq,and_true] at h';obtain ⟨rfl,_⟩:=h';exact ⟨_,cur,hg,rfl⟩
def dw (base:Nat) (w:World) (g n c:Nat) (B:List aq):Prop :=
 B.length=n∧(∀p ∈ B,(Lit.int .i64 p.2).wf=true)∧∃xs,w.ownsRow base 119 2 (sL g n c) n xs∧∀(i:Nat) (p:aq),B[i]?=some p→∃e d,xs[i*2]?=some (sL e p.1.length d)∧xs[i*2+1]?=some (iT p.2)∧aE w base e p.1.length d p.1
theorem dw.below (h:dw base w g n c B) (hb:Bl w w'):dw base w' g n c B:=by
 obtain ⟨h1,h2,xs,h3,h4⟩:=h;exact ⟨h1,h2,xs,h3.kept (row:=none) ⟨hb.os,hb.tape,hb.output,hb.size,fun k hk _=>hb.block k hk⟩ (.inr (by simp [Value.ownBlock])),fun i p hp=>by obtain ⟨e,d,a1,a2,a3⟩:=h4 i p hp;exact ⟨e,d,a1,a2,a3.below hb⟩⟩
theorem dw.mono (h:dw base w g n c B) (hb:base'≤base):dw base' w g n c B:=by
 obtain ⟨h1,h2,xs,h3,h4⟩:=h;exact ⟨h1,h2,xs,kZ h3 hb,fun i p hp=>by obtain ⟨e,d,a1,a2,a3⟩:=h4 i p hp;exact ⟨e,d,a1,a2,a3.mono hb⟩⟩
theorem dw.lt (h:dw base w g n c B):base≤g∧g<w.heap.size:=by
 obtain ⟨_,_,xs,h3,_⟩:=h;exact h3.lt g rfl
theorem dw.grown (h:dw base w g n c B) (hG:aV w G T sz) (t1:T≠119) (t2:T≠59) (hg:w.grownBy w' (some G)):dw base w' g n c B:=by
 obtain ⟨h1,h2,xs,h3,h4⟩:=h;obtain ⟨s3,k3⟩:=eR h3;refine ⟨h1,h2,xs,h3.kept hg (.inr ?_),fun i p hp=>?_⟩
 · intro e;have e':g=G:=by simpa [Value.ownBlock] using e
   subst e';exact t1 (hG.kind k3)
 · obtain ⟨e,d,a1,a2,a3⟩:=h4 i p hp;obtain ⟨s4,k4⟩:=eR a3.owns;refine ⟨e,d,a1,a2,a3.grown hg (fun e'=>?_)⟩;have e'':e=G:=Option.some.inj e';subst e'';exact t2 (hG.kind k4)
theorem sY {L:List ae} {m:Int} (h1:B.length=n) (h2:∀p ∈ B,(Lit.int .i64 p.2).wf=true) (h3:w.ownsRow base 119 2 (sL g n c) n xs)
 (h4:∀(i:Nat) (p:aq),B[i]?=some p→∃e d,xs[i*2]?=some (sL e p.1.length d)∧xs[i*2+1]?=some (iT p.2)∧aE w base e p.1.length d p.1)
 (hL:aE w base e L.length d L) (hm:(Lit.int .i64 m).wf=true) (hg:w.grownBy w' (some g)) (ho:w'.ownsRow base 119 2 (sL g' (n+1) c') (n+1) (xs++[sL e L.length d,iT m])):dw base w' g' (n+1) c' (B++[(L,m)]):=by
 obtain ⟨s3,k3⟩:=eR h3;have hne:∀{e d:Nat} {L:List ae},aE w base e L.length d L→aE w' base e L.length d L:=fun {e d L} hO=>by
  obtain ⟨s4,k4⟩:=eR hO.owns;refine hO.grown hg (fun e'=>?_);have e'':e=g:=Option.some.inj e';subst e'';exact absurd (k3.kind k4) (by decide)
 have hxl:=h3.1;refine ⟨by rw [List.length_append,h1];rfl,fun p hp=>?_,_,ho,fun i p hp=>?_⟩
 · rcases List.mem_append.1 hp with h | h
   · exact h2 p h
   · rw [List.mem_singleton] at h;subst h;exact hm
 · by_cases hi:i<B.length
   · rw [List.getElem?_append_left hi] at hp;obtain ⟨e0,d0,a1,a2,a3⟩:=h4 i p hp;exact ⟨e0,d0,by rw [List.getElem?_append_left (by omega)];exact a1,by rw [List.getElem?_append_left (by omega)];exact a2,hne a3⟩
   · have hi':=(List.getElem?_eq_some_iff.1 hp).1;rw [List.length_append] at hi';have hi2:i=B.length:=by have:[(L,m)].length=1:=rfl;omega
     subst hi2;rw [List.getElem?_append_right (Nat.le_refl _),Nat.sub_self] at hp;cases hp;refine ⟨e,d,?_,?_,hne hL⟩
     · rw [List.getElem?_append_right (by omega),show B.length*2 - xs.length=0 by omega];rfl
     · rw [List.getElem?_append_right (by omega),show B.length*2+1 - xs.length=1 by omega];rfl
theorem dw.runsIn (h:dw base w g n c B):aF base w (pT g) n c B:=by
 obtain ⟨h1,h2,xs,h3,h4⟩:=h;have hrc:=dI h3;refine ⟨h1,hrc.1,hrc.2,(fun e=>by cases e),?_,?_⟩
 · rintro x e _;cases e;exact ⟨(h3.lt g rfl).2,rfl,(h3.lt g rfl).1⟩
 · rintro x e i hi;cases e;obtain ⟨e0,d0,a1,a2,a3⟩:=h4 i _ (List.getElem?_eq_getElem hi);refine ⟨h2 _ (List.getElem_mem hi),_,_,_,?_,?_,a3.entsAt,fun x e _=>by cases e;exact a3.lt.1⟩
   · simp only [Nat.zero_add];exact (h3.cellAt _ (by omega)).trans a1
   · simp only [Nat.zero_add];exact (h3.cellAt _ (by omega)).trans a2
def sC (xs:List Value):Prop:=∀(i j gi ni di gj nj dj:Nat),i<j→xs[i]?=some (sL gi ni di)→xs[j]?=some (sL gj nj dj)→gi≠gj
theorem uf (h:sC xs) (hl:∀(i gi ni di:Nat),xs[i]?=some (sL gi ni di)→gi≠g):sC (xs++[sL g n d]):=by
 intro i j gi ni di gj nj dj hij hi hj;have hj':=(List.getElem?_eq_some_iff.1 hj).1;rw [List.length_append] at hj';have h1:([sL g n d]:List Value).length=1:=rfl;rw [List.getElem?_append_left (by omega)] at hi;by_cases hx:j<xs.length
 · rw [List.getElem?_append_left hx] at hj;exact h i j gi ni di gj nj dj hij hi hj
 · have hje:j=xs.length:=by omega
   subst hje;rw [List.getElem?_append_right (Nat.le_refl _),Nat.sub_self] at hj;cases hj;exact hl i gi ni di hi
def ep (base:Nat) (w:World) (G n c:Nat) (V:List (List aq)):Prop :=
 V.length=n∧∃xs,w.ownsRow base 83 1 (sL G n c) n xs∧(∀(i:Nat) (B:List aq),V[i]?=some B→∃g d,xs[i]?=some (sL g B.length d)∧dw base w g B.length d B)∧sC xs
theorem ep.below (h:ep base w g n c V) (hb:Bl w w'):ep base w' g n c V:=by
 obtain ⟨h1,xs,h3,h4,h5⟩:=h;exact ⟨h1,xs,h3.kept (row:=none) ⟨hb.os,hb.tape,hb.output,hb.size,fun k hk _=>hb.block k hk⟩ (.inr (by simp [Value.ownBlock])),(fun i p hp=>by obtain ⟨e,d,a1,a3⟩:=h4 i p hp;exact ⟨e,d,a1,a3.below hb⟩),h5⟩
theorem tH (h1:V.length=n) (h3:w.ownsRow base 83 1 (sL g n c) n xs)
 (h4:∀(i:Nat) (B:List aq),V[i]?=some B→∃g d,xs[i]?=some (sL g B.length d)∧dw base w g B.length d B)
 (hL:dw base w e B.length d B) (hg:w.grownBy w' (some g)) (ho:w'.ownsRow base 83 1 (sL g' (n+1) c') (n+1) (xs++[sL e B.length d])) (hd:sC xs) (hl:∀(i gi ni di:Nat),xs[i]?=some (sL gi ni di)→gi≠e):ep base w' g' (n+1) c' (V++[B]):=by
 obtain ⟨s3,k3⟩:=eR h3;have hxl:=h3.1;refine ⟨by rw [List.length_append,h1];rfl,_,ho,fun i p hp=>?_,uf hd hl⟩;by_cases hi:i<V.length
 · rw [List.getElem?_append_left hi] at hp;obtain ⟨e0,d0,a1,a3⟩:=h4 i p hp;exact ⟨e0,d0,by rw [List.getElem?_append_left (by omega)];exact a1,a3.grown k3 (by decide) (by decide) hg⟩
 · have hi':=(List.getElem?_eq_some_iff.1 hp).1;rw [List.length_append] at hi';have hi2:i=V.length:=by have:[B].length=1:=rfl;omega
   subst hi2;rw [List.getElem?_append_right (Nat.le_refl _),Nat.sub_self] at hp;cases hp;exact ⟨e,d,by rw [List.getElem?_append_right (by omega),show V.length - xs.length=0 by omega];rfl,hL.grown k3 (by decide) (by decide) hg⟩
theorem ep.grown (h:ep base w g n c V) (hG:aV w G T sz) (t0:T≠83) (t1:T≠119) (t2:T≠59) (hg:w.grownBy w' (some G)):ep base w' g n c V:=by
 obtain ⟨h1,xs,h3,h4,h5⟩:=h;obtain ⟨s3,k3⟩:=eR h3;refine ⟨h1,xs,h3.kept hg (.inr ?_),(fun i p hp=>by obtain ⟨e,d,a1,a3⟩:=h4 i p hp;exact ⟨e,d,a1,a3.grown hG t1 t2 hg⟩),h5⟩;intro e;have e':g=G:=by simpa [Value.ownBlock] using e
 subst e';exact t0 (hG.kind k3)
theorem ep.mono (h:ep base w g n c V) (hb:base'≤base):ep base' w g n c V:=by
 obtain ⟨h1,xs,h3,h4,h5⟩:=h;exact ⟨h1,xs,kZ h3 hb,(fun i p hp=>by obtain ⟨e,d,a1,a3⟩:=h4 i p hp;exact ⟨e,d,a1,a3.mono hb⟩),h5⟩
theorem ep.levelsIn (h:ep base w g n c V):au base w (pT g) n c V:=by
 obtain ⟨h1,xs,h3,h4,_⟩:=h;have hrc:=dI h3;refine ⟨h1,hrc.1,hrc.2,(fun e=>by cases e),?_,?_⟩
 · rintro x e _;cases e;exact ⟨(h3.lt g rfl).2,rfl,(h3.lt g rfl).1⟩
 · rintro x e i hi;cases e;obtain ⟨e0,d0,a1,a3⟩:=h4 i _ (List.getElem?_eq_getElem hi);refine ⟨_,_,_,?_,a3.runsIn⟩;simp only [Nat.zero_add];exact (h3.cellAt _ (by omega)).trans a1
theorem eO (lo:Nat) (a:Option Addr) (nv cv:Nat) (V:List (List aq)) (w:World) (hV:au lo w a nv cv V) (hnv:nv≤100) (hS:∀B ∈ V,B.length≤100∧∀r ∈ B,1≤r.1.length∧r.1.length≤10000) :
 Calls Tryz.prog 44 #[.slice a nv cv] w fun e w'=>∃G c,e=.returned (sL G nv c)∧ep w.heap.size w' G nv c V∧Bl w w':=by
 have HVL:Hid (V.length=nv):=hV.length;have HV:=ar hV;have HS:=ar hS;clear hV hS;obtain ⟨i0,hi,hz0,hz1,hz2⟩:=info_parts Tryz.infoEnt;obtain ⟨j0,hj,hy0,hy1,hy2⟩:=info_parts Tryz.infoRun;obtain ⟨l0,hl,hx0,hx1,hx2⟩:=info_parts Tryz.infoRunL;have HE0:Hid (ep w.heap.size (w.alloc (.cells #[] 83)) w.heap.size 0 0 (V.take 0)):=by
  have:=World.ownsRow_lit (base:=w.heap.size) (e:=83) (size:=1) w #[] 0 (Nat.le_refl _) (by simp) (by simp);exact ⟨by simp,_,this,(fun i B hB=>by simp at hB),fun i j gi ni di gj nj dj _ hi _=>by simp at hi⟩
 have hB0:Bl w (w.alloc (.cells #[] 83)):=bZ;go_enter Tryz.func44,Tryz.ntmps44
 go_wp2;go_loopw [3,4] (fun o iv wr=>∃(i G c:Nat),i≤nv∧iv=iT i∧o=sL G i c∧ep w.heap.size wr G i c (V.take i)∧Bl w wr) (fun _ iv _=>nv - (intOf iv).toNat)
 case atStart=>exact ⟨0,_,0,Nat.zero_le _,rfl,rfl,HE0.out,hB0⟩
 case round =>
  clear HE0 hB0;obtain ⟨i,G,c0,hin,rfl,rfl,hLG,hbw⟩:=hrel;have HLG:Hid (ep w.heap.size wr G i c0 (V.take i)):=hLG;have HBW:Hid (Bl w wr):=hbw;clear hLG;by_cases hlt:i<nv
  · have hltI:(i:Int)<(nv:Int):=by omega
    obtain ⟨b,off,rfl,hbb⟩:=HV.out.form (by omega);obtain ⟨B,aB,nB,cB,hB,gB,hRB⟩:=HV.out.level (Below.refl _ w) i hlt;have HGI:Hid (V[i]?=some B):=hB;have HSB:Hid (B.length≤100∧∀r ∈ B,1≤r.1.length∧r.1.length≤10000):=HS.out B (List.mem_of_getElem? hB);have HNB:Hid (B.length=nB):=hRB.length;have HRB:Hid (aF lo w aB nB cB B):=hRB;have HCB:Hid (w.cell? ⟨b,off+i,none⟩=some (.slice aB nB cB)):=gB;have hnB:nB≤100:=by have:=HSB.out.1;have:=HNB.out;omega
    clear hB gB hRB hbw;go_upto_region 6 with fail
    obtain ⟨Wi,hWi⟩:=aw wr.heap.size;obtain ⟨wq,hwq⟩:=aw (wr.alloc (.cells #[] 119));have kq:Bl wr wq:=by rw [hwq];exact bZ
    have HG0:Hid (dw Wi wq Wi 0 0 (B.take 0)):=by
     have:=World.ownsRow_lit (base:=wr.heap.size) (e:=119) (size:=2) wr #[] 0 (Nat.le_refl _) (by simp) (by simp);rw [hwq,hWi];exact ⟨by simp,fun p hp=>by simp at hp,_,this,fun i B hB=>by simp at hB⟩
    have HKQ:Hid (Below Wi wr wq):=by rw [hWi];exact kq
    have HWW:Hid (w.heap.size≤Wi∧Wi=wr.heap.size):=⟨by rw [hWi];exact HBW.out.size,hWi⟩;rw [← hwq,← hWi];clear hwq hWi kq;obtain ⟨Wq,hWq⟩:=aw wr;rw [← hWq] at HLG HBW HKQ HWW;clear hWq;go_wp2;go_loopw [5,6] (fun o kv wr=>∃(j g c:Nat),j≤nB∧kv=iT j∧o=sL g j c∧dw Wi wr g j c (B.take j)∧Below Wi Wq wr) (fun _ kv _=>nB - (intOf kv).toNat)
    case atStart=>exact ⟨0,_,0,Nat.zero_le _,rfl,rfl,HG0.out,HKQ.out⟩
    case round =>
     clear HG0 HKQ;obtain ⟨j,g,c,hjn,rfl,rfl,hRG,hbi⟩:=hrel;have HRG:Hid (dw Wi wr g j c (B.take j)):=hRG;have HBI:Hid (Below Wi Wq wr):=hbi;have HGW:Hid (Wi≤g):=hRG.lt.1;have hbr:Bl w wr:=HBW.out.trans (hbi.mono HWW.out.1);have HWI:Hid (Wi≤wr.heap.size):=by have h1:=HWW.out.2;have h2:=hbi.size;show Wi≤_;omega
     have tl:=cell_later hbr HCB.out;have zb:=Nat.lt_of_lt_of_le hbb hbr.size;clear hRG hbi;by_cases hkn:j<nB
     · have hknI:(j:Int)<(nB:Int):=by omega
       obtain ⟨rb,ro,rfl,hrb⟩:=HRB.out.form (by omega);obtain ⟨L,mm,s,m,d,hgj,hmw,r0,r1,hLk⟩:=HRB.out.run hbr j hkn;have HGJ:Hid (B[j]?=some (L,mm)):=hgj;have HMW:Hid ((Lit.int .i64 mm).wf=true):=hmw;have hsz:=HSB.out.2 _ (List.mem_of_getElem? hgj);simp only at hsz;have HLM:Hid (L.length=m):=hLk.1.length;have hm:1≤m∧m≤10000:=by have:=HLM.out;omega
       obtain ⟨sb,so,rfl,hsb⟩:=hLk.1.form (by omega);have HLE:Hid (an wr (some ⟨sb,so,none⟩) m d L):=hLk.1;have zr:=Nat.lt_of_lt_of_le hrb hbr.size;have k0:Bl wr wr.drew:=(Below.refl _ wr).drew;have HMK:Hid (∀w',Bl wr w'→(fun w'=>w'.cell? ⟨b,off+i,none⟩=some (sO rb ro nB cB)∧w'.cell? ⟨rb,ro+j*2,none⟩=some (sO sb so m d)∧w'.cell? ⟨rb,ro+j*2+1,none⟩=some (iT mm)∧b<w'.heap.size∧rb<w'.heap.size) w'):=fun w' kk=>⟨cell_later kk tl,cell_later kk r0,cell_later kk r1,Nat.lt_of_lt_of_le zb kk.size,Nat.lt_of_lt_of_le zr kk.size⟩
       have HMK2:Hid (∀(wb w':World),wb.grownBy w' (some g)→Bl wr wb→(fun w'=>w'.cell? ⟨b,off+i,none⟩=some (sO rb ro nB cB)∧w'.cell? ⟨rb,ro+j*2,none⟩=some (sO sb so m d)∧w'.cell? ⟨rb,ro+j*2+1,none⟩=some (iT mm)∧b<w'.heap.size∧rb<w'.heap.size) w'):=fun wb w' hg kk=>by
        have hgl:=HGW.out;have hww:=HWW.out;have hbw:=HBW.out.size;have hne:∀{x:Nat},x<w.heap.size→some x≠some g:=fun {x} hx e=>by have:=Option.some.inj e;omega
        exact ⟨hg.cell (cell_later kk tl) (hne hbb),hg.cell (cell_later kk r0) (hne hrb),hg.cell (cell_later kk r1) (hne hrb),Nat.lt_of_lt_of_le zb (Nat.le_trans kk.size hg.size),Nat.lt_of_lt_of_le zr (Nat.le_trans kk.size hg.size)⟩
       clear hgj hmw hLk hsz hsb;go_wp2_with fail
       clear tl r0 r1 zr zb;refine dC HMK k0 fun aa=>?_
       generalize wr.drew=wd at k0 aa ⊢;refine aK 0 1 aa ?_;refine aK 2 8 aa ?_;refine aK 11 8 aa ?_;refine aP 1 fun K hK=>?_
       go_simp;have ka0:Bl wd (wd.alloc (.cells #[] 59)):=bZ;have oa:=dJ wd wr.heap.size k0.size;have ka:=k0.trans (ka0.mono k0.size);have ga1:wr.heap.size≤wd.heap.size:=k0.size;generalize wd.heap.size=ga at oa ga1 ⊢;generalize wd.alloc (.cells #[] 59)=wa at oa ka ⊢;clear ka0;refine hK.out _ _ (HMK.out _ ka) fun aa=>?_
       (try go_frame);refine aP 10 fun K hK=>?_
       refine aA rfl (.tmp 25) (.tmp 33) 33 rfl wr.heap.size 59 i0 _ 5 56 Tryz.underlying33 hi hz0 hz1 hz2 rfl (Nat.succ_pos 4) _ _ _ rfl oa.owns ⟨sb,so,none⟩ m d (aG L) rfl (by rw [bW,HLM.out]) (dW (HLE.out.keep ka)) (bF _) ?_ ?_ ?_ ?_
       · unfold maxLen;omega
       · omega
       · exact ka.size
       intro v1 w1 ho1 hg1 hn1;obtain ⟨e1,d1,rfl⟩:=bw ho1 hn1;have hg1':wa.grownBy w1 (some ga):=hg1;have k1:Bl wr w1:=ka.grown hg1' ka.size (fun k e=>by cases e;exact ga1);have o1:aE w1 wr.heap.size e1 m d1 L:=⟨by have h1:=ho1;rw [Nat.zero_add] at h1;simpa [aG] using h1,HLM.out,HLE.out.ents⟩;rw [Nat.zero_add];clear ho1 hg1 hn1 hg1' oa ga1 ka;refine hK.out _ _ (HMK.out _ k1) fun aa=>?_
       (try go_frame);refine aK 19 1 aa ?_;refine aP 20 fun K hK=>?_
       go_simp;have kb0:Bl w1 (w1.alloc (.cells #[sL e1 m d1,iT mm] 119)):=bZ;have kb:=k1.trans (kb0.mono k1.size);have ob:=o1.below kb0;have nw:=oh w1 (sL e1 m d1) (iT mm) 119;generalize w1.heap.size=gb at nw ⊢;generalize w1.alloc (.cells #[sL e1 m d1,iT mm] 119)=wb at kb ob nw ⊢;clear kb0;refine hK.out _ _ (HMK.out _ kb) fun aa=>?_
       (try go_frame);refine aP 21 fun K hK=>?_
       obtain ⟨hl2,hw2,xs2,ho2,hx2⟩:=HRG.out.below kb;refine aA rfl (.tmp 24) (.tmp 44) 83 rfl Wi 119 j0 _ 2 32 Tryz.underlying83 hj hy0 hy1 hy2 rfl (Nat.succ_pos 1) _ _ _ rfl ho2 ⟨gb,0,none⟩ 1 1 [sL e1 m d1,iT mm] rfl rfl nw (by simp [Value.oneCell']) ?_ ?_ ?_ ?_
       · unfold maxLen;omega
       · omega
       · have h1:=kb.size;have h2:=HWI.out;omega
       intro v2 w2 ho3 hg2 hn2;obtain ⟨g2,c2,rfl⟩:=bw ho3 hn2;have hg2:wb.grownBy w2 (some g):=hg2;have hG2:=sY (L:=L) hl2 hw2 ho2 hx2 (by rw [HLM.out];exact ob.mono HWI.out) HMW.out hg2 (by rw [HLM.out];exact ho3);have k2:=(HBI.out.trans (kb.mono HWI.out)).grown hg2 (Nat.le_trans HWI.out kb.size) (fun k e=>by cases e;exact HGW.out);refine hK.out _ _ (HMK2.out _ w2 hg2 kb) fun aa=>?_
       (try go_frame);refine aK 22 1 aa ?_;refine dN ?_;have HG2:Hid (dw Wi w2 g2 (j+1) c2 (B.take (j+1))):=by rw [List.take_add_one,HGJ.out];exact hG2
       have HK2:Hid (Below Wi Wq w2):=k2;clear aa hG2 k2 ho3 hg2 hn2 hl2 hw2 ho2 hx2 kb ob nw k1 o1 k0;go_wp2;go_roundw
       case rel=>exact ⟨j+1,g2,c2,by omega,by go_num,rfl,HG2.out,HK2.out⟩
       case measure=>simp [intOf];omega
     · have hknI:¬(j:Int)<(nB:Int):=by omega
       obtain rfl:j=nB:=by omega
       have kx:Bl Wq wr:=by have h1:=HBI.out;rw [HWW.out.2] at h1;exact h1
       obtain ⟨q1,xs,p2,p3,p4⟩:=HLG.out;have HLOW:Hid (∀(i' gi ni di:Nat),xs[i']?=some (sL gi ni di)→gi≠g):=fun i' gi ni di hx=>by
        have hi':=(List.getElem?_eq_some_iff.1 hx).1;have hxl:=p2.1;obtain ⟨B',hB'⟩:∃B',(V.take i)[i']?=some B':=⟨_,List.getElem?_eq_getElem (by rw [q1];omega)⟩;obtain ⟨g',d',a1,a3⟩:=p3 i' B' hB';rw [hx] at a1;cases a1;have h1:=a3.lt.2;have h2:=HGW.out;have h3:=HWW.out.2;omega
       have HRW:Hid (dw w.heap.size wr g j c B):=by
        have h1:=HRG.out.mono HWW.out.1;rw [List.take_of_length_le (by rw [HNB.out];omega)] at h1;exact h1
       have HBR:Hid (Bl w wr):=hbr;have wi:IntKind.i64.wrap ((i:Int)+1)=((i+1:Nat):Int):=by rw [IntWalk.i64_left];unfold wrap64;omega
       clear HLG HRG;have HDX:Hid (sC xs):=p4;have ka:Bl wr (wr.alloc (.cells #[sL g j c] 83)):=bZ;have kxa:=kx.trans (ka.mono kx.size);have q2:=p2.kept (row:=none) ⟨kxa.os,kxa.tape,kxa.output,kxa.size,fun k hk _=>kxa.block k hk⟩ (.inr (by simp [Value.ownBlock]));have q3:∀(i':Nat) (B:List aq),(V.take i)[i']?=some B→∃e d,xs[i']?=some (sL e B.length d)∧dw w.heap.size (wr.alloc (.cells #[sL g j c] 83)) e B.length d B:=fun i' B hB=>by obtain ⟨g',d',a1,a3⟩:=p3 i' B hB;exact ⟨g',d',a1,a3.below kxa⟩
       clear p2 p3 p4 kx kxa;have HQ:Hid (_∧_):=⟨q2,q3⟩;have hbz:=hbr.size;clear hbr;go_wp2_with (at_builtin;refine wpList_append_own _ rfl _ _ 34 rfl w.heap.size 83 l0 _ 1 24 Tryz.underlying34 hl hx0 hx1 hx2 rfl (by decide) _ _ _ rfl HQ.out.1 ⟨wr.heap.size,0,none⟩ 1 1 [sL g j c] rfl rfl (oj _ _ _) (by simp [Value.oneCell']) (by unfold maxLen;omega) (by omega) (by simp;omega) ?_;intro v2 w2 hown2 hgrow2 hnil2;obtain ⟨g2,c2,rfl⟩:=bw hown2 hnil2)
       go_roundw
       case rel =>
        have hgr:(wr.alloc (.cells #[sL g j c] 83)).grownBy w2 (some G):=hgrow2;have hnb:=HNB.out;have hpush:=tH (B:=B) q1 HQ.out.1 HQ.out.2 (by rw [hnb];exact HRW.out.below ka) hgr (by rw [hnb];exact hown2) HDX.out HLOW.out;refine ⟨i+1,g2,c2,by omega,by go_num,rfl,by rw [List.take_add_one,HGI.out];exact hpush,?_⟩;exact (HBR.out.alloc HBR.out.size _).grown hgr (by simp;omega) (fun k e=>by cases e;exact (HQ.out.1.lt G rfl).1)
       case measure=>simp [intOf];omega
  · have hltI:¬(i:Int)<(nv:Int):=by omega
    obtain rfl:i=nv:=by omega
    have HLV:Hid (ep w.heap.size wr G i c0 V):=by
     have:=HLG.out;rw [List.take_of_length_le (by rw [HVL.out];omega)] at this;exact this
    clear hbw;go_wp2;go_ret;exact ⟨G,c0,rfl,HLV.out,HBW.out⟩
end Go.Proofs.YtehiefdphnljaaaGreatDoor
