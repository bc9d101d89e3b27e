/-
  The document's copy of levels, by a walk of its Go text.
-/
import Derived.Test.YtlmgojlffgkciaaGreatTc07
import Derived.Test.YtlmgojlffgkciaaGreatTc09
import Derived.Test.YtlmgojlffgkciaaGreatTc10
import Derived.Test.YtlmgojlffgkciaaGreatTc16
import Derived.Deep.QuietTactic
import Derived.BigQuiet
namespace Go.Proofs.YtlmgojlffgkciaaGreat
open Go.RowKit
set_option maxRecDepth 100000
set_option maxHeartbeats 4000000
theorem cw (w:World) (x y:Value) (t:TypeId):∀j u,[x,y][j]?=some u→(w.alloc (.cells #[x,y] t)).cell? ((⟨w.heap.size,0,none⟩:Addr).add j)=some u:=by
 intro j u hj;rw [Go.WideShapes.add_plain,Nat.zero_add];match j,hj with
 | 0,hj=>simp at hj;subst hj;simp
 | 1,hj=>simp at hj;subst hj;simp
theorem dx (w:World) (x:Value) (t:TypeId):∀j u,[x][j]?=some u→(w.alloc (.cells #[x] t)).cell? ((⟨w.heap.size,0,none⟩:Addr).add j)=some u:=by
 intro j u hj;rw [Go.WideShapes.add_plain,Nat.zero_add];match j,hj with
 | 0,hj=>simp at hj;subst hj;simp
theorem jN {w:World} {base base' T size n:Nat} {v:Value} {xs:List Value} (h:w.ownsRow base T size v n xs) (hb:base'≤base):w.ownsRow base' T size v n xs:=by
 refine ⟨h.1,?_⟩;rcases h.2 with h2 | ⟨g,cap,cur,hv,hg,r⟩
 · exact Or.inl h2
 · exact Or.inr ⟨g,cap,cur,hv,Nat.le_trans hb hg,r⟩
theorem cY {w:World} {base e size n m g cap:Nat} {xs:List Value} (h:w.ownsRow base e size (sL g m cap) n xs):∃sz,aw w g e sz:=by
 rcases h.2 with ⟨h',_⟩ | ⟨g',cap',cur,h',_,hg,_,_,hs,_⟩
 · simp at h'
 · simp only [Value.slice.injEq,Option.some.injEq,Addr.mk.injEq,and_true] at h';obtain ⟨rfl,_⟩:=h';exact ⟨_,cur,hg,rfl⟩
def bG (base:Nat) (w:World) (g n c:Nat) (B:List ae):Prop :=
 B.length=n∧(∀p ∈ B,(Lit.int .i64 p.2).wf=true)∧∃xs,w.ownsRow base 102 2 (sL g n c) n xs∧∀(i:Nat) (p:ae),B[i]?=some p→∃e d,xs[i*2]?=some (sL e p.1.length d)∧xs[i*2+1]?=some (iT p.2)∧aE w base e p.1.length d p.1
theorem bG.below {base g n c:Nat} {w w':World} {B:List ae} (h:bG base w g n c B) (hb:Bl w w'):bG base w' g n c B:=by
 obtain ⟨h1,h2,xs,h3,h4⟩:=h;exact ⟨h1,h2,xs,h3.kept (row:=none) ⟨hb.os,hb.tape,hb.output,hb.size,fun k hk _=>hb.block k hk⟩ (.inr (by simp [Value.ownBlock])),fun i p hp=>by obtain ⟨e,d,a1,a2,a3⟩:=h4 i p hp;exact ⟨e,d,a1,a2,a3.below hb⟩⟩
theorem bG.mono {base base' g n c:Nat} {w:World} {B:List ae} (h:bG base w g n c B) (hb:base'≤base):bG base' w g n c B:=by
 obtain ⟨h1,h2,xs,h3,h4⟩:=h;exact ⟨h1,h2,xs,jN h3 hb,fun i p hp=>by obtain ⟨e,d,a1,a2,a3⟩:=h4 i p hp;exact ⟨e,d,a1,a2,a3.mono hb⟩⟩
theorem bG.lt {base g n c:Nat} {w:World} {B:List ae} (h:bG base w g n c B):base≤g∧g<w.heap.size:=by
 obtain ⟨_,_,xs,h3,_⟩:=h;exact h3.lt g rfl
theorem bG.grown {base g n c G T sz:Nat} {w w':World} {B:List ae} (h:bG base w g n c B) (hG:aw w G T sz) (t1:T≠102) (t2:T≠78) (hg:w.grownBy w' (some G)):bG base w' g n c B:=by
 obtain ⟨h1,h2,xs,h3,h4⟩:=h;obtain ⟨s3,k3⟩:=cY h3;refine ⟨h1,h2,xs,h3.kept hg (.inr ?_),fun i p hp=>?_⟩
 · intro e;have e':g=G:=by simpa [Value.ownBlock] using e
   subst e';exact t1 (hG.kind k3)
 · obtain ⟨e,d,a1,a2,a3⟩:=h4 i p hp;obtain ⟨s4,k4⟩:=cY a3.owns;refine ⟨e,d,a1,a2,a3.grown hg (fun e'=>?_)⟩;have e'':e=G:=Option.some.inj e';subst e'';exact t2 (hG.kind k4)
theorem kJ {base g n c g' c' e d:Nat} {w w':World} {xs:List Value} {B:List ae} {L:List ac} {m:Int} (h1:B.length=n) (h2:∀p ∈ B,(Lit.int .i64 p.2).wf=true) (h3:w.ownsRow base 102 2 (sL g n c) n xs)
 (h4:∀(i:Nat) (p:ae),B[i]?=some p→∃e d,xs[i*2]?=some (sL e p.1.length d)∧xs[i*2+1]?=some (iT p.2)∧aE w base e p.1.length d p.1)
 (hL:aE w base e L.length d L) (hm:(Lit.int .i64 m).wf=true) (hg:w.grownBy w' (some g)) (ho:w'.ownsRow base 102 2 (sL g' (n+1) c') (n+1) (xs++[sL e L.length d,iT m])):bG base w' g' (n+1) c' (B++[(L,m)]):=by
 obtain ⟨s3,k3⟩:=cY h3;have hne:∀{e d:Nat} {L:List ac},aE w base e L.length d L→aE w' base e L.length d L:=fun {e d L} hO=>by
  obtain ⟨s4,k4⟩:=cY hO.owns;refine hO.grown hg (fun e'=>?_);have e'':e=g:=Option.some.inj e';subst e'';exact absurd (k3.kind k4) (by decide)
 have hxl:=h3.1;refine ⟨by rw [List.length_append,h1];rfl,fun p hp=>?_,_,ho,fun i p hp=>?_⟩
 · rcases List.mem_append.1 hp with h | h
   · exact h2 p h
   · rw [List.mem_singleton] at h;subst h;exact hm
 · by_cases hi:i<B.length
   · rw [List.getElem?_append_left hi] at hp;obtain ⟨e0,d0,a1,a2,a3⟩:=h4 i p hp;exact ⟨e0,d0,by rw [List.getElem?_append_left (by omega)];exact a1,by rw [List.getElem?_append_left (by omega)];exact a2,hne a3⟩
   · have hi':=(List.getElem?_eq_some_iff.1 hp).1;rw [List.length_append] at hi';have hi2:i=B.length:=by have:[(L,m)].length=1:=rfl;omega
     subst hi2;rw [List.getElem?_append_right (Nat.le_refl _),Nat.sub_self] at hp;cases hp;refine ⟨e,d,?_,?_,hne hL⟩
     · rw [List.getElem?_append_right (by omega),show B.length*2 - xs.length=0 by omega];rfl
     · rw [List.getElem?_append_right (by omega),show B.length*2+1 - xs.length=1 by omega];rfl
theorem bG.runsIn {base g n c:Nat} {w:World} {B:List ae} (h:bG base w g n c B):aj base w (pT g) n c B:=by
 obtain ⟨h1,h2,xs,h3,h4⟩:=h;have hrc:=b6 h3;refine ⟨h1,hrc.1,hrc.2,(fun e=>by cases e),?_,?_⟩
 · rintro x e _;cases e;exact ⟨(h3.lt g rfl).2,rfl,(h3.lt g rfl).1⟩
 · rintro x e i hi;cases e;obtain ⟨e0,d0,a1,a2,a3⟩:=h4 i _ (List.getElem?_eq_getElem hi);refine ⟨h2 _ (List.getElem_mem hi),_,_,_,?_,?_,a3.entsAt,fun x e _=>by cases e;exact a3.lt.1⟩
   · simp only [Nat.zero_add];exact (h3.cellAt _ (by omega)).trans a1
   · simp only [Nat.zero_add];exact (h3.cellAt _ (by omega)).trans a2
def ua (xs:List Value):Prop:=∀(i j gi ni di gj nj dj:Nat),i<j→xs[i]?=some (sL gi ni di)→xs[j]?=some (sL gj nj dj)→gi≠gj
theorem vD {xs:List Value} {g n d:Nat} (h:ua xs) (hl:∀(i gi ni di:Nat),xs[i]?=some (sL gi ni di)→gi≠g):ua (xs++[sL g n d]):=by
 intro i j gi ni di gj nj dj hij hi hj;have hj':=(List.getElem?_eq_some_iff.1 hj).1;rw [List.length_append] at hj';have h1:([sL g n d]:List Value).length=1:=rfl;rw [List.getElem?_append_left (by omega)] at hi;by_cases hx:j<xs.length
 · rw [List.getElem?_append_left hx] at hj;exact h i j gi ni di gj nj dj hij hi hj
 · have hje:j=xs.length:=by omega
   subst hje;rw [List.getElem?_append_right (Nat.le_refl _),Nat.sub_self] at hj;cases hj;exact hl i gi ni di hi
def eN (base:Nat) (w:World) (G n c:Nat) (V:List (List ae)):Prop :=
 V.length=n∧∃xs,w.ownsRow base 64 1 (sL G n c) n xs∧(∀(i:Nat) (B:List ae),V[i]?=some B→∃g d,xs[i]?=some (sL g B.length d)∧bG base w g B.length d B)∧ua xs
theorem eN.below {base g n c:Nat} {w w':World} {V:List (List ae)} (h:eN base w g n c V) (hb:Bl w w'):eN base w' g n c V:=by
 obtain ⟨h1,xs,h3,h4,h5⟩:=h;exact ⟨h1,xs,h3.kept (row:=none) ⟨hb.os,hb.tape,hb.output,hb.size,fun k hk _=>hb.block k hk⟩ (.inr (by simp [Value.ownBlock])),(fun i p hp=>by obtain ⟨e,d,a1,a3⟩:=h4 i p hp;exact ⟨e,d,a1,a3.below hb⟩),h5⟩
theorem uW {base g n c g' c' e d:Nat} {w w':World} {xs:List Value} {V:List (List ae)} {B:List ae} (h1:V.length=n) (h3:w.ownsRow base 64 1 (sL g n c) n xs)
 (h4:∀(i:Nat) (B:List ae),V[i]?=some B→∃g d,xs[i]?=some (sL g B.length d)∧bG base w g B.length d B)
 (hL:bG base w e B.length d B) (hg:w.grownBy w' (some g)) (ho:w'.ownsRow base 64 1 (sL g' (n+1) c') (n+1) (xs++[sL e B.length d])) (hd:ua xs) (hl:∀(i gi ni di:Nat),xs[i]?=some (sL gi ni di)→gi≠e):eN base w' g' (n+1) c' (V++[B]):=by
 obtain ⟨s3,k3⟩:=cY h3;have hxl:=h3.1;refine ⟨by rw [List.length_append,h1];rfl,_,ho,fun i p hp=>?_,vD hd hl⟩;by_cases hi:i<V.length
 · rw [List.getElem?_append_left hi] at hp;obtain ⟨e0,d0,a1,a3⟩:=h4 i p hp;exact ⟨e0,d0,by rw [List.getElem?_append_left (by omega)];exact a1,a3.grown k3 (by decide) (by decide) hg⟩
 · have hi':=(List.getElem?_eq_some_iff.1 hp).1;rw [List.length_append] at hi';have hi2:i=V.length:=by have:[B].length=1:=rfl;omega
   subst hi2;rw [List.getElem?_append_right (Nat.le_refl _),Nat.sub_self] at hp;cases hp;exact ⟨e,d,by rw [List.getElem?_append_right (by omega),show V.length - xs.length=0 by omega];rfl,hL.grown k3 (by decide) (by decide) hg⟩
theorem eN.grown {base g n c G T sz:Nat} {w w':World} {V:List (List ae)} (h:eN base w g n c V) (hG:aw w G T sz) (t0:T≠64) (t1:T≠102) (t2:T≠78) (hg:w.grownBy w' (some G)):eN base w' g n c V:=by
 obtain ⟨h1,xs,h3,h4,h5⟩:=h;obtain ⟨s3,k3⟩:=cY h3;refine ⟨h1,xs,h3.kept hg (.inr ?_),(fun i p hp=>by obtain ⟨e,d,a1,a3⟩:=h4 i p hp;exact ⟨e,d,a1,a3.grown hG t1 t2 hg⟩),h5⟩;intro e;have e':g=G:=by simpa [Value.ownBlock] using e
 subst e';exact t0 (hG.kind k3)
theorem eN.mono {base base' g n c:Nat} {w:World} {V:List (List ae)} (h:eN base w g n c V) (hb:base'≤base):eN base' w g n c V:=by
 obtain ⟨h1,xs,h3,h4,h5⟩:=h;exact ⟨h1,xs,jN h3 hb,(fun i p hp=>by obtain ⟨e,d,a1,a3⟩:=h4 i p hp;exact ⟨e,d,a1,a3.mono hb⟩),h5⟩
theorem eN.levelsIn {base g n c:Nat} {w:World} {V:List (List ae)} (h:eN base w g n c V):aX base w (pT g) n c V:=by
 obtain ⟨h1,xs,h3,h4,_⟩:=h;have hrc:=b6 h3;refine ⟨h1,hrc.1,hrc.2,(fun e=>by cases e),?_,?_⟩
 · rintro x e _;cases e;exact ⟨(h3.lt g rfl).2,rfl,(h3.lt g rfl).1⟩
 · rintro x e i hi;cases e;obtain ⟨e0,d0,a1,a3⟩:=h4 i _ (List.getElem?_eq_getElem hi);refine ⟨_,_,_,?_,a3.runsIn⟩;simp only [Nat.zero_add];exact (h3.cellAt _ (by omega)).trans a1
theorem oh (lo:Nat) (a:Option Addr) (nv cv:Nat) (V:List (List ae)) (w:World) (hV:aX lo w a nv cv V) (hnv:nv≤100) (hS:∀B ∈ V,B.length≤100∧∀r ∈ B,1≤r.1.length∧r.1.length≤10000) :
 Calls Tryz.prog 77 #[.slice a nv cv] w fun e w'=>∃G c,e=.returned (sL G nv c)∧eN w.heap.size w' G nv c V∧Bl w w':=by
 have HVL:Hid (V.length=nv):=hV.length;have HV:=bc hV;have HS:=bc hS;clear hV hS;obtain ⟨i0,hi,hz0,hz1,hz2⟩:=info_parts Tryz.infoEnt;obtain ⟨j0,hj,hy0,hy1,hy2⟩:=info_parts Tryz.infoRun;obtain ⟨l0,hl,hx0,hx1,hx2⟩:=info_parts Tryz.infoRunL;have HE0:Hid (eN w.heap.size (w.alloc (.cells #[] 64)) w.heap.size 0 0 (V.take 0)):=by
  have:=World.ownsRow_lit (base:=w.heap.size) (e:=64) (size:=1) w #[] 0 (Nat.le_refl _) (by simp) (by simp);exact ⟨by simp,_,this,(fun i B hB=>by simp at hB),fun i j gi ni di gj nj dj _ hi _=>by simp at hi⟩
 have hB0:Bl w (w.alloc (.cells #[] 64)):=bZ;go_enter Tryz.func77,Tryz.ntmps77
 go_wp2;go_loopw [3,4] (fun o iv wr=>∃(i G c:Nat),i≤nv∧iv=iT i∧o=sL G i c∧eN w.heap.size wr G i c (V.take i)∧Bl w wr) (fun _ iv _=>nv - (intOf iv).toNat)
 case atStart=>exact ⟨0,_,0,Nat.zero_le _,rfl,rfl,HE0.out,hB0⟩
 case round =>
  clear HE0 hB0;obtain ⟨i,G,c0,hin,rfl,rfl,hLG,hbw⟩:=hrel;have HLG:Hid (eN w.heap.size wr G i c0 (V.take i)):=hLG;have HBW:Hid (Bl w wr):=hbw;clear hLG;by_cases hlt:i<nv
  · have hltI:(i:Int)<(nv:Int):=by omega
    obtain ⟨b,off,rfl,hbb⟩:=HV.out.form (by omega);obtain ⟨B,aB,nB,cB,hB,gB,hRB⟩:=HV.out.level (Below.refl _ w) i hlt;have HGI:Hid (V[i]?=some B):=hB;have HSB:Hid (B.length≤100∧∀r ∈ B,1≤r.1.length∧r.1.length≤10000):=HS.out B (List.mem_of_getElem? hB);have HNB:Hid (B.length=nB):=hRB.length;have HRB:Hid (aj lo w aB nB cB B):=hRB;have HCB:Hid (w.cell? ⟨b,off+i,none⟩=some (.slice aB nB cB)):=gB;have hnB:nB≤100:=by have:=HSB.out.1;have:=HNB.out;omega
    clear hB gB hRB hbw;go_upto_region 6 with fail
    obtain ⟨Wi,hWi⟩:=ay wr.heap.size;obtain ⟨wq,hwq⟩:=ay (wr.alloc (.cells #[] 102));have kq:Bl wr wq:=by rw [hwq];exact bZ
    have HG0:Hid (bG Wi wq Wi 0 0 (B.take 0)):=by
     have:=World.ownsRow_lit (base:=wr.heap.size) (e:=102) (size:=2) wr #[] 0 (Nat.le_refl _) (by simp) (by simp);rw [hwq,hWi];exact ⟨by simp,fun p hp=>by simp at hp,_,this,fun i B hB=>by simp at hB⟩
    have HKQ:Hid (Below Wi wr wq):=by rw [hWi];exact kq
    have HWW:Hid (w.heap.size≤Wi∧Wi=wr.heap.size):=⟨by rw [hWi];exact HBW.out.size,hWi⟩;rw [← hwq,← hWi];clear hwq hWi kq;obtain ⟨Wq,hWq⟩:=ay wr;rw [← hWq] at HLG HBW HKQ HWW;clear hWq;go_wp2;go_loopw [5,6] (fun o kv wr=>∃(j g c:Nat),j≤nB∧kv=iT j∧o=sL g j c∧bG Wi wr g j c (B.take j)∧Below Wi Wq wr) (fun _ kv _=>nB - (intOf kv).toNat)
    case atStart=>exact ⟨0,_,0,Nat.zero_le _,rfl,rfl,HG0.out,HKQ.out⟩
    case round =>
     clear HG0 HKQ;obtain ⟨j,g,c,hjn,rfl,rfl,hRG,hbi⟩:=hrel;have HRG:Hid (bG Wi wr g j c (B.take j)):=hRG;have HBI:Hid (Below Wi Wq wr):=hbi;have HGW:Hid (Wi≤g):=hRG.lt.1;have hbr:Bl w wr:=HBW.out.trans (hbi.mono HWW.out.1);have HWI:Hid (Wi≤wr.heap.size):=by have h1:=HWW.out.2;have h2:=hbi.size;show Wi≤_;omega
     have tl:=cell_later hbr HCB.out;have zb:=Nat.lt_of_lt_of_le hbb hbr.size;clear hRG hbi;by_cases hkn:j<nB
     · have hknI:(j:Int)<(nB:Int):=by omega
       obtain ⟨rb,ro,rfl,hrb⟩:=HRB.out.form (by omega);obtain ⟨L,mm,s,m,d,hgj,hmw,r0,r1,hLk⟩:=HRB.out.run hbr j hkn;have HGJ:Hid (B[j]?=some (L,mm)):=hgj;have HMW:Hid ((Lit.int .i64 mm).wf=true):=hmw;have hsz:=HSB.out.2 _ (List.mem_of_getElem? hgj);simp only at hsz;have HLM:Hid (L.length=m):=hLk.1.length;have hm:1≤m∧m≤10000:=by have:=HLM.out;omega
       obtain ⟨sb,so,rfl,hsb⟩:=hLk.1.form (by omega);have HLE:Hid (af wr (some ⟨sb,so,none⟩) m d L):=hLk.1;have zr:=Nat.lt_of_lt_of_le hrb hbr.size;have k0:Bl wr wr.drew:=(Below.refl _ wr).drew;have HMK:Hid (∀w',Bl wr w'→(fun w'=>w'.cell? ⟨b,off+i,none⟩=some (sO rb ro nB cB)∧w'.cell? ⟨rb,ro+j*2,none⟩=some (sO sb so m d)∧w'.cell? ⟨rb,ro+j*2+1,none⟩=some (iT mm)∧b<w'.heap.size∧rb<w'.heap.size) w'):=fun w' kk=>⟨cell_later kk tl,cell_later kk r0,cell_later kk r1,Nat.lt_of_lt_of_le zb kk.size,Nat.lt_of_lt_of_le zr kk.size⟩
       have HMK2:Hid (∀(wb w':World),wb.grownBy w' (some g)→Bl wr wb→(fun w'=>w'.cell? ⟨b,off+i,none⟩=some (sO rb ro nB cB)∧w'.cell? ⟨rb,ro+j*2,none⟩=some (sO sb so m d)∧w'.cell? ⟨rb,ro+j*2+1,none⟩=some (iT mm)∧b<w'.heap.size∧rb<w'.heap.size) w'):=fun wb w' hg kk=>by
        have hgl:=HGW.out;have hww:=HWW.out;have hbw:=HBW.out.size;have hne:∀{x:Nat},x<w.heap.size→some x≠some g:=fun {x} hx e=>by have:=Option.some.inj e;omega
        exact ⟨hg.cell (cell_later kk tl) (hne hbb),hg.cell (cell_later kk r0) (hne hrb),hg.cell (cell_later kk r1) (hne hrb),Nat.lt_of_lt_of_le zb (Nat.le_trans kk.size hg.size),Nat.lt_of_lt_of_le zr (Nat.le_trans kk.size hg.size)⟩
       clear hgj hmw hLk hsz hsb;go_wp2_with fail
       clear tl r0 r1 zr zb;refine dM HMK k0 fun aa=>?_
       generalize wr.drew=wd at k0 aa ⊢;refine aL 0 1 aa ?_;refine aL 2 8 aa ?_;refine aL 11 8 aa ?_;refine aS 1 fun K hK=>?_
       go_simp;have ka0:Bl wd (wd.alloc (.cells #[] 78)):=bZ;have oa:=er wd wr.heap.size k0.size;have ka:=k0.trans (ka0.mono k0.size);have ga1:wr.heap.size≤wd.heap.size:=k0.size;generalize wd.heap.size=ga at oa ga1 ⊢;generalize wd.alloc (.cells #[] 78)=wa at oa ka ⊢;clear ka0;refine hK.out _ _ (HMK.out _ ka) fun aa=>?_
       (try go_frame);refine aS 10 fun K hK=>?_
       refine ax rfl (.tmp 25) (.tmp 33) 28 rfl wr.heap.size 78 i0 _ 5 56 Tryz.underlying28 hi hz0 hz1 hz2 rfl (Nat.succ_pos 4) _ _ _ rfl oa.owns ⟨sb,so,none⟩ m d (aI L) rfl (by rw [aZ,HLM.out]) (fd (HLE.out.keep ka)) (bj _) ?_ ?_ ?_ ?_
       · unfold maxLen;omega
       · omega
       · exact ka.size
       intro v1 w1 ho1 hg1 hn1;obtain ⟨e1,d1,rfl⟩:=aU ho1 hn1;have hg1':wa.grownBy w1 (some ga):=hg1;have k1:Bl wr w1:=ka.grown hg1' ka.size (fun k e=>by cases e;exact ga1);have o1:aE w1 wr.heap.size e1 m d1 L:=⟨by have h1:=ho1;rw [Nat.zero_add] at h1;simpa [aI] using h1,HLM.out,HLE.out.ents⟩;rw [Nat.zero_add];clear ho1 hg1 hn1 hg1' oa ga1 ka;refine hK.out _ _ (HMK.out _ k1) fun aa=>?_
       (try go_frame);refine aL 19 1 aa ?_;refine aS 20 fun K hK=>?_
       go_simp;have kb0:Bl w1 (w1.alloc (.cells #[sL e1 m d1,iT mm] 102)):=bZ;have kb:=k1.trans (kb0.mono k1.size);have ob:=o1.below kb0;have nw:=cw w1 (sL e1 m d1) (iT mm) 102;generalize w1.heap.size=gb at nw ⊢;generalize w1.alloc (.cells #[sL e1 m d1,iT mm] 102)=wb at kb ob nw ⊢;clear kb0;refine hK.out _ _ (HMK.out _ kb) fun aa=>?_
       (try go_frame);refine aS 21 fun K hK=>?_
       obtain ⟨hl2,hw2,xs2,ho2,hx2⟩:=HRG.out.below kb;refine ax rfl (.tmp 24) (.tmp 44) 64 rfl Wi 102 j0 _ 2 32 Tryz.underlying64 hj hy0 hy1 hy2 rfl (Nat.succ_pos 1) _ _ _ rfl ho2 ⟨gb,0,none⟩ 1 1 [sL e1 m d1,iT mm] rfl rfl nw (by simp [Value.oneCell']) ?_ ?_ ?_ ?_
       · unfold maxLen;omega
       · omega
       · have h1:=kb.size;have h2:=HWI.out;omega
       intro v2 w2 ho3 hg2 hn2;obtain ⟨g2,c2,rfl⟩:=aU ho3 hn2;have hg2:wb.grownBy w2 (some g):=hg2;have hG2:=kJ (L:=L) hl2 hw2 ho2 hx2 (by rw [HLM.out];exact ob.mono HWI.out) HMW.out hg2 (by rw [HLM.out];exact ho3);have k2:=(HBI.out.trans (kb.mono HWI.out)).grown hg2 (Nat.le_trans HWI.out kb.size) (fun k e=>by cases e;exact HGW.out);refine hK.out _ _ (HMK2.out _ w2 hg2 kb) fun aa=>?_
       (try go_frame);refine aL 22 1 aa ?_;refine dN ?_;have HG2:Hid (bG Wi w2 g2 (j+1) c2 (B.take (j+1))):=by rw [List.take_add_one,HGJ.out];exact hG2
       have HK2:Hid (Below Wi Wq w2):=k2;clear aa hG2 k2 ho3 hg2 hn2 hl2 hw2 ho2 hx2 kb ob nw k1 o1 k0;go_wp2;go_roundw
       case rel=>exact ⟨j+1,g2,c2,by omega,by go_num,rfl,HG2.out,HK2.out⟩
       case measure=>simp [intOf];omega
     · have hknI:¬(j:Int)<(nB:Int):=by omega
       obtain rfl:j=nB:=by omega
       have kx:Bl Wq wr:=by have h1:=HBI.out;rw [HWW.out.2] at h1;exact h1
       obtain ⟨q1,xs,p2,p3,p4⟩:=HLG.out;have HLOW:Hid (∀(i' gi ni di:Nat),xs[i']?=some (sL gi ni di)→gi≠g):=fun i' gi ni di hx=>by
        have hi':=(List.getElem?_eq_some_iff.1 hx).1;have hxl:=p2.1;obtain ⟨B',hB'⟩:∃B',(V.take i)[i']?=some B':=⟨_,List.getElem?_eq_getElem (by rw [q1];omega)⟩;obtain ⟨g',d',a1,a3⟩:=p3 i' B' hB';rw [hx] at a1;cases a1;have h1:=a3.lt.2;have h2:=HGW.out;have h3:=HWW.out.2;omega
       have HRW:Hid (bG w.heap.size wr g j c B):=by
        have h1:=HRG.out.mono HWW.out.1;rw [List.take_of_length_le (by rw [HNB.out];omega)] at h1;exact h1
       have HBR:Hid (Bl w wr):=hbr;have wi:IntKind.i64.wrap ((i:Int)+1)=((i+1:Nat):Int):=by rw [IntWalk.i64_left];unfold wrap64;omega
       clear HLG HRG;have HDX:Hid (ua xs):=p4;have ka:Bl wr (wr.alloc (.cells #[sL g j c] 64)):=bZ;have kxa:=kx.trans (ka.mono kx.size);have q2:=p2.kept (row:=none) ⟨kxa.os,kxa.tape,kxa.output,kxa.size,fun k hk _=>kxa.block k hk⟩ (.inr (by simp [Value.ownBlock]));have q3:∀(i':Nat) (B:List ae),(V.take i)[i']?=some B→∃e d,xs[i']?=some (sL e B.length d)∧bG w.heap.size (wr.alloc (.cells #[sL g j c] 64)) e B.length d B:=fun i' B hB=>by obtain ⟨g',d',a1,a3⟩:=p3 i' B hB;exact ⟨g',d',a1,a3.below kxa⟩
       clear p2 p3 p4 kx kxa;have HQ:Hid (_∧_):=⟨q2,q3⟩;have hbz:=hbr.size;clear hbr;go_wp2_with (at_builtin;refine wpList_append_own _ rfl _ _ 29 rfl w.heap.size 64 l0 _ 1 24 Tryz.underlying29 hl hx0 hx1 hx2 rfl (by decide) _ _ _ rfl HQ.out.1 ⟨wr.heap.size,0,none⟩ 1 1 [sL g j c] rfl rfl (dx _ _ _) (by simp [Value.oneCell']) (by unfold maxLen;omega) (by omega) (by simp;omega) ?_;intro v2 w2 hown2 hgrow2 hnil2;obtain ⟨g2,c2,rfl⟩:=aU hown2 hnil2)
       go_roundw
       case rel =>
        have hgr:(wr.alloc (.cells #[sL g j c] 64)).grownBy w2 (some G):=hgrow2;have hnb:=HNB.out;have hpush:=uW (B:=B) q1 HQ.out.1 HQ.out.2 (by rw [hnb];exact HRW.out.below ka) hgr (by rw [hnb];exact hown2) HDX.out HLOW.out;refine ⟨i+1,g2,c2,by omega,by go_num,rfl,by rw [List.take_add_one,HGI.out];exact hpush,?_⟩;exact (HBR.out.alloc HBR.out.size _).grown hgr (by simp;omega) (fun k e=>by cases e;exact (HQ.out.1.lt G rfl).1)
       case measure=>simp [intOf];omega
  · have hltI:¬(i:Int)<(nv:Int):=by omega
    obtain rfl:i=nv:=by omega
    have HLV:Hid (eN w.heap.size wr G i c0 V):=by
     have:=HLG.out;rw [List.take_of_length_le (by rw [HVL.out];omega)] at this;exact this
    clear hbw;go_wp2;go_ret;exact ⟨G,c0,rfl,HLV.out,HBW.out⟩
end Go.Proofs.YtlmgojlffgkciaaGreat

namespace Go.Proofs.YtlmgojlffgkciaaGreat
open Go.RowKit
set_option maxHeartbeats 800000 in
theorem qE (a1 a2:Option Addr) (len cap1 cap2:Nat) (L:List ac) (w:World) (h1:af w a1 len cap1 L) (h2:af w a2 len cap2 L) :
 Calls Tryz.prog 26 #[.slice a1 len cap1,.slice a2 len cap2] w fun e w'=>e=.returned (.bool true)∧Bl w w':=by
 by_cases h0:len=0
 · subst h0;go_enter Tryz.func26,Tryz.ntmps26
   go_wp2;go_loopw [5] (fun i wr=>i=iT 0∧Bl w wr) (fun i _=>0)
   case atStart=>exact ⟨rfl,Below.refl _ _⟩
   case round =>
    obtain ⟨rfl,hb⟩:=hrel;go_wp2;go_ret;exact ⟨rfl,hb⟩
 · obtain ⟨b1,o1,rfl,_⟩:=h1.form (by omega);obtain ⟨b2,o2,rfl,_⟩:=h2.form (by omega);exact tL _ _ _ _ _ _ _ L _ h1 h2
set_option maxHeartbeats 800000 in
theorem ye (m:Int) (a1 a2:Option Addr) (len cap1 cap2:Nat) (L:List ac) (w:World) (h1:af w a1 len cap1 L) (h2:af w a2 len cap2 L) :
 Calls Tryz.prog 123 #[.agg #[.slice a1 len cap1,iT m],.agg #[.slice a2 len cap2,iT m]] w fun e w'=>e=.returned (.bool true)∧Bl w w':=by
 have hB:Bl w ((w.alloc (.cells #[.slice a1 len cap1,iT m] 102)).alloc (.cells #[.slice a2 len cap2,iT m] 102)):=bZ.alloc (by simp) _;go_enter Tryz.func123,Tryz.ntmps123
 go_wp2_with (go_at_call 26;refine (qE _ _ _ _ _ L _ (h1.keep hB) (h2.keep hB)).mono ?_;rintro e w1 ⟨rfl,hb1⟩;obtain ⟨hc1,hf1⟩:=qJ hb1)
 go_ret;exact ⟨rfl,hB.trans (hb1.mono (by simp;omega))⟩
set_option maxHeartbeats 1600000 in
theorem vw (lo1 lo2:Nat) (a1 a2:Option Addr) (len cap1 cap2:Nat) (B:List ae) (w:World) (h1:aj lo1 w a1 len cap1 B) (h2:aj lo2 w a2 len cap2 B) :
 Calls Tryz.prog 82 #[.slice a1 len cap1,.slice a2 len cap2] w fun e w'=>e=.returned (.bool true)∧Bl w w':=by
 have hbl:=h1.room;have hbc:=h1.big;unfold maxLen at hbc;have H1:=bc h1;have H2:=bc h2;clear h1 h2;go_enter Tryz.func82,Tryz.ntmps82
 go_wp2;go_loopw [5] (fun i wr=>∃k:Nat,k≤len∧i=iT k∧Bl w wr) (fun i _=>len - (intOf i).toNat)
 case atStart=>exact ⟨0,Nat.zero_le _,rfl,Below.refl _ _⟩
 case round =>
  obtain ⟨k,hk,rfl,hb⟩:=hrel;by_cases hlt:k<len
  · obtain ⟨b1,o1,rfl,hb1⟩:=H1.out.form (by omega);obtain ⟨b2,o2,rfl,hb2⟩:=H2.out.form (by omega);obtain ⟨L,m,s,n,c,hg,_,g0,g1,hLk⟩:=H1.out.run hb k hlt;obtain ⟨L',m',s',n',c',hg',_,q0,q1,hLk'⟩:=H2.out.run hb k hlt;rw [hg] at hg';cases hg';obtain rfl:n'=n:=hLk'.1.length.symm.trans hLk.1.length;have hb1':b1<wr.heap.size:=Nat.lt_of_lt_of_le hb1 hb.size;have hb2':b2<wr.heap.size:=Nat.lt_of_lt_of_le hb2 hb.size;have lk:=hLk.1.keep ((Below.refl _ wr).drew);have lk':=hLk'.1.keep ((Below.refl _ wr).drew);clear hg hLk hLk';have hltI:(k:Int)<(len:Int):=by omega
    go_wp2_with fail
    go_region_with (go_at_call 123;refine (ye _ _ _ _ _ _ L _ lk lk').mono ?_;rintro e w1 ⟨rfl,hb1⟩)
    all_goals
     go_wp2;go_roundw
     case rel=>exact ⟨k+1,by omega,by go_num,hb.drew.trans (hb1.mono hb.size)⟩
     case measure=>simp [intOf];omega
  · go_wp2;go_ret;exact ⟨rfl,hb⟩
set_option maxHeartbeats 1600000 in
theorem tK (lo1 lo2:Nat) (a1 a2:Option Addr) (len cap1 cap2:Nat) (V:List (List ae)) (w:World) (h1:aX lo1 w a1 len cap1 V) (h2:aX lo2 w a2 len cap2 V) :
 Calls Tryz.prog 44 #[.slice a1 len cap1,.slice a2 len cap2] w fun e w'=>e=.returned (.bool true)∧Bl w w':=by
 have hbl:=h1.room;have hbc:=h1.big;unfold maxLen at hbc;have H1:=bc h1;have H2:=bc h2;clear h1 h2;go_enter Tryz.func44,Tryz.ntmps44
 go_wp2;go_loopw [5] (fun i wr=>∃k:Nat,k≤len∧i=iT k∧Bl w wr) (fun i _=>len - (intOf i).toNat)
 case atStart=>exact ⟨0,Nat.zero_le _,rfl,Below.refl _ _⟩
 case round =>
  obtain ⟨k,hk,rfl,hb⟩:=hrel;by_cases hlt:k<len
  · obtain ⟨b1,o1,rfl,hb1⟩:=H1.out.form (by omega);obtain ⟨b2,o2,rfl,hb2⟩:=H2.out.form (by omega);obtain ⟨B,s,n,c,hg,g0,hLk⟩:=H1.out.level hb k hlt;obtain ⟨B',s',n',c',hg',q0,hLk'⟩:=H2.out.level hb k hlt;rw [hg] at hg';cases hg';obtain rfl:n'=n:=hLk'.length.symm.trans hLk.length;have hb1':b1<wr.heap.size:=Nat.lt_of_lt_of_le hb1 hb.size;have hb2':b2<wr.heap.size:=Nat.lt_of_lt_of_le hb2 hb.size;have lk:=hLk.keep ((Below.refl _ wr).drew);have lk':=hLk'.keep ((Below.refl _ wr).drew);clear hg hLk hLk';have hltI:(k:Int)<(len:Int):=by omega
    go_wp2_with fail
    go_region_with (go_at_call 82;refine (vw lo1 lo2 _ _ _ _ _ B _ lk lk').mono ?_;rintro e w1 ⟨rfl,hb1⟩)
    all_goals
     go_wp2;go_roundw
     case rel=>exact ⟨k+1,by omega,by go_num,hb.drew.trans (hb1.mono hb.size)⟩
     case measure=>simp [intOf];omega
  · go_wp2;go_ret;exact ⟨rfl,hb⟩
set_option maxHeartbeats 1600000 in
theorem vx (lo1 lo2:Nat) (a1 a2:Option Addr) (len cap1 cap2:Nat) (S:List Int) (w:World) (h1:aT lo1 w a1 len cap1 S) (h2:aT lo2 w a2 len cap2 S) :
 Calls Tryz.prog 45 #[.slice a1 len cap1,.slice a2 len cap2] w fun e w'=>e=.returned (.bool true)∧Bl w w':=by
 have hbl:=h1.room;have hbc:=h1.big;unfold maxLen at hbc;have H1:=bc h1;have H2:=bc h2;clear h1 h2;go_enter Tryz.func45,Tryz.ntmps45
 go_wp2;go_loopw [5] (fun i wr=>∃k:Nat,k≤len∧i=iT k∧Bl w wr) (fun i _=>len - (intOf i).toNat)
 case atStart=>exact ⟨0,Nat.zero_le _,rfl,Below.refl _ _⟩
 case round =>
  obtain ⟨k,hk,rfl,hb⟩:=hrel;by_cases hlt:k<len
  · obtain ⟨b1,o1,rfl,hb1⟩:=H1.out.form (by omega);obtain ⟨b2,o2,rfl,hb2⟩:=H2.out.form (by omega);obtain ⟨q,hg,_,g0⟩:=H1.out.num hb k hlt;obtain ⟨q',hg',_,q0⟩:=H2.out.num hb k hlt;rw [hg] at hg';cases hg';have hb1':b1<wr.heap.size:=Nat.lt_of_lt_of_le hb1 hb.size;have hb2':b2<wr.heap.size:=Nat.lt_of_lt_of_le hb2 hb.size;clear hg;have hltI:(k:Int)<(len:Int):=by omega
    go_wp2_with fail
    go_quiet (fail)
    go_wp2;go_roundw
    case rel=>exact ⟨k+1,by omega,by go_num,below_drewN hb _⟩
    case measure=>simp [intOf];omega
  · go_wp2;go_ret;exact ⟨rfl,hb⟩
set_option maxHeartbeats 800000 in
theorem iU (q:Int) (lo1 lo2:Nat) (am av ak:Option Addr) (nm cm nv cv ns cs:Nat) (am' av' ak':Option Addr) (cm' cv' cs':Nat) (M:List ac) (V:List (List ae)) (S:List Int) (w:World) (h1:aM lo1 w am nm cm av nv cv ak ns cs M V S) (h2:aM lo2 w am' nm cm' av' nv cv' ak' ns cs' M V S) :
 Calls Tryz.prog 14 #[.agg #[iT q,.slice am nm cm,.slice av nv cv,.slice ak ns cs],.agg #[iT q,.slice am' nm cm',.slice av' nv cv',.slice ak' ns cs']] w fun e w'=>e=.returned (.bool true)∧Bl w w':=by
 obtain ⟨W,hW⟩:=ay ((w.alloc (.cells #[iT q,.slice am nm cm,.slice av nv cv,.slice ak ns cs] 31)).alloc (.cells #[iT q,.slice am' nm cm',.slice av' nv cv',.slice ak' ns cs'] 31));have hB:Bl w W:=by rw [hW];exact bZ.alloc (by simp) _
 have x2:W.cell? ⟨w.heap.size,2,none⟩=some (.slice av nv cv):=by rw [hW];simp
 have x3:W.cell? ⟨w.heap.size,3,none⟩=some (.slice ak ns cs):=by rw [hW];simp
 have y2:W.cell? ⟨w.heap.size+1,2,none⟩=some (.slice av' nv cv'):=by rw [hW];simp
 have y3:W.cell? ⟨w.heap.size+1,3,none⟩=some (.slice ak' ns cs'):=by rw [hW];simp
 have H1:Hid (aM lo1 W am nm cm av nv cv ak ns cs M V S):=h1.keep hB;have H2:Hid (aM lo2 W am' nm cm' av' nv cv' ak' ns cs' M V S):=h2.keep hB;have HB:Hid (Bl w W):=hB;clear h1 h2 hB;go_enter Tryz.func14,Tryz.ntmps14
 go_wp2_with fail
 rw [← hW];clear hW;refine (qE _ _ _ _ _ M _ H1.out.mem.1 H2.out.mem.1).mono ?_;rintro e w1 ⟨rfl,hb1⟩;have x2:=cell_later hb1 x2;have x3:=cell_later hb1 x3;have y2:=cell_later hb1 y2;have y3:=cell_later hb1 y3;have z1:=World.block_lt_of_cell? _ _ x2;have z2:=World.block_lt_of_cell? _ _ y2;simp only at z1 z2;have K1:Hid (Bl W w1):=hb1;clear hb1;go_wp2_with fail
 refine (tK lo1 lo2 _ _ _ _ _ V _ (H1.out.keep K1.out).levels (H2.out.keep K1.out).levels).mono ?_;rintro e w2 ⟨rfl,hb2⟩;have x3:=cell_later hb2 x3;have y3:=cell_later hb2 y3;have z1:=World.block_lt_of_cell? _ _ x3;have z2:=World.block_lt_of_cell? _ _ y3;simp only at z1 z2;have K2:Hid (Bl W w2):=K1.out.trans (hb2.mono K1.out.size);clear hb2 K1;go_wp2_with fail
 refine (vx lo1 lo2 _ _ _ _ _ S _ (H1.out.keep K2.out).snaps (H2.out.keep K2.out).snaps).mono ?_;rintro e w3 ⟨rfl,hb3⟩;have K3:Hid (Bl W w3):=K2.out.trans (hb3.mono K2.out.size);clear hb3 K2;go_wp2;go_ret;exact ⟨rfl,HB.out.trans (K3.out.mono HB.out.size)⟩
def rO (M:List ac) (V:List (List ae)) (S:List Int):Prop:=M.length≤1048576∧rM V∧S.length≤1048576
end Go.Proofs.YtlmgojlffgkciaaGreat
