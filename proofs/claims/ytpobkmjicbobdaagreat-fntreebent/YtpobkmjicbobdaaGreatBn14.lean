/- Walks. -/
import Derived.Test.YtpobkmjicbobdaaGreatBn13
import Derived.Lib.AppendZerosOnto
import Derived.Lib.AppendZeros
namespace Go.Proofs.YtpobkmjicbobdaaGreat
set_option maxRecDepth 100000
set_option maxHeartbeats 40000000
open Go.RowKit
variable {G T T' X b base base' c c' c1 c3 d e g g' g1 g3 m' n n' nm ns nv o size size' sz:Nat} {L M:List ac} {S:List Int} {V:List (List ag)} {u0 u1 u2 u3:Value} {w w':World} {xs xs':List Value}
theorem bT (w:World) (x y:Value) (t:TypeId):∀j u,[x,y][j]?=some u→(w.alloc (.cells #[x,y] t)).cell? ((⟨w.heap.size,0,none⟩:Addr).add j)=some u:=by
 intro j u hj;rw [Go.WideShapes.add_plain,Nat.zero_add];match j,hj with
 | 0,hj=>simp at hj;subst hj;simp
 | 1,hj=>simp at hj;subst hj;simp
theorem eD (w:World) (x:Value) (t:TypeId):∀j u,[x][j]?=some u→(w.alloc (.cells #[x] t)).cell? ((⟨w.heap.size,0,none⟩:Addr).add j)=some u:=by
 intro j u hj;rw [Go.WideShapes.add_plain,Nat.zero_add];match j,hj with
 | 0,hj=>simp at hj;subst hj;simp
theorem ew {v:Value} (h:w.ownsRow base T size v n xs) (hb:base'≤base):w.ownsRow base' T size v n xs:=by
 refine ⟨h.1,?_⟩;rcases h.2 with h2 | ⟨g,cap,cur,hv,hg,r⟩
 · exact Or.inl h2
 · exact Or.inr ⟨g,cap,cur,hv,Nat.le_trans hb hg,r⟩
theorem aJ {m cap:Nat} (h:w.ownsRow base e size (sL g m cap) n xs):∃sz,an w g e sz:=by
 rcases h.2 with ⟨h',_⟩ | ⟨g',cap',cur,h',_,hg,_,_,hs,_⟩
 · simp at h'
 · simp only [Value.slice.injEq,Option.some.injEq,Addr.mk.injEq,and_true] at h';obtain ⟨rfl,_⟩:=h';exact ⟨_,cur,hg,rfl⟩
def aZ (base:Nat) (w:World) (g n c:Nat) (B:List ag):Prop :=
 B.length=n∧(∀p ∈ B,(Lit.int .i64 p.2).wf=true)∧∃xs,w.ownsRow base 63 2 (sL g n c) n xs∧∀(i:Nat) (p:ag),B[i]?=some p→∃e d,xs[i*2]?=some (sL e p.1.length d)∧xs[i*2+1]?=some (iT p.2)∧ay w base e p.1.length d p.1
theorem aZ.below {B:List ag} (h:aZ base w g n c B) (hb:Bl w w'):aZ base w' g n c B:=by
 obtain ⟨h1,h2,xs,h3,h4⟩:=h;exact ⟨h1,h2,xs,h3.kept (row:=none) ⟨hb.os,hb.tape,hb.output,hb.size,fun k hk _=>hb.block k hk⟩ (.inr (by simp [Value.ownBlock])),fun i p hp=>by obtain ⟨e,d,a1,a2,a3⟩:=h4 i p hp;exact ⟨e,d,a1,a2,a3.below hb⟩⟩
theorem aZ.mono {B:List ag} (h:aZ base w g n c B) (hb:base'≤base):aZ base' w g n c B:=by
 obtain ⟨h1,h2,xs,h3,h4⟩:=h;exact ⟨h1,h2,xs,ew h3 hb,fun i p hp=>by obtain ⟨e,d,a1,a2,a3⟩:=h4 i p hp;exact ⟨e,d,a1,a2,a3.mono hb⟩⟩
theorem aZ.lt {B:List ag} (h:aZ base w g n c B):base≤g∧g<w.heap.size:=by
 obtain ⟨_,_,xs,h3,_⟩:=h;exact h3.lt g rfl
theorem aZ.grown {B:List ag} (h:aZ base w g n c B) (hG:an w G T sz) (t1:T≠63) (t2:T≠50) (hg:w.grownBy w' (some G)):aZ base w' g n c B:=by
 obtain ⟨h1,h2,xs,h3,h4⟩:=h;obtain ⟨s3,k3⟩:=aJ h3;refine ⟨h1,h2,xs,h3.kept hg (.inr ?_),fun i p hp=>?_⟩
 · intro e;have e':g=G:=by simpa [Value.ownBlock] using e
   subst e';exact t1 (hG.kind k3)
 · obtain ⟨e,d,a1,a2,a3⟩:=h4 i p hp;obtain ⟨s4,k4⟩:=aJ a3.owns;refine ⟨e,d,a1,a2,a3.grown hg (fun e'=>?_)⟩;have e'':e=G:=Option.some.inj e';subst e'';exact t2 (hG.kind k4)
theorem f7 {B:List ag} {m:Int} (h1:B.length=n) (h2:∀p ∈ B,(Lit.int .i64 p.2).wf=true) (h3:w.ownsRow base 63 2 (sL g n c) n xs)
 (h4:∀(i:Nat) (p:ag),B[i]?=some p→∃e d,xs[i*2]?=some (sL e p.1.length d)∧xs[i*2+1]?=some (iT p.2)∧ay w base e p.1.length d p.1)
 (hL:ay w base e L.length d L) (hm:(Lit.int .i64 m).wf=true) (hg:w.grownBy w' (some g)) (ho:w'.ownsRow base 63 2 (sL g' (n+1) c') (n+1) (xs++[sL e L.length d,iT m])):aZ base w' g' (n+1) c' (B++[(L,m)]):=by
 obtain ⟨s3,k3⟩:=aJ h3;have hne:∀{e d:Nat} {L:List ac},ay w base e L.length d L→ay w' base e L.length d L:=fun {e d L} hO=>by
  obtain ⟨s4,k4⟩:=aJ hO.owns;refine hO.grown hg (fun e'=>?_);have e'':e=g:=Option.some.inj e';subst e'';exact absurd (k3.kind k4) (by decide)
 have hxl:=h3.1;refine ⟨by rw [List.length_append,h1];rfl,fun p hp=>?_,_,ho,fun i p hp=>?_⟩
 · rcases List.mem_append.1 hp with h | h
   · exact h2 p h
   · rw [List.mem_singleton] at h;subst h;exact hm
 · by_cases hi:i<B.length
   · rw [List.getElem?_append_left hi] at hp;obtain ⟨e0,d0,a1,a2,a3⟩:=h4 i p hp;exact ⟨e0,d0,by rw [List.getElem?_append_left (by omega)];exact a1,by rw [List.getElem?_append_left (by omega)];exact a2,hne a3⟩
   · have hi':=(List.getElem?_eq_some_iff.1 hp).1;rw [List.length_append] at hi';have hi2:i=B.length:=by have:[(L,m)].length=1:=rfl;omega
     subst hi2;rw [List.getElem?_append_right (Nat.le_refl _),Nat.sub_self] at hp;cases hp;refine ⟨e,d,?_,?_,hne hL⟩
     · rw [List.getElem?_append_right (by omega),show B.length*2 - xs.length=0 by omega];rfl
     · rw [List.getElem?_append_right (by omega),show B.length*2+1 - xs.length=1 by omega];rfl
theorem aZ.runsIn {B:List ag} (h:aZ base w g n c B):az base w (pT g) n c B:=by
 obtain ⟨h1,h2,xs,h3,h4⟩:=h;have hrc:=cj h3;refine ⟨h1,hrc.1,hrc.2,(fun e=>by cases e),?_,?_⟩
 · rintro x e _;cases e;exact ⟨(h3.lt g rfl).2,rfl,(h3.lt g rfl).1⟩
 · rintro x e i hi;cases e;obtain ⟨e0,d0,a1,a2,a3⟩:=h4 i _ (List.getElem?_eq_getElem hi);refine ⟨h2 _ (List.getElem_mem hi),_,_,_,?_,?_,a3.entsAt,fun x e _=>by cases e;exact a3.lt.1⟩
   · simp only [Nat.zero_add];exact (h3.cellAt _ (by omega)).trans a1
   · simp only [Nat.zero_add];exact (h3.cellAt _ (by omega)).trans a2
def tS (xs:List Value):Prop:=∀(i j gi ni di gj nj dj:Nat),i<j→xs[i]?=some (sL gi ni di)→xs[j]?=some (sL gj nj dj)→gi≠gj
theorem uZ (h:tS xs) (hl:∀(i gi ni di:Nat),xs[i]?=some (sL gi ni di)→gi≠g):tS (xs++[sL g n d]):=by
 intro i j gi ni di gj nj dj hij hi hj;have hj':=(List.getElem?_eq_some_iff.1 hj).1;rw [List.length_append] at hj';have h1:([sL g n d]:List Value).length=1:=rfl;rw [List.getElem?_append_left (by omega)] at hi;by_cases hx:j<xs.length
 · rw [List.getElem?_append_left hx] at hj;exact h i j gi ni di gj nj dj hij hi hj
 · have hje:j=xs.length:=by omega
   subst hje;rw [List.getElem?_append_right (Nat.le_refl _),Nat.sub_self] at hj;cases hj;exact hl i gi ni di hi
def dS (base:Nat) (w:World) (G n c:Nat) (V:List (List ag)):Prop :=
 V.length=n∧∃xs,w.ownsRow base 61 1 (sL G n c) n xs∧(∀(i:Nat) (B:List ag),V[i]?=some B→∃g d,xs[i]?=some (sL g B.length d)∧aZ base w g B.length d B)∧tS xs
theorem dS.below (h:dS base w g n c V) (hb:Bl w w'):dS base w' g n c V:=by
 obtain ⟨h1,xs,h3,h4,h5⟩:=h;exact ⟨h1,xs,h3.kept (row:=none) ⟨hb.os,hb.tape,hb.output,hb.size,fun k hk _=>hb.block k hk⟩ (.inr (by simp [Value.ownBlock])),(fun i p hp=>by obtain ⟨e,d,a1,a3⟩:=h4 i p hp;exact ⟨e,d,a1,a3.below hb⟩),h5⟩
theorem uE {B:List ag} (h1:V.length=n) (h3:w.ownsRow base 61 1 (sL g n c) n xs)
 (h4:∀(i:Nat) (B:List ag),V[i]?=some B→∃g d,xs[i]?=some (sL g B.length d)∧aZ base w g B.length d B)
 (hL:aZ base w e B.length d B) (hg:w.grownBy w' (some g)) (ho:w'.ownsRow base 61 1 (sL g' (n+1) c') (n+1) (xs++[sL e B.length d])) (hd:tS xs) (hl:∀(i gi ni di:Nat),xs[i]?=some (sL gi ni di)→gi≠e):dS base w' g' (n+1) c' (V++[B]):=by
 obtain ⟨s3,k3⟩:=aJ h3;have hxl:=h3.1;refine ⟨by rw [List.length_append,h1];rfl,_,ho,fun i p hp=>?_,uZ hd hl⟩;by_cases hi:i<V.length
 · rw [List.getElem?_append_left hi] at hp;obtain ⟨e0,d0,a1,a3⟩:=h4 i p hp;exact ⟨e0,d0,by rw [List.getElem?_append_left (by omega)];exact a1,a3.grown k3 (by decide) (by decide) hg⟩
 · have hi':=(List.getElem?_eq_some_iff.1 hp).1;rw [List.length_append] at hi';have hi2:i=V.length:=by have:[B].length=1:=rfl;omega
   subst hi2;rw [List.getElem?_append_right (Nat.le_refl _),Nat.sub_self] at hp;cases hp;exact ⟨e,d,by rw [List.getElem?_append_right (by omega),show V.length - xs.length=0 by omega];rfl,hL.grown k3 (by decide) (by decide) hg⟩
theorem dS.grown (h:dS base w g n c V) (hG:an w G T sz) (t0:T≠61) (t1:T≠63) (t2:T≠50) (hg:w.grownBy w' (some G)):dS base w' g n c V:=by
 obtain ⟨h1,xs,h3,h4,h5⟩:=h;obtain ⟨s3,k3⟩:=aJ h3;refine ⟨h1,xs,h3.kept hg (.inr ?_),(fun i p hp=>by obtain ⟨e,d,a1,a3⟩:=h4 i p hp;exact ⟨e,d,a1,a3.grown hG t1 t2 hg⟩),h5⟩;intro e;have e':g=G:=by simpa [Value.ownBlock] using e
 subst e';exact t0 (hG.kind k3)
theorem dS.mono (h:dS base w g n c V) (hb:base'≤base):dS base' w g n c V:=by
 obtain ⟨h1,xs,h3,h4,h5⟩:=h;exact ⟨h1,xs,ew h3 hb,(fun i p hp=>by obtain ⟨e,d,a1,a3⟩:=h4 i p hp;exact ⟨e,d,a1,a3.mono hb⟩),h5⟩
theorem dS.levelsIn (h:dS base w g n c V):bH base w (pT g) n c V:=by
 obtain ⟨h1,xs,h3,h4,_⟩:=h;have hrc:=cj h3;refine ⟨h1,hrc.1,hrc.2,(fun e=>by cases e),?_,?_⟩
 · rintro x e _;cases e;exact ⟨(h3.lt g rfl).2,rfl,(h3.lt g rfl).1⟩
 · rintro x e i hi;cases e;obtain ⟨e0,d0,a1,a3⟩:=h4 i _ (List.getElem?_eq_getElem hi);refine ⟨_,_,_,?_,a3.runsIn⟩;simp only [Nat.zero_add];exact (h3.cellAt _ (by omega)).trans a1
theorem nU (lo:Nat) (a:Option Addr) (nv cv:Nat) (V:List (List ag)) (w:World) (hV:bH lo w a nv cv V) (hnv:nv≤100) (hS:∀B ∈ V,B.length≤100∧∀r ∈ B,1≤r.1.length∧r.1.length≤10000) :
 Calls Tryz.prog 120 #[.slice a nv cv] w fun e w'=>∃G c,e=.returned (sL G nv c)∧dS w.heap.size w' G nv c V∧Bl w w':=by
 have HVL:Hid (V.length=nv):=hV.length;have HV:=b6 hV;have HS:=b6 hS;clear hV hS;obtain ⟨i0,hi,hz0,hz1,hz2⟩:=info_parts Tryz.infoEnt;obtain ⟨j0,hj,hy0,hy1,hy2⟩:=info_parts Tryz.infoRun;obtain ⟨l0,hl,hx0,hx1,hx2⟩:=info_parts Tryz.infoRunL;have HE0:Hid (dS w.heap.size (w.alloc (.cells #[] 61)) w.heap.size 0 0 (V.take 0)):=by
  have:=World.ownsRow_lit (base:=w.heap.size) (e:=61) (size:=1) w #[] 0 (Nat.le_refl _) (by simp) (by simp);exact ⟨by simp,_,this,(fun i B hB=>by simp at hB),fun i j gi ni di gj nj dj _ hi _=>by simp at hi⟩
 have hB0:Bl w (w.alloc (.cells #[] 61)):=bZ;go_enter Tryz.func120,Tryz.ntmps120
 go_wp2;go_loopw [3,4] (fun o iv wr=>∃(i G c:Nat),i≤nv∧iv=iT i∧o=sL G i c∧dS w.heap.size wr G i c (V.take i)∧Bl w wr) (fun _ iv _=>nv - (intOf iv).toNat)
 case atStart=>exact ⟨0,_,0,Nat.zero_le _,rfl,rfl,HE0.out,hB0⟩
 case round =>
  clear HE0 hB0;obtain ⟨i,G,c0,hin,rfl,rfl,hLG,hbw⟩:=hrel;have HLG:Hid (dS w.heap.size wr G i c0 (V.take i)):=hLG;have HBW:Hid (Bl w wr):=hbw;clear hLG;by_cases hlt:i<nv
  · have hltI:(i:Int)<(nv:Int):=by omega
    obtain ⟨b,off,rfl,hbb⟩:=HV.out.form (by omega);obtain ⟨B,aB,nB,cB,hB,gB,hRB⟩:=HV.out.level (Below.refl _ w) i hlt;have HGI:Hid (V[i]?=some B):=hB;have HSB:Hid (B.length≤100∧∀r ∈ B,1≤r.1.length∧r.1.length≤10000):=HS.out B (List.mem_of_getElem? hB);have HNB:Hid (B.length=nB):=hRB.length;have HRB:Hid (az lo w aB nB cB B):=hRB;have HCB:Hid (w.cell? ⟨b,off+i,none⟩=some (.slice aB nB cB)):=gB;have hnB:nB≤100:=by have:=HSB.out.1;have:=HNB.out;omega
    clear hB gB hRB hbw;go_upto_region 6 with fail
    obtain ⟨Wi,hWi⟩:=aS wr.heap.size;obtain ⟨wq,hwq⟩:=aS (wr.alloc (.cells #[] 63));have kq:Bl wr wq:=by rw [hwq];exact bZ
    have HG0:Hid (aZ Wi wq Wi 0 0 (B.take 0)):=by
     have:=World.ownsRow_lit (base:=wr.heap.size) (e:=63) (size:=2) wr #[] 0 (Nat.le_refl _) (by simp) (by simp);rw [hwq,hWi];exact ⟨by simp,fun p hp=>by simp at hp,_,this,fun i B hB=>by simp at hB⟩
    have HKQ:Hid (Below Wi wr wq):=by rw [hWi];exact kq
    have HWW:Hid (w.heap.size≤Wi∧Wi=wr.heap.size):=⟨by rw [hWi];exact HBW.out.size,hWi⟩;rw [← hwq,← hWi];clear hwq hWi kq;obtain ⟨Wq,hWq⟩:=aS wr;rw [← hWq] at HLG HBW HKQ HWW;clear hWq;go_wp2;go_loopw [5,6] (fun o kv wr=>∃(j g c:Nat),j≤nB∧kv=iT j∧o=sL g j c∧aZ Wi wr g j c (B.take j)∧Below Wi Wq wr) (fun _ kv _=>nB - (intOf kv).toNat)
    case atStart=>exact ⟨0,_,0,Nat.zero_le _,rfl,rfl,HG0.out,HKQ.out⟩
    case round =>
     clear HG0 HKQ;obtain ⟨j,g,c,hjn,rfl,rfl,hRG,hbi⟩:=hrel;have HRG:Hid (aZ Wi wr g j c (B.take j)):=hRG;have HBI:Hid (Below Wi Wq wr):=hbi;have HGW:Hid (Wi≤g):=hRG.lt.1;have hbr:Bl w wr:=HBW.out.trans (hbi.mono HWW.out.1);have HWI:Hid (Wi≤wr.heap.size):=by have h1:=HWW.out.2;have h2:=hbi.size;show Wi≤_;omega
     have tl:=cell_later hbr HCB.out;have zb:=Nat.lt_of_lt_of_le hbb hbr.size;clear hRG hbi;by_cases hkn:j<nB
     · have hknI:(j:Int)<(nB:Int):=by omega
       obtain ⟨rb,ro,rfl,hrb⟩:=HRB.out.form (by omega);obtain ⟨L,mm,s,m,d,hgj,hmw,r0,r1,hLk⟩:=HRB.out.run hbr j hkn;have HGJ:Hid (B[j]?=some (L,mm)):=hgj;have HMW:Hid ((Lit.int .i64 mm).wf=true):=hmw;have hsz:=HSB.out.2 _ (List.mem_of_getElem? hgj);simp only at hsz;have HLM:Hid (L.length=m):=hLk.1.length;have hm:1≤m∧m≤10000:=by have:=HLM.out;omega
       obtain ⟨sb,so,rfl,hsb⟩:=hLk.1.form (by omega);have HLE:Hid (aj wr (some ⟨sb,so,none⟩) m d L):=hLk.1;have zr:=Nat.lt_of_lt_of_le hrb hbr.size;have k0:Bl wr wr.drew:=(Below.refl _ wr).drew;have HMK:Hid (∀w',Bl wr w'→(fun w'=>w'.cell? ⟨b,off+i,none⟩=some (sO rb ro nB cB)∧w'.cell? ⟨rb,ro+j*2,none⟩=some (sO sb so m d)∧w'.cell? ⟨rb,ro+j*2+1,none⟩=some (iT mm)∧b<w'.heap.size∧rb<w'.heap.size) w'):=fun w' kk=>⟨cell_later kk tl,cell_later kk r0,cell_later kk r1,Nat.lt_of_lt_of_le zb kk.size,Nat.lt_of_lt_of_le zr kk.size⟩
       have HMK2:Hid (∀(wb w':World),wb.grownBy w' (some g)→Bl wr wb→(fun w'=>w'.cell? ⟨b,off+i,none⟩=some (sO rb ro nB cB)∧w'.cell? ⟨rb,ro+j*2,none⟩=some (sO sb so m d)∧w'.cell? ⟨rb,ro+j*2+1,none⟩=some (iT mm)∧b<w'.heap.size∧rb<w'.heap.size) w'):=fun wb w' hg kk=>by
        have hgl:=HGW.out;have hww:=HWW.out;have hbw:=HBW.out.size;have hne:∀{x:Nat},x<w.heap.size→some x≠some g:=fun {x} hx e=>by have:=Option.some.inj e;omega
        exact ⟨hg.cell (cell_later kk tl) (hne hbb),hg.cell (cell_later kk r0) (hne hrb),hg.cell (cell_later kk r1) (hne hrb),Nat.lt_of_lt_of_le zb (Nat.le_trans kk.size hg.size),Nat.lt_of_lt_of_le zr (Nat.le_trans kk.size hg.size)⟩
       clear hgj hmw hLk hsz hsb;go_wp2_with fail
       clear tl r0 r1 zr zb;refine eC HMK k0 fun aa=>?_
       generalize wr.drew=wd at k0 aa ⊢;refine aO 0 1 aa ?_;refine aO 2 8 aa ?_;refine aO 11 8 aa ?_;refine aI 1 fun K hK=>?_
       go_simp;have ka0:Bl wd (wd.alloc (.cells #[] 50)):=bZ;have oa:=bQ wd wr.heap.size k0.size;have ka:=k0.trans (ka0.mono k0.size);have ga1:wr.heap.size≤wd.heap.size:=k0.size;generalize wd.heap.size=ga at oa ga1 ⊢;generalize wd.alloc (.cells #[] 50)=wa at oa ka ⊢;clear ka0;refine hK.out _ _ (HMK.out _ ka) fun aa=>?_
       (try go_frame);refine aI 10 fun K hK=>?_
       refine ax rfl (.tmp 25) (.tmp 33) 28 rfl wr.heap.size 50 i0 _ 5 56 Tryz.underlying28 hi hz0 hz1 hz2 rfl (Nat.succ_pos 4) _ _ _ rfl oa.owns ⟨sb,so,none⟩ m d (aE L) rfl (by rw [bi,HLM.out]) (iI (HLE.out.keep ka)) (aQ _) ?_ ?_ ?_ ?_
       · unfold maxLen;omega
       · omega
       · exact ka.size
       intro v1 w1 ho1 hg1 hn1;obtain ⟨e1,d1,rfl⟩:=aG ho1 hn1;have hg1':wa.grownBy w1 (some ga):=hg1;have k1:Bl wr w1:=ka.grown hg1' ka.size (fun k e=>by cases e;exact ga1);have o1:ay w1 wr.heap.size e1 m d1 L:=⟨by have h1:=ho1;rw [Nat.zero_add] at h1;simpa [aE] using h1,HLM.out,HLE.out.ents⟩;rw [Nat.zero_add];clear ho1 hg1 hn1 hg1' oa ga1 ka;refine hK.out _ _ (HMK.out _ k1) fun aa=>?_
       (try go_frame);refine aO 19 1 aa ?_;refine aI 20 fun K hK=>?_
       go_simp;have kb0:Bl w1 (w1.alloc (.cells #[sL e1 m d1,iT mm] 63)):=bZ;have kb:=k1.trans (kb0.mono k1.size);have ob:=o1.below kb0;have nw:=bT w1 (sL e1 m d1) (iT mm) 63;generalize w1.heap.size=gb at nw ⊢;generalize w1.alloc (.cells #[sL e1 m d1,iT mm] 63)=wb at kb ob nw ⊢;clear kb0;refine hK.out _ _ (HMK.out _ kb) fun aa=>?_
       (try go_frame);refine aI 21 fun K hK=>?_
       obtain ⟨hl2,hw2,xs2,ho2,hx2⟩:=HRG.out.below kb;refine ax rfl (.tmp 24) (.tmp 44) 61 rfl Wi 63 j0 _ 2 32 Tryz.underlying61 hj hy0 hy1 hy2 rfl (Nat.succ_pos 1) _ _ _ rfl ho2 ⟨gb,0,none⟩ 1 1 [sL e1 m d1,iT mm] rfl rfl nw (by simp [Value.oneCell']) ?_ ?_ ?_ ?_
       · unfold maxLen;omega
       · omega
       · have h1:=kb.size;have h2:=HWI.out;omega
       intro v2 w2 ho3 hg2 hn2;obtain ⟨g2,c2,rfl⟩:=aG ho3 hn2;have hg2:wb.grownBy w2 (some g):=hg2;have hG2:=f7 (L:=L) hl2 hw2 ho2 hx2 (by rw [HLM.out];exact ob.mono HWI.out) HMW.out hg2 (by rw [HLM.out];exact ho3);have k2:=(HBI.out.trans (kb.mono HWI.out)).grown hg2 (Nat.le_trans HWI.out kb.size) (fun k e=>by cases e;exact HGW.out);refine hK.out _ _ (HMK2.out _ w2 hg2 kb) fun aa=>?_
       (try go_frame);refine aO 22 1 aa ?_;refine dN ?_;have HG2:Hid (aZ Wi w2 g2 (j+1) c2 (B.take (j+1))):=by rw [List.take_add_one,HGJ.out];exact hG2
       have HK2:Hid (Below Wi Wq w2):=k2;clear aa hG2 k2 ho3 hg2 hn2 hl2 hw2 ho2 hx2 kb ob nw k1 o1 k0;go_wp2;go_roundw
       case rel=>exact ⟨j+1,g2,c2,by omega,by go_num,rfl,HG2.out,HK2.out⟩
       case measure=>simp [intOf];omega
     · have hknI:¬(j:Int)<(nB:Int):=by omega
       obtain rfl:j=nB:=by omega
       have kx:Bl Wq wr:=by have h1:=HBI.out;rw [HWW.out.2] at h1;exact h1
       obtain ⟨q1,xs,p2,p3,p4⟩:=HLG.out;have HLOW:Hid (∀(i' gi ni di:Nat),xs[i']?=some (sL gi ni di)→gi≠g):=fun i' gi ni di hx=>by
        have hi':=(List.getElem?_eq_some_iff.1 hx).1;have hxl:=p2.1;obtain ⟨B',hB'⟩:∃B',(V.take i)[i']?=some B':=⟨_,List.getElem?_eq_getElem (by rw [q1];omega)⟩;obtain ⟨g',d',a1,a3⟩:=p3 i' B' hB';rw [hx] at a1;cases a1;have h1:=a3.lt.2;have h2:=HGW.out;have h3:=HWW.out.2;omega
       have HRW:Hid (aZ w.heap.size wr g j c B):=by
        have h1:=HRG.out.mono HWW.out.1;rw [List.take_of_length_le (by rw [HNB.out];omega)] at h1;exact h1
       have HBR:Hid (Bl w wr):=hbr;have wi:IntKind.i64.wrap ((i:Int)+1)=((i+1:Nat):Int):=by rw [IntWalk.i64_left];unfold wrap64;omega
       clear HLG HRG;have HDX:Hid (tS xs):=p4;have ka:Bl wr (wr.alloc (.cells #[sL g j c] 61)):=bZ;have kxa:=kx.trans (ka.mono kx.size);have q2:=p2.kept (row:=none) ⟨kxa.os,kxa.tape,kxa.output,kxa.size,fun k hk _=>kxa.block k hk⟩ (.inr (by simp [Value.ownBlock]));have q3:∀(i':Nat) (B:List ag),(V.take i)[i']?=some B→∃e d,xs[i']?=some (sL e B.length d)∧aZ w.heap.size (wr.alloc (.cells #[sL g j c] 61)) e B.length d B:=fun i' B hB=>by obtain ⟨g',d',a1,a3⟩:=p3 i' B hB;exact ⟨g',d',a1,a3.below kxa⟩
       clear p2 p3 p4 kx kxa;have HQ:Hid (_∧_):=⟨q2,q3⟩;have hbz:=hbr.size;clear hbr;go_wp2_with (at_builtin;refine wpList_append_own _ rfl _ _ 29 rfl w.heap.size 61 l0 _ 1 24 Tryz.underlying29 hl hx0 hx1 hx2 rfl (by decide) _ _ _ rfl HQ.out.1 ⟨wr.heap.size,0,none⟩ 1 1 [sL g j c] rfl rfl (eD _ _ _) (by simp [Value.oneCell']) (by unfold maxLen;omega) (by omega) (by simp;omega) ?_;intro v2 w2 hown2 hgrow2 hnil2;obtain ⟨g2,c2,rfl⟩:=aG hown2 hnil2)
       go_roundw
       case rel =>
        have hgr:(wr.alloc (.cells #[sL g j c] 61)).grownBy w2 (some G):=hgrow2;have hnb:=HNB.out;have hpush:=uE (B:=B) q1 HQ.out.1 HQ.out.2 (by rw [hnb];exact HRW.out.below ka) hgr (by rw [hnb];exact hown2) HDX.out HLOW.out;refine ⟨i+1,g2,c2,by omega,by go_num,rfl,by rw [List.take_add_one,HGI.out];exact hpush,?_⟩;exact (HBR.out.alloc HBR.out.size _).grown hgr (by simp;omega) (fun k e=>by cases e;exact (HQ.out.1.lt G rfl).1)
       case measure=>simp [intOf];omega
  · have hltI:¬(i:Int)<(nv:Int):=by omega
    obtain rfl:i=nv:=by omega
    have HLV:Hid (dS w.heap.size wr G i c0 V):=by
     have:=HLG.out;rw [List.take_of_length_le (by rw [HVL.out];omega)] at this;exact this
    clear hbw;go_wp2;go_ret;exact ⟨G,c0,rfl,HLV.out,HBW.out⟩
structure ar (w:World) (b:Nat) (u0 u1 u2 u3:Value):Prop where
 c0:w.cell? ⟨b,0,none⟩=some u0
 c1:w.cell? ⟨b,1,none⟩=some u1
 c2:w.cell? ⟨b,2,none⟩=some u2
 c3:w.cell? ⟨b,3,none⟩=some u3
 fz:∀o,w.frozen? ⟨b,o,none⟩=false
theorem ar.lt (h:ar w b u0 u1 u2 u3):b<w.heap.size:=World.block_lt_of_cell? w _ h.c0
theorem ar.new (w:World) (t:TypeId) (u0 u1 u2 u3:Value):ar (w.alloc (.cells #[u0,u1,u2,u3] t)) w.heap.size u0 u1 u2 u3:=⟨by simp,by simp,by simp,by simp,fun o=>by simp⟩
theorem ar.below {B:Nat} (h:ar w b u0 u1 u2 u3) (hb:Below B w w') (hB:b<B):ar w' b u0 u1 u2 u3 :=
 ⟨(hb.cell (p:=⟨b,0,none⟩) hB).trans h.c0,(hb.cell (p:=⟨b,1,none⟩) hB).trans h.c1,(hb.cell (p:=⟨b,2,none⟩) hB).trans h.c2,(hb.cell (p:=⟨b,3,none⟩) hB).trans h.c3,fun o=>(hb.frozen (p:=⟨b,o,none⟩) hB).trans (h.fz o)⟩
theorem ar.keep (h:ar w b u0 u1 u2 u3) (hb:Bl w w'):ar w' b u0 u1 u2 u3:=h.below hb h.lt
theorem ar.alloc (h:ar w b u0 u1 u2 u3) (o:Obj):ar (w.alloc o) b u0 u1 u2 u3:=h.keep bZ
theorem aq {b' o':Nat} (x:Value) (h:¬(b=b'∧o=o')):(w.setCell ⟨b',o',none⟩ x).cell? ⟨b,o,none⟩=w.cell? ⟨b,o,none⟩ :=
 World.cell?_setCell_other _ _ _ _ (fun e=>h (by cases e;exact ⟨rfl,rfl⟩))
theorem ar.other (h:ar w b u0 u1 u2 u3) {b' o:Nat} (hp:b'≠b) (x:Value):ar (w.setCell ⟨b',o,none⟩ x) b u0 u1 u2 u3 :=
 ⟨(aq x (fun e=>hp e.1.symm)).trans h.c0,(aq x (fun e=>hp e.1.symm)).trans h.c1,(aq x (fun e=>hp e.1.symm)).trans h.c2,(aq x (fun e=>hp e.1.symm)).trans h.c3,fun o=>by rw [World.frozen?_setCell];exact h.fz o⟩
theorem ar.set0 (h:ar w b u0 u1 u2 u3) (x:Value):ar (w.setCell ⟨b,0,none⟩ x) b x u1 u2 u3 :=
 ⟨World.cell?_setCell_same' _ _ _ (by rw [h.c0];rfl),(aq x (by simp)).trans h.c1,(aq x (by simp)).trans h.c2,(aq x (by simp)).trans h.c3,fun o=>by rw [World.frozen?_setCell];exact h.fz o⟩
theorem ar.set1 (h:ar w b u0 u1 u2 u3) (x:Value):ar (w.setCell ⟨b,1,none⟩ x) b u0 x u2 u3 :=
 ⟨(aq x (by simp)).trans h.c0,World.cell?_setCell_same' _ _ _ (by rw [h.c1];rfl),(aq x (by simp)).trans h.c2,(aq x (by simp)).trans h.c3,fun o=>by rw [World.frozen?_setCell];exact h.fz o⟩
theorem ar.set2 (h:ar w b u0 u1 u2 u3) (x:Value):ar (w.setCell ⟨b,2,none⟩ x) b u0 u1 x u3 :=
 ⟨(aq x (by simp)).trans h.c0,(aq x (by simp)).trans h.c1,World.cell?_setCell_same' _ _ _ (by rw [h.c2];rfl),(aq x (by simp)).trans h.c3,fun o=>by rw [World.frozen?_setCell];exact h.fz o⟩
theorem ar.set3 (h:ar w b u0 u1 u2 u3) (x:Value):ar (w.setCell ⟨b,3,none⟩ x) b u0 u1 u2 x :=
 ⟨(aq x (by simp)).trans h.c0,(aq x (by simp)).trans h.c1,(aq x (by simp)).trans h.c2,World.cell?_setCell_same' _ _ _ (by rw [h.c3];rfl),fun o=>by rw [World.frozen?_setCell];exact h.fz o⟩
theorem cE {m:Nat} (h:w.ownsRow base T size (sL g m c) n xs) (hb:Bl w w'):w'.ownsRow base T size (sL g m c) n xs:=h.kept (row:=none) ⟨hb.os,hb.tape,hb.output,hb.size,fun k hk _=>hb.block k hk⟩ (.inr (by simp [Value.ownBlock]))
theorem cC {m:Nat} (h:w.ownsRow base T size (sL g m c) n xs) (h':w.ownsRow base' T' size' (sL g' m' c') n' xs') (hT:T≠T') (hg:w.grownBy w' (some g')):w'.ownsRow base T size (sL g m c) n xs:=by
 refine h.kept hg (.inr fun e=>?_);have e':g=g':=by simpa [Value.ownBlock] using e
 subst e';obtain ⟨_,k1⟩:=aJ h;obtain ⟨_,k2⟩:=aJ h';exact hT (k1.kind k2)
theorem dw (h:ay w base g n c L) (h':w.ownsRow base' T' size' (sL g' m' c') n' xs') (hT:50≠T') (hg:w.grownBy w' (some g')):ay w' base g n c L:=⟨cC h.owns h' hT hg,h.len,h.ents⟩
theorem gg (h:dS base w g n c V) (h':w.ownsRow base' T' size' (sL g' m' c') n' xs') (t0:T'≠61) (t1:T'≠63) (t2:T'≠50) (hg:w.grownBy w' (some g')):dS base w' g n c V:=by
 obtain ⟨_,k⟩:=aJ h';exact h.grown k t0 t1 t2 hg
theorem xg {lo:Nat} (h:bG lo w (some ⟨b,o,none⟩) n c S):∀j u,(S.map iT)[j]?=some u→w.cell? ((⟨b,o,none⟩:Addr).add j)=some u:=by
 intro j u hj;rw [Go.WideShapes.add_plain];rw [List.getElem?_map] at hj;cases hx:S[j]? with
 | none=>rw [hx] at hj;cases hj
 | some z =>
  rw [hx] at hj;cases hj;have hjl:j<n:=by rw [← h.length];exact (List.getElem?_eq_some_iff.1 hx).1
  obtain ⟨z',hz',_,cz⟩:=h.num (Below.refl _ w) j hjl;rw [hx] at hz';cases hz';exact cz
structure cJ (base:Nat) (w:World) (g1 nm c1 G nv c g3 ns c3:Nat) (M:List ac) (V:List (List ag)) (S:List Int):Prop where
 mem:ay w base g1 nm c1 M
 levs:dS base w G nv c V
 slen:S.length=ns
 swf:∀z ∈ S,(Lit.int .i64 z).wf=true
 sn:w.ownsRow base 3 1 (sL g3 ns c3) ns (S.map iT)
theorem cJ.below (h:cJ base w g1 nm c1 G nv c g3 ns c3 M V S) (hb:Bl w w'):cJ base w' g1 nm c1 G nv c g3 ns c3 M V S:=⟨h.mem.below hb,h.levs.below hb,h.slen,h.swf,cE h.sn hb⟩
theorem cJ.mono (h:cJ base w g1 nm c1 G nv c g3 ns c3 M V S) (hb:base'≤base):cJ base' w g1 nm c1 G nv c g3 ns c3 M V S:=⟨h.mem.mono hb,h.levs.mono hb,h.slen,h.swf,ew h.sn hb⟩
theorem aZ.low {B:List ag} (h:aZ base w g n c B) (hX:X<base) (hg:w.grownBy w' (some X)):aZ base w' g n c B:=by
 obtain ⟨h1,h2,xs,h3,h4⟩:=h;refine ⟨h1,h2,xs,h3.kept hg (.inr fun e=>?_),fun i p hp=>?_⟩
 · have e':g=X:=by simpa [Value.ownBlock] using e
   have:=(h3.lt g rfl).1;omega
 · obtain ⟨e,d,a1,a2,a3⟩:=h4 i p hp;exact ⟨e,d,a1,a2,a3.grown hg (fun e'=>by have h5:e=X:=Option.some.inj e';have:=a3.lt.1;omega)⟩
theorem cJ.low (h:cJ base w g1 nm c1 G nv c g3 ns c3 M V S) (hX:X<base) (hg:w.grownBy w' (some X)):cJ base w' g1 nm c1 G nv c g3 ns c3 M V S:=by
 have hk:∀{T size n m g c:Nat} {xs:List Value},w.ownsRow base T size (sL g m c) n xs→w'.ownsRow base T size (sL g m c) n xs:=fun {T size n m g c xs} h3=>h3.kept hg (.inr fun e=>by
  have e':g=X:=by simpa [Value.ownBlock] using e
  have:=(h3.lt g rfl).1;omega)
 obtain ⟨h1,xs,h3,h4,h5⟩:=h.levs;exact ⟨⟨hk h.mem.owns,h.mem.len,h.mem.ents⟩,⟨h1,xs,hk h3,(fun i p hp=>by obtain ⟨e,d,a1,a3⟩:=h4 i p hp;exact ⟨e,d,a1,a3.low hX hg⟩),h5⟩,h.slen,h.swf,hk h.sn⟩
theorem cy (w:World) (g o:Nat) (u:Value):w.grownBy (w.setCell ⟨g,o,none⟩ u) (some g):=⟨rfl,rfl,rfl,by simp [World.setCell],fun k _ hk=>Below.heap_setCell _ _ _ _ (fun e=>hk (by rw [e]))⟩
theorem cJ.four (h:cJ base w g1 nm c1 G nv c g3 ns c3 M V S) (hX:X<base) (u0 u1 u2 u3:Value):cJ base ((((w.setCell ⟨X,0,none⟩ u0).setCell ⟨X,1,none⟩ u1).setCell ⟨X,2,none⟩ u2).setCell ⟨X,3,none⟩ u3) g1 nm c1 G nv c g3 ns c3 M V S :=
 (((h.low hX (cy _ _ _ _)).low hX (cy _ _ _ _)).low hX (cy _ _ _ _)).low hX (cy _ _ _ _)
theorem cJ.treeIn (h:cJ base w g1 nm c1 G nv c g3 ns c3 M V S):bf base w (pT g1) nm c1 (pT G) nv c (pT g3) ns c3 M V S:=by
 have hrc:=cj h.sn;have hl:=h.slen;refine ⟨⟨h.mem.entsAt,fun x e _=>by cases e;exact h.mem.lt.1⟩,h.levs.levelsIn,⟨h.slen,hrc.1,hrc.2,h.swf,(fun e=>by cases e),?_,?_⟩⟩
 · rintro x e _;cases e;exact ⟨(h.sn.lt g3 rfl).2,rfl,(h.sn.lt g3 rfl).1⟩
 · rintro x e i hi;cases e;simp only [Nat.zero_add];have h1:=h.sn.cellAt i (by omega);rw [List.getElem?_map,List.getElem?_eq_getElem hi] at h1;exact h1
def pF (w:World) (p:Nat) (P:List (List Int)):Prop:=p<w.heap.size∧∀(i:Nat) (S:List Int),P[i]?=some S→∃b o c,w.cell? ⟨p,i,none⟩=some (sO b o S.length c)∧bG 0 w (some ⟨b,o,none⟩) S.length c S
theorem pF.keep {p:Nat} {P:List (List Int)} (h:pF w p P) (hb:Bl w w'):pF w' p P :=
 ⟨Nat.lt_of_lt_of_le h.1 hb.size,fun i S hS=>by obtain ⟨b,o,c,h1,h2⟩:=h.2 i S hS;exact ⟨b,o,c,cell_later hb h1,h2.keep hb⟩⟩
end Go.Proofs.YtpobkmjicbobdaaGreat
