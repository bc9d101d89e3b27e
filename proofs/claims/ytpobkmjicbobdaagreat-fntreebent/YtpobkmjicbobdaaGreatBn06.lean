/- Walks. -/
import Derived.Test.YtpobkmjicbobdaaGreatBn05
namespace Go.Proofs.YtpobkmjicbobdaaGreat
set_option maxRecDepth 100000
set_option maxHeartbeats 40000000
open Go.RowKit
variable {B:List ag} {M:List ac} {S:List Int} {V:List (List ag)} {c n:Nat} {q:Int} {r:ag} {w:World}
theorem aX.move {w':World} {base g:Nat} {P:List (List ac)} {vs:List Value} {y y':Option Nat} (h:aX w base g n c P vs y) (hg:w.grownBy w' y) (hy:y'=y∨y'=some w.heap.size):aX w' base g n c P vs y' where
 owns:=h.owns.kept hg (.inr h.ne)
 len:=h.len
 ne:=(h.turn (y':=y') (by rcases hy with e | e;exact .inl e;exact .inr (.inr e))).ne
 lists:=fun i A hA=>by
  obtain ⟨s,m,d,hv,hE,hx⟩:=h.lists i A hA
  obtain ⟨s',m',d',hv',_,hx'⟩:=(h.turn (y':=y') (by rcases hy with e | e;exact .inl e;exact .inr (.inr e))).lists i A hA
  rw [hv] at hv'
  cases hv'
  exact ⟨s,m,d,hv,hE.grownB hg (fun x e hp=>(hx x e hp).2),hx'⟩
theorem iI {b o:Nat} {L:List ac} (h:aj w (some ⟨b,o,none⟩) n c L):∀j u,(aE L)[j]?=some u→w.cell? ((⟨b,o,none⟩:Addr).add j)=some u:=by
 intro j u hj;have hlt:j<(aE L).length:=(List.getElem?_eq_some_iff.1 hj).1;rw [bi] at hlt;have hi:j / 5<L.length:=by omega
 obtain ⟨c0,c1,c2,c3,c4⟩:=h.cells _ rfl (j / 5) hi;obtain ⟨r0,r1,r2,r3,r4⟩:=fs L (j / 5) L[j / 5] (List.getElem?_eq_getElem hi);rw [Go.WideShapes.add_plain];simp only at c0 c1 c2 c3 c4;have:j=j / 5*5∨j=j / 5*5+1∨j=j / 5*5+2∨j=j / 5*5+3∨j=j / 5*5+4:=by omega
 rcases this with e | e | e | e | e
 · rw [← e] at r0 c0;rw [r0] at hj;cases hj;exact c0
 · rw [Nat.add_assoc,← e] at c1;rw [← e] at r1;rw [r1] at hj;cases hj;exact c1
 · rw [Nat.add_assoc,← e] at c2;rw [← e] at r2;rw [r2] at hj;cases hj;exact c2
 · rw [Nat.add_assoc,← e] at c3;rw [← e] at r3;rw [r3] at hj;cases hj;exact c3
 · rw [Nat.add_assoc,← e] at c4;rw [← e] at r4;rw [r4] at hj;cases hj;exact c4
def bm (B:List ag):List ac:=B.flatMap (·.1)
def tV (M:List ac) (B:List ag) (j:Nat):List (List ac):=M :: (B.drop j).reverse.map (·.1)
def lowP (M:List ac) (V:List (List ag)) (k:Nat):List (List ac):=tV M (V.headD []) 0++((V.take k).drop 1).map bm
def eo (M:List ac) (V:List (List ag)):List (List ac):=M :: (V.headD []).reverse.map (·.1)++(V.drop 1).map bm
theorem Ah (M:List ac) (B:List ag):tV M B B.length=[M]:=by simp [tV]
theorem yg {j:Nat} (h:B[j]?=some r):tV M B j=tV M B (j+1)++[r.1]:=by
 obtain ⟨hj,e⟩:=List.getElem?_eq_some_iff.1 h;unfold tV;rw [List.drop_eq_getElem_cons hj,e];simp
theorem yX (M:List ac) (V:List (List ag)):lowP M V 1=tV M (V.headD []) 0:=by
 unfold lowP;cases V <;> simp
theorem wR {k:Nat} (h:V[k]?=some B) (hk:1≤k):lowP M V (k+1)=lowP M V k++[bm B]:=by
 obtain ⟨hl,_⟩:=List.getElem?_eq_some_iff.1 h;unfold lowP;rw [List.take_add_one,h,List.drop_append_of_le_length (by rw [List.length_take];omega)];simp
theorem yY (M:List ac) (V:List (List ag)):lowP M V V.length=eo M V:=by
 unfold lowP eo tV;simp
theorem uV {i:Nat} (h:B[i]?=some r):bm (B.take (i+1))=bm (B.take i)++r.1:=by
 unfold bm;rw [List.take_add_one,h];simp
theorem xG {m:Nat} (h:∀r ∈ B,r.1.length≤m):(bm B).length≤B.length*m:=by
 induction B with
 | nil=>simp [bm]
 | cons a t ih =>
  have h1:=ih (fun r hr=>h r (List.mem_cons_of_mem _ hr));have h2:=h a List.mem_cons_self;have h3:bm (a :: t)=a.1++bm t:=by simp [bm]
  rw [h3,List.length_append,List.length_cons,Nat.succ_mul];omega
theorem vZ (lo:Nat) (sq:Int) (am av ak:Option Addr) (nm cm nv cv nk ck:Nat) (M:List ac) (V:List (List ag)) (S:List Int) (w:World) (hT:bf lo w am nm cm av nv cv ak nk ck M V S)
 (hv1:1≤nv) (hv2:nv≤100) (hV:∀B ∈ V,B.length≤100∧∀r ∈ B,1≤r.1.length∧r.1.length≤10000) :
 Calls Tryz.prog 110 #[.agg #[iT sq,.slice am nm cm,.slice av nv cv,.slice ak nk ck]] w fun e w'=>∃a n c,e=.returned (.slice a n c)∧cK w' a n c (eo M V)∧Below w.heap.size w w':=by
 have HV:=b6 hV;have HM:Hid (aj w am nm cm M):=hT.mem.1;obtain ⟨b,off,rfl,hbb⟩:=hT.levels.form hv1;have HL:Hid (bH lo w (some ⟨b,off,none⟩) nv cv V):=hT.levels;have HLN:Hid (V.length=nv):=hT.levels.length;obtain ⟨B0,a0,n0,c0,hB0,gl0,hR0⟩:=hT.levels.level (Below.refl _ w) 0 (by omega);have HB0:Hid (V.headD []=B0):=by
  show V.headD []=B0
  cases V with
  | nil=>cases hB0
  | cons x t=>simp at hB0;simp [hB0]
 have HS0:Hid (B0.length≤100∧∀r ∈ B0,1≤r.1.length∧r.1.length≤10000):=hV B0 (List.mem_of_getElem? hB0);have HR0:Hid (az lo w a0 n0 c0 B0):=hR0;have HN0:Hid (B0.length=n0):=hR0.length;have hn0:n0≤100:=by have:=HS0.out.1;have:=HN0.out;omega
 clear hV hT hB0 hR0;obtain ⟨X,hX⟩:=aS w.heap.size;obtain ⟨W,hW⟩:=aS (w.alloc (.cells #[iT sq,.slice am nm cm,sO b off nv cv,.slice ak nk ck] 31));have kW:Below w.heap.size w W:=by rw [hW];exact bZ
 have hWs:W.heap.size=w.heap.size+1:=by rw [hW];simp
 have x2:W.cell? ⟨X,2,none⟩=some (sO b off nv cv):=by rw [hW,hX];simp
 have HX2:Hid (∀wr,Below W.heap.size W wr→wr.cell? ⟨X,2,none⟩=some (sO b off nv cv)):=fun wr k=>cell_later k x2
 have HKW:Hid (∀wr,Below W.heap.size W wr→Below w.heap.size w wr):=fun wr k=>kW.trans (k.mono kW.size)
 have HWS:Hid (W.heap.size=w.heap.size+1):=hWs;have HGL0:Hid (w.cell? ⟨b,off,none⟩=some (.slice a0 n0 c0)):=by show w.cell? _=_;simpa using gl0
 have P0:aX (W.alloc (.cells #[.slice am nm cm] 28)) W.heap.size W.heap.size 1 1 [M] [.slice am nm cm] none:=by
  have hA:Below W.heap.size W (W.alloc (.cells #[.slice am nm cm] 28)):=bZ;refine ⟨?_,rfl,(fun e=>by cases e),?_⟩
  · have:=World.ownsRow_lit (base:=W.heap.size) (e:=28) (size:=1) W #[.slice am nm cm] 1 (Nat.le_refl _) (by unfold maxLen;omega) (by simp);simpa using this
  · intro i A hA';match i,hA' with
    | 0,hA' =>
     simp at hA';subst hA';refine ⟨am,nm,cm,rfl,HM.out.keep (kW.trans (hA.mono kW.size)),fun x e hp=>⟨?_,fun e=>by cases e⟩⟩;have:=(HM.out.lies x e hp).1;omega
    | i+1,hA'=>simp at hA'
 have hWX:W.heap.size=X+1:=by rw [hWs,hX]
 obtain ⟨wt,hwt⟩:=aS (W.alloc (.cells #[.slice am nm cm] 28));have A0:Below W.heap.size W wt:=by rw [hwt];exact bZ
 rw [← hwt,hWX] at P0;rw [hWX] at A0;have HP0:Hid (aX wt (X+1) (X+1) 1 1 [M] [.slice am nm cm] none):=P0;have HA0:Hid (Below (X+1) W wt):=A0;have HKB:Hid (∀wr,Below (X+1) W wr→Below w.heap.size w wr):=fun wr k=>HKW.out wr (by rw [hWX];exact k)
 have HXB:Hid (∀wr,Below (X+1) W wr→wr.cell? ⟨X,2,none⟩=some (sO b off nv cv)):=fun wr k=>HX2.out wr (by rw [hWX];exact k)
 have HSB:Hid (∀wr,Below (X+1) W wr→X+1≤wr.heap.size):=fun wr k=>by have:=k.size;omega
 have HXw:Hid (X=w.heap.size):=hX;obtain ⟨i0,hi,hz0,hz1,hz2⟩:=info_parts Tryz.infoEntS;obtain ⟨i1,hi1,hy0,hy1,hy2⟩:=info_parts Tryz.infoEnt;clear P0 x2 gl0 A0 HX2 HKW HWS hWs kW hWX;go_enter Tryz.func110,Tryz.ntmps110
 go_upto_region 2 with fail
 rw [← hW,← hX,← hwt];clear hW hwt hX;have hnvI:(0:Int)<(nv:Int):=by omega
 have t2:=HXB.out wt HA0.out;have tl:=cell_later (HKB.out wt HA0.out) HGL0.out;have zb:=Nat.lt_of_lt_of_le hbb (HKB.out wt HA0.out).size;have zX:=World.block_lt_of_cell? _ _ t2;have wj:IntKind.i64.wrap ((n0:Int) - 1)=(n0:Int) - 1:=by rw [IntWalk.i64_left];unfold wrap64;omega
 go_wp2;go_loopw [3,4] (fun o iv wr=>∃(j n g c:Nat) (vs:List Value) (z:Int),j≤n0∧z=(j:Int) - 1∧iv=iT z∧o=sL g n c∧aX wr (X+1) g n c (tV M B0 j) vs none∧Below (X+1) W wr) (fun _ iv _=>(intOf iv+1).toNat)
 case atStart=>exact ⟨n0,1,X+1,1,_,_,Nat.le_refl _,rfl,rfl,rfl,by rw [← HN0.out,Ah];exact HP0.out,HA0.out⟩
 case round =>
  obtain ⟨j,n,g,c,vs,z,hj,hz,rfl,rfl,hP,hb⟩:=hrel;have HP:Hid (aX wr (X+1) g n c (tV M B0 j) vs none):=hP;have HB:Hid (Below (X+1) W wr):=hb;have hn:n≤101:=by have:=hP.len;have:=HN0.out;simp [tV] at *;omega
  clear hP hb t2 tl zb zX;have t2:=HXB.out wr HB.out;have tl:=cell_later (HKB.out wr HB.out) HGL0.out;have zb:=Nat.lt_of_lt_of_le hbb (HKB.out wr HB.out).size;have zX:=World.block_lt_of_cell? _ _ t2;by_cases hj0:j=0
  · subst hj0;have hz':z=-1:=by omega
    subst hz';have HP1:Hid (aX wr (X+1) g n c (lowP M V 1) vs none):=by show aX wr (X+1) g n c (lowP M V 1) vs none;rw [yX,HB0.out];exact HP.out
    clear hz wj tl t2 zb zX;go_wp2;go_loopw [3,5] (fun o kv wr=>∃(k n g c:Nat) (vs:List Value),1≤k∧k≤nv∧kv=iT k∧o=sL g n c∧aX wr (X+1) g n c (lowP M V k) vs none∧Below (X+1) W wr) (fun _ kv _=>nv - (intOf kv).toNat)
    case atStart=>exact ⟨1,n,g,c,vs,Nat.le_refl _,by omega,rfl,rfl,HP1.out,HB.out⟩
    case round =>
     clear HP HP1 HB hn;obtain ⟨k,n,g,c,vs,hk1,hk,rfl,rfl,hP,hb⟩:=hrel;have HP:Hid (aX wr (X+1) g n c (lowP M V k) vs none):=hP;have HB:Hid (Below (X+1) W wr):=hb;have hn:n≤201:=by
      have h1:=hP.len;have h2:=HN0.out;have h3:=HLN.out;have h4:=HB0.out;simp only [lowP,tV,h4,List.length_append,List.length_cons,List.length_map,List.length_reverse,List.length_drop,List.length_take] at h1;omega
     clear hP hb;have t2:=HXB.out wr HB.out;have zX:=World.block_lt_of_cell? _ _ t2;have zb:=Nat.lt_of_lt_of_le hbb (HKB.out wr HB.out).size;by_cases hkn:k<nv
     · have hknI:(k:Int)<(nv:Int):=by omega
       obtain ⟨B,sB,nB,cB,hB,gB,hRB⟩:=HL.out.level (Below.refl _ w) k hkn;have HST:Hid (lowP M V (k+1)=lowP M V k++[bm B]):=wR hB hk1;have HSB2:Hid (B.length≤100∧∀r ∈ B,1≤r.1.length∧r.1.length≤10000):=HV.out B (List.mem_of_getElem? hB);have HRB:Hid (az lo w sB nB cB B):=hRB;have HNB:Hid (B.length=nB):=hRB.length;have HGB:Hid (w.cell? ⟨b,off+k,none⟩=some (.slice sB nB cB)):=gB;have hnB:nB≤100:=by have:=HSB2.out.1;have:=HNB.out;omega
       clear hB gB hRB;go_upto_region 10 with fail
       obtain ⟨ga,hga⟩:=aS wr.heap.size;obtain ⟨wa,hwa⟩:=aS (wr.alloc (.cells #[] 50));have hka:Below wr.heap.size wr wa:=by rw [hwa];exact bZ
       have HOA:Hid (ay wa (X+1) ga 0 0 (bm (B.take 0))):=by
        have:=World.ownsRow_lit (base:=X+1) (e:=50) (size:=5) wr #[] 0 (HSB.out wr HB.out) (by simp) (by simp);rw [hwa,hga];exact ⟨by simpa [bm,aE] using this,rfl,by simp [bm]⟩
       have HPA:Hid (aX wa (X+1) g n c (lowP M V k) vs (some ga)):=by
        rw [hga];exact (HP.out.turn (.inr (.inr rfl))).below hka
       have HBA:Hid (Below (X+1) W wa):=by rw [hwa];exact HB.out.alloc (HSB.out wr HB.out) _
       rw [← hwa,← hga];clear hwa hga hka t2 zX zb;go_wp2;go_loopw [6,7] (fun o iv wq=>∃(i na ga ca:Nat),i≤nB∧iv=iT i∧o=sL ga na ca∧ay wq (X+1) ga na ca (bm (B.take i))∧aX wq (X+1) g n c (lowP M V k) vs (some ga)∧Below (X+1) W wq) (fun _ iv _=>nB - (intOf iv).toNat)
       case atStart=>exact ⟨0,0,ga,0,Nat.zero_le _,rfl,rfl,HOA.out,HPA.out,HBA.out⟩
       case round =>
        clear HOA HPA HBA HP HB;obtain ⟨i,na,ga,ca,hin,rfl,rfl,hO,hP,hb⟩:=hrel;have HO:Hid (ay wr (X+1) ga na ca (bm (B.take i))):=hO;have HP:Hid (aX wr (X+1) g n c (lowP M V k) vs (some ga)):=hP;have HB:Hid (Below (X+1) W wr):=hb;have hna:na≤1000000:=by
         have h1:=hO.len;have h2:=xG (B:=B.take i) (m:=10000) (fun r hr=>(HSB2.out.2 r (List.mem_of_mem_take hr)).2);have h3:(B.take i).length≤100:=by rw [List.length_take];omega
         have h4:(B.take i).length*10000≤100*10000:=Nat.mul_le_mul_right _ h3;omega
        clear hO hP hb;have t2:=HXB.out wr HB.out;have zX:=World.block_lt_of_cell? _ _ t2;have zb:=Nat.lt_of_lt_of_le hbb (HKB.out wr HB.out).size;have gB:=cell_later (HKB.out wr HB.out) HGB.out;by_cases hiB:i<nB
        · have hiI:(i:Int)<(nB:Int):=by omega
          obtain ⟨bB,oB,rfl,hbB⟩:=HRB.out.form (by omega);obtain ⟨L,m,s,ns,cs,hg,_,g0,_,hE⟩:=HRB.out.run (Below.refl _ w) i hiB;have hmem:=HSB2.out.2 _ (List.mem_of_getElem? hg);have hLn:=hE.1.length;simp only at hmem;obtain ⟨bs,os,rfl,hbs⟩:=hE.1.form (by omega);have hns1:1≤ns:=by omega
          have hns2:ns≤10000:=by omega
          have HFS:Hid (bm (B.take (i+1))=bm (B.take i)++L):=uV hg;have HE:Hid (aj w (some ⟨bs,os,none⟩) ns cs L):=hE.1;have HLn:Hid ((aE L).length=ns*5):=by show _=_;rw [bi,hLn]
          have HLn2:Hid (L.length=ns):=hLn;have HNW:Hid (∀j u,(aE L)[j]?=some u→wr.cell? ((⟨bs,os,none⟩:Addr).add j)=some u):=iI (hE.1.keep (HKB.out wr HB.out));have HON:Hid (∀u ∈ aE L,u.oneCell'=true):=aQ L;have g0:=cell_later (HKB.out wr HB.out) g0;have zr:=Nat.lt_of_lt_of_le hbB (HKB.out wr HB.out).size;clear hg hE hmem hLn;go_wp2_with (at_builtin;refine wpList_append_own_at _ rfl _ _ 28 rfl (X+1) 50 i1 _ 5 56 Tryz.underlying28 hi1 hy0 hy1 hy2 rfl (by decide) _ _ _ rfl HO.out.owns ⟨bs,os,none⟩ ns cs (aE L) rfl HLn.out HNW.out HON.out ?c3 ?c4 ?c5 ?_)
          case c3=>unfold maxLen;omega
          case c4=>omega
          case c5=>exact HSB.out wr HB.out
          intro v' w2 hown' hgrow hnil hat;obtain ⟨g2,cap2,rfl⟩:∃g cap,v'=sL g (na+ns) cap:=by
           rcases hown'.2 with ⟨hv,h0⟩ | ⟨g,cap,cur,hv,_⟩
           · omega
           · exact ⟨g,cap,hv⟩
          have HO2:Hid (ay w2 (X+1) g2 (na+ns) cap2 (bm (B.take (i+1)))):=by
           refine ⟨?_,?_,?_⟩
           · rw [HFS.out,aU];exact hown'
           · rw [HFS.out,List.length_append,HO.out.len,HLn2.out]
           · intro l hl;rw [HFS.out] at hl;rcases List.mem_append.1 hl with h1 | h1
             · exact HO.out.ents l h1
             · exact HE.out.ents l h1
          have HP2:Hid (aX w2 (X+1) g n c (lowP M V k) vs (some g2)):=HP.out.move hgrow (by rcases hat with h | h;exact .inl (by have h1:g2=ga:=Option.some.inj h;rw [h1]);exact .inr (by have h1:g2=wr.heap.size:=Option.some.inj h;rw [h1]));have HB2:Hid (Below (X+1) W w2):=HB.out.grown hgrow (HSB.out wr HB.out) (fun q hq=>(HO.out.owns.lt q hq).1);clear hown' hgrow hnil hat;go_wp2;go_roundw
          case rel=>exact ⟨i+1,na+ns,g2,cap2,by omega,by go_num,rfl,HO2.out,HP2.out,HB2.out⟩
          case measure=>simp [intOf] <;> omega
        · have hiI:¬(i:Int)<(nB:Int):=by omega
          have HFA:Hid (bm (B.take i)=bm B):=by show bm (B.take i)=_;rw [List.take_of_length_le (by rw [HNB.out];omega)]
          go_wp2_with (at_builtin;refine wpList_append_own_at _ rfl _ _ 102 rfl (X+1) 28 i0 _ 1 24 Tryz.underlying102 hi hz0 hz1 hz2 rfl (by decide) _ _ _ rfl (HP.out.owns.alloc _) ⟨wr.heap.size,0,none⟩ 1 1 [sL ga na ca] rfl rfl ?r1 ?r2 ?r3 ?r4 ?r5 ?_)
          case r2=>first | rfl | simp
          case r3=>unfold maxLen;omega
          case r4=>omega
          case r5=>have:=HSB.out wr HB.out;simp;omega
          intro v' w2 hown' hgrow hnil hat;obtain ⟨g2,cap2,rfl⟩:∃g cap,v'=sL g (n+1) cap:=by
           rcases hown'.2 with ⟨hv,h0⟩ | ⟨g,cap,cur,hv,_⟩
           · omega
           · exact ⟨g,cap,hv⟩
          have HP2:Hid (aX w2 (X+1) g2 (n+1) cap2 (lowP M V (k+1)) (vs++[sL ga na ca]) none):=by
           have hka:∀o,Below wr.heap.size wr (wr.alloc o):=fun o=>(Below.refl _ _).alloc (Nat.le_refl _) o
           have h1:=(HP.out.below (hka _)).push (A:=bm B) hown' hgrow (by rcases hat with h | h;exact .inl (Option.some.inj h);exact .inr (by have h1:g2=wr.heap.size+1:=Option.some.inj h;simpa using h1)) (by rw [← HFA.out];exact HO.out.entsAt.keep (hka _)) (fun x e hp=>by
            have h3:=HP.out.ne;cases e;exact fun e=>h3 (by rw [← e]))
           show aX _ _ _ _ _ _ _ _
           rw [HST.out];exact h1
          have HB2:Hid (Below (X+1) W w2):=(HB.out.alloc (HSB.out wr HB.out) _).grown hgrow (by have:=HSB.out wr HB.out;simp;omega) (fun q hq=>(HP.out.owns.lt q hq).1);clear hown' hgrow hnil hat;go_wp2;go_roundw
          case rel=>exact ⟨k+1,n+1,g2,cap2,_,by omega,by omega,by go_num,rfl,HP2.out,HB2.out⟩
          case measure=>simp [intOf] <;> omega
     · have hknI:¬(k:Int)<(nv:Int):=by omega
       have HC:Hid (lowP M V k=eo M V):=by
        show lowP M V k=_
        rw [← yY,HLN.out,show k=nv by omega]
       go_wp2;go_ret;exact ⟨some ⟨g,0,none⟩,n,c,rfl,by rw [← HC.out];exact HP.out.partsAt,HKB.out wr HB.out⟩
  · obtain ⟨jj,rfl⟩:∃jj,j=jj+1:=⟨j - 1,by omega⟩;have hz':z=(jj:Int):=by omega
    subst hz';clear hz hj0;have hjI:(jj:Int)<(n0:Int):=by omega
    have hj0:(0:Int)≤(jj:Int):=by omega
    obtain ⟨b0,o0,rfl,hb0⟩:=HR0.out.form (by omega);obtain ⟨L,m,s,ns,cs,hg,_,g0,_,hE⟩:=HR0.out.run (Below.refl _ w) jj (by omega);have HST:Hid (tV M B0 jj=tV M B0 (jj+1)++[L]):=yg hg;have HE:Hid (aj w s ns cs L):=hE.1;have g0:=cell_later (HKB.out wr HB.out) g0;have zr:=Nat.lt_of_lt_of_le hb0 (HKB.out wr HB.out).size;clear hg hE;go_wp2_with (at_builtin;refine wpList_append_own_at _ rfl _ _ 102 rfl (X+1) 28 i0 _ 1 24 Tryz.underlying102 hi hz0 hz1 hz2 rfl (by decide) _ _ _ rfl (HP.out.owns.alloc _) ⟨wr.heap.size,0,none⟩ 1 1 [.slice s ns cs] rfl rfl ?q1 ?q2 ?q3 ?q4 ?q5 ?_)
    case q2=>first | rfl | simp
    case q3=>unfold maxLen;omega
    case q4=>omega
    case q5=>have:=HSB.out wr HB.out;simp;omega
    intro v' w2 hown' hgrow hnil hat;obtain ⟨g2,cap2,rfl⟩:∃g cap,v'=sL g (n+1) cap:=by
     rcases hown'.2 with ⟨hv,h0⟩ | ⟨g,cap,cur,hv,_⟩
     · omega
     · exact ⟨g,cap,hv⟩
    have HP2:Hid (aX w2 (X+1) g2 (n+1) cap2 (tV M B0 jj) (vs++[.slice s ns cs]) none):=by
     have hka:∀o,Below wr.heap.size wr (wr.alloc o):=fun o=>(Below.refl _ _).alloc (Nat.le_refl _) o
     have kw:=HKB.out wr HB.out;have h1:=(HP.out.below (hka _)).push hown' hgrow (by rcases hat with h | h;exact .inl (Option.some.inj h);exact .inr (by have h1:g2=wr.heap.size+1:=Option.some.inj h;simpa using h1)) (HE.out.keep (kw.trans ((hka _).mono kw.size))) (fun x e hp=>by
      have h2:=(HE.out.lies x e hp).1;have h3:=(HP.out.owns.lt g rfl).1;have h4:=HXw.out;omega)
     show aX _ _ _ _ _ _ _ _
     rw [HST.out];exact h1
    have HB2:Hid (Below (X+1) W w2):=(HB.out.alloc (HSB.out wr HB.out) _).grown hgrow (by have:=HSB.out wr HB.out;simp;omega) (fun q hq=>(HP.out.owns.lt q hq).1);clear hown' hgrow hnil hat;go_wp2;go_roundw
    case rel=>exact ⟨jj,n+1,g2,cap2,_,(jj:Int) - 1,by omega,rfl,by go_num,rfl,HP2.out,HB2.out⟩
    case measure=>simp [intOf] <;> omega
def eM (V:List (List ag)) (q:Int):Bool:=match V with
 | [A,B,C]=>dl A 4 false q && (dl B 8 true q && dl C 8 true q)
 | _=>false
def bc (q:Int) (M:List ac) (V:List (List ag)) (S:List Int):Bool :=
 decide (0≤q) && (decide (q≤100000) && (decide (M.length≤60) && (aR M && (bW M q && (decide (V.length=3) && (cu S q && (eM V q && im (eo M V))))))))
theorem dh {most:Int} {ap:Bool} (h:dl B most ap q=true) (hm:most≤8):B.length≤100∧∀r ∈ B,1≤r.1.length∧r.1.length≤10000:=by
 unfold dl at h;rw [Bool.and_eq_true] at h;have h1:=of_decide_eq_true h.1;refine ⟨by omega,fun r hr=>?_⟩;obtain ⟨j,hj,rfl⟩:=List.getElem_of_mem hr;have h2:=(List.all_eq_true.1 h.2) j (List.mem_range.2 hj);rw [dy (List.getElem?_eq_getElem hj),Bool.and_eq_true] at h2;have h3:=bK h2.1;omega
theorem fS (h:bc q M V S=true→False):bc q M V S=false:=by
 rw [Bool.eq_false_iff];exact h
theorem bh (h:bc q M V S=true):0≤q∧q≤100000∧M.length≤60∧aR M=true∧bW M q=true∧V.length=3∧cu S q=true∧eM V q=true∧im (eo M V)=true:=by
 simpa [bc] using h
theorem jN (lo:Nat) (sq:Int) (am av ak:Option Addr) (nm cm nv cv nk ck:Nat) (M:List ac) (V:List (List ag)) (S:List Int) (w:World) (hT:bf lo w am nm cm av nv cv ak nk ck M V S) :
 Calls Tryz.prog 27 #[.agg #[iT sq,.slice am nm cm,.slice av nv cv,.slice ak nk ck]] w fun e w'=>e=.returned (.bool (bc sq M V S))∧Bl w w':=by
 have HT:=b6 hT;have HMN:Hid (M.length=nm):=hT.mem.1.length;have HVN:Hid (V.length=nv):=hT.levels.length;have hmb:=hT.mem.1.big;have hmr:=hT.mem.1.room;have hvb:=hT.levels.big;have hvr:=hT.levels.room;unfold maxLen at hmb hvb;clear hT;obtain ⟨X,hX⟩:=aS w.heap.size;obtain ⟨W,hW⟩:=aS (w.alloc (.cells #[iT sq,.slice am nm cm,.slice av nv cv,.slice ak nk ck] 31));have kW:Bl w W:=by rw [hW];exact bZ
 have x0:W.cell? ⟨X,0,none⟩=some (iT sq):=by rw [hW,hX];simp
 have x1:W.cell? ⟨X,1,none⟩=some (.slice am nm cm):=by rw [hW,hX];simp
 have x2:W.cell? ⟨X,2,none⟩=some (.slice av nv cv):=by rw [hW,hX];simp
 have x3:W.cell? ⟨X,3,none⟩=some (.slice ak nk ck):=by rw [hW,hX];simp
 have zX:=World.block_lt_of_cell? _ _ x0;have HKW:Hid (Bl w W):=kW;go_enter Tryz.func27,Tryz.ntmps27
 go_upto_region 1 with fail
 rw [← hW,← hX];clear hW hX kW;by_cases h1:sq<0
 · have HN:Hid (bc sq M V S=false):=fS (fun h=>by have:=(bh h).1;omega);go_wp2;go_ret;exact ⟨af HN.out.symm,HKW.out⟩
 by_cases h2:100000<sq
 · have HN:Hid (bc sq M V S=false):=fS (fun h=>by have:=(bh h).2.1;omega);go_wp2;go_ret;exact ⟨af HN.out.symm,HKW.out⟩
 by_cases h3:60<nm
 · have HN:Hid (bc sq M V S=false):=fS (fun h=>by have:=(bh h).2.2.1;have:=HMN.out;omega);have h3I:(60:Int)<(nm:Int):=by omega
   go_wp2;go_ret;exact ⟨af HN.out.symm,HKW.out⟩
 have h3I:¬(60:Int)<(nm:Int):=by omega
 obtain ⟨R,hR⟩:=aS (aR M);go_wp2_with fail
 refine (jp am nm cm M _ (HT.out.mem.1.keep HKW.out)).mono ?_;rw [← hR];rintro e w1 ⟨rfl,hb1⟩;have x0:=cell_later hb1 x0;have x1:=cell_later hb1 x1;have x2:=cell_later hb1 x2;have x3:=cell_later hb1 x3;have zX:=World.block_lt_of_cell? _ _ x0;have K1:Hid (Bl w w1):=HKW.out.trans (hb1.mono HKW.out.size);clear hb1 HKW;cases hRv:R with
 | false =>
  have HN:Hid (bc sq M V S=false):=fS (fun h=>by have h':=(bh h).2.2.2.1;rw [← hR,hRv] at h';cases h');go_wp2;go_ret;exact ⟨af HN.out.symm,K1.out⟩
 | true =>
 have HRV:Hid (aR M=true):=by show _=_;rw [← hR];exact hRv
 clear hR hRv;obtain ⟨I,hI⟩:=aS (bW M sq);go_wp2_with fail
 refine (nQ am nm cm M sq _ (HT.out.mem.1.keep K1.out)).mono ?_;rw [← hI];rintro e w1' ⟨rfl,rfl⟩;cases hIv:I with
 | false =>
  have HN:Hid (bc sq M V S=false):=fS (fun h=>by have h':=(bh h).2.2.2.2.1;rw [← hI,hIv] at h';cases h');go_wp2;go_ret;exact ⟨af HN.out.symm,K1.out⟩
 | true =>
 have HIV:Hid (bW M sq=true):=by show _=_;rw [← hI];exact hIv
 clear hI hIv;by_cases h4:¬nv=3
 · have HN:Hid (bc sq M V S=false):=fS (fun h=>by have:=(bh h).2.2.2.2.2.1;have:=HVN.out;omega);have h4I:¬(nv:Int)=3:=by omega
   go_wp2;go_ret;exact ⟨af HN.out.symm,K1.out⟩
 have h4:nv=3:=by omega
 subst h4;obtain ⟨N,hN⟩:=aS (cu S sq);go_wp2_with fail
 refine (vW sq lo _ _ ak nk ck S _ (HT.out.snaps.keep K1.out)).mono ?_;rw [← hN];rintro e wr ⟨rfl,hb2⟩;have x0:=cell_later hb2 x0;have x1:=cell_later hb2 x1;have x2:=cell_later hb2 x2;have x3:=cell_later hb2 x3;have zX:=World.block_lt_of_cell? _ _ x0;have KW:Hid (Bl w wr):=K1.out.trans (hb2.mono K1.out.size);clear hb2 K1;cases hNv:N with
 | false =>
  have HN:Hid (bc sq M V S=false):=fS (fun h=>by have h':=(bh h).2.2.2.2.2.2.1;rw [← hN,hNv] at h';cases h');go_wp2;go_ret;exact ⟨af HN.out.symm,KW.out⟩
 | true =>
 have HNV:Hid (cu S sq=true):=by show _=_;rw [← hN];exact hNv
 clear hN hNv;obtain ⟨A,B,C,hV3⟩:∃A B C,V=[A,B,C]:=by
  have:=HVN.out;match V,this with
  | [A,B,C],_=>exact ⟨A,B,C,rfl⟩
 subst hV3;obtain ⟨b,off,rfl,hbb⟩:=HT.out.levels.form (by omega);obtain ⟨A',a0,n0,c0,hA,l0,hR0⟩:=HT.out.levels.level (Below.refl _ w) 0 (by omega);obtain ⟨B',a1,n1,c1,hB,l1,hR1⟩:=HT.out.levels.level (Below.refl _ w) 1 (by omega);obtain ⟨C',a2,n2,c2,hC,l2,hR2⟩:=HT.out.levels.level (Below.refl _ w) 2 (by omega);simp only [List.getElem?_cons_zero,List.getElem?_cons_succ,Option.some.injEq] at hA hB hC;subst hA hB hC;rw [Nat.add_zero] at l0;have l0:=cell_later KW.out l0;have l1:=cell_later KW.out l1;have l2:=cell_later KW.out l2;have zb:=Nat.lt_of_lt_of_le hbb KW.out.size;have HMK:Hid (∀w',Bl wr w'→(w'.cell? ⟨X,0,none⟩=some (iT sq)∧w'.cell? ⟨X,1,none⟩=some (.slice am nm cm)∧w'.cell? ⟨X,2,none⟩=some (sO b off 3 cv)∧w'.cell? ⟨X,3,none⟩=some (.slice ak nk ck)∧w'.cell? ⟨b,off,none⟩=some (.slice a0 n0 c0)∧w'.cell? ⟨b,off+1,none⟩=some (.slice a1 n1 c1)∧w'.cell? ⟨b,off+2,none⟩=some (.slice a2 n2 c2)∧b<w'.heap.size∧X<w'.heap.size)):=fun w' kk=>⟨cell_later kk x0,cell_later kk x1,cell_later kk x2,cell_later kk x3,cell_later kk l0,cell_later kk l1,cell_later kk l2,Nat.lt_of_lt_of_le zb kk.size,Nat.lt_of_lt_of_le zX kk.size⟩
 have k0:Bl wr wr.drew:=(Below.refl _ wr).drew;have HKK:Hid (∀w',Bl wr w'→Bl w w'):=fun w' kk=>KW.out.trans (kk.mono KW.out.size)
 have HTB:Hid (bc sq M [A,B,C] S=(dl A 4 false sq && (dl B 8 true sq && (dl C 8 true sq && im (eo M [A,B,C]))))):=by
  show bc sq M [A,B,C] S=_
  have e1:decide (0≤sq)=true:=decide_eq_true (by omega);have e2:decide (sq≤100000)=true:=decide_eq_true (by omega);have e3:decide (M.length≤60)=true:=decide_eq_true (by rw [HMN.out];omega);unfold bc;rw [e1,e2,e3,HRV.out,HIV.out,HNV.out];simp [eM,Bool.and_assoc]
 obtain ⟨V0,hV0⟩:∃x,x=dl A 4 false sq:=⟨_,rfl⟩;obtain ⟨V1,hV1⟩:∃x,x=dl B 8 true sq:=⟨_,rfl⟩;obtain ⟨V2,hV2⟩:∃x,x=dl C 8 true sq:=⟨_,rfl⟩;obtain ⟨G,hG⟩:∃x,x=im (eo M [A,B,C]):=⟨_,rfl⟩;rw [← hV0,← hV1,← hV2,← hG] at HTB;have CR0:Hid (∀w',Bl wr w'→Calls Tryz.prog 90 #[.slice a0 n0 c0,iT 4,.bool false,iT sq] w' fun e w''=>e=.returned (.bool V0)∧Bl w' w''):=fun w' k=>by rw [hV0];exact nR lo a0 n0 c0 A 4 false sq w' (hR0.keep (HKK.out w' k))
 have CR1:Hid (∀w',Bl wr w'→Calls Tryz.prog 90 #[.slice a1 n1 c1,iT 8,.bool true,iT sq] w' fun e w''=>e=.returned (.bool V1)∧Bl w' w''):=fun w' k=>by rw [hV1];exact nR lo a1 n1 c1 B 8 true sq w' (hR1.keep (HKK.out w' k))
 have CR2:Hid (∀w',Bl wr w'→Calls Tryz.prog 90 #[.slice a2 n2 c2,iT 8,.bool true,iT sq] w' fun e w''=>e=.returned (.bool V2)∧Bl w' w''):=fun w' k=>by rw [hV2];exact nR lo a2 n2 c2 C 8 true sq w' (hR2.keep (HKK.out w' k))
 have CAG:Hid (V0=true→V1=true→V2=true→∀w',Bl wr w'→Calls Tryz.prog 91 #[.agg #[iT sq,.slice am nm cm,sO b off 3 cv,.slice ak nk ck]] w' fun e w''=>e=.returned (.bool G)∧Bl w' w''):=by
  intro e0 e1 e2 w' k;rw [hG];refine yF sq am _ ak nm cm 3 cv nk ck (eo M [A,B,C]) w' (fun w1 k1=>?_);have kw:=HKK.out w' k;refine vZ lo sq am _ ak nm cm 3 cv nk ck M [A,B,C] S w1 (HT.out.keep (kw.trans (k1.mono kw.size))) (by omega) (by omega) ?_;intro D hD;simp only [List.mem_cons,List.not_mem_nil,or_false] at hD;rcases hD with rfl | rfl | rfl
  · exact dh (by rw [← hV0];exact e0) (by omega)
  · exact dh (by rw [← hV1];exact e1) (by omega)
  · exact dh (by rw [← hV2];exact e2) (by omega)
 clear hV0 hV1 hV2 hG hR0 hR1 hR2 l0 l1 l2 x0 x1 x2 x3 zb HT HKK HVN HMN hbb;cases V0 with
 | false =>
  have HN:Hid (bc sq M [A,B,C] S=false):=by show _=_;rw [HTB.out];rfl
  clear CAG CR1 CR2 HTB;go_wp2_with fail
  refine eC HMK k0 fun aa=>?_
  refine aO 0 6 aa ?_;refine aI 6 fun K hK=>?_
  go_simp;refine (CR0.out _ k0).mono ?_;rintro e wk1 ⟨rfl,bk1⟩;have k1:Bl wr wk1:=k0.trans (bk1.mono k0.size);go_wp2_with fail
  refine hK.out _ _ (HMK.out _ k1) fun aa=>?_
  (try go_frame);refine aO 7 7 aa ?_;refine aI 14 fun K hK=>?_
  go_simp;refine hK.out _ _ (HMK.out _ k1) fun aa=>?_
  (try go_frame);refine aO 15 8 aa ?_;refine aI 23 fun K hK=>?_
  go_simp;refine hK.out _ _ (HMK.out _ k1) fun aa=>?_
  (try go_frame);refine aO 24 3 aa ?_;refine aI 27 fun K hK=>?_
  go_simp;refine hK.out _ _ (HMK.out _ k1) fun aa=>?_
  (try go_frame);refine aO 28 2 aa ?_;refine dN ?_;have KY:Hid (Bl w wk1):=KW.out.trans (k1.mono KW.out.size);clear k0 HMK aa;go_wp2;go_ret;exact ⟨af HN.out.symm,KY.out⟩
 | true =>
 cases V1 with
 | false =>
  have HN:Hid (bc sq M [A,B,C] S=false):=by show _=_;rw [HTB.out];rfl
  clear CAG CR2 HTB;go_wp2_with fail
  refine eC HMK k0 fun aa=>?_
  refine aO 0 6 aa ?_;refine aI 6 fun K hK=>?_
  go_simp;refine (CR0.out _ k0).mono ?_;rintro e wk1 ⟨rfl,bk1⟩;have k1:Bl wr wk1:=k0.trans (bk1.mono k0.size);go_wp2_with fail
  refine hK.out _ _ (HMK.out _ k1) fun aa=>?_
  (try go_frame);refine aO 7 7 aa ?_;refine aI 14 fun K hK=>?_
  go_simp;refine (CR1.out _ k1).mono ?_;rintro e wk2 ⟨rfl,bk2⟩;have k2:Bl wr wk2:=k1.trans (bk2.mono k1.size);go_wp2_with fail
  refine hK.out _ _ (HMK.out _ k2) fun aa=>?_
  (try go_frame);refine aO 15 8 aa ?_;refine aI 23 fun K hK=>?_
  go_simp;refine hK.out _ _ (HMK.out _ k2) fun aa=>?_
  (try go_frame);refine aO 24 3 aa ?_;refine aI 27 fun K hK=>?_
  go_simp;refine hK.out _ _ (HMK.out _ k2) fun aa=>?_
  (try go_frame);refine aO 28 2 aa ?_;refine dN ?_;have KY:Hid (Bl w wk2):=KW.out.trans (k2.mono KW.out.size);clear k0 HMK aa;go_wp2;go_ret;exact ⟨af HN.out.symm,KY.out⟩
 | true =>
 cases V2 with
 | false =>
  have HN:Hid (bc sq M [A,B,C] S=false):=by show _=_;rw [HTB.out];rfl
  clear CAG HTB;go_wp2_with fail
  refine eC HMK k0 fun aa=>?_
  refine aO 0 6 aa ?_;refine aI 6 fun K hK=>?_
  go_simp;refine (CR0.out _ k0).mono ?_;rintro e wk1 ⟨rfl,bk1⟩;have k1:Bl wr wk1:=k0.trans (bk1.mono k0.size);go_wp2_with fail
  refine hK.out _ _ (HMK.out _ k1) fun aa=>?_
  (try go_frame);refine aO 7 7 aa ?_;refine aI 14 fun K hK=>?_
  go_simp;refine (CR1.out _ k1).mono ?_;rintro e wk2 ⟨rfl,bk2⟩;have k2:Bl wr wk2:=k1.trans (bk2.mono k1.size);go_wp2_with fail
  refine hK.out _ _ (HMK.out _ k2) fun aa=>?_
  (try go_frame);refine aO 15 8 aa ?_;refine aI 23 fun K hK=>?_
  go_simp;refine (CR2.out _ k2).mono ?_;rintro e wk3 ⟨rfl,bk3⟩;have k3:Bl wr wk3:=k2.trans (bk3.mono k2.size);go_wp2_with fail
  refine hK.out _ _ (HMK.out _ k3) fun aa=>?_
  (try go_frame);refine aO 24 3 aa ?_;refine aI 27 fun K hK=>?_
  go_simp;refine hK.out _ _ (HMK.out _ k3) fun aa=>?_
  (try go_frame);refine aO 28 2 aa ?_;refine dN ?_;have KY:Hid (Bl w wk3):=KW.out.trans (k3.mono KW.out.size);clear k0 HMK aa;go_wp2;go_ret;exact ⟨af HN.out.symm,KY.out⟩
 | true =>
  have HN:Hid (bc sq M [A,B,C] S=G):=by show _=_;rw [HTB.out];cases G <;> rfl
  have CAH:Hid (∀w',Bl wr w'→Calls Tryz.prog 91 #[.agg #[iT sq,.slice am nm cm,sO b off 3 cv,.slice ak nk ck]] w' fun e w''=>e=.returned (.bool G)∧Bl w' w''):=CAG.out rfl rfl rfl;clear HTB CAG;go_wp2_with fail
  refine eC HMK k0 fun aa=>?_
  refine aO 0 6 aa ?_;refine aI 6 fun K hK=>?_
  go_simp;refine (CR0.out _ k0).mono ?_;rintro e wk1 ⟨rfl,bk1⟩;have k1:Bl wr wk1:=k0.trans (bk1.mono k0.size);go_wp2_with fail
  refine hK.out _ _ (HMK.out _ k1) fun aa=>?_
  (try go_frame);refine aO 7 7 aa ?_;refine aI 14 fun K hK=>?_
  go_simp;refine (CR1.out _ k1).mono ?_;rintro e wk2 ⟨rfl,bk2⟩;have k2:Bl wr wk2:=k1.trans (bk2.mono k1.size);go_wp2_with fail
  refine hK.out _ _ (HMK.out _ k2) fun aa=>?_
  (try go_frame);refine aO 15 8 aa ?_;refine aI 23 fun K hK=>?_
  go_simp;refine (CR2.out _ k2).mono ?_;rintro e wk3 ⟨rfl,bk3⟩;have k3:Bl wr wk3:=k2.trans (bk3.mono k2.size);go_wp2_with fail
  refine hK.out _ _ (HMK.out _ k3) fun aa=>?_
  (try go_frame);refine aO 24 3 aa ?_;refine aI 27 fun K hK=>?_
  go_simp;refine (CAH.out _ k3).mono ?_;rintro e wk4 ⟨rfl,bk4⟩;have k4:Bl wr wk4:=k3.trans (bk4.mono k3.size);go_wp2_with fail
  refine hK.out _ _ (HMK.out _ k4) fun aa=>?_
  (try go_frame);refine aO 28 2 aa ?_;refine dN ?_;have KY:Hid (Bl w wk4):=KW.out.trans (k4.mono KW.out.size);clear k0 HMK aa;go_wp2;go_ret;exact ⟨af HN.out.symm,KY.out⟩
end Go.Proofs.YtpobkmjicbobdaaGreat
