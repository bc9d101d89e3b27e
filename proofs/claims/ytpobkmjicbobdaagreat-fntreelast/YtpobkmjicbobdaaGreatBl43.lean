/- Walks. -/
import Derived.Test.YtpobkmjicbobdaaGreatBl42
namespace Go.Proofs.YtpobkmjicbobdaaGreat
set_option maxRecDepth 100000
set_option maxHeartbeats 40000000
open Go.RowKit
variable {L M:List ac} {S:List Int} {V:List (List an)} {key:ByteArray} {q s:Int}
theorem gh (h:bf q M V S=true):(∀e ∈ M,1≤e.2.1∧e.2.1≤q)∧∀Z ∈ V,∀r ∈ Z,∀e ∈ r.1,1≤e.2.1∧e.2.1≤q:=by
 obtain ⟨A,B,C,rfl⟩:=ia h;obtain ⟨_,_,_,h4,h5,_,⟨ha,hb,hc⟩,_⟩:=dM.1 h;have one:∀{L:List ac},aI L=true→bJ L q=true→∀e ∈ L,1≤e.2.1∧e.2.1≤q:=fun {L} h1 h2 e f=>by
  obtain ⟨j,g⟩:=DF f;have h3:=d4 h1 g;refine ⟨?_,cP.1 h2 e f⟩;unfold cT at h3;simp at h3;omega
 refine ⟨one h4 h5,fun Z d r hr=>?_⟩;have b:=(iZ h).2.1 Z d r hr;refine one (bE b).2.2.1 ?_;simp only [Da,Dr,or_false] at d;rcases d with rfl | rfl | rfl
 · exact (cu.1 ha).2.2.1 r hr
 · exact (cu.1 hb).2.2.1 r hr
 · exact (cu.1 hc).2.2.1 r hr
theorem kH {k2:ByteArray} {t:Int} (h:∀e ∈ L,(e.1=key∧e.2.1≤s) ↔ (e.1=k2∧e.2.1≤t)):aQ L key s=aQ L k2 t:=by
 unfold aQ;refine List.filter_congr fun e b=>?_
 rw [← Bool.decide_and,← Bool.decide_and];exact decide_eq_decide.2 (h e b)
theorem nG (h:∀e ∈ L,¬(e.1=key∧e.2.1≤s)):aQ L key s=[]:=by
 unfold aQ;rw [D4];intro e b;have:=h e b;simpa using this
theorem oW {α β:Type} {f g:α→List β} {l:List α} (h:∀a ∈ l,f a=g a):l.flatMap f=l.flatMap g:=by
 rw [List.flatMap_def,List.flatMap_def,List.map_congr_left h]
theorem xQ (h:∀Z ∈ V,∀r ∈ Z,∀e ∈ r.1,¬(e.1=key∧e.2.1≤s)):V.flatMap (fun Z=>aV Z key s)=[]:=by
 rw [List.flatMap_eq_nil_iff];intro Z b;unfold aV;rw [List.flatMap_eq_nil_iff];exact fun r hr=>nG (h Z b r hr)
theorem nH (hM:∀e ∈ M,¬(e.1=key∧e.2.1≤s)) (hV:∀Z ∈ V,∀r ∈ Z,∀e ∈ r.1,¬(e.1=key∧e.2.1≤s)):dK M V key s=Bm:=by
 unfold dK gT;rw [xQ hV,Eh,nG hM];rfl
theorem sd (h:bf q M V S=true) (key:ByteArray) {t:Int} (f:t≤0):dK M V key t=Bm :=
 nH (fun e b k=>by have:=(gh h).1 e b;omega) (fun Z d r hr e b k=>by have:=(gh h).2 Z d r hr e b;omega)
theorem sc (h:A6 M V) (t:Int):dK M V ⟨#[110,111,110,101]⟩ t=Bm :=
 nH (fun e b k=>h.1 e b (by rw [k.1])) (fun Z d r hr e b k=>h.2 Z d r hr e b (by rw [k.1]))
theorem ug (h:bf q M V S=true) (key:ByteArray) {t:Int} (f:q≤t):dK M V key t=dK M V key q:=by
 have hM:aQ M key t=aQ M key q:=kH fun e b=>by have:=(gh h).1 e b;exact ⟨fun k=>⟨k.1,this.2⟩,fun k=>⟨k.1,by omega⟩⟩
 have hV:V.flatMap (fun Z=>aV Z key t)=V.flatMap (fun Z=>aV Z key q):=by
  refine oW fun Z d=>?_
  unfold aV;refine oW fun r hr=>kH fun e b=>?_
  have:=(gh h).2 Z d r hr e b;exact ⟨fun k=>⟨k.1,this.2⟩,fun k=>⟨k.1,by omega⟩⟩
 have hF:∀e ∈ V.flatMap (fun Z=>aV Z key q),e.2.1≤q:=fun e b=>by
  obtain ⟨Z,d,h1⟩:=Ej.1 b;obtain ⟨r,hr,h2⟩:=Ej.1 h1;exact ((gh h).2 Z d r hr e (EH.1 h2).1).2
 unfold dK gT;rw [hV,lD,lD,hM,kH (L:=V.flatMap (fun Z=>aV Z key q)) (key:=key) (k2:=key) (s:=t) (t:=q) (fun e b=>by have:=hF e b;exact ⟨fun k=>⟨k.1,this⟩,fun k=>⟨k.1,by omega⟩⟩)]
theorem nE (a:Option Addr) (len a0:Nat) (a2:Option Addr) (f Y:Nat) (w:World) (h:iR w a len a0) (h2:iR w a2 f Y) :
 Calls Tryz.prog 7 #[.slice a len a0,.slice a2 f Y] w fun e w'=>e=.returned (.bool true)∧Bl w w':=by
 have H:=bO h;have hm:=C8 h.1 h.2.1;have aK:=C8 h2.1 h2.2.1;unfold maxLen at hm aK;clear h h2;by_cases hbig:1048576<len
 · go_enter Tryz.func7,Tryz.ntmps7
   go_wp2;go_ret;exact ⟨rfl,Below.refl _ _⟩
 by_cases aG:1048576<f
 · go_enter Tryz.func7,Tryz.ntmps7
   go_wp2;go_ret;exact ⟨rfl,Below.refl _ _⟩
 go_enter Tryz.func7,Tryz.ntmps7
 go_wp2_with fail
 refine (o4 a len a0 w H.o).mono ?_;rintro e w1 ⟨q,R,F,D,N,O,I,U,B,cs,M,V,S,key,C,rfl,⟨hX,aj⟩,a7⟩;obtain ⟨n,E⟩:=aH (BZ q M V S);obtain ⟨TB,a4⟩:=aH (bf q M V S);obtain ⟨X,a3⟩:=aH w1.heap.size;obtain ⟨W,hW⟩:=aH (w1.alloc (.cells #[iT q,.slice R F D,.slice N O I,.slice U B cs] 31));have kW:Bl w1 W:=by rw [hW];exact bZ
 have BX:CG (az W X (iT q) (.slice R F D) (.slice N O I) (.slice U B cs)):=by rw [hW,a3];exact az.new _ _ _ _ _ _
 have KW:CG (Bl w W):=a7.trans (kW.mono a7.size);have Q:=hX.keep kW;have CI:CG (∀k t w',Bl W w'→Calls Tryz.prog 39 #[.agg #[iT q,.slice R F D,.slice N O I,.slice U B cs],.string k,iT t] w' (rV (n k t) w')):=fun k t w' A=>by rw [E];exact xJ (Q.keep A) k t
 have CS:CG (∀k t w',Bl W w'→Calls Tryz.prog 40 #[.agg #[iT q,.slice R F D,.slice N O I,.slice U B cs],.string k,iT t] w' (rV (n k t) w')):=fun k t w' A=>by rw [E];exact wU (Q.keep A) k t
 have CO:CG (∀w',Bl W w'→Calls Tryz.prog 27 #[.agg #[iT q,.slice R F D,.slice N O I,.slice U B cs]] w' fun e a6=>e=.returned (.bool TB)∧Bl w' a6):=fun w' A=>by rw [a4];exact ix 0 q _ _ _ _ _ _ _ _ _ M V S w' (Q.keep A).2.1
 have HF:CG (TB=true→(0≤q∧q≤100000)∧(∀t,q≤t→n key t=n key q)∧(∀t,t≤0→n key t=Bm)∧n ⟨#[110,111,110,101]⟩ C=Bm):=fun ht=>by
  rw [a4] at ht;have hp:=aY ht;rw [E];unfold BZ;simp only [ht,if_true];exact ⟨⟨hp.1,hp.2.1⟩,fun t h=>ug ht key h,fun t h=>sd ht key h,sc aj C⟩
 clear a7 kW hX Q E a4 aj H;obtain ⟨rb,rt,rn,hc⟩:∃rb rt rn,n key C=(rb,rt,rn):=⟨_,_,_,rfl⟩;have HC:CG (n key C=(rb,rt,rn)):=hc;clear hc;go_upto_region 4 with fail
 rw [← hW];try rw [← a3]
 clear hW a3;have x0:=BX.o.all;go_wp2_with fail
 clear x0;refine (CI.o key C _ (Below.refl _ _)).mono ?_;rintro e w2 h2;obtain ⟨rfl,a1⟩:=h2.as HC.o;obtain ⟨Z,hZ⟩:=aH w2.heap.size;obtain ⟨w3,J⟩:=aH (w2.alloc (.cells #[.bool rb,.string rt,iT rn] 57));have k3:Bl w2 w3:=by rw [J];exact bZ
 have u:CG (Bl W w3):=a1.trans (k3.mono a1.size);have HZ:CG (w3.cell? ⟨Z,0,none⟩=some (.bool rb)∧w3.cell? ⟨Z,1,none⟩=some (.string rt)∧w3.cell? ⟨Z,2,none⟩=some (iT rn)):=by
  rw [J,hZ];refine ⟨?_,?_,?_⟩ <;> simp
 clear h2 a1 k3;go_upto_region 5 with fail
 rw [← J];try rw [← hZ]
 clear J hZ;have m:CG (∀w',Bl w3 w'→(fun w':World=>w'.cell? ⟨X,0,none⟩=some (iT q)∧w'.cell? ⟨X,1,none⟩=some (.slice R F D)∧w'.cell? ⟨X,2,none⟩=some (.slice N O I)∧w'.cell? ⟨X,3,none⟩=some (.slice U B cs)∧w'.cell? ⟨Z,0,none⟩=some (.bool rb)∧w'.cell? ⟨Z,1,none⟩=some (.string rt)∧w'.cell? ⟨Z,2,none⟩=some (iT rn)∧X<w'.heap.size∧Z<w'.heap.size) w'):=fun w' k=>by
  have b:=BX.o.keep (u.o.trans (k.mono u.o.size));have z0:=cell_later k HZ.o.1;have z1:=Cz _ _ z0;exact ⟨b.c0,b.c1,b.c2,b.c3,z0,cell_later k HZ.o.2.1,cell_later k HZ.o.2.2,b.lt,z1⟩
 have r:CG (∀k t w',Bl w3 w'→Calls Tryz.prog 39 #[.agg #[iT q,.slice R F D,.slice N O I,.slice U B cs],.string k,iT t] w' (rV (n k t) w')):=fun k t w' A=>CI.o k t w' (u.o.trans (A.mono u.o.size))
 have T:CG (∀k t w',Bl w3 w'→Calls Tryz.prog 40 #[.agg #[iT q,.slice R F D,.slice N O I,.slice U B cs],.string k,iT t] w' (rV (n k t) w')):=fun k t w' A=>CS.o k t w' (u.o.trans (A.mono u.o.size))
 have a5:CG (∀w',Bl w3 w'→Calls Tryz.prog 27 #[.agg #[iT q,.slice R F D,.slice N O I,.slice U B cs]] w' fun e a6=>e=.returned (.bool TB)∧Bl w' a6):=fun w' A=>CO.o w' (u.o.trans (A.mono u.o.size))
 clear CI CS CO;have d:=(Below.refl w3.heap.size w3).drew;refine ez m d fun g=>?_
 generalize w3.drew=wd at g d ⊢;refine aP 0 4 g ?_;refine aR 4 fun K hK=>?_
 go_simp;refine (T.o key C _ d).mono ?_;rintro e w4 ad;obtain ⟨rfl,af⟩:=ad.as HC.o;have d:=d.trans (af.mono d.size);clear af ad;go_wp2_with fail
 refine hK.o _ _ (m.o _ d) fun g=>?_
 (try go_frame);refine aP 5 3 g ?_;refine aR 8 fun K hK=>?_
 go_simp;refine (a5.o _ d).mono ?_;rintro e w5 ⟨rfl,ag⟩;have d:=d.trans (ag.mono d.size);clear ag;go_wp2_with fail
 refine hK.o _ _ (m.o _ d) fun g=>?_
 (try go_frame);refine aP 9 2 g ?_;refine dN ?_;clear g;have K5:CG (Bl w3 w5):=d;clear d;cases TB with
 | false =>
  clear HF r a5;go_upto_region 6 with fail
  have d:=(Below.refl w5.heap.size w5).drew;have d:=K5.o.trans (d.mono K5.o.size);refine ez m d fun g=>?_
  generalize w5.drew=wd at g d ⊢;refine aP 0 4 g ?_;refine aR 4 fun K hK=>?_
  go_simp;refine (T.o key C _ d).mono ?_;rintro e w6 y;obtain ⟨rfl,x⟩:=y.as HC.o;have d:=d.trans (x.mono d.size);clear x y;go_wp2_with fail
  refine hK.o _ _ (m.o _ d) fun g=>?_
  (try go_frame);refine aP 5 2 g ?_;refine dN ?_;have K6:CG (Bl w3 w6):=d;clear g m T d;go_wp2;go_ret;exact ⟨rfl,KW.o.trans ((u.o.trans (K6.o.mono u.o.size)).mono KW.o.size)⟩
 | true =>
  obtain ⟨⟨aX,b1⟩,hl,he,hn⟩:=HF.o rfl;clear HF T a5 HC;obtain ⟨sb,st,sn,hs⟩:∃sb st sn,n key q=(sb,st,sn):=⟨_,_,_,rfl⟩;have HQ:CG (n key q=(sb,st,sn)):=hs;have HL:CG (n key (q+1+(f:Int))=(sb,st,sn)):=by rw [← hs];exact hl _ (by omega)
  have HE:CG (n key (-(f:Int))=(false,⟨#[]⟩,0)):=he _ (by omega);have HN:CG (n ⟨#[110,111,110,101]⟩ C=(false,⟨#[]⟩,0)):=hn;have b3:IntKind.i64.wrap (q+1)=q+1:=by rw [Dg];unfold wrap64;omega
  have b0:IntKind.i64.wrap (q+1+(f:Int))=q+1+(f:Int):=by rw [Dg];unfold wrap64;omega
  have b2:IntKind.i64.wrap (-(f:Int))=-(f:Int):=by rw [Dg];unfold wrap64;omega
  clear hl he hn hs;go_upto_region 7 with fail
  have d:=(Below.refl w5.heap.size w5).drew;have d:=K5.o.trans (d.mono K5.o.size);refine ez m d fun g=>?_
  generalize w5.drew=wd at g d ⊢;refine aP 0 8 g ?_;refine aP 9 4 g ?_;refine aR 8 fun K hK=>?_
  go_simp;refine (r.o key _ _ d).mono ?_;rintro e w6 y;obtain ⟨rfl,x⟩:=y.as HL.o;have d:=d.trans (x.mono d.size);clear x y;go_wp2_with fail
  refine hK.o _ _ (m.o _ d) fun g=>?_
  (try go_frame);refine aR 13 fun K hK=>?_
  go_simp;refine (r.o key _ _ d).mono ?_;rintro e w7 ai;obtain ⟨rfl,ah⟩:=ai.as HQ.o;have d:=d.trans (ah.mono d.size);clear ah ai;go_wp2_with fail
  refine hK.o _ _ (m.o _ d) fun g=>?_
  (try go_frame);refine aP 14 7 g ?_;refine aP 22 1 g ?_;refine aR 21 fun K hK=>?_
  go_simp;refine (r.o key _ _ d).mono ?_;rintro e w8 ap;obtain ⟨rfl,al⟩:=ap.as HE.o;have d:=d.trans (al.mono d.size);clear al ap;go_wp2_with fail
  refine hK.o _ _ (m.o _ d) fun g=>?_
  (try go_frame);refine aP 23 5 g ?_;refine aP 29 1 g ?_;refine aR 28 fun K hK=>?_
  go_simp;refine (r.o _ C _ d).mono ?_;rintro e w9 an;obtain ⟨rfl,ae⟩:=an.as HN.o;have d:=d.trans (ae.mono d.size);clear ae an;go_wp2_with fail
  refine hK.o _ _ (m.o _ d) fun g=>?_
  (try go_frame);refine aP 30 3 g ?_;refine dN ?_;have K9:CG (Bl w3 w9):=d;clear g m r d;go_wp2;go_ret;exact ⟨rfl,KW.o.trans ((u.o.trans (K9.o.mono u.o.size)).mono KW.o.size)⟩
end Go.Proofs.YtpobkmjicbobdaaGreat
