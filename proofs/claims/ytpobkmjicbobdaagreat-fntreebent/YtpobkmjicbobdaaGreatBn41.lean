/- Walks. -/
import Derived.Test.YtpobkmjicbobdaaGreatBn40
namespace Go.Proofs.YtpobkmjicbobdaaGreat
set_option maxRecDepth 100000
set_option maxHeartbeats 40000000
open Go.RowKit
variable {A B C:List ag} {G P P' R X Z b base c c1 c3 cap cm cs cv d0 d1 d2 g0 g1 g3 h1 h2 len n0 n1 n2 nm ns nv:Nat} {M:List ac} {S:List Int} {V:List (List ag)} {a ak am av:Option Addr} {q:Int} {w wi wj:World}
structure tT (base b:Nat) (w:World) (g1 nm c1 G c g3 ns c3 g0 n0 d0 h1 n1 d1 h2 n2 d2:Nat) (M:List ac) (A B C:List ag) (S:List Int):Prop where
 mem:ay w base g1 nm c1 M
 row:w.ownsRow base 61 1 (sL G 3 c) 3 [sL g0 n0 d0,sL h1 n1 d1,sL h2 n2 d2]
 rA:aZ b w g0 n0 d0 A
 rB:aZ b w h1 n1 d1 B
 rC:aZ b w h2 n2 d2 C
 sn:w.ownsRow base 3 1 (sL g3 ns c3) ns (S.map iT)
 slen:S.length=ns
 swf:∀z ∈ S,(Lit.int .i64 z).wf=true
 far:g1<b
 top:base≤b∧b≤w.heap.size
theorem tT.kp {w':World} (h:tT base b w g1 nm c1 G c g3 ns c3 g0 n0 d0 h1 n1 d1 h2 n2 d2 M A B C S) (hR:R<base) (k:iV R w w'):tT base b w' g1 nm c1 G c g3 ns c3 g0 n0 d0 h1 n1 d1 h2 n2 d2 M A B C S :=
 have hb:R<b:=Nat.lt_of_lt_of_le hR h.top.1
 ⟨h.mem.kp hR k,jb h.row (by decide) hR k,h.rA.kp hb k,h.rB.kp hb k,h.rC.kp hb k,jb h.sn (by decide) hR k,h.slen,h.swf,h.far,h.top.1,Nat.le_trans h.top.2 k.1⟩
theorem tT.rdT (h:tT base b w g1 nm c1 G c g3 ns c3 g0 n0 d0 h1 n1 d1 h2 n2 d2 M A B C S) (hR:R<base):z6 R w (pT g1) nm c1 (pT G) 3 c (pT g3) ns c3 M [A,B,C] S :=
 have hb:R<b:=Nat.lt_of_lt_of_le hR h.top.1
 jc h.mem h.row (h.rA.lvQ hb) (h.rB.lvQ hb) (h.rC.lvQ hb) h.sn h.slen h.swf hR
theorem tT.kinds (h:tT base b w g1 nm c1 G c g3 ns c3 g0 n0 d0 h1 n1 d1 h2 n2 d2 M A B C S):(∃sz,an w g1 50 sz)∧(∃sz,an w G 61 sz)∧(∃sz,an w g3 3 sz)∧(∃sz,an w g0 63 sz)∧(∃sz,an w h1 63 sz):=by
 obtain ⟨_,_,xs,h3,_⟩:=h.rA;obtain ⟨_,_,ys,h4,_⟩:=h.rB;exact ⟨aJ h.mem.owns,aJ h.row,aJ h.sn,aJ h3,aJ h4⟩
structure lM (R:Nat) (a:Option Addr) (len cap P:Nat) (w wi:World) (X Z b:Nat) (q:Int) (g1 nm c1 G c g3 ns c3 g0 n0 d0 h1 n1 d1 h2 n2 d2:Nat) (M:List ac) (A B C:List ag) (S:List Int):Prop where
 rd:aW wi R a len cap P
 bx:ar wi X (iT q) (sL g1 nm c1) (sL G 3 c) (sL g3 ns c3)
 br:ar wi Z (iT 0) nZ nZ nZ
 kx:an wi X 31 4∧an wi Z 31 4
 bt:tT w.heap.size b wi g1 nm c1 G c g3 ns c3 g0 n0 d0 h1 n1 d1 h2 n2 d2 M A B C S
 gr:w.grownBy wi (some R)
 top:w.heap.size≤X∧w.heap.size≤Z∧X≠Z∧R<w.heap.size∧pK a len R
theorem lM.below (h:lM R a len cap P w wi X Z b q g1 nm c1 G c g3 ns c3 g0 n0 d0 h1 n1 d1 h2 n2 d2 M A B C S) (hb:Bl wi wj):lM R a len cap P w wj X Z b q g1 nm c1 G c g3 ns c3 g0 n0 d0 h1 n1 d1 h2 n2 d2 M A B C S :=
 ⟨h.rd.below hb,h.bx.keep hb,h.br.keep hb,⟨h.kx.1.below hb,h.kx.2.below hb⟩,h.bt.kp h.top.2.2.2.1 (iV.below hb),ae h.gr (aL hb),h.top⟩
theorem lM.read (h:lM R a len cap P w wi X Z b q g1 nm c1 G c g3 ns c3 g0 n0 d0 h1 n1 d1 h2 n2 d2 M A B C S) (hg:wi.grownBy wj (some R)) (hr:aW wj R a len cap P'):lM R a len cap P' w wj X Z b q g1 nm c1 G c g3 ns c3 g0 n0 d0 h1 n1 d1 h2 n2 d2 M A B C S :=
 have e1:X≠R:=by have:=h.top;omega
 have e2:Z≠R:=by have:=h.top;omega
 ⟨hr,h.bx.grownB hg e1,h.br.grownB hg e2,⟨h.kx.1.grown hg e1,h.kx.2.grown hg e2⟩,h.bt.kp h.top.2.2.2.1 (iV.grown hg),ae h.gr hg,h.top⟩
theorem lM.wrote (h:lM R a len cap P w wi X Z b q g1 nm c1 G c g3 ns c3 g0 n0 d0 h1 n1 d1 h2 n2 d2 M A B C S) {g T sz:Nat} (hg:wi.grownBy wj (some g)) (kg:an wi g T sz) (hT:T≠31) (hl:w.heap.size≤g) :
 aW wj R a len cap P∧ar wj X (iT q) (sL g1 nm c1) (sL G 3 c) (sL g3 ns c3)∧ar wj Z (iT 0) nZ nZ nZ∧(an wj X 31 4∧an wj Z 31 4)∧w.grownBy wj (some R):=by
 have ht:=h.top;have e1:X≠g:=fun e=>hT (kg.kind (e ▸ h.kx.1))
 have e2:Z≠g:=fun e=>hT (kg.kind (e ▸ h.kx.2))
 exact ⟨h.rd.grown hg ht.2.2.2.2 (fun k e=>by cases e;omega),h.bx.grownB hg e1,h.br.grownB hg e2,⟨h.kx.1.grown hg e1,h.kx.2.grown hg e2⟩,aH h.gr hl hg⟩
def Cm (lo R:Nat) (a:Option Addr) (len cap P:Nat) (w wz:World) (X Z:Nat):Prop:=∃P' q am nm cm av nv cv ak ns cs,aW wz R a len cap P'∧P'≤P+1000∧ar wz X (iT q) (.slice am nm cm) (.slice av nv cv) (.slice ak ns cs)∧ar wz Z (iT 0) nZ nZ nZ∧an wz Z 31 4∧fw lo R wz (.agg #[iT q,.slice am nm cm,.slice av nv cv,.slice ak ns cs])∧w.grownBy wz (some R)∧(w.heap.size≤Z∧R<w.heap.size∧pK a len R)∧pw (.agg #[iT q,.slice am nm cm,.slice av nv cv,.slice ak ns cs])
theorem nC {lo:Nat} {wz:World} (hrd:aW wz R a len cap P') (hP:P'≤P+1000) (hbx:ar wz X (iT q) (.slice am nm cm) (.slice av nv cv) (.slice ak ns cs)) (hbr:ar wz Z (iT 0) nZ nZ nZ) (hk:an wz Z 31 4) (hq:(Lit.int .i64 q).wf=true) (hT:z6 R wz am nm cm av nv cv ak ns cs M V S) (hgr:w.grownBy wz (some R)) (ht:w.heap.size≤Z∧R<w.heap.size∧pK a len R) (hs:(∃g,am=some ⟨g,0,none⟩)∧∃g,ak=some ⟨g,0,none⟩:=by exact ⟨⟨_,rfl⟩,⟨_,rfl⟩⟩) (hns:ns≤100:=by omega):Cm lo R a len cap P w wz X Z:=by
 obtain ⟨⟨_,rfl⟩,⟨_,rfl⟩⟩:=hs;exact ⟨P',q,_,nm,cm,av,nv,cv,_,ns,cs,hrd,hP,hbx,hbr,hk,.inr ⟨q,_,nm,cm,av,nv,cv,_,ns,cs,M,V,S,rfl,hq,hT,hns⟩,hgr,ht,⟨q,_,_,_,_,_,_,_,_,_,rfl⟩⟩
theorem nz {lo:Nat} (o:Nat) (u:Value) (hrd:aW wi R a len cap P') (hP:P'≤P+1000) (hbx:ar (wi.setCell ⟨X,o,none⟩ u) X (iT q) (.slice am nm cm) (.slice av nv cv) (.slice ak ns cs)) (hbr:ar wi Z (iT 0) nZ nZ nZ) (hk:an wi X 31 4∧an wi Z 31 4) (hq:(Lit.int .i64 q).wf=true) (hT:z6 R wi am nm cm av nv cv ak ns cs M V S) (hgr:w.grownBy wi (some R)) (ht:w.heap.size≤X∧w.heap.size≤Z∧X≠Z∧R<w.heap.size∧pK a len R) (hs:(∃g,am=some ⟨g,0,none⟩)∧∃g,ak=some ⟨g,0,none⟩:=by exact ⟨⟨_,rfl⟩,⟨_,rfl⟩⟩) (hns:ns≤100:=by omega):Cm lo R a len cap P w (wi.setCell ⟨X,o,none⟩ u) X Z:=by
 have hXR:X≠R:=by omega
 have hfar:∀b off,a=some ⟨b,off,none⟩→0<len→b≠X:=fun b off e hl=>by
  rcases ht.2.2.2.2 with h0 | h0
  · omega
  · have:=h0 b off e;omega
 exact nC (hrd.other hXR hfar _ _) hP hbx (hbr.other ht.2.2.1 _) (hk.2.setCell _) hq (hT.kp (iV.set hk.1 o u)) (aH hgr ht.1 (cy _ _ _ _)) ⟨ht.2.1,ht.2.2.2⟩ hs hns
def Cn (lo R:Nat) (a:Option Addr) (len cap P d:Nat) (u:Value) (w:World) (e:Ending) (w':World):Prop:=∃v P',e=.returned v∧fw lo R w' v∧aW w' R a len cap P'∧P'≤P+d∧w.grownBy w' (some R)∧(pw u→pw v)
theorem BF (lo:Nat) (v:Value) (w:World) (h:cw lo w v):Calls Tryz.prog 57 #[v] w fun e w'=>∃(q:Int) (b g1 nm c1 G c g3 ns c3 g0 d0 h1 d1 h2 d2:Nat) (M:List ac) (A B C:List ag) (S:List Int),e=.returned (.agg #[iT q,sL g1 nm c1,sL G 3 c,sL g3 ns c3])∧tT w.heap.size b w' g1 nm c1 G c g3 ns c3 g0 A.length d0 h1 B.length d1 h2 C.length d2 M A B C S∧bc q M [A,B,C] S=true∧Bl w w'∧h1≠g0∧h1≠h2:=by
 obtain ⟨q,am,nm,cm,G,c,ak,ns,cs,gA,dA,e1,n1,d1,e2,n2,d2,M,A,B,C,S,rfl,hT,htb⟩:=h;have hM:=(bh htb).2.2.1;have hS:=kO htb;have hml:=hT.mem.len;have hsl:=hT.sn.length;refine (qg 0 q am _ ak nm cm 3 c ns cs M [A,B,C] S w hT.treeIn (by omega) (by omega) (by omega) (m9 htb)).mono ?_;rintro e w' ⟨g1,c1,G',c',g3,c3,rfl,hC,hb,b,f1,f2,fL⟩;obtain ⟨_,xs,l3,l4,l5⟩:=fL;obtain ⟨gA,dA,a1,a2⟩:=l4 0 A rfl;obtain ⟨gB,dB,b1,b2⟩:=l4 1 B rfl;obtain ⟨gC,dC,c1',c2⟩:=l4 2 C rfl;have hx:xs=[sL gA A.length dA,sL gB B.length dB,sL gC C.length dC]:=by
  have hl:=l3.1;match xs,hl,a1,b1,c1' with
  | [x,y,z],_,a1,b1,c1'=>simp at a1 b1 c1';rw [a1,b1,c1']
 subst hx;have hbl:b≤w'.heap.size:=by obtain ⟨_,_,ys,y3,_⟩:=a2;have:=y3.lt gA rfl;omega
 exact ⟨q,b,g1,nm,c1,G',c',g3,ns,c3,gA,dA,gB,dB,gC,dC,M,A,B,C,S,rfl,⟨hC.mem,ew l3 f1,a2,b2,c2,hC.sn,hC.slen,hC.swf,f2,f1,hbl⟩,htb,hb,(l5 0 1 _ _ _ _ _ _ (by omega) rfl rfl).symm,l5 1 2 _ _ _ _ _ _ (by omega) rfl rfl⟩
theorem As {n g8 c8:Nat} {wb w8:World} {xs:List Value} (q1:B.length=n) (q2:∀p ∈ B,(Lit.int .i64 p.2).wf=true) (q3:wb.ownsRow b 63 2 (sL h1 n d1) n xs) (q4:∀(i:Nat) (p:ag),B[i]?=some p→∃e d,xs[i*2]?=some (sL e p.1.length d)∧xs[i*2+1]?=some (iT p.2)∧ay wb b e p.1.length d p.1)
 (hE:∀{e d:Nat} {L:List ac},ay wb b e L.length d L→ay w8 b e L.length d L) (ho:w8.ownsRow b 63 2 (sL g8 (n+1) c8) (n+1) (xs++[nZ,iT 0])) (hR:R<b):x9 R w8 (pT g8) (n+1) c8 (B++[([],0)]):=fun w' k=>by
 have h3:=jb ho (by decide) hR k
 have hxl:=q3.1
 have hrc:=cj h3
 refine ⟨by rw [List.length_append,q1];rfl,hrc.1,hrc.2,(fun e=>by cases e),?_,?_⟩
 · rintro x e _
   cases e
   exact ⟨(h3.lt g8 rfl).2,rfl,Nat.zero_le _⟩
 · rintro x e i hi
   cases e
   rw [List.length_append,q1] at hi
   simp only [List.length_cons,List.length_nil] at hi
   by_cases hin:i<n
   · have hib:i<B.length:=by omega
     obtain ⟨e0,d0,a1,a2,a3⟩:=q4 i _ (List.getElem?_eq_getElem hib)
     have hE:=hE a3
     rw [List.getElem_append_left hib]
     refine ⟨q2 _ (List.getElem_mem hib),_,_,_,?_,?_,(hE.kp hR k).entsAt,fun _ _ _=>Nat.zero_le _⟩
     · simp only [Nat.zero_add]
       exact (h3.cellAt _ (by omega)).trans ((List.getElem?_append_left (by omega)).trans a1)
     · simp only [Nat.zero_add]
       exact (h3.cellAt _ (by omega)).trans ((List.getElem?_append_left (by omega)).trans a2)
   · have hin':i=B.length:=by omega
     subst hin'
     rw [List.getElem_append_right (Nat.le_refl _)]
     simp only [Nat.sub_self,List.getElem_cons_zero]
     refine ⟨by decide,none,0,0,?_,?_,mq _ _ _⟩
     · simp only [Nat.zero_add]
       refine (h3.cellAt _ (by omega)).trans ?_
       rw [List.getElem?_append_right (by omega),show B.length*2 - xs.length=0 by omega]
       rfl
     · simp only [Nat.zero_add]
       refine (h3.cellAt _ (by omega)).trans ?_
       rw [List.getElem?_append_right (by omega),show B.length*2+1 - xs.length=1 by omega]
       rfl
theorem tT.swap (h:tT base b w g1 nm c1 G c g3 ns c3 g0 n0 d0 h1 n1 d1 h2 n2 d2 M A B C S):tT base b ((w.setCell ⟨G,0,none⟩ (sL h2 n2 d2)).setCell ⟨G,2,none⟩ (sL g0 n0 d0)) g1 nm c1 G c g3 ns c3 h2 n2 d2 h1 n1 d1 g0 n0 d0 M C B A S:=by
 obtain ⟨⟨_,k1⟩,⟨_,kG⟩,⟨_,k3⟩,_⟩:=h.kinds;have s1:=cy w G 0 (sL h2 n2 d2);have kG':=kG.setCell (b:=G) (o:=0) (sL h2 n2 d2);have s2:=cy (w.setCell ⟨G,0,none⟩ (sL h2 n2 d2)) G 2 (sL g0 n0 d0);have rr:∀{g n d:Nat} {Z:List ag},aZ b w g n d Z→aZ b ((w.setCell ⟨G,0,none⟩ (sL h2 n2 d2)).setCell ⟨G,2,none⟩ (sL g0 n0 d0)) g n d Z:=fun hZ=>(hZ.grown kG (by decide) (by decide) s1).grown kG' (by decide) (by decide) s2
 have r1:=(h.row.stored 0 (sL h2 n2 d2)).1;have r2:=(r1.stored 2 (sL g0 n0 d0)).1;have hm:=dw h.mem h.row (by decide) s1;have hs:=cC h.sn h.row (by decide) s1;exact ⟨dw hm r1 (by decide) s2,r2,rr h.rC,rr h.rB,rr h.rA,cC hs r1 (by decide) s2,h.slen,h.swf,h.far,h.top.1,by have:=h.top.2;simpa [World.setCell] using this⟩
theorem tT.putL {gp np dp:Nat} {D:List ag} (h:tT base b w g1 nm c1 G c g3 ns c3 g0 n0 d0 h1 n1 d1 h2 n2 d2 M A B C S) (hp:aZ b w gp np dp D) (k:Nat) (hk:k<3) (hle:n0≤np):∃a0 m0 k0 a1 m1 k1 a2 m2 k2 A' B' C',tT base b (w.setCell ⟨G,k,none⟩ (sL gp np dp)) g1 nm c1 G c g3 ns c3 a0 m0 k0 a1 m1 k1 a2 m2 k2 M A' B' C' S∧m0≤np:=by
 obtain ⟨_,⟨_,kG⟩,_⟩:=h.kinds;have s1:=cy w G k (sL gp np dp);have rr:∀{g n d:Nat} {Z:List ag},aZ b w g n d Z→aZ b (w.setCell ⟨G,k,none⟩ (sL gp np dp)) g n d Z:=fun hZ=>hZ.grown kG (by decide) (by decide) s1
 have r1:=(h.row.stored k (sL gp np dp)).1;have hm:=dw h.mem h.row (by decide) s1;have hs:=cC h.sn h.row (by decide) s1;have ht:base≤b∧b≤(w.setCell ⟨G,k,none⟩ (sL gp np dp)).heap.size:=⟨h.top.1,by have:=h.top.2;simpa [World.setCell] using this⟩;rcases (by omega:k=0∨k=1∨k=2) with rfl | rfl | rfl
 · exact ⟨gp,np,dp,h1,n1,d1,h2,n2,d2,D,B,C,⟨hm,r1,rr hp,rr h.rB,rr h.rC,hs,h.slen,h.swf,h.far,ht⟩,Nat.le_refl _⟩
 · exact ⟨g0,n0,d0,gp,np,dp,h2,n2,d2,A,D,C,⟨hm,r1,rr h.rA,rr hp,rr h.rC,hs,h.slen,h.swf,h.far,ht⟩,hle⟩
 · exact ⟨g0,n0,d0,h1,n1,d1,gp,np,dp,A,B,D,⟨hm,r1,rr h.rA,rr h.rB,rr hp,hs,h.slen,h.swf,h.far,ht⟩,hle⟩
theorem oP (R P lo:Nat) (a:Option Addr) (len cap:Nat) (v:Value) (w:World) (h:aW w R a len cap P) (hlow:pK a len R) (hP:P<68000) (hR:R<lo) (hlo:lo≤w.heap.size) (hg:cw lo w v) :
 Calls Tryz.prog 76 #[.pointer (pT R),v] w (Cn lo R a len cap P 1000 v w):=by
 obtain ⟨i0,hi,hz0,hz1,hz2⟩:=info_parts Tryz.infoEnt;obtain ⟨j0,hj,hy0,hy1,hy2⟩:=info_parts Tryz.infoInt;obtain ⟨l0,hl,hx0,hx1,hx2⟩:=info_parts Tryz.infoRun;obtain ⟨q,am,nm,cm,av,nv,cv,ak,ns,cs,rfl⟩:=hg.val;obtain ⟨X,hX⟩:=aS w.heap.size;obtain ⟨W,hW⟩:=aS ((w.alloc (.cells #[iT q,.slice am nm cm,.slice av nv cv,.slice ak ns cs] 31)).alloc (.cells #[iT 0,nZ,nZ,nZ] 31));have kW:Bl w W:=by rw [hW];exact bZ.alloc (by simp) _
 have bx:ar W X (iT q) (.slice am nm cm) (.slice av nv cv) (.slice ak ns cs):=by rw [hW,hX];exact (ar.new _ _ _ _ _ _).alloc _
 have br:ar W (X+1) (iT 0) nZ nZ nZ∧an W (X+1) 31 4:=by
  have:=ar.new (w.alloc (.cells #[iT q,.slice am nm cm,.slice av nv cv,.slice ak ns cs] 31)) 31 (iT 0) nZ nZ nZ;rw [World.size_alloc] at this;rw [hW,hX];have h2:=bU (w.alloc (.cells #[iT q,.slice am nm cm,.slice av nv cv,.slice ak ns cs] 31)) #[iT 0,nZ,nZ,nZ] 31;rw [World.size_alloc] at h2;exact ⟨this,h2⟩
 have kX:an W X 31 4:=by rw [hW,hX];exact (bU w #[iT q,.slice am nm cm,.slice av nv cv,.slice ak ns cs] 31).below bZ
 have S0:Hid (ku lo R a len cap P w W X (X+1) q am nm cm av nv cv ak ns cs):=⟨h.below kW,bx,br.1,⟨kX,br.2⟩,hg.below kW,gF.of kW,hlo,Nat.le_of_eq hX.symm,hR,hlow,by omega,by omega⟩;have HGW:Hid (w.grownBy W (some R)):=aL kW;have HNV:Hid (nv=3):=by obtain ⟨q',am',nm',cm',G,c,ak',ns',cs',gA,dA,e1,n1,d1,e2,n2,d2,M,A,B,C,S,e,_,_⟩:=hg;cases e;rfl
 clear h hlow hlo hg kW bx br kX;go_enter Tryz.func76,Tryz.ntmps76
 go_upto_region 1 with fail
 rw [← hX,← hW];clear hX hW;go_wp2_with fail
 refine (cF R P a len cap 70 _ S0.out.rd (by omega) (by omega)).mono ?_;rintro e w1 ⟨k,rfl,hk,hR1,hg1⟩;have k70:0≤k∧k<70:=⟨hk.1,hk.2 (by omega)⟩;have S1:Hid (ku lo R a len cap (P+1) w w1 X (X+1) q am nm cm av nv cv ak ns cs):=S0.out.read hg1 hR1;have HG1:Hid (w.grownBy w1 (some R)):=ae HGW.out hg1;clear S0 hg1 hR1 hk HGW;have x0:=S1.out.bx.c0;have x1:=S1.out.bx.c1;have x2:=S1.out.bx.c2;have x3:=S1.out.bx.c3;have xz:=S1.out.bx.lt;by_cases hk6:k > 6
 · have r0:=S1.out.br.c0;have r1:=S1.out.br.c1;have r2:=S1.out.br.c2;have r3:=S1.out.br.c3;have rf:=S1.out.br.fz;have rz:=S1.out.br.lt;go_wp2;refine bodyPost_ret (v:=.agg #[iT q,.slice am nm cm,.slice av nv cv,.slice ak ns cs]) ?_ rfl ⟨_,P+1,rfl,.inl (S1.out.good.four S1.out.kx.2 S1.out.br),?_,by omega,?_,id⟩
   · have e:=(((S1.out.br.set0 (iT q)).set1 (.slice am nm cm)).set2 (.slice av nv cv)).set3 (.slice ak ns cs);simp [results,Tryz.results76,go_sem,e.c0,e.c1,e.c2,e.c3]
   · have ht:=S1.out.top;have hXR:X+1≠R:=by omega
     have hfar:∀b off,a=some ⟨b,off,none⟩→0<len→b≠X+1:=fun b off e hl=>by
      rcases ht.2.2.2.1 with h0 | h0
      · omega
      · have:=h0 b off e;omega
     exact (((S1.out.rd.other hXR hfar _ _).other hXR hfar _ _).other hXR hfar _ _).other hXR hfar _ _
   · have hle:w.heap.size≤X+1:=by have:=S1.out.top;omega
     exact aH (aH (aH (aH HG1.out hle (cy _ _ _ _)) hle (cy _ _ _ _)) hle (cy _ _ _ _)) hle (cy _ _ _ _)
 have hkd:decide (6<k)=false:=decide_eq_false (by omega);have hnv3:nv=3:=HNV.out;subst hnv3;go_wp2_with fail
 clear x0 x1 x2 x3 xz;refine (BF lo _ w1 S1.out.good).mono ?_;rintro e w2 ⟨q,b,g1,nm,c1,G,c,g3,ns,c3,g0,d0,h1,d1,h2,d2,M,A,B,C,S,rfl,hBt,htb,hb2,hne⟩;have S2:Hid (ku lo R a len cap (P+1) w w2 X (X+1) _ am _ cm av 3 cv ak _ cs):=S1.out.below hb2;have HG2:Hid (w.grownBy w2 (some R)):=ae HG1.out (aL hb2);have HBT:Hid (tT w1.heap.size b w2 g1 nm c1 G c g3 ns c3 g0 A.length d0 h1 B.length d1 h2 C.length d2 M A B C S):=hBt;have HTB:Hid (bc q M [A,B,C] S=true):=htb;have HNE:Hid (h1≠g0∧h1≠h2):=hne;have HS1:Hid (w.heap.size≤w1.heap.size∧R<w.heap.size):=⟨S1.out.low.size,by have:=S1.out.top;omega⟩;have x0:=S2.out.bx.c0;have x1:=S2.out.bx.c1;have x2:=S2.out.bx.c2;have x3:=S2.out.bx.c3;have xz:=S2.out.bx.lt;have xf:=S2.out.bx.fz;clear S1 HG1 hBt htb hb2 HNV hne;go_upto_region 5 with fail
 obtain ⟨w3,hw3⟩:=aS ((((w2.setCell ⟨X,0,none⟩ (iT q)).setCell ⟨X,1,none⟩ (sL g1 nm c1)).setCell ⟨X,2,none⟩ (sL G 3 c)).setCell ⟨X,3,none⟩ (sL g3 ns c3));have S3:Hid (lM R a len cap (P+1) w w3 X (X+1) b q g1 nm c1 G c g3 ns c3 g0 A.length d0 h1 B.length d1 h2 C.length d2 M A B C S):=by
  have ht:=S2.out.top;have hXR:X≠R:=by omega
  have hfar:∀b off,a=some ⟨b,off,none⟩→0<len→b≠X:=fun b off e hl=>by
   rcases ht.2.2.2.1 with h0 | h0
   · omega
   · have:=h0 b off e;omega
  have k1:=S2.out.kx.1;have k2:=S2.out.kx.2;have hr:=S2.out.br;have hle:w.heap.size≤X:=ht.2.1;rw [hw3];have hB:=HBT.out.kp (R:=R) (by have:=HS1.out;omega) (iV.four k1 (iT q) (sL g1 nm c1) (sL G 3 c) (sL g3 ns c3));exact ⟨(((S2.out.rd.other hXR hfar _ _).other hXR hfar _ _).other hXR hfar _ _).other hXR hfar _ _,(((S2.out.bx.set0 _).set1 _).set2 _).set3 _,(((hr.other (by omega) _).other (by omega) _).other (by omega) _).other (by omega) _,⟨(((k1.setCell _).setCell _).setCell _).setCell _,(((k2.setCell _).setCell _).setCell _).setCell _⟩,
   ⟨hB.mem.mono HS1.out.1,ew hB.row HS1.out.1,hB.rA,hB.rB,hB.rC,ew hB.sn HS1.out.1,hB.slen,hB.swf,hB.far,Nat.le_trans HS1.out.1 hB.top.1,hB.top.2⟩,aH (aH (aH (aH HG2.out hle (cy _ _ _ _)) hle (cy _ _ _ _)) hle (cy _ _ _ _)) hle (cy _ _ _ _),ht.2.1,by omega,by omega,HS1.out.2,ht.2.2.2.1⟩
 rw [← hw3];clear hw3 x0 x1 x2 x3 xz xf S2 HG2 HBT;have HQ:Hid (0≤q∧q≤100000∧M.length≤60∧S.length≤4∧A.length≤4∧B.length≤8):=by
  have h1:=bh HTB.out;have h2:=kO HTB.out;have h3:=(dQ.1 HTB.out).2.2.2.2.2.2.1;have h4:=(dk.1 h3.1).1;have h5:=(dk.1 h3.2.1).1;exact ⟨by omega,by omega,h1.2.2.1,h2,by omega,by omega⟩
 have hnsQ:ns≤99:=by have h1:=HQ.out;have h2:=S3.out.bt.slen;omega
 clear HTB;go_upto_block 0 with fail
 go_cut [21] (fun _ wz=>Cm lo R a len cap P w wz X (X+1))
 case first =>
  by_cases k0:k=0
  · subst k0;have x0:=S3.out.bx.c0;have x1:=S3.out.bx.c1;have x2:=S3.out.bx.c2;have x3:=S3.out.bx.c3;have xz:=S3.out.bx.lt;have xf:=S3.out.bx.fz;have hwq:IntKind.i64.wrap (q - 1)=q - 1:=by have:=HQ.out;rw [IntWalk.i64_left];unfold wrap64;omega
    go_wp2_with fail
    clear x0 x1 x2 x3 xz xf hwq;have kc:Bl w3 (w3.alloc (.cells ((([0,-1,100001,q - 1]:List Int).map iT).toArray) 3)):=bZ;refine (dX Wf R (P+1) a len cap w3.heap.size 0 4 4 _ (S3.out.rd.below kc) (by omega) (by omega) (by omega) (by have:=S3.out.rd.lt;omega) (by simp) (dR w3 3 [0,-1,100001,q - 1] Wf ?_)).mono ?_
    · intro s hs;have:=HQ.out;simp only [List.mem_cons,List.not_mem_nil,or_false] at hs;rcases hs with rfl | rfl | rfl | rfl <;> exact WalkArith.wf_i64 (by omega)
    rintro e w4 ⟨z,rfl,hz,hR4,hg4⟩;have S4:Hid (lM R a len cap (P+1+1) w w4 X (X+1) b q g1 nm c1 G c g3 ns c3 g0 A.length d0 h1 B.length d1 h2 C.length d2 M A B C S):=(S3.out.below kc).read hg4 hR4;clear kc hR4 hg4 S3;have x0:=S4.out.bx.c0;have x1:=S4.out.bx.c1;have x2:=S4.out.bx.c2;have x3:=S4.out.bx.c3;have xz:=S4.out.bx.lt;have xf:=S4.out.bx.fz;go_wp2;go_meet
    exact nz 0 _ S4.out.rd (by omega) (S4.out.bx.set0 _) S4.out.br S4.out.kx hz (S4.out.bt.rdT HS1.out.2) S4.out.gr S4.out.top
  have kb0:(k == 0)=false:=by simpa using k0
  by_cases k1:k=1
  · subst k1;have HMK:Hid (∀w',ar w' X (iT q) (sL g1 nm c1) (sL G 3 c) (sL g3 ns c3)→(fun w':World=>w'.cell? ⟨X,0,none⟩=some (iT q)∧w'.cell? ⟨X,1,none⟩=some (sL g1 nm c1)∧w'.cell? ⟨X,2,none⟩=some (sL G 3 c)∧w'.cell? ⟨X,3,none⟩=some (sL g3 ns c3)∧X<w'.heap.size) w'):=fun w' b=>⟨b.c0,b.c1,b.c2,b.c3,b.lt⟩
    have S4:Hid (lM R a len cap (P+1) w w3.drew X (X+1) b q g1 nm c1 G c g3 ns c3 g0 A.length d0 h1 B.length d1 h2 C.length d2 M A B C S):=S3.out.below (Below.refl _ w3).drew;clear S3;go_upto_region 10 with fail
    refine Bd 7 HMK S4.out.bx fun aa=>?_
    generalize w3.drew=wd at aa S4 ⊢;refine r9 0 3 aa ?_;refine pS 3 fun K hK=>?_
    go_simp;refine (gP R (P+1) a len cap 1 _ S4.out.rd (by omega) (by decide)).mono ?_;rintro e w4 ⟨kk,tt,qq,d,nn,P2,rfl,hEF,hR4,hP2,hg4⟩;have S5:Hid (lM R a len cap P2 w w4 X (X+1) b q g1 nm c1 G c g3 ns c3 g0 A.length d0 h1 B.length d1 h2 C.length d2 M A B C S):=S4.out.read hg4 hR4;have HEF:Hid (iO kk tt qq d nn):=hEF;clear hEF hR4 hg4 S4;go_wp2_with fail
    refine hK.out _ _ (HMK.out _ S5.out.bx) fun aa=>?_
    (try go_frame);refine pS 4 fun K hK=>?_
    go_simp;have kc:Bl w4 (w4.alloc (.cells #[.string kk,iT qq,iT d,.string tt,iT nn] 50)):=bZ;have S6:Hid (lM R a len cap P2 w (w4.alloc (.cells #[.string kk,iT qq,iT d,.string tt,iT nn] 50)) X (X+1) b q g1 nm c1 G c g3 ns c3 g0 A.length d0 h1 B.length d1 h2 C.length d2 M A B C S):=S5.out.below kc;have hcn:=pr w4 kk qq d tt nn;clear kc S5;generalize w4.heap.size=gb at hcn ⊢;generalize w4.alloc (.cells #[.string kk,iT qq,iT d,.string tt,iT nn] 50)=w5 at S6 hcn ⊢;refine hK.out _ _ (HMK.out _ S6.out.bx) fun aa=>?_
    (try go_frame);refine pS 5 fun K hK=>?_
    have hml:=S6.out.bt.mem.len;have hmb:=HQ.out;refine fd rfl (.tmp 44) (.tmp 47) 28 rfl w.heap.size 50 i0 _ 5 56 Tryz.underlying28 hi hz0 hz1 hz2 rfl (by decide) g1 nm c1 _ rfl S6.out.bt.mem.owns ⟨gb,0,none⟩ 1 1 [.string kk,iT qq,iT d,.string tt,iT nn] rfl rfl hcn (by intro u hu;simp at hu;rcases hu with rfl | rfl | rfl | rfl | rfl <;> rfl) (by unfold maxLen;omega) (by omega) S6.out.gr.size ?_;intro g8 c8 w8 ho8 hg8 hat8;obtain ⟨⟨s1,kE⟩,_⟩:=S6.out.bt.kinds;obtain ⟨y1,y2,y3,y4,y5⟩:=S6.out.wrote hg8 kE (by decide) S6.out.bt.mem.lt.1;have HY2:Hid (ar w8 X (iT q) (sL g1 nm c1) (sL G 3 c) (sL g3 ns c3)):=y2;have HO8:ay w8 w.heap.size g8 (nm+1) c8 (M++[((kk,qq,d,tt,nn):ac)]):=⟨by rw [aU];exact ho8,by rw [List.length_append,hml];rfl,fun l hl=>by
     rcases List.mem_append.1 hl with h | h
     · exact S6.out.bt.mem.ents l h
     · rw [List.mem_singleton] at h;subst h;exact ft HEF.out⟩
    have hT8:Hid (z6 R w8 (pT g8) (nm+1) c8 (pT G) 3 c (pT g3) ns c3 (M++[((kk,qq,d,tt,nn):ac)]) [A,B,C] S):=by
     have t:=S6.out.bt;have hRb:R<b:=Nat.lt_of_lt_of_le HS1.out.2 t.top.1;exact jc HO8 (cC t.row t.mem.owns (by decide) hg8) ((t.rA.low t.far hg8).lvQ hRb) ((t.rB.low t.far hg8).lvQ hRb) ((t.rC.low t.far hg8).lvQ hRb) (cC t.sn t.mem.owns (by decide) hg8) t.slen t.swf HS1.out.2
    have HY:Hid (aW w8 R a len cap P2∧ar w8 (X+1) (iT 0) nZ nZ nZ∧(an w8 X 31 4∧an w8 (X+1) 31 4)∧w.grownBy w8 (some R)):=⟨y1,y3,y4,y5⟩;have HTP:Hid _:=S6.out.top;clear ho8 hg8 hat8 kE y1 y2 y3 y4 y5 HO8 S6 hcn hml hmb;refine hK.out _ _ (HMK.out _ HY2.out) fun aa=>?_
    (try go_frame);refine r9 6 1 aa ?_;refine A7 7 fun K hK=>?_
    have x0:=HY2.out.c0;have x1:=HY2.out.c1;have x2:=HY2.out.c2;have x3:=HY2.out.c3;have xz:=HY2.out.lt;have xf:=HY2.out.fz;go_simp;refine hK.out _ _ ?_;clear hK K;(try go_frame);refine dZ ?_;clear x0 x1 x2 x3 xz xf aa HMK;go_wp2;go_meet
    exact nz 1 _ HY.out.1 (by omega) (HY2.out.set1 _) HY.out.2.1 HY.out.2.2.1 (WalkArith.wf_i64 (by have:=HQ.out;omega)) hT8.out HY.out.2.2.2 HTP.out
  have kb1:(k == 1)=false:=by simpa using k1
  by_cases k2:k=2
  · subst k2;have x0:=S3.out.bx.c0;have x1:=S3.out.bx.c1;have x2:=S3.out.bx.c2;have x3:=S3.out.bx.c3;have xz:=S3.out.bx.lt;have xf:=S3.out.bx.fz;have hg3:(2:Int)≤((3:Nat):Int):=by omega
    have hc3:3≤c:=by have:=(cj S3.out.bt.row).1;omega
    have hc4:(2:Int)≤(c:Int):=by omega
    have hc5:2≤c:=by omega
    go_wp2;go_meet
    have t:=S3.out.bt;have hRb:R<b:=Nat.lt_of_lt_of_le HS1.out.2 t.top.1;exact nz 2 _ S3.out.rd (by omega) (S3.out.bx.set2 _) S3.out.br S3.out.kx (WalkArith.wf_i64 (by have:=HQ.out;omega)) (Am t.mem t.row (t.rA.lvQ hRb) (t.rB.lvQ hRb) (t.rC.lvQ hRb) t.sn t.slen t.swf HS1.out.2) S3.out.gr S3.out.top
  have kb2:(k == 2)=false:=by simpa using k2
  by_cases k3:k=3
  · subst k3;have HMK:Hid (∀w',ar w' X (iT q) (sL g1 nm c1) (sL G 3 c) (sL g3 ns c3)→(fun w':World=>w'.cell? ⟨X,0,none⟩=some (iT q)∧w'.cell? ⟨X,1,none⟩=some (sL g1 nm c1)∧w'.cell? ⟨X,2,none⟩=some (sL G 3 c)∧w'.cell? ⟨X,3,none⟩=some (sL g3 ns c3)∧X<w'.heap.size) w'):=fun w' b=>⟨b.c0,b.c1,b.c2,b.c3,b.lt⟩
    have S4:Hid (lM R a len cap (P+1) w w3.drew X (X+1) b q g1 nm c1 G c g3 ns c3 g0 A.length d0 h1 B.length d1 h2 C.length d2 M A B C S):=S3.out.below (Below.refl _ w3).drew;have hwq:IntKind.i64.wrap (q+1)=q+1:=by have:=HQ.out;rw [IntWalk.i64_left];unfold wrap64;omega
    clear S3;go_upto_region 14 with fail
    refine Bd 13 HMK S4.out.bx fun aa=>?_
    generalize w3.drew=wd at aa S4 ⊢;refine r9 0 8 aa ?_;refine pS 8 fun K hK=>?_
    go_simp;have kc:Bl wd (wd.alloc (.cells ((([0,q+1,-1,q]:List Int).map iT).toArray) 3)):=bZ;have S5:Hid (lM R a len cap (P+1) w (wd.alloc (.cells ((([0,q+1,-1,q]:List Int).map iT).toArray) 3)) X (X+1) b q g1 nm c1 G c g3 ns c3 g0 A.length d0 h1 B.length d1 h2 C.length d2 M A B C S):=S4.out.below kc;have hin:=dR wd 3 [0,q+1,-1,q] Wf (by
     intro s hs;have:=HQ.out;simp only [List.mem_cons,List.not_mem_nil,or_false] at hs;rcases hs with rfl | rfl | rfl | rfl <;> exact WalkArith.wf_i64 (by omega))
    have hnl:wd.heap.size≠R:=by have:=S4.out.rd.lt;omega
    have hnz:wd.heap.size<(wd.alloc (.cells ((([0,q+1,-1,q]:List Int).map iT).toArray) 3)).heap.size:=by simp
    clear kc S4 hwq;simp only [List.map_cons,List.map_nil] at hin hnz S5;generalize wd.heap.size=gn at hin hnl hnz ⊢;generalize wd.alloc (.cells [iT 0,iT (q+1),iT (-1),iT q].toArray 3)=w4 at hin hnz S5 ⊢;refine hK.out _ _ (HMK.out _ S5.out.bx) fun aa=>?_
    (try go_frame);refine pS 9 fun K hK=>?_
    go_simp;refine (dX Wf R (P+1) a len cap gn 0 4 4 _ S5.out.rd (by omega) (by omega) (by omega) hnl hnz hin).mono ?_;rintro e w5 ⟨z,rfl,hz,hR5,hg5⟩;have S6:Hid (lM R a len cap (P+1+1) w w5 X (X+1) b q g1 nm c1 G c g3 ns c3 g0 A.length d0 h1 B.length d1 h2 C.length d2 M A B C S):=S5.out.read hg5 hR5;have HZ:Hid (Wf z):=hz;clear hz hR5 hg5 S5 hin hnl hnz;go_wp2_with fail
    refine hK.out _ _ (HMK.out _ S6.out.bx) fun aa=>?_
    (try go_frame);refine pS 10 fun K hK=>?_
    go_simp;have kc:Bl w5 (w5.alloc (.cells #[iT z] 3)):=bZ;have S7:Hid (lM R a len cap (P+1+1) w (w5.alloc (.cells #[iT z] 3)) X (X+1) b q g1 nm c1 G c g3 ns c3 g0 A.length d0 h1 B.length d1 h2 C.length d2 M A B C S):=S6.out.below kc;have hcn:=eD w5 (iT z) 3;clear kc S6;generalize w5.heap.size=gb at hcn ⊢;generalize w5.alloc (.cells #[iT z] 3)=w6 at S7 hcn ⊢;refine hK.out _ _ (HMK.out _ S7.out.bx) fun aa=>?_
    (try go_frame);refine pS 11 fun K hK=>?_
    have hsl:=S7.out.bt.slen;have hmb:=HQ.out;refine fd rfl (.tmp 59) (.tmp 68) 24 rfl w.heap.size 3 j0 _ 1 8 Tryz.underlying24 hj hy0 hy1 hy2 rfl (by decide) g3 ns c3 _ rfl S7.out.bt.sn ⟨gb,0,none⟩ 1 1 [iT z] rfl rfl hcn (by intro u hu;simp at hu;subst hu;rfl) (by unfold maxLen;omega) (by omega) S7.out.gr.size ?_;intro g8 c8 w8 ho8 hg8 hat8;obtain ⟨_,_,⟨s1,kI⟩,_⟩:=S7.out.bt.kinds;obtain ⟨y1,y2,y3,y4,y5⟩:=S7.out.wrote hg8 kI (by decide) (S7.out.bt.sn.lt g3 rfl).1;have HY2:Hid (ar w8 X (iT q) (sL g1 nm c1) (sL G 3 c) (sL g3 ns c3)):=y2;have hT8:Hid (z6 R w8 (pT g1) nm c1 (pT G) 3 c (pT g8) (ns+1) c8 M [A,B,C] (S++[z])):=by
     have t:=S7.out.bt;have hRb:R<b:=Nat.lt_of_lt_of_le HS1.out.2 t.top.1;exact jc (dw t.mem t.sn (by decide) hg8) (cC t.row t.sn (by decide) hg8) ((t.rA.grown kI (by decide) (by decide) hg8).lvQ hRb) ((t.rB.grown kI (by decide) (by decide) hg8).lvQ hRb) ((t.rC.grown kI (by decide) (by decide) hg8).lvQ hRb) (by rw [List.map_append];exact ho8) (by rw [List.length_append,hsl];rfl) (fun y hy=>by
      rcases List.mem_append.1 hy with h | h
      · exact t.swf y h
      · rw [List.mem_singleton] at h;subst h;exact HZ.out) HS1.out.2
    have HY:Hid (aW w8 R a len cap (P+1+1)∧ar w8 (X+1) (iT 0) nZ nZ nZ∧(an w8 X 31 4∧an w8 (X+1) 31 4)∧w.grownBy w8 (some R)):=⟨y1,y3,y4,y5⟩;have HTP:Hid _:=S7.out.top;clear ho8 hg8 hat8 kI y1 y2 y3 y4 y5 S7 hcn hsl hmb;refine hK.out _ _ (HMK.out _ HY2.out) fun aa=>?_
    (try go_frame);refine r9 12 1 aa ?_;refine A7 13 fun K hK=>?_
    have x0:=HY2.out.c0;have x1:=HY2.out.c1;have x2:=HY2.out.c2;have x3:=HY2.out.c3;have xz:=HY2.out.lt;have xf:=HY2.out.fz;go_simp;refine hK.out _ _ ?_;clear hK K;(try go_frame);refine dZ ?_;clear x0 x1 x2 x3 xz xf aa HMK;go_wp2;go_meet
    exact nz 3 _ HY.out.1 (by omega) (HY2.out.set3 _) HY.out.2.1 HY.out.2.2.1 (WalkArith.wf_i64 (by have:=HQ.out;omega)) hT8.out HY.out.2.2.2 HTP.out
  have kb3:(k == 3)=false:=by simpa using k3
  by_cases k4:k=4
  · subst k4;have x0:=S3.out.bx.c0;have x1:=S3.out.bx.c1;have x2:=S3.out.bx.c2;have x3:=S3.out.bx.c3;have xz:=S3.out.bx.lt;have xf:=S3.out.bx.fz;have y0:=S3.out.bt.row.cellAt 0 (by omega);have y1:=S3.out.bt.row.cellAt 1 (by omega);have y2:=S3.out.bt.row.cellAt 2 (by omega);have yf:=S3.out.bt.row.frozenAt;have yz:=(S3.out.bt.row.lt G rfl).2;simp only [List.getElem?_cons_zero,List.getElem?_cons_succ] at y0 y1 y2;have hXG:X≠G:=fun e=>by obtain ⟨_,⟨s1,kG⟩,_⟩:=S3.out.bt.kinds;rw [← e] at kG;exact absurd (S3.out.kx.1.kind kG) (by decide)
    have hGX:G≠X:=fun e=>hXG e.symm
    have HMK:Hid (∀w':World,(w'.cell? ⟨X,2,none⟩=some (sL G 3 c)∧X<w'.heap.size∧w'.cell? ⟨G,2,none⟩=some (sL h2 C.length d2)∧G<w'.heap.size)→(fun w':World=>w'.cell? ⟨X,2,none⟩=some (sL G 3 c)∧X<w'.heap.size∧w'.cell? ⟨G,2,none⟩=some (sL h2 C.length d2)∧G<w'.heap.size) w'):=fun _ h=>h
    go_upto_region 17 with fail
    have S4:Hid (lM R a len cap (P+1) w w3.drew X (X+1) b q g1 nm c1 G c g3 ns c3 g0 A.length d0 h1 B.length d1 h2 C.length d2 M A B C S):=S3.out.below (Below.refl _ w3).drew;clear S3 x0 x1 x2 x3 xz xf y0 y1 y2 yf yz;refine eC HMK ⟨S4.out.bx.c2,S4.out.bx.lt,S4.out.bt.row.cellAt 2 (by omega),(S4.out.bt.row.lt G rfl).2⟩ fun aa=>?_
    generalize w3.drew=wd at aa S4 ⊢;refine aO 0 7 aa ?_;refine aI 7 fun K hK=>?_
    have y0:=S4.out.bt.row.cellAt 0 (by omega);have y1:=S4.out.bt.row.cellAt 1 (by omega);have y2:=S4.out.bt.row.cellAt 2 (by omega);have yf:=S4.out.bt.row.frozenAt;have yz:=(S4.out.bt.row.lt G rfl).2;simp only [List.getElem?_cons_zero,List.getElem?_cons_succ] at y0 y1 y2;go_simp;refine hK.out _ _ ?_ (fun aa=>?_)
    · exact ⟨(S4.out.bx.other hGX _).c2,(S4.out.bx.other (o:=0) hGX (sL h2 C.length d2)).lt,by rw [World.cell?_setCell_other _ _ _ _ (by simp)];exact y2,by simpa [World.setCell] using yz⟩
    clear hK K y0 y1 y2;(try go_frame);refine dN ?_;clear aa HMK;have xb:=S4.out.bx.other (b':=G) (o:=0) hGX (sL h2 C.length d2);have x2:=xb.c2;have xz:=xb.lt;have rw1:=(S4.out.bt.row.stored 0 (sL h2 C.length d2)).1;have y2:=rw1.cellAt 2 (by omega);have yf:=rw1.frozenAt;have yz:=(rw1.lt G rfl).2;clear rw1 xb;go_wp2;go_meet
    have t:=S4.out.bt;obtain ⟨_,⟨s1,kG⟩,_⟩:=t.kinds;have hGl:=(t.row.lt G rfl).1;have s2:=cy wd G 0 (sL h2 C.length d2);have s3:=cy (wd.setCell ⟨G,0,none⟩ (sL h2 C.length d2)) G 2 (sL g0 A.length d0);have hg:wd.grownBy _ (some G):=ae s2 s3;obtain ⟨z1,z2,z3,z4,z5⟩:=S4.out.wrote hg kG (by decide) hGl;exact nC z1 (by omega) z2 z3 z4.2 (WalkArith.wf_i64 (by have:=HQ.out;omega)) (t.swap.rdT HS1.out.2) z5 ⟨S4.out.top.2.1,S4.out.top.2.2.2⟩
  have kb4:(k == 4)=false:=by simpa using k4
  by_cases k5:k=5
  · subst k5;go_wp2;go_loopw [7] (fun iv wr=>∃(i P' g0 n0 d0 h1 n1 d1 h2 n2 d2:Nat) (A B C:List ag),iv=iT (i:Int)∧i≤5∧P'≤P+1+160*i∧n0≤4+i∧lM R a len cap P' w wr X (X+1) b q g1 nm c1 G c g3 ns c3 g0 n0 d0 h1 n1 d1 h2 n2 d2 M A B C S) (fun iv _=>(5 - (intOf iv).toNat))
    case atStart=>exact ⟨0,P+1,g0,A.length,d0,h1,B.length,d1,h2,C.length,d2,A,B,C,rfl,by omega,by omega,by have:=HQ.out;omega,S3.out⟩
    case round =>
     clear S3;obtain ⟨i,P',g0,n0,d0,h1,n1,d1,h2,n2,d2,A,B,C,rfl,hi5,hP',hn0,hS⟩:=hrel;have S4:Hid (lM R a len cap P' w wr X (X+1) b q g1 nm c1 G c g3 ns c3 g0 n0 d0 h1 n1 d1 h2 n2 d2 M A B C S):=hS;clear hS;by_cases hlt:i<5
     · have hltI:(i:Int)<5:=by omega
       have hwi:IntKind.i64.wrap ((i:Int)+1)=(i:Int)+1:=by rw [IntWalk.i64_left];unfold wrap64;omega
       have HMK:Hid (∀w',(∃P2,lM R a len cap P2 w w' X (X+1) b q g1 nm c1 G c g3 ns c3 g0 n0 d0 h1 n1 d1 h2 n2 d2 M A B C S)→(fun w':World=>w'.cell? ⟨X,0,none⟩=some (iT q)∧w'.cell? ⟨X,1,none⟩=some (sL g1 nm c1)∧w'.cell? ⟨X,2,none⟩=some (sL G 3 c)∧w'.cell? ⟨X,3,none⟩=some (sL g3 ns c3)∧w'.cell? ⟨G,0,none⟩=some (sL g0 n0 d0)∧X<w'.heap.size∧G<w'.heap.size) w'):=fun w' hb=>by
        obtain ⟨P2,hb⟩:=hb;exact ⟨hb.bx.c0,hb.bx.c1,hb.bx.c2,hb.bx.c3,by have:=hb.bt.row.cellAt 0 (by omega);simpa using this,hb.bx.lt,(hb.bt.row.lt G rfl).2⟩
       have S5:Hid (lM R a len cap P' w wr.drew X (X+1) b q g1 nm c1 G c g3 ns c3 g0 n0 d0 h1 n1 d1 h2 n2 d2 M A B C S):=S4.out.below (Below.refl _ wr).drew;clear S4;go_upto_region 23 with fail
       refine Bd 13 HMK ⟨P',S5.out⟩ fun aa=>?_
       generalize wr.drew=wd at aa S5 ⊢;refine r9 0 3 aa ?_;refine r9 4 5 aa ?_;refine pS 3 fun K hK=>?_
       go_simp;refine (cF R P' a len cap 3 _ S5.out.rd (by omega) (by omega)).mono ?_;rintro e w4 ⟨kp,rfl,hk,hR4,hg4⟩;have S6:Hid (lM R a len cap (P'+1) w w4 X (X+1) b q g1 nm c1 G c g3 ns c3 g0 n0 d0 h1 n1 d1 h2 n2 d2 M A B C S):=S5.out.read hg4 hR4;have hk3:0≤kp∧kp<3:=⟨hk.1,hk.2 (by omega)⟩;obtain ⟨kn,rfl⟩:=Int.eq_ofNat_of_zero_le hk3.1;have hkn:kn<3:=by omega
       have hknI:(kn:Int)<3:=by omega
       have hknJ:(kn:Int)<((3:Nat):Int):=by omega
       clear hk hk3 hR4 hg4 S5;go_wp2_with fail
       refine hK.out _ _ (HMK.out _ ⟨_,S6.out⟩) fun aa=>?_
       (try go_frame);refine pS 9 fun K hK=>?_
       go_simp;refine (uK R (P'+1) a len cap _ S6.out.rd S6.out.top.2.2.2.2 (by omega)).mono ?_;rintro e w5 ⟨ge,ne,ce,P3,m,L,rfl,hO,hn13,hAF,hmw,hR5,hP3,hg5⟩;have S7:Hid (lM R a len cap P3 w w5 X (X+1) b q g1 nm c1 G c g3 ns c3 g0 n0 d0 h1 n1 d1 h2 n2 d2 M A B C S):=S6.out.read hg5 hR5;have HO:Hid (ay w5 b ge ne ce L):=hO.mono S6.out.bt.top.2;have HMW:Hid ((Lit.int .i64 m).wf=true):=hmw;clear hO hAF hmw hR5 hg5 S6 hn13;go_wp2_with fail
       refine hK.out _ _ (HMK.out _ ⟨_,S7.out⟩) fun aa=>?_
       (try go_frame);refine pS 10 fun K hK=>?_
       go_simp;have kc:Bl w5 (w5.alloc (.cells #[sL ge ne ce,iT m] 63)):=bZ;have S8:Hid (lM R a len cap P3 w (w5.alloc (.cells #[sL ge ne ce,iT m] 63)) X (X+1) b q g1 nm c1 G c g3 ns c3 g0 n0 d0 h1 n1 d1 h2 n2 d2 M A B C S):=S7.out.below kc;have HO8:Hid (ay (w5.alloc (.cells #[sL ge ne ce,iT m] 63)) b ge ne ce L):=HO.out.below kc;have hcn:=bT w5 (sL ge ne ce) (iT m) 63;clear kc S7 HO;generalize w5.heap.size=gb at hcn ⊢;generalize w5.alloc (.cells #[sL ge ne ce,iT m] 63)=w6 at S8 HO8 hcn ⊢;refine hK.out _ _ (HMK.out _ ⟨_,S8.out⟩) fun aa=>?_
       (try go_frame);refine pS 11 fun K hK=>?_
       have hrA:=S8.out.bt.rA;obtain ⟨q1,q2,xsA,q3,q4⟩:=hrA;refine fd rfl (.tmp 101) (.tmp 104) 61 rfl b 63 l0 _ 2 32 Tryz.underlying61 hl hx0 hx1 hx2 rfl (by decide) g0 n0 d0 _ rfl q3 ⟨gb,0,none⟩ 1 1 [sL ge ne ce,iT m] rfl rfl hcn (by intro u hu;simp at hu;rcases hu with rfl | rfl <;> rfl) (by unfold maxLen;omega) (by omega) S8.out.bt.top.2 ?_;intro g8 c8 w8 ho8 hg8 hat8;have hel:=HO8.out.len;subst hel;have hD:=f7 q1 q2 q3 (fun i p hp=>q4 i p hp) HO8.out HMW.out hg8 ho8;obtain ⟨s1,kA⟩:=aJ q3;have t:=S8.out.bt;obtain ⟨A',hA'⟩:=t.rA.beside t.rA hg8 hat8 HO8.out HMW.out;obtain ⟨B',hB'⟩:=t.rB.beside t.rA hg8 hat8 HO8.out HMW.out;obtain ⟨C',hC'⟩:=t.rC.beside t.rA hg8 hat8 HO8.out HMW.out;obtain ⟨z1,z2,z3,z4,z5⟩:=S8.out.wrote hg8 kA (by decide) (Nat.le_trans t.top.1 (q3.lt g0 rfl).1);have S9:Hid (lM R a len cap P3 w w8 X (X+1) b q g1 nm c1 G c g3 ns c3 g0 n0 d0 h1 n1 d1 h2 n2 d2 M A' B' C' S):=⟨z1,z2,z3,z4,⟨dw t.mem q3 (by decide) hg8,cC t.row q3 (by decide) hg8,hA',hB',hC',cC t.sn q3 (by decide) hg8,t.slen,t.swf,t.far,t.top.1,Nat.le_trans t.top.2 hg8.size⟩,z5,S8.out.top⟩;have HD:Hid (aZ b w8 g8 (n0+1) c8 (A++[(L,m)])):=hD;clear q1 q2 q3 q4 ho8 hg8 hat8 hD kA t hA' hB' hC' z1 z2 z3 z4 z5 S8 HO8 hcn;refine hK.out _ _ (by have hb:=S9.out;exact ⟨hb.bx.c0,hb.bx.c1,hb.bx.c2,hb.bx.c3,by have:=hb.bt.row.cellAt 0 (by omega);simpa using this,hb.bx.lt,(hb.bt.row.lt G rfl).2⟩) fun aa=>?_
       (try go_frame);refine r9 12 1 aa ?_;refine A7 13 fun K hK=>?_
       have yc:∃v,w8.cell? ⟨G,kn,none⟩=some v:=by
        rcases (by omega:kn=0∨kn=1∨kn=2) with rfl | rfl | rfl
        · exact ⟨_,S9.out.bt.row.cellAt 0 (by omega)⟩
        · exact ⟨_,S9.out.bt.row.cellAt 1 (by omega)⟩
        · exact ⟨_,S9.out.bt.row.cellAt 2 (by omega)⟩
       obtain ⟨yv,yc⟩:=yc;have yf:=S9.out.bt.row.frozenAt;have yz:=(S9.out.bt.row.lt G rfl).2;go_simp;refine hK.out _ _ ?_;clear hK K yc yf yz;(try go_frame);refine dZ ?_;clear aa HMK;go_wp2;go_roundw
       case rel =>
        obtain ⟨a0,m0,k0',a1,m1,k1',a2,m2,k2',A2,B2,C2,hb,hle⟩:=S9.out.bt.putL HD.out kn hkn (by omega);obtain ⟨_,⟨s1,kG⟩,_⟩:=S9.out.bt.kinds;obtain ⟨z1,z2,z3,z4,z5⟩:=S9.out.wrote (cy w8 G kn (sL g8 (n0+1) c8)) kG (by decide) (S9.out.bt.row.lt G rfl).1;exact ⟨i+1,P3,a0,m0,k0',a1,m1,k1',a2,m2,k2',A2,B2,C2,by rw [show ((i+1:Nat):Int)=(i:Int)+1 by omega],by omega,by omega,by omega,⟨z1,z2,z3,z4,hb,z5,S9.out.top⟩⟩
       case measure=>simp [intOf];omega
     · have hltI:¬(i:Int)<5:=by omega
       go_wp2_with fail
       go_meet
       have s:=S4.out;exact nC s.rd (by omega) s.bx s.br s.kx.2 (WalkArith.wf_i64 (by have:=HQ.out;omega)) (s.bt.rdT HS1.out.2) s.gr ⟨s.top.2.1,s.top.2.2.2⟩
  have kb5:(k == 5)=false:=by simpa using k5
  have HMK:Hid (∀w',(∃P2,lM R a len cap P2 w w' X (X+1) b q g1 nm c1 G c g3 ns c3 g0 A.length d0 h1 B.length d1 h2 C.length d2 M A B C S)→(fun w':World=>w'.cell? ⟨X,0,none⟩=some (iT q)∧w'.cell? ⟨X,1,none⟩=some (sL g1 nm c1)∧w'.cell? ⟨X,2,none⟩=some (sL G 3 c)∧w'.cell? ⟨X,3,none⟩=some (sL g3 ns c3)∧w'.cell? ⟨G,1,none⟩=some (sL h1 B.length d1)∧X<w'.heap.size∧G<w'.heap.size) w'):=fun w' hb=>by
   obtain ⟨P2,hb⟩:=hb;exact ⟨hb.bx.c0,hb.bx.c1,hb.bx.c2,hb.bx.c3,by have:=hb.bt.row.cellAt 1 (by omega);simpa using this,hb.bx.lt,(hb.bt.row.lt G rfl).2⟩
  have S4:Hid (lM R a len cap (P+1) w w3.drew X (X+1) b q g1 nm c1 G c g3 ns c3 g0 A.length d0 h1 B.length d1 h2 C.length d2 M A B C S):=S3.out.below (Below.refl _ w3).drew;clear S3;go_upto_region 6 with fail
  refine Bd 10 HMK ⟨_,S4.out⟩ fun aa=>?_
  generalize w3.drew=wd at aa S4 ⊢;refine r9 0 7 aa ?_;refine pS 7 fun K hK=>?_
  go_simp;have kc:Bl wd (wd.alloc (.cells #[nZ,iT 0] 63)):=bZ;have S8:Hid (lM R a len cap (P+1) w (wd.alloc (.cells #[nZ,iT 0] 63)) X (X+1) b q g1 nm c1 G c g3 ns c3 g0 A.length d0 h1 B.length d1 h2 C.length d2 M A B C S):=S4.out.below kc;have hcn:=bT wd nZ (iT 0) 63;clear kc S4;generalize wd.heap.size=gb at hcn ⊢;generalize wd.alloc (.cells #[nZ,iT 0] 63)=w6 at S8 hcn ⊢;refine hK.out _ _ (HMK.out _ ⟨_,S8.out⟩) fun aa=>?_
  (try go_frame);refine pS 8 fun K hK=>?_
  have hrB:=S8.out.bt.rB;obtain ⟨q1,q2,xsB,q3,q4⟩:=hrB;have hmb:=HQ.out;refine fd rfl (.tmp 27) (.tmp 29) 61 rfl b 63 l0 _ 2 32 Tryz.underlying61 hl hx0 hx1 hx2 rfl (by decide) h1 B.length d1 _ rfl q3 ⟨gb,0,none⟩ 1 1 [nZ,iT 0] rfl rfl hcn (by intro u hu;simp at hu;rcases hu with rfl | rfl <;> rfl) (by unfold maxLen;omega) (by omega) S8.out.bt.top.2 ?_;intro g8 c8 w8 ho8 hg8 hat8;obtain ⟨s1,kB⟩:=aJ q3;have t:=S8.out.bt;have hRb:R<b:=Nat.lt_of_lt_of_le HS1.out.2 t.top.1;have HRB:Hid (R<b):=hRb;obtain ⟨z1,z2,z3,z4,z5⟩:=S8.out.wrote hg8 kB (by decide) (Nat.le_trans t.top.1 (q3.lt h1 rfl).1);have HM:Hid (ay w8 w.heap.size g1 nm c1 M):=dw t.mem q3 (by decide) hg8;have HRW:Hid (w8.ownsRow w.heap.size 61 1 (sL G 3 c) 3 [sL g0 A.length d0,sL h1 B.length d1,sL h2 C.length d2]):=cC t.row q3 (by decide) hg8;have HLV:Hid (∀v,x9 R (w8.setCell ⟨G,1,none⟩ v) (pT g8) (B.length+1) c8 (B++[([],0)])):=fun v=>As q1 q2 q3 q4 (fun {e d L} hO=>dw (hO.grown hg8 (fun e'=>by
   obtain ⟨s4,k4⟩:=aJ hO.owns;have e'':e=h1:=Option.some.inj e';rw [e''] at k4;exact absurd (kB.kind k4) (by decide))) HRW.out (by decide) (cy _ _ _ _)) (cC ho8 HRW.out (by decide) (cy _ _ _ _)) hRb
  have HAC:Hid (aZ b w8 g0 A.length d0 A∧aZ b w8 h2 C.length d2 C):=⟨t.rA.grownR kB (fun e=>HNE.out.1 e.symm) hg8,t.rC.grownR kB (fun e=>HNE.out.2 e.symm) hg8⟩;have HSN:Hid (w8.ownsRow w.heap.size 3 1 (sL g3 ns c3) ns (S.map iT)∧S.length=ns∧∀z ∈ S,(Lit.int .i64 z).wf=true):=⟨cC t.sn q3 (by decide) hg8,t.slen,t.swf⟩;have HZ2:Hid (ar w8 X (iT q) (sL g1 nm c1) (sL G 3 c) (sL g3 ns c3)):=z2;have HZ:Hid (aW w8 R a len cap (P+1)∧ar w8 (X+1) (iT 0) nZ nZ nZ∧(an w8 X 31 4∧an w8 (X+1) 31 4)∧w.grownBy w8 (some R)):=⟨z1,z3,z4,z5⟩;have HTP:Hid (w.heap.size≤X∧w.heap.size≤X+1∧X≠X+1∧R<w.heap.size∧pK a len R):=S8.out.top;clear q1 q2 q3 q4 ho8 hg8 hat8 kB t z1 z2 z3 z4 z5 S8 hcn hRb;refine hK.out _ _ (by have hb:=HZ2.out;exact ⟨hb.c0,hb.c1,hb.c2,hb.c3,by have:=HRW.out.cellAt 1 (by omega);simpa using this,hb.lt,(HRW.out.lt G rfl).2⟩) fun aa=>?_
  (try go_frame);refine r9 9 1 aa ?_;refine A7 10 fun K hK=>?_
  have y1:=HRW.out.cellAt 1 (by omega);have yf:=HRW.out.frozenAt;have yz:=(HRW.out.lt G rfl).2;simp only [List.getElem?_cons_zero,List.getElem?_cons_succ] at y1;go_simp;refine hK.out _ _ ?_;clear hK K y1 yf yz;(try go_frame);refine dZ ?_;clear aa HMK;go_wp2;go_meet
  obtain ⟨s1,kG⟩:=aJ HRW.out;have sg:=cy w8 G 1 (sL g8 (B.length+1) c8);have hXG:X≠G:=fun e=>by rw [← e] at kG;exact absurd (HZ.out.2.2.1.1.kind kG) (by decide)
  have hXG1:X+1≠G:=fun e=>by rw [← e] at kG;exact absurd (HZ.out.2.2.1.2.kind kG) (by decide)
  have hle:=(HRW.out.lt G rfl).1;have hT:=HTP.out;refine nC (HZ.out.1.grown sg hT.2.2.2.2 (fun k e=>by cases e;omega)) (by omega) (HZ2.out.grownB sg hXG) (HZ.out.2.1.grownB sg hXG1) (HZ.out.2.2.1.2.grown sg hXG1) (WalkArith.wf_i64 (by have:=HQ.out;omega)) (M:=M) (V:=[A,B++[([],0)],C]) (S:=S) ?_ (aH HZ.out.2.2.2 hle sg) ⟨hT.2.1,hT.2.2.2⟩;have hRb:=HRB.out;exact jc (dw HM.out HRW.out (by decide) sg) (HRW.out.stored 1 (sL g8 (B.length+1) c8)).1 ((HAC.out.1.grown kG (by decide) (by decide) sg).lvQ hRb) (HLV.out _) ((HAC.out.2.grown kG (by decide) (by decide) sg).lvQ hRb) (cC HSN.out.1 HRW.out (by decide) sg) HSN.out.2.1 HSN.out.2.2 HS1.out.2
 case rest =>
  obtain ⟨P',q,am,nm,cm,av,nv,cv,ak,ns,cs,hrd,hP',hbx,hbr,hkz,hany,hgr,htp,hsv⟩:=hcut;have HSV:Hid (pw (.agg #[iT q,.slice am nm cm,.slice av nv cv,.slice ak ns cs])):=hsv;have HA:Hid (fw lo R wc (.agg #[iT q,.slice am nm cm,.slice av nv cv,.slice ak ns cs])):=hany;have HBR:Hid (ar wc (X+1) (iT 0) nZ nZ nZ):=hbr;have HY:Hid (aW wc R a len cap P'∧an wc (X+1) 31 4∧w.grownBy wc (some R)∧w.heap.size≤X+1∧R<w.heap.size∧pK a len R):=⟨hrd,hkz,hgr,htp⟩;have x0:=hbx.c0;have x1:=hbx.c1;have x2:=hbx.c2;have x3:=hbx.c3;have xz:=hbx.lt;have r0:=hbr.c0;have r1:=hbr.c1;have r2:=hbr.c2;have r3:=hbr.c3;have rf:=hbr.fz;have rz:=hbr.lt;clear hrd hbx hbr hkz hany hgr htp hsv S3;go_wp2;refine bodyPost_ret (v:=.agg #[iT q,.slice am nm cm,.slice av nv cv,.slice ak ns cs]) ?_ rfl ⟨_,P',rfl,HA.out.four HY.out.2.1 HBR.out,?_,hP',?_,fun _=>HSV.out⟩
  · have e:=(((HBR.out.set0 (iT q)).set1 (.slice am nm cm)).set2 (.slice av nv cv)).set3 (.slice ak ns cs);simp [results,Tryz.results76,go_sem,e.c0,e.c1,e.c2,e.c3]
  · have ht:=HY.out.2.2.2;have hXR:X+1≠R:=by omega
    have hfar:∀b off,a=some ⟨b,off,none⟩→0<len→b≠X+1:=fun b off e hl=>by
     rcases ht.2.2 with h0 | h0
     · omega
     · have:=h0 b off e;omega
    exact (((HY.out.1.other hXR hfar _ _).other hXR hfar _ _).other hXR hfar _ _).other hXR hfar _ _
  · have hle:w.heap.size≤X+1:=HY.out.2.2.2.1;exact aH (aH (aH (aH HY.out.2.2.1 hle (cy _ _ _ _)) hle (cy _ _ _ _)) hle (cy _ _ _ _)) hle (cy _ _ _ _)
end Go.Proofs.YtpobkmjicbobdaaGreat
