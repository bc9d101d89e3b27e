/- Walks. -/
import Derived.Test.YtpobkmjicbobdaaGreatBW36
namespace Go.Proofs.YtpobkmjicbobdaaGreat
set_option maxRecDepth 100000
set_option maxHeartbeats 8000000
open Go.RowKit Go.Sort
theorem vX {w:World} {base g n c:Nat} {D:List ac} {cur:Array Value} (hb:base≤g) (hg:w.heap[g]?=some (.cells cur 50 (0,0))) (hs:cur.size=c*5) (hE:ah w (pT g) n c D):ag w base g n c D:=by
 have hl:=hE.length;have hr:=hE.room;refine ⟨⟨by rw [aX,hl],Or.inr ⟨g,c,cur,rfl,hb,hg,hr,hE.big,hs,?_⟩⟩,hl,hE.ents⟩;apply List.ext_getElem?;intro j;by_cases d:j<n*5
 · have b:j<(aF D).length:=by rw [aX,hl];exact d
   have h1:=ch hE j _ (j' b);rw [G6,GT] at h1;have h2:w.cell? ⟨g,j,none⟩=cur[j]?:=by simp [World.cell?,hg]
   rw [h2] at h1;rw [Jk,if_pos d,Array.getElem?_toList,h1,j' b]
 · rw [IK (by simp;omega),IK (by rw [aX,hl];omega)]
theorem ag.block {w:World} {base g n c:Nat} {L:List ac} (h:ag w base g n c L):∃b,w.heap[g]?=some (.cells b 50 (0,0))∧b.size=c*5:=by
 rcases h.owns.2 with ⟨hv,_⟩ | ⟨e,d,b,hv,_,h2,_,_,h5,_⟩
 · cases hv
 · cases hv;exact ⟨b,h2,h5⟩
theorem yl {w:World} {base g n c m:Nat} {f:Array Obj} {L D:List ac} (hO:ag w base g n c L) (hp:D.Perm L):ag (sortWorldK bi 5 w g 0 m D.toArray f) base g n c D:=by
 have hE:=hO.entsAt;have hl:D.length=n:=hp.length_eq.trans hO.len;have o:=holdsK_sortWorldK_c bi 5 w g 0 L.toArray D.toArray m f (qY hO) hO.lt.2 (by simp [hp.length_eq]);obtain ⟨cur,hg,hs⟩:=hO.block;have b:=hO.lt.2;refine vX (cur:=putCells id 0 (flatK bi 5 D.toArray) cur) hO.lt.1 ?_ (by simpa [putCells] using hs) ⟨hl,hE.room,hE.big,fun l d=>hO.ents l (hp.mem_iff.1 d),(fun e=>by cases e),(fun x e _=>by cases e;exact ⟨E' hO.lt.2 (ng _).size,rfl⟩),(fun x e i hi=>by cases e;exact yY o i hi)⟩;unfold sortWorldK putRowK;rw [heap_grow_old _ _ (by simpa [putRow,mapBlock,Sort.ahead] using b)];simp [putRow,mapBlock,Sort.ahead,Array.getElem?_modify,hg,onCells]
theorem zH (base g n c:Nat) (Z X Y:List ac) (a b:Nat) (w:World) (hO:ag w base g n c (Z++(X++Y))) (ha:a=Z.length) (hb:b=Z.length+X.length) (hn:n≤1048576) :
 Calls Tryz.prog 213 #[sL g n c,iT a,iT b,.func (.func 112) #[] #[]] w fun e w'=>e=.returned (.tuple #[])∧ag w' base g n c (Z++(bH X++Y))∧w.grownBy w' (some g):=by
 subst ha hb;have hl:=hO.len;have hsz:(Z++(X++Y)).toArray.size=n:=by simpa using hl
 have d:Z.length+X.length≤n:=by rw [← hl];simp
 have f:∀args w,(callFunc 112 args).run Tryz.prog w=.ok (.enter 112 args) w:=enters_of Tryz.func112 (by kernel_rfl) rfl;have hcmp:CmpLays Tryz.prog 112 #[] bi 5 zt g 0 (Z++(X++Y)).toArray.size w:=fun m os o _ x y=>EQ x.1 x.2.2.2.1 y.1 y.2.2.2.1 x.2.1 x.2.2.1 x.2.2.2.2 y.2.1 y.2.2.1 y.2.2.2.2 _
 have h:=AnyQ.insertionSortCmpFunc Tryz.insL 5 Tryz.isAgg50 Tryz.sizeOf50 bi (fun _=>rfl) (fun x v hv=>by simp [bi] at hv;rcases hv with rfl | rfl | rfl | rfl | rfl <;> rfl) zt 112 #[] g 0 c Z.length (Z.length+X.length) (Z++(X++Y)).toArray w f hcmp (qY hO) hO.lt.2 (by omega) (by rw [hsz];exact d) (by rw [hsz];omega);rw [hsz,Fz,Dt] at h;have h':Calls Tryz.prog 213 #[sL g n c,iT (Z.length:Nat),iT ((Z.length+X.length:Nat):Int),.func (.func 112) #[] #[]] w fun e w'=>e=.returned (.tuple #[])∧∃m os,w'=sortWorldK bi 5 w g 0 m (Z++(bH X++Y)).toArray os:=h
 refine h'.mono ?_;rintro e w' ⟨rfl,m,os,rfl⟩;exact ⟨rfl,yl hO (((jn X).append_right Y).append_left Z),ng _⟩
def setE (w:World) (g i:Nat) (e:ac):World:=((((w.setCell ⟨g,i*5,none⟩ (.string e.1)).setCell ⟨g,i*5+1,none⟩ (iT e.2.1)).setCell ⟨g,i*5+2,none⟩ (iT e.2.2.1)).setCell ⟨g,i*5+3,none⟩ (.string e.2.2.2.1)).setCell ⟨g,i*5+4,none⟩ (iT e.2.2.2.2)
theorem ag.setE {w:World} {base g n c i:Nat} {L:List ac} {e:ac} (h:ag w base g n c L) (hi:i<n) (hw:d9 e):ag (setE w g i e) base g n c (L.set i e):=by
 obtain ⟨s,q,d,t,nn⟩:=e;have t0:=h.owns.stored (i*5) (.string s);have r:=t0.1.stored (i*5+1) (iT q);have o:=r.1.stored (i*5+2) (iT d);have t3:=o.1.stored (i*5+3) (.string t);have t4:=t3.1.stored (i*5+4) (iT nn);have hl:=h.len;have hx:(aF L).length=n*5:=by rw [aX,hl]
 have hf:((((((aF L).set (i*5) (.string s)).set (i*5+1) (iT q)).set (i*5+2) (iT d)).set (i*5+3) (.string t)).set (i*5+4) (iT nn))=aF (L.set i (s,q,d,t,nn)):=qA (by simp [hx,hl]) (fun j l f=>by
  by_cases b:j=i
  · subst b;rw [Hp (by omega)] at f;cases f;exact kF s t q d nn (by omega)
  · rw [G9 (IX b)] at f;exact jy (fP L j l f) b _ _ _ _ _)
 refine ⟨?_,by simp [hl],fun l m=>?_⟩
 · have h4:=t4.1;rw [hf] at h4;exact h4
 · rcases I8 m with h1 | h1
   · exact h.ents l h1
   · rw [h1];exact hw
theorem gU (w:World) (g o:Nat) (v:Value):w.grownBy (w.setCell ⟨g,o,none⟩ v) (some g) :=
 ⟨rfl,rfl,rfl,by simp [World.setCell],fun k _ hk=>Below.heap_setCell _ _ _ _ (fun e=>hk (by rw [e]))⟩
theorem gK (w:World) (g i:Nat) (e:ac):w.grownBy (Go.Proofs.YtpobkmjicbobdaaGreat.setE w g i e) (some g) :=
 ae (ae (ae (ae (gU _ _ _ _) (gU _ _ _ _)) (gU _ _ _ _)) (gU _ _ _ _)) (gU _ _ _ _)
theorem zq (b d e:List ac) (p q:ac):((b++p :: (d++q :: e)).set b.length q).set (b.length+1+d.length) p=b++q :: (d++p :: e):=by
 rw [Iq _ _ (GL _),IW,IQ,Iq _ _ (by omega),show b.length+1+d.length - b.length=d.length+1 by omega,IC,Iq _ _ (GL _),IW,IQ]
theorem ag.swap {w:World} {base g n c i j:Nat} {b d f:List ac} {p q:ac} (h:ag w base g n c (b++p :: (d++q :: f))) (hi:i=b.length) (m:j=b.length+1+d.length):ag (Go.Proofs.YtpobkmjicbobdaaGreat.setE (Go.Proofs.YtpobkmjicbobdaaGreat.setE w g i q) g j p) base g n c (b++q :: (d++p :: f)):=by
 subst hi m;have hl:=h.len;simp at hl;have h1:=h.setE (i:=b.length) (e:=q) (by omega) (h.ents _ (by simp));have h2:=h1.setE (i:=b.length+1+d.length) (e:=p) (by omega) (h.ents _ (by simp));rw [zq] at h2;exact h2
end Go.Proofs.YtpobkmjicbobdaaGreat
namespace Go.Proofs.YtpobkmjicbobdaaGreat
open Go.RowKit
set_option maxRecDepth 100000
set_option maxHeartbeats 8000000
attribute [local go_sem] Ic
theorem fN (w:World) (g:Nat):w.grownBy w.drew (some g):=⟨rfl,rfl,rfl,GL _,fun _ _ _=>rfl⟩
theorem zK {Z P M Q Y:List ac} {i n:Nat} (b:P.length=n) (hQ:Q.length=n) (hi:i<n):(eO Z P M Q Y i)[Z.length+i]?=P[i]?∧(eO Z P M Q Y i)[Z.length+n+M.length+i]?=Q[i]?:=by
 unfold eO;have l1:(Z++Q.take i).length=Z.length+i:=by simp;omega
 constructor
 · rw [GR (by omega),l1,IW,GW (by simp;omega),H9,Ik]
 · rw [GR (by omega),l1,GR (by simp;omega),G7,b,GR (by omega),GR (by simp;omega),GS,b,GW (by simp;omega),H9];congr 1
   omega
theorem DJ {Z P M Q Y:List ac} {i n:Nat} {x y:ac} (b:P.length=n) (hQ:Q.length=n) (hi:i<n) (hx:P[i]?=some x) (hy:Q[i]?=some y):((eO Z P M Q Y i).set (Z.length+i) y).set (Z.length+n+M.length+i) x=eO Z P M Q Y (i+1):=by
 have hg:=ET Z P M Q Y i n b hQ hi;have ha:=zK (Z:=Z) (M:=M) (Y:=Y) b hQ hi;unfold Sort.swp at hg;have e1:((eO Z P M Q Y i).toArray)[Z.length+n+M.length+i]! = y:=by simp [ha.2,hy]
 have e0:((eO Z P M Q Y i).toArray)[Z.length+i]! = x:=by simp [ha.1,hx]
 rw [e1,e0] at hg;have:=congrArg Array.toList hg;simpa using this
theorem og (base g n c:Nat) (Z P M Q Y:List ac) (a b m:Nat) (fv:Value) (w:World) (hO:ag w base g n c (Z++(P++(M++(Q++Y))))) (ha:a=Z.length) (hb:b=Z.length+m+M.length) (hP:P.length=m) (hQ:Q.length=m) (hn:n≤1048576) :
 Calls Tryz.prog 254 #[sL g n c,iT a,iT b,iT m,fv] w fun e w'=>e=.returned (.tuple #[])∧ag w' base g n c (Z++(Q++(M++(P++Y))))∧w.grownBy w' (some g):=by
 have hl:=hO.len;simp only [GO] at hl;have al:=hO.entsAt.big;have ay:=hO.entsAt.room;unfold maxLen at al;have HP:=az hP;have HQ:=az hQ;have HA:=az ha;have HB:=az hb;have W:Eq (b+m≤n∧a+m≤b):=by show b+m≤n∧a+m≤b;omega
 have HO:Eq (ag w base g n c (eO Z P M Q Y 0)):=by rw [FF];exact hO
 clear hO ha hb hP hQ hl;go_enter Tryz.func254,Tryz.ntmps254
 go_wp2;go_loopw [10] (fun iv wr=>∃i:Nat,i≤m∧iv=iT i∧ag wr base g n c (eO Z P M Q Y i)∧w.grownBy wr (some g)) (fun iv _=>m - (intOf iv).toNat)
 case atStart=>exact ⟨0,GQ _,rfl,HO.o,⟨rfl,rfl,rfl,GL _,fun _ _ _=>rfl⟩⟩
 case round =>
  obtain ⟨i,hi,rfl,a0,a1⟩:=hrel;have L:Eq (ag wr base g n c (eO Z P M Q Y i)):=a0;have a3:Eq (w.grownBy wr (some g)):=a1;clear a0 a1 HO;by_cases J:i<m
  · have a4:(i:Int)<(m:Int):=by omega
    obtain ⟨⟨s,q,d,t,nn⟩,hx⟩:∃x,P[i]?=some x:=⟨_,j' (by rw [HP.o];exact J)⟩;obtain ⟨⟨T,R,O,N,E⟩,hy⟩:∃y,Q[i]?=some y:=⟨_,j' (by rw [HQ.o];exact J)⟩;have hat:=zK (Z:=Z) (M:=M) (Y:=Y) HP.o HQ.o J;rw [← HB.o,← HA.o,hx,hy] at hat;have HX:Eq ((eO Z P M Q Y i)[a+i]?=some (s,q,d,t,nn)):=hat.1;have HY:Eq ((eO Z P M Q Y i)[b+i]?=some (T,R,O,N,E)):=hat.2;have ao:Eq (((eO Z P M Q Y i).set (a+i) (T,R,O,N,E)).set (b+i) (s,q,d,t,nn)=eO Z P M Q Y (i+1)):=by
     have:=DJ (Z:=Z) (M:=M) (Y:=Y) HP.o HQ.o J hx hy;rw [← HB.o,← HA.o] at this;exact this
    obtain ⟨am,an⟩:=W.o;have HI:Eq (a+i<n):=by show a+i<n;omega
    have HJ:Eq (b+i<n):=by show b+i<n;omega
    have ai:Eq (a+i≠b+i):=by show a+i≠b+i;omega
    have ea:((a:Int)+(i:Int)).toNat=a+i:=by omega
    have pa:(0:Int)≤(a:Int)+(i:Int):=by omega
    have ba:(a:Int)+(i:Int)<(n:Int):=by omega
    have ra:IntKind.i64.wrap ((a:Int)+(i:Int))=(a:Int)+(i:Int):=by rw [Hg];omega
    have ec:((b:Int)+(i:Int)).toNat=b+i:=by omega
    have pc:(0:Int)≤(b:Int)+(i:Int):=by omega
    have bc:(b:Int)+(i:Int)<(n:Int):=by omega
    have rc:IntKind.i64.wrap ((b:Int)+(i:Int))=(b:Int)+(i:Int):=by rw [Hg];omega
    have C:ag wr.drew base g n c (eO Z P M Q Y i):=L.o.below (Below.refl _ _).drew;have gd:w.grownBy wr.drew (some g):=ae a3.o (fN _ _);clear hat hx hy am an L;go_wp2_with fail
    refine wp_region_held_drew (S:=(fun w'=>g<w'.heap.size)) (by kernel_rfl) (by exact C.lt.2) (fun H=>?_);generalize wr.drew=wd at C gd H ⊢;refine aR 0 13 H ?_;refine aR 14 5 H ?_;refine mK 13 19 (fun K hK=>?_) fun K hK=>?_
    focus
     obtain ⟨A,f,r,B,u⟩:=C.at5 HY.o
     have D:=C.lt.2
     go_simp
     clear A f r B u D
     refine hK.o _ _ (by exact C.lt.2) fun H=>?_
     (try go_frame)
     refine aV 19 fun K hK=>?_
     obtain ⟨A,f,r,B,u⟩:=C.at5 HX.o
    rotate_left
    focus
     obtain ⟨A,f,r,B,u⟩:=C.at5 HX.o
     have D:=C.lt.2
     go_simp
     clear A f r B u D
     refine hK.o _ _ (by exact C.lt.2) fun H=>?_
     (try go_frame)
     refine aV 13 fun K hK=>?_
     obtain ⟨A,f,r,B,u⟩:=C.at5 HY.o
    all_goals
     have D:=C.lt.2
     go_simp
     clear A f r B u D
     refine hK.o _ _ (by exact C.lt.2) fun H=>?_
     (try go_frame)
     refine aR 20 1 H ?_
     refine aV 21 fun K hK=>?_
     obtain ⟨A,f,r,B,u⟩:=C.at5 HX.o
     have D:=C.lt.2
     have F:=C.owns.frozenAt
     have f0:=F ((a+i)*5)
     have f1:=F ((a+i)*5+1)
     have f2:=F ((a+i)*5+2)
     have f3:=F ((a+i)*5+3)
     have f4:=F ((a+i)*5+4)
     clear F
     go_simp
     clear A f r B u D
     clear f0 f1 f2 f3 f4
     have k1:=C.setE (i:=a+i) (e:=(T,R,O,N,E)) HI.o (C.ents _ (GP HY.o))
     refine hK.o _ (setE wd g (a+i) (T,R,O,N,E)) (by exact k1.lt.2) (fun H=>?_)
     clear hK K
     have U:=gK wd g (a+i) (T,R,O,N,E)
     generalize setE wd g (a+i) (T,R,O,N,E)=I at k1 U H ⊢
     (try go_frame)
     refine aR 22 1 H ?_
     refine aV 23 fun K hK=>?_
     have ap:((eO Z P M Q Y i).set (a+i) (T,R,O,N,E))[b+i]?=some (T,R,O,N,E):=by rw [G9 ai.o];exact HY.o
     obtain ⟨A,f,r,B,u⟩:=k1.at5 ap;have D:=k1.lt.2;have F:=k1.owns.frozenAt;have f0:=F ((b+i)*5);have f1:=F ((b+i)*5+1);have f2:=F ((b+i)*5+2);have f3:=F ((b+i)*5+3);have f4:=F ((b+i)*5+4);clear F;go_simp;clear A f r B u D;clear f0 f1 f2 f3 f4;have k2:=k1.setE (i:=b+i) (e:=(s,q,d,t,nn)) HJ.o (C.ents _ (GP HX.o));refine hK.o _ (setE I g (b+i) (s,q,d,t,nn)) (by exact k2.lt.2) (fun H=>?_);clear hK K;have gw:wd.grownBy (setE I g (b+i) (s,q,d,t,nn)) (some g):=ae U (gK I g (b+i) (s,q,d,t,nn));generalize setE I g (b+i) (s,q,d,t,nn)=X at k2 gw H ⊢;(try go_frame);refine dN ?_;have ah:Eq (ag X base g n c (eO Z P M Q Y (i+1))):=by have:=k2;rw [ao.o] at this;exact this
     have af:Eq (w.grownBy X (some g)):=ae gd gw
     clear k2 gw C k1 U gd H
     go_wp2
     go_roundw
     case rel=>exact ⟨i+1,by omega,by go_num,ah.o,af.o⟩
     case measure=>simp [intOf];omega
  · have a4:¬(i:Int)<(m:Int):=by omega
    have a2:i=m:=by omega
    have HD:Eq (ag wr base g n c (Z++(Q++(M++(P++Y))))):=by have:=L.o;rw [a2,FE Z P M Q Y m HP.o HQ.o] at this;exact this
    clear a2 L;go_wp2;go_end0;exact ⟨rfl,HD.o,a3.o⟩
theorem FB (base g n c:Nat) (Z U V Y:List ac) (a m b:Nat) (fv:Value) (w:World) (hO:ag w base g n c (Z++(U++(V++Y)))) (ha:a=Z.length) (hm:m=Z.length+U.length) (hb:b=Z.length+U.length+V.length) (hU:1≤U.length) (hV:1≤V.length) (hn:n≤1048576) :
 Calls Tryz.prog 239 #[sL g n c,iT a,iT m,iT b,fv] w fun e w'=>e=.returned (.tuple #[])∧ag w' base g n c (Z++(V++(U++Y)))∧w.grownBy w' (some g):=by
 obtain ⟨T,hT⟩:=aG (Z++(V++(U++Y)));rw [← hT];have L:Eq (T=Z++(V++(U++Y))):=hT;have N:=az hO;have hl:=hO.len;simp only [GO] at hl;have r1:IntKind.i64.wrap ((m:Int) - (a:Int))=((U.length:Nat):Int):=by rw [Hg];omega
 have r2:IntKind.i64.wrap ((b:Int) - (m:Int))=((V.length:Nat):Int):=by rw [Hg];omega
 obtain ⟨i0,I⟩:=aG U.length;obtain ⟨j0,F⟩:=aG V.length;have W:Eq (∃(r f d s:List ac),1≤i0∧1≤j0∧f.length=i0∧d.length=j0∧m=r.length+i0∧m+j0≤n∧T=r++(d++(f++s))∧ag w base g n c (r++(f++(d++s)))):=⟨Z,U,V,Y,by omega,by omega,I.symm,F.symm,by omega,by omega,L.o,N.o⟩;rw [← I] at r1;rw [← F] at r2;clear hT hO ha hm hb hU hV hl I F L N;go_enter Tryz.func239,Tryz.ntmps239
 go_wp2;clear r1 r2;go_loopw [10,11] (fun iv jv wr=>∃(i j:Nat) (r f d s:List ac),iv=iT i∧jv=iT j∧1≤i∧1≤j∧f.length=i∧d.length=j∧m=r.length+i∧m+j≤n∧T=r++(d++(f++s))∧ag wr base g n c (r++(f++(d++s)))∧w.grownBy wr (some g)) (fun iv jv _=>(intOf iv).toNat+(intOf jv).toNat)
 case atStart =>
  obtain ⟨r,f,d,s,h1,h2,h3,h4,h5,h6,h7,h8⟩:=W.o;exact ⟨i0,j0,r,f,d,s,rfl,rfl,h1,h2,h3,h4,h5,h6,h7,h8,⟨rfl,rfl,rfl,GL _,fun _ _ _=>rfl⟩⟩
 case round =>
  obtain ⟨i,j,r,f,d,s,rfl,rfl,hi,hj,hu,hv,a1,a8,X,a2,Q⟩:=hrel;have O:Eq (f.length=i):=hu;have K:Eq (d.length=j):=hv;have B:Eq (m=r.length+i):=a1;have L:Eq (T=r++(d++(f++s))):=X;have N:Eq (ag wr base g n c (r++(f++(d++s)))):=a2;have HG:Eq (w.grownBy wr (some g)):=Q;have af:i≤m:=by omega
  clear hu hv a1 X a2 Q W;have rm:IntKind.i64.wrap ((m:Int) - (i:Int))=((m - i:Nat):Int):=by rw [Hg];omega
  by_cases J:i=j
  · have a9:¬((i:Int)≠(j:Int)):=by omega
    have a0:((i:Int) == (j:Int))=true:=by simp [J]
    have ai:Eq (i=j):=J;subst J;have x:Eq (ag wr base g n c (r++(f++([]++(d++s))))):=by simpa [Eq] using N.o
    go_wp2_with fail
    refine (og base g n c r f [] d s (m - i) m i _ _ x.o (by have:=B.o;omega) (by have:=B.o;simp;omega) O.o K.o hn).mono ?_;rintro e C ⟨rfl,t,u⟩;have y:Eq (ag C base g n c T):=by rw [L.o];simpa [Eq] using t
    have A:Eq (w.grownBy C (some g)):=ae HG.o u;clear t u;go_wp2;go_end0;exact ⟨rfl,y.o,A.o⟩
  · have a0:((i:Int) == (j:Int))=false:=by simp;omega
    by_cases ad:j<i
    · have R:(j:Int)<(i:Int):=by omega
      have rs:IntKind.i64.wrap ((i:Int) - (j:Int))=((i - j:Nat):Int):=by rw [Hg];omega
      have E:f=f.take j++f.drop j:=(Hh j f).symm;have x:Eq (ag wr base g n c (r++(f.take j++(f.drop j++(d++s))))):=by
       have:=N.o;rw [E,Hd] at this;simpa [Eq] using this
      have H:Eq (T=(r++d)++(f.take j++(f.drop j++s))):=by
       have:=L.o;rw [E,Hd] at this;simpa [Eq] using this
      clear E;go_wp2_with fail
      refine (og base g n c r (f.take j) (f.drop j) d s (m - i) m j _ _ x.o (by have:=B.o;omega) (by have:=B.o;have:=O.o;simp;omega) (by have:=O.o;simp;omega) K.o hn).mono ?_;rintro e C ⟨rfl,t,u⟩;have y:Eq (ag C base g n c ((r++d)++(f.drop j++(f.take j++s)))):=by simpa [Eq] using t
      have A:Eq (w.grownBy C (some g)):=ae HG.o u;clear t u;go_wp2;go_roundw
      case rel=>exact ⟨i - j,j,r++d,f.drop j,f.take j,s,rfl,rfl,by omega,hj,by have:=O.o;simp;omega,by have:=O.o;simp;omega,by have:=B.o;have:=K.o;simp;omega,a8,H.o,y.o,A.o⟩
      case measure=>simp [intOf];omega
    · have R:¬(j:Int)<(i:Int):=by omega
      have rs:IntKind.i64.wrap ((j:Int) - (i:Int))=((j - i:Nat):Int):=by rw [Hg];omega
      have ra:IntKind.i64.wrap ((m:Int)+(j:Int))=(m:Int)+(j:Int):=by rw [Hg];omega
      have rb:IntKind.i64.wrap ((m:Int)+(j:Int) - (i:Int))=((m+j - i:Nat):Int):=by rw [Hg];omega
      have D:d=d.take (j - i)++d.drop (j - i):=(Hh (j - i) d).symm;have x:Eq (ag wr base g n c (r++(f++(d.take (j - i)++(d.drop (j - i)++s))))):=by
       have:=N.o;rw [D,Hd] at this;simpa [Eq] using this
      have H:Eq (T=r++(d.take (j - i)++(d.drop (j - i)++(f++s)))):=by
       have:=L.o;rw [D,Hd] at this;simpa [Eq] using this
      clear D;go_wp2_with fail
      refine (og base g n c r f (d.take (j - i)) (d.drop (j - i)) s (m - i) (m+j - i) i _ _ x.o (by have:=B.o;omega) (by have:=B.o;have:=K.o;simp;omega) O.o (by have:=K.o;simp;omega) hn).mono ?_;rintro e C ⟨rfl,t,u⟩;have y:Eq (ag C base g n c (r++(d.drop (j - i)++(d.take (j - i)++(f++s))))):=t;have A:Eq (w.grownBy C (some g)):=ae HG.o u;clear t u;go_wp2;go_roundw
      case rel=>exact ⟨i,j - i,r,d.drop (j - i),d.take (j - i),f++s,rfl,rfl,hi,by omega,by have:=K.o;simp;omega,by have:=K.o;simp;omega,B.o,by omega,H.o,y.o,A.o⟩
      case measure=>simp [intOf];omega
end Go.Proofs.YtpobkmjicbobdaaGreat
