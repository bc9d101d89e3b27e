/- Walks. -/
import Derived.Test.YtpobkmjicbobdaaGreatBD41
namespace Go.Proofs.YtpobkmjicbobdaaGreat
set_option maxRecDepth 100000
set_option maxHeartbeats 40000000
open Go.RowKit
variable {M:List ac} {S:List Int} {V:List (List af)} {av:Option Addr} {base c g n:Nat} {w:World}
theorem rS {f:List Value} {P:List (List ac)} (ho:w.ownsRow base 28 1 (sL g n c) n f) (hh:fi w f P):df w (pT g) n c P:=by
 have b:=cy ho;have hl:P.length=n:=by have h1:=ho.1;have h2:=hh.1;omega
 refine ⟨hl,b.1,b.2,(fun e=>by cases e),?_,?_⟩
 · rintro x e _;cases e;exact ⟨(ho.lt g rfl).2,rfl⟩
 · rintro x e i hi;cases e;obtain ⟨s,m,d,h1,h2⟩:=hh.2 i P[i] (j' hi);refine ⟨s,m,d,?_,h2⟩;simp only [Gp];exact (ho.cellAt i (by omega)).trans h1
def Ga (w:World) (F:List ac) (e:Ending) (w':World):Prop:=(∃a n,e=.returned (.slice a n n)∧cX w' w.heap.size a n n F)∧Bl w w'
theorem vH (lo:Nat) (d:Int) (J av O:Option Addr) (K L X cv N Q:Nat) (M:List ac) (V:List (List af)) (S:List Int) (w:World) (D:bn lo w J K L av X cv O N Q M V S) (hsz:aT d M V S=true→M.length+(E3 V+V.length)≤1048576) (I:aT d M V S=true→∀e ∈ M,Fp e) (F:aT d M V S=true→∀B ∈ V,FU B) :
 Calls Tryz.prog 29 #[.agg #[iT d,.slice J K L,.slice av X cv,.slice O N Q]] w (Ga w (om d M V S)):=by
 have y:Eq (V.length=X):=D.levels.length;have E:∀o,Bl w (w.alloc o):=fun o=>(Below.refl _ _).alloc (Gg _) o
 by_cases hn:X=3
 · subst hn;obtain ⟨A,B,C,al⟩:∃A B C,V=[A,B,C]:=by
    have:=y.o;match V,this with
    | [A,B,C],_=>exact ⟨A,B,C,rfl⟩
   subst al;obtain ⟨b,a9,rfl,Y⟩:=D.levels.form (by omega);obtain ⟨A',a0,W,c0,hA,l0,s⟩:=D.levels.level (Below.refl _ w) 0 (by omega);obtain ⟨B',a1,n1,c1,hB,l1,u⟩:=D.levels.level (Below.refl _ w) 1 (by omega);obtain ⟨C',a2,n2,c2,hC,l2,t⟩:=D.levels.level (Below.refl _ w) 2 (by omega);simp only [Ic,Hg,Hy] at hA hB hC;subst hA hB hC;rw [Hl] at l0;obtain ⟨Z,U⟩:=aF (aT d M [A,B,C] S);have H:Eq (∀w',Bl w w'→Calls Tryz.prog 86 #[.agg #[iT d,.slice J K L,sO b a9 3 cv,.slice O N Q]] w' fun e ao=>e=.returned (.tuple #[.agg #[iT d,.slice J K L,.slice a0 W c0,.slice a1 n1 c1,.slice a2 n2 c2,.slice O N Q],.bool Z])∧Bl w' ao):=fun w' k=>by
    rw [U];exact iU lo d J O K L b a9 cv N Q M A B C S a0 a1 a2 W c0 n1 c1 n2 c2 w' (D.mem.1.keep k) (D.snaps.keep k) (s.keep k) (u.keep k) (t.keep k) (cell_later k l0) (cell_later k l1) (cell_later k l2)
   cases Z with
   | false =>
    have HF:Eq (om d M [A,B,C] S=[]):=by show om _ _ _ _=_;unfold om;rw [← U];rfl
    clear U D y l0 l1 l2 s u t Y hsz I F;go_enter Tryz.func29,Tryz.ntmps29
    go_wp2_with fail
    refine (H.o _ (E _)).mono ?_;rintro e w1 ⟨rfl,f⟩;have x:Eq (Bl w w1):=(E _).trans (f.mono (E _).size);clear f E H;go_wp2;go_ret;exact ⟨⟨none,0,rfl,by rw [HF.o];exact cX.none _ _⟩,x.o.alloc x.o.size _⟩
   | true =>
    have hq:=(ku d M A B C S).1 U.symm;have r:=U.symm;obtain ⟨P,T⟩:=aF (dm M A B C);have HF:Eq (om d M [A,B,C] S=bG P.flatten):=by show om _ _ _ _=_;unfold om;rw [if_pos r,← z6 r,T]
    have aj:=(jn M A B C).length_eq;have ap:=uC M A B C;have a4:=DY (I r) (F r);have a3:∀e ∈ P.flatten,Fp e:=fun e he=>a4 e ((jn M A B C).mem_iff.1 (by rw [← T];exact he))
    have ab:P.flatten.length≤1048576:=by have:=hsz r;rw [T];omega
    have hsl:W≤8∧n1≤8∧n2≤8:=by
     have h6:=hq.2.2.2.2.2.1;have hI:bu A B C=true→((A.length:Int)≤4)∧((B.length:Int)≤8)∧((C.length:Int)≤8):=by
      unfold bu vu p9;simp only [Gx,decide_eq_true_eq,II];rintro ⟨⟨h1,_⟩,⟨h2,_⟩,h3,_⟩;exact ⟨h1,h2,h3⟩
     have h7:=hI h6;have e0:=s.length;have e1:=u.length;have e2:=t.length;omega
    have CL:Eq (∀w',Bl w w'→Calls Tryz.prog 94 #[.agg #[iT d,.slice J K L,.slice a0 W c0,.slice a1 n1 c1,.slice a2 n2 c2,.slice O N Q]] w' (yL w w' P)):=fun w' k=>by
     rw [T];exact callsIn_wide.1 (s9 lo d J O K L N Q a0 a1 a2 W c0 n1 c1 n2 c2 M A B C w w' k D.mem.1 s u t hsl.1 hsl.2.1 hsl.2.2)
    have an:P.length≤1048576:=by
     have e0:=s.length;have e1:=u.length;have e2:=t.length;rw [T];simp [dm];omega
    have CM:Eq (∀(g n c:Nat) (w':World),df w' (pT g) n c P→Calls Tryz.prog 93 #[sL g n c] w' (DR w' P)):=fun g n c w' h=>callsIn_wide.1 (AC _ _ _ P w' h (by have:=h.length;omega) ab a3)
    clear U D y l0 l1 l2 s u t Y hsz I F T hq r aj ap a4 a3 ab hsl an;go_enter Tryz.func29,Tryz.ntmps29
    go_wp2_with fail
    refine (H.o _ (E _)).mono ?_;rintro e w1 ⟨rfl,f⟩;have x:Eq (Bl w w1):=(E _).trans (f.mono (E _).size);clear f E H;go_wp2_with fail
    refine (CL.o _ (x.o.alloc x.o.size _)).mono ?_;rintro e w2 ⟨⟨g,n,c,vs,rfl,ho,hh⟩,aa⟩;have K2:Eq (Bl w w2):=(x.o.alloc x.o.size _).trans (aa.mono (x.o.alloc x.o.size _).size);have a5:Eq (df w2 (pT g) n c P):=rS ho (hh.keep K2.o);clear ho hh aa;go_wp2_with fail
    refine (CM.o _ _ _ _ a5.o).mono ?_;rintro e w3 ⟨⟨g3,rfl,R⟩,ae⟩;obtain ⟨m,hm⟩:=aF P.flatten.length;rw [← hm] at R ⊢;have aq:Eq (ah w3 w.heap.size g3 m m (bG P.flatten)):=R.mono K2.o.size;have K3:Eq (Bl w w3):=K2.o.trans (ae.mono K2.o.size);clear R ae a5 hm;go_wp2;go_ret;exact ⟨⟨_,m,rfl,by rw [HF.o];exact cX.some aq.o⟩,K3.o⟩
 · have HZ:Eq (aT d M V S=false):=gW (fun h=>hn (by have:=(aV h).2.2.2.2.2.1;have:=y.o;omega));have HF:Eq (om d M V S=[]):=by show om _ _ _ _=_;unfold om;rw [HZ.o];rfl
   clear D y hsz I F;go_enter Tryz.func29,Tryz.ntmps29
   go_wp2_with fail
   refine (jU d J av O K L X cv N Q _ hn).mono ?_;rintro e w1 ⟨rfl,f⟩;have x:Eq (Bl w w1):=(E _).trans (f.mono (E _).size);clear f E;go_wp2;go_ret;exact ⟨⟨none,0,rfl,by rw [HF.o];exact cX.none _ _⟩,x.o.alloc x.o.size _⟩
theorem Tryz.infoStrK:(Tryz.prog.info? 9).map (fun i=>(i.zero,i.size,i.bytes))=some (some (.string ByteArray.empty),1,16):=by kernel_rfl
def FO (n:Nat) (w:World) (e:Ending) (w':World):Prop:=∃(g m k:Nat) (ks:List ByteArray),e=.returned (sL g m k)∧w'.ownsRow w.heap.size 9 1 (sL g m k) m (ks.map .string)∧m≤n+2∧Bl w w'
theorem wT (a:Option Addr) (n c:Nat) (L:List ac) (w:World) (hE:aj w a n c L) (hn:n≤100000) :
 Calls Tryz.prog 50 #[.slice a n c] w (FO n w):=by
 obtain ⟨i0,hi,Z,a1,X⟩:=info_parts Tryz.infoStrK;obtain ⟨W,T⟩:=aF (w.alloc (.cells #[.string ⟨#[97]⟩,.string ⟨#[110,111,110,101]⟩] 9));have hO:W.ownsRow w.heap.size 9 1 (sL (w.heap.size) 2 2) 2 (([⟨#[97]⟩,⟨#[110,111,110,101]⟩]:List ByteArray).map .string):=by
  rw [T];exact GP (base:=w.heap.size) (e:=9) (size:=1) w #[.string ⟨#[97]⟩,.string ⟨#[110,111,110,101]⟩] 2 (Gg _) (by unfold maxLen;omega) (by simp)
 have kW:Bl w W:=by rw [T];exact bZ
 have R:=az hE;clear hE;go_enter Tryz.func50,Tryz.ntmps50
 go_upto_region 2 with fail
 rw [← T];clear T;go_wp2;go_loopw [3,4] (fun ov Y wr=>∃(i g m k:Nat) (s:List ByteArray),Y=iT (i:Int)∧i≤n∧ov=sL g m k∧2≤m∧m≤i+2∧wr.ownsRow w.heap.size 9 1 (sL g m k) m (s.map .string)∧Bl w wr) (fun _ Y _=>n - (intOf Y).toNat)
 case atStart=>exact ⟨0,w.heap.size,2,2,_,rfl,by omega,rfl,by omega,by omega,hO,kW⟩
 case round =>
  clear hO kW;obtain ⟨i,g,m,k,s,rfl,ai,rfl,a2,a9,ho,hb⟩:=hrel;have F:Eq (wr.ownsRow w.heap.size 9 1 (sL g m k) m (s.map .string)):=ho;have A:Eq (Bl w wr):=hb;clear ho hb;by_cases ae:i<n
  · have Q:(i:Int)<(n:Int):=by omega
    have a6:IntKind.i64.wrap ((i:Int)+1)=(i:Int)+1:=by rw [GB];unfold wrap64;omega
    have ab:IntKind.i64.wrap ((m:Int) - 1)=((m - 1:Nat):Int):=by rw [GB];unfold wrap64;omega
    have al:m - 1<m:=by omega
    have I:i<L.length:=by have:=R.o.length;omega
    obtain ⟨x,rfl⟩:∃x,a=some x:=by
     cases a with
     | none=>have:=R.o.nil rfl;omega
     | some x=>exact ⟨x,rfl⟩
    obtain ⟨b,O,sp⟩:=x;have H:=(R.o.lies _ rfl (by omega)).2;simp only at H;subst H;have r:Eq (∀w',Bl wr w'→w'.cell? ⟨b,O+i*5,none⟩=some (.string L[i].1)∧b<w'.heap.size):=fun w' hk=>by
     have h1:=(R.o.keep (A.o.trans (hk.mono A.o.size))).cells _ rfl i I;exact ⟨by simpa using h1.1,E' (Gf _ _ ((R.o.cells _ rfl i I).1)) (Gq A.o.size hk.size)⟩
    obtain ⟨key,y⟩:=aF (L[i].1);have af:s.length=m:=by have:=F.o.1;rw [Hd] at this;omega
    obtain ⟨last,f⟩:=aF (s[m - 1]'(by omega));have J:Eq (∀w',Bl wr w'→w'.cell? ⟨g,m - 1,none⟩=some (.string last)∧g<w'.heap.size):=fun w' hk=>by
     have h1:=(mv F.o hk).cellAt (m - 1) (by omega);rw [Id,j' (by omega),← f] at h1;exact ⟨h1,E' (F.o.lt g rfl).2 hk.size⟩
    rw [← y] at r;clear f y;have U:Eq (∀w',Bl wr w'→(fun w':World=>w'.cell? ⟨b,O+i*5,none⟩=some (.string key)∧b<w'.heap.size∧w'.cell? ⟨g,m - 1,none⟩=some (.string last)∧g<w'.heap.size) w'):=fun w' hk=>⟨(r.o w' hk).1,(r.o w' hk).2,(J.o w' hk).1,(J.o w' hk).2⟩
    go_upto_region 5 with fail
    refine eJ U (Below.refl _ wr).drew fun aa=>?_
    have C:Eq (Bl wr wr.drew):=(Below.refl _ wr).drew;generalize wr.drew=E at aa C ⊢;by_cases hs:key=last
    · have g1:(key.toList == last.toList)=true:=by simpa using congrArg ByteArray.toList hs
      refine aO 0 12 aa ?_;refine dN ?_;go_wp2;go_roundw
      case rel=>exact ⟨i+1,g,m,k,s,by rw [show ((i+1:Nat):Int)=(i:Int)+1 by omega],by omega,rfl,a2,by omega,mv F.o C.o,A.o.trans (C.o.mono A.o.size)⟩
      case measure=>simp [intOf];omega
    · have g1:(key.toList == last.toList)=false:=by rw [beq_eq_false_iff_ne];intro e;rw [GS,GS] at e;exact hs (Io (Il.1 e))
      refine aO 0 12 aa ?_;refine dN ?_;have ad:=(r.o E C.o).1;have a7:=(r.o E C.o).2;have N:Eq (E.ownsRow w.heap.size 9 1 (sL g m k) m (s.map .string)):=mv F.o C.o;have u:Eq (Bl w E):=A.o.trans (C.o.mono A.o.size);go_wp2_with (at_builtin;refine wpList_append_own _ rfl _ _ 67 rfl w.heap.size 9 i0 _ 1 16 Tryz.underlying67 hi Z a1 X rfl (by decide) _ _ _ rfl (N.o.alloc _) ⟨E.heap.size,0,none⟩ 1 1 [Value.string key] rfl rfl (by intro j u' D;match j,D with | 0,D=>simp at D;subst D;simp [Addr.add]) (by intro u' K;simp at K;subst K;rfl) (by unfold maxLen;omega) (by omega) (by have:=u.o.size;simp;omega) ?_;intro v2 w4 d t B;obtain ⟨g2,c2,rfl⟩:=tN d B)
      have a0:(E.alloc (.cells #[.string key] 9)).grownBy w4 (some g):=t;go_roundw
      case rel=>exact ⟨i+1,g2,m+1,c2,s++[key],by rw [show ((i+1:Nat):Int)=(i:Int)+1 by omega],by omega,rfl,by omega,by omega,by rw [Ht];exact d,(u.o.alloc u.o.size _).grown a0 (by have:=u.o.size;simp;omega) (fun j D=>by cases D;exact (N.o.lt g rfl).1)⟩
      case measure=>simp [intOf];omega
  · have Q:¬(i:Int)<(n:Int):=by omega
    go_wp2_with fail
    go_ret;exact ⟨g,m,k,s,rfl,F.o,by omega,A.o⟩
def DT (c:fp) (w:World) (e:Ending) (w':World):Prop:=e=.returned (.agg #[.bool c.1,.string c.2.1,iT c.2.2])∧Bl w w'
theorem yR {base' e size m:Nat} {xs:List Value} (h:w.ownsRow base e size (sL g m c) n xs) (hb:base'≤base):w.ownsRow base' e size (sL g m c) n xs:=ew h hb
theorem BJ (q1:Int) (H:Option Addr) (E Q:Nat) (O:Option Addr) (I N:Nat) (s:Option Addr) (f r:Nat) (S:List Int) (q2:Int) (a9:Option Addr) (ab Z:Nat) (a0:Option Addr) (a5 a2:Nat) (a6:Option Addr) (ad a8:Nat) (L:List ac) (c:ByteArray→Int→fp) (w:World)
 (hS:aR 0 w s f r S) (hns:f≤100) (hL:L.length≤100000)
 (hAll:∀w',Bl w w'→Calls Tryz.prog 29 #[.agg #[iT q1,.slice H E Q,.slice O I N,.slice s f r]] w' fun e Y=>(∃a n k,e=.returned (.slice a n k)∧aj Y a n k L)∧Bl w' Y)
 (hA:∀key t,t ∈ S++[q1]→∀w',Bl w w'→Calls Tryz.prog 39 #[.agg #[iT q1,.slice H E Q,.slice O I N,.slice s f r],.string key,iT t] w' (DT (c key t) w'))
 (hB:∀key t,t ∈ S++[q1]→∀w',Bl w w'→Calls Tryz.prog 39 #[.agg #[iT q2,.slice a9 ab Z,.slice a0 a5 a2,.slice a6 ad a8],.string key,iT t] w' (DT (c key t) w')) :
 Calls Tryz.prog 46 #[.agg #[iT q1,.slice H E Q,.slice O I N,.slice s f r],.agg #[iT q2,.slice a9 ab Z,.slice a0 a5 a2,.slice a6 ad a8]] w fun e w'=>e=.returned (.bool true)∧Bl w w':=by
 obtain ⟨j0,F,am,ah,ai⟩:=info_parts Tryz.infoInt;obtain ⟨X,hX⟩:=aF w.heap.size;obtain ⟨W,hW⟩:=aF ((w.alloc (.cells #[iT q1,.slice H E Q,.slice O I N,.slice s f r] 31)).alloc (.cells #[iT q2,.slice a9 ab Z,.slice a0 a5 a2,.slice a6 ad a8] 31));have kW:Bl w W:=by rw [hW];exact bZ.alloc (by simp) _
 have BA:Eq (ay W X (iT q1) (.slice H E Q) (.slice O I N) (.slice s f r)):=by rw [hW,hX];exact (ay.new _ _ _ _ _ _).alloc _
 have BB:Eq (ay W (X+1) (iT q2) (.slice a9 ab Z) (.slice a0 a5 a2) (.slice a6 ad a8)):=by
  have:=ay.new (w.alloc (.cells #[iT q1,.slice H E Q,.slice O I N,.slice s f r] 31)) 31 (iT q2) (.slice a9 ab Z) (.slice a0 a5 a2) (.slice a6 ad a8);rw [Gu] at this;rw [hW,hX];exact this
 have KW:Eq (Bl w W):=kW;have HS:Eq (aR 0 W s f r S):=hS.keep kW;have aB:Eq (∀w',Bl W w'→Calls Tryz.prog 29 #[.agg #[iT q1,.slice H E Q,.slice O I N,.slice s f r]] w' fun e Y=>(∃a n k,e=.returned (.slice a n k)∧aj Y a n k L)∧Bl w' Y):=fun w' k=>hAll w' (kW.trans (k.mono kW.size))
 have CA:Eq (∀key t,t ∈ S++[q1]→∀w',Bl W w'→Calls Tryz.prog 39 #[.agg #[iT q1,.slice H E Q,.slice O I N,.slice s f r],.string key,iT t] w' (DT (c key t) w')):=fun key t ht w' k=>hA key t ht w' (kW.trans (k.mono kW.size))
 have CB:Eq (∀key t,t ∈ S++[q1]→∀w',Bl W w'→Calls Tryz.prog 39 #[.agg #[iT q2,.slice a9 ab Z,.slice a0 a5 a2,.slice a6 ad a8],.string key,iT t] w' (DT (c key t) w')):=fun key t ht w' k=>hB key t ht w' (kW.trans (k.mono kW.size))
 have HL:=az hL;have x0:=BA.o.all;clear hAll hA hB kW hS hL;go_enter Tryz.func46,Tryz.ntmps46
 go_upto_region 1 with fail
 rw [← hX,← hW];clear hX hW;go_wp2_with fail
 clear x0;refine (aB.o _ (Below.refl _ _)).mono ?_;rintro e w1 ⟨⟨al,nl,kl,rfl,aK⟩,ba⟩;have bp:=aK.length;have aN:Eq (Bl W w1):=ba;clear ba aB;go_wp2_with fail
 refine (wT al nl kl L w1 aK (by have:=HL.o;omega)).mono ?_;rintro e C ⟨gk,mk,ck,ks,rfl,aq,hmk,aY⟩;have J:Eq (Bl W C):=aN.o.trans (aY.mono aN.o.size);have aM:Eq (C.ownsRow w1.heap.size 9 1 (sL gk mk ck) mk (ks.map .string)):=aq;have bs:mk≤100002:=by have:=HL.o;omega
 clear aq aY aK bp hmk aN;have ax:Eq (S.length=f):=HS.o.length;go_upto_region 2 with fail
 have x:Eq (∀w',Bl C w'→(fun w':World=>w'.cell? ⟨X,0,none⟩=some (iT q1)∧w'.cell? ⟨X,3,none⟩=some (.slice s f r)∧X<w'.heap.size) w'):=fun w' k=>by
  have b:=BA.o.keep (J.o.trans (k.mono J.o.size));exact ⟨b.c0,b.c3,b.lt⟩
 have ak:Eq (aR 0 C s f r S):=HS.o.keep J.o;go_cut [6] (fun v wz=>∃gt ct,v=sL gt (f+1) ct∧wz.ownsRow W.heap.size 3 1 (sL gt (f+1) ct) (f+1) ((S++[q1]).map iT)∧Bl W wz∧wz.ownsRow w1.heap.size 9 1 (sL gk mk ck) mk (ks.map .string))
 case first =>
  have d:Bl C C.drew:=(Below.refl _ C).drew;refine eJ x d fun B=>?_
  generalize C.drew=wd at B d ⊢;refine aO 1 2 B ?_;refine aO 4 2 B ?_;refine lI 0 6 (fun K hK=>?_) (fun K hK=>?_)
  · go_simp;have kb:Bl wd (wd.alloc (.cells #[] 3)):=bZ;have A:(wd.alloc (.cells #[] 3)).ownsRow C.heap.size 3 1 (sL (wd.heap.size) 0 0) 0 []:=GP (base:=C.heap.size) (e:=3) (size:=1) wd #[] 0 d.size (by simp) (by simp);have d:=d.trans (kb.mono d.size);clear kb;generalize wd.heap.size=gi at A ⊢;generalize wd.alloc (.cells #[] 3)=T at d A ⊢;refine hK.o _ _ (x.o _ d) fun B=>?_
    (try go_frame);refine lI 3 6 (fun K hK=>?_) (fun K hK=>?_)
    focus
     refine cu rfl (.tmp 12) (.tmp 14) 24 rfl C.heap.size 3 j0 _ 1 8 Tryz.underlying24 F am ah ai rfl (G4 0) _ _ _ rfl A s f r (S.map iT) rfl (by rw [Hd,ax.o,IV]) ak.o.nil (fA (ak.o.keep d)) (by intro u hu;obtain ⟨z,_,rfl⟩:=G9.1 hu;rfl) (by unfold maxLen;omega) (by omega) d.size ?_;intro u1 v22 D a4 a1;obtain ⟨gj,cj,rfl⟩:=aL D a1;have y:T.grownBy v22 (some gi):=a4;have d:=d.grown y d.size (fun k e=>by cases e;exact (A.lt gi rfl).1);have A:v22.ownsRow C.heap.size 3 1 (sL gj f cj) f (S.map iT):=by have h1:=D;rw [Gp,GU] at h1;exact h1
     rw [Gp]
     clear D a4 a1 y
     obtain ⟨gi,rfl⟩:=aF gj
     refine hK.o _ _ (x.o _ d) fun B=>?_
     (try go_frame)
     refine aS 6 fun K hK=>?_
     go_simp
     have kb:Bl v22 (v22.alloc (.cells #[iT q1] 3)):=bZ
     have m:(v22.alloc (.cells #[iT q1] 3)).cell? ⟨v22.heap.size,0,none⟩=some (iT q1):=by simp
     have ap:C.heap.size≤v22.heap.size:=d.size
     have ao:gi<v22.heap.size:=(A.lt gi rfl).2
     have A:=cw A kb
     have d:=d.trans (kb.mono d.size)
     clear kb
     generalize v22.heap.size=gb at m ap ao ⊢
     generalize v22.alloc (.cells #[iT q1] 3)=bq at d m A ⊢
     refine hK.o _ _ (x.o _ d) fun B=>?_
     (try go_frame)
     refine aS 7 fun K hK=>?_
     refine aE rfl (.tmp 15) (.tmp 18) 24 rfl C.heap.size 3 j0 _ 1 8 Tryz.underlying24 F am ah ai rfl (G4 0) _ _ _ rfl A ⟨gb,0,none⟩ 1 1 [iT q1] rfl rfl (by intro j u' F;match j,F with | 0,F=>simp at F;subst F;simpa [Addr.add] using m) (by intro u' a3;simp at a3;subst a3;rfl) (by unfold maxLen;omega) (by omega) d.size ?_
     intro u2 bf U ag aA
     obtain ⟨gt,ct,rfl⟩:=ownsRow_succ U
     have R:bq.grownBy bf (some gi):=ag
    rotate_left
    focus
     go_simp
     have kb:Bl T (T.alloc (.cells #[iT q1] 3)):=bZ
     have m:(T.alloc (.cells #[iT q1] 3)).cell? ⟨T.heap.size,0,none⟩=some (iT q1):=by simp
     have ap:C.heap.size≤T.heap.size:=d.size
     have ao:gi<T.heap.size:=(A.lt gi rfl).2
     have A:=cw A kb
     have d:=d.trans (kb.mono d.size)
     clear kb
     generalize T.heap.size=gb at m ap ao ⊢
     generalize T.alloc (.cells #[iT q1] 3)=v25 at d m A ⊢
     refine hK.o _ _ (x.o _ d) fun B=>?_
     (try go_frame)
     refine aS 3 fun K hK=>?_
     refine cu rfl (.tmp 12) (.tmp 14) 24 rfl C.heap.size 3 j0 _ 1 8 Tryz.underlying24 F am ah ai rfl (G4 0) _ _ _ rfl A s f r (S.map iT) rfl (by rw [Hd,ax.o,IV]) ak.o.nil (fA (ak.o.keep d)) (by intro u hu;obtain ⟨z,_,rfl⟩:=G9.1 hu;rfl) (by unfold maxLen;omega) (by omega) d.size ?_;intro u1 aP D a4 a1;obtain ⟨gj,cj,rfl⟩:=aL D a1;have y:v25.grownBy aP (some gi):=a4;have m:=y.cell m (fun e=>by have h9:gb=gi:=Gi e;omega);have d:=d.grown y d.size (fun k e=>by cases e;exact (A.lt gi rfl).1);have A:aP.ownsRow C.heap.size 3 1 (sL gj f cj) f (S.map iT):=by have h1:=D;rw [Gp,GU] at h1;exact h1
     rw [Gp]
     clear D a4 a1 y
     obtain ⟨gi,rfl⟩:=aF gj
     refine hK.o _ _ (x.o _ d) fun B=>?_
     (try go_frame)
     refine aS 7 fun K hK=>?_
     refine aE rfl (.tmp 15) (.tmp 18) 24 rfl C.heap.size 3 j0 _ 1 8 Tryz.underlying24 F am ah ai rfl (G4 0) _ _ _ rfl A ⟨gb,0,none⟩ 1 1 [iT q1] rfl rfl (by intro j u' F;match j,F with | 0,F=>simp at F;subst F;simpa [Addr.add] using m) (by intro u' a3;simp at a3;subst a3;rfl) (by unfold maxLen;omega) (by omega) d.size ?_
     intro u2 bi U ag aA
     obtain ⟨gt,ct,rfl⟩:=ownsRow_succ U
     have R:aP.grownBy bi (some gi):=ag
    all_goals
     have d:=d.grown R d.size (fun k e=>by cases e;exact (A.lt gi rfl).1)
     have A:=U
     clear U ag aA R
     refine hK.o _ _ (x.o _ d) fun B=>?_
     (try go_frame)
     refine aO 8 1 B ?_
     refine dN ?_
     clear B
     go_wp2
     go_meet
     exact ⟨gt,ct,rfl,by rw [Ht];exact yR A (J.o.size),J.o.trans (d.mono J.o.size),cw aM.o d⟩
  · go_simp;have kb:Bl wd (wd.alloc (.cells #[iT q1] 3)):=bZ;have m:(wd.alloc (.cells #[iT q1] 3)).cell? ⟨wd.heap.size,0,none⟩=some (iT q1):=by simp
    have ap:C.heap.size≤wd.heap.size:=d.size;have d:=d.trans (kb.mono d.size);clear kb;generalize wd.heap.size=gb at m ap ⊢;generalize wd.alloc (.cells #[iT q1] 3)=ae at d m ⊢;refine hK.o _ _ (x.o _ d) fun B=>?_
    (try go_frame);refine aS 0 fun K hK=>?_
    go_simp;have kb:Bl ae (ae.alloc (.cells #[] 3)):=bZ;have A:(ae.alloc (.cells #[] 3)).ownsRow C.heap.size 3 1 (sL (ae.heap.size) 0 0) 0 []:=GP (base:=C.heap.size) (e:=3) (size:=1) ae #[] 0 d.size (by simp) (by simp);have ao:gb<ae.heap.size:=Gf _ _ m;have m:=cell_later kb m;have d:=d.trans (kb.mono d.size);clear kb;generalize ae.heap.size=gi at A ao ⊢;generalize ae.alloc (.cells #[] 3)=bl at d A m ⊢;refine hK.o _ _ (x.o _ d) fun B=>?_
    (try go_frame);refine aS 3 fun K hK=>?_
    refine cu rfl (.tmp 12) (.tmp 14) 24 rfl C.heap.size 3 j0 _ 1 8 Tryz.underlying24 F am ah ai rfl (G4 0) _ _ _ rfl A s f r (S.map iT) rfl (by rw [Hd,ax.o,IV]) ak.o.nil (fA (ak.o.keep d)) (by intro u hu;obtain ⟨z,_,rfl⟩:=G9.1 hu;rfl) (by unfold maxLen;omega) (by omega) d.size ?_;intro u1 aJ D a4 a1;obtain ⟨gj,cj,rfl⟩:=aL D a1;have y:bl.grownBy aJ (some gi):=a4;have m:=y.cell m (fun e=>by have h9:gb=gi:=Gi e;omega);have d:=d.grown y d.size (fun k e=>by cases e;exact (A.lt gi rfl).1);have A:aJ.ownsRow C.heap.size 3 1 (sL gj f cj) f (S.map iT):=by have h1:=D;rw [Gp,GU] at h1;exact h1
    rw [Gp];clear D a4 a1 y;obtain ⟨gi,rfl⟩:=aF gj;refine hK.o _ _ (x.o _ d) fun B=>?_
    (try go_frame);refine aS 7 fun K hK=>?_
    refine aE rfl (.tmp 15) (.tmp 18) 24 rfl C.heap.size 3 j0 _ 1 8 Tryz.underlying24 F am ah ai rfl (G4 0) _ _ _ rfl A ⟨gb,0,none⟩ 1 1 [iT q1] rfl rfl (by intro j u' F;match j,F with | 0,F=>simp at F;subst F;simpa [Addr.add] using m) (by intro u' a3;simp at a3;subst a3;rfl) (by unfold maxLen;omega) (by omega) d.size ?_;intro u2 bm U ag aA;obtain ⟨gt,ct,rfl⟩:=ownsRow_succ U;have R:aJ.grownBy bm (some gi):=ag;have d:=d.grown R d.size (fun k e=>by cases e;exact (A.lt gi rfl).1);have A:=U;clear U ag aA R;refine hK.o _ _ (x.o _ d) fun B=>?_
    (try go_frame);refine aO 8 1 B ?_;refine dN ?_;clear B;go_wp2;go_meet
    exact ⟨gt,ct,rfl,by rw [Ht];exact yR A (J.o.size),J.o.trans (d.mono J.o.size),cw aM.o d⟩
 case rest =>
  obtain ⟨gt,ct,rfl,ht,hk,aq⟩:=hcut;have HB:Eq (Bl W wc):=hk;have HT:Eq (wc.ownsRow W.heap.size 3 1 (sL gt (f+1) ct) (f+1) ((S++[q1]).map iT)):=ht;have HK:Eq (wc.ownsRow w1.heap.size 9 1 (sL gk mk ck) mk (ks.map .string)):=aq;have aQ:Eq ((S++[q1]).length=f+1∧ks.length=mk):=⟨by have:=ax.o;simp;omega,by have:=HK.o.1;rw [Hd] at this;omega⟩;clear ht hk aq J aM;go_wp2;go_loopw [7] (fun iv wr=>∃i:Nat,iv=iT (i:Int)∧i≤mk∧Bl wc wr) (fun iv _=>mk - (intOf iv).toNat)
  case atStart=>exact ⟨0,rfl,by omega,Below.refl _ _⟩
  case round =>
   obtain ⟨i,rfl,hi,hk⟩:=hrel;have KR:Eq (Bl wc wr):=hk;clear hk;by_cases bz:i<mk
   · have b8:(i:Int)<(mk:Int):=by omega
     have bE:IntKind.i64.wrap ((i:Int)+1)=(i:Int)+1:=by rw [GB];unfold wrap64;omega
     rename World=>wo
     go_wp2;go_loopw [8] (fun jv wr=>∃j:Nat,jv=iT (j:Int)∧j≤f+1∧Bl wc wr) (fun jv _=>f+1 - (intOf jv).toNat)
     case atStart=>exact ⟨0,rfl,by omega,KR.o⟩
     case round =>
      clear KR;obtain ⟨j,rfl,bH,hk⟩:=hrel;have KR:Eq (Bl wc wr):=hk;clear hk;by_cases bC:j<f+1
      · have aW:(j:Int)<((f+1:Nat):Int):=by omega
        have b6:(j:Int)<(f:Int)+1:=by omega
        have bx:IntKind.i64.wrap ((j:Int)+1)=(j:Int)+1:=by rw [GB];unfold wrap64;omega
        obtain ⟨key,aG⟩:∃key,ks[i]?=some key:=⟨_,j' (by have:=aQ.o;omega)⟩;obtain ⟨t,aI⟩:∃t,(S++[q1])[j]?=some t:=⟨_,j' (by have:=aQ.o;omega)⟩;have b7:Eq (t ∈ S++[q1]):=Gk aI;have x:Eq (∀w',Bl wc w'→(fun w':World=>w'.cell? ⟨X,0,none⟩=some (iT q1)∧w'.cell? ⟨X,1,none⟩=some (.slice H E Q)∧w'.cell? ⟨X,2,none⟩=some (.slice O I N)∧w'.cell? ⟨X,3,none⟩=some (.slice s f r)∧w'.cell? ⟨X+1,0,none⟩=some (iT q2)∧w'.cell? ⟨X+1,1,none⟩=some (.slice a9 ab Z)∧w'.cell? ⟨X+1,2,none⟩=some (.slice a0 a5 a2)∧w'.cell? ⟨X+1,3,none⟩=some (.slice a6 ad a8)∧X+1<w'.heap.size∧X<w'.heap.size∧w'.cell? ⟨gk,i,none⟩=some (.string key)∧w'.cell? ⟨gt,j,none⟩=some (iT t)∧gk<w'.heap.size∧gt<w'.heap.size) w'):=fun w' k=>by
         have a:=BA.o.keep (HB.o.trans (k.mono HB.o.size));have b:=BB.o.keep (HB.o.trans (k.mono HB.o.size));have r1:=(cw HK.o k).cellAt i (by have:=aQ.o;omega);have r2:=(cw HT.o k).cellAt j (by omega);rw [Id,aG] at r1;rw [Id,aI] at r2;exact ⟨a.c0,a.c1,a.c2,a.c3,b.c0,b.c1,b.c2,b.c3,b.lt,a.lt,r1,r2,E' (HK.o.lt gk rfl).2 k.size,E' (HT.o.lt gt rfl).2 k.size⟩
        obtain ⟨rb,rt,rn,hc⟩:∃rb rt rn,c key t=(rb,rt,rn):=⟨_,_,_,rfl⟩;have aX:Eq (∀w',Bl wc w'→Calls Tryz.prog 39 #[.agg #[iT q1,.slice H E Q,.slice O I N,.slice s f r],.string key,iT t] w' fun e Y=>e=.returned (.agg #[.bool rb,.string rt,iT rn])∧Bl w' Y):=fun w' k=>by
         have h:=CA.o key t b7.o w' (HB.o.trans (k.mono HB.o.size));rw [hc] at h;exact h
        have aV:Eq (∀w',Bl wc w'→Calls Tryz.prog 39 #[.agg #[iT q2,.slice a9 ab Z,.slice a0 a5 a2,.slice a6 ad a8],.string key,iT t] w' fun e Y=>e=.returned (.agg #[.bool rb,.string rt,iT rn])∧Bl w' Y):=fun w' k=>by
         have h:=CB.o key t b7.o w' (HB.o.trans (k.mono HB.o.size));rw [hc] at h;exact h
        clear aG aI hc;go_upto_region 9 with fail
        have d:=KR.o.trans ((Below.refl wr.heap.size wr).drew.mono KR.o.size);refine eJ x d fun B=>?_
        generalize wr.drew=wd at B d ⊢;refine aO 0 9 B ?_;refine aO 10 9 B ?_;refine aS 9 fun K hK=>?_
        go_simp;refine (aX.o _ d).mono ?_;rintro e w3 ⟨rfl,aZ⟩;have d:=d.trans (aZ.mono d.size);clear aZ;go_wp2_with fail
        refine hK.o _ _ (x.o _ d) fun B=>?_
        (try go_frame);refine aS 19 fun K hK=>?_
        go_simp;refine (aV.o _ d).mono ?_;rintro e w4 ⟨rfl,b9⟩;have d:=d.trans (b9.mono d.size);clear b9;go_wp2_with fail
        refine hK.o _ _ (x.o _ d) fun B=>?_
        (try go_frame);refine aO 20 1 B ?_;refine dN ?_;have KZ:Eq (Bl wc w4):=d;clear B x aX aV KR d;go_wp2;go_roundw
        case rel=>exact ⟨j+1,by rw [show ((j+1:Nat):Int)=(j:Int)+1 by omega],by omega,KZ.o⟩
        case measure=>simp [intOf];omega
      · have aW:¬(j:Int)<((f+1:Nat):Int):=by omega
        have b6:¬(j:Int)<(f:Int)+1:=by omega
        go_wp2;go_roundw
        case rel=>exact ⟨i+1,by rw [show ((i+1:Nat):Int)=(i:Int)+1 by omega],by omega,KR.o⟩
        case measure=>simp [intOf];omega
   · have b8:¬(i:Int)<(mk:Int):=by omega
     go_wp2;go_ret;exact ⟨rfl,KW.o.trans ((HB.o.trans (KR.o.mono HB.o.size)).mono KW.o.size)⟩
theorem pe.nn {b:Nat} (h:pe w (pT b) V):jC w b V:=fun i B hB=>by
 obtain ⟨b',e,n,c,e1,h1⟩:=h i B hB
 cases e1
 exact ⟨e,n,c,h1⟩
theorem pe.some (h:pe w av V) (hV:V≠[]):∃b,av=some ⟨b,0,none⟩:=by
 match V,hV,h with
 | B :: V,_,h =>
  obtain ⟨b,e,n,c,e1,_⟩:=h 0 B rfl;exact ⟨b,e1⟩
theorem xD {lo hi f e o:Nat} {d t:Option Addr} {u s:Nat→Nat} {r:Nat→Nat→Nat} (hR:oy lo hi w d f av e t o M V S u s r) (hV:V≠[]):(∃b,d=some ⟨b,0,none⟩)∧∃b,av=some ⟨b,0,none⟩∧jC w b V:=by
 rcases hR with ⟨b1,b2,b3,rfl,rfl,_,h⟩ | ⟨_,_,_,_,_,_,_,h,_⟩
 · refine ⟨⟨_,rfl⟩,⟨_,rfl,fun i B hB=>?_⟩⟩;obtain ⟨xs,m,r2⟩:=h.levs.row;have hl:=h.levs.len;have hi:=(F'.1 hB).1;exact ⟨_,_,_,(m.cellAt i (by omega)).trans (r2 i B hB)⟩
 · exact absurd h hV
theorem E4 {B:List af} {k:Nat} (h:∀p ∈ B,p.1.length≤k):Bn B≤B.length*k:=by
 induction B with
 | nil=>simp [Bn]
 | cons p B b =>
  have h1:=b (fun x hx=>h x (GM _ hx));have h2:=h p GI;have h3:Bn (p :: B)=p.1.length+Bn B:=by simp [Bn]
  rw [h3,GR,Nat.add_mul];omega
theorem wX {q:Int} (h:aT q M V S=true):M.length+(E3 V+V.length)≤100000∧(∀e ∈ M,Fp e)∧∀B ∈ V,FU B:=by
 obtain ⟨A,B,C,rfl⟩:=gH h;obtain ⟨hl,b,_,_⟩:=oD h;have d:=p6 h;have hf:=iK h;have hs:∀Z ∈ [A,B,C],Bn Z≤Z.length*150:=fun Z f=>E4 fun p hp=>(bD (b Z f p hp)).2.1
 have h1:=hs A (by simp);have h2:=hs B (by simp);have h3:=hs C (by simp);have h4:E3 [A,B,C]=Bn A+A.length+(Bn B+B.length+(Bn C+C.length)):=by simp [E3]
 refine ⟨by rw [h4];simp only [GR,Hp];omega,d.em,fun Z f p hp e m=>?_⟩;exact nH (bD (b Z f p hp)).2.2.1 e m
theorem tc (q:Int) (s f r b E y:Nat) (F:Option Addr) (o cs:Nat) (M:List ac) (V:List (List af)) (S:List Int) (key:ByteArray) (seq:Int) (w:World) (D:bn 0 w (pT s) f r (pT b) E y F o cs M V S) (d:aT q M V S=true) (O:jC w b V) :
 Calls Tryz.prog 39 #[.agg #[iT q,sL s f r,sL b E y,.slice F o cs],.string key,iT seq] w (DT (kF M V key seq) w):=by
 obtain ⟨A,B,C,e0,I,c0,e1,L,c1,e2,n2,J,rfl,rfl,x,m⟩:=D.shareN d O;obtain ⟨hl,u,e,t⟩:=oD d;have H:=(aV d).2.2.1;have K:=D.mem.1.length;refine o6 q _ _ _ _ _ _ _ _ _ _ _ _ _ _ ⟨⟨_,_,_,rfl⟩,⟨_,_,_,rfl⟩,⟨_,_,_,rfl⟩,⟨_,_,_,rfl⟩,⟨_,_,_,rfl⟩⟩ key seq _ _ _ w m (fun N k2=>?_);exact C8 q s f r e0 I c0 e1 L c1 e2 n2 J _ o cs M A B C S key seq N (x.keep k2) (by omega) hl.1 hl.2.1 hl.2.2 (aV d).2.2.2.1 u e t
theorem Fv (q1:Int) (L r C b1 x s:Nat) (u:Option Addr) (E D:Nat) (d:List ac) (b:List (List af)) (f:List Int) (q2:Int) (g2 y o b2 F H:Nat) (B:Option Addr) (A m:Nat) (J:List ac) (I:List (List af)) (K:List Int) (w:World)
 (hT1:bn 0 w (pT L) r C (pT b1) x s u E D d b f) (ht1:aT q1 d b f=true) (hN1:jC w b1 b)
 (hT2:bn 0 w (pT g2) y o (pT b2) F H B A m J I K) (ht2:aT q2 J I K=true) (hN2:jC w b2 I)
 (hc:∀key t,t ∈ f++[q1]→kF J I key t=kF d b key t) :
 Calls Tryz.prog 46 #[.agg #[iT q1,sL L r C,sL b1 x s,.slice u E D],.agg #[iT q2,sL g2 y o,sL b2 F H,.slice B A m]] w fun e w'=>e=.returned (.bool true)∧Bl w w':=by
 have hs:=wX ht1;have hl:=DM (q:=q1) (M:=d) (V:=b) (S:=f);have hsn:=hT1.snaps.length;have hf:=iK ht1;refine BJ q1 _ _ _ _ _ _ _ _ _ f q2 _ _ _ _ _ _ _ _ _ (om q1 d b f) (kF d b) w hT1.snaps (by omega) (by omega) (fun w' k=>?_) (fun key t N w' k=>?_) (fun key t N w' k=>?_)
 · refine (vH 0 q1 _ _ _ _ _ _ _ _ _ d b f w' (hT1.keep k) (fun _=>by omega) (fun _=>hs.2.1) (fun _=>hs.2.2)).mono ?_;rintro e O ⟨⟨a,n,rfl,ho⟩,hb⟩;exact ⟨⟨a,n,n,rfl,ho.entsAt⟩,hb⟩
 · exact tc q1 L r C b1 x s u E D d b f key t w' (hT1.keep k) ht1 (hN1.keep k)
 · rw [← hc key t N];exact tc q2 g2 y o b2 F H B A m J I K key t w' (hT2.keep k) ht2 (hN2.keep k)
theorem yi (lo:Nat) (r:Int) (t av E:Option Addr) (u x J F D y:Nat) (M:List ac) (V:List (List af)) (S:List Int) (w:World) (m:bn lo w t u x av J F E D y M V S) :
 Calls Tryz.prog 26 #[.agg #[iT r,.slice t u x,.slice av J F,.slice E D y]] w fun e w'=>e=.returned (.bool (aT r M V S))∧Bl w w':=by
 have f:Eq (V.length=J):=m.levels.length;by_cases hn:J=3
 · subst hn;obtain ⟨A,B,C,Q⟩:∃A B C,V=[A,B,C]:=by
    have:=f.o;match V,this with
    | [A,B,C],_=>exact ⟨A,B,C,rfl⟩
   subst Q;obtain ⟨b,K,rfl,R⟩:=m.levels.form (by omega);obtain ⟨A',a0,X,c0,hA,l0,I⟩:=m.levels.level (Below.refl _ w) 0 (by omega);obtain ⟨B',a1,n1,c1,hB,l1,N⟩:=m.levels.level (Below.refl _ w) 1 (by omega);obtain ⟨C',a2,n2,Y,hC,l2,L⟩:=m.levels.level (Below.refl _ w) 2 (by omega);simp only [Ic,Hg,Hy] at hA hB hC;subst hA hB hC;rw [Hl] at l0;obtain ⟨Z,U⟩:=aF (aT r M [A,B,C] S);have T:Eq (∀w',Bl w w'→Calls Tryz.prog 86 #[.agg #[iT r,.slice t u x,sO b K 3 F,.slice E D y]] w' fun e W=>e=.returned (.tuple #[.agg #[iT r,.slice t u x,.slice a0 X c0,.slice a1 n1 c1,.slice a2 n2 Y,.slice E D y],.bool Z])∧Bl w' W):=fun w' k=>by
    rw [U];exact iU lo r t E u x b K F D y M A B C S a0 a1 a2 X c0 n1 c1 n2 Y w' (m.mem.1.keep k) (m.snaps.keep k) (I.keep k) (N.keep k) (L.keep k) (cell_later k l0) (cell_later k l1) (cell_later k l2)
   rw [← U];have s:∀o,Bl w (w.alloc o):=fun o=>(Below.refl _ _).alloc (Gg _) o
   clear U m f l0 l1 l2 I N L R;go_enter Tryz.func26,Tryz.ntmps26
   go_wp2_with fail
   refine (T.o _ (s _)).mono ?_;rintro e O ⟨rfl,d⟩;have H:Eq (Bl w O):=(s _).trans (d.mono (s _).size);clear d s;go_wp2;go_ret;exact ⟨rfl,H.o.alloc H.o.size _⟩
 · have HZ:Eq (aT r M V S=false):=gW (fun h=>hn (by have:=(aV h).2.2.2.2.2.1;have:=f.o;omega));clear m f;go_enter Tryz.func26,Tryz.ntmps26
   go_wp2_with fail
   refine (jU r t av E u x J F D y _ hn).mono ?_;have s:∀o,Bl w (w.alloc o):=fun o=>(Below.refl _ _).alloc (Gg _) o
   rintro e O ⟨rfl,d⟩;have H:Eq (Bl w O):=(s _).trans (d.mono (s _).size);clear d s;go_wp2;go_ret;exact ⟨ag HZ.o.symm,H.o.alloc H.o.size _⟩
end Go.Proofs.YtpobkmjicbobdaaGreat
