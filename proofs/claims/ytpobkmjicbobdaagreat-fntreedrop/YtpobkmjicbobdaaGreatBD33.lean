/- Walks. -/
import Derived.Shelf.GgClosure.Gives
import Derived.Test.YtpobkmjicbobdaaGreatBD32
import Derived.Ground.SlsfProg
namespace Go.Proofs.YtpobkmjicbobdaaGreat
set_option maxRecDepth 100000
set_option maxHeartbeats 40000000
open Go.RowKit Go.Shelf Go.Sort
variable {A B L M:List ac} {S:List Int} {V:List (List af)} {a b x:ac} {bs g k n:Nat} {ok:Bool} {q:Int} {w w':World}
instance decRun:DecidableEq af:=instDecidableEqProd
theorem jc {α:Type} {d e:List α} {x y:α} (h1:d[k]?=some x) (h2:e[k]?=some y) (hs:x=y) (h:d.take k=e.take k):d.take (k+1)=e.take (k+1):=by
 subst hs;rw [GH,GH,h1,h2,h]
theorem qg {α:Type} {d B2:List α} {x y:α} (h1:d[k]?=some x) (h2:B2[k]?=some y) (hs:¬x=y):¬d=B2:=by
 rintro rfl;rw [h1] at h2;cases h2;exact hs rfl
theorem oJ {m e:Int} {d:List ac}:jK m L e d=decide (((L,m):af)=(d,e)):=by
 unfold jK;by_cases h1:m=e <;> by_cases h2:L=d <;> simp [h1,h2]
theorem Ac (J O:Nat) (a1 a2:Option Addr) (r c1 n2 c2:Nat) (K N:List af) (w:World) (h1:aw J w a1 r c1 K) (h2:aw O w a2 n2 c2 N) :
 Calls Tryz.prog 139 #[.slice a1 r c1,.slice a2 n2 c2,.func (.func 140) #[] #[]] w fun e w'=>e=.returned (.bool (decide (K=N)))∧Bl w w':=by
 have f:=az h1.length;have y:=az h2.length;have a3:=h1.room;have d:=h1.big;have a0:=h2.room;have T:=h2.big;unfold maxLen at d T;have W:=az h1;have X:=az h2;have eg:∀args w,(callFunc 140 args).run Tryz.prog w=.ok (.enter 140 args) w:=enters_of Tryz.func140 (by kernel_rfl) rfl;by_cases hn:r=n2
 · subst hn;go_enter Tryz.func139,Tryz.ntmps139
   go_wp2;go_loopw [17] (fun i wr=>∃k:Nat,k≤r∧i=iT k∧Bl w wr∧K.take k=N.take k) (fun i _=>r - (intOf i).toNat)
   case atStart=>exact ⟨0,Gl _,rfl,Below.refl _ _,rfl⟩
   case round =>
    obtain ⟨k,hk,rfl,hb,I⟩:=hrel;have D:=az I;by_cases u:k<r
    · obtain ⟨x1,o1,rfl,R⟩:=W.o.form (by omega);obtain ⟨x2,o2,rfl,F⟩:=X.o.form (by omega);obtain ⟨L,m,s,n,c,hg,_,g0,g1,hL⟩:=W.o.run hb k u;obtain ⟨H,Z,s',n',c',Q,_,q0,q1,t⟩:=X.o.run hb k u;have U:=az hg;have C:=az Q;have Y:(k:Int)<(r:Int):=by omega
      have y1:=E' R hb.size;have y2:=E' F hb.size;have k2:Bl wr ((wr.alloc (.cells #[.slice s n c,iT m] 63)).alloc (.cells #[.slice s' n' c',iT Z] 63)):=bZ.alloc (by simp) _;obtain ⟨q,hq⟩:∃q,decide (((L,m):af)=(H,Z))=q:=⟨_,rfl⟩;have E:=az hq;cases q with
      | true =>
       go_wp2_with (go_at_fn 140;refine (oU _ _ _ _ _ _ _ _ L H _ (hL.1.keep k2) (t.1.keep k2)).mono ?_;rw [oJ,E.o];rintro e w1 ⟨rfl,d⟩)
       go_roundw
       case rel=>exact ⟨k+1,by omega,by go_num,hb.trans ((k2.trans (d.mono k2.size)).mono hb.size),jc U.o C.o (of_decide_eq_true E.o) D.o⟩
       case measure=>simp [intOf];omega
      | false =>
       go_wp2_with (go_at_fn 140;refine (oU _ _ _ _ _ _ _ _ L H _ (hL.1.keep k2) (t.1.keep k2)).mono ?_;rw [oJ,E.o];rintro e w1 ⟨rfl,d⟩)
       go_ret;exact ⟨ag (decide_eq_false (qg U.o C.o (of_decide_eq_false E.o))).symm,hb.trans ((k2.trans (d.mono k2.size)).mono hb.size)⟩
    · go_wp2;go_ret;refine ⟨ag (decide_eq_true ?_).symm,hb⟩;have:=D.o;rw [Gr (by rw [f.o];omega),Gr (by rw [y.o];omega)] at this;exact this
 · go_enter Tryz.func139,Tryz.ntmps139
   go_wp2;go_ret;refine ⟨ag (decide_eq_false ?_).symm,Below.refl _ _⟩;intro e;rw [e,y.o] at f;exact hn f.o.symm
theorem jB (d f:Nat) (a1 a2:Option Addr) (s c1 n2 c2:Nat) (m r:List af) (w:World) (h1:aw d w a1 s c1 m) (h2:aw f w a2 n2 c2 r) :
 Calls Tryz.prog 81 #[.slice a1 s c1,.slice a2 n2 c2] w fun e w'=>e=.returned (.bool (decide (m=r)))∧Bl w w':=by
 go_enter Tryz.func81,Tryz.ntmps81
 go_wp2_with (go_at_call 139;refine (Ac d f _ _ _ _ _ _ m r _ h1 h2).mono ?_;rintro e t ⟨rfl,o⟩)
 go_ret;exact ⟨rfl,o⟩
theorem vC (f t:Nat) (a1 a2:Option Addr) (r c1 n2 c2:Nat) (O R:List (List af)) (w:World) (h1:cC f w a1 r c1 O) (h2:cC t w a2 n2 c2 R) :
 Calls Tryz.prog 80 #[.slice a1 r c1,.slice a2 n2 c2,.func (.func 81) #[] #[]] w fun e w'=>e=.returned (.bool (decide (O=R)))∧Bl w w':=by
 have m:=az h1.length;have y:=az h2.length;have a0:=h1.room;have d:=h1.big;have Z:=h2.room;have Q:=h2.big;unfold maxLen at d Q;have U:=az h1;have X:=az h2;have eg:∀args w,(callFunc 81 args).run Tryz.prog w=.ok (.enter 81 args) w:=enters_of Tryz.func81 (by kernel_rfl) rfl;by_cases hn:r=n2
 · subst hn;go_enter Tryz.func80,Tryz.ntmps80
   go_wp2;go_loopw [17] (fun i wr=>∃k:Nat,k≤r∧i=iT k∧Bl w wr∧O.take k=R.take k) (fun i _=>r - (intOf i).toNat)
   case atStart=>exact ⟨0,Gl _,rfl,Below.refl _ _,rfl⟩
   case round =>
    obtain ⟨k,hk,rfl,hb,J⟩:=hrel;have D:=az J;by_cases u:k<r
    · obtain ⟨x1,o1,rfl,N⟩:=U.o.form (by omega);obtain ⟨x2,o2,rfl,H⟩:=X.o.form (by omega);obtain ⟨B,s,n,c,hg,g0,hL⟩:=U.o.level hb k u;obtain ⟨I,s',n',c',K,q0,E⟩:=X.o.level hb k u;have T:=az hg;have C:=az K;have W:(k:Int)<(r:Int):=by omega
      have y1:=E' N hb.size;have y2:=E' H hb.size;obtain ⟨q,hq⟩:∃q,decide (B=I)=q:=⟨_,rfl⟩;have F:=az hq;cases q with
      | true =>
       go_wp2_with (go_at_fn 81;refine (jB f t _ _ _ _ _ _ B I _ hL E).mono ?_;rw [F.o];rintro e Y ⟨rfl,d⟩)
       go_roundw
       case rel=>exact ⟨k+1,by omega,by go_num,hb.trans ((d).mono hb.size),jc T.o C.o (of_decide_eq_true F.o) D.o⟩
       case measure=>simp [intOf];omega
      | false =>
       go_wp2_with (go_at_fn 81;refine (jB f t _ _ _ _ _ _ B I _ hL E).mono ?_;rw [F.o];rintro e Y ⟨rfl,d⟩)
       go_ret;exact ⟨ag (decide_eq_false (qg T.o C.o (of_decide_eq_false F.o))).symm,hb.trans ((d).mono hb.size)⟩
    · go_wp2;go_ret;refine ⟨ag (decide_eq_true ?_).symm,hb⟩;have:=D.o;rw [Gr (by rw [m.o];omega),Gr (by rw [y.o];omega)] at this;exact this
 · go_enter Tryz.func80,Tryz.ntmps80
   go_wp2;go_ret;refine ⟨ag (decide_eq_false ?_).symm,Below.refl _ _⟩;intro e;rw [e,y.o] at m;exact hn m.o.symm
theorem Ay (D K:Nat) (a1 a2:Option Addr) (f c1 n2 c2:Nat) (F J:List Int) (w:World) (h1:aR D w a1 f c1 F) (h2:aR K w a2 n2 c2 J) :
 Calls Tryz.prog 82 #[.slice a1 f c1,.slice a2 n2 c2] w fun e w'=>e=.returned (.bool (decide (F=J)))∧Bl w w':=by
 have d:=az h1.length;have r:=az h2.length;have X:=h1.room;have I:=h1.big;have U:=h2.room;have H:=h2.big;unfold maxLen at I H;have Q:=az h1;have T:=az h2;by_cases hn:f=n2
 · subst hn;go_enter Tryz.func82,Tryz.ntmps82
   go_wp2;go_loopw [13] (fun i wr=>∃k:Nat,k≤f∧i=iT k∧Bl w wr∧F.take k=J.take k) (fun i _=>f - (intOf i).toNat)
   case atStart=>exact ⟨0,Gl _,rfl,Below.refl _ _,rfl⟩
   case round =>
    obtain ⟨k,hk,rfl,hb,y⟩:=hrel;have t:=az y;by_cases m:k<f
    · obtain ⟨x1,o1,rfl,E⟩:=Q.o.form (by omega);obtain ⟨x2,o2,rfl,u⟩:=T.o.form (by omega);obtain ⟨q,hg,_,Z⟩:=Q.o.num hb k m;obtain ⟨O,C,_,Y⟩:=T.o.num hb k m;have N:=az hg;have s:=az C;have R:(k:Int)<(f:Int):=by omega
      have y1:=E' E hb.size;have y2:=E' u hb.size;by_cases hq:q=O
      · subst hq;go_wp2_with fail
        go_quiet (fail)
        go_wp2;go_roundw
        case rel=>exact ⟨k+1,by omega,by go_num,below_drewN hb _,jc N.o s.o rfl t.o⟩
        case measure=>simp [intOf];omega
      · have W:=az hq;have hd:(q == O)=false:=by simpa using hq
        go_wp2_with fail
        go_quiet (fail)
        go_wp2;go_ret;exact ⟨ag (decide_eq_false (qg N.o s.o W.o)).symm,below_drewN hb _⟩
    · go_wp2;go_ret;refine ⟨ag (decide_eq_true ?_).symm,hb⟩;have:=t.o;rw [Gr (by rw [d.o];omega),Gr (by rw [r.o];omega)] at this;exact this
 · go_enter Tryz.func82,Tryz.ntmps82
   go_wp2;go_ret;refine ⟨ag (decide_eq_false ?_).symm,Below.refl _ _⟩;intro e;rw [e,r.o] at d;exact hn d.o.symm
def f7 (q:Int) (M:List ac) (V:List (List af)) (S:List Int) (q':Int) (M':List ac) (V':List (List af)) (S':List Int):Bool:=decide (q=q') && (decide (M=M') && (decide (V=V') && decide (S=S')))
theorem mF (q H:Int) (F I:Nat) (am av Y:Option Addr) (nm cm U cv O cs:Nat) (E y d:Option Addr) (D C r t s f:Nat) (M:List ac) (V:List (List af)) (S:List Int) (Q:List ac) (X:List (List af)) (Z:List Int) (w:World) (h1:bn F w am nm cm av U cv Y O cs M V S) (h2:bn I w E D C y r t d s f Q X Z) :
 Calls Tryz.prog 24 #[.agg #[iT q,.slice am nm cm,.slice av U cv,.slice Y O cs],.agg #[iT H,.slice E D C,.slice y r t,.slice d s f]] w fun e w'=>e=.returned (.bool (f7 q M V S H Q X Z))∧Bl w w':=by
 obtain ⟨W,J⟩:=aF ((w.alloc (.cells #[iT q,.slice am nm cm,.slice av U cv,.slice Y O cs] 31)).alloc (.cells #[iT H,.slice E D C,.slice y r t,.slice d s f] 31));have hB:Bl w W:=by rw [J];exact bZ.alloc (by simp) _
 have x2:W.cell? ⟨w.heap.size,2,none⟩=some (.slice av U cv):=by rw [J];simp
 have R:W.cell? ⟨w.heap.size,3,none⟩=some (.slice Y O cs):=by rw [J];simp
 have y2:W.cell? ⟨w.heap.size+1,2,none⟩=some (.slice y r t):=by rw [J];simp
 have T:W.cell? ⟨w.heap.size+1,3,none⟩=some (.slice d s f):=by rw [J];simp
 have H1:=az (h1.keep hB);have H2:=az (h2.keep hB);have K:=az hB;obtain ⟨bM,hM⟩:∃b,decide (M=Q)=b:=⟨_,rfl⟩;obtain ⟨bV,hV⟩:∃b,decide (V=X)=b:=⟨_,rfl⟩;obtain ⟨bS,hS⟩:∃b,decide (S=Z)=b:=⟨_,rfl⟩;have CM:Eq (∀w',Bl W w'→Calls Tryz.prog 79 #[.slice am nm cm,.slice E D C] w' fun e m=>e=.returned (.bool bM)∧Bl w' m):=by rw [← hM];exact fun w' k=>tq _ _ _ _ _ _ M Q w' (H1.o.keep k).mem.1 (H2.o.keep k).mem.1
 have CV:Eq (∀w',Bl W w'→Calls Tryz.prog 80 #[.slice av U cv,.slice y r t,.func (.func 81) #[] #[]] w' fun e m=>e=.returned (.bool bV)∧Bl w' m):=by rw [← hV];exact fun w' k=>vC F I _ _ _ _ _ _ V X w' (H1.o.keep k).levels (H2.o.keep k).levels
 have CS:Eq (∀w',Bl W w'→Calls Tryz.prog 82 #[.slice Y O cs,.slice d s f] w' fun e m=>e=.returned (.bool bS)∧Bl w' m):=by rw [← hS];exact fun w' k=>Ay F I _ _ _ _ _ _ S Z w' (H1.o.keep k).snaps (H2.o.keep k).snaps
 have HR:Eq (f7 q M V S H Q X Z=(decide (q=H) && (bM && (bV && bS)))):=by rw [← hM,← hV,← hS];rfl
 rw [HR.o];by_cases hq:q=H
 · subst hq;go_enter Tryz.func24,Tryz.ntmps24
   go_wp2_with fail
   rw [← J];refine (CM.o _ (Below.refl _ _)).mono ?_;rintro e w1 ⟨rfl,u⟩;have x2:=cell_later u x2;have R:=cell_later u R;have y2:=cell_later u y2;have T:=cell_later u T;have z1:=Gf _ _ x2;have z2:=Gf _ _ y2;simp only at z1 z2;have K1:=az u;cases bM with
   | false =>
    go_wp2;go_ret;exact ⟨ag (by simp),K.o.trans (K1.o.mono K.o.size)⟩
   | true =>
    go_wp2_with fail
    refine (CV.o _ K1.o).mono ?_;rintro e w2 ⟨rfl,N⟩;have R:=cell_later N R;have T:=cell_later N T;have z1:=Gf _ _ R;have z2:=Gf _ _ T;simp only at z1 z2;have K2:=az (K1.o.trans (N.mono K1.o.size));cases bV with
    | false =>
     go_wp2;go_ret;exact ⟨ag (by simp),K.o.trans (K2.o.mono K.o.size)⟩
    | true =>
     go_wp2_with fail
     refine (CS.o _ K2.o).mono ?_;rintro e w3 ⟨rfl,ah⟩;have K3:=az (K2.o.trans (ah.mono K2.o.size));go_wp2;go_ret;exact ⟨ag (by simp),K.o.trans (K3.o.mono K.o.size)⟩
 · have hd:(q == H)=false:=by simpa using hq
   have HQ:=az hq;go_enter Tryz.func24,Tryz.ntmps24
   go_wp2;go_ret;rw [← J];exact ⟨ag (by simp [HQ.o]),K.o⟩
def EK (q2:Int) (M2:List ac) (V2:List (List af)) (S2:List Int) (ok:Bool) (w:World) (e:Ending) (w':World):Prop:=∃a1 n1 k1 a2 n2 k2 a3 n3 k3,e=.returned (.tuple #[.agg #[iT q2,.slice a1 n1 k1,.slice a2 n2 k2,.slice a3 n3 k3],.bool ok])∧bn 0 w' a1 n1 k1 a2 n2 k2 a3 n3 k3 M2 V2 S2∧Bl w w'
theorem pf.tupT {e:Ending} (h:pf q M V S ok w e w') (hw:∀z ∈ S,(Lit.int .i64 z).wf=true):EK q M V S ok w e w':=by
 obtain ⟨f,m,u,d,t,s,o,bs,r,rfl,hR,hb⟩:=h;exact ⟨_,_,_,_,_,_,_,_,_,rfl,hR.treeIn hw,hb⟩
theorem DS.tupT {e:Ending} (h:DS q M V S ok w e w'):EK q M V S ok w e w':=by
 obtain ⟨f,m,o,u,d,s,t,r,cs,rfl,hR,hb⟩:=h;exact ⟨_,_,_,_,_,_,_,_,_,rfl,hR,hb⟩
theorem lH (q:Int) (M:List ac) (V:List (List af)) (S:List Int):f7 q M V S q M V S=true:=by simp [f7]
theorem uv {f:Array Oper} {rest:List Oper} {o:Oper} {a:Act} {w:World} {Q:Exit→Act→World→Prop} (e:o.guard=none) (s x:Operand)
 (ho:o.op=.call { callee:=.builtin .append,args:=#[s,x],argTypes:=#[28,28] })
 (base base' g n c:Nat) (X:List ac) (hs:a.eval s=sL g n c) (hO:ah w base g n c X) (ax:Option Addr) (m cx:Nat) (M:List ac) (hx:a.eval x=.slice ax m cx) (hM:cX w base' ax m cx M) (hn:n≤1048576) (hm:m≤1048576) (k:Nat) (hk:k=n+m)
 (h:∀r c' w',ah w' base r k c' (X++M)→w.grownBy w' (some g)→wpList Tryz.prog f Q rest (a.put o.dst (sL r k c')) w'):wpList Tryz.prog f Q (o :: rest) a w:=by
 subst hk;obtain ⟨i0,hi,u,y,t⟩:=info_parts Tryz.infoEnt;cases ax with
 | none =>
  obtain ⟨rfl,rfl,rfl⟩:=hM.nil rfl;refine wpList_append_own_none e s x 28 ho base 50 i0 5 Tryz.underlying28 hi _ n (aG X) hs hO.owns hx ?_;have:=h g c w (by simpa using hO) (World.grownBy.refl _ _);simpa using this
 | some E =>
  obtain ⟨D,rfl,hE⟩:=hM.own E rfl;refine wpList_append_own_at _ e s x 28 ho base 50 i0 _ 5 56 Tryz.underlying28 hi u y t rfl (by decide) _ n (aG X) hs hO.owns ⟨D,0,none⟩ m cx (aG M) hx (by rw [aW,hE.len]) (b7 hE.entsAt) (aY _) (by unfold maxLen;omega) (by omega) (by have:=hO.lt;omega) ?_;intro C w' hown hgrow hnil hat;obtain ⟨r,c',rfl⟩:∃g d,C=sL g (n+m) d:=by
   rcases hown.2 with ⟨hv,h0⟩ | ⟨g,d,_,rfl,_⟩
   · have:=(hnil.1 hv).1;cases this
   · exact ⟨g,d,rfl⟩
  refine h r c' w' ⟨by rw [bw];exact hown,by rw [Gj,hO.len,hE.len],fun l hl=>?_⟩ (by simpa [Value.ownBlock] using hgrow);rcases Gw.1 hl with h1 | h1
  · exact hO.ents l h1
  · exact hE.ents l h1
theorem FA (i:Nat) (j:Nat) (d:j<5):(i*5+j) / 5=i∧(i*5+j) % 5=j:=by omega
theorem vR (x:ac):(bg x)[0]! = .string x.1∧(bg x)[1]! = iT x.2.1∧(bg x)[2]! = iT x.2.2.1∧(bg x)[3]! = .string x.2.2.2.1∧(bg x)[4]! = iT x.2.2.2.2:=⟨rfl,rfl,rfl,rfl,rfl⟩
theorem qA {base c:Nat} (hO:ah w base g n c L):HoldsK bg 5 w g 0 L.toArray:=by
 intro t f;rw [size_flatK] at f;have hl:=hO.len;have d:t / 5<L.length:=by simp at f;omega
 refine ⟨?_,by rw [Gp];exact hO.owns.frozenAt _⟩;rw [get_flatK _ _ _ _ f];obtain ⟨c0,c1,m,c3,c4⟩:=hO.entsAt.cells _ rfl (t / 5) d;have e:(L.toArray)[t / 5]! = L[t / 5]:=by simp [d]
 rw [e];obtain ⟨z0,r,o,z3,z4⟩:=vR L[t / 5];have hm:t % 5<5:=Nat.mod_lt _ (by omega);have s:t=t / 5*5+t % 5:=by omega
 rcases (show t % 5=0∨t % 5=1∨t % 5=2∨t % 5=3∨t % 5=4 by omega) with h | h | h | h | h
 · rw [h,z0];rw [show (0:Nat)+t=0+t / 5*5 by omega];exact c0
 · rw [h,r];rw [show (0:Nat)+t=0+t / 5*5+1 by omega];exact c1
 · rw [h,o];rw [show (0:Nat)+t=0+t / 5*5+2 by omega];exact m
 · rw [h,z3];rw [show (0:Nat)+t=0+t / 5*5+3 by omega];exact c3
 · rw [h,z4];rw [show (0:Nat)+t=0+t / 5*5+4 by omega];exact c4
theorem yy {D:Array ac} (h:HoldsK bg 5 w g 0 D) (i:Nat) (hi:i<D.toList.length):km w g (0+i*5) D.toList[i]:=by
 have f:i<D.size:=by simpa using hi
 have e:D[i]! = D.toList[i]:=by simp [f]
 have key:∀j,j<5→w.cell? ⟨g,0+i*5+j,none⟩=some ((bg D.toList[i])[j]!):=fun j m=>by
  have d:i*5+j<D.size*5:=by omega
  have:=(h (i*5+j) (by rw [size_flatK];exact d)).1;rw [get_flatK _ _ _ _ d,(FA i j m).1,(FA i j m).2,e] at this;rw [Ip];exact this
 obtain ⟨z0,r,o,z3,z4⟩:=vR D.toList[i];exact ⟨by rw [← z0];exact key 0 (by omega),by rw [← r];exact key 1 (by omega),by rw [← o];exact key 2 (by omega),by rw [← z3];exact key 3 (by omega),by rw [← z4];exact key 4 (by omega)⟩
theorem mG {m:Array Obj} (d:Array ac):w.grownBy (sortWorldK bg 5 w g 0 n d m) (some g):=by
 unfold sortWorldK putRowK;refine ⟨rfl,rfl,rfl,by simp,fun k hk f=>?_⟩;rw [heap_grow_old _ _ (by simpa using hk)];have:g≠k:=fun e=>f (by rw [e])
 simp [putRow,mapBlock,Sort.ahead,Array.getElem?_modify,this]
def Tryz.insL_ren : Go.Shelf.Ren := ⟨fun | 20 => 213 | n => n, fun | 24 => 50 | 22 => 28 | 3 => 3 | 25 => 118 | 4 => 4 | 0 => 0 | n => n, fun | n => n⟩
theorem Tryz.insL : Go.Proofs.SlLaysF0.n20 Tryz.prog Tryz.insL_ren := {
  mixed := by kernel_rfl
  f20 := ⟨Tryz.f213.name, by decide, Tryz.func213.trans (congrArg some (by kernel_rfl))⟩
  t0 := Tryz.underlying0
  a0 := Tryz.isAgg0
  z0 := Tryz.sizeOf0
  v0 := Tryz.zeroValue0
  t3 := Tryz.underlying3
  a3 := Tryz.isAgg3
  z3 := Tryz.sizeOf3
  v3 := Tryz.zeroValue3
  t4 := Tryz.underlying4
  a4 := Tryz.isAgg4
  z4 := Tryz.sizeOf4
  v4 := Tryz.zeroValue4
  t22 := Tryz.underlying28
  a22 := Tryz.isAgg28
  z22 := Tryz.sizeOf28
  v22 := Tryz.zeroValue28
  t25 := Tryz.underlying118
  a25 := Tryz.isAgg118
  z25 := Tryz.sizeOf118
  v25 := Tryz.zeroValue118 }
theorem Eo (s C E o:ByteArray) (f u r d y t:Int) (w:World) :
 Calls Tryz.prog 112 #[.agg #[.string s,iT f,iT u,.string C,iT r],.agg #[.string E,iT d,iT y,.string o,iT t]] w fun e w'=>e=.returned (iT (Lib.compareInt f d))∧∃q m,w'=grow (w.drewN q) m:=by
 obtain ⟨D,hD⟩:=aF (Lib.compareInt f d);have F:∀w,Calls Tryz.prog 170 #[iT f,iT d] w fun e w'=>e=.returned (iT D)∧w'=w:=by rw [hD];exact jq f d
 rw [← hD];clear hD;go_enter Tryz.func112,Tryz.ntmps112
 go_wp2_with fail
 refine (F _).mono ?_;rintro e w' ⟨rfl,rfl⟩;go_wp2;go_ret;refine ⟨rfl,0,#[.cells #[.string s,iT f,iT u,.string C,iT r] 50,.cells #[.string E,iT d,iT y,.string o,iT t] 50],?_⟩;rw [ri,ri,grow_grow];rfl
def yP (x y:ac):Int:=Lib.compareInt x.2.1 y.2.1
theorem E8:ltOf yP=xS:=by
 funext x y
 unfold ltOf yP xS Lib.compareInt;by_cases h:x.2.1<y.2.1
 · simp [h]
 · by_cases h2:x.2.1 > y.2.1 <;> simp [h,h2]
/-! Two rows in order made one, the first ahead where times are alike. -/
def fX : List ac → List ac → List ac
  | [], B => B
  | a :: A, [] => a :: A
  | a :: A, b :: B => if b.2.1 < a.2.1 then b :: fX (a :: A) B else a :: fX A (b :: B)
termination_by A B => A.length + B.length
theorem fd (B : List ac) : fX [] B = B := by rw [fX]
theorem dY : ∀ A : List ac, fX A [] = A
  | [] => by rw [fX]
  | a :: A => by rw [fX]
theorem fP (h : b.2.1 < a.2.1) : fX (a :: A) (b :: B) = b :: fX (a :: A) B := by rw [fX, if_pos h]
theorem fQ (h : ¬ b.2.1 < a.2.1) : fX (a :: A) (b :: B) = a :: fX A (b :: B) := by rw [fX, if_neg h]
theorem tV : ∀ (A B : List ac), (fX A B).length = A.length + B.length
  | [], B => by rw [fd]; simp
  | a :: A, [] => by rw [dY]; simp
  | a :: A, b :: B => by
    by_cases h : b.2.1 < a.2.1
    · rw [fP h, GR, tV (a :: A) B]; simp; omega
    · rw [fQ h, GR, tV A (b :: B)]; simp; omega
termination_by A B => A.length + B.length
theorem mC : ∀ (A B : List ac), (fX A B).Perm (A ++ B)
  | [], B => by rw [fd]; simp
  | a :: A, [] => by rw [dY]; simp
  | a :: A, b :: B => by
    by_cases h : b.2.1 < a.2.1
    · rw [fP h]; exact ((mC (a :: A) B).cons b).trans List.perm_middle.symm
    · rw [fQ h]; exact (mC A (b :: B)).cons a
termination_by A B => A.length + B.length
theorem gg : ∀ (f d o e : List ac), (∀ a ∈ f, ∀ b ∈ e, ¬ b.2.1 < a.2.1) → (∀ b ∈ o, ∀ a ∈ d, b.2.1 < a.2.1) → fX (f ++ d) (o ++ e) = fX f o ++ fX d e
  | [], d, [], e, _, _ => by simp [fd]
  | [], [], b :: o, e, _, _ => by simp [fd]
  | [], a :: d, b :: o, e, h1, h2 => by
    have hb := h2 b GI a GI
    have m := gg [] (a :: d) o e h1 (fun x hx => h2 x (GM _ hx))
    simp only [GU, fd, GY] at m ⊢
    rw [fP hb, m]
  | a :: f, d, [], [], _, _ => by simp [dY]
  | a :: f, d, [], b :: e, h1, h2 => by
    have hb := h1 a GI b GI
    have m := gg f d [] (b :: e) (fun x hx => h1 x (GM _ hx)) h2
    simp only [GU, dY, GY] at m ⊢
    rw [fQ hb, m]
  | a :: f, d, b :: o, e, h1, h2 => by
    by_cases h : b.2.1 < a.2.1
    · have m := gg (a :: f) d o e h1 (fun x hx => h2 x (GM _ hx))
      simp only [GY] at m ⊢
      rw [fP h, fP h, m]
      rfl
    · have m := gg f d (b :: o) e (fun x hx => h1 x (GM _ hx)) h2
      simp only [GY] at m ⊢
      rw [fQ h, fQ h, m]
      rfl
termination_by f _ o _ => f.length + o.length
theorem tU (x : ac) (d B2 : List ac) (h1 : ∀ b ∈ d, b.2.1 < x.2.1) (h2 : ∀ b ∈ B2, ¬ b.2.1 < x.2.1) : fX [x] (d ++ B2) = d ++ x :: B2 := by
  have h := gg [] [x] d B2 (by simp) (fun b hb a ha => by simp only [GC] at ha; subst ha; exact h1 b hb)
  simp only [GU, fd] at h
  rw [h]
  cases B2 with
  | nil => rw [dY]
  | cons b B2 => rw [fQ (h2 b GI), fd]
theorem rU (y : ac) (d A2 : List ac) (h1 : ∀ a ∈ d, ¬ y.2.1 < a.2.1) (h2 : ∀ a ∈ A2, y.2.1 < a.2.1) : fX (d ++ A2) [y] = d ++ y :: A2 := by
  have h := gg d A2 [] [y] (fun a ha b hb => by simp only [GC] at hb; subst hb; exact h1 a ha) (by simp)
  simp only [GU, dY] at h
  rw [h]
  cases A2 with
  | nil => rw [fd]
  | cons a A2 => rw [fP (h2 a GI), dY]
def Asc (A : List ac) : Prop := A.Pairwise (fun a b => a.2.1 ≤ b.2.1)
theorem fb {e: ac} (h : Asc (x :: M)) (f : e.2.1 < x.2.1) : fw (x :: M) e = e :: x :: M := by
  have h1 := GG.1 h
  have d : ∀ y ∈ x :: M, e.2.1 < y.2.1 := fun y hy => by
    rcases Gz.1 hy with rfl | hy
    · exact f
    · have := h1.1 y hy; omega
  have := pW (A := []) (B := x :: M) d
  simp only [GU] at this
  rw [this]
  simp [fw, kU]
theorem vm {x : ac} {M : List ac} {q : Int} (hx : ¬ q < x.2.1) : ∀ k, k ≤ M.length → kU (x :: M) q (k + 1) = kU M q k + 1
  | 0, _ => by simp [kU, hx]
  | k + 1, hk => by
    have hm := j' (show k < M.length from hk)
    have h1 : (x :: M)[k + 1]? = some M[k] := by simp
    have e1 : kU (x :: M) q (k + 1 + 1) = if q < M[k].2.1 then kU (x :: M) q (k + 1) else k + 1 + 1 := by rw [kU, h1]
    have e2 : kU M q (k + 1) = if q < M[k].2.1 then kU M q k else k + 1 := by rw [kU, hm]
    rw [e1, e2]
    by_cases hc : q < M[k].2.1
    · rw [if_pos hc, if_pos hc]; exact vm hx k (by omega)
    · rw [if_neg hc, if_neg hc]
theorem eO {e: ac} (d : ¬ e.2.1 < x.2.1) : fw (x :: M) e = x :: fw M e := by
  unfold fw
  rw [GR, vm d M.length (Gg _)]
  simp
theorem pn : ∀ {A B : List ac}, Asc A → Asc B → Asc (fX A B)
  | [], B, _, hB => by rw [fd]; exact hB
  | a :: A, [], hA, _ => by rw [dY]; exact hA
  | a :: A, b :: B, hA, hB => by
    have a1 := GG.1 hA
    have b1 := GG.1 hB
    by_cases h : b.2.1 < a.2.1
    · rw [fP h]
      refine GG.2 ⟨fun y hy => ?_, pn hA b1.2⟩
      rcases Gw.1 ((mC _ _).mem_iff.1 hy) with hy | hy
      · rcases Gz.1 hy with rfl | hy
        · omega
        · have := a1.1 y hy; omega
      · exact b1.1 y hy
    · rw [fQ h]
      refine GG.2 ⟨fun y hy => ?_, pn a1.2 hB⟩
      rcases Gw.1 ((mC _ _).mem_iff.1 hy) with hy | hy
      · exact a1.1 y hy
      · rcases Gz.1 hy with rfl | hy
        · omega
        · have := b1.1 y hy; omega
termination_by A B => A.length + B.length
theorem jO (e : ac) : ∀ {A B : List ac}, Asc A → Asc B → fw (fX A B) e = fX A (fw B e)
  | [], B, _, _ => by rw [fd, fd]
  | a :: A, [], hA, _ => by
    have a1 := GG.1 hA
    rw [dY]
    have : fw [] e = [e] := by simp [fw, kU]
    rw [this]
    by_cases h : e.2.1 < a.2.1
    · rw [fb hA h, fP h, dY]
    · rw [eO h, fQ h]
      have o := jO e a1.2 (B := []) List.Pairwise.nil
      rw [dY, this] at o
      rw [o]
  | a :: A, b :: B, hA, hB => by
    have a1 := GG.1 hA
    have b1 := GG.1 hB
    by_cases d : b.2.1 < a.2.1
    · by_cases f : e.2.1 < b.2.1
      · have hs := pn hA hB
        rw [fP d] at hs ⊢
        rw [fb hs f, fb hB f, fP (show e.2.1 < a.2.1 by omega), fP d]
      · rw [fP d, eO f, eO f, fP d, jO e hA b1.2]
    · by_cases f : e.2.1 < b.2.1
      · rw [fb hB f]
        by_cases m : e.2.1 < a.2.1
        · have hs := pn hA hB
          rw [fQ d] at hs ⊢
          rw [fb hs m, fP m, fQ d]
        · rw [fQ d, eO m, fQ m, jO e a1.2 hB, fb hB f]
      · rw [fQ d, eO (show ¬ e.2.1 < a.2.1 by omega), eO f, fQ d, jO e a1.2 hB, eO f]
termination_by A B => A.length + B.length
theorem DC (A : List ac) : ∀ B : List ac, bK (A ++ B) = fX (bK A) (bK B) := by
  have key : ∀ n (B : List ac), B.length = n → bK (A ++ B) = fX (bK A) (bK B) := by
    intro n
    induction n with
    | zero => intro B h; rw [G6] at h; subst h; simp [bK, dY]
    | succ n e =>
      intro B h
      obtain ⟨d, x, rfl⟩ : ∃ d x, B = d ++ [x] := ⟨B.dropLast, B.getLast (by intro h0; simp [h0] at h), (List.dropLast_concat_getLast _).symm⟩
      simp at h
      rw [← GJ, og, og, e d h, jO x (fI A) (fI d)]
  exact fun B => key _ B rfl
/-! Rows of so many, each in order. -/
def Ez (bs : Nat) : Nat → List ac → List ac
  | 0, L => bK L
  | f + 1, L => if L.length ≤ bs then bK L else bK (L.take bs) ++ Ez bs f (L.drop bs)
theorem vY {bs : Nat} (hb : 1 ≤ bs) : ∀ (f d : Nat) (L : List ac), L.length ≤ f → L.length ≤ d → Ez bs f L = Ez bs d L
  | 0, 0, L, _, _ => rfl
  | 0, d + 1, L, h, _ => by
    have : L.length ≤ bs := by omega
    simp [Ez, this]
  | f + 1, 0, L, _, h => by
    have : L.length ≤ bs := by omega
    simp [Ez, this]
  | f + 1, d + 1, L, h, h' => by
    simp only [Ez]
    by_cases hl : L.length ≤ bs
    · rw [if_pos hl, if_pos hl]
    · rw [if_neg hl, if_neg hl, vY hb f d (L.drop bs) (by simp; omega) (by simp; omega)]
def jA (bs : Nat) (L : List ac) : List ac := Ez bs L.length L
theorem ju {bs : Nat} {L : List ac} (h : L.length ≤ bs) : jA bs L = bK L := by
  unfold jA
  match hl : L.length with
  | 0 => rfl
  | n + 1 => rw [Ez, if_pos (by omega)]
theorem qZ (hb : 1 ≤ bs) (L : List ac) : jA bs L = bK (L.take bs) ++ jA bs (L.drop bs) := by
  by_cases d : L.length ≤ bs
  · rw [ju d, Gr d, Hs d, ju (by simp)]
    simp [bK]
  · unfold jA
    obtain ⟨n, hn⟩ : ∃ n, L.length = n + 1 := ⟨L.length - 1, by omega⟩
    rw [hn, Ez, if_neg d, vY hb n (L.drop bs).length (L.drop bs) (by simp; omega) (Gg _)]
theorem zq (bs : Nat) (R : List ac) : fX (bK (R.take bs)) (bK (R.drop bs)) = bK R := by
  rw [← DC, GK]
/-! The steps of the library's stable sort, on plain rows. -/
theorem BK (d e f : List ac) (p q : ac) : Sort.swp (d ++ p :: (e ++ q :: f)).toArray d.length (d.length + 1 + e.length) = (d ++ q :: (e ++ p :: f)).toArray := by
  unfold Sort.swp
  apply Array.ext'
  have e1 : (d ++ p :: (e ++ q :: f))[d.length + 1 + e.length]? = some q := by
    rw [Gm (by omega), show d.length + 1 + e.length - d.length = e.length + 1 by omega]
    simp
  have m : ((d ++ p :: (e ++ q :: f)).toArray)[d.length + 1 + e.length]! = q := by simp [e1]
  have o : ((d ++ p :: (e ++ q :: f)).toArray)[d.length]! = p := by simp
  rw [m, o]
  simp only [Is]
  rw [Hr _ _ (Gg _), Hn, Ik, Hr _ _ (by omega), show d.length + 1 + e.length - d.length = e.length + 1 by omega, H9, Hr _ _ (Gg _), Hn, Ik]
theorem D6 (Z D : List ac) (i j : Nat) (hi : i < D.length) (d : j < D.length) : Sort.swp (Z ++ D).toArray (Z.length + i) (Z.length + j) = (Z ++ (Sort.swp D.toArray i j).toList).toArray := by
  unfold Sort.swp
  apply Array.ext'
  have e1 : (Z ++ D)[Z.length + j]? = some D[j] := by rw [Gm (by omega), Hx, j' d]
  have e0 : (Z ++ D)[Z.length + i]? = some D[i] := by rw [Gm (by omega), Hx, j' hi]
  have e : ((Z ++ D).toArray)[Z.length + j]! = D[j] := by simp [e1]
  have f : ((Z ++ D).toArray)[Z.length + i]! = D[i] := by simp [e0]
  have h1 : (D.toArray)[j]! = D[j] := by simp [d]
  have h0 : (D.toArray)[i]! = D[i] := by simp [hi]
  rw [e, f, h1, h0]
  simp only [Is]
  rw [Hr _ _ (by omega), Hx, Hr _ _ (by omega), Hx]
theorem uI (D : List ac) (i j : Nat) : (Sort.swp D.toArray i j).toList.length = D.length := by unfold Sort.swp; simp
theorem sY (Z : List ac) : ∀ (j : Nat) (D : List ac), j < D.length → Sort.insInner xS Z.length (Z.length + j) (Z ++ D).toArray = (Z ++ (Sort.insInner xS 0 j D.toArray).toList).toArray
  | 0, D, _ => by
    simp only [Hl, Sort.insInner]
    cases hz : Z.length with
    | zero => simp [Sort.insInner]
    | succ k => simp [Sort.insInner]
  | j + 1, D, d => by
    show Sort.insInner xS Z.length (Z.length + j + 1) (Z ++ D).toArray = _
    have e1 : (Z ++ D)[Z.length + j + 1]? = some D[j + 1] := by rw [Gm (by omega), show Z.length + j + 1 - Z.length = j + 1 by omega, j' d]
    have e0 : (Z ++ D)[Z.length + j]? = some D[j] := by rw [Gm (by omega), Hx, j']
    have e : ((Z ++ D).toArray)[Z.length + j + 1]! = D[j + 1] := by simp [e1]
    have m : ((Z ++ D).toArray)[Z.length + j]! = D[j] := by simp [e0]
    have h1 : (D.toArray)[j + 1]! = D[j + 1] := by simp [d]
    have h0 : (D.toArray)[j]! = D[j] := by simp [show j < D.length by omega]
    rw [Sort.insInner, Sort.insInner, e, m, h1, h0]
    by_cases hc : xS D[j + 1] D[j] = true
    · have hs : Sort.swp (Z ++ D).toArray (Z.length + j + 1) (Z.length + j) = (Z ++ (Sort.swp D.toArray (j + 1) j).toList).toArray := D6 Z D (j + 1) j d (by omega)
      have f := sY Z j (Sort.swp D.toArray (j + 1) j).toList (by rw [uI]; omega)
      rw [if_pos (by simp [hc]; omega), if_pos (by simp [hc]), hs, f]
    · rw [if_neg (by simp [hc]), if_neg (by simp [hc])]
theorem qu (lt : ac → ac → Bool) (a : Nat) : ∀ (j : Nat) (D : List ac), (Sort.insInner lt a j D.toArray).toList.length = D.length
  | 0, D => by simp [Sort.insInner]
  | j + 1, D => by
    rw [Sort.insInner]
    split
    · have := qu lt a j (Sort.swp D.toArray (j + 1) j).toList
      rw [uI] at this
      simpa using this
    · rfl
theorem Ai (Z : List ac) (b : Nat) : ∀ (m i : Nat) (D : List ac), b - i = m → b ≤ D.length → Sort.insOuter xS Z.length (Z.length + b) (Z.length + i) (Z ++ D).toArray = (Z ++ (Sort.insOuter xS 0 b i D.toArray).toList).toArray := by
  intro m
  induction m with
  | zero =>
    intro i D hm hb
    rw [Sort.insOuter, if_neg (by omega), Sort.insOuter, if_neg (by omega)]
  | succ m d =>
    intro i D hm hb
    rw [Sort.insOuter, if_pos (by omega), sY Z i D (by omega)]
    conv => rhs; rw [Sort.insOuter, if_pos (show i < b by omega)]
    have := d (i + 1) (Sort.insInner xS 0 i D.toArray).toList (by omega) (by rw [qu]; exact hb)
    rw [show Z.length + i + 1 = Z.length + (i + 1) by omega, this]
theorem xM (L Y : List ac) : ∀ m i, L.length - i = m → i ≤ L.length → Sort.insOuter xS 0 L.length i (bK (L.take i) ++ (L.drop i ++ Y)).toArray = (bK L ++ Y).toArray := by
  intro m
  induction m with
  | zero =>
    intro i hm hi
    have : i = L.length := by omega
    subst this
    rw [Sort.insOuter, if_neg (by omega)]
    simp
  | succ m e =>
    intro i hm hi
    have d : i < L.length := by omega
    rw [Sort.insOuter, if_pos d, He d]
    have hl : (bK (L.take i)).length = i := by rw [eX]; simp; omega
    have := El (bK (L.take i)) (L.drop (i + 1) ++ Y) L[i]
    rw [hl] at this
    simp only [GY]
    rw [this, ← A5 (j' d)]
    exact e (i + 1) (by omega) (by omega)
theorem C3 (Z X Y : List ac) : Sort.insertionSort xS (Z ++ (X ++ Y)).toArray Z.length (Z.length + X.length) = (Z ++ (bK X ++ Y)).toArray := by
  unfold Sort.insertionSort
  rw [Ai Z X.length (X.length - 1) 1 (X ++ Y) rfl (by simp)]
  by_cases h : X.length = 0
  · rw [G6] at h
    subst h
    rw [Sort.insOuter, if_neg (by simp)]
    simp [bK]
  · have h1 : bK (X.take 1) ++ (X.drop 1 ++ Y) = X ++ Y := by
      match X, h with
      | [], h => simp at h
      | x :: r, _ => simp [bK, fw, kU]
    have := xM X Y (X.length - 1) 1 rfl (by omega)
    rw [h1] at this
    rw [this]
def eD (Z P M Q Y : List ac) (i : Nat) : List ac := (Z ++ Q.take i) ++ (P.drop i ++ (M ++ (P.take i ++ (Q.drop i ++ Y))))
theorem Es (Z P M Q Y : List ac) (i n : Nat) (d : P.length = n) (hQ : Q.length = n) (hi : i < n) : Sort.swp (eD Z P M Q Y i).toArray (Z.length + i) (Z.length + n + M.length + i) = (eD Z P M Q Y (i + 1)).toArray := by
  have hp : i < P.length := by omega
  have hq : i < Q.length := by omega
  have e1 : eD Z P M Q Y i = (Z ++ Q.take i) ++ P[i] :: ((P.drop (i + 1) ++ (M ++ P.take i)) ++ Q[i] :: (Q.drop (i + 1) ++ Y)) := by
    unfold eD
    rw [He hp, He hq]
    simp only [GJ, GY]
  have e2 : eD Z P M Q Y (i + 1) = (Z ++ Q.take i) ++ Q[i] :: ((P.drop (i + 1) ++ (M ++ P.take i)) ++ P[i] :: (Q.drop (i + 1) ++ Y)) := by
    unfold eD
    rw [GH, GH, j' hp, j' hq]
    simp only [Option.toList_some, GJ, GY, GU]
  have := BK (Z ++ Q.take i) (P.drop (i + 1) ++ (M ++ P.take i)) (Q.drop (i + 1) ++ Y) P[i] Q[i]
  rw [← e1, ← e2] at this
  have l1 : (Z ++ Q.take i).length = Z.length + i := by simp; omega
  have l2 : (P.drop (i + 1) ++ (M ++ P.take i)).length = n - (i + 1) + M.length + i := by simp; omega
  rw [l1, l2] at this
  rw [← this]
  congr 1
  omega
theorem Ff (Z P M Q Y : List ac) : eD Z P M Q Y 0 = Z ++ (P ++ (M ++ (Q ++ Y))) := by simp [eD]
theorem Fe (Z P M Q Y : List ac) (n : Nat) (d : P.length = n) (hQ : Q.length = n) : eD Z P M Q Y n = Z ++ (Q ++ (M ++ (P ++ Y))) := by
  unfold eD
  rw [Gr (by omega), Hs (by omega), Gr (by omega), Hs (by omega)]
  simp
end Go.Proofs.YtpobkmjicbobdaaGreat
