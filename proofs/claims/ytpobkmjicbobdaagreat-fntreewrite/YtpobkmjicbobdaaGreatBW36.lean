/- Walks. -/
import Derived.Shelf.GgClosure.Gives
import Derived.Test.YtpobkmjicbobdaaGreatBW35
import Derived.Ground.SlsfProg
namespace Go.Proofs.YtpobkmjicbobdaaGreat
set_option maxRecDepth 100000
set_option maxHeartbeats 40000000
open Go.RowKit Go.Shelf Go.Sort
variable {A B L M:List ac} {S:List Int} {V:List (List af)} {a b x:ac} {bs g k n:Nat} {ok:Bool} {q:Int} {w w':World}
instance decRun:DecidableEq af:=instDecidableEqProd
theorem jt {α:Type} {d e:List α} {x y:α} (h1:d[k]?=some x) (h2:e[k]?=some y) (hs:x=y) (h:d.take k=e.take k):d.take (k+1)=e.take (k+1):=by
 subst hs;rw [Hc,Hc,h1,h2,h]
theorem qJ {α:Type} {d B2:List α} {x y:α} (h1:d[k]?=some x) (h2:B2[k]?=some y) (hs:¬x=y):¬d=B2:=by
 rintro rfl;rw [h1] at h2;cases h2;exact hs rfl
theorem pb {m e:Int} {d:List ac}:km m L e d=decide (((L,m):af)=(d,e)):=by
 unfold km;by_cases h1:m=e <;> by_cases h2:L=d <;> simp [h1,h2]
theorem AA (K Q:Nat) (a1 a2:Option Addr) (t c1 n2 c2:Nat) (N O:List af) (w:World) (h1:aw K w a1 t c1 N) (h2:aw Q w a2 n2 c2 O) :
 Calls Tryz.prog 139 #[.slice a1 t c1,.slice a2 n2 c2,.func (.func 140) #[] #[]] w fun e w'=>e=.returned (.bool (decide (N=O)))∧Bl w w':=by
 have r:=az h1.length;have C:=az h2.length;have a4:=h1.room;have d:=h1.big;have a3:=h2.room;have U:=h2.big;unfold maxLen at d U;have X:=az h1;have Y:=az h2;have eg:∀args w,(callFunc 140 args).run Tryz.prog w=.ok (.enter 140 args) w:=enters_of Tryz.func140 (by kernel_rfl) rfl;by_cases hn:t=n2
 · subst hn;go_enter Tryz.func139,Tryz.ntmps139
   go_wp2;go_loopw [17] (fun i wr=>∃k:Nat,k≤t∧i=iT k∧Bl w wr∧N.take k=O.take k) (fun i _=>t - (intOf i).toNat)
   case atStart=>exact ⟨0,GQ _,rfl,Below.refl _ _,rfl⟩
   case round =>
    obtain ⟨k,hk,rfl,hb,J⟩:=hrel;have E:=az J;by_cases y:k<t
    · obtain ⟨x1,o1,rfl,T⟩:=X.o.form (by omega);obtain ⟨x2,o2,rfl,H⟩:=Y.o.form (by omega);obtain ⟨L,m,s,n,c,hg,_,g0,g1,hL⟩:=X.o.run hb k y;obtain ⟨I,m',s',n',c',R,_,q0,q1,u⟩:=Y.o.run hb k y;have W:=az hg;have D:=az R;have Z:(k:Int)<(t:Int):=by omega
      have y1:=E' T hb.size;have y2:=E' H hb.size;have f:Bl wr ((wr.alloc (.cells #[.slice s n c,iT m] 63)).alloc (.cells #[.slice s' n' c',iT m'] 63)):=bZ.alloc (by simp) _;obtain ⟨q,hq⟩:∃q,decide (((L,m):af)=(I,m'))=q:=⟨_,rfl⟩;have F:=az hq;cases q with
      | true =>
       go_wp2_with (go_at_fn 140;refine (pq _ _ _ _ _ _ _ _ L I _ (hL.1.keep f) (u.1.keep f)).mono ?_;rw [pb,F.o];rintro e w1 ⟨rfl,d⟩)
       go_roundw
       case rel=>exact ⟨k+1,by omega,by go_num,hb.trans ((f.trans (d.mono f.size)).mono hb.size),jt W.o D.o (of_decide_eq_true F.o) E.o⟩
       case measure=>simp [intOf];omega
      | false =>
       go_wp2_with (go_at_fn 140;refine (pq _ _ _ _ _ _ _ _ L I _ (hL.1.keep f) (u.1.keep f)).mono ?_;rw [pb,F.o];rintro e w1 ⟨rfl,d⟩)
       go_ret;exact ⟨aj (decide_eq_false (qJ W.o D.o (of_decide_eq_false F.o))).symm,hb.trans ((f.trans (d.mono f.size)).mono hb.size)⟩
    · go_wp2;go_ret;refine ⟨aj (decide_eq_true ?_).symm,hb⟩;have:=E.o;rw [GV (by rw [r.o];omega),GV (by rw [C.o];omega)] at this;exact this
 · go_enter Tryz.func139,Tryz.ntmps139
   go_wp2;go_ret;refine ⟨aj (decide_eq_false ?_).symm,Below.refl _ _⟩;intro e;rw [e,C.o] at r;exact hn r.o.symm
theorem jV (d f:Nat) (a1 a2:Option Addr) (s c1 n2 c2:Nat) (m r:List af) (w:World) (h1:aw d w a1 s c1 m) (h2:aw f w a2 n2 c2 r) :
 Calls Tryz.prog 81 #[.slice a1 s c1,.slice a2 n2 c2] w fun e w'=>e=.returned (.bool (decide (m=r)))∧Bl w w':=by
 go_enter Tryz.func81,Tryz.ntmps81
 go_wp2_with (go_at_call 139;refine (AA d f _ _ _ _ _ _ m r _ h1 h2).mono ?_;rintro e t ⟨rfl,o⟩)
 go_ret;exact ⟨rfl,o⟩
theorem wE (f t:Nat) (a1 a2:Option Addr) (r c1 n2 c2:Nat) (O R:List (List af)) (w:World) (h1:cF f w a1 r c1 O) (h2:cF t w a2 n2 c2 R) :
 Calls Tryz.prog 80 #[.slice a1 r c1,.slice a2 n2 c2,.func (.func 81) #[] #[]] w fun e w'=>e=.returned (.bool (decide (O=R)))∧Bl w w':=by
 have m:=az h1.length;have y:=az h2.length;have a0:=h1.room;have d:=h1.big;have Z:=h2.room;have Q:=h2.big;unfold maxLen at d Q;have U:=az h1;have X:=az h2;have eg:∀args w,(callFunc 81 args).run Tryz.prog w=.ok (.enter 81 args) w:=enters_of Tryz.func81 (by kernel_rfl) rfl;by_cases hn:r=n2
 · subst hn;go_enter Tryz.func80,Tryz.ntmps80
   go_wp2;go_loopw [17] (fun i wr=>∃k:Nat,k≤r∧i=iT k∧Bl w wr∧O.take k=R.take k) (fun i _=>r - (intOf i).toNat)
   case atStart=>exact ⟨0,GQ _,rfl,Below.refl _ _,rfl⟩
   case round =>
    obtain ⟨k,hk,rfl,hb,J⟩:=hrel;have D:=az J;by_cases u:k<r
    · obtain ⟨x1,o1,rfl,N⟩:=U.o.form (by omega);obtain ⟨x2,o2,rfl,H⟩:=X.o.form (by omega);obtain ⟨B,s,n,c,hg,g0,hL⟩:=U.o.level hb k u;obtain ⟨I,s',n',c',K,q0,E⟩:=X.o.level hb k u;have T:=az hg;have C:=az K;have W:(k:Int)<(r:Int):=by omega
      have y1:=E' N hb.size;have y2:=E' H hb.size;obtain ⟨q,hq⟩:∃q,decide (B=I)=q:=⟨_,rfl⟩;have F:=az hq;cases q with
      | true =>
       go_wp2_with (go_at_fn 81;refine (jV f t _ _ _ _ _ _ B I _ hL E).mono ?_;rw [F.o];rintro e Y ⟨rfl,d⟩)
       go_roundw
       case rel=>exact ⟨k+1,by omega,by go_num,hb.trans ((d).mono hb.size),jt T.o C.o (of_decide_eq_true F.o) D.o⟩
       case measure=>simp [intOf];omega
      | false =>
       go_wp2_with (go_at_fn 81;refine (jV f t _ _ _ _ _ _ B I _ hL E).mono ?_;rw [F.o];rintro e Y ⟨rfl,d⟩)
       go_ret;exact ⟨aj (decide_eq_false (qJ T.o C.o (of_decide_eq_false F.o))).symm,hb.trans ((d).mono hb.size)⟩
    · go_wp2;go_ret;refine ⟨aj (decide_eq_true ?_).symm,hb⟩;have:=D.o;rw [GV (by rw [m.o];omega),GV (by rw [y.o];omega)] at this;exact this
 · go_enter Tryz.func80,Tryz.ntmps80
   go_wp2;go_ret;refine ⟨aj (decide_eq_false ?_).symm,Below.refl _ _⟩;intro e;rw [e,y.o] at m;exact hn m.o.symm
theorem AW (D K:Nat) (a1 a2:Option Addr) (f c1 n2 c2:Nat) (F J:List Int) (w:World) (h1:bJ D w a1 f c1 F) (h2:bJ K w a2 n2 c2 J) :
 Calls Tryz.prog 82 #[.slice a1 f c1,.slice a2 n2 c2] w fun e w'=>e=.returned (.bool (decide (F=J)))∧Bl w w':=by
 have d:=az h1.length;have r:=az h2.length;have X:=h1.room;have I:=h1.big;have U:=h2.room;have H:=h2.big;unfold maxLen at I H;have Q:=az h1;have T:=az h2;by_cases hn:f=n2
 · subst hn;go_enter Tryz.func82,Tryz.ntmps82
   go_wp2;go_loopw [13] (fun i wr=>∃k:Nat,k≤f∧i=iT k∧Bl w wr∧F.take k=J.take k) (fun i _=>f - (intOf i).toNat)
   case atStart=>exact ⟨0,GQ _,rfl,Below.refl _ _,rfl⟩
   case round =>
    obtain ⟨k,hk,rfl,hb,y⟩:=hrel;have t:=az y;by_cases m:k<f
    · obtain ⟨x1,o1,rfl,E⟩:=Q.o.form (by omega);obtain ⟨x2,o2,rfl,u⟩:=T.o.form (by omega);obtain ⟨q,hg,_,Z⟩:=Q.o.num hb k m;obtain ⟨O,C,_,Y⟩:=T.o.num hb k m;have N:=az hg;have s:=az C;have R:(k:Int)<(f:Int):=by omega
      have y1:=E' E hb.size;have y2:=E' u hb.size;by_cases hq:q=O
      · subst hq;go_wp2_with fail
        go_quiet (fail)
        go_wp2;go_roundw
        case rel=>exact ⟨k+1,by omega,by go_num,below_drewN hb _,jt N.o s.o rfl t.o⟩
        case measure=>simp [intOf];omega
      · have W:=az hq;have hd:(q == O)=false:=by simpa using hq
        go_wp2_with fail
        go_quiet (fail)
        go_wp2;go_ret;exact ⟨aj (decide_eq_false (qJ N.o s.o W.o)).symm,below_drewN hb _⟩
    · go_wp2;go_ret;refine ⟨aj (decide_eq_true ?_).symm,hb⟩;have:=t.o;rw [GV (by rw [d.o];omega),GV (by rw [r.o];omega)] at this;exact this
 · go_enter Tryz.func82,Tryz.ntmps82
   go_wp2;go_ret;refine ⟨aj (decide_eq_false ?_).symm,Below.refl _ _⟩;intro e;rw [e,r.o] at d;exact hn d.o.symm
def gy (q:Int) (M:List ac) (V:List (List af)) (S:List Int) (q':Int) (M':List ac) (V':List (List af)) (S':List Int):Bool:=decide (q=q') && (decide (M=M') && (decide (V=V') && decide (S=S')))
theorem jH (q H:Int) (F I:Nat) (am av Y:Option Addr) (nm cm U cv O cs:Nat) (E y d:Option Addr) (D C r t s f:Nat) (M:List ac) (V:List (List af)) (S:List Int) (Q:List ac) (X:List (List af)) (Z:List Int) (w:World) (h1:aZ F w am nm cm av U cv Y O cs M V S) (h2:aZ I w E D C y r t d s f Q X Z) :
 Calls Tryz.prog 24 #[.agg #[iT q,.slice am nm cm,.slice av U cv,.slice Y O cs],.agg #[iT H,.slice E D C,.slice y r t,.slice d s f]] w fun e w'=>e=.returned (.bool (gy q M V S H Q X Z))∧Bl w w':=by
 obtain ⟨W,J⟩:=aG ((w.alloc (.cells #[iT q,.slice am nm cm,.slice av U cv,.slice Y O cs] 31)).alloc (.cells #[iT H,.slice E D C,.slice y r t,.slice d s f] 31));have hB:Bl w W:=by rw [J];exact bZ.alloc (by simp) _
 have x2:W.cell? ⟨w.heap.size,2,none⟩=some (.slice av U cv):=by rw [J];simp
 have R:W.cell? ⟨w.heap.size,3,none⟩=some (.slice Y O cs):=by rw [J];simp
 have y2:W.cell? ⟨w.heap.size+1,2,none⟩=some (.slice y r t):=by rw [J];simp
 have T:W.cell? ⟨w.heap.size+1,3,none⟩=some (.slice d s f):=by rw [J];simp
 have H1:=az (h1.keep hB);have H2:=az (h2.keep hB);have K:=az hB;obtain ⟨bM,hM⟩:∃b,decide (M=Q)=b:=⟨_,rfl⟩;obtain ⟨bV,hV⟩:∃b,decide (V=X)=b:=⟨_,rfl⟩;obtain ⟨bS,hS⟩:∃b,decide (S=Z)=b:=⟨_,rfl⟩;have CM:Eq (∀w',Bl W w'→Calls Tryz.prog 79 #[.slice am nm cm,.slice E D C] w' fun e m=>e=.returned (.bool bM)∧Bl w' m):=by rw [← hM];exact fun w' k=>tU _ _ _ _ _ _ M Q w' (H1.o.keep k).mem.1 (H2.o.keep k).mem.1
 have CV:Eq (∀w',Bl W w'→Calls Tryz.prog 80 #[.slice av U cv,.slice y r t,.func (.func 81) #[] #[]] w' fun e m=>e=.returned (.bool bV)∧Bl w' m):=by rw [← hV];exact fun w' k=>wE F I _ _ _ _ _ _ V X w' (H1.o.keep k).levels (H2.o.keep k).levels
 have CS:Eq (∀w',Bl W w'→Calls Tryz.prog 82 #[.slice Y O cs,.slice d s f] w' fun e m=>e=.returned (.bool bS)∧Bl w' m):=by rw [← hS];exact fun w' k=>AW F I _ _ _ _ _ _ S Z w' (H1.o.keep k).snaps (H2.o.keep k).snaps
 have HR:Eq (gy q M V S H Q X Z=(decide (q=H) && (bM && (bV && bS)))):=by rw [← hM,← hV,← hS];rfl
 rw [HR.o];by_cases hq:q=H
 · subst hq;go_enter Tryz.func24,Tryz.ntmps24
   go_wp2_with fail
   rw [← J];refine (CM.o _ (Below.refl _ _)).mono ?_;rintro e w1 ⟨rfl,u⟩;have x2:=cell_later u x2;have R:=cell_later u R;have y2:=cell_later u y2;have T:=cell_later u T;have z1:=GK _ _ x2;have z2:=GK _ _ y2;simp only at z1 z2;have K1:=az u;cases bM with
   | false =>
    go_wp2;go_ret;exact ⟨aj (by simp),K.o.trans (K1.o.mono K.o.size)⟩
   | true =>
    go_wp2_with fail
    refine (CV.o _ K1.o).mono ?_;rintro e w2 ⟨rfl,N⟩;have R:=cell_later N R;have T:=cell_later N T;have z1:=GK _ _ R;have z2:=GK _ _ T;simp only at z1 z2;have K2:=az (K1.o.trans (N.mono K1.o.size));cases bV with
    | false =>
     go_wp2;go_ret;exact ⟨aj (by simp),K.o.trans (K2.o.mono K.o.size)⟩
    | true =>
     go_wp2_with fail
     refine (CS.o _ K2.o).mono ?_;rintro e w3 ⟨rfl,ag⟩;have K3:=az (K2.o.trans (ag.mono K2.o.size));go_wp2;go_ret;exact ⟨aj (by simp),K.o.trans (K3.o.mono K.o.size)⟩
 · have hd:(q == H)=false:=by simpa using hq
   have HQ:=az hq;go_enter Tryz.func24,Tryz.ntmps24
   go_wp2;go_ret;rw [← J];exact ⟨aj (by simp [HQ.o]),K.o⟩
def Fa (q2:Int) (M2:List ac) (V2:List (List af)) (S2:List Int) (ok:Bool) (w:World) (e:Ending) (w':World):Prop:=∃a1 n1 k1 a2 n2 k2 a3 n3 k3,e=.returned (.tuple #[.agg #[iT q2,.slice a1 n1 k1,.slice a2 n2 k2,.slice a3 n3 k3],.bool ok])∧aZ 0 w' a1 n1 k1 a2 n2 k2 a3 n3 k3 M2 V2 S2∧Bl w w'
theorem pF.tupT {e:Ending} (h:pF q M V S ok w e w') (hw:∀z ∈ S,(Lit.int .i64 z).wf=true):Fa q M V S ok w e w':=by
 obtain ⟨f,m,u,d,t,s,o,bs,r,rfl,hR,hb⟩:=h;exact ⟨_,_,_,_,_,_,_,_,_,rfl,hR.treeIn hw,hb⟩
theorem Em.tupT {e:Ending} (h:Em q M V S ok w e w'):Fa q M V S ok w e w':=by
 obtain ⟨f,m,o,u,d,s,t,r,cs,rfl,hR,hb⟩:=h;exact ⟨_,_,_,_,_,_,_,_,_,rfl,hR,hb⟩
theorem iS (q:Int) (M:List ac) (V:List (List af)) (S:List Int):gy q M V S q M V S=true:=by simp [gy]
theorem uY {f:Array Oper} {rest:List Oper} {o:Oper} {a:Act} {w:World} {Q:Exit→Act→World→Prop} (e:o.guard=none) (s x:Operand)
 (ho:o.op=.call { callee:=.builtin .append,args:=#[s,x],argTypes:=#[28,28] })
 (base base' g n c:Nat) (X:List ac) (hs:a.eval s=sL g n c) (hO:ag w base g n c X) (ax:Option Addr) (m cx:Nat) (M:List ac) (hx:a.eval x=.slice ax m cx) (hM:cE w base' ax m cx M) (hn:n≤1048576) (hm:m≤1048576) (k:Nat) (hk:k=n+m)
 (h:∀r c' w',ag w' base r k c' (X++M)→w.grownBy w' (some g)→wpList Tryz.prog f Q rest (a.put o.dst (sL r k c')) w'):wpList Tryz.prog f Q (o :: rest) a w:=by
 subst hk;obtain ⟨i0,hi,u,y,t⟩:=info_parts Tryz.infoEnt;cases ax with
 | none =>
  obtain ⟨rfl,rfl,rfl⟩:=hM.nil rfl;refine wpList_append_own_none e s x 28 ho base 50 i0 5 Tryz.underlying28 hi _ n (aF X) hs hO.owns hx ?_;have:=h g c w (by simpa using hO) (World.grownBy.refl _ _);simpa using this
 | some E =>
  obtain ⟨D,rfl,hE⟩:=hM.own E rfl;refine wpList_append_own_at _ e s x 28 ho base 50 i0 _ 5 56 Tryz.underlying28 hi u y t rfl (by decide) _ n (aF X) hs hO.owns ⟨D,0,none⟩ m cx (aF M) hx (by rw [aX,hE.len]) (ch hE.entsAt) (bf _) (by unfold maxLen;omega) (by omega) (by have:=hO.lt;omega) ?_;intro C w' hown hgrow hnil hat;obtain ⟨r,c',rfl⟩:∃g d,C=sL g (n+m) d:=by
   rcases hown.2 with ⟨hv,h0⟩ | ⟨g,d,_,rfl,_⟩
   · have:=(hnil.1 hv).1;cases this
   · exact ⟨g,d,rfl⟩
  refine h r c' w' ⟨by rw [bC];exact hown,by rw [GO,hO.len,hE.len],fun l hl=>?_⟩ (by simpa [Value.ownBlock] using hgrow);rcases GX.1 hl with h1 | h1
  · exact hO.ents l h1
  · exact hE.ents l h1
theorem F0 (i:Nat) (j:Nat) (d:j<5):(i*5+j) / 5=i∧(i*5+j) % 5=j:=by omega
theorem wP (x:ac):(bi x)[0]! = .string x.1∧(bi x)[1]! = iT x.2.1∧(bi x)[2]! = iT x.2.2.1∧(bi x)[3]! = .string x.2.2.2.1∧(bi x)[4]! = iT x.2.2.2.2:=⟨rfl,rfl,rfl,rfl,rfl⟩
theorem qY {base c:Nat} (hO:ag w base g n c L):HoldsK bi 5 w g 0 L.toArray:=by
 intro t f;rw [size_flatK] at f;have hl:=hO.len;have d:t / 5<L.length:=by simp at f;omega
 refine ⟨?_,by rw [GT];exact hO.owns.frozenAt _⟩;rw [get_flatK _ _ _ _ f];obtain ⟨c0,c1,m,c3,c4⟩:=hO.entsAt.cells _ rfl (t / 5) d;have e:(L.toArray)[t / 5]! = L[t / 5]:=by simp [d]
 rw [e];obtain ⟨z0,r,o,z3,z4⟩:=wP L[t / 5];have hm:t % 5<5:=Nat.mod_lt _ (by omega);have s:t=t / 5*5+t % 5:=by omega
 rcases (show t % 5=0∨t % 5=1∨t % 5=2∨t % 5=3∨t % 5=4 by omega) with h | h | h | h | h
 · rw [h,z0];rw [show (0:Nat)+t=0+t / 5*5 by omega];exact c0
 · rw [h,r];rw [show (0:Nat)+t=0+t / 5*5+1 by omega];exact c1
 · rw [h,o];rw [show (0:Nat)+t=0+t / 5*5+2 by omega];exact m
 · rw [h,z3];rw [show (0:Nat)+t=0+t / 5*5+3 by omega];exact c3
 · rw [h,z4];rw [show (0:Nat)+t=0+t / 5*5+4 by omega];exact c4
theorem yY {D:Array ac} (h:HoldsK bi 5 w g 0 D) (i:Nat) (hi:i<D.toList.length):li w g (0+i*5) D.toList[i]:=by
 have hi':i<D.size:=by simpa using hi
 have e:D[i]! = D.toList[i]:=by simp [hi']
 have key:∀j,j<5→w.cell? ⟨g,0+i*5+j,none⟩=some ((bi D.toList[i])[j]!):=fun j f=>by
  have d:i*5+j<D.size*5:=by omega
  have:=(h (i*5+j) (by rw [size_flatK];exact d)).1;rw [get_flatK _ _ _ _ d,(F0 i j f).1,(F0 i j f).2,e] at this;rw [IV];exact this
 obtain ⟨z0,o,m,z3,z4⟩:=wP D.toList[i];exact ⟨by rw [← z0];exact key 0 (by omega),by rw [← o];exact key 1 (by omega),by rw [← m];exact key 2 (by omega),by rw [← z3];exact key 3 (by omega),by rw [← z4];exact key 4 (by omega)⟩
theorem ng {m:Array Obj} (d:Array ac):w.grownBy (sortWorldK bi 5 w g 0 n d m) (some g):=by
 unfold sortWorldK putRowK;refine ⟨rfl,rfl,rfl,by simp,fun k hk f=>?_⟩;rw [heap_grow_old _ _ (by simpa using hk)];have:g≠k:=fun e=>f (by rw [e])
 simp [putRow,mapBlock,Sort.ahead,Array.getElem?_modify,this]
def Tryz.insL_ren : Go.Shelf.Ren := ⟨fun | 20 => 213 | n => n, fun | 24 => 50 | 22 => 28 | 3 => 3 | 25 => 118 | 4 => 4 | 0 => 0 | n => n, fun | n => n⟩
theorem Tryz.insL : Go.Proofs.SlLaysF0.n20 Tryz.prog Tryz.insL_ren := {
  mixed := by kernel_rfl
  f20 := ⟨Tryz.f213.name, by decide, Tryz.func213.trans (congrArg some (by kernel_rfl))⟩
  t0 := Tryz.underlying0
  a0 := Tryz.isAgg0
  z0 := Tryz.sizeOf0
  v0 := Tryz.zeroValue0
  t3 := Tryz.underlying3
  a3 := Tryz.isAgg3
  z3 := Tryz.sizeOf3
  v3 := Tryz.zeroValue3
  t4 := Tryz.underlying4
  a4 := Tryz.isAgg4
  z4 := Tryz.sizeOf4
  v4 := Tryz.zeroValue4
  t22 := Tryz.underlying28
  a22 := Tryz.isAgg28
  z22 := Tryz.sizeOf28
  v22 := Tryz.zeroValue28
  t25 := Tryz.underlying118
  a25 := Tryz.isAgg118
  z25 := Tryz.sizeOf118
  v25 := Tryz.zeroValue118 }
theorem EQ (s C E o:ByteArray) (f u r d y t:Int) (w:World) :
 Calls Tryz.prog 112 #[.agg #[.string s,iT f,iT u,.string C,iT r],.agg #[.string E,iT d,iT y,.string o,iT t]] w fun e w'=>e=.returned (iT (Lib.compareInt f d))∧∃q m,w'=grow (w.drewN q) m:=by
 obtain ⟨D,hD⟩:=aG (Lib.compareInt f d);have F:∀w,Calls Tryz.prog 170 #[iT f,iT d] w fun e w'=>e=.returned (iT D)∧w'=w:=by rw [hD];exact jG f d
 rw [← hD];clear hD;go_enter Tryz.func112,Tryz.ntmps112
 go_wp2_with fail
 refine (F _).mono ?_;rintro e w' ⟨rfl,rfl⟩;go_wp2;go_ret;refine ⟨rfl,0,#[.cells #[.string s,iT f,iT u,.string C,iT r] 50,.cells #[.string E,iT d,iT y,.string o,iT t] 50],?_⟩;rw [sc,sc,grow_grow];rfl
def zt (x y:ac):Int:=Lib.compareInt x.2.1 y.2.1
theorem Fz:ltOf zt=yx:=by
 funext x y
 unfold ltOf zt yx Lib.compareInt;by_cases h:x.2.1<y.2.1
 · simp [h]
 · by_cases h2:x.2.1 > y.2.1 <;> simp [h,h2]
/-! Two rows in order made one, the first ahead where times are alike. -/
def f9 : List ac → List ac → List ac
  | [], B => B
  | a :: A, [] => a :: A
  | a :: A, b :: B => if b.2.1 < a.2.1 then b :: f9 (a :: A) B else a :: f9 A (b :: B)
termination_by A B => A.length + B.length
theorem fp (B : List ac) : f9 [] B = B := by rw [f9]
theorem ep : ∀ A : List ac, f9 A [] = A
  | [] => by rw [f9]
  | a :: A => by rw [f9]
theorem fX (h : b.2.1 < a.2.1) : f9 (a :: A) (b :: B) = b :: f9 (a :: A) B := by rw [f9, if_pos h]
theorem fY (h : ¬ b.2.1 < a.2.1) : f9 (a :: A) (b :: B) = a :: f9 A (b :: B) := by rw [f9, if_neg h]
theorem uA : ∀ (A B : List ac), (f9 A B).length = A.length + B.length
  | [], B => by rw [fp]; simp
  | a :: A, [] => by rw [ep]; simp
  | a :: A, b :: B => by
    by_cases h : b.2.1 < a.2.1
    · rw [fX h, Hn, uA (a :: A) B]; simp; omega
    · rw [fY h, Hn, uA A (b :: B)]; simp; omega
termination_by A B => A.length + B.length
theorem mZ : ∀ (A B : List ac), (f9 A B).Perm (A ++ B)
  | [], B => by rw [fp]; simp
  | a :: A, [] => by rw [ep]; simp
  | a :: A, b :: B => by
    by_cases h : b.2.1 < a.2.1
    · rw [fX h]; exact ((mZ (a :: A) B).cons b).trans List.perm_middle.symm
    · rw [fY h]; exact (mZ A (b :: B)).cons a
termination_by A B => A.length + B.length
theorem gF : ∀ (f d o e : List ac), (∀ a ∈ f, ∀ b ∈ e, ¬ b.2.1 < a.2.1) → (∀ b ∈ o, ∀ a ∈ d, b.2.1 < a.2.1) → f9 (f ++ d) (o ++ e) = f9 f o ++ f9 d e
  | [], d, [], e, _, _ => by simp [fp]
  | [], [], b :: o, e, _, _ => by simp [fp]
  | [], a :: d, b :: o, e, h1, h2 => by
    have hb := h2 b Ha a Ha
    have m := gF [] (a :: d) o e h1 (fun x hx => h2 x (He _ hx))
    simp only [Ho, fp, Ht] at m ⊢
    rw [fX hb, m]
  | a :: f, d, [], [], _, _ => by simp [ep]
  | a :: f, d, [], b :: e, h1, h2 => by
    have hb := h1 a Ha b Ha
    have m := gF f d [] (b :: e) (fun x hx => h1 x (He _ hx)) h2
    simp only [Ho, ep, Ht] at m ⊢
    rw [fY hb, m]
  | a :: f, d, b :: o, e, h1, h2 => by
    by_cases h : b.2.1 < a.2.1
    · have m := gF (a :: f) d o e h1 (fun x hx => h2 x (He _ hx))
      simp only [Ht] at m ⊢
      rw [fX h, fX h, m]
      rfl
    · have m := gF f d (b :: o) e (fun x hx => h1 x (He _ hx)) h2
      simp only [Ht] at m ⊢
      rw [fY h, fY h, m]
      rfl
termination_by f _ o _ => f.length + o.length
theorem uy (x : ac) (d B2 : List ac) (h1 : ∀ b ∈ d, b.2.1 < x.2.1) (h2 : ∀ b ∈ B2, ¬ b.2.1 < x.2.1) : f9 [x] (d ++ B2) = d ++ x :: B2 := by
  have h := gF [] [x] d B2 (by simp) (fun b hb a ha => by simp only [G5] at ha; subst ha; exact h1 b hb)
  simp only [Ho, fp] at h
  rw [h]
  cases B2 with
  | nil => rw [ep]
  | cons b B2 => rw [fY (h2 b Ha), fp]
theorem sM (y : ac) (d A2 : List ac) (h1 : ∀ a ∈ d, ¬ y.2.1 < a.2.1) (h2 : ∀ a ∈ A2, y.2.1 < a.2.1) : f9 (d ++ A2) [y] = d ++ y :: A2 := by
  have h := gF d A2 [] [y] (fun a ha b hb => by simp only [G5] at hb; subst hb; exact h1 a ha) (by simp)
  simp only [Ho, ep] at h
  rw [h]
  cases A2 with
  | nil => rw [fp]
  | cons a A2 => rw [fX (h2 a Ha), ep]
def Asc (A : List ac) : Prop := A.Pairwise (fun a b => a.2.1 ≤ b.2.1)
theorem fm {e: ac} (h : Asc (x :: M)) (f : e.2.1 < x.2.1) : fG (x :: M) e = e :: x :: M := by
  have h1 := Hb.1 h
  have d : ∀ y ∈ x :: M, e.2.1 < y.2.1 := fun y hy => by
    rcases GZ.1 hy with rfl | hy
    · exact f
    · have := h1.1 y hy; omega
  have := mW (A := []) (B := x :: M) d
  simp only [Ho] at this
  rw [this]
  simp [fG, lA]
theorem vT {x : ac} {M : List ac} {q : Int} (hx : ¬ q < x.2.1) : ∀ k, k ≤ M.length → lA (x :: M) q (k + 1) = lA M q k + 1
  | 0, _ => by simp [lA, hx]
  | k + 1, hk => by
    have hm := j' (show k < M.length from hk)
    have h1 : (x :: M)[k + 1]? = some M[k] := by simp
    have e1 : lA (x :: M) q (k + 1 + 1) = if q < M[k].2.1 then lA (x :: M) q (k + 1) else k + 1 + 1 := by rw [lA, h1]
    have e2 : lA M q (k + 1) = if q < M[k].2.1 then lA M q k else k + 1 := by rw [lA, hm]
    rw [e1, e2]
    by_cases hc : q < M[k].2.1
    · rw [if_pos hc, if_pos hc]; exact vT hx k (by omega)
    · rw [if_neg hc, if_neg hc]
theorem eT {e: ac} (d : ¬ e.2.1 < x.2.1) : fG (x :: M) e = x :: fG M e := by
  unfold fG
  rw [Hn, vT d M.length (GL _)]
  simp
theorem pK : ∀ {A B : List ac}, Asc A → Asc B → Asc (f9 A B)
  | [], B, _, hB => by rw [fp]; exact hB
  | a :: A, [], hA, _ => by rw [ep]; exact hA
  | a :: A, b :: B, hA, hB => by
    have a1 := Hb.1 hA
    have b1 := Hb.1 hB
    by_cases h : b.2.1 < a.2.1
    · rw [fX h]
      refine Hb.2 ⟨fun y hy => ?_, pK hA b1.2⟩
      rcases GX.1 ((mZ _ _).mem_iff.1 hy) with hy | hy
      · rcases GZ.1 hy with rfl | hy
        · omega
        · have := a1.1 y hy; omega
      · exact b1.1 y hy
    · rw [fY h]
      refine Hb.2 ⟨fun y hy => ?_, pK a1.2 hB⟩
      rcases GX.1 ((mZ _ _).mem_iff.1 hy) with hy | hy
      · exact a1.1 y hy
      · rcases GZ.1 hy with rfl | hy
        · omega
        · have := b1.1 y hy; omega
termination_by A B => A.length + B.length
theorem kJ (e : ac) : ∀ {A B : List ac}, Asc A → Asc B → fG (f9 A B) e = f9 A (fG B e)
  | [], B, _, _ => by rw [fp, fp]
  | a :: A, [], hA, _ => by
    have a1 := Hb.1 hA
    rw [ep]
    have : fG [] e = [e] := by simp [fG, lA]
    rw [this]
    by_cases h : e.2.1 < a.2.1
    · rw [fm hA h, fX h, ep]
    · rw [eT h, fY h]
      have o := kJ e a1.2 (B := []) List.Pairwise.nil
      rw [ep, this] at o
      rw [o]
  | a :: A, b :: B, hA, hB => by
    have a1 := Hb.1 hA
    have b1 := Hb.1 hB
    by_cases d : b.2.1 < a.2.1
    · by_cases f : e.2.1 < b.2.1
      · have hs := pK hA hB
        rw [fX d] at hs ⊢
        rw [fm hs f, fm hB f, fX (show e.2.1 < a.2.1 by omega), fX d]
      · rw [fX d, eT f, eT f, fX d, kJ e hA b1.2]
    · by_cases f : e.2.1 < b.2.1
      · rw [fm hB f]
        by_cases m : e.2.1 < a.2.1
        · have hs := pK hA hB
          rw [fY d] at hs ⊢
          rw [fm hs m, fX m, fY d]
        · rw [fY d, eT m, fY m, kJ e a1.2 hB, fm hB f]
      · rw [fY d, eT (show ¬ e.2.1 < a.2.1 by omega), eT f, fY d, kJ e a1.2 hB, eT f]
termination_by A B => A.length + B.length
theorem D0 (A : List ac) : ∀ B : List ac, bH (A ++ B) = f9 (bH A) (bH B) := by
  have key : ∀ n (B : List ac), B.length = n → bH (A ++ B) = f9 (bH A) (bH B) := by
    intro n
    induction n with
    | zero => intro B h; rw [Hy] at h; subst h; simp [bH, ep]
    | succ n e =>
      intro B h
      obtain ⟨d, x, rfl⟩ : ∃ d x, B = d ++ [x] := ⟨B.dropLast, B.getLast (by intro h0; simp [h0] at h), (List.dropLast_concat_getLast _).symm⟩
      simp at h
      rw [← Hd, lO, lO, e d h, kJ x (fe A) (fe d)]
  exact fun B => key _ B rfl
/-! Rows of so many, each in order. -/
def E3 (bs : Nat) : Nat → List ac → List ac
  | 0, L => bH L
  | f + 1, L => if L.length ≤ bs then bH L else bH (L.take bs) ++ E3 bs f (L.drop bs)
theorem wV {bs : Nat} (hb : 1 ≤ bs) : ∀ (f d : Nat) (L : List ac), L.length ≤ f → L.length ≤ d → E3 bs f L = E3 bs d L
  | 0, 0, L, _, _ => rfl
  | 0, d + 1, L, h, _ => by
    have : L.length ≤ bs := by omega
    simp [E3, this]
  | f + 1, 0, L, _, h => by
    have : L.length ≤ bs := by omega
    simp [E3, this]
  | f + 1, d + 1, L, h, h' => by
    simp only [E3]
    by_cases hl : L.length ≤ bs
    · rw [if_pos hl, if_pos hl]
    · rw [if_neg hl, if_neg hl, wV hb f d (L.drop bs) (by simp; omega) (by simp; omega)]
def jU (bs : Nat) (L : List ac) : List ac := E3 bs L.length L
theorem jN {bs : Nat} {L : List ac} (h : L.length ≤ bs) : jU bs L = bH L := by
  unfold jU
  match hl : L.length with
  | 0 => rfl
  | n + 1 => rw [E3, if_pos (by omega)]
theorem rZ (hb : 1 ≤ bs) (L : List ac) : jU bs L = bH (L.take bs) ++ jU bs (L.drop bs) := by
  by_cases d : L.length ≤ bs
  · rw [jN d, GV d, Iz d, jN (by simp)]
    simp [bH]
  · unfold jU
    obtain ⟨n, hn⟩ : ∃ n, L.length = n + 1 := ⟨L.length - 1, by omega⟩
    rw [hn, E3, if_neg d, wV hb n (L.drop bs).length (L.drop bs) (by simp; omega) (GL _)]
theorem zT (bs : Nat) (R : List ac) : f9 (bH (R.take bs)) (bH (R.drop bs)) = bH R := by
  rw [← D0, Hh]
/-! The steps of the library's stable sort, on plain rows. -/
theorem Ci (d e f : List ac) (p q : ac) : Sort.swp (d ++ p :: (e ++ q :: f)).toArray d.length (d.length + 1 + e.length) = (d ++ q :: (e ++ p :: f)).toArray := by
  unfold Sort.swp
  apply Array.ext'
  have e1 : (d ++ p :: (e ++ q :: f))[d.length + 1 + e.length]? = some q := by
    rw [GR (by omega), show d.length + 1 + e.length - d.length = e.length + 1 by omega]
    simp
  have m : ((d ++ p :: (e ++ q :: f)).toArray)[d.length + 1 + e.length]! = q := by simp [e1]
  have o : ((d ++ p :: (e ++ q :: f)).toArray)[d.length]! = p := by simp
  rw [m, o]
  simp only [IZ]
  rw [Iq _ _ (GL _), IW, IQ, Iq _ _ (by omega), show d.length + 1 + e.length - d.length = e.length + 1 by omega, IC, Iq _ _ (GL _), IW, IQ]
theorem Ex (Z D : List ac) (i j : Nat) (hi : i < D.length) (d : j < D.length) : Sort.swp (Z ++ D).toArray (Z.length + i) (Z.length + j) = (Z ++ (Sort.swp D.toArray i j).toList).toArray := by
  unfold Sort.swp
  apply Array.ext'
  have e1 : (Z ++ D)[Z.length + j]? = some D[j] := by rw [GR (by omega), Iu, j' d]
  have e0 : (Z ++ D)[Z.length + i]? = some D[i] := by rw [GR (by omega), Iu, j' hi]
  have e : ((Z ++ D).toArray)[Z.length + j]! = D[j] := by simp [e1]
  have f : ((Z ++ D).toArray)[Z.length + i]! = D[i] := by simp [e0]
  have h1 : (D.toArray)[j]! = D[j] := by simp [d]
  have h0 : (D.toArray)[i]! = D[i] := by simp [hi]
  rw [e, f, h1, h0]
  simp only [IZ]
  rw [Iq _ _ (by omega), Iu, Iq _ _ (by omega), Iu]
theorem vn (D : List ac) (i j : Nat) : (Sort.swp D.toArray i j).toList.length = D.length := by unfold Sort.swp; simp
theorem tE (Z : List ac) : ∀ (j : Nat) (D : List ac), j < D.length → Sort.insInner yx Z.length (Z.length + j) (Z ++ D).toArray = (Z ++ (Sort.insInner yx 0 j D.toArray).toList).toArray
  | 0, D, _ => by
    simp only [Ik, Sort.insInner]
    cases hz : Z.length with
    | zero => simp [Sort.insInner]
    | succ k => simp [Sort.insInner]
  | j + 1, D, d => by
    show Sort.insInner yx Z.length (Z.length + j + 1) (Z ++ D).toArray = _
    have e1 : (Z ++ D)[Z.length + j + 1]? = some D[j + 1] := by rw [GR (by omega), show Z.length + j + 1 - Z.length = j + 1 by omega, j' d]
    have e0 : (Z ++ D)[Z.length + j]? = some D[j] := by rw [GR (by omega), Iu, j']
    have e : ((Z ++ D).toArray)[Z.length + j + 1]! = D[j + 1] := by simp [e1]
    have m : ((Z ++ D).toArray)[Z.length + j]! = D[j] := by simp [e0]
    have h1 : (D.toArray)[j + 1]! = D[j + 1] := by simp [d]
    have h0 : (D.toArray)[j]! = D[j] := by simp [show j < D.length by omega]
    rw [Sort.insInner, Sort.insInner, e, m, h1, h0]
    by_cases hc : yx D[j + 1] D[j] = true
    · have hs : Sort.swp (Z ++ D).toArray (Z.length + j + 1) (Z.length + j) = (Z ++ (Sort.swp D.toArray (j + 1) j).toList).toArray := Ex Z D (j + 1) j d (by omega)
      have f := tE Z j (Sort.swp D.toArray (j + 1) j).toList (by rw [vn]; omega)
      rw [if_pos (by simp [hc]; omega), if_pos (by simp [hc]), hs, f]
    · rw [if_neg (by simp [hc]), if_neg (by simp [hc])]
theorem qT (lt : ac → ac → Bool) (a : Nat) : ∀ (j : Nat) (D : List ac), (Sort.insInner lt a j D.toArray).toList.length = D.length
  | 0, D => by simp [Sort.insInner]
  | j + 1, D => by
    rw [Sort.insInner]
    split
    · have := qT lt a j (Sort.swp D.toArray (j + 1) j).toList
      rw [vn] at this
      simpa using this
    · rfl
theorem AF (Z : List ac) (b : Nat) : ∀ (m i : Nat) (D : List ac), b - i = m → b ≤ D.length → Sort.insOuter yx Z.length (Z.length + b) (Z.length + i) (Z ++ D).toArray = (Z ++ (Sort.insOuter yx 0 b i D.toArray).toList).toArray := by
  intro m
  induction m with
  | zero =>
    intro i D hm hb
    rw [Sort.insOuter, if_neg (by omega), Sort.insOuter, if_neg (by omega)]
  | succ m d =>
    intro i D hm hb
    rw [Sort.insOuter, if_pos (by omega), tE Z i D (by omega)]
    conv => rhs; rw [Sort.insOuter, if_pos (show i < b by omega)]
    have := d (i + 1) (Sort.insInner yx 0 i D.toArray).toList (by omega) (by rw [qT]; exact hb)
    rw [show Z.length + i + 1 = Z.length + (i + 1) by omega, this]
theorem yp (L Y : List ac) : ∀ m i, L.length - i = m → i ≤ L.length → Sort.insOuter yx 0 L.length i (bH (L.take i) ++ (L.drop i ++ Y)).toArray = (bH L ++ Y).toArray := by
  intro m
  induction m with
  | zero =>
    intro i hm hi
    have : i = L.length := by omega
    subst this
    rw [Sort.insOuter, if_neg (by omega)]
    simp
  | succ m e =>
    intro i hm hi
    have d : i < L.length := by omega
    rw [Sort.insOuter, if_pos d, Ie d]
    have hl : (bH (L.take i)).length = i := by rw [fg]; simp; omega
    have := EN (bH (L.take i)) (L.drop (i + 1) ++ Y) L[i]
    rw [hl] at this
    simp only [Ht]
    rw [this, ← tY (j' d)]
    exact e (i + 1) (by omega) (by omega)
theorem Dt (Z X Y : List ac) : Sort.insertionSort yx (Z ++ (X ++ Y)).toArray Z.length (Z.length + X.length) = (Z ++ (bH X ++ Y)).toArray := by
  unfold Sort.insertionSort
  rw [AF Z X.length (X.length - 1) 1 (X ++ Y) rfl (by simp)]
  by_cases h : X.length = 0
  · rw [Hy] at h
    subst h
    rw [Sort.insOuter, if_neg (by simp)]
    simp [bH]
  · have h1 : bH (X.take 1) ++ (X.drop 1 ++ Y) = X ++ Y := by
      match X, h with
      | [], h => simp at h
      | x :: r, _ => simp [bH, fG, lA]
    have := yp X Y (X.length - 1) 1 rfl (by omega)
    rw [h1] at this
    rw [this]
def eO (Z P M Q Y : List ac) (i : Nat) : List ac := (Z ++ Q.take i) ++ (P.drop i ++ (M ++ (P.take i ++ (Q.drop i ++ Y))))
theorem ET (Z P M Q Y : List ac) (i n : Nat) (d : P.length = n) (hQ : Q.length = n) (hi : i < n) : Sort.swp (eO Z P M Q Y i).toArray (Z.length + i) (Z.length + n + M.length + i) = (eO Z P M Q Y (i + 1)).toArray := by
  have hp : i < P.length := by omega
  have hq : i < Q.length := by omega
  have e1 : eO Z P M Q Y i = (Z ++ Q.take i) ++ P[i] :: ((P.drop (i + 1) ++ (M ++ P.take i)) ++ Q[i] :: (Q.drop (i + 1) ++ Y)) := by
    unfold eO
    rw [Ie hp, Ie hq]
    simp only [Hd, Ht]
  have e2 : eO Z P M Q Y (i + 1) = (Z ++ Q.take i) ++ Q[i] :: ((P.drop (i + 1) ++ (M ++ P.take i)) ++ P[i] :: (Q.drop (i + 1) ++ Y)) := by
    unfold eO
    rw [Hc, Hc, j' hp, j' hq]
    simp only [Option.toList_some, Hd, Ht, Ho]
  have := Ci (Z ++ Q.take i) (P.drop (i + 1) ++ (M ++ P.take i)) (Q.drop (i + 1) ++ Y) P[i] Q[i]
  rw [← e1, ← e2] at this
  have l1 : (Z ++ Q.take i).length = Z.length + i := by simp; omega
  have l2 : (P.drop (i + 1) ++ (M ++ P.take i)).length = n - (i + 1) + M.length + i := by simp; omega
  rw [l1, l2] at this
  rw [← this]
  congr 1
  omega
theorem FF (Z P M Q Y : List ac) : eO Z P M Q Y 0 = Z ++ (P ++ (M ++ (Q ++ Y))) := by simp [eO]
theorem FE (Z P M Q Y : List ac) (n : Nat) (d : P.length = n) (hQ : Q.length = n) : eO Z P M Q Y n = Z ++ (Q ++ (M ++ (P ++ Y))) := by
  unfold eO
  rw [GV (by omega), Iz (by omega), GV (by omega), Iz (by omega)]
  simp
end Go.Proofs.YtpobkmjicbobdaaGreat
