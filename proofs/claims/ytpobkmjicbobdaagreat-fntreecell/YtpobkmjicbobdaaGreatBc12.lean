/- Walks. -/
import Derived.Test.YtpobkmjicbobdaaGreatBc11
import Derived.Maps.Views
import Derived.Maps.OwnOps
namespace Go.Proofs.YtpobkmjicbobdaaGreat
set_option maxRecDepth 100000
set_option maxHeartbeats 40000000
open Go.Maps Go.RowKit Go.Shelf
variable {L T:List ae} {P:List (List ae)} {i n z:Nat} {q:Int} {vs:List Value} {w:World}
section
attribute [local go_sem] Gi
def fd (w:World) (vs:List Value) (P:List (List ae)):Prop:=vs.length=P.length∧∀(i:Nat) A,P[i]?=some A→∃s m d,vs[i]?=some (.slice s m d)∧ah w s m d A
theorem fd.one {s:Option Addr} {m d:Nat} {A:List ae} (h:ah w s m d A):fd w [.slice s m d] [A]:=by
 refine ⟨rfl,fun i B hB=>?_⟩;cases i with
 | zero=>simp at hB;subst hB;exact ⟨s,m,d,rfl,h⟩
 | succ i=>simp at hB
theorem fd.append {b:List Value} {d:List (List ae)} (h:fd w vs P) (h':fd w b d):fd w (vs++b) (P++d):=by
 refine ⟨by rw [Fy,Fy,h.1,h'.1],fun i A hA=>?_⟩;by_cases hi:i<P.length
 · rw [FE hi] at hA;rw [FE (by rw [h.1];exact hi)];exact h.2 i A hA
 · rw [Fz (by omega)] at hA;rw [Fz (by rw [h.1];omega),h.1];exact h'.2 _ A hA
theorem fd.map {α:Type} {f:α→Value} {g:α→List ae} (h:∀x,∃s m d,f x=.slice s m d∧ah w s m d (g x)) (L:List α):fd w (L.map f) (L.map g):=by
 refine ⟨by simp,fun i A hA=>?_⟩;rw [Hs] at hA ⊢;cases hx:L[i]? with
 | none=>rw [hx] at hA;cases hA
 | some x =>
  rw [hx] at hA;simp at hA;subst hA;obtain ⟨s,m,d,e,hE⟩:=h x;exact ⟨s,m,d,by simp [e],hE⟩
theorem fd.keep {w':World} (h:fd w vs P) (hb:Bl w w'):fd w' vs P :=
 ⟨h.1,fun i A hA=>by obtain ⟨s,m,d,e,hE⟩:=h.2 i A hA;exact ⟨s,m,d,e,hE.keep hb⟩⟩
theorem qy {α β:Type} (B:List α) (d:α) (f:α→β):(b7 B.length 0).map (fun x=>f ((B[x.1]?).getD d))=B.reverse.map f:=by
 unfold b7;rw [List.drop_zero,List.map_reverse,List.map_reverse];congr 1
 apply List.ext_getElem
 · simp
 · intro i h1 h2;simp at h1;simp
theorem Ar {α β:Type} (B:List α) (d:α) (f:α→β) (h:B.length=n):(b7 n 0).map (fun x=>f ((B[x.1]?).getD d))=B.reverse.map f:=by
 subst h;exact qy B d f
theorem az.heads {g:Nat} {a:Option Addr} {c:Nat} {B:List aj} (h:az g w a n c B) :
 ∃t:Nat→Option Addr × Nat × Nat,(∀b o,a=some ⟨b,o,none⟩→1≤n→b<w.heap.size∧∀i,i<n→w.cell? ⟨b,o+i*2,none⟩=some (.slice (t i).1 (t i).2.1 (t i).2.2)∧w.cell? ⟨b,o+i*2+1,none⟩=some (iT ((B[i]?).getD ([],0)).2)) ∧
  ∀i,i<n→ah w (t i).1 (t i).2.1 (t i).2.2 ((B[i]?).getD ([],0)).1:=by
 have hl:=h.length;by_cases hn:1≤n
 · obtain ⟨b,o,rfl,hb⟩:=h.form hn;have each:∀i,i<n→∃t:Option Addr × Nat × Nat,w.cell? ⟨b,o+i*2,none⟩=some (.slice t.1 t.2.1 t.2.2)∧w.cell? ⟨b,o+i*2+1,none⟩=some (iT ((B[i]?).getD ([],0)).2)∧ah w t.1 t.2.1 t.2.2 ((B[i]?).getD ([],0)).1:=by
    intro i hi;obtain ⟨_,s,m,d,c0,c1,hE⟩:=h.runs _ rfl i (by omega);refine ⟨(s,m,d),c0,?_,?_⟩
    · rw [j' (by omega:i<B.length)];exact c1
    · rw [j' (by omega:i<B.length)];exact hE.1
   obtain ⟨t,f⟩:=Deep.choose_lt each;refine ⟨t,?_,fun i hi=>(f i hi).2.2⟩;rintro b' r e _;cases e;exact ⟨hb,fun i hi=>⟨(f i hi).1,(f i hi).2.1⟩⟩
 · exact ⟨fun _=>(none,0,0),fun b o e h1=>absurd h1 hn,fun i hi=>absurd hi (by omega)⟩
def jh (M:List ae) (V:List (List aj)) (i:Nat):List (List ae):=M :: (V.take i).flatMap (fun B=>B.reverse.map (·.1))
theorem tB {M:List ae} {V:List (List aj)} {B:List aj} (h:V[i]?=some B):jh M V (i+1)=jh M V i++B.reverse.map (·.1):=by
 unfold jh;rw [FU,h];simp
theorem uY (M:List ae) (A B C:List aj):jh M [A,B,C] 3=dl M A B C:=by
 unfold jh dl;simp
def xW (w0 w:World) (P:List (List ae)) (e:Ending) (w':World):Prop:=(∃g n c vs,e=.returned (sL g n c)∧w'.ownsRow w.heap.size 28 1 (sL g n c) n vs∧fd w0 vs P)∧Bl w w'
theorem su (lo:Nat) (q:Int) (I ak:Option Addr) (J H nk ck:Nat) (a0 a1 a2:Option Addr) (N c0 O c1 n2 c2:Nat) (M:List ae) (A B C:List aj) (R w:World) (au:Bl R w) (hM:ah R I J H M) (h0:az lo R a0 N c0 A) (h1:az lo R a1 O c1 B) (h2:az lo R a2 n2 c2 C) (s0:N≤8) (s1:O≤8) (s2:n2≤8) :
 CallsIn Fence.wide 4 Tryz.prog 94 #[.agg #[iT q,.slice I J H,.slice a0 N c0,.slice a1 O c1,.slice a2 n2 c2,.slice ak nk ck]] w (xW R w (dl M A B C)):=by
 have a9:=bT au;clear au;have HL:Eq (∀i,i<3→∃y ni E Bi,(∀w',(Instr.index 80 (.agg #[.slice a0 N c0,.slice a1 O c1,.slice a2 n2 c2]) (iT (i:Nat))).run Tryz.prog w'=.ok (.slice y ni E) w')∧az lo R y ni E Bi∧ni≤8∧[A,B,C][i]?=some Bi):=by
  intro i hi;have:i=0∨i=1∨i=2:=by omega
  rcases this with rfl | rfl | rfl
  · exact ⟨a0,N,c0,A,fun w'=>Cc w' _ _ _ _ _ _ _ _ _,h0,s0,rfl⟩
  · exact ⟨a1,O,c1,B,fun w'=>Cb w' _ _ _ _ _ _ _ _ _,h1,s1,rfl⟩
  · exact ⟨a2,n2,c2,C,fun w'=>Ca w' _ _ _ _ _ _ _ _ _,h2,s2,rfl⟩
 clear h0 h1 h2 s0 s1 s2;have HM:=bT hM;clear hM;obtain ⟨i0,hi,b0,aY,b6⟩:=info_parts Tryz.infoEntS;refine callsIn_of_wp_marks Tryz.func94 rfl trivial ?_ rfl;simp only [Tryz.ntmps94,GF,F5,Gz,Nat.reduceAdd,Nat.reduceSub,GJ,GK,GV,GN,Gb,Gd];gi_wp2
 obtain ⟨W0,U⟩:=aG ((((w.alloc (.cells #[iT q,.slice I J H,.slice a0 N c0,.slice a1 O c1,.slice a2 n2 c2,.slice ak nk ck] 82)).alloc (.cells #[.slice I J H] 28)).alloc (.cells #[sL (w.heap.size+1) 1 1] 102)));have ar:Bl w W0:=by rw [U];exact (((Below.refl _ w).alloc (Fv _) _).alloc (by simp) _).alloc (by simp;omega) _
 have av:Boxed W0 (w.heap.size+1+1) 102 (sL (w.heap.size+1) 1 1):=by
  have:=Boxed.new ((w.alloc (.cells #[iT q,.slice I J H,.slice a0 N c0,.slice a1 O c1,.slice a2 n2 c2,.slice ak nk ck] 82)).alloc (.cells #[.slice I J H] 28)) 102 (sL (w.heap.size+1) 1 1);rw [FP,FP] at this;rw [U];exact this
 have aC:W0.ownsRow w.heap.size 28 1 (sL (w.heap.size+1) 1 1) 1 [.slice I J H]:=by
  have:=(F6 (base:=w.heap.size) (e:=28) (size:=1) (w.alloc (.cells #[iT q,.slice I J H,.slice a0 N c0,.slice a1 O c1,.slice a2 n2 c2,.slice ak nk ck] 82)) #[.slice I J H] 1 (by simp) (by unfold maxLen;omega) rfl).alloc (.cells #[sL (w.heap.size+1) 1 1] 102);rw [FP] at this;rw [U];exact this
 rw [← U];clear U;refine wpIn_loop (fun a' W=>∃(i:Nat) (Z:List Nat) (u5 u14 u15 u16 u17 u25:Value) (v:Value) (vs:List Value),a'={ tmps:=#[.agg #[iT q,.slice I J H,.slice a0 N c0,.slice a1 O c1,.slice a2 n2 c2,.slice ak nk ck],.pointer (some ⟨w.heap.size,0,none⟩),nZ,.pointer (some ⟨w.heap.size+1+1,0,none⟩),undef,u5,undef,undef,.pointer (some ⟨w.heap.size,1,none⟩),.slice I J H,sL (w.heap.size+1) 1 1,.pointer (some ⟨w.heap.size,2,none⟩),.agg #[.slice a0 N c0,.slice a1 O c1,.slice a2 n2 c2],iT (i:Nat),u14,u15,u16,u17,undef,undef,undef,undef,undef,undef,undef,u25,undef],defers:=oU Z } ∧
  i≤3∧Boxed W (w.heap.size+1+1) 102 v∧W.ownsRow w.heap.size 28 1 v vs.length vs∧fd R vs (jh M [A,B,C] i)∧vs.length≤1+8*i∧1≤vs.length∧dr w.heap.size W Z∧Bl w W) (fun a' _=>3 - (intOf (a'.tmps.getD 13 undef)).toNat) ?_ ?_
 · exact ⟨0,[],undef,undef,undef,undef,undef,undef,_,[.slice I J H],rfl,by omega,av,aC,fd.one HM.o,by simp,by simp,⟨List.nodup_nil,fun D hD=>by cases hD⟩,ar⟩
 rintro a' W ⟨i,Z,u5,u14,u15,u16,u17,u25,v,vs,rfl,bi,bA,hrow,hH,bu,hv1,hmk,hB⟩;clear ar av aC;have HH:Eq (fd R vs (jh M [A,B,C] i)):=hH;have ac:Eq (dr w.heap.size W Z):=hmk;have HB:Eq (Bl w W):=hB;have aX:=hB.size;clear hH hmk hB;by_cases aV:i<3
 · have bd:(i:Int)<3:=by omega
   have wi:IntKind.i64.wrap ((i:Int)+1)=((i+1:Nat):Int):=by rw [FQ];unfold wrap64;omega
   obtain ⟨y,ni,E,Bi,bb,ao,bk,an⟩:=HL.o i aV;have HR:Eq (az lo R y ni E Bi):=ao;have HV:Eq ([A,B,C][i]?=some Bi):=an;clear ao an;gi_wp2_with (refine ⟨trivial,?_⟩;gi_at_call 155;refine (Cy _ _ _ _ _).mono ?_;rintro e w' ⟨rfl,rfl⟩)
   obtain ⟨t,aa,ay⟩:=HR.o.heads;have bP:=Boxed.new W 61 (.slice y ni E);have aJ:Bl w (W.alloc (.cells #[.slice y ni E] 61)):=HB.o.alloc aX _;have a6:=a9.o.trans (aJ.mono a9.o.size);have aQ:=bA.alloc (.cells #[.slice y ni E] 61);have ab:=hrow.alloc (.cells #[.slice y ni E] 61);have ap:=ac.o.others (KeepsOthers.alloc W (.cells #[.slice y ni E] 61));have a5:∀D ∈ Z,D<W.heap.size:=fun D hD=>(Gm.1 (ac.o.2 D hD).2).1
   have br:=bA.lt;have b5:Eq (∀i,i<ni→ah R (t i).1 (t i).2.1 (t i).2.2 ((Bi[i]?).getD ([],0)).1):=ay;have aE:Eq (∀D ∈ Z,D<W.heap.size):=a5;clear ay;refine wpIn_rangeFunc_ownH rfl (by omega) (gf:=206) (lb:=#[.pointer (some ⟨W.heap.size,0,none⟩)]) rfl trivial (enters_of Tryz.func206 (by kernel_rfl) rfl)
    (vz (4 - 1) (by omega) W.heap.size (fun k=>k<w.heap.size∨k=W.heap.size) y ni E (fun i=>.slice (t i).1 (t i).2.1 (t i).2.2) (fun i=>iT ((Bi[i]?).getD ([],0)).2) _ (.inr rfl) bP.cell (fun h=>by obtain ⟨b,o,e,_⟩:=HR.o.form h;exact ⟨b,o,e⟩) HR.o.room HR.o.big (fun k hk=>by simp;omega) (fun b o e h1=>⟨.inl (u' (aa b o e h1).1 a9.o.size),fun i hi=>⟨cell_later a6 ((aa b o e h1).2 i hi).1,cell_later a6 ((aa b o e h1).2 i hi).2⟩⟩))
    bJ.trans (oY (fun k hk=>by simp;omega)) (Below.refl _ _) (fun _=>rfl)
    (fun m W'=>(∃v',Boxed W' (w.heap.size+1+1) 102 v'∧W'.ownsRow w.heap.size 28 1 v' (vs.length+m.length) (vs++m.map (fun x=>Value.slice (t x.1).1 (t x.1).2.1 (t x.1).2.2))∧True)∧(Boxed W' W.heap.size 61 (.slice y ni E)∧(Bl w W'∧dr w.heap.size W' Z)))
    (fun _ _ _=>False)
    (OwnFrom.and (Own.from (holdsRow_own w.heap.size (w.heap.size+1+1) 102 28 1 (fun m:List (Fin ni)=>vs.length+m.length) (fun m=>vs++m.map (fun x=>Value.slice (t x.1).1 (t x.1).2.1 (t x.1).2.2)) (fun _ _=>True)) _) (OwnFrom.and (Own.from (boxed_own _ _ _) _) (OwnFrom.and (ownFrom_below (Fv _) (by simp;omega)) (rY (fun D hD=>by have:=a5 D hD;simp;omega)))))
    (fun _ _ _ _ _ hs _ _=>hs)
    ⟨⟨v,aQ,by simpa using ab,trivial⟩,bP,aJ,ap⟩
    (fun x a' W'=>∃Bx,w.heap.size+1+1<Bx∧W'.cell? ⟨Bx,0,none⟩=some (.slice (t x.1).1 (t x.1).2.1 (t x.1).2.2)∧a'={ tmps:=#[.agg #[iT q,.slice I J H,.slice a0 N c0,.slice a1 O c1,.slice a2 n2 c2,.slice ak nk ck],.pointer (some ⟨w.heap.size,0,none⟩),nZ,.pointer (some ⟨w.heap.size+1+1,0,none⟩),undef,.slice y ni E,undef,.pointer (pT Bx),.pointer (some ⟨w.heap.size,1,none⟩),.slice I J H,sL (w.heap.size+1) 1 1,.pointer (some ⟨w.heap.size,2,none⟩),.agg #[.slice a0 N c0,.slice a1 O c1,.slice a2 n2 c2],iT (i:Nat),.bool true,.slice y ni E,.slice y ni E,.func (.func 206) #[] #[.pointer (some ⟨W.heap.size,0,none⟩)],iT (x.1:Nat),.agg #[.slice (t x.1).1 (t x.1).2.1 (t x.1).2.2,iT ((Bi[x.1]?).getD ([],0)).2],undef,undef,undef,undef,undef,u25,undef],defers:=[] })
    (fun x a' _ X Y row hs hg hr=>by obtain ⟨Bx,h1,h2,h3⟩:=hs;exact ⟨Bx,h1,cell_kept h2 hg (fun r e=>(hr r e).2),h3⟩)
    ?assign ?body ?done ?stop
   case assign =>
    rintro l m x W2 K ⟨⟨v2,F,d,_⟩,u,s,f⟩ hK;have aA:=F.lt;gi_wp2
    exact hK _ _ ((KeepsOthers.alloc _ _).from _) (mZ ((Below.refl _ W2).alloc s.size _) u (u.alloc _)) ⟨⟨v2,F.alloc _,d.alloc _,trivial⟩,u.alloc _,s.alloc s.size _,f.others (KeepsOthers.alloc _ _)⟩ ⟨W2.heap.size,aA,by simp,rfl⟩
   case body =>
    rintro l m x a' W2 hl _ ⟨⟨v2,F,d,_⟩,u,s,f⟩ ⟨Bx,bm,cx,rfl⟩ bs;have cA:=F.cell;have ax:Eq (dr w.heap.size W2 Z):=f;have aS:Eq (Bl w W2):=s;have aP:=s.size;clear f s;gi_wp2_with (gi_at_builtin;refine wpListIn_append_own _ rfl _ _ 102 rfl w.heap.size 28 i0 nZ 1 24 Tryz.underlying102 hi b0 aY b6 rfl (by decide) _ _ _ rfl (d.alloc _) ⟨W2.heap.size,0,none⟩ 1 1 [Value.slice (t x.1).1 (t x.1).2.1 (t x.1).2.2] rfl rfl (cell_one_new _ _ _) (by simp [Value.oneCell']) (by unfold maxLen;omega) (by omega) (by simp;omega) ?_;intro v' w1 Q hgrow _;obtain ⟨g',aD,rfl⟩:=ownsRow_succ Q;obtain ⟨hv1,hv2,aR,aK,aH⟩:=F.appended (by decide) d aP (by omega) Q hgrow;have bl:=hv1.cell;have bv:=hv1.frozen)
    have aF:Boxed (w1.setCell ⟨w.heap.size+1+1,0,none⟩ (sL g' (vs.length+m.length+1) aD)) W.heap.size 61 (.slice y ni E):=((u.alloc _).kept hgrow (u.not_row (by decide) d)).other (by omega) _;refine ⟨aK.from _,mZ aH u aF,⟨⟨_,hv2,?_,trivial⟩,aF,aS.o.trans aH,ax.o.others aK⟩⟩;rw [GM,Fy,← FT];exact aR
   case done =>
    rintro D xs W2 hD rfl ⟨⟨v2,F,d,_⟩,u,s,f⟩ hK;gi_wp2
    have aT:=Ar Bi ([],0) (·.1) HR.o.length;have b1:(b7 ni 0).length=ni:=by rw [mw];rfl
    refine ⟨⟨i+1,D :: Z,_,_,_,_,_,_,v2,vs++(b7 ni 0).map (fun x=>Value.slice (t x.1).1 (t x.1).2.1 (t x.1).2.2),rfl,by omega,F,?_,?_,?_,?_,?_,s⟩,?_⟩
    · rw [Fy,Hk];exact d
    · rw [tB HV.o,← aT];exact HH.o.append (fd.map (α:=Fin ni) (fun x=>⟨_,_,_,rfl,b5.o x.1 x.2⟩) _)
    · rw [Fy,Hk,b1];omega
    · rw [Fy];omega
    · simp at hD;refine ⟨H8.2 ⟨fun h=>by have:=aE.o D h;omega,f.1⟩,fun D' aN=>?_⟩;rcases FF.1 aN with rfl | h
      · exact ⟨by omega,hK⟩
      · exact f.2 D' h
    · simp [intOf];omega
   case stop =>
    rintro D c m W2 _ _ h _;exact h.elim
 · have hi:i=3:=by omega
   subst hi;obtain ⟨n',b4⟩:∃n',vs.length=n'+1:=⟨vs.length - 1,by omega⟩;rw [b4] at hrow;obtain ⟨g,c,rfl⟩:=ownsRow_succ hrow;have cA:=bA.cell;gi_wp2
   refine jk Z W ac.o (fun W' b3 aO=>?_);refine ⟨_,results_tmp rfl _ _ _,⟨g,n'+1,c,vs,rfl,?_,?_⟩,HB.o.trans b3⟩
   · refine ⟨hrow.1,?_⟩;rcases hrow.2 with hn | ⟨g1,aI,aq,e1,aZ,b2,rest⟩
     · exact .inl hn
     · exact .inr ⟨g1,aI,aq,e1,aZ,aO g1 _ b2 rfl,rest⟩
   · rw [← uY];exact HH.o
end
section
attribute [local go_sem] Gi
structure sX (D:DataW Unit) (T:List ae):Prop where
 isMap:IsMap D
 val:∀k:ByteArray,D.atKey (.string k.data.toList) (.lit (.int .i64 0))=.lit (.int .i64 (oC T k))
theorem zE:sX (.map []) []:=⟨isMap_empty,fun k=>by
 have:Maps.has (H:=Unit) (.map []) (.string k.data.toList)=false:=by simp [Maps.has]
 rw [atKey_of_not_has this]
 rfl⟩
theorem sX.put {D:DataW Unit} (h:sX D T) (e:ae):sX (D.put (.string e.1.data.toList) (.lit (.int .i64 e.2.1))) (e :: T):=by
 refine ⟨h.isMap.put _ _,fun k=>?_⟩;rw [ua];by_cases hk:e.1=k
 · subst hk;rw [atKey_put_same (k:=.string e.1.data.toList) h.isMap trivial,if_pos rfl]
 · have b:Lit.string k.data.toList≠Lit.string e.1.data.toList:=by
    intro d;apply hk;have h2:k.data.toList=e.1.data.toList:=by simpa using d
    exact GX (GS.1 h2.symm)
   rw [atKey_put_other b,if_neg hk];exact h.val k
def DX:ae:=(⟨#[]⟩,0,0,⟨#[]⟩,0)
def iI (L:List ae) (i:Nat):ae:=(L[i]?).getD DX
theorem yC (h:i<L.length):iI L i=L[i]:=by unfold iI;rw [j' h];rfl
def jF (P:List (List ae)) (pre:List (Fin P.length)):List ae:=(pre.reverse.map (fun x=>(P[x.1]?).getD [])).flatten
theorem AV (P:List (List ae)):jF P []=[]:=rfl
theorem yT (P:List (List ae)) (pre:List (Fin P.length)) (x:Fin P.length):jF P (pre++[x])=(P[x.1]?).getD []++jF P pre:=by
 simp [jF]
theorem ub (P:List (List ae)):jF P (b7 P.length 0)=P.flatten:=by
 unfold jF;have:=qy P [] id;simp only [id_eq,List.map_id] at this;rw [List.map_reverse,this,List.reverse_reverse]
theorem AU {pre:List (Fin P.length)} (h:pre <+: b7 P.length 0):∃B,P.flatten=B++jF P pre:=by
 obtain ⟨r,hr⟩:=h;refine ⟨jF P r,?_⟩;rw [← ub,← hr];simp [jF]
theorem AW (h:∀l ∈ P,l.length≤150):∀b:List (Fin P.length),(jF P b).length≤150*b.length:=by
 intro b;unfold jF;induction b with
 | nil=>simp
 | cons x b d =>
  have hx:=h _ (F8 x.2);rw [List.reverse_cons,GM,GT,Fy];simp only [Gx,GO,GA,List.flatten_nil,GR,F5];rw [j' x.2];simp only [Option.getD_some];omega
def lp (L T:List ae) (pre:List (Fin L.length)):List ae:=pre.reverse.map (fun x=>iI L x.1)++T
theorem AY (L T:List ae):lp L T []=T:=rfl
theorem yU (L T:List ae) (pre:List (Fin L.length)) (x:Fin L.length):lp L T (pre++[x])=iI L x.1 :: lp L T pre:=by simp [lp]
theorem uc (L T:List ae):lp L T (b7 L.length 0)=L++T:=by
 unfold lp;have:=qy L DX id;simp only [id_eq,List.map_id] at this;have h2:(b7 L.length 0).map (fun x=>iI L x.1)=L.reverse:=this;rw [List.map_reverse,h2,List.reverse_reverse]
theorem AX {pre:List (Fin L.length)} (h:pre <+: b7 L.length 0):∃B,L++T=B++lp L T pre:=by
 obtain ⟨r,hr⟩:=h;refine ⟨r.reverse.map (fun x=>iI L x.1),?_⟩;rw [← uc,← hr];simp [lp]
theorem AZ (L T:List ae) (b:List (Fin L.length)):(lp L T b).length=b.length+T.length:=by simp [lp]
theorem zO {β:Type} {K:Nat→Prop} {W:World} {B:Nat} (hK:∀k,K k→k<W.heap.size∧k<B):OwnFrom B (fun (_:β) b=>bJ K W b):=fun _ X Y row hs hg hr =>
 ⟨hg.os.trans hs.os,hg.tape.trans hs.tape,hg.output.trans hs.output,FK hs.size hg.size,fun k hk=>by
  refine (hg.block k (u' (hK k hk).1 hs.size) (fun e=>?_)).trans (hs.block k hk)
  have:=(hr k e.symm).1
  have:=(hK k hk).2
  omega⟩
theorem Bj {β:Type} {B:Nat}:OwnFrom B (fun (_:β) b=>n≤b.heap.size):=fun _ _ _ _ hs hg _=>FK hs hg.size
def lS (w:World) (q:Int) (z:Nat) (T:List ae) (W:World):Prop :=
 dK q T=true∧Boxed W (w.heap.size+1) 4 (.bool false)∧Boxed W (w.heap.size+1+1+1) 239 (.map (some (w.heap.size+1+1)))∧W.cell? ⟨w.heap.size,0,none⟩=some (iT q) ∧
  (∃D,sX D T∧W.ownsMap Tryz.prog 9 (plainElem (H:=Unit) Tryz.prog 3) (w.heap.size+1+1) T.length D)∧Bl w W∧z≤W.heap.size
theorem lS.own {B:Nat} (hB:w.heap.size+4≤B) {T:List ae} {X Y:World} {row:Option Nat} (h:lS w q z T X) (hg:X.grownBy Y row) (hr:∀r,row=some r→B≤r∧∃o:Obj,X.heap[r]?=some o∧o.isCells=false):lS w q z T Y:=by
 obtain ⟨h1,h2,h3,h4,⟨D,h5,h6⟩,h7,b⟩:=h;refine ⟨h1,h2.kept hg (fun e=>?_),h3.kept hg (fun e=>?_),cell_kept h4 hg (fun r e=>(hr r e).2),⟨D,h5,h6.kept hg (fun e=>?_)⟩,h7.grown hg h7.size (fun k e=>?_),FK b hg.size⟩
 · have:=(hr _ e.symm).1;omega
 · have:=(hr _ e.symm).1;omega
 · have:=(hr _ e.symm).1;omega
 · have:=(hr k e).1;omega
theorem lS.alloc {X:World} (h:lS w q z T X) (o:Obj):lS w q z T (X.alloc o) :=
 lS.own (Fv _) h (World.grownBy_alloc X o none) (fun r e=>by cases e)
theorem zV (lo:Nat) (q:Int) (am ak:Option Addr) (nm cm nk ck:Nat) (a0 a1 a2:Option Addr) (Z c0 n1 c1 n2 c2:Nat) (M:List ae) (A B C:List aj) (w:World) (hM:ah w am nm cm M) (h0:az lo w a0 Z c0 A) (h1:az lo w a1 n1 c1 B) (h2:az lo w a2 n2 c2 C) (s0:Z≤8) (s1:n1≤8) (s2:n2≤8) (ar:∀l ∈ dl M A B C,l.length≤150) :
 CallsIn Fence.wide 8 Tryz.prog 198 #[.agg #[iT q,.slice am nm cm,.slice a0 Z c0,.slice a1 n1 c1,.slice a2 n2 c2,.slice ak nk ck]] w fun e w'=>e=.returned (.bool (dK q (dl M A B C).flatten))∧Bl w w':=by
 have bn:(dl M A B C).length≤25:=by
  have:=h0.length;have:=h1.length;have:=h2.length;simp [dl];omega
 obtain ⟨P,hP⟩:∃P,dl M A B C=P:=⟨_,rfl⟩;have CL:Eq (∀w',Bl w w'→CallsIn Fence.wide (8 - 1) Tryz.prog 94 #[.agg #[iT q,.slice am nm cm,.slice a0 Z c0,.slice a1 n1 c1,.slice a2 n2 c2,.slice ak nk ck]] w' (xW w w' P)):=fun w' k=>by
  rw [← hP];exact callsIn_wide.2 (callsIn_wide.1 (su lo q am ak nm cm nk ck a0 a1 a2 Z c0 n1 c1 n2 c2 M A B C w w' k hM h0 h1 h2 s0 s1 s2))
 rw [hP] at ar bn ⊢;clear hM h0 h1 h2 s0 s1 s2 hP;have aP:Eq (∀l ∈ P,l.length≤150):=ar;clear ar;have bU:=@run_makeMap Tryz.prog;refine callsIn_of_wp_marks Tryz.func198 rfl trivial ?_ rfl;simp only [Tryz.ntmps198,GF,F5,Gz,Nat.reduceAdd,Nat.reduceSub,GJ,GK,GV,GN,Gb,Gd];gi_wp2
 refine ⟨trivial,?_⟩;obtain ⟨Wm,N⟩:=aG (((((w.alloc (.cells #[iT q,.slice am nm cm,.slice a0 Z c0,.slice a1 n1 c1,.slice a2 n2 c2,.slice ak nk ck] 82)).alloc (.cells #[.bool false] 4)).alloc (.map #[] 0)).alloc (.cells #[.map (some (w.heap.size+1+1))] 239)));have al:Bl w Wm:=by rw [N];exact ((((Below.refl _ w).alloc (Fv _) _).alloc (by simp) _).alloc (by simp;omega) _).alloc (by simp;omega) _
 have aX:Wm.heap.size=w.heap.size+4:=by rw [N];simp
 have cS:Wm.cell? ⟨w.heap.size,0,none⟩=some (iT q):=by
  rw [N];refine cell_later bZ ?_;refine cell_later bZ ?_;refine cell_later bZ ?_;simp
 have bR:Boxed Wm (w.heap.size+1) 4 (.bool false):=by
  have:=((Boxed.new (w.alloc (.cells #[iT q,.slice am nm cm,.slice a0 Z c0,.slice a1 n1 c1,.slice a2 n2 c2,.slice ak nk ck] 82)) 4 (.bool false)).alloc (.map #[] 0)).alloc (.cells #[.map (some (w.heap.size+1+1))] 239);rw [FP] at this;rw [N];exact this
 have bM:Boxed Wm (w.heap.size+1+1+1) 239 (.map (some (w.heap.size+1+1))):=by
  have:=Boxed.new (((w.alloc (.cells #[iT q,.slice am nm cm,.slice a0 Z c0,.slice a1 n1 c1,.slice a2 n2 c2,.slice ak nk ck] 82)).alloc (.cells #[.bool false] 4)).alloc (.map #[] 0)) 239 (.map (some (w.heap.size+1+1)));rw [FP,FP,FP] at this;rw [N];exact this
 have aZ:Wm.ownsMap Tryz.prog 9 (plainElem (H:=Unit) Tryz.prog 3) (w.heap.size+1+1) 0 (.map []):=by
  have:=(World.ownsMap_made ((w.alloc (.cells #[iT q,.slice am nm cm,.slice a0 Z c0,.slice a1 n1 c1,.slice a2 n2 c2,.slice ak nk ck] 82)).alloc (.cells #[.bool false] 4)) Tryz.prog 9 (plainElem (H:=Unit) Tryz.prog 3)).alloc (.cells #[.map (some (w.heap.size+1+1))] 239);rw [FP,FP] at this;rw [N];exact this
 rw [← N];clear N;refine (CL.o Wm al).mono ?_;rintro e W1 ⟨⟨g,n,c,vs,rfl,hrow,hH⟩,O⟩;have aC:=hrow.lt g rfl;have aT:vs.length=n:=by have:=hrow.1;omega
 have b8:P.length=n:=by rw [← hH.1];exact aT
 have aN:n≤c∧c≤maxLen:=cZ hrow;gi_wp2_with (refine ⟨trivial,?_⟩;gi_at_call 235;refine (Cz _ _ _ _ _).mono ?_;rintro e w' ⟨rfl,rfl⟩)
 subst b8;have each:∀i,i<P.length→∃t:Option Addr × Nat × Nat,vs[i]?=some (.slice t.1 t.2.1 t.2.2)∧ah w t.1 t.2.1 t.2.2 ((P[i]?).getD []):=by
  intro i hi;obtain ⟨s,m,d,e1,hE⟩:=hH.2 i _ (j' hi);exact ⟨(s,m,d),e1,by rw [j' hi];exact hE⟩
 obtain ⟨t,ht⟩:=Deep.choose_lt each;have HT:Eq (∀i,i<P.length→ah w (t i).1 (t i).2.1 (t i).2.2 ((P[i]?).getD [])):=fun i hi=>(ht i hi).2
 have b0:∀i,i<P.length→W1.cell? ⟨g,i,none⟩=some (.slice (t i).1 (t i).2.1 (t i).2.2):=fun i hi=>(hrow.cellAt i (by omega)).trans (ht i hi).1
 clear ht each hH;have aK:Bl W1 (W1.alloc (.cells #[sL g P.length c] 102)):=bZ;have bP:=Boxed.new W1 102 (sL g P.length c);have i1:lS w q 0 [] W1:=⟨rfl,bR.kept (dU O) (by simp),bM.kept (dU O) (by simp),cell_later O cS,⟨_,zE,aZ.kept (dU O) (by simp)⟩,al.trans (O.mono al.size),FB _⟩;obtain ⟨W0,af⟩:=aG (W1.alloc (.cells #[sL g P.length c] 102));have b1:W0.heap.size=W1.heap.size+1:=by rw [af];simp
 have i0:lS w q W0.heap.size [] W0:=by rw [af];obtain ⟨j1,j2,j3,j4,j5,j6,_⟩:=i1.alloc (.cells #[sL g P.length c] 102);exact ⟨j1,j2,j3,j4,j5,j6,Fv _⟩
 have aV:∀i,i<P.length→W0.cell? ⟨g,i,none⟩=some (.slice (t i).1 (t i).2.1 (t i).2.2):=fun i hi=>by rw [af];exact cell_later aK (b0 i hi)
 rw [← af] at bP ⊢;have aR:=O.size;have bW:W1.heap.size<W0.heap.size:=by omega
 have bV:w.heap.size+4≤W1.heap.size:=by omega
 have c8:w.heap.size+4≤g:=by have:=aC.1;omega
 have bS:g<W1.heap.size:=aC.2;clear b1 aX aR aC aT al;clear af i1 b0 aK bR bM cS aZ O hrow;refine wpIn_rangeFunc_ownH rfl (by omega) (gf:=252) (lb:=#[.pointer (some ⟨W1.heap.size,0,none⟩)]) rfl trivial (enters_of Tryz.func252 (by kernel_rfl) rfl)
  (vA (8 - 1) (by omega) W1.heap.size (fun k=>k<W0.heap.size∧k≠w.heap.size+1+1) (pT g) P.length c (fun i=>.slice (t i).1 (t i).2.1 (t i).2.2) W0 ⟨by omega,by omega⟩ bP.cell (fun _=>⟨g,0,rfl⟩) aN.1 aN.2 (fun k hk=>hk.1) (fun b o e h1=>by cases e;exact ⟨⟨by omega,by omega⟩,fun i hi=>by rw [FG];exact aV i hi⟩))
  bJ.trans (oY (fun k hk=>hk.1)) (Below.refl _ _) (fun _=>rfl)
  (fun F W=>lS w q W0.heap.size (jF P F) W)
  (fun cd F W=>(cd=.ret∧∀B,dK q (B++jF P F)=false)∧(Boxed W (w.heap.size+1) 4 (.bool false)∧Bl w W))
  (fun F X Y row hs hg hr=>lS.own (by omega) hs hg hr)
  (fun cd=>OwnFrom.and (ownFrom_pure _ _) (OwnFrom.and (Own.from (boxed_own _ _ _) _) (ownFrom_below (Fv _) (by omega))))
  (by rw [AV];exact i0)
  (fun x a' _=>a'={ tmps:=#[.agg #[iT q,.slice am nm cm,.slice a0 Z c0,.slice a1 n1 c1,.slice a2 n2 c2,.slice ak nk ck],.pointer (some ⟨w.heap.size,0,none⟩),.pointer (some ⟨w.heap.size+1,0,none⟩),.pointer (some ⟨w.heap.size+1+1+1,0,none⟩),undef,.slice (t x.1).1 (t x.1).2.1 (t x.1).2.2,undef,undef,.map (some (w.heap.size+1+1)),.agg #[iT q,.slice am nm cm,.slice a0 Z c0,.slice a1 n1 c1,.slice a2 n2 c2,.slice ak nk ck],sL g P.length c,.func (.func 252) #[] #[.pointer (some ⟨W1.heap.size,0,none⟩)],iT (x.1:Nat),.slice (t x.1).1 (t x.1).2.1 (t x.1).2.2,undef,undef,undef,undef,undef,undef,undef,undef,undef,undef,undef,undef,undef,undef,undef,undef,undef,undef,undef,undef,undef,undef,undef],defers:=[] })
  (fun _ _ _ _ _ _ hs _ _=>hs)
  ?assign ?body ?done ?stop
 case assign =>
  rintro l F x W K hi hK;gi_wp2
  exact hK _ _ (KeepsFrom.refl _ _) (bJ.refl _ _) hi rfl
 case body =>
  rintro l F x a' W hl ⟨r,hr⟩ hI rfl bu;have hE:=HT.o x.1 x.2;obtain ⟨s,m,d,an⟩:∃s m d,t x.1=(s,m,d):=⟨_,_,_,rfl⟩;simp only [an] at hE ⊢;obtain ⟨L,hL⟩:∃L,(P[x.1]?).getD []=L:=⟨_,rfl⟩;have bx:L.length≤150:=by rw [← hL,j' x.2];exact aP.o _ (F8 x.2)
  rw [hL] at hE;have aU:=AW aP.o F;have ao:Eq (jF P (F++[x])=L++jF P F):=by show _=_;rw [yT,hL]
  clear hL;obtain ⟨T,hT⟩:∃T,jF P F=T:=⟨_,rfl⟩;rw [hT] at hI aU ao;clear hT;have hm:=hE.length;subst hm;have HE:Eq (ah w s L.length d L):=hE;clear hE an;gi_wp2_with (refine ⟨trivial,?_⟩;gi_at_call 191;refine (CallsIn.inRound l (CG _ _ _ _ _)).mono ?_;rintro e w' ⟨rfl,rfl⟩)
  obtain ⟨i1,i2,i3,i4,i5,i6,i7⟩:=hI;have hI:lS w q W0.heap.size T W:=⟨i1,i2,i3,i4,i5,i6,i7⟩;clear i1 i2 i3 i4 i5;have bf:=i6.size;have bN:=Boxed.new W 28 (.slice s L.length d);have bd:(W.alloc (.cells #[.slice s L.length d] 28)).heap[l]?=some (.loop r):=(Below.heap_alloc W _ l (Gm.1 hr).1).trans hr;have ab:Bl w (W.alloc (.cells #[.slice s L.length d] 28)):=i6.alloc bf _;have bm:=hI.alloc (.cells #[.slice s L.length d] 28);refine wpIn_rangeFunc_ownN (l₀:=l) (r₀:=r) rfl bd (by omega) (gf:=228) (lb:=#[.pointer (some ⟨W.heap.size,0,none⟩)]) rfl trivial (enters_of Tryz.func228 (by kernel_rfl) rfl)
   ((vB (8 - 1 - 1 - 1) (by omega) W.heap.size (fun k=>k<W.heap.size+1∧k≠w.heap.size+1+1) s L.length d (fun i=>.string (iI L i).1) (fun i=>iT (iI L i).2.1) (fun i=>iT (iI L i).2.2.1) (fun i=>.string (iI L i).2.2.2.1) (fun i=>iT (iI L i).2.2.2.2) _ ⟨by omega,by omega⟩ bN.cell (fun h=>by obtain ⟨b,o,e,_⟩:=HE.o.form h;exact ⟨b,o,e⟩) HE.o.room HE.o.big (fun k hk=>by simp;exact hk.1)
    (fun b o e h1=>by
     have bc:=(HE.o.lies _ e (by omega)).1;simp only at bc;refine ⟨⟨by omega,by omega⟩,fun i hi=>?_⟩;obtain ⟨g0,g1,g2,g3,g4⟩:=HE.o.cells _ e i hi;simp only [yC hi];exact ⟨cell_later ab g0,cell_later ab g1,cell_later ab g2,cell_later ab g3,cell_later ab g4⟩)).inRound l)
   bJ.trans (oY (fun k hk=>by simp;exact hk.1)) (Below.refl _ _) (fun _=>rfl)
   (fun E I=>lS w q W0.heap.size (lp L T E) I∧(bJ (fun k=>k<W0.heap.size∧k≠w.heap.size+1+1) W I∧(KeepsFrom W0.heap.size W I∧W.heap.size+1≤I.heap.size)))
   (fun cd E I=>(cd=.ret∧∀B,dK q (B++lp L T E)=false)∧(Boxed I (w.heap.size+1) 4 (.bool false)∧(Bl w I∧KeepsFrom W0.heap.size W I)))
   (OwnFrom.and (fun E X Y row hs hg hr=>lS.own (by simp;omega) hs hg hr) (OwnFrom.and (zO (fun k hk=>⟨by omega,by simp;omega⟩)) (OwnFrom.and (ownFrom_keepsFrom (by simp)) Bj)))
   (fun cd=>OwnFrom.and (ownFrom_pure _ _) (OwnFrom.and (Own.from (boxed_own _ _ _) _) (OwnFrom.and (ownFrom_below (Fv _) (by simp;omega)) (ownFrom_keepsFrom (by simp)))))
   ⟨by rw [AY];exact bm,bJ.of ((Below.refl W.heap.size W).alloc (Fv _) _) (fun k hk=>by omega),(KeepsOthers.alloc _ _).from _,by simp⟩
   (fun y aD I=>∃By,w.heap.size+3<By∧I.cell? ⟨By,0,none⟩=some (.string (iI L y.1).1)∧I.cell? ⟨By,1,none⟩=some (iT (iI L y.1).2.1)∧aD={ tmps:=#[.agg #[iT q,.slice am nm cm,.slice a0 Z c0,.slice a1 n1 c1,.slice a2 n2 c2,.slice ak nk ck],.pointer (some ⟨w.heap.size,0,none⟩),.pointer (some ⟨w.heap.size+1,0,none⟩),.pointer (some ⟨w.heap.size+1+1+1,0,none⟩),undef,.slice s L.length d,undef,.pointer (pT By),.map (some (w.heap.size+1+1)),.agg #[iT q,.slice am nm cm,.slice a0 Z c0,.slice a1 n1 c1,.slice a2 n2 c2,.slice ak nk ck],sL g P.length c,.func (.func 252) #[] #[.pointer (some ⟨W1.heap.size,0,none⟩)],iT (x.1:Nat),.slice s L.length d,.slice s L.length d,.func (.func 228) #[] #[.pointer (some ⟨W.heap.size,0,none⟩)],iT (y.1:Nat),.agg #[.string (iI L y.1).1,iT (iI L y.1).2.1,iT (iI L y.1).2.2.1,.string (iI L y.1).2.2.2.1,iT (iI L y.1).2.2.2.2],undef,undef,undef,undef,undef,undef,undef,undef,undef,undef,undef,undef,undef,undef,undef,undef,undef,undef,undef],defers:=[] })
   (fun y aD _ X Y row hs hg hr=>by obtain ⟨By,h1,h2,h3,h4⟩:=hs;exact ⟨By,h1,cell_kept h2 hg (fun r e=>(hr r e).2),cell_kept h3 hg (fun r e=>(hr r e).2),h4⟩)
   ?assign2 ?body2 ?done2 ?stop2
  case assign2 =>
   rintro l2 E y I K ⟨hJ,U,J,hz⟩ hK;gi_wp2
   refine hK _ _ ((KeepsOthers.alloc _ _).from _) (bJ.of ((Below.refl I.heap.size I).alloc (Fv _) _) (fun k hk=>by omega)) ⟨hJ.alloc _,U.trans (bJ.of ((Below.refl I.heap.size I).alloc (Fv _) _) (fun k hk=>by omega)),J.trans ((KeepsOthers.alloc _ _).from _),by simp;omega⟩ ⟨I.heap.size,by omega,by simp,by simp,rfl⟩
  case body2 =>
   rintro l2 E y aD I _ _ ⟨⟨j1,j2,j3,j4,⟨D,j5,j6⟩,j7,j8⟩,U,J,hz⟩ ⟨By,bO,aL,aJ,rfl⟩ bB;have a9:Eq (lp L T (E++[y])=iI L y.1 :: lp L T E):=yU L T E y;have bb:=AZ L T E;obtain ⟨T',aW⟩:∃T',lp L T E=T':=⟨_,rfl⟩;rw [aW] at j1 j5 j6 a9 bb;clear aW;have hew:dR (iI L y.1):=by rw [yC y.2];exact HE.o.ents _ (F8 y.2)
   obtain ⟨e,he⟩:∃e,iI L y.1=e:=⟨_,rfl⟩;rw [he] at aL aJ a9 hew ⊢;clear he;obtain ⟨R,eq,ed,et,en⟩:=e;simp only at aL aJ;have b7:R.size≤maxLen:=hew.1;have Q:=Go.WideMaps.keyOf_string_mk (k:=9) Tryz.underlying9 (s:=R) b7;have bj:(Lit.int .i64 eq).wf=true:=hew.2.1;have ag:Eq (D.atKey (.string R.data.toList) (.lit (.int .i64 0))=.lit (.int .i64 (oC T' R))):=j5.val R;have be:Eq (sX (D.put (.string R.data.toList) (.lit (.int .i64 eq))) ((R,eq,ed,et,en) :: T')):=j5.put (R,eq,ed,et,en);have aY:Eq (oC T' R<eq→eq≤q→dK q ((R,eq,ed,et,en) :: T')=true):=fun h1 h2=>wV j1 h1 h2
   have av:Eq (¬(oC T' R<eq∧eq≤q)→∀B,dK q (B++(R,eq,ed,et,en) :: T')=false):=fun h B=>wU (e:=(R,eq,ed,et,en)) h
   obtain ⟨c0',b2⟩:∃c0',oC T' R=c0':=⟨_,rfl⟩;rw [b2] at ag aY av;clear b2 j5 hew;have cR:=j2.cell;have fR:=j2.frozen;have cM:=j3.cell;have aA:Eq (Bl w I):=j7;have bp:Eq (bJ (fun k=>k<W0.heap.size∧k≠w.heap.size+1+1) W I):=U;have ay:Eq (KeepsFrom W0.heap.size W I):=J;have bh:=j7.size;clear j7 U J;by_cases bQ:eq≤c0'
   · gi_wp2_with (gi_at_lookup;refine wpListIn_lookup_own_int _ rfl _ _ 239 rfl 9 3 .i64 (Maps.string_keyed Tryz.underlying9) Tryz.underlying239 Tryz.underlying3 (Tryz.zeroValue3 _) (w.heap.size+1+1) T'.length _ rfl j6 _ _ rfl Q ?_;intro cc hat aM;obtain rfl:c0'=cc:=by (have:=ag.o.symm.trans hat;simpa using this))
     exact ⟨(KeepsOthers.setCell _ _ _).from _,⟨rfl,fun B=>by rw [a9.o];exact av.o (by omega) B⟩,j2.set _,aA.o.setCell (p:=⟨w.heap.size+1,0,none⟩) (by simp) _,ay.o.trans ((KeepsOthers.setCell _ _ _).from _)⟩
   · by_cases c4:q<eq
     · gi_wp2_with (gi_at_lookup;refine wpListIn_lookup_own_int _ rfl _ _ 239 rfl 9 3 .i64 (Maps.string_keyed Tryz.underlying9) Tryz.underlying239 Tryz.underlying3 (Tryz.zeroValue3 _) (w.heap.size+1+1) T'.length _ rfl j6 _ _ rfl Q ?_;intro cc hat aM;obtain rfl:c0'=cc:=by (have:=ag.o.symm.trans hat;simpa using this))
       exact ⟨(KeepsOthers.setCell _ _ _).from _,⟨rfl,fun B=>by rw [a9.o];exact av.o (by omega) B⟩,j2.set _,aA.o.setCell (p:=⟨w.heap.size+1,0,none⟩) (by simp) _,ay.o.trans ((KeepsOthers.setCell _ _ _).from _)⟩
     · gi_wp2_with (first
        | (gi_at_lookup;refine wpListIn_lookup_own_int _ rfl _ _ 239 rfl 9 3 .i64 (Maps.string_keyed Tryz.underlying9) Tryz.underlying239 Tryz.underlying3 (Tryz.zeroValue3 _) (w.heap.size+1+1) T'.length _ rfl j6 _ _ rfl Q ?_;intro cc hat aM;obtain rfl:c0'=cc:=by (have:=ag.o.symm.trans hat;simpa using this))
        | (gi_at_mapUpdate;refine wpListIn_mapUpdate_own _ rfl _ _ _ 239 rfl 9 3 (Maps.string_keyed Tryz.underlying9) Tryz.underlying239 _ (w.heap.size+1+1) T'.length _ rfl j6 ?_ _ _ _ rfl rfl Q _ [] (plainElem_int Tryz.underlying3 bj) ?_;unfold maxLen;omega;intro w1 aB u))
       refine ⟨KeepsFrom.of_grownBy u (fun j e=>by cases e;simp;omega),bJ.grown u (fun k hk=>⟨by omega,fun e=>hk.2 (by cases e;rfl)⟩),⟨?_,bp.o.trans (bJ.grown u (fun k hk=>⟨by omega,fun e=>hk.2 (by cases e;rfl)⟩)),ay.o.trans (KeepsFrom.of_grownBy u (fun j e=>by cases e;omega)),FK hz u.size⟩⟩;rw [a9.o];exact ⟨aY.o (by omega) (by omega),j2.kept u (by simp),j3.kept u (by simp),u.cell j4 (by simp;omega),⟨_,be.o,aB⟩,aA.o.grown u bh (fun k e=>by cases e;omega),FK j8 u.size⟩
  case done2 =>
   rintro bT I rfl ⟨hJ,U,J,hz⟩;rw [uc] at hJ;gi_wp2
   refine ⟨J,U,?_⟩;show lS w q W0.heap.size (jF P (F++[x])) I
   rw [ao.o];exact hJ
  case stop2 =>
   rintro cd E I a8 ⟨⟨rfl,ap⟩,bg,bq,J⟩;gi_wp2
   obtain ⟨B0,aw⟩:=AX (T:=T) a8;exact ⟨J,⟨rfl,fun B=>by rw [ao.o,aw,← FT];exact ap _⟩,bg,bq⟩
 case done =>
  rintro D zs W hD rfl ⟨j1,j2,j3,j4,j5,j6,j7⟩ hK;rw [ub] at j1;have cR:=j2.cell;have fR:=j2.frozen;gi_wp2
  have aE:=(KeepsOthers.setCell W ⟨w.heap.size+1,0,none⟩ (.bool true)).same D _ hK rfl;refine ⟨by simp,.inl ⟨_,_,rfl,run_takeDeferred aE,?_⟩⟩;have ax:=cell_kept (j2.set (.bool true)).cell (grownBy_putObj' _ D (.deferred none)) (fun r e=>by cases e;exact ⟨_,aE,rfl⟩);refine ⟨.bool true,?_,by rw [j1],(j6.setCell (p:=⟨w.heap.size+1,0,none⟩) (by simp) _).trans (belowK_b (w:=w) (Fv _) _ D _ _ (by omega) aE rfl rfl)⟩;simp [results,Tryz.f198,go_sem,ax]
 case stop =>
  rintro D cd F W hD a8 ⟨⟨rfl,ap⟩,bl,bo⟩ hK;gi_wp2
  refine ⟨by simp,.inl ⟨_,_,rfl,run_takeDeferred hK,?_⟩⟩;have ax:=cell_kept bl.cell (grownBy_putObj' _ D (.deferred none)) (fun r e=>by cases e;exact ⟨_,hK,rfl⟩);obtain ⟨B0,aw⟩:=AU a8;refine ⟨.bool false,?_,by rw [aw,ap],bo.trans (belowK_b (w:=w) (Fv _) W D _ _ (by omega) hK rfl rfl)⟩;simp [results,Tryz.f198,go_sem,ax]
end
end Go.Proofs.YtpobkmjicbobdaaGreat
