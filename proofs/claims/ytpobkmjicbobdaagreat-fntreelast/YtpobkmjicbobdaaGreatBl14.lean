/- Walks. -/
import Derived.Test.YtpobkmjicbobdaaGreatBl13
import Derived.Maps.Views
import Derived.Maps.OwnOps
namespace Go.Proofs.YtpobkmjicbobdaaGreat
set_option maxRecDepth 100000
set_option maxHeartbeats 40000000
open Go.Maps Go.RowKit Go.Shelf
variable {L T:List ac} {P:List (List ac)} {i n z:Nat} {q:Int} {vs:List Value} {w:World}
section
attribute [local go_sem] DN
def eV (w:World) (vs:List Value) (P:List (List ac)):Prop:=vs.length=P.length∧∀(i:Nat) A,P[i]?=some A→∃s m d,vs[i]?=some (.slice s m d)∧ag w s m d A
theorem eV.one {s:Option Addr} {m d:Nat} {A:List ac} (h:ag w s m d A):eV w [.slice s m d] [A]:=by
 refine ⟨rfl,fun i B hB=>?_⟩;cases i with
 | zero=>simp at hB;subst hB;exact ⟨s,m,d,rfl,h⟩
 | succ i=>simp at hB
theorem eV.append {b:List Value} {e:List (List ac)} (h:eV w vs P) (d:eV w b e):eV w (vs++b) (P++e):=by
 refine ⟨by rw [CW,CW,h.1,d.1],fun i A hA=>?_⟩;by_cases hi:i<P.length
 · rw [C7 hi] at hA;rw [C7 (by rw [h.1];exact hi)];exact h.2 i A hA
 · rw [CU (by omega)] at hA;rw [CU (by rw [h.1];omega),h.1];exact d.2 _ A hA
theorem eV.map {α:Type} {f:α→Value} {g:α→List ac} (h:∀x,∃s m d,f x=.slice s m d∧ag w s m d (g x)) (L:List α):eV w (L.map f) (L.map g):=by
 refine ⟨by simp,fun i A hA=>?_⟩;rw [EK] at hA ⊢;cases hx:L[i]? with
 | none=>rw [hx] at hA;cases hA
 | some x =>
  rw [hx] at hA;simp at hA;subst hA;obtain ⟨s,m,d,e,hE⟩:=h x;exact ⟨s,m,d,by simp [e],hE⟩
theorem eV.keep {w':World} (h:eV w vs P) (hb:Bl w w'):eV w' vs P :=
 ⟨h.1,fun i A hA=>by obtain ⟨s,m,d,e,hE⟩:=h.2 i A hA;exact ⟨s,m,d,e,hE.keep hb⟩⟩
theorem o7 {α β:Type} (B:List α) (d:α) (f:α→β):(bT B.length 0).map (fun x=>f ((B[x.1]?).getD d))=B.reverse.map f:=by
 unfold bT;rw [List.drop_zero,List.map_reverse,List.map_reverse];congr 1
 apply List.ext_getElem
 · simp
 · intro i h1 h2;simp at h1;simp
theorem xW {α β:Type} (B:List α) (d:α) (f:α→β) (h:B.length=n):(bT n 0).map (fun x=>f ((B[x.1]?).getD d))=B.reverse.map f:=by
 subst h;exact o7 B d f
theorem ay.heads {g:Nat} {a:Option Addr} {c:Nat} {B:List an} (h:ay g w a n c B) :
 ∃t:Nat→Option Addr × Nat × Nat,(∀b o,a=some ⟨b,o,none⟩→1≤n→b<w.heap.size∧∀i,i<n→w.cell? ⟨b,o+i*2,none⟩=some (.slice (t i).1 (t i).2.1 (t i).2.2)∧w.cell? ⟨b,o+i*2+1,none⟩=some (iT ((B[i]?).getD ([],0)).2)) ∧
  ∀i,i<n→ag w (t i).1 (t i).2.1 (t i).2.2 ((B[i]?).getD ([],0)).1:=by
 have hl:=h.length;by_cases hn:1≤n
 · obtain ⟨b,o,rfl,hb⟩:=h.form hn;have each:∀i,i<n→∃t:Option Addr × Nat × Nat,w.cell? ⟨b,o+i*2,none⟩=some (.slice t.1 t.2.1 t.2.2)∧w.cell? ⟨b,o+i*2+1,none⟩=some (iT ((B[i]?).getD ([],0)).2)∧ag w t.1 t.2.1 t.2.2 ((B[i]?).getD ([],0)).1:=by
    intro i hi;obtain ⟨_,s,m,d,c0,c1,hE⟩:=h.runs _ rfl i (by omega);refine ⟨(s,m,d),c0,?_,?_⟩
    · rw [j' (by omega:i<B.length)];exact c1
    · rw [j' (by omega:i<B.length)];exact hE.1
   obtain ⟨t,f⟩:=Deep.choose_lt each;refine ⟨t,?_,fun i hi=>(f i hi).2.2⟩;rintro b' r e _;cases e;exact ⟨hb,fun i hi=>⟨(f i hi).1,(f i hi).2.1⟩⟩
 · exact ⟨fun _=>(none,0,0),fun b o e h1=>absurd h1 hn,fun i hi=>absurd hi (by omega)⟩
def iF (M:List ac) (V:List (List an)) (i:Nat):List (List ac):=M :: (V.take i).flatMap (fun B=>B.reverse.map (·.1))
theorem rk {M:List ac} {V:List (List an)} {B:List an} (h:V[i]?=some B):iF M V (i+1)=iF M V i++B.reverse.map (·.1):=by
 unfold iF;rw [Dl,h];simp
theorem tm (M:List ac) (A B C:List an):iF M [A,B,C] 3=dt M A B C:=by
 unfold iF dt;simp
def Ae (w0 w:World) (P:List (List ac)) (e:Ending) (w':World):Prop:=(∃g n c vs,e=.returned (sL g n c)∧w'.ownsRow w.heap.size 28 1 (sL g n c) n vs∧eV w0 vs P)∧Bl w w'
theorem xG (lo:Nat) (q:Int) (N ak:Option Addr) (J I nk ck:Nat) (a0 a1 a2:Option Addr) (Q c0 O c1 n2 c2:Nat) (M:List ac) (A B C:List an) (R w:World) (az:Bl R w) (hM:ag R N J I M) (h0:ay lo R a0 Q c0 A) (h1:ay lo R a1 O c1 B) (h2:ay lo R a2 n2 c2 C) (s0:Q≤8) (s1:O≤8) (s2:n2≤8) :
 CallsIn Fence.wide 4 Tryz.prog 94 #[.agg #[iT q,.slice N J I,.slice a0 Q c0,.slice a1 O c1,.slice a2 n2 c2,.slice ak nk ck]] w (Ae R w (dt M A B C)):=by
 have ad:=bO az;clear az;have HL:CG (∀i,i<3→∃E ni F Bi,(∀w',(Instr.index 80 (.agg #[.slice a0 Q c0,.slice a1 O c1,.slice a2 n2 c2]) (iT (i:Nat))).run Tryz.prog w'=.ok (.slice E ni F) w')∧ay lo R E ni F Bi∧ni≤8∧[A,B,C][i]?=some Bi):=by
  intro i hi;have:i=0∨i=1∨i=2:=by omega
  rcases this with rfl | rfl | rfl
  · exact ⟨a0,Q,c0,A,fun w'=>zE w' _ _ _ _ _ _ _ _ _,h0,s0,rfl⟩
  · exact ⟨a1,O,c1,B,fun w'=>zD w' _ _ _ _ _ _ _ _ _,h1,s1,rfl⟩
  · exact ⟨a2,n2,c2,C,fun w'=>zC w' _ _ _ _ _ _ _ _ _,h2,s2,rfl⟩
 clear h0 h1 h2 s0 s1 s2;have HM:=bO hM;clear hM;obtain ⟨i0,hi,b4,aU,aV⟩:=info_parts Tryz.infoEntS;refine callsIn_of_wp_marks Tryz.func94 rfl trivial ?_ rfl;simp only [Tryz.ntmps94,D9,DC,Ec,Nat.reduceAdd,Nat.reduceSub,Ek,El,Ez,Et,DA,DD];gi_wp2
 obtain ⟨W0,Z⟩:=aH ((((w.alloc (.cells #[iT q,.slice N J I,.slice a0 Q c0,.slice a1 O c1,.slice a2 n2 c2,.slice ak nk ck] 82)).alloc (.cells #[.slice N J I] 28)).alloc (.cells #[sL (w.heap.size+1) 1 1] 102)));have aB:Bl w W0:=by rw [Z];exact (((Below.refl _ w).alloc (Cy _) _).alloc (by simp) _).alloc (by simp;omega) _
 have aw:Boxed W0 (w.heap.size+1+1) 102 (sL (w.heap.size+1) 1 1):=by
  have:=Boxed.new ((w.alloc (.cells #[iT q,.slice N J I,.slice a0 Q c0,.slice a1 O c1,.slice a2 n2 c2,.slice ak nk ck] 82)).alloc (.cells #[.slice N J I] 28)) 102 (sL (w.heap.size+1) 1 1);rw [Dc,Dc] at this;rw [Z];exact this
 have aK:W0.ownsRow w.heap.size 28 1 (sL (w.heap.size+1) 1 1) 1 [.slice N J I]:=by
  have:=(Do (base:=w.heap.size) (e:=28) (size:=1) (w.alloc (.cells #[iT q,.slice N J I,.slice a0 Q c0,.slice a1 O c1,.slice a2 n2 c2,.slice ak nk ck] 82)) #[.slice N J I] 1 (by simp) (by unfold maxLen;omega) rfl).alloc (.cells #[sL (w.heap.size+1) 1 1] 102);rw [Dc] at this;rw [Z];exact this
 rw [← Z];clear Z;refine wpIn_loop (fun a' W=>∃(i:Nat) (ds:List Nat) (u5 u14 u15 u16 u17 u25:Value) (v:Value) (vs:List Value),a'={ tmps:=#[.agg #[iT q,.slice N J I,.slice a0 Q c0,.slice a1 O c1,.slice a2 n2 c2,.slice ak nk ck],.pointer (some ⟨w.heap.size,0,none⟩),nZ,.pointer (some ⟨w.heap.size+1+1,0,none⟩),undef,u5,undef,undef,.pointer (some ⟨w.heap.size,1,none⟩),.slice N J I,sL (w.heap.size+1) 1 1,.pointer (some ⟨w.heap.size,2,none⟩),.agg #[.slice a0 Q c0,.slice a1 O c1,.slice a2 n2 c2],iT (i:Nat),u14,u15,u16,u17,undef,undef,undef,undef,undef,undef,undef,u25,undef],defers:=vF ds } ∧
  i≤3∧Boxed W (w.heap.size+1+1) 102 v∧W.ownsRow w.heap.size 28 1 v vs.length vs∧eV R vs (iF M [A,B,C] i)∧vs.length≤1+8*i∧1≤vs.length∧f8 w.heap.size W ds∧Bl w W) (fun a' _=>3 - (intOf (a'.tmps.getD 13 undef)).toNat) ?_ ?_
 · exact ⟨0,[],undef,undef,undef,undef,undef,undef,_,[.slice N J I],rfl,by omega,aw,aK,eV.one HM.o,by simp,by simp,⟨List.nodup_nil,fun D hD=>by cases hD⟩,aB⟩
 rintro a' W ⟨i,ds,u5,u14,u15,u16,u17,u25,v,vs,rfl,bm,bA,u,hH,br,hv1,av,hB⟩;clear aB aw aK;have HH:CG (eV R vs (iF M [A,B,C] i)):=hH;have ab:CG (f8 w.heap.size W ds):=av;have HB:CG (Bl w W):=hB;have aT:=hB.size;clear hH av hB;by_cases b2:i<3
 · have bi:(i:Int)<3:=by omega
   have wi:IntKind.i64.wrap ((i:Int)+1)=((i+1:Nat):Int):=by rw [Dg];unfold wrap64;omega
   obtain ⟨E,ni,F,Bi,bb,ar,bx,aI⟩:=HL.o i b2;have HR:CG (ay lo R E ni F Bi):=ar;have HV:CG ([A,B,C][i]?=some Bi):=aI;clear ar aI;gi_wp2_with (refine ⟨trivial,?_⟩;gi_at_call 155;refine (zW _ _ _ _ _).mono ?_;rintro e w' ⟨rfl,rfl⟩)
   obtain ⟨t,aa,aF⟩:=HR.o.heads;have bP:=Boxed.new W 61 (.slice E ni F);have aL:Bl w (W.alloc (.cells #[.slice E ni F] 61)):=HB.o.alloc aT _;have a8:=ad.o.trans (aL.mono ad.o.size);have aP:=bA.alloc (.cells #[.slice E ni F] 61);have ae:=u.alloc (.cells #[.slice E ni F] 61);have aG:=ab.o.others (KeepsOthers.alloc W (.cells #[.slice E ni F] 61));have a9:∀D ∈ ds,D<W.heap.size:=fun D hD=>(DM.1 (ab.o.2 D hD).2).1
   have bz:=bA.lt;have aO:CG (∀i,i<ni→ag R (t i).1 (t i).2.1 (t i).2.2 ((Bi[i]?).getD ([],0)).1):=aF;have au:CG (∀D ∈ ds,D<W.heap.size):=a9;clear aF;refine wpIn_rangeFunc_ownH rfl (by omega) (gf:=206) (lb:=#[.pointer (some ⟨W.heap.size,0,none⟩)]) rfl trivial (enters_of Tryz.func206 (by kernel_rfl) rfl)
    (tL (4 - 1) (by omega) W.heap.size (fun k=>k<w.heap.size∨k=W.heap.size) E ni F (fun i=>.slice (t i).1 (t i).2.1 (t i).2.2) (fun i=>iT ((Bi[i]?).getD ([],0)).2) _ (.inr rfl) bP.cell (fun h=>by obtain ⟨b,o,e,_⟩:=HR.o.form h;exact ⟨b,o,e⟩) HR.o.room HR.o.big (fun k hk=>by simp;omega) (fun b o e h1=>⟨.inl (l' (aa b o e h1).1 ad.o.size),fun i hi=>⟨cell_later a8 ((aa b o e h1).2 i hi).1,cell_later a8 ((aa b o e h1).2 i hi).2⟩⟩))
    cj.trans (ru (fun k hk=>by simp;omega)) (Below.refl _ _) (fun _=>rfl)
    (fun m W'=>(∃v',Boxed W' (w.heap.size+1+1) 102 v'∧W'.ownsRow w.heap.size 28 1 v' (vs.length+m.length) (vs++m.map (fun x=>Value.slice (t x.1).1 (t x.1).2.1 (t x.1).2.2))∧True)∧(Boxed W' W.heap.size 61 (.slice E ni F)∧(Bl w W'∧f8 w.heap.size W' ds)))
    (fun _ _ _=>False)
    (OwnFrom.and (Own.from (holdsRow_own w.heap.size (w.heap.size+1+1) 102 28 1 (fun m:List (Fin ni)=>vs.length+m.length) (fun m=>vs++m.map (fun x=>Value.slice (t x.1).1 (t x.1).2.1 (t x.1).2.2)) (fun _ _=>True)) _) (OwnFrom.and (Own.from (boxed_own _ _ _) _) (OwnFrom.and (ownFrom_below (Cy _) (by simp;omega)) (xm (fun D hD=>by have:=a9 D hD;simp;omega)))))
    (fun _ _ _ _ _ hs _ _=>hs)
    ⟨⟨v,aP,by simpa using ae,trivial⟩,bP,aL,aG⟩
    (fun x a' W'=>∃Bx,w.heap.size+1+1<Bx∧W'.cell? ⟨Bx,0,none⟩=some (.slice (t x.1).1 (t x.1).2.1 (t x.1).2.2)∧a'={ tmps:=#[.agg #[iT q,.slice N J I,.slice a0 Q c0,.slice a1 O c1,.slice a2 n2 c2,.slice ak nk ck],.pointer (some ⟨w.heap.size,0,none⟩),nZ,.pointer (some ⟨w.heap.size+1+1,0,none⟩),undef,.slice E ni F,undef,.pointer (pT Bx),.pointer (some ⟨w.heap.size,1,none⟩),.slice N J I,sL (w.heap.size+1) 1 1,.pointer (some ⟨w.heap.size,2,none⟩),.agg #[.slice a0 Q c0,.slice a1 O c1,.slice a2 n2 c2],iT (i:Nat),.bool true,.slice E ni F,.slice E ni F,.func (.func 206) #[] #[.pointer (some ⟨W.heap.size,0,none⟩)],iT (x.1:Nat),.agg #[.slice (t x.1).1 (t x.1).2.1 (t x.1).2.2,iT ((Bi[x.1]?).getD ([],0)).2],undef,undef,undef,undef,undef,u25,undef],defers:=[] })
    (fun x a' _ X Y row hs hg hr=>by obtain ⟨Bx,h1,h2,h3⟩:=hs;exact ⟨Bx,h1,cell_kept h2 hg (fun r e=>(hr r e).2),h3⟩)
    ?assign ?body ?done ?stop
   case assign =>
    rintro l m x W2 K ⟨⟨v2,H,d,_⟩,y,s,f⟩ hK;have ap:=H.lt;gi_wp2
    exact hK _ _ ((KeepsOthers.alloc _ _).from _) (qm ((Below.refl _ W2).alloc s.size _) y (y.alloc _)) ⟨⟨v2,H.alloc _,d.alloc _,trivial⟩,y.alloc _,s.alloc s.size _,f.others (KeepsOthers.alloc _ _)⟩ ⟨W2.heap.size,ap,by simp,rfl⟩
   case body =>
    rintro l m x a' W2 hl _ ⟨⟨v2,H,d,_⟩,y,s,f⟩ ⟨Bx,bk,cx,rfl⟩ bq;have cA:=H.cell;have ax:CG (f8 w.heap.size W2 ds):=f;have b8:CG (Bl w W2):=s;have aR:=s.size;clear f s;gi_wp2_with (gi_at_builtin;refine wpListIn_append_own _ rfl _ _ 102 rfl w.heap.size 28 i0 nZ 1 24 Tryz.underlying102 hi b4 aU aV rfl (by decide) _ _ _ rfl (d.alloc _) ⟨W2.heap.size,0,none⟩ 1 1 [Value.slice (t x.1).1 (t x.1).2.1 (t x.1).2.2] rfl rfl (cell_one_new _ _ _) (by simp [Value.oneCell']) (by unfold maxLen;omega) (by omega) (by simp;omega) ?_;intro v' w1 U hgrow _;obtain ⟨g',aD,rfl⟩:=ownsRow_succ U;obtain ⟨hv1,hv2,aW,aE,aC⟩:=H.appended (by decide) d aR (by omega) U hgrow;have bo:=hv1.cell;have bu:=hv1.frozen)
    have ao:Boxed (w1.setCell ⟨w.heap.size+1+1,0,none⟩ (sL g' (vs.length+m.length+1) aD)) W.heap.size 61 (.slice E ni F):=((y.alloc _).kept hgrow (y.not_row (by decide) d)).other (by omega) _;refine ⟨aE.from _,qm aC y ao,⟨⟨_,hv2,?_,trivial⟩,ao,b8.o.trans aC,ax.o.others aE⟩⟩;rw [EJ,CW,← Di];exact aW
   case done =>
    rintro D xs W2 hD rfl ⟨⟨v2,H,d,_⟩,y,s,f⟩ hK;gi_wp2
    have b7:=xW Bi ([],0) (·.1) HR.o.length;have b3:(bT ni 0).length=ni:=by rw [lF];rfl
    refine ⟨⟨i+1,D :: ds,_,_,_,_,_,_,v2,vs++(bT ni 0).map (fun x=>Value.slice (t x.1).1 (t x.1).2.1 (t x.1).2.2),rfl,by omega,H,?_,?_,?_,?_,?_,s⟩,?_⟩
    · rw [CW,EI];exact d
    · rw [rk HV.o,← b7];exact HH.o.append (eV.map (α:=Fin ni) (fun x=>⟨_,_,_,rfl,aO.o x.1 x.2⟩) _)
    · rw [CW,EI,b3];omega
    · rw [CW];omega
    · simp at hD;refine ⟨List.nodup_cons.2 ⟨fun h=>by have:=au.o D h;omega,f.1⟩,fun D' b6=>?_⟩;rcases Da.1 b6 with rfl | h
      · exact ⟨by omega,hK⟩
      · exact f.2 D' h
    · simp [intOf];omega
   case stop =>
    rintro D c m W2 _ _ h _;exact h.elim
 · have hi:i=3:=by omega
   subst hi;obtain ⟨n',aX⟩:∃n',vs.length=n'+1:=⟨vs.length - 1,by omega⟩;rw [aX] at u;obtain ⟨g,c,rfl⟩:=ownsRow_succ u;have cA:=bA.cell;gi_wp2
   refine lu ds W ab.o (fun W' aS aQ=>?_);refine ⟨_,results_tmp rfl _ _ _,⟨g,n'+1,c,vs,rfl,?_,?_⟩,HB.o.trans aS⟩
   · refine ⟨u.1,?_⟩;rcases u.2 with hn | ⟨g1,aA,aq,e1,aY,b1,rest⟩
     · exact .inl hn
     · exact .inr ⟨g1,aA,aq,e1,aY,aQ g1 _ b1 rfl,rest⟩
   · rw [← tm];exact HH.o
end
section
attribute [local go_sem] DN
structure qL (D:DataW Unit) (T:List ac):Prop where
 isMap:IsMap D
 val:∀k:ByteArray,D.atKey (.string k.data.toList) (.lit (.int .i64 0))=.lit (.int .i64 (mJ T k))
theorem xj:qL (.map []) []:=⟨isMap_empty,fun k=>by
 have:Maps.has (H:=Unit) (.map []) (.string k.data.toList)=false:=by simp [Maps.has]
 rw [atKey_of_not_has this]
 rfl⟩
theorem qL.put {D:DataW Unit} (h:qL D T) (e:ac):qL (D.put (.string e.1.data.toList) (.lit (.int .i64 e.2.1))) (e :: T):=by
 refine ⟨h.isMap.put _ _,fun k=>?_⟩;rw [rZ];by_cases hk:e.1=k
 · subst hk;rw [atKey_put_same (k:=.string e.1.data.toList) h.isMap trivial,if_pos rfl]
 · have b:Lit.string k.data.toList≠Lit.string e.1.data.toList:=by
    intro d;apply hk;have h2:k.data.toList=e.1.data.toList:=by simpa using d
    exact Ef (Ed.1 h2.symm)
   rw [atKey_put_other b,if_neg hk];exact h.val k
def AU:ac:=(⟨#[]⟩,0,0,⟨#[]⟩,0)
def gZ (L:List ac) (i:Nat):ac:=(L[i]?).getD AU
theorem vT (h:i<L.length):gZ L i=L[i]:=by unfold gZ;rw [j' h];rfl
def i8 (P:List (List ac)) (pre:List (Fin P.length)):List ac:=(pre.reverse.map (fun x=>(P[x.1]?).getD [])).flatten
theorem yt (P:List (List ac)):i8 P []=[]:=rfl
theorem wF (P:List (List ac)) (pre:List (Fin P.length)) (x:Fin P.length):i8 P (pre++[x])=(P[x.1]?).getD []++i8 P pre:=by
 simp [i8]
theorem r6 (P:List (List ac)):i8 P (bT P.length 0)=P.flatten:=by
 unfold i8;have:=o7 P [] id;simp only [id_eq,List.map_id] at this;rw [List.map_reverse,this,List.reverse_reverse]
theorem yr {pre:List (Fin P.length)} (h:pre <+: bT P.length 0):∃B,P.flatten=B++i8 P pre:=by
 obtain ⟨r,hr⟩:=h;refine ⟨i8 P r,?_⟩;rw [← r6,← hr];simp [i8]
theorem yu (h:∀l ∈ P,l.length≤150):∀b:List (Fin P.length),(i8 P b).length≤150*b.length:=by
 intro b;unfold i8;induction b with
 | nil=>simp
 | cons x b d =>
  have hx:=h _ (Dq x.2);rw [List.reverse_cons,EJ,EB,CW];simp only [Ep,Ev,DW,List.flatten_nil,Eh,DC];rw [j' x.2];simp only [Option.getD_some];omega
def jS (L T:List ac) (pre:List (Fin L.length)):List ac:=pre.reverse.map (fun x=>gZ L x.1)++T
theorem yx (L T:List ac):jS L T []=T:=rfl
theorem wG (L T:List ac) (pre:List (Fin L.length)) (x:Fin L.length):jS L T (pre++[x])=gZ L x.1 :: jS L T pre:=by simp [jS]
theorem r9 (L T:List ac):jS L T (bT L.length 0)=L++T:=by
 unfold jS;have:=o7 L AU id;simp only [id_eq,List.map_id] at this;have h2:(bT L.length 0).map (fun x=>gZ L x.1)=L.reverse:=this;rw [List.map_reverse,h2,List.reverse_reverse]
theorem yw {pre:List (Fin L.length)} (h:pre <+: bT L.length 0):∃B,L++T=B++jS L T pre:=by
 obtain ⟨r,hr⟩:=h;refine ⟨r.reverse.map (fun x=>gZ L x.1),?_⟩;rw [← r9,← hr];simp [jS]
theorem yy (L T:List ac) (b:List (Fin L.length)):(jS L T b).length=b.length+T.length:=by simp [jS]
theorem xw {β:Type} {K:Nat→Prop} {W:World} {B:Nat} (hK:∀k,K k→k<W.heap.size∧k<B):OwnFrom B (fun (_:β) b=>cj K W b):=fun _ X Y row hs hg hr =>
 ⟨hg.os.trans hs.os,hg.tape.trans hs.tape,hg.output.trans hs.output,C8 hs.size hg.size,fun k hk=>by
  refine (hg.block k (l' (hK k hk).1 hs.size) (fun e=>?_)).trans (hs.block k hk)
  have:=(hr k e.symm).1
  have:=(hK k hk).2
  omega⟩
theorem yM {β:Type} {B:Nat}:OwnFrom B (fun (_:β) b=>n≤b.heap.size):=fun _ _ _ _ hs hg _=>C8 hs hg.size
def kO (w:World) (q:Int) (z:Nat) (T:List ac) (W:World):Prop :=
 dr q T=true∧Boxed W (w.heap.size+1) 4 (.bool false)∧Boxed W (w.heap.size+1+1+1) 239 (.map (some (w.heap.size+1+1)))∧W.cell? ⟨w.heap.size,0,none⟩=some (iT q) ∧
  (∃D,qL D T∧W.ownsMap Tryz.prog 9 (plainElem (H:=Unit) Tryz.prog 3) (w.heap.size+1+1) T.length D)∧Bl w W∧z≤W.heap.size
theorem kO.own {B:Nat} (hB:w.heap.size+4≤B) {T:List ac} {X Y:World} {row:Option Nat} (h:kO w q z T X) (hg:X.grownBy Y row) (hr:∀r,row=some r→B≤r∧∃o:Obj,X.heap[r]?=some o∧o.isCells=false):kO w q z T Y:=by
 obtain ⟨h1,h2,h3,h4,⟨D,h5,h6⟩,h7,b⟩:=h;refine ⟨h1,h2.kept hg (fun e=>?_),h3.kept hg (fun e=>?_),cell_kept h4 hg (fun r e=>(hr r e).2),⟨D,h5,h6.kept hg (fun e=>?_)⟩,h7.grown hg h7.size (fun k e=>?_),C8 b hg.size⟩
 · have:=(hr _ e.symm).1;omega
 · have:=(hr _ e.symm).1;omega
 · have:=(hr _ e.symm).1;omega
 · have:=(hr k e).1;omega
theorem kO.alloc {X:World} (h:kO w q z T X) (o:Obj):kO w q z T (X.alloc o) :=
 kO.own (Cy _) h (World.grownBy_alloc X o none) (fun r e=>by cases e)
theorem xE (lo:Nat) (q:Int) (am ak:Option Addr) (nm cm nk ck:Nat) (a0 a1 a2:Option Addr) (n0 c0 Z c1 n2 c2:Nat) (M:List ac) (A B C:List an) (w:World) (hM:ag w am nm cm M) (h0:ay lo w a0 n0 c0 A) (h1:ay lo w a1 Z c1 B) (h2:ay lo w a2 n2 c2 C) (s0:n0≤8) (s1:Z≤8) (s2:n2≤8) (aB:∀l ∈ dt M A B C,l.length≤150) :
 CallsIn Fence.wide 8 Tryz.prog 198 #[.agg #[iT q,.slice am nm cm,.slice a0 n0 c0,.slice a1 Z c1,.slice a2 n2 c2,.slice ak nk ck]] w fun e w'=>e=.returned (.bool (dr q (dt M A B C).flatten))∧Bl w w':=by
 have bj:(dt M A B C).length≤25:=by
  have:=h0.length;have:=h1.length;have:=h2.length;simp [dt];omega
 obtain ⟨P,hP⟩:∃P,dt M A B C=P:=⟨_,rfl⟩;have CL:CG (∀w',Bl w w'→CallsIn Fence.wide (8 - 1) Tryz.prog 94 #[.agg #[iT q,.slice am nm cm,.slice a0 n0 c0,.slice a1 Z c1,.slice a2 n2 c2,.slice ak nk ck]] w' (Ae w w' P)):=fun w' k=>by
  rw [← hP];exact callsIn_wide.2 (callsIn_wide.1 (xG lo q am ak nm cm nk ck a0 a1 a2 n0 c0 Z c1 n2 c2 M A B C w w' k hM h0 h1 h2 s0 s1 s2))
 rw [hP] at aB bj ⊢;clear hM h0 h1 h2 s0 s1 s2 hP;have b1:CG (∀l ∈ P,l.length≤150):=aB;clear aB;have bQ:=@run_makeMap Tryz.prog;refine callsIn_of_wp_marks Tryz.func198 rfl trivial ?_ rfl;simp only [Tryz.ntmps198,D9,DC,Ec,Nat.reduceAdd,Nat.reduceSub,Ek,El,Ez,Et,DA,DD];gi_wp2
 refine ⟨trivial,?_⟩;obtain ⟨Wm,N⟩:=aH (((((w.alloc (.cells #[iT q,.slice am nm cm,.slice a0 n0 c0,.slice a1 Z c1,.slice a2 n2 c2,.slice ak nk ck] 82)).alloc (.cells #[.bool false] 4)).alloc (.map #[] 0)).alloc (.cells #[.map (some (w.heap.size+1+1))] 239)));have ao:Bl w Wm:=by rw [N];exact ((((Below.refl _ w).alloc (Cy _) _).alloc (by simp) _).alloc (by simp;omega) _).alloc (by simp;omega) _
 have b0:Wm.heap.size=w.heap.size+4:=by rw [N];simp
 have cS:Wm.cell? ⟨w.heap.size,0,none⟩=some (iT q):=by
  rw [N];refine cell_later bZ ?_;refine cell_later bZ ?_;refine cell_later bZ ?_;simp
 have bR:Boxed Wm (w.heap.size+1) 4 (.bool false):=by
  have:=((Boxed.new (w.alloc (.cells #[iT q,.slice am nm cm,.slice a0 n0 c0,.slice a1 Z c1,.slice a2 n2 c2,.slice ak nk ck] 82)) 4 (.bool false)).alloc (.map #[] 0)).alloc (.cells #[.map (some (w.heap.size+1+1))] 239);rw [Dc] at this;rw [N];exact this
 have bM:Boxed Wm (w.heap.size+1+1+1) 239 (.map (some (w.heap.size+1+1))):=by
  have:=Boxed.new (((w.alloc (.cells #[iT q,.slice am nm cm,.slice a0 n0 c0,.slice a1 Z c1,.slice a2 n2 c2,.slice ak nk ck] 82)).alloc (.cells #[.bool false] 4)).alloc (.map #[] 0)) 239 (.map (some (w.heap.size+1+1)));rw [Dc,Dc,Dc] at this;rw [N];exact this
 have aM:Wm.ownsMap Tryz.prog 9 (plainElem (H:=Unit) Tryz.prog 3) (w.heap.size+1+1) 0 (.map []):=by
  have:=(World.ownsMap_made ((w.alloc (.cells #[iT q,.slice am nm cm,.slice a0 n0 c0,.slice a1 Z c1,.slice a2 n2 c2,.slice ak nk ck] 82)).alloc (.cells #[.bool false] 4)) Tryz.prog 9 (plainElem (H:=Unit) Tryz.prog 3)).alloc (.cells #[.map (some (w.heap.size+1+1))] 239);rw [Dc,Dc] at this;rw [N];exact this
 rw [← N];clear N;refine (CL.o Wm ao).mono ?_;rintro e W1 ⟨⟨g,n,c,vs,rfl,J,hH⟩,Q⟩;have av:=J.lt g rfl;have aT:vs.length=n:=by have:=J.1;omega
 have be:P.length=n:=by rw [← hH.1];exact aT
 have aX:n≤c∧c≤maxLen:=cQ J;gi_wp2_with (refine ⟨trivial,?_⟩;gi_at_call 235;refine (zY _ _ _ _ _).mono ?_;rintro e w' ⟨rfl,rfl⟩)
 subst be;have each:∀i,i<P.length→∃t:Option Addr × Nat × Nat,vs[i]?=some (.slice t.1 t.2.1 t.2.2)∧ag w t.1 t.2.1 t.2.2 ((P[i]?).getD []):=by
  intro i hi;obtain ⟨s,m,d,e1,hE⟩:=hH.2 i _ (j' hi);exact ⟨(s,m,d),e1,by rw [j' hi];exact hE⟩
 obtain ⟨t,ht⟩:=Deep.choose_lt each;have HT:CG (∀i,i<P.length→ag w (t i).1 (t i).2.1 (t i).2.2 ((P[i]?).getD [])):=fun i hi=>(ht i hi).2
 have aR:∀i,i<P.length→W1.cell? ⟨g,i,none⟩=some (.slice (t i).1 (t i).2.1 (t i).2.2):=fun i hi=>(J.cellAt i (by omega)).trans (ht i hi).1
 clear ht each hH;have aW:Bl W1 (W1.alloc (.cells #[sL g P.length c] 102)):=bZ;have bP:=Boxed.new W1 102 (sL g P.length c);have i1:kO w q 0 [] W1:=⟨rfl,bR.kept (iI Q) (by simp),bM.kept (iI Q) (by simp),cell_later Q cS,⟨_,xj,aM.kept (iI Q) (by simp)⟩,ao.trans (Q.mono ao.size),C3 _⟩;obtain ⟨W0,ad⟩:=aH (W1.alloc (.cells #[sL g P.length c] 102));have aS:W0.heap.size=W1.heap.size+1:=by rw [ad];simp
 have i0:kO w q W0.heap.size [] W0:=by rw [ad];obtain ⟨j1,j2,j3,j4,j5,j6,_⟩:=i1.alloc (.cells #[sL g P.length c] 102);exact ⟨j1,j2,j3,j4,j5,j6,Cy _⟩
 have aN:∀i,i<P.length→W0.cell? ⟨g,i,none⟩=some (.slice (t i).1 (t i).2.1 (t i).2.2):=fun i hi=>by rw [ad];exact cell_later aW (aR i hi)
 rw [← ad] at bP ⊢;have aV:=Q.size;have c6:W1.heap.size<W0.heap.size:=by omega
 have bJ:w.heap.size+4≤W1.heap.size:=by omega
 have bK:w.heap.size+4≤g:=by have:=av.1;omega
 have bY:g<W1.heap.size:=av.2;clear aS b0 aV av aT ao;clear ad i1 aR aW bR bM cS aM Q J;refine wpIn_rangeFunc_ownH rfl (by omega) (gf:=252) (lb:=#[.pointer (some ⟨W1.heap.size,0,none⟩)]) rfl trivial (enters_of Tryz.func252 (by kernel_rfl) rfl)
  (tM (8 - 1) (by omega) W1.heap.size (fun k=>k<W0.heap.size∧k≠w.heap.size+1+1) (pT g) P.length c (fun i=>.slice (t i).1 (t i).2.1 (t i).2.2) W0 ⟨by omega,by omega⟩ bP.cell (fun _=>⟨g,0,rfl⟩) aX.1 aX.2 (fun k hk=>hk.1) (fun b o e h1=>by cases e;exact ⟨⟨by omega,by omega⟩,fun i hi=>by rw [C6];exact aN i hi⟩))
  cj.trans (ru (fun k hk=>hk.1)) (Below.refl _ _) (fun _=>rfl)
  (fun F W=>kO w q W0.heap.size (i8 P F) W)
  (fun cd F W=>(cd=.ret∧∀B,dr q (B++i8 P F)=false)∧(Boxed W (w.heap.size+1) 4 (.bool false)∧Bl w W))
  (fun F X Y row hs hg hr=>kO.own (by omega) hs hg hr)
  (fun cd=>OwnFrom.and (ownFrom_pure _ _) (OwnFrom.and (Own.from (boxed_own _ _ _) _) (ownFrom_below (Cy _) (by omega))))
  (by rw [yt];exact i0)
  (fun x a' _=>a'={ tmps:=#[.agg #[iT q,.slice am nm cm,.slice a0 n0 c0,.slice a1 Z c1,.slice a2 n2 c2,.slice ak nk ck],.pointer (some ⟨w.heap.size,0,none⟩),.pointer (some ⟨w.heap.size+1,0,none⟩),.pointer (some ⟨w.heap.size+1+1+1,0,none⟩),undef,.slice (t x.1).1 (t x.1).2.1 (t x.1).2.2,undef,undef,.map (some (w.heap.size+1+1)),.agg #[iT q,.slice am nm cm,.slice a0 n0 c0,.slice a1 Z c1,.slice a2 n2 c2,.slice ak nk ck],sL g P.length c,.func (.func 252) #[] #[.pointer (some ⟨W1.heap.size,0,none⟩)],iT (x.1:Nat),.slice (t x.1).1 (t x.1).2.1 (t x.1).2.2,undef,undef,undef,undef,undef,undef,undef,undef,undef,undef,undef,undef,undef,undef,undef,undef,undef,undef,undef,undef,undef,undef,undef],defers:=[] })
  (fun _ _ _ _ _ _ hs _ _=>hs)
  ?assign ?body ?done ?stop
 case assign =>
  rintro l F x W K hi hK;gi_wp2
  exact hK _ _ (KeepsFrom.refl _ _) (cj.refl _ _) hi rfl
 case body =>
  rintro l F x a' W hl ⟨r,hr⟩ hI rfl bw;have hE:=HT.o x.1 x.2;obtain ⟨s,m,d,ap⟩:∃s m d,t x.1=(s,m,d):=⟨_,_,_,rfl⟩;simp only [ap] at hE ⊢;obtain ⟨L,hL⟩:∃L,(P[x.1]?).getD []=L:=⟨_,rfl⟩;have bH:L.length≤150:=by rw [← hL,j' x.2];exact b1.o _ (Dq x.2)
  rw [hL] at hE;have aL:=yu b1.o F;have aC:CG (i8 P (F++[x])=L++i8 P F):=by show _=_;rw [wF,hL]
  clear hL;obtain ⟨T,hT⟩:∃T,i8 P F=T:=⟨_,rfl⟩;rw [hT] at hI aL aC;clear hT;have hm:=hE.length;subst hm;have HE:CG (ag w s L.length d L):=hE;clear hE ap;gi_wp2_with (refine ⟨trivial,?_⟩;gi_at_call 191;refine (CallsIn.inRound l (zZ _ _ _ _ _)).mono ?_;rintro e w' ⟨rfl,rfl⟩)
  obtain ⟨i1,i2,i3,i4,i5,i6,i7⟩:=hI;have hI:kO w q W0.heap.size T W:=⟨i1,i2,i3,i4,i5,i6,i7⟩;clear i1 i2 i3 i4 i5;have bd:=i6.size;have bN:=Boxed.new W 28 (.slice s L.length d);have bk:(W.alloc (.cells #[.slice s L.length d] 28)).heap[l]?=some (.loop r):=(Below.heap_alloc W _ l (DM.1 hr).1).trans hr;have ab:Bl w (W.alloc (.cells #[.slice s L.length d] 28)):=i6.alloc bd _;have bc:=hI.alloc (.cells #[.slice s L.length d] 28);refine wpIn_rangeFunc_ownN (l₀:=l) (r₀:=r) rfl bk (by omega) (gf:=228) (lb:=#[.pointer (some ⟨W.heap.size,0,none⟩)]) rfl trivial (enters_of Tryz.func228 (by kernel_rfl) rfl)
   ((tN (8 - 1 - 1 - 1) (by omega) W.heap.size (fun k=>k<W.heap.size+1∧k≠w.heap.size+1+1) s L.length d (fun i=>.string (gZ L i).1) (fun i=>iT (gZ L i).2.1) (fun i=>iT (gZ L i).2.2.1) (fun i=>.string (gZ L i).2.2.2.1) (fun i=>iT (gZ L i).2.2.2.2) _ ⟨by omega,by omega⟩ bN.cell (fun h=>by obtain ⟨b,o,e,_⟩:=HE.o.form h;exact ⟨b,o,e⟩) HE.o.room HE.o.big (fun k hk=>by simp;exact hk.1)
    (fun b o e h1=>by
     have bo:=(HE.o.lies _ e (by omega)).1;simp only at bo;refine ⟨⟨by omega,by omega⟩,fun i hi=>?_⟩;obtain ⟨g0,g1,g2,g3,g4⟩:=HE.o.cells _ e i hi;simp only [vT hi];exact ⟨cell_later ab g0,cell_later ab g1,cell_later ab g2,cell_later ab g3,cell_later ab g4⟩)).inRound l)
   cj.trans (ru (fun k hk=>by simp;exact hk.1)) (Below.refl _ _) (fun _=>rfl)
   (fun E I=>kO w q W0.heap.size (jS L T E) I∧(cj (fun k=>k<W0.heap.size∧k≠w.heap.size+1+1) W I∧(KeepsFrom W0.heap.size W I∧W.heap.size+1≤I.heap.size)))
   (fun cd E I=>(cd=.ret∧∀B,dr q (B++jS L T E)=false)∧(Boxed I (w.heap.size+1) 4 (.bool false)∧(Bl w I∧KeepsFrom W0.heap.size W I)))
   (OwnFrom.and (fun E X Y row hs hg hr=>kO.own (by simp;omega) hs hg hr) (OwnFrom.and (xw (fun k hk=>⟨by omega,by simp;omega⟩)) (OwnFrom.and (ownFrom_keepsFrom (by simp)) yM)))
   (fun cd=>OwnFrom.and (ownFrom_pure _ _) (OwnFrom.and (Own.from (boxed_own _ _ _) _) (OwnFrom.and (ownFrom_below (Cy _) (by simp;omega)) (ownFrom_keepsFrom (by simp)))))
   ⟨by rw [yx];exact bc,cj.of ((Below.refl W.heap.size W).alloc (Cy _) _) (fun k hk=>by omega),(KeepsOthers.alloc _ _).from _,by simp⟩
   (fun y aI I=>∃By,w.heap.size+3<By∧I.cell? ⟨By,0,none⟩=some (.string (gZ L y.1).1)∧I.cell? ⟨By,1,none⟩=some (iT (gZ L y.1).2.1)∧aI={ tmps:=#[.agg #[iT q,.slice am nm cm,.slice a0 n0 c0,.slice a1 Z c1,.slice a2 n2 c2,.slice ak nk ck],.pointer (some ⟨w.heap.size,0,none⟩),.pointer (some ⟨w.heap.size+1,0,none⟩),.pointer (some ⟨w.heap.size+1+1+1,0,none⟩),undef,.slice s L.length d,undef,.pointer (pT By),.map (some (w.heap.size+1+1)),.agg #[iT q,.slice am nm cm,.slice a0 n0 c0,.slice a1 Z c1,.slice a2 n2 c2,.slice ak nk ck],sL g P.length c,.func (.func 252) #[] #[.pointer (some ⟨W1.heap.size,0,none⟩)],iT (x.1:Nat),.slice s L.length d,.slice s L.length d,.func (.func 228) #[] #[.pointer (some ⟨W.heap.size,0,none⟩)],iT (y.1:Nat),.agg #[.string (gZ L y.1).1,iT (gZ L y.1).2.1,iT (gZ L y.1).2.2.1,.string (gZ L y.1).2.2.2.1,iT (gZ L y.1).2.2.2.2],undef,undef,undef,undef,undef,undef,undef,undef,undef,undef,undef,undef,undef,undef,undef,undef,undef,undef,undef],defers:=[] })
   (fun y aI _ X Y row hs hg hr=>by obtain ⟨By,h1,h2,h3,h4⟩:=hs;exact ⟨By,h1,cell_kept h2 hg (fun r e=>(hr r e).2),cell_kept h3 hg (fun r e=>(hr r e).2),h4⟩)
   ?assign2 ?body2 ?done2 ?stop2
  case assign2 =>
   rintro l2 E y I K ⟨hJ,a4,O,hz⟩ hK;gi_wp2
   refine hK _ _ ((KeepsOthers.alloc _ _).from _) (cj.of ((Below.refl I.heap.size I).alloc (Cy _) _) (fun k hk=>by omega)) ⟨hJ.alloc _,a4.trans (cj.of ((Below.refl I.heap.size I).alloc (Cy _) _) (fun k hk=>by omega)),O.trans ((KeepsOthers.alloc _ _).from _),by simp;omega⟩ ⟨I.heap.size,by omega,by simp,by simp,rfl⟩
  case body2 =>
   rintro l2 E y aI I _ _ ⟨⟨j1,j2,j3,j4,⟨D,j5,j6⟩,j7,j8⟩,a4,O,hz⟩ ⟨By,ca,aQ,aO,rfl⟩ bA;have a9:CG (jS L T (E++[y])=gZ L y.1 :: jS L T E):=wG L T E y;have bb:=yy L T E;obtain ⟨T',aU⟩:∃T',jS L T E=T':=⟨_,rfl⟩;rw [aU] at j1 j5 j6 a9 bb;clear aU;have al:dR (gZ L y.1):=by rw [vT y.2];exact HE.o.ents _ (Dq y.2)
   obtain ⟨e,he⟩:∃e,gZ L y.1=e:=⟨_,rfl⟩;rw [he] at aQ aO a9 al ⊢;clear he;obtain ⟨R,eq,ed,et,en⟩:=e;simp only at aQ aO;have bp:R.size≤maxLen:=al.1;have U:=Go.WideMaps.keyOf_string_mk (k:=9) Tryz.underlying9 (s:=R) bp;have ba:(Lit.int .i64 eq).wf=true:=al.2.1;have ai:CG (D.atKey (.string R.data.toList) (.lit (.int .i64 0))=.lit (.int .i64 (mJ T' R))):=j5.val R;have br:CG (qL (D.put (.string R.data.toList) (.lit (.int .i64 eq))) ((R,eq,ed,et,en) :: T')):=j5.put (R,eq,ed,et,en);have b4:CG (mJ T' R<eq→eq≤q→dr q ((R,eq,ed,et,en) :: T')=true):=fun h1 h2=>uI j1 h1 h2
   have aw:CG (¬(mJ T' R<eq∧eq≤q)→∀B,dr q (B++(R,eq,ed,et,en) :: T')=false):=fun h B=>uH (e:=(R,eq,ed,et,en)) h
   obtain ⟨c0',aP⟩:∃c0',mJ T' R=c0':=⟨_,rfl⟩;rw [aP] at ai b4 aw;clear aP j5 al;have cR:=j2.cell;have fR:=j2.frozen;have cM:=j3.cell;have aq:CG (Bl w I):=j7;have bt:CG (cj (fun k=>k<W0.heap.size∧k≠w.heap.size+1+1) W I):=a4;have ar:CG (KeepsFrom W0.heap.size W I):=O;have bl:=j7.size;clear j7 a4 O;by_cases bO:eq≤c0'
   · gi_wp2_with (gi_at_lookup;refine wpListIn_lookup_own_int _ rfl _ _ 239 rfl 9 3 .i64 (Maps.string_keyed Tryz.underlying9) Tryz.underlying239 Tryz.underlying3 (Tryz.zeroValue3 _) (w.heap.size+1+1) T'.length _ rfl j6 _ _ rfl U ?_;intro cc hat aY;obtain rfl:c0'=cc:=by (have:=ai.o.symm.trans hat;simpa using this))
     exact ⟨(KeepsOthers.setCell _ _ _).from _,⟨rfl,fun B=>by rw [a9.o];exact aw.o (by omega) B⟩,j2.set _,aq.o.setCell (p:=⟨w.heap.size+1,0,none⟩) (by simp) _,ar.o.trans ((KeepsOthers.setCell _ _ _).from _)⟩
   · by_cases cb:q<eq
     · gi_wp2_with (gi_at_lookup;refine wpListIn_lookup_own_int _ rfl _ _ 239 rfl 9 3 .i64 (Maps.string_keyed Tryz.underlying9) Tryz.underlying239 Tryz.underlying3 (Tryz.zeroValue3 _) (w.heap.size+1+1) T'.length _ rfl j6 _ _ rfl U ?_;intro cc hat aY;obtain rfl:c0'=cc:=by (have:=ai.o.symm.trans hat;simpa using this))
       exact ⟨(KeepsOthers.setCell _ _ _).from _,⟨rfl,fun B=>by rw [a9.o];exact aw.o (by omega) B⟩,j2.set _,aq.o.setCell (p:=⟨w.heap.size+1,0,none⟩) (by simp) _,ar.o.trans ((KeepsOthers.setCell _ _ _).from _)⟩
     · gi_wp2_with (first
        | (gi_at_lookup;refine wpListIn_lookup_own_int _ rfl _ _ 239 rfl 9 3 .i64 (Maps.string_keyed Tryz.underlying9) Tryz.underlying239 Tryz.underlying3 (Tryz.zeroValue3 _) (w.heap.size+1+1) T'.length _ rfl j6 _ _ rfl U ?_;intro cc hat aY;obtain rfl:c0'=cc:=by (have:=ai.o.symm.trans hat;simpa using this))
        | (gi_at_mapUpdate;refine wpListIn_mapUpdate_own _ rfl _ _ _ 239 rfl 9 3 (Maps.string_keyed Tryz.underlying9) Tryz.underlying239 _ (w.heap.size+1+1) T'.length _ rfl j6 ?_ _ _ _ rfl rfl U _ [] (plainElem_int Tryz.underlying3 ba) ?_;unfold maxLen;omega;intro w1 au u))
       refine ⟨KeepsFrom.of_grownBy u (fun j e=>by cases e;simp;omega),cj.grown u (fun k hk=>⟨by omega,fun e=>hk.2 (by cases e;rfl)⟩),⟨?_,bt.o.trans (cj.grown u (fun k hk=>⟨by omega,fun e=>hk.2 (by cases e;rfl)⟩)),ar.o.trans (KeepsFrom.of_grownBy u (fun j e=>by cases e;omega)),C8 hz u.size⟩⟩;rw [a9.o];exact ⟨b4.o (by omega) (by omega),j2.kept u (by simp),j3.kept u (by simp),u.cell j4 (by simp;omega),⟨_,br.o,au⟩,aq.o.grown u bl (fun k e=>by cases e;omega),C8 j8 u.size⟩
  case done2 =>
   rintro bT I rfl ⟨hJ,a4,O,hz⟩;rw [r9] at hJ;gi_wp2
   refine ⟨O,a4,?_⟩;show kO w q W0.heap.size (i8 P (F++[x])) I
   rw [aC.o];exact hJ
  case stop2 =>
   rintro cd E I ah ⟨⟨rfl,aF⟩,bn,bq,O⟩;gi_wp2
   obtain ⟨B0,ax⟩:=yw (T:=T) ah;exact ⟨O,⟨rfl,fun B=>by rw [aC.o,ax,← Di];exact aF _⟩,bn,bq⟩
 case done =>
  rintro D zs W hD rfl ⟨j1,j2,j3,j4,j5,j6,j7⟩ hK;rw [r6] at j1;have cR:=j2.cell;have fR:=j2.frozen;gi_wp2
  have aD:=(KeepsOthers.setCell W ⟨w.heap.size+1,0,none⟩ (.bool true)).same D _ hK rfl;refine ⟨by simp,.inl ⟨_,_,rfl,run_takeDeferred aD,?_⟩⟩;have az:=cell_kept (j2.set (.bool true)).cell (grownBy_putObj' _ D (.deferred none)) (fun r e=>by cases e;exact ⟨_,aD,rfl⟩);refine ⟨.bool true,?_,by rw [j1],(j6.setCell (p:=⟨w.heap.size+1,0,none⟩) (by simp) _).trans (belowK_b (w:=w) (Cy _) _ D _ _ (by omega) aD rfl rfl)⟩;simp [results,Tryz.f198,go_sem,az]
 case stop =>
  rintro D cd F W hD ah ⟨⟨rfl,aF⟩,bm,bs⟩ hK;gi_wp2
  refine ⟨by simp,.inl ⟨_,_,rfl,run_takeDeferred hK,?_⟩⟩;have az:=cell_kept bm.cell (grownBy_putObj' _ D (.deferred none)) (fun r e=>by cases e;exact ⟨_,hK,rfl⟩);obtain ⟨B0,ax⟩:=yr ah;refine ⟨.bool false,?_,by rw [ax,aF],bs.trans (belowK_b (w:=w) (Cy _) W D _ _ (by omega) hK rfl rfl)⟩;simp [results,Tryz.f198,go_sem,az]
end
end Go.Proofs.YtpobkmjicbobdaaGreat
