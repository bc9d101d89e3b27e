/- Walks. -/
import Derived.Laws.AppendOwnNone
import Derived.Lib.AppendZerosOnto
import Derived.Lib.AppendZeros
import Derived.Test.YtpobkmjicbobdaaGreatBc10
import Derived.Shelf.LaysM
import Derived.Shelf.Strconv.Clone
import Derived.Laws.CopyOwn
import Derived.Lib.SlBytesRow
import Derived.Laws.IdiomCopy
import Derived.Test.YtpobkmjicbobdaaGreatBc09
import Derived.RangeFuncNested
import Derived.RangeFuncBound
import Derived.RangeFuncCalls
import Derived.RangeFuncLeaves
import Derived.RangeFuncBox
import Derived.Shelf.Abstract
import Derived.Shelf.RegionOpen
import Derived.OwnWalkIn
import Derived.TacticsInMore
import Derived.LoopNIn
import Derived.LoopIn
import Derived.Maps.OwnIn
namespace Go.Proofs.YtpobkmjicbobdaaGreat
set_option maxRecDepth 100000
set_option maxHeartbeats 40000000
open Go.RowKit Go.Shelf
variable {X base k lo n₀:Nat} {d q:Int} {s:ByteArray} {v:Value} {w w' w0:World} {xs:List Value}
def oO (w:World) (v:Value) (n:Nat) (xs:List Value):Prop :=
 xs.length=n*2∧(∀u ∈ xs,u.oneCell'=true)∧((v=nZ∧n=0)∨∃b o c,v=sO b o n c∧∀j u,xs[j]?=some u→w.cell? ⟨b,o+j,none⟩=some u)
theorem oO.keep {n:Nat} (h:oO w v n xs) (hb:Bl w w'):oO w' v n xs:=by
 obtain ⟨h1,h2,h3⟩:=h;refine ⟨h1,h2,?_⟩;rcases h3 with h | ⟨b,o,c,hv,hc⟩
 · exact .inl h
 · exact .inr ⟨b,o,c,hv,fun j u e=>cell_later hb (hc j u e)⟩
def lT (w:World) (xs:List Value) (B:List aj):Prop :=
 xs.length=B.length*2∧∀i (p:aj),B[i]?=some p→(Lit.int .i64 p.2).wf=true∧∃s n c,xs[i*2]?=some (.slice s n c)∧xs[i*2+1]?=some (iT p.2)∧fm 0 w s n c p.1
theorem lT.keep {B:List aj} (h:lT w xs B) (hb:Bl w w'):lT w' xs B :=
 ⟨h.1,fun i p hp=>by obtain ⟨h1,s,n,c,h2,h3,h4⟩:=h.2 i p hp;exact ⟨h1,s,n,c,h2,h3,h4.same (iq.of_below hb)⟩⟩
theorem lT.one {B:List aj} (h:lT w xs B):∀u ∈ xs,u.oneCell'=true:=by
 intro u e;obtain ⟨j,b,rfl⟩:=F7 e;have hB:j / 2<B.length:=by have:=h.1;omega
 obtain ⟨_,s,n,c,h2,h3,_⟩:=h.2 (j / 2) _ (j' hB);rcases Nat.mod_two_eq_zero_or_one j with hm | hm
 · rw [show j / 2*2=j by omega,j' b] at h2;rw [Fx h2];rfl
 · rw [show j / 2*2+1=j by omega,j' b] at h3;rw [Fx h3];rfl
theorem lT.app {b:List Value} {A B:List aj} (h:lT w xs A) (k:lT w b B):lT w (xs++b) (A++B):=by
 have hl:=h.1;have e:=k.1;refine ⟨by rw [Fy,Fy,hl,e];omega,fun i p hp=>?_⟩;by_cases hi:i<A.length
 · rw [FE hi] at hp;rw [FE (by omega),FE (by omega)];exact h.2 i p hp
 · rw [Fz (by omega)] at hp;rw [Fz (by omega),Fz (by omega),show i*2 - xs.length=(i - A.length)*2 by omega,show i*2+1 - xs.length=(i - A.length)*2+1 by omega];exact k.2 _ p hp
theorem jr {n:Nat} {B:List aj} (h:w.ownsRow base 63 2 v n xs) (d:lT w xs B):∃a c,v=.slice a n c∧az 0 w a n c B:=by
 have hn:B.length=n:=by have h1:=h.1;have h2:=d.1;omega
 rcases h.2 with ⟨hv,h0⟩ | ⟨g,f,o,hv,_⟩
 · subst hv h0;obtain rfl:=Gk.1 hn;exact ⟨none,0,rfl,ww 0 w⟩
 · subst hv;have b:=cZ h;refine ⟨_,f,rfl,hn,b.1,b.2,(fun e=>by cases e),?_,?_⟩
   · rintro x e _;cases e;exact ⟨(h.lt g rfl).2,rfl,FB _⟩
   · rintro x e i hi;cases e;obtain ⟨h1,s,m,c,h2,h3,h4⟩:=d.2 i _ (j' hi);refine ⟨h1,s,m,c,?_,?_,h4⟩
     · simp only [FG];exact (h.cellAt _ (by omega)).trans h2
     · simp only [FG];exact (h.cellAt _ (by omega)).trans h3
theorem az.raw {b o n c:Nat} {B:List aj} (h:az lo w (some ⟨b,o,none⟩) n c B):∃xs,lT w xs B∧oO w (sO b o n c) n xs:=by
 have hl:=h.length;refine ⟨(List.range (n*2)).map (fun j=>(w.cell? ⟨b,o+j,none⟩).getD (iT 0)),?_⟩;have hat:∀i (hi:i<B.length),(Lit.int .i64 B[i].2).wf=true∧∃s f c',w.cell? ⟨b,o+i*2,none⟩=some (.slice s f c')∧w.cell? ⟨b,o+(i*2+1),none⟩=some (iT B[i].2)∧fm lo w s f c' B[i].1:=fun i hi=>by
  have:=h.runs _ rfl i hi;simpa [G9] using this
 have hd:lT w ((List.range (n*2)).map (fun j=>(w.cell? ⟨b,o+j,none⟩).getD (iT 0))) B:=by
  refine ⟨by simp [hl],fun i p hp=>?_⟩;have hi:=(E'.1 hp).1;have g:=(E'.1 hp).2;obtain ⟨h1,s,f,c',h2,h3,h4⟩:=hat i hi;rw [g] at h1 h3 h4;refine ⟨h1,s,f,c',?_,?_,h4.mono (FB _)⟩
  · rw [Hs,List.getElem?_range (by omega)];simp [h2]
  · rw [Hs,List.getElem?_range (by omega)];simp [h3]
 refine ⟨hd,by simp,hd.one,.inr ⟨b,o,c,rfl,fun j u e=>?_⟩⟩;have m:j<n*2:=by have:=(E'.1 e).1;simpa using this
 rw [Hs,List.getElem?_range m] at e;simp only [Option.map_some] at e;have hi:j / 2<B.length:=by omega
 obtain ⟨h1,s,f,c',h2,h3,h4⟩:=hat (j / 2) hi;rcases Nat.mod_two_eq_zero_or_one j with hm | hm
 · rw [show j / 2*2=j by omega] at h2;rw [h2] at e ⊢;simpa using e
 · rw [show j / 2*2+1=j by omega] at h3;rw [h3] at e ⊢;simpa using e
def Tryz.laysM316_ren : Go.Shelf.Ren := ⟨fun | 316 => 216 | n => n, fun | 9 => 9 | 3 => 3 | 4 => 4 | 37 => 38 | 0 => 0 | 127 => 247 | 5 => 5 | n => n, fun | n => n⟩
theorem Tryz.laysM316 : Go.Proofs.LaysM.n316 Tryz.prog Tryz.laysM316_ren := {
  mixed := by kernel_rfl
  f316 := Tryz.func216.trans (congrArg some (by kernel_rfl))
  t0 := Tryz.underlying0
  a0 := Tryz.isAgg0
  z0 := Tryz.sizeOf0
  v0 := Tryz.zeroValue0
  t3 := Tryz.underlying3
  a3 := Tryz.isAgg3
  z3 := Tryz.sizeOf3
  v3 := Tryz.zeroValue3
  t4 := Tryz.underlying4
  a4 := Tryz.isAgg4
  z4 := Tryz.sizeOf4
  v4 := Tryz.zeroValue4
  t9 := Tryz.underlying9
  a9 := Tryz.isAgg9
  z9 := Tryz.sizeOf9
  v9 := Tryz.zeroValue9
  t37 := Tryz.underlying38
  a37 := Tryz.isAgg38
  z37 := Tryz.sizeOf38
  v37 := Tryz.zeroValue38
  t127 := Tryz.underlying247
  a127 := Tryz.isAgg247
  z127 := Tryz.sizeOf247
  v127 := Tryz.zeroValue247
  t5 := Tryz.underlying5
  a5 := Tryz.isAgg5
  z5 := Tryz.sizeOf5
  v5 := Tryz.zeroValue5
  i0 := by kernel_rfl
  i3 := by kernel_rfl
  i4 := by kernel_rfl
  i5 := by kernel_rfl
  i9 := by kernel_rfl
  i37 := by kernel_rfl
  i127 := by kernel_rfl }
open Go.RowKit in
/-- internal/stringslite.Clone (what strings.Clone calls): "Clone returns a fresh copy of s.": THE SAME BYTES. Of what was there nothing has turned (a new row is laid, and frozen, where s is not empty). (LAID: no walk: one application.) -/
theorem Tryz.stringslite_Clone (s : ByteArray) (w : World) (b : s.size ≤ 281474976710656) :
    Calls Tryz.prog 216 #[.string s] w fun e w' => e = .returned (.string s) ∧ Below w.heap.size w w' := Any.stringslite_Clone Tryz.laysM316 s w b
theorem pl (s:ByteArray) (w:World) (h:s.size≤281474976710656) :
 Calls Tryz.prog 171 #[.string s] w fun e w'=>e=.returned (.string s)∧Bl w w':=by
 go_enter Tryz.func171,Tryz.ntmps171
 go_wp2_with fail
 refine (Tryz.stringslite_Clone s _ h).mono ?_;rintro e f ⟨rfl,b⟩;go_wp2;go_ret;exact ⟨rfl,b⟩
structure im (w0 w:World) (X:Nat) (s t:ByteArray) (q d n:Int):Prop where
 low:Below X w0 w
 c0:w.cell? ⟨X,0,none⟩=some (.string s)
 c1:w.cell? ⟨X,1,none⟩=some (iT q)
 c2:w.cell? ⟨X,2,none⟩=some (iT d)
 c3:w.cell? ⟨X,3,none⟩=some (.string t)
 c4:w.cell? ⟨X,4,none⟩=some (iT n)
 fr:∀o,w.frozen? ⟨X,o,none⟩=false
theorem im.lt {t:ByteArray} {n:Int} (h:im w0 w X s t q d n):X<w.heap.size:=Fu _ _ h.c0
theorem im.all {t:ByteArray} {n:Int}(h:im w0 w X s t q d n):w.cell? ⟨X,0,none⟩=some (.string s)∧w.cell? ⟨X,1,none⟩=some (iT q)∧w.cell? ⟨X,2,none⟩=some (iT d)∧w.cell? ⟨X,3,none⟩=some (.string t)∧w.cell? ⟨X,4,none⟩=some (iT n)∧(∀o,w.frozen? ⟨X,o,none⟩=false)∧X<w.heap.size:=⟨h.c0,h.c1,h.c2,h.c3,h.c4,h.fr,h.lt⟩
theorem im.call {t:ByteArray} {n:Int} (h:im w0 w X s t q d n) (hb:Bl w w'):im w0 w' X s t q d n :=
 ⟨h.low.trans (hb.mono (Hp h.lt)),cell_later hb h.c0,cell_later hb h.c1,cell_later hb h.c2,cell_later hb h.c3,cell_later hb h.c4,fun o=>(hb.frozen (p:=⟨X,o,none⟩) h.lt).trans (h.fr o)⟩
theorem im.drew {t:ByteArray} {n:Int} (h:im w0 w X s t q d n):im w0 w.drew X s t q d n:=h.call (Below.refl _ w).drew
theorem im.store0 {t:ByteArray} {n:Int} (h:im w0 w X s t q d n):im w0 (w.setCell ⟨X,0,none⟩ (.string s)) X s t q d n :=
 ⟨h.low.setCell (p:=⟨X,0,none⟩) (Fv _) _,FD _ _ _ (by rw [h.c0];rfl),by rw [Ft _ _ _ _ (by simp)];exact h.c1,by rw [Ft _ _ _ _ (by simp)];exact h.c2,by rw [Ft _ _ _ _ (by simp)];exact h.c3,by rw [Ft _ _ _ _ (by simp)];exact h.c4,fun o=>by rw [FS];exact h.fr o⟩
theorem im.store3 {t:ByteArray} {n:Int} (h:im w0 w X s t q d n):im w0 (w.setCell ⟨X,3,none⟩ (.string t)) X s t q d n :=
 ⟨h.low.setCell (p:=⟨X,3,none⟩) (Fv _) _,by rw [Ft _ _ _ _ (by simp)];exact h.c0,by rw [Ft _ _ _ _ (by simp)];exact h.c1,by rw [Ft _ _ _ _ (by simp)];exact h.c2,FD _ _ _ (by rw [h.c3];rfl),by rw [Ft _ _ _ _ (by simp)];exact h.c4,fun o=>by rw [FS];exact h.fr o⟩
theorem im.new (w:World) (T:TypeId) (s t:ByteArray) (q d n:Int):im w (w.alloc (.cells #[.string s,iT q,iT d,.string t,iT n] T)) w.heap.size s t q d n :=
 ⟨bZ,by simp,by simp,by simp,by simp,by simp,fun o=>Hh w _ _ o⟩
theorem lO (a:Option Addr) (len J:Nat) (L:List ae) (w:World) (hL:ah w a len J L) (hbig:len≤1048576) (H:∀e ∈ L,e.1.size≤281474976710656∧e.2.2.2.1.size≤281474976710656) :
 Calls Tryz.prog 149 #[.slice a len J] w fun e w'=>e=.returned (sL (w.heap.size) len len)∧ag w' w.heap.size w.heap.size len len L∧w.heap.size<w'.heap.size∧Bl w w':=by
 have r:Eq (L.length=len):=hL.length;have y:Eq (∀l ∈ L,dR l):=hL.ents;have Y:=bT H;have HL:=bT hL;clear hL H;obtain ⟨i0,hi,Q,N,a1⟩:=info_parts Tryz.infoEnt;go_enter Tryz.func149,Tryz.ntmps149
 go_wp2_with (at_make;refine wpList_make_full _ rfl _ _ 28 rfl w.heap.size 50 i0 _ 5 Tryz.underlying28 hi Q N .i64 .i64 _ _ len rfl rfl (by simp) (by simp) (by rw [a1];omega) (by unfold maxLen;omega) (Fv _) ?_;intro w1 hown hgrow)
 have D:Bl w w1:=(Below.refl _ _).grown hgrow (Fv _) (by simp);have I:w.heap.size<w1.heap.size:=(hown.lt _ rfl).2;go_loopw [11] (fun i wr=>∃(k:Nat) (xs:List Value),k≤len∧i=iT k∧wr.ownsRow w.heap.size 50 5 (sL (w.heap.size) len len) len xs∧Bl w wr∧(∀j l,j<k→L[j]?=some l→jw xs j l)) (fun i _=>len - (intOf i).toNat)
 case atStart=>exact ⟨0,_,FB _,rfl,hown,D,fun j l h=>absurd h (Gy _)⟩
 case round =>
  obtain ⟨k,xs,hk,rfl,ho,hb,hrow⟩:=hrel;have x:Eq (∀j l,j<k→L[j]?=some l→jw xs j l):=hrow;clear hrow hown hgrow D I;by_cases a3:k<len
  · obtain ⟨b,ai,rfl,Z⟩:=HL.o.form (by omega);obtain ⟨s,q,d,t,n,hg,U,g0,g1,g2,g3,g4⟩:=HL.o.ent hb Z k a3;have HG:Eq (L[k]?=some (s,q,d,t,n)):=hg;obtain ⟨hs,ht⟩:=Y.o _ (Fw hg);simp only at hs ht;clear hg U;have A:Eq (xs.length=len*5):=ho.1;have HO:Eq (wr.ownsRow w.heap.size 50 5 (sL (w.heap.size) len len) len xs):=ho;have a2:=(ho.lt w.heap.size rfl).2;clear ho;go_wp2_with fail
    obtain ⟨X,F⟩:=aG wr.heap.size;obtain ⟨W,O⟩:=aG (wr.alloc (.cells #[.string s,iT q,iT d,.string t,iT n] 50));have kW:im wr W X s t q d n:=by rw [O,F];exact im.new wr 50 s t q d n
    have ad:w.heap.size<X:=by rw [F];exact a2
    have T:Eq (X=wr.heap.size):=F;rw [← O,← F];clear O F;have k0:im wr W.drew X s t q d n:=kW.drew;have m:Eq (∀w',im wr w' X s t q d n→(w'.cell? ⟨X,0,none⟩=some (.string s)∧w'.cell? ⟨X,3,none⟩=some (.string t))):=fun w' kk=>⟨kk.c0,kk.c3⟩
    refine eJ m k0 fun u=>?_
    refine aP 0 2 u ?_;refine aP 3 2 u ?_;refine aQ 2 fun K hK=>?_
    go_simp;refine (pl _ _ hs).mono ?_;rintro e w1 ⟨rfl,b1⟩;have k1:=k0.call b1;go_wp2_with fail
    refine hK.o _ _ (m.o _ k1) fun u=>?_
    (try go_frame);refine aP 6 1 u ?_;refine aQ 5 fun K hK=>?_
    go_simp;refine (pl _ _ ht).mono ?_;rintro e w2 ⟨rfl,b2⟩;have k2:=k1.call b2;go_wp2_with fail
    refine hK.o _ _ (m.o _ k2) fun u=>?_
    (try go_frame);refine aQ 7 fun K hK=>?_
    have c3:=k2.c0;have f3:=k2.fr 0;go_simp;have k3:=k2.store0;clear c3 f3;refine hK.o _ _ (m.o _ k3) fun u=>?_
    (try go_frame);refine aP 8 1 u ?_;refine aQ 9 fun K hK=>?_
    have c4:=k3.c3;have f4:=k3.fr 3;go_simp;have B:=k3.store3;clear c4 f4;refine hK.o _ _ (m.o _ B) fun u=>?_
    (try go_frame);refine dN ?_;obtain ⟨W4,C⟩:=aG (((w2.setCell ⟨X,0,none⟩ (.string s)).setCell ⟨X,3,none⟩ (.string t)));rw [← C] at B ⊢;have g:Bl wr W4:=by have:=B.low;rw [T.o] at this;exact this
    have z0:=B.all;have K4:Eq (im wr W4 X s t q d n):=B;clear C k1 k2 k3 B k0 kW b1 b2 m u;have f:W4.ownsRow w.heap.size 50 5 (sL (w.heap.size) len len) len xs:=HO.o.kept (row:=none) ⟨g.os,g.tape,g.output,g.size,fun k hk _=>g.block k hk⟩ (.inr (by simp [Value.ownBlock]));have c0:∃v,W4.cell? ⟨w.heap.size,k*5,none⟩=some v:=⟨_,(f.cellAt _ (by omega)).trans (j' (by rw [A.o];omega))⟩;have c1:∃v,W4.cell? ⟨w.heap.size,k*5+1,none⟩=some v:=⟨_,(f.cellAt _ (by omega)).trans (j' (by rw [A.o];omega))⟩;have c2:∃v,W4.cell? ⟨w.heap.size,k*5+2,none⟩=some v:=⟨_,(f.cellAt _ (by omega)).trans (j' (by rw [A.o];omega))⟩;have c3:∃v,W4.cell? ⟨w.heap.size,k*5+3,none⟩=some v:=⟨_,(f.cellAt _ (by omega)).trans (j' (by rw [A.o];omega))⟩;have c4:∃v,W4.cell? ⟨w.heap.size,k*5+4,none⟩=some v:=⟨_,(f.cellAt _ (by omega)).trans (j' (by rw [A.o];omega))⟩;obtain ⟨v0,c0⟩:=c0;obtain ⟨v1,c1⟩:=c1;obtain ⟨v2,c2⟩:=c2;obtain ⟨v3,c3⟩:=c3;obtain ⟨v4,c4⟩:=c4;have f0:W4.frozen? ⟨w.heap.size,k*5,none⟩=false:=f.frozenAt _;have f1:W4.frozen? ⟨w.heap.size,k*5+1,none⟩=false:=f.frozenAt _;have f2:W4.frozen? ⟨w.heap.size,k*5+2,none⟩=false:=f.frozenAt _;have f3:W4.frozen? ⟨w.heap.size,k*5+3,none⟩=false:=f.frozenAt _;have f4:W4.frozen? ⟨w.heap.size,k*5+4,none⟩=false:=f.frozenAt _;have R:Eq (W4.ownsRow w.heap.size 50 5 (sL (w.heap.size) len len) len xs):=f;clear f;go_wp2;go_roundw
    case rel =>
     have t0:=R.o.stored (k*5) (.string s);have t1:=t0.1.stored (k*5+1) (iT q);have t2:=t1.1.stored (k*5+2) (iT d);have t3:=t2.1.stored (k*5+3) (.string t);have t4:=t3.1.stored (k*5+4) (iT n);refine ⟨k+1,_,by omega,by go_num,t4.1,?_,?_⟩
     · exact (((((hb.trans (g.mono hb.size)).setCell (p:=⟨w.heap.size,_,none⟩) (Fv _) _).setCell (p:=⟨w.heap.size,_,none⟩) (Fv _) _).setCell (p:=⟨w.heap.size,_,none⟩) (Fv _) _).setCell (p:=⟨w.heap.size,_,none⟩) (Fv _) _).setCell (p:=⟨w.heap.size,_,none⟩) (Fv _) _
     · intro j l hj hl;by_cases E:j=k
       · subst E;rw [HG.o] at hl;cases hl;exact jJ s t q d n (by rw [A.o];omega)
       · exact jc (x.o j l (by omega) hl) E _ _ _ _ _
    case measure=>simp [intOf];omega
  · go_wp2;go_ret;exact ⟨rfl,⟨by rw [← pB (xs:=xs) (L:=L) (by rw [r.o];exact ho.1) (fun j l hl=>x.o j l (by have:=(E'.1 hl).1;rw [r.o] at this;omega) hl)];exact ho,r.o,y.o⟩,(ho.lt _ rfl).2,hb⟩
theorem Aq (lo:Nat) (w:World) (a:Option Addr):fm lo w a 0 0 []:=⟨⟨rfl,Fv _,FB _,by simp,fun _=>rfl,(fun x e hp=>absurd hp (H7 _)),(fun x e i hi=>by simp at hi)⟩,(fun x e hp=>absurd hp (H7 _))⟩
def xV (L:List ae):Prop:=∀e ∈ L,e.1.size≤281474976710656∧e.2.2.2.1.size≤281474976710656
def o8 (B:List aj):Prop:=∀p ∈ B,xV p.1
theorem Es (w:World) (a0 a1 a2:Option Addr) (b c0 e c1 n2 c2:Nat):(Instr.index 80 (.agg #[.slice a0 b c0,.slice a1 e c1,.slice a2 n2 c2]) (iT 0)).run Tryz.prog w=.ok (.slice a0 b c0) w:=by
 simp [Instr.index,run_underlying Tryz.underlying80,asIntOf,go_sem,Tryz.isAgg61,Tryz.sizeOf61,part]
theorem Er (w:World) (a0 a1 a2:Option Addr) (e c0 b c1 n2 c2:Nat):(Instr.index 80 (.agg #[.slice a0 e c0,.slice a1 b c1,.slice a2 n2 c2]) (iT 1)).run Tryz.prog w=.ok (.slice a1 b c1) w:=by
 simp [Instr.index,run_underlying Tryz.underlying80,asIntOf,go_sem,Tryz.isAgg61,Tryz.sizeOf61,part]
theorem Ep (w:World) (a0 a1 a2:Option Addr) (e c0 b c1 n2 c2:Nat):(Instr.index 80 (.agg #[.slice a0 e c0,.slice a1 b c1,.slice a2 n2 c2]) (iT 2)).run Tryz.prog w=.ok (.slice a2 n2 c2) w:=by
 simp [Instr.index,run_underlying Tryz.underlying80,asIntOf,go_sem,Tryz.isAgg61,Tryz.sizeOf61,part]
theorem ay.same {g t sz:Nat} (h:ay w g t sz) (hf:w'.heap[g]?=w.heap[g]?):ay w' g t sz:=by
 obtain ⟨b,h1,h2⟩:=h;exact ⟨b,hf.trans h1,h2⟩
def EE (e:ae):Prop:=e.1.size≤281474976710656∧e.2.2.2.1.size≤281474976710656
def lV (B:List aj):Nat:=(B.map fun p=>p.1.length).sum
def De (V:List (List aj)):Nat:=(V.map fun B=>lV B+B.length).sum
def E8 (B:List aj):Prop:=∀p ∈ B,∀e ∈ p.1,EE e
theorem A3 {B:List aj} {p:aj} (h:B[k]?=some p):lV (B.take (k+1))=lV (B.take k)+p.1.length:=by
 rw [FU,h];simp [lV]
theorem cj.lowR {b:Nat} {n f e:Option Addr} {r g m t o cs:Nat} {M:List ae} {V:List (List aj)} {S:List Int} (h:cj lo w n r g f m t e o cs M V S) (hl:b≤lo):cj b w n r g f m t e o cs M V S:=⟨h.mem.mono hl,h.levels.mono hl,h.snaps.lower hl⟩
structure bJ (K:Nat→Prop) (w w':World):Prop where
 os:w'.os=w.os
 tape:w'.tape=w.tape
 output:w'.output=w.output
 size:w.heap.size≤w'.heap.size
 block:∀k,K k→w'.heap[k]?=w.heap[k]?
theorem bJ.of {K:Nat→Prop} (h:Below n₀ w w') (hK:∀k,K k→k<n₀):bJ K w w':=⟨h.os,h.tape,h.output,h.size,fun k hk=>h.block k (hK k hk)⟩
theorem bJ.refl (K:Nat→Prop) (w:World):bJ K w w:=⟨rfl,rfl,rfl,Fv _,fun _ _=>rfl⟩
theorem bJ.trans {K:Nat→Prop} {a b c:World} (h:bJ K a b) (k:bJ K b c):bJ K a c :=
 ⟨k.os.trans h.os,k.tape.trans h.tape,k.output.trans h.output,FK h.size k.size,fun i hi=>(k.block i hi).trans (h.block i hi)⟩
theorem bJ.cell {K:Nat→Prop} (h:bJ K w w') {p:Addr} (hp:K p.block):w'.cell? p=w.cell? p:=Gc (w:=w) (h.block p.block hp)
theorem bJ.grown {K:Nat→Prop} {row:Option Nat} (hg:w.grownBy w' row) (hK:∀k,K k→k<w.heap.size∧some k≠row):bJ K w w':=⟨hg.os,hg.tape,hg.output,hg.size,fun k hk=>hg.block k (hK k hk).1 (hK k hk).2⟩
theorem oY {K:Nat→Prop} (hK:∀k,K k→k<w.heap.size) (W:World) (l:Nat) (o b:Obj) (hl:w.heap.size≤l) (h:W.heap[l]?=some o) (hc:o.isCells=false) (hw:o.isWalk=false):bJ K W (W.putObj l b) :=
 bJ.of (belowK_b (n₀:=w.heap.size) (w:=w) (Fv _) W l o b hl h hc hw) hK
theorem ah.keepS {K:Nat→Prop} {a:Option Addr} {len b:Nat} {L:List ae} (h:ah w a len b L) (hk:bJ K w w') (hK:∀x,a=some x→0<len→K x.block):ah w' a len b L :=
 h.moved hk.size (fun x e hp o=>hk.cell (p:=⟨x.block,o,none⟩) (hK x e hp))
section
attribute [local go_sem] Gi
def b7 (n k:Nat):List (Fin n):=((List.finRange n).drop k).reverse
theorem qA (n:Nat):b7 n n=[]:=by simp [b7]
theorem down_step {n:Nat} (h:k<n):b7 n k=b7 n (k+1)++[⟨k,h⟩]:=by
 unfold b7;rw [Gj (by simpa using h)];simp
theorem qx (n k:Nat):b7 n k <+: b7 n 0:=by
 unfold b7;rw [List.drop_zero];exact List.reverse_prefix.2 (List.drop_suffix _ _)
theorem mw (n k:Nat):(b7 n k).length=n - k:=by simp [b7]
def E4 (K:Nat→Prop) (w:World) (a:Option Addr) (len:Nat) (u0 u1 u2 u3 u4:Nat→Value):Prop:=∀b o,a=some ⟨b,o,none⟩→1≤len→K b∧∀i,i<len→w.cell? ⟨b,o+i*5,none⟩=some (u0 i)∧w.cell? ⟨b,o+i*5+1,none⟩=some (u1 i)∧w.cell? ⟨b,o+i*5+2,none⟩=some (u2 i)∧w.cell? ⟨b,o+i*5+3,none⟩=some (u3 i)∧w.cell? ⟨b,o+i*5+4,none⟩=some (u4 i)
theorem AE (n l t:Nat) (K:Nat→Prop) (hn:1≤n) (a:Option Addr) (len r:Nat) (u0 u1 u2 u3 u4:Nat→Value) (J L:List (Fin len)→World→Prop) (W:World)
 (hY:∀f (x:Fin len) I,J f I→f.length<len→YieldAt Fence.wide (n - 1) Tryz.prog l #[iT (x.1:Nat),.agg #[u0 x.1,u1 x.1,u2 x.1,u3 x.1,u4 x.1]] I fun e u =>
  (e=.returned (.bool true)∧J (f++[x]) u∧bJ K I u)∨(e=.returned (.bool false)∧L (f++[x]) u))
 (hKB:K t) (hp0:W.cell? ⟨t,0,none⟩=some (.slice a len r)) (hs:1≤len→∃b o,a=some ⟨b,o,none⟩) (hroom:len≤r) (hbig:r≤maxLen) (hKs:∀k,K k→k<W.heap.size)
 (hV:E4 K W a len u0 u1 u2 u3 u4) (h0:J [] W) :
 CallsIn Fence.wide n Tryz.prog 228 #[.func (.yield l) #[] #[],.pointer (pT t)] W fun e u=>(∃v,e=.returned v) ∧
  ((∃Q,Q=b7 len 0∧J Q u)∨(∃f,f <+: b7 len 0∧L f u)):=by
 unfold maxLen at hbig;have C:=bT hKs;clear hKs;refine callsIn_of_wp Tryz.func228 rfl trivial ?_ rfl;simp only [Tryz.ntmps228,GF,F5,Gz,Nat.reduceAdd,Nat.reduceSub,GJ,GK,GV,GN,Gb,Gd];have wl:IntKind.i64.wrap ((len:Int) - 1)=(len:Int) - 1:=by rw [FQ];unfold wrap64;omega
 gi_wp2
 gi_loopw [3] (fun E wr=>∃k:Nat,k≤len∧E=iT ((k:Int) - 1)∧J (b7 len k) wr∧bJ K W wr) (fun E _=>(intOf E+1).toNat)
 case atStart=>exact ⟨len,Fv _,rfl,by rw [qA];exact h0,bJ.refl _ _⟩
 case round =>
  obtain ⟨k,hk,rfl,A,hb⟩:=hrel;have y:Eq (bJ K W wr):=hb;have Z:=(hb.cell (p:=⟨t,0,none⟩) hKB).trans hp0;have m:=hb.size;have a0:t<wr.heap.size:=u' (C.o t hKB) m;cases k with
  | zero =>
   gi_wp2
   go_end0;exact ⟨⟨_,rfl⟩,.inl ⟨_,rfl,A⟩⟩
  | succ j =>
   have hj:((j+1:Nat):Int) - 1=(j:Int):=by omega
   rw [hj];have a3:(j:Int)<(len:Int):=by omega
   have g:j<len:=by omega
   have a1:(0:Int)≤(j:Int):=by omega
   have wj:IntKind.i64.wrap ((j:Int) - 1)=(j:Int) - 1:=by rw [FQ];unfold wrap64;omega
   obtain ⟨b,o,rfl⟩:=hs (by omega);obtain ⟨hKb,B⟩:=hV b o rfl (by omega);have Y:b<wr.heap.size:=u' (C.o b hKb) m;obtain ⟨U,R,T,N,O⟩:=B j g;have c0:=(y.o.cell (p:=⟨b,o+j*5,none⟩) hKb).trans U;have c1:=(y.o.cell (p:=⟨b,o+j*5+1,none⟩) hKb).trans R;have c2:=(y.o.cell (p:=⟨b,o+j*5+2,none⟩) hKb).trans T;have c3:=(y.o.cell (p:=⟨b,o+j*5+3,none⟩) hKb).trans N;have c4:=(y.o.cell (p:=⟨b,o+j*5+4,none⟩) hKb).trans O;clear U R T N O;obtain ⟨fn,tmps,assign,body,hy,hR⟩:=hY _ ⟨j,g⟩ _ A (by rw [mw];omega);simp only at hy;clear hb hV B;gi_wp2
   refine hR.mono ?_;rintro e W3 (⟨rfl,F,H⟩ | ⟨rfl,D⟩)
   · gi_wp2
     go_roundw
     case rel=>exact ⟨j,by omega,by go_num,by rw [down_step g];exact F,y.o.trans H⟩
     case measure=>simp [intOf]
   · gi_wp2
     refine bodyPost_ret (results_none rfl _ _ _) rfl ?_;exact ⟨⟨_,rfl⟩,.inr ⟨_,by rw [← down_step g];exact qx _ _,D⟩⟩
theorem CG (n:Nat) (a:Option Addr) (len b:Nat) (w:World) :
 CallsIn Fence.wide n Tryz.prog 191 #[.slice a len b] w fun e w'=>e=.returned (.func (.func 228) #[] #[.pointer (some ⟨w.heap.size,0,none⟩)]) ∧
  w'=w.alloc (.cells #[.slice a len b] 28):=by
 refine callsIn_of_wp Tryz.func191 rfl trivial ?_ rfl;simp only [Tryz.ntmps191,GF,F5,Gz,Nat.reduceAdd,Nat.reduceSub,GJ,GK,GV,GN,Gb,Gd];gi_wp2
 go_ret;exact ⟨rfl,rfl⟩
theorem vB (n:Nat) (hn:1≤n) (m:Nat) (K:Nat→Prop) (a:Option Addr) (len f:Nat) (u0 u1 u2 u3 u4:Nat→Value) (w:World)
 (hKB:K m) (hp0:w.cell? ⟨m,0,none⟩=some (.slice a len f)) (hs:1≤len→∃b o,a=some ⟨b,o,none⟩) (hroom:len≤f) (hbig:f≤maxLen) (hKs:∀k,K k→k<w.heap.size)
 (hV:E4 K w a len u0 u1 u2 u3 u4) :
 SeqStopsK Fence.wide n Tryz.prog 228 #[.pointer (pT m)] (fun x:Fin len=>#[iT (x.1:Nat),.agg #[u0 x.1,u1 x.1,u2 x.1,u3 x.1,u4 x.1]]) (bJ K) (fun D=>D=b7 len 0) (fun r=>r <+: b7 len 0) len w :=
 fun l J t W g _ _ hY h0=>AE n l m K hn a len f u0 u1 u2 u3 u4 J t W hY hKB (cell_later g hp0) hs hroom hbig (fun k hk=>u' (hKs k hk) g.size) (fun b o e h1=>⟨(hV b o e h1).1,fun i hi=>by obtain ⟨C,u,y,A,B⟩:=(hV b o e h1).2 i hi;exact ⟨cell_later g C,cell_later g u,cell_later g y,cell_later g A,cell_later g B⟩⟩) h0
end
section
attribute [local go_sem] Gi
def E3 (K:Nat→Prop) (w:World) (a:Option Addr) (len:Nat) (u0:Nat→Value):Prop:=∀b o,a=some ⟨b,o,none⟩→1≤len→K b∧∀i,i<len→w.cell? ⟨b,o+i,none⟩=some (u0 i)
theorem AD (n l u:Nat) (K:Nat→Prop) (hn:1≤n) (a:Option Addr) (len r:Nat) (u0:Nat→Value) (J I:List (Fin len)→World→Prop) (W:World)
 (hY:∀f (x:Fin len) H,J f H→f.length<len→YieldAt Fence.wide (n - 1) Tryz.prog l #[iT (x.1:Nat),u0 x.1] H fun e t =>
  (e=.returned (.bool true)∧J (f++[x]) t∧bJ K H t)∨(e=.returned (.bool false)∧I (f++[x]) t))
 (hKB:K u) (hp0:W.cell? ⟨u,0,none⟩=some (.slice a len r)) (hs:1≤len→∃b o,a=some ⟨b,o,none⟩) (hroom:len≤r) (hbig:r≤maxLen) (hKs:∀k,K k→k<W.heap.size)
 (hV:E3 K W a len u0) (h0:J [] W) :
 CallsIn Fence.wide n Tryz.prog 252 #[.func (.yield l) #[] #[],.pointer (pT u)] W fun e t=>(∃v,e=.returned v) ∧
  ((∃O,O=b7 len 0∧J O t)∨(∃f,f <+: b7 len 0∧I f t)):=by
 unfold maxLen at hbig;have C:=bT hKs;clear hKs;refine callsIn_of_wp Tryz.func252 rfl trivial ?_ rfl;simp only [Tryz.ntmps252,GF,F5,Gz,Nat.reduceAdd,Nat.reduceSub,GJ,GK,GV,GN,Gb,Gd];have wl:IntKind.i64.wrap ((len:Int) - 1)=(len:Int) - 1:=by rw [FQ];unfold wrap64;omega
 gi_wp2
 gi_loopw [3] (fun D wr=>∃k:Nat,k≤len∧D=iT ((k:Int) - 1)∧J (b7 len k) wr∧bJ K W wr) (fun D _=>(intOf D+1).toNat)
 case atStart=>exact ⟨len,Fv _,rfl,by rw [qA];exact h0,bJ.refl _ _⟩
 case round =>
  obtain ⟨k,hk,rfl,y,hb⟩:=hrel;have L:Eq (bJ K W wr):=hb;have R:=(hb.cell (p:=⟨u,0,none⟩) hKB).trans hp0;have m:=hb.size;have T:u<wr.heap.size:=u' (C.o u hKB) m;cases k with
  | zero =>
   gi_wp2
   go_end0;exact ⟨⟨_,rfl⟩,.inl ⟨_,rfl,y⟩⟩
  | succ j =>
   have Y:((j+1:Nat):Int) - 1=(j:Int):=by omega
   rw [Y];have Z:(j:Int)<(len:Int):=by omega
   have g:j<len:=by omega
   have U:(0:Int)≤(j:Int):=by omega
   have wj:IntKind.i64.wrap ((j:Int) - 1)=(j:Int) - 1:=by rw [FQ];unfold wrap64;omega
   obtain ⟨b,o,rfl⟩:=hs (by omega);obtain ⟨hKb,B⟩:=hV b o rfl (by omega);have Q:b<wr.heap.size:=u' (C.o b hKb) m;have N:=B j g;have c0:=(L.o.cell (p:=⟨b,o+j,none⟩) hKb).trans N;clear N;obtain ⟨fn,tmps,assign,body,hy,hR⟩:=hY _ ⟨j,g⟩ _ y (by rw [mw];omega);simp only at hy;clear hb hV B;gi_wp2
   refine hR.mono ?_;rintro e W3 (⟨rfl,E,F⟩ | ⟨rfl,A⟩)
   · gi_wp2
     go_roundw
     case rel=>exact ⟨j,by omega,by go_num,by rw [down_step g];exact E,L.o.trans F⟩
     case measure=>simp [intOf]
   · gi_wp2
     refine bodyPost_ret (results_none rfl _ _ _) rfl ?_;exact ⟨⟨_,rfl⟩,.inr ⟨_,by rw [← down_step g];exact qx _ _,A⟩⟩
theorem Cz (n:Nat) (a:Option Addr) (len b:Nat) (w:World) :
 CallsIn Fence.wide n Tryz.prog 235 #[.slice a len b] w fun e w'=>e=.returned (.func (.func 252) #[] #[.pointer (some ⟨w.heap.size,0,none⟩)]) ∧
  w'=w.alloc (.cells #[.slice a len b] 102):=by
 refine callsIn_of_wp Tryz.func235 rfl trivial ?_ rfl;simp only [Tryz.ntmps235,GF,F5,Gz,Nat.reduceAdd,Nat.reduceSub,GJ,GK,GV,GN,Gb,Gd];gi_wp2
 go_ret;exact ⟨rfl,rfl⟩
theorem vA (n:Nat) (hn:1≤n) (g:Nat) (K:Nat→Prop) (a:Option Addr) (len f:Nat) (u0:Nat→Value) (w:World)
 (hKB:K g) (hp0:w.cell? ⟨g,0,none⟩=some (.slice a len f)) (hs:1≤len→∃b o,a=some ⟨b,o,none⟩) (hroom:len≤f) (hbig:f≤maxLen) (hKs:∀k,K k→k<w.heap.size)
 (hV:E3 K w a len u0) :
 SeqStopsK Fence.wide n Tryz.prog 252 #[.pointer (pT g)] (fun x:Fin len=>#[iT (x.1:Nat),u0 x.1]) (bJ K) (fun u=>u=b7 len 0) (fun r=>r <+: b7 len 0) len w :=
 fun l J t W m _ _ hY h0=>AD n l g K hn a len f u0 J t W hY hKB (cell_later m hp0) hs hroom hbig (fun k hk=>u' (hKs k hk) m.size) (fun b o e h1=>⟨(hV b o e h1).1,fun i hi=>by exact cell_later m ((hV b o e h1).2 i hi)⟩) h0
def E2 (K:Nat→Prop) (w:World) (a:Option Addr) (len:Nat) (u0 u1:Nat→Value):Prop:=∀b o,a=some ⟨b,o,none⟩→1≤len→K b∧∀i,i<len→w.cell? ⟨b,o+i*2,none⟩=some (u0 i)∧w.cell? ⟨b,o+i*2+1,none⟩=some (u1 i)
theorem AC (n l u:Nat) (K:Nat→Prop) (hn:1≤n) (a:Option Addr) (len r:Nat) (u0 u1:Nat→Value) (J L:List (Fin len)→World→Prop) (W:World)
 (hY:∀f (x:Fin len) I,J f I→f.length<len→YieldAt Fence.wide (n - 1) Tryz.prog l #[iT (x.1:Nat),.agg #[u0 x.1,u1 x.1]] I fun e t =>
  (e=.returned (.bool true)∧J (f++[x]) t∧bJ K I t)∨(e=.returned (.bool false)∧L (f++[x]) t))
 (hKB:K u) (hp0:W.cell? ⟨u,0,none⟩=some (.slice a len r)) (hs:1≤len→∃b o,a=some ⟨b,o,none⟩) (hroom:len≤r) (hbig:r≤maxLen) (hKs:∀k,K k→k<W.heap.size)
 (hV:E2 K W a len u0 u1) (h0:J [] W) :
 CallsIn Fence.wide n Tryz.prog 206 #[.func (.yield l) #[] #[],.pointer (pT u)] W fun e t=>(∃v,e=.returned v) ∧
  ((∃Q,Q=b7 len 0∧J Q t)∨(∃f,f <+: b7 len 0∧L f t)):=by
 unfold maxLen at hbig;have C:=bT hKs;clear hKs;refine callsIn_of_wp Tryz.func206 rfl trivial ?_ rfl;simp only [Tryz.ntmps206,GF,F5,Gz,Nat.reduceAdd,Nat.reduceSub,GJ,GK,GV,GN,Gb,Gd];have wl:IntKind.i64.wrap ((len:Int) - 1)=(len:Int) - 1:=by rw [FQ];unfold wrap64;omega
 gi_wp2
 gi_loopw [3] (fun D wr=>∃k:Nat,k≤len∧D=iT ((k:Int) - 1)∧J (b7 len k) wr∧bJ K W wr) (fun D _=>(intOf D+1).toNat)
 case atStart=>exact ⟨len,Fv _,rfl,by rw [qA];exact h0,bJ.refl _ _⟩
 case round =>
  obtain ⟨k,hk,rfl,y,hb⟩:=hrel;have H:Eq (bJ K W wr):=hb;have T:=(hb.cell (p:=⟨u,0,none⟩) hKB).trans hp0;have m:=hb.size;have U:u<wr.heap.size:=u' (C.o u hKB) m;cases k with
  | zero =>
   gi_wp2
   go_end0;exact ⟨⟨_,rfl⟩,.inl ⟨_,rfl,y⟩⟩
  | succ j =>
   have Z:((j+1:Nat):Int) - 1=(j:Int):=by omega
   rw [Z];have a0:(j:Int)<(len:Int):=by omega
   have g:j<len:=by omega
   have Y:(0:Int)≤(j:Int):=by omega
   have wj:IntKind.i64.wrap ((j:Int) - 1)=(j:Int) - 1:=by rw [FQ];unfold wrap64;omega
   obtain ⟨b,o,rfl⟩:=hs (by omega);obtain ⟨hKb,B⟩:=hV b o rfl (by omega);have R:b<wr.heap.size:=u' (C.o b hKb) m;obtain ⟨O,N⟩:=B j g;have c0:=(H.o.cell (p:=⟨b,o+j*2,none⟩) hKb).trans O;have c1:=(H.o.cell (p:=⟨b,o+j*2+1,none⟩) hKb).trans N;clear O N;obtain ⟨fn,tmps,assign,body,hy,hR⟩:=hY _ ⟨j,g⟩ _ y (by rw [mw];omega);simp only at hy;clear hb hV B;gi_wp2
   refine hR.mono ?_;rintro e W3 (⟨rfl,E,F⟩ | ⟨rfl,A⟩)
   · gi_wp2
     go_roundw
     case rel=>exact ⟨j,by omega,by go_num,by rw [down_step g];exact E,H.o.trans F⟩
     case measure=>simp [intOf]
   · gi_wp2
     refine bodyPost_ret (results_none rfl _ _ _) rfl ?_;exact ⟨⟨_,rfl⟩,.inr ⟨_,by rw [← down_step g];exact qx _ _,A⟩⟩
theorem Cy (n:Nat) (a:Option Addr) (len b:Nat) (w:World) :
 CallsIn Fence.wide n Tryz.prog 155 #[.slice a len b] w fun e w'=>e=.returned (.func (.func 206) #[] #[.pointer (some ⟨w.heap.size,0,none⟩)]) ∧
  w'=w.alloc (.cells #[.slice a len b] 61):=by
 refine callsIn_of_wp Tryz.func155 rfl trivial ?_ rfl;simp only [Tryz.ntmps155,GF,F5,Gz,Nat.reduceAdd,Nat.reduceSub,GJ,GK,GV,GN,Gb,Gd];gi_wp2
 go_ret;exact ⟨rfl,rfl⟩
theorem vz (n:Nat) (hn:1≤n) (g:Nat) (K:Nat→Prop) (a:Option Addr) (len f:Nat) (u0 u1:Nat→Value) (w:World)
 (hKB:K g) (hp0:w.cell? ⟨g,0,none⟩=some (.slice a len f)) (hs:1≤len→∃b o,a=some ⟨b,o,none⟩) (hroom:len≤f) (hbig:f≤maxLen) (hKs:∀k,K k→k<w.heap.size)
 (hV:E2 K w a len u0 u1) :
 SeqStopsK Fence.wide n Tryz.prog 206 #[.pointer (pT g)] (fun x:Fin len=>#[iT (x.1:Nat),.agg #[u0 x.1,u1 x.1]]) (bJ K) (fun A=>A=b7 len 0) (fun r=>r <+: b7 len 0) len w :=
 fun l J t W m _ _ hY h0=>AC n l g K hn a len f u0 u1 J t W hY hKB (cell_later m hp0) hs hroom hbig (fun k hk=>u' (hKs k hk) m.size) (fun b o e h1=>⟨(hV b o e h1).1,fun i hi=>by obtain ⟨y,u⟩:=(hV b o e h1).2 i hi;exact ⟨cell_later m y,cell_later m u⟩⟩) h0
end
def oU (ds:List Nat):List Deferred:=ds.map (fun D=>{ target:=.collected D,args:=#[] })
def dr (base:Nat) (w:World) (ds:List Nat):Prop:=ds.Nodup∧∀D ∈ ds,base≤D∧w.heap[D]?=some (.deferred (some []))
theorem jk {F:Fence} {n base:Nat} {P:Program} {y:Func} {tmps:Array Value} {R:Ending→World→Prop}:∀(r:List Nat) (W:World),dr base W r →
 (∀m,Below base W m→(∀(k:Nat) (o:Obj),W.heap[k]?=some o→o.isCells=true→m.heap[k]?=some o)→LeavesInM F n P y tmps R [] .returning m)→LeavesInM F n P y tmps R (oU r) .returning W
 | [],W,_,h=>h W (Below.refl _ _) (fun _ _ h _=>h)
 | D :: r,W,hm,h=>by
  obtain ⟨g,hD⟩:=hm
  rw [H8] at g
  have hk:=(hD D (FV ..)).2
  have hb:=(hD D (FV ..)).1
  have hB:Below base W (W.putObj D (.deferred none)):=⟨rfl,rfl,rfl,by simp [World.putObj],fun k hk=>World.putObj_heap_other (by omega)⟩
  refine ⟨by simp,.inl ⟨D,_,rfl,run_takeDeferred hk,?_⟩⟩
  refine jk r (W.putObj D (.deferred none)) ⟨g.2,fun t b=>⟨(hD t (FY _ b)).1,?_⟩⟩ (fun m x u=>h m (hB.trans x) (fun k o ho hc=>u k o ?_ hc))
  · have f:t≠D:=fun e=>g.1 (e ▸ b)
    exact (World.putObj_heap_other f).trans (hD t (FY _ b)).2
  · have f:k≠D:=fun e=>by subst e;rw [hk] at ho;cases ho;cases hc
    exact (World.putObj_heap_other f).trans ho
theorem mZ {B:Nat} {W W':World} {t:TypeId} (h:Below n₀ W W') (hv:Boxed W B t v) (b:Boxed W' B t v):bJ (fun k=>k<n₀∨k=B) W W' :=
 ⟨h.os,h.tape,h.output,h.size,fun k hk=>by
  rcases hk with hk | rfl
  · exact h.block k hk
  · exact (show W'.heap[k]?=_ from b).trans (show W.heap[k]?=_ from hv).symm⟩
theorem rY {β:Type} {b:List Nat} {B:Nat} (hB:∀D ∈ b,D<B):OwnFrom B (fun (_:β) W=>dr base W b):=fun _ X Y row hs hg hr =>
 ⟨hs.1,fun D hD=>⟨(hs.2 D hD).1,by
  have h0:=(hs.2 D hD).2
  refine (hg.block D (Gm.1 h0).1 (fun e=>?_)).trans h0
  have:=(hr D e.symm).1
  have:=hB D hD
  omega⟩⟩
theorem dr.others {ds:List Nat} (h:dr base w ds) (hk:KeepsOthers w w'):dr base w' ds:=⟨h.1,fun D hD=>⟨(h.2 D hD).1,hk.same D _ (h.2 D hD).2 rfl⟩⟩
end Go.Proofs.YtpobkmjicbobdaaGreat
