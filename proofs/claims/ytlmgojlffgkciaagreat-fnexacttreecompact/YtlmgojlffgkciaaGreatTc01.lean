/-
  How a list of runs and a list of levels lie in memory; what that keeps; and how those that came in are opened.
-/
import Derived.Deep.SlicePairs
import Derived.OpenShut
import Derived.Test.YtlmgojlffgkciaaGreatTc00
import Derived.WalkKit
import Derived.WalkSpells
import Derived.WalkLawsBesides
import Derived.Test.YtlmgojlffgkciaaGreatProg
import Derived.Deep.RegionHeld3
import Derived.Deep.DeepCutAuto
import Derived.Lib.Walk
namespace Go.Proofs.YtlmgojlffgkciaaGreat
set_option maxRecDepth 100000
open Go.RowKit Go.Joins Go.ChangeShapes Go.WideShapes
abbrev ae:=List ac × Int
def cQ (lo:Nat) (w:World) (a:Option Addr) (len cap:Nat) (L:List ac):Prop:=af w a len cap L∧∀x,a=some x→0<len→lo≤x.block
theorem cQ.same {lo:Nat} {w w':World} {a:Option Addr} {len cap:Nat} {L:List ac} (h:cQ lo w a len cap L) (hs:bz lo w w'):cQ lo w' a len cap L :=
 ⟨h.1.moved hs.1 (fun x e hp _=>hs.2 _ _ (h.2 x e hp) (h.1.lies x e hp).1),h.2⟩
theorem cQ.mono {lo lo':Nat} {w:World} {a:Option Addr} {len cap:Nat} {L:List ac} (h:cQ lo w a len cap L) (hl:lo'≤lo):cQ lo' w a len cap L:=⟨h.1,fun x e hp=>Nat.le_trans hl (h.2 x e hp)⟩
structure aj (lo:Nat) (w:World) (a:Option Addr) (len cap:Nat) (B:List ae):Prop where
 length:B.length=len
 room:len≤cap
 big:cap≤maxLen
 nil:a=none→len=0
 lies:∀x,a=some x→0<len→x.block<w.heap.size∧x.spot=none∧lo≤x.block
 runs:∀x,a=some x→∀i (h:i<B.length),(Lit.int .i64 B[i].2).wf=true∧∃s n c,w.cell? ⟨x.block,x.off+i*2,none⟩=some (.slice s n c)∧w.cell? ⟨x.block,x.off+i*2+1,none⟩=some (iT B[i].2)∧cQ lo w s n c B[i].1
theorem aj.same {lo:Nat} {w w':World} {a:Option Addr} {len cap:Nat} {B:List ae} (h:aj lo w a len cap B) (hs:bz lo w w'):aj lo w' a len cap B where
 length:=h.length
 room:=h.room
 big:=h.big
 nil:=h.nil
 lies:=fun x e hp=>⟨Nat.lt_of_lt_of_le (h.lies x e hp).1 hs.1,(h.lies x e hp).2⟩
 runs:=fun x e i hi=>by
  obtain ⟨hx,_,hlo⟩:=h.lies x e (by have:=h.length;omega)
  obtain ⟨hw,s,n,c,c0,c1,hL⟩:=h.runs x e i hi
  exact ⟨hw,s,n,c,(hs.2 _ _ hlo hx).trans c0,(hs.2 _ _ hlo hx).trans c1,hL.same hs⟩
theorem aj.keep {lo:Nat} {w w':World} {a:Option Addr} {len cap:Nat} {B:List ae} (h:aj lo w a len cap B) (hb:Bl w w'):aj lo w' a len cap B:=h.same (bz.of_below hb)
theorem aj.mono {lo lo':Nat} {w:World} {a:Option Addr} {len cap:Nat} {B:List ae} (h:aj lo w a len cap B) (hl:lo'≤lo):aj lo' w a len cap B :=
 ⟨h.length,h.room,h.big,h.nil,fun x e hp=>⟨(h.lies x e hp).1,(h.lies x e hp).2.1,Nat.le_trans hl (h.lies x e hp).2.2⟩,fun x e i hi=>by obtain ⟨hw,s,n,c,c0,c1,hL⟩:=h.runs x e i hi;exact ⟨hw,s,n,c,c0,c1,hL.mono hl⟩⟩
theorem aj.form {lo:Nat} {w:World} {a:Option Addr} {len cap:Nat} {B:List ae} (h:aj lo w a len cap B) (hl:1≤len):∃b off,a=some ⟨b,off,none⟩∧b<w.heap.size:=by
 cases a with
 | none=>have:=h.nil rfl;omega
 | some x =>
  obtain ⟨b,off,spot⟩:=x;obtain ⟨h1,h2,_⟩:=h.lies _ rfl (by omega);simp only at h1 h2;subst h2;exact ⟨b,off,rfl,h1⟩
theorem aj.run {lo:Nat} {w wr:World} {b off len cap:Nat} {B:List ae} (h:aj lo w (some ⟨b,off,none⟩) len cap B) (hb:Bl w wr) (k:Nat) (hk:k<len) :
 ∃L m s n c,B[k]?=some (L,m)∧(Lit.int .i64 m).wf=true∧wr.cell? ⟨b,off+k*2,none⟩=some (.slice s n c)∧wr.cell? ⟨b,off+k*2+1,none⟩=some (iT m)∧cQ lo wr s n c L:=by
 have hk':k<B.length:=by rw [h.length];exact hk
 obtain ⟨hw,s,n,c,c0,c1,hL⟩:=(h.keep hb).runs _ rfl k hk';exact ⟨B[k].1,B[k].2,s,n,c,List.getElem?_eq_getElem hk',hw,c0,c1,hL⟩
theorem aj.wfs {lo:Nat} {w:World} {a:Option Addr} {len cap:Nat} {B:List ae} (h:aj lo w a len cap B):∀p ∈ B,(Lit.int .i64 p.2).wf=true:=by
 intro p hp;obtain ⟨j,hj,rfl⟩:=List.getElem_of_mem hp;obtain ⟨b,off,rfl,_⟩:=h.form (by have:=h.length;omega);exact (h.runs _ rfl j hj).1
theorem om (lo:Nat) (w:World):aj lo w none 0 0 []:=⟨rfl,Nat.le_refl _,Nat.zero_le _,fun _=>rfl,(fun x e=>by cases e),(fun x e=>by cases e)⟩
structure aX (lo:Nat) (w:World) (a:Option Addr) (len cap:Nat) (V:List (List ae)):Prop where
 length:V.length=len
 room:len≤cap
 big:cap≤maxLen
 nil:a=none→len=0
 lies:∀x,a=some x→0<len→x.block<w.heap.size∧x.spot=none∧lo≤x.block
 levels:∀x,a=some x→∀i (h:i<V.length),∃s n c,w.cell? ⟨x.block,x.off+i,none⟩=some (.slice s n c)∧aj lo w s n c V[i]
theorem aX.same {lo:Nat} {w w':World} {a:Option Addr} {len cap:Nat} {V:List (List ae)} (h:aX lo w a len cap V) (hs:bz lo w w'):aX lo w' a len cap V where
 length:=h.length
 room:=h.room
 big:=h.big
 nil:=h.nil
 lies:=fun x e hp=>⟨Nat.lt_of_lt_of_le (h.lies x e hp).1 hs.1,(h.lies x e hp).2⟩
 levels:=fun x e i hi=>by
  obtain ⟨hx,_,hlo⟩:=h.lies x e (by have:=h.length;omega)
  obtain ⟨s,n,c,c0,hL⟩:=h.levels x e i hi
  exact ⟨s,n,c,(hs.2 _ _ hlo hx).trans c0,hL.same hs⟩
theorem aX.keep {lo:Nat} {w w':World} {a:Option Addr} {len cap:Nat} {V:List (List ae)} (h:aX lo w a len cap V) (hb:Bl w w'):aX lo w' a len cap V:=h.same (bz.of_below hb)
theorem aX.mono {lo lo':Nat} {w:World} {a:Option Addr} {len cap:Nat} {V:List (List ae)} (h:aX lo w a len cap V) (hl:lo'≤lo):aX lo' w a len cap V :=
 ⟨h.length,h.room,h.big,h.nil,fun x e hp=>⟨(h.lies x e hp).1,(h.lies x e hp).2.1,Nat.le_trans hl (h.lies x e hp).2.2⟩,fun x e i hi=>by obtain ⟨s,n,c,c0,hL⟩:=h.levels x e i hi;exact ⟨s,n,c,c0,hL.mono hl⟩⟩
theorem aX.form {lo:Nat} {w:World} {a:Option Addr} {len cap:Nat} {V:List (List ae)} (h:aX lo w a len cap V) (hl:1≤len):∃b off,a=some ⟨b,off,none⟩∧b<w.heap.size:=by
 cases a with
 | none=>have:=h.nil rfl;omega
 | some x =>
  obtain ⟨b,off,spot⟩:=x;obtain ⟨h1,h2,_⟩:=h.lies _ rfl (by omega);simp only at h1 h2;subst h2;exact ⟨b,off,rfl,h1⟩
theorem aX.level {lo:Nat} {w wr:World} {b off len cap:Nat} {V:List (List ae)} (h:aX lo w (some ⟨b,off,none⟩) len cap V) (hb:Bl w wr) (k:Nat) (hk:k<len) :
 ∃B s n c,V[k]?=some B∧wr.cell? ⟨b,off+k,none⟩=some (.slice s n c)∧aj lo wr s n c B:=by
 have hk':k<V.length:=by rw [h.length];exact hk
 obtain ⟨s,n,c,c0,hL⟩:=(h.keep hb).levels _ rfl k hk';exact ⟨V[k],s,n,c,List.getElem?_eq_getElem hk',c0,hL⟩
theorem xD {H:Type} {enc:TypeId × Value→H} {W:World} {base n0:Nat} {v:Value} {x:DataW H × List MemPlace} {held:Bool}
 (hf:DataW.trod enc Tryz.prog W base (fun _=>true) held n0 89 [v]=some x) :
 ∃(a:Option Addr) (len cap:Nat) (B:List ae),v=.slice a len cap∧aj 0 W a len cap B:=by
 have r4:Tryz.prog.cellsOf 3=1:=by kernel_rfl
 have r5:Tryz.prog.cellsOf 22=1:=by kernel_rfl
 rcases Deep.open_slice_pairs Tryz.underlying89 Tryz.underlying144 Tryz.cellsRunL rfl rfl r5 r4 hf with ⟨hcs,_⟩ | ⟨a,len,cap,mm,n,V0,V1,D0,D1,P0,P1,hcs,hb,hl,hm,hmm,_,hx⟩
 · simp at hcs;subst hcs;exact ⟨none,0,0,[],rfl,om _ _⟩
 · simp at hcs;subst hcs;simp at hmm;have each:∀i,i<mm→∃l:ae,(Lit.int .i64 l.2).wf=true∧∃s n c,W.cell? (a.add (i*2))=some (.slice s n c)∧W.cell? (a.add (i*2+1))=some (iT l.2)∧cQ 0 W s n c l.1:=by
    intro i hi;obtain ⟨c0,c1,t0,t1⟩:=hx i hi;obtain ⟨id,e1,_,wid⟩:=DataW.trod_int Tryz.underlying3 t1;obtain ⟨s,n,c,L,e0,hL⟩:=qf t0;simp at e1;rw [e0] at c0;rw [e1] at c1;exact ⟨(L,id),wid,s,n,c,c0,c1,hL,fun _ _ _=>Nat.zero_le _⟩
   obtain ⟨f,hf'⟩:=Deep.choose_lt each;have spot:0<len→a.spot=none:=fun hp=>by
    obtain ⟨_,s,n,c,c0,_⟩:=hf' 0 (by omega);simpa [Addr.add] using World.cell?_spot c0
   refine ⟨some a,len,cap,(List.range len).map f,rfl,⟨by simp,hl,hm,(fun e=>by cases e),?_,?_⟩⟩
   · rintro x e hp;cases e;refine ⟨?_,spot hp,Nat.zero_le _⟩;obtain ⟨_,s,n,c,c0,_⟩:=hf' 0 (by omega);have:=World.block_lt_of_cell? _ _ c0;simpa [Addr.add] using this
   · rintro x e i hi;cases e;simp at hi;obtain ⟨g,s,n,c,g0,g1,g2⟩:=hf' i (by omega);rw [ou (spot (by omega))] at g0 g1;simp only [List.getElem_map,List.getElem_range];exact ⟨g,s,n,c,g0,by simpa [Nat.add_assoc] using g1,g2⟩
theorem s6 {H:Type} {enc:TypeId × Value→H} {W:World} {base n0:Nat} {v:Value} {x:DataW H × List MemPlace} {held:Bool}
 (hf:DataW.trod enc Tryz.prog W base (fun _=>true) held n0 23 [v]=some x) :
 ∃(a:Option Addr) (len cap:Nat) (V:List (List ae)),v=.slice a len cap∧aX 0 W a len cap V:=by
 have r5:Tryz.prog.cellsOf 89=1:=by kernel_rfl
 rcases Deep.open_slice Tryz.underlying23 hf with ⟨hcs,_⟩ | ⟨a,len,cap,mm,n,D,Pl,hcs,hb,hl,hm,hmm,_,hx⟩
 · simp at hcs;subst hcs;exact ⟨none,0,0,[],rfl,⟨rfl,Nat.le_refl _,Nat.zero_le _,fun _=>rfl,(fun x e=>by cases e),(fun x e=>by cases e)⟩⟩
 · simp at hcs;subst hcs;simp at hmm;rw [r5] at hx;have each:∀i,i<mm→∃B:List ae,∃s n c,W.cell? (a.add i)=some (.slice s n c)∧aj 0 W s n c B:=by
    intro i hi;obtain ⟨cs',g1,g2⟩:=hx i hi;obtain ⟨_,hlen,hcell⟩:=World.cells?_some g1;match cs',hlen with
    | [u0],_ =>
     have k0:=hcell 0 (by omega);rw [Deep.add_add] at k0;obtain ⟨s,n,c,B,e0,hB⟩:=xD g2;subst e0;exact ⟨B,s,n,c,by simpa using k0,hB⟩
   obtain ⟨f,hf'⟩:=Deep.choose_lt each;have spot:0<len→a.spot=none:=fun hp=>by
    obtain ⟨s,n,c,c0,_⟩:=hf' 0 (by omega);simpa [Addr.add] using World.cell?_spot c0
   refine ⟨some a,len,cap,(List.range len).map f,rfl,⟨by simp,hl,hm,(fun e=>by cases e),?_,?_⟩⟩
   · rintro x e hp;cases e;refine ⟨?_,spot hp,Nat.zero_le _⟩;obtain ⟨s,n,c,c0,_⟩:=hf' 0 (by omega);have:=World.block_lt_of_cell? _ _ c0;simpa [Addr.add] using this
   · rintro x e i hi;cases e;simp at hi;obtain ⟨s,n,c,g0,g2⟩:=hf' i (by omega);rw [ou (spot (by omega))] at g0;simp only [List.getElem_map,List.getElem_range];exact ⟨s,n,c,g0,g2⟩
structure aM (lo:Nat) (w:World) (am:Option Addr) (nm cm:Nat) (av:Option Addr) (nv cv:Nat) (ak:Option Addr) (ns cs:Nat) (M:List ac) (V:List (List ae)) (S:List Int):Prop where
 mem:cQ lo w am nm cm M
 levels:aX lo w av nv cv V
 snaps:aT lo w ak ns cs S
theorem aM.same {lo:Nat} {w w':World} {am av ak:Option Addr} {nm cm nv cv ns cs:Nat} {M:List ac} {V:List (List ae)} {S:List Int} (h:aM lo w am nm cm av nv cv ak ns cs M V S) (hs:bz lo w w'):aM lo w' am nm cm av nv cv ak ns cs M V S:=⟨h.mem.same hs,h.levels.same hs,h.snaps.same hs⟩
theorem aM.keep {lo:Nat} {w w':World} {am av ak:Option Addr} {nm cm nv cv ns cs:Nat} {M:List ac} {V:List (List ae)} {S:List Int} (h:aM lo w am nm cm av nv cv ak ns cs M V S) (hb:Bl w w'):aM lo w' am nm cm av nv cv ak ns cs M V S:=h.same (bz.of_below hb)
theorem Tryz.cellsTreeL:Tryz.prog.cellsOf 26=4:=by kernel_rfl
theorem xC {H:Type} {enc:TypeId × Value→H} {W:World} {b0 base:Nat} {v:Value} {d:DataW H} {p:List MemPlace} {held:Bool}
 (hv:Value.okWide Tryz.prog W .any b0 26 v) (h:DataW.Trod enc Tryz.prog W base (fun _=>true) held 26 v d p) :
 ∃(q:Int) (am:Option Addr) (nm cm:Nat) (av:Option Addr) (nv cv:Nat) (ak:Option Addr) (ns cs:Nat) (M:List ac) (V:List (List ae)) (S:List Int),v=.agg #[iT q,.slice am nm cm,.slice av nv cv,.slice ak ns cs]∧((Lit.int .i64 q).wf=true∧aM 0 W am nm cm av nv cv ak ns cs M V S):=by
 obtain ⟨c0,c1,c2,c3,y0,y1,y2,y3,m,rfl,_,_,hy0,hy1,hy2,hy3⟩:=open_agg4 Tryz.underlying26 (by kernel_rfl) Tryz.cellsTreeL hv h;obtain ⟨q,e0,_,wid⟩:=DataW.trod_int Tryz.underlying3 hy0;simp at e0;subst e0;obtain ⟨am,nm,cm,M,rfl,hM⟩:=qf hy1;obtain ⟨av,nv,cv,V,rfl,hV⟩:=s6 hy2;obtain ⟨ak,ns,cs,S,rfl,hS⟩:=xE hy3;exact ⟨q,am,nm,cm,av,nv,cv,ak,ns,cs,M,V,S,rfl,wid,⟨hM,fun _ _ _=>Nat.zero_le _⟩,hV,hS⟩
end Go.Proofs.YtlmgojlffgkciaaGreat

namespace Go.Proofs.YtlmgojlffgkciaaGreat
open Go.RowKit
def cy (M:List ac) (q:Int):Bool:=M.all (fun e=>decide (e.2.1≤q))
theorem rV {M:List ac} {q:Int} {k:Nat} {e:ac} (h:cy (M.take k) q=true) (hk:M[k]?=some e) (he:e.2.1≤q):cy (M.take (k+1)) q=true:=by
 unfold cy at h ⊢;rw [List.take_add_one,hk];simp only [Option.toList,List.all_append,h,List.all_cons,List.all_nil,Bool.and_true,Bool.true_and];exact decide_eq_true he
theorem wW {M:List ac} {q:Int} {k:Nat} {e:ac} (hk:M[k]?=some e) (he:¬e.2.1≤q):cy M q=false:=by
 unfold cy;rw [Bool.eq_false_iff];intro h;rw [List.all_eq_true] at h;exact he (of_decide_eq_true (h e (List.mem_of_getElem? hk)))
def cT (S:List Int) (q:Int) (i:Nat):Bool :=
 match S[i]? with
 | none=>true
 | some s=>decide (0≤s) && (decide (s≤q) && (match i with | 0=>true | j+1=>match S[j]? with | none=>true | some p=>decide (p<s)))
def iY (S:List Int) (q:Int) (k:Nat):Prop:=∀j,j<k→cT S q j=true
def dl (S:List Int) (q:Int):Bool:=decide (S.length≤4) && (List.range S.length).all (cT S q)
theorem uy {S:List Int} {q:Int} (h:4<S.length):dl S q=false:=by
 unfold dl;rw [decide_eq_false (by omega)];rfl
theorem gX {S:List Int} {q:Int} {k:Nat} (hk:k<S.length) (h:cT S q k=false):dl S q=false:=by
 unfold dl;rw [Bool.and_eq_false_iff];right
 rw [Bool.eq_false_iff];intro h1;rw [List.all_eq_true] at h1;rw [h1 k (List.mem_range.2 hk)] at h;cases h
theorem pX {S:List Int} {q:Int} (h:iY S q S.length):dl S q=decide (S.length≤4):=by
 unfold dl;have:(List.range S.length).all (cT S q)=true:=by
  rw [List.all_eq_true];intro j hj;exact h j (List.mem_range.1 hj)
 rw [this,Bool.and_true]
theorem iB {S:List Int} {q:Int} {k:Nat} (h:iY S q k) (hk:cT S q k=true):iY S q (k+1):=by
 intro j hj;by_cases e:j=k
 · subst e;exact hk
 · exact h j (by omega)
theorem pY {S:List Int} {q s:Int} (h:S[0]?=some s):cT S q 0=(decide (0≤s) && decide (s≤q)):=by
 unfold cT;rw [h];simp
theorem pZ {S:List Int} {q s p:Int} {j:Nat} (h:S[j+1]?=some s) (hp:S[j]?=some p):cT S q (j+1)=(decide (0≤s) && (decide (s≤q) && decide (p<s))):=by
 unfold cT;simp only [h,hp]
theorem sG {S:List Int} {q s:Int} {k:Nat} (h:S[k]?=some s) (hs:s<0):cT S q k=false:=by
 unfold cT;rw [h];simp only;rw [decide_eq_false (by omega)];rfl
theorem p6 {S:List Int} {q s:Int} {k:Nat} (h:S[k]?=some s) (hs:q<s):cT S q k=false:=by
 unfold cT;rw [h];simp only;rw [decide_eq_false (p:=s≤q) (by omega)];simp
end Go.Proofs.YtlmgojlffgkciaaGreat

namespace Go.Proofs.YtlmgojlffgkciaaGreat
open Go.RowKit
set_option maxHeartbeats 400000 in
theorem eo (s:ByteArray) (w:World) (hs:s.size≤maxLen) :
 Calls Tryz.prog 165 #[.string s] w fun e w'=>e=.returned (.bool (eX s))∧w'=w:=by
 unfold maxLen at hs;go_enter Tryz.func165,Tryz.ntmps165
 go_wp2;go_loop [3] (fun i=>∃k:Nat,k≤s.size∧i=iT k∧(s.data.toList.take k).all gG=true) (fun i=>s.size - (intOf i).toNat)
 case atStart=>exact ⟨0,Nat.zero_le _,rfl,rfl⟩
 case round =>
  obtain ⟨k,hk,rfl,hall⟩:=hrel;have HA:Hid ((s.data.toList.take k).all gG=true):=hall;clear hall;by_cases hlt:k<s.size
  · cases hb:gG s[k] with
    | true =>
     have h3:=qm hb;have HB:Hid (gG s[k]=true):=hb;clear hb;rcases h3 with ⟨h31,h32⟩ | ⟨h31,h32⟩
     · go_wp2;go_round
       case rel=>exact ⟨k+1,by omega,by go_num,gU s k hlt HA.out HB.out⟩
       case measure=>simp [intOf];omega
     · go_wp2;go_round
       case rel=>exact ⟨k+1,by omega,by go_num,gU s k hlt HA.out HB.out⟩
       case measure=>simp [intOf];omega
    | false =>
     have h3:=oR hb;have HB:Hid (gG s[k]=false):=hb;clear hb;rcases h3 with h3 | ⟨h3,h4⟩ | h3
     · go_wp2;go_ret;exact ⟨aq (gh s k hlt HB.out).symm,rfl⟩
     · go_wp2;go_ret;exact ⟨aq (gh s k hlt HB.out).symm,rfl⟩
     · go_wp2;go_ret;exact ⟨aq (gh s k hlt HB.out).symm,rfl⟩
  · go_wp2;all_goals
     go_ret;refine ⟨aq ?_,rfl⟩;rw [mP s k (by omega) HA.out];first | exact AG _ (by omega) | exact Bq _ (by omega)
set_option maxHeartbeats 400000 in
theorem xM (b:Int) (w:World) (h:(97≤b∧b≤122)∨(47≤b∧b≤57)):Calls Tryz.prog 198 #[.int .u8 b] w fun e w'=>e=.returned (.bool true)∧w'=w:=by
 rcases h with ⟨h1,h2⟩ | ⟨h1,h2⟩
 · go_enter Tryz.func198,Tryz.ntmps198
   go_wp2;all_goals
    go_ret;exact ⟨rfl,rfl⟩
 · by_cases h3:b=47
   · subst h3;go_enter Tryz.func198,Tryz.ntmps198
     go_wp2;all_goals
      go_ret;exact ⟨rfl,rfl⟩
   · have h4:48≤b:=by omega
     go_enter Tryz.func198,Tryz.ntmps198
     go_wp2;all_goals
      go_ret;exact ⟨rfl,rfl⟩
set_option maxHeartbeats 400000 in
theorem zJ (b:Int) (w:World) (h:b<47∨(57<b∧b<97)∨122<b):Calls Tryz.prog 198 #[.int .u8 b] w fun e w'=>e=.returned (.bool false)∧w'=w:=by
 have hd:(b == 47)=false:=by rw [beq_eq_false_iff_ne];omega
 have hd':¬b=47:=by omega
 rcases h with h | ⟨h,h'⟩ | h
 · go_enter Tryz.func198,Tryz.ntmps198
   go_wp2;all_goals
    go_ret;exact ⟨aq (by first | rfl | (simp;omega) | simp),rfl⟩
 · go_enter Tryz.func198,Tryz.ntmps198
   go_wp2;all_goals
    go_ret;exact ⟨aq (by first | rfl | (simp;omega) | simp),rfl⟩
 · go_enter Tryz.func198,Tryz.ntmps198
   go_wp2;all_goals
    go_ret;exact ⟨aq (by first | rfl | (simp;omega) | simp),rfl⟩
set_option maxHeartbeats 400000 in
theorem fH (s:ByteArray) (w:World) (hs:s.size≤maxLen) :
 Calls Tryz.prog 175 #[.string s] w fun e w'=>e=.returned (.bool (eX s))∧w'=w:=by
 unfold maxLen at hs;by_cases h1:s.size<1
 · go_enter Tryz.func175,Tryz.ntmps175
   go_wp2;go_ret;exact ⟨aq (uY s h1).symm,rfl⟩
 by_cases h4:8<s.size
 · go_enter Tryz.func175,Tryz.ntmps175
   go_wp2;go_ret;exact ⟨aq (zH s h4).symm,rfl⟩
 go_enter Tryz.func175,Tryz.ntmps175
 go_wp2;go_loop [14] (fun i=>∃k:Nat,k≤s.size∧i=iT k∧(s.data.toList.take k).all gG=true) (fun i=>s.size - (intOf i).toNat)
 case atStart=>exact ⟨0,Nat.zero_le _,rfl,rfl⟩
 case round =>
  obtain ⟨k,hk,rfl,hall⟩:=hrel;have HA:Hid ((s.data.toList.take k).all gG=true):=hall;clear hall;by_cases hlt:k<s.size
  · cases hb:gG s[k] with
    | true =>
     have h3:=qm hb;have H3:Hid ((97≤((s[k]).toNat:Int)∧((s[k]).toNat:Int)≤122)∨(47≤((s[k]).toNat:Int)∧((s[k]).toNat:Int)≤57)):=h3;have HB:Hid (gG s[k]=true):=hb;clear hb h3;go_wp2_with (go_at_call 198;refine (xM _ _ H3.out).mono ?_;rintro e w' ⟨rfl,rfl⟩)
     go_round
     case rel=>exact ⟨k+1,by omega,by go_num,gU s k hlt HA.out HB.out⟩
     case measure=>simp [intOf];omega
    | false =>
     have h3:=oR hb;have H3:Hid (((s[k]).toNat:Int)<47∨(57<((s[k]).toNat:Int)∧((s[k]).toNat:Int)<97)∨122<((s[k]).toNat:Int)):=h3;have HB:Hid (gG s[k]=false):=hb;clear hb h3;go_wp2_with (go_at_call 198;refine (zJ _ _ H3.out).mono ?_;rintro e w' ⟨rfl,rfl⟩)
     go_ret;exact ⟨aq (gh s k hlt HB.out).symm,rfl⟩
  · go_wp2;go_ret;exact ⟨aq (zI s (by omega) (by omega) k (by omega) HA.out).symm,rfl⟩
end Go.Proofs.YtlmgojlffgkciaaGreat

namespace Go.Proofs.YtlmgojlffgkciaaGreat
open Go.RowKit
set_option maxHeartbeats 400000 in
theorem vQ (k t:ByteArray) (q d n:Int) (w:World) (hs:k.size≤maxLen) (ht:t.size≤maxLen) :
 Calls Tryz.prog 114 #[.agg #[.string k,iT q,iT d,.string t,iT n]] w fun e w'=>e=.returned (.bool (dc k q d t n))∧Bl w w':=by
 have ht':=ht;unfold maxLen at ht';cases hk:eX k with
 | false =>
  go_enter Tryz.func114,Tryz.ntmps114
  go_wp2_with (first | (go_at_call 165;refine (eo _ _ hs).mono ?_;rintro e w' ⟨rfl,rfl⟩) | go_in)
  go_ret;exact ⟨aq (tN hk).symm,bZ⟩
 | true =>
  by_cases h1:q<1
  · go_enter Tryz.func114,Tryz.ntmps114
    go_wp2_with (first | (go_at_call 165;refine (eo _ _ hs).mono ?_;rintro e w' ⟨rfl,rfl⟩) | go_in)
    go_ret;exact ⟨aq (wy h1).symm,bZ⟩
  by_cases h2:100000<q
  · go_enter Tryz.func114,Tryz.ntmps114
    go_wp2_with (first | (go_at_call 165;refine (eo _ _ hs).mono ?_;rintro e w' ⟨rfl,rfl⟩) | go_in)
    go_ret;exact ⟨aq (ww h2).symm,bZ⟩
  by_cases h3:n < -1000000
  · go_enter Tryz.func114,Tryz.ntmps114
    go_wp2_with (first | (go_at_call 165;refine (eo _ _ hs).mono ?_;rintro e w' ⟨rfl,rfl⟩) | go_in)
    go_ret;exact ⟨aq (wH h3).symm,bZ⟩
  by_cases h4:1000000<n
  · go_enter Tryz.func114,Tryz.ntmps114
    go_wp2_with (first | (go_at_call 165;refine (eo _ _ hs).mono ?_;rintro e w' ⟨rfl,rfl⟩) | go_in)
    go_ret;exact ⟨aq (wG h4).symm,bZ⟩
  by_cases h5:60<t.size
  · go_enter Tryz.func114,Tryz.ntmps114
    go_wp2_with (first | (go_at_call 165;refine (eo _ _ hs).mono ?_;rintro e w' ⟨rfl,rfl⟩) | go_in)
    go_ret;exact ⟨aq (Ad h5).symm,bZ⟩
  by_cases d1:d=1
  · subst d1;go_enter Tryz.func114,Tryz.ntmps114
    go_wp2_with (first | (go_at_call 165;refine (eo _ _ hs).mono ?_;rintro e w' ⟨rfl,rfl⟩) | go_in)
    go_ret;refine ⟨aq ?_,bZ⟩;rw [dX hk (by omega) (by omega) (by omega) (by omega) (by omega)];exact nz.symm
  by_cases d2:d=2
  · subst d2;by_cases t0:t=ByteArray.empty
    · subst t0;by_cases n0:n=0
      · subst n0;go_enter Tryz.func114,Tryz.ntmps114
        go_wp2_with (first | (go_at_call 165;refine (eo _ _ hs).mono ?_;rintro e w' ⟨rfl,rfl⟩) | go_in)
        go_ret;refine ⟨aq ?_,bZ⟩;rw [dX hk (by omega) (by omega) (by omega) (by omega) (by omega)];rw [gN];rfl
      · have n1:(n == 0)=false:=by simpa using n0
        go_enter Tryz.func114,Tryz.ntmps114
        go_wp2_with (first | (go_at_call 165;refine (eo _ _ hs).mono ?_;rintro e w' ⟨rfl,rfl⟩) | go_in)
        go_ret;refine ⟨aq ?_,bZ⟩;rw [dX hk (by omega) (by omega) (by omega) (by omega) (by omega)];rw [gN];simp [n0]
    · have t1:=eZ t0;have t2:=jK t0;go_enter Tryz.func114,Tryz.ntmps114
      go_wp2_with (first | (go_at_call 165;refine (eo _ _ hs).mono ?_;rintro e w' ⟨rfl,rfl⟩) | go_in)
      go_ret;refine ⟨aq ?_,bZ⟩;rw [dX hk (by omega) (by omega) (by omega) (by omega) (by omega)];rw [gN];simp [t1]
  by_cases d3:d=3
  · subst d3;by_cases t0:t=ByteArray.empty
    · subst t0;go_enter Tryz.func114,Tryz.ntmps114
      go_wp2_with (first | (go_at_call 165;refine (eo _ _ hs).mono ?_;rintro e w' ⟨rfl,rfl⟩) | go_in)
      go_ret;refine ⟨aq ?_,bZ⟩;rw [dX hk (by omega) (by omega) (by omega) (by omega) (by omega)];rw [lG];rfl
    · have t1:=eZ t0;have t2:=jK t0;go_enter Tryz.func114,Tryz.ntmps114
      go_wp2_with (first | (go_at_call 165;refine (eo _ _ hs).mono ?_;rintro e w' ⟨rfl,rfl⟩) | go_in)
      go_ret;refine ⟨aq ?_,bZ⟩;rw [dX hk (by omega) (by omega) (by omega) (by omega) (by omega)];rw [lG];simp [t1,t2]
  have e1:(d == 1)=false:=by simpa using d1
  have e2:(d == 2)=false:=by simpa using d2
  have e3:(d == 3)=false:=by simpa using d3
  go_enter Tryz.func114,Tryz.ntmps114
  go_wp2_with (first | (go_at_call 165;refine (eo _ _ hs).mono ?_;rintro e w' ⟨rfl,rfl⟩) | go_in)
  go_ret;refine ⟨aq ?_,bZ⟩;rw [dX hk (by omega) (by omega) (by omega) (by omega) (by omega)];exact (nC d1 d2 d3).symm
end Go.Proofs.YtlmgojlffgkciaaGreat

namespace Go.Proofs.YtlmgojlffgkciaaGreat
open Go.RowKit
set_option maxRecDepth 100000
set_option maxHeartbeats 1000000
theorem qH (W:World) (x y:Value) (t b:Nat) (hb:b=W.heap.size):(W.alloc (.cells #[x,y] t)).drew.cell? ⟨b,0,none⟩=some x:=by subst hb;simp
theorem qG (W:World) (x y:Value) (t b:Nat) (hb:b=W.heap.size):(W.alloc (.cells #[x,y] t)).drew.cell? ⟨b,1,none⟩=some y:=by subst hb;simp
theorem nS (a b:ByteArray) (w:World) :
 Calls Tryz.prog 183 #[.string a,.string b] w fun e w'=>e=.returned (iT (Lib.compareBytes a.data.toList b.data.toList))∧w'=w:=by
 go_enter Tryz.func183,Tryz.ntmps183
 go_wp2;rw [run_callFunc_extern Tryz.func221 (by kernel_rfl) (by kernel_rfl) (by kernel_rfl) (e:=Extern.BytealgCompare.compare) (by kernel_rfl),Lib.run_compareString];simp only [Result.andThen];rw [Oper.upon_value];go_wp2;go_ret;exact ⟨rfl,rfl⟩
theorem kS (x y:Int) (w:World) :
 Calls Tryz.prog 174 #[iT x,iT y] w fun e w'=>e=.returned (iT (Lib.compareInt x y))∧w'=w:=by
 by_cases h1:x<y
 · go_enter Tryz.func174,Tryz.ntmps174
   go_wp2;go_ret;exact ⟨by simp [Lib.compareInt,h1],rfl⟩
 · by_cases h2:x > y
   · have h2':y<x:=h2;go_enter Tryz.func174,Tryz.ntmps174
     go_wp2;go_ret;exact ⟨by simp [Lib.compareInt,h1,h2],rfl⟩
   · have h3:x=y:=by omega
     subst h3;go_enter Tryz.func174,Tryz.ntmps174
     go_wp2;go_ret;exact ⟨by simp [Lib.compareInt],rfl⟩
theorem Al (x y:Int) (b c:Nat) (w:World) (g0:w.cell? ⟨b,0,none⟩=some (iT x)) (g1:w.cell? ⟨b,1,none⟩=some (iT y)) :
 Calls Tryz.prog 182 #[sL b 2 c] w fun e w'=>e=.returned (iT (if x=0 then y else x))∧w'=w:=by
 go_enter Tryz.func182,Tryz.ntmps182
 go_wp2;go_loop [8] (fun i=>(i=iT 0)∨(i=iT 1∧x=0)∨(i=iT 2∧x=0∧y=0)) (fun i=>2 - (intOf i).toNat)
 case atStart=>exact Or.inl rfl
 case round =>
  rcases hrel with rfl | ⟨rfl,rfl⟩ | ⟨rfl,rfl,rfl⟩
  · by_cases h0:x=0
    · subst h0;go_wp2;go_round
      case rel=>exact Or.inr (Or.inl ⟨by go_num,trivial⟩)
      case measure=>simp [intOf]
    · have h0':(x != 0)=true:=by simpa using h0
      go_wp2;go_ret;exact ⟨rfl,rfl⟩
  · by_cases h0:y=0
    · subst h0;go_wp2;go_round
      case rel=>exact Or.inr (Or.inr ⟨by go_num,trivial,trivial⟩)
      case measure=>simp [intOf]
    · have h0':(y != 0)=true:=by simpa using h0
      go_wp2;go_ret;exact ⟨rfl,rfl⟩
  · go_wp2;go_ret;exact ⟨rfl,rfl⟩
def ic (ka:ByteArray) (qa:Int) (kb:ByteArray) (qb:Int):Int:=if Lib.compareBytes ka.data.toList kb.data.toList=0 then Lib.compareInt qb qa else Lib.compareBytes ka.data.toList kb.data.toList
theorem qr (ka ta kb tb:ByteArray) (qa da na qb db nb:Int) (w:World) :
 Calls Tryz.prog 145 #[.agg #[.string ka,iT qa,iT da,.string ta,iT na],.agg #[.string kb,iT qb,iT db,.string tb,iT nb]] w fun e w'=>e=.returned (iT (ic ka qa kb qb))∧Bl w w':=by
 obtain ⟨C,hC⟩:=ay (Lib.compareBytes ka.data.toList kb.data.toList);obtain ⟨D,hD⟩:=ay (Lib.compareInt qb qa);have c1:∀w,Calls Tryz.prog 183 #[.string ka,.string kb] w fun e w'=>e=.returned (iT C)∧w'=w:=by rw [hC];exact nS ka kb
 have c2:∀w,Calls Tryz.prog 174 #[iT qb,iT qa] w fun e w'=>e=.returned (iT D)∧w'=w:=by rw [hD];exact kS qb qa
 obtain ⟨O,hO⟩:=ay (if C=0 then D else C);have c3:∀b c w,w.cell? ⟨b,0,none⟩=some (iT C)→w.cell? ⟨b,1,none⟩=some (iT D)→Calls Tryz.prog 182 #[sL b 2 c] w fun e w'=>e=.returned (iT O)∧w'=w:=by
  rw [hO];exact fun b c w g0 g1=>Al C D b c w g0 g1
 unfold ic;rw [← hC,← hD,← hO];clear hC hD hO;go_enter Tryz.func145,Tryz.ntmps145
 go_wp2_with fail
 obtain ⟨X,hX⟩:=ay w.heap.size;obtain ⟨W,hW⟩:=ay ((w.alloc (.cells #[.string ka,iT qa,iT da,.string ta,iT na] 78)).alloc (.cells #[.string kb,iT qb,iT db,.string tb,iT nb] 78));have x0:W.cell? ⟨X,0,none⟩=some (.string ka):=by rw [hW,hX];simp
 have x1:W.cell? ⟨X,1,none⟩=some (iT qa):=by rw [hW,hX];simp
 have y0:W.cell? ⟨X+1,0,none⟩=some (.string kb):=by rw [hW,hX];simp
 have y1:W.cell? ⟨X+1,1,none⟩=some (iT qb):=by rw [hW,hX];simp
 have kW:Bl w W:=by rw [hW];exact bZ.alloc (by simp) _
 rw [← hW,← hX];clear hW hX;have HKW:Hid (Bl w W):=kW;clear kW;have k0:Bl W W.drew:=(Below.refl _ W).drew;have HMK:Hid (∀w',Bl W w'→(w'.cell? ⟨X,0,none⟩=some (.string ka)∧w'.cell? ⟨X,1,none⟩=some (iT qa)∧w'.cell? ⟨X+1,0,none⟩=some (.string kb)∧w'.cell? ⟨X+1,1,none⟩=some (iT qb)∧Bl W w')):=fun w' k=>⟨cell_later k x0,cell_later k x1,cell_later k y0,cell_later k y1,k⟩
 go_region_held3 (fun w'=>w'.cell? ⟨X,0,none⟩=some (.string ka)∧w'.cell? ⟨X,1,none⟩=some (iT qa)∧w'.cell? ⟨X+1,0,none⟩=some (.string kb)∧w'.cell? ⟨X+1,1,none⟩=some (iT qb)∧Bl W w') (first | exact HMK.out _ k0 | exact HMK.out _ ((Below.refl _ W).alloc (Nat.le_refl _) _).drew | exact HMK.out _ (k0.alloc (Nat.le_refl _) _)) (first
  | (go_at_call 183;refine (c1 _).mono ?_;rintro e w' ⟨rfl,rfl⟩)
  | (go_at_call 174;refine (c2 _).mono ?_;rintro e w' ⟨rfl,rfl⟩)
  | (go_at_call 182;refine (c3 _ _ _ (qH _ _ _ _ _ (by simp)) (qG _ _ _ _ _ (by simp))).mono ?_;rintro e w' ⟨rfl,rfl⟩))
 go_wp2;go_ret;exact ⟨rfl,HKW.out.trans (((Below.refl _ W).alloc (Nat.le_refl _) _).drew.mono HKW.out.size)⟩
theorem iJ (ka kb:ByteArray) (qa qb:Int):decide (ic ka qa kb qb<0)=bQ ka qa kb qb:=by
 unfold bQ ic Lib.compareInt;rcases ip ka.data.toList kb.data.toList with ⟨h,h1,h2⟩ | ⟨h,h1,h2⟩ | ⟨h,h1,h2⟩
 · rw [h,h1];rfl
 · have:ka=kb:=by
    apply ByteArray.ext;exact Array.toList_inj.1 h2
   subst this;rw [h,h1];by_cases g:qb<qa
   · simp [g]
   · by_cases g':qb > qa <;> simp [g,g']
 · have:¬ka=kb:=fun e=>h2 (by rw [e])
   rw [h,h1];simp [this]
theorem oV (ka ta kb tb:ByteArray) (qa da na qb db nb:Int) (w:World) :
 Calls Tryz.prog 160 #[.agg #[.string ka,iT qa,iT da,.string ta,iT na],.agg #[.string kb,iT qb,iT db,.string tb,iT nb]] w fun e w'=>e=.returned (.bool (bQ ka qa kb qb))∧Bl w w':=by
 go_enter Tryz.func160,Tryz.ntmps160
 go_wp2_with fail
 refine (qr _ _ _ _ _ _ _ _ _ _ _).mono ?_;rintro e w1 ⟨rfl,hb1⟩;go_wp2;go_ret;exact ⟨aq (iJ ka kb qa qb),(bZ.alloc (by simp) _).trans (hb1.mono (by simp;omega))⟩
theorem ml (a:List UInt8):Op.bytesLess a a=false:=by
 rcases ip a a with ⟨_,_,h⟩ | ⟨_,h,_⟩ | ⟨_,h,_⟩
 · exact absurd rfl h
 · exact h
 · exact h
theorem sj (ka ta kb tb:ByteArray) (qa da na qb db nb:Int) (w:World) :
 Calls Tryz.prog 115 #[.agg #[.string ka,iT qa,iT da,.string ta,iT na],.agg #[.string kb,iT qb,iT db,.string tb,iT nb]] w fun e w'=>e=.returned (.bool (bQ ka qa kb qb))∧Bl w w':=by
 by_cases he:ka=kb
 · subst he;have hl:Op.bytesLess ka.toList ka.toList=false:=ml _;by_cases hq:qb<qa
   · go_enter Tryz.func115,Tryz.ntmps115
     go_wp2;go_ret;refine ⟨aq ?_,bZ.alloc (by simp) _⟩;unfold bQ;rw [ml];simp [hq]
   · go_enter Tryz.func115,Tryz.ntmps115
     go_wp2;go_ret;refine ⟨aq ?_,bZ.alloc (by simp) _⟩;unfold bQ;rw [ml];simp [hq]
 · have hne:¬ka.toList=kb.toList:=by
    rw [ByteArray.toList_eq,ByteArray.toList_eq];intro h;exact he (ByteArray.ext (Array.toList_inj.1 h))
   cases hl:Op.bytesLess ka.toList kb.toList with
   | true =>
    go_enter Tryz.func115,Tryz.ntmps115
    go_wp2;go_ret;refine ⟨aq ?_,bZ.alloc (by simp) _⟩;unfold bQ;rw [ByteArray.toList_eq,ByteArray.toList_eq] at hl;simp [hl]
   | false =>
    go_enter Tryz.func115,Tryz.ntmps115
    go_wp2;go_ret;refine ⟨aq ?_,bZ.alloc (by simp) _⟩;unfold bQ;rw [ByteArray.toList_eq,ByteArray.toList_eq] at hl;simp [hl,he]
end Go.Proofs.YtlmgojlffgkciaaGreat
