/- Walks. -/
import Derived.Test.YtpobkmjicbobdaaGreatSn00
import Derived.Deep.RegionHeld3
import Derived.Deep.DeepCutAuto
import Derived.Lib.Walk
namespace Go.Proofs.YtpobkmjicbobdaaGreat
set_option maxRecDepth 100000
set_option maxHeartbeats 40000000
open Go.ChangeShapes Go.Joins Go.RowKit Go.WideShapes
variable {L M:List ac} {S:List Int} {a ak am av:Option Addr} {b cap cm cs cv k len lo lo' nm ns nv off:Nat} {e:ac} {q s:Int} {w w' wr:World}
abbrev af:=List ac × Int
def dY (lo:Nat) (w:World) (a:Option Addr) (len cap:Nat) (L:List ac):Prop:=aq w a len cap L∧∀x,a=some x→0<len→lo≤x.block
theorem dY.same (h:dY lo w a len cap L) (hs:cF lo w w'):dY lo w' a len cap L :=
 ⟨h.1.moved hs.1 (fun x e hp _=>hs.2 _ _ (h.2 x e hp) (h.1.lies x e hp).1),h.2⟩
theorem dY.mono (h:dY lo w a len cap L) (hl:lo'≤lo):dY lo' w a len cap L:=⟨h.1,fun x e hp=>Nat.le_trans hl (h.2 x e hp)⟩
structure aw (lo:Nat) (w:World) (a:Option Addr) (len cap:Nat) (B:List af):Prop where
 length:B.length=len
 room:len≤cap
 big:cap≤maxLen
 nil:a=none→len=0
 lies:∀x,a=some x→0<len→x.block<w.heap.size∧x.spot=none∧lo≤x.block
 runs:∀x,a=some x→∀i (h:i<B.length),(Lit.int .i64 B[i].2).wf=true∧∃s n c,w.cell? ⟨x.block,x.off+i*2,none⟩=some (.slice s n c)∧w.cell? ⟨x.block,x.off+i*2+1,none⟩=some (iT B[i].2)∧dY lo w s n c B[i].1
theorem aw.same {B:List af} (h:aw lo w a len cap B) (hs:cF lo w w'):aw lo w' a len cap B where
 length:=h.length
 room:=h.room
 big:=h.big
 nil:=h.nil
 lies:=fun x e hp=>⟨Nat.lt_of_lt_of_le (h.lies x e hp).1 hs.1,(h.lies x e hp).2⟩
 runs:=fun x e i hi=>by
  obtain ⟨hx,_,hlo⟩:=h.lies x e (by have:=h.length;omega)
  obtain ⟨hw,s,n,c,c0,c1,hL⟩:=h.runs x e i hi
  exact ⟨hw,s,n,c,(hs.2 _ _ hlo hx).trans c0,(hs.2 _ _ hlo hx).trans c1,hL.same hs⟩
theorem aw.keep {B:List af} (h:aw lo w a len cap B) (hb:Bl w w'):aw lo w' a len cap B:=h.same (cF.of_below hb)
theorem aw.mono {B:List af} (h:aw lo w a len cap B) (hl:lo'≤lo):aw lo' w a len cap B :=
 ⟨h.length,h.room,h.big,h.nil,fun x e hp=>⟨(h.lies x e hp).1,(h.lies x e hp).2.1,Nat.le_trans hl (h.lies x e hp).2.2⟩,fun x e i hi=>by obtain ⟨hw,s,n,c,c0,c1,hL⟩:=h.runs x e i hi;exact ⟨hw,s,n,c,c0,c1,hL.mono hl⟩⟩
theorem aw.form {B:List af} (h:aw lo w a len cap B) (hl:1≤len):∃b off,a=some ⟨b,off,none⟩∧b<w.heap.size:=by
 cases a with
 | none=>have:=h.nil rfl;omega
 | some x =>
  obtain ⟨b,off,spot⟩:=x;obtain ⟨h1,h2,_⟩:=h.lies _ rfl (by omega);simp only at h1 h2;subst h2;exact ⟨b,off,rfl,h1⟩
theorem aw.run {B:List af} (h:aw lo w (some ⟨b,off,none⟩) len cap B) (hb:Bl w wr) (k:Nat) (hk:k<len) :
 ∃L m s n c,B[k]?=some (L,m)∧(Lit.int .i64 m).wf=true∧wr.cell? ⟨b,off+k*2,none⟩=some (.slice s n c)∧wr.cell? ⟨b,off+k*2+1,none⟩=some (iT m)∧dY lo wr s n c L:=by
 have hk':k<B.length:=by rw [h.length];exact hk
 obtain ⟨hw,s,n,c,c0,c1,hL⟩:=(h.keep hb).runs _ rfl k hk';exact ⟨B[k].1,B[k].2,s,n,c,List.getElem?_eq_getElem hk',hw,c0,c1,hL⟩
theorem aw.wfs {B:List af} (h:aw lo w a len cap B):∀p ∈ B,(Lit.int .i64 p.2).wf=true:=by
 intro p hp;obtain ⟨j,hj,rfl⟩:=List.getElem_of_mem hp;obtain ⟨b,off,rfl,_⟩:=h.form (by have:=h.length;omega);exact (h.runs _ rfl j hj).1
theorem tg (lo:Nat) (w:World):aw lo w none 0 0 []:=⟨rfl,Nat.le_refl _,Nat.zero_le _,fun _=>rfl,(fun x e=>by cases e),(fun x e=>by cases e)⟩
structure bI (lo:Nat) (w:World) (a:Option Addr) (len cap:Nat) (V:List (List af)):Prop where
 length:V.length=len
 room:len≤cap
 big:cap≤maxLen
 nil:a=none→len=0
 lies:∀x,a=some x→0<len→x.block<w.heap.size∧x.spot=none∧lo≤x.block
 levels:∀x,a=some x→∀i (h:i<V.length),∃s n c,w.cell? ⟨x.block,x.off+i,none⟩=some (.slice s n c)∧aw lo w s n c V[i]
theorem bI.same {V:List (List af)} (h:bI lo w a len cap V) (hs:cF lo w w'):bI lo w' a len cap V where
 length:=h.length
 room:=h.room
 big:=h.big
 nil:=h.nil
 lies:=fun x e hp=>⟨Nat.lt_of_lt_of_le (h.lies x e hp).1 hs.1,(h.lies x e hp).2⟩
 levels:=fun x e i hi=>by
  obtain ⟨hx,_,hlo⟩:=h.lies x e (by have:=h.length;omega)
  obtain ⟨s,n,c,c0,hL⟩:=h.levels x e i hi
  exact ⟨s,n,c,(hs.2 _ _ hlo hx).trans c0,hL.same hs⟩
theorem bI.keep {V:List (List af)} (h:bI lo w a len cap V) (hb:Bl w w'):bI lo w' a len cap V:=h.same (cF.of_below hb)
theorem bI.mono {V:List (List af)} (h:bI lo w a len cap V) (hl:lo'≤lo):bI lo' w a len cap V :=
 ⟨h.length,h.room,h.big,h.nil,fun x e hp=>⟨(h.lies x e hp).1,(h.lies x e hp).2.1,Nat.le_trans hl (h.lies x e hp).2.2⟩,fun x e i hi=>by obtain ⟨s,n,c,c0,hL⟩:=h.levels x e i hi;exact ⟨s,n,c,c0,hL.mono hl⟩⟩
theorem bI.form {V:List (List af)} (h:bI lo w a len cap V) (hl:1≤len):∃b off,a=some ⟨b,off,none⟩∧b<w.heap.size:=by
 cases a with
 | none=>have:=h.nil rfl;omega
 | some x =>
  obtain ⟨b,off,spot⟩:=x;obtain ⟨h1,h2,_⟩:=h.lies _ rfl (by omega);simp only at h1 h2;subst h2;exact ⟨b,off,rfl,h1⟩
theorem bI.level {V:List (List af)} (h:bI lo w (some ⟨b,off,none⟩) len cap V) (hb:Bl w wr) (k:Nat) (hk:k<len) :
 ∃B s n c,V[k]?=some B∧wr.cell? ⟨b,off+k,none⟩=some (.slice s n c)∧aw lo wr s n c B:=by
 have hk':k<V.length:=by rw [h.length];exact hk
 obtain ⟨s,n,c,c0,hL⟩:=(h.keep hb).levels _ rfl k hk';exact ⟨V[k],s,n,c,List.getElem?_eq_getElem hk',c0,hL⟩
structure aZ (lo:Nat) (w:World) (am:Option Addr) (nm cm:Nat) (av:Option Addr) (nv cv:Nat) (ak:Option Addr) (ns cs:Nat) (M:List ac) (V:List (List af)) (S:List Int):Prop where
 mem:dY lo w am nm cm M
 levels:bI lo w av nv cv V
 snaps:aH lo w ak ns cs S
theorem aZ.same {V:List (List af)} (h:aZ lo w am nm cm av nv cv ak ns cs M V S) (hs:cF lo w w'):aZ lo w' am nm cm av nv cv ak ns cs M V S:=⟨h.mem.same hs,h.levels.same hs,h.snaps.same hs⟩
theorem aZ.keep {V:List (List af)} (h:aZ lo w am nm cm av nv cv ak ns cs M V S) (hb:Bl w w'):aZ lo w' am nm cm av nv cv ak ns cs M V S:=h.same (cF.of_below hb)
def bH (M:List ac) (q:Int):Bool:=M.all (fun e=>decide (e.2.1≤q))
theorem qO (h:bH (M.take k) q=true) (hk:M[k]?=some e) (he:e.2.1≤q):bH (M.take (k+1)) q=true:=by
 unfold bH at h ⊢;rw [List.take_add_one,hk];simp only [Option.toList,List.all_append,h,List.all_cons,List.all_nil,Bool.and_true,Bool.true_and];exact decide_eq_true he
theorem uQ (hk:M[k]?=some e) (he:¬e.2.1≤q):bH M q=false:=by
 unfold bH;rw [Bool.eq_false_iff];intro h;rw [List.all_eq_true] at h;exact he (of_decide_eq_true (h e (List.mem_of_getElem? hk)))
def cy (S:List Int) (q:Int) (i:Nat):Bool :=
 match S[i]? with
 | none=>true
 | some s=>decide (0≤s) && (decide (s≤q) && (match i with | 0=>true | j+1=>match S[j]? with | none=>true | some p=>decide (p<s)))
def io (S:List Int) (q:Int) (k:Nat):Prop:=∀j,j<k→cy S q j=true
def bF (S:List Int) (q:Int):Bool:=decide (S.length≤4) && (List.range S.length).all (cy S q)
theorem te (h:4<S.length):bF S q=false:=by
 unfold bF;rw [decide_eq_false (by omega)];rfl
theorem gE (hk:k<S.length) (h:cy S q k=false):bF S q=false:=by
 unfold bF;rw [Bool.and_eq_false_iff];right
 rw [Bool.eq_false_iff];intro h1;rw [List.all_eq_true] at h1;rw [h1 k (List.mem_range.2 hk)] at h;cases h
theorem ph (h:io S q S.length):bF S q=decide (S.length≤4):=by
 unfold bF;have:(List.range S.length).all (cy S q)=true:=by
  rw [List.all_eq_true];intro j hj;exact h j (List.mem_range.1 hj)
 rw [this,Bool.and_true]
theorem gY (h:io S q k) (hk:cy S q k=true):io S q (k+1):=by
 intro j hj;by_cases e:j=k
 · subst e;exact hk
 · exact h j (by omega)
theorem lm (h:S[0]?=some s):cy S q 0=(decide (0≤s) && decide (s≤q)):=by
 unfold cy;rw [h];simp
theorem iV {p:Int} {j:Nat} (h:S[j+1]?=some s) (hp:S[j]?=some p):cy S q (j+1)=(decide (0≤s) && (decide (s≤q) && decide (p<s))):=by
 unfold cy;simp only [h,hp]
theorem rl (h:S[k]?=some s) (hs:s<0):cy S q k=false:=by
 unfold cy;rw [h];simp only;rw [decide_eq_false (by omega)];rfl
theorem pi (h:S[k]?=some s) (hs:q<s):cy S q k=false:=by
 unfold cy;rw [h];simp only;rw [decide_eq_false (p:=s≤q) (by omega)];simp
theorem ew (s:ByteArray) (w:World) (hs:s.size≤maxLen) :
 Calls Tryz.prog 199 #[.string s] w fun e w'=>e=.returned (.bool (eV s))∧w'=w:=by
 unfold maxLen at hs;go_enter Tryz.func199,Tryz.ntmps199
 go_wp2;go_loop [3] (fun i=>∃k:Nat,k≤s.size∧i=iT k∧(s.data.toList.take k).all fU=true) (fun i=>s.size - (intOf i).toNat)
 case atStart=>exact ⟨0,Nat.zero_le _,rfl,rfl⟩
 case round =>
  obtain ⟨k,hk,rfl,hall⟩:=hrel;have HA:Hid ((s.data.toList.take k).all fU=true):=hall;clear hall;by_cases hlt:k<s.size
  · cases hb:fU s[k] with
    | true =>
     have h3:=pv hb;have HB:Hid (fU s[k]=true):=hb;clear hb;rcases h3 with ⟨h31,h32⟩ | ⟨h31,h32⟩
     · go_wp2;go_round
       case rel=>exact ⟨k+1,by omega,by go_num,gh s k hlt HA.out HB.out⟩
       case measure=>simp [intOf];omega
     · go_wp2;go_round
       case rel=>exact ⟨k+1,by omega,by go_num,gh s k hlt HA.out HB.out⟩
       case measure=>simp [intOf];omega
    | false =>
     have h3:=nK hb;have HB:Hid (fU s[k]=false):=hb;clear hb;rcases h3 with h3 | ⟨h3,h4⟩ | h3
     · go_wp2;go_ret;exact ⟨ag (fE s k hlt HB.out).symm,rfl⟩
     · go_wp2;go_ret;exact ⟨ag (fE s k hlt HB.out).symm,rfl⟩
     · go_wp2;go_ret;exact ⟨ag (fE s k hlt HB.out).symm,rfl⟩
  · go_wp2;all_goals
     go_ret;refine ⟨ag ?_,rfl⟩;rw [me s k (by omega) HA.out];first | exact yy _ (by omega) | exact zt _ (by omega)
theorem vA (b:Int) (w:World) (h:(97≤b∧b≤122)∨(47≤b∧b≤57)):Calls Tryz.prog 160 #[.int .u8 b] w fun e w'=>e=.returned (.bool true)∧w'=w:=by
 rcases h with ⟨h1,h2⟩ | ⟨h1,h2⟩
 · go_enter Tryz.func160,Tryz.ntmps160
   go_wp2;all_goals
    go_ret;exact ⟨rfl,rfl⟩
 · by_cases h3:b=47
   · subst h3;go_enter Tryz.func160,Tryz.ntmps160
     go_wp2;all_goals
      go_ret;exact ⟨rfl,rfl⟩
   · have h4:48≤b:=by omega
     go_enter Tryz.func160,Tryz.ntmps160
     go_wp2;all_goals
      go_ret;exact ⟨rfl,rfl⟩
theorem xJ (b:Int) (w:World) (h:b<47∨(57<b∧b<97)∨122<b):Calls Tryz.prog 160 #[.int .u8 b] w fun e w'=>e=.returned (.bool false)∧w'=w:=by
 have hd:(b == 47)=false:=by rw [beq_eq_false_iff_ne];omega
 have hd':¬b=47:=by omega
 rcases h with h | ⟨h,h'⟩ | h
 · go_enter Tryz.func160,Tryz.ntmps160
   go_wp2;all_goals
    go_ret;exact ⟨ag (by first | rfl | (simp;omega) | simp),rfl⟩
 · go_enter Tryz.func160,Tryz.ntmps160
   go_wp2;all_goals
    go_ret;exact ⟨ag (by first | rfl | (simp;omega) | simp),rfl⟩
 · go_enter Tryz.func160,Tryz.ntmps160
   go_wp2;all_goals
    go_ret;exact ⟨ag (by first | rfl | (simp;omega) | simp),rfl⟩
theorem fl (s:ByteArray) (w:World) (hs:s.size≤maxLen) :
 Calls Tryz.prog 99 #[.string s] w fun e w'=>e=.returned (.bool (eV s))∧w'=w:=by
 unfold maxLen at hs;by_cases h1:s.size<1
 · go_enter Tryz.func99,Tryz.ntmps99
   go_wp2;go_ret;exact ⟨ag (tL s h1).symm,rfl⟩
 by_cases h4:8<s.size
 · go_enter Tryz.func99,Tryz.ntmps99
   go_wp2;go_ret;exact ⟨ag (xH s h4).symm,rfl⟩
 go_enter Tryz.func99,Tryz.ntmps99
 go_wp2;go_loop [14] (fun i=>∃k:Nat,k≤s.size∧i=iT k∧(s.data.toList.take k).all fU=true) (fun i=>s.size - (intOf i).toNat)
 case atStart=>exact ⟨0,Nat.zero_le _,rfl,rfl⟩
 case round =>
  obtain ⟨k,hk,rfl,hall⟩:=hrel;have HA:Hid ((s.data.toList.take k).all fU=true):=hall;clear hall;by_cases hlt:k<s.size
  · cases hb:fU s[k] with
    | true =>
     have h3:=pv hb;have H3:Hid ((97≤((s[k]).toNat:Int)∧((s[k]).toNat:Int)≤122)∨(47≤((s[k]).toNat:Int)∧((s[k]).toNat:Int)≤57)):=h3;have HB:Hid (fU s[k]=true):=hb;clear hb h3;go_wp2_with (go_at_call 160;refine (vA _ _ H3.out).mono ?_;rintro e w' ⟨rfl,rfl⟩)
     go_round
     case rel=>exact ⟨k+1,by omega,by go_num,gh s k hlt HA.out HB.out⟩
     case measure=>simp [intOf];omega
    | false =>
     have h3:=nK hb;have H3:Hid (((s[k]).toNat:Int)<47∨(57<((s[k]).toNat:Int)∧((s[k]).toNat:Int)<97)∨122<((s[k]).toNat:Int)):=h3;have HB:Hid (fU s[k]=false):=hb;clear hb h3;go_wp2_with (go_at_call 160;refine (xJ _ _ H3.out).mono ?_;rintro e w' ⟨rfl,rfl⟩)
     go_ret;exact ⟨ag (fE s k hlt HB.out).symm,rfl⟩
  · go_wp2;go_ret;exact ⟨ag (xI s (by omega) (by omega) k (by omega) HA.out).symm,rfl⟩
theorem qg (k t:ByteArray) (q d n:Int) (w:World) (hs:k.size≤maxLen) (ht:t.size≤maxLen) :
 Calls Tryz.prog 143 #[.agg #[.string k,iT q,iT d,.string t,iT n]] w fun e w'=>e=.returned (.bool (cK k q d t n))∧Bl w w':=by
 have ht':=ht;unfold maxLen at ht';cases hk:eV k with
 | false =>
  go_enter Tryz.func143,Tryz.ntmps143
  go_wp2_with (first | (go_at_call 199;refine (ew _ _ hs).mono ?_;rintro e w' ⟨rfl,rfl⟩) | go_in)
  go_ret;exact ⟨ag (r9 hk).symm,bZ⟩
 | true =>
  by_cases h1:q<1
  · go_enter Tryz.func143,Tryz.ntmps143
    go_wp2_with (first | (go_at_call 199;refine (ew _ _ hs).mono ?_;rintro e w' ⟨rfl,rfl⟩) | go_in)
    go_ret;exact ⟨ag (uD h1).symm,bZ⟩
  by_cases h2:100000<q
  · go_enter Tryz.func143,Tryz.ntmps143
    go_wp2_with (first | (go_at_call 199;refine (ew _ _ hs).mono ?_;rintro e w' ⟨rfl,rfl⟩) | go_in)
    go_ret;exact ⟨ag (uC h2).symm,bZ⟩
  by_cases h3:n < -1000000
  · go_enter Tryz.func143,Tryz.ntmps143
    go_wp2_with (first | (go_at_call 199;refine (ew _ _ hs).mono ?_;rintro e w' ⟨rfl,rfl⟩) | go_in)
    go_ret;exact ⟨ag (uF h3).symm,bZ⟩
  by_cases h4:1000000<n
  · go_enter Tryz.func143,Tryz.ntmps143
    go_wp2_with (first | (go_at_call 199;refine (ew _ _ hs).mono ?_;rintro e w' ⟨rfl,rfl⟩) | go_in)
    go_ret;exact ⟨ag (uE h4).symm,bZ⟩
  by_cases h5:60<t.size
  · go_enter Tryz.func143,Tryz.ntmps143
    go_wp2_with (first | (go_at_call 199;refine (ew _ _ hs).mono ?_;rintro e w' ⟨rfl,rfl⟩) | go_in)
    go_ret;exact ⟨ag (xZ h5).symm,bZ⟩
  by_cases d1:d=1
  · subst d1;go_enter Tryz.func143,Tryz.ntmps143
    go_wp2_with (first | (go_at_call 199;refine (ew _ _ hs).mono ?_;rintro e w' ⟨rfl,rfl⟩) | go_in)
    go_ret;refine ⟨ag ?_,bZ⟩;rw [dQ hk (by omega) (by omega) (by omega) (by omega) (by omega)];exact mz.symm
  by_cases d2:d=2
  · subst d2;by_cases t0:t=ByteArray.empty
    · subst t0;by_cases n0:n=0
      · subst n0;go_enter Tryz.func143,Tryz.ntmps143
        go_wp2_with (first | (go_at_call 199;refine (ew _ _ hs).mono ?_;rintro e w' ⟨rfl,rfl⟩) | go_in)
        go_ret;refine ⟨ag ?_,bZ⟩;rw [dQ hk (by omega) (by omega) (by omega) (by omega) (by omega)];rw [f5];rfl
      · have n1:(n == 0)=false:=by simpa using n0
        go_enter Tryz.func143,Tryz.ntmps143
        go_wp2_with (first | (go_at_call 199;refine (ew _ _ hs).mono ?_;rintro e w' ⟨rfl,rfl⟩) | go_in)
        go_ret;refine ⟨ag ?_,bZ⟩;rw [dQ hk (by omega) (by omega) (by omega) (by omega) (by omega)];rw [f5];simp [n0]
    · have t1:=eT t0;have t2:=iR t0;go_enter Tryz.func143,Tryz.ntmps143
      go_wp2_with (first | (go_at_call 199;refine (ew _ _ hs).mono ?_;rintro e w' ⟨rfl,rfl⟩) | go_in)
      go_ret;refine ⟨ag ?_,bZ⟩;rw [dQ hk (by omega) (by omega) (by omega) (by omega) (by omega)];rw [f5];simp [t1]
  by_cases d3:d=3
  · subst d3;by_cases t0:t=ByteArray.empty
    · subst t0;go_enter Tryz.func143,Tryz.ntmps143
      go_wp2_with (first | (go_at_call 199;refine (ew _ _ hs).mono ?_;rintro e w' ⟨rfl,rfl⟩) | go_in)
      go_ret;refine ⟨ag ?_,bZ⟩;rw [dQ hk (by omega) (by omega) (by omega) (by omega) (by omega)];rw [kf];rfl
    · have t1:=eT t0;have t2:=iR t0;go_enter Tryz.func143,Tryz.ntmps143
      go_wp2_with (first | (go_at_call 199;refine (ew _ _ hs).mono ?_;rintro e w' ⟨rfl,rfl⟩) | go_in)
      go_ret;refine ⟨ag ?_,bZ⟩;rw [dQ hk (by omega) (by omega) (by omega) (by omega) (by omega)];rw [kf];simp [t1,t2]
  have e1:(d == 1)=false:=by simpa using d1
  have e2:(d == 2)=false:=by simpa using d2
  have e3:(d == 3)=false:=by simpa using d3
  go_enter Tryz.func143,Tryz.ntmps143
  go_wp2_with (first | (go_at_call 199;refine (ew _ _ hs).mono ?_;rintro e w' ⟨rfl,rfl⟩) | go_in)
  go_ret;refine ⟨ag ?_,bZ⟩;rw [dQ hk (by omega) (by omega) (by omega) (by omega) (by omega)];exact (mA d1 d2 d3).symm
theorem wm (W:World) (x y:Value) (t b:Nat) (hb:b=W.heap.size):(W.alloc (.cells #[x,y] t)).drew.cell? ⟨b,0,none⟩=some x:=by subst hb;simp
theorem wk (W:World) (x y:Value) (t b:Nat) (hb:b=W.heap.size):(W.alloc (.cells #[x,y] t)).drew.cell? ⟨b,1,none⟩=some y:=by subst hb;simp
theorem sY (a b:ByteArray) (w:World) :
 Calls Tryz.prog 243 #[.string a,.string b] w fun e w'=>e=.returned (iT (Lib.compareBytes a.data.toList b.data.toList))∧w'=w:=by
 go_enter Tryz.func243,Tryz.ntmps243
 go_wp2;rw [run_callFunc_extern Tryz.func275 (by kernel_rfl) (by kernel_rfl) (by kernel_rfl) (e:=Extern.BytealgCompare.compare) (by kernel_rfl),Lib.run_compareString];simp only [Result.andThen];rw [Oper.upon_value];go_wp2;go_ret;exact ⟨rfl,rfl⟩
theorem tP (x y:Int) (w:World) :
 Calls Tryz.prog 170 #[iT x,iT y] w fun e w'=>e=.returned (iT (Lib.compareInt x y))∧w'=w:=by
 by_cases h1:x<y
 · go_enter Tryz.func170,Tryz.ntmps170
   go_wp2;go_ret;exact ⟨by simp [Lib.compareInt,h1],rfl⟩
 · by_cases h2:x > y
   · have h2':y<x:=h2;go_enter Tryz.func170,Tryz.ntmps170
     go_wp2;go_ret;exact ⟨by simp [Lib.compareInt,h1,h2],rfl⟩
   · have h3:x=y:=by omega
     subst h3;go_enter Tryz.func170,Tryz.ntmps170
     go_wp2;go_ret;exact ⟨by simp [Lib.compareInt],rfl⟩
theorem Ac (x y:Int) (b c:Nat) (w:World) (g0:w.cell? ⟨b,0,none⟩=some (iT x)) (g1:w.cell? ⟨b,1,none⟩=some (iT y)) :
 Calls Tryz.prog 242 #[sL b 2 c] w fun e w'=>e=.returned (iT (if x=0 then y else x))∧w'=w:=by
 go_enter Tryz.func242,Tryz.ntmps242
 go_wp2;go_loop [8] (fun i=>(i=iT 0)∨(i=iT 1∧x=0)∨(i=iT 2∧x=0∧y=0)) (fun i=>2 - (intOf i).toNat)
 case atStart=>exact Or.inl rfl
 case round =>
  rcases hrel with rfl | ⟨rfl,rfl⟩ | ⟨rfl,rfl,rfl⟩
  · by_cases h0:x=0
    · subst h0;go_wp2;go_round
      case rel=>exact Or.inr (Or.inl ⟨by go_num,trivial⟩)
      case measure=>simp [intOf]
    · have h0':(x != 0)=true:=by simpa using h0
      go_wp2;go_ret;exact ⟨rfl,rfl⟩
  · by_cases h0:y=0
    · subst h0;go_wp2;go_round
      case rel=>exact Or.inr (Or.inr ⟨by go_num,trivial,trivial⟩)
      case measure=>simp [intOf]
    · have h0':(y != 0)=true:=by simpa using h0
      go_wp2;go_ret;exact ⟨rfl,rfl⟩
  · go_wp2;go_ret;exact ⟨rfl,rfl⟩
def vi (ka:ByteArray) (qa:Int) (kb:ByteArray) (qb:Int):Int:=if Lib.compareBytes ka.data.toList kb.data.toList=0 then Lib.compareInt qb qa else Lib.compareBytes ka.data.toList kb.data.toList
theorem vF (ka ta kb tb:ByteArray) (qa da na qb db nb:Int) (w:World) :
 Calls Tryz.prog 218 #[.agg #[.string ka,iT qa,iT da,.string ta,iT na],.agg #[.string kb,iT qb,iT db,.string tb,iT nb]] w fun e w'=>e=.returned (iT (vi ka qa kb qb))∧Bl w w':=by
 obtain ⟨C,hC⟩:=aI (Lib.compareBytes ka.data.toList kb.data.toList);obtain ⟨D,hD⟩:=aI (Lib.compareInt qb qa);have c1:∀w,Calls Tryz.prog 243 #[.string ka,.string kb] w fun e w'=>e=.returned (iT C)∧w'=w:=by rw [hC];exact sY ka kb
 have c2:∀w,Calls Tryz.prog 170 #[iT qb,iT qa] w fun e w'=>e=.returned (iT D)∧w'=w:=by rw [hD];exact tP qb qa
 obtain ⟨O,hO⟩:=aI (if C=0 then D else C);have c3:∀b c w,w.cell? ⟨b,0,none⟩=some (iT C)→w.cell? ⟨b,1,none⟩=some (iT D)→Calls Tryz.prog 242 #[sL b 2 c] w fun e w'=>e=.returned (iT O)∧w'=w:=by
  rw [hO];exact fun b c w g0 g1=>Ac C D b c w g0 g1
 unfold vi;rw [← hC,← hD,← hO];clear hC hD hO;go_enter Tryz.func218,Tryz.ntmps218
 go_wp2_with fail
 obtain ⟨X,hX⟩:=aI w.heap.size;obtain ⟨W,hW⟩:=aI ((w.alloc (.cells #[.string ka,iT qa,iT da,.string ta,iT na] 50)).alloc (.cells #[.string kb,iT qb,iT db,.string tb,iT nb] 50));have x0:W.cell? ⟨X,0,none⟩=some (.string ka):=by rw [hW,hX];simp
 have x1:W.cell? ⟨X,1,none⟩=some (iT qa):=by rw [hW,hX];simp
 have y0:W.cell? ⟨X+1,0,none⟩=some (.string kb):=by rw [hW,hX];simp
 have y1:W.cell? ⟨X+1,1,none⟩=some (iT qb):=by rw [hW,hX];simp
 have kW:Bl w W:=by rw [hW];exact bZ.alloc (by simp) _
 rw [← hW,← hX];clear hW hX;have HKW:Hid (Bl w W):=kW;clear kW;have k0:Bl W W.drew:=(Below.refl _ W).drew;have HMK:Hid (∀w',Bl W w'→(w'.cell? ⟨X,0,none⟩=some (.string ka)∧w'.cell? ⟨X,1,none⟩=some (iT qa)∧w'.cell? ⟨X+1,0,none⟩=some (.string kb)∧w'.cell? ⟨X+1,1,none⟩=some (iT qb)∧Bl W w')):=fun w' k=>⟨cell_later k x0,cell_later k x1,cell_later k y0,cell_later k y1,k⟩
 go_region_held3 (fun w'=>w'.cell? ⟨X,0,none⟩=some (.string ka)∧w'.cell? ⟨X,1,none⟩=some (iT qa)∧w'.cell? ⟨X+1,0,none⟩=some (.string kb)∧w'.cell? ⟨X+1,1,none⟩=some (iT qb)∧Bl W w') (first | exact HMK.out _ k0 | exact HMK.out _ ((Below.refl _ W).alloc (Nat.le_refl _) _).drew | exact HMK.out _ (k0.alloc (Nat.le_refl _) _)) (first
  | (go_at_call 243;refine (c1 _).mono ?_;rintro e w' ⟨rfl,rfl⟩)
  | (go_at_call 170;refine (c2 _).mono ?_;rintro e w' ⟨rfl,rfl⟩)
  | (go_at_call 242;refine (c3 _ _ _ (wm _ _ _ _ _ (by simp)) (wk _ _ _ _ _ (by simp))).mono ?_;rintro e w' ⟨rfl,rfl⟩))
 go_wp2;go_ret;exact ⟨rfl,HKW.out.trans (((Below.refl _ W).alloc (Nat.le_refl _) _).drew.mono HKW.out.size)⟩
theorem mZ (ka kb:ByteArray) (qa qb:Int):decide (vi ka qa kb qb<0)=bT ka qa kb qb:=by
 unfold bT vi Lib.compareInt;rcases lN ka.data.toList kb.data.toList with ⟨h,h1,h2⟩ | ⟨h,h1,h2⟩ | ⟨h,h1,h2⟩
 · rw [h,h1];rfl
 · have:ka=kb:=by
    apply ByteArray.ext;exact Array.toList_inj.1 h2
   subst this;rw [h,h1];by_cases g:qb<qa
   · simp [g]
   · by_cases g':qb > qa <;> simp [g,g']
 · have:¬ka=kb:=fun e=>h2 (by rw [e])
   rw [h,h1];simp [this]
theorem xP (ka ta kb tb:ByteArray) (qa da na qb db nb:Int) (w:World) :
 Calls Tryz.prog 203 #[.agg #[.string ka,iT qa,iT da,.string ta,iT na],.agg #[.string kb,iT qb,iT db,.string tb,iT nb]] w fun e w'=>e=.returned (.bool (bT ka qa kb qb))∧Bl w w':=by
 go_enter Tryz.func203,Tryz.ntmps203
 go_wp2_with fail
 refine (vF _ _ _ _ _ _ _ _ _ _ _).mono ?_;rintro e w1 ⟨rfl,hb1⟩;go_wp2;go_ret;exact ⟨ag (mZ ka kb qa qb),(bZ.alloc (by simp) _).trans (hb1.mono (by simp;omega))⟩
theorem lE (a:List UInt8):Op.bytesLess a a=false:=by
 rcases lN a a with ⟨_,_,h⟩ | ⟨_,h,_⟩ | ⟨_,h,_⟩
 · exact absurd rfl h
 · exact h
 · exact h
theorem ra (ka ta kb tb:ByteArray) (qa da na qb db nb:Int) (w:World) :
 Calls Tryz.prog 144 #[.agg #[.string ka,iT qa,iT da,.string ta,iT na],.agg #[.string kb,iT qb,iT db,.string tb,iT nb]] w fun e w'=>e=.returned (.bool (bT ka qa kb qb))∧Bl w w':=by
 by_cases he:ka=kb
 · subst he;have hl:Op.bytesLess ka.toList ka.toList=false:=lE _;by_cases hq:qb<qa
   · go_enter Tryz.func144,Tryz.ntmps144
     go_wp2;go_ret;refine ⟨ag ?_,bZ.alloc (by simp) _⟩;unfold bT;rw [lE];simp [hq]
   · go_enter Tryz.func144,Tryz.ntmps144
     go_wp2;go_ret;refine ⟨ag ?_,bZ.alloc (by simp) _⟩;unfold bT;rw [lE];simp [hq]
 · have hne:¬ka.toList=kb.toList:=by
    rw [ByteArray.toList_eq,ByteArray.toList_eq];intro h;exact he (ByteArray.ext (Array.toList_inj.1 h))
   cases hl:Op.bytesLess ka.toList kb.toList with
   | true =>
    go_enter Tryz.func144,Tryz.ntmps144
    go_wp2;go_ret;refine ⟨ag ?_,bZ.alloc (by simp) _⟩;unfold bT;rw [ByteArray.toList_eq,ByteArray.toList_eq] at hl;simp [hl]
   | false =>
    go_enter Tryz.func144,Tryz.ntmps144
    go_wp2;go_ret;refine ⟨ag ?_,bZ.alloc (by simp) _⟩;unfold bT;rw [ByteArray.toList_eq,ByteArray.toList_eq] at hl;simp [hl,he]
end Go.Proofs.YtpobkmjicbobdaaGreat
