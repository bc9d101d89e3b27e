/- Walks. -/
import Derived.Test.YtehiefdphnljaaaGreatDoorSw28
namespace Go.Proofs.YtehiefdphnljaaaGreatDoor
set_option maxRecDepth 100000
set_option maxHeartbeats 40000000
open Go.RowKit Go.Shelf
variable {M:List ae} {S:List Int} {e:ae} {k:Nat} {q s:Int}
section
attribute [local go_sem] Oper.semAt_some
def BG (K:Nat→Prop) (w:World) (a:Option Addr) (len:Nat) (u0:Nat→Value):Prop:=∀b o,a=some ⟨b,o,none⟩→1≤len→K b∧∀i,i<len→w.cell? ⟨b,o+i,none⟩=some (u0 i)
theorem xe (n l Bp:Nat) (K:Nat→Prop) (hn:1≤n) (a:Option Addr) (len cap:Nat) (u0:Nat→Value) (J Jx:List (Fin len)→World→Prop) (W:World)
 (hY:∀pre (x:Fin len) W1,J pre W1→pre.length<len→YieldAt Fence.wide (n - 1) Tryz.prog l #[iT (x.1:Nat),u0 x.1] W1 fun e W' =>
  (e=.returned (.bool true)∧J (pre++[x]) W'∧bc K W1 W')∨(e=.returned (.bool false)∧Jx (pre++[x]) W'))
 (hKB:K Bp) (hp0:W.cell? ⟨Bp,0,none⟩=some (.slice a len cap)) (hs:1≤len→∃b o,a=some ⟨b,o,none⟩) (hroom:len≤cap) (hbig:cap≤maxLen) (hKs:∀k,K k→k<W.heap.size)
 (hV:BG K W a len u0) (h0:J [] W) :
 CallsIn Fence.wide n Tryz.prog 170 #[.func (.yield l) #[] #[],.pointer (pT Bp)] W fun e W'=>(∃v,e=.returned v) ∧
  ((∃ys,ys=bJ len 0∧J ys W')∨(∃pre,pre <+: bJ len 0∧Jx pre W')):=by
 unfold maxLen at hbig;have HKS:=ar hKs;clear hKs;refine callsIn_of_wp Tryz.func170 rfl trivial ?_ rfl;simp only [Tryz.ntmps170,List.size_toArray,List.length_cons,List.length_nil,Nat.reduceAdd,Nat.reduceSub,Array.replicate_succ,Array.replicate_zero,List.push_toArray,List.append_toArray,List.nil_append,List.cons_append];have wl:IntKind.i64.wrap ((len:Int) - 1)=(len:Int) - 1:=by rw [IntWalk.i64_left];unfold wrap64;omega
 gi_wp2
 gi_loopw [3] (fun iv wr=>∃k:Nat,k≤len∧iv=iT ((k:Int) - 1)∧J (bJ len k) wr∧bc K W wr) (fun iv _=>(intOf iv+1).toNat)
 case atStart=>exact ⟨len,Nat.le_refl _,rfl,by rw [nH];exact h0,bc.refl _ _⟩
 case round =>
  obtain ⟨k,hk,rfl,hJs,hb⟩:=hrel;have HB:Hid (bc K W wr):=hb;have hcc:=(hb.cell (p:=⟨Bp,0,none⟩) hKB).trans hp0;have hszw:=hb.size;have hBw:Bp<wr.heap.size:=Nat.lt_of_lt_of_le (HKS.out Bp hKB) hszw;cases k with
  | zero =>
   gi_wp2
   go_end0;exact ⟨⟨_,rfl⟩,.inl ⟨_,rfl,hJs⟩⟩
  | succ j =>
   have hj:((j+1:Nat):Int) - 1=(j:Int):=by omega
   rw [hj];have hjI:(j:Int)<(len:Int):=by omega
   have hjN:j<len:=by omega
   have hj0:(0:Int)≤(j:Int):=by omega
   have wj:IntKind.i64.wrap ((j:Int) - 1)=(j:Int) - 1:=by rw [IntWalk.i64_left];unfold wrap64;omega
   obtain ⟨b,o,rfl⟩:=hs (by omega);obtain ⟨hKb,hVe⟩:=hV b o rfl (by omega);have hbW:b<wr.heap.size:=Nat.lt_of_lt_of_le (HKS.out b hKb) hszw;have g0:=hVe j hjN;have c0:=(HB.out.cell (p:=⟨b,o+j,none⟩) hKb).trans g0;clear g0;obtain ⟨fn,tmps,assign,body,hy,hR⟩:=hY _ ⟨j,hjN⟩ _ hJs (by rw [kJ];omega);simp only at hy;clear hb hV hVe;gi_wp2
   refine hR.mono ?_;rintro e W3 (⟨rfl,hJ3,hk3⟩ | ⟨rfl,hJx3⟩)
   · gi_wp2
     go_roundw
     case rel=>exact ⟨j,by omega,by go_num,by rw [down_step hjN];exact hJ3,HB.out.trans hk3⟩
     case measure=>simp [intOf]
   · gi_wp2
     refine bodyPost_ret (results_none rfl _ _ _) rfl ?_;exact ⟨⟨_,rfl⟩,.inr ⟨_,by rw [← down_step hjN];exact nE _ _,hJx3⟩⟩
theorem Aa (n:Nat) (a:Option Addr) (len cap:Nat) (w:World) :
 CallsIn Fence.wide n Tryz.prog 149 #[.slice a len cap] w fun e w'=>e=.returned (.func (.func 170) #[] #[.pointer (some ⟨w.heap.size,0,none⟩)]) ∧
  w'=w.alloc (.cells #[.slice a len cap] 110):=by
 refine callsIn_of_wp Tryz.func149 rfl trivial ?_ rfl;simp only [Tryz.ntmps149,List.size_toArray,List.length_cons,List.length_nil,Nat.reduceAdd,Nat.reduceSub,Array.replicate_succ,Array.replicate_zero,List.push_toArray,List.append_toArray,List.nil_append,List.cons_append];gi_wp2
 go_ret;exact ⟨rfl,rfl⟩
theorem sr (n:Nat) (hn:1≤n) (Bp:Nat) (K:Nat→Prop) (a:Option Addr) (len cap:Nat) (u0:Nat→Value) (w:World)
 (hKB:K Bp) (hp0:w.cell? ⟨Bp,0,none⟩=some (.slice a len cap)) (hs:1≤len→∃b o,a=some ⟨b,o,none⟩) (hroom:len≤cap) (hbig:cap≤maxLen) (hKs:∀k,K k→k<w.heap.size)
 (hV:BG K w a len u0) :
 SeqStopsK Fence.wide n Tryz.prog 170 #[.pointer (pT Bp)] (fun x:Fin len=>#[iT (x.1:Nat),u0 x.1]) (bc K) (fun ys=>ys=bJ len 0) (fun pre=>pre <+: bJ len 0) len w :=
 fun l J Jx W hW _ _ hY h0=>xe n l Bp K hn a len cap u0 J Jx W hY hKB (cell_later hW hp0) hs hroom hbig (fun k hk=>Nat.lt_of_lt_of_le (hKs k hk) hW.size) (fun b o e h1=>⟨(hV b o e h1).1,fun i hi=>by exact cell_later hW ((hV b o e h1).2 i hi)⟩) h0
def BF (K:Nat→Prop) (w:World) (a:Option Addr) (len:Nat) (u0 u1:Nat→Value):Prop:=∀b o,a=some ⟨b,o,none⟩→1≤len→K b∧∀i,i<len→w.cell? ⟨b,o+i*2,none⟩=some (u0 i)∧w.cell? ⟨b,o+i*2+1,none⟩=some (u1 i)
theorem xd (n l Bp:Nat) (K:Nat→Prop) (hn:1≤n) (a:Option Addr) (len cap:Nat) (u0 u1:Nat→Value) (J Jx:List (Fin len)→World→Prop) (W:World)
 (hY:∀pre (x:Fin len) W1,J pre W1→pre.length<len→YieldAt Fence.wide (n - 1) Tryz.prog l #[iT (x.1:Nat),.agg #[u0 x.1,u1 x.1]] W1 fun e W' =>
  (e=.returned (.bool true)∧J (pre++[x]) W'∧bc K W1 W')∨(e=.returned (.bool false)∧Jx (pre++[x]) W'))
 (hKB:K Bp) (hp0:W.cell? ⟨Bp,0,none⟩=some (.slice a len cap)) (hs:1≤len→∃b o,a=some ⟨b,o,none⟩) (hroom:len≤cap) (hbig:cap≤maxLen) (hKs:∀k,K k→k<W.heap.size)
 (hV:BF K W a len u0 u1) (h0:J [] W) :
 CallsIn Fence.wide n Tryz.prog 186 #[.func (.yield l) #[] #[],.pointer (pT Bp)] W fun e W'=>(∃v,e=.returned v) ∧
  ((∃ys,ys=bJ len 0∧J ys W')∨(∃pre,pre <+: bJ len 0∧Jx pre W')):=by
 unfold maxLen at hbig;have HKS:=ar hKs;clear hKs;refine callsIn_of_wp Tryz.func186 rfl trivial ?_ rfl;simp only [Tryz.ntmps186,List.size_toArray,List.length_cons,List.length_nil,Nat.reduceAdd,Nat.reduceSub,Array.replicate_succ,Array.replicate_zero,List.push_toArray,List.append_toArray,List.nil_append,List.cons_append];have wl:IntKind.i64.wrap ((len:Int) - 1)=(len:Int) - 1:=by rw [IntWalk.i64_left];unfold wrap64;omega
 gi_wp2
 gi_loopw [3] (fun iv wr=>∃k:Nat,k≤len∧iv=iT ((k:Int) - 1)∧J (bJ len k) wr∧bc K W wr) (fun iv _=>(intOf iv+1).toNat)
 case atStart=>exact ⟨len,Nat.le_refl _,rfl,by rw [nH];exact h0,bc.refl _ _⟩
 case round =>
  obtain ⟨k,hk,rfl,hJs,hb⟩:=hrel;have HB:Hid (bc K W wr):=hb;have hcc:=(hb.cell (p:=⟨Bp,0,none⟩) hKB).trans hp0;have hszw:=hb.size;have hBw:Bp<wr.heap.size:=Nat.lt_of_lt_of_le (HKS.out Bp hKB) hszw;cases k with
  | zero =>
   gi_wp2
   go_end0;exact ⟨⟨_,rfl⟩,.inl ⟨_,rfl,hJs⟩⟩
  | succ j =>
   have hj:((j+1:Nat):Int) - 1=(j:Int):=by omega
   rw [hj];have hjI:(j:Int)<(len:Int):=by omega
   have hjN:j<len:=by omega
   have hj0:(0:Int)≤(j:Int):=by omega
   have wj:IntKind.i64.wrap ((j:Int) - 1)=(j:Int) - 1:=by rw [IntWalk.i64_left];unfold wrap64;omega
   obtain ⟨b,o,rfl⟩:=hs (by omega);obtain ⟨hKb,hVe⟩:=hV b o rfl (by omega);have hbW:b<wr.heap.size:=Nat.lt_of_lt_of_le (HKS.out b hKb) hszw;obtain ⟨g0,g1⟩:=hVe j hjN;have c0:=(HB.out.cell (p:=⟨b,o+j*2,none⟩) hKb).trans g0;have c1:=(HB.out.cell (p:=⟨b,o+j*2+1,none⟩) hKb).trans g1;clear g0 g1;obtain ⟨fn,tmps,assign,body,hy,hR⟩:=hY _ ⟨j,hjN⟩ _ hJs (by rw [kJ];omega);simp only at hy;clear hb hV hVe;gi_wp2
   refine hR.mono ?_;rintro e W3 (⟨rfl,hJ3,hk3⟩ | ⟨rfl,hJx3⟩)
   · gi_wp2
     go_roundw
     case rel=>exact ⟨j,by omega,by go_num,by rw [down_step hjN];exact hJ3,HB.out.trans hk3⟩
     case measure=>simp [intOf]
   · gi_wp2
     refine bodyPost_ret (results_none rfl _ _ _) rfl ?_;exact ⟨⟨_,rfl⟩,.inr ⟨_,by rw [← down_step hjN];exact nE _ _,hJx3⟩⟩
theorem z8 (n:Nat) (a:Option Addr) (len cap:Nat) (w:World) :
 CallsIn Fence.wide n Tryz.prog 171 #[.slice a len cap] w fun e w'=>e=.returned (.func (.func 186) #[] #[.pointer (some ⟨w.heap.size,0,none⟩)]) ∧
  w'=w.alloc (.cells #[.slice a len cap] 83):=by
 refine callsIn_of_wp Tryz.func171 rfl trivial ?_ rfl;simp only [Tryz.ntmps171,List.size_toArray,List.length_cons,List.length_nil,Nat.reduceAdd,Nat.reduceSub,Array.replicate_succ,Array.replicate_zero,List.push_toArray,List.append_toArray,List.nil_append,List.cons_append];gi_wp2
 go_ret;exact ⟨rfl,rfl⟩
theorem sm (n:Nat) (hn:1≤n) (Bp:Nat) (K:Nat→Prop) (a:Option Addr) (len cap:Nat) (u0 u1:Nat→Value) (w:World)
 (hKB:K Bp) (hp0:w.cell? ⟨Bp,0,none⟩=some (.slice a len cap)) (hs:1≤len→∃b o,a=some ⟨b,o,none⟩) (hroom:len≤cap) (hbig:cap≤maxLen) (hKs:∀k,K k→k<w.heap.size)
 (hV:BF K w a len u0 u1) :
 SeqStopsK Fence.wide n Tryz.prog 186 #[.pointer (pT Bp)] (fun x:Fin len=>#[iT (x.1:Nat),.agg #[u0 x.1,u1 x.1]]) (bc K) (fun ys=>ys=bJ len 0) (fun pre=>pre <+: bJ len 0) len w :=
 fun l J Jx W hW _ _ hY h0=>xd n l Bp K hn a len cap u0 u1 J Jx W hY hKB (cell_later hW hp0) hs hroom hbig (fun k hk=>Nat.lt_of_lt_of_le (hKs k hk) hW.size) (fun b o e h1=>⟨(hV b o e h1).1,fun i hi=>by obtain ⟨g0,g1⟩:=(hV b o e h1).2 i hi;exact ⟨cell_later hW g0,cell_later hW g1⟩⟩) h0
end
def cj (M:List ae) (q:Int):Bool:=M.all (fun e=>decide (e.2.1≤q))
theorem qD (h:cj (M.take k) q=true) (hk:M[k]?=some e) (he:e.2.1≤q):cj (M.take (k+1)) q=true:=by
 unfold cj at h ⊢;rw [List.take_add_one,hk];simp only [Option.toList,List.all_append,h,List.all_cons,List.all_nil,Bool.and_true,Bool.true_and];exact decide_eq_true he
theorem uQ (hk:M[k]?=some e) (he:¬e.2.1≤q):cj M q=false:=by
 unfold cj;rw [Bool.eq_false_iff];intro h;rw [List.all_eq_true] at h;exact he (of_decide_eq_true (h e (List.mem_of_getElem? hk)))
def cJ (S:List Int) (q:Int) (i:Nat):Bool :=
 match S[i]? with
 | none=>true
 | some s=>decide (0≤s) && (decide (s≤q) && (match i with | 0=>true | j+1=>match S[j]? with | none=>true | some p=>decide (p<s)))
def iw (S:List Int) (q:Int) (k:Nat):Prop:=∀j,j<k→cJ S q j=true
def cW (S:List Int) (q:Int):Bool:=decide (S.length≤4) && (List.range S.length).all (cJ S q)
theorem sW (h:4<S.length):cW S q=false:=by
 unfold cW;rw [decide_eq_false (by omega)];rfl
theorem gx (hk:k<S.length) (h:cJ S q k=false):cW S q=false:=by
 unfold cW;rw [Bool.and_eq_false_iff];right
 rw [Bool.eq_false_iff];intro h1;rw [List.all_eq_true] at h1;rw [h1 k (List.mem_range.2 hk)] at h;cases h
theorem oF (h:iw S q S.length):cW S q=decide (S.length≤4):=by
 unfold cW;have:(List.range S.length).all (cJ S q)=true:=by
  rw [List.all_eq_true];intro j hj;exact h j (List.mem_range.1 hj)
 rw [this,Bool.and_true]
theorem gN (h:iw S q k) (hk:cJ S q k=true):iw S q (k+1):=by
 intro j hj;by_cases e:j=k
 · subst e;exact hk
 · exact h j (by omega)
theorem oG (h:S[0]?=some s):cJ S q 0=(decide (0≤s) && decide (s≤q)):=by
 unfold cJ;rw [h];simp
theorem oH {p:Int} {j:Nat} (h:S[j+1]?=some s) (hp:S[j]?=some p):cJ S q (j+1)=(decide (0≤s) && (decide (s≤q) && decide (p<s))):=by
 unfold cJ;simp only [h,hp]
theorem qW (h:S[k]?=some s) (hs:s<0):cJ S q k=false:=by
 unfold cJ;rw [h];simp only;rw [decide_eq_false (by omega)];rfl
theorem oJ (h:S[k]?=some s) (hs:q<s):cJ S q k=false:=by
 unfold cJ;rw [h];simp only;rw [decide_eq_false (p:=s≤q) (by omega)];simp
theorem pG (n:Nat) (w:World) (hn:n≤16) :
 Calls Tryz.prog 178 #[iT n] w fun e w'=>e=.returned (iT ((2 ^ n:Nat):Int))∧w'=w:=by
 go_enter Tryz.func178,Tryz.ntmps178
 go_wp2;go_loop [3,4] (fun o i=>∃k p:Nat,k≤n∧i=iT k∧o=iT p∧p=2 ^ k) (fun _ i=>n - (intOf i).toNat)
 case atStart=>exact ⟨0,1,Nat.zero_le _,rfl,rfl,rfl⟩
 case round =>
  obtain ⟨k,p,hk,rfl,rfl,hp⟩:=hrel;have HP:Hid (p=2 ^ k):=hp;have hp2:p≤65536:=by rw [hp];exact Nat.pow_le_pow_right (n:=2) (by omega) (by omega:k≤16)
  clear hp;by_cases hlt:k<n
  · go_wp2;go_round
    case rel=>exact ⟨k+1,p*2,by omega,by go_num,by go_num,by rw [HP.out,Nat.pow_succ]⟩
    case measure=>simp [intOf];omega
  · go_wp2;go_ret;have:k=n:=by omega
    subst this;exact ⟨gV (by have:=HP.out;subst this;simp),rfl⟩
theorem yh (a b:Nat) (w:World) (ha:a<65536) (hb:b<65536) :
 Calls Tryz.prog 159 #[iT a,iT b] w fun e w'=>e=.returned (iT ((a ||| b:Nat):Int))∧w'=w:=by
 obtain ⟨c,hc⟩:=aw (a ||| b);have hcs:c<65536:=by rw [hc];exact iK ha hb
 have HST:Hid (∀i,c / 2 ^ i=c / 2 ^ (i+1)*2+(if a / 2 ^ i % 2=1∨b / 2 ^ i % 2=1 then 1 else 0)):=by rw [hc];exact Az a b
 rw [← hc];clear hc;go_enter Tryz.func159,Tryz.ntmps159
 go_wp2;go_loop [5,6] (fun o i=>∃(k p:Nat) (x:Int),k≤16∧x=(k:Int) - 1∧i=iT x∧o=iT p∧p=c / 2 ^ k) (fun _ i=>(intOf i+1).toNat)
 case atStart=>exact ⟨16,0,15,Nat.le_refl _,rfl,rfl,rfl,(Nat.div_eq_of_lt hcs).symm⟩
 case round =>
  obtain ⟨k,p,x,hk,hx,rfl,rfl,hp⟩:=hrel;cases k with
  | zero =>
   have hp':p=c:=by simpa using hp
   subst hp';have hx':x=-1:=by omega
   subst hx';clear hx hp;go_wp2;go_ret;exact ⟨rfl,rfl⟩
  | succ j =>
   obtain ⟨z,hz⟩:∃z:Nat,z=2 ^ j:=⟨_,rfl⟩;have hz1:0<z:=by rw [hz];exact Nat.two_pow_pos j
   have hp2:p≤65536:=by rw [hp];exact Nat.le_trans (Nat.div_le_self _ _) (by omega)
   have HB:Hid (∀w,Calls Tryz.prog 178 #[iT j] w fun e w'=>e=.returned (iT (z:Int))∧w'=w):=by rw [hz];exact fun w=>pG j w (by omega)
   have hst:=HST.out j;rw [← hp,← hz] at hst;have HS:Hid (c / z=p*2+(if a / z % 2=1∨b / z % 2=1 then 1 else 0)):=hst;have HZ:Hid (z=2 ^ j):=hz;clear hst hp hz;have hx':x=(j:Int):=by omega
   subst hx';clear hx;obtain ⟨qa,hqa⟩:∃q:Nat,q=a / z:=⟨_,rfl⟩;obtain ⟨qb,hqb⟩:∃q:Nat,q=b / z:=⟨_,rfl⟩;have eA:(a:Int) / (z:Int)=(qa:Int):=by rw [hqa];simp
   have eB:(b:Int) / (z:Int)=(qb:Int):=by rw [hqb];simp
   have la:qa<65536:=by rw [hqa];exact Nat.lt_of_le_of_lt (Nat.div_le_self _ _) ha
   have lb:qb<65536:=by rw [hqb];exact Nat.lt_of_le_of_lt (Nat.div_le_self _ _) hb
   rw [← hqa,← hqb] at HS;clear hqa hqb;by_cases h1:qa % 2=1
   · have h1':(qa:Int) % 2=1:=by omega
     go_wp2_with (go_at_call 178;refine (HB.out _).mono ?_;rintro e w' ⟨rfl,rfl⟩)
     exact ⟨⟨j,p*2+1,(j:Int) - 1,by omega,rfl,rfl,by simp,by rw [← HZ.out,HS.out,if_pos (Or.inl h1)]⟩,by simp [intOf]⟩
   · have h1':¬(qa:Int) % 2=1:=by omega
     by_cases h2:qb % 2=1
     · have h2':(qb:Int) % 2=1:=by omega
       go_wp2_with (go_at_call 178;refine (HB.out _).mono ?_;rintro e w' ⟨rfl,rfl⟩)
       exact ⟨⟨j,p*2+1,(j:Int) - 1,by omega,rfl,rfl,by simp,by rw [← HZ.out,HS.out,if_pos (Or.inr h2)]⟩,by simp [intOf]⟩
     · have h2':((qb:Int) % 2 == 1)=false:=by rw [beq_eq_false_iff_ne];omega
       have h1b:((qa:Int) % 2 == 1)=false:=by rw [beq_eq_false_iff_ne];omega
       go_wp2_with (go_at_call 178;refine (HB.out _).mono ?_;rintro e w' ⟨rfl,rfl⟩)
       exact ⟨⟨j,p*2,(j:Int) - 1,by omega,rfl,rfl,by simp,by rw [← HZ.out,HS.out,if_neg (fun g=>g.elim h1 h2)];rfl⟩,by simp [intOf]⟩
theorem ym (s:ByteArray) (w:World) (hs:s.size≤maxLen) :
 Calls Tryz.prog 160 #[.string s] w fun e w'=>e=.returned (iT ((gy s:Nat):Int))∧w'=w:=by
 unfold maxLen at hs;go_enter Tryz.func160,Tryz.ntmps160
 go_wp2;go_loop [3,4] (fun o i=>∃k h:Nat,k≤s.size∧i=iT k∧o=iT h∧h<65521∧iA (s.data.toList.take k)=h) (fun _ i=>s.size - (intOf i).toNat)
 case atStart=>exact ⟨0,7,Nat.zero_le _,rfl,rfl,by omega,rfl⟩
 case round =>
  obtain ⟨k,h,hk,rfl,rfl,hh,hh2⟩:=hrel;have HH:Hid (iA (s.data.toList.take k)=h):=hh2;clear hh2;by_cases hlt:k<s.size
  · have HC:Hid (iA (s.data.toList.take (k+1))=(31*h+(s[k]).toNat) % 65521):=by
     show iA (s.data.toList.take (k+1))=(31*h+(s[k]).toNat) % 65521
     rw [pg s k hlt,HH.out];rfl
    have hc:(s[k]).toNat<256:=(s[k]).toNat_lt;go_wp2;go_round
    case rel=>exact ⟨k+1,(31*h+(s[k]).toNat) % 65521,by omega,by go_num,by go_num,by omega,HC.out⟩
    case measure=>simp [intOf];omega
  · have hke:k=s.size:=by omega
    have HE:Hid (gy s=2 ^ (h % 16) ||| 2 ^ (h / 16 % 16)):=by
     show gy s=_
     have:=HH.out;rw [List.take_of_length_le (by simp [hke])] at this;unfold gy uy;rw [this]
    obtain ⟨x,hx⟩:=aw (h % 16);obtain ⟨y,hy⟩:=aw (h / 16 % 16);rw [← hx,← hy] at HE;have hx1:x<16:=by omega
    have hy1:y<16:=by omega
    have ex:(h:Int) % 16=(x:Int):=by omega
    have ey:(h:Int) / 16 % 16=(y:Int):=by omega
    obtain ⟨px,hpx⟩:∃p:Nat,p=2 ^ x:=⟨_,rfl⟩;obtain ⟨py,hpy⟩:∃p:Nat,p=2 ^ y:=⟨_,rfl⟩;have CX:Hid (∀w,Calls Tryz.prog 178 #[iT x] w fun e w'=>e=.returned (iT (px:Int))∧w'=w):=by rw [hpx];exact fun w=>pG x w (by omega)
    have CY:Hid (∀w,Calls Tryz.prog 178 #[iT y] w fun e w'=>e=.returned (iT (py:Int))∧w'=w):=by rw [hpy];exact fun w=>pG y w (by omega)
    have hpx1:px<65536:=by rw [hpx];exact fe hx1
    have hpy1:py<65536:=by rw [hpy];exact fe hy1
    rw [← hpx,← hpy] at HE;clear hx hy hpx hpy;have COR:Hid (∀w,Calls Tryz.prog 159 #[iT px,iT py] w fun e w'=>e=.returned (iT ((px ||| py:Nat):Int))∧w'=w):=fun w=>yh px py w hpx1 hpy1
    go_wp2_with fail
    refine (CX.out _).mono ?_;rintro e w' ⟨rfl,rfl⟩;go_wp2_with fail
    refine (CY.out _).mono ?_;rintro e w' ⟨rfl,rfl⟩;go_wp2_with fail
    refine (COR.out _).mono ?_;rintro e w' ⟨rfl,rfl⟩;go_wp2;go_ret;exact ⟨gV (by rw [HE.out]),rfl⟩
theorem uM (a b:Nat) (ha:a<65536) (hb:b<65536):bits .or .i64 (a:Int) (b:Int)=((a ||| b:Nat):Int):=by
 have hc:=iK ha hb;have e:(BitVec.ofInt 64 (a:Int) ||| BitVec.ofInt 64 (b:Int)).toNat=a ||| b:=by
  simp [BitVec.toNat_or];rw [Nat.mod_eq_of_lt (by omega),Nat.mod_eq_of_lt (by omega)]
 have e2:IntKind.i64.wrap (((a ||| b:Nat)):Int)=((a ||| b:Nat):Int):=by
  rw [IntWalk.i64_left];generalize a ||| b=y at hc
  unfold wrap64;omega
 show IntKind.i64.wrap ((BitVec.ofInt 64 (a:Int) ||| BitVec.ofInt 64 (b:Int)).toNat:Int)=_
 rw [e,e2]
theorem ri (x:Nat) (hx:x<16):wrap64 (2 ^ x)=((2 ^ x:Nat):Int):=by
 have hp:=fe hx;have:(2 ^ x:Int)=((2 ^ x:Nat):Int):=by simp
 rw [this];generalize 2 ^ x=y at hp;unfold wrap64;omega
theorem zh (s:ByteArray) (w:World) (hs:s.size≤maxLen) :
 Calls Tryz.prog 198 #[.string s] w fun e w'=>e=.returned (iT ((gy s:Nat):Int))∧Bl w w':=by
 unfold maxLen at hs;go_enter Tryz.func198,Tryz.ntmps198
 go_wp2;go_loop [3,7] (fun o i=>∃k h:Nat,k≤s.size∧i=iT k∧o=iT h∧h<65521∧iA (s.data.toList.take k)=h) (fun _ i=>s.size - (intOf i).toNat)
 case atStart=>exact ⟨0,7,Nat.zero_le _,rfl,rfl,by omega,rfl⟩
 case round =>
  obtain ⟨k,h,hk,rfl,rfl,hh,hh2⟩:=hrel;have HH:Hid (iA (s.data.toList.take k)=h):=hh2;clear hh2;by_cases hlt:k<s.size
  · have HC:Hid (iA (s.data.toList.take (k+1))=(31*h+(s[k]).toNat) % 65521):=by
     show iA (s.data.toList.take (k+1))=(31*h+(s[k]).toNat) % 65521
     rw [pg s k hlt,HH.out];rfl
    have hc:(s[k]).toNat<256:=(s[k]).toNat_lt;go_wp2;go_round
    case rel=>exact ⟨k+1,(31*h+(s[k]).toNat) % 65521,by omega,by go_num,by go_num,by omega,HC.out⟩
    case measure=>simp [intOf];omega
  · have hke:k=s.size:=by omega
    have HE:Hid (gy s=2 ^ (h % 16) ||| 2 ^ (h / 16 % 16)):=by
     show gy s=_
     have:=HH.out;rw [List.take_of_length_le (by simp [hke])] at this;unfold gy uy;rw [this]
    obtain ⟨x,hx⟩:=aw (h % 16);obtain ⟨y,hy⟩:=aw (h / 16 % 16);rw [← hx,← hy] at HE;have hx1:x<16:=by omega
    have hy1:y<16:=by omega
    have ex:(h:Int) % 16=(x:Int):=by omega
    have ey:(h:Int) / 16 % 16=(y:Int):=by omega
    clear hx hy;go_wp2_with fail
    go_quiet (fail)
    go_wp2;go_ret;refine ⟨gV ?_,below_drewN (Below.refl _ _) _⟩;rw [ri x hx1,ri y hy1,uM _ _ (fe hx1) (fe hy1),HE.out]
theorem vl (a:Option Addr) (len cap:Nat) (L:List ae) (w:World) (hL:an w a len cap L) :
 Calls Tryz.prog 137 #[.slice a len cap] w fun e w'=>e=.returned (iT ((eY L:Nat):Int))∧Bl w w':=by
 have HLEN:Hid (L.length=len):=hL.length;have hbl:=hL.room;have hbc:=hL.big;unfold maxLen at hbc;have HL:=ar hL;clear hL;go_enter Tryz.func137,Tryz.ntmps137
 go_wp2;go_loopw [3,4] (fun m i wr=>∃k p:Nat,k≤len∧i=iT k∧m=iT p∧p<65536∧Bl w wr∧p=eY (L.take k)) (fun _ i _=>len - (intOf i).toNat)
 case atStart=>exact ⟨0,0,Nat.zero_le _,rfl,rfl,by omega,Below.refl _ _,rfl⟩
 case round =>
  obtain ⟨k,p,hk,rfl,rfl,hp,hb,hm⟩:=hrel;have HM:Hid (p=eY (L.take k)):=hm;clear hm;by_cases hlt:k<len
  · obtain ⟨b,off,rfl,hbb⟩:=HL.out.form (by omega);obtain ⟨s,q,d,t,n,hg,hlw,g0,g1,g2,g3,g4⟩:=HL.out.ent hb hbb k hlt;have HG:Hid (L[k]?=some (s,q,d,t,n)):=hg;have hs:=hlw.1;simp only at hs;clear hg hlw;obtain ⟨z,hz⟩:=aw (gy s);have hz1:z<65536:=by rw [hz];exact rq s
    have CK:Hid (∀w,Calls Tryz.prog 160 #[.string s] w fun e w'=>e=.returned (iT (z:Int))∧w'=w):=by rw [hz];exact fun w=>ym s w hs
    have CO:Hid (∀w,Calls Tryz.prog 159 #[iT p,iT z] w fun e w'=>e=.returned (iT ((p ||| z:Nat):Int))∧w'=w):=fun w=>yh p z w hp hz1
    have HN:Hid (p ||| z=eY (L.take (k+1))):=by
     show p ||| z=eY (L.take (k+1))
     rw [mX HG.out,← HM.out,hz]
    clear hz;go_wp2_with (first | (go_at_call 160;refine (CK.out _).mono ?_;rintro e w1 ⟨rfl,rfl⟩) | (go_at_call 159;refine (CO.out _).mono ?_;rintro e w2 ⟨rfl,rfl⟩))
    go_roundw
    case rel=>exact ⟨k+1,p ||| z,by omega,by go_num,rfl,iK hp hz1,hb,HN.out⟩
    case measure=>simp [intOf];omega
  · go_wp2;go_ret;refine ⟨gV ?_,hb⟩;have:=HM.out;rw [List.take_of_length_le (by rw [HLEN.out];omega)] at this;rw [this]
theorem vU (a:Option Addr) (len cap:Nat) (L:List ae) (w:World) (hL:an w a len cap L) :
 Calls Tryz.prog 185 #[.slice a len cap] w fun e w'=>e=.returned (iT ((eY L:Nat):Int))∧Bl w w':=by
 have HLEN:Hid (L.length=len):=hL.length;have hbl:=hL.room;have hbc:=hL.big;unfold maxLen at hbc;have HL:=ar hL;clear hL;go_enter Tryz.func185,Tryz.ntmps185
 go_wp2;go_loopw [3,8] (fun m i wr=>∃k p:Nat,k≤len∧i=iT k∧m=iT p∧p<65536∧Bl w wr∧p=eY (L.take k)) (fun _ i _=>len - (intOf i).toNat)
 case atStart=>exact ⟨0,0,Nat.zero_le _,rfl,rfl,by omega,Below.refl _ _,rfl⟩
 case round =>
  obtain ⟨k,p,hk,rfl,rfl,hp,hb,hm⟩:=hrel;have HM:Hid (p=eY (L.take k)):=hm;clear hm;by_cases hlt:k<len
  · obtain ⟨b,off,rfl,hbb⟩:=HL.out.form (by omega);obtain ⟨s,q,d,t,n,hg,hlw,g0,g1,g2,g3,g4⟩:=HL.out.ent hb hbb k hlt;have HG:Hid (L[k]?=some (s,q,d,t,n)):=hg;have hs:=hlw.1;simp only at hs;clear hg hlw;obtain ⟨z,hz⟩:=aw (gy s);have hz1:z<65536:=by rw [hz];exact rq s
    have CK:Hid (∀w,Calls Tryz.prog 198 #[.string s] w fun e w'=>e=.returned (iT (z:Int))∧Bl w w'):=by rw [hz];exact fun w=>zh s w hs
    have HN:Hid (p ||| z=eY (L.take (k+1))):=by
     show p ||| z=eY (L.take (k+1))
     rw [mX HG.out,← HM.out,hz]
    have hor:=uM p z hp hz1;clear hz;go_wp2_with (go_at_call 198;refine (CK.out _).mono ?_;rintro e w1 ⟨rfl,hb1⟩;obtain ⟨hc1,hf1⟩:=uN hb1)
    go_roundw
    case rel=>exact ⟨k+1,p ||| z,by omega,by go_num,by rw [← hor],iK hp hz1,(hb.alloc (by have:=hb.size;omega) _).trans (hb1.mono (by have:=hb.size;simp;omega)),HN.out⟩
    case measure=>simp [intOf];omega
  · go_wp2;go_ret;refine ⟨gV ?_,hb⟩;have:=HM.out;rw [List.take_of_length_le (by rw [HLEN.out];omega)] at this;rw [this]
end Go.Proofs.YtehiefdphnljaaaGreatDoor
