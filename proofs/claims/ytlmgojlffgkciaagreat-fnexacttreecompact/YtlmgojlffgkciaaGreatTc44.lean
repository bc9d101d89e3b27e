/-
  slices.Values of numbers, collected and sorted: what slices.Sorted(slices.Values(s)) hands back, by walks of their Go text.
-/
import Derived.Maps.AppendAt
import Derived.Lib.SlKeysI
import Derived.Test.YtlmgojlffgkciaaGreatTc27
import Derived.Test.YtlmgojlffgkciaaGreatTc00
import Derived.Test.YtlmgojlffgkciaaGreatTc42
import Derived.Test.YtlmgojlffgkciaaGreatTc43
import Derived.Test.YtlmgojlffgkciaaGreatTc13
import Derived.Test.YtlmgojlffgkciaaGreatTc06
namespace Go.Proofs.YtlmgojlffgkciaaGreat
set_option maxRecDepth 100000
set_option maxHeartbeats 4000000
open Go.RowKit Go.Shelf
attribute [local go_sem] Oper.semAt_some
def jh (n k:Nat):List (Fin n):=(List.finRange n).take k
theorem AD (n:Nat):jh n 0=[]:=by simp [jh]
theorem up_step {n k:Nat} (h:k<n):jh n (k+1)=jh n k++[⟨k,h⟩]:=by
 unfold jh;rw [List.take_add_one,List.getElem?_eq_getElem (by simpa using h)];simp
theorem Bm (n k:Nat):jh n k <+: jh n n:=by
 have e:(List.finRange n).take n=List.finRange n:=List.take_of_length_le (by simp);unfold jh;rw [e];exact List.take_prefix _ _
theorem ue {n k:Nat} (h:k≤n):(jh n k).length=k:=by simp [jh];omega
theorem Bn (S:List Int) (u:Nat→Int) (h:∀i,(hi:i<S.length)→u i=S[i]):(jh S.length S.length).map (fun x=>u x.1)=S:=by
 unfold jh;rw [List.take_of_length_le (by simp)];apply List.ext_getElem
 · simp
 · intro i h1 h2;simp;exact h i (by simpa using h2)
theorem yI (n l Bp:Nat) (K:Nat→Prop) (hn:1≤n) (a:Option Addr) (len cap:Nat) (u:Nat→Int) (J Jx:List (Fin len)→World→Prop) (W:World)
 (hY:∀pre (x:Fin len) W1,J pre W1→pre.length<len→YieldAt Fence.wide (n - 1) Tryz.prog l #[iT (u x.1)] W1 fun e W' =>
  (e=.returned (.bool true)∧J (pre++[x]) W'∧aC K W1 W')∨(e=.returned (.bool false)∧Jx (pre++[x]) W'))
 (hKB:K Bp) (hp0:W.cell? ⟨Bp,0,none⟩=some (.slice a len cap)) (hs:1≤len→∃b o,a=some ⟨b,o,none⟩) (hroom:len≤cap) (hbig:cap≤maxLen) (hKs:∀k,K k→k<W.heap.size)
 (hV:∀b o,a=some ⟨b,o,none⟩→1≤len→K b∧∀i,i<len→W.cell? ⟨b,o+i,none⟩=some (iT (u i))) (h0:J [] W) :
 CallsIn Fence.wide n Tryz.prog 213 #[.func (.yield l) #[] #[],.pointer (pT Bp)] W fun e W'=>(∃v,e=.returned v) ∧
  ((∃ys,ys=jh len len∧J ys W')∨(∃pre,pre <+: jh len len∧Jx pre W')):=by
 unfold maxLen at hbig;have HKS:=bc hKs;have hBW:=hKs Bp hKB;clear hKs;refine callsIn_of_wp Tryz.func213 rfl trivial ?_ rfl;simp only [Tryz.ntmps213,List.size_toArray,List.length_cons,List.length_nil,Nat.reduceAdd,Nat.reduceSub,Array.replicate_succ,Array.replicate_zero,List.push_toArray,List.append_toArray,List.nil_append,List.cons_append];gi_wp2
 gi_loopw [7] (fun iv wr=>∃k:Nat,k≤len∧iv=iT (k:Nat)∧J (jh len k) wr∧aC K W wr) (fun iv _=>len - (intOf iv).toNat)
 case atStart=>exact ⟨0,Nat.zero_le _,rfl,by rw [AD];exact h0,aC.refl _ _⟩
 case round =>
  obtain ⟨k,hk,rfl,hJs,hb⟩:=hrel;have HB:Hid (aC K W wr):=hb;have hszw:=hb.size;clear hb;by_cases hkl:k<len
  · have hkI:(k:Int)<(len:Int):=by omega
    obtain ⟨b,o,rfl⟩:=hs (by omega);obtain ⟨hKb,hVe⟩:=hV b o rfl (by omega);have hbW:b<wr.heap.size:=Nat.lt_of_lt_of_le (HKS.out b hKb) hszw;have c0:=(HB.out.cell (p:=⟨b,o+k,none⟩) hKb).trans (hVe k hkl);obtain ⟨fn,tmps,assign,body,hy,hR⟩:=hY _ ⟨k,hkl⟩ _ hJs (by rw [ue (by omega)];omega);simp only at hy;clear hV hVe hp0;gi_wp2
    refine hR.mono ?_;rintro e W3 (⟨rfl,hJ3,hk3⟩ | ⟨rfl,hJx3⟩)
    · gi_wp2
      go_roundw
      case rel=>exact ⟨k+1,by omega,by go_num,by rw [up_step hkl];exact hJ3,HB.out.trans hk3⟩
      case measure=>simp [intOf];omega
    · gi_wp2
      refine bodyPost_ret (results_none rfl _ _ _) rfl ?_;exact ⟨⟨_,rfl⟩,.inr ⟨_,by rw [← up_step hkl];exact Bm _ _,hJx3⟩⟩
  · have hkI:¬(k:Int)<(len:Int):=by omega
    have hke:k=len:=by omega
    subst hke;gi_wp2
    go_end0;first | exact ⟨⟨_,rfl⟩,.inl ⟨_,rfl,hJs⟩⟩ | exact ⟨⟨_,rfl⟩,.inl hJs⟩ | exact .inl hJs
theorem AC (n:Nat) (a:Option Addr) (len cap:Nat) (w:World) :
 CallsIn Fence.wide n Tryz.prog 186 #[.slice a len cap] w fun e w'=>e=.returned (.func (.func 213) #[] #[.pointer (some ⟨w.heap.size,0,none⟩)]) ∧
  w'=w.alloc (.cells #[.slice a len cap] 24):=by
 refine callsIn_of_wp Tryz.func186 rfl trivial ?_ rfl;simp only [Tryz.ntmps186,List.size_toArray,List.length_cons,List.length_nil,Nat.reduceAdd,Nat.reduceSub,Array.replicate_succ,Array.replicate_zero,List.push_toArray,List.append_toArray,List.nil_append,List.cons_append];gi_wp2
 go_ret;exact ⟨rfl,rfl⟩
theorem ud (n:Nat) (hn:1≤n) (Bp:Nat) (K:Nat→Prop) (a:Option Addr) (len cap:Nat) (u:Nat→Int) (w:World)
 (hKB:K Bp) (hp0:w.cell? ⟨Bp,0,none⟩=some (.slice a len cap)) (hs:1≤len→∃b o,a=some ⟨b,o,none⟩) (hroom:len≤cap) (hbig:cap≤maxLen) (hKs:∀k,K k→k<w.heap.size)
 (hV:∀b o,a=some ⟨b,o,none⟩→1≤len→K b∧∀i,i<len→w.cell? ⟨b,o+i,none⟩=some (iT (u i))) :
 SeqStopsK Fence.wide n Tryz.prog 213 #[.pointer (pT Bp)] (fun x:Fin len=>#[iT (u x.1)]) (aC K) (fun ys=>ys=jh len len) (fun pre=>pre <+: jh len len) len w :=
 fun l J Jx W hW _ _ hY h0=>yI n l Bp K hn a len cap u J Jx W hY hKB (cell_later hW hp0) hs hroom hbig (fun k hk=>Nat.lt_of_lt_of_le (hKs k hk) hW.size) (fun b o e h1=>⟨(hV b o e h1).1,fun i hi=>cell_later hW ((hV b o e h1).2 i hi)⟩) h0
theorem Ao (w:World) (o:Value) (T:TypeId):∀j u,[o][j]?=some u→(w.alloc (.cells #[o] T)).cell? ((⟨w.heap.size,0,none⟩:Addr).add j)=some u:=by
 intro j u hj;match j,hj with
 | 0,hj=>simp at hj;subst hj;rw [Go.WideShapes.add_plain];simp
 | j+1,hj=>simp at hj
theorem yx (n:Nat) (hn:3≤n) (lo Bp:Nat) (a:Option Addr) (len cap:Nat) (S:List Int) (w:World) (hBp:Bp<w.heap.size) (hp0:w.cell? ⟨Bp,0,none⟩=some (.slice a len cap)) (hI:aT lo w a len cap S) (hbg:len≤1048576) :
 CallsIn Fence.wide n Tryz.prog 222 #[nZ,.func (.func 213) #[] #[.pointer (pT Bp)]] w fun e W'=>∃v,e=.returned v∧W'.ownsRow w.heap.size 3 1 v S.length (S.map iT)∧(v=nZ ↔ S=[])∧Bl w W':=by
 have h1:1≤n:=by omega
 obtain ⟨i0,hi,hz0,hz1,hz2⟩:=info_parts Tryz.infoInt;have hln:=hI.length;obtain ⟨u,hu⟩:∃u:Nat→Int,∀i,(h:i<S.length)→u i=S[i]:=⟨fun i=>S.getD i 0,fun i h=>by simp [List.getD,h]⟩;subst hln;have HUM:Hid ((jh S.length S.length).map (fun x=>u x.1)=S):=Bn S u hu;have HI:Hid (aT lo w a S.length cap S):=hI;have HU:Hid (∀i,(h:i<S.length)→u i=S[i]):=hu;clear hI hu;refine callsIn_of_wp_marks Tryz.func222 rfl trivial ?_ rfl;simp only [Tryz.ntmps222,List.size_toArray,List.length_cons,List.length_nil,Nat.reduceAdd,Nat.reduceSub,Array.replicate_succ,Array.replicate_zero,List.push_toArray,List.append_toArray,List.nil_append,List.cons_append];gi_wp2
 have bO:=Boxed.new w 24 nZ;have hB0:Bl w (w.alloc (.cells #[nZ] 24)):=(Below.refl _ w).alloc (Nat.le_refl _) _;refine wpIn_rangeFunc_ownG rfl h1 (gf:=213) (lb:=#[.pointer (pT Bp)]) rfl trivial (enters_of Tryz.func213 (by kernel_rfl) rfl)
  (ud (n - 1) (by omega) Bp (fun k=>k<w.heap.size) a S.length cap u _ hBp (cell_later hB0 hp0) (fun h=>by obtain ⟨b,o,e,_⟩:=HI.out.form h;exact ⟨b,o,e⟩) HI.out.room HI.out.big (fun k hk=>by simp;omega) (fun b o e h=>⟨(HI.out.lies _ e (by omega)).1,fun i hi=>by rw [HU.out i hi];exact cell_later hB0 (HI.out.cells _ e i hi)⟩))
  aC.trans (iQ (fun k hk=>by simp;omega)) (Below.refl _ _) (fun _=>rfl)
  (fun pre W=>(∃v,Boxed W w.heap.size 24 v∧W.ownsRow w.heap.size 3 1 v pre.length (pre.map (fun x=>iT (u x.1)))∧(v=nZ ↔ pre=[]))∧Bl w W)
  (fun _ _ _=>False)
  (OwnFrom.and (Own.from (holdsRow_own (β:=List (Fin S.length)) w.heap.size w.heap.size 24 3 1 (fun pre=>pre.length) (fun pre=>pre.map (fun x=>iT (u x.1))) (fun pre v=>v=nZ ↔ pre=[])) _) (ownFrom_below (Nat.le_refl _) (by simp)))
  (fun _ _ _ _ _ hs _ _=>hs)
  ⟨⟨_,bO,World.ownsRow_nil _ _ _ _,by simp⟩,hB0⟩
  (fun x=>{ tmps:=#[nZ,.func (.func 213) #[] #[.pointer (pT Bp)],.pointer (some ⟨w.heap.size,0,none⟩),undef,nZ,iT (u x.1),.func (.func 213) #[] #[.pointer (pT Bp)],iT (u x.1),undef,undef,undef,undef,undef],defers:=[] }) ?assign ?body ?done ?stop
 case assign =>
  intro l x W K hK;gi_wp2
  exact hK
 case body =>
  rintro l pre x W ⟨⟨v,hv,hrow,hnil⟩,hB⟩ hlt;have hc:=hv.cell;gi_wp2_with (gi_at_builtin;refine wpListIn_append_own _ rfl _ _ 24 rfl w.heap.size 3 i0 (iT 0) 1 8 Tryz.underlying24 hi hz0 hz1 hz2 rfl (by decide) _ _ _ rfl (hrow.alloc _) ⟨W.heap.size,0,none⟩ 1 1 [iT (u x.1)] rfl rfl (Ao _ _ _) (by simp [Value.oneCell']) (by unfold maxLen;omega) (by omega) (by have:=hB.size;simp;omega) ?_;intro v' w1 hown' hgrow _;obtain ⟨g',cap',rfl⟩:=ownsRow_succ hown';obtain ⟨hv1,hv2,hr2,hk2,hb2⟩:=hv.appended (by decide) hrow hB.size (Nat.le_refl _) hown' hgrow;have hc1:=hv1.cell;have hf1:=hv1.frozen)
  exact ⟨hk2.from _,aC.of hb2 (fun k hk=>hk),⟨_,hv2,by simpa using hr2,by simp⟩,hB.trans hb2⟩
 case done =>
  rintro D ys W hD rfl ⟨⟨v,hv,hrow,hnil⟩,hB⟩ hK;have hc:=hv.cell;rw [ue (Nat.le_refl _),← Function.comp_def iT (fun x:Fin S.length=>u x.1),← List.map_map,HUM.out] at hrow;gi_wp2
  refine ⟨by simp,.inl ⟨_,_,rfl,run_takeDeferred hK,?_⟩⟩;exact ⟨_,results_tmp rfl _ _ _,v,rfl,ownsRow_putObj hrow _ hK rfl,by rw [hnil];rw [← List.length_eq_zero_iff,ue (Nat.le_refl _),List.length_eq_zero_iff],hB.trans (belowK_b (w:=w) (Nat.le_refl _) W D _ _ (by simp at hD;omega) hK rfl rfl)⟩
 case stop =>
  rintro D c pre W _ _ h _;exact h.elim
theorem vE (n:Nat) (hn:4≤n) (lo Bp:Nat) (a:Option Addr) (len cap:Nat) (S:List Int) (w:World) (hBp:Bp<w.heap.size) (hp0:w.cell? ⟨Bp,0,none⟩=some (.slice a len cap)) (hI:aT lo w a len cap S) (hbg:len≤1048576) :
 CallsIn Fence.wide n Tryz.prog 211 #[.func (.func 213) #[] #[.pointer (pT Bp)]] w fun e W'=>∃v,e=.returned v∧W'.ownsRow w.heap.size 3 1 v S.length (S.map iT)∧(v=nZ ↔ S=[])∧Bl w W':=by
 have hfA:Fence.wide.fn 222:=trivial;refine callsIn_of_wp Tryz.func211 rfl trivial ?_ rfl;simp only [Tryz.ntmps211,List.size_toArray,List.length_cons,List.length_nil,Nat.reduceAdd,Nat.reduceSub,Array.replicate_succ,Array.replicate_zero,List.push_toArray,List.append_toArray,List.nil_append,List.cons_append];gi_wp2_with (refine ⟨fun _=>by omega,?_⟩;gi_at_call 222;refine (yx (n - 1) (by omega) lo Bp a len cap S w hBp hp0 hI hbg).mono ?_;rintro e w' ⟨v,rfl,h1,h2,h3⟩)
 go_ret;exact ⟨v,rfl,h1,h2,h3⟩
def BM (w:World) (base:Nat) (v:Value) (K:List Int):Prop:=w.ownsRow base 3 1 v K.length (K.map iT)∧(v=nZ ↔ K=[])
theorem BM.ints {w:World} {base:Nat} {v:Value} {K:List Int} (h:BM w base v K) (hw:∀q ∈ K,(Lit.int .i64 q).wf=true):∃a c,v=.slice a K.length c∧aT base w a K.length c K:=by
 rcases h.1.2 with ⟨hv,h0⟩ | ⟨g,cap,cur,hv,hb,hgb,r1,r2,r3,r4⟩
 · have hK:K=[]:=List.length_eq_zero_iff.1 h0;subst hK;exact ⟨none,0,hv,rfl,Nat.le_refl _,Nat.zero_le _,hw,fun _=>rfl,(fun x e=>by cases e),(fun x e=>by cases e)⟩
 · have hlt:g<w.heap.size:=(Array.getElem?_eq_some_iff.1 hgb).1;refine ⟨some ⟨g,0,none⟩,cap,hv,rfl,r1,r2,hw,(fun e=>by cases e),fun x e hp=>?_,fun x e i hi=>?_⟩
   · cases e;exact ⟨hlt,rfl,hb⟩
   · cases e;subst hv;have:=h.1.cellAt i (by simpa using hi);rw [List.getElem?_map,List.getElem?_eq_getElem hi] at this;simpa using this
theorem xt (n:Nat) (hn:5≤n) (lo Bp:Nat) (a:Option Addr) (len cap:Nat) (S:List Int) (w:World) (hBp:Bp<w.heap.size) (hp0:w.cell? ⟨Bp,0,none⟩=some (.slice a len cap)) (hI:aT lo w a len cap S) (hbg:len≤1048576) :
 CallsIn Fence.wide n Tryz.prog 185 #[.func (.func 213) #[] #[.pointer (pT Bp)]] w fun e W'=>∃v,e=.returned v∧BM W' w.heap.size v (S.mergeSort (fun x y=>decide (x≤y)))∧Bl w W':=by
 have hln:=hI.length;subst hln;have hfA:Fence.wide.fn 211:=trivial;have hfB:Fence.wide.fn 212:=trivial;refine callsIn_of_wp Tryz.func185 rfl trivial ?_ rfl;simp only [Tryz.ntmps185,List.size_toArray,List.length_cons,List.length_nil,Nat.reduceAdd,Nat.reduceSub,Array.replicate_succ,Array.replicate_zero,List.push_toArray,List.append_toArray,List.nil_append,List.cons_append];gi_wp2_with (refine ⟨fun _=>by omega,?_⟩;gi_at_call 211;refine (vE (n - 1) (by omega) lo Bp a S.length cap S w hBp hp0 hI hbg).mono ?_;rintro e W ⟨v,rfl,hrow,hnil,hb⟩)
 rcases hrow.2 with ⟨rfl,hz⟩ | ⟨gb,cp,cur,rfl,hbase,hgb,r1,r2,r3,r4⟩
 · have hss:S=[]:=List.eq_nil_of_length_eq_zero hz;subst hss;gi_wp2_with (refine ⟨fun _=>by omega,?_⟩;gi_at_call 212;refine (callsIn_wide.2 (Tryz.slices_Sort_int_none none 0 W)).mono ?_;rintro e w' ⟨rfl,rfl⟩)
   go_ret;exact ⟨nZ,rfl,⟨by simpa using hrow,by simp⟩,hb⟩
 · have hH:Sort.Holds iT W gb 0 S.toArray:=holds_of_block_i hgb (by simpa using r4);have hgl:gb<W.heap.size:=(Array.getElem?_eq_some_iff.1 hgb).1;have cS:=Tryz.slices_Sort_int gb 0 cp S W hH hgl (by omega);gi_wp2_with (refine ⟨fun _=>by omega,?_⟩;gi_at_call 212;refine (callsIn_wide.2 cS).mono ?_;rintro e w' ⟨rfl,nn,os,rfl⟩)
   go_ret;have hlm:(S.mergeSort (fun x y=>decide (x≤y))).length=S.length:=List.length_mergeSort _;have hw:=ownsRow_sorted_i (n:=nn) (os:=os) (ts:=S.mergeSort (fun x y=>decide (x≤y))) (by simp) hbase hgb r1 r2 r3;exact ⟨_,rfl,⟨by rw [hlm];exact hw,by simp at hnil ⊢;intro e;exact hnil (by rw [← List.length_eq_zero_iff,← hlm,e];rfl)⟩,hb.grown (grownBy_sorted_i _) hb.size (fun j hj=>by cases hj;exact hbase)⟩
end Go.Proofs.YtlmgojlffgkciaaGreat
namespace Go.Proofs.YtlmgojlffgkciaaGreat
set_option maxRecDepth 100000
set_option maxHeartbeats 4000000
open Go.RowKit Go.Shelf
attribute [local go_sem] Oper.semAt_some
theorem aT.keepS {K:Nat→Prop} {lo:Nat} {w w':World} {a:Option Addr} {len cap:Nat} {S:List Int} (h:aT lo w a len cap S) (hk:aC K w w') (hK:∀x,a=some x→0<len→K x.block):aT lo w' a len cap S where
 length:=h.length
 room:=h.room
 big:=h.big
 wfs:=h.wfs
 nil:=h.nil
 lies:=fun x e hp=>⟨Nat.lt_of_lt_of_le (h.lies x e hp).1 hk.size,(h.lies x e hp).2⟩
 cells:=fun x e i hi=>(hk.cell (p:=⟨x.block,x.off+i,none⟩) (hK x e (by have:=h.length;omega))).trans (h.cells x e i hi)
abbrev vJ (n:Nat):Type:={ p:Nat × Nat // p.1<p.2∧p.2≤n }
def uB (L:List ac) {n:Nat} (p:vJ n):List ac:=(L.drop p.1.1).take (p.1.2 - p.1.1)
def iK (K:List Int) (x y:ac):Bool:=decide (x.1=y.1) && !cH K y.2.1 x.2.1
def Ah (b off cap:Nat) {n:Nat} (p:vJ n):Array Value:=#[Value.slice (some ⟨b,off+p.1.1*5,none⟩) (p.1.2 - p.1.1) (cap - p.1.1)]
def yB (K:List Int) (L:List ac) {n:Nat} (ys:List (vJ n)):Prop:=Sq.parts (iK K) L=ys.reverse.map (uB L)
theorem tT (n l B1 B2:Nat) (K:Nat→Prop) (hn:2≤n) (b off:Nat) (al:Option Addr) (len cap:Nat) (hal:1≤len→al=some ⟨b,off,none⟩) (L:List ac) (lo:Nat) (ak:Option Addr) (nk ck:Nat) (Kk:List Int) (J Jx:List (vJ len)→World→Prop) (W:World)
 (hY:∀pre (x:vJ len) W1,J pre W1→pre.length<len→YieldAt Fence.wide (n - 1) Tryz.prog l (Ah b off cap x) W1 fun e W' =>
  (e=.returned (.bool true)∧J (pre++[x]) W'∧aC K W1 W')∨(e=.returned (.bool false)∧Jx (pre++[x]) W'))
 (hJ:AbidesFrom W.heap.size J)
 (hK1:K B1) (hK2:K B2) (hKb:1≤len→K b) (hKk:∀x,ak=some x→0<nk→K x.block) (hKs:∀k,K k→k<W.heap.size)
 (hp1:W.cell? ⟨B1,0,none⟩=some (.slice al len cap)) (hp2:W.cell? ⟨B2,0,none⟩=some (.slice ak nk ck))
 (hL:af W al len cap L) (hI:aT lo W ak nk ck Kk) (hso:Kk.Pairwise (·≤·)) (hnk:nk≤1048576) (hlen:len≤1048576) (h0:J [] W) :
 CallsIn Fence.wide n Tryz.prog 187 #[.func (.yield l) #[] #[],.pointer (pT B1),.pointer (pT B2)] W fun e W'=>(∃v,e=.returned v) ∧
  ((∃ys,yB Kk L ys∧J ys W')∨(∃pre:List (vJ len),True∧Jx pre W')):=by
 have HLEN:Hid (L.length=len):=hL.length;have hroom:=hL.room;have hbig:=hL.big;unfold maxLen at hbig;have HKZ:=bc hKs;have HLK:Hid (∀w',aC K W w'→af w' al len cap L):=fun w' k=>hL.keepS k (fun x e hp=>by rw [hal (by omega)] at e;cases e;exact hKb (by omega))
 have HIK:Hid (∀w',aC K W w'→aT lo w' ak nk ck Kk):=fun w' k=>hI.keepS k hKk
 have HSO:=bc hso;have HJ:=bc hJ;have HP1:Hid (∀w',aC K W w'→w'.cell? ⟨B1,0,none⟩=some (.slice al len cap)):=fun w' k=>(k.cell (p:=⟨B1,0,none⟩) hK1).trans hp1
 have HP2:Hid (∀w',aC K W w'→w'.cell? ⟨B2,0,none⟩=some (.slice ak nk ck)):=fun w' k=>(k.cell (p:=⟨B2,0,none⟩) hK2).trans hp2
 have HBW:Hid (1≤len→b<W.heap.size):=fun h=>hKs b (hKb h)
 have hn1:1≤n:=by omega
 have hB1W:=hKs B1 hK1;have hB2W:=hKs B2 hK2;clear hL hI hso hKs hJ hKk hKb hp2;refine callsIn_of_wp Tryz.func187 rfl trivial ?_ rfl;simp only [Tryz.ntmps187,List.size_toArray,List.length_cons,List.length_nil,Nat.reduceAdd,Nat.reduceSub,Array.replicate_succ,Array.replicate_zero,List.push_toArray,List.append_toArray,List.nil_append,List.cons_append];gi_wp2
 gi_loopw [4] (fun tv wr=>∃(up:Nat) (pre:List (vJ len)),up≤len∧tv=iT (up:Nat)∧J pre wr∧aC K W wr∧pre.length+up≤len∧Sq.parts (iK Kk) L=Sq.parts (iK Kk) (L.take up)++pre.reverse.map (uB L)) (fun tv _=>(intOf tv).toNat)
 case atStart=>exact ⟨len,[],Nat.le_refl _,rfl,h0,aC.refl _ _,by simp,by rw [List.take_of_length_le (by rw [HLEN.out];exact Nat.le_refl _)];simp⟩
 case round =>
  obtain ⟨up,pre,hto,rfl,hJs,hb,hpl,hpt⟩:=hrel;have HKO:Hid (aC K W wr):=hb;have HPT:Hid (Sq.parts (iK Kk) L=Sq.parts (iK Kk) (L.take up)++pre.reverse.map (uB L)):=hpt;have HJO:Hid (J pre wr):=hJs;clear hb hpt hJs;by_cases ht0:up=0
  · subst ht0;have HAC:Hid (yB Kk L pre):=by
     show Sq.parts (iK Kk) L=_
     rw [HPT.out,List.take_zero];rfl
    gi_wp2
    go_end0;exact ⟨⟨_,rfl⟩,.inl ⟨pre,HAC.out,HJO.out⟩⟩
  · have htI:(0:Int)<(up:Int):=by omega
    have htN:0<up:=by omega
    obtain rfl:=hal (by omega);have wt:IntKind.i64.wrap ((up:Int) - 1)=((up - 1:Nat):Int):=by
     have e:((up - 1:Nat):Int)=(up:Int) - 1:=by omega
     rw [e,IntWalk.i64_left];unfold wrap64;omega
    have hbW:=HBW.out (by omega);gi_wp2
    gi_loopw [5] (fun fv wq=>∃f:Nat,f<up∧fv=iT (f:Nat)∧J pre wq∧aC K W wq∧(∀j,f<j→j<up→∀x y,L[j - 1]?=some x→L[j]?=some y→iK Kk x y=true)) (fun fv _=>(intOf fv).toNat)
    case atStart=>exact ⟨up - 1,by omega,rfl,HJO.out,HKO.out,fun j h1 h2=>by omega⟩
    case round =>
     clear HKO HJO wt;obtain ⟨f,hft,rfl,hJs,hks,hch⟩:=hrel;have HKS:Hid (aC K W wr):=hks;have HJR:Hid (J pre wr):=hJs;have HCH:Hid (∀j,f<j→j<up→∀x y,L[j - 1]?=some x→L[j]?=some y→iK Kk x y=true):=hch;clear hks hJs hch;have hsz:=HKS.out.size;have k0:Bl wr wr.drew:=(Below.refl _ wr).drew;have c1:=HP1.out wr HKS.out;have c2:=HP2.out wr HKS.out;by_cases hf0:f=0
     · subst hf0;have HMK:Hid (∀w',Bl wr w'→(w'.cell? ⟨B1,0,none⟩=some (sO b off len cap))):=fun w' kk=>cell_later kk c1
       gi_wp2_with fail
       refine wpIn_wide.2 ?_;refine dM HMK k0 fun aa=>?_
       refine aL 0 13 aa ?_;refine aS 13 fun K hK=>?_
       go_simp;refine hK.out _ _ (HMK.out _ k0) (fun aa=>?_);clear hK K;(try go_frame);refine aL 14 1 aa ?_;refine dN ?_;clear HMK aa;have hK2:aC K wr wr.drew:=aC.of k0 (fun k hk=>Nat.lt_of_lt_of_le (HKZ.out k hk) hsz);have HKS2:Hid (aC K W wr.drew):=HKS.out.trans hK2;have HJ2:Hid (J pre wr.drew):=HJ.out _ _ _ none HJR.out (bf k0) (fun r e=>by cases e);obtain ⟨w1,hw1⟩:=ay wr.drew;rw [← hw1] at HKS2 HJ2 ⊢;have hf:(0:Nat)<up:=by omega
       have HED:Hid (0<0→∀x y,L[0 - 1]?=some x→L[0]?=some y→iK Kk x y=false):=fun h=>by omega
       clear hK2 k0 hw1 c1 c2 HKS HJR;have c1:=HP1.out w1 HKS2.out;have hsz1:=HKS2.out.size;have HPB:Hid (Sq.parts (iK Kk) (L.take up)=Sq.parts (iK Kk) (L.take 0)++[(L.drop 0).take (up - 0)]):=Sq.parts_back _ L 0 up hft (by rw [HLEN.out];exact hto) HCH.out HED.out;have hff:((0:Nat):Int)≤(up:Int):=by omega
       have hfz:(0:Int)≤((0:Nat):Int):=by omega
       have htc:(up:Int)≤(cap:Int):=by omega
       have hci:¬cap - 0=0:=by omega
       obtain ⟨fn,tmps,assign,body,hy,hR⟩:=hY pre ⟨(0,up),hft,hto⟩ w1 HJ2.out (by omega);simp only [Ah,Nat.zero_mul,Nat.add_zero,Nat.sub_zero] at hy;clear HCH HED HJ2;gi_wp2
       refine hR.mono ?_;rintro e W3 (⟨rfl,hJ3,hk3⟩ | ⟨rfl,hJx3⟩)
       · have HK3:Hid (aC K W W3):=HKS2.out.trans hk3;have HJ3:Hid (J (pre++[⟨(0,up),hft,hto⟩]) W3):=hJ3;clear hk3 hJ3;gi_wp2
         go_roundw
         case rel=>exact ⟨0,pre++[⟨(0,up),hft,hto⟩],by omega,by first | rfl | go_num,HJ3.out,HK3.out,by simp;omega,by rw [HPT.out,HPB.out];simp [uB]⟩
         case measure=>simp [intOf];omega
       · gi_wp2
         refine bodyPost_ret (results_none rfl _ _ _) rfl ?_;exact ⟨⟨_,rfl⟩,.inr ⟨_,trivial,hJx3⟩⟩
     · obtain ⟨g,hg⟩:∃g,f=g+1:=⟨f - 1,by omega⟩;have hfI:(0:Int)<(f:Int):=by omega
       have hfN:0<f:=by omega
       have wf:IntKind.i64.wrap ((f:Int) - 1)=(g:Int):=by
        have e:(f:Int) - 1=(g:Int):=by omega
        rw [e,IntWalk.i64_left];unfold wrap64;omega
       have hf1L:(g:Int)<(len:Int):=by omega
       have hf2L:(f:Int)<(len:Int):=by omega
       obtain ⟨s,q,d,t,m,hx,_,g0,g1,g2,g3,g4⟩:=(HLK.out wr HKS.out).ent (Below.refl _ wr) (by omega) g (by omega);obtain ⟨s',q',d',t',m',hy,_,e0,e1,e2,e3,e4⟩:=(HLK.out wr HKS.out).ent (Below.refl _ wr) (by omega) f (by omega);have HX:Hid (L[g]?=some (s,q,d,t,m)):=hx;have HY:Hid (L[f]?=some (s',q',d',t',m')):=hy;have HFG:Hid (f=g+1):=hg;clear hg hf0;have HOB:Hid (iK Kk (s,q,d,t,m) (s',q',d',t',m')=(decide (s=s') && !cH Kk q' q)):=rfl;have zb:b<wr.heap.size:=by omega
       have HMK:Hid (∀w',Bl wr w'→(w'.cell? ⟨B1,0,none⟩=some (sO b off len cap)∧w'.cell? ⟨B2,0,none⟩=some (.slice ak nk ck)∧w'.cell? ⟨b,off+g*5,none⟩=some (.string s)∧w'.cell? ⟨b,off+g*5+1,none⟩=some (iT q)∧w'.cell? ⟨b,off+g*5+2,none⟩=some (iT d)∧w'.cell? ⟨b,off+g*5+3,none⟩=some (.string t)∧w'.cell? ⟨b,off+g*5+4,none⟩=some (iT m)∧w'.cell? ⟨b,off+f*5,none⟩=some (.string s')∧w'.cell? ⟨b,off+f*5+1,none⟩=some (iT q')∧w'.cell? ⟨b,off+f*5+2,none⟩=some (iT d')∧w'.cell? ⟨b,off+f*5+3,none⟩=some (.string t')∧w'.cell? ⟨b,off+f*5+4,none⟩=some (iT m')∧b<w'.heap.size)):=fun w' kk=>⟨cell_later kk c1,cell_later kk c2,cell_later kk g0,cell_later kk g1,cell_later kk g2,cell_later kk g3,cell_later kk g4,cell_later kk e0,cell_later kk e1,cell_later kk e2,cell_later kk e3,cell_later kk e4,Nat.lt_of_lt_of_le zb kk.size⟩
       clear hx hy g0 g1 g2 g3 g4 e0 e1 e2 e3 e4 c1 c2;cases hap:(decide (s=s') && !cH Kk q' q) with
       | true =>
        gi_wp2_with fail
        refine wpIn_wide.2 ?_;refine dM HMK k0 fun aa=>?_
        refine aL 0 13 aa ?_;refine aS 13 fun K hK=>?_
        go_simp;refine (vY lo ak nk ck Kk s t s' t' q d m q' d' m' _ (HIK.out _ (HKS.out.trans (aC.of k0 (fun k hk=>Nat.lt_of_lt_of_le (HKZ.out k hk) HKS.out.size)))) HSO.out hnk).mono ?_;rintro e w1 ⟨rfl,b1⟩;have k1:Bl wr w1:=k0.trans (b1.mono k0.size);go_wp2_with fail
        refine hK.out _ _ (HMK.out _ k1) (fun aa=>?_);clear hK K;(try go_frame);refine aL 14 1 aa ?_;refine dN ?_;clear HMK aa;have hK2:aC K wr w1:=aC.of k1 (fun k hk=>Nat.lt_of_lt_of_le (HKZ.out k hk) hsz);have HKS2:Hid (aC K W w1):=HKS.out.trans hK2;have HJ2:Hid (J pre w1):=HJ.out _ _ _ none HJR.out (bf k1) (fun r e=>by cases e);clear hK2 k0 k1 b1 HKS HJR;gi_wp2
        go_roundw
        case rel =>
         have hfg:=HFG.out;refine ⟨g,by omega,by go_num,HJ2.out,HKS2.out,fun j h1 h2 x y hx hy=>?_⟩;by_cases hj:f<j
         · exact HCH.out j hj h2 x y hx hy
         · have:j=f:=by omega
           subst this;rw [HY.out] at hy;rw [show j - 1=g by omega,HX.out] at hx;cases hx;cases hy;rw [HOB.out,hap]
        case measure=>have hfg:=HFG.out;simp [intOf];omega
       | false =>
        gi_wp2_with fail
        refine wpIn_wide.2 ?_;refine dM HMK k0 fun aa=>?_
        refine aL 0 13 aa ?_;refine aS 13 fun K hK=>?_
        go_simp;refine (vY lo ak nk ck Kk s t s' t' q d m q' d' m' _ (HIK.out _ (HKS.out.trans (aC.of k0 (fun k hk=>Nat.lt_of_lt_of_le (HKZ.out k hk) HKS.out.size)))) HSO.out hnk).mono ?_;rintro e w1 ⟨rfl,b1⟩;have k1:Bl wr w1:=k0.trans (b1.mono k0.size);go_wp2_with fail
        refine hK.out _ _ (HMK.out _ k1) (fun aa=>?_);clear hK K;(try go_frame);refine aL 14 1 aa ?_;refine dN ?_;clear HMK aa;have hK2:aC K wr w1:=aC.of k1 (fun k hk=>Nat.lt_of_lt_of_le (HKZ.out k hk) hsz);have HKS2:Hid (aC K W w1):=HKS.out.trans hK2;have HJ2:Hid (J pre w1):=HJ.out _ _ _ none HJR.out (bf k1) (fun r e=>by cases e);have HED:Hid (0<f→∀x y,L[f - 1]?=some x→L[f]?=some y→iK Kk x y=false):=fun _ x y hx hy=>by
         have hfg:=HFG.out;rw [HY.out] at hy;rw [show f - 1=g by omega,HX.out] at hx;cases hx;cases hy;rw [HOB.out,hap]
        clear hK2 k0 k1 b1 HKS HJR HX HY HOB hap;have c1:=HP1.out w1 HKS2.out;have hsz1:=HKS2.out.size;have HPB:Hid (Sq.parts (iK Kk) (L.take up)=Sq.parts (iK Kk) (L.take f)++[(L.drop f).take (up - f)]):=Sq.parts_back _ L f up hft (by rw [HLEN.out];exact hto) HCH.out HED.out;have hff:((f:Nat):Int)≤(up:Int):=by omega
        have hfz:(0:Int)≤((f:Nat):Int):=by omega
        have htc:(up:Int)≤(cap:Int):=by omega
        have hci:¬cap - f=0:=by omega
        obtain ⟨fn,tmps,assign,body,hy,hR⟩:=hY pre ⟨(f,up),hft,hto⟩ w1 HJ2.out (by omega);simp only [Ah] at hy;clear HCH HED HJ2;gi_wp2
        refine hR.mono ?_;rintro e W3 (⟨rfl,hJ3,hk3⟩ | ⟨rfl,hJx3⟩)
        · have HK3:Hid (aC K W W3):=HKS2.out.trans hk3;have HJ3:Hid (J (pre++[⟨(f,up),hft,hto⟩]) W3):=hJ3;clear hk3 hJ3;gi_wp2
          go_roundw
          case rel=>exact ⟨f,pre++[⟨(f,up),hft,hto⟩],by omega,by first | rfl | go_num,HJ3.out,HK3.out,by simp;omega,by rw [HPT.out,HPB.out];simp [uB]⟩
          case measure=>simp [intOf];omega
        · gi_wp2
          refine bodyPost_ret (results_none rfl _ _ _) rfl ?_;exact ⟨⟨_,rfl⟩,.inr ⟨_,trivial,hJx3⟩⟩
theorem pK (n B1 B2:Nat) (K:Nat→Prop) (hn:2≤n) (b off:Nat) (al:Option Addr) (len cap:Nat) (hal:1≤len→al=some ⟨b,off,none⟩) (L:List ac) (lo:Nat) (ak:Option Addr) (nk ck:Nat) (Kk:List Int) (w:World)
 (hK1:K B1) (hK2:K B2) (hKb:1≤len→K b) (hKk:∀x,ak=some x→0<nk→K x.block) (hKs:∀k,K k→k<w.heap.size)
 (hp1:w.cell? ⟨B1,0,none⟩=some (.slice al len cap)) (hp2:w.cell? ⟨B2,0,none⟩=some (.slice ak nk ck))
 (hL:af w al len cap L) (hI:aT lo w ak nk ck Kk) (hso:Kk.Pairwise (·≤·)) (hnk:nk≤1048576) (hlen:len≤1048576) :
 SeqStopsK Fence.wide n Tryz.prog 187 #[.pointer (pT B1),.pointer (pT B2)] (fun x:vJ len=>Ah b off cap x) (aC K) (fun ys=>yB Kk L ys) (fun _=>True) len w :=
 fun l J Jx W hW hJ _ hY h0=>tT n l B1 B2 K hn b off al len cap hal L lo ak nk ck Kk J Jx W hY hJ hK1 hK2 hKb hKk (fun k hk=>Nat.lt_of_lt_of_le (hKs k hk) hW.size) (cell_later hW hp1) (cell_later hW hp2) (hL.keep hW) (hI.keep hW) hso hnk hlen h0
theorem xv (S:List Int):(S.mergeSort (fun x y=>decide (x≤y))).Pairwise (·≤·):=by
 have:=List.pairwise_mergeSort (le:=fun x y:Int=>decide (x≤y)) (fun a b c h1 h2=>by simp at *;omega) (fun a b=>by simp;omega) S;exact this.imp (fun h=>by simpa using h)
theorem uK (S:List Int) (x y:ac):iK (S.mergeSort (fun x y=>decide (x≤y))) x y=(decide (x.1=y.1) && fW S x y):=by
 unfold iK fW;rw [vH (List.mergeSort_perm S _)]
theorem rG (n:Nat) (hn:6≤n) (lo:Nat) (al:Option Addr) (len cap:Nat) (a:Option Addr) (m d:Nat) (S:List Int) (w:World) (hI:aT lo w a m d S) (hm:m≤1048576) :
 CallsIn Fence.wide n Tryz.prog 147 #[.slice al len cap,.slice a m d] w fun e w'=>∃Bk ak ck,e=.returned (.func (.func 187) #[] #[.pointer (some ⟨w.heap.size,0,none⟩),.pointer (pT Bk)])∧w.heap.size<Bk∧Bk<w'.heap.size ∧
  w'.cell? ⟨w.heap.size,0,none⟩=some (.slice al len cap)∧w'.cell? ⟨Bk,0,none⟩=some (.slice ak m ck)∧aT w.heap.size w' ak m ck (S.mergeSort (fun x y=>decide (x≤y)))∧Bl w w':=by
 have hfA:Fence.wide.fn 186:=trivial;have HML:Hid ((S.mergeSort (fun x y=>decide (x≤y))).length=m):=by show _=_;rw [List.length_mergeSort];exact hI.length
 have HWF:Hid (∀q ∈ S.mergeSort (fun x y=>decide (x≤y)),(Lit.int .i64 q).wf=true):=fun q hq=>hI.wfs q ((List.mergeSort_perm S _).mem_iff.1 hq)
 refine callsIn_of_wp Tryz.func147 rfl trivial ?_ rfl;simp only [Tryz.ntmps147,List.size_toArray,List.length_cons,List.length_nil,Nat.reduceAdd,Nat.reduceSub,Array.replicate_succ,Array.replicate_zero,List.push_toArray,List.append_toArray,List.nil_append,List.cons_append];gi_wp2_with (refine ⟨fun _=>by omega,?_⟩;gi_at_call 186;refine (AC _ _ _ _ _).mono ?_;rintro e w' ⟨rfl,rfl⟩)
 obtain ⟨W,hW⟩:=ay ((w.alloc (.cells #[.slice al len cap] 28)).alloc (.cells #[.slice a m d] 24));have hbW:Bl w W:=by rw [hW];exact bZ.alloc (by simp) _
 have hsz:W.heap.size=w.heap.size+2:=by rw [hW];simp
 have b1:Boxed W w.heap.size 28 (.slice al len cap):=by rw [hW];exact (Boxed.new w _ _).alloc _
 have c2:W.cell? ⟨w.heap.size+1,0,none⟩=some (.slice a m d):=by
  have:=(Boxed.new (w.alloc (.cells #[.slice al len cap] 28)) 24 (.slice a m d)).cell;rw [World.size_alloc] at this;rw [hW];exact this
 have CS:=xt (n - 1) (by omega) lo (w.heap.size+1) a m d S W (by omega) c2 (hI.keep hbW) hm;rw [← hW];clear hW;refine ⟨trivial,fun _=>by omega,?_⟩;refine CS.mono ?_;rintro e w1 ⟨v,rfl,hO,hb1⟩;obtain ⟨ak,ck,rfl,hK⟩:=hO.ints HWF.out;rw [HML.out] at hK ⊢;have hs1:=hb1.size;have b2:=b1.kept (bf hb1) (by simp);have bN:=Boxed.new w1 24 (.slice ak m ck);have hb2:Bl w w1:=hbW.trans (hb1.mono hbW.size);have hb4:Bl w1 (w1.alloc (.cells #[.slice ak m ck] 24)):=bZ;have HR:Hid (w.heap.size<w1.heap.size∧w1.heap.size<(w1.alloc (.cells #[.slice ak m ck] 24)).heap.size ∧
  (w1.alloc (.cells #[.slice ak m ck] 24)).cell? ⟨w.heap.size,0,none⟩=some (.slice al len cap)∧(w1.alloc (.cells #[.slice ak m ck] 24)).cell? ⟨w1.heap.size,0,none⟩=some (.slice ak m ck) ∧
  aT w.heap.size (w1.alloc (.cells #[.slice ak m ck] 24)) ak m ck (S.mergeSort (fun x y=>decide (x≤y)))∧Bl w (w1.alloc (.cells #[.slice ak m ck] 24))) :=
  ⟨by omega,bN.lt,cell_later hb4 b2.cell,bN.cell,(hK.lower hbW.size).keep hb4,hb2.trans (hb4.mono hb2.size)⟩
 clear hb4 hb2 b2 bN hK hO CS c2 b1 hI;gi_wp2
 go_ret;exact ⟨w1.heap.size,ak,ck,rfl,HR.out⟩
end Go.Proofs.YtlmgojlffgkciaaGreat

namespace Go.Proofs.YtlmgojlffgkciaaGreat
open Go.RowKit
/-! Two rows in order made one, the first ahead where times are alike. -/
def Asc (A : List ac) : Prop := A.Pairwise (fun a b => a.2.1 ≤ b.2.1)
/-! Rows of so many, each in order. -/
/-! The steps of the library's stable sort, on plain rows. -/
end Go.Proofs.YtlmgojlffgkciaaGreat
