/-
  The program's Squash: what is left of entries in order, class by class from the last on; by a walk of its Go text.
-/
import Derived.Maps.OwnIn
import Derived.Test.YtlmgojlffgkciaaGreatTc44
import Derived.Test.YtlmgojlffgkciaaGreatTc45
import Derived.Test.YtlmgojlffgkciaaGreatTc15
import Derived.Test.YtlmgojlffgkciaaGreatTc04
import Derived.Test.YtlmgojlffgkciaaGreatTc14
namespace Go.Proofs.YtlmgojlffgkciaaGreat
set_option maxRecDepth 100000
set_option maxHeartbeats 8000000
open Go.RowKit Go.Shelf
attribute [local go_sem] Oper.semAt_some
def ub (L:List ac) (bottom:Bool) {n:Nat} (pre:List (vJ n)):ByteArray × Bool × List ac:=pre.foldl (fun st p=>Sq.stepP (fun e:ac=>e.1) iV bottom (uB L p) st) (⟨#[]⟩,false,[])
theorem yT (L:List ac) (bottom:Bool) {n:Nat} (pre:List (vJ n)) (x:vJ n):ub L bottom (pre++[x])=Sq.stepP (fun e:ac=>e.1) iV bottom (uB L x) (ub L bottom pre):=by simp [ub]
theorem AH {L:List ac} {K:List Int} (bottom:Bool) {n:Nat} {ys:List (vJ n)} (h:yB K L ys):ub L bottom ys=(Sq.parts (iK K) L).foldr (Sq.stepP (fun e:ac=>e.1) iV bottom) (⟨#[]⟩,false,[]):=by
 unfold yB at h;rw [h,List.foldr_map,List.foldr_reverse];rfl
theorem ur {L:List ac} {S:List Int} (bottom:Bool) {n:Nat} {ys:List (vJ n)} (h:yB (S.mergeSort (fun x y=>decide (x≤y))) L ys) (hr:az L=true):(ub L bottom ys).2.2=bC L S bottom:=by
 rw [AH bottom h];have e:iK (S.mergeSort (fun x y=>decide (x≤y)))=fun x y=>decide (x.1=y.1) && fW S x y:=by funext x y;exact uK S x y
 rw [e,Sq.squash_same (fun e:ac=>e.1) iV bottom (fW S) ⟨#[]⟩ L (fun x hx=>(iG hr x hx).2.2)];unfold bC;rw [if_pos hr];rfl
theorem AM {L:List ac} {n:Nat} {x:vJ n} {e:ac} (h:e ∈ uB L x):e ∈ L:=List.mem_of_mem_drop (List.mem_of_mem_take h)
theorem AN {L:List ac} {n:Nat} (hL:L.length=n) (x:vJ n):(uB L x).length=x.1.2 - x.1.1:=by
 have:=x.2;unfold uB;rw [List.length_take,List.length_drop];omega
theorem uq {c:List ac} {e:ac} (bottom:Bool) (st:ByteArray × Bool × List ac) (h:c[0]?=some e) :
 Sq.stepP (fun e:ac=>e.1) iV bottom c st=(e.1,(if e.1=st.1 then st.2.1 else bottom) && (iV (if e.1=st.1 then st.2.1 else bottom) c).isEmpty,iV (if e.1=st.1 then st.2.1 else bottom) c++st.2.2):=by
 match c,h with
 | x :: r,h=>simp at h;subst h;rfl
def rU (e:ac):Prop:=e.1.size≤281474976710656∧e.2.2.2.1.size≤281474976710656
theorem tz:∀(L:List ac) (f:Bool) (acc:Int),(∀e ∈ L,rU e)→(aG f acc L).2.1.size≤281474976710656:=by
 intro L;induction L with
 | nil=>intro f acc _;exact Nat.zero_le _
 | cons e R ih =>
  intro f acc h;unfold aG;split
  · exact (h e (List.mem_cons_self ..)).2
  · split
    · exact Nat.zero_le _
    · exact ih false _ (fun x hx=>h x (List.mem_cons_of_mem _ hx))
theorem yr (b:Bool):∀c:List ac,(∀e ∈ c,rU e)→∀e ∈ iV b c,rU e
 | [],_,e,he=>by cases he
 | x :: r,h,e,he=>by
  have hj:=tz (x :: r) true 0 h
  have he':e ∈ cu b x.1 x.2.1 (x :: r):=he
  unfold cu at he'
  by_cases h1:cq (aG true 0 (x :: r)).2.2=true
  · rw [if_pos h1] at he'
    by_cases h2:b=true∧(aG true 0 (x :: r)).1=2
    · rw [if_pos h2] at he';cases he'
    · rw [if_neg h2] at he'
      have:=List.mem_singleton.1 he'
      rw [this]
      exact ⟨(h x List.mem_cons_self).1,hj⟩
  · rw [if_neg h1] at he'
    exact h e he'
theorem sS {L:List ac} (h:az L=true):∀e ∈ L,rU e:=fun e he=>by
 obtain ⟨j,hj⟩:=List.getElem?_of_mem he
 have hb:=ep h hj
 unfold dc at hb
 simp only [Bool.and_eq_true,decide_eq_true_eq] at hb
 obtain ⟨hk,_,_,_,_,h5,_⟩:=hb
 unfold eX at hk
 simp only [Bool.and_eq_true,decide_eq_true_eq] at hk
 exact ⟨by omega,by omega⟩
theorem qT {F:Fence} {n:Nat} {P:Program} {x y:Code} {Q:Exit→Act→World→Prop} {a:Act} {w:World} (M:Act→World→Prop) (h1:x.wpIn F n P (Exit.then M (fun _ _ _=>False)) a w) (h2:∀a' w',M a' w'→y.wpIn F n P Q a' w'):(Code.seq x y).wpIn F n P Q a w :=
 wpIn_seq (wpIn_mono h1 (fun e a w h=>by
  cases e with
  | normal=>exact h2 _ _ h
  | _=>exact False.elim h))
def fX (w:World) (bottom:Bool) (Bb BL BK BR z:Nat) (st:ByteArray × Bool × List ac) (W:World):Prop :=
 Boxed W Bb 4 (.bool bottom)∧Boxed W BK 9 (.string st.1)∧Boxed W BR 4 (.bool st.2.1) ∧
  (∃v,Boxed W BL 28 v∧W.ownsRow z 78 5 v st.2.2.length (aI st.2.2.reverse)∧(v=nZ ↔ st.2.2=[]))∧(∀e ∈ st.2.2,eO e∧rU e)∧Bl w W∧z≤W.heap.size
theorem fX.own {w:World} {bottom:Bool} {Bb BL BK BR z B:Nat} (hB:z≤B) (hw:w.heap.size≤z) {st:ByteArray × Bool × List ac} {X Y:World} {row:Option Nat} (h:fX w bottom Bb BL BK BR z st X) (hg:X.grownBy Y row) (hr:∀r,row=some r→B≤r∧∃o:Obj,X.heap[r]?=some o∧o.isCells=false):fX w bottom Bb BL BK BR z st Y:=by
 obtain ⟨h1,h2,h3,h4,h5,h6,h7⟩:=h;have ne:∀{B':Nat} {t:TypeId} {u:Value},Boxed X B' t u→some B'≠row:=fun hb e=>by
  obtain ⟨_,o,ho,hc⟩:=hr _ e.symm;rw [show X.heap[_]?=_ from hb] at ho;cases ho;cases hc
 exact ⟨h1.kept hg (ne h1),h2.kept hg (ne h2),h3.kept hg (ne h3),holdsRow_own (β:=Unit) z BL 28 78 5 (fun _=>st.2.2.length) (fun _=>aI st.2.2.reverse) (fun _ v=>v=nZ ↔ st.2.2=[]) () X Y row h4 hg (fun r e=>(hr r e).2),h5,h6.grown hg h6.size (fun k e=>by have:=(hr k e).1;omega),Nat.le_trans h7 hg.size⟩
theorem fX.setK {w:World} {bottom:Bool} {Bb BL BK BR z:Nat} {sk:ByteArray} {sb:Bool} {sr:List ac} {W:World} (h:fX w bottom Bb BL BK BR z (sk,sb,sr) W) (o1:BL≠BK) (o2:BR≠BK) (o3:Bb≠BK) (o4:w.heap.size≤BK) (s0:ByteArray):fX w bottom Bb BL BK BR z (s0,sb,sr) (W.setCell ⟨BK,0,none⟩ (.string s0)):=by
 obtain ⟨h1,h2,h3,⟨v,h4,h4b,h4c⟩,h5,h6,h7⟩:=h;exact ⟨h1.other o3 _,h2.set _,h3.other o2 _,⟨v,h4.other o1 _,h4b.kept (grownBy_setCell' _ _ _) (.inr (h2.not_row (by decide) h4b).symm),h4c⟩,h5,h6.setCell (p:=⟨BK,0,none⟩) o4 _,Nat.le_trans h7 (grownBy_setCell' W BK (.string s0)).size⟩
theorem fX.setR {w:World} {bottom:Bool} {Bb BL BK BR z:Nat} {sk:ByteArray} {sb:Bool} {sr:List ac} {W:World} (h:fX w bottom Bb BL BK BR z (sk,sb,sr) W) (o1:BL≠BR) (o2:BK≠BR) (o3:Bb≠BR) (o4:w.heap.size≤BR) (b':Bool):fX w bottom Bb BL BK BR z (sk,b',sr) (W.setCell ⟨BR,0,none⟩ (.bool b')):=by
 obtain ⟨h1,h2,h3,⟨v,h4,h4b,h4c⟩,h5,h6,h7⟩:=h;exact ⟨h1.other o3 _,h2.other o2 _,h3.set _,⟨v,h4.other o1 _,h4b.kept (grownBy_setCell' _ _ _) (.inr (h3.not_row (by decide) h4b).symm),h4c⟩,h5,h6.setCell (p:=⟨BR,0,none⟩) o4 _,Nat.le_trans h7 (grownBy_setCell' W BR (.bool b')).size⟩
theorem fX.below {w:World} {bottom:Bool} {Bb BL BK BR z:Nat} (hw:w.heap.size≤z) {st:ByteArray × Bool × List ac} {X Y:World} (h:fX w bottom Bb BL BK BR z st X) (hb:Bl X Y):fX w bottom Bb BL BK BR z st Y:=fX.own (Nat.le_refl _) hw h (bf hb) (fun r e=>by cases e)
theorem fV {B:Nat} {X Y:World} (hb:Bl X Y):KeepsFrom B X Y:=(KeepsOthers.of_grownBy (bf hb) (fun j o e _=>by cases e)).from B
theorem jV {K:Nat→Prop} {W:World} {B:Nat} (v:Value) (hK:∀k,K k→k<W.heap.size∧k≠B):aC K W (W.setCell ⟨B,0,none⟩ v):=aC.grown (grownBy_setCell' W B v) (fun k hk=>⟨(hK k hk).1,fun e=>(hK k hk).2 (Option.some.inj e)⟩)
def Sq.entA (L:List ac) (i:Nat):ac:=(L[i]?).getD (⟨#[]⟩,0,0,⟨#[]⟩,0)
theorem Sq.entA_at {L:List ac} {i:Nat} (h:i<L.length):Sq.entA L i=L[i]:=by unfold Sq.entA;rw [List.getElem?_eq_getElem h];rfl
def Sq.topE (F T:List ac) {n:Nat} (pre:List (Fin n)):List ac:=pre.reverse.map (fun x=>Sq.entA F x.1)++T
theorem Sq.topE_nil (F T:List ac) {n:Nat}:Sq.topE F T ([]:List (Fin n))=T:=rfl
theorem Sq.topE_snoc (F T:List ac) {n:Nat} (pre:List (Fin n)) (x:Fin n):Sq.topE F T (pre++[x])=Sq.entA F x.1 :: Sq.topE F T pre:=by simp [Sq.topE]
theorem Sq.topE_len (F T:List ac) {n:Nat} (pre:List (Fin n)):(Sq.topE F T pre).length=pre.length+T.length:=by simp [Sq.topE]
theorem Sq.topE_all (F T:List ac) {n:Nat} (h:F.length=n):Sq.topE F T (bI n 0)=F++T:=by
 subst h;unfold Sq.topE bI;rw [List.drop_zero,List.reverse_reverse];congr 1
 apply List.ext_getElem
 · simp
 · intro i h1 h2;simp;exact Sq.entA_at (by simpa using h2)
def lg (w:World) (bottom:Bool) (Bb BL BK BR z:Nat) (v0:Value) (y:Nat) (st:ByteArray × Bool × List ac) (W:World):Prop :=
 Boxed W Bb 4 (.bool bottom)∧Boxed W BK 9 (.string st.1)∧Boxed W BR 4 (.bool st.2.1) ∧
  (∃v,Boxed W BL 28 v∧W.ownsRow z 78 5 v st.2.2.length (aI st.2.2.reverse)∧((v=nZ ↔ st.2.2=[])∧(v.ownBlock=v0.ownBlock∨∃g,v.ownBlock=some g∧y≤g)))∧(∀e ∈ st.2.2,eO e∧rU e)∧Bl w W∧z≤W.heap.size
theorem lg.own {w:World} {bottom:Bool} {Bb BL BK BR z B:Nat} {v0:Value} {y:Nat} (hB:z≤B) (hw:w.heap.size≤z) {st:ByteArray × Bool × List ac} {X Y:World} {row:Option Nat} (h:lg w bottom Bb BL BK BR z v0 y st X) (hg:X.grownBy Y row) (hr:∀r,row=some r→B≤r∧∃o:Obj,X.heap[r]?=some o∧o.isCells=false):lg w bottom Bb BL BK BR z v0 y st Y:=by
 obtain ⟨h1,h2,h3,h4,h5,h6,h7⟩:=h;have ne:∀{B':Nat} {t:TypeId} {u:Value},Boxed X B' t u→some B'≠row:=fun hb e=>by
  obtain ⟨_,o,ho,hc⟩:=hr _ e.symm;rw [show X.heap[_]?=_ from hb] at ho;cases ho;cases hc
 exact ⟨h1.kept hg (ne h1),h2.kept hg (ne h2),h3.kept hg (ne h3),holdsRow_own (β:=Unit) z BL 28 78 5 (fun _=>st.2.2.length) (fun _=>aI st.2.2.reverse) (fun _ v=>(v=nZ ↔ st.2.2=[])∧(v.ownBlock=v0.ownBlock∨∃g,v.ownBlock=some g∧y≤g)) () X Y row h4 hg (fun r e=>(hr r e).2),h5,h6.grown hg h6.size (fun k e=>by have:=(hr k e).1;omega),Nat.le_trans h7 hg.size⟩
theorem lg.alloc {w:World} {bottom:Bool} {Bb BL BK BR z:Nat} {v0:Value} {y:Nat} (hw:w.heap.size≤z) {st:ByteArray × Bool × List ac} {X:World} (h:lg w bottom Bb BL BK BR z v0 y st X) (o:Obj):lg w bottom Bb BL BK BR z v0 y st (X.alloc o):=lg.own (Nat.le_refl _) hw h (World.grownBy_alloc X o none) (fun r e=>by cases e)
theorem Aa (e:ac) (T:List ac):aI (e :: T).reverse=aI T.reverse++aW e:=by
 rw [List.reverse_cons,b7];rfl
theorem lg.push {w W w1:World} {bottom:Bool} {Bb BL BK BR z:Nat} {v0:Value} {y:Nat} {sk:ByteArray} {sb:Bool} {T:List ac} {e:ac} {v:Value} {g' cap':Nat} {tmp:Obj}
 (h1:Boxed W Bb 4 (.bool bottom)) (h2:Boxed W BK 9 (.string sk)) (h3:Boxed W BR 4 (.bool sb)) (hv:Boxed W BL 28 v) (hrow:W.ownsRow z 78 5 v T.length (aI T.reverse))
 (hG:v.ownBlock=v0.ownBlock∨∃g,v.ownBlock=some g∧y≤g) (hT:∀e ∈ T,eO e∧rU e) (hB:Bl w W) (hz:z≤W.heap.size) (hy:y≤W.heap.size) (hwz:w.heap.size≤z) (hwB:w.heap.size≤BL) (o1:Bb≠BL) (o2:BK≠BL) (o3:BR≠BL) (he:eO e∧rU e)
 (hown:w1.ownsRow z 78 5 (sL g' (T.length+1) cap') (T.length+1) (aI T.reverse++aW e)) (hgrow:(W.alloc tmp).grownBy w1 v.ownBlock) (hat:(sL g' (T.length+1) cap').ownBlock=v.ownBlock∨(sL g' (T.length+1) cap').ownBlock=some (W.alloc tmp).heap.size) :
 Boxed w1 BL 28 v∧lg w bottom Bb BL BK BR z v0 y (sk,sb,e :: T) (w1.setCell ⟨BL,0,none⟩ (sL g' (T.length+1) cap'))∧KeepsOthers W (w1.setCell ⟨BL,0,none⟩ (sL g' (T.length+1) cap')) ∧
  (∀K:Nat→Prop,(∀k,K k→k<W.heap.size∧k≠BL∧some k≠v.ownBlock)→aC K W (w1.setCell ⟨BL,0,none⟩ (sL g' (T.length+1) cap'))):=by
 have g1:=(h1.alloc tmp).kept hgrow (h1.not_row (by decide) hrow);have g2:=(h2.alloc tmp).kept hgrow (h2.not_row (by decide) hrow);have g3:=(h3.alloc tmp).kept hgrow (h3.not_row (by decide) hrow);have g4:=(hv.alloc tmp).kept hgrow (hv.not_row (by decide) hrow);have hs:=hgrow.size;rw [World.size_alloc] at hs;have hss:=(grownBy_setCell' w1 BL (sL g' (T.length+1) cap')).size;refine ⟨g4,⟨g1.other o1 _,g2.other o2 _,g3.other o3 _,⟨_,g4.set _,?_,⟨by simp,?_⟩⟩,?_,?_,by omega⟩,?_,?_⟩
 · have:=hown.kept (grownBy_setCell' w1 BL (sL g' (T.length+1) cap')) (.inr (g4.not_row (by decide) hown).symm);show World.ownsRow _ _ _ _ _ (e :: T).length (aI (e :: T).reverse)
   rw [Aa];exact this
 · rcases hat with h | h
   · rw [h];exact hG
   · exact .inr ⟨_,h,by simp;omega⟩
 · intro x hx;rcases List.mem_cons.1 hx with rfl | hx
   · exact he
   · exact hT x hx
 · have hal:Bl w (W.alloc tmp):=hB.alloc hB.size tmp;exact (hal.grown hgrow hal.size (fun k e=>by have:=(hrow.lt k e).1;omega)).setCell (p:=⟨BL,0,none⟩) hwB _
 · refine ((KeepsOthers.alloc W tmp).trans (KeepsOthers.of_grownBy hgrow fun j o ej hj=>?_)).trans (KeepsOthers.setCell _ _ _);rcases (hrow.alloc tmp).2 with ⟨rfl,_⟩ | ⟨g,cap,cur,rfl,_,hgb,_⟩
   · simp [Value.ownBlock] at ej
   · obtain rfl:g=j:=by simpa [Value.ownBlock] using ej
     rw [hgb] at hj;cases hj;rfl
 · intro K hK;refine ((aC.of ((Below.refl W.heap.size W).alloc (Nat.le_refl _) tmp) (fun k hk=>(hK k hk).1)).trans (aC.grown hgrow (fun k hk=>⟨by have:=(hK k hk).1;rw [World.size_alloc];omega,(hK k hk).2.2⟩))).trans (jV _ (fun k hk=>⟨by have:=(hK k hk).1;omega,(hK k hk).2.1⟩))
theorem Boxed.inj {W:World} {B:Nat} {t:TypeId} {u v:Value} (h:Boxed W B t u) (h':Boxed W B t v):u=v:=by
 have:=(show W.heap[B]?=_ from h).symm.trans (show W.heap[B]?=_ from h');simpa using this
theorem Sq.keepS_own {β:Type} {K:Nat→Prop} {W:World} {B:Nat} (hK:∀k,K k→k<W.heap.size∧k<B):OwnFrom B (fun (_:β) W'=>aC K W W'):=fun _ X Y row hs hg hr =>
 ⟨hg.os.trans hs.os,hg.tape.trans hs.tape,hg.output.trans hs.output,Nat.le_trans hs.size hg.size,fun k hk=>by
  refine (hg.block k (Nat.lt_of_lt_of_le (hK k hk).1 hs.size) (fun e=>?_)).trans (hs.block k hk)
  have:=(hr k e.symm).1
  have:=(hK k hk).2
  omega⟩
theorem Sq.size_own {β:Type} {B n:Nat}:OwnFrom B (fun (_:β) W'=>n≤W'.heap.size):=fun _ _ _ _ hs hg _=>Nat.le_trans hs hg.size
theorem mR (lo b off:Nat) (al:Option Addr) (len cap:Nat) (hal:1≤len→al=some ⟨b,off,none⟩) (L:List ac) (a:Option Addr) (m d:Nat) (S:List Int) (bottom:Bool) (w:World) (hL:af w al len cap L) (hI:aT lo w a m d S) (hlen:len≤1048576) (hm:m≤1048576) (hbw:1≤len→b<w.heap.size) :
 CallsIn Fence.wide 9 Tryz.prog 99 #[.slice al len cap,.slice a m d,.bool bottom] w fun e w'=>∃ar n' c',e=.returned (.slice ar n' c')∧d7 w' w.heap.size ar n' c' (bC L S bottom)∧Bl w w':=by
 have HLEN:Hid (L.length=len):=hL.length;have HL:=bc hL;have HAL:=bc hal;have HI:=bc hI;have hmix:Tryz.prog.follows .mixedOrders=true:=by kernel_rfl
 have hroom:=hL.room;have hbig:=hL.big;unfold maxLen at hbig;clear hL hI hal;refine callsIn_of_wp_marks Tryz.func99 rfl trivial ?_ rfl;simp only [Tryz.ntmps99,List.size_toArray,List.length_cons,List.length_nil,Nat.reduceAdd,Nat.reduceSub,Array.replicate_succ,Array.replicate_zero,List.push_toArray,List.append_toArray,List.nil_append,List.cons_append];have b0:=Boxed.new w 4 (.bool bottom);obtain ⟨w0,hw0⟩:=ay (w.alloc (.cells #[.bool bottom] 4));have ha0:Bl w w0:=by rw [hw0];exact bZ
 have hs0:w0.heap.size=w.heap.size+1:=by rw [hw0];simp
 rw [← hw0] at b0;have CR:=jX al len cap L w0 (HL.out.keep ha0);gi_wp2_with fail
 rw [← hw0];refine ⟨trivial,?_⟩;refine (callsIn_wide.2 CR).mono ?_;rintro e w1 ⟨rfl,hb1⟩;have hB1:Bl w w1:=ha0.trans (hb1.mono ha0.size);have b1:=b0.kept (bf hb1) (by simp);have hs1:w.heap.size+1≤w1.heap.size:=by have:=hb1.size;omega
 clear hw0 CR hb1 b0 ha0 hs0;cases hR:az L with
 | false =>
  have HQ:Hid (bC L S bottom=[]):=by show bC L S bottom=[];unfold bC;rw [hR];rfl
  gi_wp2
  exact ⟨_,results_tmp rfl _ _ _,none,0,0,rfl,by rw [HQ.out];exact d7.none _ _,hB1⟩
 | true =>
  have HR:Hid (az L=true):=hR;clear hR;obtain ⟨w2,hw2⟩:=ay (((w1.alloc (.cells #[nZ] 28)).alloc (.cells #[.string ⟨#[]⟩] 9)).alloc (.cells #[.bool false] 4));have hb2:Bl w1 w2:=by rw [hw2];exact (bZ.alloc (by simp) _).alloc (by simp;omega) _
  have hs2:w2.heap.size=w1.heap.size+3:=by rw [hw2];simp
  have bL:Boxed w2 w1.heap.size 28 nZ:=by rw [hw2];exact ((Boxed.new w1 _ _).alloc _).alloc _
  have bK:Boxed w2 (w1.heap.size+1) 9 (.string ⟨#[]⟩):=by
   have:=(Boxed.new (w1.alloc (.cells #[nZ] 28)) 9 (.string ⟨#[]⟩)).alloc (.cells #[.bool false] 4);rw [World.size_alloc] at this;rw [hw2];exact this
  have bR:Boxed w2 (w1.heap.size+1+1) 4 (.bool false):=by
   have:=Boxed.new ((w1.alloc (.cells #[nZ] 28)).alloc (.cells #[.string ⟨#[]⟩] 9)) 4 (.bool false);rw [World.size_alloc,World.size_alloc] at this;rw [hw2];exact this
  have hB2:Bl w w2:=hB1.trans (hb2.mono hB1.size);have CK:=rG 8 (by omega) lo al len cap a m d S w2 (HI.out.keep hB2) hm;gi_wp2_with fail
  rw [← hw2];refine ⟨trivial,?_⟩;refine CK.mono ?_;rintro e W0 ⟨Bk,ak,ck,rfl,hk1,hk2,c1,c2,hIk,hb3⟩;have b2:=(b1.kept (bf hb2) (by simp)).kept (bf hb3) (by simp);have bL2:=bL.kept (bf hb3) (by simp);have bK2:=bK.kept (bf hb3) (by simp);have bR2:=bR.kept (bf hb3) (by simp);have hB3:Bl w W0:=hB2.trans (hb3.mono hB2.size);have hs3:=hb3.size;clear hw2 CK bL bK bR b1 hb2 hb3 hB1 hB2;obtain ⟨Bb,hBb⟩:∃x,w.heap.size=x:=⟨_,rfl⟩;obtain ⟨BL,hBL⟩:∃x,w1.heap.size=x:=⟨_,rfl⟩;obtain ⟨BK,hBK⟩:∃x,BL+1=x:=⟨_,rfl⟩;obtain ⟨BR,hBR⟩:∃x,BK+1=x:=⟨_,rfl⟩;obtain ⟨B1,hB1⟩:∃x,w2.heap.size=x:=⟨_,rfl⟩;rw [hBL,hBK,hBR] at bR2;rw [hBL,hBK] at bK2;rw [hBL] at bL2 hs1 hs2;rw [hB1] at hs2 hs3 hk1 c1 hIk;have HB3:Hid (Bl w W0):=hB3;rw [hBb] at b2 hs1;simp only [hBb] at hbw;have HBb:Hid (w.heap.size=Bb):=hBb;have hkw:Bb≤W0.heap.size:=by rw [← hBb];exact hB3.size
  rw [hBL,hBK,hBR,hB1];have i0:fX w bottom Bb BL BK BR W0.heap.size (⟨#[]⟩,false,[]) W0:=⟨b2,bK2,bR2,⟨_,bL2,World.ownsRow_nil _ _ _ _,by simp⟩,(fun e he=>by cases he),hB3,Nat.le_refl _⟩;rw [hBb];have o1:BR<B1:=by omega
  have o2:BL<BK:=by omega
  have o3:BK<BR:=by omega
  have o4:Bb<BL:=by omega
  clear hBL hB1 b2 bL2 bK2 bR2 hB3 hBb hs2 hBK hBR;have hKz:∀k,k<W0.heap.size∧k≠BL∧k≠BK∧k≠BR→k<W0.heap.size:=fun k hk=>hk.1
  have hso:=xv S;have hiL:af W0 al len cap L:=HL.out.keep HB3.out;gi_wp2
  refine wpIn_rangeFunc_ownH rfl (by omega) (gf:=187) (lb:=#[.pointer (pT B1),.pointer (pT Bk)]) rfl trivial (enters_of Tryz.func187 (by kernel_rfl) rfl)
   (pK (9 - 1) B1 Bk (fun k=>k<W0.heap.size∧k≠BL∧k≠BK∧k≠BR) (by omega) b off al len cap HAL.out L B1 ak m ck _ W0 ⟨by omega,by omega,by omega,by omega⟩ ⟨by omega,by omega,by omega,by omega⟩ (fun h1=>by have:=hbw h1;exact ⟨by omega,by omega,by omega,by omega⟩) (fun x e hp=>by have h:=hIk.lies x e hp;exact ⟨h.1,by omega,by omega,by omega⟩) hKz c1 c2 hiL hIk hso hm hlen)
   aC.trans (iQ hKz) (Below.refl _ _) (fun _=>rfl)
   (fun pre W=>fX w bottom Bb BL BK BR W0.heap.size (ub L bottom pre) W∧(ub L bottom pre).2.2.length≤pre.length*len)
   (fun _ _ _=>False)
   (fun pre X Y row hs hg hr=>⟨fX.own (Nat.le_refl _) (by rw [HBb.out];exact hkw) hs.1 hg hr,hs.2⟩)
   (fun _ _ _ _ _ hs _ _=>hs)
   ⟨i0,Nat.zero_le _⟩
   (fun x a' _=>a'={ tmps:=#[.slice al len cap,.slice a m d,.bool bottom,undef,undef,.pointer (pT Bb),nZ,.pointer (pT BL),.pointer (pT BK),.pointer (pT BR),.slice (some ⟨b,off+x.1.1*5,none⟩) (x.1.2 - x.1.1) (cap - x.1.1),undef,undef,undef,.slice al len cap,.bool true,.bool false,.slice al len cap,.slice a m d,.func (.func 187) #[] #[.pointer (pT B1),.pointer (pT Bk)],.slice (some ⟨b,off+x.1.1*5,none⟩) (x.1.2 - x.1.1) (cap - x.1.1),undef,undef,undef,undef,undef,undef,undef,undef,undef,undef,undef,undef,undef,undef,undef,undef,undef,undef,undef,undef,undef,undef,undef,undef,undef,undef,undef,undef,undef,undef,undef,undef],defers:=[] })
   (fun _ _ _ _ _ _ hs _ _=>hs)
   ?assign ?body ?done ?stop
  case assign =>
   rintro l pre x W K hi hK;simp only [Ah];gi_wp2
   exact hK _ _ (KeepsFrom.refl _ _) (aC.refl _ _) hi rfl
  case body =>
   rintro l pre x a' W hl ⟨r,hr⟩ ⟨hV,hVl⟩ rfl hpl;obtain ⟨o,ho⟩:∃o,off+x.1.1*5=o:=⟨_,rfl⟩;obtain ⟨nn,hnn⟩:∃nn,x.1.2 - x.1.1=nn:=⟨_,rfl⟩;obtain ⟨cc,hcc⟩:∃cc,cap - x.1.1=cc:=⟨_,rfl⟩;have hx:=x.2;have hbw:=hbw (by omega);have hC:af w (some ⟨b,o,none⟩) nn cc (uB L x):=by
    have hLs:af w (some ⟨b,off,none⟩) len cap L:=by have h:=HL.out;rw [HAL.out (by omega)] at h;exact h
    have:=hLs.sub (i:=x.1.1) (j:=x.1.2) (by omega) (by omega);rw [ho,hcc] at this;unfold uB;rw [hnn] at this ⊢;exact this
   rw [ho,hnn,hcc];have hn1:1≤nn:=by omega
   have hn2:nn≤1048576:=by omega
   have hnl:nn≤len:=by omega
   have hzW:W0.heap.size≤W.heap.size:=hV.2.2.2.2.2.2;have HST:Hid (ub L bottom (pre++[x])=Sq.stepP (fun e:ac=>e.1) iV bottom (uB L x) (ub L bottom pre)):=yT L bottom pre x;have hsl:=AN HLEN.out x;rw [hnn] at hsl;have HCM:Hid (∀e ∈ uB L x,e ∈ L):=fun e he=>AM he
   obtain ⟨C,hCe⟩:∃C,uB L x=C:=⟨_,rfl⟩;rw [hCe] at hC HST hsl HCM;obtain ⟨st,hst⟩:∃st,ub L bottom pre=st:=⟨_,rfl⟩;rw [hst] at hV hVl HST;have HTN:Hid (ub L bottom (pre++[x])=Sq.stepP (fun e:ac=>e.1) iV bottom C st):=HST.out;clear hx ho hcc hCe hst HST;obtain ⟨sk,sb,sr⟩:=st;have HCC:Hid (af w (some ⟨b,o,none⟩) nn cc C):=hC;obtain ⟨s0,q0,d0,t0,m0,he0,hw0,z0,_⟩:=hC.ent hV.2.2.2.2.2.1 (by rw [HBb.out];exact hbw) 0 (by omega);have HE0:Hid (C[0]?=some (s0,q0,d0,t0,m0)):=he0;simp only [Nat.zero_mul,Nat.add_zero] at z0;have hn0:0<nn:=hn1;have hn0I:(0:Int)<(nn:Int):=by omega
   have HV:Hid (fX w bottom Bb BL BK BR W0.heap.size (sk,sb,sr) W):=hV;have cK:=hV.2.1.cell;have fK:=hV.2.1.frozen;have cR:=hV.2.2.1.cell;have fR:=hV.2.2.1.frozen;have cB:=hV.1.cell;have lK:=hV.2.1.lt;have lR:=hV.2.2.1.lt;have lB:=hV.1.lt;have lb:b<W.heap.size:=by have:=hV.2.2.2.2.2.1.size;rw [HBb.out] at this;omega
   simp only at cK cR;clear hC he0 hw0 hV;refine wpIn_block ?_;refine qT (fun a' W'=>(∃u21 u22 u23 u24 u25 u26 u27 u28 u29 u30 u31,a'={ tmps:=#[.slice al len cap,.slice a m d,.bool bottom,undef,undef,.pointer (pT Bb),nZ,.pointer (pT BL),.pointer (pT BK),.pointer (pT BR),sO b o nn cc,undef,undef,undef,.slice al len cap,.bool true,.bool false,.slice al len cap,.slice a m d,.func (.func 187) #[] #[.pointer (pT B1),.pointer (pT Bk)],sO b o nn cc,u21,u22,u23,u24,u25,u26,u27,u28,u29,u30,u31,undef,undef,undef,undef,undef,undef,undef,undef,undef,undef,undef,undef,undef,undef,undef,undef,undef,undef,undef,undef,undef],defers:=[] })∧fX w bottom Bb BL BK BR W0.heap.size (s0,(if s0=sk then sb else bottom),sr) W'∧KeepsFrom W0.heap.size W W'∧aC (fun k=>k<W0.heap.size∧k≠BL∧k≠BK∧k≠BR) W W') ?_ ?_
   · by_cases hss:s0=sk
     · subst hss;have e1:(s0.toList == s0.toList)=true:=by simp
       have HM:Hid (fX w bottom Bb BL BK BR W0.heap.size (s0,(if s0=s0 then sb else bottom),sr) W.drew∧KeepsFrom W0.heap.size W W.drew∧aC (fun k=>k<W0.heap.size∧k≠BL∧k≠BK∧k≠BR) W W.drew):=by
        have hd:Bl W W.drew:=(Below.refl _ W).drew;have hz:=HV.out.2.2.2.2.2.2;rw [Hid,if_pos rfl];exact ⟨fX.own (Nat.le_refl _) (by rw [HBb.out];exact hkw) HV.out (bf hd) (fun r e=>by cases e),(KeepsOthers.drew W).from _,aC.of hd (fun k hk=>by omega)⟩
       gi_wp2
       gi_region_with_o (fail)
       all_goals gi_wp2
       all_goals exact ⟨⟨_,_,_,_,_,_,_,_,_,_,_,rfl⟩,by simpa using HM.out⟩
     · have hne:¬s0.toList=sk.toList:=by
        rw [ByteArray.toList_eq,ByteArray.toList_eq];intro h;exact hss (ByteArray.ext (Array.toList_inj.1 h))
       have hne':(s0.toList == sk.toList)=false:=by simpa using hne
       have HM:Hid (fX w bottom Bb BL BK BR W0.heap.size (s0,bottom,sr) ((W.setCell ⟨BK,0,none⟩ (.string s0)).setCell ⟨BR,0,none⟩ (.bool bottom)).drew.drew∧KeepsFrom W0.heap.size W ((W.setCell ⟨BK,0,none⟩ (.string s0)).setCell ⟨BR,0,none⟩ (.bool bottom)).drew.drew∧aC (fun k=>k<W0.heap.size∧k≠BL∧k≠BK∧k≠BR) W ((W.setCell ⟨BK,0,none⟩ (.string s0)).setCell ⟨BR,0,none⟩ (.bool bottom)).drew.drew):=by
        have hwz:w.heap.size≤W0.heap.size:=by rw [HBb.out];exact hkw
        have hz:=HV.out.2.2.2.2.2.2;have hbb:=HBb.out;have h1:=(HV.out.setK (by omega) (by omega) (by omega) (by omega) s0).setR (by omega) (by omega) (by omega) (by omega) bottom;obtain ⟨X,hX⟩:∃X,(W.setCell ⟨BK,0,none⟩ (.string s0)).setCell ⟨BR,0,none⟩ (.bool bottom)=X:=⟨_,rfl⟩;have k1:KeepsOthers W X:=by rw [← hX];exact (KeepsOthers.setCell _ _ _).trans (KeepsOthers.setCell _ _ _)
        have k2:aC (fun k=>k<W0.heap.size∧k≠BL∧k≠BK∧k≠BR) W X:=by
         rw [← hX];exact (jV _ (fun k hk=>⟨by omega,hk.2.2.1⟩)).trans (jV _ (fun k hk=>⟨by have:=(grownBy_setCell' W BK (.string s0)).size;omega,hk.2.2.2⟩))
        rw [hX] at h1 ⊢;have hsX:=k2.size;have hd:Bl X X.drew.drew:=((Below.refl _ X).drew).drew;exact ⟨h1.below hwz hd,(k1.from _).trans (fV hd),k2.trans (aC.of hd (fun k hk=>by omega))⟩
       have HIF:Hid ((if s0=sk then sb else bottom)=bottom):=if_neg hss;rw [HIF.out];gi_wp2
       gi_region_with_o (fail)
       all_goals gi_wp2
       all_goals gi_region_with_o (fail)
       all_goals gi_wp2
       all_goals first | exact HM.out | exact ⟨⟨_,_,_,_,_,_,_,_,_,_,_,rfl⟩,HM.out⟩
   · rintro a' W1 ⟨⟨u21,u22,u23,u24,u25,u26,u27,u28,u29,u30,u31,rfl⟩,hV1,hkf1,hks1⟩;obtain ⟨bb,hbb⟩:∃bb,(if s0=sk then sb else bottom)=bb:=⟨_,rfl⟩;have HTB:Hid (ub L bottom (pre++[x])=(s0,bb && (iV bb C).isEmpty,iV bb C++sr)):=by
      show ub L bottom (pre++[x])=_
      rw [HTN.out,uq bottom (sk,sb,sr) HE0.out];simp only [hbb]
     rw [hbb] at hV1;have hCl:(iV bb C).length≤nn:=by rw [← hsl];exact rH bb C
     have HSM:Hid (∀e ∈ iV bb C,rU e):=yr bb C (fun e he=>sS HR.out e (HCM.out e he));have CC:=xW b o nn cc C s0 q0 bb W1 (HCC.out.keep hV1.2.2.2.2.2.1) hn1 hn2 ⟨_,HE0.out⟩ (fun e he=>(iG HR.out e (HCM.out e he)).1) (fun e he=>(iG HR.out e (HCM.out e he)).2.1);rw [← tU bb HE0.out] at CC;obtain ⟨F,hF⟩:∃F,iV bb C=F:=⟨_,rfl⟩;rw [hF] at CC HTB hCl HSM;have HV1:Hid (fX w bottom Bb BL BK BR W0.heap.size (s0,bb,sr) W1):=hV1;have HK1:Hid (KeepsFrom W0.heap.size W W1):=hkf1;have HS1:Hid (aC (fun k=>k<W0.heap.size∧k≠BL∧k≠BK∧k≠BR) W W1):=hks1;have cR1:=hV1.2.2.1.cell;simp only at cR1;obtain ⟨v0,bL1,row1,_⟩:=hV1.2.2.2.1;have HVB:Hid (∀g,v0.ownBlock=some g→W0.heap.size≤g∧g<W1.heap.size):=fun g e=>row1.lt g e
     have lL1:=bL1.lt;clear row1;clear hV1 hkf1 hks1 cK fK cR fR cB lK lR lB lb z0 HV hbb hF HTN hn0 hn0I;refine qT (fun a' W'=>∃ar nr cr,a'={ tmps:=#[.slice al len cap,.slice a m d,.bool bottom,undef,undef,.pointer (pT Bb),nZ,.pointer (pT BL),.pointer (pT BK),.pointer (pT BR),sO b o nn cc,.slice ar nr cr,undef,undef,.slice al len cap,.bool true,.bool false,.slice al len cap,.slice a m d,.func (.func 187) #[] #[.pointer (pT B1),.pointer (pT Bk)],sO b o nn cc,u21,u22,u23,u24,u25,u26,u27,u28,u29,u30,u31,sO b o nn cc,.bool bb,.slice ar nr cr,undef,undef,undef,undef,undef,undef,undef,undef,undef,undef,undef,undef,undef,undef,undef,undef,undef,undef],defers:=[] }∧af W' ar nr cr F∧Bl W1 W'∧∀x,ar=some x→x.block=b∨W1.heap.size≤x.block) ?_ ?_
     · gi_wp2_with (refine ⟨trivial,?_⟩;gi_at_call 148;refine (CallsIn.inRound l (callsIn_wide.2 CC)).mono ?_;rintro e W2 ⟨ar,nr,cr,rfl,hE2,hb2,hbl2⟩)
       exact ⟨ar,nr,cr,rfl,hE2,hb2,hbl2⟩
     · rintro a' W2 ⟨ar,nr,cr,rfl,hE2,hb2,hbl2⟩;have hwz:w.heap.size≤W0.heap.size:=by rw [HBb.out];exact hkw
       have hV2:=HV1.out.below hwz hb2;have hz1:=HV1.out.2.2.2.2.2.2;have hz2:=hV2.2.2.2.2.2.2;have HK2:Hid (KeepsFrom W0.heap.size W W2):=HK1.out.trans (fV hb2);have HS2:Hid (aC (fun k=>k<W0.heap.size∧k≠BL∧k≠BK∧k≠BR) W W2):=HS1.out.trans (aC.of hb2 (fun k hk=>by omega));have hnr:=hE2.length;have cR2:=hV2.2.2.1.cell;have fR2:=hV2.2.2.1.frozen;have lR2:=hV2.2.2.1.lt;simp only at cR2;have HM:∀b',Hid (fX w bottom Bb BL BK BR W0.heap.size (s0,b',sr) (W2.setCell ⟨BR,0,none⟩ (.bool b'))∧KeepsFrom W0.heap.size W (W2.setCell ⟨BR,0,none⟩ (.bool b'))∧aC (fun k=>k<W0.heap.size∧k≠BL∧k≠BK∧k≠BR) W (W2.setCell ⟨BR,0,none⟩ (.bool b'))∧af (W2.setCell ⟨BR,0,none⟩ (.bool b')) ar nr cr F∧Boxed (W2.setCell ⟨BR,0,none⟩ (.bool b')) BL 28 v0∧W1.heap.size≤(W2.setCell ⟨BR,0,none⟩ (.bool b')).heap.size):=fun b'=>by
        have hbB:=HBb.out;refine ⟨hV2.setR (by omega) (by omega) (by omega) (by omega) b',HK2.out.trans ((KeepsOthers.setCell _ _ _).from _),HS2.out.trans (jV _ (fun k hk=>⟨by omega,hk.2.2.2⟩)),hE2.setCell _ _ (fun y e hp=>?_),(bL1.kept (bf hb2) (by simp)).other (by omega) _,Nat.le_trans hb2.size (grownBy_setCell' W2 BR (.bool b')).size⟩;have hlR1:=HV1.out.2.2.1.lt;rcases hbl2 y e with h | h
        · show y.block≠BR;omega
        · show y.block≠BR;omega
       have hs12:=hb2.size;clear hV2 hE2 hb2 HV1 HK1 HS1 CC cR1 bL1;refine qT (fun a' W'=>(∃u35 u36 u37 u38 u39 u40,a'={ tmps:=#[.slice al len cap,.slice a m d,.bool bottom,undef,undef,.pointer (pT Bb),nZ,.pointer (pT BL),.pointer (pT BK),.pointer (pT BR),sO b o nn cc,.slice ar nr cr,undef,undef,.slice al len cap,.bool true,.bool false,.slice al len cap,.slice a m d,.func (.func 187) #[] #[.pointer (pT B1),.pointer (pT Bk)],sO b o nn cc,u21,u22,u23,u24,u25,u26,u27,u28,u29,u30,u31,sO b o nn cc,.bool bb,.slice ar nr cr,u35,u36,u37,u38,u39,u40,undef,undef,undef,undef,undef,undef,undef,undef,undef,undef,undef,undef],defers:=[] })∧fX w bottom Bb BL BK BR W0.heap.size (s0,bb && F.isEmpty,sr) W'∧KeepsFrom W0.heap.size W W'∧aC (fun k=>k<W0.heap.size∧k≠BL∧k≠BK∧k≠BR) W W'∧af W' ar nr cr F∧Boxed W' BL 28 v0∧W1.heap.size≤W'.heap.size) ?_ ?_
       · cases bb with
         | false =>
          have h:=(HM false).out;have H:Hid (_∧_∧_∧_∧_∧W1.heap.size≤W2.heap.size):=⟨h.1,h.2.1,h.2.2.1,h.2.2.2.1,h.2.2.2.2.1,hs12⟩;clear h HM;gi_wp2
          first | exact H.out | exact ⟨H.out.1,H.out.2.1,H.out.2.2.1,H.out.2.2.2.1,H.out.2.2.2.2.1⟩
         | true =>
          by_cases hn0:nr=0
          · subst hn0;have hFe:F.isEmpty=true:=by rw [List.isEmpty_iff];exact List.length_eq_zero_iff.1 hnr
            have h:=(HM true).out;have H:Hid (_∧_∧_∧_∧_∧W1.heap.size≤W2.heap.size):=⟨h.1,h.2.1,h.2.2.1,h.2.2.2.1,h.2.2.2.2.1,hs12⟩;clear h HM;gi_wp2
            first | exact H.out | exact ⟨H.out.1,H.out.2.1,H.out.2.2.1,H.out.2.2.2.1,H.out.2.2.2.2.1⟩
          · have hFe:F.isEmpty=false:=by
             cases hFF:F with
             | nil=>rw [hFF] at hnr;simp at hnr;omega
             | cons=>rfl
            have hn0I:¬(nr:Int)=0:=by omega
            have hnB:((nr:Int) == 0)=false:=by simp;omega
            have h:=(HM false).out;have H:Hid (_∧_∧_∧_∧_∧W1.heap.size≤W2.heap.size):=⟨h.1,h.2.1,h.2.2.1,h.2.2.2.1,h.2.2.2.2.1,hs12⟩;clear h HM;gi_wp2
            try rw [hnB]
            first | exact H.out | exact ⟨H.out.1,H.out.2.1,H.out.2.2.1,H.out.2.2.2.1,H.out.2.2.2.2.1⟩
       · rintro a' W3 ⟨⟨u35,u36,u37,u38,u39,u40,rfl⟩,hV3,hkf3,hks3,hE3,bL3,hs13⟩;clear HM cR2 fR2 lR2 HK2 HS2 hz2;have hr3:W3.heap[l]?=some (.loop r):=hkf3.same l (.loop r) hl hr rfl;gi_wp2_with (refine ⟨trivial,?_⟩;gi_at_call 149;refine (CallsIn.inRound l (tX _ _ _ _ _)).mono ?_;rintro e w' ⟨rfl,rfl⟩)
         have bN:=Boxed.new W3 28 (.slice ar nr cr);have hal:Bl W3 (W3.alloc (.cells #[.slice ar nr cr] 28)):=bZ;have hrN:(W3.alloc (.cells #[.slice ar nr cr] 28)).heap[l]?=some (.loop r):=(Below.heap_alloc W3 _ l (Array.getElem?_eq_some_iff.1 hr3).1).trans hr3;obtain ⟨j1,j2,j3,⟨v,j4,j4b,j4c⟩,j5,j6,j7⟩:=hV3;obtain rfl:=Boxed.inj j4 bL3;have iN:lg w bottom Bb BL BK BR W0.heap.size v (W3.heap.size+1) (s0,bb && F.isEmpty,sr) (W3.alloc (.cells #[.slice ar nr cr] 28)):=lg.alloc hwz ⟨j1,j2,j3,⟨v,j4,j4b,j4c,.inl rfl⟩,j5,j6,j7⟩ _;have lL3:=j4.lt;obtain ⟨Wn,hWn⟩:∃Wn,W3.alloc (.cells #[.slice ar nr cr] 28)=Wn:=⟨_,rfl⟩;have hsn:Wn.heap.size=W3.heap.size+1:=by rw [← hWn];simp
         rw [hWn] at iN bN hal hrN ⊢;have HE3:Hid (af W3 ar nr cr F):=hE3;have HKF:Hid (KeepsFrom W0.heap.size W Wn):=hkf3.trans (fV hal);have HKS:Hid (aC (fun k=>k<W0.heap.size∧k≠BL∧k≠BK∧k≠BR) W Wn):=hks3.trans (aC.of hal (fun k hk=>by omega));have hvb:∀g,v.ownBlock=some g→W0.heap.size≤g∧g<W1.heap.size:=HVB.out;have hbB:=HBb.out;clear hWn j1 j2 j3 j4b j4c j5 j6 hkf3 hks3 hE3 hr3 bL3 HVB j4;obtain ⟨i0',hi',hz0',hz1',hz2'⟩:=info_parts Tryz.infoEnt;refine wpIn_rangeFunc_ownN (l₀:=l) (r₀:=r) rfl hrN (by omega) (gf:=190) (lb:=#[.pointer (some ⟨W3.heap.size,0,none⟩)]) rfl trivial (enters_of Tryz.func190 (by kernel_rfl) rfl)
          ((mU (9 - 1 - 1 - 1) (by omega) W3.heap.size (fun k=>k<W3.heap.size+1∧k≠BL∧some k≠v.ownBlock) ar nr cr (fun i=>.string (Sq.entA F i).1) (fun i=>iT (Sq.entA F i).2.1) (fun i=>iT (Sq.entA F i).2.2.1) (fun i=>.string (Sq.entA F i).2.2.2.1) (fun i=>iT (Sq.entA F i).2.2.2.2) _ ⟨by omega,by omega,fun e=>by have:=hvb _ e.symm;omega⟩ bN.cell (fun h=>by obtain ⟨bx,ox,e,_⟩:=HE3.out.form h;exact ⟨bx,ox,e⟩) HE3.out.room HE3.out.big (fun k hk=>by omega)
           (fun bx ox e h1=>by
            have hbx:=(HE3.out.lies _ e (by omega)).1;have hw:=hbl2 _ e;simp only at hbx hw;refine ⟨⟨by omega,by omega,fun e'=>by have:=hvb _ e'.symm;omega⟩,fun i hi=>?_⟩;have hiF:i<F.length:=by omega
            obtain ⟨g0,g1,g2,g3,g4⟩:=HE3.out.cells _ e i hiF;simp only [Sq.entA_at hiF];exact ⟨cell_later hal g0,cell_later hal g1,cell_later hal g2,cell_later hal g3,cell_later hal g4⟩)).inRound l)
          aC.trans (iQ (fun k hk=>by omega)) (Below.refl _ _) (fun _=>rfl)
          (fun pre' W'=>lg w bottom Bb BL BK BR W0.heap.size v (W3.heap.size+1) (s0,bb && F.isEmpty,Sq.topE F sr pre') W'∧(aC (fun k=>k<W0.heap.size∧k≠BL∧k≠BK∧k≠BR) W W'∧(KeepsFrom W0.heap.size W W'∧W3.heap.size+1≤W'.heap.size)))
          (fun _ _ _=>False)
          (OwnFrom.and (fun pre' X Y row hs hg hr=>lg.own (by omega) hwz hs hg hr) (OwnFrom.and (Sq.keepS_own (fun k hk=>⟨by omega,by omega⟩)) (OwnFrom.and (ownFrom_keepsFrom (by have:=HKS.out.size;omega)) Sq.size_own)))
          (fun _ _ _ _ _ hs _ _=>hs)
          ⟨iN,HKS.out,HKF.out,by omega⟩
          (fun y a'' W'=>∃By,BR<By∧W'.cell? ⟨By,0,none⟩=some (.string (Sq.entA F y.1).1)∧W'.cell? ⟨By,1,none⟩=some (iT (Sq.entA F y.1).2.1)∧W'.cell? ⟨By,2,none⟩=some (iT (Sq.entA F y.1).2.2.1)∧W'.cell? ⟨By,3,none⟩=some (.string (Sq.entA F y.1).2.2.2.1)∧W'.cell? ⟨By,4,none⟩=some (iT (Sq.entA F y.1).2.2.2.2)∧a''={ tmps:=#[.slice al len cap,.slice a m d,.bool bottom,undef,undef,.pointer (pT Bb),nZ,.pointer (pT BL),.pointer (pT BK),.pointer (pT BR),sO b o nn cc,.slice ar nr cr,undef,.pointer (pT By),.slice al len cap,.bool true,.bool false,.slice al len cap,.slice a m d,.func (.func 187) #[] #[.pointer (pT B1),.pointer (pT Bk)],sO b o nn cc,u21,u22,u23,u24,u25,u26,u27,u28,u29,u30,u31,sO b o nn cc,.bool bb,.slice ar nr cr,u35,u36,u37,u38,u39,u40,.slice ar nr cr,.func (.func 190) #[] #[.pointer (some ⟨W3.heap.size,0,none⟩)],iT (y.1:Nat),.agg #[.string (Sq.entA F y.1).1,iT (Sq.entA F y.1).2.1,iT (Sq.entA F y.1).2.2.1,.string (Sq.entA F y.1).2.2.2.1,iT (Sq.entA F y.1).2.2.2.2],undef,undef,undef,undef,undef,undef,undef,undef],defers:=[] })
          (fun y a'' _ X Y row hs hg hr=>by obtain ⟨By,h1,h2,h3,h4,h5,h6,h7⟩:=hs;exact ⟨By,h1,cell_kept h2 hg (fun r e=>(hr r e).2),cell_kept h3 hg (fun r e=>(hr r e).2),cell_kept h4 hg (fun r e=>(hr r e).2),cell_kept h5 hg (fun r e=>(hr r e).2),cell_kept h6 hg (fun r e=>(hr r e).2),h7⟩)
          ?assign2 ?body2 ?done2 ?stop2
         case assign2 =>
          rintro l2 pre' y W' K ⟨hJ,hkS,hkF,hzz⟩ hK;gi_wp2
          have hba:∀o,Bl W' (W'.alloc o):=fun o=>(Below.refl _ _).alloc (Nat.le_refl _) o
          exact hK _ _ ((KeepsOthers.alloc _ _).from _) (aC.of (hba _) (fun k hk=>by omega)) ⟨lg.alloc hwz hJ _,hkS.trans (aC.of (hba _) (fun k hk=>by omega)),hkF.trans ((KeepsOthers.alloc _ _).from _),by simp;omega⟩ ⟨W'.heap.size,by omega,by simp,by simp,by simp,by simp,by simp,rfl⟩
         case body2 =>
          rintro l2 pre' y a'' W' _ _ ⟨⟨j1,j2,j3,⟨v',j4,j4b,j4c,j4d⟩,j5,j6,j7⟩,hkS,hkF,hzz⟩ ⟨By,hBy,y0,y1,y2,y3,y4,rfl⟩ hpl2;have HTE:Hid (Sq.topE F sr (pre'++[y])=Sq.entA F y.1 :: Sq.topE F sr pre'):=Sq.topE_snoc F sr pre' y;have hTl:=Sq.topE_len F sr pre';have hyF:y.1<F.length:=by have:=y.2;omega
          have hee:eO (Sq.entA F y.1)∧rU (Sq.entA F y.1):=by rw [Sq.entA_at hyF];exact ⟨HE3.out.ents _ (List.getElem_mem hyF),HSM.out _ (List.getElem_mem hyF)⟩
          obtain ⟨T,hT⟩:∃T,Sq.topE F sr pre'=T:=⟨_,rfl⟩;rw [hT] at j4b j4c j5 HTE hTl;obtain ⟨e,he⟩:∃e,Sq.entA F y.1=e:=⟨_,rfl⟩;rw [he] at y0 y1 y2 y3 y4 HTE hee ⊢;clear hT he;obtain ⟨ek,eq,ed,et,en⟩:=e;simp only at y0 y1 y2 y3 y4 j4b j4c j5 j2 j3;have hmul:pre.length*len≤1048576*1048576:=Nat.mul_le_mul (by omega) (by omega);have hTs:T.length≤1048576*1048576+1048576:=by omega
          clear hTl hmul;have c4:=j4.cell;have lL4:=j4.lt;have lBy:=World.block_lt_of_cell? _ _ y0;simp only at lBy;have HKS4:Hid (aC (fun k=>k<W0.heap.size∧k≠BL∧k≠BK∧k≠BR) W W'):=hkS;have HKF4:Hid (KeepsFrom W0.heap.size W W'):=hkF;have HJ4:Hid (v'.ownBlock=v.ownBlock∨∃g,v'.ownBlock=some g∧W3.heap.size+1≤g):=j4d;have HJ5:Hid (∀e ∈ T,eO e∧rU e):=j5;have HJ1:Hid (Boxed W' Bb 4 (.bool bottom)):=j1;have HJ2:Hid (Boxed W' BK 9 (.string s0)):=j2;have HJ3:Hid (Boxed W' BR 4 (.bool (bb && F.isEmpty))):=j3;have HJB:Hid (Boxed W' BL 28 v'):=j4;have HJW:Hid (Bl w W'):=j6;have HRW:Hid (W'.ownsRow W0.heap.size 78 5 v' T.length (aI T.reverse)):=j4b;clear hkS hkF j4d j5 j1 j2 j3 j4c j4 j6 j4b;gi_wp2_with (gi_at_builtin;refine wpListIn_append_own_at _ rfl _ _ 28 rfl W0.heap.size 78 i0' _ 5 56 Tryz.underlying28 hi' hz0' hz1' hz2' rfl (by decide) _ _ _ rfl (HRW.out.alloc _) ⟨W'.heap.size,0,none⟩ 1 1 (aW (ek,eq,ed,et,en)) rfl rfl (qI _ _ _ _ _ _ _) (bj [(ek,eq,ed,et,en)]) (by unfold maxLen;omega) (by omega) (by simp;omega) ?_;intro v2 w2 hown2 hgrow2 hnil2 hat2;obtain ⟨g2,cap2,rfl⟩:=ownsRow_succ hown2;obtain ⟨p1,p2,p3,p4⟩:=lg.push HJ1.out HJ2.out HJ3.out HJB.out HRW.out HJ4.out HJ5.out HJW.out j7 hzz hwz (by omega) (by omega) (by omega) (by omega) hee hown2 hgrow2 hat2;have c5:=p1.cell;have f5:=p1.frozen;have l5:=p1.lt;clear hown2 hgrow2 hnil2 hat2)
          have hq1:=p4 (fun k=>k<W3.heap.size+1∧k≠BL∧some k≠v.ownBlock) (fun k hk=>⟨by omega,hk.2.1,fun e'=>by
           rcases HJ4.out with h | ⟨g,h,hg⟩
           · exact hk.2.2 (by rw [e',h])
           · rw [h] at e';cases e';omega⟩)
          have hq2:=p4 (fun k=>k<W0.heap.size∧k≠BL∧k≠BK∧k≠BR) (fun k hk=>⟨by omega,hk.2.1,fun e'=>by
           have:=(HRW.out.lt k e'.symm).1;omega⟩)
          refine ⟨p3.from _,hq1,⟨?_,HKS4.out.trans hq2,HKF4.out.trans (p3.from _),Nat.le_trans hzz hq1.size⟩⟩;rw [HTE.out];exact p2
         case done2 =>
          rintro ys W' rfl ⟨⟨j1,j2,j3,⟨v',j4,j4b,j4c,_⟩,j5,j6,j7⟩,hkS,hkF,hzz⟩;rw [Sq.topE_all F sr hnr] at j4b j4c j5;gi_wp2
          refine ⟨hkF,hkS,?_⟩;show fX w bottom Bb BL BK BR W0.heap.size (ub L bottom (pre++[x])) W'∧(ub L bottom (pre++[x])).2.2.length≤(pre++[x]).length*len
          rw [HTB.out];refine ⟨⟨j1,j2,j3,⟨v',j4,j4b,j4c⟩,j5,j6,j7⟩,?_⟩;have e1:(pre++[x]).length*len=pre.length*len+len:=by rw [List.length_append,List.length_singleton,Nat.succ_mul]
          rw [e1];simp only [List.length_append];omega
         case stop2 =>
          rintro c pre' W' _ h;exact h.elim
  case done =>
   rintro D ys W hD hAll ⟨⟨j1,j2,j3,⟨v,j4,j4b,j4c⟩,j5,j6,j7⟩,_⟩ hK;have HSQ:Hid ((ub L bottom ys).2.2=bC L S bottom):=ur bottom hAll HR.out;have hQl:=fM L S bottom;rw [HLEN.out] at hQl;rw [HSQ.out] at j4b j4c j5;obtain ⟨R,hRR⟩:∃R,bC L S bottom=R:=⟨_,rfl⟩;rw [hRR] at j4b j4c j5 hQl;have HRR:Hid (bC L S bottom=R):=hRR;clear HSQ hRR j1 j2 j3 hAll;have hwz:w.heap.size≤W0.heap.size:=by rw [HBb.out];exact hkw
   have cL:=j4.cell;have lL:=j4.lt;have hbB:=HBb.out;rcases j4b.2 with ⟨rfl,h0⟩ | ⟨g,cp,cur,rfl,hb,hgb,r1,r2,_⟩
   · have hR0:R=[]:=List.length_eq_zero_iff.1 h0;subst hR0;have CE:=fA none 0 0 [] W (Bh W) (by omega) (fun e he=>by cases he);gi_wp2_with (first
      | (refine ⟨trivial,?_⟩;gi_at_call 150;refine (callsIn_wide.2 (Bs W)).mono ?_;rintro e w' ⟨rfl,rfl⟩)
      | (refine ⟨trivial,?_⟩;gi_at_call 111;refine (callsIn_wide.2 CE).mono ?_;rintro e w5 ⟨rfl,hO5,hs5,hb5⟩))
     have hDl:D<w'.heap.size:=(Array.getElem?_eq_some_iff.1 hK).1;have hK5:w5.heap[D]?=some (.deferred (some [])):=(hb5.block D hDl).trans hK;refine ⟨by simp,.inl ⟨_,_,rfl,run_takeDeferred hK5,?_⟩⟩;exact ⟨_,results_tmp rfl _ _ _,some ⟨w'.heap.size,0,none⟩,0,0,rfl,by rw [HRR.out];exact d7.some ((hO5.mono j6.size).grown (grownBy_putObj' w5 D (.deferred none)) (fun e=>by have h1:w'.heap.size=D:=Option.some.inj e;omega)),(j6.trans (hb5.mono j6.size)).trans (belowK_b (w:=w) (Nat.le_refl _) w5 D _ _ (by omega) hK5 rfl rfl)⟩
   · have hO:aE W W0.heap.size g R.length cp R.reverse:=⟨j4b,by simp,fun l hl=>(j5 l (List.mem_reverse.1 hl)).1⟩;have CV:=Cf W0.heap.size g R.length cp R.reverse W hO (by omega);rw [List.reverse_reverse] at CV;have hne:=j4.not_row (by decide) j4b;have HSM:Hid (∀e ∈ R,rU e):=fun e he=>(j5 e he).2
     have hDl:D<W.heap.size:=(Array.getElem?_eq_some_iff.1 hK).1;have hDg:D≠g:=fun e=>by rw [e,hgb] at hK;cases hK
     clear hgb r1 r2 j4c j5;gi_wp2_with (first
      | (refine ⟨trivial,?_⟩;gi_at_call 150;refine (callsIn_wide.2 CV).mono ?_;rintro e w4 ⟨rfl,hO4,hg4⟩;have b4:=j4.kept hg4 hne;have c4:=b4.cell;have l4:=b4.lt;have CE:=fA (pT g) R.length cp R w4 hO4.entsAt (by omega) HSM.out)
      | (refine ⟨trivial,?_⟩;gi_at_call 111;refine (callsIn_wide.2 CE).mono ?_;rintro e w5 ⟨rfl,hO5,hs5,hb5⟩))
     have hB4:Bl w w4:=j6.grown hg4 j6.size (fun k e=>by have h1:k=g:=(Option.some.inj e).symm;omega);have hK4:w4.heap[D]?=some (.deferred (some [])):=(hg4.block D hDl (fun e=>hDg (Option.some.inj e))).trans hK;have hs4:=hg4.size;have hK5:w5.heap[D]?=some (.deferred (some [])):=(hb5.block D (by omega)).trans hK4;refine ⟨by simp,.inl ⟨_,_,rfl,run_takeDeferred hK5,?_⟩⟩;exact ⟨_,results_tmp rfl _ _ _,some ⟨w4.heap.size,0,none⟩,R.length,R.length,rfl,by rw [HRR.out];exact d7.some ((hO5.mono hB4.size).grown (grownBy_putObj' w5 D (.deferred none)) (fun e=>by have h1:w4.heap.size=D:=Option.some.inj e;omega)),(hB4.trans (hb5.mono hB4.size)).trans (belowK_b (w:=w) (Nat.le_refl _) w5 D _ _ (by omega) hK5 rfl rfl)⟩
  case stop =>
   rintro D c pre W _ _ h _;exact h.elim
theorem mQ (lo:Nat) (al:Option Addr) (len cap:Nat) (L:List ac) (a:Option Addr) (m d:Nat) (S:List Int) (bottom:Bool) (w:World) (hL:af w al len cap L) (hI:aT lo w a m d S) (hlen:len≤1048576) (hm:m≤1048576) :
 CallsIn Fence.wide 9 Tryz.prog 99 #[.slice al len cap,.slice a m d,.bool bottom] w fun e w'=>∃ar n' c',e=.returned (.slice ar n' c')∧d7 w' w.heap.size ar n' c' (bC L S bottom)∧Bl w w':=by
 by_cases h1:1≤len
 · obtain ⟨b,off,rfl,hb⟩:=hL.form h1;exact mR lo b off _ len cap (fun _=>rfl) L a m d S bottom w hL hI hlen hm (fun _=>hb)
 · exact mR lo 0 0 al len cap (fun h=>absurd h h1) L a m d S bottom w hL hI hlen hm (fun h=>absurd h h1)
end Go.Proofs.YtlmgojlffgkciaaGreat
