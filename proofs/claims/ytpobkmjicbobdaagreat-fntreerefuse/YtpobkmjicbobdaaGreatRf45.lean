/- Walks. -/
import Derived.Test.YtpobkmjicbobdaaGreatRf44
import Derived.RangeFuncBox
namespace Go.Proofs.YtpobkmjicbobdaaGreat
set_option maxRecDepth 100000
set_option maxHeartbeats 40000000
open Go.RowKit
variable {BH base g i j k n:Nat} {a b w w':World} {row:Option Nat} {v:Value}
theorem xd (g n c i j b1 o1 n1 c1 b2 o2 n2 c2:Nat) (k1 k2:Int) (s t s' t':ByteArray) (q d m q' d' m':Int) (w:World) (hi:i<n) (hj:j<n) (h1:0<n1) (h2:0<n2)
 (x0:w.cell? ⟨g,i*2,none⟩=some (sO b1 o1 n1 c1)) (x1:w.cell? ⟨g,i*2+1,none⟩=some (iT k1))
 (y0:w.cell? ⟨g,j*2,none⟩=some (sO b2 o2 n2 c2)) (y1:w.cell? ⟨g,j*2+1,none⟩=some (iT k2))
 (e0:w.cell? ⟨b1,o1,none⟩=some (.string s)) (e1:w.cell? ⟨b1,o1+1,none⟩=some (iT q)) (e2:w.cell? ⟨b1,o1+2,none⟩=some (iT d)) (e3:w.cell? ⟨b1,o1+3,none⟩=some (.string t)) (e4:w.cell? ⟨b1,o1+4,none⟩=some (iT m))
 (f0:w.cell? ⟨b2,o2,none⟩=some (.string s')) (f1:w.cell? ⟨b2,o2+1,none⟩=some (iT q')) (f2:w.cell? ⟨b2,o2+2,none⟩=some (iT d')) (f3:w.cell? ⟨b2,o2+3,none⟩=some (.string t')) (f4:w.cell? ⟨b2,o2+4,none⟩=some (iT m')) :
 Calls Tryz.prog 307 #[sL g n c,iT i,iT j] w fun e w'=>e=.returned (.bool (decide ((if jQ s q s' q'=0 then Lib.compareInt k1 k2 else jQ s q s' q')<0)))∧Bl w w':=by
 have hiI:(i:Int)<(n:Int):=by omega
 have hjI:(j:Int)<(n:Int):=by omega
 have zg:=World.block_lt_of_cell? _ _ x0;have z1:=World.block_lt_of_cell? _ _ e0;have z2:=World.block_lt_of_cell? _ _ f0;simp only at zg z1 z2;obtain ⟨C,hC⟩:=aI (jQ s q s' q');obtain ⟨D,hD⟩:=aI (Lib.compareInt k1 k2);have c1':∀w,Calls Tryz.prog 218 #[.agg #[.string s,iT q,iT d,.string t,iT m],.agg #[.string s',iT q',iT d',.string t',iT m']] w fun e w'=>e=.returned (iT C)∧Bl w w':=by rw [hC];exact qu s t s' t' q d m q' d' m'
 have c2':∀w,Calls Tryz.prog 170 #[iT k1,iT k2] w fun e w'=>e=.returned (iT D)∧w'=w:=by rw [hD];exact oQ k1 k2
 obtain ⟨O,hO⟩:=aI (if C=0 then D else C);have c3':∀b c w,w.cell? ⟨b,0,none⟩=some (iT C)→w.cell? ⟨b,1,none⟩=some (iT D)→Calls Tryz.prog 242 #[sL b 2 c] w fun e w'=>e=.returned (iT O)∧w'=w:=by
  rw [hO];exact fun b c w g0 g1=>AI C D b c w g0 g1
 rw [← hC,← hD,← hO];clear hC hD hO;have k0:Bl w w.drew:=(Below.refl _ w).drew;have HMK:Hid (∀w',Bl w w'→(w'.cell? ⟨g,i*2,none⟩=some (sO b1 o1 n1 c1)∧w'.cell? ⟨g,i*2+1,none⟩=some (iT k1)∧w'.cell? ⟨g,j*2,none⟩=some (sO b2 o2 n2 c2)∧w'.cell? ⟨g,j*2+1,none⟩=some (iT k2)∧w'.cell? ⟨b1,o1,none⟩=some (.string s)∧w'.cell? ⟨b1,o1+1,none⟩=some (iT q)∧w'.cell? ⟨b1,o1+2,none⟩=some (iT d)∧w'.cell? ⟨b1,o1+3,none⟩=some (.string t)∧w'.cell? ⟨b1,o1+4,none⟩=some (iT m)∧w'.cell? ⟨b2,o2,none⟩=some (.string s')∧w'.cell? ⟨b2,o2+1,none⟩=some (iT q')∧w'.cell? ⟨b2,o2+2,none⟩=some (iT d')∧w'.cell? ⟨b2,o2+3,none⟩=some (.string t')∧w'.cell? ⟨b2,o2+4,none⟩=some (iT m')∧g<w'.heap.size∧b1<w'.heap.size∧b2<w'.heap.size)):=fun w' k=>⟨cell_later k x0,cell_later k x1,cell_later k y0,cell_later k y1,cell_later k e0,cell_later k e1,cell_later k e2,cell_later k e3,cell_later k e4,cell_later k f0,cell_later k f1,cell_later k f2,cell_later k f3,cell_later k f4,Nat.lt_of_lt_of_le zg k.size,Nat.lt_of_lt_of_le z1 k.size,Nat.lt_of_lt_of_le z2 k.size⟩
 clear x0 x1 y0 y1 e0 e1 e2 e3 e4 f0 f1 f2 f3 f4 zg z1 z2;go_enter Tryz.func307,Tryz.ntmps307
 go_wp2_with fail
 refine eH HMK k0 fun aa=>?_
 refine aO 0 14 aa ?_;refine aO 15 10 aa ?_;refine aH 14 fun K hK=>?_
 go_simp;refine (c1' _).mono ?_;rintro e w1 ⟨rfl,b1'⟩;have kk1:Bl w w1:=k0.trans (b1'.mono k0.size);go_wp2_with fail
 refine hK.out _ _ (HMK.out _ kk1) fun aa=>?_
 (try go_frame);refine aH 25 fun K hK=>?_
 go_simp;refine (c2' _).mono ?_;rintro e w2 ⟨rfl,rfl⟩;go_wp2_with fail
 refine hK.out _ _ (HMK.out _ kk1) fun aa=>?_
 (try go_frame);refine aH 26 fun K hK=>?_
 go_simp;have kk2:=kk1.alloc kk1.size (.cells #[iT C,iT D] 3);refine hK.out _ _ (HMK.out _ kk2) fun aa=>?_
 (try go_frame);refine aH 27 fun K hK=>?_
 go_simp;refine (c3' _ _ _ (by simp) (by simp)).mono ?_;rintro e w3 ⟨rfl,rfl⟩;go_wp2_with fail
 refine hK.out _ _ (HMK.out _ kk2) fun aa=>?_
 (try go_frame);refine aO 28 2 aa ?_;refine dN ?_;clear HMK aa;go_wp2;go_ret;exact ⟨rfl,kk2⟩
theorem sJ (a b:ac):jQ a.1 a.2.1 b.1 b.2.1=0 ↔ aL a b=false∧aL b a=false:=by
 constructor
 · intro h;have h1:aL a b=false:=by
    unfold aL;rw [← iz,h];rfl
   refine ⟨h1,?_⟩;unfold jQ at h;rcases ii a.1.data.toList b.1.data.toList with ⟨e,_,_⟩ | ⟨e,_,e2⟩ | ⟨e,_,_⟩
   · rw [e] at h;simp at h
   · rw [e] at h;simp only [if_true] at h;have hk:a.1=b.1:=ByteArray.ext (Array.toList_inj.1 e2);have hq:a.2.1=b.2.1:=by
      unfold Lib.compareInt at h;by_cases g:b.2.1<a.2.1
      · simp [g] at h
      · by_cases g':b.2.1 > a.2.1
        · simp [g,g'] at h
        · omega
     unfold aL;rw [hk,hq];exact gg _ _
   · rw [e] at h;simp at h
 · rintro ⟨h1,h2⟩;obtain ⟨hk,hq⟩:=qn h1 h2;unfold jQ;rw [hk,hq];rcases ii b.1.data.toList b.1.data.toList with ⟨_,_,e⟩ | ⟨e,_,_⟩ | ⟨_,_,e⟩
   · exact absurd rfl e
   · rw [e];simp [Lib.compareInt]
   · exact absurd rfl e
theorem xe (a b:ac) (l r:List ac) (i j:Nat):decide ((if jQ a.1 a.2.1 b.1 b.2.1=0 then Lib.compareInt i j else jQ a.1 a.2.1 b.1 b.2.1)<0)=Mg.lessS aL (a :: l,i) (b :: r,j):=by
 unfold Mg.lessS;simp only;by_cases h:jQ a.1 a.2.1 b.1 b.2.1=0
 · obtain ⟨h1,h2⟩:=(sJ a b).1 h;rw [if_pos h,h1,h2];simp only [Bool.false_or,Bool.not_false,Bool.true_and];rw [decide_eq_decide];unfold Lib.compareInt;by_cases g:(i:Int)<(j:Int)
   · simp [g];omega
   · by_cases g':(i:Int) > (j:Int)
     · simp [g,g'];omega
     · simp [g,g'];omega
 · rw [if_neg h,iz];show aL a b=_
   cases h1:aL a b with
   | true=>rfl
   | false =>
    cases h2:aL b a with
    | true=>rfl
    | false=>exact absurd ((sJ a b).2 ⟨h1,h2⟩) h
theorem oU (BH g n c : Nat) (w : World) (hb : w.cell? ⟨BH, 0, none⟩ = some (.slice (some ⟨g, 0, none⟩) n c)) : (method 400 162 (.pointer (some ⟨BH, 0, none⟩)) "Less").run Tryz.prog w = .ok (307, .slice (some ⟨g, 0, none⟩) n c) w := by
 obtain ⟨i,hi⟩:∃i,Tryz.prog.info? 162=some i:=Option.isSome_iff_exists.1 (by kernel_rfl)
 have hm : ((Tryz.prog.info? 162).bind fun i => i.methods.find? (·.name == "Less")).map (fun m => (m.func, m.path)) = some (some (307, false), #[]) := by kernel_rfl
 rw [hi] at hm
 simp only [Option.bind_some] at hm
 obtain ⟨m,h1,h2⟩:=Option.map_eq_some_iff.1 hm
 simp only [Prod.mk.injEq] at h2
 have hu:Tryz.prog.underlying 162=some (.pointer 157):=by kernel_rfl
 have hnc : ∀ (t : TypeId) (a : Addr) (s : String), Builtin.ssaWrapNilChk_ #[t] t #[.pointer (some a), strVal "", strVal s] = pure (.pointer (some a)) := fun _ _ _ => rfl
 have hag:∀w,(isAgg 157).run Tryz.prog w=.ok false w:=fun _=>by kernel_rfl
 unfold method
 simp [typeInfo,hi,h1,h2.1,h2.2,follow,receiverAt,Place.get,hnc,loadVar,hag,hb,go_sem,run_underlying hu]
theorem oT (BH g n c : Nat) (w : World) (hb : w.cell? ⟨BH, 0, none⟩ = some (.slice (some ⟨g, 0, none⟩) n c)) : (method 400 162 (.pointer (some ⟨BH, 0, none⟩)) "Swap").run Tryz.prog w = .ok (308, .slice (some ⟨g, 0, none⟩) n c) w := by
 obtain ⟨i,hi⟩:∃i,Tryz.prog.info? 162=some i:=Option.isSome_iff_exists.1 (by kernel_rfl)
 have hm : ((Tryz.prog.info? 162).bind fun i => i.methods.find? (·.name == "Swap")).map (fun m => (m.func, m.path)) = some (some (308, false), #[]) := by kernel_rfl
 rw [hi] at hm
 simp only [Option.bind_some] at hm
 obtain ⟨m,h1,h2⟩:=Option.map_eq_some_iff.1 hm
 simp only [Prod.mk.injEq] at h2
 have hu:Tryz.prog.underlying 162=some (.pointer 157):=by kernel_rfl
 have hnc : ∀ (t : TypeId) (a : Addr) (s : String), Builtin.ssaWrapNilChk_ #[t] t #[.pointer (some a), strVal "", strVal s] = pure (.pointer (some a)) := fun _ _ _ => rfl
 have hag:∀w,(isAgg 157).run Tryz.prog w=.ok false w:=fun _=>by kernel_rfl
 unfold method
 simp [typeInfo,hi,h1,h2.1,h2.2,follow,receiverAt,Place.get,hnc,loadVar,hag,hb,go_sem,run_underlying hu]
theorem zh (BH g n c : Nat) (w : World) (hb : w.cell? ⟨BH, 0, none⟩ = some (.slice (some ⟨g, 0, none⟩) n c)) : (method 400 162 (.pointer (some ⟨BH, 0, none⟩)) "Len").run Tryz.prog w = .ok (306, .slice (some ⟨g, 0, none⟩) n c) w := by
 obtain ⟨i,hi⟩:∃i,Tryz.prog.info? 162=some i:=Option.isSome_iff_exists.1 (by kernel_rfl)
 have hm : ((Tryz.prog.info? 162).bind fun i => i.methods.find? (·.name == "Len")).map (fun m => (m.func, m.path)) = some (some (306, false), #[]) := by kernel_rfl
 rw [hi] at hm
 simp only [Option.bind_some] at hm
 obtain ⟨m,h1,h2⟩:=Option.map_eq_some_iff.1 hm
 simp only [Prod.mk.injEq] at h2
 have hu:Tryz.prog.underlying 162=some (.pointer 157):=by kernel_rfl
 have hnc : ∀ (t : TypeId) (a : Addr) (s : String), Builtin.ssaWrapNilChk_ #[t] t #[.pointer (some a), strVal "", strVal s] = pure (.pointer (some a)) := fun _ _ _ => rfl
 have hag:∀w,(isAgg 157).run Tryz.prog w=.ok false w:=fun _=>by kernel_rfl
 unfold method
 simp [typeInfo,hi,h1,h2.1,h2.2,follow,receiverAt,Place.get,hnc,loadVar,hag,hb,go_sem,run_underlying hu]
theorem AW (BH : Nat) (w : World) : (method 400 162 (.pointer (some ⟨BH, 0, none⟩)) "Push").run Tryz.prog w = .ok (310, .pointer (some ⟨BH, 0, none⟩)) w := by kernel_rfl
theorem Bh (BH : Nat) (w : World) : (method 400 162 (.pointer (some ⟨BH, 0, none⟩)) "Pop").run Tryz.prog w = .ok (309, .pointer (some ⟨BH, 0, none⟩)) w := by kernel_rfl
structure cK (w:World) (base BH g n c:Nat) (X:List cJ) (H:List (List ac × Nat)):Prop where
 box:w.cell? ⟨BH,0,none⟩=some (sL g n c)
 own:fk w base g n c X
 len:H.length=n
 rest:∀(k:Nat) x h,X[k]?=some x→H[k]?=some h→∃l,h=(l,x.2.2.2.2)∧ah w (some ⟨x.1,x.2.1,none⟩) x.2.2.1 x.2.2.2.1 l∧x.1<w.heap.size∧x.1≠g∧x.1≠BH
 ne:BH≠g
theorem cK.grown {c:Nat} {X X':List cJ} {H H':List (List ac × Nat)} (h:cK w base BH g n c X H) (hg:w.grownBy w' (some g)) (hO:fk w' base g n c X') (hl:H'.length=n) (hs:∀(k:Nat) x s,X'[k]?=some x→H'[k]?=some s→∃k':Nat,X[k']?=some x∧H[k']?=some s):cK w' base BH g n c X' H':=by
 have hbl:=World.block_lt_of_cell? _ _ h.box;refine ⟨?_,hO,hl,fun k x s hx hh=>?_,h.ne⟩
 · rw [World.cell?_of_block (a:=⟨BH,0,none⟩) (hg.block BH hbl (fun e=>h.ne (Option.some.inj e)))];exact h.box
 · obtain ⟨k',h1,h2⟩:=hs k x s hx hh;obtain ⟨l,r1,r2,r3,r4⟩:=h.rest k' x s h1 h2;refine ⟨l,r1,r2.grownB hg (fun y ey _=>?_),Nat.lt_of_lt_of_le r3 hg.size,r4⟩;cases ey;exact fun e=>r4.1 (Option.some.inj e)
theorem cK.below {c:Nat} {X:List cJ} {H:List (List ac × Nat)} (h:cK w base BH g n c X H) (hb:Bl w w'):cK w' base BH g n c X H:=by
 exact h.grown ⟨hb.os,hb.tape,hb.output,hb.size,fun k hk _=>hb.block k hk⟩ (h.own.below hb) h.len (fun k x s hx hh=>⟨k,hx,hh⟩)
theorem cK.swap {c:Nat} {X:List cJ} {H:List (List ac × Nat)} {x y:cJ} {u v:List ac × Nat} (h:cK w base BH g n c X H) (hx:X[i]?=some x) (hy:X[j]?=some y) (hu:H[i]?=some u) (hv:H[j]?=some v) (hg:w.grownBy w' (some g)) (hO:fk w' base g n c ((X.set i y).set j x)):cK w' base BH g n c (Mg.sw X i j x y) (Mg.sw H i j u v):=by
 refine h.grown hg hO (by rw [Mg.sw_len];exact h.len) (fun k z s hz hs=>?_);rw [Mg.sw_get hx hy] at hz;rw [Mg.sw_get hu hv] at hs;by_cases h1:k=j
 · rw [if_pos h1] at hz hs;exact ⟨i,by rw [hx];exact hz,by rw [hu];exact hs⟩
 · rw [if_neg h1] at hz hs;by_cases h2:k=i
   · rw [if_pos h2] at hz hs;exact ⟨j,by rw [hy];exact hz,by rw [hv];exact hs⟩
   · rw [if_neg h2] at hz hs;exact ⟨k,hz,hs⟩
def gT (n:Nat) (H:List (List ac × Nat)):Prop:=∀(j:Nat) h,j<n→H[j]?=some h→h.1≠[]
theorem gT.of {H:List (List ac × Nat)} (h:∀s ∈ H,s.1≠[]):gT n H:=fun _ s _ hs=>h s (List.mem_of_getElem? hs)
theorem gT.swap {H:List (List ac × Nat)} {u v:List ac × Nat} (h:gT n H) (hu:H[i]?=some u) (hv:H[j]?=some v) (hi:i<n) (hj:j<n):gT n (Mg.sw H i j u v):=fun k s hk hs=>by
 rw [Mg.sw_get hu hv] at hs
 by_cases h1:k=j
 · rw [if_pos h1] at hs;cases hs;exact h i _ hi hu
 · rw [if_neg h1] at hs
   by_cases h2:k=i
   · rw [if_pos h2] at hs;cases hs;exact h j _ hj hv
   · rw [if_neg h2] at hs;exact h k s hk hs
theorem cK.less {c:Nat} {X:List cJ} {H:List (List ac × Nat)} {u v:List ac × Nat} (h:cK w base BH g n c X H) (hu:H[i]?=some u) (hv:H[j]?=some v) (hu0:u.1≠[]) (hv0:v.1≠[]) :
 Calls Tryz.prog 307 #[sL g n c,iT i,iT j] w fun e w'=>e=.returned (.bool (Mg.lessS aL u v))∧Bl w w':=by
 have hi:=(List.getElem?_eq_some_iff.1 hu).1;have hj:=(List.getElem?_eq_some_iff.1 hv).1;have hl:=h.len;have hX:=h.own.len;obtain ⟨⟨b1,o1,n1,c1,k1⟩,hx⟩:∃x,X[i]?=some x:=⟨_,List.getElem?_eq_getElem (by omega)⟩;obtain ⟨⟨b2,o2,n2,c2,k2⟩,hy⟩:∃y,X[j]?=some y:=⟨_,List.getElem?_eq_getElem (by omega)⟩;obtain ⟨lu,rfl,r2,r3,_⟩:=h.rest i _ u hx hu;obtain ⟨lv,rfl,p2,p3,_⟩:=h.rest j _ v hy hv;obtain ⟨⟨s,q,d,t,m⟩,l,rfl⟩:=List.exists_cons_of_ne_nil hu0;obtain ⟨⟨s',q',d',t',m'⟩,l',rfl⟩:=List.exists_cons_of_ne_nil hv0;simp only at r2 r3 p2 p3;obtain ⟨x0,x1⟩:=h.own.at2 hx;obtain ⟨y0,y1⟩:=h.own.at2 hy;have hn1:0<n1:=by have:=r2.length;simp at this;omega
 have hn2:0<n2:=by have:=p2.length;simp at this;omega
 obtain ⟨e0,e1,e2,e3,e4⟩:=r2.cells _ rfl 0 (by simp);obtain ⟨f0,f1,f2,f3,f4⟩:=p2.cells _ rfl 0 (by simp);simp only [Nat.zero_mul,Nat.add_zero,List.getElem_cons_zero] at e0 e1 e2 e3 e4 f0 f1 f2 f3 f4;have hw:=xd g n c i j b1 o1 n1 c1 b2 o2 n2 c2 k1 k2 s t s' t' q d m q' d' m' w (by omega) (by omega) hn1 hn2 x0 x1 y0 y1 e0 e1 e2 e3 e4 f0 f1 f2 f3 f4;have hd:=xe (s,q,d,t,m) (s',q',d',t',m') l l' k1 k2;simp only at hd;rw [hd] at hw;exact hw
theorem o7:∀(X:List cJ) (k:Nat),eU (X.take k)=(eU X).take (k*2)
 | [],k=>by simp [eU]
 | x :: X,0=>by simp [eU]
 | x :: X,k+1=>by
  rw [List.take_succ_cons,gk,gk,o7 X k,show (k+1)*2=k*2+1+1 by omega,List.take_succ_cons,List.take_succ_cons]
theorem fk.take {c:Nat} {X:List cJ} (h:fk w base g n c X) (hk:k≤n):fk w base g k c (X.take k):=by
 have hl:=h.len;obtain ⟨h1,h2⟩:=h.owns;rcases h2 with ⟨hv,_⟩ | ⟨g',cap,cur,hv,hb,hg,hnc,hcm,hs,ht⟩
 · cases hv
 · cases hv;refine ⟨⟨by rw [xr,List.length_take,Nat.min_eq_left (by omega)],.inr ⟨g,c,cur,rfl,hb,hg,by omega,hcm,hs,?_⟩⟩,by rw [List.length_take];omega⟩;rw [o7,← ht,List.take_take,Nat.min_eq_left (by omega)]
theorem cK.pop {c:Nat} {X:List cJ} {H:List (List ac × Nat)} {o:Obj} (h:cK w base BH g n c X H) (hk:n=k+1):cK ((w.setCell ⟨BH,0,none⟩ (sL g k c)).alloc o) base BH g k c (X.take k) (H.take k):=by
 obtain ⟨w1,hw1⟩:=aI (w.setCell ⟨BH,0,none⟩ (sL g k c));have hg:w.grownBy w1 (some BH):=by rw [hw1];exact e9 w BH 0 _
 have hb1:w1.cell? ⟨BH,0,none⟩=some (sL g k c):=by rw [hw1];exact World.cell?_setCell_same' _ _ _ (by rw [h.box];rfl)
 rw [← hw1];have h1:cK w1 base BH g k c (X.take k) (H.take k):=by
  refine ⟨hb1,(h.own.take (by omega)).grown hg (fun e=>h.ne (Option.some.inj e).symm),by rw [List.length_take,h.len];omega,fun j x s hx hs=>?_,h.ne⟩;have hjx:=(List.getElem?_eq_some_iff.1 hx).1;rw [List.length_take] at hjx;rw [List.getElem?_take_of_lt (by omega)] at hx hs;obtain ⟨l,r1,r2,r3,r4,r5⟩:=h.rest j x s hx hs;refine ⟨l,r1,r2.grownB hg (fun y ey _=>?_),Nat.lt_of_lt_of_le r3 hg.size,r4,r5⟩;cases ey;exact fun e=>r5 (Option.some.inj e)
 exact h1.below bZ
theorem zl (base BH g n c k:Nat) (X:List cJ) (H:List (List ac × Nat)) (w:World) (hk:n=k+1) (hn:n≤1048576) (hB:base≤BH) (hfr:w.frozen? ⟨BH,0,none⟩=false) (hS:cK w base BH g n c X H) :
 Calls Tryz.prog 309 #[.pointer (pT BH)] w fun e w'=>(∃v,e=.returned v)∧cK w' base BH g k c (X.take k) (H.take k)∧Below base w w'∧KeepsOthers w w'∧w'.frozen? ⟨BH,0,none⟩=false∧w.grownBy w' (some BH):=by
 have hXL:=hS.own.len;obtain ⟨⟨xb,xo,xn,xc,xk⟩,hx⟩:∃x,X[k]?=some x:=⟨_,List.getElem?_eq_getElem (by omega)⟩;obtain ⟨x0,x1⟩:=hS.own.at2 hx;simp only at x0 x1;have hb:=hS.box;have zg:=hS.own.lt.2;have zb:=World.block_lt_of_cell? _ _ hb;simp only at zb;have HS:=bK hS;have HFR:=bK hfr;have wk:IntKind.i64.wrap ((n:Int) - 1)=(k:Int):=by rw [IntKind.wrap_i64];omega
 have hkI:(k:Int)<(n:Int):=by omega
 have hc:n≤c:=by
  rcases hS.own.owns.2 with ⟨hv,_⟩ | ⟨g',cap,cur,hv,_,_,hnc,_⟩
  · cases hv
  · cases hv;exact hnc
 have hcI:(k:Int)≤(c:Int):=by omega
 clear hS;go_enter Tryz.func309,Tryz.ntmps309
 go_wp2;go_ret;refine ⟨⟨_,rfl⟩,?_,?_,(KeepsOthers.setCell _ _ _).trans (KeepsOthers.alloc _ _),?_,(e9 _ _ _ _).trans (World.grownBy_alloc _ _ _)⟩
 · exact HS.out.pop hk
 · exact ((Below.refl base w).setCell (p:=⟨BH,0,none⟩) hB _).alloc (by have:=HS.out.own.lt;simp [World.setCell];omega) _
 · rw [World.frozen?_alloc_old _ _ _ (by show BH≠_;simp [World.setCell];omega),World.frozen?_setCell];exact HFR.out
structure iS (w:World) (base BH:Nat) (v:Value) (X:List cJ) (H:List (List ac × Nat)):Prop where
 box:Boxed w BH 157 v
 row:w.ownsRow base 164 2 v H.length (eU X)
 xl:X.length=H.length
 rest:∀(k:Nat) x h,X[k]?=some x→H[k]?=some h→∃e l,h=(e :: l,x.2.2.2.2)∧ah w (some ⟨x.1,x.2.1,none⟩) x.2.2.1 x.2.2.2.1 (e :: l)
 low:∀x ∈ X,x.1<base
 hB:base≤BH
theorem iS.empty (h:Boxed w BH 157 nZ) (hB:base≤BH):iS w base BH nZ [] [] :=
 ⟨h,⟨rfl,.inl ⟨rfl,rfl⟩⟩,rfl,(fun k x h hx=>by simp at hx),(fun x hx=>by cases hx),hB⟩
theorem iS.grown {X:List cJ} {H:List (List ac × Nat)} (h:iS w base BH v X H) (hg:w.grownBy w' row) (h1:some BH≠row) (h2:∀g,v.ownBlock=some g→some g≠row) (h3:∀r,row=some r→base≤r):iS w' base BH v X H:=by
 refine ⟨h.box.kept hg h1,h.row.kept hg ?_,h.xl,fun k x s hx hs=>?_,h.low,h.hB⟩
 · cases hv:v.ownBlock with
   | none=>exact .inl rfl
   | some g=>exact .inr (h2 g hv)
 · obtain ⟨e,l,r1,r2⟩:=h.rest k x s hx hs;refine ⟨e,l,r1,r2.grownB hg (fun y ey _=>?_)⟩;cases ey;intro e';have h4:=h3 _ e'.symm;have h5:=h.low x (List.mem_of_getElem? hx);exact absurd h4 (by simp only;omega)
theorem iS.below {X:List cJ} {H:List (List ac × Nat)} (h:iS w base BH v X H) (hb:Bl w w'):iS w' base BH v X H :=
 h.grown (row:=none) (dK hb) (by simp) (fun g _=>by simp) (fun r e=>by cases e)
theorem iS.cells {X:List cJ} {H:List (List ac × Nat)} (h:iS w base BH v X H) {g:Nat} (hg:v.ownBlock=some g):∃cc,w.heap[g]?=some (.cells cc 164 (0,0)):=by
 rcases h.row.2 with ⟨hv,_⟩ | ⟨g',cap,cur,hv,_,hc,_⟩
 · rw [hv] at hg;cases hg
 · rw [hv] at hg;cases hg;exact ⟨_,hc⟩
theorem iS.own {B:Nat} {X:List cJ} {H:List (List ac × Nat)} (h:iS w base BH v X H) (hB:base≤B) (hg:w.grownBy w' row) (hr:∀r,row=some r→B≤r∧∃o:Obj,w.heap[r]?=some o∧o.isCells=false):iS w' base BH v X H:=by
 refine h.grown hg (fun e=>?_) (fun g hg' e=>?_) (fun r e=>by have:=(hr r e).1;omega)
 · obtain ⟨_,o,ho,hc⟩:=hr _ e.symm;rw [show w.heap[BH]?=_ from h.box] at ho;cases ho;cases hc
 · obtain ⟨_,o,ho,hc⟩:=hr _ e.symm;obtain ⟨cc,hcc⟩:=h.cells hg';rw [hcc] at ho;cases ho;cases hc
theorem iS.hp {c:Nat} {X:List cJ} {H:List (List ac × Nat)} (h:iS w base BH (sL g n c) X H) (hn:H.length=n):cK w base BH g n c X H:=by
 have hxl:=h.xl;have hO:fk w base g n c X:=⟨by have:=h.row;rw [hn] at this;exact this,by omega⟩;refine ⟨h.box.cell,hO,hn,fun k x s hx hs=>?_,?_⟩
 · obtain ⟨e,l,r1,r2⟩:=h.rest k x s hx hs;have h1:=h.low x (List.mem_of_getElem? hx);have h2:=hO.lt;have h3:=h.hB;exact ⟨e :: l,r1,r2,by omega,by omega,by omega⟩
 · intro e;exact (h.box.not_row (by decide) h.row) (by rw [e];rfl)
theorem iS.live {X:List cJ} {H:List (List ac × Nat)} (h:iS w base BH v X H):∀s ∈ H,s.1≠[]:=fun s hs=>by
 obtain ⟨k,hk⟩:=List.getElem?_of_mem hs
 have hl:=(List.getElem?_eq_some_iff.1 hk).1
 obtain ⟨e,l,rfl,_⟩:=h.rest k _ s (List.getElem?_eq_getElem (by rw [h.xl];exact hl)) hk
 exact fun e=>by cases e
theorem iS.of {c:Nat} {X X':List cJ} {H H':List (List ac × Nat)} (h:iS w base BH v X H) (hS:cK w' base BH g n c X' H') (hx:X'.Perm X) (hv:∀s ∈ H',s.1≠[]) (hb:Boxed w' BH 157 (sL g n c)):iS w' base BH (sL g n c) X' H':=by
 refine ⟨hb,by rw [hS.len];exact hS.own.owns,by rw [hS.len];exact hS.own.len,fun k x s hx' hs=>?_,fun x hx'=>h.low x (hx.mem_iff.1 hx'),h.hB⟩;obtain ⟨l0,rfl,r2,_⟩:=hS.rest k x s hx' hs;obtain ⟨e,l,rfl⟩:=List.exists_cons_of_ne_nil (hv _ (List.mem_of_getElem? hs));exact ⟨e,l,rfl,r2⟩
def fQ (BH:Nat) (w w':World):Prop:=∀(B:Nat) (T:TypeId) (u:Value),Boxed w B T u→T≠164→B≠BH→Boxed w' B T u
theorem fQ.trans {c:World} (h:fQ BH a b) (k:fQ BH b c):fQ BH a c:=fun B T u hb hT hB=>k B T u (h B T u hb hT hB) hT hB
theorem fQ.below (h:Bl a b):fQ BH a b:=fun B T u hb _ _=>hb.kept (dK h) (by simp)
theorem fQ.grown (h:a.grownBy b (some g)) (hg:∃cc,a.heap[g]?=some (.cells cc 164 (0,0))):fQ BH a b:=fun B T u hb hT _=>hb.kept h (fun e=>by
 have e':=Option.some.inj e
 subst e'
 obtain ⟨cc,hc⟩:=hg
 have hc':=(show a.heap[B]?=_ from hb).symm.trans hc
 cases hc'
 exact hT rfl)
theorem uR (X:List cJ) (x:cJ):eU (X++[x])=eU X++fZ x:=by rw [rg];simp [eU]
theorem iS.push {W w1:World} {g' c':Nat} {X:List cJ} {H:List (List ac × Nat)} {x:cJ} {e:ac} {l:List ac} (h:iS W base BH v X H) (hE:ah W (some ⟨x.1,x.2.1,none⟩) x.2.2.1 x.2.2.2.1 (e :: l)) (hx:x.1<base)
 (hown:w1.ownsRow base 164 2 (sL g' (H.length+1) c') (H.length+1) (eU X++fZ x)) (hgrow:W.grownBy w1 v.ownBlock) :
 Boxed w1 BH 157 v∧iS (w1.setCell ⟨BH,0,none⟩ (sL g' (H.length+1) c')) base BH (sL g' (H.length+1) c') (X++[x]) (H++[(e :: l,x.2.2.2.2)])∧KeepsOthers W (w1.setCell ⟨BH,0,none⟩ (sL g' (H.length+1) c'))∧(base≤W.heap.size→Below base W (w1.setCell ⟨BH,0,none⟩ (sL g' (H.length+1) c')))∧fQ BH W (w1.setCell ⟨BH,0,none⟩ (sL g' (H.length+1) c')):=by
 have b1:=h.box.kept hgrow (h.box.not_row (by decide) h.row);have hgs:=grownBy_setCell' w1 BH (sL g' (H.length+1) c');have hlow:∀(y:cJ) (e0:ac) (l0:List ac),y.1<base→ah W (some ⟨y.1,y.2.1,none⟩) y.2.2.1 y.2.2.2.1 (e0 :: l0)→ah (w1.setCell ⟨BH,0,none⟩ (sL g' (H.length+1) c')) (some ⟨y.1,y.2.1,none⟩) y.2.2.1 y.2.2.2.1 (e0 :: l0):=by
  intro y e0 l0 hy hy2;refine (hy2.grownB hgrow (fun z ez _ e'=>?_)).grownB hgs (fun z ez _ e'=>?_)
  · cases ez;have:=(h.row.lt _ e'.symm).1;simp only at this;omega
  · cases ez;have h7:=Option.some.inj e';have h8:=h.hB;simp only at h7;omega
 refine ⟨b1,⟨b1.set _,?_,?_,?_,?_,h.hB⟩,?_,fun hs=>?_,fun B T u hb hT hB=>Boxed.kept (hb.kept hgrow (hb.not_row hT h.row)) hgs (fun e=>hB (Option.some.inj e))⟩
 · rw [List.length_append,uR];exact hown.kept hgs (.inr (b1.not_row (by decide) hown).symm)
 · rw [List.length_append,List.length_append,h.xl];rfl
 · intro k y s hy hs;by_cases hk:k<X.length
   · rw [List.getElem?_append_left hk] at hy;rw [List.getElem?_append_left (by rw [← h.xl];exact hk)] at hs;obtain ⟨e0,l0,r1,r2⟩:=h.rest k y s hy hs;exact ⟨e0,l0,r1,hlow y e0 l0 (h.low y (List.mem_of_getElem? hy)) r2⟩
   · rw [List.getElem?_append_right (by omega)] at hy;rw [List.getElem?_append_right (by rw [← h.xl];omega),← h.xl] at hs;have hk0:k - X.length=0:=by
      have:=(List.getElem?_eq_some_iff.1 hy).1;simp at this;omega
     rw [hk0] at hy hs;simp at hy hs;subst hy;subst hs;exact ⟨e,l,rfl,hlow _ e l hx hE⟩
 · intro y hy;rcases List.mem_append.1 hy with h1 | h1
   · exact h.low y h1
   · rw [List.mem_singleton] at h1;subst h1;exact hx
 · refine (KeepsOthers.of_grownBy hgrow fun j o ej hj=>?_).trans (KeepsOthers.setCell _ _ _);obtain ⟨cc,hcc⟩:=h.cells ej;rw [hcc] at hj;cases hj;rfl
 · exact ((Below.refl base W).grown hgrow hs (fun k ek=>(h.row.lt k ek).1)).setCell (p:=⟨BH,0,none⟩) h.hB _
theorem zi (base BH g n c j0:Nat) (X0:List cJ) (H0:List (List ac × Nat)) (w:World) (hn:n≤1048576) (hj:j0<n) (hS:cK w base BH g n c X0 H0) (hU:Mg.UpI (Mg.lessS aL) n H0 j0) (hLv:∀h ∈ H0,h.1≠[]) :
 Calls Tryz.prog 204 #[.iface 162 (.pointer (pT BH)),iT j0] w fun e w'=>e=.returned (.tuple #[])∧(∃X H,cK w' base BH g n c X H∧H.Perm H0∧X.Perm X0∧Mg.HeapTo (Mg.lessS aL) n H)∧w.grownBy w' (some g):=by
 have HS0:=bK hS;have HU0:=bK hU;have HLV:=bK hLv;clear hS hU hLv;go_enter Tryz.func204,Tryz.ntmps204
 go_wp2;go_loopw [1] (fun jv wr=>∃(j:Nat) (X:List cJ) (H:List (List ac × Nat)),jv=iT j∧j<n∧cK wr base BH g n c X H∧H.Perm H0∧X.Perm X0∧Mg.UpI (Mg.lessS aL) n H j∧w.grownBy wr (some g)) (fun jv _=>(intOf jv).toNat)
 case atStart=>exact ⟨j0,X0,H0,rfl,hj,HS0.out,List.Perm.refl _,List.Perm.refl _,HU0.out,⟨rfl,rfl,rfl,Nat.le_refl _,fun _ _ _=>rfl⟩⟩
 case round =>
  clear HS0 HU0 hj;obtain ⟨j,X,H,rfl,hj,hS,hP,hQ,hU,hG⟩:=hrel;have HS:Hid (cK wr base BH g n c X H):=hS;have HP:Hid (H.Perm H0):=hP;have HQ:Hid (X.Perm X0):=hQ;have HU:Hid (Mg.UpI (Mg.lessS aL) n H j):=hU;have HG:Hid (w.grownBy wr (some g)):=hG;clear hS hP hQ hU hG;by_cases h0:j=0
  · subst h0;have w1:IntKind.i64.wrap ((0:Int) - 1)=-1:=by decide
    have w2:(-1:Int).tdiv 2=0:=by decide
    have w3:IntKind.i64.wrap ((-1:Int).tdiv 2)=0:=by decide
    go_wp2;go_end0;exact ⟨rfl,⟨X,H,HS.out,HP.out,HQ.out,Mg.up_done HU.out (fun h=>by omega)⟩,HG.out⟩
  · obtain ⟨i,hi⟩:=aI ((j - 1) / 2);have w1:IntKind.i64.wrap ((j:Int) - 1)=(j:Int) - 1:=by rw [IntKind.wrap_i64];omega
    have w2:((j:Int) - 1).tdiv 2=(i:Int):=by rw [Int.tdiv_eq_ediv_of_nonneg (by omega)];omega
    have w3:IntKind.i64.wrap (i:Int)=(i:Int):=by rw [IntKind.wrap_i64];omega
    have hneI:¬(i:Int)=(j:Int):=by omega
    have hne:((i:Int) == (j:Int))=false:=by simp;omega
    have hij:i<j:=by omega
    have hLen:=HS.out.len;obtain ⟨u,hu⟩:∃u,H[i]?=some u:=⟨_,List.getElem?_eq_getElem (by omega)⟩;obtain ⟨v,hv⟩:∃v,H[j]?=some v:=⟨_,List.getElem?_eq_getElem (by omega)⟩;have hXL:=HS.out.own.len;obtain ⟨x,hx⟩:∃x,X[i]?=some x:=⟨_,List.getElem?_eq_getElem (by omega)⟩;obtain ⟨y,hy⟩:∃y,X[j]?=some y:=⟨_,List.getElem?_eq_getElem (by omega)⟩;have HI:Hid (i=(j - 1) / 2):=hi;have HUu:Hid (H[i]?=some u):=hu;have HVv:Hid (H[j]?=some v):=hv;have HXx:Hid (X[i]?=some x):=hx;have HYy:Hid (X[j]?=some y):=hy;have hm:=oU BH g n c wr HS.out.box;have CL:=HS.out.less hv hu (HLV.out _ (HP.out.mem_iff.1 (List.mem_of_getElem? hv))) (HLV.out _ (HP.out.mem_iff.1 (List.mem_of_getElem? hu)));clear hi hu hv hx hy hLen hXL;go_wp2_with fail
    refine CL.mono ?_;rintro e w1' ⟨rfl,hb1⟩;have HS1:Hid (cK w1' base BH g n c X H):=HS.out.below hb1;have HG1:Hid (w.grownBy w1' (some g)):=HG.out.trans ⟨hb1.os,hb1.tape,hb1.output,hb1.size,fun k hk _=>hb1.block k hk⟩;clear HS HG hb1 hm CL;cases hl:Mg.lessS aL v u with
    | false =>
     go_wp2;go_end0;exact ⟨rfl,⟨X,H,HS1.out,HP.out,HQ.out,Mg.up_done HU.out (fun _ _ p q hp hq=>by rw [← HI.out,HUu.out] at hp;rw [HVv.out] at hq;cases hp;cases hq;exact hl)⟩,HG1.out⟩
    | true =>
     have hm:=oT BH g n c w1' HS1.out.box;have CW:=ig base g n c i j X x y w1' HS1.out.own HXx.out HYy.out;go_wp2_with fail
     refine CW.mono ?_;rintro e w2' ⟨rfl,hO2,hg2⟩;have HS2:Hid (cK w2' base BH g n c (Mg.sw X i j x y) (Mg.sw H i j u v)):=HS1.out.swap HXx.out HYy.out HUu.out HVv.out hg2 hO2;have HG2:Hid (w.grownBy w2' (some g)):=HG1.out.trans hg2;clear HS1 HG1 hO2 hg2 hm CW;go_wp2;go_roundw
     case rel =>
      refine ⟨i,_,_,rfl,by omega,HS2.out,(Mg.sw_perm HUu.out HVv.out).trans HP.out,(Mg.sw_perm HXx.out HYy.out).trans HQ.out,?_,HG2.out⟩;have:=Mg.up_step (Mg.lessS_ord dO) HU.out (by omega) hj (by rw [← HI.out];exact HUu.out) HVv.out hl;rw [← HI.out] at this;exact this
     case measure=>simp [intOf] <;> omega
end Go.Proofs.YtpobkmjicbobdaaGreat
