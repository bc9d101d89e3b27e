/- Walks. -/
import Derived.Test.YtpobkmjicbobdaaGreatSn02
import Derived.Deep.LoopGhost
namespace Go.Proofs.YtpobkmjicbobdaaGreat
set_option maxRecDepth 100000
set_option maxHeartbeats 40000000
open Go.RowKit
section
attribute [local go_sem] Oper.semAt_some
theorem below_drewN {B:Nat} {w w':World} (h:Below B w w') (n:Nat):Below B w (w'.drewN n):=h.trans ⟨rfl,rfl,rfl,Nat.le_refl _,fun _ _=>rfl⟩
theorem rX (k t:ByteArray) (q d n:Int) (w:World) (hs:k.size≤maxLen) (hk:eV k=false) :
 Calls Tryz.prog 33 #[.agg #[.string k,iT q,iT d,.string t,iT n]] w fun e w'=>e=.returned (.bool (cK k q d t n))∧Bl w w':=by
 go_enter Tryz.func33,Tryz.ntmps33
 go_wp2_with fail
 go_quiet (first | (go_at_call 99;refine Calls.quiet_of_same (v:=.bool false) ((fl _ _ hs).mono (fun e w' h=>by rw [hk] at h;exact h))))
 go_wp2;go_ret;exact ⟨ag (r9 hk).symm,below_drewN bZ _⟩
theorem tT (k t:ByteArray) (q d n:Int) (w:World) (hs:k.size≤maxLen) (hk:eV k=true) (h1:q<1) :
 Calls Tryz.prog 33 #[.agg #[.string k,iT q,iT d,.string t,iT n]] w fun e w'=>e=.returned (.bool (cK k q d t n))∧Bl w w':=by
 have g:decide (1≤q)=false:=decide_eq_false (by omega);go_enter Tryz.func33,Tryz.ntmps33
 go_wp2_with fail
 go_quiet (first | (go_at_call 99;refine Calls.quiet_of_same (v:=.bool true) ((fl _ _ hs).mono (fun e w' h=>by rw [hk] at h;exact h))))
 go_wp2;go_ret;exact ⟨ag (uD h1).symm,below_drewN bZ _⟩
theorem tS (k t:ByteArray) (q d n:Int) (w:World) (hs:k.size≤maxLen) (hk:eV k=true) (h1:1≤q) (h2:100000<q) :
 Calls Tryz.prog 33 #[.agg #[.string k,iT q,iT d,.string t,iT n]] w fun e w'=>e=.returned (.bool (cK k q d t n))∧Bl w w':=by
 have g:decide (q≤100000)=false:=decide_eq_false (by omega);go_enter Tryz.func33,Tryz.ntmps33
 go_wp2_with fail
 go_quiet (first | (go_at_call 99;refine Calls.quiet_of_same (v:=.bool true) ((fl _ _ hs).mono (fun e w' h=>by rw [hk] at h;exact h))))
 go_wp2;go_ret;exact ⟨ag (uC h2).symm,below_drewN bZ _⟩
theorem tV (k t:ByteArray) (q d n:Int) (w:World) (hs:k.size≤maxLen) (hk:eV k=true) (h1:1≤q) (h2:q≤100000) (h3:n < -1000000) :
 Calls Tryz.prog 33 #[.agg #[.string k,iT q,iT d,.string t,iT n]] w fun e w'=>e=.returned (.bool (cK k q d t n))∧Bl w w':=by
 have g:decide (-1000000≤n)=false:=decide_eq_false (by omega);go_enter Tryz.func33,Tryz.ntmps33
 go_wp2_with fail
 go_quiet (first | (go_at_call 99;refine Calls.quiet_of_same (v:=.bool true) ((fl _ _ hs).mono (fun e w' h=>by rw [hk] at h;exact h))))
 go_wp2;go_ret;exact ⟨ag (uF h3).symm,below_drewN bZ _⟩
theorem tU (k t:ByteArray) (q d n:Int) (w:World) (hs:k.size≤maxLen) (hk:eV k=true) (h1:1≤q) (h2:q≤100000) (h3:-1000000≤n) (h4:1000000<n) :
 Calls Tryz.prog 33 #[.agg #[.string k,iT q,iT d,.string t,iT n]] w fun e w'=>e=.returned (.bool (cK k q d t n))∧Bl w w':=by
 have g:decide (n≤1000000)=false:=decide_eq_false (by omega);go_enter Tryz.func33,Tryz.ntmps33
 go_wp2_with fail
 go_quiet (first | (go_at_call 99;refine Calls.quiet_of_same (v:=.bool true) ((fl _ _ hs).mono (fun e w' h=>by rw [hk] at h;exact h))))
 go_wp2;go_ret;exact ⟨ag (uE h4).symm,below_drewN bZ _⟩
theorem vK (k t:ByteArray) (q d n:Int) (w:World) (hs:k.size≤maxLen) (hk:eV k=true) (h1:1≤q) (h2:q≤100000) (h3:-1000000≤n) (h4:n≤1000000) (h5:60<t.size) :
 Calls Tryz.prog 33 #[.agg #[.string k,iT q,iT d,.string t,iT n]] w fun e w'=>e=.returned (.bool (cK k q d t n))∧Bl w w':=by
 have g:decide ((t.size:Int)≤60)=false:=decide_eq_false (by omega);go_enter Tryz.func33,Tryz.ntmps33
 go_wp2_with fail
 go_quiet (first | (go_at_call 99;refine Calls.quiet_of_same (v:=.bool true) ((fl _ _ hs).mono (fun e w' h=>by rw [hk] at h;exact h))))
 go_wp2;go_ret;exact ⟨ag (xZ h5).symm,below_drewN bZ _⟩
theorem mq (k t:ByteArray) (q n:Int) (w:World) (hs:k.size≤maxLen) (ht:t.size≤60) (hk:eV k=true) (h1:1≤q) (h2:q≤100000) (h3:-1000000≤n) (h4:n≤1000000) :
 Calls Tryz.prog 33 #[.agg #[.string k,iT q,iT 1,.string t,iT n]] w fun e w'=>e=.returned (.bool (cK k q 1 t n))∧Bl w w':=by
 have HR:Hid (cK k q 1 t n=eU 1 t n):=dQ hk h1 h2 h3 h4 ht;have ht':(t.size:Int)≤60:=by omega
 clear ht;go_enter Tryz.func33,Tryz.ntmps33
 go_wp2_with fail
 obtain ⟨X,hX⟩:=aI w.heap.size;obtain ⟨W,hW⟩:=aI (w.alloc (.cells #[.string k,iT q,iT 1,.string t,iT n] 50));have x0:W.cell? ⟨X,0,none⟩=some (.string k):=by rw [hW,hX];simp
 have x1:W.cell? ⟨X,1,none⟩=some (iT q):=by rw [hW,hX];simp
 have x2:W.cell? ⟨X,2,none⟩=some (iT 1):=by rw [hW,hX];simp
 have x3:W.cell? ⟨X,3,none⟩=some (.string t):=by rw [hW,hX];simp
 have x4:W.cell? ⟨X,4,none⟩=some (iT n):=by rw [hW,hX];simp
 have kW:Bl w W:=by rw [hW];exact bZ
 rw [← hW,← hX];clear hW hX;have HKW:Hid (Bl w W):=kW;clear kW;have k0:Bl W W.drew:=(Below.refl _ W).drew;have HMK:Hid (∀w',Bl W w'→(w'.cell? ⟨X,0,none⟩=some (.string k)∧w'.cell? ⟨X,1,none⟩=some (iT q)∧w'.cell? ⟨X,2,none⟩=some (iT 1)∧w'.cell? ⟨X,3,none⟩=some (.string t)∧w'.cell? ⟨X,4,none⟩=some (iT n)∧X<w'.heap.size∧Bl W w')):=fun w' k=>⟨cell_later k x0,cell_later k x1,cell_later k x2,cell_later k x3,cell_later k x4,World.block_lt_of_cell? _ _ (cell_later k x0),k⟩
 have hm : ∀ w : World, (method 400 176 (.agg #[]) "loop.example/comptoir/impl.fits").run Tryz.prog w = .ok (312, .agg #[]) w := fun _ => by kernel_rfl
 go_region_held3 (fun w'=>w'.cell? ⟨X,0,none⟩=some (.string k)∧w'.cell? ⟨X,1,none⟩=some (iT q)∧w'.cell? ⟨X,2,none⟩=some (iT 1)∧w'.cell? ⟨X,3,none⟩=some (.string t)∧w'.cell? ⟨X,4,none⟩=some (iT n)∧X<w'.heap.size∧Bl W w') (first | exact HMK.out _ k2 | exact HMK.out _ k1 | exact HMK.out _ k0) (first
  | (go_at_call 99;refine (fl _ _ hs).mono ?_;rw [hk];rintro e w' ⟨rfl,rfl⟩)
  | (go_at_call 100;refine (nG _ _ _ _ _).mono ?_;rintro e w1 ⟨rfl,hb1⟩;have k1:Bl W w1:=k0.trans (hb1.mono k0.size))
  | (go_at_call 312;refine (qy _ _ _ _ _).mono ?_;rintro e w2 ⟨rfl,hb2⟩;have k2:Bl W w2:=k1.trans (hb2.mono k1.size)))
 go_wp2;go_ret;exact ⟨ag HR.out.symm,HKW.out.trans (k2.mono HKW.out.size)⟩
theorem ms (k t:ByteArray) (q n:Int) (w:World) (hs:k.size≤maxLen) (ht:t.size≤60) (hk:eV k=true) (h1:1≤q) (h2:q≤100000) (h3:-1000000≤n) (h4:n≤1000000) :
 Calls Tryz.prog 33 #[.agg #[.string k,iT q,iT 2,.string t,iT n]] w fun e w'=>e=.returned (.bool (cK k q 2 t n))∧Bl w w':=by
 have HR:Hid (cK k q 2 t n=eU 2 t n):=dQ hk h1 h2 h3 h4 ht;have ht':(t.size:Int)≤60:=by omega
 clear ht;go_enter Tryz.func33,Tryz.ntmps33
 go_wp2_with fail
 obtain ⟨X,hX⟩:=aI w.heap.size;obtain ⟨W,hW⟩:=aI (w.alloc (.cells #[.string k,iT q,iT 2,.string t,iT n] 50));have x0:W.cell? ⟨X,0,none⟩=some (.string k):=by rw [hW,hX];simp
 have x1:W.cell? ⟨X,1,none⟩=some (iT q):=by rw [hW,hX];simp
 have x2:W.cell? ⟨X,2,none⟩=some (iT 2):=by rw [hW,hX];simp
 have x3:W.cell? ⟨X,3,none⟩=some (.string t):=by rw [hW,hX];simp
 have x4:W.cell? ⟨X,4,none⟩=some (iT n):=by rw [hW,hX];simp
 have kW:Bl w W:=by rw [hW];exact bZ
 rw [← hW,← hX];clear hW hX;have HKW:Hid (Bl w W):=kW;clear kW;have k0:Bl W W.drew:=(Below.refl _ W).drew;have HMK:Hid (∀w',Bl W w'→(w'.cell? ⟨X,0,none⟩=some (.string k)∧w'.cell? ⟨X,1,none⟩=some (iT q)∧w'.cell? ⟨X,2,none⟩=some (iT 2)∧w'.cell? ⟨X,3,none⟩=some (.string t)∧w'.cell? ⟨X,4,none⟩=some (iT n)∧X<w'.heap.size∧Bl W w')):=fun w' k=>⟨cell_later k x0,cell_later k x1,cell_later k x2,cell_later k x3,cell_later k x4,World.block_lt_of_cell? _ _ (cell_later k x0),k⟩
 have hm : ∀ w : World, (method 400 177 (.agg #[]) "loop.example/comptoir/impl.fits").run Tryz.prog w = .ok (314, .agg #[]) w := fun _ => by kernel_rfl
 go_region_held3 (fun w'=>w'.cell? ⟨X,0,none⟩=some (.string k)∧w'.cell? ⟨X,1,none⟩=some (iT q)∧w'.cell? ⟨X,2,none⟩=some (iT 2)∧w'.cell? ⟨X,3,none⟩=some (.string t)∧w'.cell? ⟨X,4,none⟩=some (iT n)∧X<w'.heap.size∧Bl W w') (first | exact HMK.out _ k2 | exact HMK.out _ k1 | exact HMK.out _ k0) (first
  | (go_at_call 99;refine (fl _ _ hs).mono ?_;rw [hk];rintro e w' ⟨rfl,rfl⟩)
  | (go_at_call 100;refine (nH _ _ _ _ _).mono ?_;rintro e w1 ⟨rfl,hb1⟩;have k1:Bl W w1:=k0.trans (hb1.mono k0.size))
  | (go_at_call 314;refine (qA _ _ _ _ _).mono ?_;rintro e w2 ⟨rfl,hb2⟩;have k2:Bl W w2:=k1.trans (hb2.mono k1.size)))
 go_wp2;go_ret;exact ⟨ag HR.out.symm,HKW.out.trans (k2.mono HKW.out.size)⟩
theorem mt (k t:ByteArray) (q n:Int) (w:World) (hs:k.size≤maxLen) (ht:t.size≤60) (hk:eV k=true) (h1:1≤q) (h2:q≤100000) (h3:-1000000≤n) (h4:n≤1000000) :
 Calls Tryz.prog 33 #[.agg #[.string k,iT q,iT 3,.string t,iT n]] w fun e w'=>e=.returned (.bool (cK k q 3 t n))∧Bl w w':=by
 have HR:Hid (cK k q 3 t n=eU 3 t n):=dQ hk h1 h2 h3 h4 ht;have ht':(t.size:Int)≤60:=by omega
 clear ht;go_enter Tryz.func33,Tryz.ntmps33
 go_wp2_with fail
 obtain ⟨X,hX⟩:=aI w.heap.size;obtain ⟨W,hW⟩:=aI (w.alloc (.cells #[.string k,iT q,iT 3,.string t,iT n] 50));have x0:W.cell? ⟨X,0,none⟩=some (.string k):=by rw [hW,hX];simp
 have x1:W.cell? ⟨X,1,none⟩=some (iT q):=by rw [hW,hX];simp
 have x2:W.cell? ⟨X,2,none⟩=some (iT 3):=by rw [hW,hX];simp
 have x3:W.cell? ⟨X,3,none⟩=some (.string t):=by rw [hW,hX];simp
 have x4:W.cell? ⟨X,4,none⟩=some (iT n):=by rw [hW,hX];simp
 have kW:Bl w W:=by rw [hW];exact bZ
 rw [← hW,← hX];clear hW hX;have HKW:Hid (Bl w W):=kW;clear kW;have k0:Bl W W.drew:=(Below.refl _ W).drew;have HMK:Hid (∀w',Bl W w'→(w'.cell? ⟨X,0,none⟩=some (.string k)∧w'.cell? ⟨X,1,none⟩=some (iT q)∧w'.cell? ⟨X,2,none⟩=some (iT 3)∧w'.cell? ⟨X,3,none⟩=some (.string t)∧w'.cell? ⟨X,4,none⟩=some (iT n)∧X<w'.heap.size∧Bl W w')):=fun w' k=>⟨cell_later k x0,cell_later k x1,cell_later k x2,cell_later k x3,cell_later k x4,World.block_lt_of_cell? _ _ (cell_later k x0),k⟩
 have hm : ∀ w : World, (method 400 178 (.agg #[]) "loop.example/comptoir/impl.fits").run Tryz.prog w = .ok (316, .agg #[]) w := fun _ => by kernel_rfl
 go_region_held3 (fun w'=>w'.cell? ⟨X,0,none⟩=some (.string k)∧w'.cell? ⟨X,1,none⟩=some (iT q)∧w'.cell? ⟨X,2,none⟩=some (iT 3)∧w'.cell? ⟨X,3,none⟩=some (.string t)∧w'.cell? ⟨X,4,none⟩=some (iT n)∧X<w'.heap.size∧Bl W w') (first | exact HMK.out _ k2 | exact HMK.out _ k1 | exact HMK.out _ k0) (first
  | (go_at_call 99;refine (fl _ _ hs).mono ?_;rw [hk];rintro e w' ⟨rfl,rfl⟩)
  | (go_at_call 100;refine (nJ _ _ _ _ _).mono ?_;rintro e w1 ⟨rfl,hb1⟩;have k1:Bl W w1:=k0.trans (hb1.mono k0.size))
  | (go_at_call 316;refine (qB _ _ _ _ _).mono ?_;rintro e w2 ⟨rfl,hb2⟩;have k2:Bl W w2:=k1.trans (hb2.mono k1.size)))
 go_wp2;go_ret;exact ⟨ag HR.out.symm,HKW.out.trans (k2.mono HKW.out.size)⟩
theorem nM (k t:ByteArray) (q d n:Int) (w:World) (hs:k.size≤maxLen) (ht:t.size≤60) (hk:eV k=true) (h1:1≤q) (h2:q≤100000) (h3:-1000000≤n) (h4:n≤1000000) (d1:¬d=1) (d2:¬d=2) (d3:¬d=3) :
 Calls Tryz.prog 33 #[.agg #[.string k,iT q,iT d,.string t,iT n]] w fun e w'=>e=.returned (.bool (cK k q d t n))∧Bl w w':=by
 have HR:Hid (cK k q d t n=eU d t n):=dQ hk h1 h2 h3 h4 ht;have ht':(t.size:Int)≤60:=by omega
 clear ht;go_enter Tryz.func33,Tryz.ntmps33
 go_wp2_with fail
 obtain ⟨X,hX⟩:=aI w.heap.size;obtain ⟨W,hW⟩:=aI (w.alloc (.cells #[.string k,iT q,iT d,.string t,iT n] 50));have x0:W.cell? ⟨X,0,none⟩=some (.string k):=by rw [hW,hX];simp
 have x1:W.cell? ⟨X,1,none⟩=some (iT q):=by rw [hW,hX];simp
 have x2:W.cell? ⟨X,2,none⟩=some (iT d):=by rw [hW,hX];simp
 have x3:W.cell? ⟨X,3,none⟩=some (.string t):=by rw [hW,hX];simp
 have x4:W.cell? ⟨X,4,none⟩=some (iT n):=by rw [hW,hX];simp
 have kW:Bl w W:=by rw [hW];exact bZ
 rw [← hW,← hX];clear hW hX;have HKW:Hid (Bl w W):=kW;clear kW;have k0:Bl W W.drew:=(Below.refl _ W).drew;have HMK:Hid (∀w',Bl W w'→(w'.cell? ⟨X,0,none⟩=some (.string k)∧w'.cell? ⟨X,1,none⟩=some (iT q)∧w'.cell? ⟨X,2,none⟩=some (iT d)∧w'.cell? ⟨X,3,none⟩=some (.string t)∧w'.cell? ⟨X,4,none⟩=some (iT n)∧X<w'.heap.size∧Bl W w')):=fun w' k=>⟨cell_later k x0,cell_later k x1,cell_later k x2,cell_later k x3,cell_later k x4,World.block_lt_of_cell? _ _ (cell_later k x0),k⟩
 have hm : ∀ w : World, (method 400 179 (.agg #[]) "loop.example/comptoir/impl.fits").run Tryz.prog w = .ok (318, .agg #[]) w := fun _ => by kernel_rfl
 go_region_held3 (fun w'=>w'.cell? ⟨X,0,none⟩=some (.string k)∧w'.cell? ⟨X,1,none⟩=some (iT q)∧w'.cell? ⟨X,2,none⟩=some (iT d)∧w'.cell? ⟨X,3,none⟩=some (.string t)∧w'.cell? ⟨X,4,none⟩=some (iT n)∧X<w'.heap.size∧Bl W w') (first | exact HMK.out _ k2 | exact HMK.out _ k1 | exact HMK.out _ k0) (first
  | (go_at_call 99;refine (fl _ _ hs).mono ?_;rw [hk];rintro e w' ⟨rfl,rfl⟩)
  | (go_at_call 100;refine (oW _ _ _ _ _ _ d1 d2 d3).mono ?_;rintro e w1 ⟨rfl,hb1⟩;have k1:Bl W w1:=k0.trans (hb1.mono k0.size))
  | (go_at_call 318;refine (r6 _ _ _ _ _ _ d1 d2 d3).mono ?_;rintro e w2 ⟨rfl,hb2⟩;have k2:Bl W w2:=k1.trans (hb2.mono k1.size)))
 go_wp2;go_ret;exact ⟨ag HR.out.symm,HKW.out.trans (k2.mono HKW.out.size)⟩
theorem ux (k t:ByteArray) (q d n:Int) (w:World) (hs:k.size≤maxLen) :
 Calls Tryz.prog 33 #[.agg #[.string k,iT q,iT d,.string t,iT n]] w fun e w'=>e=.returned (.bool (cK k q d t n))∧Bl w w':=by
 cases hk:eV k with
 | false=>exact rX k t q d n w hs hk
 | true =>
  by_cases h1:q<1
  · exact tT k t q d n w hs hk h1
  by_cases h2:100000<q
  · exact tS k t q d n w hs hk (by omega) h2
  by_cases h3:n < -1000000
  · exact tV k t q d n w hs hk (by omega) (by omega) h3
  by_cases h4:1000000<n
  · exact tU k t q d n w hs hk (by omega) (by omega) (by omega) h4
  by_cases h5:60<t.size
  · exact vK k t q d n w hs hk (by omega) (by omega) (by omega) (by omega) h5
  by_cases d1:d=1
  · subst d1;exact mq k t q n w hs (by omega) hk (by omega) (by omega) (by omega) (by omega)
  by_cases d2:d=2
  · subst d2;exact ms k t q n w hs (by omega) hk (by omega) (by omega) (by omega) (by omega)
  by_cases d3:d=3
  · subst d3;exact mt k t q n w hs (by omega) hk (by omega) (by omega) (by omega) (by omega)
  exact nM k t q d n w hs (by omega) hk (by omega) (by omega) (by omega) (by omega) d1 d2 d3
end
theorem ll (a:Option Addr) (len cap:Nat) (L:List ac) (w:World) (hL:aq w a len cap L) :
 Calls Tryz.prog 201 #[.slice a len cap] w fun e w'=>e=.returned (iT ((cQ L:Nat):Int))∧Bl w w':=by
 have HLEN:Hid (L.length=len):=hL.length;have hbl:=hL.room;have hbc:=hL.big;unfold maxLen at hbc;have HL:=bQ hL;clear hL;go_enter Tryz.func201,Tryz.ntmps201
 go_wp2;go_loopw [3,4] (fun m i wr=>∃k p:Nat,k≤len∧i=iT k∧m=iT p∧p<65536∧Bl w wr∧p=cQ (L.take k)) (fun _ i _=>len - (intOf i).toNat)
 case atStart=>exact ⟨0,0,Nat.zero_le _,rfl,rfl,by omega,Below.refl _ _,rfl⟩
 case round =>
  obtain ⟨k,p,hk,rfl,rfl,hp,hb,hm⟩:=hrel;have HM:Hid (p=cQ (L.take k)):=hm;clear hm;by_cases hlt:k<len
  · obtain ⟨b,off,rfl,hbb⟩:=HL.out.form (by omega);obtain ⟨s,q,d,t,n,hg,hlw,g0,g1,g2,g3,g4⟩:=HL.out.ent hb hbb k hlt;have HG:Hid (L[k]?=some (s,q,d,t,n)):=hg;have hs:=hlw.1;simp only at hs;clear hg hlw;obtain ⟨z,hz⟩:=aI (fY s);have hz1:z<65536:=by rw [hz];exact nq s
    have CK:Hid (∀w,Calls Tryz.prog 237 #[.string s] w fun e w'=>e=.returned (iT (z:Int))∧w'=w):=by rw [hz];exact fun w=>xg s w hs
    have CO:Hid (∀w,Calls Tryz.prog 236 #[iT p,iT z] w fun e w'=>e=.returned (iT ((p ||| z:Nat):Int))∧w'=w):=fun w=>xd p z w hp hz1
    have HN:Hid (p ||| z=cQ (L.take (k+1))):=by
     show p ||| z=cQ (L.take (k+1))
     rw [nh HG.out,← HM.out,hz]
    clear hz;go_wp2_with (first | (go_at_call 237;refine (CK.out _).mono ?_;rintro e w1 ⟨rfl,rfl⟩) | (go_at_call 236;refine (CO.out _).mono ?_;rintro e w2 ⟨rfl,rfl⟩))
    go_roundw
    case rel=>exact ⟨k+1,p ||| z,by omega,by go_num,rfl,gJ hp hz1,hb,HN.out⟩
    case measure=>simp [intOf];omega
  · go_wp2;go_ret;refine ⟨jU ?_,hb⟩;have:=HM.out;rw [List.take_of_length_le (by rw [HLEN.out];omega)] at this;rw [this]
theorem vI (a:Option Addr) (len cap:Nat) (L:List ac) (w:World) (hL:aq w a len cap L) :
 Calls Tryz.prog 219 #[.slice a len cap] w fun e w'=>e=.returned (iT ((cQ L:Nat):Int))∧Bl w w':=by
 have HLEN:Hid (L.length=len):=hL.length;have hbl:=hL.room;have hbc:=hL.big;unfold maxLen at hbc;have HL:=bQ hL;clear hL;go_enter Tryz.func219,Tryz.ntmps219
 go_wp2;go_loopw [3,8] (fun m i wr=>∃k p:Nat,k≤len∧i=iT k∧m=iT p∧p<65536∧Bl w wr∧p=cQ (L.take k)) (fun _ i _=>len - (intOf i).toNat)
 case atStart=>exact ⟨0,0,Nat.zero_le _,rfl,rfl,by omega,Below.refl _ _,rfl⟩
 case round =>
  obtain ⟨k,p,hk,rfl,rfl,hp,hb,hm⟩:=hrel;have HM:Hid (p=cQ (L.take k)):=hm;clear hm;by_cases hlt:k<len
  · obtain ⟨b,off,rfl,hbb⟩:=HL.out.form (by omega);obtain ⟨s,q,d,t,n,hg,hlw,g0,g1,g2,g3,g4⟩:=HL.out.ent hb hbb k hlt;have HG:Hid (L[k]?=some (s,q,d,t,n)):=hg;have hs:=hlw.1;simp only at hs;clear hg hlw;obtain ⟨z,hz⟩:=aI (fY s);have hz1:z<65536:=by rw [hz];exact nq s
    have CK:Hid (∀w,Calls Tryz.prog 244 #[.string s] w fun e w'=>e=.returned (iT (z:Int))∧Bl w w'):=by rw [hz];exact fun w=>xO s w hs
    have HN:Hid (p ||| z=cQ (L.take (k+1))):=by
     show p ||| z=cQ (L.take (k+1))
     rw [nh HG.out,← HM.out,hz]
    have hor:=uK p z hp hz1;clear hz;go_wp2_with (go_at_call 244;refine (CK.out _).mono ?_;rintro e w1 ⟨rfl,hb1⟩;obtain ⟨hc1,hf1⟩:=yd hb1)
    go_roundw
    case rel=>exact ⟨k+1,p ||| z,by omega,by go_num,by rw [← hor],gJ hp hz1,(hb.alloc (by have:=hb.size;omega) _).trans (hb1.mono (by have:=hb.size;simp;omega)),HN.out⟩
    case measure=>simp [intOf];omega
  · go_wp2;go_ret;refine ⟨jU ?_,hb⟩;have:=HM.out;rw [List.take_of_length_le (by rw [HLEN.out];omega)] at this;rw [this]
end Go.Proofs.YtpobkmjicbobdaaGreat
