/- Walks. -/
import Derived.Test.YtpobkmjicbobdaaGreatBl01
import Derived.Deep.LoopGhost
namespace Go.Proofs.YtpobkmjicbobdaaGreat
set_option maxRecDepth 100000
set_option maxHeartbeats 40000000
open Go.RowKit
theorem jh (k t:ByteArray) (q n:Int) (w:World) :
 Calls Tryz.prog 100 #[.agg #[.string k,iT q,iT 1,.string t,iT n]] w fun e w'=>e=.returned (.iface 176 (.agg #[]))∧Bl w w':=by
 go_enter Tryz.func100,Tryz.ntmps100
 go_wp2;go_ret;exact ⟨rfl,bZ⟩
theorem ji (k t:ByteArray) (q n:Int) (w:World) :
 Calls Tryz.prog 100 #[.agg #[.string k,iT q,iT 2,.string t,iT n]] w fun e w'=>e=.returned (.iface 177 (.agg #[]))∧Bl w w':=by
 go_enter Tryz.func100,Tryz.ntmps100
 go_wp2;go_ret;exact ⟨rfl,bZ⟩
theorem jk (k t:ByteArray) (q n:Int) (w:World) :
 Calls Tryz.prog 100 #[.agg #[.string k,iT q,iT 3,.string t,iT n]] w fun e w'=>e=.returned (.iface 178 (.agg #[]))∧Bl w w':=by
 go_enter Tryz.func100,Tryz.ntmps100
 go_wp2;go_ret;exact ⟨rfl,bZ⟩
theorem jP (k t:ByteArray) (q d n:Int) (w:World) (f:¬d=1) (g:¬d=2) (b:¬d=3) :
 Calls Tryz.prog 100 #[.agg #[.string k,iT q,iT d,.string t,iT n]] w fun e w'=>e=.returned (.iface 179 (.agg #[]))∧Bl w w':=by
 have o:(d == 1)=false:=by simpa using f
 have m:(d == 2)=false:=by simpa using g
 have r:(d == 3)=false:=by simpa using b
 go_enter Tryz.func100,Tryz.ntmps100
 go_wp2;go_ret;exact ⟨rfl,bZ⟩
theorem rD (k t:ByteArray) (q n:Int) (w:World) :
 Calls Tryz.prog 312 #[.agg #[],.agg #[.string k,iT q,iT 1,.string t,iT n]] w fun e w'=>e=.returned (.bool (fp 1 t n))∧Bl w w':=by
 go_enter Tryz.func312,Tryz.ntmps312
 go_wp2;go_ret;exact ⟨ah (mW (t:=t) (n:=n)).symm,bZ.alloc (by simp) _⟩
theorem rF (k t:ByteArray) (q n:Int) (w:World) :
 Calls Tryz.prog 314 #[.agg #[],.agg #[.string k,iT q,iT 2,.string t,iT n]] w fun e w'=>e=.returned (.bool (fp 2 t n))∧Bl w w':=by
 by_cases t0:t=ByteArray.empty
 · subst t0;by_cases b:n=0
   · subst b;go_enter Tryz.func314,Tryz.ntmps314
     go_wp2;all_goals
      go_ret;exact ⟨ah (by rw [gQ];rfl),bZ.alloc (by simp) _⟩
   · have g:(n == 0)=false:=by simpa using b
     go_enter Tryz.func314,Tryz.ntmps314
     go_wp2;all_goals
      go_ret;exact ⟨ah (by rw [gQ];simp [b]),bZ.alloc (by simp) _⟩
 · have d:=fl t0;have f:=jr t0;go_enter Tryz.func314,Tryz.ntmps314
   go_wp2;all_goals
    go_ret;exact ⟨ah (by rw [gQ];simp [d]),bZ.alloc (by simp) _⟩
theorem rG (k t:ByteArray) (q n:Int) (w:World) :
 Calls Tryz.prog 316 #[.agg #[],.agg #[.string k,iT q,iT 3,.string t,iT n]] w fun e w'=>e=.returned (.bool (fp 3 t n))∧Bl w w':=by
 by_cases t0:t=ByteArray.empty
 · subst t0;go_enter Tryz.func316,Tryz.ntmps316
   go_wp2;all_goals
    go_ret;exact ⟨ah (by rw [ly];rfl),bZ.alloc (by simp) _⟩
 · have d:=fl t0;have b:=jr t0;go_enter Tryz.func316,Tryz.ntmps316
   go_wp2;all_goals
    go_ret;exact ⟨ah (by rw [ly];simp [d,b]),bZ.alloc (by simp) _⟩
theorem tB (k t:ByteArray) (q d n:Int) (w:World) (f:¬d=1) (g:¬d=2) (b:¬d=3) :
 Calls Tryz.prog 318 #[.agg #[],.agg #[.string k,iT q,iT d,.string t,iT n]] w fun e w'=>e=.returned (.bool (fp d t n))∧Bl w w':=by
 go_enter Tryz.func318,Tryz.ntmps318
 go_wp2;go_ret;exact ⟨ah (mX f g b).symm,bZ.alloc (by simp) _⟩
section
attribute [local go_sem] DN
theorem below_drewN {B:Nat} {w w':World} (h:Below B w w') (n:Nat):Below B w (w'.drewN n):=h.trans ⟨rfl,rfl,rfl,Cy _,fun _ _=>rfl⟩
theorem tx (k t:ByteArray) (q d n:Int) (w:World) (hs:k.size≤maxLen) (hk:fu k=false) :
 Calls Tryz.prog 33 #[.agg #[.string k,iT q,iT d,.string t,iT n]] w fun e w'=>e=.returned (.bool (cT k q d t n))∧Bl w w':=by
 go_enter Tryz.func33,Tryz.ntmps33
 go_wp2_with fail
 go_quiet (first | (go_at_call 99;refine Calls.quiet_of_same (v:=.bool false) ((fM _ _ hs).mono (fun e w' h=>by rw [hk] at h;exact h))))
 go_wp2;go_ret;exact ⟨ah (tD hk).symm,below_drewN bZ _⟩
theorem u7 (k t:ByteArray) (q d n:Int) (w:World) (hs:k.size≤maxLen) (hk:fu k=true) (h1:q<1) :
 Calls Tryz.prog 33 #[.agg #[.string k,iT q,iT d,.string t,iT n]] w fun e w'=>e=.returned (.bool (cT k q d t n))∧Bl w w':=by
 have g:decide (1≤q)=false:=decide_eq_false (by omega);go_enter Tryz.func33,Tryz.ntmps33
 go_wp2_with fail
 go_quiet (first | (go_at_call 99;refine Calls.quiet_of_same (v:=.bool true) ((fM _ _ hs).mono (fun e w' h=>by rw [hk] at h;exact h))))
 go_wp2;go_ret;exact ⟨ah (vQ h1).symm,below_drewN bZ _⟩
theorem u6 (k t:ByteArray) (q d n:Int) (w:World) (hs:k.size≤maxLen) (hk:fu k=true) (h1:1≤q) (h2:100000<q) :
 Calls Tryz.prog 33 #[.agg #[.string k,iT q,iT d,.string t,iT n]] w fun e w'=>e=.returned (.bool (cT k q d t n))∧Bl w w':=by
 have g:decide (q≤100000)=false:=decide_eq_false (by omega);go_enter Tryz.func33,Tryz.ntmps33
 go_wp2_with fail
 go_quiet (first | (go_at_call 99;refine Calls.quiet_of_same (v:=.bool true) ((fM _ _ hs).mono (fun e w' h=>by rw [hk] at h;exact h))))
 go_wp2;go_ret;exact ⟨ah (vP h2).symm,below_drewN bZ _⟩
theorem vc (k t:ByteArray) (q d n:Int) (w:World) (hs:k.size≤maxLen) (hk:fu k=true) (h1:1≤q) (h2:q≤100000) (h3:n < -1000000) :
 Calls Tryz.prog 33 #[.agg #[.string k,iT q,iT d,.string t,iT n]] w fun e w'=>e=.returned (.bool (cT k q d t n))∧Bl w w':=by
 have g:decide (-1000000≤n)=false:=decide_eq_false (by omega);go_enter Tryz.func33,Tryz.ntmps33
 go_wp2_with fail
 go_quiet (first | (go_at_call 99;refine Calls.quiet_of_same (v:=.bool true) ((fM _ _ hs).mono (fun e w' h=>by rw [hk] at h;exact h))))
 go_wp2;go_ret;exact ⟨ah (vS h3).symm,below_drewN bZ _⟩
theorem u9 (k t:ByteArray) (q d n:Int) (w:World) (hs:k.size≤maxLen) (hk:fu k=true) (h1:1≤q) (h2:q≤100000) (h3:-1000000≤n) (h4:1000000<n) :
 Calls Tryz.prog 33 #[.agg #[.string k,iT q,iT d,.string t,iT n]] w fun e w'=>e=.returned (.bool (cT k q d t n))∧Bl w w':=by
 have g:decide (n≤1000000)=false:=decide_eq_false (by omega);go_enter Tryz.func33,Tryz.ntmps33
 go_wp2_with fail
 go_quiet (first | (go_at_call 99;refine Calls.quiet_of_same (v:=.bool true) ((fM _ _ hs).mono (fun e w' h=>by rw [hk] at h;exact h))))
 go_wp2;go_ret;exact ⟨ah (vR h4).symm,below_drewN bZ _⟩
theorem xH (k t:ByteArray) (q d n:Int) (w:World) (hs:k.size≤maxLen) (hk:fu k=true) (h1:1≤q) (h2:q≤100000) (h3:-1000000≤n) (h4:n≤1000000) (h5:60<t.size) :
 Calls Tryz.prog 33 #[.agg #[.string k,iT q,iT d,.string t,iT n]] w fun e w'=>e=.returned (.bool (cT k q d t n))∧Bl w w':=by
 have g:decide ((t.size:Int)≤60)=false:=decide_eq_false (by omega);go_enter Tryz.func33,Tryz.ntmps33
 go_wp2_with fail
 go_quiet (first | (go_at_call 99;refine Calls.quiet_of_same (v:=.bool true) ((fM _ _ hs).mono (fun e w' h=>by rw [hk] at h;exact h))))
 go_wp2;go_ret;exact ⟨ah (zK h5).symm,below_drewN bZ _⟩
theorem mN (k t:ByteArray) (q n:Int) (w:World) (hs:k.size≤maxLen) (x:t.size≤60) (hk:fu k=true) (h1:1≤q) (h2:q≤100000) (h3:-1000000≤n) (h4:n≤1000000) :
 Calls Tryz.prog 33 #[.agg #[.string k,iT q,iT 1,.string t,iT n]] w fun e w'=>e=.returned (.bool (cT k q 1 t n))∧Bl w w':=by
 have C:CG (cT k q 1 t n=fp 1 t n):=d5 hk h1 h2 h3 h4 x;have D:(t.size:Int)≤60:=by omega
 clear x;go_enter Tryz.func33,Tryz.ntmps33
 go_wp2_with fail
 obtain ⟨X,f⟩:=aH w.heap.size;obtain ⟨W,b⟩:=aH (w.alloc (.cells #[.string k,iT q,iT 1,.string t,iT n] 50));have x0:W.cell? ⟨X,0,none⟩=some (.string k):=by rw [b,f];simp
 have x1:W.cell? ⟨X,1,none⟩=some (iT q):=by rw [b,f];simp
 have B:W.cell? ⟨X,2,none⟩=some (iT 1):=by rw [b,f];simp
 have A:W.cell? ⟨X,3,none⟩=some (.string t):=by rw [b,f];simp
 have y:W.cell? ⟨X,4,none⟩=some (iT n):=by rw [b,f];simp
 have u:Bl w W:=by rw [b];exact bZ
 rw [← b,← f];clear b f;have g:CG (Bl w W):=u;clear u;have s:Bl W W.drew:=(Below.refl _ W).drew;have d:CG (∀w',Bl W w'→(w'.cell? ⟨X,0,none⟩=some (.string k)∧w'.cell? ⟨X,1,none⟩=some (iT q)∧w'.cell? ⟨X,2,none⟩=some (iT 1)∧w'.cell? ⟨X,3,none⟩=some (.string t)∧w'.cell? ⟨X,4,none⟩=some (iT n)∧X<w'.heap.size∧Bl W w')):=fun w' k=>⟨cell_later k x0,cell_later k x1,cell_later k B,cell_later k A,cell_later k y,Cz _ _ (cell_later k x0),k⟩
 have hm : ∀ w : World, (method 400 176 (.agg #[]) "loop.example/comptoir/impl.fits").run Tryz.prog w = .ok (312, .agg #[]) w := fun _ => by kernel_rfl
 go_region_held3 (fun w'=>w'.cell? ⟨X,0,none⟩=some (.string k)∧w'.cell? ⟨X,1,none⟩=some (iT q)∧w'.cell? ⟨X,2,none⟩=some (iT 1)∧w'.cell? ⟨X,3,none⟩=some (.string t)∧w'.cell? ⟨X,4,none⟩=some (iT n)∧X<w'.heap.size∧Bl W w') (first | exact d.o _ k2 | exact d.o _ k1 | exact d.o _ s) (first
  | (go_at_call 99;refine (fM _ _ hs).mono ?_;rw [hk];rintro e w' ⟨rfl,rfl⟩)
  | (go_at_call 100;refine (jh _ _ _ _ _).mono ?_;rintro e w1 ⟨rfl,r⟩;have k1:Bl W w1:=s.trans (r.mono s.size))
  | (go_at_call 312;refine (rD _ _ _ _ _).mono ?_;rintro e w2 ⟨rfl,m⟩;have k2:Bl W w2:=k1.trans (m.mono k1.size)))
 go_wp2;go_ret;exact ⟨ah C.o.symm,g.o.trans (k2.mono g.o.size)⟩
theorem mO (k t:ByteArray) (q n:Int) (w:World) (hs:k.size≤maxLen) (x:t.size≤60) (hk:fu k=true) (h1:1≤q) (h2:q≤100000) (h3:-1000000≤n) (h4:n≤1000000) :
 Calls Tryz.prog 33 #[.agg #[.string k,iT q,iT 2,.string t,iT n]] w fun e w'=>e=.returned (.bool (cT k q 2 t n))∧Bl w w':=by
 have C:CG (cT k q 2 t n=fp 2 t n):=d5 hk h1 h2 h3 h4 x;have D:(t.size:Int)≤60:=by omega
 clear x;go_enter Tryz.func33,Tryz.ntmps33
 go_wp2_with fail
 obtain ⟨X,f⟩:=aH w.heap.size;obtain ⟨W,b⟩:=aH (w.alloc (.cells #[.string k,iT q,iT 2,.string t,iT n] 50));have x0:W.cell? ⟨X,0,none⟩=some (.string k):=by rw [b,f];simp
 have x1:W.cell? ⟨X,1,none⟩=some (iT q):=by rw [b,f];simp
 have B:W.cell? ⟨X,2,none⟩=some (iT 2):=by rw [b,f];simp
 have A:W.cell? ⟨X,3,none⟩=some (.string t):=by rw [b,f];simp
 have y:W.cell? ⟨X,4,none⟩=some (iT n):=by rw [b,f];simp
 have u:Bl w W:=by rw [b];exact bZ
 rw [← b,← f];clear b f;have g:CG (Bl w W):=u;clear u;have s:Bl W W.drew:=(Below.refl _ W).drew;have d:CG (∀w',Bl W w'→(w'.cell? ⟨X,0,none⟩=some (.string k)∧w'.cell? ⟨X,1,none⟩=some (iT q)∧w'.cell? ⟨X,2,none⟩=some (iT 2)∧w'.cell? ⟨X,3,none⟩=some (.string t)∧w'.cell? ⟨X,4,none⟩=some (iT n)∧X<w'.heap.size∧Bl W w')):=fun w' k=>⟨cell_later k x0,cell_later k x1,cell_later k B,cell_later k A,cell_later k y,Cz _ _ (cell_later k x0),k⟩
 have hm : ∀ w : World, (method 400 177 (.agg #[]) "loop.example/comptoir/impl.fits").run Tryz.prog w = .ok (314, .agg #[]) w := fun _ => by kernel_rfl
 go_region_held3 (fun w'=>w'.cell? ⟨X,0,none⟩=some (.string k)∧w'.cell? ⟨X,1,none⟩=some (iT q)∧w'.cell? ⟨X,2,none⟩=some (iT 2)∧w'.cell? ⟨X,3,none⟩=some (.string t)∧w'.cell? ⟨X,4,none⟩=some (iT n)∧X<w'.heap.size∧Bl W w') (first | exact d.o _ k2 | exact d.o _ k1 | exact d.o _ s) (first
  | (go_at_call 99;refine (fM _ _ hs).mono ?_;rw [hk];rintro e w' ⟨rfl,rfl⟩)
  | (go_at_call 100;refine (ji _ _ _ _ _).mono ?_;rintro e w1 ⟨rfl,r⟩;have k1:Bl W w1:=s.trans (r.mono s.size))
  | (go_at_call 314;refine (rF _ _ _ _ _).mono ?_;rintro e w2 ⟨rfl,m⟩;have k2:Bl W w2:=k1.trans (m.mono k1.size)))
 go_wp2;go_ret;exact ⟨ah C.o.symm,g.o.trans (k2.mono g.o.size)⟩
theorem mP (k t:ByteArray) (q n:Int) (w:World) (hs:k.size≤maxLen) (x:t.size≤60) (hk:fu k=true) (h1:1≤q) (h2:q≤100000) (h3:-1000000≤n) (h4:n≤1000000) :
 Calls Tryz.prog 33 #[.agg #[.string k,iT q,iT 3,.string t,iT n]] w fun e w'=>e=.returned (.bool (cT k q 3 t n))∧Bl w w':=by
 have C:CG (cT k q 3 t n=fp 3 t n):=d5 hk h1 h2 h3 h4 x;have D:(t.size:Int)≤60:=by omega
 clear x;go_enter Tryz.func33,Tryz.ntmps33
 go_wp2_with fail
 obtain ⟨X,f⟩:=aH w.heap.size;obtain ⟨W,b⟩:=aH (w.alloc (.cells #[.string k,iT q,iT 3,.string t,iT n] 50));have x0:W.cell? ⟨X,0,none⟩=some (.string k):=by rw [b,f];simp
 have x1:W.cell? ⟨X,1,none⟩=some (iT q):=by rw [b,f];simp
 have B:W.cell? ⟨X,2,none⟩=some (iT 3):=by rw [b,f];simp
 have A:W.cell? ⟨X,3,none⟩=some (.string t):=by rw [b,f];simp
 have y:W.cell? ⟨X,4,none⟩=some (iT n):=by rw [b,f];simp
 have u:Bl w W:=by rw [b];exact bZ
 rw [← b,← f];clear b f;have g:CG (Bl w W):=u;clear u;have s:Bl W W.drew:=(Below.refl _ W).drew;have d:CG (∀w',Bl W w'→(w'.cell? ⟨X,0,none⟩=some (.string k)∧w'.cell? ⟨X,1,none⟩=some (iT q)∧w'.cell? ⟨X,2,none⟩=some (iT 3)∧w'.cell? ⟨X,3,none⟩=some (.string t)∧w'.cell? ⟨X,4,none⟩=some (iT n)∧X<w'.heap.size∧Bl W w')):=fun w' k=>⟨cell_later k x0,cell_later k x1,cell_later k B,cell_later k A,cell_later k y,Cz _ _ (cell_later k x0),k⟩
 have hm : ∀ w : World, (method 400 178 (.agg #[]) "loop.example/comptoir/impl.fits").run Tryz.prog w = .ok (316, .agg #[]) w := fun _ => by kernel_rfl
 go_region_held3 (fun w'=>w'.cell? ⟨X,0,none⟩=some (.string k)∧w'.cell? ⟨X,1,none⟩=some (iT q)∧w'.cell? ⟨X,2,none⟩=some (iT 3)∧w'.cell? ⟨X,3,none⟩=some (.string t)∧w'.cell? ⟨X,4,none⟩=some (iT n)∧X<w'.heap.size∧Bl W w') (first | exact d.o _ k2 | exact d.o _ k1 | exact d.o _ s) (first
  | (go_at_call 99;refine (fM _ _ hs).mono ?_;rw [hk];rintro e w' ⟨rfl,rfl⟩)
  | (go_at_call 100;refine (jk _ _ _ _ _).mono ?_;rintro e w1 ⟨rfl,r⟩;have k1:Bl W w1:=s.trans (r.mono s.size))
  | (go_at_call 316;refine (rG _ _ _ _ _).mono ?_;rintro e w2 ⟨rfl,m⟩;have k2:Bl W w2:=k1.trans (m.mono k1.size)))
 go_wp2;go_ret;exact ⟨ah C.o.symm,g.o.trans (k2.mono g.o.size)⟩
theorem oP (k t:ByteArray) (q d n:Int) (w:World) (hs:k.size≤maxLen) (C:t.size≤60) (hk:fu k=true) (h1:1≤q) (h2:q≤100000) (h3:-1000000≤n) (h4:n≤1000000) (x:¬d=1) (B:¬d=2) (y:¬d=3) :
 Calls Tryz.prog 33 #[.agg #[.string k,iT q,iT d,.string t,iT n]] w fun e w'=>e=.returned (.bool (cT k q d t n))∧Bl w w':=by
 have I:CG (cT k q d t n=fp d t n):=d5 hk h1 h2 h3 h4 C;have D:(t.size:Int)≤60:=by omega
 clear C;go_enter Tryz.func33,Tryz.ntmps33
 go_wp2_with fail
 obtain ⟨X,g⟩:=aH w.heap.size;obtain ⟨W,b⟩:=aH (w.alloc (.cells #[.string k,iT q,iT d,.string t,iT n] 50));have x0:W.cell? ⟨X,0,none⟩=some (.string k):=by rw [b,g];simp
 have x1:W.cell? ⟨X,1,none⟩=some (iT q):=by rw [b,g];simp
 have H:W.cell? ⟨X,2,none⟩=some (iT d):=by rw [b,g];simp
 have F:W.cell? ⟨X,3,none⟩=some (.string t):=by rw [b,g];simp
 have E:W.cell? ⟨X,4,none⟩=some (iT n):=by rw [b,g];simp
 have A:Bl w W:=by rw [b];exact bZ
 rw [← b,← g];clear b g;have m:CG (Bl w W):=A;clear A;have u:Bl W W.drew:=(Below.refl _ W).drew;have f:CG (∀w',Bl W w'→(w'.cell? ⟨X,0,none⟩=some (.string k)∧w'.cell? ⟨X,1,none⟩=some (iT q)∧w'.cell? ⟨X,2,none⟩=some (iT d)∧w'.cell? ⟨X,3,none⟩=some (.string t)∧w'.cell? ⟨X,4,none⟩=some (iT n)∧X<w'.heap.size∧Bl W w')):=fun w' k=>⟨cell_later k x0,cell_later k x1,cell_later k H,cell_later k F,cell_later k E,Cz _ _ (cell_later k x0),k⟩
 have hm : ∀ w : World, (method 400 179 (.agg #[]) "loop.example/comptoir/impl.fits").run Tryz.prog w = .ok (318, .agg #[]) w := fun _ => by kernel_rfl
 go_region_held3 (fun w'=>w'.cell? ⟨X,0,none⟩=some (.string k)∧w'.cell? ⟨X,1,none⟩=some (iT q)∧w'.cell? ⟨X,2,none⟩=some (iT d)∧w'.cell? ⟨X,3,none⟩=some (.string t)∧w'.cell? ⟨X,4,none⟩=some (iT n)∧X<w'.heap.size∧Bl W w') (first | exact f.o _ k2 | exact f.o _ k1 | exact f.o _ u) (first
  | (go_at_call 99;refine (fM _ _ hs).mono ?_;rw [hk];rintro e w' ⟨rfl,rfl⟩)
  | (go_at_call 100;refine (jP _ _ _ _ _ _ x B y).mono ?_;rintro e w1 ⟨rfl,s⟩;have k1:Bl W w1:=u.trans (s.mono u.size))
  | (go_at_call 318;refine (tB _ _ _ _ _ _ x B y).mono ?_;rintro e w2 ⟨rfl,r⟩;have k2:Bl W w2:=k1.trans (r.mono k1.size)))
 go_wp2;go_ret;exact ⟨ah I.o.symm,m.o.trans (k2.mono m.o.size)⟩
theorem vJ (k t:ByteArray) (q d n:Int) (w:World) (hs:k.size≤maxLen) :
 Calls Tryz.prog 33 #[.agg #[.string k,iT q,iT d,.string t,iT n]] w fun e w'=>e=.returned (.bool (cT k q d t n))∧Bl w w':=by
 cases hk:fu k with
 | false=>exact tx k t q d n w hs hk
 | true =>
  by_cases h1:q<1
  · exact u7 k t q d n w hs hk h1
  by_cases h2:100000<q
  · exact u6 k t q d n w hs hk (by omega) h2
  by_cases h3:n < -1000000
  · exact vc k t q d n w hs hk (by omega) (by omega) h3
  by_cases h4:1000000<n
  · exact u9 k t q d n w hs hk (by omega) (by omega) (by omega) h4
  by_cases h5:60<t.size
  · exact xH k t q d n w hs hk (by omega) (by omega) (by omega) (by omega) h5
  by_cases b:d=1
  · subst b;exact mN k t q n w hs (by omega) hk (by omega) (by omega) (by omega) (by omega)
  by_cases f:d=2
  · subst f;exact mO k t q n w hs (by omega) hk (by omega) (by omega) (by omega) (by omega)
  by_cases g:d=3
  · subst g;exact mP k t q n w hs (by omega) hk (by omega) (by omega) (by omega) (by omega)
  exact oP k t q d n w hs (by omega) hk (by omega) (by omega) (by omega) (by omega) b f g
end
theorem lV (a:Option Addr) (len f:Nat) (L:List ac) (w:World) (hL:ag w a len f L) :
 Calls Tryz.prog 201 #[.slice a len f] w fun e w'=>e=.returned (iT ((cV L:Nat):Int))∧Bl w w':=by
 have r:CG (L.length=len):=hL.length;have I:=hL.room;have x:=hL.big;unfold maxLen at x;have C:=bO hL;clear hL;go_enter Tryz.func201,Tryz.ntmps201
 go_wp2;go_loopw [3,4] (fun m i wr=>∃k p:Nat,k≤len∧i=iT k∧m=iT p∧p<65536∧Bl w wr∧p=cV (L.take k)) (fun _ i _=>len - (intOf i).toNat)
 case atStart=>exact ⟨0,0,C3 _,rfl,rfl,by omega,Below.refl _ _,rfl⟩
 case round =>
  obtain ⟨k,p,hk,rfl,rfl,hp,hb,hm⟩:=hrel;have B:CG (p=cV (L.take k)):=hm;clear hm;by_cases y:k<len
  · obtain ⟨b,E,rfl,A⟩:=C.o.form (by omega);obtain ⟨s,q,d,t,n,hg,g,K,U,T,R,N⟩:=C.o.ent hb A k y;have H:CG (L[k]?=some (s,q,d,t,n)):=hg;have hs:=g.1;simp only at hs;clear hg g;obtain ⟨z,hz⟩:=aH (gN s);have u:z<65536:=by rw [hz];exact oy s
    have F:CG (∀w,Calls Tryz.prog 237 #[.string s] w fun e w'=>e=.returned (iT (z:Int))∧w'=w):=by rw [hz];exact fun w=>yI s w hs
    have J:CG (∀w,Calls Tryz.prog 236 #[iT p,iT z] w fun e w'=>e=.returned (iT ((p ||| z:Nat):Int))∧w'=w):=fun w=>yG p z w hp u
    have D:CG (p ||| z=cV (L.take (k+1))):=by
     show p ||| z=cV (L.take (k+1))
     rw [ow H.o,← B.o,hz]
    clear hz;go_wp2_with (first | (go_at_call 237;refine (F.o _).mono ?_;rintro e Q ⟨rfl,rfl⟩) | (go_at_call 236;refine (J.o _).mono ?_;rintro e O ⟨rfl,rfl⟩))
    go_roundw
    case rel=>exact ⟨k+1,p ||| z,by omega,by go_num,rfl,ii hp u,hb,D.o⟩
    case measure=>simp [intOf];omega
  · go_wp2;go_ret;refine ⟨lj ?_,hb⟩;have:=B.o;rw [C9 (by rw [r.o];omega)] at this;rw [this]
theorem xF (a:Option Addr) (len f:Nat) (L:List ac) (w:World) (hL:ag w a len f L) :
 Calls Tryz.prog 219 #[.slice a len f] w fun e w'=>e=.returned (iT ((cV L:Nat):Int))∧Bl w w':=by
 have u:CG (L.length=len):=hL.length;have O:=hL.room;have y:=hL.big;unfold maxLen at y;have E:=bO hL;clear hL;go_enter Tryz.func219,Tryz.ntmps219
 go_wp2;go_loopw [3,8] (fun m i wr=>∃k p:Nat,k≤len∧i=iT k∧m=iT p∧p<65536∧Bl w wr∧p=cV (L.take k)) (fun _ i _=>len - (intOf i).toNat)
 case atStart=>exact ⟨0,0,C3 _,rfl,rfl,by omega,Below.refl _ _,rfl⟩
 case round =>
  obtain ⟨k,p,hk,rfl,rfl,hp,hb,hm⟩:=hrel;have D:CG (p=cV (L.take k)):=hm;clear hm;by_cases B:k<len
  · obtain ⟨b,J,rfl,C⟩:=E.o.form (by omega);obtain ⟨s,q,d,t,n,hg,g,Q,X,W,U,R⟩:=E.o.ent hb C k B;have N:CG (L[k]?=some (s,q,d,t,n)):=hg;have hs:=g.1;simp only at hs;clear hg g;obtain ⟨z,hz⟩:=aH (gN s);have x:z<65536:=by rw [hz];exact oy s
    have K:CG (∀w,Calls Tryz.prog 244 #[.string s] w fun e w'=>e=.returned (iT (z:Int))∧Bl w w'):=by rw [hz];exact fun w=>zv s w hs
    have F:CG (p ||| z=cV (L.take (k+1))):=by
     show p ||| z=cV (L.take (k+1))
     rw [ow N.o,← D.o,hz]
    have A:=we p z hp x;clear hz;go_wp2_with (go_at_call 244;refine (K.o _).mono ?_;rintro e T ⟨rfl,r⟩;obtain ⟨I,H⟩:=wg r)
    go_roundw
    case rel=>exact ⟨k+1,p ||| z,by omega,by go_num,by rw [← A],ii hp x,(hb.alloc (by have:=hb.size;omega) _).trans (r.mono (by have:=hb.size;simp;omega)),F.o⟩
    case measure=>simp [intOf];omega
  · go_wp2;go_ret;refine ⟨lj ?_,hb⟩;have:=D.o;rw [C9 (by rw [u.o];omega)] at this;rw [this]
end Go.Proofs.YtpobkmjicbobdaaGreat
