/- Walks. -/
import Derived.Test.YtpobkmjicbobdaaGreatBc01
import Derived.Deep.LoopGhost
namespace Go.Proofs.YtpobkmjicbobdaaGreat
set_option maxRecDepth 100000
set_option maxHeartbeats 40000000
open Go.RowKit
section
attribute [local go_sem] Gi
theorem below_drewN {B:Nat} {w w':World} (h:Below B w w') (n:Nat):Below B w (w'.drewN n):=h.trans ⟨rfl,rfl,rfl,Fv _,fun _ _=>rfl⟩
theorem ve (k t:ByteArray) (q d n:Int) (w:World) (hs:k.size≤maxLen) (hk:fV k=false) :
 Calls Tryz.prog 33 #[.agg #[.string k,iT q,iT d,.string t,iT n]] w fun e w'=>e=.returned (.bool (dm k q d t n))∧Bl w w':=by
 go_enter Tryz.func33,Tryz.ntmps33
 go_wp2_with fail
 go_quiet (first | (go_at_call 99;refine Calls.quiet_of_same (v:=.bool false) ((gy _ _ hs).mono (fun e w' h=>by rw [hk] at h;exact h))))
 go_wp2;go_ret;exact ⟨aq (vl hk).symm,below_drewN bZ _⟩
theorem xB (k t:ByteArray) (q d n:Int) (w:World) (hs:k.size≤maxLen) (hk:fV k=true) (h1:q<1) :
 Calls Tryz.prog 33 #[.agg #[.string k,iT q,iT d,.string t,iT n]] w fun e w'=>e=.returned (.bool (dm k q d t n))∧Bl w w':=by
 have g:decide (1≤q)=false:=decide_eq_false (by omega);go_enter Tryz.func33,Tryz.ntmps33
 go_wp2_with fail
 go_quiet (first | (go_at_call 99;refine Calls.quiet_of_same (v:=.bool true) ((gy _ _ hs).mono (fun e w' h=>by rw [hk] at h;exact h))))
 go_wp2;go_ret;exact ⟨aq (yy h1).symm,below_drewN bZ _⟩
theorem xA (k t:ByteArray) (q d n:Int) (w:World) (hs:k.size≤maxLen) (hk:fV k=true) (h1:1≤q) (h2:100000<q) :
 Calls Tryz.prog 33 #[.agg #[.string k,iT q,iT d,.string t,iT n]] w fun e w'=>e=.returned (.bool (dm k q d t n))∧Bl w w':=by
 have g:decide (q≤100000)=false:=decide_eq_false (by omega);go_enter Tryz.func33,Tryz.ntmps33
 go_wp2_with fail
 go_quiet (first | (go_at_call 99;refine Calls.quiet_of_same (v:=.bool true) ((gy _ _ hs).mono (fun e w' h=>by rw [hk] at h;exact h))))
 go_wp2;go_ret;exact ⟨aq (yx h2).symm,below_drewN bZ _⟩
theorem xD (k t:ByteArray) (q d n:Int) (w:World) (hs:k.size≤maxLen) (hk:fV k=true) (h1:1≤q) (h2:q≤100000) (h3:n < -1000000) :
 Calls Tryz.prog 33 #[.agg #[.string k,iT q,iT d,.string t,iT n]] w fun e w'=>e=.returned (.bool (dm k q d t n))∧Bl w w':=by
 have g:decide (-1000000≤n)=false:=decide_eq_false (by omega);go_enter Tryz.func33,Tryz.ntmps33
 go_wp2_with fail
 go_quiet (first | (go_at_call 99;refine Calls.quiet_of_same (v:=.bool true) ((gy _ _ hs).mono (fun e w' h=>by rw [hk] at h;exact h))))
 go_wp2;go_ret;exact ⟨aq (yB h3).symm,below_drewN bZ _⟩
theorem xC (k t:ByteArray) (q d n:Int) (w:World) (hs:k.size≤maxLen) (hk:fV k=true) (h1:1≤q) (h2:q≤100000) (h3:-1000000≤n) (h4:1000000<n) :
 Calls Tryz.prog 33 #[.agg #[.string k,iT q,iT d,.string t,iT n]] w fun e w'=>e=.returned (.bool (dm k q d t n))∧Bl w w':=by
 have g:decide (n≤1000000)=false:=decide_eq_false (by omega);go_enter Tryz.func33,Tryz.ntmps33
 go_wp2_with fail
 go_quiet (first | (go_at_call 99;refine Calls.quiet_of_same (v:=.bool true) ((gy _ _ hs).mono (fun e w' h=>by rw [hk] at h;exact h))))
 go_wp2;go_ret;exact ⟨aq (yA h4).symm,below_drewN bZ _⟩
theorem zZ (k t:ByteArray) (q d n:Int) (w:World) (hs:k.size≤maxLen) (hk:fV k=true) (h1:1≤q) (h2:q≤100000) (h3:-1000000≤n) (h4:n≤1000000) (h5:60<t.size) :
 Calls Tryz.prog 33 #[.agg #[.string k,iT q,iT d,.string t,iT n]] w fun e w'=>e=.returned (.bool (dm k q d t n))∧Bl w w':=by
 have g:decide ((t.size:Int)≤60)=false:=decide_eq_false (by omega);go_enter Tryz.func33,Tryz.ntmps33
 go_wp2_with fail
 go_quiet (first | (go_at_call 99;refine Calls.quiet_of_same (v:=.bool true) ((gy _ _ hs).mono (fun e w' h=>by rw [hk] at h;exact h))))
 go_wp2;go_ret;exact ⟨aq (Cm h5).symm,below_drewN bZ _⟩
theorem oJ (k t:ByteArray) (q n:Int) (w:World) (hs:k.size≤maxLen) (u:t.size≤60) (hk:fV k=true) (h1:1≤q) (h2:q≤100000) (h3:-1000000≤n) (h4:n≤1000000) :
 Calls Tryz.prog 33 #[.agg #[.string k,iT q,iT 1,.string t,iT n]] w fun e w'=>e=.returned (.bool (dm k q 1 t n))∧Bl w w':=by
 have A:Eq (dm k q 1 t n=fO 1 t n):=eG hk h1 h2 h3 h4 u;have B:(t.size:Int)≤60:=by omega
 clear u;go_enter Tryz.func33,Tryz.ntmps33
 go_wp2_with fail
 obtain ⟨X,d⟩:=aG w.heap.size;obtain ⟨W,b⟩:=aG (w.alloc (.cells #[.string k,iT q,iT 1,.string t,iT n] 50));have x0:W.cell? ⟨X,0,none⟩=some (.string k):=by rw [b,d];simp
 have x1:W.cell? ⟨X,1,none⟩=some (iT q):=by rw [b,d];simp
 have D:W.cell? ⟨X,2,none⟩=some (iT 1):=by rw [b,d];simp
 have y:W.cell? ⟨X,3,none⟩=some (.string t):=by rw [b,d];simp
 have C:W.cell? ⟨X,4,none⟩=some (iT n):=by rw [b,d];simp
 have x:Bl w W:=by rw [b];exact bZ
 rw [← b,← d];clear b d;have g:Eq (Bl w W):=x;clear x;have s:Bl W W.drew:=(Below.refl _ W).drew;have f:Eq (∀w',Bl W w'→(w'.cell? ⟨X,0,none⟩=some (.string k)∧w'.cell? ⟨X,1,none⟩=some (iT q)∧w'.cell? ⟨X,2,none⟩=some (iT 1)∧w'.cell? ⟨X,3,none⟩=some (.string t)∧w'.cell? ⟨X,4,none⟩=some (iT n)∧X<w'.heap.size∧Bl W w')):=fun w' k=>⟨cell_later k x0,cell_later k x1,cell_later k D,cell_later k y,cell_later k C,Fu _ _ (cell_later k x0),k⟩
 have hm : ∀ w : World, (method 400 176 (.agg #[]) "loop.example/comptoir/impl.fits").run Tryz.prog w = .ok (312, .agg #[]) w := fun _ => by kernel_rfl
 go_region_held3 (fun w'=>w'.cell? ⟨X,0,none⟩=some (.string k)∧w'.cell? ⟨X,1,none⟩=some (iT q)∧w'.cell? ⟨X,2,none⟩=some (iT 1)∧w'.cell? ⟨X,3,none⟩=some (.string t)∧w'.cell? ⟨X,4,none⟩=some (iT n)∧X<w'.heap.size∧Bl W w') (first | exact f.o _ k2 | exact f.o _ k1 | exact f.o _ s) (first
  | (go_at_call 99;refine (gy _ _ hs).mono ?_;rw [hk];rintro e w' ⟨rfl,rfl⟩)
  | (go_at_call 100;refine (jO _ _ _ _ _).mono ?_;rintro e w1 ⟨rfl,m⟩;have k1:Bl W w1:=s.trans (m.mono s.size))
  | (go_at_call 312;refine (tI _ _ _ _ _).mono ?_;rintro e w2 ⟨rfl,r⟩;have k2:Bl W w2:=k1.trans (r.mono k1.size)))
 go_wp2;go_ret;exact ⟨aq A.o.symm,g.o.trans (k2.mono g.o.size)⟩
theorem oK (k t:ByteArray) (q n:Int) (w:World) (hs:k.size≤maxLen) (u:t.size≤60) (hk:fV k=true) (h1:1≤q) (h2:q≤100000) (h3:-1000000≤n) (h4:n≤1000000) :
 Calls Tryz.prog 33 #[.agg #[.string k,iT q,iT 2,.string t,iT n]] w fun e w'=>e=.returned (.bool (dm k q 2 t n))∧Bl w w':=by
 have A:Eq (dm k q 2 t n=fO 2 t n):=eG hk h1 h2 h3 h4 u;have B:(t.size:Int)≤60:=by omega
 clear u;go_enter Tryz.func33,Tryz.ntmps33
 go_wp2_with fail
 obtain ⟨X,d⟩:=aG w.heap.size;obtain ⟨W,b⟩:=aG (w.alloc (.cells #[.string k,iT q,iT 2,.string t,iT n] 50));have x0:W.cell? ⟨X,0,none⟩=some (.string k):=by rw [b,d];simp
 have x1:W.cell? ⟨X,1,none⟩=some (iT q):=by rw [b,d];simp
 have D:W.cell? ⟨X,2,none⟩=some (iT 2):=by rw [b,d];simp
 have y:W.cell? ⟨X,3,none⟩=some (.string t):=by rw [b,d];simp
 have C:W.cell? ⟨X,4,none⟩=some (iT n):=by rw [b,d];simp
 have x:Bl w W:=by rw [b];exact bZ
 rw [← b,← d];clear b d;have g:Eq (Bl w W):=x;clear x;have s:Bl W W.drew:=(Below.refl _ W).drew;have f:Eq (∀w',Bl W w'→(w'.cell? ⟨X,0,none⟩=some (.string k)∧w'.cell? ⟨X,1,none⟩=some (iT q)∧w'.cell? ⟨X,2,none⟩=some (iT 2)∧w'.cell? ⟨X,3,none⟩=some (.string t)∧w'.cell? ⟨X,4,none⟩=some (iT n)∧X<w'.heap.size∧Bl W w')):=fun w' k=>⟨cell_later k x0,cell_later k x1,cell_later k D,cell_later k y,cell_later k C,Fu _ _ (cell_later k x0),k⟩
 have hm : ∀ w : World, (method 400 177 (.agg #[]) "loop.example/comptoir/impl.fits").run Tryz.prog w = .ok (314, .agg #[]) w := fun _ => by kernel_rfl
 go_region_held3 (fun w'=>w'.cell? ⟨X,0,none⟩=some (.string k)∧w'.cell? ⟨X,1,none⟩=some (iT q)∧w'.cell? ⟨X,2,none⟩=some (iT 2)∧w'.cell? ⟨X,3,none⟩=some (.string t)∧w'.cell? ⟨X,4,none⟩=some (iT n)∧X<w'.heap.size∧Bl W w') (first | exact f.o _ k2 | exact f.o _ k1 | exact f.o _ s) (first
  | (go_at_call 99;refine (gy _ _ hs).mono ?_;rw [hk];rintro e w' ⟨rfl,rfl⟩)
  | (go_at_call 100;refine (jP _ _ _ _ _).mono ?_;rintro e w1 ⟨rfl,m⟩;have k1:Bl W w1:=s.trans (m.mono s.size))
  | (go_at_call 314;refine (tJ _ _ _ _ _).mono ?_;rintro e w2 ⟨rfl,r⟩;have k2:Bl W w2:=k1.trans (r.mono k1.size)))
 go_wp2;go_ret;exact ⟨aq A.o.symm,g.o.trans (k2.mono g.o.size)⟩
theorem oM (k t:ByteArray) (q n:Int) (w:World) (hs:k.size≤maxLen) (u:t.size≤60) (hk:fV k=true) (h1:1≤q) (h2:q≤100000) (h3:-1000000≤n) (h4:n≤1000000) :
 Calls Tryz.prog 33 #[.agg #[.string k,iT q,iT 3,.string t,iT n]] w fun e w'=>e=.returned (.bool (dm k q 3 t n))∧Bl w w':=by
 have A:Eq (dm k q 3 t n=fO 3 t n):=eG hk h1 h2 h3 h4 u;have B:(t.size:Int)≤60:=by omega
 clear u;go_enter Tryz.func33,Tryz.ntmps33
 go_wp2_with fail
 obtain ⟨X,d⟩:=aG w.heap.size;obtain ⟨W,b⟩:=aG (w.alloc (.cells #[.string k,iT q,iT 3,.string t,iT n] 50));have x0:W.cell? ⟨X,0,none⟩=some (.string k):=by rw [b,d];simp
 have x1:W.cell? ⟨X,1,none⟩=some (iT q):=by rw [b,d];simp
 have D:W.cell? ⟨X,2,none⟩=some (iT 3):=by rw [b,d];simp
 have y:W.cell? ⟨X,3,none⟩=some (.string t):=by rw [b,d];simp
 have C:W.cell? ⟨X,4,none⟩=some (iT n):=by rw [b,d];simp
 have x:Bl w W:=by rw [b];exact bZ
 rw [← b,← d];clear b d;have g:Eq (Bl w W):=x;clear x;have s:Bl W W.drew:=(Below.refl _ W).drew;have f:Eq (∀w',Bl W w'→(w'.cell? ⟨X,0,none⟩=some (.string k)∧w'.cell? ⟨X,1,none⟩=some (iT q)∧w'.cell? ⟨X,2,none⟩=some (iT 3)∧w'.cell? ⟨X,3,none⟩=some (.string t)∧w'.cell? ⟨X,4,none⟩=some (iT n)∧X<w'.heap.size∧Bl W w')):=fun w' k=>⟨cell_later k x0,cell_later k x1,cell_later k D,cell_later k y,cell_later k C,Fu _ _ (cell_later k x0),k⟩
 have hm : ∀ w : World, (method 400 178 (.agg #[]) "loop.example/comptoir/impl.fits").run Tryz.prog w = .ok (316, .agg #[]) w := fun _ => by kernel_rfl
 go_region_held3 (fun w'=>w'.cell? ⟨X,0,none⟩=some (.string k)∧w'.cell? ⟨X,1,none⟩=some (iT q)∧w'.cell? ⟨X,2,none⟩=some (iT 3)∧w'.cell? ⟨X,3,none⟩=some (.string t)∧w'.cell? ⟨X,4,none⟩=some (iT n)∧X<w'.heap.size∧Bl W w') (first | exact f.o _ k2 | exact f.o _ k1 | exact f.o _ s) (first
  | (go_at_call 99;refine (gy _ _ hs).mono ?_;rw [hk];rintro e w' ⟨rfl,rfl⟩)
  | (go_at_call 100;refine (jQ _ _ _ _ _).mono ?_;rintro e w1 ⟨rfl,m⟩;have k1:Bl W w1:=s.trans (m.mono s.size))
  | (go_at_call 316;refine (tK _ _ _ _ _).mono ?_;rintro e w2 ⟨rfl,r⟩;have k2:Bl W w2:=k1.trans (r.mono k1.size)))
 go_wp2;go_ret;exact ⟨aq A.o.symm,g.o.trans (k2.mono g.o.size)⟩
theorem p7 (k t:ByteArray) (q d n:Int) (w:World) (hs:k.size≤maxLen) (x:t.size≤60) (hk:fV k=true) (h1:1≤q) (h2:q≤100000) (h3:-1000000≤n) (h4:n≤1000000) (y:¬d=1) (C:¬d=2) (B:¬d=3) :
 Calls Tryz.prog 33 #[.agg #[.string k,iT q,iT d,.string t,iT n]] w fun e w'=>e=.returned (.bool (dm k q d t n))∧Bl w w':=by
 have E:Eq (dm k q d t n=fO d t n):=eG hk h1 h2 h3 h4 x;have F:(t.size:Int)≤60:=by omega
 clear x;go_enter Tryz.func33,Tryz.ntmps33
 go_wp2_with fail
 obtain ⟨X,f⟩:=aG w.heap.size;obtain ⟨W,b⟩:=aG (w.alloc (.cells #[.string k,iT q,iT d,.string t,iT n] 50));have x0:W.cell? ⟨X,0,none⟩=some (.string k):=by rw [b,f];simp
 have x1:W.cell? ⟨X,1,none⟩=some (iT q):=by rw [b,f];simp
 have I:W.cell? ⟨X,2,none⟩=some (iT d):=by rw [b,f];simp
 have D:W.cell? ⟨X,3,none⟩=some (.string t):=by rw [b,f];simp
 have H:W.cell? ⟨X,4,none⟩=some (iT n):=by rw [b,f];simp
 have A:Bl w W:=by rw [b];exact bZ
 rw [← b,← f];clear b f;have m:Eq (Bl w W):=A;clear A;have u:Bl W W.drew:=(Below.refl _ W).drew;have g:Eq (∀w',Bl W w'→(w'.cell? ⟨X,0,none⟩=some (.string k)∧w'.cell? ⟨X,1,none⟩=some (iT q)∧w'.cell? ⟨X,2,none⟩=some (iT d)∧w'.cell? ⟨X,3,none⟩=some (.string t)∧w'.cell? ⟨X,4,none⟩=some (iT n)∧X<w'.heap.size∧Bl W w')):=fun w' k=>⟨cell_later k x0,cell_later k x1,cell_later k I,cell_later k D,cell_later k H,Fu _ _ (cell_later k x0),k⟩
 have hm : ∀ w : World, (method 400 179 (.agg #[]) "loop.example/comptoir/impl.fits").run Tryz.prog w = .ok (318, .agg #[]) w := fun _ => by kernel_rfl
 go_region_held3 (fun w'=>w'.cell? ⟨X,0,none⟩=some (.string k)∧w'.cell? ⟨X,1,none⟩=some (iT q)∧w'.cell? ⟨X,2,none⟩=some (iT d)∧w'.cell? ⟨X,3,none⟩=some (.string t)∧w'.cell? ⟨X,4,none⟩=some (iT n)∧X<w'.heap.size∧Bl W w') (first | exact g.o _ k2 | exact g.o _ k1 | exact g.o _ u) (first
  | (go_at_call 99;refine (gy _ _ hs).mono ?_;rw [hk];rintro e w' ⟨rfl,rfl⟩)
  | (go_at_call 100;refine (ll _ _ _ _ _ _ y C B).mono ?_;rintro e w1 ⟨rfl,r⟩;have k1:Bl W w1:=u.trans (r.mono u.size))
  | (go_at_call 318;refine (vj _ _ _ _ _ _ y C B).mono ?_;rintro e w2 ⟨rfl,s⟩;have k2:Bl W w2:=k1.trans (s.mono k1.size)))
 go_wp2;go_ret;exact ⟨aq E.o.symm,m.o.trans (k2.mono m.o.size)⟩
theorem yp (k t:ByteArray) (q d n:Int) (w:World) (hs:k.size≤maxLen) :
 Calls Tryz.prog 33 #[.agg #[.string k,iT q,iT d,.string t,iT n]] w fun e w'=>e=.returned (.bool (dm k q d t n))∧Bl w w':=by
 cases hk:fV k with
 | false=>exact ve k t q d n w hs hk
 | true =>
  by_cases h1:q<1
  · exact xB k t q d n w hs hk h1
  by_cases h2:100000<q
  · exact xA k t q d n w hs hk (by omega) h2
  by_cases h3:n < -1000000
  · exact xD k t q d n w hs hk (by omega) (by omega) h3
  by_cases h4:1000000<n
  · exact xC k t q d n w hs hk (by omega) (by omega) (by omega) h4
  by_cases h5:60<t.size
  · exact zZ k t q d n w hs hk (by omega) (by omega) (by omega) (by omega) h5
  by_cases b:d=1
  · subst b;exact oJ k t q n w hs (by omega) hk (by omega) (by omega) (by omega) (by omega)
  by_cases g:d=2
  · subst g;exact oK k t q n w hs (by omega) hk (by omega) (by omega) (by omega) (by omega)
  by_cases f:d=3
  · subst f;exact oM k t q n w hs (by omega) hk (by omega) (by omega) (by omega) (by omega)
  exact p7 k t q d n w hs (by omega) hk (by omega) (by omega) (by omega) (by omega) b g f
end
theorem mN (a:Option Addr) (len r:Nat) (L:List ae) (w:World) (hL:ah w a len r L) :
 Calls Tryz.prog 201 #[.slice a len r] w fun e w'=>e=.returned (iT ((du L:Nat):Int))∧Bl w w':=by
 have u:Eq (L.length=len):=hL.length;have H:=hL.room;have x:=hL.big;unfold maxLen at x;have C:=bT hL;clear hL;go_enter Tryz.func201,Tryz.ntmps201
 go_wp2;go_loopw [3,4] (fun m i wr=>∃k p:Nat,k≤len∧i=iT k∧m=iT p∧p<65536∧Bl w wr∧p=du (L.take k)) (fun _ i _=>len - (intOf i).toNat)
 case atStart=>exact ⟨0,0,FB _,rfl,rfl,by omega,Below.refl _ _,rfl⟩
 case round =>
  obtain ⟨k,p,hk,rfl,rfl,hp,hb,hm⟩:=hrel;have B:Eq (p=du (L.take k)):=hm;clear hm;by_cases A:k<len
  · obtain ⟨b,J,rfl,y⟩:=C.o.form (by omega);obtain ⟨s,q,d,t,n,hg,f,U,N,O,R,T⟩:=C.o.ent hb y k A;have F:Eq (L[k]?=some (s,q,d,t,n)):=hg;have hs:=f.1;simp only at hs;clear hg f;obtain ⟨z,hz⟩:=aG (iz s);have g:z<65536:=by rw [hz];exact pN s
    have E:Eq (∀w,Calls Tryz.prog 237 #[.string s] w fun e w'=>e=.returned (iT (z:Int))∧w'=w):=by rw [hz];exact fun w=>Bb s w hs
    have D:Eq (∀w,Calls Tryz.prog 236 #[iT p,iT z] w fun e w'=>e=.returned (iT ((p ||| z:Nat):Int))∧w'=w):=fun w=>A9 p z w hp g
    have I:Eq (p ||| z=du (L.take (k+1))):=by
     show p ||| z=du (L.take (k+1))
     rw [pL F.o,← B.o,hz]
    clear hz;go_wp2_with (first | (go_at_call 237;refine (E.o _).mono ?_;rintro e Q ⟨rfl,rfl⟩) | (go_at_call 236;refine (D.o _).mono ?_;rintro e K ⟨rfl,rfl⟩))
    go_roundw
    case rel=>exact ⟨k+1,p ||| z,by omega,by go_num,rfl,iN hp g,hb,I.o⟩
    case measure=>simp [intOf];omega
  · go_wp2;go_ret;refine ⟨mf ?_,hb⟩;have:=B.o;rw [FH (by rw [u.o];omega)] at this;rw [this]
theorem zY (a:Option Addr) (len u:Nat) (L:List ae) (w:World) (hL:ah w a len u L) :
 Calls Tryz.prog 219 #[.slice a len u] w fun e w'=>e=.returned (iT ((du L:Nat):Int))∧Bl w w':=by
 have x:Eq (L.length=len):=hL.length;have J:=hL.room;have y:=hL.big;unfold maxLen at y;have E:=bT hL;clear hL;go_enter Tryz.func219,Tryz.ntmps219
 go_wp2;go_loopw [3,8] (fun m i wr=>∃k p:Nat,k≤len∧i=iT k∧m=iT p∧p<65536∧Bl w wr∧p=du (L.take k)) (fun _ i _=>len - (intOf i).toNat)
 case atStart=>exact ⟨0,0,FB _,rfl,rfl,by omega,Below.refl _ _,rfl⟩
 case round =>
  obtain ⟨k,p,hk,rfl,rfl,hp,hb,hm⟩:=hrel;have D:Eq (p=du (L.take k)):=hm;clear hm;by_cases C:k<len
  · obtain ⟨b,O,rfl,B⟩:=E.o.form (by omega);obtain ⟨s,q,d,t,n,hg,f,X,Q,R,U,W⟩:=E.o.ent hb B k C;have I:Eq (L[k]?=some (s,q,d,t,n)):=hg;have hs:=f.1;simp only at hs;clear hg f;obtain ⟨z,hz⟩:=aG (iz s);have g:z<65536:=by rw [hz];exact pN s
    have F:Eq (∀w,Calls Tryz.prog 244 #[.string s] w fun e w'=>e=.returned (iT (z:Int))∧Bl w w'):=by rw [hz];exact fun w=>B3 s w hs
    have N:Eq (p ||| z=du (L.take (k+1))):=by
     show p ||| z=du (L.take (k+1))
     rw [pL I.o,← D.o,hz]
    have A:=yK p z hp g;clear hz;go_wp2_with (go_at_call 244;refine (F.o _).mono ?_;rintro e T ⟨rfl,r⟩;obtain ⟨H,K⟩:=vw r)
    go_roundw
    case rel=>exact ⟨k+1,p ||| z,by omega,by go_num,by rw [← A],iN hp g,(hb.alloc (by have:=hb.size;omega) _).trans (r.mono (by have:=hb.size;simp;omega)),N.o⟩
    case measure=>simp [intOf];omega
  · go_wp2;go_ret;refine ⟨mf ?_,hb⟩;have:=D.o;rw [FH (by rw [x.o];omega)] at this;rw [this]
end Go.Proofs.YtpobkmjicbobdaaGreat
namespace Go.Proofs.YtpobkmjicbobdaaGreat
open Go.RowKit
set_option maxRecDepth 100000
set_option maxHeartbeats 1000000
theorem ke (a:Option Addr) (len N:Nat) (L:List ae) (w:World) (hL:ah w a len N L) :
 Calls Tryz.prog 87 #[.slice a len N] w fun e w'=>e=.returned (.bool (aJ L))∧Bl w w':=by
 have x:Eq (L.length=len):=hL.length;have ai:=hL.room;have a4:=hL.big;unfold maxLen at a4;have HL:=bT hL;clear hL;go_enter Tryz.func87,Tryz.ntmps87
 go_wp2;go_loopw [3] (fun i wr=>∃k:Nat,k≤len∧i=iT k∧Bl w wr∧jx L k) (fun i _=>len - (intOf i).toNat)
 case atStart=>exact ⟨0,FB _,rfl,Below.refl _ _,fun j hj=>absurd hj (Gy _)⟩
 case round =>
  obtain ⟨k,hk,rfl,hb,D⟩:=hrel;have u:Eq (jx L k):=D;clear D;by_cases F:k<len
  · obtain ⟨b,f,rfl,A⟩:=HL.o.form (by omega);obtain ⟨s,q,d,t,n,hg,E,g0,U,W,R,T⟩:=HL.o.ent hb A k F;have HG:Eq (L[k]?=some (s,q,d,t,n)):=hg;have hs:=E.1;have ht:=E.2.2.2.1;simp only at hs ht;clear hg E;cases hv:dm s q d t n with
    | false =>
     have CE:Eq (∀w,Calls Tryz.prog 143 #[.agg #[.string s,iT q,iT d,.string t,iT n]] w fun e w'=>e=.returned (.bool false)∧Bl w w'):=by rw [← hv];exact fun w=>th s t q d n w hs ht
     go_wp2_with fail
     have C:Bl wr wr.drew:=(Below.refl _ wr).drew;have y:b<wr.heap.size:=u' A hb.size;have m:Eq (∀w',Bl wr w'→(w'.cell? ⟨b,f+k*5,none⟩=some (.string s)∧w'.cell? ⟨b,f+k*5+1,none⟩=some (iT q)∧w'.cell? ⟨b,f+k*5+2,none⟩=some (iT d)∧w'.cell? ⟨b,f+k*5+3,none⟩=some (.string t)∧w'.cell? ⟨b,f+k*5+4,none⟩=some (iT n)∧b<w'.heap.size)):=fun w' g=>⟨cell_later g g0,cell_later g U,cell_later g W,cell_later g R,cell_later g T,u' y g.size⟩
     refine eJ m C fun r=>?_
     refine aP 0 4 r ?_;refine aQ 4 fun K hK=>?_
     go_simp;refine (CE.o _).mono ?_;rintro e w1 ⟨rfl,b1⟩;have k1:Bl wr w1:=C.trans (b1.mono C.size);go_wp2_with fail
     refine hK.o _ _ (m.o _ k1) fun r=>?_
     (try go_frame);refine aP 5 14 r ?_;refine aQ 19 fun K hK=>?_
     go_simp;refine hK.o _ _ (m.o _ k1) fun r=>?_
     (try go_frame);refine aP 20 3 r ?_;refine dN ?_;go_wp2;go_ret;exact ⟨aq (me (by rw [x.o];exact F) (pH HG.o hv)).symm,hb.trans (k1.mono hb.size)⟩
    | true =>
     have CE:Eq (∀w,Calls Tryz.prog 143 #[.agg #[.string s,iT q,iT d,.string t,iT n]] w fun e w'=>e=.returned (.bool true)∧Bl w w'):=by rw [← hv];exact fun w=>th s t q d n w hs ht
     by_cases aa:k=0
     · subst aa;simp only [G4,Gv] at g0 U W R T;go_wp2_with fail
       have C:Bl wr wr.drew:=(Below.refl _ wr).drew;have y:b<wr.heap.size:=u' A hb.size;have m:Eq (∀w',Bl wr w'→(w'.cell? ⟨b,f,none⟩=some (.string s)∧w'.cell? ⟨b,f+1,none⟩=some (iT q)∧w'.cell? ⟨b,f+2,none⟩=some (iT d)∧w'.cell? ⟨b,f+3,none⟩=some (.string t)∧w'.cell? ⟨b,f+4,none⟩=some (iT n)∧b<w'.heap.size)):=fun w' g=>⟨cell_later g g0,cell_later g U,cell_later g W,cell_later g R,cell_later g T,u' y g.size⟩
       refine eJ m C fun r=>?_
       refine aP 0 4 r ?_;refine aQ 4 fun K hK=>?_
       go_simp;refine (CE.o _).mono ?_;rintro e w1 ⟨rfl,b1⟩;have k1:Bl wr w1:=C.trans (b1.mono C.size);go_wp2_with fail
       refine hK.o _ _ (m.o _ k1) fun r=>?_
       (try go_frame);refine aP 5 14 r ?_;refine aQ 19 fun K hK=>?_
       go_simp;refine hK.o _ _ (m.o _ k1) fun r=>?_
       (try go_frame);refine aP 20 3 r ?_;refine dN ?_;go_wp2;go_roundw
       case rel=>exact ⟨1,by omega,by go_num,hb.trans (k1.mono hb.size),je u.o (by rw [kJ HG.o];exact hv)⟩
       case measure=>simp [intOf];omega
     · obtain ⟨j,rfl⟩:∃j,k=j+1:=⟨k - 1,by omega⟩;obtain ⟨H,I,Z,X,Y,J,O,a9,a8,a3,a2,a7⟩:=HL.o.ent hb A j (by omega);have a6:Eq (L[j]?=some (H,I,Z,X,Y)):=J;clear J O;obtain ⟨B,hB⟩:=aG (bI H I s q);have CL:Eq (∀w,Calls Tryz.prog 144 #[.agg #[.string H,iT I,iT Z,.string X,iT Y],.agg #[.string s,iT q,iT d,.string t,iT n]] w fun e w'=>e=.returned (.bool B)∧Bl w w'):=by rw [hB];exact fun w=>ur H X s t I Z Y q d n w
       have Q:Eq (lE L (j+1)=B):=by
        show lE L (j+1)=B
        rw [iO HG.o a6.o,hB,hv];rfl
       clear hB;have aj:(0:Int)≤(j:Int)+1:=by omega
       have af:(0:Int)<(j:Int)+1:=by omega
       have al:(j:Int)<(len:Int):=by omega
       have wj:IntKind.i64.wrap (j:Int)=(j:Int):=by rw [FQ];unfold wrap64;omega
       go_wp2_with fail
       have C:Bl wr wr.drew:=(Below.refl _ wr).drew;have y:b<wr.heap.size:=u' A hb.size;have m:Eq (∀w',Bl wr w'→(w'.cell? ⟨b,f+j*5,none⟩=some (.string H)∧w'.cell? ⟨b,f+j*5+1,none⟩=some (iT I)∧w'.cell? ⟨b,f+j*5+2,none⟩=some (iT Z)∧w'.cell? ⟨b,f+j*5+3,none⟩=some (.string X)∧w'.cell? ⟨b,f+j*5+4,none⟩=some (iT Y)∧w'.cell? ⟨b,f+(j+1)*5,none⟩=some (.string s)∧w'.cell? ⟨b,f+(j+1)*5+1,none⟩=some (iT q)∧w'.cell? ⟨b,f+(j+1)*5+2,none⟩=some (iT d)∧w'.cell? ⟨b,f+(j+1)*5+3,none⟩=some (.string t)∧w'.cell? ⟨b,f+(j+1)*5+4,none⟩=some (iT n)∧b<w'.heap.size)):=fun w' g=>⟨cell_later g a9,cell_later g a8,cell_later g a3,cell_later g a2,cell_later g a7,cell_later g g0,cell_later g U,cell_later g W,cell_later g R,cell_later g T,u' y g.size⟩
       refine eJ m C fun r=>?_
       refine aP 0 4 r ?_;refine aQ 4 fun K hK=>?_
       go_simp;refine (CE.o _).mono ?_;rintro e w1 ⟨rfl,b1⟩;have k1:Bl wr w1:=C.trans (b1.mono C.size);go_wp2_with fail
       refine hK.o _ _ (m.o _ k1) fun r=>?_
       (try go_frame);refine aP 5 14 r ?_;refine aQ 19 fun K hK=>?_
       go_simp;refine (CL.o _).mono ?_;rintro e w2 ⟨rfl,b2⟩;have k2:Bl wr w2:=k1.trans (b2.mono k1.size);go_wp2_with fail
       refine hK.o _ _ (m.o _ k2) fun r=>?_
       (try go_frame);refine aP 20 3 r ?_;refine dN ?_;cases B with
       | true =>
        go_wp2;go_roundw
        case rel=>exact ⟨j+1+1,by omega,by go_num,hb.trans (k2.mono hb.size),je u.o Q.o⟩
        case measure=>simp [intOf];omega
       | false =>
        go_wp2;go_ret;exact ⟨aq (me (by rw [x.o];exact F) Q.o).symm,hb.trans (k2.mono hb.size)⟩
  · go_wp2;go_ret;exact ⟨aq (mc u.o (by rw [x.o];omega)).symm,hb⟩
end Go.Proofs.YtpobkmjicbobdaaGreat
namespace Go.Proofs.YtpobkmjicbobdaaGreat
open Go.RowKit
set_option maxRecDepth 100000
set_option maxHeartbeats 1000000
theorem ng (a:Option Addr) (len Z:Nat) (L:List ae) (w:World) (hL:ah w a len Z L) :
 Calls Tryz.prog 188 #[.slice a len Z] w fun e w'=>e=.returned (.bool (aJ L))∧Bl w w':=by
 have C:Eq (L.length=len):=hL.length;have ap:=hL.room;have a9:=hL.big;unfold maxLen at a9;have HL:=bT hL;clear hL;go_enter Tryz.func188,Tryz.ntmps188
 go_wp2;go_loopw [7] (fun i wr=>∃k:Nat,k≤len∧i=iT k∧Bl w wr∧jx L k) (fun i _=>len - (intOf i).toNat)
 case atStart=>exact ⟨0,FB _,rfl,Below.refl _ _,fun j hj=>absurd hj (Gy _)⟩
 case round =>
  obtain ⟨k,hk,rfl,hb,I⟩:=hrel;have A:Eq (jx L k):=I;clear I;by_cases N:k<len
  · obtain ⟨b,H,rfl,E⟩:=HL.o.form (by omega);obtain ⟨s,q,d,t,n,hg,Y,g0,g1,g2,g3,g4⟩:=HL.o.ent hb E k N;have HG:Eq (L[k]?=some (s,q,d,t,n)):=hg;have hs:=Y.1;simp only at hs;clear hg Y;cases hv:dm s q d t n with
    | false =>
     have CE:Eq (∀w,Calls Tryz.prog 33 #[.agg #[.string s,iT q,iT d,.string t,iT n]] w fun e w'=>e=.returned (.bool false)∧Bl w w'):=by rw [← hv];exact fun w=>yp s t q d n w hs
     go_wp2_with fail
     obtain ⟨X,m⟩:=aG wr.heap.size;obtain ⟨W,f⟩:=aG (wr.alloc (.cells #[.string s,iT q,iT d,.string t,iT n] 50));have x0:W.cell? ⟨X,0,none⟩=some (.string s):=by rw [f,m];simp
     have x1:W.cell? ⟨X,1,none⟩=some (iT q):=by rw [f,m];simp
     have x2:W.cell? ⟨X,2,none⟩=some (iT d):=by rw [f,m];simp
     have U:W.cell? ⟨X,3,none⟩=some (.string t):=by rw [f,m];simp
     have O:W.cell? ⟨X,4,none⟩=some (iT n):=by rw [f,m];simp
     have y:Bl wr W:=by rw [f];exact bZ
     have D:b<wr.heap.size:=u' E hb.size;have J:b<W.heap.size:=u' D y.size;have u:Eq (Bl w W):=hb.trans (y.mono hb.size);rw [← f,← m];clear f m y;have F:Bl W W.drew:=(Below.refl _ W).drew;have r:Eq (∀w',Bl W w'→(w'.cell? ⟨X,0,none⟩=some (.string s)∧w'.cell? ⟨X,1,none⟩=some (iT q)∧w'.cell? ⟨X,2,none⟩=some (iT d)∧w'.cell? ⟨X,3,none⟩=some (.string t)∧w'.cell? ⟨X,4,none⟩=some (iT n)∧X<w'.heap.size)):=fun w' g=>⟨cell_later g x0,cell_later g x1,cell_later g x2,cell_later g U,cell_later g O,Fu _ _ (cell_later g x0)⟩
     refine eJ r F fun x=>?_
     refine aP 0 1 x ?_;refine aQ 1 fun K hK=>?_
     go_simp;refine (CE.o _).mono ?_;rintro e w1 ⟨rfl,b1⟩;have k1:Bl W w1:=F.trans (b1.mono F.size);go_wp2_with fail
     refine hK.o _ _ (r.o _ k1) fun x=>?_
     (try go_frame);refine aP 2 11 x ?_;refine aQ 13 fun K hK=>?_
     go_simp;refine hK.o _ _ (r.o _ k1) fun x=>?_
     (try go_frame);refine aP 14 3 x ?_;refine dN ?_;go_wp2;go_ret;exact ⟨aq (me (by rw [C.o];exact N) (pH HG.o hv)).symm,u.o.trans (k1.mono u.o.size)⟩
    | true =>
     have CE:Eq (∀w,Calls Tryz.prog 33 #[.agg #[.string s,iT q,iT d,.string t,iT n]] w fun e w'=>e=.returned (.bool true)∧Bl w w'):=by rw [← hv];exact fun w=>yp s t q d n w hs
     by_cases ag:k=0
     · subst ag;simp only [G4,Gv] at g0 g1 g2 g3 g4;go_wp2_with fail
       obtain ⟨X,m⟩:=aG wr.heap.size;obtain ⟨W,f⟩:=aG (wr.alloc (.cells #[.string s,iT q,iT d,.string t,iT n] 50));have x0:W.cell? ⟨X,0,none⟩=some (.string s):=by rw [f,m];simp
       have x1:W.cell? ⟨X,1,none⟩=some (iT q):=by rw [f,m];simp
       have x2:W.cell? ⟨X,2,none⟩=some (iT d):=by rw [f,m];simp
       have U:W.cell? ⟨X,3,none⟩=some (.string t):=by rw [f,m];simp
       have O:W.cell? ⟨X,4,none⟩=some (iT n):=by rw [f,m];simp
       have y:Bl wr W:=by rw [f];exact bZ
       have D:b<wr.heap.size:=u' E hb.size;have J:b<W.heap.size:=u' D y.size;have u:Eq (Bl w W):=hb.trans (y.mono hb.size);rw [← f,← m];clear f m y;have F:Bl W W.drew:=(Below.refl _ W).drew;have r:Eq (∀w',Bl W w'→(w'.cell? ⟨X,0,none⟩=some (.string s)∧w'.cell? ⟨X,1,none⟩=some (iT q)∧w'.cell? ⟨X,2,none⟩=some (iT d)∧w'.cell? ⟨X,3,none⟩=some (.string t)∧w'.cell? ⟨X,4,none⟩=some (iT n)∧X<w'.heap.size)):=fun w' g=>⟨cell_later g x0,cell_later g x1,cell_later g x2,cell_later g U,cell_later g O,Fu _ _ (cell_later g x0)⟩
       refine eJ r F fun x=>?_
       refine aP 0 1 x ?_;refine aQ 1 fun K hK=>?_
       go_simp;refine (CE.o _).mono ?_;rintro e w1 ⟨rfl,b1⟩;have k1:Bl W w1:=F.trans (b1.mono F.size);go_wp2_with fail
       refine hK.o _ _ (r.o _ k1) fun x=>?_
       (try go_frame);refine aP 2 11 x ?_;refine aQ 13 fun K hK=>?_
       go_simp;refine hK.o _ _ (r.o _ k1) fun x=>?_
       (try go_frame);refine aP 14 3 x ?_;refine dN ?_;go_wp2;go_roundw
       case rel=>exact ⟨1,by omega,by go_num,u.o.trans (k1.mono u.o.size),je A.o (by rw [kJ HG.o];exact hv)⟩
       case measure=>simp [intOf];omega
     · obtain ⟨j,rfl⟩:∃j,k=j+1:=⟨k - 1,by omega⟩;obtain ⟨Q,R,d',t',n',T,a1,af,ad,a8,a7,ab⟩:=HL.o.ent hb E j (by omega);have aa:Eq (L[j]?=some (Q,R,d',t',n')):=T;clear T a1;obtain ⟨B,hB⟩:=aG (bI Q R s q);have CL:Eq (∀w,Calls Tryz.prog 203 #[.agg #[.string Q,iT R,iT d',.string t',iT n'],.agg #[.string s,iT q,iT d,.string t,iT n]] w fun e w'=>e=.returned (.bool B)∧Bl w w'):=by rw [hB];exact fun w=>pZ Q t' s t R d' n' q d n w
       have a0:Eq (lE L (j+1)=B):=by
        show lE L (j+1)=B
        rw [iO HG.o aa.o,hB,hv];rfl
       clear hB;have au:(0:Int)≤(j:Int)+1:=by omega
       have ak:(0:Int)<(j:Int)+1:=by omega
       have aA:(j:Int)<(len:Int):=by omega
       have wj:IntKind.i64.wrap (j:Int)=(j:Int):=by rw [FQ];unfold wrap64;omega
       go_wp2_with fail
       obtain ⟨X,m⟩:=aG wr.heap.size;obtain ⟨W,f⟩:=aG (wr.alloc (.cells #[.string s,iT q,iT d,.string t,iT n] 50));have x0:W.cell? ⟨X,0,none⟩=some (.string s):=by rw [f,m];simp
       have x1:W.cell? ⟨X,1,none⟩=some (iT q):=by rw [f,m];simp
       have x2:W.cell? ⟨X,2,none⟩=some (iT d):=by rw [f,m];simp
       have U:W.cell? ⟨X,3,none⟩=some (.string t):=by rw [f,m];simp
       have O:W.cell? ⟨X,4,none⟩=some (iT n):=by rw [f,m];simp
       have y:Bl wr W:=by rw [f];exact bZ
       have D:b<wr.heap.size:=u' E hb.size;have J:b<W.heap.size:=u' D y.size;have y0:=cell_later y af;have y1:=cell_later y ad;have y2:=cell_later y a8;have y3:=cell_later y a7;have y4:=cell_later y ab;have u:Eq (Bl w W):=hb.trans (y.mono hb.size);rw [← f,← m];clear f m y;have F:Bl W W.drew:=(Below.refl _ W).drew;have r:Eq (∀w',Bl W w'→(w'.cell? ⟨X,0,none⟩=some (.string s)∧w'.cell? ⟨X,1,none⟩=some (iT q)∧w'.cell? ⟨X,2,none⟩=some (iT d)∧w'.cell? ⟨X,3,none⟩=some (.string t)∧w'.cell? ⟨X,4,none⟩=some (iT n)∧X<w'.heap.size∧w'.cell? ⟨b,H+j*5,none⟩=some (.string Q)∧w'.cell? ⟨b,H+j*5+1,none⟩=some (iT R)∧w'.cell? ⟨b,H+j*5+2,none⟩=some (iT d')∧w'.cell? ⟨b,H+j*5+3,none⟩=some (.string t')∧w'.cell? ⟨b,H+j*5+4,none⟩=some (iT n')∧b<w'.heap.size)):=fun w' g=>⟨cell_later g x0,cell_later g x1,cell_later g x2,cell_later g U,cell_later g O,Fu _ _ (cell_later g x0),cell_later g y0,cell_later g y1,cell_later g y2,cell_later g y3,cell_later g y4,u' J g.size⟩
       refine eJ r F fun x=>?_
       refine aP 0 1 x ?_;refine aQ 1 fun K hK=>?_
       go_simp;refine (CE.o _).mono ?_;rintro e w1 ⟨rfl,b1⟩;have k1:Bl W w1:=F.trans (b1.mono F.size);go_wp2_with fail
       refine hK.o _ _ (r.o _ k1) fun x=>?_
       (try go_frame);refine aP 2 11 x ?_;refine aQ 13 fun K hK=>?_
       go_simp;refine (CL.o _).mono ?_;rintro e w2 ⟨rfl,b2⟩;have k2:Bl W w2:=k1.trans (b2.mono k1.size);go_wp2_with fail
       refine hK.o _ _ (r.o _ k2) fun x=>?_
       (try go_frame);refine aP 14 3 x ?_;refine dN ?_;cases B with
       | true =>
        go_wp2;go_roundw
        case rel=>exact ⟨j+1+1,by omega,by go_num,u.o.trans (k2.mono u.o.size),je A.o a0.o⟩
        case measure=>simp [intOf];omega
       | false =>
        go_wp2;go_ret;exact ⟨aq (me (by rw [C.o];exact N) a0.o).symm,u.o.trans (k2.mono u.o.size)⟩
  · go_wp2;go_ret;exact ⟨aq (mc A.o (by rw [C.o];omega)).symm,hb⟩
end Go.Proofs.YtpobkmjicbobdaaGreat
namespace Go.Proofs.YtpobkmjicbobdaaGreat
open Go.RowKit
set_option maxRecDepth 100000
set_option maxHeartbeats 1000000
theorem zf (a:Option Addr) (len b:Nat) (L:List ae) (m:Int) (w:World) (hL:ah w a len b L) :
 Calls Tryz.prog 145 #[.agg #[.slice a len b,iT m]] w fun e w'=>e=.returned (.bool (cF L m))∧Bl w w':=by
 have r:Eq (L.length=len):=hL.length;have J:=hL.room;have D:=hL.big;unfold maxLen at D;obtain ⟨X,u⟩:=aG w.heap.size;obtain ⟨W,t⟩:=aG (w.alloc (.cells #[.slice a len b,iT m] 63));have x0:W.cell? ⟨X,0,none⟩=some (.slice a len b):=by rw [t,u];simp
 have x1:W.cell? ⟨X,1,none⟩=some (iT m):=by rw [t,u];simp
 have F:Bl w W:=by rw [t];exact bZ
 have A:ah W a len b L:=hL.keep F;have n:Bl W W.drew:=(Below.refl _ W).drew;have g:Eq (Bl w W):=F;have N:Eq (∀w',Bl W w'→Calls Tryz.prog 201 #[.slice a len b] w' fun e s=>e=.returned (iT ((du L:Nat):Int))∧Bl w' s):=fun w' x=>mN a len b L w' (A.keep x)
 have d:Eq (∀w',Bl W w'→(w'.cell? ⟨X,0,none⟩=some (.slice a len b)∧w'.cell? ⟨X,1,none⟩=some (iT m)∧X<w'.heap.size)):=fun w' x=>⟨cell_later x x0,cell_later x x1,Fu _ _ (cell_later x x0)⟩
 have C:Eq (ah W a len b L):=A;clear F hL A;by_cases h1:len<1
 · have y:¬(1:Int)≤(len:Int):=by omega
   have I:decide ((1:Int)≤(len:Int))=false:=decide_eq_false y;go_enter Tryz.func145,Tryz.ntmps145
   go_wp2_with fail
   rw [← t,← u];clear t u;refine eJ d n fun f=>?_
   refine aP 0 13 f ?_;refine aQ 13 fun K hK=>?_
   go_simp;refine hK.o _ _ (d.o _ n) fun f=>?_
   (try go_frame);refine aP 14 6 f ?_;refine aQ 20 fun K hK=>?_
   go_simp;refine hK.o _ _ (d.o _ n) fun f=>?_
   (try go_frame);refine aP 21 3 f ?_;refine dN ?_;go_wp2;go_ret;exact ⟨aq (uD (by rw [r.o];exact h1)).symm,g.o.trans (n.mono g.o.size)⟩
 by_cases h2:150<len
 · have y:(1:Int)≤(len:Int):=by omega
   have B:¬(len:Int)≤150:=by omega
   have H:decide ((len:Int)≤150)=false:=decide_eq_false B;go_enter Tryz.func145,Tryz.ntmps145
   go_wp2_with fail
   rw [← t,← u];clear t u;refine eJ d n fun f=>?_
   refine aP 0 13 f ?_;refine aQ 13 fun K hK=>?_
   go_simp;refine hK.o _ _ (d.o _ n) fun f=>?_
   (try go_frame);refine aP 14 6 f ?_;refine aQ 20 fun K hK=>?_
   go_simp;refine hK.o _ _ (d.o _ n) fun f=>?_
   (try go_frame);refine aP 21 3 f ?_;refine dN ?_;go_wp2;go_ret;exact ⟨aq (rS (by rw [r.o];exact h2)).symm,g.o.trans (n.mono g.o.size)⟩
 have y:(1:Int)≤(len:Int):=by omega
 have B:(len:Int)≤150:=by omega
 cases hr:aJ L with
 | false =>
  have E:Eq (∀w',Bl W w'→Calls Tryz.prog 87 #[.slice a len b] w' fun e s=>e=.returned (.bool false)∧Bl w' s):=by rw [← hr];exact fun w' x=>ke a len b L w' (C.o.keep x)
  go_enter Tryz.func145,Tryz.ntmps145
  go_wp2_with fail
  rw [← t,← u];clear t u;refine eJ d n fun f=>?_
  refine aP 0 13 f ?_;refine aQ 13 fun K hK=>?_
  go_simp;refine (E.o _ n).mono ?_;rintro e w1 ⟨rfl,b1⟩;have k1:Bl W w1:=n.trans (b1.mono n.size);go_wp2_with fail
  refine hK.o _ _ (d.o _ k1) fun f=>?_
  (try go_frame);refine aP 14 6 f ?_;refine aQ 20 fun K hK=>?_
  go_simp;refine hK.o _ _ (d.o _ k1) fun f=>?_
  (try go_frame);refine aP 21 3 f ?_;refine dN ?_;go_wp2;go_ret;exact ⟨aq (pz hr).symm,g.o.trans (k1.mono g.o.size)⟩
 | true =>
  have E:Eq (∀w',Bl W w'→Calls Tryz.prog 87 #[.slice a len b] w' fun e s=>e=.returned (.bool true)∧Bl w' s):=by rw [← hr];exact fun w' x=>ke a len b L w' (C.o.keep x)
  go_enter Tryz.func145,Tryz.ntmps145
  go_wp2_with fail
  rw [← t,← u];clear t u;refine eJ d n fun f=>?_
  refine aP 0 13 f ?_;refine aQ 13 fun K hK=>?_
  go_simp;refine (E.o _ n).mono ?_;rintro e w1 ⟨rfl,b1⟩;have k1:Bl W w1:=n.trans (b1.mono n.size);go_wp2_with fail
  refine hK.o _ _ (d.o _ k1) fun f=>?_
  (try go_frame);refine aP 14 6 f ?_;refine aQ 20 fun K hK=>?_
  go_simp;refine (N.o _ k1).mono ?_;rintro e w2 ⟨rfl,b2⟩;have k2:Bl W w2:=k1.trans (b2.mono k1.size);go_wp2_with fail
  refine hK.o _ _ (d.o _ k2) fun f=>?_
  (try go_frame);refine aP 21 3 f ?_;refine dN ?_;go_wp2;go_ret;refine ⟨aq ?_,g.o.trans (k2.mono g.o.size)⟩;rw [rP (by rw [r.o];omega) (by rw [r.o];omega) hr];first | rfl | (rw [Bool.eq_iff_iff];simp)
theorem sj (a:Option Addr) (len b:Nat) (L:List ae) (m:Int) (w:World) (hL:ah w a len b L) :
 Calls Tryz.prog 209 #[.agg #[.slice a len b,iT m]] w fun e w'=>e=.returned (.bool (cF L m))∧Bl w w':=by
 have r:Eq (L.length=len):=hL.length;have J:=hL.room;have D:=hL.big;unfold maxLen at D;obtain ⟨X,u⟩:=aG w.heap.size;obtain ⟨W,t⟩:=aG (w.alloc (.cells #[.slice a len b,iT m] 63));have x0:W.cell? ⟨X,0,none⟩=some (.slice a len b):=by rw [t,u];simp
 have x1:W.cell? ⟨X,1,none⟩=some (iT m):=by rw [t,u];simp
 have F:Bl w W:=by rw [t];exact bZ
 have A:ah W a len b L:=hL.keep F;have n:Bl W W.drew:=(Below.refl _ W).drew;have g:Eq (Bl w W):=F;have N:Eq (∀w',Bl W w'→Calls Tryz.prog 219 #[.slice a len b] w' fun e s=>e=.returned (iT ((du L:Nat):Int))∧Bl w' s):=fun w' x=>zY a len b L w' (A.keep x)
 have d:Eq (∀w',Bl W w'→(w'.cell? ⟨X,0,none⟩=some (.slice a len b)∧w'.cell? ⟨X,1,none⟩=some (iT m)∧X<w'.heap.size)):=fun w' x=>⟨cell_later x x0,cell_later x x1,Fu _ _ (cell_later x x0)⟩
 have C:Eq (ah W a len b L):=A;clear F hL A;by_cases h1:len<1
 · have y:¬(1:Int)≤(len:Int):=by omega
   have I:decide ((1:Int)≤(len:Int))=false:=decide_eq_false y;go_enter Tryz.func209,Tryz.ntmps209
   go_wp2_with fail
   rw [← t,← u];clear t u;refine eJ d n fun f=>?_
   refine aP 0 13 f ?_;refine aQ 13 fun K hK=>?_
   go_simp;refine hK.o _ _ (d.o _ n) fun f=>?_
   (try go_frame);refine aP 14 6 f ?_;refine aQ 20 fun K hK=>?_
   go_simp;refine hK.o _ _ (d.o _ n) fun f=>?_
   (try go_frame);refine aP 21 3 f ?_;refine dN ?_;go_wp2;go_ret;exact ⟨aq (uD (by rw [r.o];exact h1)).symm,g.o.trans (n.mono g.o.size)⟩
 by_cases h2:150<len
 · have y:(1:Int)≤(len:Int):=by omega
   have B:¬(len:Int)≤150:=by omega
   have H:decide ((len:Int)≤150)=false:=decide_eq_false B;go_enter Tryz.func209,Tryz.ntmps209
   go_wp2_with fail
   rw [← t,← u];clear t u;refine eJ d n fun f=>?_
   refine aP 0 13 f ?_;refine aQ 13 fun K hK=>?_
   go_simp;refine hK.o _ _ (d.o _ n) fun f=>?_
   (try go_frame);refine aP 14 6 f ?_;refine aQ 20 fun K hK=>?_
   go_simp;refine hK.o _ _ (d.o _ n) fun f=>?_
   (try go_frame);refine aP 21 3 f ?_;refine dN ?_;go_wp2;go_ret;exact ⟨aq (rS (by rw [r.o];exact h2)).symm,g.o.trans (n.mono g.o.size)⟩
 have y:(1:Int)≤(len:Int):=by omega
 have B:(len:Int)≤150:=by omega
 cases hr:aJ L with
 | false =>
  have E:Eq (∀w',Bl W w'→Calls Tryz.prog 188 #[.slice a len b] w' fun e s=>e=.returned (.bool false)∧Bl w' s):=by rw [← hr];exact fun w' x=>ng a len b L w' (C.o.keep x)
  go_enter Tryz.func209,Tryz.ntmps209
  go_wp2_with fail
  rw [← t,← u];clear t u;refine eJ d n fun f=>?_
  refine aP 0 13 f ?_;refine aQ 13 fun K hK=>?_
  go_simp;refine (E.o _ n).mono ?_;rintro e w1 ⟨rfl,b1⟩;have k1:Bl W w1:=n.trans (b1.mono n.size);go_wp2_with fail
  refine hK.o _ _ (d.o _ k1) fun f=>?_
  (try go_frame);refine aP 14 6 f ?_;refine aQ 20 fun K hK=>?_
  go_simp;refine hK.o _ _ (d.o _ k1) fun f=>?_
  (try go_frame);refine aP 21 3 f ?_;refine dN ?_;go_wp2;go_ret;exact ⟨aq (pz hr).symm,g.o.trans (k1.mono g.o.size)⟩
 | true =>
  have E:Eq (∀w',Bl W w'→Calls Tryz.prog 188 #[.slice a len b] w' fun e s=>e=.returned (.bool true)∧Bl w' s):=by rw [← hr];exact fun w' x=>ng a len b L w' (C.o.keep x)
  go_enter Tryz.func209,Tryz.ntmps209
  go_wp2_with fail
  rw [← t,← u];clear t u;refine eJ d n fun f=>?_
  refine aP 0 13 f ?_;refine aQ 13 fun K hK=>?_
  go_simp;refine (E.o _ n).mono ?_;rintro e w1 ⟨rfl,b1⟩;have k1:Bl W w1:=n.trans (b1.mono n.size);go_wp2_with fail
  refine hK.o _ _ (d.o _ k1) fun f=>?_
  (try go_frame);refine aP 14 6 f ?_;refine aQ 20 fun K hK=>?_
  go_simp;refine (N.o _ k1).mono ?_;rintro e w2 ⟨rfl,b2⟩;have k2:Bl W w2:=k1.trans (b2.mono k1.size);go_wp2_with fail
  refine hK.o _ _ (d.o _ k2) fun f=>?_
  (try go_frame);refine aP 21 3 f ?_;refine dN ?_;go_wp2;go_ret;refine ⟨aq ?_,g.o.trans (k2.mono g.o.size)⟩;rw [rP (by rw [r.o];omega) (by rw [r.o];omega) hr];first | rfl | (rw [Bool.eq_iff_iff];simp)
end Go.Proofs.YtpobkmjicbobdaaGreat
