/- Walks. -/
import Derived.Test.YtpobkmjicbobdaaGreatBD01
import Derived.Deep.LoopGhost
namespace Go.Proofs.YtpobkmjicbobdaaGreat
set_option maxRecDepth 100000
set_option maxHeartbeats 40000000
open Go.RowKit
section
attribute [local go_sem] Hc
theorem below_drewN {B:Nat} {w w':World} (h:Below B w w') (n:Nat):Below B w (w'.drewN n):=h.trans ⟨rfl,rfl,rfl,Gg _,fun _ _=>rfl⟩
theorem vI (k t:ByteArray) (q d n:Int) (w:World) (hs:k.size≤maxLen) (hk:fW k=false) :
 Calls Tryz.prog 33 #[.agg #[.string k,iT q,iT d,.string t,iT n]] w fun e w'=>e=.returned (.bool (dq k q d t n))∧Bl w w':=by
 go_enter Tryz.func33,Tryz.ntmps33
 go_wp2_with fail
 go_quiet (first | (go_at_call 99;refine Calls.quiet_of_same (v:=.bool false) ((gG _ _ hs).mono (fun e w' h=>by rw [hk] at h;exact h))))
 go_wp2;go_ret;exact ⟨ag (vS hk).symm,below_drewN bZ _⟩
theorem ym (k t:ByteArray) (q d n:Int) (w:World) (hs:k.size≤maxLen) (hk:fW k=true) (h1:q<1) :
 Calls Tryz.prog 33 #[.agg #[.string k,iT q,iT d,.string t,iT n]] w fun e w'=>e=.returned (.bool (dq k q d t n))∧Bl w w':=by
 have g:decide (1≤q)=false:=decide_eq_false (by omega);go_enter Tryz.func33,Tryz.ntmps33
 go_wp2_with fail
 go_quiet (first | (go_at_call 99;refine Calls.quiet_of_same (v:=.bool true) ((gG _ _ hs).mono (fun e w' h=>by rw [hk] at h;exact h))))
 go_wp2;go_ret;exact ⟨ag (zi h1).symm,below_drewN bZ _⟩
theorem yl (k t:ByteArray) (q d n:Int) (w:World) (hs:k.size≤maxLen) (hk:fW k=true) (h1:1≤q) (h2:100000<q) :
 Calls Tryz.prog 33 #[.agg #[.string k,iT q,iT d,.string t,iT n]] w fun e w'=>e=.returned (.bool (dq k q d t n))∧Bl w w':=by
 have g:decide (q≤100000)=false:=decide_eq_false (by omega);go_enter Tryz.func33,Tryz.ntmps33
 go_wp2_with fail
 go_quiet (first | (go_at_call 99;refine Calls.quiet_of_same (v:=.bool true) ((gG _ _ hs).mono (fun e w' h=>by rw [hk] at h;exact h))))
 go_wp2;go_ret;exact ⟨ag (zh h2).symm,below_drewN bZ _⟩
theorem yq (k t:ByteArray) (q d n:Int) (w:World) (hs:k.size≤maxLen) (hk:fW k=true) (h1:1≤q) (h2:q≤100000) (h3:n < -1000000) :
 Calls Tryz.prog 33 #[.agg #[.string k,iT q,iT d,.string t,iT n]] w fun e w'=>e=.returned (.bool (dq k q d t n))∧Bl w w':=by
 have g:decide (-1000000≤n)=false:=decide_eq_false (by omega);go_enter Tryz.func33,Tryz.ntmps33
 go_wp2_with fail
 go_quiet (first | (go_at_call 99;refine Calls.quiet_of_same (v:=.bool true) ((gG _ _ hs).mono (fun e w' h=>by rw [hk] at h;exact h))))
 go_wp2;go_ret;exact ⟨ag (zl h3).symm,below_drewN bZ _⟩
theorem yp (k t:ByteArray) (q d n:Int) (w:World) (hs:k.size≤maxLen) (hk:fW k=true) (h1:1≤q) (h2:q≤100000) (h3:-1000000≤n) (h4:1000000<n) :
 Calls Tryz.prog 33 #[.agg #[.string k,iT q,iT d,.string t,iT n]] w fun e w'=>e=.returned (.bool (dq k q d t n))∧Bl w w':=by
 have g:decide (n≤1000000)=false:=decide_eq_false (by omega);go_enter Tryz.func33,Tryz.ntmps33
 go_wp2_with fail
 go_quiet (first | (go_at_call 99;refine Calls.quiet_of_same (v:=.bool true) ((gG _ _ hs).mono (fun e w' h=>by rw [hk] at h;exact h))))
 go_wp2;go_ret;exact ⟨ag (zj h4).symm,below_drewN bZ _⟩
theorem AE (k t:ByteArray) (q d n:Int) (w:World) (hs:k.size≤maxLen) (hk:fW k=true) (h1:1≤q) (h2:q≤100000) (h3:-1000000≤n) (h4:n≤1000000) (h5:60<t.size) :
 Calls Tryz.prog 33 #[.agg #[.string k,iT q,iT d,.string t,iT n]] w fun e w'=>e=.returned (.bool (dq k q d t n))∧Bl w w':=by
 have g:decide ((t.size:Int)≤60)=false:=decide_eq_false (by omega);go_enter Tryz.func33,Tryz.ntmps33
 go_wp2_with fail
 go_quiet (first | (go_at_call 99;refine Calls.quiet_of_same (v:=.bool true) ((gG _ _ hs).mono (fun e w' h=>by rw [hk] at h;exact h))))
 go_wp2;go_ret;exact ⟨ag (Dr h5).symm,below_drewN bZ _⟩
theorem o7 (k t:ByteArray) (q n:Int) (w:World) (hs:k.size≤maxLen) (x:t.size≤60) (hk:fW k=true) (h1:1≤q) (h2:q≤100000) (h3:-1000000≤n) (h4:n≤1000000) :
 Calls Tryz.prog 33 #[.agg #[.string k,iT q,iT 1,.string t,iT n]] w fun e w'=>e=.returned (.bool (dq k q 1 t n))∧Bl w w':=by
 have B:Eq (dq k q 1 t n=fS 1 t n):=eE hk h1 h2 h3 h4 x;have C:(t.size:Int)≤60:=by omega
 clear x;go_enter Tryz.func33,Tryz.ntmps33
 go_wp2_with fail
 obtain ⟨X,d⟩:=aF w.heap.size;obtain ⟨W,b⟩:=aF (w.alloc (.cells #[.string k,iT q,iT 1,.string t,iT n] 50));have x0:W.cell? ⟨X,0,none⟩=some (.string k):=by rw [b,d];simp
 have x1:W.cell? ⟨X,1,none⟩=some (iT q):=by rw [b,d];simp
 have D:W.cell? ⟨X,2,none⟩=some (iT 1):=by rw [b,d];simp
 have A:W.cell? ⟨X,3,none⟩=some (.string t):=by rw [b,d];simp
 have y:W.cell? ⟨X,4,none⟩=some (iT n):=by rw [b,d];simp
 have u:Bl w W:=by rw [b];exact bZ
 rw [← b,← d];clear b d;have g:Eq (Bl w W):=u;clear u;have m:Bl W W.drew:=(Below.refl _ W).drew;have f:Eq (∀w',Bl W w'→(w'.cell? ⟨X,0,none⟩=some (.string k)∧w'.cell? ⟨X,1,none⟩=some (iT q)∧w'.cell? ⟨X,2,none⟩=some (iT 1)∧w'.cell? ⟨X,3,none⟩=some (.string t)∧w'.cell? ⟨X,4,none⟩=some (iT n)∧X<w'.heap.size∧Bl W w')):=fun w' k=>⟨cell_later k x0,cell_later k x1,cell_later k D,cell_later k A,cell_later k y,Gf _ _ (cell_later k x0),k⟩
 have hm : ∀ w : World, (method 400 176 (.agg #[]) "loop.example/comptoir/impl.fits").run Tryz.prog w = .ok (312, .agg #[]) w := fun _ => by kernel_rfl
 go_region_held3 (fun w'=>w'.cell? ⟨X,0,none⟩=some (.string k)∧w'.cell? ⟨X,1,none⟩=some (iT q)∧w'.cell? ⟨X,2,none⟩=some (iT 1)∧w'.cell? ⟨X,3,none⟩=some (.string t)∧w'.cell? ⟨X,4,none⟩=some (iT n)∧X<w'.heap.size∧Bl W w') (first | exact f.o _ k2 | exact f.o _ k1 | exact f.o _ m) (first
  | (go_at_call 99;refine (gG _ _ hs).mono ?_;rw [hk];rintro e w' ⟨rfl,rfl⟩)
  | (go_at_call 100;refine (jR _ _ _ _ _).mono ?_;rintro e w1 ⟨rfl,s⟩;have k1:Bl W w1:=m.trans (s.mono m.size))
  | (go_at_call 312;refine (ug _ _ _ _ _).mono ?_;rintro e w2 ⟨rfl,r⟩;have k2:Bl W w2:=k1.trans (r.mono k1.size)))
 go_wp2;go_ret;exact ⟨ag B.o.symm,g.o.trans (k2.mono g.o.size)⟩
theorem o8 (k t:ByteArray) (q n:Int) (w:World) (hs:k.size≤maxLen) (x:t.size≤60) (hk:fW k=true) (h1:1≤q) (h2:q≤100000) (h3:-1000000≤n) (h4:n≤1000000) :
 Calls Tryz.prog 33 #[.agg #[.string k,iT q,iT 2,.string t,iT n]] w fun e w'=>e=.returned (.bool (dq k q 2 t n))∧Bl w w':=by
 have B:Eq (dq k q 2 t n=fS 2 t n):=eE hk h1 h2 h3 h4 x;have C:(t.size:Int)≤60:=by omega
 clear x;go_enter Tryz.func33,Tryz.ntmps33
 go_wp2_with fail
 obtain ⟨X,d⟩:=aF w.heap.size;obtain ⟨W,b⟩:=aF (w.alloc (.cells #[.string k,iT q,iT 2,.string t,iT n] 50));have x0:W.cell? ⟨X,0,none⟩=some (.string k):=by rw [b,d];simp
 have x1:W.cell? ⟨X,1,none⟩=some (iT q):=by rw [b,d];simp
 have D:W.cell? ⟨X,2,none⟩=some (iT 2):=by rw [b,d];simp
 have A:W.cell? ⟨X,3,none⟩=some (.string t):=by rw [b,d];simp
 have y:W.cell? ⟨X,4,none⟩=some (iT n):=by rw [b,d];simp
 have u:Bl w W:=by rw [b];exact bZ
 rw [← b,← d];clear b d;have g:Eq (Bl w W):=u;clear u;have m:Bl W W.drew:=(Below.refl _ W).drew;have f:Eq (∀w',Bl W w'→(w'.cell? ⟨X,0,none⟩=some (.string k)∧w'.cell? ⟨X,1,none⟩=some (iT q)∧w'.cell? ⟨X,2,none⟩=some (iT 2)∧w'.cell? ⟨X,3,none⟩=some (.string t)∧w'.cell? ⟨X,4,none⟩=some (iT n)∧X<w'.heap.size∧Bl W w')):=fun w' k=>⟨cell_later k x0,cell_later k x1,cell_later k D,cell_later k A,cell_later k y,Gf _ _ (cell_later k x0),k⟩
 have hm : ∀ w : World, (method 400 177 (.agg #[]) "loop.example/comptoir/impl.fits").run Tryz.prog w = .ok (314, .agg #[]) w := fun _ => by kernel_rfl
 go_region_held3 (fun w'=>w'.cell? ⟨X,0,none⟩=some (.string k)∧w'.cell? ⟨X,1,none⟩=some (iT q)∧w'.cell? ⟨X,2,none⟩=some (iT 2)∧w'.cell? ⟨X,3,none⟩=some (.string t)∧w'.cell? ⟨X,4,none⟩=some (iT n)∧X<w'.heap.size∧Bl W w') (first | exact f.o _ k2 | exact f.o _ k1 | exact f.o _ m) (first
  | (go_at_call 99;refine (gG _ _ hs).mono ?_;rw [hk];rintro e w' ⟨rfl,rfl⟩)
  | (go_at_call 100;refine (jS _ _ _ _ _).mono ?_;rintro e w1 ⟨rfl,s⟩;have k1:Bl W w1:=m.trans (s.mono m.size))
  | (go_at_call 314;refine (uh _ _ _ _ _).mono ?_;rintro e w2 ⟨rfl,r⟩;have k2:Bl W w2:=k1.trans (r.mono k1.size)))
 go_wp2;go_ret;exact ⟨ag B.o.symm,g.o.trans (k2.mono g.o.size)⟩
theorem o9 (k t:ByteArray) (q n:Int) (w:World) (hs:k.size≤maxLen) (x:t.size≤60) (hk:fW k=true) (h1:1≤q) (h2:q≤100000) (h3:-1000000≤n) (h4:n≤1000000) :
 Calls Tryz.prog 33 #[.agg #[.string k,iT q,iT 3,.string t,iT n]] w fun e w'=>e=.returned (.bool (dq k q 3 t n))∧Bl w w':=by
 have B:Eq (dq k q 3 t n=fS 3 t n):=eE hk h1 h2 h3 h4 x;have C:(t.size:Int)≤60:=by omega
 clear x;go_enter Tryz.func33,Tryz.ntmps33
 go_wp2_with fail
 obtain ⟨X,d⟩:=aF w.heap.size;obtain ⟨W,b⟩:=aF (w.alloc (.cells #[.string k,iT q,iT 3,.string t,iT n] 50));have x0:W.cell? ⟨X,0,none⟩=some (.string k):=by rw [b,d];simp
 have x1:W.cell? ⟨X,1,none⟩=some (iT q):=by rw [b,d];simp
 have D:W.cell? ⟨X,2,none⟩=some (iT 3):=by rw [b,d];simp
 have A:W.cell? ⟨X,3,none⟩=some (.string t):=by rw [b,d];simp
 have y:W.cell? ⟨X,4,none⟩=some (iT n):=by rw [b,d];simp
 have u:Bl w W:=by rw [b];exact bZ
 rw [← b,← d];clear b d;have g:Eq (Bl w W):=u;clear u;have m:Bl W W.drew:=(Below.refl _ W).drew;have f:Eq (∀w',Bl W w'→(w'.cell? ⟨X,0,none⟩=some (.string k)∧w'.cell? ⟨X,1,none⟩=some (iT q)∧w'.cell? ⟨X,2,none⟩=some (iT 3)∧w'.cell? ⟨X,3,none⟩=some (.string t)∧w'.cell? ⟨X,4,none⟩=some (iT n)∧X<w'.heap.size∧Bl W w')):=fun w' k=>⟨cell_later k x0,cell_later k x1,cell_later k D,cell_later k A,cell_later k y,Gf _ _ (cell_later k x0),k⟩
 have hm : ∀ w : World, (method 400 178 (.agg #[]) "loop.example/comptoir/impl.fits").run Tryz.prog w = .ok (316, .agg #[]) w := fun _ => by kernel_rfl
 go_region_held3 (fun w'=>w'.cell? ⟨X,0,none⟩=some (.string k)∧w'.cell? ⟨X,1,none⟩=some (iT q)∧w'.cell? ⟨X,2,none⟩=some (iT 3)∧w'.cell? ⟨X,3,none⟩=some (.string t)∧w'.cell? ⟨X,4,none⟩=some (iT n)∧X<w'.heap.size∧Bl W w') (first | exact f.o _ k2 | exact f.o _ k1 | exact f.o _ m) (first
  | (go_at_call 99;refine (gG _ _ hs).mono ?_;rw [hk];rintro e w' ⟨rfl,rfl⟩)
  | (go_at_call 100;refine (jT _ _ _ _ _).mono ?_;rintro e w1 ⟨rfl,s⟩;have k1:Bl W w1:=m.trans (s.mono m.size))
  | (go_at_call 316;refine (ui _ _ _ _ _).mono ?_;rintro e w2 ⟨rfl,r⟩;have k2:Bl W w2:=k1.trans (r.mono k1.size)))
 go_wp2;go_ret;exact ⟨ag B.o.symm,g.o.trans (k2.mono g.o.size)⟩
theorem qy (k t:ByteArray) (q d n:Int) (w:World) (hs:k.size≤maxLen) (B:t.size≤60) (hk:fW k=true) (h1:1≤q) (h2:q≤100000) (h3:-1000000≤n) (h4:n≤1000000) (C:¬d=1) (x:¬d=2) (y:¬d=3) :
 Calls Tryz.prog 33 #[.agg #[.string k,iT q,iT d,.string t,iT n]] w fun e w'=>e=.returned (.bool (dq k q d t n))∧Bl w w':=by
 have F:Eq (dq k q d t n=fS d t n):=eE hk h1 h2 h3 h4 B;have H:(t.size:Int)≤60:=by omega
 clear B;go_enter Tryz.func33,Tryz.ntmps33
 go_wp2_with fail
 obtain ⟨X,f⟩:=aF w.heap.size;obtain ⟨W,b⟩:=aF (w.alloc (.cells #[.string k,iT q,iT d,.string t,iT n] 50));have x0:W.cell? ⟨X,0,none⟩=some (.string k):=by rw [b,f];simp
 have x1:W.cell? ⟨X,1,none⟩=some (iT q):=by rw [b,f];simp
 have I:W.cell? ⟨X,2,none⟩=some (iT d):=by rw [b,f];simp
 have E:W.cell? ⟨X,3,none⟩=some (.string t):=by rw [b,f];simp
 have D:W.cell? ⟨X,4,none⟩=some (iT n):=by rw [b,f];simp
 have A:Bl w W:=by rw [b];exact bZ
 rw [← b,← f];clear b f;have m:Eq (Bl w W):=A;clear A;have r:Bl W W.drew:=(Below.refl _ W).drew;have g:Eq (∀w',Bl W w'→(w'.cell? ⟨X,0,none⟩=some (.string k)∧w'.cell? ⟨X,1,none⟩=some (iT q)∧w'.cell? ⟨X,2,none⟩=some (iT d)∧w'.cell? ⟨X,3,none⟩=some (.string t)∧w'.cell? ⟨X,4,none⟩=some (iT n)∧X<w'.heap.size∧Bl W w')):=fun w' k=>⟨cell_later k x0,cell_later k x1,cell_later k I,cell_later k E,cell_later k D,Gf _ _ (cell_later k x0),k⟩
 have hm : ∀ w : World, (method 400 179 (.agg #[]) "loop.example/comptoir/impl.fits").run Tryz.prog w = .ok (318, .agg #[]) w := fun _ => by kernel_rfl
 go_region_held3 (fun w'=>w'.cell? ⟨X,0,none⟩=some (.string k)∧w'.cell? ⟨X,1,none⟩=some (iT q)∧w'.cell? ⟨X,2,none⟩=some (iT d)∧w'.cell? ⟨X,3,none⟩=some (.string t)∧w'.cell? ⟨X,4,none⟩=some (iT n)∧X<w'.heap.size∧Bl W w') (first | exact g.o _ k2 | exact g.o _ k1 | exact g.o _ r) (first
  | (go_at_call 99;refine (gG _ _ hs).mono ?_;rw [hk];rintro e w' ⟨rfl,rfl⟩)
  | (go_at_call 100;refine (lJ _ _ _ _ _ _ C x y).mono ?_;rintro e w1 ⟨rfl,u⟩;have k1:Bl W w1:=r.trans (u.mono r.size))
  | (go_at_call 318;refine (vP _ _ _ _ _ _ C x y).mono ?_;rintro e w2 ⟨rfl,s⟩;have k2:Bl W w2:=k1.trans (s.mono k1.size)))
 go_wp2;go_ret;exact ⟨ag F.o.symm,m.o.trans (k2.mono m.o.size)⟩
theorem yZ (k t:ByteArray) (q d n:Int) (w:World) (hs:k.size≤maxLen) :
 Calls Tryz.prog 33 #[.agg #[.string k,iT q,iT d,.string t,iT n]] w fun e w'=>e=.returned (.bool (dq k q d t n))∧Bl w w':=by
 cases hk:fW k with
 | false=>exact vI k t q d n w hs hk
 | true =>
  by_cases h1:q<1
  · exact ym k t q d n w hs hk h1
  by_cases h2:100000<q
  · exact yl k t q d n w hs hk (by omega) h2
  by_cases h3:n < -1000000
  · exact yq k t q d n w hs hk (by omega) (by omega) h3
  by_cases h4:1000000<n
  · exact yp k t q d n w hs hk (by omega) (by omega) (by omega) h4
  by_cases h5:60<t.size
  · exact AE k t q d n w hs hk (by omega) (by omega) (by omega) (by omega) h5
  by_cases g:d=1
  · subst g;exact o7 k t q n w hs (by omega) hk (by omega) (by omega) (by omega) (by omega)
  by_cases b:d=2
  · subst b;exact o8 k t q n w hs (by omega) hk (by omega) (by omega) (by omega) (by omega)
  by_cases f:d=3
  · subst f;exact o9 k t q n w hs (by omega) hk (by omega) (by omega) (by omega) (by omega)
  exact qy k t q d n w hs (by omega) hk (by omega) (by omega) (by omega) (by omega) g b f
end
theorem nh (a:Option Addr) (len g:Nat) (L:List ac) (w:World) (hL:aj w a len g L) :
 Calls Tryz.prog 201 #[.slice a len g] w fun e w'=>e=.returned (iT ((dG L:Nat):Int))∧Bl w w':=by
 have f:Eq (L.length=len):=hL.length;have D:=hL.room;have y:=hL.big;unfold maxLen at y;have C:=az hL;clear hL;go_enter Tryz.func201,Tryz.ntmps201
 go_wp2;go_loopw [3,4] (fun m i wr=>∃k p:Nat,k≤len∧i=iT k∧m=iT p∧p<65536∧Bl w wr∧p=dG (L.take k)) (fun _ i _=>len - (intOf i).toNat)
 case atStart=>exact ⟨0,0,Gl _,rfl,rfl,by omega,Below.refl _ _,rfl⟩
 case round =>
  obtain ⟨k,p,hk,rfl,rfl,hp,hb,hm⟩:=hrel;have B:Eq (p=dG (L.take k)):=hm;clear hm;by_cases x:k<len
  · obtain ⟨b,H,rfl,A⟩:=C.o.form (by omega);obtain ⟨s,q,d,t,n,hg,u,O,R,N,U,Q⟩:=C.o.ent hb A k x;have E:Eq (L[k]?=some (s,q,d,t,n)):=hg;have hs:=u.1;simp only at hs;clear hg u;obtain ⟨z,hz⟩:=aF (iz s);have r:z<65536:=by rw [hz];exact qm s
    have I:Eq (∀w,Calls Tryz.prog 237 #[.string s] w fun e w'=>e=.returned (iT (z:Int))∧w'=w):=by rw [hz];exact fun w=>BT s w hs
    have F:Eq (∀w,Calls Tryz.prog 236 #[iT p,iT z] w fun e w'=>e=.returned (iT ((p ||| z:Nat):Int))∧w'=w):=fun w=>BQ p z w hp r
    have J:Eq (p ||| z=dG (L.take (k+1))):=by
     show p ||| z=dG (L.take (k+1))
     rw [qj E.o,← B.o,hz]
    clear hz;go_wp2_with (first | (go_at_call 237;refine (I.o _).mono ?_;rintro e K ⟨rfl,rfl⟩) | (go_at_call 236;refine (F.o _).mono ?_;rintro e T ⟨rfl,rfl⟩))
    go_roundw
    case rel=>exact ⟨k+1,p ||| z,by omega,by go_num,rfl,iP hp r,hb,J.o⟩
    case measure=>simp [intOf];omega
  · go_wp2;go_ret;refine ⟨mz ?_,hb⟩;have:=B.o;rw [Gr (by rw [f.o];omega)] at this;rw [this]
theorem AD (a:Option Addr) (len g:Nat) (L:List ac) (w:World) (hL:aj w a len g L) :
 Calls Tryz.prog 219 #[.slice a len g] w fun e w'=>e=.returned (iT ((dG L:Nat):Int))∧Bl w w':=by
 have f:Eq (L.length=len):=hL.length;have F:=hL.room;have A:=hL.big;unfold maxLen at A;have E:=az hL;clear hL;go_enter Tryz.func219,Tryz.ntmps219
 go_wp2;go_loopw [3,8] (fun m i wr=>∃k p:Nat,k≤len∧i=iT k∧m=iT p∧p<65536∧Bl w wr∧p=dG (L.take k)) (fun _ i _=>len - (intOf i).toNat)
 case atStart=>exact ⟨0,0,Gl _,rfl,rfl,by omega,Below.refl _ _,rfl⟩
 case round =>
  obtain ⟨k,p,hk,rfl,rfl,hp,hb,hm⟩:=hrel;have D:Eq (p=dG (L.take k)):=hm;clear hm;by_cases y:k<len
  · obtain ⟨b,I,rfl,B⟩:=E.o.form (by omega);obtain ⟨s,q,d,t,n,hg,x,T,W,R,X,U⟩:=E.o.ent hb B k y;have H:Eq (L[k]?=some (s,q,d,t,n)):=hg;have hs:=x.1;simp only at hs;clear hg x;obtain ⟨z,hz⟩:=aF (iz s);have r:z<65536:=by rw [hz];exact qm s
    have J:Eq (∀w,Calls Tryz.prog 244 #[.string s] w fun e w'=>e=.returned (iT (z:Int))∧Bl w w'):=by rw [hz];exact fun w=>C6 s w hs
    have K:Eq (p ||| z=dG (L.take (k+1))):=by
     show p ||| z=dG (L.take (k+1))
     rw [qj H.o,← D.o,hz]
    have C:=zv p z hp r;clear hz;go_wp2_with (go_at_call 244;refine (J.o _).mono ?_;rintro e Q ⟨rfl,u⟩;obtain ⟨O,N⟩:=wg u)
    go_roundw
    case rel=>exact ⟨k+1,p ||| z,by omega,by go_num,by rw [← C],iP hp r,(hb.alloc (by have:=hb.size;omega) _).trans (u.mono (by have:=hb.size;simp;omega)),K.o⟩
    case measure=>simp [intOf];omega
  · go_wp2;go_ret;refine ⟨mz ?_,hb⟩;have:=D.o;rw [Gr (by rw [f.o];omega)] at this;rw [this]
end Go.Proofs.YtpobkmjicbobdaaGreat
namespace Go.Proofs.YtpobkmjicbobdaaGreat
open Go.RowKit
set_option maxRecDepth 100000
set_option maxHeartbeats 1000000
theorem kK (a:Option Addr) (len Q:Nat) (L:List ac) (w:World) (hL:aj w a len Q L) :
 Calls Tryz.prog 87 #[.slice a len Q] w fun e w'=>e=.returned (.bool (aI L))∧Bl w w':=by
 have u:Eq (L.length=len):=hL.length;have ah:=hL.room;have a3:=hL.big;unfold maxLen at a3;have HL:=az hL;clear hL;go_enter Tryz.func87,Tryz.ntmps87
 go_wp2;go_loopw [3] (fun i wr=>∃k:Nat,k≤len∧i=iT k∧Bl w wr∧jx L k) (fun i _=>len - (intOf i).toNat)
 case atStart=>exact ⟨0,Gl _,rfl,Below.refl _ _,fun j hj=>absurd hj (G2 _)⟩
 case round =>
  obtain ⟨k,hk,rfl,hb,D⟩:=hrel;have x:Eq (jx L k):=D;clear D;by_cases F:k<len
  · obtain ⟨b,f,rfl,y⟩:=HL.o.form (by omega);obtain ⟨s,q,d,t,n,hg,E,Y,Z,X,g3,T⟩:=HL.o.ent hb y k F;have HG:Eq (L[k]?=some (s,q,d,t,n)):=hg;have hs:=E.1;have ht:=E.2.2.2.1;simp only at hs ht;clear hg E;cases hv:dq s q d t n with
    | false =>
     have CE:Eq (∀w,Calls Tryz.prog 143 #[.agg #[.string s,iT q,iT d,.string t,iT n]] w fun e w'=>e=.returned (.bool false)∧Bl w w'):=by rw [← hv];exact fun w=>tJ s t q d n w hs ht
     go_wp2_with fail
     have A:Bl wr wr.drew:=(Below.refl _ wr).drew;have C:b<wr.heap.size:=E' y hb.size;have m:Eq (∀w',Bl wr w'→(w'.cell? ⟨b,f+k*5,none⟩=some (.string s)∧w'.cell? ⟨b,f+k*5+1,none⟩=some (iT q)∧w'.cell? ⟨b,f+k*5+2,none⟩=some (iT d)∧w'.cell? ⟨b,f+k*5+3,none⟩=some (.string t)∧w'.cell? ⟨b,f+k*5+4,none⟩=some (iT n)∧b<w'.heap.size)):=fun w' g=>⟨cell_later g Y,cell_later g Z,cell_later g X,cell_later g g3,cell_later g T,E' C g.size⟩
     refine eJ m A fun r=>?_
     refine aO 0 4 r ?_;refine aS 4 fun K hK=>?_
     go_simp;refine (CE.o _).mono ?_;rintro e w1 ⟨rfl,b1⟩;have k1:Bl wr w1:=A.trans (b1.mono A.size);go_wp2_with fail
     refine hK.o _ _ (m.o _ k1) fun r=>?_
     (try go_frame);refine aO 5 14 r ?_;refine aS 19 fun K hK=>?_
     go_simp;refine hK.o _ _ (m.o _ k1) fun r=>?_
     (try go_frame);refine aO 20 3 r ?_;refine dN ?_;go_wp2;go_ret;exact ⟨ag (my (by rw [u.o];exact F) (p8 HG.o hv)).symm,hb.trans (k1.mono hb.size)⟩
    | true =>
     have CE:Eq (∀w,Calls Tryz.prog 143 #[.agg #[.string s,iT q,iT d,.string t,iT n]] w fun e w'=>e=.returned (.bool true)∧Bl w w'):=by rw [← hv];exact fun w=>tJ s t q d n w hs ht
     by_cases ab:k=0
     · subst ab;simp only [It,Hl] at Y Z X g3 T;go_wp2_with fail
       have A:Bl wr wr.drew:=(Below.refl _ wr).drew;have C:b<wr.heap.size:=E' y hb.size;have m:Eq (∀w',Bl wr w'→(w'.cell? ⟨b,f,none⟩=some (.string s)∧w'.cell? ⟨b,f+1,none⟩=some (iT q)∧w'.cell? ⟨b,f+2,none⟩=some (iT d)∧w'.cell? ⟨b,f+3,none⟩=some (.string t)∧w'.cell? ⟨b,f+4,none⟩=some (iT n)∧b<w'.heap.size)):=fun w' g=>⟨cell_later g Y,cell_later g Z,cell_later g X,cell_later g g3,cell_later g T,E' C g.size⟩
       refine eJ m A fun r=>?_
       refine aO 0 4 r ?_;refine aS 4 fun K hK=>?_
       go_simp;refine (CE.o _).mono ?_;rintro e w1 ⟨rfl,b1⟩;have k1:Bl wr w1:=A.trans (b1.mono A.size);go_wp2_with fail
       refine hK.o _ _ (m.o _ k1) fun r=>?_
       (try go_frame);refine aO 5 14 r ?_;refine aS 19 fun K hK=>?_
       go_simp;refine hK.o _ _ (m.o _ k1) fun r=>?_
       (try go_frame);refine aO 20 3 r ?_;refine dN ?_;go_wp2;go_roundw
       case rel=>exact ⟨1,by omega,by go_num,hb.trans (k1.mono hb.size),jk x.o (by rw [lc HG.o];exact hv)⟩
       case measure=>simp [intOf];omega
     · obtain ⟨j,rfl⟩:∃j,k=j+1:=⟨k - 1,by omega⟩;obtain ⟨J,I,U,R,W,O,N,a2,a9,ad,ae,a5⟩:=HL.o.ent hb y j (by omega);have a8:Eq (L[j]?=some (J,I,U,R,W)):=O;clear O N;obtain ⟨B,hB⟩:=aF (bF J I s q);have CL:Eq (∀w,Calls Tryz.prog 144 #[.agg #[.string J,iT I,iT U,.string R,iT W],.agg #[.string s,iT q,iT d,.string t,iT n]] w fun e w'=>e=.returned (.bool B)∧Bl w w'):=by rw [hB];exact fun w=>uP J R s t I U W q d n w
       have H:Eq (lU L (j+1)=B):=by
        show lU L (j+1)=B
        rw [iQ HG.o a8.o,hB,hv];rfl
       clear hB;have am:(0:Int)≤(j:Int)+1:=by omega
       have af:(0:Int)<(j:Int)+1:=by omega
       have ai:(j:Int)<(len:Int):=by omega
       have wj:IntKind.i64.wrap (j:Int)=(j:Int):=by rw [GB];unfold wrap64;omega
       go_wp2_with fail
       have A:Bl wr wr.drew:=(Below.refl _ wr).drew;have C:b<wr.heap.size:=E' y hb.size;have m:Eq (∀w',Bl wr w'→(w'.cell? ⟨b,f+j*5,none⟩=some (.string J)∧w'.cell? ⟨b,f+j*5+1,none⟩=some (iT I)∧w'.cell? ⟨b,f+j*5+2,none⟩=some (iT U)∧w'.cell? ⟨b,f+j*5+3,none⟩=some (.string R)∧w'.cell? ⟨b,f+j*5+4,none⟩=some (iT W)∧w'.cell? ⟨b,f+(j+1)*5,none⟩=some (.string s)∧w'.cell? ⟨b,f+(j+1)*5+1,none⟩=some (iT q)∧w'.cell? ⟨b,f+(j+1)*5+2,none⟩=some (iT d)∧w'.cell? ⟨b,f+(j+1)*5+3,none⟩=some (.string t)∧w'.cell? ⟨b,f+(j+1)*5+4,none⟩=some (iT n)∧b<w'.heap.size)):=fun w' g=>⟨cell_later g a2,cell_later g a9,cell_later g ad,cell_later g ae,cell_later g a5,cell_later g Y,cell_later g Z,cell_later g X,cell_later g g3,cell_later g T,E' C g.size⟩
       refine eJ m A fun r=>?_
       refine aO 0 4 r ?_;refine aS 4 fun K hK=>?_
       go_simp;refine (CE.o _).mono ?_;rintro e w1 ⟨rfl,b1⟩;have k1:Bl wr w1:=A.trans (b1.mono A.size);go_wp2_with fail
       refine hK.o _ _ (m.o _ k1) fun r=>?_
       (try go_frame);refine aO 5 14 r ?_;refine aS 19 fun K hK=>?_
       go_simp;refine (CL.o _).mono ?_;rintro e w2 ⟨rfl,b2⟩;have k2:Bl wr w2:=k1.trans (b2.mono k1.size);go_wp2_with fail
       refine hK.o _ _ (m.o _ k2) fun r=>?_
       (try go_frame);refine aO 20 3 r ?_;refine dN ?_;cases B with
       | true =>
        go_wp2;go_roundw
        case rel=>exact ⟨j+1+1,by omega,by go_num,hb.trans (k2.mono hb.size),jk x.o H.o⟩
        case measure=>simp [intOf];omega
       | false =>
        go_wp2;go_ret;exact ⟨ag (my (by rw [u.o];exact F) H.o).symm,hb.trans (k2.mono hb.size)⟩
  · go_wp2;go_ret;exact ⟨ag (mw x.o (by rw [u.o];omega)).symm,hb⟩
end Go.Proofs.YtpobkmjicbobdaaGreat
namespace Go.Proofs.YtpobkmjicbobdaaGreat
open Go.RowKit
set_option maxRecDepth 100000
set_option maxHeartbeats 1000000
theorem nU (a:Option Addr) (len a2:Nat) (L:List ac) (w:World) (hL:aj w a len a2 L) :
 Calls Tryz.prog 188 #[.slice a len a2] w fun e w'=>e=.returned (.bool (aI L))∧Bl w w':=by
 have A:Eq (L.length=len):=hL.length;have am:=hL.room;have a8:=hL.big;unfold maxLen at a8;have HL:=az hL;clear hL;go_enter Tryz.func188,Tryz.ntmps188
 go_wp2;go_loopw [7] (fun i wr=>∃k:Nat,k≤len∧i=iT k∧Bl w wr∧jx L k) (fun i _=>len - (intOf i).toNat)
 case atStart=>exact ⟨0,Gl _,rfl,Below.refl _ _,fun j hj=>absurd hj (G2 _)⟩
 case round =>
  obtain ⟨k,hk,rfl,hb,I⟩:=hrel;have C:Eq (jx L k):=I;clear I;by_cases J:k<len
  · obtain ⟨b,H,rfl,D⟩:=HL.o.form (by omega);obtain ⟨s,q,d,t,n,hg,T,g0,g1,g2,g3,g4⟩:=HL.o.ent hb D k J;have HG:Eq (L[k]?=some (s,q,d,t,n)):=hg;have hs:=T.1;simp only at hs;clear hg T;cases hv:dq s q d t n with
    | false =>
     have CE:Eq (∀w,Calls Tryz.prog 33 #[.agg #[.string s,iT q,iT d,.string t,iT n]] w fun e w'=>e=.returned (.bool false)∧Bl w w'):=by rw [← hv];exact fun w=>yZ s t q d n w hs
     go_wp2_with fail
     obtain ⟨X,m⟩:=aF wr.heap.size;obtain ⟨W,g⟩:=aF (wr.alloc (.cells #[.string s,iT q,iT d,.string t,iT n] 50));have x0:W.cell? ⟨X,0,none⟩=some (.string s):=by rw [g,m];simp
     have x1:W.cell? ⟨X,1,none⟩=some (iT q):=by rw [g,m];simp
     have R:W.cell? ⟨X,2,none⟩=some (iT d):=by rw [g,m];simp
     have Q:W.cell? ⟨X,3,none⟩=some (.string t):=by rw [g,m];simp
     have Z:W.cell? ⟨X,4,none⟩=some (iT n):=by rw [g,m];simp
     have y:Bl wr W:=by rw [g];exact bZ
     have F:b<wr.heap.size:=E' D hb.size;have N:b<W.heap.size:=E' F y.size;have u:Eq (Bl w W):=hb.trans (y.mono hb.size);rw [← g,← m];clear g m y;have E:Bl W W.drew:=(Below.refl _ W).drew;have r:Eq (∀w',Bl W w'→(w'.cell? ⟨X,0,none⟩=some (.string s)∧w'.cell? ⟨X,1,none⟩=some (iT q)∧w'.cell? ⟨X,2,none⟩=some (iT d)∧w'.cell? ⟨X,3,none⟩=some (.string t)∧w'.cell? ⟨X,4,none⟩=some (iT n)∧X<w'.heap.size)):=fun w' f=>⟨cell_later f x0,cell_later f x1,cell_later f R,cell_later f Q,cell_later f Z,Gf _ _ (cell_later f x0)⟩
     refine eJ r E fun x=>?_
     refine aO 0 1 x ?_;refine aS 1 fun K hK=>?_
     go_simp;refine (CE.o _).mono ?_;rintro e w1 ⟨rfl,b1⟩;have k1:Bl W w1:=E.trans (b1.mono E.size);go_wp2_with fail
     refine hK.o _ _ (r.o _ k1) fun x=>?_
     (try go_frame);refine aO 2 11 x ?_;refine aS 13 fun K hK=>?_
     go_simp;refine hK.o _ _ (r.o _ k1) fun x=>?_
     (try go_frame);refine aO 14 3 x ?_;refine dN ?_;go_wp2;go_ret;exact ⟨ag (my (by rw [A.o];exact J) (p8 HG.o hv)).symm,u.o.trans (k1.mono u.o.size)⟩
    | true =>
     have CE:Eq (∀w,Calls Tryz.prog 33 #[.agg #[.string s,iT q,iT d,.string t,iT n]] w fun e w'=>e=.returned (.bool true)∧Bl w w'):=by rw [← hv];exact fun w=>yZ s t q d n w hs
     by_cases ah:k=0
     · subst ah;simp only [It,Hl] at g0 g1 g2 g3 g4;go_wp2_with fail
       obtain ⟨X,m⟩:=aF wr.heap.size;obtain ⟨W,g⟩:=aF (wr.alloc (.cells #[.string s,iT q,iT d,.string t,iT n] 50));have x0:W.cell? ⟨X,0,none⟩=some (.string s):=by rw [g,m];simp
       have x1:W.cell? ⟨X,1,none⟩=some (iT q):=by rw [g,m];simp
       have R:W.cell? ⟨X,2,none⟩=some (iT d):=by rw [g,m];simp
       have Q:W.cell? ⟨X,3,none⟩=some (.string t):=by rw [g,m];simp
       have Z:W.cell? ⟨X,4,none⟩=some (iT n):=by rw [g,m];simp
       have y:Bl wr W:=by rw [g];exact bZ
       have F:b<wr.heap.size:=E' D hb.size;have N:b<W.heap.size:=E' F y.size;have u:Eq (Bl w W):=hb.trans (y.mono hb.size);rw [← g,← m];clear g m y;have E:Bl W W.drew:=(Below.refl _ W).drew;have r:Eq (∀w',Bl W w'→(w'.cell? ⟨X,0,none⟩=some (.string s)∧w'.cell? ⟨X,1,none⟩=some (iT q)∧w'.cell? ⟨X,2,none⟩=some (iT d)∧w'.cell? ⟨X,3,none⟩=some (.string t)∧w'.cell? ⟨X,4,none⟩=some (iT n)∧X<w'.heap.size)):=fun w' f=>⟨cell_later f x0,cell_later f x1,cell_later f R,cell_later f Q,cell_later f Z,Gf _ _ (cell_later f x0)⟩
       refine eJ r E fun x=>?_
       refine aO 0 1 x ?_;refine aS 1 fun K hK=>?_
       go_simp;refine (CE.o _).mono ?_;rintro e w1 ⟨rfl,b1⟩;have k1:Bl W w1:=E.trans (b1.mono E.size);go_wp2_with fail
       refine hK.o _ _ (r.o _ k1) fun x=>?_
       (try go_frame);refine aO 2 11 x ?_;refine aS 13 fun K hK=>?_
       go_simp;refine hK.o _ _ (r.o _ k1) fun x=>?_
       (try go_frame);refine aO 14 3 x ?_;refine dN ?_;go_wp2;go_roundw
       case rel=>exact ⟨1,by omega,by go_num,u.o.trans (k1.mono u.o.size),jk C.o (by rw [lc HG.o];exact hv)⟩
       case measure=>simp [intOf];omega
     · obtain ⟨j,rfl⟩:∃j,k=j+1:=⟨k - 1,by omega⟩;obtain ⟨Y,U,d',t',n',a1,a0,a7,af,ai,ak,a9⟩:=HL.o.ent hb D j (by omega);have ae:Eq (L[j]?=some (Y,U,d',t',n')):=a1;clear a1 a0;obtain ⟨B,hB⟩:=aF (bF Y U s q);have CL:Eq (∀w,Calls Tryz.prog 203 #[.agg #[.string Y,iT U,iT d',.string t',iT n'],.agg #[.string s,iT q,iT d,.string t,iT n]] w fun e w'=>e=.returned (.bool B)∧Bl w w'):=by rw [hB];exact fun w=>qw Y t' s t U d' n' q d n w
       have O:Eq (lU L (j+1)=B):=by
        show lU L (j+1)=B
        rw [iQ HG.o ae.o,hB,hv];rfl
       clear hB;have ay:(0:Int)≤(j:Int)+1:=by omega
       have al:(0:Int)<(j:Int)+1:=by omega
       have ao:(j:Int)<(len:Int):=by omega
       have wj:IntKind.i64.wrap (j:Int)=(j:Int):=by rw [GB];unfold wrap64;omega
       go_wp2_with fail
       obtain ⟨X,m⟩:=aF wr.heap.size;obtain ⟨W,g⟩:=aF (wr.alloc (.cells #[.string s,iT q,iT d,.string t,iT n] 50));have x0:W.cell? ⟨X,0,none⟩=some (.string s):=by rw [g,m];simp
       have x1:W.cell? ⟨X,1,none⟩=some (iT q):=by rw [g,m];simp
       have R:W.cell? ⟨X,2,none⟩=some (iT d):=by rw [g,m];simp
       have Q:W.cell? ⟨X,3,none⟩=some (.string t):=by rw [g,m];simp
       have Z:W.cell? ⟨X,4,none⟩=some (iT n):=by rw [g,m];simp
       have y:Bl wr W:=by rw [g];exact bZ
       have F:b<wr.heap.size:=E' D hb.size;have N:b<W.heap.size:=E' F y.size;have y0:=cell_later y a7;have y1:=cell_later y af;have y2:=cell_later y ai;have y3:=cell_later y ak;have y4:=cell_later y a9;have u:Eq (Bl w W):=hb.trans (y.mono hb.size);rw [← g,← m];clear g m y;have E:Bl W W.drew:=(Below.refl _ W).drew;have r:Eq (∀w',Bl W w'→(w'.cell? ⟨X,0,none⟩=some (.string s)∧w'.cell? ⟨X,1,none⟩=some (iT q)∧w'.cell? ⟨X,2,none⟩=some (iT d)∧w'.cell? ⟨X,3,none⟩=some (.string t)∧w'.cell? ⟨X,4,none⟩=some (iT n)∧X<w'.heap.size∧w'.cell? ⟨b,H+j*5,none⟩=some (.string Y)∧w'.cell? ⟨b,H+j*5+1,none⟩=some (iT U)∧w'.cell? ⟨b,H+j*5+2,none⟩=some (iT d')∧w'.cell? ⟨b,H+j*5+3,none⟩=some (.string t')∧w'.cell? ⟨b,H+j*5+4,none⟩=some (iT n')∧b<w'.heap.size)):=fun w' f=>⟨cell_later f x0,cell_later f x1,cell_later f R,cell_later f Q,cell_later f Z,Gf _ _ (cell_later f x0),cell_later f y0,cell_later f y1,cell_later f y2,cell_later f y3,cell_later f y4,E' N f.size⟩
       refine eJ r E fun x=>?_
       refine aO 0 1 x ?_;refine aS 1 fun K hK=>?_
       go_simp;refine (CE.o _).mono ?_;rintro e w1 ⟨rfl,b1⟩;have k1:Bl W w1:=E.trans (b1.mono E.size);go_wp2_with fail
       refine hK.o _ _ (r.o _ k1) fun x=>?_
       (try go_frame);refine aO 2 11 x ?_;refine aS 13 fun K hK=>?_
       go_simp;refine (CL.o _).mono ?_;rintro e w2 ⟨rfl,b2⟩;have k2:Bl W w2:=k1.trans (b2.mono k1.size);go_wp2_with fail
       refine hK.o _ _ (r.o _ k2) fun x=>?_
       (try go_frame);refine aO 14 3 x ?_;refine dN ?_;cases B with
       | true =>
        go_wp2;go_roundw
        case rel=>exact ⟨j+1+1,by omega,by go_num,u.o.trans (k2.mono u.o.size),jk C.o O.o⟩
        case measure=>simp [intOf];omega
       | false =>
        go_wp2;go_ret;exact ⟨ag (my (by rw [A.o];exact J) O.o).symm,u.o.trans (k2.mono u.o.size)⟩
  · go_wp2;go_ret;exact ⟨ag (mw C.o (by rw [A.o];omega)).symm,hb⟩
end Go.Proofs.YtpobkmjicbobdaaGreat
namespace Go.Proofs.YtpobkmjicbobdaaGreat
open Go.RowKit
set_option maxRecDepth 100000
set_option maxHeartbeats 1000000
theorem zU (a:Option Addr) (len b:Nat) (L:List ac) (m:Int) (w:World) (hL:aj w a len b L) :
 Calls Tryz.prog 145 #[.agg #[.slice a len b,iT m]] w fun e w'=>e=.returned (.bool (cP L m))∧Bl w w':=by
 have r:Eq (L.length=len):=hL.length;have H:=hL.room;have E:=hL.big;unfold maxLen at E;obtain ⟨X,u⟩:=aF w.heap.size;obtain ⟨W,s⟩:=aF (w.alloc (.cells #[.slice a len b,iT m] 63));have x0:W.cell? ⟨X,0,none⟩=some (.slice a len b):=by rw [s,u];simp
 have x1:W.cell? ⟨X,1,none⟩=some (iT m):=by rw [s,u];simp
 have D:Bl w W:=by rw [s];exact bZ
 have A:aj W a len b L:=hL.keep D;have n:Bl W W.drew:=(Below.refl _ W).drew;have g:Eq (Bl w W):=D;have N:Eq (∀w',Bl W w'→Calls Tryz.prog 201 #[.slice a len b] w' fun e t=>e=.returned (iT ((dG L:Nat):Int))∧Bl w' t):=fun w' x=>nh a len b L w' (A.keep x)
 have d:Eq (∀w',Bl W w'→(w'.cell? ⟨X,0,none⟩=some (.slice a len b)∧w'.cell? ⟨X,1,none⟩=some (iT m)∧X<w'.heap.size)):=fun w' x=>⟨cell_later x x0,cell_later x x1,Gf _ _ (cell_later x x0)⟩
 have C:Eq (aj W a len b L):=A;clear D hL A;by_cases h1:len<1
 · have y:¬(1:Int)≤(len:Int):=by omega
   have J:decide ((1:Int)≤(len:Int))=false:=decide_eq_false y;go_enter Tryz.func145,Tryz.ntmps145
   go_wp2_with fail
   rw [← s,← u];clear s u;refine eJ d n fun f=>?_
   refine aO 0 13 f ?_;refine aS 13 fun K hK=>?_
   go_simp;refine hK.o _ _ (d.o _ n) fun f=>?_
   (try go_frame);refine aO 14 6 f ?_;refine aS 20 fun K hK=>?_
   go_simp;refine hK.o _ _ (d.o _ n) fun f=>?_
   (try go_frame);refine aO 21 3 f ?_;refine dN ?_;go_wp2;go_ret;exact ⟨ag (u7 (by rw [r.o];exact h1)).symm,g.o.trans (n.mono g.o.size)⟩
 by_cases h2:150<len
 · have y:(1:Int)≤(len:Int):=by omega
   have B:¬(len:Int)≤150:=by omega
   have I:decide ((len:Int)≤150)=false:=decide_eq_false B;go_enter Tryz.func145,Tryz.ntmps145
   go_wp2_with fail
   rw [← s,← u];clear s u;refine eJ d n fun f=>?_
   refine aO 0 13 f ?_;refine aS 13 fun K hK=>?_
   go_simp;refine hK.o _ _ (d.o _ n) fun f=>?_
   (try go_frame);refine aO 14 6 f ?_;refine aS 20 fun K hK=>?_
   go_simp;refine hK.o _ _ (d.o _ n) fun f=>?_
   (try go_frame);refine aO 21 3 f ?_;refine dN ?_;go_wp2;go_ret;exact ⟨ag (sI (by rw [r.o];exact h2)).symm,g.o.trans (n.mono g.o.size)⟩
 have y:(1:Int)≤(len:Int):=by omega
 have B:(len:Int)≤150:=by omega
 cases hr:aI L with
 | false =>
  have F:Eq (∀w',Bl W w'→Calls Tryz.prog 87 #[.slice a len b] w' fun e t=>e=.returned (.bool false)∧Bl w' t):=by rw [← hr];exact fun w' x=>kK a len b L w' (C.o.keep x)
  go_enter Tryz.func145,Tryz.ntmps145
  go_wp2_with fail
  rw [← s,← u];clear s u;refine eJ d n fun f=>?_
  refine aO 0 13 f ?_;refine aS 13 fun K hK=>?_
  go_simp;refine (F.o _ n).mono ?_;rintro e w1 ⟨rfl,b1⟩;have k1:Bl W w1:=n.trans (b1.mono n.size);go_wp2_with fail
  refine hK.o _ _ (d.o _ k1) fun f=>?_
  (try go_frame);refine aO 14 6 f ?_;refine aS 20 fun K hK=>?_
  go_simp;refine hK.o _ _ (d.o _ k1) fun f=>?_
  (try go_frame);refine aO 21 3 f ?_;refine dN ?_;go_wp2;go_ret;exact ⟨ag (pQ hr).symm,g.o.trans (k1.mono g.o.size)⟩
 | true =>
  have F:Eq (∀w',Bl W w'→Calls Tryz.prog 87 #[.slice a len b] w' fun e t=>e=.returned (.bool true)∧Bl w' t):=by rw [← hr];exact fun w' x=>kK a len b L w' (C.o.keep x)
  go_enter Tryz.func145,Tryz.ntmps145
  go_wp2_with fail
  rw [← s,← u];clear s u;refine eJ d n fun f=>?_
  refine aO 0 13 f ?_;refine aS 13 fun K hK=>?_
  go_simp;refine (F.o _ n).mono ?_;rintro e w1 ⟨rfl,b1⟩;have k1:Bl W w1:=n.trans (b1.mono n.size);go_wp2_with fail
  refine hK.o _ _ (d.o _ k1) fun f=>?_
  (try go_frame);refine aO 14 6 f ?_;refine aS 20 fun K hK=>?_
  go_simp;refine (N.o _ k1).mono ?_;rintro e w2 ⟨rfl,b2⟩;have k2:Bl W w2:=k1.trans (b2.mono k1.size);go_wp2_with fail
  refine hK.o _ _ (d.o _ k2) fun f=>?_
  (try go_frame);refine aO 21 3 f ?_;refine dN ?_;go_wp2;go_ret;refine ⟨ag ?_,g.o.trans (k2.mono g.o.size)⟩;rw [sH (by rw [r.o];omega) (by rw [r.o];omega) hr];first | rfl | (rw [Bool.eq_iff_iff];simp)
theorem s5 (a:Option Addr) (len b:Nat) (L:List ac) (m:Int) (w:World) (hL:aj w a len b L) :
 Calls Tryz.prog 209 #[.agg #[.slice a len b,iT m]] w fun e w'=>e=.returned (.bool (cP L m))∧Bl w w':=by
 have r:Eq (L.length=len):=hL.length;have H:=hL.room;have E:=hL.big;unfold maxLen at E;obtain ⟨X,u⟩:=aF w.heap.size;obtain ⟨W,s⟩:=aF (w.alloc (.cells #[.slice a len b,iT m] 63));have x0:W.cell? ⟨X,0,none⟩=some (.slice a len b):=by rw [s,u];simp
 have x1:W.cell? ⟨X,1,none⟩=some (iT m):=by rw [s,u];simp
 have D:Bl w W:=by rw [s];exact bZ
 have A:aj W a len b L:=hL.keep D;have n:Bl W W.drew:=(Below.refl _ W).drew;have g:Eq (Bl w W):=D;have N:Eq (∀w',Bl W w'→Calls Tryz.prog 219 #[.slice a len b] w' fun e t=>e=.returned (iT ((dG L:Nat):Int))∧Bl w' t):=fun w' x=>AD a len b L w' (A.keep x)
 have d:Eq (∀w',Bl W w'→(w'.cell? ⟨X,0,none⟩=some (.slice a len b)∧w'.cell? ⟨X,1,none⟩=some (iT m)∧X<w'.heap.size)):=fun w' x=>⟨cell_later x x0,cell_later x x1,Gf _ _ (cell_later x x0)⟩
 have C:Eq (aj W a len b L):=A;clear D hL A;by_cases h1:len<1
 · have y:¬(1:Int)≤(len:Int):=by omega
   have J:decide ((1:Int)≤(len:Int))=false:=decide_eq_false y;go_enter Tryz.func209,Tryz.ntmps209
   go_wp2_with fail
   rw [← s,← u];clear s u;refine eJ d n fun f=>?_
   refine aO 0 13 f ?_;refine aS 13 fun K hK=>?_
   go_simp;refine hK.o _ _ (d.o _ n) fun f=>?_
   (try go_frame);refine aO 14 6 f ?_;refine aS 20 fun K hK=>?_
   go_simp;refine hK.o _ _ (d.o _ n) fun f=>?_
   (try go_frame);refine aO 21 3 f ?_;refine dN ?_;go_wp2;go_ret;exact ⟨ag (u7 (by rw [r.o];exact h1)).symm,g.o.trans (n.mono g.o.size)⟩
 by_cases h2:150<len
 · have y:(1:Int)≤(len:Int):=by omega
   have B:¬(len:Int)≤150:=by omega
   have I:decide ((len:Int)≤150)=false:=decide_eq_false B;go_enter Tryz.func209,Tryz.ntmps209
   go_wp2_with fail
   rw [← s,← u];clear s u;refine eJ d n fun f=>?_
   refine aO 0 13 f ?_;refine aS 13 fun K hK=>?_
   go_simp;refine hK.o _ _ (d.o _ n) fun f=>?_
   (try go_frame);refine aO 14 6 f ?_;refine aS 20 fun K hK=>?_
   go_simp;refine hK.o _ _ (d.o _ n) fun f=>?_
   (try go_frame);refine aO 21 3 f ?_;refine dN ?_;go_wp2;go_ret;exact ⟨ag (sI (by rw [r.o];exact h2)).symm,g.o.trans (n.mono g.o.size)⟩
 have y:(1:Int)≤(len:Int):=by omega
 have B:(len:Int)≤150:=by omega
 cases hr:aI L with
 | false =>
  have F:Eq (∀w',Bl W w'→Calls Tryz.prog 188 #[.slice a len b] w' fun e t=>e=.returned (.bool false)∧Bl w' t):=by rw [← hr];exact fun w' x=>nU a len b L w' (C.o.keep x)
  go_enter Tryz.func209,Tryz.ntmps209
  go_wp2_with fail
  rw [← s,← u];clear s u;refine eJ d n fun f=>?_
  refine aO 0 13 f ?_;refine aS 13 fun K hK=>?_
  go_simp;refine (F.o _ n).mono ?_;rintro e w1 ⟨rfl,b1⟩;have k1:Bl W w1:=n.trans (b1.mono n.size);go_wp2_with fail
  refine hK.o _ _ (d.o _ k1) fun f=>?_
  (try go_frame);refine aO 14 6 f ?_;refine aS 20 fun K hK=>?_
  go_simp;refine hK.o _ _ (d.o _ k1) fun f=>?_
  (try go_frame);refine aO 21 3 f ?_;refine dN ?_;go_wp2;go_ret;exact ⟨ag (pQ hr).symm,g.o.trans (k1.mono g.o.size)⟩
 | true =>
  have F:Eq (∀w',Bl W w'→Calls Tryz.prog 188 #[.slice a len b] w' fun e t=>e=.returned (.bool true)∧Bl w' t):=by rw [← hr];exact fun w' x=>nU a len b L w' (C.o.keep x)
  go_enter Tryz.func209,Tryz.ntmps209
  go_wp2_with fail
  rw [← s,← u];clear s u;refine eJ d n fun f=>?_
  refine aO 0 13 f ?_;refine aS 13 fun K hK=>?_
  go_simp;refine (F.o _ n).mono ?_;rintro e w1 ⟨rfl,b1⟩;have k1:Bl W w1:=n.trans (b1.mono n.size);go_wp2_with fail
  refine hK.o _ _ (d.o _ k1) fun f=>?_
  (try go_frame);refine aO 14 6 f ?_;refine aS 20 fun K hK=>?_
  go_simp;refine (N.o _ k1).mono ?_;rintro e w2 ⟨rfl,b2⟩;have k2:Bl W w2:=k1.trans (b2.mono k1.size);go_wp2_with fail
  refine hK.o _ _ (d.o _ k2) fun f=>?_
  (try go_frame);refine aO 21 3 f ?_;refine dN ?_;go_wp2;go_ret;refine ⟨ag ?_,g.o.trans (k2.mono g.o.size)⟩;rw [sH (by rw [r.o];omega) (by rw [r.o];omega) hr];first | rfl | (rw [Bool.eq_iff_iff];simp)
end Go.Proofs.YtpobkmjicbobdaaGreat
