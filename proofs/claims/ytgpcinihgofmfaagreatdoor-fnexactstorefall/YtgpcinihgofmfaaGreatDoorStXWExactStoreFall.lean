/-
  The walk of the law FnExactStoreFall: it answers true at every store.
-/
import Derived.Test.YtgpcinihgofmfaaGreatDoorStXWGStoreFall
import Derived.Test.YtgpcinihgofmfaaGreatDoorStXSpFall
import Derived.Test.YtgpcinihgofmfaaGreatDoorStXImFa
import Derived.Test.YtgpcinihgofmfaaGreatDoorSt45
namespace Go.Proofs.YtgpcinihgofmfaaGreatDoor
open Go.RowKit
set_option maxRecDepth 100000
set_option maxHeartbeats 4000000
theorem iS (up1:Bool) (q1:Int) (m1:Option Addr) (nm1 cm1:Nat) (v1:Option Addr) (nv1 cv1:Nat) (k1:Option Addr) (ns1 cs1:Nat) (lg1:ByteArray) (sf1:Int) (d1:Option Addr) (nd1 cd1:Nat) (sd1:Int) (M1:List ae) (V1:List (List aj)) (S1:List Int) (U1:List (List aj)) (kp:Int) (w:World) (w0:lg1.size≤maxLen∧bg 0 w m1 nm1 cm1 v1 nv1 cv1 k1 ns1 cs1 d1 nd1 cd1 M1 V1 S1 U1) (hF:Aw w.heap.size w) :
 Calls Tryz.prog 4 #[.agg #[.bool up1,iT q1,.slice m1 nm1 cm1,.slice v1 nv1 cv1,.slice k1 ns1 cs1,.string lg1,iT sf1,.slice d1 nd1 cd1,iT sd1],iT kp] w fun e w'=>e=.returned (.bool true)∧Bl w w':=by
 obtain ⟨hl,hT⟩:=w0;have hwf:=hT.tree.snaps.wfs;obtain ⟨P,k,hw⟩:=kh lg1.data.toList.length lg1.data.toList (Nat.le_refl _);cases hok:js up1 q1 M1 V1 S1 lg1 sf1 sd1 U1 P k with
 | false =>
  refine walkGStoreFall up1 q1 m1 nm1 cm1 v1 nv1 cv1 k1 ns1 cs1 lg1 sf1 d1 nd1 cd1 sd1 M1 V1 S1 U1 kp false 0 [] [] [] ⟨#[]⟩ 0 0 [] w hl hT (fun hs=>?_);have hlg:lg1.size≤1048576:=by have:=hs.1;omega
  have ho:=hs.outS;refine ⟨fun a b c d w' kk hS=>?_,fun a b c d w' kk hS=>?_,?_,?_⟩
  · exact (gg up1 q1 a c (pT b) (pT d) nm1 nm1 nv1 nv1 ns1 ns1 nd1 nd1 M1 V1 S1 lg1 sf1 sd1 U1 P k kp 0 w' hS.tree hS.disk hlg hw (fun h=>by rw [hok] at h;cases h)).mono (fun e w'' h=>h.1 hok)
  · exact iX up1 q1 (pT a) (pT b) (pT c) (pT d) nm1 nm1 nv1 nv1 ns1 ns1 nd1 nd1 lg1 sf1 sd1 kp false 0 [] [] [] ⟨#[]⟩ 0 0 [] w' (fun w2 k2=>(jW up1 q1 (pT a) (pT b) (pT c) (pT d) nm1 nm1 nv1 nv1 ns1 ns1 nd1 nd1 M1 V1 S1 lg1 sf1 sd1 U1 P k kp 0 w2 (hS.tree.keep k2) (hS.disk.keep k2) hlg (hF.at (kk.trans (k2.mono kk.size))).e (hF.at (kk.trans (k2.mono kk.size))).t hw ho (fun h=>by rw [hok] at h;cases h)).mono (fun e w'' h=>h.1 hok))
  · exact eT (by simp) (by simp [kg]) (by simp) (by simp [kg])
  · exact fun z hz=>by cases hz
 | true =>
  have hD:=ia hok;obtain ⟨N,hN⟩:=AP (lg:=lg1) (sf:=sf1) kp hD.2.2.1 hD.2.2.2;cases up1 with
  | true =>
   refine walkGStoreFall true q1 m1 nm1 cm1 v1 nv1 cv1 k1 ns1 cs1 lg1 sf1 d1 nd1 cd1 sd1 M1 V1 S1 U1 kp false 0 [] [] [] (lg1.extract 0 N) (N:Int) sd1 U1 w hl hT (fun hs=>?_);have hlg:lg1.size≤1048576:=by have:=hs.1;omega
   have ho:=hs.outS;refine ⟨fun a b c d w' kk hS=>?_,fun a b c d w' kk hS=>?_,?_,?_⟩
   · exact (gg true q1 a c (pT b) (pT d) nm1 nm1 nv1 nv1 ns1 ns1 nd1 nd1 M1 V1 S1 lg1 sf1 sd1 U1 P k kp N w' hS.tree hS.disk hlg hw (fun _=>hN)).mono (fun e w'' h=>h.2.1 hok rfl)
   · exact iX true q1 (pT a) (pT b) (pT c) (pT d) nm1 nm1 nv1 nv1 ns1 ns1 nd1 nd1 lg1 sf1 sd1 kp false 0 [] [] [] (lg1.extract 0 N) (N:Int) sd1 U1 w' (fun w2 k2=>(jW true q1 (pT a) (pT b) (pT c) (pT d) nm1 nm1 nv1 nv1 ns1 ns1 nd1 nd1 M1 V1 S1 lg1 sf1 sd1 U1 P k kp N w2 (hS.tree.keep k2) (hS.disk.keep k2) hlg (hF.at (kk.trans (k2.mono kk.size))).e (hF.at (kk.trans (k2.mono kk.size))).t hw ho (fun _=>hN)).mono (fun e w'' h=>h.2.1 hok rfl))
   · exact eT (by simp) (by simp [kg]) (by simp) (by have:=hs.1;omega)
   · exact fun z hz=>by cases hz
  | false =>
   refine walkGStoreFall false q1 m1 nm1 cm1 v1 nv1 cv1 k1 ns1 cs1 lg1 sf1 d1 nd1 cd1 sd1 M1 V1 S1 U1 kp false 0 [] [] [] lg1 sf1 sd1 U1 w hl hT (fun hs=>?_);have hlg:lg1.size≤1048576:=by have:=hs.1;omega
   have ho:=hs.outS;refine ⟨fun a b c d w' kk hS=>?_,fun a b c d w' kk hS=>?_,?_,?_⟩
   · exact (gg false q1 a c (pT b) (pT d) nm1 nm1 nv1 nv1 ns1 ns1 nd1 nd1 M1 V1 S1 lg1 sf1 sd1 U1 P k kp N w' hS.tree hS.disk hlg hw (fun _=>hN)).mono (fun e w'' h=>h.2.2 hok rfl)
   · exact iX false q1 (pT a) (pT b) (pT c) (pT d) nm1 nm1 nv1 nv1 ns1 ns1 nd1 nd1 lg1 sf1 sd1 kp false 0 [] [] [] lg1 sf1 sd1 U1 w' (fun w2 k2=>(jW false q1 (pT a) (pT b) (pT c) (pT d) nm1 nm1 nv1 nv1 ns1 ns1 nd1 nd1 M1 V1 S1 lg1 sf1 sd1 U1 P k kp N w2 (hS.tree.keep k2) (hS.disk.keep k2) hlg (hF.at (kk.trans (k2.mono kk.size))).e (hF.at (kk.trans (k2.mono kk.size))).t hw ho (fun _=>hN)).mono (fun e w'' h=>h.2.2 hok rfl))
   · exact eT (by simp) (by simp [kg]) (by simp) (by have:=hs.1;omega)
   · exact fun z hz=>by cases hz
end Go.Proofs.YtgpcinihgofmfaaGreatDoor
