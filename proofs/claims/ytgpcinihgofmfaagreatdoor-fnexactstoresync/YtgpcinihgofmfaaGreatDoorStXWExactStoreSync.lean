/-
  The walk of the law FnExactStoreSync: it answers true at every store.
-/
import Derived.Test.YtgpcinihgofmfaaGreatDoorStXWGStoreSync
import Derived.Test.YtgpcinihgofmfaaGreatDoorStXSpSync
import Derived.Test.YtgpcinihgofmfaaGreatDoorStXImSy
import Derived.Test.YtgpcinihgofmfaaGreatDoorSt45
namespace Go.Proofs.YtgpcinihgofmfaaGreatDoor
open Go.RowKit
set_option maxRecDepth 100000
set_option maxHeartbeats 4000000
theorem iQ (up1:Bool) (q1:Int) (m1:Option Addr) (nm1 cm1:Nat) (v1:Option Addr) (nv1 cv1:Nat) (k1:Option Addr) (ns1 cs1:Nat) (lg1:ByteArray) (sf1:Int) (d1:Option Addr) (nd1 cd1:Nat) (sd1:Int) (M1:List ae) (V1:List (List aj)) (S1:List Int) (U1:List (List aj)) (w:World) (w0:lg1.size≤maxLen∧bg 0 w m1 nm1 cm1 v1 nv1 cv1 k1 ns1 cs1 d1 nd1 cd1 M1 V1 S1 U1) (hF:Aw w.heap.size w) :
 Calls Tryz.prog 3 #[.agg #[.bool up1,iT q1,.slice m1 nm1 cm1,.slice v1 nv1 cv1,.slice k1 ns1 cs1,.string lg1,iT sf1,.slice d1 nd1 cd1,iT sd1]] w fun e w'=>e=.returned (.bool true)∧Bl w w':=by
 obtain ⟨hl,hT⟩:=w0;have hwf:=hT.tree.snaps.wfs;obtain ⟨P,k,hw⟩:=kh lg1.data.toList.length lg1.data.toList (Nat.le_refl _);cases hok:js up1 q1 M1 V1 S1 lg1 sf1 sd1 U1 P k with
 | false =>
  refine walkGStoreSync up1 q1 m1 nm1 cm1 v1 nv1 cv1 k1 ns1 cs1 lg1 sf1 d1 nd1 cd1 sd1 M1 V1 S1 U1 false 0 [] [] [] ⟨#[]⟩ 0 0 [] w hl hT (fun hs=>?_);have hlg:lg1.size≤1048576:=by have:=hs.1;omega
  have ho:=hs.outS;refine ⟨fun a b c d w' kk hS=>?_,fun a b c d w' kk hS=>?_,?_,?_⟩
  · exact (gc up1 q1 a c (pT b) (pT d) nm1 nm1 nv1 nv1 ns1 ns1 nd1 nd1 M1 V1 S1 lg1 sf1 sd1 U1 P k w' hS.tree hS.disk hlg hw).mono (fun e w'' h=>h.1 hok)
  · exact iW up1 q1 (pT a) (pT b) (pT c) (pT d) nm1 nm1 nv1 nv1 ns1 ns1 nd1 nd1 lg1 sf1 sd1 false 0 [] [] [] ⟨#[]⟩ 0 0 [] false w' (fun w2 k2=>(jV up1 q1 (pT a) (pT b) (pT c) (pT d) nm1 nm1 nv1 nv1 ns1 ns1 nd1 nd1 M1 V1 S1 lg1 sf1 sd1 U1 P k w2 (hS.tree.keep k2) (hS.disk.keep k2) hlg (hF.at (kk.trans (k2.mono kk.size))).e (hF.at (kk.trans (k2.mono kk.size))).t hw ho).mono (fun e w'' h=>h.1 hok))
  · exact eT (by simp) (by simp [kg]) (by simp) (by simp [kg])
  · exact fun z hz=>by cases hz
 | true =>
  cases up1 with
  | true =>
   refine walkGStoreSync true q1 m1 nm1 cm1 v1 nv1 cv1 k1 ns1 cs1 lg1 sf1 d1 nd1 cd1 sd1 M1 V1 S1 U1 true q1 M1 V1 S1 lg1 (lg1.size:Int) sd1 U1 w hl hT (fun hs=>?_);have hlg:lg1.size≤1048576:=by have:=hs.1;omega
   have ho:=hs.outS;refine ⟨fun a b c d w' kk hS=>?_,fun a b c d w' kk hS=>?_,?_,?_⟩
   · exact (gc true q1 a c (pT b) (pT d) nm1 nm1 nv1 nv1 ns1 ns1 nd1 nd1 M1 V1 S1 lg1 sf1 sd1 U1 P k w' hS.tree hS.disk hlg hw).mono (fun e w'' h=>h.2.1 hok rfl)
   · exact iW true q1 (pT a) (pT b) (pT c) (pT d) nm1 nm1 nv1 nv1 ns1 ns1 nd1 nd1 lg1 sf1 sd1 true q1 M1 V1 S1 lg1 (lg1.size:Int) sd1 U1 true w' (fun w2 k2=>(jV true q1 (pT a) (pT b) (pT c) (pT d) nm1 nm1 nv1 nv1 ns1 ns1 nd1 nd1 M1 V1 S1 lg1 sf1 sd1 U1 P k w2 (hS.tree.keep k2) (hS.disk.keep k2) hlg (hF.at (kk.trans (k2.mono kk.size))).e (hF.at (kk.trans (k2.mono kk.size))).t hw ho).mono (fun e w'' h=>h.2.1 hok rfl))
   · exact eT (by have:=hs.1;omega) (by have:=hs.1;omega) (by have:=hs.1;omega) (by have:=hs.1;omega)
   · exact hwf
  | false =>
   refine walkGStoreSync false q1 m1 nm1 cm1 v1 nv1 cv1 k1 ns1 cs1 lg1 sf1 d1 nd1 cd1 sd1 M1 V1 S1 U1 false 0 [] [] [] lg1 sf1 sd1 U1 w hl hT (fun hs=>?_);have hlg:lg1.size≤1048576:=by have:=hs.1;omega
   have ho:=hs.outS;refine ⟨fun a b c d w' kk hS=>?_,fun a b c d w' kk hS=>?_,?_,?_⟩
   · exact (gc false q1 a c (pT b) (pT d) nm1 nm1 nv1 nv1 ns1 ns1 nd1 nd1 M1 V1 S1 lg1 sf1 sd1 U1 P k w' hS.tree hS.disk hlg hw).mono (fun e w'' h=>h.2.2 hok rfl)
   · exact iW false q1 (pT a) (pT b) (pT c) (pT d) nm1 nm1 nv1 nv1 ns1 ns1 nd1 nd1 lg1 sf1 sd1 false 0 [] [] [] lg1 sf1 sd1 U1 false w' (fun w2 k2=>(jV false q1 (pT a) (pT b) (pT c) (pT d) nm1 nm1 nv1 nv1 ns1 ns1 nd1 nd1 M1 V1 S1 lg1 sf1 sd1 U1 P k w2 (hS.tree.keep k2) (hS.disk.keep k2) hlg (hF.at (kk.trans (k2.mono kk.size))).e (hF.at (kk.trans (k2.mono kk.size))).t hw ho).mono (fun e w'' h=>h.2.2 hok rfl))
   · exact eT (by simp) (by simp [kg]) (by simp) (by have:=hs.1;omega)
   · exact fun z hz=>by cases hz
end Go.Proofs.YtgpcinihgofmfaaGreatDoor
