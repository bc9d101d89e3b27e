/-
  The walk of the law FnExactStoreOpen: it answers true at every store.
-/
import Derived.Test.YtgpcinihgofmfaaGreatDoorStXWGStoreOpen
import Derived.Test.YtgpcinihgofmfaaGreatDoorStXSpOpen
import Derived.Test.YtgpcinihgofmfaaGreatDoorStXImOpen
import Derived.Test.YtgpcinihgofmfaaGreatDoorSt45
namespace Go.Proofs.YtgpcinihgofmfaaGreatDoor
open Go.RowKit
set_option maxRecDepth 100000
set_option maxHeartbeats 4000000
theorem iR (up1:Bool) (q1:Int) (m1:Option Addr) (nm1 cm1:Nat) (v1:Option Addr) (nv1 cv1:Nat) (k1:Option Addr) (ns1 cs1:Nat) (lg1:ByteArray) (sf1:Int) (d1:Option Addr) (nd1 cd1:Nat) (sd1:Int) (M1:List ae) (V1:List (List aj)) (S1:List Int) (U1:List (List aj)) (w:World) (w0:lg1.size≤maxLen∧bg 0 w m1 nm1 cm1 v1 nv1 cv1 k1 ns1 cs1 d1 nd1 cd1 M1 V1 S1 U1) (hF:Aw w.heap.size w) :
 Calls Tryz.prog 5 #[.agg #[.bool up1,iT q1,.slice m1 nm1 cm1,.slice v1 nv1 cv1,.slice k1 ns1 cs1,.string lg1,iT sf1,.slice d1 nd1 cd1,iT sd1]] w fun e w'=>e=.returned (.bool true)∧Bl w w':=by
 obtain ⟨hl,hT⟩:=w0;have hwf:=hT.tree.snaps.wfs;obtain ⟨P,k,hw⟩:=kh lg1.data.toList.length lg1.data.toList (Nat.le_refl _);cases hok:js up1 q1 M1 V1 S1 lg1 sf1 sd1 U1 P k with
 | false =>
  refine walkGStoreOpen up1 q1 m1 nm1 cm1 v1 nv1 cv1 k1 ns1 cs1 lg1 sf1 d1 nd1 cd1 sd1 M1 V1 S1 U1 false 0 [] [] [] ⟨#[]⟩ 0 0 [] w hl hT (fun hs=>?_);have hlg:lg1.size≤1048576:=by have:=hs.1;omega
  have ho:=hs.outS;refine ⟨fun a b c d w' kk hS=>?_,fun a b c d w' kk hS=>?_,?_,?_⟩
  · exact (ge up1 q1 a c (pT b) (pT d) nm1 nm1 nv1 nv1 ns1 ns1 nd1 nd1 M1 V1 S1 lg1 sf1 sd1 U1 P k w' hS.tree hS.disk hlg hw).mono (fun e w'' h=>h.1 hok)
  · exact (gu up1 q1 (pT a) (pT b) (pT c) (pT d) nm1 nm1 nv1 nv1 ns1 ns1 nd1 nd1 M1 V1 S1 lg1 sf1 sd1 U1 P k w' hS.tree hS.disk hlg (hF.at kk).e (hF.at kk).t hw ho).mono (fun e w'' h=>h.1 hok)
  · exact eT (by simp) (by simp [kg]) (by simp) (by simp [kg])
  · exact fun z hz=>by cases hz
 | true =>
  cases up1 with
  | true =>
   refine walkGStoreOpen true q1 m1 nm1 cm1 v1 nv1 cv1 k1 ns1 cs1 lg1 sf1 d1 nd1 cd1 sd1 M1 V1 S1 U1 true q1 M1 V1 S1 lg1 sf1 sd1 U1 w hl hT (fun hs=>?_);have hlg:lg1.size≤1048576:=by have:=hs.1;omega
   have ho:=hs.outS;refine ⟨fun a b c d w' kk hS=>?_,fun a b c d w' kk hS=>?_,?_,?_⟩
   · exact (ge true q1 a c (pT b) (pT d) nm1 nm1 nv1 nv1 ns1 ns1 nd1 nd1 M1 V1 S1 lg1 sf1 sd1 U1 P k w' hS.tree hS.disk hlg hw).mono (fun e w'' h=>h.2.1 hok rfl)
   · exact (gu true q1 (pT a) (pT b) (pT c) (pT d) nm1 nm1 nv1 nv1 ns1 ns1 nd1 nd1 M1 V1 S1 lg1 sf1 sd1 U1 P k w' hS.tree hS.disk hlg (hF.at kk).e (hF.at kk).t hw ho).mono (fun e w'' h=>h.2.1 hok rfl)
   · exact eT (by have:=hs.1;omega) (by have:=hs.1;omega) (by have:=hs.1;omega) (by have:=hs.1;omega)
   · exact hwf
  | false =>
   refine walkGStoreOpen false q1 m1 nm1 cm1 v1 nv1 cv1 k1 ns1 cs1 lg1 sf1 d1 nd1 cd1 sd1 M1 V1 S1 U1 true (bc sd1 P) (bw (P.map (aP sd1)).flatten) U1 [] (gL sd1 P) ((gL sd1 P).size:Int) sd1 U1 w hl hT (fun hs=>?_);have hlg:lg1.size≤1048576:=by have:=hs.1;omega
   have ho:=hs.outS;refine ⟨fun a b c d w' kk hS=>?_,fun a b c d w' kk hS=>?_,?_,?_⟩
   · exact (ge false q1 a c (pT b) (pT d) nm1 nm1 nv1 nv1 ns1 ns1 nd1 nd1 M1 V1 S1 lg1 sf1 sd1 U1 P k w' hS.tree hS.disk hlg hw).mono (fun e w'' h=>h.2.2 hok rfl)
   · exact (gu false q1 (pT a) (pT b) (pT c) (pT d) nm1 nm1 nv1 nv1 ns1 ns1 nd1 nd1 M1 V1 S1 lg1 sf1 sd1 U1 P k w' hS.tree hS.disk hlg (hF.at kk).e (hF.at kk).t hw ho).mono (fun e w'' h=>h.2.2 hok rfl)
   · exact eT (by rw [qS];have h1:=kJ sd1 P;have h2:=fU P;have h3:=ow hw;omega) (by have:=hs.1;omega) (by simp) (by have:=hs.1;omega)
   · exact fun z hz=>by cases hz
end Go.Proofs.YtgpcinihgofmfaaGreatDoor
