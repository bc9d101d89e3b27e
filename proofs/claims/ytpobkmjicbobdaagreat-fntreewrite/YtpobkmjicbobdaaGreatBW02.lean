/- Walks. -/
import Derived.Deep.LoopGhost
import Derived.Test.YtpobkmjicbobdaaGreatBW01
import Derived.Deep.CutBlock
namespace Go.Proofs.YtpobkmjicbobdaaGreat
set_option maxRecDepth 100000
set_option maxHeartbeats 40000000
open Go.RowKit
theorem om (a:Option Addr) (len g:Nat) (L:List ac) (w:World) (hL:ah w a len g L) :
 Calls Tryz.prog 201 #[.slice a len g] w fun e w'=>e=.returned (iT ((dL L:Nat):Int))∧Bl w w':=by
 have f:Eq (L.length=len):=hL.length;have D:=hL.room;have y:=hL.big;unfold maxLen at y;have C:=az hL;clear hL;go_enter Tryz.func201,Tryz.ntmps201
 go_wp2;go_loopw [3,4] (fun m i wr=>∃k p:Nat,k≤len∧i=iT k∧m=iT p∧p<65536∧Bl w wr∧p=dL (L.take k)) (fun _ i _=>len - (intOf i).toNat)
 case atStart=>exact ⟨0,0,GQ _,rfl,rfl,by omega,Below.refl _ _,rfl⟩
 case round =>
  obtain ⟨k,p,hk,rfl,rfl,hp,hb,hm⟩:=hrel;have B:Eq (p=dL (L.take k)):=hm;clear hm;by_cases x:k<len
  · obtain ⟨b,H,rfl,A⟩:=C.o.form (by omega);obtain ⟨s,q,d,t,n,hg,u,O,R,N,U,Q⟩:=C.o.ent hb A k x;have E:Eq (L[k]?=some (s,q,d,t,n)):=hg;have hs:=u.1;simp only at hs;clear hg u;obtain ⟨z,hz⟩:=aG (iM s);have r:z<65536:=by rw [hz];exact qN s
    have I:Eq (∀w,Calls Tryz.prog 237 #[.string s] w fun e w'=>e=.returned (iT (z:Int))∧w'=w):=by rw [hz];exact fun w=>Cq s w hs
    have F:Eq (∀w,Calls Tryz.prog 236 #[iT p,iT z] w fun e w'=>e=.returned (iT ((p ||| z:Nat):Int))∧w'=w):=fun w=>Co p z w hp r
    have J:Eq (p ||| z=dL (L.take (k+1))):=by
     show p ||| z=dL (L.take (k+1))
     rw [qL E.o,← B.o,hz]
    clear hz;go_wp2_with (first | (go_at_call 237;refine (I.o _).mono ?_;rintro e K ⟨rfl,rfl⟩) | (go_at_call 236;refine (F.o _).mono ?_;rintro e T ⟨rfl,rfl⟩))
    go_roundw
    case rel=>exact ⟨k+1,p ||| z,by omega,by go_num,rfl,jd hp r,hb,J.o⟩
    case measure=>simp [intOf];omega
  · go_wp2;go_ret;refine ⟨mV ?_,hb⟩;have:=B.o;rw [GV (by rw [f.o];omega)] at this;rw [this]
theorem A5 (a:Option Addr) (len g:Nat) (L:List ac) (w:World) (hL:ah w a len g L) :
 Calls Tryz.prog 219 #[.slice a len g] w fun e w'=>e=.returned (iT ((dL L:Nat):Int))∧Bl w w':=by
 have f:Eq (L.length=len):=hL.length;have F:=hL.room;have A:=hL.big;unfold maxLen at A;have E:=az hL;clear hL;go_enter Tryz.func219,Tryz.ntmps219
 go_wp2;go_loopw [3,8] (fun m i wr=>∃k p:Nat,k≤len∧i=iT k∧m=iT p∧p<65536∧Bl w wr∧p=dL (L.take k)) (fun _ i _=>len - (intOf i).toNat)
 case atStart=>exact ⟨0,0,GQ _,rfl,rfl,by omega,Below.refl _ _,rfl⟩
 case round =>
  obtain ⟨k,p,hk,rfl,rfl,hp,hb,hm⟩:=hrel;have D:Eq (p=dL (L.take k)):=hm;clear hm;by_cases y:k<len
  · obtain ⟨b,I,rfl,B⟩:=E.o.form (by omega);obtain ⟨s,q,d,t,n,hg,x,T,W,R,X,U⟩:=E.o.ent hb B k y;have H:Eq (L[k]?=some (s,q,d,t,n)):=hg;have hs:=x.1;simp only at hs;clear hg x;obtain ⟨z,hz⟩:=aG (iM s);have r:z<65536:=by rw [hz];exact qN s
    have J:Eq (∀w,Calls Tryz.prog 244 #[.string s] w fun e w'=>e=.returned (iT (z:Int))∧Bl w w'):=by rw [hz];exact fun w=>Dw s w hs
    have K:Eq (p ||| z=dL (L.take (k+1))):=by
     show p ||| z=dL (L.take (k+1))
     rw [qL H.o,← D.o,hz]
    have C:=z7 p z hp r;clear hz;go_wp2_with (go_at_call 244;refine (J.o _).mono ?_;rintro e Q ⟨rfl,u⟩;obtain ⟨O,N⟩:=xe u)
    go_roundw
    case rel=>exact ⟨k+1,p ||| z,by omega,by go_num,by rw [← C],jd hp r,(hb.alloc (by have:=hb.size;omega) _).trans (u.mono (by have:=hb.size;simp;omega)),K.o⟩
    case measure=>simp [intOf];omega
  · go_wp2;go_ret;refine ⟨mV ?_,hb⟩;have:=D.o;rw [GV (by rw [f.o];omega)] at this;rw [this]
end Go.Proofs.YtpobkmjicbobdaaGreat
namespace Go.Proofs.YtpobkmjicbobdaaGreat
open Go.RowKit
set_option maxRecDepth 100000
set_option maxHeartbeats 1000000
theorem ln (a:Option Addr) (len Q:Nat) (L:List ac) (w:World) (hL:ah w a len Q L) :
 Calls Tryz.prog 87 #[.slice a len Q] w fun e w'=>e=.returned (.bool (aI L))∧Bl w w':=by
 have u:Eq (L.length=len):=hL.length;have ai:=hL.room;have a3:=hL.big;unfold maxLen at a3;have HL:=az hL;clear hL;go_enter Tryz.func87,Tryz.ntmps87
 go_wp2;go_loopw [3] (fun i wr=>∃k:Nat,k≤len∧i=iT k∧Bl w wr∧jR L k) (fun i _=>len - (intOf i).toNat)
 case atStart=>exact ⟨0,GQ _,rfl,Below.refl _ _,fun j hj=>absurd hj (H7 _)⟩
 case round =>
  obtain ⟨k,hk,rfl,hb,D⟩:=hrel;have x:Eq (jR L k):=D;clear D;by_cases F:k<len
  · obtain ⟨b,f,rfl,y⟩:=HL.o.form (by omega);obtain ⟨s,q,d,t,n,hg,E,Y,Z,X,g3,T⟩:=HL.o.ent hb y k F;have HG:Eq (L[k]?=some (s,q,d,t,n)):=hg;have hs:=E.1;have ht:=E.2.2.2.1;simp only at hs ht;clear hg E;cases hv:dM s q d t n with
    | false =>
     have CE:Eq (∀w,Calls Tryz.prog 143 #[.agg #[.string s,iT q,iT d,.string t,iT n]] w fun e w'=>e=.returned (.bool false)∧Bl w w'):=by rw [← hv];exact fun w=>ul s t q d n w hs ht
     go_wp2_with fail
     have A:Bl wr wr.drew:=(Below.refl _ wr).drew;have C:b<wr.heap.size:=E' y hb.size;have m:Eq (∀w',Bl wr w'→(w'.cell? ⟨b,f+k*5,none⟩=some (.string s)∧w'.cell? ⟨b,f+k*5+1,none⟩=some (iT q)∧w'.cell? ⟨b,f+k*5+2,none⟩=some (iT d)∧w'.cell? ⟨b,f+k*5+3,none⟩=some (.string t)∧w'.cell? ⟨b,f+k*5+4,none⟩=some (iT n)∧b<w'.heap.size)):=fun w' g=>⟨cell_later g Y,cell_later g Z,cell_later g X,cell_later g g3,cell_later g T,E' C g.size⟩
     refine eJ m A fun r=>?_
     refine aR 0 4 r ?_;refine aV 4 fun K hK=>?_
     go_simp;refine (CE.o _).mono ?_;rintro e w1 ⟨rfl,b1⟩;have k1:Bl wr w1:=A.trans (b1.mono A.size);go_wp2_with fail
     refine hK.o _ _ (m.o _ k1) fun r=>?_
     (try go_frame);refine aR 5 14 r ?_;refine aV 19 fun K hK=>?_
     go_simp;refine hK.o _ _ (m.o _ k1) fun r=>?_
     (try go_frame);refine aR 20 3 r ?_;refine dN ?_;go_wp2;go_ret;exact ⟨aj (mU (by rw [u.o];exact F) (qG HG.o hv)).symm,hb.trans (k1.mono hb.size)⟩
    | true =>
     have CE:Eq (∀w,Calls Tryz.prog 143 #[.agg #[.string s,iT q,iT d,.string t,iT n]] w fun e w'=>e=.returned (.bool true)∧Bl w w'):=by rw [← hv];exact fun w=>ul s t q d n w hs ht
     by_cases ad:k=0
     · subst ad;simp only [I3,Ik] at Y Z X g3 T;go_wp2_with fail
       have A:Bl wr wr.drew:=(Below.refl _ wr).drew;have C:b<wr.heap.size:=E' y hb.size;have m:Eq (∀w',Bl wr w'→(w'.cell? ⟨b,f,none⟩=some (.string s)∧w'.cell? ⟨b,f+1,none⟩=some (iT q)∧w'.cell? ⟨b,f+2,none⟩=some (iT d)∧w'.cell? ⟨b,f+3,none⟩=some (.string t)∧w'.cell? ⟨b,f+4,none⟩=some (iT n)∧b<w'.heap.size)):=fun w' g=>⟨cell_later g Y,cell_later g Z,cell_later g X,cell_later g g3,cell_later g T,E' C g.size⟩
       refine eJ m A fun r=>?_
       refine aR 0 4 r ?_;refine aV 4 fun K hK=>?_
       go_simp;refine (CE.o _).mono ?_;rintro e w1 ⟨rfl,b1⟩;have k1:Bl wr w1:=A.trans (b1.mono A.size);go_wp2_with fail
       refine hK.o _ _ (m.o _ k1) fun r=>?_
       (try go_frame);refine aR 5 14 r ?_;refine aV 19 fun K hK=>?_
       go_simp;refine hK.o _ _ (m.o _ k1) fun r=>?_
       (try go_frame);refine aR 20 3 r ?_;refine dN ?_;go_wp2;go_roundw
       case rel=>exact ⟨1,by omega,by go_num,hb.trans (k1.mono hb.size),jA x.o (by rw [lE HG.o];exact hv)⟩
       case measure=>simp [intOf];omega
     · obtain ⟨j,rfl⟩:∃j,k=j+1:=⟨k - 1,by omega⟩;obtain ⟨J,I,U,R,W,O,N,a2,ab,ae,af,a5⟩:=HL.o.ent hb y j (by omega);have a9:Eq (L[j]?=some (J,I,U,R,W)):=O;clear O N;obtain ⟨B,hB⟩:=aG (bI J I s q);have CL:Eq (∀w,Calls Tryz.prog 144 #[.agg #[.string J,iT I,iT U,.string R,iT W],.agg #[.string s,iT q,iT d,.string t,iT n]] w fun e w'=>e=.returned (.bool B)∧Bl w w'):=by rw [hB];exact fun w=>vx J R s t I U W q d n w
       have H:Eq (mt L (j+1)=B):=by
        show mt L (j+1)=B
        rw [je HG.o a9.o,hB,hv];rfl
       clear hB;have an:(0:Int)≤(j:Int)+1:=by omega
       have ag:(0:Int)<(j:Int)+1:=by omega
       have ak:(j:Int)<(len:Int):=by omega
       have wj:IntKind.i64.wrap (j:Int)=(j:Int):=by rw [G4];unfold wrap64;omega
       go_wp2_with fail
       have A:Bl wr wr.drew:=(Below.refl _ wr).drew;have C:b<wr.heap.size:=E' y hb.size;have m:Eq (∀w',Bl wr w'→(w'.cell? ⟨b,f+j*5,none⟩=some (.string J)∧w'.cell? ⟨b,f+j*5+1,none⟩=some (iT I)∧w'.cell? ⟨b,f+j*5+2,none⟩=some (iT U)∧w'.cell? ⟨b,f+j*5+3,none⟩=some (.string R)∧w'.cell? ⟨b,f+j*5+4,none⟩=some (iT W)∧w'.cell? ⟨b,f+(j+1)*5,none⟩=some (.string s)∧w'.cell? ⟨b,f+(j+1)*5+1,none⟩=some (iT q)∧w'.cell? ⟨b,f+(j+1)*5+2,none⟩=some (iT d)∧w'.cell? ⟨b,f+(j+1)*5+3,none⟩=some (.string t)∧w'.cell? ⟨b,f+(j+1)*5+4,none⟩=some (iT n)∧b<w'.heap.size)):=fun w' g=>⟨cell_later g a2,cell_later g ab,cell_later g ae,cell_later g af,cell_later g a5,cell_later g Y,cell_later g Z,cell_later g X,cell_later g g3,cell_later g T,E' C g.size⟩
       refine eJ m A fun r=>?_
       refine aR 0 4 r ?_;refine aV 4 fun K hK=>?_
       go_simp;refine (CE.o _).mono ?_;rintro e w1 ⟨rfl,b1⟩;have k1:Bl wr w1:=A.trans (b1.mono A.size);go_wp2_with fail
       refine hK.o _ _ (m.o _ k1) fun r=>?_
       (try go_frame);refine aR 5 14 r ?_;refine aV 19 fun K hK=>?_
       go_simp;refine (CL.o _).mono ?_;rintro e w2 ⟨rfl,b2⟩;have k2:Bl wr w2:=k1.trans (b2.mono k1.size);go_wp2_with fail
       refine hK.o _ _ (m.o _ k2) fun r=>?_
       (try go_frame);refine aR 20 3 r ?_;refine dN ?_;cases B with
       | true =>
        go_wp2;go_roundw
        case rel=>exact ⟨j+1+1,by omega,by go_num,hb.trans (k2.mono hb.size),jA x.o H.o⟩
        case measure=>simp [intOf];omega
       | false =>
        go_wp2;go_ret;exact ⟨aj (mU (by rw [u.o];exact F) H.o).symm,hb.trans (k2.mono hb.size)⟩
  · go_wp2;go_ret;exact ⟨aj (mT x.o (by rw [u.o];omega)).symm,hb⟩
end Go.Proofs.YtpobkmjicbobdaaGreat
namespace Go.Proofs.YtpobkmjicbobdaaGreat
open Go.RowKit
set_option maxRecDepth 100000
set_option maxHeartbeats 1000000
theorem oM (a:Option Addr) (len a2:Nat) (L:List ac) (w:World) (hL:ah w a len a2 L) :
 Calls Tryz.prog 188 #[.slice a len a2] w fun e w'=>e=.returned (.bool (aI L))∧Bl w w':=by
 have A:Eq (L.length=len):=hL.length;have an:=hL.room;have a8:=hL.big;unfold maxLen at a8;have HL:=az hL;clear hL;go_enter Tryz.func188,Tryz.ntmps188
 go_wp2;go_loopw [7] (fun i wr=>∃k:Nat,k≤len∧i=iT k∧Bl w wr∧jR L k) (fun i _=>len - (intOf i).toNat)
 case atStart=>exact ⟨0,GQ _,rfl,Below.refl _ _,fun j hj=>absurd hj (H7 _)⟩
 case round =>
  obtain ⟨k,hk,rfl,hb,I⟩:=hrel;have C:Eq (jR L k):=I;clear I;by_cases J:k<len
  · obtain ⟨b,H,rfl,D⟩:=HL.o.form (by omega);obtain ⟨s,q,d,t,n,hg,T,g0,g1,g2,g3,g4⟩:=HL.o.ent hb D k J;have HG:Eq (L[k]?=some (s,q,d,t,n)):=hg;have hs:=T.1;simp only at hs;clear hg T;cases hv:dM s q d t n with
    | false =>
     have CE:Eq (∀w,Calls Tryz.prog 33 #[.agg #[.string s,iT q,iT d,.string t,iT n]] w fun e w'=>e=.returned (.bool false)∧Bl w w'):=by rw [← hv];exact fun w=>uE s t q d n w hs
     go_wp2_with fail
     obtain ⟨X,m⟩:=aG wr.heap.size;obtain ⟨W,g⟩:=aG (wr.alloc (.cells #[.string s,iT q,iT d,.string t,iT n] 50));have x0:W.cell? ⟨X,0,none⟩=some (.string s):=by rw [g,m];simp
     have x1:W.cell? ⟨X,1,none⟩=some (iT q):=by rw [g,m];simp
     have R:W.cell? ⟨X,2,none⟩=some (iT d):=by rw [g,m];simp
     have Q:W.cell? ⟨X,3,none⟩=some (.string t):=by rw [g,m];simp
     have Z:W.cell? ⟨X,4,none⟩=some (iT n):=by rw [g,m];simp
     have y:Bl wr W:=by rw [g];exact bZ
     have F:b<wr.heap.size:=E' D hb.size;have N:b<W.heap.size:=E' F y.size;have u:Eq (Bl w W):=hb.trans (y.mono hb.size);rw [← g,← m];clear g m y;have E:Bl W W.drew:=(Below.refl _ W).drew;have r:Eq (∀w',Bl W w'→(w'.cell? ⟨X,0,none⟩=some (.string s)∧w'.cell? ⟨X,1,none⟩=some (iT q)∧w'.cell? ⟨X,2,none⟩=some (iT d)∧w'.cell? ⟨X,3,none⟩=some (.string t)∧w'.cell? ⟨X,4,none⟩=some (iT n)∧X<w'.heap.size)):=fun w' f=>⟨cell_later f x0,cell_later f x1,cell_later f R,cell_later f Q,cell_later f Z,GK _ _ (cell_later f x0)⟩
     refine eJ r E fun x=>?_
     refine aR 0 1 x ?_;refine aV 1 fun K hK=>?_
     go_simp;refine (CE.o _).mono ?_;rintro e w1 ⟨rfl,b1⟩;have k1:Bl W w1:=E.trans (b1.mono E.size);go_wp2_with fail
     refine hK.o _ _ (r.o _ k1) fun x=>?_
     (try go_frame);refine aR 2 11 x ?_;refine aV 13 fun K hK=>?_
     go_simp;refine hK.o _ _ (r.o _ k1) fun x=>?_
     (try go_frame);refine aR 14 3 x ?_;refine dN ?_;go_wp2;go_ret;exact ⟨aj (mU (by rw [A.o];exact J) (qG HG.o hv)).symm,u.o.trans (k1.mono u.o.size)⟩
    | true =>
     have CE:Eq (∀w,Calls Tryz.prog 33 #[.agg #[.string s,iT q,iT d,.string t,iT n]] w fun e w'=>e=.returned (.bool true)∧Bl w w'):=by rw [← hv];exact fun w=>uE s t q d n w hs
     by_cases ai:k=0
     · subst ai;simp only [I3,Ik] at g0 g1 g2 g3 g4;go_wp2_with fail
       obtain ⟨X,m⟩:=aG wr.heap.size;obtain ⟨W,g⟩:=aG (wr.alloc (.cells #[.string s,iT q,iT d,.string t,iT n] 50));have x0:W.cell? ⟨X,0,none⟩=some (.string s):=by rw [g,m];simp
       have x1:W.cell? ⟨X,1,none⟩=some (iT q):=by rw [g,m];simp
       have R:W.cell? ⟨X,2,none⟩=some (iT d):=by rw [g,m];simp
       have Q:W.cell? ⟨X,3,none⟩=some (.string t):=by rw [g,m];simp
       have Z:W.cell? ⟨X,4,none⟩=some (iT n):=by rw [g,m];simp
       have y:Bl wr W:=by rw [g];exact bZ
       have F:b<wr.heap.size:=E' D hb.size;have N:b<W.heap.size:=E' F y.size;have u:Eq (Bl w W):=hb.trans (y.mono hb.size);rw [← g,← m];clear g m y;have E:Bl W W.drew:=(Below.refl _ W).drew;have r:Eq (∀w',Bl W w'→(w'.cell? ⟨X,0,none⟩=some (.string s)∧w'.cell? ⟨X,1,none⟩=some (iT q)∧w'.cell? ⟨X,2,none⟩=some (iT d)∧w'.cell? ⟨X,3,none⟩=some (.string t)∧w'.cell? ⟨X,4,none⟩=some (iT n)∧X<w'.heap.size)):=fun w' f=>⟨cell_later f x0,cell_later f x1,cell_later f R,cell_later f Q,cell_later f Z,GK _ _ (cell_later f x0)⟩
       refine eJ r E fun x=>?_
       refine aR 0 1 x ?_;refine aV 1 fun K hK=>?_
       go_simp;refine (CE.o _).mono ?_;rintro e w1 ⟨rfl,b1⟩;have k1:Bl W w1:=E.trans (b1.mono E.size);go_wp2_with fail
       refine hK.o _ _ (r.o _ k1) fun x=>?_
       (try go_frame);refine aR 2 11 x ?_;refine aV 13 fun K hK=>?_
       go_simp;refine hK.o _ _ (r.o _ k1) fun x=>?_
       (try go_frame);refine aR 14 3 x ?_;refine dN ?_;go_wp2;go_roundw
       case rel=>exact ⟨1,by omega,by go_num,u.o.trans (k1.mono u.o.size),jA C.o (by rw [lE HG.o];exact hv)⟩
       case measure=>simp [intOf];omega
     · obtain ⟨j,rfl⟩:∃j,k=j+1:=⟨k - 1,by omega⟩;obtain ⟨Y,U,d',t',n',a1,a0,a7,ag,ak,al,a9⟩:=HL.o.ent hb D j (by omega);have af:Eq (L[j]?=some (Y,U,d',t',n')):=a1;clear a1 a0;obtain ⟨B,hB⟩:=aG (bI Y U s q);have CL:Eq (∀w,Calls Tryz.prog 203 #[.agg #[.string Y,iT U,iT d',.string t',iT n'],.agg #[.string s,iT q,iT d,.string t,iT n]] w fun e w'=>e=.returned (.bool B)∧Bl w w'):=by rw [hB];exact fun w=>qW Y t' s t U d' n' q d n w
       have O:Eq (mt L (j+1)=B):=by
        show mt L (j+1)=B
        rw [je HG.o af.o,hB,hv];rfl
       clear hB;have aA:(0:Int)≤(j:Int)+1:=by omega
       have am:(0:Int)<(j:Int)+1:=by omega
       have ap:(j:Int)<(len:Int):=by omega
       have wj:IntKind.i64.wrap (j:Int)=(j:Int):=by rw [G4];unfold wrap64;omega
       go_wp2_with fail
       obtain ⟨X,m⟩:=aG wr.heap.size;obtain ⟨W,g⟩:=aG (wr.alloc (.cells #[.string s,iT q,iT d,.string t,iT n] 50));have x0:W.cell? ⟨X,0,none⟩=some (.string s):=by rw [g,m];simp
       have x1:W.cell? ⟨X,1,none⟩=some (iT q):=by rw [g,m];simp
       have R:W.cell? ⟨X,2,none⟩=some (iT d):=by rw [g,m];simp
       have Q:W.cell? ⟨X,3,none⟩=some (.string t):=by rw [g,m];simp
       have Z:W.cell? ⟨X,4,none⟩=some (iT n):=by rw [g,m];simp
       have y:Bl wr W:=by rw [g];exact bZ
       have F:b<wr.heap.size:=E' D hb.size;have N:b<W.heap.size:=E' F y.size;have y0:=cell_later y a7;have y1:=cell_later y ag;have y2:=cell_later y ak;have y3:=cell_later y al;have y4:=cell_later y a9;have u:Eq (Bl w W):=hb.trans (y.mono hb.size);rw [← g,← m];clear g m y;have E:Bl W W.drew:=(Below.refl _ W).drew;have r:Eq (∀w',Bl W w'→(w'.cell? ⟨X,0,none⟩=some (.string s)∧w'.cell? ⟨X,1,none⟩=some (iT q)∧w'.cell? ⟨X,2,none⟩=some (iT d)∧w'.cell? ⟨X,3,none⟩=some (.string t)∧w'.cell? ⟨X,4,none⟩=some (iT n)∧X<w'.heap.size∧w'.cell? ⟨b,H+j*5,none⟩=some (.string Y)∧w'.cell? ⟨b,H+j*5+1,none⟩=some (iT U)∧w'.cell? ⟨b,H+j*5+2,none⟩=some (iT d')∧w'.cell? ⟨b,H+j*5+3,none⟩=some (.string t')∧w'.cell? ⟨b,H+j*5+4,none⟩=some (iT n')∧b<w'.heap.size)):=fun w' f=>⟨cell_later f x0,cell_later f x1,cell_later f R,cell_later f Q,cell_later f Z,GK _ _ (cell_later f x0),cell_later f y0,cell_later f y1,cell_later f y2,cell_later f y3,cell_later f y4,E' N f.size⟩
       refine eJ r E fun x=>?_
       refine aR 0 1 x ?_;refine aV 1 fun K hK=>?_
       go_simp;refine (CE.o _).mono ?_;rintro e w1 ⟨rfl,b1⟩;have k1:Bl W w1:=E.trans (b1.mono E.size);go_wp2_with fail
       refine hK.o _ _ (r.o _ k1) fun x=>?_
       (try go_frame);refine aR 2 11 x ?_;refine aV 13 fun K hK=>?_
       go_simp;refine (CL.o _).mono ?_;rintro e w2 ⟨rfl,b2⟩;have k2:Bl W w2:=k1.trans (b2.mono k1.size);go_wp2_with fail
       refine hK.o _ _ (r.o _ k2) fun x=>?_
       (try go_frame);refine aR 14 3 x ?_;refine dN ?_;cases B with
       | true =>
        go_wp2;go_roundw
        case rel=>exact ⟨j+1+1,by omega,by go_num,u.o.trans (k2.mono u.o.size),jA C.o O.o⟩
        case measure=>simp [intOf];omega
       | false =>
        go_wp2;go_ret;exact ⟨aj (mU (by rw [A.o];exact J) O.o).symm,u.o.trans (k2.mono u.o.size)⟩
  · go_wp2;go_ret;exact ⟨aj (mT C.o (by rw [A.o];omega)).symm,hb⟩
end Go.Proofs.YtpobkmjicbobdaaGreat
namespace Go.Proofs.YtpobkmjicbobdaaGreat
open Go.RowKit
set_option maxRecDepth 100000
set_option maxHeartbeats 1000000
theorem Ar (a:Option Addr) (len b:Nat) (L:List ac) (m:Int) (w:World) (hL:ah w a len b L) :
 Calls Tryz.prog 145 #[.agg #[.slice a len b,iT m]] w fun e w'=>e=.returned (.bool (cU L m))∧Bl w w':=by
 have r:Eq (L.length=len):=hL.length;have I:=hL.room;have E:=hL.big;unfold maxLen at E;obtain ⟨X,u⟩:=aG w.heap.size;obtain ⟨W,s⟩:=aG (w.alloc (.cells #[.slice a len b,iT m] 63));have x0:W.cell? ⟨X,0,none⟩=some (.slice a len b):=by rw [s,u];simp
 have x1:W.cell? ⟨X,1,none⟩=some (iT m):=by rw [s,u];simp
 have D:Bl w W:=by rw [s];exact bZ
 have A:ah W a len b L:=hL.keep D;have n:Bl W W.drew:=(Below.refl _ W).drew;have g:Eq (Bl w W):=D;have O:Eq (∀w',Bl W w'→Calls Tryz.prog 201 #[.slice a len b] w' fun e t=>e=.returned (iT ((dL L:Nat):Int))∧Bl w' t):=fun w' x=>om a len b L w' (A.keep x)
 have d:Eq (∀w',Bl W w'→(w'.cell? ⟨X,0,none⟩=some (.slice a len b)∧w'.cell? ⟨X,1,none⟩=some (iT m)∧X<w'.heap.size)):=fun w' x=>⟨cell_later x x0,cell_later x x1,GK _ _ (cell_later x x0)⟩
 have C:Eq (ah W a len b L):=A;clear D hL A;by_cases h1:len<1
 · have y:¬(1:Int)≤(len:Int):=by omega
   have N:decide ((1:Int)≤(len:Int))=false:=decide_eq_false y;go_enter Tryz.func145,Tryz.ntmps145
   go_wp2_with fail
   rw [← s,← u];clear s u;refine eJ d n fun f=>?_
   refine aR 0 13 f ?_;refine aV 13 fun K hK=>?_
   go_simp;refine hK.o _ _ (d.o _ n) fun f=>?_
   (try go_frame);refine aR 14 6 f ?_;refine aV 20 fun K hK=>?_
   go_simp;refine hK.o _ _ (d.o _ n) fun f=>?_
   (try go_frame);refine aR 21 3 f ?_;refine dN ?_;go_wp2;go_ret;exact ⟨aj (vI (by rw [r.o];exact h1)).symm,g.o.trans (n.mono g.o.size)⟩
 by_cases h2:150<len
 · have y:(1:Int)≤(len:Int):=by omega
   have B:¬(len:Int)≤150:=by omega
   have J:decide ((len:Int)≤150)=false:=decide_eq_false B;go_enter Tryz.func145,Tryz.ntmps145
   go_wp2_with fail
   rw [← s,← u];clear s u;refine eJ d n fun f=>?_
   refine aR 0 13 f ?_;refine aV 13 fun K hK=>?_
   go_simp;refine hK.o _ _ (d.o _ n) fun f=>?_
   (try go_frame);refine aR 14 6 f ?_;refine aV 20 fun K hK=>?_
   go_simp;refine hK.o _ _ (d.o _ n) fun f=>?_
   (try go_frame);refine aR 21 3 f ?_;refine dN ?_;go_wp2;go_ret;exact ⟨aj (tm (by rw [r.o];exact h2)).symm,g.o.trans (n.mono g.o.size)⟩
 have y:(1:Int)≤(len:Int):=by omega
 have B:(len:Int)≤150:=by omega
 cases hr:aI L with
 | false =>
  have F:Eq (∀w',Bl W w'→Calls Tryz.prog 87 #[.slice a len b] w' fun e t=>e=.returned (.bool false)∧Bl w' t):=by rw [← hr];exact fun w' x=>ln a len b L w' (C.o.keep x)
  go_enter Tryz.func145,Tryz.ntmps145
  go_wp2_with fail
  rw [← s,← u];clear s u;refine eJ d n fun f=>?_
  refine aR 0 13 f ?_;refine aV 13 fun K hK=>?_
  go_simp;refine (F.o _ n).mono ?_;rintro e w1 ⟨rfl,b1⟩;have k1:Bl W w1:=n.trans (b1.mono n.size);go_wp2_with fail
  refine hK.o _ _ (d.o _ k1) fun f=>?_
  (try go_frame);refine aR 14 6 f ?_;refine aV 20 fun K hK=>?_
  go_simp;refine hK.o _ _ (d.o _ k1) fun f=>?_
  (try go_frame);refine aR 21 3 f ?_;refine dN ?_;go_wp2;go_ret;exact ⟨aj (qx hr).symm,g.o.trans (k1.mono g.o.size)⟩
 | true =>
  have F:Eq (∀w',Bl W w'→Calls Tryz.prog 87 #[.slice a len b] w' fun e t=>e=.returned (.bool true)∧Bl w' t):=by rw [← hr];exact fun w' x=>ln a len b L w' (C.o.keep x)
  go_enter Tryz.func145,Tryz.ntmps145
  go_wp2_with fail
  rw [← s,← u];clear s u;refine eJ d n fun f=>?_
  refine aR 0 13 f ?_;refine aV 13 fun K hK=>?_
  go_simp;refine (F.o _ n).mono ?_;rintro e w1 ⟨rfl,b1⟩;have k1:Bl W w1:=n.trans (b1.mono n.size);go_wp2_with fail
  refine hK.o _ _ (d.o _ k1) fun f=>?_
  (try go_frame);refine aR 14 6 f ?_;refine aV 20 fun K hK=>?_
  go_simp;refine (O.o _ k1).mono ?_;rintro e w2 ⟨rfl,b2⟩;have H:Bl W w2:=k1.trans (b2.mono k1.size);go_wp2_with fail
  refine hK.o _ _ (d.o _ H) fun f=>?_
  (try go_frame);refine aR 21 3 f ?_;refine dN ?_;go_wp2;go_ret;refine ⟨aj ?_,g.o.trans (H.mono g.o.size)⟩;rw [tk (by rw [r.o];omega) (by rw [r.o];omega) hr];first | rfl | (rw [Bool.eq_iff_iff];simp)
theorem tF (a:Option Addr) (len b:Nat) (L:List ac) (m:Int) (w:World) (hL:ah w a len b L) :
 Calls Tryz.prog 209 #[.agg #[.slice a len b,iT m]] w fun e w'=>e=.returned (.bool (cU L m))∧Bl w w':=by
 have r:Eq (L.length=len):=hL.length;have I:=hL.room;have E:=hL.big;unfold maxLen at E;obtain ⟨X,u⟩:=aG w.heap.size;obtain ⟨W,s⟩:=aG (w.alloc (.cells #[.slice a len b,iT m] 63));have x0:W.cell? ⟨X,0,none⟩=some (.slice a len b):=by rw [s,u];simp
 have x1:W.cell? ⟨X,1,none⟩=some (iT m):=by rw [s,u];simp
 have D:Bl w W:=by rw [s];exact bZ
 have A:ah W a len b L:=hL.keep D;have n:Bl W W.drew:=(Below.refl _ W).drew;have g:Eq (Bl w W):=D;have O:Eq (∀w',Bl W w'→Calls Tryz.prog 219 #[.slice a len b] w' fun e t=>e=.returned (iT ((dL L:Nat):Int))∧Bl w' t):=fun w' x=>A5 a len b L w' (A.keep x)
 have d:Eq (∀w',Bl W w'→(w'.cell? ⟨X,0,none⟩=some (.slice a len b)∧w'.cell? ⟨X,1,none⟩=some (iT m)∧X<w'.heap.size)):=fun w' x=>⟨cell_later x x0,cell_later x x1,GK _ _ (cell_later x x0)⟩
 have C:Eq (ah W a len b L):=A;clear D hL A;by_cases h1:len<1
 · have y:¬(1:Int)≤(len:Int):=by omega
   have N:decide ((1:Int)≤(len:Int))=false:=decide_eq_false y;go_enter Tryz.func209,Tryz.ntmps209
   go_wp2_with fail
   rw [← s,← u];clear s u;refine eJ d n fun f=>?_
   refine aR 0 13 f ?_;refine aV 13 fun K hK=>?_
   go_simp;refine hK.o _ _ (d.o _ n) fun f=>?_
   (try go_frame);refine aR 14 6 f ?_;refine aV 20 fun K hK=>?_
   go_simp;refine hK.o _ _ (d.o _ n) fun f=>?_
   (try go_frame);refine aR 21 3 f ?_;refine dN ?_;go_wp2;go_ret;exact ⟨aj (vI (by rw [r.o];exact h1)).symm,g.o.trans (n.mono g.o.size)⟩
 by_cases h2:150<len
 · have y:(1:Int)≤(len:Int):=by omega
   have B:¬(len:Int)≤150:=by omega
   have J:decide ((len:Int)≤150)=false:=decide_eq_false B;go_enter Tryz.func209,Tryz.ntmps209
   go_wp2_with fail
   rw [← s,← u];clear s u;refine eJ d n fun f=>?_
   refine aR 0 13 f ?_;refine aV 13 fun K hK=>?_
   go_simp;refine hK.o _ _ (d.o _ n) fun f=>?_
   (try go_frame);refine aR 14 6 f ?_;refine aV 20 fun K hK=>?_
   go_simp;refine hK.o _ _ (d.o _ n) fun f=>?_
   (try go_frame);refine aR 21 3 f ?_;refine dN ?_;go_wp2;go_ret;exact ⟨aj (tm (by rw [r.o];exact h2)).symm,g.o.trans (n.mono g.o.size)⟩
 have y:(1:Int)≤(len:Int):=by omega
 have B:(len:Int)≤150:=by omega
 cases hr:aI L with
 | false =>
  have F:Eq (∀w',Bl W w'→Calls Tryz.prog 188 #[.slice a len b] w' fun e t=>e=.returned (.bool false)∧Bl w' t):=by rw [← hr];exact fun w' x=>oM a len b L w' (C.o.keep x)
  go_enter Tryz.func209,Tryz.ntmps209
  go_wp2_with fail
  rw [← s,← u];clear s u;refine eJ d n fun f=>?_
  refine aR 0 13 f ?_;refine aV 13 fun K hK=>?_
  go_simp;refine (F.o _ n).mono ?_;rintro e w1 ⟨rfl,b1⟩;have k1:Bl W w1:=n.trans (b1.mono n.size);go_wp2_with fail
  refine hK.o _ _ (d.o _ k1) fun f=>?_
  (try go_frame);refine aR 14 6 f ?_;refine aV 20 fun K hK=>?_
  go_simp;refine hK.o _ _ (d.o _ k1) fun f=>?_
  (try go_frame);refine aR 21 3 f ?_;refine dN ?_;go_wp2;go_ret;exact ⟨aj (qx hr).symm,g.o.trans (k1.mono g.o.size)⟩
 | true =>
  have F:Eq (∀w',Bl W w'→Calls Tryz.prog 188 #[.slice a len b] w' fun e t=>e=.returned (.bool true)∧Bl w' t):=by rw [← hr];exact fun w' x=>oM a len b L w' (C.o.keep x)
  go_enter Tryz.func209,Tryz.ntmps209
  go_wp2_with fail
  rw [← s,← u];clear s u;refine eJ d n fun f=>?_
  refine aR 0 13 f ?_;refine aV 13 fun K hK=>?_
  go_simp;refine (F.o _ n).mono ?_;rintro e w1 ⟨rfl,b1⟩;have k1:Bl W w1:=n.trans (b1.mono n.size);go_wp2_with fail
  refine hK.o _ _ (d.o _ k1) fun f=>?_
  (try go_frame);refine aR 14 6 f ?_;refine aV 20 fun K hK=>?_
  go_simp;refine (O.o _ k1).mono ?_;rintro e w2 ⟨rfl,b2⟩;have H:Bl W w2:=k1.trans (b2.mono k1.size);go_wp2_with fail
  refine hK.o _ _ (d.o _ H) fun f=>?_
  (try go_frame);refine aR 21 3 f ?_;refine dN ?_;go_wp2;go_ret;refine ⟨aj ?_,g.o.trans (H.mono g.o.size)⟩;rw [tk (by rw [r.o];omega) (by rw [r.o];omega) hr];first | rfl | (rw [Bool.eq_iff_iff];simp)
end Go.Proofs.YtpobkmjicbobdaaGreat
namespace Go.Proofs.YtpobkmjicbobdaaGreat
set_option maxRecDepth 100000
set_option maxHeartbeats 40000000
open Go.RowKit
variable {k:Nat}
theorem ql (a:Option Addr) (n c:Nat) (M:List ac) (q:Int) (w:World) (h:ah w a n c M) :
 Calls Tryz.prog 88 #[.slice a n c,iT q] w fun e w'=>e=.returned (.bool (b6 M q))∧w'=w:=by
 have hr:=h.room;have u:=h.big;unfold maxLen at u;have m:=az h.length;have H:=az h;go_enter Tryz.func88,Tryz.ntmps88
 go_wp2;go_loopw [5] (fun i wr=>∃k:Nat,k≤n∧i=iT k∧wr=w∧b6 (M.take k) q=true) (fun i _=>n - (intOf i).toNat)
 case atStart=>exact ⟨0,GQ _,rfl,rfl,by simp [b6]⟩
 case round =>
  obtain ⟨k,hk,rfl,rfl,hw⟩:=hrel;have A:=az hw;by_cases g:k<n
  · have y:(k:Int)<(n:Int):=by omega
    obtain ⟨b,B,rfl,r⟩:=H.o.form (by omega);obtain ⟨s,C,d,t,nn,hg,_,E,I,D,J,F⟩:=H.o.ent (Below.refl _ wr) r k g;have x:=az hg;by_cases hq:q<C
    · go_wp2;go_ret;exact ⟨aj (Ae x.o (by simp only;omega)).symm,rfl⟩
    · go_wp2;go_roundw
      case rel=>exact ⟨k+1,by omega,by go_num,by first | rfl | trivial,ve A.o x.o (by simp only;omega)⟩
      case measure=>simp [intOf];omega
  · go_wp2;go_ret;have f:=A.o;rw [GV (by rw [m.o];omega)] at f;exact ⟨aj f.symm,rfl⟩
theorem AZ (lo:Nat) (a:Option Addr) (n c:Nat) (S:List Int) (q:Int) (w:World) (h:bJ lo w a n c S) :
 Calls Tryz.prog 196 #[.slice a n c,iT q] w fun e w'=>e=.returned (.bool (cG S q))∧w'=w:=by
 have hr:=h.room;have E:=h.big;unfold maxLen at E;have d:=az h.length;have H:=az h;by_cases hm:4<n
 · go_enter Tryz.func196,Tryz.ntmps196
   go_wp2;go_ret;exact ⟨aj (xV (by rw [d.o];exact hm)).symm,rfl⟩
 go_enter Tryz.func196,Tryz.ntmps196
 go_wp2;go_loopw [12] (fun i wr=>∃k:Nat,k≤n∧i=iT k∧wr=w∧lS S q k) (fun i _=>n - (intOf i).toNat)
 case atStart=>exact ⟨0,GQ _,rfl,rfl,fun j Q=>absurd Q (H7 _)⟩
 case round =>
  obtain ⟨k,hk,rfl,rfl,hw⟩:=hrel;have I:=az hw;by_cases m:k<n
  · have J:(k:Int)<(n:Int):=by omega
    have A:k<S.length:=by rw [d.o];exact m
    have g:=az A;obtain ⟨b,O,rfl,N⟩:=H.o.form (by omega);obtain ⟨s,hg,_,L⟩:=H.o.num (Below.refl _ wr) k m;have u:=az hg;by_cases C:s<0
    · go_wp2;go_ret;exact ⟨aj (ja g.o (vF u.o C)).symm,rfl⟩
    by_cases y:q<s
    · go_wp2;go_ret;exact ⟨aj (ja g.o (th u.o y)).symm,rfl⟩
    by_cases D:k=0
    · subst D;simp only [Ik] at L;have r:Eq (dl S q 0=true):=by show dl S q 0=true;rw [oo u.o,decide_eq_true (show 0≤s by omega),decide_eq_true (show s≤q by omega)];rfl
      go_wp2;go_roundw
      case rel=>exact ⟨0+1,by omega,by go_num,by first | rfl | trivial,jw I.o r.o⟩
      case measure=>simp [intOf];omega
    · have T:(0:Int)<(k:Int):=by omega
      have K:(0:Int)≤(k:Int) - 1:=by omega
      have R:(k:Int) - 1<(n:Int):=by omega
      have B:((k:Int) - 1).toNat=k - 1:=by omega
      have U:IntKind.i64.wrap ((k:Int) - 1)=(k:Int) - 1:=by rw [G4];unfold wrap64;omega
      obtain ⟨p,hp,_,e0⟩:=H.o.num (Below.refl _ wr) (k - 1) (by omega);obtain ⟨j,rfl⟩:∃j,k=j+1:=⟨k - 1,by omega⟩;simp only [Is] at hp e0 B;have F:=lp (q:=q) u.o hp;have f:=az F;by_cases t:p<s
      · have r:Eq (dl S q (j+1)=true):=by show dl S q (j+1)=true;rw [f.o,decide_eq_true (show 0≤s by omega),decide_eq_true (show s≤q by omega),decide_eq_true t];rfl
        go_wp2;go_roundw
        case rel=>exact ⟨j+1+1,by omega,by go_num,by first | rfl | trivial,jw I.o r.o⟩
        case measure=>simp [intOf];omega
      · have r:Eq (dl S q (j+1)=false):=by show dl S q (j+1)=false;rw [f.o,decide_eq_false t];simp
        go_wp2;go_ret;exact ⟨aj (ja g.o r.o).symm,rfl⟩
  · go_wp2;go_ret;refine ⟨aj ?_,rfl⟩;have x:k=S.length:=by rw [d.o];omega
    have hw:=I.o;rw [x] at hw;rw [tg hw,decide_eq_true (by rw [d.o];omega)]
theorem zm (m:Int) (b f n c:Nat) (L:List ac) (w:World) (h:ah w (some ⟨b,f,none⟩) n c L) (e:ac) (h0:L[0]?=some e) :
 Calls Tryz.prog 147 #[.agg #[sO b f n c,iT m]] w fun r w'=>r=.returned (.string e.1)∧Bl w w':=by
 have hl:=(F'.1 h0).1;rw [h.length] at hl;have x:(0:Int)<(n:Int):=by omega
 have o:Bl w (w.alloc (.cells #[sO b f n c,iT m] 63)):=bZ;have g:=(h.lies _ rfl hl).1;simp only at g;obtain ⟨s,q,d,t,nn,hg,_,u,_⟩:=h.ent (Below.refl _ w) g 0 hl;rw [h0] at hg;cases hg;simp only [I3,Ik] at u;go_enter Tryz.func147,Tryz.ntmps147
 go_wp2;go_ret;exact ⟨rfl,o⟩
theorem vz (m:Int) (b f n c:Nat) (L:List ac) (w:World) (h:ah w (some ⟨b,f,none⟩) n c L) (e:ac) (h0:L[n - 1]?=some e) (hn:1≤n) :
 Calls Tryz.prog 146 #[.agg #[sO b f n c,iT m]] w fun r w'=>r=.returned (.string e.1)∧Bl w w':=by
 have hr:=h.room;have o:=h.big;unfold maxLen at o;have x:(0:Int)≤(n:Int) - 1:=by omega
 have A:(n:Int) - 1<(n:Int):=by omega
 have y:((n:Int) - 1).toNat=n - 1:=by omega
 have B:IntKind.i64.wrap ((n:Int) - 1)=(n:Int) - 1:=by rw [G4];unfold wrap64;omega
 have u:Bl w (w.alloc (.cells #[sO b f n c,iT m] 63)):=bZ;have g:=(h.lies _ rfl (by omega)).1;simp only at g;obtain ⟨s,q,d,t,nn,hg,_,C,_⟩:=h.ent (Below.refl _ w) g (n - 1) (by omega);rw [h0] at hg;cases hg;go_enter Tryz.func146,Tryz.ntmps146
 go_wp2;go_ret;exact ⟨rfl,u⟩
theorem A3 (m:Int) (a:Option Addr) (n c:Nat) (L:List ac) (w:World) (h:ah w a n c L) :
 Calls Tryz.prog 233 #[.agg #[.slice a n c,iT m]] w fun r w'=>r=.returned (.bool (!cU L m))∧Bl w w':=by
 have b:Bl w (w.alloc (.cells #[.slice a n c,iT m] 63)):=bZ;go_enter Tryz.func233,Tryz.ntmps233
 go_wp2_with fail
 refine (tF _ _ _ L m _ (h.keep b)).mono ?_;rintro e f ⟨rfl,d⟩;go_wp2;go_ret;exact ⟨rfl,b.trans (d.mono b.size)⟩
theorem Ap (q:Int) (lo:Nat) (v0 v1:Value) (a:Option Addr) (n c:Nat) (S:List Int) (w:World) (h:bJ lo w a n c S) :
 Calls Tryz.prog 89 #[.agg #[iT q,v0,v1,.slice a n c]] w fun e w'=>e=.returned (.bool (cG S q))∧Bl w w':=by
 have hr:=h.room;have a5:=h.big;unfold maxLen at a5;have y:Eq (S.length=n):=h.length;obtain ⟨X,U⟩:=aG w.heap.size;obtain ⟨W,N⟩:=aG (w.alloc (.cells #[iT q,v0,v1,.slice a n c] 31));have kW:Bl w W:=by rw [N];exact bZ
 have x0:W.cell? ⟨X,0,none⟩=some (iT q):=by rw [N,U];simp
 have x3:W.cell? ⟨X,3,none⟩=some (.slice a n c):=by rw [N,U];simp
 have H:Eq (bJ lo W a n c S):=h.keep kW;have KW:Eq (Bl w W):=kW;have zx:=GK _ _ x0;simp only at zx;have HP:Eq (∀e w',(e=Ending.returned (.bool (cG S q))∧Bl W w')→e=Ending.returned (.bool (cG S q))∧Bl w w'):=fun e w' hh=>⟨hh.1,KW.o.trans (hh.2.mono KW.o.size)⟩
 clear h kW;go_enter Tryz.func89,Tryz.ntmps89
 go_upto_block 0 with fail
 rw [← U,← N];clear U N;go_wp2;go_loopw [3] (fun i wr=>∃k:Nat,k≤n∧i=iT k∧Bl W wr∧lS S q k) (fun i _=>n - (intOf i).toNat)
 case atStart=>exact ⟨0,GQ _,rfl,Below.refl _ _,fun j hj=>absurd hj (H7 _)⟩
 case round =>
  obtain ⟨k,hk,rfl,hb,hw⟩:=hrel;have HW:Eq (lS S q k):=hw;have Z:Eq (Bl W wr):=hb;have y0:=cell_later hb x0;have y3:=cell_later hb x3;have zy:=GK _ _ y0;simp only at zy;clear hw;by_cases I:k<n
  · have Q:(k:Int)<(n:Int):=by omega
    have J:k<S.length:=by rw [y.o];exact I
    have A:Eq (k<S.length):=J;clear J;obtain ⟨b,t,rfl,a4⟩:=H.o.form (by omega);obtain ⟨s,hg,_,g0⟩:=H.o.num hb k I;have Y:Eq (S[k]?=some s):=hg;have zb:=E' a4 hb.size;have r:Bl wr wr.drew:=(Below.refl _ wr).drew;have d:Eq (∀w',Bl wr w'→(w'.cell? ⟨X,0,none⟩=some (iT q)∧w'.cell? ⟨X,3,none⟩=some (sO b t n c)∧X<w'.heap.size∧w'.cell? ⟨b,t+k,none⟩=some (iT s)∧b<w'.heap.size)):=fun w' g=>⟨cell_later g y0,cell_later g y3,E' zy g.size,cell_later g g0,E' zb g.size⟩
    have O:Eq (Bl W wr.drew):=Z.o.trans (r.mono Z.o.size);clear hg hb;by_cases C:s<0
    · have K:decide (s<0)=true:=decide_eq_true C;go_wp2_with fail
      refine eJ d r fun f=>?_
      refine aR 0 34 f ?_;refine dN ?_;clear r d f;go_wp2;go_ret;exact HP.o _ _ ⟨aj (ja A.o (vF Y.o C)).symm,O.o⟩
    have K:decide (s<0)=false:=decide_eq_false C;by_cases B:q<s
    · have D:decide (q<s)=true:=decide_eq_true B;go_wp2_with fail
      refine eJ d r fun f=>?_
      refine aR 0 34 f ?_;refine dN ?_;clear r d f;go_wp2;go_ret;exact HP.o _ _ ⟨aj (ja A.o (th Y.o B)).symm,O.o⟩
    have D:decide (q<s)=false:=decide_eq_false B;by_cases a7:k=0
    · subst a7;simp only [Ik] at g0 d;have F:Eq (dl S q 0=true):=by show dl S q 0=true;rw [oo Y.o,decide_eq_true (show 0≤s by omega),decide_eq_true (show s≤q by omega)];rfl
      go_wp2_with fail
      refine eJ d r fun f=>?_
      refine aR 0 34 f ?_;refine dN ?_;clear r d f;go_wp2;go_roundw
      case rel=>exact ⟨0+1,by omega,by go_num,O.o,jw HW.o F.o⟩
      case measure=>simp [intOf];omega
    · have ai:(0:Int)<(k:Int):=by omega
      have E:0<k:=by omega
      have af:decide (0<k)=true:=decide_eq_true E;have ak:(0:Int)≤(k:Int) - 1:=by omega
      have ao:(k:Int) - 1<(n:Int):=by omega
      have an:(1:Int)≤(k:Int):=by omega
      have al:((k:Int) - 1).toNat=k - 1:=by omega
      have wj:IntKind.i64.wrap ((k:Int) - 1)=(k:Int) - 1:=by rw [G4];unfold wrap64;omega
      obtain ⟨p,hp,_,e0⟩:=H.o.num Z.o (k - 1) (by omega);have u:Eq (∀w',Bl wr w'→(w'.cell? ⟨X,0,none⟩=some (iT q)∧w'.cell? ⟨X,3,none⟩=some (sO b t n c)∧X<w'.heap.size∧w'.cell? ⟨b,t+k,none⟩=some (iT s)∧b<w'.heap.size∧w'.cell? ⟨b,t+(k - 1),none⟩=some (iT p))):=fun w' g=>⟨cell_later g y0,cell_later g y3,E' zy g.size,cell_later g g0,E' zb g.size,cell_later g e0⟩
      have R:Eq (dl S q k=(decide (0≤s) && (decide (s≤q) && decide (p<s)))):=by
       obtain ⟨j,rfl⟩:∃j,k=j+1:=⟨k - 1,by omega⟩;exact lp Y.o hp
      clear hp d;by_cases T:p<s
      · have F:Eq (dl S q k=true):=by show dl S q k=true;rw [R.o,decide_eq_true (show 0≤s by omega),decide_eq_true (show s≤q by omega),decide_eq_true T];rfl
        have m:¬s≤p:=by omega
        have L:decide (s≤p)=false:=decide_eq_false m;go_wp2_with fail
        refine eJ u r fun f=>?_
        refine aR 0 34 f ?_;refine dN ?_;clear r u f;go_wp2;go_roundw
        case rel=>exact ⟨k+1,by omega,by go_num,O.o,jw HW.o F.o⟩
        case measure=>simp [intOf];omega
      · have F:Eq (dl S q k=false):=by show dl S q k=false;rw [R.o,decide_eq_false T];simp
        have m:s≤p:=by omega
        have L:decide (s≤p)=true:=decide_eq_true m;go_wp2_with fail
        refine eJ u r fun f=>?_
        refine aR 0 34 f ?_;refine dN ?_;clear r u f;go_wp2;go_ret;exact HP.o _ _ ⟨aj (ja A.o F.o).symm,O.o⟩
  · have Q:¬(k:Int)<(n:Int):=by omega
    have x:cG S q=decide ((n:Int)≤4):=by
     have a1:k=S.length:=by rw [y.o];omega
     have hw:=HW.o;rw [a1] at hw;rw [tg hw,y.o];by_cases h4:n≤4
     · rw [decide_eq_true h4,decide_eq_true (by omega)]
     · rw [decide_eq_false h4,decide_eq_false (by omega)]
    have a6:Eq (cG S q=decide ((n:Int)≤4)):=x;clear x;go_wp2;go_ret;exact HP.o _ _ ⟨aj a6.o.symm,Z.o⟩
def gW (x y:ac):Bool:=decide (x.1=y.1) && decide (x.2.1≤y.2.1)
def lc (A B:List ac):Bool:=A.all (fun x=>B.all (fun y=>!gW x y))
theorem sf {α:Type} {L:List α} {f:α→Bool} {e:α} (h:(L.take k).all f=true) (hk:L[k]?=some e) (b:f e=true):(L.take (k+1)).all f=true:=by
 rw [Hc,hk];simp [List.all_append,h,b]
theorem Ed {α:Type} {L:List α} {f:α→Bool} {e:α} (hk:L[k]?=some e) (b:f e=false):L.all f=false:=by
 rw [IL];intro h;rw [Hf] at h;rw [h e (GP hk)] at b;cases b
theorem Av (a1 a2:Option Addr) (C c1 n2 c2:Nat) (A B:List ac) (w:World) (h1:ah w a1 C c1 A) (h2:ah w a2 n2 c2 B) :
 Calls Tryz.prog 148 #[.slice a1 C c1,.slice a2 n2 c2] w fun e w'=>e=.returned (.bool (lc A B))∧Bl w w':=by
 have a7:=az h1.length;have a4:=az h2.length;have ao:=h1.room;have ab:=h1.big;have al:=h2.room;have a8:=h2.big;unfold maxLen at ab a8;have Z:=az h1;have H2:=az h2;go_enter Tryz.func148,Tryz.ntmps148
 go_wp2;go_loopw [5] (fun iv wr=>∃i:Nat,i≤C∧iv=iT i∧Bl w wr∧(A.take i).all (fun x=>B.all (fun y=>!gW x y))=true) (fun iv _=>C - (intOf iv).toNat)
 case atStart=>exact ⟨0,GQ _,rfl,Below.refl _ _,by simp⟩
 case round =>
  obtain ⟨i,hi,rfl,hb,hw⟩:=hrel;have HW:=az hw;have HB:=az hb;by_cases N:i<C
  · have K:(i:Int)<(C:Int):=by omega
    obtain ⟨b1,o1,rfl,r⟩:=Z.o.form (by omega);obtain ⟨s,q,d,t,nn,hg,_,_⟩:=Z.o.ent hb r i N;have W:=az hg;go_wp2;go_loopw [6] (fun kv wq=>∃k:Nat,k≤n2∧kv=iT k∧Bl w wq∧(B.take k).all (fun y=>!gW (s,q,d,t,nn) y)=true) (fun kv _=>n2 - (intOf kv).toNat)
    case atStart=>exact ⟨0,GQ _,rfl,HB.o,by simp⟩
    case round =>
     obtain ⟨k,hk,rfl,b,X⟩:=hrel;have u:=az X;have n:=az b;by_cases R:k<n2
     · have H:(k:Int)<(n2:Int):=by omega
       obtain ⟨b2,o2,rfl,F⟩:=H2.o.form (by omega);obtain ⟨s1,q1,d1,t1,ap,L,_,g0,g1,_⟩:=Z.o.ent b r i N;rw [W.o] at L;cases L;obtain ⟨J,I,d',U,D,hF,_,e0,e1,_⟩:=H2.o.ent b F k R;have HF:=az hF;have z1:=E' r b.size;have z2:=E' F b.size;have Q:Bl wr wr.drew:=(Below.refl _ wr).drew;have m:Eq (∀w',Bl wr w'→(w'.cell? ⟨b1,o1+i*5,none⟩=some (.string s)∧w'.cell? ⟨b1,o1+i*5+1,none⟩=some (iT q)∧b1<w'.heap.size∧w'.cell? ⟨b2,o2+k*5,none⟩=some (.string J)∧w'.cell? ⟨b2,o2+k*5+1,none⟩=some (iT I)∧b2<w'.heap.size)):=fun w' E=>⟨cell_later E g0,cell_later E g1,E' z1 E.size,cell_later E e0,cell_later E e1,E' z2 E.size⟩
       have KZ:=az (n.o.trans (Q.mono n.o.size));by_cases hs:s=J
       · subst hs;by_cases hq:q≤I
         · have Y:=decide_eq_true hq;have g:Eq ((!gW (s,q,d,t,nn) (s,I,d',U,D))=false):=by show (!gW _ _)=false;unfold gW;simp [hq]
           go_wp2_with fail
           refine eJ m Q fun O=>?_
           refine aR 0 24 O ?_;refine dN ?_;go_wp2;go_ret;exact ⟨aj (Ed W.o (Ed HF.o g.o)).symm,KZ.o⟩
         · have Y:=decide_eq_false hq;have g:Eq ((!gW (s,q,d,t,nn) (s,I,d',U,D))=true):=by show (!gW _ _)=true;unfold gW;simp [hq]
           go_wp2_with fail
           refine eJ m Q fun O=>?_
           refine aR 0 24 O ?_;refine dN ?_;go_wp2;go_roundw
           case rel=>exact ⟨k+1,by omega,by go_num,KZ.o,sf u.o HF.o g.o⟩
           case measure=>simp [intOf];omega
       · have T:¬s.toList=J.toList:=by
          rw [Hk,Hk];intro h;exact hs (IP (II.1 h))
         have ae:(s.toList == J.toList)=false:=by simpa using T
         have g:Eq ((!gW (s,q,d,t,nn) (J,I,d',U,D))=true):=by show (!gW _ _)=true;unfold gW;simp [hs]
         go_wp2_with fail
         refine eJ m Q fun O=>?_
         refine aR 0 24 O ?_;refine dN ?_;go_wp2;go_roundw
         case rel=>exact ⟨k+1,by omega,by go_num,KZ.o,sf u.o HF.o g.o⟩
         case measure=>simp [intOf];omega
     · have H:¬(k:Int)<(n2:Int):=by omega
       have g:Eq (B.all (fun y=>!gW (s,q,d,t,nn) y)=true):=by
        have:=u.o;rw [GV (by rw [a4.o];omega)] at this;exact this
       go_wp2;go_roundw
       case rel=>exact ⟨i+1,by omega,by go_num,n.o,sf (f:=fun x=>B.all (fun y=>!gW x y)) HW.o W.o g.o⟩
       case measure=>simp [intOf];omega
  · have K:¬(i:Int)<(C:Int):=by omega
    have g:Eq (lc A B=true):=by
     have:=HW.o;rw [GV (by rw [a7.o];omega)] at this;exact this
    go_wp2;go_ret;exact ⟨aj g.o.symm,HB.o⟩
end Go.Proofs.YtpobkmjicbobdaaGreat
