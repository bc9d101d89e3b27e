/- Walks. -/
import Derived.Test.YtpobkmjicbobdaaGreatBl02
import Derived.Deep.CutBlock
namespace Go.Proofs.YtpobkmjicbobdaaGreat
open Go.RowKit
set_option maxRecDepth 100000
set_option maxHeartbeats 1000000
theorem jt (a:Option Addr) (len H:Nat) (L:List ac) (w:World) (hL:ag w a len H L) :
 Calls Tryz.prog 87 #[.slice a len H] w fun e w'=>e=.returned (.bool (aI L))∧Bl w w':=by
 have C:CG (L.length=len):=hL.length;have am:=hL.room;have a2:=hL.big;unfold maxLen at a2;have HL:=bO hL;clear hL;go_enter Tryz.func87,Tryz.ntmps87
 go_wp2;go_loopw [3] (fun i wr=>∃k:Nat,k≤len∧i=iT k∧Bl w wr∧iQ L k) (fun i _=>len - (intOf i).toNat)
 case atStart=>exact ⟨0,C3 _,rfl,Below.refl _ _,fun j hj=>absurd hj (DP _)⟩
 case round =>
  obtain ⟨k,hk,rfl,hb,D⟩:=hrel;have y:CG (iQ L k):=D;clear D;by_cases F:k<len
  · obtain ⟨b,f,rfl,A⟩:=HL.o.form (by omega);obtain ⟨s,q,d,t,n,hg,E,X,W,g2,U,Y⟩:=HL.o.ent hb A k F;have HG:CG (L[k]?=some (s,q,d,t,n)):=hg;have hs:=E.1;have ht:=E.2.2.2.1;simp only at hs ht;clear hg E;cases hv:cT s q d t n with
    | false =>
     have R:CG (∀w,Calls Tryz.prog 143 #[.agg #[.string s,iT q,iT d,.string t,iT n]] w fun e w'=>e=.returned (.bool false)∧Bl w w'):=by rw [← hv];exact fun w=>qV s t q d n w hs ht
     go_wp2_with fail
     have u:Bl wr wr.drew:=(Below.refl _ wr).drew;have x:b<wr.heap.size:=l' A hb.size;have m:CG (∀w',Bl wr w'→(w'.cell? ⟨b,f+k*5,none⟩=some (.string s)∧w'.cell? ⟨b,f+k*5+1,none⟩=some (iT q)∧w'.cell? ⟨b,f+k*5+2,none⟩=some (iT d)∧w'.cell? ⟨b,f+k*5+3,none⟩=some (.string t)∧w'.cell? ⟨b,f+k*5+4,none⟩=some (iT n)∧b<w'.heap.size)):=fun w' g=>⟨cell_later g X,cell_later g W,cell_later g g2,cell_later g U,cell_later g Y,l' x g.size⟩
     refine ez m u fun r=>?_
     refine aP 0 4 r ?_;refine aR 4 fun K hK=>?_
     go_simp;refine (R.o _).mono ?_;rintro e w1 ⟨rfl,b1⟩;have k1:Bl wr w1:=u.trans (b1.mono u.size);go_wp2_with fail
     refine hK.o _ _ (m.o _ k1) fun r=>?_
     (try go_frame);refine aP 5 14 r ?_;refine aR 19 fun K hK=>?_
     go_simp;refine hK.o _ _ (m.o _ k1) fun r=>?_
     (try go_frame);refine aP 20 3 r ?_;refine dN ?_;go_wp2;go_ret;exact ⟨ah (li (by rw [C.o];exact F) (oo HG.o hv)).symm,hb.trans (k1.mono hb.size)⟩
    | true =>
     have R:CG (∀w,Calls Tryz.prog 143 #[.agg #[.string s,iT q,iT d,.string t,iT n]] w fun e w'=>e=.returned (.bool true)∧Bl w w'):=by rw [← hv];exact fun w=>qV s t q d n w hs ht
     by_cases a9:k=0
     · subst a9;simp only [EO,DS] at X W g2 U Y;go_wp2_with fail
       have u:Bl wr wr.drew:=(Below.refl _ wr).drew;have x:b<wr.heap.size:=l' A hb.size;have m:CG (∀w',Bl wr w'→(w'.cell? ⟨b,f,none⟩=some (.string s)∧w'.cell? ⟨b,f+1,none⟩=some (iT q)∧w'.cell? ⟨b,f+2,none⟩=some (iT d)∧w'.cell? ⟨b,f+3,none⟩=some (.string t)∧w'.cell? ⟨b,f+4,none⟩=some (iT n)∧b<w'.heap.size)):=fun w' g=>⟨cell_later g X,cell_later g W,cell_later g g2,cell_later g U,cell_later g Y,l' x g.size⟩
       refine ez m u fun r=>?_
       refine aP 0 4 r ?_;refine aR 4 fun K hK=>?_
       go_simp;refine (R.o _).mono ?_;rintro e w1 ⟨rfl,b1⟩;have k1:Bl wr w1:=u.trans (b1.mono u.size);go_wp2_with fail
       refine hK.o _ _ (m.o _ k1) fun r=>?_
       (try go_frame);refine aP 5 14 r ?_;refine aR 19 fun K hK=>?_
       go_simp;refine hK.o _ _ (m.o _ k1) fun r=>?_
       (try go_frame);refine aP 20 3 r ?_;refine dN ?_;go_wp2;go_roundw
       case rel=>exact ⟨1,by omega,by go_num,hb.trans (k1.mono hb.size),iC y.o (by rw [jC HG.o];exact hv)⟩
       case measure=>simp [intOf];omega
     · obtain ⟨j,rfl⟩:∃j,k=j+1:=⟨k - 1,by omega⟩;obtain ⟨J,N,d',T,Z,I,Q,a7,a6,ae,a8,ab⟩:=HL.o.ent hb A j (by omega);have a3:CG (L[j]?=some (J,N,d',T,Z)):=I;clear I Q;obtain ⟨B,hB⟩:=aH (bo J N s q);have CL:CG (∀w,Calls Tryz.prog 144 #[.agg #[.string J,iT N,iT d',.string T,iT Z],.agg #[.string s,iT q,iT d,.string t,iT n]] w fun e w'=>e=.returned (.bool B)∧Bl w w'):=by rw [hB];exact fun w=>sD J T s t N d' Z q d n w
       have O:CG (ke L (j+1)=B):=by
        show ke L (j+1)=B
        rw [ij HG.o a3.o,hB,hv];rfl
       clear hB;have ak:(0:Int)≤(j:Int)+1:=by omega
       have af:(0:Int)<(j:Int)+1:=by omega
       have al:(j:Int)<(len:Int):=by omega
       have wj:IntKind.i64.wrap (j:Int)=(j:Int):=by rw [Dg];unfold wrap64;omega
       go_wp2_with fail
       have u:Bl wr wr.drew:=(Below.refl _ wr).drew;have x:b<wr.heap.size:=l' A hb.size;have m:CG (∀w',Bl wr w'→(w'.cell? ⟨b,f+j*5,none⟩=some (.string J)∧w'.cell? ⟨b,f+j*5+1,none⟩=some (iT N)∧w'.cell? ⟨b,f+j*5+2,none⟩=some (iT d')∧w'.cell? ⟨b,f+j*5+3,none⟩=some (.string T)∧w'.cell? ⟨b,f+j*5+4,none⟩=some (iT Z)∧w'.cell? ⟨b,f+(j+1)*5,none⟩=some (.string s)∧w'.cell? ⟨b,f+(j+1)*5+1,none⟩=some (iT q)∧w'.cell? ⟨b,f+(j+1)*5+2,none⟩=some (iT d)∧w'.cell? ⟨b,f+(j+1)*5+3,none⟩=some (.string t)∧w'.cell? ⟨b,f+(j+1)*5+4,none⟩=some (iT n)∧b<w'.heap.size)):=fun w' g=>⟨cell_later g a7,cell_later g a6,cell_later g ae,cell_later g a8,cell_later g ab,cell_later g X,cell_later g W,cell_later g g2,cell_later g U,cell_later g Y,l' x g.size⟩
       refine ez m u fun r=>?_
       refine aP 0 4 r ?_;refine aR 4 fun K hK=>?_
       go_simp;refine (R.o _).mono ?_;rintro e w1 ⟨rfl,b1⟩;have k1:Bl wr w1:=u.trans (b1.mono u.size);go_wp2_with fail
       refine hK.o _ _ (m.o _ k1) fun r=>?_
       (try go_frame);refine aP 5 14 r ?_;refine aR 19 fun K hK=>?_
       go_simp;refine (CL.o _).mono ?_;rintro e w2 ⟨rfl,b2⟩;have k2:Bl wr w2:=k1.trans (b2.mono k1.size);go_wp2_with fail
       refine hK.o _ _ (m.o _ k2) fun r=>?_
       (try go_frame);refine aP 20 3 r ?_;refine dN ?_;cases B with
       | true =>
        go_wp2;go_roundw
        case rel=>exact ⟨j+1+1,by omega,by go_num,hb.trans (k2.mono hb.size),iC y.o O.o⟩
        case measure=>simp [intOf];omega
       | false =>
        go_wp2;go_ret;exact ⟨ah (li (by rw [C.o];exact F) O.o).symm,hb.trans (k2.mono hb.size)⟩
  · go_wp2;go_ret;exact ⟨ah (lh y.o (by rw [C.o];omega)).symm,hb⟩
end Go.Proofs.YtpobkmjicbobdaaGreat
namespace Go.Proofs.YtpobkmjicbobdaaGreat
open Go.RowKit
set_option maxRecDepth 100000
set_option maxHeartbeats 1000000
theorem mf (a:Option Addr) (len O:Nat) (L:List ac) (w:World) (hL:ag w a len O L) :
 Calls Tryz.prog 188 #[.slice a len O] w fun e w'=>e=.returned (.bool (aI L))∧Bl w w':=by
 have H:CG (L.length=len):=hL.length;have aA:=hL.room;have a7:=hL.big;unfold maxLen at a7;have HL:=bO hL;clear hL;go_enter Tryz.func188,Tryz.ntmps188
 go_wp2;go_loopw [7] (fun i wr=>∃k:Nat,k≤len∧i=iT k∧Bl w wr∧iQ L k) (fun i _=>len - (intOf i).toNat)
 case atStart=>exact ⟨0,C3 _,rfl,Below.refl _ _,fun j hj=>absurd hj (DP _)⟩
 case round =>
  obtain ⟨k,hk,rfl,hb,I⟩:=hrel;have E:CG (iQ L k):=I;clear I;by_cases J:k<len
  · obtain ⟨b,A,rfl,F⟩:=HL.o.form (by omega);obtain ⟨s,q,d,t,n,hg,R,g0,g1,g2,g3,g4⟩:=HL.o.ent hb F k J;have HG:CG (L[k]?=some (s,q,d,t,n)):=hg;have hs:=R.1;simp only at hs;clear hg R;cases hv:cT s q d t n with
    | false =>
     have CE:CG (∀w,Calls Tryz.prog 33 #[.agg #[.string s,iT q,iT d,.string t,iT n]] w fun e w'=>e=.returned (.bool false)∧Bl w w'):=by rw [← hv];exact fun w=>vJ s t q d n w hs
     go_wp2_with fail
     obtain ⟨X,r⟩:=aH wr.heap.size;obtain ⟨W,f⟩:=aH (wr.alloc (.cells #[.string s,iT q,iT d,.string t,iT n] 50));have x0:W.cell? ⟨X,0,none⟩=some (.string s):=by rw [f,r];simp
     have x1:W.cell? ⟨X,1,none⟩=some (iT q):=by rw [f,r];simp
     have x2:W.cell? ⟨X,2,none⟩=some (iT d):=by rw [f,r];simp
     have Y:W.cell? ⟨X,3,none⟩=some (.string t):=by rw [f,r];simp
     have x4:W.cell? ⟨X,4,none⟩=some (iT n):=by rw [f,r];simp
     have y:Bl wr W:=by rw [f];exact bZ
     have D:b<wr.heap.size:=l' F hb.size;have N:b<W.heap.size:=l' D y.size;have u:CG (Bl w W):=hb.trans (y.mono hb.size);rw [← f,← r];clear f r y;have C:Bl W W.drew:=(Below.refl _ W).drew;have m:CG (∀w',Bl W w'→(w'.cell? ⟨X,0,none⟩=some (.string s)∧w'.cell? ⟨X,1,none⟩=some (iT q)∧w'.cell? ⟨X,2,none⟩=some (iT d)∧w'.cell? ⟨X,3,none⟩=some (.string t)∧w'.cell? ⟨X,4,none⟩=some (iT n)∧X<w'.heap.size)):=fun w' g=>⟨cell_later g x0,cell_later g x1,cell_later g x2,cell_later g Y,cell_later g x4,Cz _ _ (cell_later g x0)⟩
     refine ez m C fun x=>?_
     refine aP 0 1 x ?_;refine aR 1 fun K hK=>?_
     go_simp;refine (CE.o _).mono ?_;rintro e w1 ⟨rfl,b1⟩;have k1:Bl W w1:=C.trans (b1.mono C.size);go_wp2_with fail
     refine hK.o _ _ (m.o _ k1) fun x=>?_
     (try go_frame);refine aP 2 11 x ?_;refine aR 13 fun K hK=>?_
     go_simp;refine hK.o _ _ (m.o _ k1) fun x=>?_
     (try go_frame);refine aP 14 3 x ?_;refine dN ?_;go_wp2;go_ret;exact ⟨ah (li (by rw [H.o];exact J) (oo HG.o hv)).symm,u.o.trans (k1.mono u.o.size)⟩
    | true =>
     have CE:CG (∀w,Calls Tryz.prog 33 #[.agg #[.string s,iT q,iT d,.string t,iT n]] w fun e w'=>e=.returned (.bool true)∧Bl w w'):=by rw [← hv];exact fun w=>vJ s t q d n w hs
     by_cases ai:k=0
     · subst ai;simp only [EO,DS] at g0 g1 g2 g3 g4;go_wp2_with fail
       obtain ⟨X,r⟩:=aH wr.heap.size;obtain ⟨W,f⟩:=aH (wr.alloc (.cells #[.string s,iT q,iT d,.string t,iT n] 50));have x0:W.cell? ⟨X,0,none⟩=some (.string s):=by rw [f,r];simp
       have x1:W.cell? ⟨X,1,none⟩=some (iT q):=by rw [f,r];simp
       have x2:W.cell? ⟨X,2,none⟩=some (iT d):=by rw [f,r];simp
       have Y:W.cell? ⟨X,3,none⟩=some (.string t):=by rw [f,r];simp
       have x4:W.cell? ⟨X,4,none⟩=some (iT n):=by rw [f,r];simp
       have y:Bl wr W:=by rw [f];exact bZ
       have D:b<wr.heap.size:=l' F hb.size;have N:b<W.heap.size:=l' D y.size;have u:CG (Bl w W):=hb.trans (y.mono hb.size);rw [← f,← r];clear f r y;have C:Bl W W.drew:=(Below.refl _ W).drew;have m:CG (∀w',Bl W w'→(w'.cell? ⟨X,0,none⟩=some (.string s)∧w'.cell? ⟨X,1,none⟩=some (iT q)∧w'.cell? ⟨X,2,none⟩=some (iT d)∧w'.cell? ⟨X,3,none⟩=some (.string t)∧w'.cell? ⟨X,4,none⟩=some (iT n)∧X<w'.heap.size)):=fun w' g=>⟨cell_later g x0,cell_later g x1,cell_later g x2,cell_later g Y,cell_later g x4,Cz _ _ (cell_later g x0)⟩
       refine ez m C fun x=>?_
       refine aP 0 1 x ?_;refine aR 1 fun K hK=>?_
       go_simp;refine (CE.o _).mono ?_;rintro e w1 ⟨rfl,b1⟩;have k1:Bl W w1:=C.trans (b1.mono C.size);go_wp2_with fail
       refine hK.o _ _ (m.o _ k1) fun x=>?_
       (try go_frame);refine aP 2 11 x ?_;refine aR 13 fun K hK=>?_
       go_simp;refine hK.o _ _ (m.o _ k1) fun x=>?_
       (try go_frame);refine aP 14 3 x ?_;refine dN ?_;go_wp2;go_roundw
       case rel=>exact ⟨1,by omega,by go_num,u.o.trans (k1.mono u.o.size),iC E.o (by rw [jC HG.o];exact hv)⟩
       case measure=>simp [intOf];omega
     · obtain ⟨j,rfl⟩:∃j,k=j+1:=⟨k - 1,by omega⟩;obtain ⟨T,U,d',t',n',Q,a2,ae,ad,ak,af,aj⟩:=HL.o.ent hb F j (by omega);have a8:CG (L[j]?=some (T,U,d',t',n')):=Q;clear Q a2;obtain ⟨B,hB⟩:=aH (bo T U s q);have CL:CG (∀w,Calls Tryz.prog 203 #[.agg #[.string T,iT U,iT d',.string t',iT n'],.agg #[.string s,iT q,iT d,.string t,iT n]] w fun e w'=>e=.returned (.bool B)∧Bl w w'):=by rw [hB];exact fun w=>zw T t' s t U d' n' q d n w
       have Z:CG (ke L (j+1)=B):=by
        show ke L (j+1)=B
        rw [ij HG.o a8.o,hB,hv];rfl
       clear hB;have ax:(0:Int)≤(j:Int)+1:=by omega
       have al:(0:Int)<(j:Int)+1:=by omega
       have ay:(j:Int)<(len:Int):=by omega
       have wj:IntKind.i64.wrap (j:Int)=(j:Int):=by rw [Dg];unfold wrap64;omega
       go_wp2_with fail
       obtain ⟨X,r⟩:=aH wr.heap.size;obtain ⟨W,f⟩:=aH (wr.alloc (.cells #[.string s,iT q,iT d,.string t,iT n] 50));have x0:W.cell? ⟨X,0,none⟩=some (.string s):=by rw [f,r];simp
       have x1:W.cell? ⟨X,1,none⟩=some (iT q):=by rw [f,r];simp
       have x2:W.cell? ⟨X,2,none⟩=some (iT d):=by rw [f,r];simp
       have Y:W.cell? ⟨X,3,none⟩=some (.string t):=by rw [f,r];simp
       have x4:W.cell? ⟨X,4,none⟩=some (iT n):=by rw [f,r];simp
       have y:Bl wr W:=by rw [f];exact bZ
       have D:b<wr.heap.size:=l' F hb.size;have N:b<W.heap.size:=l' D y.size;have y0:=cell_later y ae;have y1:=cell_later y ad;have y2:=cell_later y ak;have y3:=cell_later y af;have y4:=cell_later y aj;have u:CG (Bl w W):=hb.trans (y.mono hb.size);rw [← f,← r];clear f r y;have C:Bl W W.drew:=(Below.refl _ W).drew;have m:CG (∀w',Bl W w'→(w'.cell? ⟨X,0,none⟩=some (.string s)∧w'.cell? ⟨X,1,none⟩=some (iT q)∧w'.cell? ⟨X,2,none⟩=some (iT d)∧w'.cell? ⟨X,3,none⟩=some (.string t)∧w'.cell? ⟨X,4,none⟩=some (iT n)∧X<w'.heap.size∧w'.cell? ⟨b,A+j*5,none⟩=some (.string T)∧w'.cell? ⟨b,A+j*5+1,none⟩=some (iT U)∧w'.cell? ⟨b,A+j*5+2,none⟩=some (iT d')∧w'.cell? ⟨b,A+j*5+3,none⟩=some (.string t')∧w'.cell? ⟨b,A+j*5+4,none⟩=some (iT n')∧b<w'.heap.size)):=fun w' g=>⟨cell_later g x0,cell_later g x1,cell_later g x2,cell_later g Y,cell_later g x4,Cz _ _ (cell_later g x0),cell_later g y0,cell_later g y1,cell_later g y2,cell_later g y3,cell_later g y4,l' N g.size⟩
       refine ez m C fun x=>?_
       refine aP 0 1 x ?_;refine aR 1 fun K hK=>?_
       go_simp;refine (CE.o _).mono ?_;rintro e w1 ⟨rfl,b1⟩;have k1:Bl W w1:=C.trans (b1.mono C.size);go_wp2_with fail
       refine hK.o _ _ (m.o _ k1) fun x=>?_
       (try go_frame);refine aP 2 11 x ?_;refine aR 13 fun K hK=>?_
       go_simp;refine (CL.o _).mono ?_;rintro e w2 ⟨rfl,b2⟩;have k2:Bl W w2:=k1.trans (b2.mono k1.size);go_wp2_with fail
       refine hK.o _ _ (m.o _ k2) fun x=>?_
       (try go_frame);refine aP 14 3 x ?_;refine dN ?_;cases B with
       | true =>
        go_wp2;go_roundw
        case rel=>exact ⟨j+1+1,by omega,by go_num,u.o.trans (k2.mono u.o.size),iC E.o Z.o⟩
        case measure=>simp [intOf];omega
       | false =>
        go_wp2;go_ret;exact ⟨ah (li (by rw [H.o];exact J) Z.o).symm,u.o.trans (k2.mono u.o.size)⟩
  · go_wp2;go_ret;exact ⟨ah (lh E.o (by rw [H.o];omega)).symm,hb⟩
end Go.Proofs.YtpobkmjicbobdaaGreat
namespace Go.Proofs.YtpobkmjicbobdaaGreat
open Go.RowKit
set_option maxRecDepth 100000
set_option maxHeartbeats 1000000
theorem wQ (a:Option Addr) (len b:Nat) (L:List ac) (m:Int) (w:World) (hL:ag w a len b L) :
 Calls Tryz.prog 145 #[.agg #[.slice a len b,iT m]] w fun e w'=>e=.returned (.bool (ch L m))∧Bl w w':=by
 have r:CG (L.length=len):=hL.length;have N:=hL.room;have D:=hL.big;unfold maxLen at D;obtain ⟨X,u⟩:=aH w.heap.size;obtain ⟨W,s⟩:=aH (w.alloc (.cells #[.slice a len b,iT m] 63));have x0:W.cell? ⟨X,0,none⟩=some (.slice a len b):=by rw [s,u];simp
 have x1:W.cell? ⟨X,1,none⟩=some (iT m):=by rw [s,u];simp
 have F:Bl w W:=by rw [s];exact bZ
 have A:ag W a len b L:=hL.keep F;have n:Bl W W.drew:=(Below.refl _ W).drew;have g:CG (Bl w W):=F;have I:CG (∀w',Bl W w'→Calls Tryz.prog 201 #[.slice a len b] w' fun e t=>e=.returned (iT ((cV L:Nat):Int))∧Bl w' t):=fun w' x=>lV a len b L w' (A.keep x)
 have d:CG (∀w',Bl W w'→(w'.cell? ⟨X,0,none⟩=some (.slice a len b)∧w'.cell? ⟨X,1,none⟩=some (iT m)∧X<w'.heap.size)):=fun w' x=>⟨cell_later x x0,cell_later x x1,Cz _ _ (cell_later x x0)⟩
 have C:CG (ag W a len b L):=A;clear F hL A;by_cases h1:len<1
 · have y:¬(1:Int)≤(len:Int):=by omega
   have H:decide ((1:Int)≤(len:Int))=false:=decide_eq_false y;go_enter Tryz.func145,Tryz.ntmps145
   go_wp2_with fail
   rw [← s,← u];clear s u;refine ez d n fun f=>?_
   refine aP 0 13 f ?_;refine aR 13 fun K hK=>?_
   go_simp;refine hK.o _ _ (d.o _ n) fun f=>?_
   (try go_frame);refine aP 14 6 f ?_;refine aR 20 fun K hK=>?_
   go_simp;refine hK.o _ _ (d.o _ n) fun f=>?_
   (try go_frame);refine aP 21 3 f ?_;refine dN ?_;go_wp2;go_ret;exact ⟨ah (sR (by rw [r.o];exact h1)).symm,g.o.trans (n.mono g.o.size)⟩
 by_cases h2:150<len
 · have y:(1:Int)≤(len:Int):=by omega
   have B:¬(len:Int)≤150:=by omega
   have J:decide ((len:Int)≤150)=false:=decide_eq_false B;go_enter Tryz.func145,Tryz.ntmps145
   go_wp2_with fail
   rw [← s,← u];clear s u;refine ez d n fun f=>?_
   refine aP 0 13 f ?_;refine aR 13 fun K hK=>?_
   go_simp;refine hK.o _ _ (d.o _ n) fun f=>?_
   (try go_frame);refine aP 14 6 f ?_;refine aR 20 fun K hK=>?_
   go_simp;refine hK.o _ _ (d.o _ n) fun f=>?_
   (try go_frame);refine aP 21 3 f ?_;refine dN ?_;go_wp2;go_ret;exact ⟨ah (p5 (by rw [r.o];exact h2)).symm,g.o.trans (n.mono g.o.size)⟩
 have y:(1:Int)≤(len:Int):=by omega
 have B:(len:Int)≤150:=by omega
 cases hr:aI L with
 | false =>
  have E:CG (∀w',Bl W w'→Calls Tryz.prog 87 #[.slice a len b] w' fun e t=>e=.returned (.bool false)∧Bl w' t):=by rw [← hr];exact fun w' x=>jt a len b L w' (C.o.keep x)
  go_enter Tryz.func145,Tryz.ntmps145
  go_wp2_with fail
  rw [← s,← u];clear s u;refine ez d n fun f=>?_
  refine aP 0 13 f ?_;refine aR 13 fun K hK=>?_
  go_simp;refine (E.o _ n).mono ?_;rintro e w1 ⟨rfl,b1⟩;have k1:Bl W w1:=n.trans (b1.mono n.size);go_wp2_with fail
  refine hK.o _ _ (d.o _ k1) fun f=>?_
  (try go_frame);refine aP 14 6 f ?_;refine aR 20 fun K hK=>?_
  go_simp;refine hK.o _ _ (d.o _ k1) fun f=>?_
  (try go_frame);refine aP 21 3 f ?_;refine dN ?_;go_wp2;go_ret;exact ⟨ah (nY hr).symm,g.o.trans (k1.mono g.o.size)⟩
 | true =>
  have E:CG (∀w',Bl W w'→Calls Tryz.prog 87 #[.slice a len b] w' fun e t=>e=.returned (.bool true)∧Bl w' t):=by rw [← hr];exact fun w' x=>jt a len b L w' (C.o.keep x)
  go_enter Tryz.func145,Tryz.ntmps145
  go_wp2_with fail
  rw [← s,← u];clear s u;refine ez d n fun f=>?_
  refine aP 0 13 f ?_;refine aR 13 fun K hK=>?_
  go_simp;refine (E.o _ n).mono ?_;rintro e w1 ⟨rfl,b1⟩;have k1:Bl W w1:=n.trans (b1.mono n.size);go_wp2_with fail
  refine hK.o _ _ (d.o _ k1) fun f=>?_
  (try go_frame);refine aP 14 6 f ?_;refine aR 20 fun K hK=>?_
  go_simp;refine (I.o _ k1).mono ?_;rintro e w2 ⟨rfl,b2⟩;have k2:Bl W w2:=k1.trans (b2.mono k1.size);go_wp2_with fail
  refine hK.o _ _ (d.o _ k2) fun f=>?_
  (try go_frame);refine aP 21 3 f ?_;refine dN ?_;go_wp2;go_ret;refine ⟨ah ?_,g.o.trans (k2.mono g.o.size)⟩;rw [pZ (by rw [r.o];omega) (by rw [r.o];omega) hr];first | rfl | (rw [Bool.eq_iff_iff];simp)
theorem qs (a:Option Addr) (len b:Nat) (L:List ac) (m:Int) (w:World) (hL:ag w a len b L) :
 Calls Tryz.prog 209 #[.agg #[.slice a len b,iT m]] w fun e w'=>e=.returned (.bool (ch L m))∧Bl w w':=by
 have r:CG (L.length=len):=hL.length;have N:=hL.room;have D:=hL.big;unfold maxLen at D;obtain ⟨X,u⟩:=aH w.heap.size;obtain ⟨W,s⟩:=aH (w.alloc (.cells #[.slice a len b,iT m] 63));have x0:W.cell? ⟨X,0,none⟩=some (.slice a len b):=by rw [s,u];simp
 have x1:W.cell? ⟨X,1,none⟩=some (iT m):=by rw [s,u];simp
 have F:Bl w W:=by rw [s];exact bZ
 have A:ag W a len b L:=hL.keep F;have n:Bl W W.drew:=(Below.refl _ W).drew;have g:CG (Bl w W):=F;have I:CG (∀w',Bl W w'→Calls Tryz.prog 219 #[.slice a len b] w' fun e t=>e=.returned (iT ((cV L:Nat):Int))∧Bl w' t):=fun w' x=>xF a len b L w' (A.keep x)
 have d:CG (∀w',Bl W w'→(w'.cell? ⟨X,0,none⟩=some (.slice a len b)∧w'.cell? ⟨X,1,none⟩=some (iT m)∧X<w'.heap.size)):=fun w' x=>⟨cell_later x x0,cell_later x x1,Cz _ _ (cell_later x x0)⟩
 have C:CG (ag W a len b L):=A;clear F hL A;by_cases h1:len<1
 · have y:¬(1:Int)≤(len:Int):=by omega
   have H:decide ((1:Int)≤(len:Int))=false:=decide_eq_false y;go_enter Tryz.func209,Tryz.ntmps209
   go_wp2_with fail
   rw [← s,← u];clear s u;refine ez d n fun f=>?_
   refine aP 0 13 f ?_;refine aR 13 fun K hK=>?_
   go_simp;refine hK.o _ _ (d.o _ n) fun f=>?_
   (try go_frame);refine aP 14 6 f ?_;refine aR 20 fun K hK=>?_
   go_simp;refine hK.o _ _ (d.o _ n) fun f=>?_
   (try go_frame);refine aP 21 3 f ?_;refine dN ?_;go_wp2;go_ret;exact ⟨ah (sR (by rw [r.o];exact h1)).symm,g.o.trans (n.mono g.o.size)⟩
 by_cases h2:150<len
 · have y:(1:Int)≤(len:Int):=by omega
   have B:¬(len:Int)≤150:=by omega
   have J:decide ((len:Int)≤150)=false:=decide_eq_false B;go_enter Tryz.func209,Tryz.ntmps209
   go_wp2_with fail
   rw [← s,← u];clear s u;refine ez d n fun f=>?_
   refine aP 0 13 f ?_;refine aR 13 fun K hK=>?_
   go_simp;refine hK.o _ _ (d.o _ n) fun f=>?_
   (try go_frame);refine aP 14 6 f ?_;refine aR 20 fun K hK=>?_
   go_simp;refine hK.o _ _ (d.o _ n) fun f=>?_
   (try go_frame);refine aP 21 3 f ?_;refine dN ?_;go_wp2;go_ret;exact ⟨ah (p5 (by rw [r.o];exact h2)).symm,g.o.trans (n.mono g.o.size)⟩
 have y:(1:Int)≤(len:Int):=by omega
 have B:(len:Int)≤150:=by omega
 cases hr:aI L with
 | false =>
  have E:CG (∀w',Bl W w'→Calls Tryz.prog 188 #[.slice a len b] w' fun e t=>e=.returned (.bool false)∧Bl w' t):=by rw [← hr];exact fun w' x=>mf a len b L w' (C.o.keep x)
  go_enter Tryz.func209,Tryz.ntmps209
  go_wp2_with fail
  rw [← s,← u];clear s u;refine ez d n fun f=>?_
  refine aP 0 13 f ?_;refine aR 13 fun K hK=>?_
  go_simp;refine (E.o _ n).mono ?_;rintro e w1 ⟨rfl,b1⟩;have k1:Bl W w1:=n.trans (b1.mono n.size);go_wp2_with fail
  refine hK.o _ _ (d.o _ k1) fun f=>?_
  (try go_frame);refine aP 14 6 f ?_;refine aR 20 fun K hK=>?_
  go_simp;refine hK.o _ _ (d.o _ k1) fun f=>?_
  (try go_frame);refine aP 21 3 f ?_;refine dN ?_;go_wp2;go_ret;exact ⟨ah (nY hr).symm,g.o.trans (k1.mono g.o.size)⟩
 | true =>
  have E:CG (∀w',Bl W w'→Calls Tryz.prog 188 #[.slice a len b] w' fun e t=>e=.returned (.bool true)∧Bl w' t):=by rw [← hr];exact fun w' x=>mf a len b L w' (C.o.keep x)
  go_enter Tryz.func209,Tryz.ntmps209
  go_wp2_with fail
  rw [← s,← u];clear s u;refine ez d n fun f=>?_
  refine aP 0 13 f ?_;refine aR 13 fun K hK=>?_
  go_simp;refine (E.o _ n).mono ?_;rintro e w1 ⟨rfl,b1⟩;have k1:Bl W w1:=n.trans (b1.mono n.size);go_wp2_with fail
  refine hK.o _ _ (d.o _ k1) fun f=>?_
  (try go_frame);refine aP 14 6 f ?_;refine aR 20 fun K hK=>?_
  go_simp;refine (I.o _ k1).mono ?_;rintro e w2 ⟨rfl,b2⟩;have k2:Bl W w2:=k1.trans (b2.mono k1.size);go_wp2_with fail
  refine hK.o _ _ (d.o _ k2) fun f=>?_
  (try go_frame);refine aP 21 3 f ?_;refine dN ?_;go_wp2;go_ret;refine ⟨ah ?_,g.o.trans (k2.mono g.o.size)⟩;rw [pZ (by rw [r.o];omega) (by rw [r.o];omega) hr];first | rfl | (rw [Bool.eq_iff_iff];simp)
end Go.Proofs.YtpobkmjicbobdaaGreat
namespace Go.Proofs.YtpobkmjicbobdaaGreat
set_option maxRecDepth 100000
set_option maxHeartbeats 40000000
open Go.RowKit
theorem nL (a:Option Addr) (n c:Nat) (M:List ac) (q:Int) (w:World) (h:ag w a n c M) :
 Calls Tryz.prog 88 #[.slice a n c,iT q] w fun e w'=>e=.returned (.bool (bJ M q))∧w'=w:=by
 have hr:=h.room;have g:=h.big;unfold maxLen at g;have r:CG (M.length=n):=h.length;have H:=bO h;clear h;go_enter Tryz.func88,Tryz.ntmps88
 go_wp2;go_loopw [5] (fun i wr=>∃k:Nat,k≤n∧i=iT k∧wr=w∧bJ (M.take k) q=true) (fun i _=>n - (intOf i).toNat)
 case atStart=>exact ⟨0,C3 _,rfl,rfl,by simp [bJ]⟩
 case round =>
  obtain ⟨k,hk,rfl,rfl,hw⟩:=hrel;have y:CG (bJ (M.take k) q=true):=hw;clear hw;by_cases m:k<n
  · have A:(k:Int)<(n:Int):=by omega
    obtain ⟨b,C,rfl,u⟩:=H.o.form (by omega);obtain ⟨s,x,d,t,nn,hg,_,D,J,I,F,E⟩:=H.o.ent (Below.refl _ wr) u k m;have B:CG (M[k]?=some (s,x,d,t,nn)):=hg;clear hg;by_cases hq:q<x
    · go_wp2;go_ret;exact ⟨ah (ww B.o (by simp only;omega)).symm,rfl⟩
    · go_wp2;go_roundw
      case rel=>exact ⟨k+1,by omega,by go_num,by first | rfl | trivial,rW y.o B.o (by simp only;omega)⟩
      case measure=>simp [intOf];omega
  · go_wp2;go_ret;have f:=y.o;rw [C9 (by rw [r.o];omega)] at f;exact ⟨ah f.symm,rfl⟩
theorem xC (O:Nat) (a:Option Addr) (n c:Nat) (S:List Int) (q:Int) (w:World) (h:bQ O w a n c S) :
 Calls Tryz.prog 196 #[.slice a n c,iT q] w fun e w'=>e=.returned (.bool (b9 S q))∧w'=w:=by
 have hr:=h.room;have A:=h.big;unfold maxLen at A;have d:CG (S.length=n):=h.length;have H:=bO h;clear h;by_cases hm:4<n
 · go_enter Tryz.func196,Tryz.ntmps196
   go_wp2;go_ret;exact ⟨ah (ur (by rw [d.o];exact hm)).symm,rfl⟩
 go_enter Tryz.func196,Tryz.ntmps196
 go_wp2;go_loopw [12] (fun i wr=>∃k:Nat,k≤n∧i=iT k∧wr=w∧iO S q k) (fun i _=>n - (intOf i).toNat)
 case atStart=>exact ⟨0,C3 _,rfl,rfl,fun j W=>absurd W (DP _)⟩
 case round =>
  obtain ⟨k,hk,rfl,rfl,hw⟩:=hrel;have D:CG (iO S q k):=hw;clear hw;by_cases x:k<n
  · have J:(k:Int)<(n:Int):=by omega
    have u:k<S.length:=by rw [d.o];exact x
    have g:CG (k<S.length):=u;clear u;obtain ⟨b,Q,rfl,U⟩:=H.o.form (by omega);obtain ⟨s,hg,_,K⟩:=H.o.num (Below.refl _ wr) k x;have y:CG (S[k]?=some s):=hg;clear hg;by_cases B:s<0
    · go_wp2;go_ret;exact ⟨ah (ic g.o (sP y.o B)).symm,rfl⟩
    by_cases E:q<s
    · go_wp2;go_ret;exact ⟨ah (ic g.o (pW y.o E)).symm,rfl⟩
    by_cases I:k=0
    · subst I;simp only [DS] at K;have r:CG (cF S q 0=true):=by show cF S q 0=true;rw [lW y.o,decide_eq_true (show 0≤s by omega),decide_eq_true (show s≤q by omega)];rfl
      go_wp2;go_roundw
      case rel=>exact ⟨0+1,by omega,by go_num,by first | rfl | trivial,iy D.o r.o⟩
      case measure=>simp [intOf];omega
    · have L:(0:Int)<(k:Int):=by omega
      have T:(0:Int)≤(k:Int) - 1:=by omega
      have N:(k:Int) - 1<(n:Int):=by omega
      have C:((k:Int) - 1).toNat=k - 1:=by omega
      have X:IntKind.i64.wrap ((k:Int) - 1)=(k:Int) - 1:=by rw [Dg];unfold wrap64;omega
      obtain ⟨p,hp,_,R⟩:=H.o.num (Below.refl _ wr) (k - 1) (by omega);obtain ⟨j,rfl⟩:∃j,k=j+1:=⟨k - 1,by omega⟩;simp only [DU] at hp R C;have m:=jw (q:=q) y.o hp;have f:CG (cF S q (j+1)=(decide (0≤s) && (decide (s≤q) && decide (p<s)))):=m;clear hp m;by_cases t:p<s
      · have r:CG (cF S q (j+1)=true):=by show cF S q (j+1)=true;rw [f.o,decide_eq_true (show 0≤s by omega),decide_eq_true (show s≤q by omega),decide_eq_true t];rfl
        go_wp2;go_roundw
        case rel=>exact ⟨j+1+1,by omega,by go_num,by first | rfl | trivial,iy D.o r.o⟩
        case measure=>simp [intOf];omega
      · have r:CG (cF S q (j+1)=false):=by show cF S q (j+1)=false;rw [f.o,decide_eq_false t];simp
        go_wp2;go_ret;exact ⟨ah (ic g.o r.o).symm,rfl⟩
  · go_wp2;go_ret;refine ⟨ah ?_,rfl⟩;have F:k=S.length:=by rw [d.o];omega
    have hw:=D.o;rw [F] at hw;rw [pV hw,decide_eq_true (by rw [d.o];omega)]
theorem vw (m:Int) (b f n c:Nat) (L:List ac) (w:World) (h:ag w (some ⟨b,f,none⟩) n c L) (e:ac) (h0:L[0]?=some e) :
 Calls Tryz.prog 147 #[.agg #[sO b f n c,iT m]] w fun r w'=>r=.returned (.string e.1)∧Bl w w':=by
 have hl:=(Cx.1 h0).1;rw [h.length] at hl;have x:(0:Int)<(n:Int):=by omega
 have o:Bl w (w.alloc (.cells #[sO b f n c,iT m] 63)):=bZ;have g:=(h.lies _ rfl hl).1;simp only at g;obtain ⟨s,q,d,t,nn,hg,_,u,_⟩:=h.ent (Below.refl _ w) g 0 hl;rw [h0] at hg;cases hg;simp only [EO,DS] at u;clear h h0;go_enter Tryz.func147,Tryz.ntmps147
 go_wp2;go_ret;exact ⟨rfl,o⟩
theorem sF (m:Int) (b f n c:Nat) (L:List ac) (w:World) (h:ag w (some ⟨b,f,none⟩) n c L) (e:ac) (h0:L[n - 1]?=some e) (hn:1≤n) :
 Calls Tryz.prog 146 #[.agg #[sO b f n c,iT m]] w fun r w'=>r=.returned (.string e.1)∧Bl w w':=by
 have hr:=h.room;have o:=h.big;unfold maxLen at o;have x:(0:Int)≤(n:Int) - 1:=by omega
 have y:(n:Int) - 1<(n:Int):=by omega
 have u:((n:Int) - 1).toNat=n - 1:=by omega
 have C:IntKind.i64.wrap ((n:Int) - 1)=(n:Int) - 1:=by rw [Dg];unfold wrap64;omega
 have A:Bl w (w.alloc (.cells #[sO b f n c,iT m] 63)):=bZ;have g:=(h.lies _ rfl (by omega)).1;simp only at g;obtain ⟨s,q,d,t,nn,hg,_,B,_⟩:=h.ent (Below.refl _ w) g (n - 1) (by omega);rw [h0] at hg;cases hg;clear h h0;go_enter Tryz.func146,Tryz.ntmps146
 go_wp2;go_ret;exact ⟨rfl,A⟩
theorem xD (m:Int) (a:Option Addr) (n c:Nat) (L:List ac) (w:World) (h:ag w a n c L) :
 Calls Tryz.prog 233 #[.agg #[.slice a n c,iT m]] w fun r w'=>r=.returned (.bool (!ch L m))∧Bl w w':=by
 have b:Bl w (w.alloc (.cells #[.slice a n c,iT m] 63)):=bZ;go_enter Tryz.func233,Tryz.ntmps233
 go_wp2_with fail
 refine (qs _ _ _ L m _ (h.keep b)).mono ?_;rintro e f ⟨rfl,d⟩;go_wp2;go_ret;exact ⟨rfl,b.trans (d.mono b.size)⟩
theorem wO (q:Int) (lo:Nat) (v0 v1:Value) (a:Option Addr) (n c:Nat) (S:List Int) (w:World) (h:bQ lo w a n c S) :
 Calls Tryz.prog 89 #[.agg #[iT q,v0,v1,.slice a n c]] w fun e w'=>e=.returned (.bool (b9 S q))∧Bl w w':=by
 have hr:=h.room;have a1:=h.big;unfold maxLen at a1;have C:CG (S.length=n):=h.length;obtain ⟨X,hX⟩:=aH w.heap.size;obtain ⟨W,J⟩:=aH (w.alloc (.cells #[iT q,v0,v1,.slice a n c] 31));have kW:Bl w W:=by rw [J];exact bZ
 have x0:W.cell? ⟨X,0,none⟩=some (iT q):=by rw [J,hX];simp
 have x3:W.cell? ⟨X,3,none⟩=some (.slice a n c):=by rw [J,hX];simp
 have H:CG (bQ lo W a n c S):=h.keep kW;have KW:CG (Bl w W):=kW;have zx:=Cz _ _ x0;simp only at zx;have Z:CG (∀e w',(e=Ending.returned (.bool (b9 S q))∧Bl W w')→e=Ending.returned (.bool (b9 S q))∧Bl w w'):=fun e w' hh=>⟨hh.1,KW.o.trans (hh.2.mono KW.o.size)⟩
 clear h kW;go_enter Tryz.func89,Tryz.ntmps89
 go_upto_block 0 with fail
 rw [← hX,← J];clear hX J;go_wp2;go_loopw [3] (fun i wr=>∃k:Nat,k≤n∧i=iT k∧Bl W wr∧iO S q k) (fun i _=>n - (intOf i).toNat)
 case atStart=>exact ⟨0,C3 _,rfl,Below.refl _ _,fun j hj=>absurd hj (DP _)⟩
 case round =>
  obtain ⟨k,hk,rfl,hb,hw⟩:=hrel;have HW:CG (iO S q k):=hw;have Y:CG (Bl W wr):=hb;have y0:=cell_later hb x0;have y3:=cell_later hb x3;have zy:=Cz _ _ y0;simp only at zy;clear hw;by_cases I:k<n
  · have O:(k:Int)<(n:Int):=by omega
    have F:k<S.length:=by rw [C.o];exact I
    have A:CG (k<S.length):=F;clear F;obtain ⟨b,m,rfl,a9⟩:=H.o.form (by omega);obtain ⟨s,hg,_,g0⟩:=H.o.num hb k I;have U:CG (S[k]?=some s):=hg;have zb:=l' a9 hb.size;have r:Bl wr wr.drew:=(Below.refl _ wr).drew;have d:CG (∀w',Bl wr w'→(w'.cell? ⟨X,0,none⟩=some (iT q)∧w'.cell? ⟨X,3,none⟩=some (sO b m n c)∧X<w'.heap.size∧w'.cell? ⟨b,m+k,none⟩=some (iT s)∧b<w'.heap.size)):=fun w' g=>⟨cell_later g y0,cell_later g y3,l' zy g.size,cell_later g g0,l' zb g.size⟩
    have T:CG (Bl W wr.drew):=Y.o.trans (r.mono Y.o.size);clear hg hb;by_cases y:s<0
    · have D:decide (s<0)=true:=decide_eq_true y;go_wp2_with fail
      refine ez d r fun f=>?_
      refine aP 0 34 f ?_;refine dN ?_;clear r d f;go_wp2;go_ret;exact Z.o _ _ ⟨ah (ic A.o (sP U.o y)).symm,T.o⟩
    have D:decide (s<0)=false:=decide_eq_false y;by_cases B:q<s
    · have N:decide (q<s)=true:=decide_eq_true B;go_wp2_with fail
      refine ez d r fun f=>?_
      refine aP 0 34 f ?_;refine dN ?_;clear r d f;go_wp2;go_ret;exact Z.o _ _ ⟨ah (ic A.o (pW U.o B)).symm,T.o⟩
    have N:decide (q<s)=false:=decide_eq_false B;by_cases a4:k=0
    · subst a4;simp only [DS] at g0 d;have E:CG (cF S q 0=true):=by show cF S q 0=true;rw [lW U.o,decide_eq_true (show 0≤s by omega),decide_eq_true (show s≤q by omega)];rfl
      go_wp2_with fail
      refine ez d r fun f=>?_
      refine aP 0 34 f ?_;refine dN ?_;clear r d f;go_wp2;go_roundw
      case rel=>exact ⟨0+1,by omega,by go_num,T.o,iy HW.o E.o⟩
      case measure=>simp [intOf];omega
    · have aj:(0:Int)<(k:Int):=by omega
      have R:0<k:=by omega
      have af:decide (0<k)=true:=decide_eq_true R;have aq:(0:Int)≤(k:Int) - 1:=by omega
      have ao:(k:Int) - 1<(n:Int):=by omega
      have ap:(1:Int)≤(k:Int):=by omega
      have ai:((k:Int) - 1).toNat=k - 1:=by omega
      have wj:IntKind.i64.wrap ((k:Int) - 1)=(k:Int) - 1:=by rw [Dg];unfold wrap64;omega
      obtain ⟨p,hp,_,e0⟩:=H.o.num Y.o (k - 1) (by omega);have u:CG (∀w',Bl wr w'→(w'.cell? ⟨X,0,none⟩=some (iT q)∧w'.cell? ⟨X,3,none⟩=some (sO b m n c)∧X<w'.heap.size∧w'.cell? ⟨b,m+k,none⟩=some (iT s)∧b<w'.heap.size∧w'.cell? ⟨b,m+(k - 1),none⟩=some (iT p))):=fun w' g=>⟨cell_later g y0,cell_later g y3,l' zy g.size,cell_later g g0,l' zb g.size,cell_later g e0⟩
      have L:CG (cF S q k=(decide (0≤s) && (decide (s≤q) && decide (p<s)))):=by
       obtain ⟨j,rfl⟩:∃j,k=j+1:=⟨k - 1,by omega⟩;exact jw U.o hp
      clear hp d;by_cases Q:p<s
      · have E:CG (cF S q k=true):=by show cF S q k=true;rw [L.o,decide_eq_true (show 0≤s by omega),decide_eq_true (show s≤q by omega),decide_eq_true Q];rfl
        have t:¬s≤p:=by omega
        have K:decide (s≤p)=false:=decide_eq_false t;go_wp2_with fail
        refine ez u r fun f=>?_
        refine aP 0 34 f ?_;refine dN ?_;clear r u f;go_wp2;go_roundw
        case rel=>exact ⟨k+1,by omega,by go_num,T.o,iy HW.o E.o⟩
        case measure=>simp [intOf];omega
      · have E:CG (cF S q k=false):=by show cF S q k=false;rw [L.o,decide_eq_false Q];simp
        have t:s≤p:=by omega
        have K:decide (s≤p)=true:=decide_eq_true t;go_wp2_with fail
        refine ez u r fun f=>?_
        refine aP 0 34 f ?_;refine dN ?_;clear r u f;go_wp2;go_ret;exact Z.o _ _ ⟨ah (ic A.o E.o).symm,T.o⟩
  · have O:¬(k:Int)<(n:Int):=by omega
    have x:b9 S q=decide ((n:Int)≤4):=by
     have a6:k=S.length:=by rw [C.o];omega
     have hw:=HW.o;rw [a6] at hw;rw [pV hw,C.o];by_cases h4:n≤4
     · rw [decide_eq_true h4,decide_eq_true (by omega)]
     · rw [decide_eq_false h4,decide_eq_false (by omega)]
    have a8:CG (b9 S q=decide ((n:Int)≤4)):=x;clear x;go_wp2;go_ret;exact Z.o _ _ ⟨ah a8.o.symm,Y.o⟩
end Go.Proofs.YtpobkmjicbobdaaGreat
