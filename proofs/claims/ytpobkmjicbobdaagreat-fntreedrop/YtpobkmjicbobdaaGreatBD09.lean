/- Walks. -/
import Derived.Laws.Cover1
import Derived.Lib.AppendZerosOnto
import Derived.Lib.AppendZeros
import Derived.Test.YtpobkmjicbobdaaGreatBD06
namespace Go.Proofs.YtpobkmjicbobdaaGreat
set_option maxRecDepth 100000
set_option maxHeartbeats 40000000
open Go.RowKit
variable {G T b base base' c c' cap d e g g' n size sz t:Nat} {V:List (List af)} {u0 u1 u2 u3:Value} {w w':World} {xs:List Value}
theorem ms (m:Int) (s:Option Addr) (n c:Nat) (L:List ac) (w:World) (h:aj w s n c L) (hn:1≤n) :
 Calls Tryz.prog 147 #[.agg #[.slice s n c,iT m]] w fun r w'=>r=.returned (.string (bh L))∧Bl w w':=by
 obtain ⟨b,f,rfl,_⟩:=h.form hn;have hg:=j' (show 0<L.length by have:=h.length;omega);have:=yN m b f n c L w h _ hg;unfold bh;rw [hg];exact this
theorem ss (m:Int) (s:Option Addr) (n c:Nat) (L:List ac) (w:World) (h:aj w s n c L) (hn:1≤n) :
 Calls Tryz.prog 146 #[.agg #[.slice s n c,iT m]] w fun r w'=>r=.returned (.string (aQ L))∧Bl w w':=by
 obtain ⟨b,f,rfl,_⟩:=h.form hn;have hl:=h.length;have hg:=j' (show L.length - 1<L.length by omega);have:=uR m b f n c L w h _ (by rw [← hl];exact hg) hn;unfold aQ;rw [hg];exact this
theorem BS (m:Int) (s:Option Addr) (n c:Nat) (L:List ac) (low f:ByteArray) (w:World) (h:aj w s n c L) (hn:1≤n) :
 Calls Tryz.prog 222 #[.agg #[.slice s n c,iT m],.string low,.string f] w fun e w'=>e=.returned (.bool (ep low f (L,m)))∧Bl w w':=by
 obtain ⟨X,D⟩:=aF w.heap.size;obtain ⟨W,B⟩:=aF (w.alloc (.cells #[.slice s n c,iT m] 63));have H:Bl w W:=by rw [B];exact bZ
 have x0:W.cell? ⟨X,0,none⟩=some (.slice s n c):=by rw [B,D];simp
 have x1:W.cell? ⟨X,1,none⟩=some (iT m):=by rw [B,D];simp
 have J:X<W.heap.size:=Gf _ _ x0;have F:Eq (Bl w W):=H;have Z:=az h;obtain ⟨lo,A⟩:=aF (bh L);obtain ⟨hi,x⟩:=aF (aQ L);have Q:Eq (∀w',Bl w w'→Calls Tryz.prog 147 #[.agg #[.slice s n c,iT m]] w' fun r y=>r=.returned (.string lo)∧Bl w' y):=by rw [A];exact fun w' k=>ms m s n c L w' (h.keep k) hn
 have R:Eq (∀w',Bl w w'→Calls Tryz.prog 146 #[.agg #[.slice s n c,iT m]] w' fun r y=>r=.returned (.string hi)∧Bl w' y):=by rw [x];exact fun w' k=>ss m s n c L w' (h.keep k) hn
 have I:Eq (ep low f (L,m)=(fK lo f && fK low hi)):=by rw [A,x];rfl
 clear h H A x;go_enter Tryz.func222,Tryz.ntmps222
 go_wp2_with fail
 rw [← B];clear B;refine (Q.o _ F.o).mono ?_;rintro e K ⟨rfl,u⟩;have E:Eq (Bl w K):=F.o.trans (u.mono F.o.size);have x0:=cell_later u x0;have x1:=cell_later u x1;have J:=E' J u.size;rw [← D];clear u D;cases h1:(Op.bytesLess lo.toList f.toList || lo.toList == f.toList) with
 | false =>
  have N:Eq (fK lo f=false):=h1;go_wp2;go_ret;exact ⟨by rw [I.o,N.o];rfl,E.o⟩
 | true =>
  have Y:Eq (fK lo f=true):=h1;go_wp2_with fail
  refine (R.o _ E.o).mono ?_;rintro e U ⟨rfl,C⟩;have O:Eq (Bl w U):=E.o.trans (C.mono E.o.size);clear C;go_wp2;go_ret;exact ⟨by rw [I.o,Y.o];simp [fK],O.o⟩
theorem uS (a:Option Addr) (n c:Nat) (B:List af) (w:World) (h:aw 0 w a n c B) (hn:n≤1048576) :
 Calls Tryz.prog 182 #[.slice a n c] w fun e w'=>e=.returned (.bool (ip B && decide (n≤8)))∧Bl w w':=by
 have Q:=az h;have Z:Eq (B.length=n):=h.length;obtain ⟨F,hF⟩:=aF ((ip B && decide (n≤8)));have H:Eq (F=(ip B && decide (n≤8))):=hF;rw [← hF];clear h hF;go_enter Tryz.func182,Tryz.ntmps182
 go_wp2;go_loopw [3] (fun N wr=>∃i:Nat,i≤n∧N=iT i∧(∀j r,j<i→B[j]?=some r→r.1.length≤150)∧wr=w) (fun N _=>n - (intOf N).toNat)
 case atStart=>exact ⟨0,Gl _,rfl,(fun j r K _=>absurd K (G2 _)),rfl⟩
 case round =>
  obtain ⟨i,X,rfl,D,rfl⟩:=hrel;have y:Eq (∀j r,j<i→B[j]?=some r→r.1.length≤150):=D;clear D;by_cases E:i<n
  · have C:(i:Int)<(n:Int):=by omega
    obtain ⟨b,Y,rfl,W⟩:=Q.o.form (by omega);obtain ⟨L,m,s,len,cap,hg,_,c0,_,hE⟩:=Q.o.run (Below.refl _ wr) i E;have O:Eq (B[i]?=some (L,m)):=hg;have A:Eq (L.length=len):=hE.1.length;have hbig:=hE.1.big;have hroom:=hE.1.room;unfold maxLen at hbig;clear hg hE;by_cases U:150<len
    · have u:(len:Int) > 150:=by omega
      have x:(150:Int)<(len:Int):=by omega
      go_wp2;go_ret;exact ⟨by rw [H.o,Eu O.o (by have:=A.o;show 150<L.length;omega)];rfl,Below.refl _ _⟩
    · have u:¬(len:Int) > 150:=by omega
      have x:¬(150:Int)<(len:Int):=by omega
      go_wp2;go_roundw
      case rel =>
       refine ⟨i+1,by omega,by go_num,fun j r K hr=>?_,by first | rfl | trivial⟩;by_cases I:j<i
       · exact y.o j r I hr
       · have:j=i:=by omega
         subst this;rw [O.o] at hr;cases hr;have:=A.o;show L.length≤150
         omega
      case measure=>simp [intOf];omega
  · have C:¬(i:Int)<(n:Int):=by omega
    have f:Eq (ip B=true):=Dq Z.o (fun j r K hr=>y.o j r (by omega) hr);by_cases R:n≤8
    · have J:(n:Int)≤8:=by omega
      go_wp2;go_ret;exact ⟨by rw [H.o,f.o,decide_eq_true R];rfl,Below.refl _ _⟩
    · have J:¬(n:Int)≤8:=by omega
      go_wp2;go_ret;exact ⟨by rw [H.o,f.o,decide_eq_false R];rfl,Below.refl _ _⟩
theorem ng (b X n c:Nat) (B:List af) (r0:af) (w:World) (h:aw 0 w (some ⟨b,X,none⟩) n c B) (h0:B[0]?=some r0) (a4:∀r ∈ B,1≤r.1.length) (hn:n≤1048576) :
 Calls Tryz.prog 176 #[sO b X n c] w fun e w'=>e=.returned (.tuple #[.string (fJ (bh r0.1) B),.string (dw (aQ r0.1) B)])∧Bl w w':=by
 have HB:=az h;have HL:Eq (B.length=n):=h.length;have ak:=az a4;have ah:1≤n:=by have:=(F'.1 h0).1;have:=h.length;omega
 have ay:(0:Int)<(n:Int):=by omega
 have a7:=(h.lies _ rfl (by omega)).1;simp only at a7;have ab:Eq (∀(i:Nat) (w':World),Bl w w'→i<n→∃L m s len cap,B[i]?=some (L,m)∧w'.cell? ⟨b,X+i*2,none⟩=some (.slice s len cap)∧w'.cell? ⟨b,X+i*2+1,none⟩=some (iT m)∧b<w'.heap.size ∧
  (∀x,Bl w' x→Calls Tryz.prog 147 #[.agg #[.slice s len cap,iT m]] x fun r K=>r=.returned (.string (bh L))∧Bl x K) ∧
  (∀x,Bl w' x→Calls Tryz.prog 146 #[.agg #[.slice s len cap,iT m]] x fun r K=>r=.returned (.string (aQ L))∧Bl x K)):=fun i w' k hi=>by
  obtain ⟨L,m,s,len,cap,hg,_,c0,c1,hE⟩:=HB.o.run k i hi;have hl:1≤len:=by have h1:=ak.o _ (Gk hg);have h2:=hE.1.length;simp only at h1;omega
  exact ⟨L,m,s,len,cap,hg,c0,c1,E' a7 k.size,fun x k'=>ms m s len cap L x (hE.1.keep k') hl,fun x k'=>ss m s len cap L x (hE.1.keep k') hl⟩
 have aa:=az h0;clear h h0 a4 HB;go_enter Tryz.func176,Tryz.ntmps176
 obtain ⟨L,m,s,len,cap,hg,c0,c1,hz,CL,CH⟩:=ab.o 0 w (Below.refl _ _) (by omega);rw [aa.o] at hg;cases hg;simp only [It,Hl] at c0 c1;go_wp2_with fail
 refine (CL _ (Below.refl _ _)).mono ?_;rintro e w1 ⟨rfl,A⟩;have R:Eq (Bl w w1):=A;have c0:=cell_later A c0;have c1:=cell_later A c1;have hz:=E' hz A.size;clear A;go_wp2_with fail
 refine (CH _ R.o).mono ?_;rintro e w2 ⟨rfl,D⟩;have Q:Eq (Bl w w2):=R.o.trans (D.mono R.o.size);clear c0 c1 hz D CL CH R;go_wp2;go_loopw [4,5,6] (fun lv hv iv wr=>∃(i:Nat) (J hi:ByteArray),1≤i∧i≤n∧iv=iT i∧lv=.string J∧hv=.string hi∧J=fJ (bh L) (B.take i)∧hi=dw (aQ L) (B.take i)∧Bl w wr) (fun _ _ iv _=>n - (intOf iv).toNat)
 case atStart =>
  have e1:B.take 1=[(L,m)]:=by rw [GH,aa.o];simp
  refine ⟨1,bh L,aQ L,Gg _,ah,rfl,rfl,rfl,?_,?_,Q.o⟩
  · rw [e1];simp [fJ,cE]
  · rw [e1];simp [dw,nY]
 case round =>
  obtain ⟨i,J,hi,ax,aA,rfl,rfl,rfl,a9,ac,hb⟩:=hrel;have a0:Eq (J=fJ (bh L) (B.take i)):=a9;have E:Eq (hi=dw (aQ L) (B.take i)):=ac;have u:Eq (Bl w wr):=hb;clear a9 ac Q;by_cases am:i<n
  · have ad:(i:Int)<(n:Int):=by omega
    obtain ⟨L',m',s',ao,ap,hg,c0,c1,hz,CL,CH⟩:=ab.o i wr hb am;have Y:Eq (B[i]?=some (L',m')):=hg;obtain ⟨kl,Z⟩:=aF (bh L');obtain ⟨W,a1⟩:=aF (aQ L');have a8:Eq (kl=bh L'):=Z;have F:Eq (W=aQ L'):=a1;rw [← Z] at CL;rw [← a1] at CH;have a6:=az CL;have U:=az CH;clear hg hb Z a1 CL CH;go_wp2_with fail
    refine (a6.o _ (Below.refl _ _)).mono ?_;rintro e w1 ⟨rfl,A⟩;have R:Eq (Bl wr w1):=A;have c0:=cell_later A c0;have c1:=cell_later A c1;have hz:=E' hz A.size;clear A;cases h1:Op.bytesLess kl.toList J.toList with
    | true =>
     have y:Eq (kl=fJ (bh L) (B.take (i+1))):=by show _=_;rw [sR _ Y.o,← a0.o,← a8.o,h1];rfl
     go_wp2_with fail
     refine (a6.o _ R.o).mono ?_;rintro e w2 ⟨rfl,D⟩;have Q:Eq (Bl wr w2):=R.o.trans (D.mono R.o.size);have c0:=cell_later D c0;have c1:=cell_later D c1;have hz:=E' hz D.size;clear D;go_wp2_with fail
     refine (U.o _ Q.o).mono ?_;rintro e K ⟨rfl,C⟩;have H:Eq (Bl wr K):=Q.o.trans (C.mono Q.o.size);have c0:=cell_later C c0;have c1:=cell_later C c1;have hz:=E' hz C.size;clear C;cases ha:Op.bytesLess W.toList hi.toList with
     | true =>
      have f:Eq (hi=dw (aQ L) (B.take (i+1))):=by show _=_;rw [gq _ Y.o,← E.o,← F.o];simp [nY,ha]
      have I:Eq (Bl w K):=u.o.trans (H.o.mono u.o.size);clear c0 c1 hz;go_wp2;go_roundw
      case rel=>exact ⟨i+1,kl,hi,by omega,by omega,by go_num,rfl,rfl,y.o,f.o,I.o⟩
      case measure=>simp [intOf];omega
     | false =>
      cases hb:(W.toList == hi.toList) with
      | true =>
       have f:Eq (hi=dw (aQ L) (B.take (i+1))):=by show _=_;rw [gq _ Y.o,← E.o,← F.o];simp [nY,hb]
       have I:Eq (Bl w K):=u.o.trans (H.o.mono u.o.size);clear c0 c1 hz;go_wp2;go_roundw
       case rel=>exact ⟨i+1,kl,hi,by omega,by omega,by go_num,rfl,rfl,y.o,f.o,I.o⟩
       case measure=>simp [intOf];omega
      | false =>
       have f:Eq (W=dw (aQ L) (B.take (i+1))):=by show _=_;rw [gq _ Y.o,← E.o,← F.o];simp [nY,ha,hb]
       go_wp2_with fail
       refine (U.o _ H.o).mono ?_;rintro e w4 ⟨rfl,N⟩;have I:Eq (Bl w w4):=u.o.trans ((H.o.trans (N.mono H.o.size)).mono u.o.size);clear N c0 c1 hz;go_wp2;go_roundw
       case rel=>exact ⟨i+1,kl,W,by omega,by omega,by go_num,rfl,rfl,y.o,f.o,I.o⟩
       case measure=>simp [intOf];omega
    | false =>
     have y:Eq (J=fJ (bh L) (B.take (i+1))):=by show _=_;rw [sR _ Y.o,← a0.o,← a8.o,h1];rfl
     have Q:Eq (Bl wr w1):=R.o;go_wp2_with fail
     refine (U.o _ Q.o).mono ?_;rintro e K ⟨rfl,C⟩;have H:Eq (Bl wr K):=Q.o.trans (C.mono Q.o.size);have c0:=cell_later C c0;have c1:=cell_later C c1;have hz:=E' hz C.size;clear C;cases ha:Op.bytesLess W.toList hi.toList with
     | true =>
      have f:Eq (hi=dw (aQ L) (B.take (i+1))):=by show _=_;rw [gq _ Y.o,← E.o,← F.o];simp [nY,ha]
      have I:Eq (Bl w K):=u.o.trans (H.o.mono u.o.size);clear c0 c1 hz;go_wp2;go_roundw
      case rel=>exact ⟨i+1,J,hi,by omega,by omega,by go_num,rfl,rfl,y.o,f.o,I.o⟩
      case measure=>simp [intOf];omega
     | false =>
      cases hb:(W.toList == hi.toList) with
      | true =>
       have f:Eq (hi=dw (aQ L) (B.take (i+1))):=by show _=_;rw [gq _ Y.o,← E.o,← F.o];simp [nY,hb]
       have I:Eq (Bl w K):=u.o.trans (H.o.mono u.o.size);clear c0 c1 hz;go_wp2;go_roundw
       case rel=>exact ⟨i+1,J,hi,by omega,by omega,by go_num,rfl,rfl,y.o,f.o,I.o⟩
       case measure=>simp [intOf];omega
      | false =>
       have f:Eq (W=dw (aQ L) (B.take (i+1))):=by show _=_;rw [gq _ Y.o,← E.o,← F.o];simp [nY,ha,hb]
       go_wp2_with fail
       refine (U.o _ H.o).mono ?_;rintro e w4 ⟨rfl,N⟩;have I:Eq (Bl w w4):=u.o.trans ((H.o.trans (N.mono H.o.size)).mono u.o.size);clear N c0 c1 hz;go_wp2;go_roundw
       case rel=>exact ⟨i+1,J,W,by omega,by omega,by go_num,rfl,rfl,y.o,f.o,I.o⟩
       case measure=>simp [intOf];omega
  · have ad:¬(i:Int)<(n:Int):=by omega
    have O:B.take i=B:=Gr (by rw [HL.o];omega);have h1:=a0.o;have h2:=E.o;rw [O] at h1 h2;have H1:Eq (J=fJ (bh L) B):=h1;have H2:Eq (hi=dw (aQ L) B):=h2;clear h1 h2 O;go_wp2;exact bodyPost_ret (v:=.tuple #[.string J,.string hi]) (by simp [results,Tryz.results176,go_sem]) rfl ⟨by rw [H1.o,H2.o],u.o⟩
theorem Tryz.infoRun:(Tryz.prog.info? 63).map (fun i=>(i.zero,i.size,i.bytes))=some (some (.agg #[nZ,iT 0]),2,32):=by kernel_rfl
theorem Tryz.infoRunL:(Tryz.prog.info? 61).map (fun i=>(i.zero,i.size,i.bytes))=some (some nZ,1,24):=by kernel_rfl
def ki (B:List af):Prop:=B.length≤1048576∧∀p ∈ B,p.1.length≤1048576
theorem cy {K:Nat} {T:TypeId} (h:w.ownsRow base T K (sL g n cap) n xs):n≤cap∧cap≤maxLen:=by
 rcases h.2 with ⟨h',_⟩ | ⟨g',o,r,h',_,_,m,f,_,_⟩
 · simp at h'
 · simp only [IR,Hy,Addr.mk.injEq,and_true,true_and] at h';obtain ⟨rfl,rfl⟩:=h';exact ⟨m,f⟩
theorem Dl (n:Nat) (w:World) (h1:1≤n) (h2:n≤1048576) :
 Calls Tryz.prog 208 #[nZ,iT n] w fun e w'=>∃c,e=.returned (sL (w.heap.size) 0 c)∧w'.ownsRow w.heap.size 3 1 (sL (w.heap.size) 0 c) 0 []∧Bl w w':=by
 obtain ⟨i0,hi,u,A,m⟩:=info_parts Tryz.infoInt;have f:(Builtin.firstCells i0.size 0 nZ).run Tryz.prog w.drew=.ok ([]:List Value).toArray w.drew:=run_firstCells_none w.drew i0.size 0 0 0;obtain ⟨G,hG⟩:=aF (grownCap w n 0 3);obtain ⟨W,s⟩:=aF (w.drew.alloc (.cells (([]:List Value).toArray++Builtin.zeroCells (iT 0).cells n++Builtin.zeroCells (iT 0).cells (G - n)) 3));have y:∀x,(Builtin.append_ #[24,3] x #[nZ,iT n]).run Tryz.prog w=.ok (sL (w.heap.size) n G) W:=fun x=>by
  have h:=Lib.run_append_grow_zeros w 24 3 x 3 i0 _ .i64 .i64 Tryz.underlying24 Tryz.underlying3 hi u none 0 0 [] f n h1 (by rw [A];omega) (by omega) (by omega) (by rw [m];omega) (by unfold Builtin.nextslicecap;rw [if_pos (by omega),m];omega);simp only [Gp] at h;rw [s,hG];exact h
 have C:n≤G:=by rw [hG];exact grownCap_ge w _ _ _
 have r:G≤maxLen:=by rw [hG];exact grownCap_le_maxLen w n 0 3 (by unfold maxLen;omega)
 have B:Eq (W.ownsRow w.heap.size 3 1 (sL (w.heap.size) 0 G) 0 []):=by
  rw [s];refine ⟨rfl,Or.inr ⟨w.heap.size,G,_,rfl,Gg _,(by show (w.drew.heap.push _)[w.drew.heap.size]?=_;exact Hm),Gl _,r,?_,?_⟩⟩
  · simp [Builtin.zeroCells,Value.cells];omega
  · simp
 have D:Eq (Bl w W):=by rw [s];exact ((Below.refl _ w).drew).alloc (Gg _) _
 unfold maxLen at r;clear f hG s;go_enter Tryz.func208,Tryz.ntmps208
 go_wp2_with (at_builtin;refine Lib.wpList_append_run _ rfl _ _ _ _ rfl _ _ rfl rfl _ _ (y _) ?_)
 all_goals (go_ret;exact ⟨G,rfl,B.o,D.o⟩)
theorem Dk (w:World) :
 Calls Tryz.prog 208 #[nZ,iT 0] w fun e w'=>e=.returned nZ∧w'=w:=by
 go_enter Tryz.func208,Tryz.ntmps208
 go_wp2;go_ret;exact ⟨rfl,rfl⟩
theorem Fc {S:List Int} {q:Int} {k:Nat} (h:S[k]?=some q) (hn:∀j,j<k→¬S[j]?=some q):S.idxOf q=k:=by
 induction S generalizing k with
 | nil=>simp at h
 | cons a S f =>
  cases k with
  | zero=>simp at h;subst h;simp
  | succ k =>
   have h0:=hn 0 (by omega);simp at h0;rw [List.idxOf_cons];rw [show (a == q)=false by simpa using h0,cond_false];have:=f (k:=k) (by simpa using h) (fun j m=>by have:=hn (j+1) (by omega);simpa using this);omega
theorem sZ (lo:Nat) (a:Option Addr) (n c:Nat) (S:List Int) (q:Int) (w:World) (hS:aR lo w a n c S) (hn:n≤1048576) :
 Calls Tryz.prog 163 #[.slice a n c,iT q] w fun e w'=>e=.returned (iT (if q ∈ S then ((S.idxOf q:Nat):Int) else -1))∧w'=w:=by
 have D:=az hS;have I:Eq (S.length=n):=hS.length;clear hS;obtain ⟨R,hR⟩:∃R:Int,R=(if q ∈ S then ((S.idxOf q:Nat):Int) else -1):=⟨_,rfl⟩;have r:Eq (R=(if q ∈ S then ((S.idxOf q:Nat):Int) else -1)):=hR;rw [← hR];clear hR;go_enter Tryz.func163,Tryz.ntmps163
 go_wp2;go_loopw [8] (fun C wr=>∃(k:Nat),k≤n∧C=iT k∧(∀j,j<k→¬S[j]?=some q)∧wr=w) (fun C _=>n - (intOf C).toNat)
 case atStart=>exact ⟨0,Gl _,rfl,fun j u=>absurd u (G2 _),rfl⟩
 case round =>
  obtain ⟨k,hk,rfl,m,rfl⟩:=hrel;have f:Eq (∀j,j<k→¬S[j]?=some q):=m;clear m;by_cases x:k<n
  · have s:(k:Int)<(n:Int):=by omega
    obtain ⟨b,H,rfl,E⟩:=D.o.form (by omega);obtain ⟨z,hz,_,J⟩:=D.o.num (Below.refl _ wr) k x;have B:Eq (S[k]?=some z):=hz;clear hz;by_cases hq:q=z
    · subst hq;have A:Eq (R=(k:Int)):=by
       show _=_
       rw [r.o,if_pos (Gk B.o),Fc B.o f.o]
      go_wp2;go_ret;exact ⟨by have e:=A.o;first | (rw [e];rfl) | (subst e;rfl) | simp [e],by first | rfl | trivial⟩
    · have F:(q == z)=false:=by simpa using hq
      go_wp2;go_roundw
      case rel =>
       refine ⟨k+1,by omega,by go_num,fun j u=>?_,by first | rfl | trivial⟩;by_cases e:j=k
       · subst e;rw [B.o];intro h;exact hq (Gi h).symm
       · exact f.o j (by omega)
      case measure=>simp [intOf];omega
  · have s:¬(k:Int)<(n:Int):=by omega
    have A:Eq (R=-1):=by
     show _=_
     rw [r.o,if_neg];intro hm;obtain ⟨j,u⟩:=GW hm;have y:=(F'.1 u).1;rw [I.o] at y;exact f.o j (by omega) u
    go_wp2;go_ret;exact ⟨by have e:=A.o;first | (rw [e];rfl) | (subst e;rfl) | simp [e],by first | rfl | trivial⟩
def aq (w:World) (g t sz:Nat):Prop:=∃cur:Array Value,w.heap[g]?=some (.cells cur t (0,0))∧cur.size=sz
theorem aq.lt (h:aq w g t sz):g<w.heap.size:=by
 obtain ⟨f,h,_⟩:=h;exact (Hi.1 h).1
theorem aq.cell (h:aq w g t sz) {o:Nat} (ho:o<sz):∃v,w.cell? ⟨g,o,none⟩=some v:=by
 obtain ⟨f,h,hs⟩:=h;exact ⟨f[o]'(by omega),by simp [World.cell?,h,Array.getElem?_eq_getElem (show o<f.size by omega)]⟩
theorem aq.frozen (h:aq w g t sz) (o:Nat):w.frozen? ⟨g,o,none⟩=false:=by
 obtain ⟨f,h,hs⟩:=h;simp [World.frozen?,h]
theorem aq.setCell (h:aq w g t sz) {b o:Nat} (v:Value) (_:True:=trivial):aq (w.setCell ⟨b,o,none⟩ v) g t sz:=by
 obtain ⟨f,h,hs⟩:=h;by_cases e:g=b
 · subst e;exact ⟨_,heap_setCell_same w g o f t v h,by simp [hs]⟩
 · exact ⟨f,(Below.heap_setCell _ _ _ _ e).trans h,hs⟩
theorem aq.below (h:aq w g t sz) (hb:Bl w w'):aq w' g t sz:=by
 obtain ⟨f,h',hs⟩:=h;exact ⟨f,(hb.block g (Hi.1 h').1).trans h',hs⟩
theorem eL (h:w.ownsRow base e size (sL g n cap) n xs):aq w g e (cap*size):=by
 rcases h.2 with ⟨h',_⟩ | ⟨g',m,f,h',_,hg,_,_,hs,_⟩
 · simp at h'
 · simp only [IR,Hy,Addr.mk.injEq,and_true,true_and] at h';obtain ⟨rfl,rfl⟩:=h';exact ⟨f,hg,hs⟩
theorem aq.kind {t' f:Nat} (h:aq w g t sz) (h':aq w g t' f):t=t':=by
 obtain ⟨o,h1,_⟩:=h;obtain ⟨m,h2,_⟩:=h';rw [h1] at h2;cases h2;rfl
theorem bC (w:World) (x y:Value) (t:TypeId):∀j u,[x,y][j]?=some u→(w.alloc (.cells #[x,y] t)).cell? ((⟨w.heap.size,0,none⟩:Addr).add j)=some u:=by
 intro j u f;rw [Gv,Gp];match j,f with
 | 0,f=>simp at f;subst f;simp
 | 1,f=>simp at f;subst f;simp
theorem dO (w:World) (x:Value) (t:TypeId):∀j u,[x][j]?=some u→(w.alloc (.cells #[x] t)).cell? ((⟨w.heap.size,0,none⟩:Addr).add j)=some u:=by
 intro j u f;rw [Gv,Gp];match j,f with
 | 0,f=>simp at f;subst f;simp
theorem ew {v:Value} (h:w.ownsRow base T size v n xs) (hb:base'≤base):w.ownsRow base' T size v n xs:=by
 refine ⟨h.1,?_⟩;rcases h.2 with h2 | ⟨g,cap,f,hv,hg,r⟩
 · exact Or.inl h2
 · exact Or.inr ⟨g,cap,f,hv,Gq hb hg,r⟩
theorem aP {m:Nat} (h:w.ownsRow base e size (sL g m cap) n xs):∃sz,aq w g e sz:=by
 rcases h.2 with ⟨h',_⟩ | ⟨g',o,f,h',_,hg,_,_,hs,_⟩
 · simp at h'
 · simp only [IR,Hy,Addr.mk.injEq,and_true] at h';obtain ⟨rfl,_⟩:=h';exact ⟨_,f,hg,rfl⟩
def bj (base:Nat) (w:World) (g n c:Nat) (B:List af):Prop :=
 B.length=n∧(∀p ∈ B,(Lit.int .i64 p.2).wf=true)∧∃xs,w.ownsRow base 63 2 (sL g n c) n xs∧∀(i:Nat) (p:af),B[i]?=some p→∃e d,xs[i*2]?=some (sL e p.1.length d)∧xs[i*2+1]?=some (iT p.2)∧ah w base e p.1.length d p.1
theorem bj.below {B:List af} (h:bj base w g n c B) (hb:Bl w w'):bj base w' g n c B:=by
 obtain ⟨h1,h2,xs,h3,h4⟩:=h;exact ⟨h1,h2,xs,h3.kept (row:=none) ⟨hb.os,hb.tape,hb.output,hb.size,fun k hk _=>hb.block k hk⟩ (.inr (by simp [Value.ownBlock])),fun i p hp=>by obtain ⟨e,d,a1,a2,a3⟩:=h4 i p hp;exact ⟨e,d,a1,a2,a3.below hb⟩⟩
theorem bj.mono {B:List af} (h:bj base w g n c B) (hb:base'≤base):bj base' w g n c B:=by
 obtain ⟨h1,h2,xs,h3,h4⟩:=h;exact ⟨h1,h2,xs,ew h3 hb,fun i p hp=>by obtain ⟨e,d,a1,a2,a3⟩:=h4 i p hp;exact ⟨e,d,a1,a2,a3.mono hb⟩⟩
theorem bj.lt {B:List af} (h:bj base w g n c B):base≤g∧g<w.heap.size:=by
 obtain ⟨_,_,xs,h3,_⟩:=h;exact h3.lt g rfl
theorem bj.grown {B:List af} (h:bj base w g n c B) (hG:aq w G T sz) (r:T≠63) (o:T≠50) (hg:w.grownBy w' (some G)):bj base w' g n c B:=by
 obtain ⟨h1,h2,xs,h3,h4⟩:=h;obtain ⟨x,k3⟩:=aP h3;refine ⟨h1,h2,xs,h3.kept hg (.inr ?_),fun i p hp=>?_⟩
 · intro e;have m:g=G:=by simpa [Value.ownBlock] using e
   subst m;exact r (hG.kind k3)
 · obtain ⟨e,d,a1,a2,a3⟩:=h4 i p hp;obtain ⟨u,s⟩:=aP a3.owns;refine ⟨e,d,a1,a2,a3.grown hg (fun m=>?_)⟩;have f:=Gi m;subst f;exact o (hG.kind s)
theorem ig {B:List af} {L:List ac} {m:Int} (h1:B.length=n) (h2:∀p ∈ B,(Lit.int .i64 p.2).wf=true) (h3:w.ownsRow base 63 2 (sL g n c) n xs)
 (h4:∀(i:Nat) (p:af),B[i]?=some p→∃e d,xs[i*2]?=some (sL e p.1.length d)∧xs[i*2+1]?=some (iT p.2)∧ah w base e p.1.length d p.1)
 (hL:ah w base e L.length d L) (hm:(Lit.int .i64 m).wf=true) (hg:w.grownBy w' (some g)) (ho:w'.ownsRow base 63 2 (sL g' (n+1) c') (n+1) (xs++[sL e L.length d,iT m])):bj base w' g' (n+1) c' (B++[(L,m)]):=by
 obtain ⟨D,k3⟩:=aP h3;have f:∀{e d:Nat} {L:List ac},ah w base e L.length d L→ah w' base e L.length d L:=fun {e d L} hO=>by
  obtain ⟨C,y⟩:=aP hO.owns;refine hO.grown hg (fun A=>?_);have o:=Gi A;subst o;exact absurd (k3.kind y) (by decide)
 have u:=h3.1;refine ⟨by rw [Gj,h1];rfl,fun p hp=>?_,_,ho,fun i p hp=>?_⟩
 · rcases Gw.1 hp with h | h
   · exact h2 p h
   · rw [GC] at h;subst h;exact hm
 · by_cases hi:i<B.length
   · rw [Gt hi] at hp;obtain ⟨e0,x,a1,a2,a3⟩:=h4 i p hp;exact ⟨e0,x,by rw [Gt (by omega)];exact a1,by rw [Gt (by omega)];exact a2,f a3⟩
   · have r:=(F'.1 hp).1;rw [Gj] at r;have s:i=B.length:=by have:[(L,m)].length=1:=rfl;omega
     subst s;rw [Gm (Gg _),Hn] at hp;cases hp;refine ⟨e,d,?_,?_,f hL⟩
     · rw [Gm (by omega),show B.length*2 - xs.length=0 by omega];rfl
     · rw [Gm (by omega),show B.length*2+1 - xs.length=1 by omega];rfl
theorem bj.runsIn {B:List af} (h:bj base w g n c B):aw base w (pT g) n c B:=by
 obtain ⟨h1,h2,xs,h3,h4⟩:=h;have f:=cy h3;refine ⟨h1,f.1,f.2,(fun e=>by cases e),?_,?_⟩
 · rintro x e _;cases e;exact ⟨(h3.lt g rfl).2,rfl,(h3.lt g rfl).1⟩
 · rintro x e i hi;cases e;obtain ⟨e0,m,a1,a2,a3⟩:=h4 i _ (j' hi);refine ⟨h2 _ (GQ hi),_,_,_,?_,?_,a3.entsAt,fun x e _=>by cases e;exact a3.lt.1⟩
   · simp only [Gp];exact (h3.cellAt _ (by omega)).trans a1
   · simp only [Gp];exact (h3.cellAt _ (by omega)).trans a2
def wQ (xs:List Value):Prop:=∀(i j gi ni di gj nj dj:Nat),i<j→xs[i]?=some (sL gi ni di)→xs[j]?=some (sL gj nj dj)→gi≠gj
theorem yG (h:wQ xs) (hl:∀(i m r o:Nat),xs[i]?=some (sL m r o)→m≠g):wQ (xs++[sL g n d]):=by
 intro i j m r o y A B x hi f;have s:=(F'.1 f).1;rw [Gj] at s;have h1:([sL g n d]:List Value).length=1:=rfl;rw [Gt (by omega)] at hi;by_cases hx:j<xs.length
 · rw [Gt hx] at f;exact h i j m r o y A B x hi f
 · have u:j=xs.length:=by omega
   subst u;rw [Gm (Gg _),Hn] at f;cases f;exact hl i m r o hi
def d5 (base:Nat) (w:World) (G n c:Nat) (V:List (List af)):Prop :=
 V.length=n∧∃xs,w.ownsRow base 61 1 (sL G n c) n xs∧(∀(i:Nat) (B:List af),V[i]?=some B→∃g d,xs[i]?=some (sL g B.length d)∧bj base w g B.length d B)∧wQ xs
theorem d5.below (h:d5 base w g n c V) (hb:Bl w w'):d5 base w' g n c V:=by
 obtain ⟨h1,xs,h3,h4,h5⟩:=h;exact ⟨h1,xs,h3.kept (row:=none) ⟨hb.os,hb.tape,hb.output,hb.size,fun k hk _=>hb.block k hk⟩ (.inr (by simp [Value.ownBlock])),(fun i p hp=>by obtain ⟨e,d,a1,a3⟩:=h4 i p hp;exact ⟨e,d,a1,a3.below hb⟩),h5⟩
theorem xV {B:List af} (h1:V.length=n) (h3:w.ownsRow base 61 1 (sL g n c) n xs)
 (h4:∀(i:Nat) (B:List af),V[i]?=some B→∃g d,xs[i]?=some (sL g B.length d)∧bj base w g B.length d B)
 (hL:bj base w e B.length d B) (hg:w.grownBy w' (some g)) (ho:w'.ownsRow base 61 1 (sL g' (n+1) c') (n+1) (xs++[sL e B.length d])) (hd:wQ xs) (hl:∀(i o x r:Nat),xs[i]?=some (sL o x r)→o≠e):d5 base w' g' (n+1) c' (V++[B]):=by
 obtain ⟨y,k3⟩:=aP h3;have s:=h3.1;refine ⟨by rw [Gj,h1];rfl,_,ho,fun i p hp=>?_,yG hd hl⟩;by_cases hi:i<V.length
 · rw [Gt hi] at hp;obtain ⟨e0,u,a1,a3⟩:=h4 i p hp;exact ⟨e0,u,by rw [Gt (by omega)];exact a1,a3.grown k3 (by decide) (by decide) hg⟩
 · have f:=(F'.1 hp).1;rw [Gj] at f;have m:i=V.length:=by have:[B].length=1:=rfl;omega
   subst m;rw [Gm (Gg _),Hn] at hp;cases hp;exact ⟨e,d,by rw [Gm (by omega),show V.length - xs.length=0 by omega];rfl,hL.grown k3 (by decide) (by decide) hg⟩
theorem d5.grown (h:d5 base w g n c V) (hG:aq w G T sz) (t0:T≠61) (m:T≠63) (f:T≠50) (hg:w.grownBy w' (some G)):d5 base w' g n c V:=by
 obtain ⟨h1,xs,h3,h4,h5⟩:=h;obtain ⟨r,k3⟩:=aP h3;refine ⟨h1,xs,h3.kept hg (.inr ?_),(fun i p hp=>by obtain ⟨e,d,a1,a3⟩:=h4 i p hp;exact ⟨e,d,a1,a3.grown hG m f hg⟩),h5⟩;intro e;have o:g=G:=by simpa [Value.ownBlock] using e
 subst o;exact t0 (hG.kind k3)
theorem d5.mono (h:d5 base w g n c V) (hb:base'≤base):d5 base' w g n c V:=by
 obtain ⟨h1,xs,h3,h4,h5⟩:=h;exact ⟨h1,xs,ew h3 hb,(fun i p hp=>by obtain ⟨e,d,a1,a3⟩:=h4 i p hp;exact ⟨e,d,a1,a3.mono hb⟩),h5⟩
theorem d5.levelsIn (h:d5 base w g n c V):cC base w (pT g) n c V:=by
 obtain ⟨h1,xs,h3,h4,_⟩:=h;have f:=cy h3;refine ⟨h1,f.1,f.2,(fun e=>by cases e),?_,?_⟩
 · rintro x e _;cases e;exact ⟨(h3.lt g rfl).2,rfl,(h3.lt g rfl).1⟩
 · rintro x e i hi;cases e;obtain ⟨e0,m,a1,a3⟩:=h4 i _ (j' hi);refine ⟨_,_,_,?_,a3.runsIn⟩;simp only [Gp];exact (h3.cellAt _ (by omega)).trans a1
theorem pJ (lo:Nat) (a:Option Addr) (nv cv:Nat) (V:List (List af)) (w:World) (hV:cC lo w a nv cv V) (c7:nv≤100) (hS:∀B ∈ V,B.length≤100∧∀r ∈ B,1≤r.1.length∧r.1.length≤10000) :
 Calls Tryz.prog 120 #[.slice a nv cv] w fun e w'=>∃G c,e=.returned (sL G nv c)∧d5 w.heap.size w' G nv c V∧Bl w w':=by
 have bR:Eq (V.length=nv):=hV.length;have HV:=az hV;have HS:=az hS;clear hV hS;obtain ⟨i0,hi,bx,bQ,bK⟩:=info_parts Tryz.infoEnt;obtain ⟨j0,hj,bN,bo,bA⟩:=info_parts Tryz.infoRun;obtain ⟨l0,hl,bu,bS,O⟩:=info_parts Tryz.infoRunL;have aN:Eq (d5 w.heap.size (w.alloc (.cells #[] 61)) w.heap.size 0 0 (V.take 0)):=by
  have:=GP (base:=w.heap.size) (e:=61) (size:=1) w #[] 0 (Gg _) (by simp) (by simp);exact ⟨by simp,_,this,(fun i B hB=>by simp at hB),fun i j gi ni di gj nj dj _ hi _=>by simp at hi⟩
 have b3:Bl w (w.alloc (.cells #[] 61)):=bZ;go_enter Tryz.func120,Tryz.ntmps120
 go_wp2;go_loopw [3,4] (fun o iv wr=>∃(i G c:Nat),i≤nv∧iv=iT i∧o=sL G i c∧d5 w.heap.size wr G i c (V.take i)∧Bl w wr) (fun _ iv _=>nv - (intOf iv).toNat)
 case atStart=>exact ⟨0,_,0,Gl _,rfl,rfl,aN.o,b3⟩
 case round =>
  clear aN b3;obtain ⟨i,G,c0,cl,rfl,rfl,b1,R⟩:=hrel;have Z:Eq (d5 w.heap.size wr G i c0 (V.take i)):=b1;have I:Eq (Bl w wr):=R;clear b1;by_cases bw:i<nv
  · have b6:(i:Int)<(nv:Int):=by omega
    obtain ⟨b,ag,rfl,aJ⟩:=HV.o.form (by omega);obtain ⟨B,aB,nB,cB,hB,gB,aq⟩:=HV.o.level (Below.refl _ w) i bw;have bL:Eq (V[i]?=some B):=hB;have aZ:Eq (B.length≤100∧∀r ∈ B,1≤r.1.length∧r.1.length≤10000):=HS.o B (Gk hB);have an:Eq (B.length=nB):=aq.length;have aI:Eq (aw lo w aB nB cB B):=aq;have bz:Eq (w.cell? ⟨b,ag+i,none⟩=some (.slice aB nB cB)):=gB;have cn:nB≤100:=by have:=aZ.o.1;have:=an.o;omega
    clear hB gB aq R;go_upto_region 6 with fail
    obtain ⟨u,C⟩:=aF wr.heap.size;obtain ⟨wq,X⟩:=aF (wr.alloc (.cells #[] 63));have kq:Bl wr wq:=by rw [X];exact bZ
    have b4:Eq (bj u wq u 0 0 (B.take 0)):=by
     have:=GP (base:=wr.heap.size) (e:=63) (size:=2) wr #[] 0 (Gg _) (by simp) (by simp);rw [X,C];exact ⟨by simp,fun p hp=>by simp at hp,_,this,fun i B hB=>by simp at hB⟩
    have ab:Eq (Below u wr wq):=by rw [C];exact kq
    have f:Eq (w.heap.size≤u∧u=wr.heap.size):=⟨by rw [C];exact I.o.size,C⟩;rw [← X,← C];clear X C kq;obtain ⟨Wq,aX⟩:=aF wr;rw [← aX] at Z I ab f;clear aX;go_wp2;go_loopw [5,6] (fun o kv wr=>∃(j g c:Nat),j≤nB∧kv=iT j∧o=sL g j c∧bj u wr g j c (B.take j)∧Below u Wq wr) (fun _ kv _=>nB - (intOf kv).toNat)
    case atStart=>exact ⟨0,_,0,Gl _,rfl,rfl,b4.o,ab.o⟩
    case round =>
     clear b4 ab;obtain ⟨j,g,c,ca,rfl,rfl,al,Q⟩:=hrel;have ap:Eq (bj u wr g j c (B.take j)):=al;have aT:Eq (Below u Wq wr):=Q;have ae:Eq (u≤g):=al.lt.1;have y:Bl w wr:=I.o.trans (Q.mono f.o.1);have W:Eq (u≤wr.heap.size):=by have h1:=f.o.2;have h2:=Q.size;show u≤_;omega
     have tl:=cell_later y bz.o;have zb:=E' aJ y.size;clear al Q;by_cases bk:j<nB
     · have b0:(j:Int)<(nB:Int):=by omega
       obtain ⟨rb,ro,rfl,av⟩:=aI.o.form (by omega);obtain ⟨L,mm,s,m,d,a9,aK,r0,r1,a0⟩:=aI.o.run y j bk;have bF:Eq (B[j]?=some (L,mm)):=a9;have bp:Eq ((Lit.int .i64 mm).wf=true):=aK;have hsz:=aZ.o.2 _ (Gk a9);simp only at hsz;have H:Eq (L.length=m):=a0.1.length;have hm:1≤m∧m≤10000:=by have:=H.o;omega
       obtain ⟨sb,so,rfl,bI⟩:=a0.1.form (by omega);have b5:Eq (aj wr (some ⟨sb,so,none⟩) m d L):=a0.1;have zr:=E' av y.size;have k0:Bl wr wr.drew:=(Below.refl _ wr).drew;have U:Eq (∀w',Bl wr w'→(fun w'=>w'.cell? ⟨b,ag+i,none⟩=some (sO rb ro nB cB)∧w'.cell? ⟨rb,ro+j*2,none⟩=some (sO sb so m d)∧w'.cell? ⟨rb,ro+j*2+1,none⟩=some (iT mm)∧b<w'.heap.size∧rb<w'.heap.size) w'):=fun w' F=>⟨cell_later F tl,cell_later F r0,cell_later F r1,E' zb F.size,E' zr F.size⟩
       have aH:Eq (∀(wb w':World),wb.grownBy w' (some g)→Bl wr wb→(fun w'=>w'.cell? ⟨b,ag+i,none⟩=some (sO rb ro nB cB)∧w'.cell? ⟨rb,ro+j*2,none⟩=some (sO sb so m d)∧w'.cell? ⟨rb,ro+j*2+1,none⟩=some (iT mm)∧b<w'.heap.size∧rb<w'.heap.size) w'):=fun wb w' hg F=>by
        have cc:=ae.o;have cg:=f.o;have R:=I.o.size;have a8:∀{x:Nat},x<w.heap.size→some x≠some g:=fun {x} hx e=>by have:=Gi e;omega
        exact ⟨hg.cell (cell_later F tl) (a8 aJ),hg.cell (cell_later F r0) (a8 av),hg.cell (cell_later F r1) (a8 av),E' zb (Gq F.size hg.size),E' zr (Gq F.size hg.size)⟩
       clear a9 aK a0 hsz bI;go_wp2_with fail
       clear tl r0 r1 zr zb;refine eJ U k0 fun J=>?_
       generalize wr.drew=wd at k0 J ⊢;refine aO 0 1 J ?_;refine aO 2 8 J ?_;refine aO 11 8 J ?_;refine aS 1 fun K hK=>?_
       go_simp;have aQ:Bl wd (wd.alloc (.cells #[] 50)):=bZ;have oa:=cH wd wr.heap.size k0.size;have N:=k0.trans (aQ.mono k0.size);have ao:wr.heap.size≤wd.heap.size:=k0.size;generalize wd.heap.size=ga at oa ao ⊢;generalize wd.alloc (.cells #[] 50)=wa at oa N ⊢;clear aQ;refine hK.o _ _ (U.o _ N) fun J=>?_
       (try go_frame);refine aS 10 fun K hK=>?_
       refine aE rfl (.tmp 25) (.tmp 33) 28 rfl wr.heap.size 50 i0 _ 5 56 Tryz.underlying28 hi bx bQ bK rfl (G4 4) _ _ _ rfl oa.owns ⟨sb,so,none⟩ m d (aG L) rfl (by rw [aW,H.o]) (js (b5.o.keep N)) (aY _) ?_ ?_ ?_ ?_
       · unfold maxLen;omega
       · omega
       · exact N.size
       intro v1 w1 am aR aC;obtain ⟨e1,d1,rfl⟩:=aL am aC;have a4:wa.grownBy w1 (some ga):=aR;have k1:Bl wr w1:=N.grown a4 N.size (fun k e=>by cases e;exact ao);have o1:ah w1 wr.heap.size e1 m d1 L:=⟨by have h1:=am;rw [Gp] at h1;simpa [aG] using h1,H.o,b5.o.ents⟩;rw [Gp];clear am aR aC a4 oa ao N;refine hK.o _ _ (U.o _ k1) fun J=>?_
       (try go_frame);refine aO 19 1 J ?_;refine aS 20 fun K hK=>?_
       go_simp;have ai:Bl w1 (w1.alloc (.cells #[sL e1 m d1,iT mm] 63)):=bZ;have kb:=k1.trans (ai.mono k1.size);have ob:=o1.below ai;have nw:=bC w1 (sL e1 m d1) (iT mm) 63;generalize w1.heap.size=gb at nw ⊢;generalize w1.alloc (.cells #[sL e1 m d1,iT mm] 63)=wb at kb ob nw ⊢;clear ai;refine hK.o _ _ (U.o _ kb) fun J=>?_
       (try go_frame);refine aS 21 fun K hK=>?_
       obtain ⟨hl2,aD,ch,ak,O⟩:=ap.o.below kb;refine aE rfl (.tmp 24) (.tmp 44) 61 rfl u 63 j0 _ 2 32 Tryz.underlying61 hj bN bo bA rfl (G4 1) _ _ _ rfl ak ⟨gb,0,none⟩ 1 1 [sL e1 m d1,iT mm] rfl rfl nw (by simp [Value.oneCell']) ?_ ?_ ?_ ?_
       · unfold maxLen;omega
       · omega
       · have h1:=kb.size;have h2:=W.o;omega
       intro v2 w2 ar D b8;obtain ⟨g2,c2,rfl⟩:=aL ar b8;have D:wb.grownBy w2 (some g):=D;have aU:=ig (L:=L) hl2 aD ak O (by rw [H.o];exact ob.mono W.o) bp.o D (by rw [H.o];exact ar);have k2:=(aT.o.trans (kb.mono W.o)).grown D (Gq W.o kb.size) (fun k e=>by cases e;exact ae.o);refine hK.o _ _ (aH.o _ w2 D kb) fun J=>?_
       (try go_frame);refine aO 22 1 J ?_;refine dN ?_;have bH:Eq (bj u w2 g2 (j+1) c2 (B.take (j+1))):=by rw [GH,bF.o];exact aU
       have bJ:Eq (Below u Wq w2):=k2;clear J aU k2 ar D b8 hl2 aD ak O kb ob nw k1 o1 k0;go_wp2;go_roundw
       case rel=>exact ⟨j+1,g2,c2,by omega,by go_num,rfl,bH.o,bJ.o⟩
       case measure=>simp [intOf];omega
     · have b0:¬(j:Int)<(nB:Int):=by omega
       obtain rfl:j=nB:=by omega
       have kx:Bl Wq wr:=by have h1:=aT.o;rw [f.o.2] at h1;exact h1
       obtain ⟨q1,xs,p2,p3,p4⟩:=Z.o;have aM:Eq (∀(i' gi ni di:Nat),xs[i']?=some (sL gi ni di)→gi≠g):=fun i' gi ni di hx=>by
        have c9:=(F'.1 hx).1;have ce:=p2.1;obtain ⟨B',bT⟩:∃B',(V.take i)[i']?=some B':=⟨_,j' (by rw [q1];omega)⟩;obtain ⟨g',d',a1,a3⟩:=p3 i' B' bT;rw [hx] at a1;cases a1;have h1:=a3.lt.2;have h2:=ae.o;have h3:=f.o.2;omega
       have bm:Eq (bj w.heap.size wr g j c B):=by
        have h1:=ap.o.mono f.o.1;rw [Gr (by rw [an.o];omega)] at h1;exact h1
       have b9:Eq (Bl w wr):=y;have wi:IntKind.i64.wrap ((i:Int)+1)=((i+1:Nat):Int):=by rw [GB];unfold wrap64;omega
       clear Z ap;have bq:Eq (wQ xs):=p4;have N:Bl wr (wr.alloc (.cells #[sL g j c] 61)):=bZ;have A:=kx.trans (N.mono kx.size);have q2:=p2.kept (row:=none) ⟨A.os,A.tape,A.output,A.size,fun k hk _=>A.block k hk⟩ (.inr (by simp [Value.ownBlock]));have q3:∀(i':Nat) (B:List af),(V.take i)[i']?=some B→∃e d,xs[i']?=some (sL e B.length d)∧bj w.heap.size (wr.alloc (.cells #[sL g j c] 61)) e B.length d B:=fun i' B hB=>by obtain ⟨g',d',a1,a3⟩:=p3 i' B hB;exact ⟨g',d',a1,a3.below A⟩
       clear p2 p3 p4 kx A;have HQ:Eq (_∧_):=⟨q2,q3⟩;have c8:=y.size;clear y;go_wp2_with (at_builtin;refine wpList_append_own _ rfl _ _ 29 rfl w.heap.size 61 l0 _ 1 24 Tryz.underlying29 hl bu bS O rfl (by decide) _ _ _ rfl HQ.o.1 ⟨wr.heap.size,0,none⟩ 1 1 [sL g j c] rfl rfl (dO _ _ _) (by simp [Value.oneCell']) (by unfold maxLen;omega) (by omega) (by simp;omega) ?_;intro v2 w2 E Y ac;obtain ⟨g2,c2,rfl⟩:=aL E ac)
       go_roundw
       case rel =>
        have b7:(wr.alloc (.cells #[sL g j c] 61)).grownBy w2 (some G):=Y;have aV:=an.o;have ad:=xV (B:=B) q1 HQ.o.1 HQ.o.2 (by rw [aV];exact bm.o.below N) b7 (by rw [aV];exact E) bq.o aM.o;refine ⟨i+1,g2,c2,by omega,by go_num,rfl,by rw [GH,bL.o];exact ad,?_⟩;exact (b9.o.alloc b9.o.size _).grown b7 (by simp;omega) (fun k e=>by cases e;exact (HQ.o.1.lt G rfl).1)
       case measure=>simp [intOf];omega
  · have b6:¬(i:Int)<(nv:Int):=by omega
    obtain rfl:i=nv:=by omega
    have bU:Eq (d5 w.heap.size wr G i c0 V):=by
     have:=Z.o;rw [Gr (by rw [bR.o];omega)] at this;exact this
    clear R;go_wp2;go_ret;exact ⟨G,c0,rfl,bU.o,I.o⟩
structure ay (w:World) (b:Nat) (u0 u1 u2 u3:Value):Prop where
 c0:w.cell? ⟨b,0,none⟩=some u0
 c1:w.cell? ⟨b,1,none⟩=some u1
 c2:w.cell? ⟨b,2,none⟩=some u2
 c3:w.cell? ⟨b,3,none⟩=some u3
 fz:∀o,w.frozen? ⟨b,o,none⟩=false
theorem ay.lt (h:ay w b u0 u1 u2 u3):b<w.heap.size:=Gf w _ h.c0
theorem ay.all(h:ay w b u0 u1 u2 u3):w.cell? ⟨b,0,none⟩=some u0∧w.cell? ⟨b,1,none⟩=some u1∧w.cell? ⟨b,2,none⟩=some u2∧w.cell? ⟨b,3,none⟩=some u3∧(∀o,w.frozen? ⟨b,o,none⟩=false)∧b<w.heap.size:=⟨h.c0,h.c1,h.c2,h.c3,h.fz,h.lt⟩
theorem ay.new (w:World) (t:TypeId) (u0 u1 u2 u3:Value):ay (w.alloc (.cells #[u0,u1,u2,u3] t)) w.heap.size u0 u1 u2 u3:=⟨by simp,by simp,by simp,by simp,fun o=>by simp⟩
theorem ay.below {B:Nat} (h:ay w b u0 u1 u2 u3) (hb:Below B w w') (hB:b<B):ay w' b u0 u1 u2 u3 :=
 ⟨(hb.cell (p:=⟨b,0,none⟩) hB).trans h.c0,(hb.cell (p:=⟨b,1,none⟩) hB).trans h.c1,(hb.cell (p:=⟨b,2,none⟩) hB).trans h.c2,(hb.cell (p:=⟨b,3,none⟩) hB).trans h.c3,fun o=>(hb.frozen (p:=⟨b,o,none⟩) hB).trans (h.fz o)⟩
theorem ay.keep (h:ay w b u0 u1 u2 u3) (hb:Bl w w'):ay w' b u0 u1 u2 u3:=h.below hb h.lt
theorem ay.alloc (h:ay w b u0 u1 u2 u3) (o:Obj):ay (w.alloc o) b u0 u1 u2 u3:=h.keep bZ
theorem an {o b' f:Nat} (x:Value) (h:¬(b=b'∧o=f)):(w.setCell ⟨b',f,none⟩ x).cell? ⟨b,o,none⟩=w.cell? ⟨b,o,none⟩ :=
 Gh _ _ _ _ (fun e=>h (by cases e;exact ⟨rfl,rfl⟩))
theorem ay.other (h:ay w b u0 u1 u2 u3) {b' o:Nat} (hp:b'≠b) (x:Value):ay (w.setCell ⟨b',o,none⟩ x) b u0 u1 u2 u3 :=
 ⟨(an x (fun e=>hp e.1.symm)).trans h.c0,(an x (fun e=>hp e.1.symm)).trans h.c1,(an x (fun e=>hp e.1.symm)).trans h.c2,(an x (fun e=>hp e.1.symm)).trans h.c3,fun o=>by rw [GF];exact h.fz o⟩
theorem ay.set0 (h:ay w b u0 u1 u2 u3) (x:Value):ay (w.setCell ⟨b,0,none⟩ x) b x u1 u2 u3 :=
 ⟨GD _ _ _ (by rw [h.c0];rfl),(an x (by simp)).trans h.c1,(an x (by simp)).trans h.c2,(an x (by simp)).trans h.c3,fun o=>by rw [GF];exact h.fz o⟩
theorem ay.set1 (h:ay w b u0 u1 u2 u3) (x:Value):ay (w.setCell ⟨b,1,none⟩ x) b u0 x u2 u3 :=
 ⟨(an x (by simp)).trans h.c0,GD _ _ _ (by rw [h.c1];rfl),(an x (by simp)).trans h.c2,(an x (by simp)).trans h.c3,fun o=>by rw [GF];exact h.fz o⟩
theorem ay.set2 (h:ay w b u0 u1 u2 u3) (x:Value):ay (w.setCell ⟨b,2,none⟩ x) b u0 u1 x u3 :=
 ⟨(an x (by simp)).trans h.c0,(an x (by simp)).trans h.c1,GD _ _ _ (by rw [h.c2];rfl),(an x (by simp)).trans h.c3,fun o=>by rw [GF];exact h.fz o⟩
theorem ay.set3 (h:ay w b u0 u1 u2 u3) (x:Value):ay (w.setCell ⟨b,3,none⟩ x) b u0 u1 u2 x :=
 ⟨(an x (by simp)).trans h.c0,(an x (by simp)).trans h.c1,(an x (by simp)).trans h.c2,GD _ _ _ (by rw [h.c3];rfl),fun o=>by rw [GF];exact h.fz o⟩
end Go.Proofs.YtpobkmjicbobdaaGreat
