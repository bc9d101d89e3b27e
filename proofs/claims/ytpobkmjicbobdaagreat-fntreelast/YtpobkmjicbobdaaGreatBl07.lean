/- Walks. -/
import Derived.Test.YtpobkmjicbobdaaGreatBl06
import Derived.Deep.RegionLaw
namespace Go.Proofs.YtpobkmjicbobdaaGreat
set_option maxRecDepth 100000
set_option maxHeartbeats 40000000
open Go.RowKit
variable {B:List an} {L:List ac} {P cap i j len:Nat} {k1 k2 key:ByteArray} {r:an} {seq:Int} {w w':World}
def fC (B:List an) (k1 k2:ByteArray) (i j:Nat):Prop :=
 i≤B.length∧j≤B.length∧∀t r,B[t]?=some r→(t<i→Op.bytesLess (aT r.1).toList k1.toList=true)∧(i≤t→Op.bytesLess (aT r.1).toList k1.toList=false)∧(t<j→Op.bytesLess k2.toList (bd r.1).toList=false)∧(j≤t→Op.bytesLess k2.toList (bd r.1).toList=true)
theorem pg {a b c:List UInt8} (h1:a=b∨Op.bytesLess a b=true) (h2:Op.bytesLess b c=true):Op.bytesLess a c=true:=by
 rcases h1 with rfl | h1
 · exact h2
 · exact b7 _ _ _ h1 h2
theorem dL (h:ch r.1 r.2=true):aI r.1=true∧1≤r.1.length∧r.1.length≤150:=by
 simp [ch] at h;exact ⟨h.2.2.1,by omega,by omega⟩
theorem vK (ha:bg B=true) (b:∀r ∈ B,ch r.1 r.2=true) {s t:Nat} {p r:an} (hs:B[s]?=some p) (d:B[t]?=some r) (e:s≤t) (k:ByteArray) (h:Op.bytesLess (aT r.1).toList k.toList=true):Op.bytesLess (aT p.1).toList k.toList=true:=by
 by_cases f:s=t
 · subst f;rw [hs] at d;cases d;exact h
 · have h1:=jK ha b (t - s - 1) s hs (by rw [← d];congr 1;omega);obtain ⟨hr,hl,_⟩:=dL (b r (CV d));have h2:=iE hr hl;refine b7 _ _ _ h1 (pg ?_ h);rcases h2 with h2 | h2
   · exact .inl (by rw [h2])
   · exact .inr h2
theorem zf (ha:bg B=true) (b:∀r ∈ B,ch r.1 r.2=true) {s t:Nat} {p r:an} (hs:B[s]?=some p) (d:B[t]?=some r) (e:s≤t) (k:ByteArray) (h:Op.bytesLess k.toList (bd p.1).toList=true):Op.bytesLess k.toList (bd r.1).toList=true:=by
 by_cases f:s=t
 · subst f;rw [hs] at d;cases d;exact h
 · have h1:=jK ha b (t - s - 1) s hs (by rw [← d];congr 1;omega);obtain ⟨hr,hl,_⟩:=dL (b p (CV hs));have h2:=iE hr hl;refine b7 _ _ _ h (pg ?_ h1);rcases h2 with h2 | h2
   · exact .inl (by rw [h2])
   · exact .inr h2
theorem fC.le (h:fC B k1 k2 i j) (d:∀r ∈ B,ch r.1 r.2=true) (hk:k1=k2∨Op.bytesLess k1.toList k2.toList=true):i≤j:=by
 by_cases b:i≤j
 · exact b
 · exfalso
   have e:j<B.length:=by have:=h.1;omega
   have hp:=j' e;obtain ⟨h1,_,_,h4⟩:=h.2.2 j _ hp;have h1:=h1 (by omega);have h4:=h4 (Cy _);obtain ⟨hr,hl,_⟩:=dL (d _ (Dq e));have h2:=iE hr hl;have h5:Op.bytesLess (bd B[j].1).toList k1.toList=true:=pg (by rcases h2 with h2 | h2;exact .inl (by rw [h2]);exact .inr h2) h1;have h6:Op.bytesLess (bd B[j].1).toList k2.toList=true:=by
    rcases hk with rfl | hk
    · exact h5
    · exact b7 _ _ _ h5 hk
   rw [ee _ _ h6] at h4;cases h4
theorem jl (hr:aI L=true) (h:Op.bytesLess (aT L).toList key.toList=true):aQ L key seq=[]:=by
 unfold aQ;rw [D4];intro e b hc;simp only [Db,decide_eq_true_eq] at hc;rcases jW hr b with h1 | h1
 · rw [← h1,hc.1,bU] at h;cases h
 · rw [hc.1] at h1;rw [ee _ _ h1] at h;cases h
theorem jQ (hr:aI L=true) (h:Op.bytesLess key.toList (bd L).toList=true):aQ L key seq=[]:=by
 unfold aQ;rw [D4];intro e b hc;simp only [Db,decide_eq_true_eq] at hc;rcases jy hr b with h1 | h1
 · rw [h1,hc.1,bU] at h;cases h
 · rw [hc.1] at h1;rw [ee _ _ h1] at h;cases h
def aV (B:List an) (key:ByteArray) (seq:Int):List ac:=B.flatMap (fun r=>aQ r.1 key seq)
theorem qD (h:∀r ∈ B,aQ r.1 key seq=[]):aV B key seq=[]:=by
 unfold aV;rw [List.flatMap_eq_nil_iff];exact h
theorem fG (A B:List an) (key:ByteArray) (seq:Int):aV (A++B) key seq=aV A key seq++aV B key seq:=by
 unfold aV;rw [List.flatMap_append]
theorem qd (h:fC B key key i j) (b:∀r ∈ B,ch r.1 r.2=true) (seq:Int):aV ((B.drop i).take (j - i)) key seq=aV B key seq:=by
 have f:=h.le b (.inl rfl);have g:B=B.take i++((B.drop i).take (j - i)++B.drop j):=by
  have h2:(B.drop i).drop (j - i)=B.drop j:=by rw [D5];congr 1;omega
  rw [← h2,Ds,Ds]
 have e:aV (B.take i) key seq=[]:=qD fun r hr=>by
  obtain ⟨t,d,rfl⟩:=Du hr;rw [C5] at d;rw [D3];have hp:=j' (show t<B.length by omega);exact jl (dL (b _ (Dq _))).1 ((h.2.2 t _ hp).1 (by omega))
 have n2:aV (B.drop j) key seq=[]:=qD fun r hr=>by
  obtain ⟨t,d,rfl⟩:=Du hr;rw [Dh] at d;rw [D8];have hp:=j' (show j+t<B.length by omega);exact jQ (dL (b _ (Dq _))).1 ((h.2.2 (j+t) _ hp).2.2.2 (by omega))
 conv=>rhs;rw [g]
 rw [fG,fG,e,n2,DA,Eh]
def fi (a b:ByteArray):Bool:=Op.bytesLess a.toList b.toList || a.toList == b.toList
def dX (low high:ByteArray) (r:an):Bool:=fi (bd r.1) high && fi low (aT r.1)
def fh (k:ByteArray) (B:List an):ByteArray:=B.foldl (fun k r=>if Op.bytesLess (bd r.1).toList k.toList then bd r.1 else k) k
def mi (a b:ByteArray):Bool:=!Op.bytesLess a.toList b.toList && !(a.toList == b.toList)
def cW (k:ByteArray) (B:List an):ByteArray:=B.foldl (fun k r=>if mi (aT r.1) k then aT r.1 else k) k
theorem qg (k:ByteArray) {B:List an} {i:Nat} {r:an} (h:B[i]?=some r):fh k (B.take (i+1))=(if Op.bytesLess (bd r.1).toList (fh k (B.take i)).toList then bd r.1 else fh k (B.take i)):=by
 rw [Dl,h];unfold fh;rw [List.foldl_append];rfl
theorem fF (k:ByteArray) {B:List an} {i:Nat} {r:an} (h:B[i]?=some r):cW k (B.take (i+1))=(if mi (aT r.1) (cW k (B.take i)) then aT r.1 else cW k (B.take i)):=by
 rw [Dl,h];unfold cW;rw [List.foldl_append];rfl
theorem gS (h:B[i]?=some r) (p:an→Bool):(B.take (i+1)).filter p=(B.take i).filter p++(if p r then [r] else []):=by
 rw [Dl,h,Ea];cases hp:p r <;> simp [hp]
def bj (B:List an):List (List ac):=B.map (·.1)
theorem tn (h:B[i]?=some r):bj (B.take (i+1))=bj (B.take i)++[r.1]:=by
 rw [Dl,h];simp [bj]
def gy (B:List an):Bool:=B.all (fun r=>decide (r.1.length≤150))
theorem AG (h:B[i]?=some r) (hr:150<r.1.length):gy B=false:=by
 unfold gy;rw [List.all_eq_false];exact ⟨r,CV h,by simp;omega⟩
theorem zJ {n:Nat} (hl:B.length=n) (h:∀j r,j<n→B[j]?=some r→r.1.length≤150):gy B=true:=by
 unfold gy;rw [Dn];intro r hr;obtain ⟨j,b,rfl⟩:=Du hr;exact decide_eq_true (h j _ (by omega) (j' b))
theorem du (a b:ByteArray):fi a b=!Op.bytesLess b.toList a.toList:=by
 unfold fi;by_cases h:a.toList=b.toList
 · rw [h,bU];simp
 · rcases gU _ _ h with h1 | h1
   · rw [h1,ee _ _ h1];rfl
   · rw [h1,ee _ _ h1];simp [h]
theorem ry (a b:ByteArray):mi a b=Op.bytesLess b.toList a.toList:=by
 have h:=du a b;unfold fi at h;unfold mi;rw [← Bool.not_or,h,Bool.not_not]
theorem ou (b:i≤j):B=B.take i++((B.drop i).take (j - i)++B.drop j):=by
 have h2:(B.drop i).drop (j - i)=B.drop j:=by rw [D5];congr 1;omega
 rw [← h2,Ds,Ds]
theorem mE (h:fC B k1 k2 i j) (d:i≤j):B.filter (dX k1 k2)=(B.drop i).take (j - i)∧B.filter (fun r=>!dX k1 k2 r)=B.take i++B.drop j:=by
 have h1:∀r ∈ B.take i,dX k1 k2 r=false:=fun r hr=>by
  obtain ⟨t,b,rfl⟩:=Du hr;rw [C5] at b;rw [D3];have h2:=(h.2.2 t _ (j' (show t<B.length by omega))).1 (by omega);unfold dX;rw [du k1,h2];simp
 have h2:∀r ∈ (B.drop i).take (j - i),dX k1 k2 r=true:=fun r hr=>by
  obtain ⟨t,b,rfl⟩:=Du hr;rw [C5,Dh] at b;rw [D3,D8];have h3:=h.2.2 (i+t) _ (j' (show i+t<B.length by omega));unfold dX;rw [du,du,h3.2.1 (by omega),h3.2.2.1 (by omega)];rfl
 have h3:∀r ∈ B.drop j,dX k1 k2 r=false:=fun r hr=>by
  obtain ⟨t,b,rfl⟩:=Du hr;rw [Dh] at b;rw [D8];have h3:=(h.2.2 (j+t) _ (j' (show j+t<B.length by omega))).2.2.2 (by omega);unfold dX;rw [du (bd _),h3];rfl
 constructor
 · conv=>lhs;rw [ou (B:=B) d]
   rw [Ea,Ea,D4.2 (fun r hr=>by rw [h1 r hr];simp),List.filter_eq_self.2 h2,D4.2 (fun r hr=>by rw [h3 r hr];simp)];simp
 · conv=>lhs;rw [ou (B:=B) d]
   rw [Ea,Ea,List.filter_eq_self.2 (fun r hr=>by rw [h1 r hr];rfl),D4.2 (fun r hr=>by rw [h2 r hr];simp),List.filter_eq_self.2 (fun r hr=>by rw [h3 r hr];rfl)];simp
theorem eI (a:ByteArray):fi a a=true:=by rw [du,bU];rfl
theorem cw {a b c:ByteArray} (h1:fi a b=true) (h2:fi b c=true):fi a c=true:=by
 unfold fi at h1 h2 ⊢;simp only [EG,beq_iff_eq] at h1 h2 ⊢;rcases h1 with h1 | h1
 · rcases h2 with h2 | h2
   · exact .inl (b7 _ _ _ h1 h2)
   · rw [← h2];exact .inl h1
 · rw [h1];exact h2
theorem oG {a b:ByteArray} (h1:fi a b=true) (h2:fi b a=true):a=b:=by
 rw [du] at h2;unfold fi at h1;simp only [EG,beq_iff_eq] at h1;rcases h1 with h1 | h1
 · rw [h1] at h2;cases h2
 · rw [Dp,Dp] at h1;exact Ef (Ed.1 h1)
theorem vH:∀(B:List an) (k:ByteArray),fi (fh k B) k=true∧∀r ∈ B,fi (fh k B) (bd r.1)=true
 | [],k=>⟨eI k,fun r hr=>by cases hr⟩
 | r :: B,k=>by
  have h:∃b,fh k (r :: B)=fh b B∧fi b k=true∧fi b (bd r.1)=true:=by
   refine ⟨if Op.bytesLess (bd r.1).toList k.toList then bd r.1 else k,rfl,?_⟩;cases hl:Op.bytesLess (bd r.1).toList k.toList with
   | true=>exact ⟨by simp only [if_true];unfold fi;rw [hl];rfl,by simp only [if_true];exact eI _⟩
   | false=>exact ⟨by simp only [EE,if_false];exact eI _,by simp only [EE,if_false];rw [du,hl];rfl⟩
  obtain ⟨b,h1,h2,h3⟩:=h;obtain ⟨h4,h5⟩:=vH B b;rw [h1];refine ⟨cw h4 h2,fun x hx=>?_⟩;rcases Da.1 hx with rfl | hx
  · exact cw h4 h3
  · exact h5 x hx
theorem tj:∀(B:List an) (k:ByteArray),fh k B=k∨∃r ∈ B,fh k B=bd r.1
 | [],k=>.inl rfl
 | r :: B,k=>by
  have e:fh k (r :: B)=fh (if Op.bytesLess (bd r.1).toList k.toList then bd r.1 else k) B:=rfl
  rw [e]
  rcases tj B (if Op.bytesLess (bd r.1).toList k.toList then bd r.1 else k) with h | ⟨x,hx,h⟩
  · rw [h]
    split
    · exact .inr ⟨r,by simp,rfl⟩
    · exact .inl rfl
  · exact .inr ⟨x,DB _ hx,h⟩
theorem tA:∀(B:List an) (k:ByteArray),fi k (cW k B)=true∧∀r ∈ B,fi (aT r.1) (cW k B)=true
 | [],k=>⟨eI k,fun r hr=>by cases hr⟩
 | r :: B,k=>by
  have h:∃b,cW k (r :: B)=cW b B∧fi k b=true∧fi (aT r.1) b=true:=by
   refine ⟨if mi (aT r.1) k then aT r.1 else k,rfl,?_⟩;rw [ry];cases hl:Op.bytesLess k.toList (aT r.1).toList with
   | true=>exact ⟨by simp only [if_true];unfold fi;rw [hl];rfl,by simp only [if_true];exact eI _⟩
   | false=>exact ⟨by simp only [EE,if_false];exact eI _,by simp only [EE,if_false];rw [du,hl];rfl⟩
  obtain ⟨b,h1,h2,h3⟩:=h;obtain ⟨h4,h5⟩:=tA B b;rw [h1];refine ⟨cw h2 h4,fun x hx=>?_⟩;rcases Da.1 hx with rfl | hx
  · exact cw h3 h4
  · exact h5 x hx
theorem qw:∀(B:List an) (k:ByteArray),cW k B=k∨∃r ∈ B,cW k B=aT r.1
 | [],k=>.inl rfl
 | r :: B,k=>by
  have e:cW k (r :: B)=cW (if mi (aT r.1) k then aT r.1 else k) B:=rfl
  rw [e]
  rcases qw B (if mi (aT r.1) k then aT r.1 else k) with h | ⟨x,hx,h⟩
  · rw [h]
    split
    · exact .inr ⟨r,by simp,rfl⟩
    · exact .inl rfl
  · exact .inr ⟨x,DB _ hx,h⟩
structure aZ (w:World) (R:Nat) (a:Option Addr) (len cap P:Nat):Prop where
 c0:w.cell? ⟨R,0,none⟩=some (.slice a len cap)
 c1:w.cell? ⟨R,1,none⟩=some (iT P)
 f1:w.frozen? ⟨R,1,none⟩=false
 few:len≤2000
 two:∀o,w.cell? ⟨R,o+2,none⟩=none
 bytes:len=0∨∃b off,a=some ⟨b,off,none⟩∧b≠R∧b<w.heap.size∧∀i,i<len→∃z:Nat,z≤255∧w.cell? ⟨b,off+i,none⟩=some (.int .u8 z)
theorem aZ.lt {R:Nat} {a:Option Addr} (h:aZ w R a len cap P):R<w.heap.size:=Cz w _ h.c0
theorem ae {a b c:World} {R:Option Nat} (h:a.grownBy b R) (k:b.grownBy c R):a.grownBy c R :=
 ⟨k.os.trans h.os,k.tape.trans h.tape,k.output.trans h.output,C8 h.size k.size,fun i hi hn=>(k.block i (l' hi h.size) hn).trans (h.block i hi hn)⟩
theorem aj {R:Nat} (hg:w.grownBy w' (some R)) {x:Addr} (hx:x.block<w.heap.size) (hn:x.block≠R):w'.cell? x=w.cell? x :=
 DJ (hg.block x.block hx (fun e=>hn (by cases e;rfl)))
theorem aZ.below {R:Nat} {a:Option Addr} (h:aZ w R a len cap P) (hb:Bl w w'):aZ w' R a len cap P where
 c0:=cell_later hb h.c0
 c1:=cell_later hb h.c1
 f1:=(hb.frozen (p:=⟨R,1,none⟩) h.lt).trans h.f1
 few:=h.few
 two:=fun o=>(DJ (a:=⟨R,o+2,none⟩) (hb.block R h.lt)).trans (h.two o)
 bytes:=by
  rcases h.bytes with h0 | ⟨b,g,ha,d,f,hc⟩
  · exact Or.inl h0
  · exact Or.inr ⟨b,g,ha,d,l' f hb.size,fun i hi=>by obtain ⟨z,hz,e⟩:=hc i hi;exact ⟨z,hz,cell_later hb e⟩⟩
theorem aZ.next {R:Nat} {a:Option Addr} (h:aZ w R a len cap P):aZ (w.setCell ⟨R,1,none⟩ (iT ((P:Int)+1))) R a len cap (P+1):=by
 refine ⟨?_,?_,?_,h.few,fun o=>?_,?_⟩
 · rw [u' _ _ _ _ (by simp)];exact h.c0
 · exact C4 _ _ _ (by rw [h.c1];rfl)
 · rw [Dj];exact h.f1
 · rw [u' _ _ _ _ (by simp)];exact h.two o
 · rcases h.bytes with h0 | ⟨b,m,ha,d,g,hc⟩
   · exact Or.inl h0
   · refine Or.inr ⟨b,m,ha,d,by simpa [World.setCell] using g,fun i hi=>?_⟩;obtain ⟨z,hz,f⟩:=hc i hi;exact ⟨z,hz,by rw [u' _ _ _ _ (fun e=>d (congrArg Addr.block e).symm)];exact f⟩
theorem iJ (w:World) (R:Nat) (v:Value):w.grownBy (w.setCell ⟨R,1,none⟩ v) (some R) :=
 ⟨rfl,rfl,rfl,by simp [World.setCell],fun k _ hk=>Below.heap_setCell _ _ _ _ (fun e=>hk (by rw [e]))⟩
theorem aS {R:Option Nat} (h:Bl w w'):w.grownBy w' R:=⟨h.os,h.tape,h.output,h.size,fun k hk _=>h.block k hk⟩
def A5 (n q:Int):Prop:=0≤q∧(1≤n→q<n)
theorem Ag (a b:Nat) (ha:a<4611686018427387904) (hb:b<4611686018427387904):bits .xor .i64 (a:Int) (b:Int)=((a ^^^ b:Nat):Int):=by
 have hx:a ^^^ b<2 ^ 62:=Nat.xor_lt_two_pow (by omega) (by omega);have h1:(BitVec.ofInt 64 (a:Int)).toNat=a:=by
  rw [BitVec.ofInt_natCast,BitVec.toNat_ofNat];exact Nat.mod_eq_of_lt (by omega)
 have h2:(BitVec.ofInt 64 (b:Int)).toNat=b:=by
  rw [BitVec.ofInt_natCast,BitVec.toNat_ofNat];exact Nat.mod_eq_of_lt (by omega)
 show IntKind.i64.wrap ((BitVec.ofInt 64 (a:Int) ^^^ BitVec.ofInt 64 (b:Int)).toNat:Int)=_
 rw [BitVec.toNat_xor,h1,h2,Dv];omega
theorem iq (n:Int) (h0:0≤n) (h1:n≤9223372036854775807):wrap64 n=n:=by
 unfold wrap64;omega
theorem yY (z y P len:Nat) (n:Int) (hz:z≤255) (hy:y≤255) (g:P<100000) (hn:1≤n) :
 A5 n ((bits BinOp.xor IntKind.i64 (wrap64 (↑z*131+↑y*1117+↑P*29+wrap64 (wrap64 (↑P / ↑len)*53))) (wrap64 ((wrap64 (↑z*131+↑y*1117+↑P*29+wrap64 (wrap64 (↑P / ↑len)*53))).tdiv 64))).tmod n):=by
 have hq:((P:Int) / (len:Int))=((P / len:Nat):Int):=(Int.natCast_ediv P len).symm;have b:P / len≤P:=Nat.div_le_self _ _;rw [hq];generalize P / len=Q at b;rw [iq (Q:Int) (by omega) (by omega),iq ((Q:Int)*53) (by omega) (by omega),iq _ (by omega) (by omega)];have e:(↑z*131+↑y*1117+↑P*29+↑Q*53:Int)=((z*131+y*1117+P*29+Q*53:Nat):Int):=by omega
 rw [e];have f:z*131+y*1117+P*29+Q*53<100000000:=by omega
 generalize z*131+y*1117+P*29+Q*53=X at f;have d:((X:Int).tdiv 64)=((X / 64:Nat):Int):=by
  rw [Int.tdiv_eq_ediv_of_nonneg (by omega)];omega
 rw [d,iq _ (by omega) (by omega),Ag _ _ (by omega) (by omega)];generalize X ^^^ X / 64=Y;rw [Int.tmod_eq_emod_of_nonneg (by omega)];exact ⟨Int.emod_nonneg _ (by omega),fun _=>Int.emod_lt_of_pos _ (by omega)⟩
theorem bn {row:Option Nat} (hg:w.grownBy w' row) {x:Addr} (hx:x.block<w.heap.size) (hn:some x.block≠row):w'.frozen? x=w.frozen? x:=Eq (hg.block x.block hx hn)
theorem lg {base e size k:Nat} {v:Value} {xs:List Value} (h:w.ownsRow base e size v k xs) (d:¬v=nZ):∃g cap,v=sL g k cap:=by
 rcases h.2 with ⟨b,_⟩ | ⟨g,cap,_,b,_⟩
 · exact absurd b d
 · exact ⟨g,cap,b⟩
theorem aw {P:Program} {d:Array Oper} {o:Oper} {a:Act} {w:World} {K:Act→World→Prop} {Q:Exit→Act→World→Prop} {E:Prop}
 (hg:o.guard=none) (s x:Operand) (t:TypeId) (hop:o.op=Op.call { callee:=Callee.builtin Builtin.append,args:=#[s,x],argTypes:=#[t,t] })
 (base:Nat) (e:TypeId) (i:TypeInfo) (z:Value) (size bytes:Nat) (h1:P.underlying t=some (.slice e)) (h2:P.info? e=some i) (h3:i.zero=some z) (h4:i.size=size) (h5:i.bytes=bytes) (h6:z.cells.size=size) (h7:0<size)
 (v:Value) (n:Nat) (olds:List Value) (hs:a.eval s=v) (hown:w.ownsRow base e size v n olds)
 (ad:Addr) (m c:Nat) (news:List Value) (hx:a.eval x=.slice (some ad) m c) (hn:news.length=m*size) (hc:∀j u,news[j]?=some u→w.cell? (ad.add j)=some u) (h1c:∀u ∈ news,u.oneCell'=true)
 (b1:n+m≤maxLen) (b2:(n+m)*bytes≤140737488355328) (b3:base≤w.heap.size)
 (hK:∀f w',w'.ownsRow base e size f (n+m) (olds++news)→w.grownBy w' v.ownBlock→(f=nZ ↔ v=nZ∧m=0)→K (a.put o.dst f) w') :
 if Region.wanted o (yielded d a.tmps)=true then Oper.wp P o a w K Q else E:=by
 have hw:Region.wanted o (yielded d a.tmps)=true:=by simp [Region.wanted,hg]
 rw [if_pos hw];obtain ⟨f,w',b,g,r2,r3⟩:=run_append_own (P:=P) w base t o.type e i z size bytes h1 h2 h3 h4 h5 h6 h7 v n olds hown ad m c news hn hc h1c b1 b2 b3;unfold Oper.wp;simp [execOp,hop,resolve,invoke,builtin,hs,hx,b,Result.andThen];exact hK f w' g r2 r3
end Go.Proofs.YtpobkmjicbobdaaGreat
