/- Walks. -/
import Derived.Test.YtpobkmjicbobdaaGreatBc05
import Derived.Deep.RegionLaw
import Derived.Sort.Grow
import Derived.Sort.Statements
import Derived.Shelf.SlSortCmp.InsertionK
namespace Go.Proofs.YtpobkmjicbobdaaGreat
set_option maxRecDepth 100000
set_option maxHeartbeats 40000000
open Go.RowKit Go.Sort
variable {B:List aj} {L LT:List ae} {P X base cap ct e g gt i j k len nt size:Nat} {d q:Int} {s t:ByteArray} {v:Value} {w w' wc wd:World} {xs:List Value}
theorem dL (a b:ByteArray):fH a b=!Op.bytesLess b.toList a.toList:=by
 unfold fH;by_cases h:a.toList=b.toList
 · rw [h,b9];simp
 · rcases iD _ _ h with h1 | h1
   · rw [h1,eK _ _ h1];rfl
   · rw [h1,eK _ _ h1];simp [h]
theorem tE (a b:ByteArray):nq a b=Op.bytesLess b.toList a.toList:=by
 have h:=dL a b;unfold fH at h;unfold nq;rw [← Bool.not_or,h,Bool.not_not]
theorem pK (b:i≤j):B=B.take i++((B.drop i).take (j - i)++B.drop j):=by
 have h2:(B.drop i).drop (j - i)=B.drop j:=by rw [GP];congr 1;omega
 rw [← h2,FX,FX]
theorem oh {k1 k2:ByteArray} (h:f5 B k1 k2 i j) (b:i≤j):B.filter (eD k1 k2)=(B.drop i).take (j - i)∧B.filter (fun r=>!eD k1 k2 r)=B.take i++B.drop j:=by
 have h1:∀r ∈ B.take i,eD k1 k2 r=false:=fun r hr=>by
  obtain ⟨t,f,rfl⟩:=F7 hr;rw [FC] at f;rw [Gn];have h2:=(h.2.2 t _ (j' (show t<B.length by omega))).1 (by omega);unfold eD;rw [dL k1,h2];simp
 have h2:∀r ∈ (B.drop i).take (j - i),eD k1 k2 r=true:=fun r hr=>by
  obtain ⟨t,f,rfl⟩:=F7 hr;rw [FC,FN] at f;rw [Gn,Gr];have h3:=h.2.2 (i+t) _ (j' (show i+t<B.length by omega));unfold eD;rw [dL,dL,h3.2.1 (by omega),h3.2.2.1 (by omega)];rfl
 have h3:∀r ∈ B.drop j,eD k1 k2 r=false:=fun r hr=>by
  obtain ⟨t,f,rfl⟩:=F7 hr;rw [FN] at f;rw [Gr];have h3:=(h.2.2 (j+t) _ (j' (show j+t<B.length by omega))).2.2.2 (by omega);unfold eD;rw [dL (bn _),h3];rfl
 constructor
 · conv=>lhs;rw [pK (B:=B) b]
   rw [Gt,Gt,GC.2 (fun r hr=>by rw [h1 r hr];simp),List.filter_eq_self.2 h2,GC.2 (fun r hr=>by rw [h3 r hr];simp)];simp
 · conv=>lhs;rw [pK (B:=B) b]
   rw [Gt,Gt,List.filter_eq_self.2 (fun r hr=>by rw [h1 r hr];rfl),GC.2 (fun r hr=>by rw [h2 r hr];simp),List.filter_eq_self.2 (fun r hr=>by rw [h3 r hr];rfl)];simp
theorem e9 (a:ByteArray):fH a a=true:=by rw [dL,b9];rfl
theorem cK {a b c:ByteArray} (h1:fH a b=true) (h2:fH b c=true):fH a c=true:=by
 unfold fH at h1 h2 ⊢;simp only [Hi,beq_iff_eq] at h1 h2 ⊢;rcases h1 with h1 | h1
 · rcases h2 with h2 | h2
   · exact .inl (cw _ _ _ h1 h2)
   · rw [← h2];exact .inl h1
 · rw [h1];exact h2
theorem pS {a b:ByteArray} (h1:fH a b=true) (h2:fH b a=true):a=b:=by
 rw [dL] at h2;unfold fH at h1;simp only [Hi,beq_iff_eq] at h1;rcases h1 with h1 | h1
 · rw [h1] at h2;cases h2
 · rw [F1,F1] at h1;exact GX (GS.1 h1)
theorem yl:∀(B:List aj) (k:ByteArray),fH (fG k B) k=true∧∀r ∈ B,fH (fG k B) (bn r.1)=true
 | [],k=>⟨e9 k,fun r hr=>by cases hr⟩
 | r :: B,k=>by
  have h:∃b,fG k (r :: B)=fG b B∧fH b k=true∧fH b (bn r.1)=true:=by
   refine ⟨if Op.bytesLess (bn r.1).toList k.toList then bn r.1 else k,rfl,?_⟩;cases hl:Op.bytesLess (bn r.1).toList k.toList with
   | true=>exact ⟨by simp only [if_true];unfold fH;rw [hl];rfl,by simp only [if_true];exact e9 _⟩
   | false=>exact ⟨by simp only [Hn,if_false];exact e9 _,by simp only [Hn,if_false];rw [dL,hl];rfl⟩
  obtain ⟨b,h1,h2,h3⟩:=h;obtain ⟨h4,h5⟩:=yl B b;rw [h1];refine ⟨cK h4 h2,fun x hx=>?_⟩;rcases FF.1 hx with rfl | hx
  · exact cK h4 h3
  · exact h5 x hx
theorem uW:∀(B:List aj) (k:ByteArray),fG k B=k∨∃r ∈ B,fG k B=bn r.1
 | [],k=>.inl rfl
 | r :: B,k=>by
  have e:fG k (r :: B)=fG (if Op.bytesLess (bn r.1).toList k.toList then bn r.1 else k) B:=rfl
  rw [e]
  rcases uW B (if Op.bytesLess (bn r.1).toList k.toList then bn r.1 else k) with h | ⟨x,hx,h⟩
  · rw [h]
    split
    · exact .inr ⟨r,by simp,rfl⟩
    · exact .inl rfl
  · exact .inr ⟨x,FY _ hx,h⟩
theorem vf:∀(B:List aj) (k:ByteArray),fH k (dw k B)=true∧∀r ∈ B,fH (aU r.1) (dw k B)=true
 | [],k=>⟨e9 k,fun r hr=>by cases hr⟩
 | r :: B,k=>by
  have h:∃b,dw k (r :: B)=dw b B∧fH k b=true∧fH (aU r.1) b=true:=by
   refine ⟨if nq (aU r.1) k then aU r.1 else k,rfl,?_⟩;rw [tE];cases hl:Op.bytesLess k.toList (aU r.1).toList with
   | true=>exact ⟨by simp only [if_true];unfold fH;rw [hl];rfl,by simp only [if_true];exact e9 _⟩
   | false=>exact ⟨by simp only [Hn,if_false];exact e9 _,by simp only [Hn,if_false];rw [dL,hl];rfl⟩
  obtain ⟨b,h1,h2,h3⟩:=h;obtain ⟨h4,h5⟩:=vf B b;rw [h1];refine ⟨cK h2 h4,fun x hx=>?_⟩;rcases FF.1 hx with rfl | hx
  · exact cK h3 h4
  · exact h5 x hx
theorem sC:∀(B:List aj) (k:ByteArray),dw k B=k∨∃r ∈ B,dw k B=aU r.1
 | [],k=>.inl rfl
 | r :: B,k=>by
  have e:dw k (r :: B)=dw (if nq (aU r.1) k then aU r.1 else k) B:=rfl
  rw [e]
  rcases sC B (if nq (aU r.1) k then aU r.1 else k) with h | ⟨x,hx,h⟩
  · rw [h]
    split
    · exact .inr ⟨r,by simp,rfl⟩
    · exact .inl rfl
  · exact .inr ⟨x,FY _ hx,h⟩
structure bj (w:World) (R:Nat) (a:Option Addr) (len cap P:Nat):Prop where
 c0:w.cell? ⟨R,0,none⟩=some (.slice a len cap)
 c1:w.cell? ⟨R,1,none⟩=some (iT P)
 f1:w.frozen? ⟨R,1,none⟩=false
 few:len≤2000
 two:∀o,w.cell? ⟨R,o+2,none⟩=none
 bytes:len=0∨∃b off,a=some ⟨b,off,none⟩∧b≠R∧b<w.heap.size∧∀i,i<len→∃z:Nat,z≤255∧w.cell? ⟨b,off+i,none⟩=some (.int .u8 z)
theorem bj.lt {R:Nat} {a:Option Addr} (h:bj w R a len cap P):R<w.heap.size:=Fu w _ h.c0
theorem af {a b c:World} {R:Option Nat} (h:a.grownBy b R) (k:b.grownBy c R):a.grownBy c R :=
 ⟨k.os.trans h.os,k.tape.trans h.tape,k.output.trans h.output,FK h.size k.size,fun i hi hn=>(k.block i (u' hi h.size) hn).trans (h.block i hi hn)⟩
theorem an {R:Nat} (hg:w.grownBy w' (some R)) {x:Addr} (hx:x.block<w.heap.size) (hn:x.block≠R):w'.cell? x=w.cell? x :=
 Gc (hg.block x.block hx (fun e=>hn (by cases e;rfl)))
theorem bj.below {R:Nat} {a:Option Addr} (h:bj w R a len cap P) (hb:Bl w w'):bj w' R a len cap P where
 c0:=cell_later hb h.c0
 c1:=cell_later hb h.c1
 f1:=(hb.frozen (p:=⟨R,1,none⟩) h.lt).trans h.f1
 few:=h.few
 two:=fun o=>(Gc (a:=⟨R,o+2,none⟩) (hb.block R h.lt)).trans (h.two o)
 bytes:=by
  rcases h.bytes with h0 | ⟨b,n,ha,f,m,hc⟩
  · exact Or.inl h0
  · exact Or.inr ⟨b,n,ha,f,u' m hb.size,fun i hi=>by obtain ⟨z,hz,r⟩:=hc i hi;exact ⟨z,hz,cell_later hb r⟩⟩
theorem bj.next {R:Nat} {a:Option Addr} (h:bj w R a len cap P):bj (w.setCell ⟨R,1,none⟩ (iT ((P:Int)+1))) R a len cap (P+1):=by
 refine ⟨?_,?_,?_,h.few,fun o=>?_,?_⟩
 · rw [Ft _ _ _ _ (by simp)];exact h.c0
 · exact FD _ _ _ (by rw [h.c1];rfl)
 · rw [FS];exact h.f1
 · rw [Ft _ _ _ _ (by simp)];exact h.two o
 · rcases h.bytes with h0 | ⟨b,n,ha,f,m,hc⟩
   · exact Or.inl h0
   · refine Or.inr ⟨b,n,ha,f,by simpa [World.setCell] using m,fun i hi=>?_⟩;obtain ⟨z,hz,r⟩:=hc i hi;exact ⟨z,hz,by rw [Ft _ _ _ _ (fun e=>f (congrArg Addr.block e).symm)];exact r⟩
theorem jp (w:World) (R:Nat) (v:Value):w.grownBy (w.setCell ⟨R,1,none⟩ v) (some R) :=
 ⟨rfl,rfl,rfl,by simp [World.setCell],fun k _ hk=>Below.heap_setCell _ _ _ _ (fun e=>hk (by rw [e]))⟩
theorem aT {R:Option Nat} (h:Bl w w'):w.grownBy w' R:=⟨h.os,h.tape,h.output,h.size,fun k hk _=>h.block k hk⟩
def D9 (n q:Int):Prop:=0≤q∧(1≤n→q<n)
theorem Dc (a b:Nat) (ha:a<4611686018427387904) (hb:b<4611686018427387904):bits .xor .i64 (a:Int) (b:Int)=((a ^^^ b:Nat):Int):=by
 have hx:a ^^^ b<2 ^ 62:=Nat.xor_lt_two_pow (by omega) (by omega);have h1:(BitVec.ofInt 64 (a:Int)).toNat=a:=by
  rw [BitVec.ofInt_natCast,BitVec.toNat_ofNat];exact Nat.mod_eq_of_lt (by omega)
 have h2:(BitVec.ofInt 64 (b:Int)).toNat=b:=by
  rw [BitVec.ofInt_natCast,BitVec.toNat_ofNat];exact Nat.mod_eq_of_lt (by omega)
 show IntKind.i64.wrap ((BitVec.ofInt 64 (a:Int) ^^^ BitVec.ofInt 64 (b:Int)).toNat:Int)=_
 rw [BitVec.toNat_xor,h1,h2,F0];omega
theorem iY (n:Int) (h0:0≤n) (h1:n≤9223372036854775807):wrap64 n=n:=by
 unfold wrap64;omega
theorem Bz (z y P len:Nat) (n:Int) (hz:z≤255) (hy:y≤255) (m:P<100000) (hn:1≤n) :
 D9 n ((bits BinOp.xor IntKind.i64 (wrap64 (↑z*131+↑y*1117+↑P*29+wrap64 (wrap64 (↑P / ↑len)*53))) (wrap64 ((wrap64 (↑z*131+↑y*1117+↑P*29+wrap64 (wrap64 (↑P / ↑len)*53))).tdiv 64))).tmod n):=by
 have hq:((P:Int) / (len:Int))=((P / len:Nat):Int):=(Int.natCast_ediv P len).symm;have b:P / len≤P:=Nat.div_le_self _ _;rw [hq];generalize P / len=Q at b;rw [iY (Q:Int) (by omega) (by omega),iY ((Q:Int)*53) (by omega) (by omega),iY _ (by omega) (by omega)];have e:(↑z*131+↑y*1117+↑P*29+↑Q*53:Int)=((z*131+y*1117+P*29+Q*53:Nat):Int):=by omega
 rw [e];have f:z*131+y*1117+P*29+Q*53<100000000:=by omega
 generalize z*131+y*1117+P*29+Q*53=X at f;have e2:((X:Int).tdiv 64)=((X / 64:Nat):Int):=by
  rw [Int.tdiv_eq_ediv_of_nonneg (by omega)];omega
 rw [e2,iY _ (by omega) (by omega),Dc _ _ (by omega) (by omega)];generalize X ^^^ X / 64=Y;rw [Int.tmod_eq_emod_of_nonneg (by omega)];exact ⟨Int.emod_nonneg _ (by omega),fun _=>Int.emod_lt_of_pos _ (by omega)⟩
theorem bo {row:Option Nat} (hg:w.grownBy w' row) {x:Addr} (hx:x.block<w.heap.size) (hn:some x.block≠row):w'.frozen? x=w.frozen? x:=Hb (hg.block x.block hx hn)
theorem l9 (h:w.ownsRow base e size v k xs) (b:¬v=nZ):∃g cap,v=sL g k cap:=by
 rcases h.2 with ⟨h',_⟩ | ⟨g,cap,_,h',_⟩
 · exact absurd h' b
 · exact ⟨g,cap,h'⟩
theorem aw {P:Program} {r:Array Oper} {o:Oper} {a:Act} {w:World} {K:Act→World→Prop} {Q:Exit→Act→World→Prop} {E:Prop}
 (hg:o.guard=none) (s x:Operand) (t:TypeId) (hop:o.op=Op.call { callee:=Callee.builtin Builtin.append,args:=#[s,x],argTypes:=#[t,t] })
 (base:Nat) (e:TypeId) (i:TypeInfo) (z:Value) (size bytes:Nat) (h1:P.underlying t=some (.slice e)) (h2:P.info? e=some i) (h3:i.zero=some z) (h4:i.size=size) (h5:i.bytes=bytes) (h6:z.cells.size=size) (h7:0<size)
 (v:Value) (n:Nat) (olds:List Value) (hs:a.eval s=v) (hown:w.ownsRow base e size v n olds)
 (ad:Addr) (m c:Nat) (news:List Value) (hx:a.eval x=.slice (some ad) m c) (hn:news.length=m*size) (hc:∀j u,news[j]?=some u→w.cell? (ad.add j)=some u) (h1c:∀u ∈ news,u.oneCell'=true)
 (b1:n+m≤maxLen) (b2:(n+m)*bytes≤140737488355328) (b3:base≤w.heap.size)
 (hK:∀b w',w'.ownsRow base e size b (n+m) (olds++news)→w.grownBy w' v.ownBlock→(b=nZ ↔ v=nZ∧m=0)→K (a.put o.dst b) w') :
 if Region.wanted o (yielded r a.tmps)=true then Oper.wp P o a w K Q else E:=by
 have hw:Region.wanted o (yielded r a.tmps)=true:=by simp [Region.wanted,hg]
 rw [if_pos hw];obtain ⟨b,w',f,y,r2,r3⟩:=run_append_own (P:=P) w base t o.type e i z size bytes h1 h2 h3 h4 h5 h6 h7 v n olds hown ad m c news hn hc h1c b1 b2 b3;unfold Oper.wp;simp [execOp,hop,resolve,invoke,builtin,hs,hx,f,Result.andThen];exact hK b w' y r2 r3
def lh (L:List ae) (e:ae):Nat→Nat
 | 0=>0
 | k+1=>match L[k]? with
  | none=>k+1
  | some x=>if bI e.1 e.2.1 x.1 x.2.1=true then lh L e k else k+1
theorem wL (L:List ae) (e:ae):∀k,lh L e k≤k
 | 0=>Fv _
 | k+1=>by
  have b:=wL L e k
  unfold lh
  split
  · exact Fv _
  · split <;> omega
def eE (L:List ae) (e:ae):List ae:=L.take (lh L e L.length)++([e]++L.drop (lh L e L.length))
def bD (L:List ae):List ae:=L.foldl eE []
theorem mg (L:List ae) (e:ae):(eE L e).length=L.length+1:=by
 have:=wL L e L.length;simp [eE];omega
theorem bV (w:World) (base:Nat) (h:base≤w.heap.size):ag (w.alloc (.cells #[] 50)) base w.heap.size 0 0 []:=by
 have:=F6 (base:=base) (e:=50) (size:=5) w #[] 0 (by first | exact h | simp) (by first | exact h | simp) (by first | exact h | simp);exact ⟨by simpa [aC] using this,rfl,by simp⟩
theorem df (w:World) (s t:ByteArray) (q d n:Int) (h:dR (s,q,d,t,n)):ah (w.alloc (.cells #[.string s,iT q,iT d,.string t,iT n] 50)) (some ⟨w.heap.size,0,none⟩) 1 1 [(s,q,d,t,n)]:=by
 refine ⟨rfl,Fv _,by unfold maxLen;omega,fun l hl=>by simp only [FL] at hl;subst hl;exact h,(fun e=>by cases e),(fun x e _=>by cases e;exact ⟨by simp,rfl⟩),?_⟩;rintro x e i hi;cases e;have:i=0:=by simp at hi;omega
 subst this;exact ⟨by simp,by simp,by simp,by simp,by simp⟩
theorem bC {b n c:Nat} (h:ah w (pT b) n c L):∀j u,(aC L)[j]?=some u→w.cell? ((⟨b,0,none⟩:Addr).add j)=some u:=by
 intro j u f;have m:j<(aC L).length:=(E'.1 f).1;rw [aV] at m;have hi:j / 5<L.length:=by omega
 obtain ⟨c0,c1,c2,c3,c4⟩:=h.cells _ rfl (j / 5) hi;obtain ⟨o,r,r2,r3,r4⟩:=fF L (j / 5) L[j / 5] (j' hi);rw [FO,FG];simp only [FG] at c0 c1 c2 c3 c4;have:j=j / 5*5∨j=j / 5*5+1∨j=j / 5*5+2∨j=j / 5*5+3∨j=j / 5*5+4:=by omega
 rcases this with e | e | e | e | e
 · rw [← e] at o c0;rw [o] at f;cases f;exact c0
 · rw [← e] at r c1;rw [r] at f;cases f;exact c1
 · rw [← e] at r2 c2;rw [r2] at f;cases f;exact c2
 · rw [← e] at r3 c3;rw [r3] at f;cases f;exact c3
 · rw [← e] at r4 c4;rw [r4] at f;cases f;exact c4
theorem Ap {b n c:Nat} (h:ah w (pT b) n c L) (hk:k≤n):ah w (pT b) k c (L.take k) where
 length:=by have:=h.length;simp;omega
 room:=by have:=h.room;omega
 big:=h.big
 ents:=fun l hl=>h.ents l (F9 hl)
 nil:=fun e=>by cases e
 lies:=fun x e hp=>h.lies x e (by omega)
 cells:=fun x e i hi=>by
  have f:i<L.length:=by simp at hi;omega
  have:=h.cells x e i f
  simpa using this
theorem nE {b n c:Nat} (h:ah w (pT b) n c L) (k:Nat):∀j u,(aC (L.drop k))[j]?=some u→w.cell? ((⟨b,k*5,none⟩:Addr).add j)=some u:=by
 intro j u f;have hf:aC L=aC (L.take k)++aC (L.drop k):=by rw [← aL,FX]
 by_cases hk:k≤L.length
 · have h1:(aC L)[k*5+j]?=some u:=by
    rw [hf,Fz (by rw [aV,FC];omega),aV,FC,Nat.min_eq_left hk,GI];exact f
   have h2:=bC h _ u h1;rw [FO,FG] at h2;rw [FO];exact h2
 · rw [GD (by omega)] at f;simp [aC] at f
theorem aH {n:Nat} {b:Addr} {f c0 m:Nat} (h:w.ownsRow base e size v n xs) (hn:v=nZ ↔ Value.slice (some b) f c0=nZ∧m=0):∃g c,v=sL g n c :=
 l9 h (fun e=>by cases (hn.1 e).1)
structure fZ (w wc:World) (X gt nt ct:Nat) (s t:ByteArray) (q d n:Int) (LT:List ae):Prop where
 low:Bl w wc
 hi:w.heap.size+1≤wc.heap.size
 x0:wc.cell? ⟨X,0,none⟩=some (.string s)
 x1:wc.cell? ⟨X,1,none⟩=some (iT q)
 x2:wc.cell? ⟨X,2,none⟩=some (iT d)
 x3:wc.cell? ⟨X,3,none⟩=some (.string t)
 x4:wc.cell? ⟨X,4,none⟩=some (iT n)
 tl:ag wc (w.heap.size+1) gt nt ct LT
theorem fZ.lt {n:Int} (h:fZ w wc X gt nt ct s t q d n LT):X<wc.heap.size:=Fu _ _ h.x0
theorem fZ.below {n:Int} (h:fZ w wc X gt nt ct s t q d n LT) (hb:Bl wc wd):fZ w wd X gt nt ct s t q d n LT :=
 ⟨h.low.trans (hb.mono h.low.size),FK h.hi hb.size,cell_later hb h.x0,cell_later hb h.x1,cell_later hb h.x2,cell_later hb h.x3,cell_later hb h.x4,h.tl.below hb⟩
theorem fZ.grown {n:Int} (h:fZ w wc X gt nt ct s t q d n LT) (hg:wc.grownBy wd (some g)) (hw:w.heap.size≤g) (b:X≠g) (n2:gt≠g):fZ w wd X gt nt ct s t q d n LT :=
 ⟨h.low.grown hg h.low.size (fun k e=>by cases e;exact hw),FK h.hi hg.size,(an hg (x:=⟨X,0,none⟩) h.lt b).trans h.x0,(an hg (x:=⟨X,1,none⟩) h.lt b).trans h.x1,(an hg (x:=⟨X,2,none⟩) h.lt b).trans h.x2,(an hg (x:=⟨X,3,none⟩) h.lt b).trans h.x3,(an hg (x:=⟨X,4,none⟩) h.lt b).trans h.x4,h.tl.grown hg (fun e=>n2 (by cases e;rfl))⟩
theorem ah.grownE {b:Nat} (h:ah w (pT b) len cap L) (hg:w.grownBy w' (some g)) (f:b≠g):ah w' (pT b) len cap L :=
 h.moved hg.size (fun x e hp o=>by
  cases e
  have:=(h.lies _ rfl hp).1
  exact an hg (x:=⟨b,o,none⟩) this f)
theorem tg (b len cap:Nat) (L:List ae) (s t:ByteArray) (q d n:Int) (w:World) (hL:ah w (pT b) len cap L) (bL:b<w.heap.size) (hlen:len≤1048576) (hE:dR (s,q,d,t,n)) :
 Calls Tryz.prog 159 #[sL b len cap,.agg #[.string s,iT q,iT d,.string t,iT n]] w fun e w'=>∃g c,e=.returned (sL g (len+1) c)∧ag w' w.heap.size g (len+1) c (eE L (s,q,d,t,n))∧Bl w w':=by
 have y:Eq (L.length=len):=hL.length;have T:Eq (∀l ∈ L,dR l):=hL.ents;have aE:=bT hE;have cj:=hL.room;have bE:=hL.big;unfold maxLen at bE;have HL:=bT hL;obtain ⟨X,hX⟩:=aG w.heap.size;obtain ⟨W,hW⟩:=aG (w.alloc (.cells #[.string s,iT q,iT d,.string t,iT n] 50));have x0:W.cell? ⟨X,0,none⟩=some (.string s):=by rw [hW,hX];simp
 have x1:W.cell? ⟨X,1,none⟩=some (iT q):=by rw [hW,hX];simp
 have x2:W.cell? ⟨X,2,none⟩=some (iT d):=by rw [hW,hX];simp
 have x3:W.cell? ⟨X,3,none⟩=some (.string t):=by rw [hW,hX];simp
 have x4:W.cell? ⟨X,4,none⟩=some (iT n):=by rw [hW,hX];simp
 have kW:Bl w W:=by rw [hW];exact bZ
 have bd:w.heap.size+1≤W.heap.size:=by rw [hW];simp
 have Z:Eq (X=w.heap.size):=hX;have aK:Eq (Bl w W):=kW;have bJ:Eq (w.heap.size+1≤W.heap.size):=bd;obtain ⟨i0,hi,a1,a0,a2⟩:=info_parts Tryz.infoEnt;go_enter Tryz.func159,Tryz.ntmps159
 go_upto_block 0 with fail
 rw [← hW,← hX];clear hW hX kW hL bd hE;go_cut [5] (fun kv wz=>∃j:Nat,kv=iT j∧j≤len∧lh L (s,q,d,t,n) len=j∧Bl W wz)
 case first =>
  go_wp2_with fail
  go_loopw [5] (fun kv wr=>∃j:Nat,j≤len∧kv=iT j∧Bl W wr∧lh L (s,q,d,t,n) len=lh L (s,q,d,t,n) j) (fun kv _=>(intOf kv).toNat)
  case atStart=>exact ⟨len,Fv _,rfl,Below.refl _ _,rfl⟩
  case round =>
   obtain ⟨j,hj,rfl,hb,bt⟩:=hrel;have b8:Eq (lh L (s,q,d,t,n) len=lh L (s,q,d,t,n) j):=bt;clear bt;by_cases bv:j=0
   · have bj:¬(0:Int)<(j:Int):=by omega
     have c2:decide ((0:Int)<(j:Int))=false:=decide_eq_false bj;have HJ:Eq (lh L (s,q,d,t,n) len=j):=by show lh L (s,q,d,t,n) len=j;rw [b8.o,bv];rfl
     have bi:¬0<j:=by omega
     have bY:decide (0<j)=false:=decide_eq_false bi;clear bv;go_wp2_with fail
     have y0:=cell_later hb x0;have y1:=cell_later hb x1;have y2:=cell_later hb x2;have y3:=cell_later hb x3;have y4:=cell_later hb x4;have k0:Bl wr wr.drew:=(Below.refl _ wr).drew;have H:Eq (∀w',Bl wr w'→(w'.cell? ⟨X,0,none⟩=some (.string s)∧w'.cell? ⟨X,1,none⟩=some (iT q)∧w'.cell? ⟨X,2,none⟩=some (iT d)∧w'.cell? ⟨X,3,none⟩=some (.string t)∧w'.cell? ⟨X,4,none⟩=some (iT n)∧X<w'.heap.size)):=fun w' R=>⟨cell_later R y0,cell_later R y1,cell_later R y2,cell_later R y3,cell_later R y4,Fu _ _ (cell_later R y0)⟩
     refine eJ H k0 fun O=>?_
     refine aP 0 9 O ?_;refine aQ 9 fun K hK=>?_
     go_simp;refine hK.o _ _ (H.o _ k0) fun O=>?_
     (try go_frame);refine aP 10 1 O ?_;refine dN ?_;have KZ:Eq (Bl W wr.drew):=hb.trans (k0.mono hb.size);clear k0 H O y0 y1 y2 y3 y4 hb;go_wp2;go_meet
     exact ⟨j,rfl,hj,HJ.o,KZ.o⟩
   · have cd:(0:Int)<(j:Int):=by omega
     have c5:0<j:=by omega
     have ch:(0:Int)≤(j:Int) - 1:=by omega
     have ci:(j:Int) - 1<(len:Int):=by omega
     have cc:(1:Int)≤(j:Int):=by omega
     have ce:(j:Int)≤(len:Int):=by omega
     have ca:((j:Int) - 1).toNat=j - 1:=by omega
     have wj:IntKind.i64.wrap ((j:Int) - 1)=(j:Int) - 1:=by rw [FQ];unfold wrap64;omega
     have bQ:b<W.heap.size:=u' bL aK.o.size;obtain ⟨s',q',d',t',n',be,bx,aD,b5,aX,aW,aY⟩:=(HL.o.keep aK.o).ent hb bQ (j - 1) (by omega);have HG:Eq (L[j - 1]?=some (s',q',d',t',n')):=be;simp only [FG] at aD b5 aX aW aY;clear be bx;obtain ⟨B,hB⟩:=aG (bI s q s' q');have CL:Eq (∀w,Calls Tryz.prog 144 #[.agg #[.string s,iT q,iT d,.string t,iT n],.agg #[.string s',iT q',iT d',.string t',iT n']] w fun e w'=>e=.returned (.bool B)∧Bl w w'):=by rw [hB];exact fun w=>ur s t s' t' q d n q' d' n' w
     have bg:Eq (lh L (s,q,d,t,n) j=if B=true then lh L (s,q,d,t,n) (j - 1) else j):=by
      show lh L (s,q,d,t,n) j=_
      obtain ⟨i,rfl⟩:∃i,j=i+1:=⟨j - 1,by omega⟩;rw [hB];conv=>lhs;unfold lh
      have hg:=HG.o;simp only [GG] at hg ⊢;simp only [hg]
     clear hB;go_wp2_with fail
     have y0:=cell_later hb x0;have y1:=cell_later hb x1;have y2:=cell_later hb x2;have y3:=cell_later hb x3;have y4:=cell_later hb x4;have k0:Bl wr wr.drew:=(Below.refl _ wr).drew;have H:Eq (∀w',Bl wr w'→(w'.cell? ⟨X,0,none⟩=some (.string s)∧w'.cell? ⟨X,1,none⟩=some (iT q)∧w'.cell? ⟨X,2,none⟩=some (iT d)∧w'.cell? ⟨X,3,none⟩=some (.string t)∧w'.cell? ⟨X,4,none⟩=some (iT n)∧X<w'.heap.size∧w'.cell? ⟨b,(j - 1)*5,none⟩=some (.string s')∧w'.cell? ⟨b,(j - 1)*5+1,none⟩=some (iT q')∧w'.cell? ⟨b,(j - 1)*5+2,none⟩=some (iT d')∧w'.cell? ⟨b,(j - 1)*5+3,none⟩=some (.string t')∧w'.cell? ⟨b,(j - 1)*5+4,none⟩=some (iT n')∧b<w'.heap.size)):=fun w' R=>⟨cell_later R y0,cell_later R y1,cell_later R y2,cell_later R y3,cell_later R y4,Fu _ _ (cell_later R y0),cell_later R aD,cell_later R b5,cell_later R aX,cell_later R aW,cell_later R aY,Fu _ _ (cell_later R aD)⟩
     refine eJ H k0 fun O=>?_
     refine aP 0 9 O ?_;refine aQ 9 fun K hK=>?_
     go_simp;refine (CL.o _).mono ?_;rintro e w1 ⟨rfl,b1⟩;have k1:Bl wr w1:=k0.trans (b1.mono k0.size);go_wp2_with fail
     refine hK.o _ _ (H.o _ k1) fun O=>?_
     (try go_frame);refine aP 10 1 O ?_;refine dN ?_;cases B with
     | true =>
      go_wp2;go_roundw
      case rel=>exact ⟨j - 1,by omega,by congr 1;omega,hb.trans (k1.mono hb.size),by rw [b8.o,bg.o];rfl⟩
      case measure=>simp [intOf];omega
     | false =>
      have HJ:Eq (lh L (s,q,d,t,n) len=j):=by show lh L (s,q,d,t,n) len=j;rw [b8.o,bg.o];rfl
      have KZ:Eq (Bl W w1):=hb.trans (k1.mono hb.size);clear k0 k1 H O y0 y1 y2 y3 y4 hb b1 aD b5 aX aW aY;go_wp2;go_meet
      exact ⟨j,rfl,hj,HJ.o,KZ.o⟩
 case rest =>
  obtain ⟨j,rfl,hj,hJ,kz⟩:=hcut;obtain ⟨wz,bb⟩:=aG wc;rw [← bb] at kz ⊢;have HJ:Eq (lh L (s,q,d,t,n) len=j):=hJ;clear bb hJ;have aB:Bl w wz:=aK.o.trans (kz.mono aK.o.size);have hzs:w.heap.size+1≤wz.heap.size:=FK bJ.o kz.size;have z0:=cell_later kz x0;have z1:=cell_later kz x1;have z2:=cell_later kz x2;have z3:=cell_later kz x3;have z4:=cell_later kz x4;have bk:Eq (ah wz (pT b) len cap L):=HL.o.keep aB;have ai:Eq (eE L (s,q,d,t,n)=L.take j++([(s,q,d,t,n)]++L.drop j)):=by show eE L (s,q,d,t,n)=_;unfold eE;rw [y.o,HJ.o]
  have aN:Eq (∀l ∈ L.take j++[(s,q,d,t,n)],dR l):=fun l hl=>by rcases FI.1 hl with h1 | h1;exact T.o l (F9 h1);simp only [FL] at h1;subst h1;exact aE.o
  have b0:Eq (∀l ∈ eE L (s,q,d,t,n),dR l):=fun l hl=>by rw [ai.o,← FT] at hl;rcases FI.1 hl with h1 | h1;exact aN.o l h1;exact T.o l (Gf h1)
  have kt:Bl wz (wz.alloc (.cells #[] 50)):=bZ;have b3:Eq (ag (wz.alloc (.cells #[] 50)) (w.heap.size+1) wz.heap.size 0 0 []):=bV wz _ hzs;have bq:Eq (ah (wz.alloc (.cells #[] 50)) (pT b) len cap L):=bk.o.keep kt;have aF:Eq (fZ w (wz.alloc (.cells #[] 50)) X wz.heap.size 0 0 s t q d n []):=⟨aB.trans (kt.mono aB.size),FK hzs kt.size,cell_later kt z0,cell_later kt z1,cell_later kt z2,cell_later kt z3,cell_later kt z4,b3.o⟩;clear kz z0 z1 z2 z3 z4 kt aB bk;go_upto_region 4 with fail
  go_cut [6] (fun tv wt=>∃gt ct,tv=sL gt (len - j) ct∧fZ w wt X gt (len - j) ct s t q d n (L.drop j))
  case first =>
   by_cases bO:cap=j
   · subst bO;have br:Eq (len - cap=0):=by show len - cap=0;omega
     have bG:Eq (L.drop cap=[]):=GD (by rw [y.o];omega);go_wp2;go_meet
     exact ⟨wz.heap.size,0,by rw [br.o],by rw [br.o,bG.o];exact aF.o⟩
   · have c6:¬(cap:Int)=(j:Int):=by omega
     have bR:Eq ((aC (L.drop j)).length=(len - j)*5):=by show _=_;rw [aV,FN,y.o]
     go_wp2_with (at_builtin;refine wpList_append_own _ rfl _ _ 28 rfl (w.heap.size+1) 50 i0 _ 5 56 Tryz.underlying28 hi a1 a0 a2 rfl (by decide) _ _ _ rfl b3.o.owns ⟨b,j*5,none⟩ (len - j) (cap - j) (aC (L.drop j)) rfl bR.o (nE bq.o j) (aO _) (by unfold maxLen;omega) (by omega) aF.o.hi ?_;intro vt wt a4 F ax;obtain ⟨gt,ct,rfl⟩:=l9 a4 (fun e=>by cases (ax.1 e).1))
     have a5:=aF.o;have aj:some X≠(sL (wz.heap.size) 0 0).ownBlock:=by have h1:=Z.o;simp [Value.ownBlock];omega
     have ST:Eq (fZ w wt X gt (len - j) ct s t q d n (L.drop j)):=⟨a5.low.grown F a5.low.size (fun k e=>by have h1:wz.heap.size=k:=Fx e;omega),FK a5.hi F.size,F.cell a5.x0 aj,F.cell a5.x1 aj,F.cell a5.x2 aj,F.cell a5.x3 aj,F.cell a5.x4 aj,⟨by first | exact a4 | (have h0:=a4;rw [FG] at h0;exact h0),by rw [FN,y.o],fun l hl=>T.o l (Gf hl)⟩⟩;clear a4 F ax a5 aj;try simp only [FG]
     go_meet
     exact ⟨gt,ct,rfl,ST.o⟩
  case rest =>
   obtain ⟨gt,ct,rfl,b2⟩:=hcut;obtain ⟨wt,bh⟩:=aG wc;rw [← bh] at b2 ⊢;have ST:Eq (fZ w wt X gt (len - j) ct s t q d n (L.drop j)):=b2;have b6:j+1+(len - j)=len+1:=by omega
   clear bh b2 b3 bq aF hzs;have k0:fZ w wt.drew X gt (len - j) ct s t q d n (L.drop j):=ST.o.below (Below.refl _ wt).drew;have H:Eq (∀w',fZ w w' X gt (len - j) ct s t q d n (L.drop j)→(w'.cell? ⟨X,0,none⟩=some (.string s)∧w'.cell? ⟨X,1,none⟩=some (iT q)∧w'.cell? ⟨X,2,none⟩=some (iT d)∧w'.cell? ⟨X,3,none⟩=some (.string t)∧w'.cell? ⟨X,4,none⟩=some (iT n)∧X<w'.heap.size)):=fun w' R=>⟨R.x0,R.x1,R.x2,R.x3,R.x4,R.lt⟩
   have b7:Eq (∀w',Bl w w'→ah w' (pT b) j cap (L.take j)):=fun w' R=>Ap (HL.o.keep R) (by omega)
   have cg:=ST.o.tl.lt;have cl:j≤cap:=by omega
   have bU:(j:Int)≤(cap:Int):=by omega
   go_wp2_with fail
   refine eJ H k0 fun O=>?_
   generalize wt.drew=wd at k0 O ⊢;refine aP 1 3 O ?_;refine aP 5 1 O ?_;refine aP 8 1 O ?_;refine lg 0 6 (fun K hK=>?_) fun K hK=>?_
   · go_simp;have kA:Bl wd (wd.alloc (.cells #[] 50)):=bZ;have sA:=k0.below kA;have rA:ag (wd.alloc (.cells #[] 50)) wd.heap.size wd.heap.size 0 0 []:=bV wd _ (Fv _);have ap:w.heap.size+1≤wd.heap.size:=k0.hi;have am:gt<wd.heap.size:=k0.tl.lt.2;generalize bH:wd.heap.size=Y at rA ap am ⊢;generalize wd.alloc (.cells #[] 50)=wa at sA rA kA ⊢;refine hK.o _ _ (H.o _ sA) fun O=>?_
     (try go_frame);refine lg 4 6 (fun K hK=>?_) fun K hK=>?_
     · refine aw rfl (.tmp 27) (.tmp 30) 28 rfl Y 50 i0 _ 5 56 Tryz.underlying28 hi a1 a0 a2 rfl (Ga 4) _ _ _ rfl rA.owns ⟨b,0,none⟩ j cap (aC (L.take j)) rfl ?_ (bC (b7.o _ sA.low)) (aO _) ?_ ?_ ?_ ?_
       · rw [aV,FC,y.o];congr 1;omega
       · unfold maxLen;omega
       · omega
       · have:=rA.lt;omega
       intro v4 w4 C Q U;obtain ⟨g4,c4,rfl⟩:=aH C U;have A:wa.grownBy w4 (some Y):=Q;have s4:=sA.grown A (by omega) (by have:=Z.o;omega) (by omega);have r4:ag w4 Y g4 j c4 (L.take j):=⟨by first | exact C | (have h0:=C;rw [FG] at h0;exact h0),by simp [y.o];omega,fun l hl=>T.o l (F9 hl)⟩;simp only [FG];refine hK.o _ _ (H.o _ s4) fun O=>?_
       (try go_frame);refine aQ 6 fun K hK=>?_
       go_simp;have kN:Bl w4 (w4.alloc (.cells #[.string s,iT q,iT d,.string t,iT n] 50)):=bZ;have sN:=s4.below kN;have rN:ah (w4.alloc (.cells #[.string s,iT q,iT d,.string t,iT n] 50)) (some ⟨w4.heap.size,0,none⟩) 1 1 [(s,q,d,t,n)]:=df w4 _ _ _ _ _ aE.o;have a8:w.heap.size+1≤w4.heap.size:=s4.hi;have rR:=r4.below kN;have ab:g4≠w4.heap.size:=by have:=r4.lt.2;omega
       generalize bn:w4.heap.size=gn at rN a8 ab ⊢;generalize w4.alloc (.cells #[.string s,iT q,iT d,.string t,iT n] 50)=wn at sN rN rR kN ⊢;refine hK.o _ _ (H.o _ sN) fun O=>?_
       (try go_frame);refine aQ 7 fun K hK=>?_
       refine aw rfl (.tmp 31) (.tmp 33) 28 rfl Y 50 i0 _ 5 56 Tryz.underlying28 hi a1 a0 a2 rfl (Ga 4) _ _ _ rfl rR.owns ⟨gn,0,none⟩ 1 1 (aC [(s,q,d,t,n)]) rfl rfl (bC rN) (aO _) ?_ ?_ ?_ ?_
       · unfold maxLen;omega
       · omega
       · have:=rR.lt;omega
       intro v7 w7 D E I;obtain ⟨g7,c7,rfl⟩:=aH D I;have J:wn.grownBy w7 (some g4):=E;have u:=sN.grown J (by have:=rR.lt.1;omega) (by have:=rR.lt.1;have:=Z.o;omega) (by have:=rR.lt.1;omega);have r7:ag w7 Y g7 (j+1) c7 (L.take j++[(s,q,d,t,n)]):=⟨by rw [aL];exact D,by simp [y.o];omega,aN.o⟩;refine hK.o _ _ (H.o _ u) fun O=>?_
       (try go_frame);refine aQ 9 fun K hK=>?_
       refine aw rfl (.tmp 34) (.tmp 35) 28 rfl Y 50 i0 _ 5 56 Tryz.underlying28 hi a1 a0 a2 rfl (Ga 4) _ _ _ rfl r7.owns ⟨gt,0,none⟩ (len - j) ct (aC (L.drop j)) rfl ?_ (bC u.tl.entsAt) (aO _) ?_ ?_ ?_ ?_
       · rw [aV,u.tl.len]
       · unfold maxLen;omega
       · omega
       · have:=r7.lt;omega
       intro v9 w9 m r N;obtain ⟨g9,c9,rfl⟩:=aH m N;have f:w7.grownBy w9 (some g7):=r;have a6:Bl w w9:=u.low.grown f u.low.size (fun k e=>by cases e;have:=r7.lt.1;omega);have z9:X<w9.heap.size:=u' u.lt r.size;refine hK.o _ _ ?_ (fun O=>?_)
       · have n9:X≠g7:=by have:=r7.lt.1;have:=Z.o;omega
         exact ⟨(an f (x:=⟨X,0,none⟩) u.lt n9).trans u.x0,(an f (x:=⟨X,1,none⟩) u.lt n9).trans u.x1,(an f (x:=⟨X,2,none⟩) u.lt n9).trans u.x2,(an f (x:=⟨X,3,none⟩) u.lt n9).trans u.x3,(an f (x:=⟨X,4,none⟩) u.lt n9).trans u.x4,z9⟩
       clear hK K;(try go_frame);refine aP 10 1 O ?_;refine dN ?_;rw [b6] at m ⊢;have au:Eq (ag w9 w.heap.size g9 (len+1) c9 (eE L (s,q,d,t,n))):=by
        refine ag.mono (base:=Y) ⟨?_,by rw [mg,y.o],b0.o⟩ (by omega);rw [ai.o,← FT,aL];exact m
       have av:Eq (Bl w w9):=a6;clear m r N D E I r7 u a6;go_wp2;go_ret;exact ⟨g9,c9,rfl,au.o,av.o⟩
     · go_simp;have kN:Bl wa (wa.alloc (.cells #[.string s,iT q,iT d,.string t,iT n] 50)):=bZ;have sN:=sA.below kN;have rN:ah (wa.alloc (.cells #[.string s,iT q,iT d,.string t,iT n] 50)) (some ⟨wa.heap.size,0,none⟩) 1 1 [(s,q,d,t,n)]:=df wa _ _ _ _ _ aE.o;have a8:w.heap.size+1≤wa.heap.size:=sA.hi;have b4:=rA.below kN;have ab:Y≠wa.heap.size:=by have:=rA.lt.2;omega
       generalize bn:wa.heap.size=gn at rN a8 ab ⊢;generalize wa.alloc (.cells #[.string s,iT q,iT d,.string t,iT n] 50)=wn at sN rN b4 kN ⊢;refine hK.o _ _ (H.o _ sN) fun O=>?_
       (try go_frame);refine aQ 4 fun K hK=>?_
       refine aw rfl (.tmp 27) (.tmp 30) 28 rfl Y 50 i0 _ 5 56 Tryz.underlying28 hi a1 a0 a2 rfl (Ga 4) _ _ _ rfl b4.owns ⟨b,0,none⟩ j cap (aC (L.take j)) rfl ?_ (bC (b7.o _ sN.low)) (aO _) ?_ ?_ ?_ ?_
       · rw [aV,FC,y.o];congr 1;omega
       · unfold maxLen;omega
       · omega
       · have:=b4.lt;omega
       intro v4 w4 C Q U;obtain ⟨g4,c4,rfl⟩:=aH C U;have A:wn.grownBy w4 (some Y):=Q;have s4:=sN.grown A (by omega) (by have:=Z.o;omega) (by omega);have r4:ag w4 Y g4 j c4 (L.take j):=⟨by first | exact C | (have h0:=C;rw [FG] at h0;exact h0),by simp [y.o];omega,fun l hl=>T.o l (F9 hl)⟩;simp only [FG];have aZ:=rN.grownE A (fun e=>ab e.symm);refine hK.o _ _ (H.o _ s4) fun O=>?_
       (try go_frame);refine aQ 7 fun K hK=>?_
       refine aw rfl (.tmp 31) (.tmp 33) 28 rfl Y 50 i0 _ 5 56 Tryz.underlying28 hi a1 a0 a2 rfl (Ga 4) _ _ _ rfl r4.owns ⟨gn,0,none⟩ 1 1 (aC [(s,q,d,t,n)]) rfl rfl (bC aZ) (aO _) ?_ ?_ ?_ ?_
       · unfold maxLen;omega
       · omega
       · have:=r4.lt;omega
       intro v7 w7 D E I;obtain ⟨g7,c7,rfl⟩:=aH D I;have J:w4.grownBy w7 (some g4):=E;have u:=s4.grown J (by have:=r4.lt.1;omega) (by have:=r4.lt.1;have:=Z.o;omega) (by have:=r4.lt.1;omega);have r7:ag w7 Y g7 (j+1) c7 (L.take j++[(s,q,d,t,n)]):=⟨by rw [aL];exact D,by simp [y.o];omega,aN.o⟩;refine hK.o _ _ (H.o _ u) fun O=>?_
       (try go_frame);refine aQ 9 fun K hK=>?_
       refine aw rfl (.tmp 34) (.tmp 35) 28 rfl Y 50 i0 _ 5 56 Tryz.underlying28 hi a1 a0 a2 rfl (Ga 4) _ _ _ rfl r7.owns ⟨gt,0,none⟩ (len - j) ct (aC (L.drop j)) rfl ?_ (bC u.tl.entsAt) (aO _) ?_ ?_ ?_ ?_
       · rw [aV,u.tl.len]
       · unfold maxLen;omega
       · omega
       · have:=r7.lt;omega
       intro v9 w9 m r N;obtain ⟨g9,c9,rfl⟩:=aH m N;have f:w7.grownBy w9 (some g7):=r;have a6:Bl w w9:=u.low.grown f u.low.size (fun k e=>by cases e;have:=r7.lt.1;omega);have z9:X<w9.heap.size:=u' u.lt r.size;refine hK.o _ _ ?_ (fun O=>?_)
       · have n9:X≠g7:=by have:=r7.lt.1;have:=Z.o;omega
         exact ⟨(an f (x:=⟨X,0,none⟩) u.lt n9).trans u.x0,(an f (x:=⟨X,1,none⟩) u.lt n9).trans u.x1,(an f (x:=⟨X,2,none⟩) u.lt n9).trans u.x2,(an f (x:=⟨X,3,none⟩) u.lt n9).trans u.x3,(an f (x:=⟨X,4,none⟩) u.lt n9).trans u.x4,z9⟩
       clear hK K;(try go_frame);refine aP 10 1 O ?_;refine dN ?_;rw [b6] at m ⊢;have au:Eq (ag w9 w.heap.size g9 (len+1) c9 (eE L (s,q,d,t,n))):=by
        refine ag.mono (base:=Y) ⟨?_,by rw [mg,y.o],b0.o⟩ (by omega);rw [ai.o,← FT,aL];exact m
       have av:Eq (Bl w w9):=a6;clear m r N D E I r7 u a6;go_wp2;go_ret;exact ⟨g9,c9,rfl,au.o,av.o⟩
   · go_simp;have kN:Bl wd (wd.alloc (.cells #[.string s,iT q,iT d,.string t,iT n] 50)):=bZ;have sN:=k0.below kN;have rN:ah (wd.alloc (.cells #[.string s,iT q,iT d,.string t,iT n] 50)) (some ⟨wd.heap.size,0,none⟩) 1 1 [(s,q,d,t,n)]:=df wd _ _ _ _ _ aE.o;have a8:w.heap.size+1≤wd.heap.size:=k0.hi;generalize bn:wd.heap.size=gn at rN a8 ⊢;generalize wd.alloc (.cells #[.string s,iT q,iT d,.string t,iT n] 50)=wn at sN rN kN ⊢;refine hK.o _ _ (H.o _ sN) fun O=>?_
     (try go_frame);refine aQ 0 fun K hK=>?_
     go_simp;have kA:Bl wn (wn.alloc (.cells #[] 50)):=bZ;have bc:=rN.keep kA;have ab:wn.heap.size≠gn:=by have:=(rN.lies _ rfl (by omega)).1;simp only at this;omega
     have sA:=sN.below kA;have rA:ag (wn.alloc (.cells #[] 50)) wn.heap.size wn.heap.size 0 0 []:=bV wn _ (Fv _);have ap:w.heap.size+1≤wn.heap.size:=sN.hi;have am:gt<wn.heap.size:=sN.tl.lt.2;generalize bH:wn.heap.size=Y at rA ap am ab ⊢;generalize wn.alloc (.cells #[] 50)=wa at sA rA kA bc ⊢;refine hK.o _ _ (H.o _ sA) fun O=>?_
     (try go_frame);refine aQ 4 fun K hK=>?_
     refine aw rfl (.tmp 27) (.tmp 30) 28 rfl Y 50 i0 _ 5 56 Tryz.underlying28 hi a1 a0 a2 rfl (Ga 4) _ _ _ rfl rA.owns ⟨b,0,none⟩ j cap (aC (L.take j)) rfl ?_ (bC (b7.o _ sA.low)) (aO _) ?_ ?_ ?_ ?_
     · rw [aV,FC,y.o];congr 1;omega
     · unfold maxLen;omega
     · omega
     · have:=rA.lt;omega
     intro v4 w4 C Q U;obtain ⟨g4,c4,rfl⟩:=aH C U;have A:wa.grownBy w4 (some Y):=Q;have s4:=sA.grown A (by omega) (by have:=Z.o;omega) (by omega);have r4:ag w4 Y g4 j c4 (L.take j):=⟨by first | exact C | (have h0:=C;rw [FG] at h0;exact h0),by simp [y.o];omega,fun l hl=>T.o l (F9 hl)⟩;simp only [FG];have aZ:=bc.grownE A (fun e=>ab e.symm);refine hK.o _ _ (H.o _ s4) fun O=>?_
     (try go_frame);refine aQ 7 fun K hK=>?_
     refine aw rfl (.tmp 31) (.tmp 33) 28 rfl Y 50 i0 _ 5 56 Tryz.underlying28 hi a1 a0 a2 rfl (Ga 4) _ _ _ rfl r4.owns ⟨gn,0,none⟩ 1 1 (aC [(s,q,d,t,n)]) rfl rfl (bC aZ) (aO _) ?_ ?_ ?_ ?_
     · unfold maxLen;omega
     · omega
     · have:=r4.lt;omega
     intro v7 w7 D E I;obtain ⟨g7,c7,rfl⟩:=aH D I;have J:w4.grownBy w7 (some g4):=E;have u:=s4.grown J (by have:=r4.lt.1;omega) (by have:=r4.lt.1;have:=Z.o;omega) (by have:=r4.lt.1;omega);have r7:ag w7 Y g7 (j+1) c7 (L.take j++[(s,q,d,t,n)]):=⟨by rw [aL];exact D,by simp [y.o];omega,aN.o⟩;refine hK.o _ _ (H.o _ u) fun O=>?_
     (try go_frame);refine aQ 9 fun K hK=>?_
     refine aw rfl (.tmp 34) (.tmp 35) 28 rfl Y 50 i0 _ 5 56 Tryz.underlying28 hi a1 a0 a2 rfl (Ga 4) _ _ _ rfl r7.owns ⟨gt,0,none⟩ (len - j) ct (aC (L.drop j)) rfl ?_ (bC u.tl.entsAt) (aO _) ?_ ?_ ?_ ?_
     · rw [aV,u.tl.len]
     · unfold maxLen;omega
     · omega
     · have:=r7.lt;omega
     intro v9 w9 m r N;obtain ⟨g9,c9,rfl⟩:=aH m N;have f:w7.grownBy w9 (some g7):=r;have a6:Bl w w9:=u.low.grown f u.low.size (fun k e=>by cases e;have:=r7.lt.1;omega);have z9:X<w9.heap.size:=u' u.lt r.size;refine hK.o _ _ ?_ (fun O=>?_)
     · have n9:X≠g7:=by have:=r7.lt.1;have:=Z.o;omega
       exact ⟨(an f (x:=⟨X,0,none⟩) u.lt n9).trans u.x0,(an f (x:=⟨X,1,none⟩) u.lt n9).trans u.x1,(an f (x:=⟨X,2,none⟩) u.lt n9).trans u.x2,(an f (x:=⟨X,3,none⟩) u.lt n9).trans u.x3,(an f (x:=⟨X,4,none⟩) u.lt n9).trans u.x4,z9⟩
     clear hK K;(try go_frame);refine aP 10 1 O ?_;refine dN ?_;rw [b6] at m ⊢;have au:Eq (ag w9 w.heap.size g9 (len+1) c9 (eE L (s,q,d,t,n))):=by
      refine ag.mono (base:=Y) ⟨?_,by rw [mg,y.o],b0.o⟩ (by omega);rw [ai.o,← FT,aL];exact m
     have av:Eq (Bl w w9):=a6;clear m r N D E I r7 u a6;go_wp2;go_ret;exact ⟨g9,c9,rfl,au.o,av.o⟩
theorem qI (w:World) (o:Obj):w.alloc o=grow w #[o]:=by
 unfold World.alloc grow;simp
theorem gW (x y:ae):ltOf (fun x y:ae=>jM x.1 x.2.1 y.1 y.2.1) x y=bI x.1 x.2.1 y.1 y.2.1:=ib _ _ _ _
theorem r6 {f m:ByteArray} {b qb:Int} (h1:bI f b m qb=false) (h2:bI m qb f b=false):f=m∧b=qb:=by
 have h:=r9 f m b qb;rw [h1,h2] at h;simp at h;exact h
theorem BP:SWO (ltOf (fun x y:ae=>jM x.1 x.2.1 y.1 y.2.1)) where
 irrefl x:=by rw [gW];exact ii _ _
 trans x y z h1 h2:=by rw [gW] at *;exact fw h1 h2
 ntrans x y z h1 h2:=by
  rw [gW] at *;cases h3:bI x.1 x.2.1 z.1 z.2.1 with
  | false=>rfl
  | true =>
   cases h4:bI y.1 y.2.1 x.1 x.2.1 with
   | true=>rw [fw h4 h3] at h2;cases h2
   | false =>
    obtain ⟨e1,e2⟩:=r6 h1 h4;rw [e1,e2,h2] at h3;cases h3
end Go.Proofs.YtpobkmjicbobdaaGreat
