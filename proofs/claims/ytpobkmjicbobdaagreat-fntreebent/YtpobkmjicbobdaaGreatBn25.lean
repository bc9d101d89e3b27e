/- Walks. -/
import Derived.Test.YtpobkmjicbobdaaGreatBn23
import Derived.Test.YtpobkmjicbobdaaGreatBn24
import Derived.Laws.OwnMore
namespace Go.Proofs.YtpobkmjicbobdaaGreat
set_option maxRecDepth 100000
set_option maxHeartbeats 40000000
open Go.RowKit
variable {A B C D:List ag} {G T X Y b b0 base c c1 c3 c4 dA dB dC dD g g1 g3 gA gB gC gD i k n n1 n2 n4 nD nm ns nv sz:Nat} {L M:List ac} {P:List (List ac)} {S:List Int} {V:List (List ag)} {q x z:Int} {u0 u1 u2 u3:Value} {w w' wi wj wr:World}
theorem Ak (lo:Nat) (q sq:Int) (am av ak:Option Addr) (nm cm nv cv ns cs:Nat) (S:List Int) (w:World) (hS:bG lo w ak ns cs S) (hn:ns≤1048576) :
 Calls Tryz.prog 102 #[.agg #[iT q,.slice am nm cm,.slice av nv cv,.slice ak ns cs],iT sq] w fun e w'=>e=.returned (.bool (decide (sq ∈ S)))∧Bl w w':=by
 obtain ⟨X,hX⟩:=aS w.heap.size;obtain ⟨W,hW⟩:=aS (w.alloc (.cells #[iT q,.slice am nm cm,.slice av nv cv,.slice ak ns cs] 31));have kW:Bl w W:=by rw [hW];exact bZ
 have x3:W.cell? ⟨X,3,none⟩=some (.slice ak ns cs):=by rw [hW,hX];simp
 have HS:Hid (bG lo W ak ns cs S):=hS.keep kW;have HL:Hid (S.length=ns):=hS.length;have HB:Hid (Bl w W):=kW;have xz:=World.block_lt_of_cell? _ _ x3;simp only at xz;obtain ⟨Z,hZ⟩:=aS (decide (sq ∈ S));have HZ:Hid (Z=decide (sq ∈ S)):=hZ;rw [← hZ];clear hS kW hZ;go_enter Tryz.func102,Tryz.ntmps102
 go_upto_region 1 with fail
 rw [← hX,← hW];clear hX hW;go_wp2;go_loopw [5] (fun iv wr=>∃(k:Nat),k≤ns∧iv=iT k∧(∀j,j<k→¬S[j]?=some sq)∧W=wr) (fun iv _=>ns - (intOf iv).toNat)
 case atStart=>exact ⟨0,Nat.zero_le _,rfl,fun j hj=>absurd hj (Nat.not_lt_zero _),rfl⟩
 case round =>
  obtain ⟨k,hk,rfl,hno,rfl⟩:=hrel;have HNO:Hid (∀j,j<k→¬S[j]?=some sq):=hno;clear hno;by_cases hlt:k<ns
  · have hltI:(k:Int)<(ns:Int):=by omega
    obtain ⟨b,off,rfl,hbb⟩:=HS.out.form (by omega);obtain ⟨z,hz,_,g0⟩:=HS.out.num (Below.refl _ W) k hlt;have HZZ:Hid (S[k]?=some z):=hz;clear hz;by_cases hq:z=sq
    · subst hq;have HR:Hid (Z=true):=by show _=_;rw [HZ.out];exact decide_eq_true (List.mem_of_getElem? HZZ.out)
      go_wp2;go_ret;exact ⟨by have e:=HR.out;first | (rw [e];rfl) | (subst e;rfl) | simp [e],HB.out⟩
    · have hqb:(z == sq)=false:=by simpa using hq
      go_wp2;go_roundw
      case rel =>
       refine ⟨k+1,by omega,by go_num,fun j hj=>?_,by first | rfl | trivial⟩;by_cases e:j=k
       · subst e;rw [HZZ.out];intro h;exact hq (Option.some.inj h)
       · exact HNO.out j (by omega)
      case measure=>simp [intOf];omega
  · have hltI:¬(k:Int)<(ns:Int):=by omega
    have HR:Hid (Z=false):=by
     show _=_
     rw [HZ.out];refine decide_eq_false (fun hm=>?_);obtain ⟨j,hj⟩:=List.getElem?_of_mem hm;have hjl:=(List.getElem?_eq_some_iff.1 hj).1;rw [HL.out] at hjl;exact HNO.out j (by omega) hj
    go_wp2;go_ret;exact ⟨by have e:=HR.out;first | (rw [e];rfl) | (subst e;rfl) | simp [e],HB.out⟩
theorem ar.grownB (h:ar w b u0 u1 u2 u3) (hg:w.grownBy w' (some g)) (hne:b≠g):ar w' b u0 u1 u2 u3 :=
 have hn:some b≠some g:=fun e=>hne (Option.some.inj e)
 ⟨hg.cell h.c0 hn,hg.cell h.c1 hn,hg.cell h.c2 hn,hg.cell h.c3 hn,fun o=>(aV hg (x:=⟨b,o,none⟩) h.lt hn).trans (h.fz o)⟩
theorem cJ.kind (h:cJ base w g1 nm c1 G nv c g3 ns c3 M V S) (hB:an w Y T sz) (t0:T≠61) (t1:T≠63) (t2:T≠50) (t3:T≠3) (hg:w.grownBy w' (some Y)):cJ base w' g1 nm c1 G nv c g3 ns c3 M V S:=by
 obtain ⟨_,k1⟩:=aJ h.mem.owns;obtain ⟨_,k3⟩:=aJ h.sn;refine ⟨h.mem.grown hg (fun e=>?_),h.levs.grown hB t0 t1 t2 hg,h.slen,h.swf,h.sn.kept hg (.inr fun e=>?_)⟩
 · have e':g1=Y:=Option.some.inj e;subst e';exact t2 (hB.kind k1)
 · have e':g3=Y:=by simpa [Value.ownBlock] using e
   subst e';exact t3 (hB.kind k3)
def tP (q:Int) (nm nv n:Nat) (M:List ac) (V:List (List ag)) (S:List Int) (ok:Bool) (w:World) (e:Ending) (w':World):Prop :=
 ∃g1 c1 G c g3 c3,e=.returned (.tuple #[.agg #[iT q,sL g1 nm c1,sL G nv c,sL g3 n c3],.bool ok])∧cJ w.heap.size w' g1 nm c1 G nv c g3 n c3 M V S∧Bl w w'
theorem cJ.push {g4:Nat} (h:cJ base w g1 nm c1 G nv c g3 ns c3 M V S) (hg:w.grownBy w' (some g3)) (ho:w'.ownsRow base 3 1 (sL g4 (ns+1) c4) (ns+1) (S.map iT++[iT q])) (hq:(Lit.int .i64 q).wf=true):cJ base w' g1 nm c1 G nv c g4 (ns+1) c4 M V (S++[q]) :=
 ⟨dw h.mem h.sn (by decide) hg,gg h.levs h.sn (by decide) (by decide) (by decide) hg,by rw [List.length_append,h.slen];rfl,fun z hz=>by
  rcases List.mem_append.1 hz with h1 | h1
  · exact h.swf z h1
  · rw [List.mem_singleton] at h1;subst h1;exact hq,by rw [List.map_append];exact ho⟩
theorem xI (S:List Int) (x:Int):(S.filter (fun y=>decide (¬y=x))).length<S.length ↔ x ∈ S:=by
 induction S with
 | nil=>simp
 | cons a S ih =>
  have hle:=List.length_filter_le (fun y=>decide (¬y=x)) S;by_cases ha:a=x
  · subst ha;simp;simpa using Nat.lt_succ_of_le hle
  · have hb:(a :: S).filter (fun y=>decide (¬y=x))=a :: S.filter (fun y=>decide (¬y=x)):=by simp [ha]
    rw [hb];simp only [List.length_cons,List.mem_cons];constructor
    · intro h;exact .inr (ih.1 (by omega))
    · rintro (h | h)
      · exact absurd h.symm ha
      · have:=ih.2 h;omega
def fH (S:List Int) (x:Int):List Int:=S.filter (fun y=>decide (¬y=x))
theorem qQ {a:Int} (h:S[k]?=some a):fH (S.take (k+1)) x=if a=x then fH (S.take k) x else fH (S.take k) x++[a]:=by
 unfold fH;rw [List.take_add_one,h,List.filter_append];by_cases ha:a=x <;> simp [ha]
theorem zK (S:List Int) (x:Int):(fH S x).length≤S.length:=List.length_filter_le _ _
theorem AB (S:List Int) (x:Int):decide ((fH S x).length<S.length)=decide (x ∈ S):=by
 rw [decide_eq_decide];exact xI S x
theorem zJ (h:z ∈ fH S x):z ∈ S:=(List.mem_filter.1 h).1
structure eX (w wr:World) (base X Y:Nat) (u0 u1 u2 u3:Value) (q:Int) (g1 nm c1 G nv c g n4 c4:Nat) (M:List ac) (V:List (List ag)) (S:List Int):Prop where
 low:Bl w wr
 bx:ar wr X u0 u1 u2 u3
 br:ar wr (X+1) (iT 0) nZ nZ nZ
 hy:ar wr Y (iT q) (sL g1 nm c1) (sL G nv c) (sL g n4 c4)
 cp:cJ base wr g1 nm c1 G nv c g n4 c4 M V S
 ky:an wr Y 31 4
 lows:X+1<base∧X+1<Y∧w.heap.size≤base∧w.heap.size≤X
theorem eX.below (h:eX w wr base X Y u0 u1 u2 u3 q g1 nm c1 G nv c g n4 c4 M V S) (hb:Bl wr wj):eX w wj base X Y u0 u1 u2 u3 q g1 nm c1 G nv c g n4 c4 M V S :=
 ⟨h.low.trans (hb.mono h.low.size),h.bx.keep hb,h.br.keep hb,h.hy.keep hb,h.cp.below hb,h.ky.below hb,h.lows⟩
theorem eX.ne (h:eX w wr base X Y u0 u1 u2 u3 q g1 nm c1 G nv c g n4 c4 M V S):X≠g∧X+1≠g∧Y≠g:=by
 have h1:=(h.cp.sn.lt g rfl).1;have h2:=h.lows;refine ⟨by omega,by omega,fun e=>?_⟩;obtain ⟨_,k3⟩:=aJ h.cp.sn;subst e;exact absurd (h.ky.kind k3) (by decide)
theorem eX.push {w2:World} {g' c':Nat} (h:eX w wr base X Y u0 u1 u2 u3 q g1 nm c1 G nv c g n4 c4 M V S) (hg:wr.grownBy w2 (some g)) (ho:w2.ownsRow base 3 1 (sL g' (n4+1) c') (n4+1) (S.map iT++[iT z])) (hz:(Lit.int .i64 z).wf=true):eX w (w2.setCell ⟨Y,3,none⟩ (sL g' (n4+1) c')) base X Y u0 u1 u2 u3 q g1 nm c1 G nv c g' (n4+1) c' M V (S++[z]):=by
 obtain ⟨e1,e2,e3⟩:=h.ne;have hl:=h.lows;have hB5:an w2 Y 31 4:=by
  obtain ⟨cur,h1,h2⟩:=h.ky;exact ⟨cur,(hg.block Y (Array.getElem?_eq_some_iff.1 h1).1 (fun e=>e3 (Option.some.inj e))).trans h1,h2⟩
 have hset:w2.grownBy (w2.setCell ⟨Y,3,none⟩ (sL g' (n4+1) c')) (some Y):=cy _ _ _ _;refine ⟨?_,?_,?_,?_,?_,?_,h.lows⟩
 · exact (h.low.grown hg h.low.size (fun k e=>by cases e;have:=(h.cp.sn.lt g rfl).1;omega)).setCell (p:=⟨Y,3,none⟩) (by show _≤Y;omega) _
 · exact (h.bx.grownB hg e1).other (by omega) _
 · exact (h.br.grownB hg e2).other (by omega) _
 · exact (h.hy.grownB hg e3).set3 _
 · exact (h.cp.push hg ho hz).kind hB5 (by decide) (by decide) (by decide) (by decide) hset
 · exact hB5.setCell _
theorem aZ.grownR (h:aZ base w g n c B) (hG:an w G 63 sz) (hne:g≠G) (hg:w.grownBy w' (some G)):aZ base w' g n c B:=by
 obtain ⟨h1,h2,xs,h3,h4⟩:=h;refine ⟨h1,h2,xs,h3.kept hg (.inr ?_),fun i p hp=>?_⟩
 · intro e;have e':g=G:=by simpa [Value.ownBlock] using e
   exact hne e'
 · obtain ⟨e,d,a1,a2,a3⟩:=h4 i p hp;obtain ⟨s4,k4⟩:=aJ a3.owns;refine ⟨e,d,a1,a2,a3.grown hg (fun e'=>?_)⟩;have e'':e=G:=Option.some.inj e';subst e'';exact absurd (hG.kind k4) (by decide)
structure Ac (b0:Nat) (w wi:World) (base X:Nat) (q:Int) (g1 nm c1 G c g3 ns c3 gA dA gB dB gC dC:Nat) (M:List ac) (A B C:List ag) (S:List Int):Prop where
 low:Below b0 w wi
 bx:ar wi X (iT q) (sL g1 nm c1) (sL G 3 c) (sL g3 ns c3)
 br:ar wi (X+1) (iT 0) nZ nZ nZ
 mem:ay wi base g1 nm c1 M
 sn:wi.ownsRow base 3 1 (sL g3 ns c3) ns (S.map iT)
 row:wi.ownsRow base 61 1 (sL G 3 c) 3 [sL gA A.length dA,sL gB B.length dB,sL gC C.length dC]
 rA:aZ base wi gA A.length dA A
 rB:aZ base wi gB B.length dB B
 rC:aZ base wi gC C.length dC C
 kx:an wi X 31 4∧an wi (X+1) 31 4
 apart:gA≠gB∧gA≠gC
 top:b0≤base∧b0≤w.heap.size∧w.heap.size≤X
theorem Ac.below (h:Ac b0 w wi base X q g1 nm c1 G c g3 ns c3 gA dA gB dB gC dC M A B C S) (hb:Bl wi wj):Ac b0 w wj base X q g1 nm c1 G c g3 ns c3 gA dA gB dB gC dC M A B C S :=
 ⟨h.low.trans (hb.mono (Nat.le_trans h.top.2.1 h.low.size)),h.bx.keep hb,h.br.keep hb,h.mem.below hb,cE h.sn hb,cE h.row hb,h.rA.below hb,h.rB.below hb,h.rC.below hb,⟨h.kx.1.below hb,h.kx.2.below hb⟩,h.apart,h.top⟩
theorem Ac.head (h:Ac b0 w wi base X q g1 nm c1 G c g3 ns c3 gA dA gB dB gC dC M A B C S):wi.cell? ⟨G,0,none⟩=some (sL gA A.length dA)∧wi.cell? ⟨G,1,none⟩=some (sL gB B.length dB)∧wi.cell? ⟨G,2,none⟩=some (sL gC C.length dC)∧G<wi.heap.size∧wi.frozen? ⟨G,0,none⟩=false :=
 ⟨h.row.cellAt 0 (by omega),h.row.cellAt 1 (by omega),h.row.cellAt 2 (by omega),(h.row.lt G rfl).2,h.row.frozenAt 0⟩
structure Ad (b0:Nat) (w wi:World) (base X:Nat) (u0 u1 u2 u3:Value) (G c g3 ns c3 g8 c8 n8 gB dB gC dC:Nat) (A B C:List ag) (S:List Int):Prop where
 low:Below b0 w wi
 bx:ar wi X u0 u1 u2 u3
 br:ar wi (X+1) (iT 0) nZ nZ nZ
 sn:wi.ownsRow base 3 1 (sL g3 ns c3) ns (S.map iT)
 cells:wi.cell? ⟨G,0,none⟩=some (sL g8 n8 c8)∧wi.cell? ⟨G,1,none⟩=some (sL gB B.length dB)∧wi.cell? ⟨G,2,none⟩=some (sL gC C.length dC)
 kg:an wi G 61 (c*1)
 rA:aZ base wi g8 n8 c8 A
 rB:aZ base wi gB B.length dB B
 rC:aZ base wi gC C.length dC C
 kx:an wi X 31 4∧an wi (X+1) 31 4
 top:b0≤base∧b0≤w.heap.size∧w.heap.size≤X
theorem Ad.below {g8 c8 n8:Nat} (h:Ad b0 w wi base X u0 u1 u2 u3 G c g3 ns c3 g8 c8 n8 gB dB gC dC A B C S) (hb:Bl wi wj):Ad b0 w wj base X u0 u1 u2 u3 G c g3 ns c3 g8 c8 n8 gB dB gC dC A B C S :=
 ⟨h.low.trans (hb.mono (Nat.le_trans h.top.2.1 h.low.size)),h.bx.keep hb,h.br.keep hb,cE h.sn hb,⟨cell_later hb h.cells.1,cell_later hb h.cells.2.1,cell_later hb h.cells.2.2⟩,h.kg.below hb,h.rA.below hb,h.rB.below hb,h.rC.below hb,⟨h.kx.1.below hb,h.kx.2.below hb⟩,h.top⟩
theorem cJ.split (h:cJ base w g1 nm c1 G nv c g3 ns c3 M [A,B,C] S):∃gA dA gB dB gC dC,w.ownsRow base 61 1 (sL G 3 c) 3 [sL gA A.length dA,sL gB B.length dB,sL gC C.length dC]∧aZ base w gA A.length dA A∧aZ base w gB B.length dB B∧aZ base w gC C.length dC C∧gA≠gB∧gA≠gC:=by
 obtain ⟨h1,xs,h3,h4,h5⟩:=h.levs;have hn:nv=3:=h1.symm;subst hn;obtain ⟨gA,dA,a1,a2⟩:=h4 0 A rfl;obtain ⟨gB,dB,b1,b2⟩:=h4 1 B rfl;obtain ⟨gC,dC,c1',c2⟩:=h4 2 C rfl;have hx:xs=[sL gA A.length dA,sL gB B.length dB,sL gC C.length dC]:=by
  have hl:=h3.1;match xs,hl,a1,b1,c1' with
  | [x,y,z],_,a1,b1,c1'=>simp at a1 b1 c1';rw [a1,b1,c1']
 rw [hx] at h3 h5;exact ⟨gA,dA,gB,dB,gC,dC,h3,a2,b2,c2,h5 0 1 _ _ _ _ _ _ (by omega) rfl rfl,h5 0 2 _ _ _ _ _ _ (by omega) rfl rfl⟩
theorem wF (L:List ac) (e:ac):bk (L++[e])=d5 (bk L) e:=by simp [bk]
theorem qL (_h:P[i]?=some L) (k:Nat) {e:ac} (he:L[k]?=some e):(P.take i).flatten++L.take (k+1)=((P.take i).flatten++L.take k)++[e]:=by
 rw [List.take_add_one,he];simp
theorem qM (h:P[i]?=some L):(P.take (i+1)).flatten=(P.take i).flatten++L.take L.length:=by
 rw [List.take_add_one,h];simp
theorem yV (h:P[i]?=some L):((P.take i).flatten++L.take k).length≤P.flatten.length:=by
 have h1:P.flatten=(P.take (i+1)).flatten++(P.drop (i+1)).flatten:=by rw [← List.flatten_append,List.take_append_drop]
 rw [h1,qM h,List.length_append,List.length_append,List.length_append,List.length_take,List.length_take];omega
theorem p8 (a:Option Addr) (n c:Nat) (P:List (List ac)) (w:World) (hP:cK w a n c P) (hsum:P.flatten.length≤1048576) :
 Calls Tryz.prog 109 #[.slice a n c] w fun e w'=>∃g cg,e=.returned (sL g P.flatten.length cg)∧ay w' w.heap.size g P.flatten.length cg (bk P.flatten)∧Bl w w':=by
 have HP:=b6 hP;have HLN:Hid (P.length=n):=hP.length;have HSU:=b6 hsum;have hroom:=hP.room;have hbig:=hP.big;unfold maxLen at hbig;clear hP hsum;obtain ⟨N,hN⟩:∃N,P.flatten.length=N:=⟨_,rfl⟩;have HN:Hid (P.flatten.length=N):=hN;rw [hN];clear hN;go_enter Tryz.func109,Tryz.ntmps109
 go_wp2;go_loopw [3,4] (fun ov iv wr=>∃(i g cg m:Nat) (F:List ac),i≤n∧iv=iT i∧F=(P.take i).flatten∧F.length=m∧ov=sL g m cg∧ay wr w.heap.size g m cg (bk F)∧Bl w wr) (fun _ iv _=>n - (intOf iv).toNat)
 case atStart=>exact ⟨0,w.heap.size,0,0,[],Nat.zero_le _,rfl,by simp,rfl,rfl,bQ w _ (Nat.le_refl _),bZ⟩
 case round =>
  obtain ⟨i,g,cg,m,F,hi,rfl,hF,hFm,rfl,hO,hb⟩:=hrel;have HF:Hid (F=(P.take i).flatten):=hF;have HFM:Hid (F.length=m):=hFm;have HO:Hid (ay wr w.heap.size g m cg (bk F)):=hO;have HB:Hid (Bl w wr):=hb;clear hF hFm hO hb;by_cases hlt:i<n
  · have hltI:(i:Int)<(n:Int):=by omega
    obtain ⟨b,off,rfl,hbb⟩:=HP.out.form (by omega);obtain ⟨L,hL⟩:∃L,P[i]?=some L:=⟨_,List.getElem?_eq_getElem (by rw [HLN.out];exact hlt)⟩;have HL:Hid (P[i]?=some L):=hL;clear hL;go_wp2;go_loopw [3,5] (fun ov kv wq=>∃(k g cg m:Nat) (G:List ac),k≤L.length∧kv=iT k∧G=F++L.take k∧G.length=m∧ov=sL g m cg∧ay wq w.heap.size g m cg (bk G)∧Bl w wq) (fun _ kv _=>L.length - (intOf kv).toNat)
    case atStart=>exact ⟨0,g,cg,m,F,Nat.zero_le _,rfl,by simp,HFM.out,rfl,HO.out,HB.out⟩
    case round =>
     clear HO HB HFM;obtain ⟨k,g,cg,m,G,hk,rfl,hG,hGm,rfl,hO,hb⟩:=hrel;obtain ⟨L',s,len,cap,hL',c0,hE⟩:=HP.out.list hb i hlt;rw [HL.out] at hL';cases hL';have HG:Hid (G=F++L.take k):=hG;have HGM:Hid (G.length=m):=hGm;have HO:Hid (ay wr w.heap.size g m cg (bk G)):=hO;have HB:Hid (Bl w wr):=hb;have hLl:=hE.length;have HLL:Hid (L.length=len):=hLl;have zb:b<wr.heap.size:=Nat.lt_of_lt_of_le hbb hb.size;have hlc:=hE.room;have hcb:=hE.big;unfold maxLen at hcb;have hm:m≤1048576:=by
      have h1:=yV (k:=k) HL.out;rw [← HF.out,← hG] at h1;have h2:=HSU.out;omega
     rw [hLl] at hk;clear hG hGm hO hb hLl;by_cases hkl:k<len
     · have hklI:(k:Int)<(len:Int):=by omega
       obtain ⟨bs,os,rfl,zs⟩:=hE.form (by omega);obtain ⟨es,eq,ed,et,en,hx,hw,e0,e1,e2,e3,e4⟩:=hE.ent (Below.refl _ wr) zs k hkl;have HX:Hid (L[k]?=some (es,eq,ed,et,en)):=hx;have CP:=rc g m cg (bk G) es et eq ed en wr HO.out.entsAt HO.out.lt.2 hm hw;clear hx hw hE;go_wp2_with fail
       refine CP.mono ?_;rintro e w2 ⟨g2,c2,rfl,hO2,hb2⟩;have HO2:Hid (ay w2 w.heap.size g2 (m+1) c2 (d5 (bk G) (es,eq,ed,et,en))):=hO2.mono HB.out.size;have HB2:Hid (Bl w w2):=HB.out.trans (hb2.mono HB.out.size);clear hO2 hb2 CP HO HB;go_wp2;go_roundw
       case rel =>
        refine ⟨k+1,g2,c2,m+1,F++L.take (k+1),by have:=HLL.out;omega,by go_num,rfl,?_,rfl,?_,HB2.out⟩
        · rw [HF.out,qL HL.out k HX.out,← HF.out,← HG.out,List.length_append,HGM.out];rfl
        · rw [HF.out,qL HL.out k HX.out,← HF.out,← HG.out,wF];exact HO2.out
       case measure=>have:=HLL.out;simp [intOf];omega
     · have hklI:¬(k:Int)<(len:Int):=by omega
       have HKL:Hid (k=L.length):=by have:=HLL.out;show k=_;omega
       have wi:IntKind.i64.wrap ((i:Int)+1)=((i+1:Nat):Int):=by rw [IntWalk.i64_left];unfold wrap64;omega
       go_wp2;go_roundw
       case rel =>
        refine ⟨i+1,g,cg,m,G,by omega,by first | rfl | go_num,?_,HGM.out,rfl,HO.out,HB.out⟩;rw [qM HL.out,HG.out,HF.out,HKL.out]
       case measure=>simp [intOf];omega
  · have hin:i=n:=by omega
    have hltI:¬(i:Int)<(n:Int):=by omega
    have HFA:Hid (F=P.flatten):=by show F=_;rw [HF.out,List.take_of_length_le (by rw [HLN.out];omega)]
    clear hin;go_wp2;go_ret;have h1:=HFM.out;have h2:=HO.out;rw [HFA.out] at h1 h2;obtain rfl:N=m:=by have:=HN.out;omega
    exact ⟨g,cg,rfl,h2,HB.out⟩
def x8 (w:World) (X:Nat):Prop:=∀o,(∀s,w.cell? ⟨X,o,none⟩≠some (.string s))∧∀a n c k,w.cell? ⟨X,o,none⟩=some (.slice a n c)→w.cell? ⟨X,o+1,none⟩≠some (iT k)
theorem bU (w:World) (cs:Array Value) (t:Nat):an (w.alloc (.cells cs t)) w.heap.size t cs.size:=⟨cs,(by unfold World.alloc;exact Array.getElem?_push_size),rfl⟩
theorem ld {o:Nat} {xs:List Value} (h:my w (sO b o n c) n xs):Hid (∀j u,xs[j]?=some u→w.cell? ((⟨b,o,none⟩:Addr).add j)=some u):=fun j u hu=>by
 rcases h.2.2 with ⟨h1,_⟩ | ⟨b',o',c',h1,hc⟩
 · cases h1
 · cases h1
   rw [Go.WideShapes.add_plain]
   exact hc j u hu
theorem A3 (hb:an w X T k) (h0:w.cell? ⟨X,0,none⟩=some (iT q)) (hs:∀o,1≤o→o<k→∃a n c,w.cell? ⟨X,o,none⟩=some (.slice a n c)):x8 w X:=by
 have far:∀o,k≤o→w.cell? ⟨X,o,none⟩=none:=fun o ho=>by
  obtain ⟨cur,h1,h2⟩:=hb;simp [World.cell?,h1,Array.getElem?_eq_none (show cur.size≤o by omega)]
 intro o;refine ⟨fun s e=>?_,fun a n c z _ e=>?_⟩
 · by_cases ho:o=0
   · subst ho;rw [h0] at e;cases e
   · by_cases hk:o<k
     · obtain ⟨a,n,c,h⟩:=hs o (by omega) hk;rw [h] at e;cases e
     · rw [far o (by omega)] at e;cases e
 · by_cases hk:o+1<k
   · obtain ⟨a,n,c,h⟩:=hs (o+1) (by omega) hk;rw [h] at e;cases e
   · rw [far (o+1) (by omega)] at e;cases e
theorem fA {w:World} {X T:Nat} {q:Int} {a1 a2 a3:Option Addr} {n1 c1 n2 c2 n3 c3:Nat} (hb:an w X T 4) (h:ar w X (iT q) (.slice a1 n1 c1) (.slice a2 n2 c2) (.slice a3 n3 c3)):x8 w X :=
 A3 hb h.c0 (fun o h1 h2=>by
  match o,h1,h2 with
  | 1,_,_=>exact ⟨_,_,_,h.c1⟩
  | 2,_,_=>exact ⟨_,_,_,h.c2⟩
  | 3,_,_=>exact ⟨_,_,_,h.c3⟩)
theorem o7 (w:World) (X:Nat) (u0 u1 u2 u3:Value):∀b,b≠X→∀o,((((w.setCell ⟨X,0,none⟩ u0).setCell ⟨X,1,none⟩ u1).setCell ⟨X,2,none⟩ u2).setCell ⟨X,3,none⟩ u3).cell? ⟨b,o,none⟩=w.cell? ⟨b,o,none⟩:=fun b hb o=>by
 have h1:∀(w:World) (k:Nat) (u:Value),(w.setCell ⟨X,k,none⟩ u).cell? ⟨b,o,none⟩=w.cell? ⟨b,o,none⟩:=fun w k u=>by
  simp only [World.cell?,Below.heap_setCell w (⟨X,k,none⟩:Addr) u b hb]
 rw [h1,h1,h1,h1]
theorem qJ (w:World) (X:Nat) (u0 u1 u2 u3:Value):((((w.setCell ⟨X,0,none⟩ u0).setCell ⟨X,1,none⟩ u1).setCell ⟨X,2,none⟩ u2).setCell ⟨X,3,none⟩ u3).heap.size=w.heap.size:=by simp [World.setCell]
structure jm (base:Nat) (w:World) (g1 nm c1 G c g3 ns c3 gD nD dD:Nat) (M:List ac) (D:List ag) (S:List Int):Prop where
 mem:ay w base g1 nm c1 M
 lev:aZ base w gD nD dD D
 slen:S.length=ns
 swf:∀z ∈ S,(Lit.int .i64 z).wf=true
 sn:w.ownsRow base 3 1 (sL g3 ns c3) ns (S.map iT)
 kg:∃sz,an w G 61 sz
theorem jm.below (h:jm base w g1 nm c1 G c g3 ns c3 gD nD dD M D S) (hb:Bl w w'):jm base w' g1 nm c1 G c g3 ns c3 gD nD dD M D S:=by
 obtain ⟨sz,k⟩:=h.kg;exact ⟨h.mem.below hb,h.lev.below hb,h.slen,h.swf,cE h.sn hb,sz,k.below hb⟩
theorem jm.setG (h:jm base w g1 nm c1 G c g3 ns c3 gD nD dD M D S) (o:Nat) (u:Value):jm base (w.setCell ⟨G,o,none⟩ u) g1 nm c1 G c g3 ns c3 gD nD dD M D S:=by
 obtain ⟨sz,k⟩:=h.kg;have hg:=cy w G o u;have hk:∀{T size n m g c:Nat} {xs:List Value},T≠61→w.ownsRow base T size (sL g m c) n xs→(w.setCell ⟨G,o,none⟩ u).ownsRow base T size (sL g m c) n xs:=fun {T size n m g c xs} hT h3=>h3.kept hg (.inr fun e=>by
  have e':g=G:=by simpa [Value.ownBlock] using e
  obtain ⟨_,k3⟩:=aJ h3;rw [e'] at k3;exact hT (k3.kind k))
 exact ⟨⟨hk (by decide) h.mem.owns,h.mem.len,h.mem.ents⟩,h.lev.grown k (by decide) (by decide) hg,h.slen,h.swf,hk (by decide) h.sn,sz,k.setCell _⟩
theorem jm.setX (h:jm base w g1 nm c1 G c g3 ns c3 gD nD dD M D S) (hX:X<base) (o:Nat) (u:Value):jm base (w.setCell ⟨X,o,none⟩ u) g1 nm c1 G c g3 ns c3 gD nD dD M D S:=by
 obtain ⟨sz,k⟩:=h.kg;have hg:=cy w X o u;have hk:∀{T size n m g c:Nat} {xs:List Value},w.ownsRow base T size (sL g m c) n xs→(w.setCell ⟨X,o,none⟩ u).ownsRow base T size (sL g m c) n xs:=fun {T size n m g c xs} h3=>h3.kept hg (.inr fun e=>by
  have e':g=X:=by simpa [Value.ownBlock] using e
  have:=(h3.lt g rfl).1;omega)
 exact ⟨⟨hk h.mem.owns,h.mem.len,h.mem.ents⟩,h.lev.low hX hg,h.slen,h.swf,hk h.sn,sz,k.setCell _⟩
theorem jm.treeIn (h:jm base w g1 nm c1 G c g3 ns c3 gD nD dD M D S) {V:List (List ag)} (hV:bH 0 w (pT G) 3 c V):bf 0 w (pT g1) nm c1 (pT G) 3 c (pT g3) ns c3 M V S :=
 ⟨⟨h.mem.entsAt,fun _ _ _=>Nat.zero_le _⟩,hV,(eH h.sn h.slen h.swf).lower (Nat.zero_le _)⟩
theorem jd {s0 s1 s2:Option Addr} {n0 d0 d1 d2:Nat} (hc:3≤c) (hc2:c≤maxLen) (c0:w.cell? ⟨G,0,none⟩=some (.slice s0 n0 d0)) (c1:w.cell? ⟨G,1,none⟩=some (.slice s1 n1 d1)) (c2:w.cell? ⟨G,2,none⟩=some (.slice s2 n2 d2)) (h0:az 0 w s0 n0 d0 A) (h1:az 0 w s1 n1 d1 B) (h2:az 0 w s2 n2 d2 C):bH 0 w (pT G) 3 c [A,B,C]:=by
 refine ⟨rfl,hc,hc2,(fun e=>by cases e),?_,?_⟩
 · rintro x e _;cases e;exact ⟨World.block_lt_of_cell? _ _ c0,rfl,Nat.zero_le _⟩
 · rintro x e i hi;cases e;simp only [Nat.zero_add];match i,hi with
   | 0,_=>exact ⟨_,_,_,c0,h0⟩
   | 1,_=>exact ⟨_,_,_,c1,h1⟩
   | 2,_=>exact ⟨_,_,_,c2,h2⟩
theorem mL {e:Ending} (h:pD n B w e w'):∃a c,e=.returned (.slice a n c)∧cK w' a n c (bn B)∧Bl w w':=by
 obtain ⟨v,vs,rfl,h1,h2,h3⟩:=h;obtain ⟨a,c,rfl,h4⟩:=sX h1 (h2.keep h3);exact ⟨a,c,rfl,h4,h3⟩
theorem rL (L:List ac):∀k,(eP L k).1.length≤k
 | 0=>Nat.le_refl _
 | k+1=>by
  have:=rL L k
  rw [eP]
  split
  · rw [List.length_append];simp;omega
  · omega
theorem mc:∀(B A:List ag),(dq A B).length=A.length+B.length
 | [],A=>rfl
 | r :: B,A=>by
  show (dq (mj A r) B).length=_
  rw [mc B]
  simp [mj]
  omega
theorem oc {P:Program} (base:Nat) (t ty e:TypeId) (i:TypeInfo) (size:Nat) (ht:P.underlying t=some (.slice e)) (hi:P.info? e=some i) (v:Value) (n c:Nat) (xs:List Value) (hown:w.ownsRow base e size v n xs) :
 (Builtin.append_ #[t,t] ty #[v,.slice none 0 c]).run P w=.ok v w:=by
 rcases hown.2 with ⟨rfl,rfl⟩ | ⟨g,cap,cur,rfl,_,_,hnc,_⟩
 · simp [Builtin.append_,run_underlying ht,sizeOf,typeInfo,hi,Builtin.lenOf,Builtin.firstCells]
 · simp [Builtin.append_,run_underlying ht,sizeOf,typeInfo,hi,Builtin.lenOf,Builtin.firstCells,hnc,storeCells]
theorem bC {P:Program} {ops:Array Oper} {o:Oper} {a:Act} {w:World} {K:Act→World→Prop} {Q:Exit→Act→World→Prop} {E:Prop}
 (hg:o.guard=none) (s x:Operand) (t:TypeId) (hop:o.op=Op.call { callee:=Callee.builtin Builtin.append,args:=#[s,x],argTypes:=#[t,t] })
 (base:Nat) (e:TypeId) (i:TypeInfo) (z:Value) (size bytes:Nat) (h1:P.underlying t=some (.slice e)) (h2:P.info? e=some i) (h3:i.zero=some z) (h4:i.size=size) (h5:i.bytes=bytes) (h6:z.cells.size=size) (h7:0<size)
 (v:Value) (n:Nat) (olds:List Value) (hs:a.eval s=v) (hown:w.ownsRow base e size v n olds)
 (ad:Option Addr) (m c:Nat) (news:List Value) (hx:a.eval x=.slice ad m c) (hn:news.length=m*size) (hz:ad=none→m=0) (hc:∀y,ad=some y→∀j u,news[j]?=some u→w.cell? (y.add j)=some u) (h1c:∀u ∈ news,u.oneCell'=true)
 (b1:n+m≤maxLen) (b2:(n+m)*bytes≤140737488355328) (b3:base≤w.heap.size)
 (hK:∀v' w',w'.ownsRow base e size v' (n+m) (olds++news)→w.grownBy w' v.ownBlock→(v'=nZ ↔ v=nZ∧m=0)→K (a.put o.dst v') w') :
 if Region.wanted o (yielded ops a.tmps)=true then Oper.wp P o a w K Q else E:=by
 cases ad with
 | some y=>exact ax hg s x t hop base e i z size bytes h1 h2 h3 h4 h5 h6 h7 v n olds hs hown y m c news hx hn (hc y rfl) h1c b1 b2 b3 hK
 | none =>
  have hw:Region.wanted o (yielded ops a.tmps)=true:=by simp [Region.wanted,hg]
  rw [if_pos hw];obtain rfl:m=0:=hz rfl;have hne:news=[]:=List.eq_nil_of_length_eq_zero (by rw [hn];simp);subst hne;have hrun:=oc (P:=P) (w:=w) base t o.type e i size h1 h2 v n c olds hown;unfold Oper.wp;simp [execOp,hop,resolve,invoke,builtin,hs,hx,hrun,Result.andThen];exact hK v w (by rw [List.append_nil];exact hown) ⟨rfl,rfl,rfl,Nat.le_refl _,fun _ _ _=>rfl⟩ ⟨fun h=>⟨h,rfl⟩,fun h=>h.1⟩
theorem gE {a:Option Addr} (h:aj w a n c L):∀y,a=some y→∀j u,(aE L)[j]?=some u→w.cell? (y.add j)=some u:=by
 rintro ⟨b,o,s⟩ rfl j u hj;have hlt:j<(aE L).length:=(List.getElem?_eq_some_iff.1 hj).1;rw [bi] at hlt;have hs:=(h.lies _ rfl (by have:=h.length;omega)).2;simp only at hs;subst hs;exact iI h j u hj
theorem eV {lo:Nat} {a:Option Addr} (h:bG lo w a n c S):∀y,a=some y→∀j u,(S.map iT)[j]?=some u→w.cell? (y.add j)=some u:=by
 rintro ⟨b,o,s⟩ rfl j u hj;have hlt:j<(S.map iT).length:=(List.getElem?_eq_some_iff.1 hj).1;rw [List.length_map] at hlt;have hs:=(h.lies _ rfl (by have:=h.length;omega)).2.1;simp only at hs;subst hs;exact xg h j u hj
end Go.Proofs.YtpobkmjicbobdaaGreat
