/-
  The document's l5Has and TreeSnap: what they answer at a right tree, by walks of their Go text.
-/
import Derived.Test.YtlmgojlffgkciaaGreatTc19
import Derived.Test.YtlmgojlffgkciaaGreatTc34
import Derived.Test.YtlmgojlffgkciaaGreatTc30
import Derived.Test.YtlmgojlffgkciaaGreatTc01
import Derived.Test.YtlmgojlffgkciaaGreatTc32
import Derived.Test.YtlmgojlffgkciaaGreatTc35
import Derived.Test.YtlmgojlffgkciaaGreatTc06
import Derived.Test.YtlmgojlffgkciaaGreatTc10
import Derived.Test.YtlmgojlffgkciaaGreatTc14
import Derived.Test.YtlmgojlffgkciaaGreatTc33
namespace Go.Proofs.YtlmgojlffgkciaaGreat
open Go.RowKit
theorem aF.grownB {w w':World} {b g:Nat} {u0 u1 u2 u3:Value} (h:aF w b u0 u1 u2 u3) (hg:w.grownBy w' (some g)) (hne:b≠g):aF w' b u0 u1 u2 u3 :=
 have hn:some b≠some g:=fun e=>hne (Option.some.inj e)
 ⟨hg.cell h.c0 hn,hg.cell h.c1 hn,hg.cell h.c2 hn,hg.cell h.c3 hn,fun o=>(gk hg (x:=⟨b,o,none⟩) h.lt hn).trans (h.fz o)⟩
theorem dy.kind {base g1 nm c1 G nv c g3 ns c3 Y T sz:Nat} {w w':World} {M:List ac} {V:List (List ae)} {S:List Int} (h:dy base w g1 nm c1 G nv c g3 ns c3 M V S) (hB:aw w Y T sz) (t0:T≠64) (t1:T≠102) (t2:T≠78) (t3:T≠3) (hg:w.grownBy w' (some Y)):dy base w' g1 nm c1 G nv c g3 ns c3 M V S:=by
 obtain ⟨_,k1⟩:=cY h.mem.owns;obtain ⟨_,k3⟩:=cY h.sn;refine ⟨h.mem.grown hg (fun e=>?_),h.levs.grown hB t0 t1 t2 hg,h.slen,h.swf,h.sn.kept hg (.inr fun e=>?_)⟩
 · have e':g1=Y:=Option.some.inj e;subst e';exact t2 (hB.kind k1)
 · have e':g3=Y:=by simpa [Value.ownBlock] using e
   subst e';exact t3 (hB.kind k3)
theorem dy.push {base g1 nm c1 G nv c g3 ns c3 g4 c4:Nat} {w w':World} {M:List ac} {V:List (List ae)} {S:List Int} {q:Int} (h:dy base w g1 nm c1 G nv c g3 ns c3 M V S) (hg:w.grownBy w' (some g3)) (ho:w'.ownsRow base 3 1 (sL g4 (ns+1) c4) (ns+1) (S.map iT++[iT q])) (hq:(Lit.int .i64 q).wf=true):dy base w' g1 nm c1 G nv c g4 (ns+1) c4 M V (S++[q]) :=
 ⟨ib h.mem h.sn (by decide) hg,gv h.levs h.sn (by decide) (by decide) (by decide) hg,by rw [List.length_append,h.slen];rfl,fun z hz=>by
  rcases List.mem_append.1 hz with h1 | h1
  · exact h.swf z h1
  · rw [List.mem_singleton] at h1;subst h1;exact hq,by rw [List.map_append];exact ho⟩
end Go.Proofs.YtlmgojlffgkciaaGreat

namespace Go.Proofs.YtlmgojlffgkciaaGreat
open Go.RowKit
structure jH (w wr:World) (base X Y:Nat) (u0 u1 u2 u3:Value) (q:Int) (g1 nm c1 G nv c g n4 c4:Nat) (M:List ac) (V:List (List ae)) (S:List Int):Prop where
 low:Bl w wr
 bx:aF wr X u0 u1 u2 u3
 br:aF wr (X+1) (iT 0) nZ nZ nZ
 hy:aF wr Y (iT q) (sL g1 nm c1) (sL G nv c) (sL g n4 c4)
 cp:dy base wr g1 nm c1 G nv c g n4 c4 M V S
 ky:aw wr Y 31 4
 lows:X+1<base∧X+1<Y∧w.heap.size≤base∧w.heap.size≤X
theorem jH.below {w wr wj:World} {base X Y:Nat} {u0 u1 u2 u3:Value} {q:Int} {g1 nm c1 G nv c g n4 c4:Nat} {M:List ac} {V:List (List ae)} {S:List Int} (h:jH w wr base X Y u0 u1 u2 u3 q g1 nm c1 G nv c g n4 c4 M V S) (hb:Bl wr wj):jH w wj base X Y u0 u1 u2 u3 q g1 nm c1 G nv c g n4 c4 M V S :=
 ⟨h.low.trans (hb.mono h.low.size),h.bx.keep hb,h.br.keep hb,h.hy.keep hb,h.cp.below hb,h.ky.below hb,h.lows⟩
theorem jH.ne {w wr:World} {base X Y:Nat} {u0 u1 u2 u3:Value} {q:Int} {g1 nm c1 G nv c g n4 c4:Nat} {M:List ac} {V:List (List ae)} {S:List Int} (h:jH w wr base X Y u0 u1 u2 u3 q g1 nm c1 G nv c g n4 c4 M V S):X≠g∧X+1≠g∧Y≠g:=by
 have h1:=(h.cp.sn.lt g rfl).1;have h2:=h.lows;refine ⟨by omega,by omega,fun e=>?_⟩;obtain ⟨_,k3⟩:=cY h.cp.sn;subst e;exact absurd (h.ky.kind k3) (by decide)
theorem jH.push {w wr w2:World} {base X Y:Nat} {u0 u1 u2 u3:Value} {q z:Int} {g1 nm c1 G nv c g n4 c4 g' c':Nat} {M:List ac} {V:List (List ae)} {S:List Int} (h:jH w wr base X Y u0 u1 u2 u3 q g1 nm c1 G nv c g n4 c4 M V S) (hg:wr.grownBy w2 (some g)) (ho:w2.ownsRow base 3 1 (sL g' (n4+1) c') (n4+1) (S.map iT++[iT z])) (hz:(Lit.int .i64 z).wf=true):jH w (w2.setCell ⟨Y,3,none⟩ (sL g' (n4+1) c')) base X Y u0 u1 u2 u3 q g1 nm c1 G nv c g' (n4+1) c' M V (S++[z]):=by
 obtain ⟨e1,e2,e3⟩:=h.ne;have hl:=h.lows;have hB5:aw w2 Y 31 4:=by
  obtain ⟨cur,h1,h2⟩:=h.ky;exact ⟨cur,(hg.block Y (Array.getElem?_eq_some_iff.1 h1).1 (fun e=>e3 (Option.some.inj e))).trans h1,h2⟩
 have hset:w2.grownBy (w2.setCell ⟨Y,3,none⟩ (sL g' (n4+1) c')) (some Y):=uA _ _ _ _;refine ⟨?_,?_,?_,?_,?_,?_,h.lows⟩
 · exact (h.low.grown hg h.low.size (fun k e=>by cases e;have:=(h.cp.sn.lt g rfl).1;omega)).setCell (p:=⟨Y,3,none⟩) (by show _≤Y;omega) _
 · exact (h.bx.grownB hg e1).other (by omega) _
 · exact (h.br.grownB hg e2).other (by omega) _
 · exact (h.hy.grownB hg e3).set3 _
 · exact (h.cp.push hg ho hz).kind hB5 (by decide) (by decide) (by decide) (by decide) hset
 · exact hB5.setCell _
end Go.Proofs.YtlmgojlffgkciaaGreat

namespace Go.Proofs.YtlmgojlffgkciaaGreat
open Go.RowKit
structure Az (b0:Nat) (w wi:World) (base X:Nat) (q:Int) (g1 nm c1 G c g3 ns c3 gA dA gB dB gC dC:Nat) (M:List ac) (A B C:List ae) (S:List Int):Prop where
 low:Below b0 w wi
 bx:aF wi X (iT q) (sL g1 nm c1) (sL G 3 c) (sL g3 ns c3)
 br:aF wi (X+1) (iT 0) nZ nZ nZ
 mem:aE wi base g1 nm c1 M
 sn:wi.ownsRow base 3 1 (sL g3 ns c3) ns (S.map iT)
 row:wi.ownsRow base 64 1 (sL G 3 c) 3 [sL gA A.length dA,sL gB B.length dB,sL gC C.length dC]
 rA:bG base wi gA A.length dA A
 rB:bG base wi gB B.length dB B
 rC:bG base wi gC C.length dC C
 kx:aw wi X 31 4∧aw wi (X+1) 31 4
 apart:gA≠gB∧gA≠gC
 top:b0≤base∧b0≤w.heap.size∧w.heap.size≤X
theorem Az.below {q:Int} {w wi wj:World} {b0 base X g1 nm c1 G c g3 ns c3 gA dA gB dB gC dC:Nat} {M:List ac} {A B C:List ae} {S:List Int} (h:Az b0 w wi base X q g1 nm c1 G c g3 ns c3 gA dA gB dB gC dC M A B C S) (hb:Bl wi wj):Az b0 w wj base X q g1 nm c1 G c g3 ns c3 gA dA gB dB gC dC M A B C S :=
 ⟨h.low.trans (hb.mono (Nat.le_trans h.top.2.1 h.low.size)),h.bx.keep hb,h.br.keep hb,h.mem.below hb,de h.sn hb,de h.row hb,h.rA.below hb,h.rB.below hb,h.rC.below hb,⟨h.kx.1.below hb,h.kx.2.below hb⟩,h.apart,h.top⟩
theorem Az.head {w wi:World} {q:Int} {b0 base X g1 nm c1 G c g3 ns c3 gA dA gB dB gC dC:Nat} {M:List ac} {A B C:List ae} {S:List Int} (h:Az b0 w wi base X q g1 nm c1 G c g3 ns c3 gA dA gB dB gC dC M A B C S):wi.cell? ⟨G,0,none⟩=some (sL gA A.length dA)∧wi.cell? ⟨G,1,none⟩=some (sL gB B.length dB)∧wi.cell? ⟨G,2,none⟩=some (sL gC C.length dC)∧G<wi.heap.size∧wi.frozen? ⟨G,0,none⟩=false :=
 ⟨h.row.cellAt 0 (by omega),h.row.cellAt 1 (by omega),h.row.cellAt 2 (by omega),(h.row.lt G rfl).2,h.row.frozenAt 0⟩
structure AA (b0:Nat) (w wi:World) (base X:Nat) (u0 u1 u2 u3:Value) (G c g3 ns c3 g8 c8 n8 gB dB gC dC:Nat) (A B C:List ae) (S:List Int):Prop where
 low:Below b0 w wi
 bx:aF wi X u0 u1 u2 u3
 br:aF wi (X+1) (iT 0) nZ nZ nZ
 sn:wi.ownsRow base 3 1 (sL g3 ns c3) ns (S.map iT)
 cells:wi.cell? ⟨G,0,none⟩=some (sL g8 n8 c8)∧wi.cell? ⟨G,1,none⟩=some (sL gB B.length dB)∧wi.cell? ⟨G,2,none⟩=some (sL gC C.length dC)
 kg:aw wi G 64 (c*1)
 rA:bG base wi g8 n8 c8 A
 rB:bG base wi gB B.length dB B
 rC:bG base wi gC C.length dC C
 kx:aw wi X 31 4∧aw wi (X+1) 31 4
 top:b0≤base∧b0≤w.heap.size∧w.heap.size≤X
theorem AA.below {w wi wj:World} {b0 base X:Nat} {u0 u1 u2 u3:Value} {G c g3 ns c3 g8 c8 n8 gB dB gC dC:Nat} {A B C:List ae} {S:List Int} (h:AA b0 w wi base X u0 u1 u2 u3 G c g3 ns c3 g8 c8 n8 gB dB gC dC A B C S) (hb:Bl wi wj):AA b0 w wj base X u0 u1 u2 u3 G c g3 ns c3 g8 c8 n8 gB dB gC dC A B C S :=
 ⟨h.low.trans (hb.mono (Nat.le_trans h.top.2.1 h.low.size)),h.bx.keep hb,h.br.keep hb,de h.sn hb,⟨cell_later hb h.cells.1,cell_later hb h.cells.2.1,cell_later hb h.cells.2.2⟩,h.kg.below hb,h.rA.below hb,h.rB.below hb,h.rC.below hb,⟨h.kx.1.below hb,h.kx.2.below hb⟩,h.top⟩
theorem dy.split {base g1 nm c1 G nv c g3 ns c3:Nat} {w:World} {M:List ac} {A B C:List ae} {S:List Int} (h:dy base w g1 nm c1 G nv c g3 ns c3 M [A,B,C] S):∃gA dA gB dB gC dC,w.ownsRow base 64 1 (sL G 3 c) 3 [sL gA A.length dA,sL gB B.length dB,sL gC C.length dC]∧bG base w gA A.length dA A∧bG base w gB B.length dB B∧bG base w gC C.length dC C∧gA≠gB∧gA≠gC:=by
 obtain ⟨h1,xs,h3,h4,h5⟩:=h.levs;have hn:nv=3:=h1.symm;subst hn;obtain ⟨gA,dA,a1,a2⟩:=h4 0 A rfl;obtain ⟨gB,dB,b1,b2⟩:=h4 1 B rfl;obtain ⟨gC,dC,c1',c2⟩:=h4 2 C rfl;have hx:xs=[sL gA A.length dA,sL gB B.length dB,sL gC C.length dC]:=by
  have hl:=h3.1;match xs,hl,a1,b1,c1' with
  | [x,y,z],_,a1,b1,c1'=>simp at a1 b1 c1';rw [a1,b1,c1']
 rw [hx] at h3 h5;exact ⟨gA,dA,gB,dB,gC,dC,h3,a2,b2,c2,h5 0 1 _ _ _ _ _ _ (by omega) rfl rfl,h5 0 2 _ _ _ _ _ _ (by omega) rfl rfl⟩
end Go.Proofs.YtlmgojlffgkciaaGreat

namespace Go.Proofs.YtlmgojlffgkciaaGreat
open Go.RowKit
set_option maxRecDepth 100000
set_option maxHeartbeats 4000000
theorem xu (L:List ac) (e:ac):aQ (L++[e])=f9 (aQ L) e:=by simp [aQ]
theorem qA {P:List (List ac)} {i:Nat} {L:List ac} (_h:P[i]?=some L) (k:Nat) {e:ac} (he:L[k]?=some e):(P.take i).flatten++L.take (k+1)=((P.take i).flatten++L.take k)++[e]:=by
 rw [List.take_add_one,he];simp
theorem qB {P:List (List ac)} {i:Nat} {L:List ac} (h:P[i]?=some L):(P.take (i+1)).flatten=(P.take i).flatten++L.take L.length:=by
 rw [List.take_add_one,h];simp
theorem zw {P:List (List ac)} {i k:Nat} {L:List ac} (h:P[i]?=some L):((P.take i).flatten++L.take k).length≤P.flatten.length:=by
 have h1:P.flatten=(P.take (i+1)).flatten++(P.drop (i+1)).flatten:=by rw [← List.flatten_append,List.take_append_drop]
 rw [h1,qB h,List.length_append,List.length_append,List.length_append,List.length_take,List.length_take];omega
theorem pR (a:Option Addr) (n c:Nat) (P:List (List ac)) (w:World) (hP:bW w a n c P) (hsum:P.flatten.length≤1048576) :
 Calls Tryz.prog 67 #[.slice a n c] w fun e w'=>∃g cg,e=.returned (sL g P.flatten.length cg)∧aE w' w.heap.size g P.flatten.length cg (aQ P.flatten)∧Bl w w':=by
 have HP:=bc hP;have HLN:Hid (P.length=n):=hP.length;have HSU:=bc hsum;have hroom:=hP.room;have hbig:=hP.big;unfold maxLen at hbig;clear hP hsum;obtain ⟨N,hN⟩:∃N,P.flatten.length=N:=⟨_,rfl⟩;have HN:Hid (P.flatten.length=N):=hN;rw [hN];clear hN;go_enter Tryz.func67,Tryz.ntmps67
 go_wp2;go_loopw [3,4] (fun ov iv wr=>∃(i g cg m:Nat) (F:List ac),i≤n∧iv=iT i∧F=(P.take i).flatten∧F.length=m∧ov=sL g m cg∧aE wr w.heap.size g m cg (aQ F)∧Bl w wr) (fun _ iv _=>n - (intOf iv).toNat)
 case atStart=>exact ⟨0,w.heap.size,0,0,[],Nat.zero_le _,rfl,by simp,rfl,rfl,er w _ (Nat.le_refl _),bZ⟩
 case round =>
  obtain ⟨i,g,cg,m,F,hi,rfl,hF,hFm,rfl,hO,hb⟩:=hrel;have HF:Hid (F=(P.take i).flatten):=hF;have HFM:Hid (F.length=m):=hFm;have HO:Hid (aE wr w.heap.size g m cg (aQ F)):=hO;have HB:Hid (Bl w wr):=hb;clear hF hFm hO hb;by_cases hlt:i<n
  · have hltI:(i:Int)<(n:Int):=by omega
    obtain ⟨b,off,rfl,hbb⟩:=HP.out.form (by omega);obtain ⟨L,hL⟩:∃L,P[i]?=some L:=⟨_,List.getElem?_eq_getElem (by rw [HLN.out];exact hlt)⟩;have HL:Hid (P[i]?=some L):=hL;clear hL;go_wp2;go_loopw [3,5] (fun ov kv wq=>∃(k g cg m:Nat) (G:List ac),k≤L.length∧kv=iT k∧G=F++L.take k∧G.length=m∧ov=sL g m cg∧aE wq w.heap.size g m cg (aQ G)∧Bl w wq) (fun _ kv _=>L.length - (intOf kv).toNat)
    case atStart=>exact ⟨0,g,cg,m,F,Nat.zero_le _,rfl,by simp,HFM.out,rfl,HO.out,HB.out⟩
    case round =>
     clear HO HB HFM;obtain ⟨k,g,cg,m,G,hk,rfl,hG,hGm,rfl,hO,hb⟩:=hrel;obtain ⟨L',s,len,cap,hL',c0,hE⟩:=HP.out.list hb i hlt;rw [HL.out] at hL';cases hL';have HG:Hid (G=F++L.take k):=hG;have HGM:Hid (G.length=m):=hGm;have HO:Hid (aE wr w.heap.size g m cg (aQ G)):=hO;have HB:Hid (Bl w wr):=hb;have hLl:=hE.length;have HLL:Hid (L.length=len):=hLl;have zb:b<wr.heap.size:=Nat.lt_of_lt_of_le hbb hb.size;have hlc:=hE.room;have hcb:=hE.big;unfold maxLen at hcb;have hm:m≤1048576:=by
      have h1:=zw (k:=k) HL.out;rw [← HF.out,← hG] at h1;have h2:=HSU.out;omega
     rw [hLl] at hk;clear hG hGm hO hb hLl;by_cases hkl:k<len
     · have hklI:(k:Int)<(len:Int):=by omega
       obtain ⟨bs,os,rfl,zs⟩:=hE.form (by omega);obtain ⟨es,eq,ed,et,en,hx,hw,e0,e1,e2,e3,e4⟩:=hE.ent (Below.refl _ wr) zs k hkl;have HX:Hid (L[k]?=some (es,eq,ed,et,en)):=hx;have CP:=AI g m cg (aQ G) es et eq ed en wr HO.out.entsAt HO.out.lt.2 hm hw;clear hx hw hE;go_wp2_with fail
       refine CP.mono ?_;rintro e w2 ⟨g2,c2,rfl,hO2,hb2⟩;have HO2:Hid (aE w2 w.heap.size g2 (m+1) c2 (f9 (aQ G) (es,eq,ed,et,en))):=hO2.mono HB.out.size;have HB2:Hid (Bl w w2):=HB.out.trans (hb2.mono HB.out.size);clear hO2 hb2 CP HO HB;go_wp2;go_roundw
       case rel =>
        refine ⟨k+1,g2,c2,m+1,F++L.take (k+1),by have:=HLL.out;omega,by go_num,rfl,?_,rfl,?_,HB2.out⟩
        · rw [HF.out,qA HL.out k HX.out,← HF.out,← HG.out,List.length_append,HGM.out];rfl
        · rw [HF.out,qA HL.out k HX.out,← HF.out,← HG.out,xu];exact HO2.out
       case measure=>have:=HLL.out;simp [intOf];omega
     · have hklI:¬(k:Int)<(len:Int):=by omega
       have HKL:Hid (k=L.length):=by have:=HLL.out;show k=_;omega
       have wi:IntKind.i64.wrap ((i:Int)+1)=((i+1:Nat):Int):=by rw [IntWalk.i64_left];unfold wrap64;omega
       go_wp2;go_roundw
       case rel =>
        refine ⟨i+1,g,cg,m,G,by omega,by first | rfl | go_num,?_,HGM.out,rfl,HO.out,HB.out⟩;rw [qB HL.out,HG.out,HF.out,HKL.out]
       case measure=>simp [intOf];omega
  · have hin:i=n:=by omega
    have hltI:¬(i:Int)<(n:Int):=by omega
    have HFA:Hid (F=P.flatten):=by show F=_;rw [HF.out,List.take_of_length_le (by rw [HLN.out];omega)]
    clear hin;go_wp2;go_ret;have h1:=HFM.out;have h2:=HO.out;rw [HFA.out] at h1 h2;obtain rfl:N=m:=by have:=HN.out;omega
    exact ⟨g,cg,rfl,h2,HB.out⟩
end Go.Proofs.YtlmgojlffgkciaaGreat

namespace Go.Proofs.YtlmgojlffgkciaaGreat
open Go.RowKit
def m8 (w:World) (X:Nat):Prop:=∀o,(∀s,w.cell? ⟨X,o,none⟩≠some (.string s))∧∀a n c k,w.cell? ⟨X,o,none⟩=some (.slice a n c)→w.cell? ⟨X,o+1,none⟩≠some (iT k)
theorem cZ (w:World) (cs:Array Value) (t:Nat):aw (w.alloc (.cells cs t)) w.heap.size t cs.size:=⟨cs,(by unfold World.alloc;exact Array.getElem?_push_size),rfl⟩
theorem lD {w:World} {b o n c:Nat} {xs:List Value} (h:gl w (sO b o n c) n xs):Hid (∀j u,xs[j]?=some u→w.cell? ((⟨b,o,none⟩:Addr).add j)=some u):=fun j u hu=>by
 rcases h.2.2 with ⟨h1,_⟩ | ⟨b',o',c',h1,hc⟩
 · cases h1
 · cases h1
   rw [Go.WideShapes.add_plain]
   exact hc j u hu
theorem yQ {w:World} {X T k:Nat} {q:Int} (hb:aw w X T k) (h0:w.cell? ⟨X,0,none⟩=some (iT q)) (hs:∀o,1≤o→o<k→∃a n c,w.cell? ⟨X,o,none⟩=some (.slice a n c)):m8 w X:=by
 have far:∀o,k≤o→w.cell? ⟨X,o,none⟩=none:=fun o ho=>by
  obtain ⟨cur,h1,h2⟩:=hb;simp [World.cell?,h1,Array.getElem?_eq_none (show cur.size≤o by omega)]
 intro o;refine ⟨fun s e=>?_,fun a n c z _ e=>?_⟩
 · by_cases ho:o=0
   · subst ho;rw [h0] at e;cases e
   · by_cases hk:o<k
     · obtain ⟨a,n,c,h⟩:=hs o (by omega) hk;rw [h] at e;cases e
     · rw [far o (by omega)] at e;cases e
 · by_cases hk:o+1<k
   · obtain ⟨a,n,c,h⟩:=hs (o+1) (by omega) hk;rw [h] at e;cases e
   · rw [far (o+1) (by omega)] at e;cases e
theorem iz {w:World} {X T:Nat} {q:Int} {a1 a2 a3:Option Addr} {n1 c1 n2 c2 n3 c3:Nat} (hb:aw w X T 4) (h:aF w X (iT q) (.slice a1 n1 c1) (.slice a2 n2 c2) (.slice a3 n3 c3)):m8 w X :=
 yQ hb h.c0 (fun o h1 h2=>by
  match o,h1,h2 with
  | 1,_,_=>exact ⟨_,_,_,h.c1⟩
  | 2,_,_=>exact ⟨_,_,_,h.c2⟩
  | 3,_,_=>exact ⟨_,_,_,h.c3⟩)
theorem eY {w:World} {X T:Nat} {q:Int} {a1 a2 a3 a4 a5:Option Addr} {n1 c1 n2 c2 n3 c3 n4 c4 n5 c5:Nat} (hb:aw w X T 6) (h:bn w X (iT q) (.slice a1 n1 c1) (.slice a2 n2 c2) (.slice a3 n3 c3) (.slice a4 n4 c4) (.slice a5 n5 c5)):m8 w X :=
 yQ hb h.c0 (fun o h1 h2=>by
  match o,h1,h2 with
  | 1,_,_=>exact ⟨_,_,_,h.c1⟩
  | 2,_,_=>exact ⟨_,_,_,h.c2⟩
  | 3,_,_=>exact ⟨_,_,_,h.c3⟩
  | 4,_,_=>exact ⟨_,_,_,h.c4⟩
  | 5,_,_=>exact ⟨_,_,_,h.c5⟩)
theorem aj.apartX {lo:Nat} {w w':World} {X:Nat} {a:Option Addr} {n c:Nat} {B:List ae} (h:aj lo w a n c B) (hX:m8 w X) (hs:w.heap.size≤w'.heap.size) (hc:∀b,b≠X→∀o,w'.cell? ⟨b,o,none⟩=w.cell? ⟨b,o,none⟩):aj lo w' a n c B where
 length:=h.length
 room:=h.room
 big:=h.big
 nil:=h.nil
 lies:=fun x e hp=>⟨Nat.lt_of_lt_of_le (h.lies x e hp).1 hs,(h.lies x e hp).2⟩
 runs:=fun x e i hi=>by
  obtain ⟨h1,s,m,d,h2,h3,h4,h5⟩:=h.runs x e i hi
  have hb:x.block≠X:=fun e'=>by
   rw [e'] at h2 h3
   exact (hX _).2 _ _ _ _ h2 h3
  refine ⟨h1,s,m,d,by rw [hc _ hb];exact h2,by rw [hc _ hb];exact h3,h4.moved hs (fun y ey hp o=>hc _ (fun e'=>?_) o),h5⟩
  have hl:=h4.length
  have h6:=(h4.cells y ey 0 (by omega))
  rw [e'] at h6
  exact (hX _).1 _ h6.1
theorem aM.apartX {w w':World} {X g1 nm c1 G c g3 ns c3:Nat} {q:Int} {M:List ac} {V:List (List ae)} {S:List Int} (h:aM 0 w (pT g1) nm c1 (pT G) 3 c (pT g3) ns c3 M V S) (hX:m8 w X) (h0:w.cell? ⟨X,0,none⟩=some (iT q)) (hg:0<ns→g3≠X) (hs:w.heap.size≤w'.heap.size) (hc:∀b,b≠X→∀o,w'.cell? ⟨b,o,none⟩=w.cell? ⟨b,o,none⟩):aM 0 w' (pT g1) nm c1 (pT G) 3 c (pT g3) ns c3 M V S:=by
 have hl:=h.levels.length;have hG:G≠X:=fun e=>by
  obtain ⟨s,n,d,h1,_⟩:=h.levels.levels _ rfl 0 (by omega);simp only [Nat.zero_add] at h1;rw [e,h0] at h1;cases h1
 refine ⟨⟨h.mem.1.moved hs (fun y ey hp o=>hc _ (fun e'=>?_) o),fun _ _ _=>Nat.zero_le _⟩,⟨hl,h.levels.room,h.levels.big,h.levels.nil,fun x e hp=>⟨Nat.lt_of_lt_of_le (h.levels.lies x e hp).1 hs,(h.levels.lies x e hp).2⟩,fun x e i hi=>?_⟩,?_⟩
 · have hl:=h.mem.1.length;have h6:=(h.mem.1.cells y ey 0 (by omega));rw [e'] at h6;exact (hX _).1 _ h6.1
 · obtain ⟨s,n,d,h1,h2⟩:=h.levels.levels x e i hi;cases e;exact ⟨s,n,d,by rw [hc _ hG];exact h1,h2.apartX hX hs hc⟩
 · have hI:=h.snaps;exact ⟨hI.length,hI.room,hI.big,hI.wfs,hI.nil,fun x e hp=>⟨Nat.lt_of_lt_of_le (hI.lies x e hp).1 hs,(hI.lies x e hp).2⟩,fun x e i hi=>by
    have h1:=hI.cells x e i hi;cases e;rw [hc _ (hg (by have:=hI.length;omega))];exact h1⟩
theorem fx (w:World) (X:Nat) (u0 u1 u2 u3:Value):∀b,b≠X→∀o,((((w.setCell ⟨X,0,none⟩ u0).setCell ⟨X,1,none⟩ u1).setCell ⟨X,2,none⟩ u2).setCell ⟨X,3,none⟩ u3).cell? ⟨b,o,none⟩=w.cell? ⟨b,o,none⟩:=fun b hb o=>by
 have h1:∀(w:World) (k:Nat) (u:Value),(w.setCell ⟨X,k,none⟩ u).cell? ⟨b,o,none⟩=w.cell? ⟨b,o,none⟩:=fun w k u=>by
  simp only [World.cell?,Below.heap_setCell w (⟨X,k,none⟩:Addr) u b hb]
 rw [h1,h1,h1,h1]
theorem jZ (w:World) (X:Nat) (u0 u1 u2 u3:Value):((((w.setCell ⟨X,0,none⟩ u0).setCell ⟨X,1,none⟩ u1).setCell ⟨X,2,none⟩ u2).setCell ⟨X,3,none⟩ u3).heap.size=w.heap.size:=by simp [World.setCell]
structure fS (base:Nat) (w:World) (g1 nm c1 G c g3 ns c3 gD nD dD:Nat) (M:List ac) (D:List ae) (S:List Int):Prop where
 mem:aE w base g1 nm c1 M
 lev:bG base w gD nD dD D
 slen:S.length=ns
 swf:∀z ∈ S,(Lit.int .i64 z).wf=true
 sn:w.ownsRow base 3 1 (sL g3 ns c3) ns (S.map iT)
 kg:∃sz,aw w G 64 sz
theorem fS.below {base:Nat} {w w':World} {g1 nm c1 G c g3 ns c3 gD nD dD:Nat} {M:List ac} {D:List ae} {S:List Int} (h:fS base w g1 nm c1 G c g3 ns c3 gD nD dD M D S) (hb:Bl w w'):fS base w' g1 nm c1 G c g3 ns c3 gD nD dD M D S:=by
 obtain ⟨sz,k⟩:=h.kg;exact ⟨h.mem.below hb,h.lev.below hb,h.slen,h.swf,de h.sn hb,sz,k.below hb⟩
theorem fS.setG {base:Nat} {w:World} {g1 nm c1 G c g3 ns c3 gD nD dD:Nat} {M:List ac} {D:List ae} {S:List Int} (h:fS base w g1 nm c1 G c g3 ns c3 gD nD dD M D S) (o:Nat) (u:Value):fS base (w.setCell ⟨G,o,none⟩ u) g1 nm c1 G c g3 ns c3 gD nD dD M D S:=by
 obtain ⟨sz,k⟩:=h.kg;have hg:=uA w G o u;have hk:∀{T size n m g c:Nat} {xs:List Value},T≠64→w.ownsRow base T size (sL g m c) n xs→(w.setCell ⟨G,o,none⟩ u).ownsRow base T size (sL g m c) n xs:=fun {T size n m g c xs} hT h3=>h3.kept hg (.inr fun e=>by
  have e':g=G:=by simpa [Value.ownBlock] using e
  obtain ⟨_,k3⟩:=cY h3;rw [e'] at k3;exact hT (k3.kind k))
 exact ⟨⟨hk (by decide) h.mem.owns,h.mem.len,h.mem.ents⟩,h.lev.grown k (by decide) (by decide) hg,h.slen,h.swf,hk (by decide) h.sn,sz,k.setCell _⟩
theorem fS.setX {base:Nat} {w:World} {g1 nm c1 G c g3 ns c3 gD nD dD X:Nat} {M:List ac} {D:List ae} {S:List Int} (h:fS base w g1 nm c1 G c g3 ns c3 gD nD dD M D S) (hX:X<base) (o:Nat) (u:Value):fS base (w.setCell ⟨X,o,none⟩ u) g1 nm c1 G c g3 ns c3 gD nD dD M D S:=by
 obtain ⟨sz,k⟩:=h.kg;have hg:=uA w X o u;have hk:∀{T size n m g c:Nat} {xs:List Value},w.ownsRow base T size (sL g m c) n xs→(w.setCell ⟨X,o,none⟩ u).ownsRow base T size (sL g m c) n xs:=fun {T size n m g c xs} h3=>h3.kept hg (.inr fun e=>by
  have e':g=X:=by simpa [Value.ownBlock] using e
  have:=(h3.lt g rfl).1;omega)
 exact ⟨⟨hk h.mem.owns,h.mem.len,h.mem.ents⟩,h.lev.low hX hg,h.slen,h.swf,hk h.sn,sz,k.setCell _⟩
theorem fS.treeIn {base:Nat} {w:World} {g1 nm c1 G c g3 ns c3 gD nD dD:Nat} {M:List ac} {D:List ae} {S:List Int} (h:fS base w g1 nm c1 G c g3 ns c3 gD nD dD M D S) {V:List (List ae)} (hV:aX 0 w (pT G) 3 c V):aM 0 w (pT g1) nm c1 (pT G) 3 c (pT g3) ns c3 M V S :=
 ⟨⟨h.mem.entsAt,fun _ _ _=>Nat.zero_le _⟩,hV,(u7 h.sn h.slen h.swf).lower (Nat.zero_le _)⟩
theorem js {w:World} {G c:Nat} {s0 s1 s2:Option Addr} {n0 d0 n1 d1 n2 d2:Nat} {A B C:List ae} (hc:3≤c) (hc2:c≤maxLen) (c0:w.cell? ⟨G,0,none⟩=some (.slice s0 n0 d0)) (c1:w.cell? ⟨G,1,none⟩=some (.slice s1 n1 d1)) (c2:w.cell? ⟨G,2,none⟩=some (.slice s2 n2 d2)) (h0:aj 0 w s0 n0 d0 A) (h1:aj 0 w s1 n1 d1 B) (h2:aj 0 w s2 n2 d2 C):aX 0 w (pT G) 3 c [A,B,C]:=by
 refine ⟨rfl,hc,hc2,(fun e=>by cases e),?_,?_⟩
 · rintro x e _;cases e;exact ⟨World.block_lt_of_cell? _ _ c0,rfl,Nat.zero_le _⟩
 · rintro x e i hi;cases e;simp only [Nat.zero_add];match i,hi with
   | 0,_=>exact ⟨_,_,_,c0,h0⟩
   | 1,_=>exact ⟨_,_,_,c1,h1⟩
   | 2,_=>exact ⟨_,_,_,c2,h2⟩
def jb (b3:Nat) (q:Int) (nm ns:Nat) (M:List ac) (V:List (List ae)) (S:List Int) (ok:Bool) (w:World) (e:Ending) (w':World):Prop :=
 ∃g1 c1 G c g3 c3,e=.returned (.tuple #[.agg #[iT q,sL g1 nm c1,sL G 3 c,sL g3 ns c3],.bool ok])∧(g3=b3∨w.heap.size≤g3)∧aM 0 w' (pT g1) nm c1 (pT G) 3 c (pT g3) ns c3 M V S∧Bl w w'
theorem gK {w w':World} {n:Nat} {B:List ae} {e:Ending} (h:ja n B w e w'):∃a c,e=.returned (.slice a n c)∧bW w' a n c (aH B)∧Bl w w':=by
 obtain ⟨v,vs,rfl,h1,h2,h3⟩:=h;obtain ⟨a,c,rfl,h4⟩:=jo h1 (h2.keep h3);exact ⟨a,c,rfl,h4,h3⟩
theorem lO (L:List ac):∀k,(dU L k).1.length≤k
 | 0=>Nat.le_refl _
 | k+1=>by
  have:=lO L k
  rw [dU]
  split
  · rw [List.length_append];simp;omega
  · omega
theorem mi:∀(B A:List ae),(dr A B).length=A.length+B.length
 | [],A=>rfl
 | r :: B,A=>by
  show (dr (mq A r) B).length=_
  rw [mi B]
  simp [mq]
  omega
end Go.Proofs.YtlmgojlffgkciaaGreat
