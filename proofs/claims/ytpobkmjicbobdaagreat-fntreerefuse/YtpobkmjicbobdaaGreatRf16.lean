/- Walks. -/
import Derived.Laws.CopyOwn
import Derived.Test.YtpobkmjicbobdaaGreatRf15
import Derived.Laws.IdiomCopy
namespace Go.Proofs.YtpobkmjicbobdaaGreat
set_option maxRecDepth 100000
set_option maxHeartbeats 40000000
open Go.RowKit
variable {K Z base c g k n:Nat} {V:List (List af)} {w w':World} {xs:List Value}
theorem iV {P:Program} {ops:Array Oper} {o:Oper} {a:Act} {K:Act→World→Prop} {Q:Exit→Act→World→Prop} {E:Prop}
 (hg:o.guard=none) (l c:Operand) (t:TypeId) (hop:o.op=Op.makeSlice t l c)
 (base:Nat) (e:TypeId) (i:TypeInfo) (z:Value) (size:Nat) (h1:P.underlying t=some (.slice e)) (h2:P.info? e=some i) (h3:i.zero=some z) (h4:i.size=size)
 (kl kc:IntKind) (L C:Int) (n:Nat) (hl:a.eval l=.int kl L) (hc:a.eval c=.int kc C) (hL:L=(n:Int)) (hC:C=(n:Int)) (b2:i.bytes*n≤281474976710656) (b3:n≤maxLen) (b4:base≤w.heap.size)
 (hK:∀w',w'.ownsRow base e size (sL (w.heap.size) n n) n (madeCells z.cells (n*size)).toList→w.grownBy w' none→K (a.put o.dst (sL (w.heap.size) n n)) w') :
 if Region.wanted o (yielded ops a.tmps)=true then Oper.wp P o a w K Q else E:=by
 have hw:Region.wanted o (yielded ops a.tmps)=true:=by simp [Region.wanted,hg]
 rw [if_pos hw];obtain ⟨w',hrun,r1,r2⟩:=run_make_full (P:=P) w base t e i z size h1 h2 h3 h4 kl kc n b2 b3 b4;subst hL;subst hC;unfold Oper.wp;simp [execOp,hop,hl,hc,hrun,Result.andThen];exact hK w' r1 r2
theorem fF {e:TypeId} (h:w.ownsRow base e K (sL g n c) k xs) (hb:Bl w w'):w'.ownsRow base e K (sL g n c) k xs :=
 h.kept (row:=none) ⟨hb.os,hb.tape,hb.output,hb.size,fun k hk _=>hb.block k hk⟩ (.inr (by simp [Value.ownBlock]))
theorem cF {e:TypeId} {P:Nat} (h:w.ownsRow base e K (sL g n c) k xs) (hne:g≠P) (o:Nat) (u:Value):(w.setCell ⟨P,o,none⟩ u).ownsRow base e K (sL g n c) k xs :=
 h.kept (row:=some P) ⟨rfl,rfl,rfl,by simp [World.setCell],fun k _ hk=>Below.heap_setCell _ _ _ _ (fun e=>hk (by rw [e]))⟩ (.inr (by simp [Value.ownBlock];exact hne))
theorem xw (lo:Nat) (w:World) (a:Option Addr):eE lo w a 0 0 []:=⟨⟨rfl,Nat.le_refl _,Nat.zero_le _,by simp,fun _=>rfl,(fun x e hp=>absurd hp (Nat.lt_irrefl _)),(fun x e i hi=>by simp at hi)⟩,(fun x e hp=>absurd hp (Nat.lt_irrefl _))⟩
def eQ (L:List ac):Prop:=∀e ∈ L,e.1.size≤281474976710656∧e.2.2.2.1.size≤281474976710656
def gN (B:List af):Prop:=∀p ∈ B,eQ p.1
theorem AV (w:World) (a0 a1 a2:Option Addr) (n0 c0 n1 c1 n2 c2:Nat):(Instr.index 80 (.agg #[.slice a0 n0 c0,.slice a1 n1 c1,.slice a2 n2 c2]) (iT 0)).run Tryz.prog w=.ok (.slice a0 n0 c0) w:=by
 simp [Instr.index,run_underlying Tryz.underlying80,asIntOf,go_sem,Tryz.isAgg61,Tryz.sizeOf61,part]
theorem AU (w:World) (a0 a1 a2:Option Addr) (n0 c0 n1 c1 n2 c2:Nat):(Instr.index 80 (.agg #[.slice a0 n0 c0,.slice a1 n1 c1,.slice a2 n2 c2]) (iT 1)).run Tryz.prog w=.ok (.slice a1 n1 c1) w:=by
 simp [Instr.index,run_underlying Tryz.underlying80,asIntOf,go_sem,Tryz.isAgg61,Tryz.sizeOf61,part]
theorem AT (w:World) (a0 a1 a2:Option Addr) (n0 c0 n1 c1 n2 c2:Nat):(Instr.index 80 (.agg #[.slice a0 n0 c0,.slice a1 n1 c1,.slice a2 n2 c2]) (iT 2)).run Tryz.prog w=.ok (.slice a2 n2 c2) w:=by
 simp [Instr.index,run_underlying Tryz.underlying80,asIntOf,go_sem,Tryz.isAgg61,Tryz.sizeOf61,part]
def xO (Z:Nat) (w:World) (xs:List Value) (V:List (List af)) (k:Nat):Prop:=∀j,j<k→∃(b n:Nat) (B:List af),V[j]?=some B∧xs[j]?=some (sL b n n)∧ax Z w (pT b) n n B
theorem xO.same (h:xO Z w xs V k) (hs:d9 Z w w'):xO Z w' xs V k:=fun j hj=>by
 obtain ⟨b,n,B,h1,h2,h3⟩:=h j hj
 exact ⟨b,n,B,h1,h2,h3.same hs⟩
theorem sT {lo:Nat} {vb:Nat} (h:w.ownsRow base 61 1 (sL vb 3 3) 3 xs) (hb:lo≤vb) (hZ:lo≤Z) (hV:V.length=3) (h0:xO Z w xs V 3):b6 lo w (pT vb) 3 3 V:=by
 have hlt:=(h.lt vb rfl).2;refine ⟨hV,Nat.le_refl _,by unfold maxLen;omega,(fun e=>by cases e),(fun x e _=>by cases e;exact ⟨hlt,rfl,hb⟩),?_⟩;rintro x e i hi;cases e;obtain ⟨b,n,B,h1,h2,h3⟩:=h0 i (by omega);rw [List.getElem?_eq_getElem hi] at h1;cases h1;exact ⟨some ⟨b,0,none⟩,n,n,by simp only [Nat.zero_add];exact (h.cellAt i (by omega)).trans h2,h3.mono hZ⟩
theorem eu {R:World→Prop} {b:Nat} (s5:∀w o u,R w→R (w.setCell ⟨b,o,none⟩ u)):∀(cs:List Value) (o:Nat) (w:World),R w→R (w.setCells b o cs)
 | [],_,_,h=>h
 | c :: cs,o,w,h=>eu s5 cs (o+1) (w.setCell ⟨b,o,none⟩ c) (s5 w o c h)
theorem ph (lo:Nat) (a:Option Addr) (len cap:Nat) (B:List af) (w:World) (hP:ax lo w a len cap B) (hS:jf B) (hE:gN B) :
 Calls Tryz.prog 150 #[.slice a len cap] w fun e w'=>e=.returned (.slice (some ⟨w.heap.size,0,none⟩) len len)∧(∃es,dW w.heap.size w'.heap.size w' w.heap.size len B es)∧w.heap.size<w'.heap.size∧Below w.heap.size w w':=by
 have HLEN:Hid (B.length=len):=hP.length;have HWF:Hid (∀p ∈ B,(Lit.int .i64 p.2).wf=true):=hP.wfs;have hbig:len≤1048576:=by have:=hP.length;have:=hS.1;omega
 have HSM:Hid _:=hS;have HSE:Hid _:=hE;have HL:Hid _:=hP;clear hP hS hE;obtain ⟨i0,hi,hz0,hz1,hz2⟩:=info_parts Tryz.infoRun;go_enter Tryz.func150,Tryz.ntmps150
 go_wp2_with (at_make;refine wpList_make_full _ rfl _ _ 61 rfl w.heap.size 63 i0 _ 2 Tryz.underlying61 hi hz0 hz1 .i64 .i64 _ _ len rfl rfl (by simp) (by simp) (by rw [hz2];omega) (by unfold maxLen;omega) (Nat.le_refl _) ?_;intro w1 hown hgrow)
 have hb1:Below w.heap.size w w1:=(Below.refl _ _).grown hgrow (Nat.le_refl _) (by simp);have hsz1:w.heap.size<w1.heap.size:=(hown.lt _ rfl).2;obtain ⟨G,hG⟩:∃G,w.heap.size=G:=⟨_,rfl⟩;rw [hG] at hown hsz1 ⊢;have HG0:Hid (w.heap.size=G):=hG;have HBW:Hid (Below G w w1):=by show Below G w w1;rw [← hG];exact hb1
 clear hG hb1 hgrow;go_loopw [11] (fun i wr=>∃(k:Nat) (xs:List Value) (es:Nat→Nat),k≤len∧i=.int .i64 k∧wr.ownsRow G 63 2 (.slice (some ⟨G,0,none⟩) len len) len xs∧Below G w wr∧(∀(j:Nat) (p:af),j<k→B[j]?=some p→xs[j*2]?=some (.slice (some ⟨es j,0,none⟩) p.1.length p.1.length)∧xs[j*2+1]?=some (.int .i64 p.2)∧ar wr (G+1) (es j) p.1.length p.1.length p.1)∧(∀i j,i<j→j<k→es i<es j)∧(∀i,i<k→es i<wr.heap.size)) (fun i _=>len - (intOf i).toNat)
 case atStart=>exact ⟨0,_,fun _=>0,Nat.zero_le _,rfl,hown,HBW.out,(fun j l h=>absurd h (Nat.not_lt_zero _)),(fun i j _ h=>absurd h (Nat.not_lt_zero _)),(fun i h=>absurd h (Nat.not_lt_zero _))⟩
 case round =>
  obtain ⟨k,xs,es,hk,rfl,ho,hb,hrow,hup,htop⟩:=hrel;have HROW:Hid (∀(j:Nat) (p:af),j<k→B[j]?=some p→xs[j*2]?=some (.slice (some ⟨es j,0,none⟩) p.1.length p.1.length)∧xs[j*2+1]?=some (.int .i64 p.2)∧ar wr (G+1) (es j) p.1.length p.1.length p.1):=hrow;have HUP:Hid (∀i j,i<j→j<k→es i<es j):=hup;have HTOP:Hid (∀i,i<k→es i<wr.heap.size):=htop;clear hrow hown hup htop;have hzr:G<wr.heap.size:=(ho.lt _ rfl).2;have hbw:Below w.heap.size w wr:=by rw [HG0.out];exact hb
  have HB:Hid (Below G w wr):=hb;clear hb;by_cases hlt:k<len
  · have hltI:(k:Int)<(len:Int):=by omega
    obtain ⟨b,off,rfl,hbb⟩:=HL.out.form (by omega);obtain ⟨L,m,s,n,c,hg,_,g0,g1,hLk⟩:=HL.out.run hbw k hlt;have hn:n≤1048576:=by
     have:=HSM.out.2 _ (List.mem_of_getElem? hg);have:=hLk.1.length;simp only at *;omega
    have HSL:Hid (eQ L):=HSE.out _ (List.mem_of_getElem? hg);have HG:Hid (B[k]?=some (L,m)):=hg;have HBN:Hid (L.length=n):=hLk.1.length;have hbk:b<wr.heap.size:=Nat.lt_of_lt_of_le hbb hbw.size;have HLK:Hid (ah wr s n c L):=hLk.1;have HX:Hid (xs.length=len*2):=ho.1;have HO:Hid (wr.ownsRow G 63 2 (.slice (some ⟨G,0,none⟩) len len) len xs):=ho;clear hg hLk ho hbw;go_upto_region 5 with fail
    obtain ⟨X,hX⟩:∃X,wr.heap.size=X:=⟨_,rfl⟩;obtain ⟨W,hW⟩:=aI (wr.alloc (.cells #[.slice s n c,.int .i64 m] 63));have kW:Below wr.heap.size wr W:=by rw [hW];exact (Below.refl _ _).alloc (Nat.le_refl _) _
    have x0:W.cell? ⟨X,0,none⟩=some (.slice s n c):=by rw [hW,← hX];simp
    have x1:W.cell? ⟨X,1,none⟩=some (.int .i64 m):=by rw [hW,← hX];simp
    have xz:X<W.heap.size:=World.block_lt_of_cell? _ _ x0;have HKW:Hid (Below wr.heap.size wr W):=kW;rw [← hW,hX];clear hW kW hX;have HOW:Hid (W.ownsRow G 63 2 (.slice (some ⟨G,0,none⟩) len len) len xs):=HO.out.kept (row:=none) (aF HKW.out) (.inr (by simp [Value.ownBlock]));have hzW:G<W.heap.size:=Nat.lt_of_lt_of_le hzr HKW.out.size;go_region_with (go_at_call 149;refine (jX s n c L _ ((HLK.out.keep HKW.out).keep ((Below.refl _ W).drew)) hn HSL.out).mono ?_;rintro e w2 ⟨rfl,hown2,hsz2,hb2⟩;have k2:Below W.heap.size W w2:=((Below.refl _ W).drew).trans hb2;have x1':=cell_later k2 x1;have xz':=Nat.lt_of_lt_of_le xz k2.size;have ho2:w2.ownsRow G 63 2 (.slice (some ⟨G,0,none⟩) len len) len xs:=HOW.out.kept (row:=none) (aF k2) (.inr (by simp [Value.ownBlock]));obtain ⟨v0,c0⟩:∃v,w2.cell? ⟨G,k*2,none⟩=some v:=⟨_,(ho2.cellAt _ (by omega)).trans (List.getElem?_eq_getElem (by rw [HX.out];omega))⟩;obtain ⟨v1,c1⟩:∃v,w2.cell? ⟨G,k*2+1,none⟩=some v:=⟨_,(ho2.cellAt _ (by omega)).trans (List.getElem?_eq_getElem (by rw [HX.out];omega))⟩;have f0:w2.frozen? ⟨G,k*2,none⟩=false:=ho2.frozenAt _;have f1:w2.frozen? ⟨G,k*2+1,none⟩=false:=ho2.frozenAt _;have zG:=Nat.lt_of_lt_of_le hzW k2.size)
    all_goals
     have HE2:Hid (ar w2 (G+1) W.heap.size n n L):=hown2.mono hzW;have HZ2:Hid (W.heap.size<w2.heap.size∧wr.heap.size≤W.heap.size):=⟨hsz2,HKW.out.size⟩;have HO2:Hid (w2.ownsRow G 63 2 (.slice (some ⟨G,0,none⟩) len len) len xs):=ho2;have K2:Hid (Below wr.heap.size wr w2):=HKW.out.trans (k2.mono HKW.out.size);clear hown2 hsz2 hb2 k2 ho2 c0 c1 f0 f1 HOW HKW x0 x1 xz;go_wp2;go_roundw
     case rel =>
      have t0:=HO2.out.stored (k*2) (.slice (some ⟨W.heap.size,0,none⟩) n n);have t1:=t0.1.stored (k*2+1) (.int .i64 m);have hgr:=t0.2.trans t1.2;have hz:=HZ2.out;have hss:=hgr.size;refine ⟨k+1,_,fun i=>if i=k then W.heap.size else es i,by omega,by go_num,t1.1,?_,?_,?_,?_⟩
      · exact ((HB.out.trans (K2.out.mono (by omega))).setCell (p:=⟨G,_,none⟩) (Nat.le_refl _) _).setCell (p:=⟨G,_,none⟩) (Nat.le_refl _) _
      · intro j p hj hp;by_cases hjk:j=k
        · subst hjk;rw [HG.out] at hp;cases hp;simp only [if_true,HBN.out];refine ⟨?_,?_,HE2.out.grown hgr (fun e=>?_)⟩
          · rw [List.getElem?_set_ne (by omega),List.getElem?_set_self (by rw [HX.out];omega)]
          · rw [List.getElem?_set_self (by rw [List.length_set,HX.out];omega)]
          · have h1:W.heap.size=G:=Option.some.inj e;omega
        · obtain ⟨h1,h2,h3⟩:=HROW.out j p (by omega) hp;simp only [if_neg hjk];refine ⟨?_,?_,(h3.below K2.out).grown hgr (fun e=>?_)⟩
          · rw [List.getElem?_set_ne (by omega),List.getElem?_set_ne (by omega)];exact h1
          · rw [List.getElem?_set_ne (by omega),List.getElem?_set_ne (by omega)];exact h2
          · have h4:es j=G:=Option.some.inj e;have h5:=h3.lt.1;omega
      · intro i j hij hj;simp only;by_cases hjk:j=k
        · rw [if_pos hjk,if_neg (by omega)];have:=HTOP.out i (by omega);omega
        · rw [if_neg hjk,if_neg (by omega)];exact HUP.out i j hij (by omega)
      · intro i hi';simp only;by_cases hik:i=k
        · rw [if_pos hik];omega
        · rw [if_neg hik];have:=HTOP.out i (by omega);have:=K2.out.size;omega
     case measure=>simp [intOf];omega
  · go_wp2;go_ret;rw [HG0.out];have hlt:∀{i:Nat} {p:af},B[i]?=some p→i<k:=fun hp=>by have:=(List.getElem?_eq_some_iff.1 hp).1;rw [HLEN.out] at this;omega
    have hkl:k=len:=by omega
    have hup:=HUP.out;have htop:=HTOP.out;rw [hkl] at hup htop;exact ⟨rfl,⟨es,⟨HLEN.out,⟨xs,ho,fun i p hp=>⟨(HROW.out i p (hlt hp) hp).1,(HROW.out i p (hlt hp) hp).2.1⟩⟩,fun i p hp=>(HROW.out i p (hlt hp) hp).2.2.mono (by omega),hup,⟨hzr,htop⟩,HWF.out⟩⟩,hzr,HB.out⟩
end Go.Proofs.YtpobkmjicbobdaaGreat
