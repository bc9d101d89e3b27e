/-
  A tree in memory of a call's own, every list in a block of its own; the laws' marks on it, and the marks found again; by walks of their Go text.
-/
import Derived.Test.YtlmgojlffgkciaaGreatTc22
import Derived.Deep.LoopGhost
import Derived.Deep.DeepCutAuto
import Derived.Laws.CopyOwn
import Derived.Test.YtlmgojlffgkciaaGreatTc18
import Derived.Test.YtlmgojlffgkciaaGreatTc15
import Derived.Test.YtlmgojlffgkciaaGreatTc02
import Derived.Test.YtlmgojlffgkciaaGreatTc09
import Derived.Deep.RegionWith
import Derived.Test.YtlmgojlffgkciaaGreatTc16
import Derived.Test.YtlmgojlffgkciaaGreatTc01
import Derived.Laws.IdiomCopy
namespace Go.Proofs.YtlmgojlffgkciaaGreat
open Go.RowKit
set_option maxRecDepth 100000
set_option maxHeartbeats 2000000
structure dP (lo hi:Nat) (w:World) (b1 nm b2 nv b3 ns:Nat) (M:List ac) (V:List (List ae)) (S:List Int) (gs bs:Nat→Nat) (es:Nat→Nat→Nat):Prop where
 mem:aE w lo b1 nm nm M
 levs:dQ lo hi w b2 nv V gs bs es
 sn:fT lo w b3 ns S
 ahead:b1<bs 0∧b3<bs 0
theorem fT.grown {lo g n:Nat} {w w':World} {S:List Int} {row:Option Nat} (h:fT lo w g n S) (hg:w.grownBy w' row) (hne:some g≠row):fT lo w' g n S:=⟨h.1,h.2.kept hg (.inr (by simpa [Value.ownBlock] using hne))⟩
theorem fT.keepO {lo lo' hi' g n:Nat} {w w':World} {S:List Int} (h:fT lo w g n S) (k:bu lo' hi' w w') (hg:g<lo'∨hi'≤g):fT lo w' g n S:=⟨h.1,k.row h.2 hg⟩
theorem dP.below {lo hi b1 nm b2 nv b3 ns:Nat} {w w':World} {M:List ac} {V:List (List ae)} {S:List Int} {gs bs:Nat→Nat} {es:Nat→Nat→Nat} (h:dP lo hi w b1 nm b2 nv b3 ns M V S gs bs es) (hb:Bl w w'):dP lo hi w' b1 nm b2 nv b3 ns M V S gs bs es :=
 ⟨h.mem.below hb,h.levs.below hb,h.sn.grown (row:=none) ⟨hb.os,hb.tape,hb.output,hb.size,fun k hk _=>hb.block k hk⟩ (by simp),h.ahead⟩
theorem dP.keepO {lo hi lo' hi' b1 nm b2 nv b3 ns:Nat} {w w':World} {M:List ac} {V:List (List ae)} {S:List Int} {gs bs:Nat→Nat} {es:Nat→Nat→Nat} (h:dP lo hi w b1 nm b2 nv b3 ns M V S gs bs es) (k:bu lo' hi' w w') (hd:hi'≤lo):dP lo hi w' b1 nm b2 nv b3 ns M V S gs bs es:=by
 obtain ⟨xs,h1,_⟩:=h.levs.row;have g2:=(h1.lt b2 rfl).1;have g1:=h.mem.lt.1;have g3:=(h.sn.2.lt b3 rfl).1;have g0:=h.levs.bot.1;exact ⟨k.own h.mem (by omega),h.levs.keepO k (by omega) (by omega),h.sn.keepO k (by omega),h.ahead⟩
theorem dP.apart {lo hi b1 nm b2 nv b3 ns:Nat} {w:World} {M:List ac} {V:List (List ae)} {S:List Int} {gs bs:Nat→Nat} {es:Nat→Nat→Nat} (h:dP lo hi w b1 nm b2 nv b3 ns M V S gs bs es):b1≠b2∧b1≠b3∧b2≠b3:=by
 obtain ⟨xs,h1,_⟩:=h.levs.row;have k1:=cj h.mem.owns;have k2:=cj h1;have k3:=cj h.sn.2;refine ⟨fun e=>?_,fun e=>?_,fun e=>?_⟩ <;> subst e
 · exact absurd (k1.kind k2) (by decide)
 · exact absurd (k1.kind k3) (by decide)
 · exact absurd (k2.kind k3) (by decide)
theorem dP.tops {lo hi b1 nm b2 nv b3 ns:Nat} {w:World} {M:List ac} {V:List (List ae)} {S:List Int} {gs bs:Nat→Nat} {es:Nat→Nat→Nat} (h:dP lo hi w b1 nm b2 nv b3 ns M V S gs bs es):(lo≤b1∧b1<hi)∧(lo≤b2∧b2<hi)∧(lo≤b3∧b3<hi)∧lo≤bs 0∧bs nv≤hi∧bs 0≤bs nv:=by
 obtain ⟨xs,h1,_⟩:=h.levs.row;have g1:=h.mem.lt.1;have g2:=(h1.lt b2 rfl).1;have g3:=(h.sn.2.lt b3 rfl).1;have u:=h.levs.up 0 nv (by omega) (by omega);have t:=h.levs.top;have bt:=h.levs.bot;have a:=h.ahead;omega
theorem dQ.grown {lo hi g G n:Nat} {w w':World} {V:List (List ae)} {gs bs:Nat→Nat} {es:Nat→Nat→Nat} (h:dQ lo hi w G n V gs bs es) (hg:w.grownBy w' (some g)) (hne:G≠g) (hl:g<bs 0):dQ lo hi w' G n V gs bs es:=by
 refine h.keepO (lo':=g) (hi':=g+1) ⟨hg.os,hg.tape,hg.output,hg.size,fun q hq ho=>hg.block q hq (fun e=>by have:=Option.some.inj e;omega)⟩ (by omega) (by omega)
theorem ik {lo hi:Nat} {w w':World} (h:bu lo hi w w') {b o:Nat} {v:Value} (hb:b<lo∨hi≤b) (hc:w.cell? ⟨b,o,none⟩=some v):w'.cell? ⟨b,o,none⟩=some v :=
 (World.cell?_of_block (h.block b (World.block_lt_of_cell? _ _ hc) hb)).trans hc
theorem uQ (q:Int) (lo hi b1 nm b2 nv b3 ns k:Nat) (M:List ac) (V:List (List ae)) (S:List Int) (gs bs:Nat→Nat) (es:Nat→Nat→Nat) (w:World) (hT:dP lo hi w b1 nm b2 nv b3 ns M V S gs bs es) (hhi:hi≤w.heap.size) (h1:nm≤1048576) (h0:nv≤1048576) (h2:∀B ∈ V,B.length≤1048576∧∀p ∈ B,p.1.length≤1048576) (h3:ns≤1048576) (hk:1≤k) (hn:k+5*nm+eP V+ns≤1000000000) :
 Calls Tryz.prog 15 #[.agg #[iT q,sL b1 nm nm,sL b2 nv nv,sL b3 ns ns],iT k] w fun e w'=>e=.returned (iT ((k+5*nm+eP V+ns:Nat):Int))∧dP lo hi w' b1 nm b2 nv b3 ns (dO k nm) (gS (k+5*nm) V) (jq (k+5*nm+eP V) ns) gs bs es∧bu lo hi w w':=by
 have hz:=hT.tops;have hap:=hT.apart;have hah:=hT.ahead;obtain ⟨Y,hY⟩:=ay w.heap.size;obtain ⟨W,hW⟩:=ay (w.alloc (.cells #[iT q,sL b1 nm nm,sL b2 nv nv,sL b3 ns ns] 31));have kW:Bl w W:=by rw [hW];exact bZ
 have x2:W.cell? ⟨Y,2,none⟩=some (sL b2 nv nv):=by rw [hW,hY];simp
 have x3:W.cell? ⟨Y,3,none⟩=some (sL b3 ns ns):=by rw [hW,hY];simp
 have HT:Hid (dP lo hi W b1 nm b2 nv b3 ns M V S gs bs es):=hT.below kW;have K0:Hid (bu lo hi w W):=bu.of_below kW;have HYH:Hid (hi≤Y):=by rw [hY];exact hhi
 have HZ:Hid ((lo≤b1∧b1<hi)∧(lo≤b2∧b2<hi)∧(lo≤b3∧b3<hi)∧lo≤bs 0∧bs nv≤hi∧bs 0≤bs nv):=hz;have HAP:Hid (b1≠b2∧b1≠b3∧b2≠b3):=hap;have HAH:Hid (b1<bs 0∧b3<bs 0):=hah;have hn1:k+5*nm≤1000000000:=by omega
 obtain ⟨K1,hK1⟩:∃K1:Nat,K1=k+5*nm:=⟨_,rfl⟩;obtain ⟨K2,hK2⟩:∃K2:Nat,K2=K1+eP V:=⟨_,rfl⟩;obtain ⟨K3,hK3⟩:∃K3:Nat,K3=K2+ns:=⟨_,rfl⟩;have CE:Hid (∀w',aE w' lo b1 nm nm M→Calls Tryz.prog 27 #[sL b1 nm nm,iT k] w' fun e w''=>e=.returned (iT (K1:Int))∧aE w'' lo b1 nm nm (dO k nm)∧w'.grownBy w'' (some b1)):=by
  rw [hK1];exact fun w' h=>qh lo b1 nm nm k M w' h hk hn1
 have CL:Hid (∀w',dQ lo hi w' b2 nv V gs bs es→Calls Tryz.prog 46 #[sL b2 nv nv,iT (K1:Int)] w' fun e w''=>e=.returned (iT (K2:Int))∧dQ lo hi w'' b2 nv (gS K1 V) gs bs es∧bu (bs 0) (bs nv) w' w''):=by
  rw [hK2];exact fun w' h=>uS lo hi b2 nv K1 V gs bs es w' h h0 h2 (by omega) (by omega)
 have CI:Hid (∀w',fT lo w' b3 ns S→Calls Tryz.prog 47 #[sL b3 ns ns,iT (K2:Int)] w' fun e w''=>e=.returned (iT (K3:Int))∧fT lo w'' b3 ns (jq K2 ns)∧w'.grownBy w'' (some b3)):=by
  rw [hK3];exact fun w' h=>uT lo b3 ns K2 S w' h (by omega)
 rw [← hK1,← hK2,← hK3];clear hT kW hhi hz hap hah hK1 hK2 hK3 hn hn1 h2;go_enter Tryz.func15,Tryz.ntmps15
 go_wp2_with fail
 rw [← hW];try rw [← hY]
 clear hW hY;refine (CE.out _ HT.out.mem).mono ?_;rintro e w1 ⟨rfl,hO1,hg1⟩;have hz:=HZ.out;have hap:=HAP.out;have hah:=HAH.out;have hyh:=HYH.out;have x2:=hg1.cell x2 (fun e=>by have h4:Y=b1:=Option.some.inj e;omega);have x3:=hg1.cell x3 (fun e=>by have h4:Y=b1:=Option.some.inj e;omega);have HO1:Hid (aE w1 lo b1 nm nm (dO k nm)):=hO1;have HL1:Hid (dQ lo hi w1 b2 nv V gs bs es):=HT.out.levs.grown hg1 (by omega) (by omega);have HS1:Hid (fT lo w1 b3 ns S):=HT.out.sn.grown hg1 (fun e=>by have h4:b3=b1:=Option.some.inj e;omega);have M1:Hid (bu lo hi w w1):=K0.out.grown hg1 (by omega) (by omega);have z1:=World.block_lt_of_cell? _ _ x2;simp only at z1;clear hg1 hO1 hz hap hah hyh HT;go_wp2_with fail
 refine (CL.out _ HL1.out).mono ?_;rintro e w2 ⟨rfl,hL2,hk2⟩;have hz:=HZ.out;have hah:=HAH.out;have hyh:=HYH.out;have x3:=ik hk2 (.inr (by omega)) x3;have HL2:Hid (dQ lo hi w2 b2 nv (gS K1 V) gs bs es):=hL2;have HO2:Hid (aE w2 lo b1 nm nm (dO k nm)):=hk2.own HO1.out (by omega);have HS2:Hid (fT lo w2 b3 ns S):=HS1.out.keepO hk2 (by omega);have M2:Hid (bu lo hi w w2):=M1.out.trans (hk2.mono (by omega) (by omega));have z1:=World.block_lt_of_cell? _ _ x3;simp only at z1;clear hL2 hk2 x2 HO1 HS1 HL1 hz hah hyh;go_wp2_with fail
 refine (CI.out _ HS2.out).mono ?_;rintro e w3 ⟨rfl,hS3,hg3⟩;have hz:=HZ.out;have hap:=HAP.out;have hah:=HAH.out;have HT3:Hid (dP lo hi w3 b1 nm b2 nv b3 ns (dO k nm) (gS K1 V) (jq K2 ns) gs bs es):=⟨HO2.out.grown hg3 (fun e=>by have h4:b1=b3:=Option.some.inj e;omega),HL2.out.grown hg3 (by omega) (by omega),hS3,hah⟩;have M3:Hid (bu lo hi w w3):=M2.out.grown hg3 (by omega) (by omega);clear hg3 hS3 hz hap hah x3 HO2 HL2 HS2;go_wp2;go_ret;exact ⟨rfl,HT3.out,M3.out⟩
theorem vj (q:Int) (lo hi b1 nm b2 nv b3 ns k:Nat) (V:List (List ae)) (gs bs:Nat→Nat) (es:Nat→Nat→Nat) (w:World) (hT:dP lo hi w b1 nm b2 nv b3 ns (dO k nm) (gS (k+5*nm) V) (jq (k+5*nm+eP V) ns) gs bs es) (h1:nm≤1048576) (h0:nv≤1048576) (h2:∀B ∈ V,B.length≤1048576∧∀p ∈ B,p.1.length≤1048576) (h3:ns≤1048576) (hk:1≤k) (hn:k+5*nm+eP V+ns≤1000000000) :
 Calls Tryz.prog 16 #[.agg #[iT q,sL b1 nm nm,sL b2 nv nv,sL b3 ns ns],iT k] w fun e w'=>e=.returned (iT ((k+5*nm+eP V+ns:Nat):Int))∧Bl w w':=by
 obtain ⟨Y,hY⟩:=ay w.heap.size;obtain ⟨W,hW⟩:=ay (w.alloc (.cells #[iT q,sL b1 nm nm,sL b2 nv nv,sL b3 ns ns] 31));have kW:Bl w W:=by rw [hW];exact bZ
 have x2:W.cell? ⟨Y,2,none⟩=some (sL b2 nv nv):=by rw [hW,hY];simp
 have x3:W.cell? ⟨Y,3,none⟩=some (sL b3 ns ns):=by rw [hW,hY];simp
 have K0:Hid (Bl w W):=kW;have hn1:k+5*nm≤1000000000:=by omega
 obtain ⟨K1,hK1⟩:∃K1:Nat,K1=k+5*nm:=⟨_,rfl⟩;obtain ⟨K2,hK2⟩:∃K2:Nat,K2=K1+eP V:=⟨_,rfl⟩;obtain ⟨K3,hK3⟩:∃K3:Nat,K3=K2+ns:=⟨_,rfl⟩;have CE:Hid (∀w',aE w' lo b1 nm nm (dO k nm)→Calls Tryz.prog 34 #[sL b1 nm nm,iT k] w' fun e w''=>e=.returned (iT (K1:Int))∧Bl w' w''):=by
  rw [hK1];exact fun w' h=>qw b1 nm nm k w' h.entsAt hk hn1
 have CL:Hid (∀w',dQ lo hi w' b2 nv (gS K1 V) gs bs es→Calls Tryz.prog 48 #[sL b2 nv nv,iT (K1:Int)] w' fun e w''=>e=.returned (iT (K2:Int))∧Bl w' w''):=by
  rw [hK2];exact fun w' h=>vl lo hi b2 nv K1 V gs bs es w' h h0 h2 (by omega) (by omega)
 have CI:Hid (∀w',fT lo w' b3 ns (jq K2 ns)→Calls Tryz.prog 49 #[sL b3 ns ns,iT (K2:Int)] w' fun e w''=>e=.returned (iT (K3:Int))∧Bl w' w''):=by
  rw [hK3];exact fun w' h=>vm lo b3 ns K2 w' h (by omega)
 rw [← hK1,← hK2] at hT;rw [← hK1,← hK2,← hK3];have HT:Hid (dP lo hi w b1 nm b2 nv b3 ns (dO k nm) (gS K1 V) (jq K2 ns) gs bs es):=hT;have hn3:¬(K3:Int)<0:=by omega
 have hn2:¬(K2:Int)<0:=by omega
 have hn4:¬(K1:Int)<0:=by omega
 clear hT kW hK1 hK2 hK3 hn hn1 h2;go_enter Tryz.func16,Tryz.ntmps16
 go_wp2_with fail
 rw [← hW];try rw [← hY]
 clear hW hY;refine (CE.out _ (HT.out.below K0.out).mem).mono ?_;rintro e w1 ⟨rfl,hb1⟩;have x2:=cell_later hb1 x2;have x3:=cell_later hb1 x3;have K1':Hid (Bl w w1):=K0.out.trans (hb1.mono K0.out.size);have z1:=World.block_lt_of_cell? _ _ x2;simp only at z1;clear hb1;go_wp2_with fail
 refine (CL.out _ (HT.out.below K1'.out).levs).mono ?_;rintro e w2 ⟨rfl,hb2⟩;have x3:=cell_later hb2 x3;have K2':Hid (Bl w w2):=K1'.out.trans (hb2.mono K1'.out.size);have z1:=World.block_lt_of_cell? _ _ x3;simp only at z1;clear hb2 x2;go_wp2_with fail
 refine (CI.out _ (HT.out.below K2'.out).sn).mono ?_;rintro e w3 ⟨rfl,hb3⟩;have K3':Hid (Bl w w3):=K2'.out.trans (hb3.mono K2'.out.size);clear hb3 x3;go_wp2;go_ret;exact ⟨rfl,K3'.out⟩
end Go.Proofs.YtlmgojlffgkciaaGreat

namespace Go.Proofs.YtlmgojlffgkciaaGreat
open Go.RowKit
theorem jm {P:Program} {ops:Array Oper} {o:Oper} {a:Act} {w:World} {K:Act→World→Prop} {Q:Exit→Act→World→Prop} {E:Prop}
 (hg:o.guard=none) (l c:Operand) (t:TypeId) (hop:o.op=Op.makeSlice t l c)
 (base:Nat) (e:TypeId) (i:TypeInfo) (z:Value) (size:Nat) (h1:P.underlying t=some (.slice e)) (h2:P.info? e=some i) (h3:i.zero=some z) (h4:i.size=size)
 (kl kc:IntKind) (L C:Int) (n:Nat) (hl:a.eval l=.int kl L) (hc:a.eval c=.int kc C) (hL:L=(n:Int)) (hC:C=(n:Int)) (b2:i.bytes*n≤281474976710656) (b3:n≤maxLen) (b4:base≤w.heap.size)
 (hK:∀w',w'.ownsRow base e size (sL (w.heap.size) n n) n (madeCells z.cells (n*size)).toList→w.grownBy w' none→K (a.put o.dst (sL (w.heap.size) n n)) w') :
 if Region.wanted o (yielded ops a.tmps)=true then Oper.wp P o a w K Q else E:=by
 have hw:Region.wanted o (yielded ops a.tmps)=true:=by simp [Region.wanted,hg]
 rw [if_pos hw];obtain ⟨w',hrun,r1,r2⟩:=run_make_full (P:=P) w base t e i z size h1 h2 h3 h4 kl kc n b2 b3 b4;subst hL;subst hC;unfold Oper.wp;simp [execOp,hop,hl,hc,hrun,Result.andThen];exact hK w' r1 r2
theorem fN {w w':World} {base:Nat} {e:TypeId} {K g n c k:Nat} {xs:List Value} (h:w.ownsRow base e K (sL g n c) k xs) (hb:Bl w w'):w'.ownsRow base e K (sL g n c) k xs :=
 h.kept (row:=none) ⟨hb.os,hb.tape,hb.output,hb.size,fun k hk _=>hb.block k hk⟩ (.inr (by simp [Value.ownBlock]))
theorem cn {w:World} {base:Nat} {e:TypeId} {K g n c k P:Nat} {xs:List Value} (h:w.ownsRow base e K (sL g n c) k xs) (hne:g≠P) (o:Nat) (u:Value):(w.setCell ⟨P,o,none⟩ u).ownsRow base e K (sL g n c) k xs :=
 h.kept (row:=some P) ⟨rfl,rfl,rfl,by simp [World.setCell],fun k _ hk=>Below.heap_setCell _ _ _ _ (fun e=>hk (by rw [e]))⟩ (.inr (by simp [Value.ownBlock];exact hne))
end Go.Proofs.YtlmgojlffgkciaaGreat

namespace Go.Proofs.YtlmgojlffgkciaaGreat
open Go.RowKit
def mD (L:List ac):Prop:=∀e ∈ L,e.1.size≤281474976710656∧e.2.2.2.1.size≤281474976710656
def iZ (B:List ae):Prop:=∀p ∈ B,mD p.1
end Go.Proofs.YtlmgojlffgkciaaGreat

namespace Go.Proofs.YtlmgojlffgkciaaGreat
open Go.RowKit
theorem BC (w:World) (a0 a1 a2:Option Addr) (n0 c0 n1 c1 n2 c2:Nat):(Instr.index 65 (.agg #[.slice a0 n0 c0,.slice a1 n1 c1,.slice a2 n2 c2]) (iT 0)).run Tryz.prog w=.ok (.slice a0 n0 c0) w:=by
 simp [Instr.index,run_underlying Tryz.underlying65,asIntOf,go_sem,Tryz.isAgg64,Tryz.sizeOf64,part]
theorem BA (w:World) (a0 a1 a2:Option Addr) (n0 c0 n1 c1 n2 c2:Nat):(Instr.index 65 (.agg #[.slice a0 n0 c0,.slice a1 n1 c1,.slice a2 n2 c2]) (iT 1)).run Tryz.prog w=.ok (.slice a1 n1 c1) w:=by
 simp [Instr.index,run_underlying Tryz.underlying65,asIntOf,go_sem,Tryz.isAgg64,Tryz.sizeOf64,part]
theorem Bz (w:World) (a0 a1 a2:Option Addr) (n0 c0 n1 c1 n2 c2:Nat):(Instr.index 65 (.agg #[.slice a0 n0 c0,.slice a1 n1 c1,.slice a2 n2 c2]) (iT 2)).run Tryz.prog w=.ok (.slice a2 n2 c2) w:=by
 simp [Instr.index,run_underlying Tryz.underlying65,asIntOf,go_sem,Tryz.isAgg64,Tryz.sizeOf64,part]
end Go.Proofs.YtlmgojlffgkciaaGreat

namespace Go.Proofs.YtlmgojlffgkciaaGreat
open Go.RowKit
def yA (Z:Nat) (w:World) (xs:List Value) (V:List (List ae)) (k:Nat):Prop:=∀j,j<k→∃(b n:Nat) (B:List ae),V[j]?=some B∧xs[j]?=some (sL b n n)∧aj Z w (pT b) n n B
theorem yA.same {Z:Nat} {w w':World} {xs:List Value} {V:List (List ae)} {k:Nat} (h:yA Z w xs V k) (hs:bz Z w w'):yA Z w' xs V k:=fun j hj=>by
 obtain ⟨b,n,B,h1,h2,h3⟩:=h j hj
 exact ⟨b,n,B,h1,h2,h3.same hs⟩
theorem tm {lo Z base:Nat} {w:World} {vb:Nat} {xs:List Value} {V:List (List ae)} (h:w.ownsRow base 64 1 (sL vb 3 3) 3 xs) (hb:lo≤vb) (hZ:lo≤Z) (hV:V.length=3) (h0:yA Z w xs V 3):aX lo w (pT vb) 3 3 V:=by
 have hlt:=(h.lt vb rfl).2;refine ⟨hV,Nat.le_refl _,by unfold maxLen;omega,(fun e=>by cases e),(fun x e _=>by cases e;exact ⟨hlt,rfl,hb⟩),?_⟩;rintro x e i hi;cases e;obtain ⟨b,n,B,h1,h2,h3⟩:=h0 i (by omega);rw [List.getElem?_eq_getElem hi] at h1;cases h1;exact ⟨some ⟨b,0,none⟩,n,n,by simp only [Nat.zero_add];exact (h.cellAt i (by omega)).trans h2,h3.mono hZ⟩
theorem dY {R:World→Prop} {b:Nat} (tC:∀w o u,R w→R (w.setCell ⟨b,o,none⟩ u)):∀(cs:List Value) (o:Nat) (w:World),R w→R (w.setCells b o cs)
 | [],_,_,h=>h
 | c :: cs,o,w,h=>dY tC cs (o+1) (w.setCell ⟨b,o,none⟩ c) (tC w o c h)
end Go.Proofs.YtlmgojlffgkciaaGreat

namespace Go.Proofs.YtlmgojlffgkciaaGreat
open Go.RowKit
set_option maxRecDepth 100000
set_option maxHeartbeats 4000000
theorem po (lo:Nat) (a:Option Addr) (len cap:Nat) (B:List ae) (w:World) (hP:aj lo w a len cap B) (hS:fC B) (hE:iZ B) :
 Calls Tryz.prog 121 #[.slice a len cap] w fun e w'=>e=.returned (.slice (some ⟨w.heap.size,0,none⟩) len len)∧(∃es,cG w.heap.size w'.heap.size w' w.heap.size len B es)∧w.heap.size<w'.heap.size∧Below w.heap.size w w':=by
 have HLEN:Hid (B.length=len):=hP.length;have HWF:Hid (∀p ∈ B,(Lit.int .i64 p.2).wf=true):=hP.wfs;have hbig:len≤1048576:=by have:=hP.length;have:=hS.1;omega
 have HSM:Hid _:=hS;have HSE:Hid _:=hE;have HL:Hid _:=hP;clear hP hS hE;obtain ⟨i0,hi,hz0,hz1,hz2⟩:=info_parts Tryz.infoRun;go_enter Tryz.func121,Tryz.ntmps121
 go_wp2_with (at_make;refine wpList_make_full _ rfl _ _ 64 rfl w.heap.size 102 i0 _ 2 Tryz.underlying64 hi hz0 hz1 .i64 .i64 _ _ len rfl rfl (by simp) (by simp) (by rw [hz2];omega) (by unfold maxLen;omega) (Nat.le_refl _) ?_;intro w1 hown hgrow)
 have hb1:Below w.heap.size w w1:=(Below.refl _ _).grown hgrow (Nat.le_refl _) (by simp);have hsz1:w.heap.size<w1.heap.size:=(hown.lt _ rfl).2;obtain ⟨G,hG⟩:∃G,w.heap.size=G:=⟨_,rfl⟩;rw [hG] at hown hsz1 ⊢;have HG0:Hid (w.heap.size=G):=hG;have HBW:Hid (Below G w w1):=by show Below G w w1;rw [← hG];exact hb1
 clear hG hb1 hgrow;go_loopw [11] (fun i wr=>∃(k:Nat) (xs:List Value) (es:Nat→Nat),k≤len∧i=.int .i64 k∧wr.ownsRow G 102 2 (.slice (some ⟨G,0,none⟩) len len) len xs∧Below G w wr∧(∀(j:Nat) (p:ae),j<k→B[j]?=some p→xs[j*2]?=some (.slice (some ⟨es j,0,none⟩) p.1.length p.1.length)∧xs[j*2+1]?=some (.int .i64 p.2)∧aE wr (G+1) (es j) p.1.length p.1.length p.1)∧(∀i j,i<j→j<k→es i<es j)∧(∀i,i<k→es i<wr.heap.size)) (fun i _=>len - (intOf i).toNat)
 case atStart=>exact ⟨0,_,fun _=>0,Nat.zero_le _,rfl,hown,HBW.out,(fun j l h=>absurd h (Nat.not_lt_zero _)),(fun i j _ h=>absurd h (Nat.not_lt_zero _)),(fun i h=>absurd h (Nat.not_lt_zero _))⟩
 case round =>
  obtain ⟨k,xs,es,hk,rfl,ho,hb,hrow,hup,htop⟩:=hrel;have HROW:Hid (∀(j:Nat) (p:ae),j<k→B[j]?=some p→xs[j*2]?=some (.slice (some ⟨es j,0,none⟩) p.1.length p.1.length)∧xs[j*2+1]?=some (.int .i64 p.2)∧aE wr (G+1) (es j) p.1.length p.1.length p.1):=hrow;have HUP:Hid (∀i j,i<j→j<k→es i<es j):=hup;have HTOP:Hid (∀i,i<k→es i<wr.heap.size):=htop;clear hrow hown hup htop;have hzr:G<wr.heap.size:=(ho.lt _ rfl).2;have hbw:Below w.heap.size w wr:=by rw [HG0.out];exact hb
  have HB:Hid (Below G w wr):=hb;clear hb;by_cases hlt:k<len
  · have hltI:(k:Int)<(len:Int):=by omega
    obtain ⟨b,off,rfl,hbb⟩:=HL.out.form (by omega);obtain ⟨L,m,s,n,c,hg,_,g0,g1,hLk⟩:=HL.out.run hbw k hlt;have hn:n≤1048576:=by
     have:=HSM.out.2 _ (List.mem_of_getElem? hg);have:=hLk.1.length;simp only at *;omega
    have HSL:Hid (mD L):=HSE.out _ (List.mem_of_getElem? hg);have HG:Hid (B[k]?=some (L,m)):=hg;have HBN:Hid (L.length=n):=hLk.1.length;have hbk:b<wr.heap.size:=Nat.lt_of_lt_of_le hbb hbw.size;have HLK:Hid (af wr s n c L):=hLk.1;have HX:Hid (xs.length=len*2):=ho.1;have HO:Hid (wr.ownsRow G 102 2 (.slice (some ⟨G,0,none⟩) len len) len xs):=ho;clear hg hLk ho hbw;go_upto_region 5 with fail
    obtain ⟨X,hX⟩:∃X,wr.heap.size=X:=⟨_,rfl⟩;obtain ⟨W,hW⟩:=ay (wr.alloc (.cells #[.slice s n c,.int .i64 m] 102));have kW:Below wr.heap.size wr W:=by rw [hW];exact (Below.refl _ _).alloc (Nat.le_refl _) _
    have x0:W.cell? ⟨X,0,none⟩=some (.slice s n c):=by rw [hW,← hX];simp
    have x1:W.cell? ⟨X,1,none⟩=some (.int .i64 m):=by rw [hW,← hX];simp
    have xz:X<W.heap.size:=World.block_lt_of_cell? _ _ x0;have HKW:Hid (Below wr.heap.size wr W):=kW;rw [← hW,hX];clear hW kW hX;have HOW:Hid (W.ownsRow G 102 2 (.slice (some ⟨G,0,none⟩) len len) len xs):=HO.out.kept (row:=none) (mT HKW.out) (.inr (by simp [Value.ownBlock]));have hzW:G<W.heap.size:=Nat.lt_of_lt_of_le hzr HKW.out.size;go_region_with (go_at_call 111;refine (fA s n c L _ ((HLK.out.keep HKW.out).keep ((Below.refl _ W).drew)) hn HSL.out).mono ?_;rintro e w2 ⟨rfl,hown2,hsz2,hb2⟩;have k2:Below W.heap.size W w2:=((Below.refl _ W).drew).trans hb2;have x1':=cell_later k2 x1;have xz':=Nat.lt_of_lt_of_le xz k2.size;have ho2:w2.ownsRow G 102 2 (.slice (some ⟨G,0,none⟩) len len) len xs:=HOW.out.kept (row:=none) (mT k2) (.inr (by simp [Value.ownBlock]));obtain ⟨v0,c0⟩:∃v,w2.cell? ⟨G,k*2,none⟩=some v:=⟨_,(ho2.cellAt _ (by omega)).trans (List.getElem?_eq_getElem (by rw [HX.out];omega))⟩;obtain ⟨v1,c1⟩:∃v,w2.cell? ⟨G,k*2+1,none⟩=some v:=⟨_,(ho2.cellAt _ (by omega)).trans (List.getElem?_eq_getElem (by rw [HX.out];omega))⟩;have f0:w2.frozen? ⟨G,k*2,none⟩=false:=ho2.frozenAt _;have f1:w2.frozen? ⟨G,k*2+1,none⟩=false:=ho2.frozenAt _;have zG:=Nat.lt_of_lt_of_le hzW k2.size)
    all_goals
     have HE2:Hid (aE w2 (G+1) W.heap.size n n L):=hown2.mono hzW;have HZ2:Hid (W.heap.size<w2.heap.size∧wr.heap.size≤W.heap.size):=⟨hsz2,HKW.out.size⟩;have HO2:Hid (w2.ownsRow G 102 2 (.slice (some ⟨G,0,none⟩) len len) len xs):=ho2;have K2:Hid (Below wr.heap.size wr w2):=HKW.out.trans (k2.mono HKW.out.size);clear hown2 hsz2 hb2 k2 ho2 c0 c1 f0 f1 HOW HKW x0 x1 xz;go_wp2;go_roundw
     case rel =>
      have t0:=HO2.out.stored (k*2) (.slice (some ⟨W.heap.size,0,none⟩) n n);have t1:=t0.1.stored (k*2+1) (.int .i64 m);have hgr:=t0.2.trans t1.2;have hz:=HZ2.out;have hss:=hgr.size;refine ⟨k+1,_,fun i=>if i=k then W.heap.size else es i,by omega,by go_num,t1.1,?_,?_,?_,?_⟩
      · exact ((HB.out.trans (K2.out.mono (by omega))).setCell (p:=⟨G,_,none⟩) (Nat.le_refl _) _).setCell (p:=⟨G,_,none⟩) (Nat.le_refl _) _
      · intro j p hj hp;by_cases hjk:j=k
        · subst hjk;rw [HG.out] at hp;cases hp;simp only [if_true,HBN.out];refine ⟨?_,?_,HE2.out.grown hgr (fun e=>?_)⟩
          · rw [List.getElem?_set_ne (by omega),List.getElem?_set_self (by rw [HX.out];omega)]
          · rw [List.getElem?_set_self (by rw [List.length_set,HX.out];omega)]
          · have h1:W.heap.size=G:=Option.some.inj e;omega
        · obtain ⟨h1,h2,h3⟩:=HROW.out j p (by omega) hp;simp only [if_neg hjk];refine ⟨?_,?_,(h3.below K2.out).grown hgr (fun e=>?_)⟩
          · rw [List.getElem?_set_ne (by omega),List.getElem?_set_ne (by omega)];exact h1
          · rw [List.getElem?_set_ne (by omega),List.getElem?_set_ne (by omega)];exact h2
          · have h4:es j=G:=Option.some.inj e;have h5:=h3.lt.1;omega
      · intro i j hij hj;simp only;by_cases hjk:j=k
        · rw [if_pos hjk,if_neg (by omega)];have:=HTOP.out i (by omega);omega
        · rw [if_neg hjk,if_neg (by omega)];exact HUP.out i j hij (by omega)
      · intro i hi';simp only;by_cases hik:i=k
        · rw [if_pos hik];omega
        · rw [if_neg hik];have:=HTOP.out i (by omega);have:=K2.out.size;omega
     case measure=>simp [intOf];omega
  · go_wp2;go_ret;rw [HG0.out];have hlt:∀{i:Nat} {p:ae},B[i]?=some p→i<k:=fun hp=>by have:=(List.getElem?_eq_some_iff.1 hp).1;rw [HLEN.out] at this;omega
    have hkl:k=len:=by omega
    have hup:=HUP.out;have htop:=HTOP.out;rw [hkl] at hup htop;exact ⟨rfl,⟨es,⟨HLEN.out,⟨xs,ho,fun i p hp=>⟨(HROW.out i p (hlt hp) hp).1,(HROW.out i p (hlt hp) hp).2.1⟩⟩,fun i p hp=>(HROW.out i p (hlt hp) hp).2.2.mono (by omega),hup,⟨hzr,htop⟩,HWF.out⟩⟩,hzr,HB.out⟩
end Go.Proofs.YtlmgojlffgkciaaGreat
