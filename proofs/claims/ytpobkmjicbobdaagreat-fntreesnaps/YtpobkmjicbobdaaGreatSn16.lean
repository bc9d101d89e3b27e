/- Walks. -/
import Derived.Test.YtpobkmjicbobdaaGreatSn15
import Derived.Laws.AppendOwnNone
import Derived.Lib.SlBytesRow
namespace Go.Proofs.YtpobkmjicbobdaaGreat
set_option maxRecDepth 100000
set_option maxHeartbeats 40000000
open Go.RowKit
variable {G T T' X b base base' c c' c1 c3 g g' g1 g3 hi hi' j lo lo' m m' n n' nm ns nv o size size':Nat} {L M:List ac} {S:List Int} {V:List (List af)} {bs gs:Nat→Nat} {v:Value} {w w' w'' w1:World} {xs xs':List Value}
theorem cj (h:w.ownsRow base T size (sL g m c) n xs) (hb:Bl w w'):w'.ownsRow base T size (sL g m c) n xs:=h.kept (row:=none) ⟨hb.os,hb.tape,hb.output,hb.size,fun k hk _=>hb.block k hk⟩ (.inr (by simp [Value.ownBlock]))
theorem cf (h:w.ownsRow base T size (sL g m c) n xs) (h':w.ownsRow base' T' size' (sL g' m' c') n' xs') (hT:T≠T') (hg:w.grownBy w' (some g')):w'.ownsRow base T size (sL g m c) n xs:=by
 refine h.kept hg (.inr fun e=>?_);have e':g=g':=by simpa [Value.ownBlock] using e
 subst e';obtain ⟨_,k1⟩:=aG h;obtain ⟨_,k2⟩:=aG h';exact hT (k1.kind k2)
theorem dm (h:au w base g n c L) (h':w.ownsRow base' T' size' (sL g' m' c') n' xs') (hT:50≠T') (hg:w.grownBy w' (some g')):au w' base g n c L:=⟨cf h.owns h' hT hg,h.len,h.ents⟩
theorem fP (h:dG base w g n c V) (h':w.ownsRow base' T' size' (sL g' m' c') n' xs') (t0:T'≠61) (t1:T'≠63) (t2:T'≠50) (hg:w.grownBy w' (some g')):dG base w' g n c V:=by
 obtain ⟨_,k⟩:=aG h';exact h.grown k t0 t1 t2 hg
theorem pB (h:aH lo w (some ⟨b,o,none⟩) n c S):∀j u,(S.map iT)[j]?=some u→w.cell? ((⟨b,o,none⟩:Addr).add j)=some u:=by
 intro j u hj;rw [Go.WideShapes.add_plain];rw [List.getElem?_map] at hj;cases hx:S[j]? with
 | none=>rw [hx] at hj;cases hj
 | some z =>
  rw [hx] at hj;cases hj;have hjl:j<n:=by rw [← h.length];exact (List.getElem?_eq_some_iff.1 hx).1
  obtain ⟨z',hz',_,cz⟩:=h.num (Below.refl _ w) j hjl;rw [hx] at hz';cases hz';exact cz
structure b9 (base:Nat) (w:World) (g1 nm c1 G nv c g3 ns c3:Nat) (M:List ac) (V:List (List af)) (S:List Int):Prop where
 mem:au w base g1 nm c1 M
 levs:dG base w G nv c V
 slen:S.length=ns
 swf:∀z ∈ S,(Lit.int .i64 z).wf=true
 sn:w.ownsRow base 3 1 (sL g3 ns c3) ns (S.map iT)
theorem b9.below (h:b9 base w g1 nm c1 G nv c g3 ns c3 M V S) (hb:Bl w w'):b9 base w' g1 nm c1 G nv c g3 ns c3 M V S:=⟨h.mem.below hb,h.levs.below hb,h.slen,h.swf,cj h.sn hb⟩
theorem b9.mono (h:b9 base w g1 nm c1 G nv c g3 ns c3 M V S) (hb:base'≤base):b9 base' w g1 nm c1 G nv c g3 ns c3 M V S:=⟨h.mem.mono hb,h.levs.mono hb,h.slen,h.swf,d9 h.sn hb⟩
theorem aV.low {B:List af} (h:aV base w g n c B) (hX:X<base) (hg:w.grownBy w' (some X)):aV base w' g n c B:=by
 obtain ⟨h1,h2,xs,h3,h4⟩:=h;refine ⟨h1,h2,xs,h3.kept hg (.inr fun e=>?_),fun i p hp=>?_⟩
 · have e':g=X:=by simpa [Value.ownBlock] using e
   have:=(h3.lt g rfl).1;omega
 · obtain ⟨e,d,a1,a2,a3⟩:=h4 i p hp;exact ⟨e,d,a1,a2,a3.grown hg (fun e'=>by have h5:e=X:=Option.some.inj e';have:=a3.lt.1;omega)⟩
theorem b9.low (h:b9 base w g1 nm c1 G nv c g3 ns c3 M V S) (hX:X<base) (hg:w.grownBy w' (some X)):b9 base w' g1 nm c1 G nv c g3 ns c3 M V S:=by
 have hk:∀{T size n m g c:Nat} {xs:List Value},w.ownsRow base T size (sL g m c) n xs→w'.ownsRow base T size (sL g m c) n xs:=fun {T size n m g c xs} h3=>h3.kept hg (.inr fun e=>by
  have e':g=X:=by simpa [Value.ownBlock] using e
  have:=(h3.lt g rfl).1;omega)
 obtain ⟨h1,xs,h3,h4,h5⟩:=h.levs;exact ⟨⟨hk h.mem.owns,h.mem.len,h.mem.ents⟩,⟨h1,xs,hk h3,(fun i p hp=>by obtain ⟨e,d,a1,a3⟩:=h4 i p hp;exact ⟨e,d,a1,a3.low hX hg⟩),h5⟩,h.slen,h.swf,hk h.sn⟩
theorem b6 (w:World) (g o:Nat) (u:Value):w.grownBy (w.setCell ⟨g,o,none⟩ u) (some g):=⟨rfl,rfl,rfl,by simp [World.setCell],fun k _ hk=>Below.heap_setCell _ _ _ _ (fun e=>hk (by rw [e]))⟩
theorem b9.four (h:b9 base w g1 nm c1 G nv c g3 ns c3 M V S) (hX:X<base) (u0 u1 u2 u3:Value):b9 base ((((w.setCell ⟨X,0,none⟩ u0).setCell ⟨X,1,none⟩ u1).setCell ⟨X,2,none⟩ u2).setCell ⟨X,3,none⟩ u3) g1 nm c1 G nv c g3 ns c3 M V S :=
 (((h.low hX (b6 _ _ _ _)).low hX (b6 _ _ _ _)).low hX (b6 _ _ _ _)).low hX (b6 _ _ _ _)
theorem b9.treeIn (h:b9 base w g1 nm c1 G nv c g3 ns c3 M V S):aZ base w (pT g1) nm c1 (pT G) nv c (pT g3) ns c3 M V S:=by
 have hrc:=bX h.sn;have hl:=h.slen;refine ⟨⟨h.mem.entsAt,fun x e _=>by cases e;exact h.mem.lt.1⟩,h.levs.levelsIn,⟨h.slen,hrc.1,hrc.2,h.swf,(fun e=>by cases e),?_,?_⟩⟩
 · rintro x e _;cases e;exact ⟨(h.sn.lt g3 rfl).2,rfl,(h.sn.lt g3 rfl).1⟩
 · rintro x e i hi;cases e;simp only [Nat.zero_add];have h1:=h.sn.cellAt i (by omega);rw [List.getElem?_map,List.getElem?_eq_getElem hi] at h1;exact h1
def fT (w:World) (p:Nat) (P:List (List Int)):Prop:=p<w.heap.size∧∀(i:Nat) (S:List Int),P[i]?=some S→∃b o c,w.cell? ⟨p,i,none⟩=some (sO b o S.length c)∧aH 0 w (some ⟨b,o,none⟩) S.length c S
theorem fT.keep {p:Nat} {P:List (List Int)} (h:fT w p P) (hb:Bl w w'):fT w' p P :=
 ⟨Nat.lt_of_lt_of_le h.1 hb.size,fun i S hS=>by obtain ⟨b,o,c,h1,h2⟩:=h.2 i S hS;exact ⟨b,o,c,cell_later hb h1,h2.keep hb⟩⟩
theorem o6 {P:List (List Int)} {k:Nat} (h:P[k]?=some S):(P.take (k+1)).flatten=(P.take k).flatten++S:=by
 rw [List.take_add_one,h];simp
theorem fB (P:List (List Int)) (k:Nat):(P.take k).flatten.length≤P.flatten.length:=by
 have h:P.flatten=(P.take k).flatten++(P.drop k).flatten:=by rw [← List.flatten_append,List.take_append_drop]
 rw [h,List.length_append];omega
theorem jC (p m:Nat) (P:List (List Int)) (w:World) (hP:fT w p P) (hm:P.length=m) (hm2:m≤100) (hs:P.flatten.length≤1048576) :
 Calls Tryz.prog 162 #[sL p m m] w fun e w'=>∃v,e=.returned v∧w'.ownsRow w.heap.size 3 1 v P.flatten.length (P.flatten.map iT)∧Bl w w':=by
 have HP:=bQ hP;have HM:=bQ hm;have HSZ:=bQ hs;obtain ⟨N,hN⟩:=aI P.flatten.length;have HN:Hid (N=P.flatten.length):=hN;have hNb:N≤1048576:=by omega
 rw [← hN];obtain ⟨F,hF⟩:=aI (P.flatten.map iT);have HF:Hid (F=P.flatten.map iT):=hF;rw [← hF];clear hF;have hpl:=hP.1;clear hP hm hs hN;have CG:Hid (∀w',Calls Tryz.prog 208 #[nZ,iT N] w' fun e w''=>∃v,e=.returned v∧w''.ownsRow w'.heap.size 3 1 v 0 []∧Bl w' w''):=fun w'=>by
  by_cases h0:N=0
  · rw [h0];refine (xU w').mono ?_;rintro e w'' ⟨rfl,rfl⟩;exact ⟨_,rfl,World.ownsRow_nil _ _ _ _,Below.refl _ _⟩
  · refine (xV N w' (by omega) hNb).mono ?_;rintro e w'' ⟨c,rfl,h1,h2⟩;exact ⟨_,rfl,h1,h2⟩
 obtain ⟨i0,hi,hz0,hz1,hz2⟩:=info_parts Tryz.infoInt;go_enter Tryz.func162,Tryz.ntmps162
 go_wp2;go_loopw [3,11] (fun sv iv wr=>∃(k T:Nat),k≤m∧iv=iT k∧sv=iT (T:Int)∧T=(P.take k).flatten.length∧w=wr) (fun _ iv _=>m - (intOf iv).toNat)
 case atStart=>exact ⟨0,0,Nat.zero_le _,rfl,rfl,by simp,rfl⟩
 case round =>
  obtain ⟨k,T,hk,rfl,rfl,hT,rfl⟩:=hrel;have HT:Hid (T=(P.take k).flatten.length):=hT;have hTb:T≤1048576:=by have h1:=fB P k;have h2:=HSZ.out;omega
  clear hT;by_cases hlt:k<m
  · have hltI:(k:Int)<(m:Int):=by omega
    obtain ⟨S,hS⟩:∃S,P[k]?=some S:=⟨_,List.getElem?_eq_getElem (by rw [HM.out];exact hlt)⟩;obtain ⟨b,o,c,g0,hI⟩:=HP.out.2 k S hS;have HST:Hid (T+S.length=(P.take (k+1)).flatten.length):=by show _=_;rw [o6 hS,List.length_append,HT.out]
    have hSb:T+S.length≤1048576:=by have h1:=fB P (k+1);have h2:=HSZ.out;have h3:=HST.out;omega
    obtain ⟨ls,hls⟩:=aI S.length;rw [← hls] at g0 hSb HST;clear hI hS hls;have hpos:¬((T:Int)+(ls:Int))<0:=by omega
    go_wp2;go_roundw
    case rel=>exact ⟨k+1,T+ls,by omega,by go_num,by go_num,HST.out,by first | rfl | trivial⟩
    case measure=>simp [intOf];omega
  · have hltI:¬(k:Int)<(m:Int):=by omega
    have HTN:Hid (T=N):=by
     have:=HT.out;rw [List.take_of_length_le (by rw [HM.out];omega),← HN.out] at this;exact this
    obtain rfl:=HTN.out;clear HTN;go_wp2_with fail
    refine (CG.out _).mono ?_;rintro e w1 ⟨v,rfl,hv,hb1⟩;have HV:Hid (w1.ownsRow w.heap.size 3 1 v 0 []):=hv;have HB1:Hid (Bl w w1):=hb1;clear hv hb1;go_wp2;go_loopw [6,27] (fun vv iv wr=>∃(k:Nat),k≤m∧iv=iT k∧wr.ownsRow w.heap.size 3 1 vv (P.take k).flatten.length ((P.take k).flatten.map iT)∧Bl w wr) (fun _ iv _=>m - (intOf iv).toNat)
    case atStart=>exact ⟨0,Nat.zero_le _,rfl,by simpa using HV.out,HB1.out⟩
    case round =>
     clear HV HB1;obtain ⟨j,hj,rfl,hv,hb⟩:=hrel;have HV:Hid (wr.ownsRow w.heap.size 3 1 _ (P.take j).flatten.length ((P.take j).flatten.map iT)):=hv;have HB:Hid (Bl w wr):=hb;have hbz:=hb.size;obtain ⟨U,hU⟩:=aI ((P.take j).flatten.length);have HU:Hid (U=(P.take j).flatten.length):=hU;have hUb:U≤1048576:=by have h1:=fB P j;have h2:=HSZ.out;omega
     rw [← hU] at HV;clear hv hU;by_cases hlt2:j<m
     · have hltJ:(j:Int)<(m:Int):=by omega
       obtain ⟨S,hS⟩:∃S,P[j]?=some S:=⟨_,List.getElem?_eq_getElem (by rw [HM.out];exact hlt2)⟩;obtain ⟨b,o,c,g0,hI⟩:=(HP.out.keep hb).2 j S hS;have HFS:Hid ((P.take (j+1)).flatten=(P.take j).flatten++S):=o6 hS;have hSb:U+S.length≤1048576:=by have h1:=fB P (j+1);have h2:=HSZ.out;have h3:=HU.out;rw [HFS.out,List.length_append] at h1;omega
       have hbl:=World.block_lt_of_cell? _ _ g0;simp only at hbl;obtain ⟨ls,hls⟩:=aI S.length;have HLS:Hid (ls=S.length):=hls;have HI:Hid (aH 0 wr (some ⟨b,o,none⟩) ls c S):=by rw [hls];exact hI
       rw [← hls] at g0 hSb;clear hI hS hls hb;go_wp2_with (at_builtin;refine wpList_append_own _ rfl _ _ 24 rfl w.heap.size 3 i0 _ 1 8 Tryz.underlying24 hi hz0 hz1 hz2 rfl (by decide) _ _ _ rfl HV.out ⟨b,o,none⟩ ls c (S.map iT) rfl (by rw [List.length_map,HLS.out,Nat.mul_one]) (pB HI.out) (by intro u hu;obtain ⟨z,_,rfl⟩:=List.mem_map.1 hu;rfl) (by unfold maxLen;omega) (by omega) hbz ?_;intro v2 w2 hown2 hgrow2 hnil2)
       go_roundw
       case rel =>
        refine ⟨j+1,by omega,by go_num,?_,?_⟩
        · rw [HFS.out,List.length_append,List.map_append,← HU.out,← HLS.out];exact hown2
        · exact HB.out.grown hgrow2 HB.out.size (fun k e=>(HV.out.lt k e).1)
       case measure=>simp [intOf];omega
     · have hltJ:¬(j:Int)<(m:Int):=by omega
       have h1:=HV.out;have h2:=HU.out;rw [List.take_of_length_le (by rw [HM.out];omega)] at h1 h2;rw [h2,← HN.out] at h1;have HVN:Hid (World.ownsRow _ _ _ _ _ _ _):=h1;clear h1 h2;clear HV hb;go_wp2;go_ret;exact ⟨u6,by first | rfl | simp,by rw [HF.out];exact HVN.out,HB.out⟩
def lS (w:World) (v:Value) (n:Nat) (xs:List Value):Prop :=
 xs.length=n*2∧(∀u ∈ xs,u.oneCell'=true)∧((v=nZ∧n=0)∨∃b o c,v=sO b o n c∧∀j u,xs[j]?=some u→w.cell? ⟨b,o+j,none⟩=some u)
theorem lS.keep (h:lS w v n xs) (hb:Bl w w'):lS w' v n xs:=by
 obtain ⟨h1,h2,h3⟩:=h;refine ⟨h1,h2,?_⟩;rcases h3 with h | ⟨b,o,c,hv,hc⟩
 · exact .inl h
 · exact .inr ⟨b,o,c,hv,fun j u hu=>cell_later hb (hc j u hu)⟩
def oD (w:World) (p:Nat) (P:List (Nat × List Value)):Prop:=p<w.heap.size∧∀(i n:Nat) (xs:List Value),P[i]?=some (n,xs)→∃v,w.cell? ⟨p,i,none⟩=some v∧lS w v n xs
theorem oD.keep {p:Nat} {P:List (Nat × List Value)} (h:oD w p P) (hb:Bl w w'):oD w' p P :=
 ⟨Nat.lt_of_lt_of_le h.1 hb.size,fun i n xs hS=>by obtain ⟨v,h1,h2⟩:=h.2 i n xs hS;exact ⟨v,cell_later hb h1,h2.keep hb⟩⟩
def jH (w:World) (xs:List Value) (B:List af):Prop :=
 xs.length=B.length*2∧∀i (p:af),B[i]?=some p→(Lit.int .i64 p.2).wf=true∧∃s n c,xs[i*2]?=some (.slice s n c)∧xs[i*2+1]?=some (iT p.2)∧dY 0 w s n c p.1
theorem jH.keep {B:List af} (h:jH w xs B) (hb:Bl w w'):jH w' xs B :=
 ⟨h.1,fun i p hp=>by obtain ⟨h1,s,n,c,h2,h3,h4⟩:=h.2 i p hp;exact ⟨h1,s,n,c,h2,h3,h4.same (cF.of_below hb)⟩⟩
theorem jH.one {B:List af} (h:jH w xs B):∀u ∈ xs,u.oneCell'=true:=by
 intro u hu;obtain ⟨j,hj,rfl⟩:=List.getElem_of_mem hu;have hB:j / 2<B.length:=by have:=h.1;omega
 obtain ⟨_,s,n,c,h2,h3,_⟩:=h.2 (j / 2) _ (List.getElem?_eq_getElem hB);rcases Nat.mod_two_eq_zero_or_one j with hm | hm
 · rw [show j / 2*2=j by omega,List.getElem?_eq_getElem hj] at h2;rw [Option.some.inj h2];rfl
 · rw [show j / 2*2+1=j by omega,List.getElem?_eq_getElem hj] at h3;rw [Option.some.inj h3];rfl
theorem jH.app {ys:List Value} {A B:List af} (h:jH w xs A) (k:jH w ys B):jH w (xs++ys) (A++B):=by
 have hl:=h.1;have kl:=k.1;refine ⟨by rw [List.length_append,List.length_append,hl,kl];omega,fun i p hp=>?_⟩;by_cases hi:i<A.length
 · rw [List.getElem?_append_left hi] at hp;rw [List.getElem?_append_left (by omega),List.getElem?_append_left (by omega)];exact h.2 i p hp
 · rw [List.getElem?_append_right (by omega)] at hp;rw [List.getElem?_append_right (by omega),List.getElem?_append_right (by omega),show i*2 - xs.length=(i - A.length)*2 by omega,show i*2+1 - xs.length=(i - A.length)*2+1 by omega];exact k.2 _ p hp
theorem il {B:List af} (h:w.ownsRow base 63 2 v n xs) (d:jH w xs B):∃a c,v=.slice a n c∧aw 0 w a n c B:=by
 have hn:B.length=n:=by have h1:=h.1;have h2:=d.1;omega
 rcases h.2 with ⟨hv,h0⟩ | ⟨g,cap,cur,hv,_⟩
 · subst hv h0;obtain rfl:=List.length_eq_zero_iff.1 hn;exact ⟨none,0,rfl,tg 0 w⟩
 · subst hv;have hrc:=bX h;refine ⟨_,cap,rfl,hn,hrc.1,hrc.2,(fun e=>by cases e),?_,?_⟩
   · rintro x e _;cases e;exact ⟨(h.lt g rfl).2,rfl,Nat.zero_le _⟩
   · rintro x e i hi;cases e;obtain ⟨h1,s,n',c,h2,h3,h4⟩:=d.2 i _ (List.getElem?_eq_getElem hi);refine ⟨h1,s,n',c,?_,?_,h4⟩
     · simp only [Nat.zero_add];exact (h.cellAt _ (by omega)).trans h2
     · simp only [Nat.zero_add];exact (h.cellAt _ (by omega)).trans h3
theorem aw.raw {B:List af} (h:aw lo w (some ⟨b,o,none⟩) n c B):∃xs,jH w xs B∧lS w (sO b o n c) n xs:=by
 have hl:=h.length;refine ⟨(List.range (n*2)).map (fun j=>(w.cell? ⟨b,o+j,none⟩).getD (iT 0)),?_⟩;have hat:∀i (hi:i<B.length),(Lit.int .i64 B[i].2).wf=true∧∃s n' c',w.cell? ⟨b,o+i*2,none⟩=some (.slice s n' c')∧w.cell? ⟨b,o+(i*2+1),none⟩=some (iT B[i].2)∧dY lo w s n' c' B[i].1:=fun i hi=>by
  have:=h.runs _ rfl i hi;simpa [Nat.add_assoc] using this
 have hd:jH w ((List.range (n*2)).map (fun j=>(w.cell? ⟨b,o+j,none⟩).getD (iT 0))) B:=by
  refine ⟨by simp [hl],fun i p hp=>?_⟩;have hi:=(List.getElem?_eq_some_iff.1 hp).1;have hp':=(List.getElem?_eq_some_iff.1 hp).2;obtain ⟨h1,s,n',c',h2,h3,h4⟩:=hat i hi;rw [hp'] at h1 h3 h4;refine ⟨h1,s,n',c',?_,?_,h4.mono (Nat.zero_le _)⟩
  · rw [List.getElem?_map,List.getElem?_range (by omega)];simp [h2]
  · rw [List.getElem?_map,List.getElem?_range (by omega)];simp [h3]
 refine ⟨hd,by simp,hd.one,.inr ⟨b,o,c,rfl,fun j u hu=>?_⟩⟩;have hj:j<n*2:=by have:=(List.getElem?_eq_some_iff.1 hu).1;simpa using this
 rw [List.getElem?_map,List.getElem?_range hj] at hu;simp only [Option.map_some] at hu;have hi:j / 2<B.length:=by omega
 obtain ⟨h1,s,n',c',h2,h3,h4⟩:=hat (j / 2) hi;rcases Nat.mod_two_eq_zero_or_one j with hm | hm
 · rw [show j / 2*2=j by omega] at h2;rw [h2] at hu ⊢;simpa using hu
 · rw [show j / 2*2+1=j by omega] at h3;rw [h3] at hu ⊢;simpa using hu
structure cJ (lo hi:Nat) (w w':World):Prop where
 os:w'.os=w.os
 tape:w'.tape=w.tape
 output:w'.output=w.output
 size:w.heap.size≤w'.heap.size
 block:∀k,k<w.heap.size→(k<lo∨hi≤k)→w'.heap[k]?=w.heap[k]?
theorem cJ.refl (lo hi:Nat) (w:World):cJ lo hi w w:=⟨rfl,rfl,rfl,Nat.le_refl _,fun _ _ _=>rfl⟩
theorem cJ.grown (h:cJ lo hi w w') (hg:w'.grownBy w'' (some g)) (h1:lo≤g) (h2:g<hi):cJ lo hi w w'' :=
 ⟨hg.os.trans h.os,hg.tape.trans h.tape,hg.output.trans h.output,Nat.le_trans h.size hg.size,fun k hk ho=>(hg.block k (Nat.lt_of_lt_of_le hk h.size) (fun e=>by have:=Option.some.inj e;omega)).trans (h.block k hk ho)⟩
theorem cJ.own (h:cJ lo hi w w') (hO:au w base g n c L) (hg:g<lo∨hi≤g):au w' base g n c L:=by
 refine ⟨⟨hO.owns.1,?_⟩,hO.len,hO.ents⟩;have hlt:=hO.lt.2;rcases hO.owns.2 with hn | ⟨g1,cap1,cur1,e1,hb1,hgb,rest⟩
 · exact .inl hn
 · cases e1;exact .inr ⟨g,c,cur1,rfl,hb1,(h.block g hlt hg).trans hgb,rest⟩
theorem cJ.below {B:Nat} (h:cJ lo hi w w') (hB:B≤lo) (hw:B≤w.heap.size):Below B w w':=⟨h.os,h.tape,h.output,h.size,fun k hk=>h.block k (by omega) (.inl (by omega))⟩
theorem cJ.trans (h:cJ lo hi w w') (k:cJ lo hi w' w''):cJ lo hi w w'' :=
 ⟨k.os.trans h.os,k.tape.trans h.tape,k.output.trans h.output,Nat.le_trans h.size k.size,fun q hq ho=>(k.block q (Nat.lt_of_lt_of_le hq h.size) ho).trans (h.block q hq ho)⟩
theorem cJ.mono (h:cJ lo hi w w') (h1:lo'≤lo) (h2:hi≤hi'):cJ lo' hi' w w' :=
 ⟨h.os,h.tape,h.output,h.size,fun q hq ho=>h.block q hq (by omega)⟩
theorem cJ.of_below (h:Bl w w'):cJ lo hi w w':=⟨h.os,h.tape,h.output,h.size,fun q hq _=>h.block q hq⟩
theorem cJ.row (h:cJ lo hi w w') (hO:w.ownsRow base T size (sL g m c) n xs) (hg:g<lo∨hi≤g):w'.ownsRow base T size (sL g m c) n xs:=by
 refine ⟨hO.1,?_⟩;have hlt:=(hO.lt g rfl).2;rcases hO.2 with hn | ⟨g1,cap1,cur1,e1,hb1,hgb,rest⟩
 · exact .inl hn
 · cases e1;exact .inr ⟨g,c,cur1,rfl,hb1,(h.block g hlt hg).trans hgb,rest⟩
section
attribute [local go_sem] Oper.semAt_some
def lc (lo hi:Nat) (w:World) (g m:Nat):Prop:=lo≤g∧g<hi∧an w g 50 (m*5)
structure iN (lo hi:Nat) (w:World) (g:Nat) (B:List af):Prop where
 at1:lo≤g
 at2:g<hi
 blk:an w g 63 (B.length*2)
 runs:∀(i:Nat) (p:af),B[i]?=some p→∃e,w.cell? ⟨g,i*2,none⟩=some (sL e p.1.length p.1.length)∧lc lo hi w e p.1.length
structure jF (lo hi:Nat) (w:World) (g:Nat) (V:List (List af)):Prop where
 at1:lo≤g
 at2:g<hi
 blk:an w g 61 (V.length*1)
 levs:∀(i:Nat) (B:List af),V[i]?=some B→∃e,w.cell? ⟨g,i,none⟩=some (sL e B.length B.length)∧iN lo hi w e B
structure gg (lo hi:Nat) (w w':World):Prop where
 os:w'.os=w.os
 tape:w'.tape=w.tape
 output:w'.output=w.output
 size:w.heap.size≤w'.heap.size
 far:∀q,q<w.heap.size→(q<lo∨hi≤q)→w'.heap[q]?=w.heap[q]?
 blk:∀g t sz,an w g t sz→an w' g t sz
 sl:∀g sz o,an w g 61 sz→w'.cell? ⟨g,o,none⟩=w.cell? ⟨g,o,none⟩
 ev:∀g sz j,an w g 63 sz→w'.cell? ⟨g,j*2,none⟩=w.cell? ⟨g,j*2,none⟩
theorem gg.refl (lo hi:Nat) (w:World):gg lo hi w w:=⟨rfl,rfl,rfl,Nat.le_refl _,fun _ _ _=>rfl,fun _ _ _ h=>h,fun _ _ _ _=>rfl,fun _ _ _ _=>rfl⟩
theorem gg.trans (h:gg lo hi w w') (k:gg lo hi w' w''):gg lo hi w w'' :=
 ⟨k.os.trans h.os,k.tape.trans h.tape,k.output.trans h.output,Nat.le_trans h.size k.size,fun q hq ho=>(k.far q (Nat.lt_of_lt_of_le hq h.size) ho).trans (h.far q hq ho),fun g t sz hg=>k.blk g t sz (h.blk g t sz hg),fun g sz o hb=>(k.sl g sz o (h.blk _ _ _ hb)).trans (h.sl g sz o hb),fun g sz j hb=>(k.ev g sz j (h.blk _ _ _ hb)).trans (h.ev g sz j hb)⟩
theorem gg.of_below (h:Bl w w'):gg lo hi w w' :=
 ⟨h.os,h.tape,h.output,h.size,fun q hq _=>h.block q hq,fun _ _ _ hg=>hg.below h,fun _ _ _ hb=>World.cell?_of_block (h.block _ hb.lt),fun _ _ _ hb=>World.cell?_of_block (h.block _ hb.lt)⟩
theorem gg.set {sz:Nat} (v:Value) (hB:an w g T sz) (h1:lo≤g) (h2:g<hi) (t1:T≠61) (t2:T≠63):gg lo hi w (w.setCell ⟨g,o,none⟩ v) :=
 ⟨rfl,rfl,rfl,by simp [World.setCell],fun q _ hq=>Below.heap_setCell _ _ _ _ (fun e=>by have e':q=g:=e;omega),fun _ _ _ hg=>hg.setCell v,
  fun g' sz' o' hb=>World.cell?_setCell_other _ _ _ _ (fun e=>by have e':g'=g:=(by cases e;rfl);subst e';exact t1 (hB.kind hb)),
  fun g' sz' j hb=>World.cell?_setCell_other _ _ _ _ (fun e=>by have e':g'=g:=(by simp only [Addr.mk.injEq] at e;exact e.1.symm);subst e';exact t2 (hB.kind hb))⟩
theorem gg.below {B:Nat} (h:gg lo hi w w') (hB:B≤lo) (hw:B≤w.heap.size):Below B w w' :=
 ⟨h.os,h.tape,h.output,h.size,fun q hq=>h.far q (by omega) (Or.inl (by omega))⟩
theorem lc.mono (h:lc lo hi w g m) (h1:lo'≤lo) (h2:hi≤hi'):lc lo' hi' w g m:=⟨Nat.le_trans h1 h.1,Nat.lt_of_lt_of_le h.2.1 h2,h.2.2⟩
theorem iN.mono {B:List af} (h:iN lo hi w g B) (h1:lo'≤lo) (h2:hi≤hi'):iN lo' hi' w g B :=
 ⟨Nat.le_trans h1 h.at1,Nat.lt_of_lt_of_le h.at2 h2,h.blk,fun i p hp=>by obtain ⟨e,c,b⟩:=h.runs i p hp;exact ⟨e,c,b.mono h1 h2⟩⟩
theorem jF.mono (h:jF lo hi w g V) (h1:lo'≤lo) (h2:hi≤hi'):jF lo' hi' w g V :=
 ⟨Nat.le_trans h1 h.at1,Nat.lt_of_lt_of_le h.at2 h2,h.blk,fun i p hp=>by obtain ⟨e,c,b⟩:=h.levs i p hp;exact ⟨e,c,b.mono h1 h2⟩⟩
end
section
attribute [local go_sem] Oper.semAt_some
structure dF (lo hi:Nat) (w:World) (g n:Nat) (B:List af) (es:Nat→Nat):Prop where
 len:B.length=n
 row:∃xs,w.ownsRow lo 63 2 (sL g n n) n xs∧∀(i:Nat) (p:af),B[i]?=some p→xs[i*2]?=some (sL (es i) p.1.length p.1.length)∧xs[i*2+1]?=some (iT p.2)
 ents:∀(i:Nat) (p:af),B[i]?=some p→au w lo (es i) p.1.length p.1.length p.1
 up:∀i j,i<j→j<n→es i<es j
 top:g<hi∧∀i,i<n→es i<hi
 wfs:∀p ∈ B,(Lit.int .i64 p.2).wf=true
theorem dF.keepO {B:List af} {es:Nat→Nat} (h:dF lo hi w g n B es) (k:cJ lo' hi' w w') (hd:hi≤lo'∨hi'≤lo):dF lo hi w' g n B es:=by
 obtain ⟨xs,h1,h2⟩:=h.row;have hg:=(h1.lt g rfl).1;refine ⟨h.len,⟨xs,k.row h1 (by have:=h.top.1;omega),h2⟩,fun i p hp=>?_,h.up,h.top,h.wfs⟩;have hO:=h.ents i p hp;have hi':=(List.getElem?_eq_some_iff.1 hp).1;exact k.own hO (by have h3:=hO.lt.1;have h4:=h.top.2 i (by rw [← h.len];exact hi');omega)
theorem dF.below {B:List af} {es:Nat→Nat} (h:dF lo hi w g n B es) (hb:Bl w w'):dF lo hi w' g n B es:=by
 obtain ⟨xs,h1,h2⟩:=h.row;exact ⟨h.len,⟨xs,h1.kept (row:=none) ⟨hb.os,hb.tape,hb.output,hb.size,fun k hk _=>hb.block k hk⟩ (.inr (by simp [Value.ownBlock])),h2⟩,fun i p hp=>(h.ents i p hp).below hb,h.up,h.top,h.wfs⟩
theorem dF.ne {B:List af} {es:Nat→Nat} (h:dF lo hi w g n B es) {i:Nat} {p:af} (hp:B[i]?=some p):g≠es i:=by
 intro e;obtain ⟨xs,h1,_⟩:=h.row;have b1:=dR h1;have b2:=dR (h.ents i p hp).owns;rw [← e] at b2;exact absurd (b1.kind b2) (by decide)
theorem dF.cell {B:List af} {es:Nat→Nat} (h:dF lo hi w g n B es) {i:Nat} {p:af} (hp:B[i]?=some p):w.cell? ⟨g,i*2,none⟩=some (sL (es i) p.1.length p.1.length)∧w.cell? ⟨g,i*2+1,none⟩=some (iT p.2)∧w.frozen? ⟨g,i*2+1,none⟩=false∧g<w.heap.size:=by
 obtain ⟨xs,h1,h2⟩:=h.row;have hi':=(List.getElem?_eq_some_iff.1 hp).1;rw [h.len] at hi';exact ⟨(h1.cellAt _ (by omega)).trans (h2 i p hp).1,(h1.cellAt _ (by omega)).trans (h2 i p hp).2,h1.frozenAt _,(h1.lt g rfl).2⟩
theorem dF.put {B:List af} {es:Nat→Nat} {p:af} (h:dF lo hi w g n B es) (hp:B[j]?=some p) {L:List ac} (hL:L.length=p.1.length) (hO:au w1 lo (es j) p.1.length p.1.length L) (hg:w.grownBy w1 (some (es j))) (v:Int) (hv:(Lit.int .i64 v).wf=true) :
 dF lo hi (w1.setCell ⟨g,j*2+1,none⟩ (iT v)) g n (B.set j (L,v)) es:=by
 have hne:=h.ne hp;have hjn:j<B.length:=(List.getElem?_eq_some_iff.1 hp).1;obtain ⟨xs,h1,h2⟩:=h.row;have hxl:=h1.1;have hln:=h.len;have r1:=h1.kept hg (.inr (by simpa [Value.ownBlock] using hne));have r2:=(r1.stored (j*2+1) (iT v)).1;refine ⟨by rw [List.length_set];exact h.len,⟨_,r2,fun i q hq=>?_⟩,fun i q hq=>?_,h.up,h.top,fun q hq=>?_⟩
 · by_cases e:j=i
   · subst e;rw [List.getElem?_set_self hjn] at hq;cases hq;rw [List.getElem?_set_ne (by omega),List.getElem?_set_self (by omega)];simp only [hL];exact ⟨(h2 j p hp).1,trivial⟩
   · rw [List.getElem?_set_ne e] at hq;rw [List.getElem?_set_ne (by omega),List.getElem?_set_ne (by omega)];exact h2 i q hq
 · by_cases e:j=i
   · subst e;rw [List.getElem?_set_self hjn] at hq;cases hq;simp only [hL];exact hO.setCell (p:=⟨g,j*2+1,none⟩) hne _
   · rw [List.getElem?_set_ne e] at hq;have hi':=(List.getElem?_eq_some_iff.1 hq).1;refine (((h.ents i q hq).grown hg (fun e'=>?_))).setCell (p:=⟨g,j*2+1,none⟩) (h.ne hq) _;have e2:=Option.some.inj e';rcases Nat.lt_or_gt_of_ne e with h3 | h3
     · have:=h.up j i h3 (by omega);omega
     · have:=h.up i j h3 (by omega);omega
 · rcases List.mem_or_eq_of_mem_set hq with h3 | h3
   · exact h.wfs q h3
   · subst h3;exact hv
end
section
attribute [local go_sem] Oper.semAt_some
structure fa (lo hi:Nat) (w:World) (G n:Nat) (V:List (List af)) (gs bs:Nat→Nat) (es:Nat→Nat→Nat):Prop where
 len:V.length=n
 row:∃xs,w.ownsRow lo 61 1 (sL G n n) n xs∧∀(i:Nat) (B:List af),V[i]?=some B→xs[i]?=some (sL (gs i) B.length B.length)
 levs:∀(i:Nat) (B:List af),V[i]?=some B→dF (bs i) (bs (i+1)) w (gs i) B.length B (es i)
 bot:lo≤bs 0∧G<bs 0
 up:∀i j,i≤j→j≤n→bs i≤bs j
 top:bs n≤hi
theorem fa.below {es:Nat→Nat→Nat} (h:fa lo hi w G n V gs bs es) (hb:Bl w w'):fa lo hi w' G n V gs bs es:=by
 obtain ⟨xs,h1,h2⟩:=h.row;exact ⟨h.len,⟨xs,h1.kept (row:=none) ⟨hb.os,hb.tape,hb.output,hb.size,fun k hk _=>hb.block k hk⟩ (.inr (by simp [Value.ownBlock])),h2⟩,fun i B hB=>(h.levs i B hB).below hb,h.bot,h.up,h.top⟩
theorem fa.keepO {es:Nat→Nat→Nat} (h:fa lo hi w G n V gs bs es) (k:cJ lo' hi' w w') (hG:G<lo'∨hi'≤G) (hd:bs n≤lo'∨hi'≤bs 0):fa lo hi w' G n V gs bs es:=by
 obtain ⟨xs,h1,h2⟩:=h.row;refine ⟨h.len,⟨xs,k.row h1 hG,h2⟩,fun i B hB=>(h.levs i B hB).keepO k ?_,h.bot,h.up,h.top⟩;have hi':=(List.getElem?_eq_some_iff.1 hB).1;rw [h.len] at hi';have u1:=h.up 0 i (by omega) (by omega);have u2:=h.up (i+1) n (by omega) (by omega);omega
theorem fa.cell {es:Nat→Nat→Nat} (h:fa lo hi w G n V gs bs es) {i:Nat} {B:List af} (hB:V[i]?=some B):w.cell? ⟨G,i,none⟩=some (sL (gs i) B.length B.length)∧G<w.heap.size:=by
 obtain ⟨xs,h1,h2⟩:=h.row;have hi':=(List.getElem?_eq_some_iff.1 hB).1;rw [h.len] at hi';exact ⟨(h1.cellAt _ (by omega)).trans (h2 i B hB),(h1.lt G rfl).2⟩
theorem fa.put {es:Nat→Nat→Nat} {B B':List af} (h:fa lo hi w G n V gs bs es) (hB:V[j]?=some B) (hl:B'.length=B.length) (hR:dF (bs j) (bs (j+1)) w1 (gs j) B.length B' (es j)) (hk:cJ (bs j) (bs (j+1)) w w1):fa lo hi w1 G n (V.set j B') gs bs es:=by
 have hj:=(List.getElem?_eq_some_iff.1 hB).1;have hln:=h.len;have u0:=h.up 0 j (by omega) (by omega);have hb:=h.bot.2;obtain ⟨xs,h1,h2⟩:=h.row;refine ⟨by rw [List.length_set];exact h.len,⟨xs,hk.row h1 (by omega),fun i C hC=>?_⟩,fun i C hC=>?_,h.bot,h.up,h.top⟩
 · by_cases e:j=i
   · subst e;rw [List.getElem?_set_self hj] at hC;cases hC;rw [hl];exact h2 j B hB
   · rw [List.getElem?_set_ne e] at hC;exact h2 i C hC
 · by_cases e:j=i
   · subst e;rw [List.getElem?_set_self hj] at hC;cases hC;rw [hl];exact hR
   · rw [List.getElem?_set_ne e] at hC;have hi':=(List.getElem?_eq_some_iff.1 hC).1;refine (h.levs i C hC).keepO hk ?_;rcases Nat.lt_or_gt_of_ne e with h3 | h3
     · have:=h.up (j+1) i (by omega) (by omega);omega
     · have:=h.up (i+1) j (by omega) (by omega);omega
def kQ (lo:Nat) (w:World) (g n:Nat) (S:List Int):Prop:=S.length=n∧w.ownsRow lo 3 1 (sL g n n) n (S.map iT)
end
end Go.Proofs.YtpobkmjicbobdaaGreat
