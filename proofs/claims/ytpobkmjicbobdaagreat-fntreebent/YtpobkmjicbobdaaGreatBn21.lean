/- Walks. -/
import Derived.Test.YtpobkmjicbobdaaGreatBn20
namespace Go.Proofs.YtpobkmjicbobdaaGreat
set_option maxRecDepth 100000
set_option maxHeartbeats 40000000
open Go.RowKit
variable {P:List (List ac)} {n:Nat} {vs:List Value} {w:World}
theorem tA (p:Nat→Prop) (w:World):dK p w [] []:=⟨rfl,fun i r h=>by simp at h⟩
theorem lA {s:Option Addr} {c:Nat} {m:Int} {L:List ac} (hm:(Lit.int .i64 m).wf=true) (h:aj w s n c L):dK (·<w.heap.size) w [.slice s n c,iT m] [(L,m)]:=by
 refine ⟨rfl,fun i r hr=>?_⟩;match i,hr with
 | 0,hr=>cases hr;exact ⟨hm,s,n,c,rfl,rfl,h,fun x e hp=>(h.lies x e hp).1⟩
def mY (w:World) (vs:List Value) (P:List (List ac)):Prop:=vs.length=P.length∧∀(j:Nat) (L:List ac),P[j]?=some L→∃(s:Option Addr) (m d:Nat),vs[j]?=some (Value.slice s m d)∧aj w s m d L
theorem zL (w:World):mY w [] []:=⟨rfl,fun j L h=>by simp at h⟩
theorem mY.keep {w':World} (h:mY w vs P) (hb:Bl w w'):mY w' vs P:=⟨h.1,fun j L hj=>by
 obtain ⟨s,m,d,h1,h2⟩:=h.2 j L hj
 exact ⟨s,m,d,h1,h2.keep hb⟩⟩
theorem mY.snoc (h:mY w vs P) {s:Option Addr} {m d:Nat} {L:List ac} (hE:aj w s m d L):mY w (vs++[.slice s m d]) (P++[L]):=by
 have hl:=h.1;refine ⟨by simp [hl],fun j X hj=>?_⟩;by_cases hjl:j<P.length
 · rw [List.getElem?_append_left hjl] at hj;obtain ⟨s',m',d',h1,h2⟩:=h.2 j X hj;exact ⟨s',m',d',by rw [List.getElem?_append_left (by omega)];exact h1,h2⟩
 · rw [List.getElem?_append_right (by omega)] at hj;have hj0:j - P.length=0:=by
    have:=(List.getElem?_eq_some_iff.1 hj).1;simp at this;omega
   rw [hj0] at hj;cases hj;exact ⟨s,m,d,by rw [List.getElem?_append_right (by omega),show j - vs.length=0 by omega];rfl,hE⟩
def pD (n:Nat) (B:List ag) (w:World) (e:Ending) (w':World):Prop:=∃v vs,e=.returned v∧w'.ownsRow w.heap.size 28 1 v n vs∧mY w vs (bn B)∧Bl w w'
theorem sX {base:Nat} {v:Value} (h:w.ownsRow base 28 1 v n vs) (d:mY w vs P):∃a c,v=.slice a n c∧cK w a n c P:=by
 have hn:P.length=n:=by have h1:=h.1;have h2:=d.1;omega
 rcases h.2 with ⟨hv,h0⟩ | ⟨g,cap,cur,hv,_⟩
 · subst hv h0;exact ⟨none,0,rfl,hn,Nat.le_refl _,Nat.zero_le _,fun _=>rfl,(fun x e=>by cases e),fun x e=>by cases e⟩
 · subst hv;have hrm:=cj h;refine ⟨_,cap,rfl,hn,hrm.1,hrm.2,(fun e=>by cases e),(fun x e _=>by cases e;exact ⟨(h.lt g rfl).2,rfl⟩),fun x e i hi=>?_⟩;cases e;obtain ⟨s,m,dd,h1,h2⟩:=d.2 i _ (List.getElem?_eq_getElem hi);have hc:=h.cells (g:=g) rfl i _ h1;rw [Go.WideShapes.add_plain] at hc;exact ⟨s,m,dd,hc,h2⟩
theorem nT (a:Option Addr) (n c:Nat) (B:List ag) (low high:ByteArray) (w:World) (h:az 0 w a n c B) (hne:∀r ∈ B,1≤r.1.length) (hn:n≤1000) :
 Calls Tryz.prog 177 #[.slice a n c,.string low,.string high] w fun e w'=>∃g1 n1 c1 g2 n2 c2,e=.returned (.tuple #[sL g1 n1 c1,sL g2 n2 c2])∧az 0 w' (pT g1) n1 c1 (B.filter (dW low high))∧az 0 w' (pT g2) n2 c2 (B.filter (fun r=>!dW low high r))∧Bl w w':=by
 have HB:=b6 h;have HL:Hid (B.length=n):=h.length;have HNE:=b6 hne;obtain ⟨i0,hi,hz0,hz1,hz2⟩:=info_parts Tryz.infoRun;clear h hne;obtain ⟨p,hp⟩:=aS (dW low high);obtain ⟨q,hq⟩:∃q:ag→Bool,q=fun r=>!dW low high r:=⟨_,rfl⟩
 have HPQ:Hid (∀r,p r=dW low high r∧q r=!p r):=fun r=>by rw [hp,hq];exact ⟨rfl,rfl⟩
 rw [← hq,← hp];clear hp hq;have R1:Hid ((w.alloc (.cells #[] 63)).ownsRow w.heap.size 63 2 (sL (w.heap.size) 0 0) 0 []):=by
  have:=World.ownsRow_lit (base:=w.heap.size) (e:=63) (size:=2) w #[] 0 (Nat.le_refl _) (by simp) (by simp);show World.ownsRow _ _ _ _ _ _ _
  simpa using this
 have K1:Hid (Bl w (w.alloc (.cells #[] 63))):=bZ;have R2:Hid (((w.alloc (.cells #[] 63)).alloc (.cells #[] 63)).ownsRow w.heap.size 63 2 (sL (w.heap.size+1) 0 0) 0 []):=by
  have:=World.ownsRow_lit (base:=w.heap.size) (e:=63) (size:=2) (w.alloc (.cells #[] 63)) #[] 0 (by simp) (by simp) (by simp);show World.ownsRow _ _ _ _ _ _ _
  rw [World.size_alloc] at this;simpa using this
 have K2:Hid (Below (w.alloc (.cells #[] 63)).heap.size (w.alloc (.cells #[] 63)) ((w.alloc (.cells #[] 63)).alloc (.cells #[] 63))):=bZ;go_enter Tryz.func177,Tryz.ntmps177
 go_wp2;go_loopw [8,9,10] (fun v1 v2 iv wr=>∃(i g1 n1 c1 g2 n2 c2:Nat) (xs ys:List Value),i≤n∧iv=iT i∧v1=sL g1 n1 c1∧v2=sL g2 n2 c2∧g1≠g2∧n1+n2≤i∧wr.ownsRow w.heap.size 63 2 (sL g1 n1 c1) n1 xs∧wr.ownsRow w.heap.size 63 2 (sL g2 n2 c2) n2 ys∧dK (·<w.heap.size) w xs ((B.take i).filter p)∧dK (·<w.heap.size) w ys ((B.take i).filter q)∧Bl w wr) (fun _ _ iv _=>n - (intOf iv).toNat)
 case atStart =>
  refine ⟨0,w.heap.size,0,0,w.heap.size+1,0,0,[],[],Nat.zero_le _,rfl,rfl,by first | rfl | simp,by omega,Nat.le_refl _,cE R1.out K2.out,R2.out,tA _ _,tA _ _,K1.out.trans (K2.out.mono K1.out.size)⟩
 case round =>
  clear R1 R2 K1 K2;obtain ⟨i,g1,n1,c1,g2,n2,c2,xs,ys,hin,rfl,rfl,rfl,hg12,hnn,hr1,hr2,hd1,hd2,hb⟩:=hrel;have HR1:Hid (wr.ownsRow w.heap.size 63 2 (sL g1 n1 c1) n1 xs):=hr1;have HR2:Hid (wr.ownsRow w.heap.size 63 2 (sL g2 n2 c2) n2 ys):=hr2;have HD1:Hid (dK (·<w.heap.size) w xs ((B.take i).filter p)):=hd1;have HD2:Hid (dK (·<w.heap.size) w ys ((B.take i).filter q)):=hd2;have HK:Hid (Bl w wr):=hb;have HG12:Hid (g1≠g2):=hg12;have HNN:Hid (n1+n2≤i):=hnn;clear hr1 hr2 hd1 hd2;by_cases hlt:i<n
  · have hltI:(i:Int)<(n:Int):=by omega
    obtain ⟨b,off,rfl,hbb⟩:=HB.out.form (by omega);obtain ⟨L,m,s,len,cap,hg,hwf,c0,c1',hE⟩:=HB.out.run (Below.refl _ w) i hlt;have HG:Hid (B[i]?=some (L,m)):=hg;have HDO:Hid (dK (·<w.heap.size) w [.slice s len cap,iT m] [(L,m)]):=lA hwf hE.1;have hl1:1≤len:=by have h1:=HNE.out _ (List.mem_of_getElem? hg);have h2:=hE.1.length;simp only at h1;omega
    obtain ⟨T,hT⟩:=aS (dW low high (L,m));have HT:Hid (T=dW low high (L,m)):=hT;have CM:Hid (Calls Tryz.prog 222 #[.agg #[.slice s len cap,iT m],.string low,.string high] wr fun e w'=>e=.returned (.bool T)∧Bl wr w'):=by rw [hT];exact yA m s len cap L low high wr (hE.1.keep hb) hl1
    have C0:Hid (w.cell? ⟨b,off+i*2,none⟩=some (.slice s len cap)∧w.cell? ⟨b,off+i*2+1,none⟩=some (iT m)):=⟨c0,c1'⟩;have c0:=cell_later hb c0;have c1':=cell_later hb c1';have zb:b<wr.heap.size:=Nat.lt_of_lt_of_le hbb hb.size;clear hg hwf hE hb hT hl1;go_wp2_with fail
    refine CM.out.mono ?_;rintro e w1 ⟨rfl,hb1⟩;have K1:Hid (Bl w w1):=HK.out.trans (hb1.mono HK.out.size);have S1:Hid (w1.ownsRow w.heap.size 63 2 (sL g1 n1 c1) n1 xs):=cE HR1.out hb1;have S2:Hid (w1.ownsRow w.heap.size 63 2 (sL g2 n2 c2) n2 ys):=cE HR2.out hb1;have c0:=cell_later hb1 c0;have c1':=cell_later hb1 c1';have zb:=Nat.lt_of_lt_of_le zb hb1.size;have hcn:=bT w1 (.slice s len cap) (iT m) 63;have HCN:=b6 hcn;have ka:Bl w1 (w1.alloc (.cells #[.slice s len cap,iT m] 63)):=bZ;have A1:Hid ((w1.alloc (.cells #[.slice s len cap,iT m] 63)).ownsRow w.heap.size 63 2 (sL g1 n1 c1) n1 xs):=cE S1.out ka;have A2:Hid ((w1.alloc (.cells #[.slice s len cap,iT m] 63)).ownsRow w.heap.size 63 2 (sL g2 n2 c2) n2 ys):=cE S2.out ka;have KA:Hid (Bl w (w1.alloc (.cells #[.slice s len cap,iT m] 63))):=K1.out.trans (ka.mono K1.out.size);clear hb1 hcn ka HR1 HR2 S1 S2 CM;cases T with
    | true =>
     go_wp2_with (at_builtin;refine wpList_append_own_at _ rfl _ _ 61 rfl w.heap.size 63 i0 _ 2 32 Tryz.underlying61 hi hz0 hz1 hz2 rfl (by decide) _ _ _ rfl A1.out ⟨w1.heap.size,0,none⟩ 1 1 [.slice s len cap,iT m] rfl rfl HCN.out (by intro u hu;simp at hu;rcases hu with rfl | rfl <;> rfl) (by have:=HNN.out;unfold maxLen;omega) (by have:=HNN.out;omega) KA.out.size ?_;intro v3 w3 hown3 hgrow3 hnil3 hat3;obtain ⟨g3,c3,rfl⟩:=aG hown3 hnil3)
     have hg3:g3≠g2:=by
      have h1:=(A2.out.lt g2 rfl).2;have h2:=HG12.out;rcases hat3 with h | h
      · have h3:g3=g1:=Option.some.inj (show some g3=some g1 from h);omega
      · have h3:=Option.some.inj (show some g3=some _ from h);omega
     have HO3:Hid (w3.ownsRow w.heap.size 63 2 (sL g2 n2 c2) n2 ys):=A2.out.kept hgrow3 (.inr (fun e=>by have h1:g2=g1:=Option.some.inj (show some g2=some g1 from e);have:=HG12.out;omega));have KB:Hid (Bl w w3):=KA.out.grown hgrow3 KA.out.size (fun k e=>(A1.out.lt k e).1);clear hat3 hgrow3 hnil3;go_roundw
     case rel =>
      refine ⟨i+1,g3,n1+1,c3,g2,n2,c2,xs++[.slice s len cap,iT m],ys,by omega,by go_num,rfl,rfl,hg3,by have:=HNN.out;omega,hown3,HO3.out,(by rw [gS HG.out,(HPQ.out _).1,← HT.out];exact HD1.out.app HDO.out),(by rw [gS HG.out,(HPQ.out _).2,(HPQ.out _).1,← HT.out];simpa using HD2.out),KB.out⟩
     case measure=>simp [intOf];omega
    | false =>
     go_wp2_with (at_builtin;refine wpList_append_own_at _ rfl _ _ 61 rfl w.heap.size 63 i0 _ 2 32 Tryz.underlying61 hi hz0 hz1 hz2 rfl (by decide) _ _ _ rfl A2.out ⟨w1.heap.size,0,none⟩ 1 1 [.slice s len cap,iT m] rfl rfl HCN.out (by intro u hu;simp at hu;rcases hu with rfl | rfl <;> rfl) (by have:=HNN.out;unfold maxLen;omega) (by have:=HNN.out;omega) KA.out.size ?_;intro v3 w3 hown3 hgrow3 hnil3 hat3;obtain ⟨g3,c3,rfl⟩:=aG hown3 hnil3)
     have hg3:g3≠g1:=by
      have h1:=(A1.out.lt g1 rfl).2;have h2:=HG12.out;rcases hat3 with h | h
      · have h3:g3=g2:=Option.some.inj (show some g3=some g2 from h);omega
      · have h3:=Option.some.inj (show some g3=some _ from h);omega
     have HO3:Hid (w3.ownsRow w.heap.size 63 2 (sL g1 n1 c1) n1 xs):=A1.out.kept hgrow3 (.inr (fun e=>by have h1:g1=g2:=Option.some.inj (show some g1=some g2 from e);have:=HG12.out;omega));have KB:Hid (Bl w w3):=KA.out.grown hgrow3 KA.out.size (fun k e=>(A2.out.lt k e).1);clear hat3 hgrow3 hnil3;go_roundw
     case rel =>
      refine ⟨i+1,g1,n1,c1,g3,n2+1,c3,xs,ys++[.slice s len cap,iT m],by omega,by go_num,rfl,rfl,fun e=>hg3 e.symm,by have:=HNN.out;omega,HO3.out,hown3,(by rw [gS HG.out,(HPQ.out _).1,← HT.out];simpa using HD1.out),(by rw [gS HG.out,(HPQ.out _).2,(HPQ.out _).1,← HT.out];exact HD2.out.app HDO.out),KB.out⟩
     case measure=>simp [intOf];omega
  · have hltI:¬(i:Int)<(n:Int):=by omega
    have hfull:B.take i=B:=List.take_of_length_le (by rw [HL.out];omega);have D1:=HD1.out.low HK.out;have D2:=HD2.out.low HK.out;rw [hfull] at D1 D2;obtain ⟨a5,c5,e5,R5⟩:=iJ HR1.out D1.den;obtain ⟨a6,c6,e6,R6⟩:=iJ HR2.out D2.den;cases e5;cases e6;have H5:Hid (az 0 wr (pT g1) n1 c1 (B.filter p)):=R5;have H6:Hid (az 0 wr (pT g2) n2 c2 (B.filter q)):=R6;clear D1 D2 hfull R5 R6;go_wp2;exact bodyPost_ret (v:=.tuple #[sL g1 n1 c1,sL g2 n2 c2]) (by simp [results,Tryz.results177,go_sem]) rfl ⟨_,_,_,_,_,_,rfl,H5.out,H6.out,HK.out⟩
theorem p9 (a:Option Addr) (n c:Nat) (B:List ag) (w:World) (h:az 0 w a n c B) (hn:n≤1000) :
 Calls Tryz.prog 178 #[.slice a n c] w (pD n B w):=by
 have HB:=b6 h;have HL:Hid (B.length=n):=h.length;obtain ⟨i0,hi,hz0,hz1,hz2⟩:=info_parts Tryz.infoEntS;clear h;have R1:Hid ((w.alloc (.cells #[] 28)).ownsRow w.heap.size 28 1 (sL (w.heap.size) 0 0) 0 []):=by
  have:=World.ownsRow_lit (base:=w.heap.size) (e:=28) (size:=1) w #[] 0 (Nat.le_refl _) (by simp) (by simp);show World.ownsRow _ _ _ _ _ _ _
  simpa using this
 have K1:Hid (Bl w (w.alloc (.cells #[] 28))):=bZ;go_enter Tryz.func178,Tryz.ntmps178
 go_wp2;go_loopw [3,4] (fun vv iv wr=>∃(i:Nat) (vs:List Value),i≤n∧iv=iT i∧wr.ownsRow w.heap.size 28 1 vv i vs∧mY w vs (bn (B.take i))∧Bl w wr) (fun _ iv _=>n - (intOf iv).toNat)
 case atStart=>exact ⟨0,[],Nat.zero_le _,rfl,R1.out,zL _,K1.out⟩
 case round =>
  clear R1 K1;obtain ⟨i,vs,hin,rfl,hr,hd,hb⟩:=hrel;have HR:Hid (wr.ownsRow w.heap.size 28 1 _ i vs):=hr;have HD:Hid (mY w vs (bn (B.take i))):=hd;have HK:Hid (Bl w wr):=hb;clear hr hd;by_cases hlt:i<n
  · have hltI:(i:Int)<(n:Int):=by omega
    obtain ⟨b,off,rfl,hbb⟩:=HB.out.form (by omega);obtain ⟨L,m,s,len,cap,hg,hwf,c0,c1,hE⟩:=HB.out.run (Below.refl _ w) i hlt;have HG:Hid (B[i]?=some (L,m)):=hg;have HE:Hid (aj w s len cap L):=hE.1;have c0:=cell_later hb c0;have c1:=cell_later hb c1;have zb:b<wr.heap.size:=Nat.lt_of_lt_of_le hbb hb.size;have ka:Bl wr (wr.alloc (.cells #[.slice s len cap] 28)):=bZ;have hcn:=eD wr (.slice s len cap) 28

    have HCN:=b6 hcn;have HA:Hid ((wr.alloc (.cells #[.slice s len cap] 28)).ownsRow w.heap.size 28 1 _ i vs):=bF HR.out ka;have KA:Hid (Bl w (wr.alloc (.cells #[.slice s len cap] 28))):=HK.out.trans (ka.mono HK.out.size);clear hg hwf hE hb ka hcn HR;go_wp2_with (at_builtin;refine wpList_append_own _ rfl _ _ 102 rfl w.heap.size 28 i0 _ 1 24 Tryz.underlying102 hi hz0 hz1 hz2 rfl (by decide) _ _ _ rfl HA.out ⟨wr.heap.size,0,none⟩ 1 1 [.slice s len cap] rfl rfl HCN.out (by intro u hu;simp at hu;subst hu;rfl) (by unfold maxLen;omega) (by omega) KA.out.size ?_;intro v3 w3 hown3 hgrow3 hnil3)
    have KB:Hid (Bl w w3):=KA.out.grown hgrow3 KA.out.size (fun k e=>(HA.out.lt k e).1);have HO3:Hid (w3.ownsRow w.heap.size 28 1 v3 (i+1) (vs++[.slice s len cap])):=hown3;clear hown3 hgrow3 hnil3;go_roundw
    case rel=>exact ⟨i+1,vs++[.slice s len cap],by omega,by go_num,HO3.out,(by rw [te HG.out];exact HD.out.snoc HE.out),KB.out⟩
    case measure=>simp [intOf];omega
  · have hltI:¬(i:Int)<(n:Int):=by omega
    obtain rfl:i=n:=by omega
    have hfull:B.take i=B:=List.take_of_length_le (by rw [HL.out];omega);have hd:=HD.out;rw [hfull] at hd;have HD2:Hid (mY w vs (bn B)):=hd;clear hd hfull;go_wp2;go_ret;exact (show pD _ B w _ _ from ⟨_,vs,rfl,HR.out,HD2.out,HK.out⟩)
end Go.Proofs.YtpobkmjicbobdaaGreat
