/- Walks. -/
import Derived.Test.YtehiefdphnljaaaGreatDoorSw00
import Derived.Lib.SlBytesRow
import Derived.Deep.SlicePairs
import Derived.OpenShut
namespace Go.Proofs.YtehiefdphnljaaaGreatDoor
set_option maxRecDepth 100000
set_option maxHeartbeats 40000000
open Go.ChangeShapes Go.Joins Go.RowKit Go.WideShapes
variable {L M:List ae} {S:List Int} {W w w' w'' wr:World} {ak am av:Option Addr} {b base c cap cm cs cv g hi len lo lo' n n0 nm ns nv off size sz t:Nat} {held:Bool} {v:Value} {xs:List Value}
def b9 (e:ae):List Value:=[.string e.1,iT e.2.1,iT e.2.2.1,.string e.2.2.2.1,iT e.2.2.2.2]
def aG (L:List ae):List Value:=L.flatMap b9
theorem bE (A B:List ae):aG (A++B)=aG A++aG B:=by simp [aG]
theorem bW (L:List ae):(aG L).length=L.length*5:=by
 induction L with
 | nil=>rfl
 | cons l r ih=>simp [aG,b9] at ih ⊢;omega
theorem tW (l:ae) (r:List ae):aG (l :: r)=.string l.1 :: iT l.2.1 :: iT l.2.2.1 :: .string l.2.2.2.1 :: iT l.2.2.2.2 :: aG r:=rfl
theorem js (L:List ae) (j:Nat) (l:ae) (h:L[j]?=some l):fx (aG L) j l:=by
 induction L generalizing j with
 | nil=>simp at h
 | cons a r ih =>
  rw [tW];cases j with
  | zero=>simp at h;subst h;exact ⟨rfl,rfl,rfl,rfl,rfl⟩
  | succ j =>
   simp at h;obtain ⟨h0,h1,h2,h3,h4⟩:=ih j h;refine ⟨?_,?_,?_,?_,?_⟩
   · rw [show (j+1)*5=j*5+1+1+1+1+1 by omega];simpa using h0
   · rw [show (j+1)*5+1=j*5+1+1+1+1+1+1 by omega];simpa using h1
   · rw [show (j+1)*5+2=j*5+2+1+1+1+1+1 by omega];simpa using h2
   · rw [show (j+1)*5+3=j*5+3+1+1+1+1+1 by omega];simpa using h3
   · rw [show (j+1)*5+4=j*5+4+1+1+1+1+1 by omega];simpa using h4
theorem mS (hx:xs.length=L.length*5) (hh:∀j l,L[j]?=some l→fx xs j l):xs=aG L:=by
 apply List.ext_getElem?;intro i;by_cases hi:i<L.length*5
 · have hj:i / 5<L.length:=by omega
   obtain ⟨a0,a1,a2,a3,a4⟩:=hh (i / 5) L[i / 5] (List.getElem?_eq_getElem hj);obtain ⟨b0,b1,b2,b3,b4⟩:=js L (i / 5) L[i / 5] (List.getElem?_eq_getElem hj);have:i=i / 5*5∨i=i / 5*5+1∨i=i / 5*5+2∨i=i / 5*5+3∨i=i / 5*5+4:=by omega
   rcases this with e | e | e | e | e
   · rw [e,a0,b0]
   · rw [e,a1,b1]
   · rw [e,a2,b2]
   · rw [e,a3,b3]
   · rw [e,a4,b4]
 · rw [List.getElem?_eq_none (by omega),List.getElem?_eq_none (by rw [bW];omega)]
theorem bF (L:List ae):∀u ∈ aG L,u.oneCell'=true:=by
 intro u hu;simp only [aG,List.mem_flatMap,b9,List.mem_cons,List.not_mem_nil,or_false] at hu;obtain ⟨l,_,rfl | rfl | rfl | rfl | rfl⟩:=hu <;> rfl
structure aE (w:World) (base b n cap:Nat) (L:List ae):Prop where
 owns:w.ownsRow base 59 5 (sL b n cap) n (aG L)
 len:L.length=n
 ents:∀l ∈ L,dt l
theorem aE.entsAt (h:aE w base b n cap L):an w (pT b) n cap L :=
 og h.owns h.len h.ents (fun j l hl=>js L j l hl)
theorem aE.lt (h:aE w base b n cap L):base≤b∧b<w.heap.size:=h.owns.lt b rfl
theorem aE.grown {row:Option Nat} (h:aE w base b n cap L) (hg:w.grownBy w' row) (hne:some b≠row):aE w' base b n cap L :=
 ⟨h.owns.kept hg (.inr hne),h.len,h.ents⟩
theorem aE.below (h:aE w base b n cap L) (hb:Bl w w'):aE w' base b n cap L:=h.grown (row:=none) ⟨hb.os,hb.tape,hb.output,hb.size,fun k hk _=>hb.block k hk⟩ (by simp)
theorem aE.setCell (h:aE w base b n cap L) {p:Addr} (hp:p.block≠b) (u:Value):aE (w.setCell p u) base b n cap L :=
 h.grown (row:=some p.block) ⟨rfl,rfl,rfl,by simp [World.setCell],fun k _ hk=>Below.heap_setCell _ _ _ _ (fun e=>hk (by rw [e]))⟩ (fun e=>hp (by cases e;rfl))
theorem aE.mono {base':Nat} (h:aE w base b n cap L) (hb:base'≤base):aE w base' b n cap L:=by
 refine ⟨⟨h.owns.1,?_⟩,h.len,h.ents⟩;rcases h.owns.2 with h2 | ⟨g,cap,cur,hv,hg,r⟩
 · exact Or.inl h2
 · exact Or.inr ⟨g,cap,cur,hv,Nat.le_trans hb hg,r⟩
theorem fc (a:Option Addr) (len cap:Nat) (L:List ae) (w:World) (hL:an w a len cap L) (hbig:len≤1048576) :
 Calls Tryz.prog 8 #[.slice a len cap] w fun e w'=>e=.returned (sL (w.heap.size) len len)∧aE w' w.heap.size w.heap.size len len L∧w.heap.size<w'.heap.size∧Bl w w':=by
 have HLEN:Hid (L.length=len):=hL.length;have HENTS:Hid (∀l ∈ L,dt l):=hL.ents;have HL:=ar hL;clear hL;obtain ⟨i0,hi,hz0,hz1,hz2⟩:=info_parts Tryz.infoEnt;go_enter Tryz.func8,Tryz.ntmps8
 go_wp2_with (at_make;refine wpList_make_full _ rfl _ _ 33 rfl w.heap.size 59 i0 _ 5 Tryz.underlying33 hi hz0 hz1 .i64 .i64 _ _ len rfl rfl (by simp) (by simp) (by rw [hz2];omega) (by unfold maxLen;omega) (Nat.le_refl _) ?_;intro w1 hown hgrow)
 have hb1:Bl w w1:=(Below.refl _ _).grown hgrow (Nat.le_refl _) (by simp);have hsz1:w.heap.size<w1.heap.size:=(hown.lt _ rfl).2;go_loopw [4] (fun i wr=>∃(k:Nat) (xs:List Value),k≤len∧i=iT k∧wr.ownsRow w.heap.size 59 5 (sL (w.heap.size) len len) len xs∧Bl w wr∧(∀j l,j<k→L[j]?=some l→fx xs j l)) (fun i _=>len - (intOf i).toNat)
 case atStart=>exact ⟨0,_,Nat.zero_le _,rfl,hown,hb1,fun j l h=>absurd h (Nat.not_lt_zero _)⟩
 case round =>
  obtain ⟨k,xs,hk,rfl,ho,hb,hrow⟩:=hrel;have HROW:Hid (∀j l,j<k→L[j]?=some l→fx xs j l):=hrow;clear hrow hown hgrow;by_cases hlt:k<len
  · obtain ⟨b,off,rfl,hbb⟩:=HL.out.form (by omega);obtain ⟨s,q,d,t,n,hg,hlw,g0,g1,g2,g3,g4⟩:=HL.out.ent hb hbb k hlt;have HG:Hid (L[k]?=some (s,q,d,t,n)):=hg;clear hg hlw;have hxl:=ho.1;have HX:Hid (xs.length=len*5):=hxl;clear hxl;have HO:Hid (wr.ownsRow w.heap.size 59 5 (sL (w.heap.size) len len) len xs):=ho;clear ho;go_wp2_with fail
    refine (uX _ _ _ _ _ _).mono ?_;rintro e w2 ⟨rfl,hb2⟩;have ho2:w2.ownsRow w.heap.size 59 5 (sL (w.heap.size) len len) len xs:=HO.out.kept (row:=none) ⟨hb2.os,hb2.tape,hb2.output,hb2.size,fun k hk _=>hb2.block k hk⟩ (.inr (by simp [Value.ownBlock]));have c0:∃v,w2.cell? ⟨w.heap.size,k*5,none⟩=some v:=⟨_,(ho2.cellAt _ (by omega)).trans (List.getElem?_eq_getElem (by rw [HX.out];omega))⟩;have c1:∃v,w2.cell? ⟨w.heap.size,k*5+1,none⟩=some v:=⟨_,(ho2.cellAt _ (by omega)).trans (List.getElem?_eq_getElem (by rw [HX.out];omega))⟩;have c2:∃v,w2.cell? ⟨w.heap.size,k*5+2,none⟩=some v:=⟨_,(ho2.cellAt _ (by omega)).trans (List.getElem?_eq_getElem (by rw [HX.out];omega))⟩;have c3:∃v,w2.cell? ⟨w.heap.size,k*5+3,none⟩=some v:=⟨_,(ho2.cellAt _ (by omega)).trans (List.getElem?_eq_getElem (by rw [HX.out];omega))⟩;have c4:∃v,w2.cell? ⟨w.heap.size,k*5+4,none⟩=some v:=⟨_,(ho2.cellAt _ (by omega)).trans (List.getElem?_eq_getElem (by rw [HX.out];omega))⟩;obtain ⟨v0,c0⟩:=c0;obtain ⟨v1,c1⟩:=c1;obtain ⟨v2,c2⟩:=c2;obtain ⟨v3,c3⟩:=c3;obtain ⟨v4,c4⟩:=c4;have f0:w2.frozen? ⟨w.heap.size,k*5,none⟩=false:=ho2.frozenAt _;have f1:w2.frozen? ⟨w.heap.size,k*5+1,none⟩=false:=ho2.frozenAt _;have f2:w2.frozen? ⟨w.heap.size,k*5+2,none⟩=false:=ho2.frozenAt _;have f3:w2.frozen? ⟨w.heap.size,k*5+3,none⟩=false:=ho2.frozenAt _;have f4:w2.frozen? ⟨w.heap.size,k*5+4,none⟩=false:=ho2.frozenAt _;have HO2:Hid (w2.ownsRow w.heap.size 59 5 (sL (w.heap.size) len len) len xs):=ho2;clear ho2;go_wp2;go_roundw
    case rel =>
     have t0:=HO2.out.stored (k*5) (.string s);have t1:=t0.1.stored (k*5+1) (iT q);have t2:=t1.1.stored (k*5+2) (iT d);have t3:=t2.1.stored (k*5+3) (.string t);have t4:=t3.1.stored (k*5+4) (iT n);refine ⟨k+1,_,by omega,by go_num,t4.1,?_,?_⟩
     · exact (((((hb.trans (hb2.mono hb.size)).setCell (p:=⟨w.heap.size,_,none⟩) (Nat.le_refl _) _).setCell (p:=⟨w.heap.size,_,none⟩) (Nat.le_refl _) _).setCell (p:=⟨w.heap.size,_,none⟩) (Nat.le_refl _) _).setCell (p:=⟨w.heap.size,_,none⟩) (Nat.le_refl _) _).setCell (p:=⟨w.heap.size,_,none⟩) (Nat.le_refl _) _
     · intro j l hj hl;by_cases hjk:j=k
       · subst hjk;rw [HG.out] at hl;cases hl;exact iJ s t q d n (by rw [HX.out];omega)
       · exact gO (HROW.out j l (by omega) hl) hjk _ _ _ _ _
    case measure=>simp [intOf];omega
  · go_wp2;go_ret;exact ⟨rfl,⟨by rw [← mS (xs:=xs) (L:=L) (by rw [HLEN.out];exact ho.1) (fun j l hl=>HROW.out j l (by have:=(List.getElem?_eq_some_iff.1 hl).1;rw [HLEN.out] at this;omega) hl)];exact ho,HLEN.out,HENTS.out⟩,(ho.lt _ rfl).2,hb⟩
theorem an.sub {i j:Nat} (h:an w (some ⟨b,off,none⟩) len cap L) (hij:i≤j) (hj:j≤len):an w (some ⟨b,off+i*5,none⟩) (j - i) (cap - i) ((L.drop i).take (j - i)) where
 length:=by have:=h.length;simp;omega
 room:=by have:=h.room;omega
 big:=by have:=h.big;omega
 ents:=fun l hl=>h.ents l (List.mem_of_mem_drop (List.mem_of_mem_take hl))
 nil:=fun e=>by cases e
 lies:=fun x e hp=>by cases e;exact h.lies ⟨b,off,none⟩ rfl (by omega)
 cells:=fun x e k hk=>by
  cases e
  have hk':i+k<L.length:=by simp at hk;omega
  have h1:=h.cells ⟨b,off,none⟩ rfl (i+k) hk'
  have e1:off+(i+k)*5=off+i*5+k*5:=by omega
  simp only [e1] at h1
  simpa using h1
structure aI (lo hi:Nat) (w w':World):Prop where
 os:w'.os=w.os
 tape:w'.tape=w.tape
 output:w'.output=w.output
 size:w.heap.size≤w'.heap.size
 block:∀k,k<w.heap.size→(k<lo∨hi≤k)→w'.heap[k]?=w.heap[k]?
theorem aI.refl (lo hi:Nat) (w:World):aI lo hi w w:=⟨rfl,rfl,rfl,Nat.le_refl _,fun _ _ _=>rfl⟩
theorem aI.grown (h:aI lo hi w w') (hg:w'.grownBy w'' (some g)) (h1:lo≤g) (h2:g<hi):aI lo hi w w'' :=
 ⟨hg.os.trans h.os,hg.tape.trans h.tape,hg.output.trans h.output,Nat.le_trans h.size hg.size,fun k hk ho=>(hg.block k (Nat.lt_of_lt_of_le hk h.size) (fun e=>by have:=Option.some.inj e;omega)).trans (h.block k hk ho)⟩
theorem aI.own (h:aI lo hi w w') (hO:aE w base g n c L) (hg:g<lo∨hi≤g):aE w' base g n c L:=by
 refine ⟨⟨hO.owns.1,?_⟩,hO.len,hO.ents⟩;have hlt:=hO.lt.2;rcases hO.owns.2 with hn | ⟨g1,cap1,cur1,e1,hb1,hgb,rest⟩
 · exact .inl hn
 · cases e1;exact .inr ⟨g,c,cur1,rfl,hb1,(h.block g hlt hg).trans hgb,rest⟩
theorem aI.below {B:Nat} (h:aI lo hi w w') (hB:B≤lo) (hw:B≤w.heap.size):Below B w w':=⟨h.os,h.tape,h.output,h.size,fun k hk=>h.block k (by omega) (.inl (by omega))⟩
theorem aI.trans (h:aI lo hi w w') (k:aI lo hi w' w''):aI lo hi w w'' :=
 ⟨k.os.trans h.os,k.tape.trans h.tape,k.output.trans h.output,Nat.le_trans h.size k.size,fun q hq ho=>(k.block q (Nat.lt_of_lt_of_le hq h.size) ho).trans (h.block q hq ho)⟩
theorem aI.mono {hi':Nat} (h:aI lo hi w w') (h1:lo'≤lo) (h2:hi≤hi'):aI lo' hi' w w' :=
 ⟨h.os,h.tape,h.output,h.size,fun q hq ho=>h.block q hq (by omega)⟩
theorem aI.of_below (h:Bl w w'):aI lo hi w w':=⟨h.os,h.tape,h.output,h.size,fun q hq _=>h.block q hq⟩
theorem aI.row {T m:Nat} (h:aI lo hi w w') (hO:w.ownsRow base T size (sL g m c) n xs) (hg:g<lo∨hi≤g):w'.ownsRow base T size (sL g m c) n xs:=by
 refine ⟨hO.1,?_⟩;have hlt:=(hO.lt g rfl).2;rcases hO.2 with hn | ⟨g1,cap1,cur1,e1,hb1,hgb,rest⟩
 · exact .inl hn
 · cases e1;exact .inr ⟨g,c,cur1,rfl,hb1,(h.block g hlt hg).trans hgb,rest⟩
def aV (w:World) (g t sz:Nat):Prop:=∃cur:Array Value,w.heap[g]?=some (.cells cur t (0,0))∧cur.size=sz
theorem aV.lt (h:aV w g t sz):g<w.heap.size:=by
 obtain ⟨cur,h,_⟩:=h;exact (Array.getElem?_eq_some_iff.1 h).1
theorem aV.cell (h:aV w g t sz) {o:Nat} (ho:o<sz):∃v,w.cell? ⟨g,o,none⟩=some v:=by
 obtain ⟨cur,h,hs⟩:=h;exact ⟨cur[o]'(by omega),by simp [World.cell?,h,Array.getElem?_eq_getElem (show o<cur.size by omega)]⟩
theorem aV.frozen (h:aV w g t sz) (o:Nat):w.frozen? ⟨g,o,none⟩=false:=by
 obtain ⟨cur,h,hs⟩:=h;simp [World.frozen?,h]
theorem aV.setCell (h:aV w g t sz) {b o:Nat} (v:Value) (_:True:=trivial):aV (w.setCell ⟨b,o,none⟩ v) g t sz:=by
 obtain ⟨cur,h,hs⟩:=h;by_cases e:g=b
 · subst e;exact ⟨_,heap_setCell_same w g o cur t v h,by simp [hs]⟩
 · exact ⟨cur,(Below.heap_setCell _ _ _ _ e).trans h,hs⟩
theorem aV.below (h:aV w g t sz) (hb:Bl w w'):aV w' g t sz:=by
 obtain ⟨cur,h',hs⟩:=h;exact ⟨cur,(hb.block g (Array.getElem?_eq_some_iff.1 h').1).trans h',hs⟩
theorem bK {e:Nat} (h:w.ownsRow base e size (sL g n cap) n xs):aV w g e (cap*size):=by
 rcases h.2 with ⟨h',_⟩ | ⟨g',cap',cur,h',_,hg,_,_,hs,_⟩
 · simp at h'
 · simp only [Value.slice.injEq,Option.some.injEq,Addr.mk.injEq,and_true,true_and] at h';obtain ⟨rfl,rfl⟩:=h';exact ⟨cur,hg,hs⟩
theorem aV.kind {t' sz':Nat} (h:aV w g t sz) (h':aV w g t' sz'):t=t':=by
 obtain ⟨cur,h1,_⟩:=h;obtain ⟨cur',h2,_⟩:=h';rw [h1] at h2;cases h2;rfl
def iS:Nat→Nat→List UInt8→List UInt8
 | 0,_,acc=>acc
 | f+1,p,acc=>if p=0 then acc else iS f (p / 10) (UInt8.ofNat (48+p % 10) :: acc)
theorem wR (f:Nat) (acc:List UInt8):iS f 0 acc=acc:=by cases f <;> simp [iS]
def dE (k:Nat):ByteArray:=⟨#[109]⟩++⟨(iS k k []).toArray⟩
theorem dV (k:Nat) (w:World) (h1:1≤k) (h2:k≤1000000000) :
 Calls Tryz.prog 31 #[iT k] w fun e w'=>e=.returned (.string (dE k))∧Bl w w':=by
 have h1':¬(k:Int)≤0:=by omega
 go_enter Tryz.func31,Tryz.ntmps31
 go_wp2;go_loopw [0,3] (fun pv ov wr=>∃(f p:Nat) (o:ByteArray),pv=iT p∧ov=.string o∧p≤f∧o.size+p≤k∧iS f p o.data.toList=iS k k []∧Bl w wr) (fun pv _ _=>(intOf pv).toNat)
 case atStart=>exact ⟨k,k,⟨#[]⟩,rfl,rfl,Nat.le_refl _,by show 0+k≤k;omega,rfl,Below.refl _ _⟩
 case round =>
  obtain ⟨f,p,o,rfl,rfl,hpf,hok,hd,hb⟩:=hrel;have HD:Hid (iS f p o.data.toList=iS k k []):=hd;clear hd;by_cases hp:p=0
  · subst hp;have hm:dE k=⟨#[109]⟩++o:=by
     unfold dE;rw [← HD.out,wR]
    have HM:Hid (dE k=⟨#[109]⟩++o):=hm;clear hm;have ho:o.size≤1000000000:=by omega
    go_wp2;go_ret;exact ⟨by rw [HM.out];rfl,hb⟩
  · have hp0:(0:Int)<(p:Int):=by omega
    have ho:o.size≤1000000000:=by omega
    have hpk:(p:Int)≤1000000000:=by omega
    obtain ⟨f',rfl⟩:∃f',f=f'+1:=⟨f - 1,by omega⟩;obtain ⟨c,hc⟩:∃c:UInt8,c=UInt8.ofNat (48+p % 10):=⟨_,rfl⟩;have hcn:(c.toNat:Int)=48+(p:Int) % 10:=by rw [hc];simp;omega
    have hcv:∀w:World,(convert 104 9 (sL (w.heap.size) 1 1)).run Tryz.prog (w.alloc (.cells #[.int .u8 (48+(p:Int) % 10)] 5))=.ok (.string ⟨#[c]⟩) (w.alloc (.cells #[.int .u8 (48+(p:Int) % 10)] 5)):=by
     intro w;exact Lib.run_convert_whole _ 104 5 9 Tryz.underlying104 Tryz.underlying5 Tryz.underlying9 w.heap.size 0 ⟨#[c]⟩ (fun i hi=>by
      have hi0:i=0:=by
       have:i<1:=hi;omega
      subst hi0;show _=some (Value.int .u8 (c.toNat:Int))
      rw [hcn];simp) 1
    have HN:Hid (iS f' (p / 10) ((⟨#[c]⟩++o:ByteArray)).data.toList=iS k k []):=by
     show iS f' (p / 10) ((⟨#[c]⟩++o:ByteArray)).data.toList=iS k k []
     rw [← HD.out];simp [iS,hp,hc]
    have hsz:(⟨#[c]⟩++o:ByteArray).size=1+o.size:=by rw [ByteArray.size_append];rfl
    have HSZ:Hid ((⟨#[c]⟩++o:ByteArray).size+p / 10≤k):=by show (⟨#[c]⟩++o:ByteArray).size+p / 10≤k;rw [hsz];omega
    clear hc hcn hsz;go_wp2;go_roundw
    case rel=>exact ⟨f',p / 10,⟨#[c]⟩++o,by go_num,rfl,by omega,HSZ.out,HN.out,hb.alloc hb.size _⟩
    case measure=>simp [intOf];omega
theorem Tryz.cellsRunL:Tryz.prog.cellsOf 142=2:=by kernel_rfl
theorem Tryz.infoInt:(Tryz.prog.info? 3).map (fun i=>(i.zero,i.size,i.bytes))=some (some (iT 0),1,8):=by kernel_rfl
def aM (lo:Nat) (w w':World):Prop:=w.heap.size≤w'.heap.size∧∀b o,lo≤b→b<w.heap.size→w'.cell? ⟨b,o,none⟩=w.cell? ⟨b,o,none⟩
theorem aM.of_below (hb:Bl w w'):aM lo w w':=⟨hb.size,fun b o _ h=>hb.cell (p:=⟨b,o,none⟩) h⟩
theorem aM.of_set (p:Addr) (u:Value) (h:p.block<lo):aM lo w (w.setCell p u) :=
 ⟨by simp [World.setCell],fun b o hb _=>World.cell?_of_block (by rw [Below.heap_setCell _ _ _ _ (by simp only;omega)])⟩
theorem aM.trans (h:aM lo w w') (h':aM lo w' w''):aM lo w w'' :=
 ⟨Nat.le_trans h.1 h'.1,fun b o hb hl=>(h'.2 b o hb (Nat.lt_of_lt_of_le hl h.1)).trans (h.2 b o hb hl)⟩
structure bC (lo:Nat) (w:World) (a:Option Addr) (len cap:Nat) (S:List Int):Prop where
 length:S.length=len
 room:len≤cap
 big:cap≤maxLen
 wfs:∀q ∈ S,(Lit.int .i64 q).wf=true
 nil:a=none→len=0
 lies:∀x,a=some x→0<len→x.block<w.heap.size∧x.spot=none∧lo≤x.block
 cells:∀x,a=some x→∀i (h:i<S.length),w.cell? ⟨x.block,x.off+i,none⟩=some (iT S[i])
theorem bC.same {a:Option Addr} (h:bC lo w a len cap S) (hs:aM lo w w'):bC lo w' a len cap S where
 length:=h.length
 room:=h.room
 big:=h.big
 wfs:=h.wfs
 nil:=h.nil
 lies:=fun x e hp=>⟨Nat.lt_of_lt_of_le (h.lies x e hp).1 hs.1,(h.lies x e hp).2⟩
 cells:=fun x e i hi=>by
  obtain ⟨hx,_,hlo⟩:=h.lies x e (by have:=h.length;omega)
  exact (hs.2 _ _ hlo hx).trans (h.cells x e i hi)
theorem bC.keep {a:Option Addr} (h:bC lo w a len cap S) (hb:Bl w w'):bC lo w' a len cap S:=h.same (aM.of_below hb)
theorem bC.lower {a:Option Addr} (h:bC lo w a len cap S) (hl:lo'≤lo):bC lo' w a len cap S :=
 ⟨h.length,h.room,h.big,h.wfs,h.nil,fun x e hp=>⟨(h.lies x e hp).1,(h.lies x e hp).2.1,Nat.le_trans hl (h.lies x e hp).2.2⟩,h.cells⟩
theorem bC.form {a:Option Addr} (h:bC lo w a len cap S) (hl:1≤len):∃b off,a=some ⟨b,off,none⟩∧b<w.heap.size:=by
 cases a with
 | none=>have:=h.nil rfl;omega
 | some x =>
  obtain ⟨b,off,spot⟩:=x;obtain ⟨h1,h2,_⟩:=h.lies _ rfl (by omega);simp only at h1 h2;subst h2;exact ⟨b,off,rfl,h1⟩
theorem bC.num (h:bC lo w (some ⟨b,off,none⟩) len cap S) (hb:Bl w wr) (k:Nat) (hk:k<len) :
 ∃q,S[k]?=some q∧(Lit.int .i64 q).wf=true∧wr.cell? ⟨b,off+k,none⟩=some (iT q):=by
 have hk':k<S.length:=by rw [h.length];exact hk
 exact ⟨S[k],List.getElem?_eq_getElem hk',h.wfs _ (List.getElem_mem hk'),(h.keep hb).cells _ rfl k hk'⟩
theorem mT {a:Addr} (h:a.spot=none) (j:Nat):a.add j=⟨a.block,a.off+j,none⟩:=by
 obtain ⟨b,o,sp⟩:=a;simp only at h;subst h;exact add_plain _ _ _
theorem vA {H:Type} {enc:TypeId × Value→H} {x:DataW H × List MemPlace}
 (hf:DataW.trod enc Tryz.prog W base (fun _=>true) held n0 24 [v]=some x) :
 ∃(a:Option Addr) (len cap:Nat) (S:List Int),v=.slice a len cap∧bC 0 W a len cap S:=by
 have r5:Tryz.prog.cellsOf 3=1:=by kernel_rfl
 rcases Deep.open_slice Tryz.underlying24 hf with ⟨hcs,_⟩ | ⟨a,len,cap,mm,n,D,Pl,hcs,hb,hl,hm,hmm,_,hx⟩
 · simp at hcs;subst hcs;exact ⟨none,0,0,[],rfl,⟨rfl,Nat.le_refl _,Nat.zero_le _,by simp,fun _=>rfl,(fun x e=>by cases e),(fun x e=>by cases e)⟩⟩
 · simp at hcs;subst hcs;simp at hmm;rw [r5] at hx;have each:∀i,i<mm→∃q:Int,(Lit.int .i64 q).wf=true∧W.cell? (a.add i)=some (iT q):=by
    intro i hi;obtain ⟨cs',g1,g2⟩:=hx i hi;obtain ⟨_,hlen,hcell⟩:=World.cells?_some g1;match cs',hlen with
    | [u0],_ =>
     have k0:=hcell 0 (by omega);rw [Deep.add_add] at k0;obtain ⟨q,e0,_,wq⟩:=DataW.trod_int Tryz.underlying3 g2;simp at e0;subst e0;exact ⟨q,wq,by simpa using k0⟩
   obtain ⟨f,hf'⟩:=Deep.choose_lt each;have spot:0<len→a.spot=none:=fun hp=>by
    obtain ⟨_,c0⟩:=hf' 0 (by omega);simpa [Addr.add] using World.cell?_spot c0
   refine ⟨some a,len,cap,(List.range len).map f,rfl,⟨by simp,hl,hm,?_,(fun e=>by cases e),?_,?_⟩⟩
   · intro q hq;obtain ⟨i,hi,rfl⟩:=List.mem_map.1 hq;exact (hf' i (by have:=List.mem_range.1 hi;omega)).1
   · rintro x e hp;cases e;refine ⟨?_,spot hp,Nat.zero_le _⟩;obtain ⟨_,c0⟩:=hf' 0 (by omega);have:=World.block_lt_of_cell? _ _ c0;simpa [Addr.add] using this
   · rintro x e i hi;cases e;simp at hi;obtain ⟨_,g0⟩:=hf' i (by omega);rw [mT (spot (by omega))] at g0;simp only [List.getElem_map,List.getElem_range];exact g0
abbrev aq:=List ae × Int
def cT (lo:Nat) (w:World) (a:Option Addr) (len cap:Nat) (L:List ae):Prop:=an w a len cap L∧∀x,a=some x→0<len→lo≤x.block
theorem cT.same {a:Option Addr} (h:cT lo w a len cap L) (hs:aM lo w w'):cT lo w' a len cap L :=
 ⟨h.1.moved hs.1 (fun x e hp _=>hs.2 _ _ (h.2 x e hp) (h.1.lies x e hp).1),h.2⟩
theorem cT.mono {a:Option Addr} (h:cT lo w a len cap L) (hl:lo'≤lo):cT lo' w a len cap L:=⟨h.1,fun x e hp=>Nat.le_trans hl (h.2 x e hp)⟩
structure aF (lo:Nat) (w:World) (a:Option Addr) (len cap:Nat) (B:List aq):Prop where
 length:B.length=len
 room:len≤cap
 big:cap≤maxLen
 nil:a=none→len=0
 lies:∀x,a=some x→0<len→x.block<w.heap.size∧x.spot=none∧lo≤x.block
 runs:∀x,a=some x→∀i (h:i<B.length),(Lit.int .i64 B[i].2).wf=true∧∃s n c,w.cell? ⟨x.block,x.off+i*2,none⟩=some (.slice s n c)∧w.cell? ⟨x.block,x.off+i*2+1,none⟩=some (iT B[i].2)∧cT lo w s n c B[i].1
theorem aF.same {a:Option Addr} {B:List aq} (h:aF lo w a len cap B) (hs:aM lo w w'):aF lo w' a len cap B where
 length:=h.length
 room:=h.room
 big:=h.big
 nil:=h.nil
 lies:=fun x e hp=>⟨Nat.lt_of_lt_of_le (h.lies x e hp).1 hs.1,(h.lies x e hp).2⟩
 runs:=fun x e i hi=>by
  obtain ⟨hx,_,hlo⟩:=h.lies x e (by have:=h.length;omega)
  obtain ⟨hw,s,n,c,c0,c1,hL⟩:=h.runs x e i hi
  exact ⟨hw,s,n,c,(hs.2 _ _ hlo hx).trans c0,(hs.2 _ _ hlo hx).trans c1,hL.same hs⟩
theorem aF.keep {a:Option Addr} {B:List aq} (h:aF lo w a len cap B) (hb:Bl w w'):aF lo w' a len cap B:=h.same (aM.of_below hb)
theorem aF.mono {a:Option Addr} {B:List aq} (h:aF lo w a len cap B) (hl:lo'≤lo):aF lo' w a len cap B :=
 ⟨h.length,h.room,h.big,h.nil,fun x e hp=>⟨(h.lies x e hp).1,(h.lies x e hp).2.1,Nat.le_trans hl (h.lies x e hp).2.2⟩,fun x e i hi=>by obtain ⟨hw,s,n,c,c0,c1,hL⟩:=h.runs x e i hi;exact ⟨hw,s,n,c,c0,c1,hL.mono hl⟩⟩
theorem aF.form {a:Option Addr} {B:List aq} (h:aF lo w a len cap B) (hl:1≤len):∃b off,a=some ⟨b,off,none⟩∧b<w.heap.size:=by
 cases a with
 | none=>have:=h.nil rfl;omega
 | some x =>
  obtain ⟨b,off,spot⟩:=x;obtain ⟨h1,h2,_⟩:=h.lies _ rfl (by omega);simp only at h1 h2;subst h2;exact ⟨b,off,rfl,h1⟩
theorem aF.run {B:List aq} (h:aF lo w (some ⟨b,off,none⟩) len cap B) (hb:Bl w wr) (k:Nat) (hk:k<len) :
 ∃L m s n c,B[k]?=some (L,m)∧(Lit.int .i64 m).wf=true∧wr.cell? ⟨b,off+k*2,none⟩=some (.slice s n c)∧wr.cell? ⟨b,off+k*2+1,none⟩=some (iT m)∧cT lo wr s n c L:=by
 have hk':k<B.length:=by rw [h.length];exact hk
 obtain ⟨hw,s,n,c,c0,c1,hL⟩:=(h.keep hb).runs _ rfl k hk';exact ⟨B[k].1,B[k].2,s,n,c,List.getElem?_eq_getElem hk',hw,c0,c1,hL⟩
theorem aF.wfs {a:Option Addr} {B:List aq} (h:aF lo w a len cap B):∀p ∈ B,(Lit.int .i64 p.2).wf=true:=by
 intro p hp;obtain ⟨j,hj,rfl⟩:=List.getElem_of_mem hp;obtain ⟨b,off,rfl,_⟩:=h.form (by have:=h.length;omega);exact (h.runs _ rfl j hj).1
theorem sX (lo:Nat) (w:World):aF lo w none 0 0 []:=⟨rfl,Nat.le_refl _,Nat.zero_le _,fun _=>rfl,(fun x e=>by cases e),(fun x e=>by cases e)⟩
structure au (lo:Nat) (w:World) (a:Option Addr) (len cap:Nat) (V:List (List aq)):Prop where
 length:V.length=len
 room:len≤cap
 big:cap≤maxLen
 nil:a=none→len=0
 lies:∀x,a=some x→0<len→x.block<w.heap.size∧x.spot=none∧lo≤x.block
 levels:∀x,a=some x→∀i (h:i<V.length),∃s n c,w.cell? ⟨x.block,x.off+i,none⟩=some (.slice s n c)∧aF lo w s n c V[i]
theorem au.same {a:Option Addr} {V:List (List aq)} (h:au lo w a len cap V) (hs:aM lo w w'):au lo w' a len cap V where
 length:=h.length
 room:=h.room
 big:=h.big
 nil:=h.nil
 lies:=fun x e hp=>⟨Nat.lt_of_lt_of_le (h.lies x e hp).1 hs.1,(h.lies x e hp).2⟩
 levels:=fun x e i hi=>by
  obtain ⟨hx,_,hlo⟩:=h.lies x e (by have:=h.length;omega)
  obtain ⟨s,n,c,c0,hL⟩:=h.levels x e i hi
  exact ⟨s,n,c,(hs.2 _ _ hlo hx).trans c0,hL.same hs⟩
theorem au.keep {a:Option Addr} {V:List (List aq)} (h:au lo w a len cap V) (hb:Bl w w'):au lo w' a len cap V:=h.same (aM.of_below hb)
theorem au.mono {a:Option Addr} {V:List (List aq)} (h:au lo w a len cap V) (hl:lo'≤lo):au lo' w a len cap V :=
 ⟨h.length,h.room,h.big,h.nil,fun x e hp=>⟨(h.lies x e hp).1,(h.lies x e hp).2.1,Nat.le_trans hl (h.lies x e hp).2.2⟩,fun x e i hi=>by obtain ⟨s,n,c,c0,hL⟩:=h.levels x e i hi;exact ⟨s,n,c,c0,hL.mono hl⟩⟩
theorem au.form {a:Option Addr} {V:List (List aq)} (h:au lo w a len cap V) (hl:1≤len):∃b off,a=some ⟨b,off,none⟩∧b<w.heap.size:=by
 cases a with
 | none=>have:=h.nil rfl;omega
 | some x =>
  obtain ⟨b,off,spot⟩:=x;obtain ⟨h1,h2,_⟩:=h.lies _ rfl (by omega);simp only at h1 h2;subst h2;exact ⟨b,off,rfl,h1⟩
theorem au.level {V:List (List aq)} (h:au lo w (some ⟨b,off,none⟩) len cap V) (hb:Bl w wr) (k:Nat) (hk:k<len) :
 ∃B s n c,V[k]?=some B∧wr.cell? ⟨b,off+k,none⟩=some (.slice s n c)∧aF lo wr s n c B:=by
 have hk':k<V.length:=by rw [h.length];exact hk
 obtain ⟨s,n,c,c0,hL⟩:=(h.keep hb).levels _ rfl k hk';exact ⟨V[k],s,n,c,List.getElem?_eq_getElem hk',c0,hL⟩
theorem vx {H:Type} {enc:TypeId × Value→H} {x:DataW H × List MemPlace}
 (hf:DataW.trod enc Tryz.prog W base (fun _=>true) held n0 106 [v]=some x) :
 ∃(a:Option Addr) (len cap:Nat) (B:List aq),v=.slice a len cap∧aF 0 W a len cap B:=by
 have r4:Tryz.prog.cellsOf 3=1:=by kernel_rfl
 have r5:Tryz.prog.cellsOf 22=1:=by kernel_rfl
 rcases Deep.open_slice_pairs Tryz.underlying106 Tryz.underlying142 Tryz.cellsRunL rfl rfl r5 r4 hf with ⟨hcs,_⟩ | ⟨a,len,cap,mm,n,V0,V1,D0,D1,P0,P1,hcs,hb,hl,hm,hmm,_,hx⟩
 · simp at hcs;subst hcs;exact ⟨none,0,0,[],rfl,sX _ _⟩
 · simp at hcs;subst hcs;simp at hmm;have each:∀i,i<mm→∃l:aq,(Lit.int .i64 l.2).wf=true∧∃s n c,W.cell? (a.add (i*2))=some (.slice s n c)∧W.cell? (a.add (i*2+1))=some (iT l.2)∧cT 0 W s n c l.1:=by
    intro i hi;obtain ⟨c0,c1,t0,t1⟩:=hx i hi;obtain ⟨id,e1,_,wid⟩:=DataW.trod_int Tryz.underlying3 t1;obtain ⟨s,n,c,L,e0,hL⟩:=ld t0;simp at e1;rw [e0] at c0;rw [e1] at c1;exact ⟨(L,id),wid,s,n,c,c0,c1,hL,fun _ _ _=>Nat.zero_le _⟩
   obtain ⟨f,hf'⟩:=Deep.choose_lt each;have spot:0<len→a.spot=none:=fun hp=>by
    obtain ⟨_,s,n,c,c0,_⟩:=hf' 0 (by omega);simpa [Addr.add] using World.cell?_spot c0
   refine ⟨some a,len,cap,(List.range len).map f,rfl,⟨by simp,hl,hm,(fun e=>by cases e),?_,?_⟩⟩
   · rintro x e hp;cases e;refine ⟨?_,spot hp,Nat.zero_le _⟩;obtain ⟨_,s,n,c,c0,_⟩:=hf' 0 (by omega);have:=World.block_lt_of_cell? _ _ c0;simpa [Addr.add] using this
   · rintro x e i hi;cases e;simp at hi;obtain ⟨g,s,n,c,g0,g1,g2⟩:=hf' i (by omega);rw [mT (spot (by omega))] at g0 g1;simp only [List.getElem_map,List.getElem_range];exact ⟨g,s,n,c,g0,by simpa [Nat.add_assoc] using g1,g2⟩
theorem lM {H:Type} {enc:TypeId × Value→H} {x:DataW H × List MemPlace}
 (hf:DataW.trod enc Tryz.prog W base (fun _=>true) held n0 23 [v]=some x) :
 ∃(a:Option Addr) (len cap:Nat) (V:List (List aq)),v=.slice a len cap∧au 0 W a len cap V:=by
 have r5:Tryz.prog.cellsOf 106=1:=by kernel_rfl
 rcases Deep.open_slice Tryz.underlying23 hf with ⟨hcs,_⟩ | ⟨a,len,cap,mm,n,D,Pl,hcs,hb,hl,hm,hmm,_,hx⟩
 · simp at hcs;subst hcs;exact ⟨none,0,0,[],rfl,⟨rfl,Nat.le_refl _,Nat.zero_le _,fun _=>rfl,(fun x e=>by cases e),(fun x e=>by cases e)⟩⟩
 · simp at hcs;subst hcs;simp at hmm;rw [r5] at hx;have each:∀i,i<mm→∃B:List aq,∃s n c,W.cell? (a.add i)=some (.slice s n c)∧aF 0 W s n c B:=by
    intro i hi;obtain ⟨cs',g1,g2⟩:=hx i hi;obtain ⟨_,hlen,hcell⟩:=World.cells?_some g1;match cs',hlen with
    | [u0],_ =>
     have k0:=hcell 0 (by omega);rw [Deep.add_add] at k0;obtain ⟨s,n,c,B,e0,hB⟩:=vx g2;subst e0;exact ⟨B,s,n,c,by simpa using k0,hB⟩
   obtain ⟨f,hf'⟩:=Deep.choose_lt each;have spot:0<len→a.spot=none:=fun hp=>by
    obtain ⟨s,n,c,c0,_⟩:=hf' 0 (by omega);simpa [Addr.add] using World.cell?_spot c0
   refine ⟨some a,len,cap,(List.range len).map f,rfl,⟨by simp,hl,hm,(fun e=>by cases e),?_,?_⟩⟩
   · rintro x e hp;cases e;refine ⟨?_,spot hp,Nat.zero_le _⟩;obtain ⟨s,n,c,c0,_⟩:=hf' 0 (by omega);have:=World.block_lt_of_cell? _ _ c0;simpa [Addr.add] using this
   · rintro x e i hi;cases e;simp at hi;obtain ⟨s,n,c,g0,g2⟩:=hf' i (by omega);rw [mT (spot (by omega))] at g0;simp only [List.getElem_map,List.getElem_range];exact ⟨s,n,c,g0,g2⟩
structure aX (lo:Nat) (w:World) (am:Option Addr) (nm cm:Nat) (av:Option Addr) (nv cv:Nat) (ak:Option Addr) (ns cs:Nat) (M:List ae) (V:List (List aq)) (S:List Int):Prop where
 mem:cT lo w am nm cm M
 levels:au lo w av nv cv V
 snaps:bC lo w ak ns cs S
theorem aX.same {V:List (List aq)} (h:aX lo w am nm cm av nv cv ak ns cs M V S) (hs:aM lo w w'):aX lo w' am nm cm av nv cv ak ns cs M V S:=⟨h.mem.same hs,h.levels.same hs,h.snaps.same hs⟩
theorem aX.keep {V:List (List aq)} (h:aX lo w am nm cm av nv cv ak ns cs M V S) (hb:Bl w w'):aX lo w' am nm cm av nv cv ak ns cs M V S:=h.same (aM.of_below hb)
end Go.Proofs.YtehiefdphnljaaaGreatDoor
