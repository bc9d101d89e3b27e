/- Walks. -/
import Derived.Laws.AppendOwnNone
import Derived.Test.YtehiefdphnljaaaGreatDoorSw19
import Derived.Test.YtehiefdphnljaaaGreatDoorSw18
namespace Go.Proofs.YtehiefdphnljaaaGreatDoor
set_option maxRecDepth 100000
set_option maxHeartbeats 40000000
open Go.RowKit Go.Shelf
variable {E:ae} {L M:List ae} {X base e i j k n size:Nat} {l l0:List UInt8} {s:Int} {t:ByteArray} {w w':World} {xs:List Value}
theorem si (w:World) (s:ByteArray) (Q d:Int) (t:ByteArray) (m:Int):∀j u,[Value.string s,iT Q,iT d,.string t,iT m][j]?=some u→(w.alloc (.cells #[.string s,iT Q,iT d,.string t,iT m] 59)).cell? ((⟨w.heap.size,0,none⟩:Addr).add j)=some u:=by
 intro j u hu;rw [Go.WideShapes.add_plain];match j,hu with
 | 0,hu=>simp at hu;subst hu;simp
 | 1,hu=>simp at hu;subst hu;simp
 | 2,hu=>simp at hu;subst hu;simp
 | 3,hu=>simp at hu;subst hu;simp
 | 4,hu=>simp at hu;subst hu;simp
theorem kg {w w':World} {base e size n:Nat} {v:Value} {xs:List Value} (h:w.ownsRow base e size v n xs) (hb:Bl w w'):w'.ownsRow base e size v n xs:=h.kept (row:=none) ⟨hb.os,hb.tape,hb.output,hb.size,fun k hk _=>hb.block k hk⟩ (by
 cases v.ownBlock with
 | none=>exact .inl rfl
 | some x=>exact .inr (by simp))
theorem ut {v:Value} {g0:Addr} {n0 c0 m:Nat} (h:w.ownsRow base e size v n xs) (hn:v=nZ ↔ Value.slice (some g0) n0 c0=nZ∧m=0):∃g c,v=sL g n c :=
 iI h (fun e=>by cases (hn.1 e).1)
def i8 (t:ByteArray) (i:Nat) (M:List ae) (z:Int):Prop:=∀L:List ae,(∀e ∈ L,cN e=true)→L.length≤12→t.data.toList=aT L→M=L.take i∧∃j:Nat,z=(j:Int)∧t.data.toList.drop j=aT (L.drop i)
def BL (t:ByteArray) (w:World) (e:Ending) (w':World):Prop:=∃(g n c:Nat) (M:List ae),e=.returned (sL g n c)∧aE w' w.heap.size g n c M∧n≤13∧∀L:List ae,(∀e ∈ L,cN e=true)→L.length≤12→t.data.toList=aT L→M=L
theorem i8.start (t:ByteArray):i8 t 0 [] 0:=fun L _ _ h=>⟨by simp,0,rfl,by simpa using h⟩
theorem wJ (h:aT L=[]):L=[]:=by
 cases L with
 | nil=>rfl
 | cons e r =>
  have h1:=nD e;have h2:(aT (e :: r)).length=0:=by rw [h];rfl
  simp [aT] at h2;rw [h2.1] at h1;simp at h1
theorem i8.out (h:i8 t i M (j:Int)) (hj:t.size≤j) (L:List ae) (h1:∀e ∈ L,cN e=true) (h2:L.length≤12) (h3:t.data.toList=aT L):M=L:=by
 obtain ⟨e1,j',e2,e3⟩:=h L h1 h2 h3;obtain rfl:j=j':=by omega
 rw [List.drop_of_length_le (by rw [aN];exact hj)] at e3;have e4:=wJ e3.symm;have e5:=List.take_append_drop i L;rw [e4,List.append_nil] at e5;rw [e1,e5]
theorem i8.next {z:Int} (h:i8 t i M (k:Int)) (hk:k<t.size) (hE:∀(X:ae) (r:List UInt8),cN X=true→t.data.toList.drop k=fH X++r→E=X∧∃j:Nat,z=(j:Int)∧t.data.toList.drop j=r):i8 t (i+1) (M++[E]) z:=by
 intro L h1 h2 h3;obtain ⟨e1,j',e2,e3⟩:=h L h1 h2 h3;obtain rfl:k=j':=by omega
 cases hd:L.drop i with
 | nil =>
  rw [hd] at e3;have:=congrArg List.length e3;rw [List.length_drop,aN] at this;simp [aT] at this;omega
 | cons X r =>
  have hX:X ∈ L:=List.mem_of_mem_drop (by rw [hd];exact List.mem_cons_self ..);rw [hd] at e3;obtain ⟨rfl,j,rfl,hj⟩:=hE X (aT r) (h1 X hX) (by rw [e3];simp [aT]);have hi:L[i]?=some E:=by
   have:=congrArg (fun l=>l[0]?) hd;simpa [List.getElem?_drop] using this
  refine ⟨?_,j,rfl,?_⟩
  · rw [e1,List.take_add_one,hi];rfl
  · rw [hj];have:L.drop (i+1)=r:=by rw [← List.drop_drop,hd];rfl
    rw [this]
def vG:Value→Nat
 | .slice _ n _=>n
 | _=>0
theorem yx (t:ByteArray) (w:World) (ht:t.size≤1048576) :
 Calls Tryz.prog 139 #[.string t] w fun e w'=>BL t w e w'∧Bl w w':=by
 obtain ⟨i0,hi,hz0,hz1,hz2⟩:=info_parts Tryz.infoEnt;have HE0:Hid ((w.alloc (.cells #[] 59)).ownsRow w.heap.size 59 5 (sL (w.heap.size) 0 0) 0 (aG [])):=by
  have:=World.ownsRow_lit (base:=w.heap.size) (e:=59) (size:=5) w #[] 0 (Nat.le_refl _) (by simp) (by simp);show World.ownsRow _ _ _ _ _ _ _
  simpa [aG] using this
 have hB0:Bl w (w.alloc (.cells #[] 59)):=bZ;go_enter Tryz.func139,Tryz.ntmps139
 go_wp2;go_loopw [3,4] (fun vv zv wr=>∃(i:Nat) (M:List ae) (z:Int),i≤13∧zv=iT z∧ea t z∧(∃g c',vv=sL g i c')∧wr.ownsRow w.heap.size 59 5 vv i (aG M)∧M.length=i∧(∀l ∈ M,dt l)∧i8 t i M z∧Bl w wr) (fun vv _ _=>13 - vG vv)
 case atStart=>exact ⟨0,[],0,by omega,rfl,Or.inr ⟨0,rfl,by omega⟩,⟨_,_,rfl⟩,HE0.out,rfl,by simp,i8.start t,hB0⟩
 case round =>
  clear HE0 hB0;obtain ⟨i,M,z,hin,rfl,hpl,⟨gv,cv,rfl⟩,hv,hml,hw,hbi,hb⟩:=hrel;have HV:Hid (wr.ownsRow w.heap.size 59 5 (sL gv i cv) i (aG M)):=hv;have HW:Hid (∀l ∈ M,dt l):=hw;have HBI:Hid (i8 t i M z):=hbi;have HML:Hid (M.length=i):=hml;have HB:Hid (Bl w wr):=hb;have hbz:=hb.size;have HRES:Hid (aE wr w.heap.size gv i cv M):=⟨hv,hml,hw⟩;clear hv hw hbi hml hb;rcases hpl with rfl | ⟨j,rfl,hj⟩
  · go_wp2;go_ret;refine ⟨⟨gv,i,cv,M,rfl,HRES.out,hin,fun L h1 h2 h3=>?_⟩,HB.out⟩;obtain ⟨_,j',e2,_⟩:=HBI.out L h1 h2 h3;omega
  have hj0:(j:Int) ≥ 0:=by omega
  by_cases hlt:j<t.size
  · have hltI:(j:Int)<(t.size:Int):=by omega
    by_cases h12:i≤12
    · have h12I:(i:Int)≤12:=by omega
      obtain ⟨W0,hW0⟩:∃W,W=wr.alloc (.cells #[.string ⟨#[]⟩,iT 0,iT 0,.string ⟨#[]⟩,iT 0] 59):=⟨_,rfl⟩;have kq:Bl wr W0:=by rw [hW0];exact bZ
      have E0:cD W0 wr.heap.size (.string ⟨#[]⟩) (iT 0) (iT 0) (.string ⟨#[]⟩) (iT 0):=by rw [hW0];exact cD.new _ _ _ _ _ _ _
      have HV0:Hid (W0.ownsRow w.heap.size 59 5 (sL gv i cv) i (aG M)):=kg HV.out kq;have HBQ:Hid (Bl w W0):=HB.out.trans (kq.mono HB.out.size);have HGV:Hid (gv<wr.heap.size):=(HV.out.lt gv rfl).2;go_wp2_with fail
      rw [← hW0];obtain ⟨E,hE⟩:=aw wr.heap.size;rw [← hE] at E0;simp only [← hE];have HEB:Hid (w.heap.size≤E∧gv<E):=by have:=HGV.out;exact ⟨by omega,by omega⟩
      clear hE hW0 kq;refine (yv t j _ (by omega) ht).mono ?_;rintro e w1 ⟨⟨kk,tt,q,d,n,z,rfl,hew,hpz,hent⟩,hb1⟩;have HEW:Hid (dt (kk,q,d,tt,n)):=hew;have HPZ:Hid (ea t z):=hpz;have HENT:Hid (i8 t (i+1) (M++[(kk,q,d,tt,n)]) z):=HBI.out.next hlt hent;have E1:=E0.below hb1;have HV1:Hid (w1.ownsRow w.heap.size 59 5 (sL gv i cv) i (aG M)):=kg HV0.out hb1;have HB1:Hid (Bl w w1):=HBQ.out.trans (hb1.mono HBQ.out.size);clear hew hpz hent hb1 E0;have f0:=E1.all;have b0:w1.frozen? ⟨E,0,none⟩=false:=E1.fr 0;have b1:w1.frozen? ⟨E,1,none⟩=false:=E1.fr 1;have b2:w1.frozen? ⟨E,2,none⟩=false:=E1.fr 2;have b3:w1.frozen? ⟨E,3,none⟩=false:=E1.fr 3;have b4:w1.frozen? ⟨E,4,none⟩=false:=E1.fr 4;have hEl:=E1.lt;obtain ⟨W2,hW2⟩:∃W,W=((((w1.setCell ⟨E,0,none⟩ (.string kk)).setCell ⟨E,1,none⟩ (iT q)).setCell ⟨E,2,none⟩ (iT d)).setCell ⟨E,3,none⟩ (.string tt)).setCell ⟨E,4,none⟩ (iT n):=⟨_,rfl⟩;have E2:cD W2 E (.string kk) (iT q) (iT d) (.string tt) (iT n):=by rw [hW2];exact E1.setAll _ _ _ _ _
      have G2:w1.grownBy W2 (some E):=by
       rw [hW2];exact ⟨rfl,rfl,rfl,by simp [World.setCell],fun x _ hx=>by
        have hx':x≠E:=fun e=>hx (by rw [e])
        rw [Below.heap_setCell _ _ _ _ hx',Below.heap_setCell _ _ _ _ hx',Below.heap_setCell _ _ _ _ hx',Below.heap_setCell _ _ _ _ hx',Below.heap_setCell _ _ _ _ hx']⟩
      have HV2:Hid (W2.ownsRow w.heap.size 59 5 (sL gv i cv) i (aG M)):=HV1.out.kept G2 (.inr (by have:=HEB.out.2;simp [Value.ownBlock];omega));have HB2:Hid (Bl w W2):=HB1.out.grown G2 HB1.out.size (fun k e=>by cases e;exact HEB.out.1);clear G2 E1;go_upto_region 6 with fail
      rw [← hW2];clear hW2 f0 b0 b1 b2 b3 b4 hEl;have f0:=E2.all;have HCN:Hid (∀j u,[Value.string kk,iT q,iT d,.string tt,iT n][j]?=some u→(W2.alloc (.cells #[.string kk,iT q,iT d,.string tt,iT n] 59)).cell? ((⟨W2.heap.size,0,none⟩:Addr).add j)=some u):=si W2 kk q d tt n;have ka:Bl W2 (W2.alloc (.cells #[.string kk,iT q,iT d,.string tt,iT n] 59)):=bZ;have HVA:Hid ((W2.alloc (.cells #[.string kk,iT q,iT d,.string tt,iT n] 59)).ownsRow w.heap.size 59 5 (sL gv i cv) i (aG M)):=kg HV2.out ka;have HBA:Hid (Bl w (W2.alloc (.cells #[.string kk,iT q,iT d,.string tt,iT n] 59))):=HB2.out.trans (ka.mono HB2.out.size);clear ka;go_wp2_with (at_builtin;refine wpList_append_own _ rfl _ _ 33 rfl w.heap.size 59 i0 _ 5 56 Tryz.underlying33 hi hz0 hz1 hz2 rfl (by decide) _ _ _ rfl HVA.out ⟨W2.heap.size,0,none⟩ 1 1 [.string kk,iT q,iT d,.string tt,iT n] rfl rfl HCN.out (by intro u hu;simp at hu;rcases hu with rfl | rfl | rfl | rfl | rfl <;> rfl) (by unfold maxLen;omega) (by omega) HBA.out.size ?_;intro v2 w2 hown2 hgrow2 hnil2;obtain ⟨g2,c2,rfl⟩:=ut hown2 hnil2)
      go_roundw
      case rel =>
       refine ⟨i+1,M++[(kk,q,d,tt,n)],z,by omega,rfl,HPZ.out,⟨_,_,rfl⟩,?_,by rw [List.length_append,HML.out];rfl,?_,HENT.out,?_⟩
       · rw [bE];exact hown2
       · intro l hl;rcases List.mem_append.1 hl with h | h
         · exact HW.out l h
         · rw [List.mem_singleton] at h;subst h;exact HEW.out
       · exact HBA.out.grown hgrow2 HBA.out.size (fun k e=>(HVA.out.lt k e).1)
      case measure=>simp [vG];omega
    · have h12I:¬(i:Int)≤12:=by omega
      go_wp2;go_ret;refine ⟨⟨gv,i,cv,M,rfl,HRES.out,hin,fun L h1 h2 h3=>?_⟩,HB.out⟩;obtain ⟨e1,_⟩:=HBI.out L h1 h2 h3;have h4:=HML.out;rw [e1,List.length_take] at h4;omega
  · have hltI:¬(j:Int)<(t.size:Int):=by omega
    go_wp2;go_ret;exact ⟨⟨gv,i,cv,M,rfl,HRES.out,hin,fun L h1 h2 h3=>HBI.out.out (by omega) L h1 h2 h3⟩,HB.out⟩
def kQ (B : Nat) (w : World) : Prop := ∀ w', Below B w w' → Lib.TabIs Tryz.prog w' "internal/strconv.uint64pow10" .u64 Lib.pow10Tab
theorem bT.new (w:World) (T:TypeId) (t:ByteArray) (k:Nat) (hk:k≤t.size):bT (w.alloc (.cells #[.string t,iT (k:Int)] T)) w.heap.size t k :=
 ⟨by simp,by simp,fun o=>World.frozen?_alloc_new w _ _ o,hk⟩
theorem bT.grown {R:Nat} (h:bT w X t k) (hg:w.grownBy w' (some R)) (hn:X≠R):bT w' X t k :=
 ⟨(ay hg (x:=⟨X,0,none⟩) h.lt hn).trans h.c0,(ay hg (x:=⟨X,1,none⟩) h.lt hn).trans h.c1,fun o=>(World.frozen?_of_block (hg.block X h.lt (fun e=>hn (by cases e;rfl)))).trans (h.fz o),h.le⟩
theorem bT.gro {r:Option Nat} (h:bT w X t k) (hg:w.grownBy w' r) (hn:¬r=some X):bT w' X t k:=by
 have hb:=hg.block X h.lt (fun e=>hn e.symm);exact ⟨(World.cell?_of_block (a:=⟨X,0,none⟩) hb).trans h.c0,(World.cell?_of_block (a:=⟨X,1,none⟩) hb).trans h.c1,fun o=>(World.frozen?_of_block (a:=⟨X,o,none⟩) hb).trans (h.fz o),h.le⟩
def Cc (t:ByteArray) (k X:Nat) (e:Ending) (w':World):Prop :=
 (∃(L:List ae) (a:Option Addr) (n c:Nat),eN (t.data.toList.drop k) L∧e=.returned (.tuple #[.slice a n c,.bool true])∧an w' a n c L∧n≤12∧bT w' X t (k+(aY L).length)) ∨
 ((∀L,¬eN (t.data.toList.drop k) L)∧e=.returned (.tuple #[nZ,.bool false])∧bT w' X t k)
def ol (s:Int) (l0:List UInt8) (i:Nat) (M:List ae) (l:List UInt8):Prop:=M++fS (12 - i) s l=fS 12 s l0
theorem ol.next {l':List UInt8} (h:ol s l0 i M l) (hi:i<12) (hs:s<(l.length:Int)) (he:(E,l')=rY l):ol s l0 (i+1) (M++[E]) l':=by
 unfold ol at *;rw [← h,show 12 - i=(12 - (i+1))+1 by omega,fS,if_pos hs,← he];simp
theorem ol.out (h:ol s l0 i M l) (hi:12≤i∨¬s<(l.length:Int)):M=fS 12 s l0:=by
 unfold ol at h;rw [← h];have:fS (12 - i) s l=[]:=by
  rcases hi with hi | hi
  · rw [show 12 - i=0 by omega];rfl
  · cases 12 - i with
    | zero=>rfl
    | succ x=>rw [fS,if_neg hi]
 rw [this,List.append_nil]
theorem Ay {v:Value} (h:w.ownsRow base 59 5 v i (aG M)) (hl:M.length=i) (hw:∀l ∈ M,dt l):∃a c,v=.slice a i c∧an w a i c M:=by
 rcases h.2 with ⟨hv,h0⟩ | ⟨g,cap,cur,hv,h1,h2⟩
 · subst h0;have hM:M=[]:=List.length_eq_zero_iff.1 hl;subst hM;exact ⟨none,0,hv,⟨rfl,Nat.le_refl _,by unfold maxLen;omega,hw,fun _=>rfl,fun x e=>(by cases e),fun x e=>(by cases e)⟩⟩
 · subst hv;exact ⟨_,cap,rfl,(aE.entsAt ⟨h,hl,hw⟩)⟩
theorem Bj {v N:Int} (hF:eN (t.data.toList.drop k) L) (ht:t.size≤1048576) (hj:j≤t.size) (hn:(v,t.data.toList.drop j)=fT (t.data.toList.drop k)) (hN:IntKind.i64.wrap ((j:Int)+v)=N):fS 12 ((t.size:Int) - N) (t.data.toList.drop j)=L:=by
 obtain ⟨h1,r,h2,h3⟩:=lx hF;have hs:=dO hF.1;rw [← hn] at h1 h2 h3;simp only at h1 h2 h3;have e1:IntKind.i64.wrap ((j:Int)+v)=(j:Int)+v:=by rw [IntWalk.i64_left];unfold wrap64;omega
 rw [e1] at hN;rw [List.length_drop,aN] at h3;rw [← h3];congr 1
 omega
theorem wy (h:bG L=true):∀e ∈ L,e.1.size≤281474976710656∧e.2.2.2.1.size≤281474976710656:=by
 intro e he;obtain ⟨_,_,h3⟩:=cO h;have h4:=dX (h3 e he);omega
theorem uu {w w':World} {base e size n A:Nat} {v:Value} {xs:List Value} (h:w.ownsRow base e size v n xs) (hg:w.grownBy w' (some A)) (hA:A<base):w'.ownsRow base e size v n xs:=h.kept hg (by
 have h1:=fun k e=>(h.lt k e).1
 revert h1
 cases v.ownBlock with
 | none=>intro _;exact .inl rfl
 | some x=>intro h1;exact .inr (fun e=>by have:=h1 x rfl;have:=Option.some.inj e;omega))
theorem gX {a:World} {o:Nat} {u:Value} (h:a.grownBy w (some X)):a.grownBy (w.setCell ⟨X,o,none⟩ u) (some X) :=
 ⟨h.os,h.tape,h.output,by simpa [World.setCell] using h.size,fun k hk hn=>(Below.heap_setCell _ _ _ _ (fun e=>hn (by rw [e]))).trans (h.block k hk hn)⟩
theorem my (t:ByteArray) (k:Nat):(t.extract k t.size).data.toList=t.data.toList.drop k:=by
 rw [dA,List.take_of_length_le (by rw [List.length_drop,aN];omega)]
theorem wZ (B X k:Nat) (t:ByteArray) (w:World) (h:bT w X t k) (ht:t.size≤1048576) (hB:B≤X) (hE:iy B w) (hT:kQ B w) :
 Calls Tryz.prog 164 #[.pointer (pT X)] w fun e w'=>Cc t k X e w'∧w.grownBy w' (some X):=by
 have HL:=ar h;have HE:=ar hE;have HT:=ar hT;have hX:=h.lt;have c0:=h.c0;have c1:=h.c1;have hkt:=h.le;clear h hE hT;obtain ⟨i0,hi,hz0,hz1,hz2⟩:=info_parts Tryz.infoEnt;obtain ⟨W0,hW0⟩:∃W,W=w.alloc (.cells #[.string t,iT (k:Int)] 216):=⟨_,rfl⟩;have k0:Bl w W0:=by rw [hW0];exact bZ
 have A0:bT W0 w.heap.size t k:=by rw [hW0];exact bT.new _ _ _ _ hkt
 have L0:=HL.out.below k0;have hwz:W0.heap.size=w.heap.size+1:=by rw [hW0];simp
 have HWZ:Hid (W0.heap.size=w.heap.size+1):=hwz;clear hwz;go_enter Tryz.func164,Tryz.ntmps164
 go_wp2_with fail
 rw [← hW0];obtain ⟨A,hA⟩:=aw w.heap.size;have HA:Hid (A=w.heap.size):=hA;have hXA:X<A:=by omega
 rw [← hA] at A0;simp only [← hA];clear hA hW0 c0 c1;have HB0:Hid (Bl w W0):=k0;have RE0:iy B W0:=fun w' kk=>HE.out w' ((HB0.out.mono (by omega)).trans kk)
 refine (fM B A k t _ A0 ht (by omega) RE0).mono ?_;rintro e w1 ⟨v,j,rfl,hv,hwv,A1,g1⟩;have HV:Hid ((v,t.data.toList.drop j)=fT (t.data.toList.drop k)):=hv;have L1:Hid (bT w1 X t k):=L0.grown g1 (by omega);have HB1:Hid (Bl w w1):=HB0.out.grown g1 HB0.out.size (fun x e=>by have:=HA.out;have:=Option.some.inj e;omega);have HZ1:Hid (A+1≤w1.heap.size):=by have h1:=g1.size;have h2:=HWZ.out;have h3:=HA.out;show _≤_;omega
 have HA1:Hid (bT w1 A t j):=A1;have hjt:=A1.le;clear hv g1 A0 L0 RE0 k0;obtain ⟨N,hN⟩:∃N,IntKind.i64.wrap ((j:Int)+v)=N:=⟨_,rfl⟩;have HN:Hid (IntKind.i64.wrap ((j:Int)+v)=N):=hN;have HBAT:Hid (∀L,eN (t.data.toList.drop k) L→fS 12 ((t.size:Int) - N) (t.data.toList.drop j)=L):=fun L hL=>Bj hL ht hjt HV.out HN.out
 have a1:=A1.c1;have hAl:=A1.lt;clear A1;go_wp2;clear a1 hAl hN;go_loopw [7] (fun vv wr=>∃(i jj:Nat) (M:List ae),i≤12∧wr.ownsRow (A+1) 59 5 vv i (aG M)∧M.length=i∧(∀l ∈ M,dt l)∧bT wr A t jj∧ol ((t.size:Int) - N) (t.data.toList.drop j) i M (t.data.toList.drop jj)∧bT wr X t k∧Bl w wr∧A+1≤wr.heap.size) (fun vv _=>12 - vG vv)
 case atStart=>exact ⟨0,j,[],by omega,⟨rfl,Or.inl ⟨rfl,rfl⟩⟩,rfl,by simp,HA1.out,rfl,L1.out,HB1.out,HZ1.out⟩
 case round =>
  clear L1 HB1 HA1 HZ1;obtain ⟨i,jj,M,hi12,hv,hml,hw,hA,hbi,hLX,hb,hz⟩:=hrel;obtain ⟨ax,cx,rfl,hEnt⟩:=Ay hv hml hw;have HEN:Hid (an wr ax i cx M):=hEnt;have HV2:Hid (wr.ownsRow (A+1) 59 5 (.slice ax i cx) i (aG M)):=hv;have HW:Hid (∀l ∈ M,dt l):=hw;have HML:Hid (M.length=i):=hml;have HBI:Hid (ol ((t.size:Int) - N) (t.data.toList.drop j) i M (t.data.toList.drop jj)):=hbi;have HLA:Hid (bT wr A t jj):=hA;have HLX:Hid (bT wr X t k):=hLX;have HB:Hid (Bl w wr):=hb;have HZ:Hid (A+1≤wr.heap.size):=hz;have HAX4:Hid (∀x,ax=some x→x.block≠X):=fun x e hx=>by subst e;have h1:=(HV2.out.lt x.block rfl).1;omega
  have a1:=hA.c1;have hAl:=hA.lt;have hjl:=hA.le;clear hv hw hml hbi hLX hb hEnt;by_cases hlt:(jj:Int)<N
  · by_cases h12:i<12
    · have h12I:(i:Int)<12:=by omega
      go_wp2_with fail
      refine (wL B A jj t _ HLA.out ht (by omega) (fun w' kk=>HE.out w' ((HB.out.mono (by omega)).trans kk))).mono ?_;rintro e w2 ⟨kk,tt,q,d,n,jn,rfl,hent,hew,hL2,hg2⟩;have HEW:Hid (dt (kk,q,d,tt,n)):=hew;have HBN:Hid (ol ((t.size:Int) - N) (t.data.toList.drop j) (i+1) (M++[(kk,q,d,tt,n)]) (t.data.toList.drop jn)):=HBI.out.next h12 (by rw [List.length_drop,aN];omega) hent;have HL2:Hid (bT w2 A t jn):=hL2;have HX2:Hid (bT w2 X t k):=HLX.out.grown hg2 (by omega);have HV3:Hid (w2.ownsRow (A+1) 59 5 (.slice ax i cx) i (aG M)):=uu HV2.out hg2 (by omega);have HB2:Hid (Bl w w2):=HB.out.grown hg2 HB.out.size (fun x e=>by have:=HA.out;have:=Option.some.inj e;omega);have HZ2:Hid (A+1≤w2.heap.size):=Nat.le_trans HZ.out hg2.size;clear hent hew hL2 hg2 a1 hAl HEN HLX HB HLA;have HCN:Hid (∀j u,[Value.string kk,iT q,iT d,.string tt,iT n][j]?=some u→(w2.alloc (.cells #[.string kk,iT q,iT d,.string tt,iT n] 59)).cell? ((⟨w2.heap.size,0,none⟩:Addr).add j)=some u):=si w2 kk q d tt n;have ka:Bl w2 (w2.alloc (.cells #[.string kk,iT q,iT d,.string tt,iT n] 59)):=bZ;have HVA:Hid ((w2.alloc (.cells #[.string kk,iT q,iT d,.string tt,iT n] 59)).ownsRow (A+1) 59 5 (.slice ax i cx) i (aG M)):=kg HV3.out ka;have HBA:Hid (Bl w (w2.alloc (.cells #[.string kk,iT q,iT d,.string tt,iT n] 59))):=HB2.out.trans (ka.mono HB2.out.size);have HLA2:Hid (bT (w2.alloc (.cells #[.string kk,iT q,iT d,.string tt,iT n] 59)) A t jn):=HL2.out.below ka;have HXA2:Hid (bT (w2.alloc (.cells #[.string kk,iT q,iT d,.string tt,iT n] 59)) X t k):=HX2.out.below ka;have HZA:Hid (A+1≤(w2.alloc (.cells #[.string kk,iT q,iT d,.string tt,iT n] 59)).heap.size):=Nat.le_trans HZ2.out ka.size;clear ka;go_wp2_with (at_builtin;refine wpList_append_own _ rfl _ _ 33 rfl (A+1) 59 i0 _ 5 56 Tryz.underlying33 hi hz0 hz1 hz2 rfl (by decide) _ _ _ rfl HVA.out ⟨w2.heap.size,0,none⟩ 1 1 [.string kk,iT q,iT d,.string tt,iT n] rfl rfl HCN.out (by intro u hu;simp at hu;rcases hu with rfl | rfl | rfl | rfl | rfl <;> rfl) (by unfold maxLen;omega) (by omega) HZA.out ?_;intro v2 w4 hown2 hgrow2 hnil2;obtain ⟨g2,c2,rfl⟩:=iI hown2 (fun e=>by cases (hnil2.1 e).2))
      go_roundw
      case rel =>
       have hap:∀x,(Value.slice ax i cx).ownBlock=some x→A+1≤x:=fun x e=>(HVA.out.lt x e).1
       refine ⟨i+1,jn,M++[(kk,q,d,tt,n)],by omega,?_,by rw [List.length_append,HML.out];rfl,?_,?_,HBN.out,?_,?_,Nat.le_trans HZA.out hgrow2.size⟩
       · rw [bE];exact hown2
       · intro l hl;rcases List.mem_append.1 hl with h | h
         · exact HW.out l h
         · rw [List.mem_singleton] at h;subst h;exact HEW.out
       · exact HLA2.out.gro hgrow2 (fun e=>by have:=hap _ e;omega)
       · exact HXA2.out.gro hgrow2 (fun e=>by have:=hap _ e;omega)
       · exact HBA.out.grown hgrow2 HBA.out.size (fun x e=>by have:=hap x e;have:=HA.out;omega)
      case measure=>simp [vG];omega
    · have h12I:¬(i:Int)<12:=by omega
      have HFM:Hid (M=fS 12 ((t.size:Int) - N) (t.data.toList.drop j)):=HBI.out.out (Or.inl (by omega));go_wp2_with fail
      refine (jr ax i cx M _ HEN.out (HT.out _ (HB.out.mono (by omega)))).mono ?_;rintro e w3 ⟨rfl,hb3⟩;have HEN3:Hid (an w3 ax i cx M):=HEN.out.keep hb3;have HLX3:Hid (bT w3 X t k):=HLX.out.below hb3;have HB3:Hid (Bl w w3):=HB.out.trans (hb3.mono HB.out.size);clear hb3 a1 hAl HLA HEN HLX HB HZ;have k0:Bl w3 w3.drew:=(Below.refl _ w3).drew;cases hd:bG M with
      | false =>
       have HNX:Hid (∀L,¬eN (t.data.toList.drop k) L):=fun L hL=>by
        have h1:=HBAT.out L hL;rw [← HFM.out] at h1;rw [h1,hL.1] at hd;cases hd
       rw [iN hd];clear hd;go_upto_region 8 with fail
       refine wp_region_held_drew (S:=(fun _=>True)) (by kernel_rfl) trivial (fun aa=>?_);refine aK 0 16 aa ?_;refine dN ?_;go_wp2;exact bodyPost_ret (v:=.tuple #[nZ,.bool false]) (by simp [results,Tryz.results164,go_sem]) rfl ⟨Or.inr ⟨HNX.out,rfl,HLX3.out.drew⟩,uD (HB3.out.trans ((Below.refl _ w3).drew.mono HB3.out.size)) _⟩
      | true =>
       obtain ⟨F,hF⟩:=aw (aW M);have HF:Hid (F.data.toList=aY M∧F.size=(aY M).length):=by
        have h1:=eL hd;rw [← hF] at h1;exact ⟨h1,by rw [← h1,aN]⟩
       have hFs:1≤F.size:=by have h1:=HF.out.2;have h2:=fg M;omega
       have hF0:F.toList.isEmpty=false:=by
        rw [ByteArray.toList_eq];cases hq:F.data.toList with
        | nil=>have h1:=congrArg List.length hq;rw [aN,List.length_nil] at h1;omega
        | cons x r=>rfl
       have HDN:Hid (bG M=true):=hd;rw [← hF];clear hF hd;have hkI:(k:Int)≤(t.size:Int):=by omega
       have HMK:Hid (∀w',Bl w3 w'→(w'.cell? ⟨X,0,none⟩=some (.string t)∧w'.cell? ⟨X,1,none⟩=some (iT (k:Int))∧X<w'.heap.size∧Bl w3 w')):=fun w' kk=>⟨cell_later kk HLX3.out.c0,cell_later kk HLX3.out.c1,Nat.lt_of_lt_of_le HLX3.out.lt kk.size,kk⟩
       go_upto_region 8 with fail
       go_region_held3 (fun w'=>w'.cell? ⟨X,0,none⟩=some (.string t)∧w'.cell? ⟨X,1,none⟩=some (iT (k:Int))∧X<w'.heap.size∧Bl w3 w') (first | with_reducible exact HMK.out _ k0 | with_reducible exact HMK.out _ k1) (first
        | (go_at_call 181;refine (jA (t.extract k t.size) F _).mono ?_;rintro e w4 ⟨⟨b,rfl,hbp⟩,hb4⟩;have HBP:Hid (b=true ↔ F.data.toList <+: (t.extract k t.size).data.toList):=hbp;clear hbp;have k1:Bl w3 w4:=k0.trans (hb4.mono k0.size)))
       all_goals
        have HLX4:Hid (bT w4 X t k):=HLX3.out.below k1;have HEN4:Hid (an w4 ax i cx M):=HEN3.out.keep k1;have HB4:Hid (Bl w w4):=HB3.out.trans (k1.mono HB3.out.size);cases b with
        | false =>
         have HNX:Hid (∀L,¬eN (t.data.toList.drop k) L):=fun L hL=>by
          have h1:=HBAT.out L hL;rw [← HFM.out] at h1;subst h1;have h2:=HBP.out.2 (by rw [HF.out.1,my];obtain ⟨_,r,hr⟩:=hL;exact ⟨r,hr.symm⟩);cases h2
         go_wp2;exact bodyPost_ret (v:=.tuple #[nZ,.bool false]) (by simp [results,Tryz.results164,go_sem]) rfl ⟨Or.inr ⟨HNX.out,rfl,HLX4.out⟩,uD HB4.out _⟩
        | true =>
         have HFR:Hid (eN (t.data.toList.drop k) M):=by
          have h1:=HBP.out.1 rfl;rw [HF.out.1,my] at h1;obtain ⟨r,hr⟩:=h1;exact ⟨HDN.out,r,hr.symm⟩
         have hle:k+F.size≤t.size:=by
          obtain ⟨_,r,hr⟩:=HFR.out;have h1:=congrArg List.length hr;rw [List.length_drop,aN,List.length_append,← HF.out.2] at h1;omega
         have e1:IntKind.i64.wrap ((k:Int)+(F.size:Int))=(k:Int)+(F.size:Int):=by rw [IntWalk.i64_left];unfold wrap64;omega
         have x1:=HLX4.out.c1;have xf:=HLX4.out.fz 1;have xl:=HLX4.out.lt;have HG5:Hid (bT (w4.setCell ⟨X,1,none⟩ (iT ((k:Int)+(F.size:Int)))) X t (k+F.size)):=HLX4.out.go hle (by omega);have HN5:Hid (w.grownBy (w4.setCell ⟨X,1,none⟩ (iT ((k:Int)+(F.size:Int)))) (some X)):=gX (uD HB4.out _);have HE5:Hid (an (w4.setCell ⟨X,1,none⟩ (iT ((k:Int)+(F.size:Int)))) ax i cx M):=HEN4.out.setCell _ _ (fun x e hp=>HAX4.out x e);go_wp2;exact bodyPost_ret (v:=.tuple #[.slice ax i cx,.bool true]) (by simp [results,Tryz.results164,go_sem]) rfl ⟨Or.inl ⟨M,ax,i,cx,HFR.out,rfl,HE5.out,hi12,by rw [← HF.out.2];exact HG5.out⟩,HN5.out⟩
  · have hltD:decide ((jj:Int)<N)=false:=decide_eq_false hlt;have HFM:Hid (M=fS 12 ((t.size:Int) - N) (t.data.toList.drop j)):=HBI.out.out (Or.inr (by rw [List.length_drop,aN];omega));go_wp2_with fail
    refine (jr ax i cx M _ HEN.out (HT.out _ (HB.out.mono (by omega)))).mono ?_;rintro e w3 ⟨rfl,hb3⟩;have HEN3:Hid (an w3 ax i cx M):=HEN.out.keep hb3;have HLX3:Hid (bT w3 X t k):=HLX.out.below hb3;have HB3:Hid (Bl w w3):=HB.out.trans (hb3.mono HB.out.size);clear hb3 a1 hAl HLA HEN HLX HB HZ;have k0:Bl w3 w3.drew:=(Below.refl _ w3).drew;cases hd:bG M with
    | false =>
     have HNX:Hid (∀L,¬eN (t.data.toList.drop k) L):=fun L hL=>by
      have h1:=HBAT.out L hL;rw [← HFM.out] at h1;rw [h1,hL.1] at hd;cases hd
     rw [iN hd];clear hd;go_upto_region 8 with fail
     refine wp_region_held_drew (S:=(fun _=>True)) (by kernel_rfl) trivial (fun aa=>?_);refine aK 0 16 aa ?_;refine dN ?_;go_wp2;exact bodyPost_ret (v:=.tuple #[nZ,.bool false]) (by simp [results,Tryz.results164,go_sem]) rfl ⟨Or.inr ⟨HNX.out,rfl,HLX3.out.drew⟩,uD (HB3.out.trans ((Below.refl _ w3).drew.mono HB3.out.size)) _⟩
    | true =>
     obtain ⟨F,hF⟩:=aw (aW M);have HF:Hid (F.data.toList=aY M∧F.size=(aY M).length):=by
      have h1:=eL hd;rw [← hF] at h1;exact ⟨h1,by rw [← h1,aN]⟩
     have hFs:1≤F.size:=by have h1:=HF.out.2;have h2:=fg M;omega
     have hF0:F.toList.isEmpty=false:=by
      rw [ByteArray.toList_eq];cases hq:F.data.toList with
      | nil=>have h1:=congrArg List.length hq;rw [aN,List.length_nil] at h1;omega
      | cons x r=>rfl
     have HDN:Hid (bG M=true):=hd;rw [← hF];clear hF hd;have hkI:(k:Int)≤(t.size:Int):=by omega
     have HMK:Hid (∀w',Bl w3 w'→(w'.cell? ⟨X,0,none⟩=some (.string t)∧w'.cell? ⟨X,1,none⟩=some (iT (k:Int))∧X<w'.heap.size∧Bl w3 w')):=fun w' kk=>⟨cell_later kk HLX3.out.c0,cell_later kk HLX3.out.c1,Nat.lt_of_lt_of_le HLX3.out.lt kk.size,kk⟩
     go_upto_region 8 with fail
     go_region_held3 (fun w'=>w'.cell? ⟨X,0,none⟩=some (.string t)∧w'.cell? ⟨X,1,none⟩=some (iT (k:Int))∧X<w'.heap.size∧Bl w3 w') (first | with_reducible exact HMK.out _ k0 | with_reducible exact HMK.out _ k1) (first
      | (go_at_call 181;refine (jA (t.extract k t.size) F _).mono ?_;rintro e w4 ⟨⟨b,rfl,hbp⟩,hb4⟩;have HBP:Hid (b=true ↔ F.data.toList <+: (t.extract k t.size).data.toList):=hbp;clear hbp;have k1:Bl w3 w4:=k0.trans (hb4.mono k0.size)))
     all_goals
      have HLX4:Hid (bT w4 X t k):=HLX3.out.below k1;have HEN4:Hid (an w4 ax i cx M):=HEN3.out.keep k1;have HB4:Hid (Bl w w4):=HB3.out.trans (k1.mono HB3.out.size);cases b with
      | false =>
       have HNX:Hid (∀L,¬eN (t.data.toList.drop k) L):=fun L hL=>by
        have h1:=HBAT.out L hL;rw [← HFM.out] at h1;subst h1;have h2:=HBP.out.2 (by rw [HF.out.1,my];obtain ⟨_,r,hr⟩:=hL;exact ⟨r,hr.symm⟩);cases h2
       go_wp2;exact bodyPost_ret (v:=.tuple #[nZ,.bool false]) (by simp [results,Tryz.results164,go_sem]) rfl ⟨Or.inr ⟨HNX.out,rfl,HLX4.out⟩,uD HB4.out _⟩
      | true =>
       have HFR:Hid (eN (t.data.toList.drop k) M):=by
        have h1:=HBP.out.1 rfl;rw [HF.out.1,my] at h1;obtain ⟨r,hr⟩:=h1;exact ⟨HDN.out,r,hr.symm⟩
       have hle:k+F.size≤t.size:=by
        obtain ⟨_,r,hr⟩:=HFR.out;have h1:=congrArg List.length hr;rw [List.length_drop,aN,List.length_append,← HF.out.2] at h1;omega
       have e1:IntKind.i64.wrap ((k:Int)+(F.size:Int))=(k:Int)+(F.size:Int):=by rw [IntWalk.i64_left];unfold wrap64;omega
       have x1:=HLX4.out.c1;have xf:=HLX4.out.fz 1;have xl:=HLX4.out.lt;have HG5:Hid (bT (w4.setCell ⟨X,1,none⟩ (iT ((k:Int)+(F.size:Int)))) X t (k+F.size)):=HLX4.out.go hle (by omega);have HN5:Hid (w.grownBy (w4.setCell ⟨X,1,none⟩ (iT ((k:Int)+(F.size:Int)))) (some X)):=gX (uD HB4.out _);have HE5:Hid (an (w4.setCell ⟨X,1,none⟩ (iT ((k:Int)+(F.size:Int)))) ax i cx M):=HEN4.out.setCell _ _ (fun x e hp=>HAX4.out x e);go_wp2;exact bodyPost_ret (v:=.tuple #[.slice ax i cx,.bool true]) (by simp [results,Tryz.results164,go_sem]) rfl ⟨Or.inl ⟨M,ax,i,cx,HFR.out,rfl,HE5.out,hi12,by rw [← HF.out.2];exact HG5.out⟩,HN5.out⟩
end Go.Proofs.YtehiefdphnljaaaGreatDoor
