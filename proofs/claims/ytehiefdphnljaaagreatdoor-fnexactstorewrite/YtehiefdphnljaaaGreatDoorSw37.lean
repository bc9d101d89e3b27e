/- Walks. -/
import Derived.Shelf.Strings.BuilderK
import Derived.Laws.Rows
import Derived.Test.YtehiefdphnljaaaGreatDoorSw36
namespace Go.Proofs.YtehiefdphnljaaaGreatDoor
set_option maxRecDepth 100000
set_option maxHeartbeats 40000000
open Go.RowKit
variable {B Y b m:Nat} {F:List ae} {bs:List Value} {d0 d1 d2 v:Value} {l:List UInt8} {q:Int} {w w':World}
theorem eI {e k n:Nat} {xs:List Value} (h:w.ownsRow B e k v n xs) (hk:∀(g:Nat) cs,w.heap[g]?=some (.cells cs e (0,0))→w'.heap[g]?=w.heap[g]?):w'.ownsRow B e k v n xs:=by
 refine ⟨h.1,?_⟩;rcases h.2 with h2 | ⟨g,cap,cur,rfl,hb,hh,r⟩
 · exact Or.inl h2
 · exact Or.inr ⟨g,cap,cur,rfl,hb,(hk g _ hh).trans hh,r⟩
theorem f6 (h:Lib.IsBuilder 135 5 B b bs w) (hk:∀(g:Nat) cs t,t=135∨t=5→w.heap[g]?=some (.cells cs t (0,0))→w'.heap[g]?=w.heap[g]?):Lib.IsBuilder 135 5 B b bs w':=by
 have f:∀{p},Lib.BuilderAt 135 5 B b p bs w→Lib.BuilderAt 135 5 B b p bs w':=by
  rintro p ⟨h1,v,h2,h3,h4⟩;exact ⟨h1,v,(hk b _ _ (Or.inl rfl) h2).trans h2,eI h3 (fun g cs hg=>hk g cs _ (Or.inr rfl) hg),h4⟩
 rcases h with h | h
 · exact Or.inl (f h)
 · exact Or.inr (f h)
theorem uL (h:Lib.IsBuilder 135 5 B b bs w):∃cs,w.heap[b]?=some (.cells cs 135 (0,0)):=by
 rcases h with ⟨_,v,h1,_⟩ | ⟨_,v,h1,_⟩
 · exact ⟨_,h1⟩
 · exact ⟨_,h1⟩
structure dR (B Y b:Nat) (w:World) (q:Int) (d0 d1 d2:Value) (l:List UInt8) (v:Value) (m:Nat) (F:List ae):Prop where
 box:w.heap[Y]?=some (.cells #[iT q,nZ,d0,d1,d2,nZ] 86 (0,0))
 bld:Lib.IsBuilder 135 5 B b (Lib.byteCells l) w
 own:w.ownsRow B 59 5 v m (aG F)
 len:F.length=m
 ents:∀e ∈ F,dt e
theorem dR.of_heap (h:dR B Y b w q d0 d1 d2 l v m F) (hk:∀(g:Nat) o,w.heap[g]?=some o→w'.heap[g]?=w.heap[g]?):dR B Y b w' q d0 d1 d2 l v m F :=
 ⟨(hk _ _ h.box).trans h.box,f6 h.bld (fun g _ _ _ hg=>hk g _ hg),eI h.own (fun g _ hg=>hk g _ hg),h.len,h.ents⟩
theorem dR.below (h:dR B Y b w q d0 d1 d2 l v m F) (hb:Bl w w'):dR B Y b w' q d0 d1 d2 l v m F :=
 h.of_heap (fun g _ hg=>hb.block g (Array.getElem?_eq_some_iff.1 hg).1)
theorem dR.put {l':List UInt8} (h:dR B Y b w q d0 d1 d2 l v m F) (hb:cF B b w w' l'):dR B Y b w' q d0 d1 d2 l' v m F:=by
 obtain ⟨cs,hbb⟩:=uL h.bld;have hk:∀(g:Nat) cs' t,w.heap[g]?=some (.cells cs' t (0,0))→t≠5→t≠135→w'.heap[g]?=w.heap[g]?:=fun g cs' t hg h1 h2=>by
  rw [hg];exact hb.kept g _ hg (fun e=>by cases e;rw [hbb] at hg;cases hg;exact h2 rfl) (fun c fz e=>by cases e;exact h1 rfl)
 exact ⟨(hk _ _ _ h.box (by decide) (by decide)).trans h.box,hb.bld,eI h.own (fun g cs' hg=>hk g cs' _ hg (by decide) (by decide)),h.len,h.ents⟩
theorem dR.app {m':Nat} {v':Value} {F':List ae} (h:dR B Y b w q d0 d1 d2 l v m F) (ho:w'.ownsRow B 59 5 v' m' (aG F')) (hg:w.grownBy w' v.ownBlock) (hl:F'.length=m') (he:∀e ∈ F',dt e):dR B Y b w' q d0 d1 d2 l v' m' F':=by
 have hk:∀(g:Nat) cs t,w.heap[g]?=some (.cells cs t (0,0))→t≠59→w'.heap[g]?=w.heap[g]?:=fun g cs t hh ht=>by
  refine hg.block g (Array.getElem?_eq_some_iff.1 hh).1 (fun e=>?_);obtain ⟨c2,fz2,h2⟩:=Lib.ownsRow_kind h.own g e.symm;rw [hh] at h2;cases h2;exact ht rfl
 exact ⟨(hk _ _ _ h.box (by decide)).trans h.box,f6 h.bld (fun g cs t ht hh=>hk g cs t hh (by rcases ht with rfl | rfl <;> decide)),ho,hl,he⟩
theorem dR.set (h:dR B Y b w q d0 d1 d2 l v m F) (q':Int):dR B Y b (w.setCell ⟨Y,0,none⟩ (iT q')) q' d0 d1 d2 l v m F:=by
 have hk:∀(g:Nat) cs t,w.heap[g]?=some (.cells cs t (0,0))→t≠86→(w.setCell ⟨Y,0,none⟩ (iT q')).heap[g]?=w.heap[g]?:=fun g cs t hh ht=>by
  refine Below.heap_setCell _ _ _ _ (fun e=>?_);have e':g=Y:=e;subst e';rw [h.box] at hh;cases hh;exact ht rfl
 refine ⟨?_,f6 h.bld (fun g cs t ht hh=>hk g cs t hh (by rcases ht with rfl | rfl <;> decide)),eI h.own (fun g cs hh=>hk g cs _ hh (by decide)),h.len,h.ents⟩;exact heap_setCell_same w Y 0 _ _ _ h.box
theorem dR.entsAt (h:dR B Y b w q d0 d1 d2 l v m F):∃a c,v=.slice a m c∧an w a m c F:=by
 rcases h.own.2 with ⟨rfl,rfl⟩ | ⟨g,cap,cur,rfl,r⟩
 · have:F=[]:=List.eq_nil_of_length_eq_zero h.len;subst this;exact ⟨none,0,rfl,rfl,Nat.le_refl _,Nat.zero_le _,(fun _ he=>by cases he),fun _=>rfl,(fun _ _ h=>absurd h (Nat.lt_irrefl _)),fun _ _ _ hi=>absurd hi (Nat.not_lt_zero _)⟩
 · exact ⟨some ⟨g,0,none⟩,cap,rfl,(aE.mk h.own h.len h.ents).entsAt⟩
theorem wK (L:List ae):L.length≤(aT L).length:=by
 induction L with
 | nil=>exact Nat.zero_le _
 | cons e r ih =>
  have:=nD e;simp only [aT,List.length_append,List.length_cons] at *;omega
theorem iO:∀(P:List (List ae)),P.flatten.length≤nR P
 | []=>Nat.le_refl _
 | L :: P=>by
  have h1:=iO P
  have h2:=wK L
  have h3:(aT L).length≤(aY L).length:=by simp [aY];omega
  simp only [List.flatten_cons,List.length_append,nR]
  omega
def RbE (lg:ByteArray) (sd:Int) (d0 d1 d2:Value) (w:World) (e:Ending) (w':World):Prop:=∃(P:List (List ae)) (k g N:Nat),ce lg.data.toList P k∧N=(P.map (aS sd)).flatten.length∧e=.returned (.tuple #[.agg #[iT (bh sd P),sL g N N,d0,d1,d2,nZ],.string ⟨(fu (bD sd P)).toArray⟩,iT (k:Int)])∧an w' (pT g) N N (bg (P.map (aS sd)).flatten)∧Bl w w'
theorem kB (lg:ByteArray) (sf sd:Int) (d0 d1 d2:Option Addr) (m0 e0 m1 e1 m2 e2:Nat) (w:World) (hlg:lg.size≤1048576) (hE:iy w.heap.size w) (hT:kQ w.heap.size w) :
 Calls Tryz.prog 116 #[.agg #[.string lg,iT sf,.slice d0 m0 e0,.slice d1 m1 e1,.slice d2 m2 e2,iT sd]] w (RbE lg sd (.slice d0 m0 e0) (.slice d1 m1 e1) (.slice d2 m2 e2) w):=by
 obtain ⟨i0,hi0,hz0,hz1,hz2⟩:=info_parts Tryz.infoEnt;obtain ⟨X,hX⟩:=aw w.heap.size;obtain ⟨W,hW⟩:=aw ((w.alloc (.cells #[.string lg,iT sf,.slice d0 m0 e0,.slice d1 m1 e1,.slice d2 m2 e2,iT sd] 88)).alloc (.cells #[iT 0,nZ,nZ,nZ,nZ,nZ] 86));have kW:Bl w W:=by rw [hW];exact bZ.alloc (by simp) _
 have bx:aR W X (.string lg) (iT sf) (.slice d0 m0 e0) (.slice d1 m1 e1) (.slice d2 m2 e2) (iT sd):=by rw [hW,hX];exact (aR.new _ _ _ _ _ _ _ _).alloc _
 have br:aR W (X+1) (iT 0) nZ nZ nZ nZ nZ:=by
  have:=aR.new (w.alloc (.cells #[.string lg,iT sf,.slice d0 m0 e0,.slice d1 m1 e1,.slice d2 m2 e2,iT sd] 88)) 86 (iT 0) nZ nZ nZ nZ nZ;rw [World.size_alloc] at this;rw [hW,hX];exact this
 have HXW:Hid (X=w.heap.size):=hX;have K0:Hid (Bl w W):=kW;have HBX:Hid (∀w',Bl W w'→aR w' X (.string lg) (iT sf) (.slice d0 m0 e0) (.slice d1 m1 e1) (.slice d2 m2 e2) (iT sd)):=fun w' k=>bx.keep k
 have HBR:Hid (∀w',Bl W w'→aR w' (X+1) (iT 0) nZ nZ nZ nZ nZ):=fun w' k=>br.keep k
 have CRD:=Be lg W hlg (fun w' kk=>hE w' (kW.trans (kk.mono kW.size))) (fun w' kk=>hT w' (kW.trans (kk.mono kW.size)));have HT:=ar hT;have x0:=bx.c0;have xz:=bx.lt;clear kW bx br hE hT;go_enter Tryz.func116,Tryz.ntmps116
 go_upto_region 1 with fail
 rw [← hX,← hW];clear hX hW;go_wp2_with fail
 refine CRD.mono ?_;rintro e w1 ⟨⟨P,k,v,gs,rfl,hwh,hZ,hPn⟩,hb1,hs1⟩;have HWH:Hid (ce lg.data.toList P k):=hwh;have K1:Hid (Bl W w1):=hb1;obtain ⟨va,vc,rfl⟩:=hZ.form;have HPA:Hid (cI w1 va P.length vc P):=hZ.partsAt rfl;have HPN:Hid (P.length≤1048576):=hPn;have y1:=HBX.out w1 hb1;have c2:=y1.c2;have c3:=y1.c3;have c4:=y1.c4;have c5:=y1.c5;have cz:=y1.lt;clear hwh hb1 hs1 hZ hPn y1 x0 xz CRD;go_upto_region 5 with fail
 obtain ⟨W2,hW2⟩:=aw ((w1.alloc (.cells #[iT sd,nZ,.slice d0 m0 e0,.slice d1 m1 e1,.slice d2 m2 e2,nZ] 86)).alloc (.cells #[.pointer none,nZ] 135));obtain ⟨Y,hY⟩:=aw w1.heap.size;have k2:Bl w1 W2:=by rw [hW2];exact bZ.alloc (by simp) _
 have st0:dR Y Y (Y+1) W2 sd (.slice d0 m0 e0) (.slice d1 m1 e1) (.slice d2 m2 e2) [] nZ 0 []:=by
  refine ⟨?_,Or.inl ⟨Nat.le_succ _,nZ,?_,⟨rfl,Or.inl ⟨rfl,rfl⟩⟩,by simp [Value.ownBlock]⟩,⟨rfl,Or.inl ⟨rfl,rfl⟩⟩,rfl,fun e he=>by cases he⟩
  · rw [hW2,hY,Below.heap_alloc _ _ _ (by simp)];exact Array.getElem?_push_size
  · rw [hW2,hY];have:=Array.getElem?_push_size (xs:=(w1.alloc (.cells #[iT sd,nZ,.slice d0 m0 e0,.slice d1 m1 e1,.slice d2 m2 e2,nZ] 86)).heap) (x:=Obj.cells #[.pointer none,nZ] 135);rw [World.size_alloc] at this;exact this
 have HYW:Hid (Y=w1.heap.size):=hY;have K2:Hid (Bl w1 W2):=k2;have HST0:Hid (dR Y Y (Y+1) W2 sd (.slice d0 m0 e0) (.slice d1 m1 e1) (.slice d2 m2 e2) [] nZ 0 []):=st0;rw [← hW2,← hY];have hx5:=HBX.out w1 K1.out;have HX5:Hid (w1.cell? ⟨X,5,none⟩=some (iT sd)):=c5;have HDN:Hid (∀L ∈ P,bG L=true):=jD HWH.out;have hsz:nR P≤1048576:=by
  have h1:=(ja HWH.out).2;have h2:=jT HWH.out;have h3:lg.data.toList.length=lg.size:=by rw [Array.length_toList];rfl
  omega
 have HSZ:Hid (nR P≤1048576):=hsz;obtain ⟨n,hn⟩:=aw P.length;have HN:Hid (n=P.length):=hn;have hn8:n≤1048576:=by rw [hn];exact HPN.out
 rw [← hn];have HPA':Hid (cI w1 va n vc P):=by rw [hn];exact HPA.out
 clear hW2 hY k2 st0 c2 c3 c4 c5 cz hx5 hsz hn HPA;go_wp2;go_loopw [9,26] (fun ov iv wr=>∃(i m:Nat) (F:List ae) (bv:Value),i≤n∧iv=iT i∧ov=bv∧F=((P.take i).map (aS sd)).flatten∧dR Y Y (Y+1) wr (bh sd (P.take i)) (.slice d0 m0 e0) (.slice d1 m1 e1) (.slice d2 m2 e2) (fu (bD sd (P.take i))) bv m F∧Bl w1 wr) (fun _ iv _=>n - (intOf iv).toNat)
 case atStart=>exact ⟨0,0,[],_,Nat.zero_le _,rfl,rfl,by simp,by simpa [bh,bD,fu] using HST0.out,K2.out⟩
 case round =>
  obtain ⟨i,m,F,bv,hi,rfl,hbv,hF,hst,hb⟩:=hrel;have hbv':=hbv.symm;subst hbv';have HF:Hid (F=((P.take i).map (aS sd)).flatten):=hF;have HST:Hid (dR Y Y (Y+1) wr (bh sd (P.take i)) (.slice d0 m0 e0) (.slice d1 m1 e1) (.slice d2 m2 e2) (fu (bD sd (P.take i))) bv m F):=hst;have HB:Hid (Bl w1 wr):=hb;clear hF hst;by_cases hlt:i<n
  · have hltI:(i:Int)<(n:Int):=by omega
    obtain ⟨b0,off,rfl,hbb⟩:=HPA'.out.form (by omega);obtain ⟨L,s,len,cap,hL,c01,hE1⟩:=HPA'.out.list (Below.refl _ w1) i hlt;have HE1:Hid (an w1 s len cap L):=hE1;have hfo:=hE1.form (by have:=hE1.length;have:=(cO (HDN.out L (List.mem_of_getElem? hL))).1;omega);have zs1:∀bs os,s=some ⟨bs,os,none⟩→bs<w1.heap.size:=fun bs os e=>by obtain ⟨b1,o1,e1,h1⟩:=hfo;rw [e] at e1;cases e1;exact h1
    have c0:=cell_later hb c01;have hEn:=hE1.keep hb;have HL:Hid (P[i]?=some L):=hL;have hdn:=HDN.out L (List.mem_of_getElem? hL);obtain ⟨l1,l12,_⟩:=cO hdn;have HDL:Hid (bG L=true):=hdn;have hLl:=hEn.length;have HLL:Hid (L.length=len):=hLl;have hlc:=hEn.room;have hcb:=hEn.big;unfold maxLen at hcb;have hl1:1≤len:=by omega
    have hl12:len≤12:=by omega
    obtain ⟨bs,os,rfl,zs⟩:=hEn.form (by omega);have hbr:b0<wr.heap.size:=Nat.lt_of_lt_of_le hbb hb.size;have CI:=vO X sd (some ⟨bs,os,none⟩) len cap L wr hEn (cell_later hb HX5.out);have HEN:Hid (an wr (some ⟨bs,os,none⟩) len cap L):=hEn;clear hL hdn hLl hb hEn hE1 c01;go_wp2_with fail
    refine CI.mono ?_;rintro e w2 ⟨⟨z,rfl,hz⟩,hb2⟩;have HST2:Hid (dR Y Y (Y+1) w2 (bh sd (P.take i)) (.slice d0 m0 e0) (.slice d1 m1 e1) (.slice d2 m2 e2) (fu (bD sd (P.take i))) bv m F):=HST.out.below hb2;have HB2:Hid (Bl w1 w2):=HB.out.trans (hb2.mono HB.out.size);have HE2:Hid (an w2 (some ⟨bs,os,none⟩) len cap L):=HEN.out.keep hb2;clear hb2 CI HST HEN c0 hbr zs;have hstp:=nI HDL.out;rcases hz with ⟨rfl,hno⟩ | ⟨kk,rfl,hkk,hfi⟩
    · have HNO:Hid (aS sd L=[]):=hno;have HNS:Hid (¬sd<ef L):=fun h=>(lm hstp (fun e=>by rw [e] at l1;simp at l1)).2 h hno
      clear hno hstp;go_wp2;go_roundw
      case rel =>
       refine ⟨i+1,m,F,bv,by omega,by first | rfl | go_num,rfl,?_,?_,HB2.out⟩
       · rw [jm HL.out,HNO.out,List.append_nil];exact HF.out
       · have h1:bh sd (P.take (i+1))=bh sd (P.take i):=by rw [lq HL.out,HNO.out];rfl
         rw [uz HL.out (by have:=HNS.out;omega),h1];exact HST2.out
      case measure=>simp [intOf];omega
    · have hkl:kk<len:=by have:=HLL.out;omega
      have HDR:Hid (aS sd L=L.drop kk):=by show _=_;rw [oZ sd hstp,hfi]
      have HNS:Hid (sd<ef L):=(lm hstp (fun e=>by rw [e] at l1;simp at l1)).1 (fun e=>by
       have h1:=HDR.out;rw [e] at h1;have h2:=congrArg List.length h1;rw [List.length_drop,HLL.out] at h2;simp at h2;omega)
      have HSTP:Hid (jC L):=hstp;clear hstp hfi hkk;have CF:=jr (some ⟨bs,os,none⟩) len cap L w2 HE2.out (HT.out w2 (K0.out.trans ((K1.out.mono K0.out.size).trans (HB2.out.mono (Nat.le_trans K0.out.size K1.out.size)))));have hkI:¬((kk:Int)<0):=by omega
      have hk0:(0:Int)≤(kk:Int):=by omega
      have hk1:(kk:Int)≤(len:Int):=by omega
      obtain ⟨TX,hTX⟩:=aw (fu (bD sd (P.take i)));have HTX:Hid (TX=fu (bD sd (P.take i))):=hTX;have hsT:TX.length≤1048576:=by
       rw [hTX,fC];have h1:=jl sd (P.take i);have h2:=pE (P:=P) (i:=i);have:=HSZ.out;omega
      have HST2':Hid (dR Y Y (Y+1) w2 (bh sd (P.take i)) (.slice d0 m0 e0) (.slice d1 m1 e1) (.slice d2 m2 e2) TX bv m F):=by rw [hTX];exact HST2.out
      have hFZ:(aW L).size≤1048576:=by
       have h1:=eL HDL.out;have h2:(aW L).size=(aY L).length:=by rw [← h1,Array.length_toList];rfl
       have h4:=qK HL.out;have h5:=pE (P:=P) (i:=i+1);have h6:=HSZ.out;omega
      clear hTX HST2;go_wp2_with fail
      refine CF.mono ?_;rintro e w3 ⟨rfl,hb3⟩;have HST3:Hid (dR Y Y (Y+1) w3 (bh sd (P.take i)) (.slice d0 m0 e0) (.slice d1 m1 e1) (.slice d2 m2 e2) TX bv m F):=HST2'.out.below hb3;have HB3:Hid (Bl w1 w3):=HB2.out.trans (hb3.mono HB2.out.size);have HE3:Hid (an w3 (some ⟨bs,os,none⟩) len cap L):=HE2.out.keep hb3;clear hb3 CF HST2' HB2 HE2;obtain ⟨FB,hFB⟩:=aw (aW L);have HFB:Hid (FB.data.toList=aY L):=by rw [hFB];exact eL HDL.out
      rw [← hFB] at hFZ ⊢;clear hFB;have CW:=mt Y (Y+1) TX FB w3 w3 ⟨HST3.out.bld,Lib.OthersKept.refl _ _ _,Below.refl _ _⟩ (by omega) (by have:=HB3.out.size;have:=HYW.out;omega);go_wp2_with fail
      refine CW.mono ?_;rintro e w4 ⟨rfl,T4⟩;have HST4:Hid (dR Y Y (Y+1) w4 (bh sd (P.take i)) (.slice d0 m0 e0) (.slice d1 m1 e1) (.slice d2 m2 e2) (TX++FB.data.toList) bv m F):=HST3.out.put T4;have HB4:Hid (Bl w1 w4):=HB3.out.trans (by have:=T4.bel;rw [HYW.out] at this;exact this);have HE4:Hid (an w4 (some ⟨bs,os,none⟩) len cap L):=HE1.out.keep HB4.out;clear T4 CW HST3 HB3 HE3;have hsub:=HE4.out.sub (i:=kk) (j:=len) (by omega) (Nat.le_refl _);rw [List.take_of_length_le (by rw [List.length_drop,HLL.out];exact Nat.le_refl _)] at hsub;have HSUB:Hid (an w4 (some ⟨bs,os+kk*5,none⟩) (len - kk) (cap - kk) (L.drop kk)):=hsub;have hml:m+(len - kk)≤1048576:=by
       have h1:=iO P;have h2:=oY (q:=sd) (k:=L.length) HL.out;rw [List.take_length,← HF.out,HDR.out,List.length_append,HST4.out.len,List.length_drop,HLL.out] at h2;have:=HSZ.out;omega
      have hYs:Y≤w4.heap.size:=by have:=HB4.out.size;have:=HYW.out;omega
      clear hsub;go_upto_region 12 with (first | (at_builtin;refine wpList_append_own_at _ rfl _ _ 33 rfl Y 59 i0 _ 5 56 Tryz.underlying33 hi0 hz0 hz1 hz2 rfl (by decide) _ m (aG F) rfl HST4.out.own ⟨bs,os+kk*5,none⟩ (len - kk) (cap - kk) (aG (L.drop kk)) rfl (by rw [bW,List.length_drop,HLL.out]) (dW HSUB.out) (bF _) (by unfold maxLen;omega) (by omega) hYs ?_;intro v5 w5 hown5 hgrow5 hnil5 hblk5))
      have HST5:Hid (dR Y Y (Y+1) w5 (bh sd (P.take i)) (.slice d0 m0 e0) (.slice d1 m1 e1) (.slice d2 m2 e2) (TX++FB.data.toList) v5 (m+(len - kk)) (F++L.drop kk)):=HST4.out.app (by rw [bE];exact hown5) hgrow5 (by rw [List.length_append,HST4.out.len,List.length_drop,HLL.out]) (fun e he=>by
       rcases List.mem_append.1 he with h | h
       · exact HST4.out.ents e h
       · exact HSUB.out.ents e h)
      have HB5:Hid (Bl w1 w5):=by
       refine HB4.out.grown hgrow5 HB4.out.size (fun q hq=>?_);have:=HST4.out.own.lt q hq;have:=HYW.out;omega
      obtain ⟨es,eq,ed,et,en,hx,hw,e0',e1',e2',e3',e4'⟩:=(HE1.out.keep HB5.out).ent (Below.refl _ w5) (Nat.lt_of_lt_of_le (zs1 bs os rfl) HB5.out.size) (len - 1) (by omega);have hlast:=uA (by have:=HLL.out;omega) hx;simp only at hlast;have HLA:Hid (ef L=eq):=hlast;have cy0:w5.cell? ⟨Y,0,none⟩=some (iT (bh sd (P.take i))):=by rw [Lib.cell_of_heap HST5.out.box];rfl
      have fy0:w5.frozen? ⟨Y,0,none⟩=false:=by simp [World.frozen?,HST5.out.box]
      have hYl:=World.block_lt_of_cell? _ _ cy0;simp only at hYl;have hbl:=World.block_lt_of_cell? _ _ e1';simp only at hbl;have hj0:(1:Int)≤(len:Int):=by omega
      have hj1:(0:Int)≤(len:Int) - 1:=by omega
      have hj2:(len:Int) - 1<(len:Int):=by omega
      have hjt:((len:Int) - 1).toNat=len - 1:=by omega
      have wj:IntKind.i64.wrap ((len:Int) - 1)=(len:Int) - 1:=by rw [IntWalk.i64_left];unfold wrap64;omega
      obtain ⟨LQ,hLQ⟩:=aw (bh sd (P.take i));rw [← hLQ] at cy0;clear hx hw hlast e0' e2' e3' e4' hown5 hgrow5 hnil5 hblk5;have HLQ:Hid (LQ=bh sd (P.take i)):=hLQ;have HNX:Hid (bh sd (P.take (i+1))=max LQ eq):=by
       show _=_
       rw [lq HL.out,yM HSTP.out HNS.out (fun e=>by rw [e] at l1;simp at l1),HLQ.out,HLA.out]
      have HTX':Hid (TX++FB.data.toList=fu (bD sd (P.take (i+1)))):=by
       show _=_
       rw [oV HL.out HNS.out,HTX.out,HFB.out]
      have HF':Hid (F++L.drop kk=((P.take (i+1)).map (aS sd)).flatten):=by
       show _=_
       rw [jm HL.out,HDR.out,HF.out]
      clear hLQ;have HMK:Hid (∀w',Bl w5 w'→(w'.cell? ⟨bs,os+(len - 1)*5+1,none⟩=some (iT eq)∧Y<w'.heap.size)):=fun w' kk=>⟨cell_later kk e1',Nat.lt_of_lt_of_le hYl kk.size⟩
      have k5:Bl w5 w5.drew:=(Below.refl _ w5).drew;have HSD:Hid (dR Y Y (Y+1) w5.drew (bh sd (P.take i)) (.slice d0 m0 e0) (.slice d1 m1 e1) (.slice d2 m2 e2) (TX++FB.data.toList) v5 (m+(len - kk)) (F++L.drop kk)):=HST5.out.below k5;have HST6:Hid (∀z,dR Y Y (Y+1) (w5.drew.setCell ⟨Y,0,none⟩ (iT z)) z (.slice d0 m0 e0) (.slice d1 m1 e1) (.slice d2 m2 e2) (TX++FB.data.toList) v5 (m+(len - kk)) (F++L.drop kk)):=fun z=>(HST5.out.below k5).set z
      have HB6:Hid (∀z,Bl w1 (w5.drew.setCell ⟨Y,0,none⟩ (iT z))):=fun z=>(HB5.out.trans (k5.mono HB5.out.size)).setCell (by have:=HYW.out;show _≤Y;omega) _
      refine dC HMK k5 fun aa=>?_
      generalize w5.drew=wd at HSD HST6 HB6 aa k5 ⊢;refine aK 0 1 aa ?_;refine aK 2 7 aa ?_;refine aP 1 fun K hK=>?_
      have cyd:wd.cell? ⟨Y,0,none⟩=some (iT LQ):=cell_later k5 cy0;go_simp;refine hK.out _ _ (HMK.out _ k5) fun aa=>?_
      (try go_frame);by_cases hmx:LQ<eq
      · have hm1:¬eq<LQ:=by omega
        have hm3:max LQ eq=eq:=by omega
        refine aK 9 2 aa ?_;refine aP 11 fun K hK=>?_
        have fyd:wd.frozen? ⟨Y,0,none⟩=false:=by simp [World.frozen?,HSD.out.box]
        have cyd:wd.cell? ⟨Y,0,none⟩=some (iT LQ):=cell_later k5 cy0;have hYd:Y<wd.heap.size:=aa.2;have hne:Y≠bs:=by have:=zs1 bs os rfl;have:=HYW.out;omega
        have hHs:(wd.setCell ⟨Y,0,none⟩ (iT (max LQ eq))).cell? ⟨bs,os+(len - 1)*5+1,none⟩=some (iT eq)∧Y<(wd.setCell ⟨Y,0,none⟩ (iT (max LQ eq))).heap.size:=⟨by rw [World.cell?_setCell_other _ _ _ _ (fun e=>hne (congrArg Addr.block e))];exact aa.1,by simpa [World.setCell] using hYd⟩;have hst7:=HST6.out (max LQ eq);have hb7:=HB6.out (max LQ eq);rw [hm3] at hHs hst7 hb7;have HR7:Hid (dR Y Y (Y+1) (wd.setCell ⟨Y,0,none⟩ (iT eq)) (bh sd (P.take (i+1))) (.slice d0 m0 e0) (.slice d1 m1 e1) (.slice d2 m2 e2) (fu (bD sd (P.take (i+1)))) v5 (m+(len - kk)) (F++L.drop kk)):=by
         show dR _ _ _ _ _ _ _ _ _ _ _ _
         rw [HNX.out,hm3,← HTX'.out];exact hst7
        have HB7:Hid (Bl w1 (wd.setCell ⟨Y,0,none⟩ (iT eq))):=hb7;clear hst7 hb7 HST6 HB6;go_simp;refine hK.out _ _ hHs fun aa=>?_
        (try go_frame);refine dN ?_;go_wp2;go_roundw
        case rel=>exact ⟨i+1,m+(len - kk),F++L.drop kk,v5,by omega,by first | rfl | go_num,rfl,HF'.out,HR7.out,HB7.out⟩
        case measure=>simp [intOf];omega
      · have hm1:eq≤LQ:=by omega
        have hm3:max LQ eq=LQ:=by omega
        refine aK 9 2 aa ?_;refine aP 11 fun K hK=>?_
        have fyd:wd.frozen? ⟨Y,0,none⟩=false:=by simp [World.frozen?,HSD.out.box]
        have cyd:wd.cell? ⟨Y,0,none⟩=some (iT LQ):=cell_later k5 cy0;have hYd:Y<wd.heap.size:=aa.2;have hne:Y≠bs:=by have:=zs1 bs os rfl;have:=HYW.out;omega
        have hHs:(wd.setCell ⟨Y,0,none⟩ (iT (max LQ eq))).cell? ⟨bs,os+(len - 1)*5+1,none⟩=some (iT eq)∧Y<(wd.setCell ⟨Y,0,none⟩ (iT (max LQ eq))).heap.size:=⟨by rw [World.cell?_setCell_other _ _ _ _ (fun e=>hne (congrArg Addr.block e))];exact aa.1,by simpa [World.setCell] using hYd⟩;have hst7:=HST6.out (max LQ eq);have hb7:=HB6.out (max LQ eq);rw [hm3] at hHs hst7 hb7;have HR7:Hid (dR Y Y (Y+1) (wd.setCell ⟨Y,0,none⟩ (iT LQ)) (bh sd (P.take (i+1))) (.slice d0 m0 e0) (.slice d1 m1 e1) (.slice d2 m2 e2) (fu (bD sd (P.take (i+1)))) v5 (m+(len - kk)) (F++L.drop kk)):=by
         show dR _ _ _ _ _ _ _ _ _ _ _ _
         rw [HNX.out,hm3,← HTX'.out];exact hst7
        have HB7:Hid (Bl w1 (wd.setCell ⟨Y,0,none⟩ (iT LQ))):=hb7;clear hst7 hb7 HST6 HB6;go_simp;refine hK.out _ _ hHs fun aa=>?_
        (try go_frame);refine dN ?_;go_wp2;go_roundw
        case rel=>exact ⟨i+1,m+(len - kk),F++L.drop kk,v5,by omega,by first | rfl | go_num,rfl,HF'.out,HR7.out,HB7.out⟩
        case measure=>simp [intOf];omega
  · have hin:i=n:=by omega
    have hltI:¬(i:Int)<(n:Int):=by omega
    have HTA:Hid (P.take i=P):=List.take_of_length_le (by have:=HN.out;omega);have HFA:Hid (F=(P.map (aS sd)).flatten):=by show F=_;rw [HF.out,HTA.out]
    have hst:=HST.out;rw [HTA.out] at hst;obtain ⟨ab,cb,rfl,hEF⟩:=hst.entsAt;have HST2:Hid (dR Y Y (Y+1) wr (bh sd P) (.slice d0 m0 e0) (.slice d1 m1 e1) (.slice d2 m2 e2) (fu (bD sd P)) (.slice ab m cb) m F):=hst;have hmF:F.length=m:=hst.len;have hm:m≤1048576:=by
     have h1:=iO P;have h2:=rH sd P;rw [← HFA.out,hmF] at h2;have:=HSZ.out;omega
    obtain ⟨wA,hwA⟩:=aw (wr.alloc (.cells #[.slice ab m cb] 33));obtain ⟨R,hR⟩:=aw wr.heap.size;have hkA:Bl wr wA:=by rw [hwA];exact bZ
    have hPA1:cI wA (pT R) 1 1 [F]:=by
     refine ⟨rfl,Nat.le_refl _,by unfold maxLen;omega,(fun e=>by cases e),?_,?_⟩
     · rintro x e _;cases e;exact ⟨by rw [hwA,hR];simp,rfl⟩
     · rintro x e j hj;cases e;have hj0:j=0:=by simpa using hj
       subst hj0;exact ⟨ab,m,cb,by rw [hwA,hR];simp,hEF.keep hkA⟩
    have CMG:=callsIn_wide.1 (pd (pT R) 1 1 [F] wA hPA1 (by omega) (by simp;omega) (fun e he=>by
     have h1:e ∈ F:=by simpa using he
     rw [HFA.out] at h1;obtain ⟨L1,hL1,he1⟩:=List.mem_flatten.1 h1;obtain ⟨L2,hL2,rfl⟩:=List.mem_map.1 hL1;obtain ⟨k5,q5,d5,t5,n5⟩:=e;obtain ⟨p1,p2,p3,p4,p5,p6,p7,p8⟩:=dX ((cO (HDN.out L2 hL2)).2.2 _ (List.mem_filter.1 he1).1);exact ⟨Nat.le_trans p1 (by omega),Nat.le_trans p8 (by omega)⟩))
    have HSA:Hid (dR Y Y (Y+1) wA (bh sd P) (.slice d0 m0 e0) (.slice d1 m1 e1) (.slice d2 m2 e2) (fu (bD sd P)) (.slice ab m cb) m F):=hst.below hkA;have HBA:Hid (Bl w1 wA):=hb.trans (hkA.mono hb.size);have HLM:Hid (F.length=m):=hmF;clear hin hst hEF hmF hkA hPA1 hb HST;go_wp2_with fail
    rw [← hR,← hwA];clear hR hwA;refine CMG.mono ?_;rintro e w3 ⟨⟨g,rfl,hO⟩,hb3⟩;have hfl:[F].flatten=F:=by simp
    rw [hfl,HLM.out] at hO ⊢;have HG:Hid (aE w3 wA.heap.size g m m (bg F)):=hO;have HS3:Hid (dR Y Y (Y+1) w3 (bh sd P) (.slice d0 m0 e0) (.slice d1 m1 e1) (.slice d2 m2 e2) (fu (bD sd P)) (.slice ab m cb) m F):=HSA.out.below hb3;have HB3:Hid (Bl w1 w3):=HBA.out.trans (hb3.mono HBA.out.size);have HGA:Hid (w1.heap.size≤wA.heap.size):=HBA.out.size;have fy3:w3.frozen? ⟨Y,1,none⟩=false:=by simp [World.frozen?,HS3.out.box]
    have cy3:w3.cell? ⟨Y,1,none⟩=some nZ:=by rw [Lib.cell_of_heap HS3.out.box];rfl
    have zy3:=World.block_lt_of_cell? _ _ cy3;simp only at zy3;clear hO hb3 hfl HSA HBA CMG HST2;go_upto_region 15 with fail
    obtain ⟨w4,hw4⟩:=aw (w3.setCell ⟨Y,1,none⟩ (sL g m m));rw [← hw4];have hnk:∀(g':Nat) cs t,w3.heap[g']?=some (.cells cs t (0,0))→t≠86→w4.heap[g']?=w3.heap[g']?:=fun g' cs t hh ht=>by
     rw [hw4];refine Below.heap_setCell _ _ _ _ (fun e=>?_);have e':g'=Y:=e;subst e';rw [HS3.out.box] at hh;cases hh;exact ht rfl
    have hbox4:w4.heap[Y]?=some (.cells #[iT (bh sd P),sL g m m,.slice d0 m0 e0,.slice d1 m1 e1,.slice d2 m2 e2,nZ] 86 (0,0)):=by rw [hw4];exact heap_setCell_same w3 Y 1 _ _ _ HS3.out.box
    have HBD4:Hid (Lib.IsBuilder 135 5 Y (Y+1) (Lib.byteCells (fu (bD sd P))) w4):=f6 HS3.out.bld (fun g' cs t ht hh=>hnk g' cs t hh (by rcases ht with rfl | rfl <;> decide));have HG4:Hid (aE w4 wA.heap.size g m m (bg F)):=⟨eI HG.out.owns (fun g' cs hh=>hnk g' cs _ hh (by decide)),HG.out.len,HG.out.ents⟩;have HB4:Hid (Bl w1 w4):=by rw [hw4];exact HB3.out.setCell (by have:=HYW.out;show _≤Y;omega) _
    have HMK:Hid (∀w':World,w'.heap[Y]?=some (.cells #[iT (bh sd P),sL g m m,.slice d0 m0 e0,.slice d1 m1 e1,.slice d2 m2 e2,nZ] 86 (0,0))→(w'.cell? ⟨Y,0,none⟩=some (iT (bh sd P))∧w'.cell? ⟨Y,1,none⟩=some (sL g m m)∧w'.cell? ⟨Y,2,none⟩=some (.slice d0 m0 e0)∧w'.cell? ⟨Y,3,none⟩=some (.slice d1 m1 e1)∧w'.cell? ⟨Y,4,none⟩=some (.slice d2 m2 e2)∧w'.cell? ⟨Y,5,none⟩=some nZ∧Y<w'.heap.size)):=fun w' h=>⟨by rw [Lib.cell_of_heap h];rfl,by rw [Lib.cell_of_heap h];rfl,by rw [Lib.cell_of_heap h];rfl,by rw [Lib.cell_of_heap h];rfl,by rw [Lib.cell_of_heap h];rfl,by rw [Lib.cell_of_heap h];rfl,(Array.getElem?_eq_some_iff.1 h).1⟩
    have HX4:Hid (∀w',Bl w1 w'→aR w' (X+1) (iT 0) nZ nZ nZ nZ nZ):=fun w' k=>HBR.out w' (K1.out.trans (k.mono K1.out.size))
    clear hw4 hnk fy3 cy3 zy3 HS3 HB3 HG;have hbd:w4.drew.heap[Y]?=_:=hbox4;have hbb:Lib.IsBuilder 135 5 Y (Y+1) (Lib.byteCells (fu (bD sd P))) w4.drew:=HBD4.out;have hgd:aE w4.drew wA.heap.size g m m (bg F):=⟨HG4.out.owns,HG4.out.len,HG4.out.ents⟩;have hkd:Bl w1 w4.drew:=HB4.out.drew;refine dC HMK hbd fun aa=>?_
    generalize w4.drew=wd at hbd hbb hgd hkd aa ⊢;have HBD:Hid (wd.heap[Y]?=some (.cells #[iT (bh sd P),sL g m m,.slice d0 m0 e0,.slice d1 m1 e1,.slice d2 m2 e2,nZ] 86 (0,0))):=hbd;have HBB:Hid (Lib.IsBuilder 135 5 Y (Y+1) (Lib.byteCells (fu (bD sd P))) wd):=hbb;have HGD:Hid (aE wd wA.heap.size g m m (bg F)):=hgd;have HKD:Hid (Bl w1 wd):=hkd;clear hbd hbb hgd hkd HBD4 HG4 HB4 hbox4;refine aK 0 1 aa ?_;refine aK 2 1 aa ?_;refine aP 1 fun K hK=>?_
    go_simp;refine (Any.Builder_String_any_k Tryz.lays169 Tryz.Builder_Extra_169 Y (Y+1) (fu (bD sd P)) wd (Lib.IsBuilderF.of HBB.out) (by have:=HKD.out.size;have:=HYW.out;omega)).mono ?_;rintro e w5 ⟨rfl,_,hb5,hk5⟩;have hbox5:w5.heap[Y]?=_:=hk5 Y _ HBD.out (by simp) (fun c fz e=>by cases e);obtain ⟨cb5,hcb5⟩:=uL HBB.out;have HG5:Hid (aE w5 wA.heap.size g m m (bg F)):=⟨eI HGD.out.owns (fun g' cs hh=>by
     rw [hh];exact hk5 g' _ hh (fun e=>by cases e;rw [hcb5] at hh;cases hh) (fun c fz e=>by cases e)),HGD.out.len,HGD.out.ents⟩
    have HB5:Hid (Bl w1 w5):=HKD.out.trans (by rw [← HYW.out];exact hb5);have HM5:=HMK.out _ hbox5;go_wp2_with fail
    refine hK.out _ _ HM5 fun aa=>?_
    (try go_frame);have br:=HX4.out w5 HB5.out;have r0:=br.all;have hxy:X+1≠Y:=by
     have h1:=(HBR.out W (Below.refl _ W)).lt;have h2:=K1.out.size;have:=HYW.out;omega
    have hxg:X+1≠g:=by
     have h1:=(HBR.out W (Below.refl _ W)).lt;have h2:=K1.out.size;have h3:=HGA.out;have h4:=HG5.out.lt.1;omega
    refine aP 3 fun K hK=>?_
    go_simp;obtain ⟨wz,hwz⟩:=aw ((((((w5.setCell ⟨X+1,0,none⟩ (iT (bh sd P))).setCell ⟨X+1,1,none⟩ (sL g m m)).setCell ⟨X+1,2,none⟩ (.slice d0 m0 e0)).setCell ⟨X+1,3,none⟩ (.slice d1 m1 e1)).setCell ⟨X+1,4,none⟩ (.slice d2 m2 e2)).setCell ⟨X+1,5,none⟩ nZ);have hbz:wz.heap[Y]?=w5.heap[Y]?:=by
     rw [hwz,Below.heap_setCell _ _ _ _ hxy.symm,Below.heap_setCell _ _ _ _ hxy.symm,Below.heap_setCell _ _ _ _ hxy.symm,Below.heap_setCell _ _ _ _ hxy.symm,Below.heap_setCell _ _ _ _ hxy.symm,Below.heap_setCell _ _ _ _ hxy.symm]
    have HGZ:Hid (an wz (pT g) m m (bg F)):=by
     rw [hwz];exact (((((HG5.out.entsAt.setCell _ _ (fun x e _=>by cases e;exact hxg.symm)).setCell _ _ (fun x e _=>by cases e;exact hxg.symm)).setCell _ _ (fun x e _=>by cases e;exact hxg.symm)).setCell _ _ (fun x e _=>by cases e;exact hxg.symm)).setCell _ _ (fun x e _=>by cases e;exact hxg.symm)).setCell _ _ (fun x e _=>by cases e;exact hxg.symm)
    have HRZ:Hid (aR wz (X+1) (iT (bh sd P)) (sL g m m) (.slice d0 m0 e0) (.slice d1 m1 e1) (.slice d2 m2 e2) nZ):=by
     rw [hwz];exact (((((br.set0 _).set1 _).set2 _).set3 _).set4 _).set5 _
    have HBZ:Hid (Bl w wz):=by
     have hx:w.heap.size≤X+1:=by have:=HXW.out;omega
     rw [hwz];exact ((((((K0.out.trans ((K1.out.trans (HB5.out.mono K1.out.size)).mono K0.out.size)).setCell (p:=⟨X+1,0,none⟩) hx _).setCell (p:=⟨X+1,1,none⟩) hx _).setCell (p:=⟨X+1,2,none⟩) hx _).setCell (p:=⟨X+1,3,none⟩) hx _).setCell (p:=⟨X+1,4,none⟩) hx _).setCell (p:=⟨X+1,5,none⟩) hx _
    rw [← hwz];clear hwz r0 br hxy hxg;refine hK.out _ _ (HMK.out _ (hbz.trans hbox5)) fun aa=>?_
    (try go_frame);refine aK 4 2 aa ?_;refine dN ?_;go_wp2;have h1:=HGZ.out;rw [HFA.out] at h1;have h2:=HLM.out;rw [HFA.out] at h2;refine bodyPost_ret (v:=.tuple #[.agg #[iT (bh sd P),sL g m m,.slice d0 m0 e0,.slice d1 m1 e1,.slice d2 m2 e2,nZ],.string ⟨(fu (bD sd P)).toArray⟩,iT (k:Int)]) ?_ rfl ⟨P,k,g,m,HWH.out,h2.symm,rfl,h1,HBZ.out⟩;have e:=HRZ.out;simp [results,Tryz.results116,go_sem,e.all]
theorem aR.sets {v0 v1 v2 v3 v4 v5:Value} (h:aR w b v0 v1 v2 v3 v4 v5) (u0 u1 u2 u3 u4 u5:Value):aR ((((((w.setCell ⟨b,0,none⟩ u0).setCell ⟨b,1,none⟩ u1).setCell ⟨b,2,none⟩ u2).setCell ⟨b,3,none⟩ u3).setCell ⟨b,4,none⟩ u4).setCell ⟨b,5,none⟩ u5) b u0 u1 u2 u3 u4 u5 :=
 (((((h.set0 u0).set1 u1).set2 u2).set3 u3).set4 u4).set5 u5
theorem jP {P:Nat} (h:Below B w w') (hP:B≤P) (u0 u1 u2 u3 u4 u5:Value):Below B w ((((((w'.setCell ⟨P,0,none⟩ u0).setCell ⟨P,1,none⟩ u1).setCell ⟨P,2,none⟩ u2).setCell ⟨P,3,none⟩ u3).setCell ⟨P,4,none⟩ u4).setCell ⟨P,5,none⟩ u5) :=
 ((mf h hP u0 u1 u2 u3).setCell (p:=⟨P,4,none⟩) hP u4).setCell (p:=⟨P,5,none⟩) hP u5
end Go.Proofs.YtehiefdphnljaaaGreatDoor
