/-
  The program's runsOf: entries in order, cut into runs, by a walk of its Go text.
-/
import Derived.Test.YtlmgojlffgkciaaGreatTc11
import Derived.Test.YtlmgojlffgkciaaGreatTc16
import Derived.Test.YtlmgojlffgkciaaGreatTc17
import Derived.Test.YtlmgojlffgkciaaGreatTc30
import Derived.Test.YtlmgojlffgkciaaGreatTc14
import Derived.Test.YtlmgojlffgkciaaGreatTc31
namespace Go.Proofs.YtlmgojlffgkciaaGreat
open Go.RowKit
set_option maxRecDepth 100000
set_option maxHeartbeats 8000000
structure d6 (base:Nat) (w:World) (v:Value) (n:Nat) (B:List ae):Prop where
 len:B.length=n
 wfs:∀p ∈ B,(Lit.int .i64 p.2).wf=true
 row:∃xs,w.ownsRow base 102 2 v n xs∧∀(i:Nat) (p:ae),B[i]?=some p→∃e d,xs[i*2]?=some (sL e p.1.length d)∧xs[i*2+1]?=some (iT p.2)∧aE w base e p.1.length d p.1
theorem d6.below {base n:Nat} {v:Value} {w w':World} {B:List ae} (h:d6 base w v n B) (hb:Bl w w'):d6 base w' v n B:=by
 obtain ⟨xs,h3,h4⟩:=h.row;exact ⟨h.len,h.wfs,xs,bi h3 hb,fun i p hp=>by obtain ⟨e,d,a1,a2,a3⟩:=h4 i p hp;exact ⟨e,d,a1,a2,a3.below hb⟩⟩
theorem jM (base:Nat) (w:World):d6 base w nZ 0 []:=⟨rfl,(fun p hp=>by cases hp),[],World.ownsRow_nil _ _ _ _,fun i p hp=>by simp at hp⟩
theorem ol {base n e d:Nat} {v v':Value} {w w':World} {xs:List Value} {B:List ae} {L:List ac} {m:Int} (h:d6 base w v n B) (hx:w.ownsRow base 102 2 v n xs∧∀(i:Nat) (p:ae),B[i]?=some p→∃e d,xs[i*2]?=some (sL e p.1.length d)∧xs[i*2+1]?=some (iT p.2)∧aE w base e p.1.length d p.1)
 (hL:aE w base e L.length d L) (hm:(Lit.int .i64 m).wf=true) (hg:w.grownBy w' v.ownBlock) (ho:w'.ownsRow base 102 2 v' (n+1) (xs++[sL e L.length d,iT m])):d6 base w' v' (n+1) (B++[(L,m)]):=by
 obtain ⟨h3,h4⟩:=hx;have h1:=h.len;have hne:∀{e d:Nat} {L:List ac},aE w base e L.length d L→aE w' base e L.length d L:=fun {e d L} hO=>by
  refine hO.grown hg (fun e'=>?_);rcases h3.2 with ⟨hv,_⟩ | ⟨g,cap,cur,hv,_⟩
  · rw [hv] at e';cases e'
  · subst hv;obtain ⟨s3,k3⟩:=cY h3;obtain ⟨s4,k4⟩:=cY hO.owns;have e'':e=g:=Option.some.inj e';subst e'';exact absurd (k3.kind k4) (by decide)
 have hxl:=h3.1;refine ⟨by rw [List.length_append,h1];rfl,fun p hp=>?_,_,ho,fun i p hp=>?_⟩
 · rcases List.mem_append.1 hp with h5 | h5
   · exact h.wfs p h5
   · rw [List.mem_singleton] at h5;subst h5;exact hm
 · by_cases hi:i<B.length
   · rw [List.getElem?_append_left hi] at hp;obtain ⟨e0,d0,a1,a2,a3⟩:=h4 i p hp;exact ⟨e0,d0,by rw [List.getElem?_append_left (by omega)];exact a1,by rw [List.getElem?_append_left (by omega)];exact a2,hne a3⟩
   · have hi':=(List.getElem?_eq_some_iff.1 hp).1;rw [List.length_append] at hi';have hi2:i=B.length:=by have:[(L,m)].length=1:=rfl;omega
     subst hi2;rw [List.getElem?_append_right (Nat.le_refl _),Nat.sub_self] at hp;cases hp;refine ⟨e,d,?_,?_,hne hL⟩
     · rw [List.getElem?_append_right (by omega),show B.length*2 - xs.length=0 by omega];rfl
     · rw [List.getElem?_append_right (by omega),show B.length*2+1 - xs.length=1 by omega];rfl
def rQ (B:List ae) (w:World) (e:Ending) (w':World):Prop:=∃v ok n,e=.returned (.tuple #[v,.bool ok])∧ok=cV B∧(ok=true→d6 w.heap.size w' v n B)∧(ok=false→v=nZ)∧Bl w w'
theorem mI {L:List ac} (h:az L=true) (f k:Nat):az ((L.drop f).take k)=true:=by
 have hs:((L.drop f).take k).Sublist L:=(List.take_sublist _ _).trans (List.drop_sublist _ _);refine je ((fa h).sublist hs) (fun e he=>?_);obtain ⟨j,hj,rfl⟩:=List.getElem_of_mem (hs.subset he);exact ep h (List.getElem?_eq_getElem hj)
theorem va (b n c:Nat) (L:List ac) (w:World) (h:af w (pT b) n c L) (hbw:b<w.heap.size) (hn:n≤100000) (hrt:az L=true) :
 Calls Tryz.prog 105 #[sL b n c] w (rQ (dU L n).1 w):=by
 have HE:=bc h;have HLN:Hid (L.length=n):=h.length;have HRT:=bc hrt;have hroom:=h.room;obtain ⟨j0,hj,hy0,hy1,hy2⟩:=info_parts Tryz.infoRun;clear h hrt;go_enter Tryz.func105,Tryz.ntmps105
 go_wp2;go_loopw [4,5] (fun uv fv wr=>∃(f m:Nat) (BB:List ae) (vv:Value),vv=uv∧f≤n∧fv=iT (f:Int)∧m≤f∧dU L f=(BB,f)∧cV BB=true∧d6 w.heap.size wr vv m BB∧Bl w wr) (fun _ fv _=>n - (intOf fv).toNat)
 case atStart=>exact ⟨0,0,[],_,rfl,Nat.zero_le _,rfl,Nat.le_refl _,rfl,rfl,jM _ _,Below.refl _ _⟩
 case round =>
  obtain ⟨f,m,BB,vv,hvv,hfn,rfl,hmf,hc,hft,hr,hb⟩:=hrel;subst hvv;have HC0:Hid (dU L f=(BB,f)):=hc;have HFT:Hid (cV BB=true):=hft;have HR0:Hid (d6 w.heap.size wr vv m BB):=hr;have HK0:Hid (Bl w wr):=hb;clear hc hft hr hb;by_cases hlt:f<n
  · have hltI:(f:Int)<(n:Int):=by omega
    go_wp2;go_loopw [6] (fun jv wr=>∃j:Nat,f<j∧j≤n∧jv=iT (j:Int)∧dU L (j - 1)=(BB,f)∧d6 w.heap.size wr vv m BB∧Bl w wr) (fun jv _=>n+1 - (intOf jv).toNat)
    case atStart=>exact ⟨f+1,by omega,by omega,by go_num,(by rw [Nat.add_sub_cancel];exact HC0.out),HR0.out,HK0.out⟩
    case round =>
     clear HC0 HR0 HK0;obtain ⟨j,hfj,hjn,rfl,hc,hr,hb⟩:=hrel;have HC:Hid (dU L (j - 1)=(BB,f)):=hc;have HR:Hid (d6 w.heap.size wr vv m BB):=hr;have HK:Hid (Bl w wr):=hb;have zb:b<wr.heap.size:=Nat.lt_of_lt_of_le hbw hb.size;have hz0:0<wr.heap.size:=by omega
     clear hc hr hb;by_cases hend:j=n
     · subst hend;have HCB:Hid (eE L f j=true):=by show _=_;unfold eE;rw [HLN.out];simp
       have k0:Bl wr wr.drew:=(Below.refl _ wr).drew;have HMK:Hid (∀w',Bl wr w'→(fun w'=>0<w'.heap.size) w'):=fun w' kk=>Nat.lt_of_lt_of_le hz0 kk.size
       have HKD:Hid (Bl w wr.drew):=HK.out.trans (k0.mono HK.out.size);have HRD:Hid (d6 w.heap.size wr.drew vv m BB):=HR.out.below k0;go_upto_region 5 with fail
       refine dM HMK k0 fun aa=>?_
       generalize wr.drew=wd at k0 aa HKD HRD ⊢;refine aL 0 24 aa ?_;refine dN ?_;clear aa HMK k0;obtain ⟨P,hP⟩:=ay ((L.drop f).take (j - f));have HPE:Hid (P=(L.drop f).take (j - f)):=hP;obtain ⟨np,hnp⟩:=ay (j - f);have HPL:Hid (P.length=np):=by show _=_;rw [hP,hnp,List.length_take,List.length_drop,HLN.out];omega
       obtain ⟨cp,hcp⟩:=ay (c - f);have HEP:Hid (∀w',Bl w w'→af w' (some ⟨b,f*5,none⟩) np cp P):=fun w' kk=>by rw [hP,hnp,hcp];have:=(HE.out.keep kk).sub (i:=f) (j:=j) (by omega) (by omega);simpa using this
       have HPR:Hid (az P=true):=by show _=_;rw [hP];exact mI HRT.out _ _
       have hcf:¬c=f:=by omega
       have hfkI:(f:Int)≤(j:Int):=by omega
       have hkcI:(j:Int)≤(c:Int):=by omega
       have HNP:Hid (1≤np):=by show _≤_;omega
       have hsz3:j - f=np:=hnp.symm;have hsz4:c - f=cp:=hcp.symm;clear hP hnp hcp;obtain ⟨FL,hFL⟩:=ay (zl P);obtain ⟨mk,hmk⟩:=ay (zj P);obtain ⟨ku,hok⟩:=ay (pD P);have HFL:Hid (FL=zl P∧mk=zj P∧ku=pD P):=⟨hFL,hmk,hok⟩;have CR:Hid (Calls Tryz.prog 98 #[.slice (some ⟨b,f*5,none⟩) np cp] wd (BZ FL mk ku wd)):=by rw [hFL,hmk,hok];exact oU b (f*5) np cp P wd (HEP.out _ HKD.out)
       clear hFL hmk hok;go_wp2_with fail
       refine CR.out.mono ?_;rintro e w2 ⟨ag,ng,cg,rfl,hO2,hb2⟩;have HK2:Hid (Bl w w2):=HKD.out.trans (hb2.mono HKD.out.size);have HR2:Hid (d6 w.heap.size w2 vv m BB):=HRD.out.below hb2;have HO2:Hid (d7 w2 w.heap.size ag ng cg FL):=hO2.mono HKD.out.size;obtain ⟨R,hR⟩:=ay w2.heap.size;obtain ⟨w3,hw3⟩:=ay (w2.alloc (.cells #[.slice ag ng cg,iT mk] 102));have k3:Bl w2 w3:=by rw [hw3];exact bZ
       have HK3:Hid (Bl w w3):=HK2.out.trans (k3.mono HK2.out.size);have HR3:Hid (d6 w.heap.size w3 vv m BB):=HR2.out.below k3;have HO3:Hid (d7 w3 w.heap.size ag ng cg FL):=HO2.out.below k3;have s0':w3.cell? ⟨R,0,none⟩=some (.slice ag ng cg):=by rw [hw3,hR];simp
       have s1':w3.cell? ⟨R,1,none⟩=some (iT mk):=by rw [hw3,hR];simp
       have sz':R<w3.heap.size:=World.block_lt_of_cell? _ _ s0';clear hb2 hO2 k3 HK2 HR2 HO2 CR HKD HRD;go_upto_region 8 with fail
       rw [← hw3];try rw [← hR]
       clear hw3 hR;by_cases h150:np≤150
       · obtain ⟨ho,hl,hm⟩:=s8 HPR.out (fun e=>by have h1:=HPL.out;have h2:=HNP.out;rw [e] at h1;simp at h1;omega) (by rw [HPL.out];exact h150);obtain ⟨f1,f2,f3⟩:=HFL.out;rw [hl] at f1;rw [hm] at f2;rw [ho] at f3;have f1':=f1.symm;subst f1' f3;have HMK:Hid (mk=((dg P:Nat):Int)):=f2;obtain ⟨gg,rfl⟩:∃gg,ag=some ⟨gg,0,none⟩:=by
          cases ag with
          | none=>have h1:=HO3.out.nil rfl;have h2:=HPL.out;have h3:=HNP.out;rw [h1.2.2] at h2;simp at h2;omega
          | some x=>obtain ⟨gg,h1,_⟩:=HO3.out.own x rfl;exact ⟨gg,by rw [h1]⟩
         have HNG:Hid (ng=np):=by show _=_;rw [← HO3.out.len,HPL.out]
         have hng:=HNG.out;subst hng;have ka:Bl w3 (w3.alloc (.cells #[sL gg ng cg,iT mk] 102)):=bZ;have HK4:Hid (Bl w (w3.alloc (.cells #[sL gg ng cg,iT mk] 102))):=HK3.out.trans (ka.mono HK3.out.size);have HO4:Hid (aE (w3.alloc (.cells #[sL gg ng cg,iT mk] 102)) w.heap.size gg ng cg P):=by
          obtain ⟨g6,e6,h6⟩:=(HO3.out.below ka).own _ rfl;cases e6;exact h6
         have HR4:Hid (d6 w.heap.size (w3.alloc (.cells #[sL gg ng cg,iT mk] 102)) vv m BB):=HR3.out.below ka;obtain ⟨xs,r3⟩:=HR4.out.row;have HX3:Hid ((w3.alloc (.cells #[sL gg ng cg,iT mk] 102)).ownsRow w.heap.size 102 2 vv m xs∧_):=r3;have hcn:=cw w3 (sL gg ng cg) (iT mk) 102;have HCN:=bc hcn;have HF1:Hid (cV (BB++[(P,mk)])=true):=by
          show _=_
          have h1:=HFT.out;unfold cV at h1 ⊢;rw [List.all_append,h1];have h2:=HPL.out;simp;omega
         clear ka hcn r3 f2 hl hm ho HR3 HO3 HK3;go_wp2_with (at_builtin;refine wpList_append_own _ rfl _ _ 64 rfl w.heap.size 102 j0 _ 2 32 Tryz.underlying64 hj hy0 hy1 hy2 rfl (by decide) _ _ _ rfl HX3.out.1 ⟨w3.heap.size,0,none⟩ 1 1 [sL gg ng cg,iT mk] rfl rfl HCN.out (by intro u hu;simp at hu;rcases hu with rfl | rfl <;> rfl) (by unfold maxLen;omega) (by omega) HK4.out.size ?_;intro v5 w5 hown5 hgrow5 hnil5)
         have HR5:Hid (d6 w.heap.size w5 v5 (m+1) (BB++[(P,mk)])):=ol HR4.out HX3.out (by rw [HPL.out];exact HO4.out) (by rw [HMK.out];exact nu _) hgrow5 (by rw [HPL.out];exact hown5);have HK5:Hid (Bl w w5):=HK4.out.grown hgrow5 HK4.out.size (fun k e=>(HX3.out.1.lt k e).1);clear hown5 hgrow5 hnil5;go_roundw
         case rel=>exact ⟨j,m+1,BB++[(P,mk)],v5,rfl,by omega,rfl,by omega,(by rw [gm (by omega) HC.out HCB.out];unfold dJ;rw [← HPE.out,← HMK.out]),HF1.out,HR5.out,HK5.out⟩
         case measure=>first | (simp [intOf];omega) | (simp [intOf])
       · have ho:pD P=false:=by unfold pD;rw [HPL.out,decide_eq_false h150];simp
         obtain ⟨f1,f2,f3⟩:=HFL.out;rw [ho] at f3;subst f3;have HNO:Hid (cV (dU L j).1=false):=by
          have h1:=gm (by omega) HC.out HCB.out;obtain ⟨Y,hY⟩:=pm L j (j - j);rw [show j+(j - j)=j by omega] at hY;have h1f:(dU L j).1=BB++[dJ L f j]:=by rw [h1]
          have hY2:(dU L j).1=(BB++[dJ L f j])++Y:=hY.trans (congrArg (·++Y) h1f);have h2:(dJ L f j).1.length=np:=by show ((L.drop f).take (j - f)).length=np;rw [← HPE.out,HPL.out]
          show _=_
          rw [hY2];unfold cV;rw [List.all_eq_false];exact ⟨dJ L f j,by simp,by simp only [decide_eq_true_eq];rw [h2];exact h150⟩
         clear f1 f2 ho;go_wp2;exact bodyPost_ret (v:=.tuple #[nZ,.bool false]) (by simp [results,Tryz.results105,go_sem]) rfl (show rQ _ w _ _ from ⟨_,_,0,rfl,HNO.out.symm,(fun h=>by cases h),fun _=>rfl,HK3.out⟩)
     · have hjnI:(j:Int)<(n:Int):=by omega
       have wsub:IntKind.i64.wrap ((j:Int) - (f:Int))=(j:Int) - (f:Int):=by rw [IntWalk.i64_left];unfold wrap64;omega
       by_cases h20:20≤j - f
       · have h20I:¬(j:Int) - (f:Int)<20:=by omega
         have wsub1:IntKind.i64.wrap ((j:Int) - 1)=(j:Int) - 1:=by rw [IntWalk.i64_left];unfold wrap64;omega
         have hk0I:(j:Int) - 1<(n:Int):=by omega
         have hz0I:(0:Int)≤(j:Int) - 1:=by omega
         have hi1I:(1:Int)≤(j:Int):=by omega
         have htn:((j:Int) - 1).toNat=j - 1:=by omega
         obtain ⟨s1,x1,x2,x3,x4,hg1,_,q1,_⟩:=HE.out.ent HK.out hbw j (by omega);obtain ⟨s0,y1,y2,y3,y4,hg0,_,q0,_⟩:=HE.out.ent HK.out hbw (j - 1) (by omega);simp only [Nat.zero_add] at q1 q0;by_cases hkey:s1=s0
         · have HCB:Hid (eE L f j=false):=by show _=_;unfold eE;rw [HLN.out,fG hg1,fG hg0,decide_eq_false hend];simp [hkey]
           have hkl:(s1.toList == s0.toList)=true:=by rw [hkey];simp
           clear hg1 hg0 hkey;have k0:Bl wr wr.drew:=(Below.refl _ wr).drew;have HMK:Hid (∀w',Bl wr w'→(fun w'=>w'.cell? ⟨b,j*5,none⟩=some (.string s1)∧w'.cell? ⟨b,(j - 1)*5,none⟩=some (.string s0)∧b<w'.heap.size) w'):=fun w' kk=>⟨cell_later kk q1,cell_later kk q0,Nat.lt_of_lt_of_le zb kk.size⟩
           have HKD:Hid (Bl w wr.drew):=HK.out.trans (k0.mono HK.out.size);have HRD:Hid (d6 w.heap.size wr.drew vv m BB):=HR.out.below k0;go_upto_region 5 with fail
           refine dM HMK k0 fun aa=>?_
           generalize wr.drew=wd at k0 aa HKD HRD ⊢;refine aL 0 24 aa ?_;refine dN ?_;clear aa HMK k0;go_wp2;go_roundw
           case rel=>exact ⟨j+1,by omega,by omega,by go_num,(by rw [Nat.add_sub_cancel];exact lP (by omega) HC.out HCB.out),HRD.out,HKD.out⟩
           case measure=>first | (simp [intOf];omega) | (simp [intOf])
         · have HCB:Hid (eE L f j=true):=by show _=_;unfold eE;rw [HLN.out,fG hg1,fG hg0];simp [hkey,h20]
           have hkl:(s1.toList == s0.toList)=false:=by rw [beq_eq_false_iff_ne];intro e;rw [ByteArray.toList_eq,ByteArray.toList_eq] at e;exact hkey (ByteArray.ext (Array.toList_inj.1 e))
           clear hg1 hg0;have k0:Bl wr wr.drew:=(Below.refl _ wr).drew;have HMK:Hid (∀w',Bl wr w'→(fun w'=>w'.cell? ⟨b,j*5,none⟩=some (.string s1)∧w'.cell? ⟨b,(j - 1)*5,none⟩=some (.string s0)∧b<w'.heap.size) w'):=fun w' kk=>⟨cell_later kk q1,cell_later kk q0,Nat.lt_of_lt_of_le zb kk.size⟩
           have HKD:Hid (Bl w wr.drew):=HK.out.trans (k0.mono HK.out.size);have HRD:Hid (d6 w.heap.size wr.drew vv m BB):=HR.out.below k0;go_upto_region 5 with fail
           refine dM HMK k0 fun aa=>?_
           generalize wr.drew=wd at k0 aa HKD HRD ⊢;refine aL 0 24 aa ?_;refine dN ?_;clear aa HMK k0;obtain ⟨P,hP⟩:=ay ((L.drop f).take (j - f));have HPE:Hid (P=(L.drop f).take (j - f)):=hP;obtain ⟨np,hnp⟩:=ay (j - f);have HPL:Hid (P.length=np):=by show _=_;rw [hP,hnp,List.length_take,List.length_drop,HLN.out];omega
           obtain ⟨cp,hcp⟩:=ay (c - f);have HEP:Hid (∀w',Bl w w'→af w' (some ⟨b,f*5,none⟩) np cp P):=fun w' kk=>by rw [hP,hnp,hcp];have:=(HE.out.keep kk).sub (i:=f) (j:=j) (by omega) (by omega);simpa using this
           have HPR:Hid (az P=true):=by show _=_;rw [hP];exact mI HRT.out _ _
           have hcf:¬c=f:=by omega
           have hfkI:(f:Int)≤(j:Int):=by omega
           have hkcI:(j:Int)≤(c:Int):=by omega
           have HNP:Hid (1≤np):=by show _≤_;omega
           have hsz3:j - f=np:=hnp.symm;have hsz4:c - f=cp:=hcp.symm;clear hP hnp hcp;obtain ⟨FL,hFL⟩:=ay (zl P);obtain ⟨mk,hmk⟩:=ay (zj P);obtain ⟨ku,hok⟩:=ay (pD P);have HFL:Hid (FL=zl P∧mk=zj P∧ku=pD P):=⟨hFL,hmk,hok⟩;have CR:Hid (Calls Tryz.prog 98 #[.slice (some ⟨b,f*5,none⟩) np cp] wd (BZ FL mk ku wd)):=by rw [hFL,hmk,hok];exact oU b (f*5) np cp P wd (HEP.out _ HKD.out)
           clear hFL hmk hok;go_wp2_with fail
           refine CR.out.mono ?_;rintro e w2 ⟨ag,ng,cg,rfl,hO2,hb2⟩;have HK2:Hid (Bl w w2):=HKD.out.trans (hb2.mono HKD.out.size);have HR2:Hid (d6 w.heap.size w2 vv m BB):=HRD.out.below hb2;have HO2:Hid (d7 w2 w.heap.size ag ng cg FL):=hO2.mono HKD.out.size;obtain ⟨R,hR⟩:=ay w2.heap.size;obtain ⟨w3,hw3⟩:=ay (w2.alloc (.cells #[.slice ag ng cg,iT mk] 102));have k3:Bl w2 w3:=by rw [hw3];exact bZ
           have HK3:Hid (Bl w w3):=HK2.out.trans (k3.mono HK2.out.size);have HR3:Hid (d6 w.heap.size w3 vv m BB):=HR2.out.below k3;have HO3:Hid (d7 w3 w.heap.size ag ng cg FL):=HO2.out.below k3;have s0':w3.cell? ⟨R,0,none⟩=some (.slice ag ng cg):=by rw [hw3,hR];simp
           have s1':w3.cell? ⟨R,1,none⟩=some (iT mk):=by rw [hw3,hR];simp
           have sz':R<w3.heap.size:=World.block_lt_of_cell? _ _ s0';clear hb2 hO2 k3 HK2 HR2 HO2 CR HKD HRD;go_upto_region 8 with fail
           rw [← hw3];try rw [← hR]
           clear hw3 hR;by_cases h150:np≤150
           · obtain ⟨ho,hl,hm⟩:=s8 HPR.out (fun e=>by have h1:=HPL.out;have h2:=HNP.out;rw [e] at h1;simp at h1;omega) (by rw [HPL.out];exact h150);obtain ⟨f1,f2,f3⟩:=HFL.out;rw [hl] at f1;rw [hm] at f2;rw [ho] at f3;have f1':=f1.symm;subst f1' f3;have HMK:Hid (mk=((dg P:Nat):Int)):=f2;obtain ⟨gg,rfl⟩:∃gg,ag=some ⟨gg,0,none⟩:=by
              cases ag with
              | none=>have h1:=HO3.out.nil rfl;have h2:=HPL.out;have h3:=HNP.out;rw [h1.2.2] at h2;simp at h2;omega
              | some x=>obtain ⟨gg,h1,_⟩:=HO3.out.own x rfl;exact ⟨gg,by rw [h1]⟩
             have HNG:Hid (ng=np):=by show _=_;rw [← HO3.out.len,HPL.out]
             have hng:=HNG.out;subst hng;have ka:Bl w3 (w3.alloc (.cells #[sL gg ng cg,iT mk] 102)):=bZ;have HK4:Hid (Bl w (w3.alloc (.cells #[sL gg ng cg,iT mk] 102))):=HK3.out.trans (ka.mono HK3.out.size);have HO4:Hid (aE (w3.alloc (.cells #[sL gg ng cg,iT mk] 102)) w.heap.size gg ng cg P):=by
              obtain ⟨g6,e6,h6⟩:=(HO3.out.below ka).own _ rfl;cases e6;exact h6
             have HR4:Hid (d6 w.heap.size (w3.alloc (.cells #[sL gg ng cg,iT mk] 102)) vv m BB):=HR3.out.below ka;obtain ⟨xs,r3⟩:=HR4.out.row;have HX3:Hid ((w3.alloc (.cells #[sL gg ng cg,iT mk] 102)).ownsRow w.heap.size 102 2 vv m xs∧_):=r3;have hcn:=cw w3 (sL gg ng cg) (iT mk) 102;have HCN:=bc hcn;have HF1:Hid (cV (BB++[(P,mk)])=true):=by
              show _=_
              have h1:=HFT.out;unfold cV at h1 ⊢;rw [List.all_append,h1];have h2:=HPL.out;simp;omega
             clear ka hcn r3 f2 hl hm ho HR3 HO3 HK3;go_wp2_with (at_builtin;refine wpList_append_own _ rfl _ _ 64 rfl w.heap.size 102 j0 _ 2 32 Tryz.underlying64 hj hy0 hy1 hy2 rfl (by decide) _ _ _ rfl HX3.out.1 ⟨w3.heap.size,0,none⟩ 1 1 [sL gg ng cg,iT mk] rfl rfl HCN.out (by intro u hu;simp at hu;rcases hu with rfl | rfl <;> rfl) (by unfold maxLen;omega) (by omega) HK4.out.size ?_;intro v5 w5 hown5 hgrow5 hnil5)
             have HR5:Hid (d6 w.heap.size w5 v5 (m+1) (BB++[(P,mk)])):=ol HR4.out HX3.out (by rw [HPL.out];exact HO4.out) (by rw [HMK.out];exact nu _) hgrow5 (by rw [HPL.out];exact hown5);have HK5:Hid (Bl w w5):=HK4.out.grown hgrow5 HK4.out.size (fun k e=>(HX3.out.1.lt k e).1);clear hown5 hgrow5 hnil5;go_roundw
             case rel=>exact ⟨j,m+1,BB++[(P,mk)],v5,rfl,by omega,rfl,by omega,(by rw [gm (by omega) HC.out HCB.out];unfold dJ;rw [← HPE.out,← HMK.out]),HF1.out,HR5.out,HK5.out⟩
             case measure=>first | (simp [intOf];omega) | (simp [intOf])
           · have ho:pD P=false:=by unfold pD;rw [HPL.out,decide_eq_false h150];simp
             obtain ⟨f1,f2,f3⟩:=HFL.out;rw [ho] at f3;subst f3;have HNO:Hid (cV (dU L n).1=false):=by
              have h1:=gm (by omega) HC.out HCB.out;obtain ⟨Y,hY⟩:=pm L j (n - j);rw [show j+(n - j)=n by omega] at hY;have h1f:(dU L j).1=BB++[dJ L f j]:=by rw [h1]
              have hY2:(dU L n).1=(BB++[dJ L f j])++Y:=hY.trans (congrArg (·++Y) h1f);have h2:(dJ L f j).1.length=np:=by show ((L.drop f).take (j - f)).length=np;rw [← HPE.out,HPL.out]
              show _=_
              rw [hY2];unfold cV;rw [List.all_eq_false];exact ⟨dJ L f j,by simp,by simp only [decide_eq_true_eq];rw [h2];exact h150⟩
             clear f1 f2 ho;go_wp2;exact bodyPost_ret (v:=.tuple #[nZ,.bool false]) (by simp [results,Tryz.results105,go_sem]) rfl (show rQ _ w _ _ from ⟨_,_,0,rfl,HNO.out.symm,(fun h=>by cases h),fun _=>rfl,HK3.out⟩)
       · have h20I:(j:Int) - (f:Int)<20:=by omega
         have HCB:Hid (eE L f j=false):=by show _=_;unfold eE;rw [HLN.out,decide_eq_false hend,decide_eq_false h20];rfl
         have k0:Bl wr wr.drew:=(Below.refl _ wr).drew;have HMK:Hid (∀w',Bl wr w'→(fun w'=>0<w'.heap.size) w'):=fun w' kk=>Nat.lt_of_lt_of_le hz0 kk.size
         have HKD:Hid (Bl w wr.drew):=HK.out.trans (k0.mono HK.out.size);have HRD:Hid (d6 w.heap.size wr.drew vv m BB):=HR.out.below k0;go_upto_region 5 with fail
         refine dM HMK k0 fun aa=>?_
         generalize wr.drew=wd at k0 aa HKD HRD ⊢;refine aL 0 24 aa ?_;refine dN ?_;clear aa HMK k0;go_wp2;go_roundw
         case rel=>exact ⟨j+1,by omega,by omega,by go_num,(by rw [Nat.add_sub_cancel];exact lP (by omega) HC.out HCB.out),HRD.out,HKD.out⟩
         case measure=>first | (simp [intOf];omega) | (simp [intOf])
  · have hltI:¬(f:Int)<(n:Int):=by omega
    obtain rfl:f=n:=by omega
    have HF:Hid ((dU L f).1=BB):=by show _=_;rw [HC0.out]
    go_wp2;exact bodyPost_ret (v:=.tuple #[vv,.bool true]) (by simp [results,Tryz.results105,go_sem]) rfl (show rQ _ w _ _ from ⟨_,true,m,rfl,by rw [HF.out,HFT.out],(fun _=>by rw [HF.out];exact HR0.out),(fun h=>by cases h),HK0.out⟩)
end Go.Proofs.YtlmgojlffgkciaaGreat

namespace Go.Proofs.YtlmgojlffgkciaaGreat
open Go.RowKit
set_option maxRecDepth 100000
set_option maxHeartbeats 8000000
theorem dp {lo:Nat} {w:World} {b n c i j:Nat} {B:List ae} (h:aj lo w (pT b) n c B) (hij:i≤j) (hj:j≤n):aj lo w (some ⟨b,if c=i then 0 else i*2,none⟩) (j - i) (c - i) ((B.drop i).take (j - i)) where
 length:=by rw [List.length_take,List.length_drop,h.length];omega
 room:=by have:=h.room;omega
 big:=by have:=h.big;omega
 nil:=fun e=>by cases e
 lies:=fun x e hp=>by
  have h1:=h.lies _ rfl (by omega)
  cases e
  exact h1
 runs:=fun x e t ht=>by
  rw [List.length_take,List.length_drop,h.length] at ht
  have hc:¬c=i:=by have:=h.room;omega
  have hl:i+t<B.length:=by rw [h.length];omega
  have h1:=h.runs _ rfl (i+t) hl
  cases e
  rw [List.getElem_take,List.getElem_drop,if_neg hc]
  simp only [Nat.zero_add] at h1
  rw [show i*2+t*2=(i+t)*2 by omega]
  exact h1
def BW (e1 n1 c1 p:Nat) (B:List ae) (w:World) (e:Ending) (w':World):Prop:=∃v xs,e=.returned (.tuple #[.slice (some ⟨e1,p*2,none⟩) 1 (c1 - p),v])∧w'.ownsRow w.heap.size 102 2 v (n1 - 1) xs∧dq (·<w.heap.size) w xs (B.take p++B.drop (p+1))∧Bl w w'
theorem qo (q:Int) (am:Option Addr) (nm cm:Nat) (a0:Option Addr) (n0 c0 e1 n1 c1:Nat) (a2:Option Addr) (n2 c2:Nat) (ak:Option Addr) (nk ck:Nat) (pk:Int) (w:World) :
 Calls Tryz.prog 102 #[.agg #[iT q,.slice am nm cm,.slice a0 n0 c0,sL e1 n1 c1,.slice a2 n2 c2,.slice ak nk ck],iT 0,iT pk] w fun e w'=>e=.returned (.tuple #[.slice a0 n0 c0,nZ])∧Bl w w':=by
 have kW:Hid (Bl w (w.alloc (.cells #[iT q,.slice am nm cm,.slice a0 n0 c0,sL e1 n1 c1,.slice a2 n2 c2,.slice ak nk ck] 67))):=bZ;go_enter Tryz.func102,Tryz.ntmps102
 go_wp2;exact bodyPost_ret (v:=.tuple #[.slice a0 n0 c0,nZ]) (by simp [results,Tryz.results102,go_sem]) rfl ⟨rfl,kW.out⟩
theorem u9 (q:Int) (am:Option Addr) (nm cm:Nat) (a0:Option Addr) (n0 c0 e1 n1 c1:Nat) (a2:Option Addr) (n2 c2:Nat) (ak:Option Addr) (nk ck:Nat) (lv pk:Int) (w:World) (h0:¬lv=0) (hno:lv<0∨2≤lv∨pk<0∨(lv=1∧(n1:Int)≤pk)) :
 Calls Tryz.prog 102 #[.agg #[iT q,.slice am nm cm,.slice a0 n0 c0,sL e1 n1 c1,.slice a2 n2 c2,.slice ak nk ck],iT lv,iT pk] w fun e w'=>e=.returned (.tuple #[nZ,nZ])∧Bl w w':=by
 have kW:Hid (Bl w (w.alloc (.cells #[iT q,.slice am nm cm,.slice a0 n0 c0,sL e1 n1 c1,.slice a2 n2 c2,.slice ak nk ck] 67))):=bZ;have h0b:(lv == 0)=false:=by simpa using h0
 by_cases h1:lv<0
 · go_enter Tryz.func102,Tryz.ntmps102
   go_wp2;exact bodyPost_ret (v:=.tuple #[nZ,nZ]) (by simp [results,Tryz.results102,go_sem]) rfl ⟨rfl,kW.out⟩
 · by_cases h2:2≤lv
   · have h2':lv ≥ 2:=h2;go_enter Tryz.func102,Tryz.ntmps102
     go_wp2;exact bodyPost_ret (v:=.tuple #[nZ,nZ]) (by simp [results,Tryz.results102,go_sem]) rfl ⟨rfl,kW.out⟩
   · obtain rfl:lv=1:=by omega
     by_cases h3:pk<0
     · go_enter Tryz.func102,Tryz.ntmps102
       go_wp2;exact bodyPost_ret (v:=.tuple #[nZ,nZ]) (by simp [results,Tryz.results102,go_sem]) rfl ⟨rfl,kW.out⟩
     · have h4:pk ≥ (n1:Int):=by omega
       have h4':(n1:Int)≤pk:=by omega
       go_enter Tryz.func102,Tryz.ntmps102
       go_wp2;exact bodyPost_ret (v:=.tuple #[nZ,nZ]) (by simp [results,Tryz.results102,go_sem]) rfl ⟨rfl,kW.out⟩
theorem xO (q:Int) (am:Option Addr) (nm cm:Nat) (a0:Option Addr) (n0 c0 e1 n1 c1:Nat) (a2:Option Addr) (n2 c2:Nat) (ak:Option Addr) (nk ck:Nat) (p:Nat) (B:List ae) (w:World) (hR:aj 0 w (pT e1) n1 c1 B) (hn:n1≤1000) (hp:p<n1) :
 Calls Tryz.prog 102 #[.agg #[iT q,.slice am nm cm,.slice a0 n0 c0,sL e1 n1 c1,.slice a2 n2 c2,.slice ak nk ck],iT 1,iT (p:Int)] w (BW e1 n1 c1 p B w):=by
 obtain ⟨W,hW⟩:=ay (w.alloc (.cells #[iT q,.slice am nm cm,.slice a0 n0 c0,sL e1 n1 c1,.slice a2 n2 c2,.slice ak nk ck] 67));have kW:Bl w W:=by rw [hW];exact bZ
 have zz:0<W.heap.size:=by rw [hW];simp
 have KW:Hid (Bl w W):=kW;have hroom:=hR.room;have hln:=hR.length;obtain ⟨ox,hox⟩:=ay (if c1=p+1 then 0 else (p+1)*2);obtain ⟨nr,hnr⟩:=ay (n1 - (p+1));obtain ⟨cr,hcr⟩:=ay (c1 - (p+1));have hA:aj 0 w (pT e1) p c1 (B.take p):=by
  have:=dp hR (i:=0) (j:=p) (by omega) (by omega);have e0:(if c1=0 then 0 else 0*2)=0:=by split <;> rfl
  rw [e0] at this;simpa using this
 have hB:aj 0 w (some ⟨e1,ox,none⟩) nr cr (B.drop (p+1)):=by
  have:=dp hR (i:=p+1) (j:=n1) (by omega) (by omega);rw [List.take_of_length_le (by rw [List.length_drop,hln];omega)] at this;rw [hox,hnr,hcr];exact this
 obtain ⟨xsA,dA,rA⟩:=hA.raw;obtain ⟨xsB,dB,rB⟩:=hB.raw;have HDN:Hid (dq (·<w.heap.size) w (xsA++xsB) (B.take p++B.drop (p+1))):=dA.denP.app dB.denP;have HPA:Hid (∀wd,Bl w wd→gE (wd.alloc (.cells #[sL e1 p c1,sO e1 ox nr cr] 64)) wd.heap.size [(p,xsA),(nr,xsB)]):=fun wd k=>by
  have ka:Bl wd (wd.alloc (.cells #[sL e1 p c1,sO e1 ox nr cr] 64)):=bZ;refine ⟨by simp,fun i n xs hS=>?_⟩;match i,hS with
  | 0,hS=>simp at hS;obtain ⟨rfl,rfl⟩:=hS;exact ⟨_,by simp,(rA.keep k).keep ka⟩
  | 1,hS=>simp at hS;obtain ⟨rfl,rfl⟩:=hS;exact ⟨_,by simp,(rB.keep k).keep ka⟩
 have hsum:fq [(p,xsA),(nr,xsB)]=n1 - 1:=by simp [fq];omega
 have hfl:io [(p,xsA),(nr,xsB)]=xsA++xsB:=by simp [io]
 have HCC:Hid (∀(gb:Nat) (wb:World),gE wb gb [(p,xsA),(nr,xsB)]→Calls Tryz.prog 100 #[sL gb 2 2] wb fun e w'=>∃v,e=.returned v∧w'.ownsRow wb.heap.size 102 2 v (n1 - 1) (xsA++xsB)∧Bl wb w'):=fun gb wb h=>by
  have:=pn gb 2 _ wb h rfl (by omega) (by rw [hsum];omega);rw [hsum,hfl] at this;exact this
 have hpI:¬(p:Int) ≥ (n1:Int):=by omega
 have hpJ:¬(n1:Int)≤(p:Int):=by omega
 have hp0:¬(p:Int)<0:=by omega
 have wp1:IntKind.i64.wrap ((p:Int)+1)=(p:Int)+1:=by rw [IntWalk.i64_left];unfold wrap64;omega
 have htn:((p:Int)+1).toNat=p+1:=by omega
 have hpc:(p:Int)+1≤(c1:Int):=by omega
 have hpc0:(p:Int)≤(c1:Int):=by omega
 have hpz:(0:Int)≤(p:Int)+1:=by omega
 have hpn:(p:Int)+1≤(n1:Int):=by omega
 have hnc:(n1:Int)≤(c1:Int):=by omega
 have hcp:¬c1=p:=by omega
 have hav:(if c1=p+1 then some (⟨e1,0,none⟩:Addr) else some ⟨e1,(p+1)*2,none⟩)=some ⟨e1,ox,none⟩:=by rw [hox];split <;> rfl
 have hx1:p+1 - p=1:=by omega
 have hx2:n1 - (p+1)=nr:=hnr.symm;have hx3:c1 - (p+1)=cr:=hcr.symm;have k0:Bl W W.drew:=(Below.refl _ W).drew;clear hR hA hB dA dB rA rB hsum hfl kW hox hnr hcr hln;go_enter Tryz.func102,Tryz.ntmps102
 go_upto_region 6 with fail
 rw [← hW];clear hW;refine wp_region_held_drew (S:=(fun w'=>0<w'.heap.size)) (by kernel_rfl) (Nat.lt_of_lt_of_le zz k0.size) (fun aa=>?_);generalize W.drew=wd at k0 aa ⊢;refine aL 0 12 aa ?_;refine aS 12 fun K hK=>?_
 go_simp;have kc:Bl wd (wd.alloc (.cells #[sL e1 p c1,sO e1 ox nr cr] 64)):=bZ;have k1:Bl W (wd.alloc (.cells #[sL e1 p c1,sO e1 ox nr cr] 64)):=k0.trans (kc.mono k0.size);have hP:=HPA.out wd (KW.out.trans (k0.mono KW.out.size));generalize wd.heap.size=gb at hP ⊢;generalize wd.alloc (.cells #[sL e1 p c1,sO e1 ox nr cr] 64)=wb at k1 hP ⊢;clear kc;refine hK.out _ _ (Nat.lt_of_lt_of_le zz k1.size) fun aa=>?_
 (try go_frame);refine aS 13 fun K hK=>?_
 go_simp;refine (HCC.out _ _ hP).mono ?_;rintro e w2 ⟨v,rfl,hrow,hb2⟩;have k2:Bl W w2:=k1.trans (hb2.mono k1.size);have HROW:Hid (w2.ownsRow w.heap.size 102 2 v (n1 - 1) (xsA++xsB)):=jN hrow (Nat.le_trans KW.out.size k1.size);go_wp2_with fail
 refine hK.out _ _ (Nat.lt_of_lt_of_le zz k2.size) fun aa=>?_
 (try go_frame);refine aL 14 2 aa ?_;refine dN ?_;have K2:Hid (Bl w w2):=KW.out.trans (k2.mono KW.out.size);clear k0 k1 k2 hP hrow hb2 aa;go_wp2;exact bodyPost_ret (v:=.tuple #[.slice (some ⟨e1,p*2,none⟩) 1 (c1 - p),v]) (by simp [results,Tryz.results102,go_sem]) rfl (show BW e1 n1 c1 p B w _ _ from ⟨v,xsA++xsB,rfl,HROW.out,HDN.out,K2.out⟩)
end Go.Proofs.YtlmgojlffgkciaaGreat
