/-
  The document's l5Cut: entries in order, cut into runs, by a walk of its Go text.
-/
import Derived.Test.YtlmgojlffgkciaaGreatTc11
import Derived.Test.YtlmgojlffgkciaaGreatTc16
import Derived.Test.YtlmgojlffgkciaaGreatTc17
import Derived.Test.YtlmgojlffgkciaaGreatTc32
import Derived.Test.YtlmgojlffgkciaaGreatTc10
import Derived.Test.YtlmgojlffgkciaaGreatTc09
import Derived.Test.YtlmgojlffgkciaaGreatTc30
namespace Go.Proofs.YtlmgojlffgkciaaGreat
open Go.RowKit
set_option maxRecDepth 100000
set_option maxHeartbeats 8000000
def Ca (B:List ae) (w:World) (e:Ending) (w':World):Prop:=∃g m c',e=.returned (sL g m c')∧bG w.heap.size w' g m c' B∧Bl w w'
theorem sy (b n c:Nat) (L:List ac) (w:World) (h:af w (pT b) n c L) (hbw:b<w.heap.size) (hn:n≤100000) :
 Calls Tryz.prog 157 #[sL b n c] w (Ca (dU L n).1 w):=by
 have HE:=bc h;have HLN:Hid (L.length=n):=h.length;have hroom:=h.room;obtain ⟨i0,hi,hz0,hz1,hz2⟩:=info_parts Tryz.infoEnt;obtain ⟨j0,hj,hy0,hy1,hy2⟩:=info_parts Tryz.infoRun;have HR0:Hid (bG w.heap.size (w.alloc (.cells #[] 102)) w.heap.size 0 0 []):=by
  have:=World.ownsRow_lit (base:=w.heap.size) (e:=102) (size:=2) w #[] 0 (Nat.le_refl _) (by simp) (by simp);exact ⟨rfl,fun p hp=>by simp at hp,_,this,fun i B hB=>by simp at hB⟩
 have K0:Hid (Bl w (w.alloc (.cells #[] 102))):=bZ;clear h;go_enter Tryz.func157,Tryz.ntmps157
 go_wp2;go_loopw [3,4,5] (fun ov fv iv wr=>∃(i f g m c':Nat) (BB:List ae),1≤i∧i≤n+1∧iv=iT (i:Int)∧fv=iT (f:Int)∧f<i∧ov=sL g m c'∧m<i∧dU L (i - 1)=(BB,f)∧bG w.heap.size wr g m c' BB∧Bl w wr) (fun _ _ iv _=>n+1 - (intOf iv).toNat)
 case atStart=>exact ⟨1,0,_,0,0,[],Nat.le_refl _,by omega,rfl,rfl,by omega,rfl,by omega,rfl,HR0.out,K0.out⟩
 case round =>
  clear HR0 K0;obtain ⟨i,f,g,m,c',BB,hi1,hin,rfl,rfl,hfi,rfl,hmi,hc,hr,hb⟩:=hrel;have HC:Hid (dU L (i - 1)=(BB,f)):=hc;have HR:Hid (bG w.heap.size wr g m c' BB):=hr;have HK:Hid (Bl w wr):=hb;have zb:b<wr.heap.size:=Nat.lt_of_lt_of_le hbw hb.size;clear hc hr hb;by_cases hlt:i≤n
  · have hltI:(i:Int)≤(n:Int):=by omega
    by_cases hend:i=n
    · subst hend;have HCB:Hid (eE L f i=true):=by show _=_;unfold eE;rw [HLN.out];simp
      have k0:Bl wr wr.drew:=(Below.refl _ wr).drew;have HMK:Hid (∀w',Bl wr w'→(fun w'=>b<w'.heap.size) w'):=fun w' kk=>Nat.lt_of_lt_of_le zb kk.size
      have HKD:Hid (Bl w wr.drew):=HK.out.trans (k0.mono HK.out.size);have HRD:Hid (bG w.heap.size wr.drew g m c' BB):=HR.out.below k0;go_upto_region 6 with fail
      refine dM HMK k0 fun aa=>?_
      generalize wr.drew=wd at k0 aa HKD HRD ⊢;refine aL 0 24 aa ?_;refine dN ?_;clear aa HMK k0;obtain ⟨P,hP⟩:=ay ((L.drop f).take (i - f));have HPE:Hid (P=(L.drop f).take (i - f)):=hP;obtain ⟨np,hnp⟩:=ay (i - f);have HPL:Hid (P.length=np):=by show _=_;rw [hP,hnp,List.length_take,List.length_drop,HLN.out];omega
      obtain ⟨cp,hcp⟩:=ay (c - f);have hEP:∀w',Bl w w'→af w' (some ⟨b,f*5,none⟩) np cp P:=fun w' kk=>by rw [hP,hnp,hcp];have:=(HE.out.keep kk).sub (i:=f) (j:=i) (by omega) (by omega);simpa using this
      have HEP:Hid (∀w',Bl w w'→af w' (some ⟨b,f*5,none⟩) np cp P):=hEP;have hcf:¬c=f:=by omega
      have hfkI:(f:Int)≤(i:Int):=by omega
      have hkcI:(i:Int)≤(c:Int):=by omega
      have hnpb:1≤np∧np≤1048576:=by omega
      have ka:Bl wd (wd.alloc (.cells #[] 78)):=bZ;have HKA:Hid (Bl w (wd.alloc (.cells #[] 78))):=HKD.out.trans (ka.mono HKD.out.size);have HOA:Hid (aE (wd.alloc (.cells #[] 78)) wd.heap.size wd.heap.size 0 0 []):=er wd _ (Nat.le_refl _);have HRA:Hid (bG w.heap.size (wd.alloc (.cells #[] 78)) g m c' BB):=HRD.out.below ka;have HWD:Hid (w.heap.size≤wd.heap.size):=HKD.out.size;have hsz1:((i:Int) - (f:Int)).toNat=np:=by omega
      have hsz2:((c:Int) - (f:Int)).toNat=cp:=by omega
      have hsz3:i - f=np:=hnp.symm;have hsz4:c - f=cp:=hcp.symm;have KAD:Hid (Bl wd (wd.alloc (.cells #[] 78))):=ka;clear ka hP hEP hnp hcp;have HNPB:Hid (1≤np∧np≤1048576):=hnpb;go_wp2_with (at_builtin;refine wpList_append_own _ rfl _ _ 28 rfl wd.heap.size 78 i0 _ 5 56 Tryz.underlying28 hi hz0 hz1 hz2 rfl (by decide) _ _ _ rfl HOA.out.owns ⟨b,f*5,none⟩ np cp (aI P) rfl (by rw [aZ,HPL.out]) (kU (HEP.out _ HKA.out)) (bj _) (by unfold maxLen;omega) (by omega) (by simp) ?_;intro v2 w2 hown2 hgrow2 hnil2;obtain ⟨g2,c2,rfl⟩:=aU hown2 hnil2)
      simp only [Nat.zero_add] at hown2;have KD2:Hid (Bl wd w2):=KAD.out.grown hgrow2 KAD.out.size (fun k e=>by have h1:=Option.some.inj (show some wd.heap.size=some k from e);omega);have HK2:Hid (Bl w w2):=HKD.out.trans (KD2.out.mono HKD.out.size);have HR2:Hid (bG w.heap.size w2 g m c' BB):=HRD.out.below KD2.out;have HO2:Hid (aE w2 w.heap.size g2 np c2 P):=aE.mono ⟨hown2,HPL.out,(HEP.out _ HKA.out).ents⟩ HWD.out;clear hown2 hgrow2 hnil2 KAD KD2 HKA HOA HRA HRD HKD;obtain ⟨mk,hmk⟩:∃mk:Int,mk=((dg P:Nat):Int):=⟨_,rfl⟩;have HMK:Hid (mk=((dg P:Nat):Int)):=hmk;have CL:Hid (Calls Tryz.prog 96 #[sL g2 np c2] w2 fun e w'=>e=.returned (.agg #[sL g2 np c2,iT mk])∧Bl w2 w'):=by rw [hmk];exact sg _ np c2 P w2 HO2.out.entsAt
      clear hmk;refine CL.out.mono ?_;rintro e w3 ⟨rfl,hb3⟩;have ka3:Bl w3 (w3.alloc (.cells #[sL g2 np c2,iT mk] 102)):=bZ;have hb4:=hb3.trans (ka3.mono hb3.size);have HK4:Hid (Bl w (w3.alloc (.cells #[sL g2 np c2,iT mk] 102))):=HK2.out.trans (hb4.mono HK2.out.size);have HO4:Hid (aE (w3.alloc (.cells #[sL g2 np c2,iT mk] 102)) w.heap.size g2 np c2 P):=HO2.out.below hb4;obtain ⟨r1,r2,xs,r3,r4⟩:=HR2.out.below hb4;have HX1:Hid (BB.length=m∧(∀p ∈ BB,(Lit.int .i64 p.2).wf=true)):=⟨r1,r2⟩;have HX3:Hid ((w3.alloc (.cells #[sL g2 np c2,iT mk] 102)).ownsRow w.heap.size 102 2 (sL g m c') m xs):=r3;have HX4:Hid (∀(i:Nat) (p:ae),BB[i]?=some p→∃e d,xs[i*2]?=some (sL e p.1.length d)∧xs[i*2+1]?=some (iT p.2)∧aE (w3.alloc (.cells #[sL g2 np c2,iT mk] 102)) w.heap.size e p.1.length d p.1):=r4;have hcn:=cw w3 (sL g2 np c2) (iT mk) 102;have HCN:=bc hcn;clear hb3 ka3 hb4 r1 r2 r3 r4 hcn CL HK2 HR2 HO2;go_wp2_with (at_builtin;refine wpList_append_own _ rfl _ _ 64 rfl w.heap.size 102 j0 _ 2 32 Tryz.underlying64 hj hy0 hy1 hy2 rfl (by decide) _ _ _ rfl HX3.out ⟨w3.heap.size,0,none⟩ 1 1 [sL g2 np c2,iT mk] rfl rfl HCN.out (by intro u hu;simp at hu;rcases hu with rfl | rfl <;> rfl) (by unfold maxLen;omega) (by omega) HK4.out.size ?_;intro v5 w5 hown5 hgrow5 hnil5;obtain ⟨g5,c5,rfl⟩:=aU hown5 hnil5)
      have HR5:Hid (bG w.heap.size w5 g5 (m+1) c5 (BB++[(P,mk)])):=kJ HX1.out.1 HX1.out.2 HX3.out HX4.out (by rw [HPL.out];exact HO4.out) (by rw [HMK.out];exact nu _) hgrow5 (by rw [HPL.out];exact hown5);have HK5:Hid (Bl w w5):=HK4.out.grown hgrow5 HK4.out.size (fun k e=>(HX3.out.lt k e).1);clear hown5 hgrow5 hnil5;go_roundw
      case rel=>exact ⟨i+1,i,g5,m+1,c5,BB++[(P,mk)],by omega,by omega,by go_num,rfl,by omega,rfl,by omega,(by rw [Nat.add_sub_cancel,gm hi1 HC.out HCB.out];unfold dJ;rw [← HPE.out,← HMK.out]),HR5.out,HK5.out⟩
      case measure=>first | (simp [intOf];omega) | (simp [intOf])
    · have hendI:¬(i:Int)=(n:Int):=by omega
      have hbq:((i:Int) == (n:Int))=false:=by simpa using hendI
      have wsub:IntKind.i64.wrap ((i:Int) - (f:Int))=(i:Int) - (f:Int):=by rw [IntWalk.i64_left];unfold wrap64;omega
      by_cases h20:20≤i - f
      · have h20I:(i:Int) - (f:Int) ≥ 20:=by omega
        have h20J:(20:Int)≤(i:Int) - (f:Int):=by omega
        have wsub1:IntKind.i64.wrap ((i:Int) - 1)=(i:Int) - 1:=by rw [IntWalk.i64_left];unfold wrap64;omega
        have hk1I:(i:Int)<(n:Int):=by omega
        have hk0I:(i:Int) - 1<(n:Int):=by omega
        have hz0I:(0:Int)≤(i:Int) - 1:=by omega
        have hi1I:(1:Int)≤(i:Int):=by omega
        have htn:((i:Int) - 1).toNat=i - 1:=by omega
        obtain ⟨s1,x1,x2,x3,x4,hg1,_,q1,_⟩:=HE.out.ent HK.out hbw i (by omega);obtain ⟨s0,y1,y2,y3,y4,hg0,_,q0,_⟩:=HE.out.ent HK.out hbw (i - 1) (by omega);simp only [Nat.zero_add] at q1 q0;by_cases hkey:s1=s0
        · have HCB:Hid (eE L f i=false):=by show _=_;unfold eE;rw [HLN.out,fG hg1,fG hg0,decide_eq_false hend];simp [hkey]
          have hkl:(s1.toList == s0.toList)=true:=by rw [hkey];simp
          clear hg1 hg0 hkey;have k0:Bl wr wr.drew:=(Below.refl _ wr).drew;have HMK:Hid (∀w',Bl wr w'→(fun w'=>w'.cell? ⟨b,i*5,none⟩=some (.string s1)∧w'.cell? ⟨b,(i - 1)*5,none⟩=some (.string s0)∧b<w'.heap.size) w'):=fun w' kk=>⟨cell_later kk q1,cell_later kk q0,Nat.lt_of_lt_of_le zb kk.size⟩
          have HKD:Hid (Bl w wr.drew):=HK.out.trans (k0.mono HK.out.size);have HRD:Hid (bG w.heap.size wr.drew g m c' BB):=HR.out.below k0;go_upto_region 6 with fail
          refine dM HMK k0 fun aa=>?_
          generalize wr.drew=wd at k0 aa HKD HRD ⊢;refine aL 0 24 aa ?_;refine dN ?_;clear aa HMK k0;go_wp2;go_roundw
          case rel=>exact ⟨i+1,f,g,m,c',BB,by omega,by omega,by go_num,rfl,by omega,rfl,by omega,(by rw [Nat.add_sub_cancel];exact lP hi1 HC.out HCB.out),HRD.out,HKD.out⟩
          case measure=>first | (simp [intOf];omega) | (simp [intOf])
        · have HCB:Hid (eE L f i=true):=by show _=_;unfold eE;rw [HLN.out,fG hg1,fG hg0];simp [hkey,h20]
          have hkl:(s1.toList == s0.toList)=false:=by rw [beq_eq_false_iff_ne];intro e;rw [ByteArray.toList_eq,ByteArray.toList_eq] at e;exact hkey (ByteArray.ext (Array.toList_inj.1 e))
          clear hg1 hg0;have k0:Bl wr wr.drew:=(Below.refl _ wr).drew;have HMK:Hid (∀w',Bl wr w'→(fun w'=>w'.cell? ⟨b,i*5,none⟩=some (.string s1)∧w'.cell? ⟨b,(i - 1)*5,none⟩=some (.string s0)∧b<w'.heap.size) w'):=fun w' kk=>⟨cell_later kk q1,cell_later kk q0,Nat.lt_of_lt_of_le zb kk.size⟩
          have HKD:Hid (Bl w wr.drew):=HK.out.trans (k0.mono HK.out.size);have HRD:Hid (bG w.heap.size wr.drew g m c' BB):=HR.out.below k0;go_upto_region 6 with fail
          refine dM HMK k0 fun aa=>?_
          generalize wr.drew=wd at k0 aa HKD HRD ⊢;refine aL 0 24 aa ?_;refine dN ?_;clear aa HMK k0;obtain ⟨P,hP⟩:=ay ((L.drop f).take (i - f));have HPE:Hid (P=(L.drop f).take (i - f)):=hP;obtain ⟨np,hnp⟩:=ay (i - f);have HPL:Hid (P.length=np):=by show _=_;rw [hP,hnp,List.length_take,List.length_drop,HLN.out];omega
          obtain ⟨cp,hcp⟩:=ay (c - f);have hEP:∀w',Bl w w'→af w' (some ⟨b,f*5,none⟩) np cp P:=fun w' kk=>by rw [hP,hnp,hcp];have:=(HE.out.keep kk).sub (i:=f) (j:=i) (by omega) (by omega);simpa using this
          have HEP:Hid (∀w',Bl w w'→af w' (some ⟨b,f*5,none⟩) np cp P):=hEP;have hcf:¬c=f:=by omega
          have hfkI:(f:Int)≤(i:Int):=by omega
          have hkcI:(i:Int)≤(c:Int):=by omega
          have hnpb:1≤np∧np≤1048576:=by omega
          have ka:Bl wd (wd.alloc (.cells #[] 78)):=bZ;have HKA:Hid (Bl w (wd.alloc (.cells #[] 78))):=HKD.out.trans (ka.mono HKD.out.size);have HOA:Hid (aE (wd.alloc (.cells #[] 78)) wd.heap.size wd.heap.size 0 0 []):=er wd _ (Nat.le_refl _);have HRA:Hid (bG w.heap.size (wd.alloc (.cells #[] 78)) g m c' BB):=HRD.out.below ka;have HWD:Hid (w.heap.size≤wd.heap.size):=HKD.out.size;have hsz1:((i:Int) - (f:Int)).toNat=np:=by omega
          have hsz2:((c:Int) - (f:Int)).toNat=cp:=by omega
          have hsz3:i - f=np:=hnp.symm;have hsz4:c - f=cp:=hcp.symm;have KAD:Hid (Bl wd (wd.alloc (.cells #[] 78))):=ka;clear ka hP hEP hnp hcp;have HNPB:Hid (1≤np∧np≤1048576):=hnpb;go_wp2_with (at_builtin;refine wpList_append_own _ rfl _ _ 28 rfl wd.heap.size 78 i0 _ 5 56 Tryz.underlying28 hi hz0 hz1 hz2 rfl (by decide) _ _ _ rfl HOA.out.owns ⟨b,f*5,none⟩ np cp (aI P) rfl (by rw [aZ,HPL.out]) (kU (HEP.out _ HKA.out)) (bj _) (by unfold maxLen;omega) (by omega) (by simp) ?_;intro v2 w2 hown2 hgrow2 hnil2;obtain ⟨g2,c2,rfl⟩:=aU hown2 hnil2)
          simp only [Nat.zero_add] at hown2;have KD2:Hid (Bl wd w2):=KAD.out.grown hgrow2 KAD.out.size (fun k e=>by have h1:=Option.some.inj (show some wd.heap.size=some k from e);omega);have HK2:Hid (Bl w w2):=HKD.out.trans (KD2.out.mono HKD.out.size);have HR2:Hid (bG w.heap.size w2 g m c' BB):=HRD.out.below KD2.out;have HO2:Hid (aE w2 w.heap.size g2 np c2 P):=aE.mono ⟨hown2,HPL.out,(HEP.out _ HKA.out).ents⟩ HWD.out;clear hown2 hgrow2 hnil2 KAD KD2 HKA HOA HRA HRD HKD;obtain ⟨mk,hmk⟩:∃mk:Int,mk=((dg P:Nat):Int):=⟨_,rfl⟩;have HMK:Hid (mk=((dg P:Nat):Int)):=hmk;have CL:Hid (Calls Tryz.prog 96 #[sL g2 np c2] w2 fun e w'=>e=.returned (.agg #[sL g2 np c2,iT mk])∧Bl w2 w'):=by rw [hmk];exact sg _ np c2 P w2 HO2.out.entsAt
          clear hmk;refine CL.out.mono ?_;rintro e w3 ⟨rfl,hb3⟩;have ka3:Bl w3 (w3.alloc (.cells #[sL g2 np c2,iT mk] 102)):=bZ;have hb4:=hb3.trans (ka3.mono hb3.size);have HK4:Hid (Bl w (w3.alloc (.cells #[sL g2 np c2,iT mk] 102))):=HK2.out.trans (hb4.mono HK2.out.size);have HO4:Hid (aE (w3.alloc (.cells #[sL g2 np c2,iT mk] 102)) w.heap.size g2 np c2 P):=HO2.out.below hb4;obtain ⟨r1,r2,xs,r3,r4⟩:=HR2.out.below hb4;have HX1:Hid (BB.length=m∧(∀p ∈ BB,(Lit.int .i64 p.2).wf=true)):=⟨r1,r2⟩;have HX3:Hid ((w3.alloc (.cells #[sL g2 np c2,iT mk] 102)).ownsRow w.heap.size 102 2 (sL g m c') m xs):=r3;have HX4:Hid (∀(i:Nat) (p:ae),BB[i]?=some p→∃e d,xs[i*2]?=some (sL e p.1.length d)∧xs[i*2+1]?=some (iT p.2)∧aE (w3.alloc (.cells #[sL g2 np c2,iT mk] 102)) w.heap.size e p.1.length d p.1):=r4;have hcn:=cw w3 (sL g2 np c2) (iT mk) 102;have HCN:=bc hcn;clear hb3 ka3 hb4 r1 r2 r3 r4 hcn CL HK2 HR2 HO2;go_wp2_with (at_builtin;refine wpList_append_own _ rfl _ _ 64 rfl w.heap.size 102 j0 _ 2 32 Tryz.underlying64 hj hy0 hy1 hy2 rfl (by decide) _ _ _ rfl HX3.out ⟨w3.heap.size,0,none⟩ 1 1 [sL g2 np c2,iT mk] rfl rfl HCN.out (by intro u hu;simp at hu;rcases hu with rfl | rfl <;> rfl) (by unfold maxLen;omega) (by omega) HK4.out.size ?_;intro v5 w5 hown5 hgrow5 hnil5;obtain ⟨g5,c5,rfl⟩:=aU hown5 hnil5)
          have HR5:Hid (bG w.heap.size w5 g5 (m+1) c5 (BB++[(P,mk)])):=kJ HX1.out.1 HX1.out.2 HX3.out HX4.out (by rw [HPL.out];exact HO4.out) (by rw [HMK.out];exact nu _) hgrow5 (by rw [HPL.out];exact hown5);have HK5:Hid (Bl w w5):=HK4.out.grown hgrow5 HK4.out.size (fun k e=>(HX3.out.lt k e).1);clear hown5 hgrow5 hnil5;go_roundw
          case rel=>exact ⟨i+1,i,g5,m+1,c5,BB++[(P,mk)],by omega,by omega,by go_num,rfl,by omega,rfl,by omega,(by rw [Nat.add_sub_cancel,gm hi1 HC.out HCB.out];unfold dJ;rw [← HPE.out,← HMK.out]),HR5.out,HK5.out⟩
          case measure=>first | (simp [intOf];omega) | (simp [intOf])
      · have h20I:¬(i:Int) - (f:Int) ≥ 20:=by omega
        have h20J:¬(20:Int)≤(i:Int) - (f:Int):=by omega
        have HCB:Hid (eE L f i=false):=by show _=_;unfold eE;rw [HLN.out,decide_eq_false hend,decide_eq_false h20];rfl
        have k0:Bl wr wr.drew:=(Below.refl _ wr).drew;have HMK:Hid (∀w',Bl wr w'→(fun w'=>b<w'.heap.size) w'):=fun w' kk=>Nat.lt_of_lt_of_le zb kk.size
        have HKD:Hid (Bl w wr.drew):=HK.out.trans (k0.mono HK.out.size);have HRD:Hid (bG w.heap.size wr.drew g m c' BB):=HR.out.below k0;go_upto_region 6 with fail
        refine dM HMK k0 fun aa=>?_
        generalize wr.drew=wd at k0 aa HKD HRD ⊢;refine aL 0 24 aa ?_;refine dN ?_;clear aa HMK k0;go_wp2;go_roundw
        case rel=>exact ⟨i+1,f,g,m,c',BB,by omega,by omega,by go_num,rfl,by omega,rfl,by omega,(by rw [Nat.add_sub_cancel];exact lP hi1 HC.out HCB.out),HRD.out,HKD.out⟩
        case measure=>first | (simp [intOf];omega) | (simp [intOf])
  · have hltI:¬(i:Int)≤(n:Int):=by omega
    obtain rfl:i=n+1:=by omega
    have HF:Hid ((dU L n).1=BB):=by show _=_;have h:=HC.out;rw [Nat.add_sub_cancel] at h;rw [h]
    go_wp2;go_ret;exact (show Ca _ w _ _ from ⟨g,m,c',rfl,by rw [HF.out];exact HR.out,HK.out⟩)
end Go.Proofs.YtlmgojlffgkciaaGreat

namespace Go.Proofs.YtlmgojlffgkciaaGreat
open Go.RowKit
set_option maxRecDepth 100000
set_option maxHeartbeats 4000000
theorem zq (lo P1 P2 b off n c:Nat) (B:List ae) (k1 k2:ByteArray) (i:Nat) (r:ae) (w:World) (hB:aj lo w (some ⟨b,off,none⟩) n c B) (hr:B[i]?=some r) (hl:1≤r.1.length∧r.1.length≤1048576) (h1:w.cell? ⟨P1,0,none⟩=some (sO b off n c)) (h2:w.cell? ⟨P2,0,none⟩=some (.string k1)) (h3:w.cell? ⟨P2,1,none⟩=some (.string k2)) :
 Calls Tryz.prog 131 #[iT i,.pointer (pT P1),.pointer (pT P2)] w fun e w'=>e=.returned (.bool (!Op.bytesLess (aR r.1).toList k1.toList))∧Bl w w':=by
 have hi:=(List.getElem?_eq_some_iff.1 hr).1;have hbl:=hB.length;obtain ⟨L,m,s,ne,ce,hr',_,g0,_,hE⟩:=hB.run (Below.refl _ w) i (by omega);rw [hr] at hr';cases hr';simp only at hl;obtain ⟨be,oe,rfl,hbe⟩:=hE.1.form (by have:=hE.1.length;have:=hl.1;omega);have hne:1≤ne:=by have:=hE.1.length;have:=hl.1;omega
 have hbb:=(hB.lies _ rfl (by omega)).1;simp only at hbb;have hne2:ne≤1048576:=by have:=hE.1.length;have:=hl.2;omega
 have CR:Hid (∀w',Bl w w'→Calls Tryz.prog 104 #[sO be oe ne ce] w' fun r w''=>r=.returned (.agg #[.string (aY L),.string (aR L)])∧Bl w' w''):=fun w' k=>eU be oe ne ce L w' (hE.1.keep k) hne
 have HMK:Hid (∀w',Bl w w'→(fun w'=>w'.cell? ⟨P1,0,none⟩=some (sO b off n c)∧w'.cell? ⟨P2,0,none⟩=some (.string k1)∧w'.cell? ⟨P2,1,none⟩=some (.string k2)∧w'.cell? ⟨b,off+i*2,none⟩=some (sO be oe ne ce)∧P1<w'.heap.size∧P2<w'.heap.size∧b<w'.heap.size) w'):=fun w' kk=>⟨cell_later kk h1,cell_later kk h2,cell_later kk h3,cell_later kk g0,Nat.lt_of_lt_of_le (World.block_lt_of_cell? _ _ h1) kk.size,Nat.lt_of_lt_of_le (World.block_lt_of_cell? _ _ h2) kk.size,Nat.lt_of_lt_of_le hbb kk.size⟩
 have k0:Bl w w.drew:=(Below.refl _ w).drew;obtain ⟨lk,hlk⟩:=ay (aY L);obtain ⟨hk,hhk⟩:=ay (aR L);rw [← hlk,← hhk] at CR;try rw [← hlk]
 try rw [← hhk]
 have CE:Hid (∀w',Calls Tryz.prog 132 #[.agg #[.string lk,.string hk],.agg #[.string k1,.string k2]] w' fun e w''=>e=.returned (.bool (Op.bytesLess hk.toList k1.toList))∧Bl w' w''):=fun w'=>mt _ _ _ _ w'
 have hiI:(i:Int)<(n:Int):=by omega
 clear hlk hhk hE hB hr hl h1 h2 h3 g0;go_enter Tryz.func131,Tryz.ntmps131
 go_upto_region 1 with fail
 refine dM HMK k0 fun aa=>?_
 refine aL 0 5 aa ?_;refine aL 6 1 aa ?_;refine aS 5 fun K hK=>?_
 go_simp;refine (CR.out _ k0).mono ?_;rintro e w1 ⟨rfl,hb1⟩;have k1':Bl w w1:=k0.trans (hb1.mono k0.size);go_wp2_with fail
 refine hK.out _ _ (HMK.out _ k1') fun aa=>?_
 (try go_frame);refine aS 7 fun K hK=>?_
 go_simp;refine (CE.out _).mono ?_;rintro e w2 ⟨rfl,hb2⟩;have k2':Bl w w2:=k1'.trans (hb2.mono k1'.size);go_wp2_with fail
 refine hK.out _ _ (HMK.out _ k2') fun aa=>?_
 (try go_frame);refine aL 8 2 aa ?_;refine dN ?_;clear aa HMK;go_wp2;go_ret;exact ⟨by first | rfl | simp,k2'⟩
theorem zm (lo P1 P2 b off n c:Nat) (B:List ae) (k1 k2:ByteArray) (i:Nat) (r:ae) (w:World) (hB:aj lo w (some ⟨b,off,none⟩) n c B) (hr:B[i]?=some r) (hl:1≤r.1.length∧r.1.length≤1048576) (h1:w.cell? ⟨P1,0,none⟩=some (sO b off n c)) (h2:w.cell? ⟨P2,0,none⟩=some (.string k1)) (h3:w.cell? ⟨P2,1,none⟩=some (.string k2)) :
 Calls Tryz.prog 133 #[iT i,.pointer (pT P2),.pointer (pT P1)] w fun e w'=>e=.returned (.bool (Op.bytesLess k2.toList (aY r.1).toList))∧Bl w w':=by
 have hi:=(List.getElem?_eq_some_iff.1 hr).1;have hbl:=hB.length;obtain ⟨L,m,s,ne,ce,hr',_,g0,_,hE⟩:=hB.run (Below.refl _ w) i (by omega);rw [hr] at hr';cases hr';simp only at hl;obtain ⟨be,oe,rfl,hbe⟩:=hE.1.form (by have:=hE.1.length;have:=hl.1;omega);have hne:1≤ne:=by have:=hE.1.length;have:=hl.1;omega
 have hbb:=(hB.lies _ rfl (by omega)).1;simp only at hbb;have hne2:ne≤1048576:=by have:=hE.1.length;have:=hl.2;omega
 have CR:Hid (∀w',Bl w w'→Calls Tryz.prog 104 #[sO be oe ne ce] w' fun r w''=>r=.returned (.agg #[.string (aY L),.string (aR L)])∧Bl w' w''):=fun w' k=>eU be oe ne ce L w' (hE.1.keep k) hne
 have HMK:Hid (∀w',Bl w w'→(fun w'=>w'.cell? ⟨P1,0,none⟩=some (sO b off n c)∧w'.cell? ⟨P2,0,none⟩=some (.string k1)∧w'.cell? ⟨P2,1,none⟩=some (.string k2)∧w'.cell? ⟨b,off+i*2,none⟩=some (sO be oe ne ce)∧P1<w'.heap.size∧P2<w'.heap.size∧b<w'.heap.size) w'):=fun w' kk=>⟨cell_later kk h1,cell_later kk h2,cell_later kk h3,cell_later kk g0,Nat.lt_of_lt_of_le (World.block_lt_of_cell? _ _ h1) kk.size,Nat.lt_of_lt_of_le (World.block_lt_of_cell? _ _ h2) kk.size,Nat.lt_of_lt_of_le hbb kk.size⟩
 have k0:Bl w w.drew:=(Below.refl _ w).drew;obtain ⟨lk,hlk⟩:=ay (aY L);obtain ⟨hk,hhk⟩:=ay (aR L);rw [← hlk,← hhk] at CR;try rw [← hlk]
 try rw [← hhk]
 have CE:Hid (∀w',Calls Tryz.prog 132 #[.agg #[.string k1,.string k2],.agg #[.string lk,.string hk]] w' fun e w''=>e=.returned (.bool (Op.bytesLess k2.toList lk.toList))∧Bl w' w''):=fun w'=>mt _ _ _ _ w'
 have hiI:(i:Int)<(n:Int):=by omega
 clear hlk hhk hE hB hr hl h1 h2 h3 g0;go_enter Tryz.func133,Tryz.ntmps133
 go_upto_region 1 with fail
 refine dM HMK k0 fun aa=>?_
 refine aL 0 6 aa ?_;refine aS 6 fun K hK=>?_
 go_simp;refine (CR.out _ k0).mono ?_;rintro e w1 ⟨rfl,hb1⟩;have k1':Bl w w1:=k0.trans (hb1.mono k0.size);go_wp2_with fail
 refine hK.out _ _ (HMK.out _ k1') fun aa=>?_
 (try go_frame);refine aS 7 fun K hK=>?_
 go_simp;refine (CE.out _).mono ?_;rintro e w2 ⟨rfl,hb2⟩;have k2':Bl w w2:=k1'.trans (hb2.mono k1'.size);go_wp2_with fail
 refine hK.out _ _ (HMK.out _ k2') fun aa=>?_
 (try go_frame);refine aL 8 1 aa ?_;refine dN ?_;clear aa HMK;go_wp2;go_ret;exact ⟨by first | rfl | simp,k2'⟩
theorem zf (P1 P2 n:Nat) (p:Nat→Bool) (w:World) (hn:n≤1048576) (hC:∀i w',i<n→Bl w w'→Calls Tryz.prog 131 #[iT i,.pointer (pT P1),.pointer (pT P2)] w' fun e w''=>e=.returned (.bool (p i))∧Bl w' w'') (hm:∀a b,a≤b→b<n→p a=true→p b=true) :
 Calls Tryz.prog 130 #[iT n,.func (.func 131) #[] #[.pointer (pT P1),.pointer (pT P2)]] w fun e w'=>∃i:Nat,e=.returned (iT i)∧i≤n∧(∀t,t<i→p t=false)∧(∀t,i≤t→t<n→p t=true)∧Bl w w':=by
 have HC:=bc hC;have HM:=bc hm;clear hC hm;go_enter Tryz.func130,Tryz.ntmps130
 go_wp2;go_loopw [5,6] (fun lv hv wr=>∃(a b:Nat),a≤b∧b≤n∧lv=iT a∧hv=iT b∧(∀t,t<a→p t=false)∧(∀t,b≤t→t<n→p t=true)∧Bl w wr) (fun lv hv _=>(intOf hv).toNat - (intOf lv).toNat)
 case atStart=>exact ⟨0,n,Nat.zero_le _,Nat.le_refl _,rfl,rfl,(fun t ht=>absurd ht (Nat.not_lt_zero _)),(fun t h1 h2=>by omega),Below.refl _ _⟩
 case round =>
  obtain ⟨a,b,hab,hbn,rfl,rfl,hlo,hhi,hb⟩:=hrel;have HLO:Hid (∀t,t<a→p t=false):=hlo;have HHI:Hid (∀t,b≤t→t<n→p t=true):=hhi;have HB:Hid (Bl w wr):=hb;clear hlo hhi hb;by_cases hlt:a<b
  · have hltI:(a:Int)<(b:Int):=by omega
    obtain ⟨h,hh⟩:=ay ((a+b) / 2);have hh1:a≤h:=by omega
    have hh2:h<b:=by omega
    have hhI:((a:Int)+(b:Int)) / 2=(h:Int):=by omega
    have CC:Hid (Calls Tryz.prog 131 #[iT h,.pointer (pT P1),.pointer (pT P2)] wr fun e w''=>e=.returned (.bool (p h))∧Bl wr w''):=HC.out h wr (by omega) HB.out;have HHL:Hid (h=(a+b) / 2):=hh;clear hh;go_wp2_with fail
    try rw [hhI]
    refine CC.out.mono ?_;rintro e w1 ⟨rfl,hb1⟩;have HB1:Hid (Bl w w1):=HB.out.trans (hb1.mono HB.out.size);clear hb1;cases hp:p h with
    | false =>
     have HP:Hid (p h=false):=hp;clear hp;go_wp2;go_roundw
     case rel =>
      refine ⟨h+1,b,by omega,hbn,by go_num,rfl,fun t ht=>?_,HHI.out,HB1.out⟩;cases hq:p t with
      | false=>rfl
      | true=>have:=HM.out t h (by omega) (by omega) hq;rw [HP.out] at this;cases this
     case measure=>simp [intOf];omega
    | true =>
     have HP:Hid (p h=true):=hp;clear hp;go_wp2;go_roundw
     case rel =>
      refine ⟨a,h,hh1,by omega,rfl,by go_num,HLO.out,fun t h1 h2=>HM.out h t h1 h2 HP.out,HB1.out⟩
     case measure=>simp [intOf];omega
  · have hltI:¬(a:Int)<(b:Int):=by omega
    obtain rfl:a=b:=by omega
    go_wp2;go_ret;exact ⟨a,rfl,hbn,HLO.out,HHI.out,HB.out⟩
theorem ze (P1 P2 n:Nat) (p:Nat→Bool) (w:World) (hn:n≤1048576) (hC:∀i w',i<n→Bl w w'→Calls Tryz.prog 133 #[iT i,.pointer (pT P2),.pointer (pT P1)] w' fun e w''=>e=.returned (.bool (p i))∧Bl w' w'') (hm:∀a b,a≤b→b<n→p a=true→p b=true) :
 Calls Tryz.prog 130 #[iT n,.func (.func 133) #[] #[.pointer (pT P2),.pointer (pT P1)]] w fun e w'=>∃i:Nat,e=.returned (iT i)∧i≤n∧(∀t,t<i→p t=false)∧(∀t,i≤t→t<n→p t=true)∧Bl w w':=by
 have HC:=bc hC;have HM:=bc hm;clear hC hm;go_enter Tryz.func130,Tryz.ntmps130
 go_wp2;go_loopw [5,6] (fun lv hv wr=>∃(a b:Nat),a≤b∧b≤n∧lv=iT a∧hv=iT b∧(∀t,t<a→p t=false)∧(∀t,b≤t→t<n→p t=true)∧Bl w wr) (fun lv hv _=>(intOf hv).toNat - (intOf lv).toNat)
 case atStart=>exact ⟨0,n,Nat.zero_le _,Nat.le_refl _,rfl,rfl,(fun t ht=>absurd ht (Nat.not_lt_zero _)),(fun t h1 h2=>by omega),Below.refl _ _⟩
 case round =>
  obtain ⟨a,b,hab,hbn,rfl,rfl,hlo,hhi,hb⟩:=hrel;have HLO:Hid (∀t,t<a→p t=false):=hlo;have HHI:Hid (∀t,b≤t→t<n→p t=true):=hhi;have HB:Hid (Bl w wr):=hb;clear hlo hhi hb;by_cases hlt:a<b
  · have hltI:(a:Int)<(b:Int):=by omega
    obtain ⟨h,hh⟩:=ay ((a+b) / 2);have hh1:a≤h:=by omega
    have hh2:h<b:=by omega
    have hhI:((a:Int)+(b:Int)) / 2=(h:Int):=by omega
    have CC:Hid (Calls Tryz.prog 133 #[iT h,.pointer (pT P2),.pointer (pT P1)] wr fun e w''=>e=.returned (.bool (p h))∧Bl wr w''):=HC.out h wr (by omega) HB.out;have HHL:Hid (h=(a+b) / 2):=hh;clear hh;go_wp2_with fail
    try rw [hhI]
    refine CC.out.mono ?_;rintro e w1 ⟨rfl,hb1⟩;have HB1:Hid (Bl w w1):=HB.out.trans (hb1.mono HB.out.size);clear hb1;cases hp:p h with
    | false =>
     have HP:Hid (p h=false):=hp;clear hp;go_wp2;go_roundw
     case rel =>
      refine ⟨h+1,b,by omega,hbn,by go_num,rfl,fun t ht=>?_,HHI.out,HB1.out⟩;cases hq:p t with
      | false=>rfl
      | true=>have:=HM.out t h (by omega) (by omega) hq;rw [HP.out] at this;cases this
     case measure=>simp [intOf];omega
    | true =>
     have HP:Hid (p h=true):=hp;clear hp;go_wp2;go_roundw
     case rel =>
      refine ⟨a,h,hh1,by omega,rfl,by go_num,HLO.out,fun t h1 h2=>HM.out h t h1 h2 HP.out,HB1.out⟩
     case measure=>simp [intOf];omega
  · have hltI:¬(a:Int)<(b:Int):=by omega
    obtain rfl:a=b:=by omega
    go_wp2;go_ret;exact ⟨a,rfl,hbn,HLO.out,HHI.out,HB.out⟩
theorem jt (lo:Nat) (a:Option Addr) (n c:Nat) (B:List ae) (k1 k2:ByteArray) (w:World) (hB:aj lo w a n c B) (hn:n≤1000) (ha:bl B=true) (hok:∀r ∈ B,cW r.1 r.2=true) :
 Calls Tryz.prog 90 #[.slice a n c,.agg #[.string k1,.string k2]] w fun e w'=>∃i j:Nat,e=.returned (.tuple #[iT i,iT j])∧fi B k1 k2 i j∧Bl w w':=by
 have hbl:=hB.length;obtain ⟨X,hX⟩:=ay w.heap.size;obtain ⟨W,hW⟩:=ay ((w.alloc (.cells #[.slice a n c] 64)).alloc (.cells #[.string k1,.string k2] 109));have kW:Bl w W:=by rw [hW];exact bZ.alloc (by simp) _
 have x0:W.cell? ⟨X,0,none⟩=some (.slice a n c):=by rw [hW,hX];exact cell_later bZ (by have:=dx w (.slice a n c) 64 0 _ rfl;rwa [Go.WideShapes.add_plain] at this)
 have hy:∀j u,[Value.string k1,Value.string k2][j]?=some u→W.cell? ⟨X+1,j,none⟩=some u:=fun j u hu=>by
  have h1:=cw (w.alloc (.cells #[.slice a n c] 64)) (.string k1) (.string k2) 109 j u hu;rw [Go.WideShapes.add_plain,Nat.zero_add,World.size_alloc,← hW,← hX] at h1;exact h1
 have y0:=hy 0 _ rfl;have y1:=hy 1 _ rfl;have K0:Hid (Bl w W):=kW;obtain ⟨p1,hp1⟩:∃p1:Nat→Bool,p1=fun t=>match B[t]? with | some r=>!Op.bytesLess (aR r.1).toList k1.toList | none=>true:=⟨_,rfl⟩
 obtain ⟨p2,hp2⟩:∃p2:Nat→Bool,p2=fun t=>match B[t]? with | some r=>Op.bytesLess k2.toList (aY r.1).toList | none=>true:=⟨_,rfl⟩
 have C1:Hid (∀w',Bl W w'→Calls Tryz.prog 130 #[iT n,.func (.func 131) #[] #[.pointer (pT X),.pointer (some ⟨X+1,0,none⟩)]] w' fun e w''=>∃i:Nat,e=.returned (iT i)∧i≤n∧(∀t,t<i→p1 t=false)∧(∀t,i≤t→t<n→p1 t=true)∧Bl w' w''):=fun w' k=>by
  refine zf X (X+1) n p1 w' (by omega) (fun i w2 hi kk2=>?_) (fun s t hst ht h=>?_)
  · obtain ⟨b,off,rfl,_⟩:=hB.form (by omega);have hr:=List.getElem?_eq_getElem (show i<B.length by omega);have hk2:=k.trans (kk2.mono k.size);obtain ⟨_,hl1,hl2⟩:=gY (hok _ (List.getElem_mem (show i<B.length by omega)));have h:=zq lo X (X+1) b off n c B k1 k2 i _ w2 ((hB.keep kW).keep hk2) hr ⟨hl1,by omega⟩ (cell_later hk2 x0) (cell_later hk2 y0) (cell_later hk2 y1);rw [hp1];simp only [hr];exact h
  · have hs:=List.getElem?_eq_getElem (show s<B.length by omega);have ht':=List.getElem?_eq_getElem (show t<B.length by omega);rw [hp1] at h ⊢;simp only [hs] at h;simp only [ht'];cases hq:Op.bytesLess (aR B[t].1).toList k1.toList with
    | false=>rfl
    | true=>rw [AS ha hok hs ht' hst k1 hq] at h;cases h
 have C2:Hid (∀w',Bl W w'→Calls Tryz.prog 130 #[iT n,.func (.func 133) #[] #[.pointer (some ⟨X+1,0,none⟩),.pointer (pT X)]] w' fun e w''=>∃i:Nat,e=.returned (iT i)∧i≤n∧(∀t,t<i→p2 t=false)∧(∀t,i≤t→t<n→p2 t=true)∧Bl w' w''):=fun w' k=>by
  refine ze X (X+1) n p2 w' (by omega) (fun i w2 hi kk2=>?_) (fun s t hst ht h=>?_)
  · obtain ⟨b,off,rfl,_⟩:=hB.form (by omega);have hr:=List.getElem?_eq_getElem (show i<B.length by omega);have hk2:=k.trans (kk2.mono k.size);obtain ⟨_,hl1,hl2⟩:=gY (hok _ (List.getElem_mem (show i<B.length by omega)));have h:=zm lo X (X+1) b off n c B k1 k2 i _ w2 ((hB.keep kW).keep hk2) hr ⟨hl1,by omega⟩ (cell_later hk2 x0) (cell_later hk2 y0) (cell_later hk2 y1);rw [hp2];simp only [hr];exact h
  · have hs:=List.getElem?_eq_getElem (show s<B.length by omega);have ht':=List.getElem?_eq_getElem (show t<B.length by omega);rw [hp2] at h ⊢;simp only [hs] at h;simp only [ht'];exact Bw ha hok hs ht' hst k2 h
 have HR:Hid (∀i j:Nat,i≤n→j≤n→(∀t,t<i→p1 t=false)→(∀t,i≤t→t<n→p1 t=true)→(∀t,t<j→p2 t=false)→(∀t,j≤t→t<n→p2 t=true)→fi B k1 k2 i j):=fun i j hi hj h1 h2 h3 h4=>by
  refine ⟨by omega,by omega,fun t r hr=>⟨fun h=>?_,fun h=>?_,fun h=>?_,fun h=>?_⟩⟩
  · have:=h1 t h;rw [hp1] at this;simp only [hr] at this;simpa using this
  · have:=h2 t h (by have:=(List.getElem?_eq_some_iff.1 hr).1;omega);rw [hp1] at this;simp only [hr] at this;simpa using this
  · have:=h3 t h;rw [hp2] at this;simp only [hr] at this;exact this
  · have:=h4 t h (by have:=(List.getElem?_eq_some_iff.1 hr).1;omega);rw [hp2] at this;simp only [hr] at this;exact this
 clear hp1 hp2 hB kW ha hok hy y0 y1;have xz:=World.block_lt_of_cell? _ _ x0;simp only at xz;go_enter Tryz.func90,Tryz.ntmps90
 go_wp2_with fail
 rw [← hX,← hW];clear hX hW;refine (C1.out _ (Below.refl _ _)).mono ?_;rintro e w1 ⟨i,rfl,hi,hi1,hi2,hb1⟩;have I1:Hid (i≤n∧(∀t,t<i→p1 t=false)∧(∀t,i≤t→t<n→p1 t=true)):=⟨hi,hi1,hi2⟩;have K1:Hid (Bl W w1):=hb1;have x0:=cell_later hb1 x0;have xz:=Nat.lt_of_lt_of_le xz hb1.size;clear hb1 hi1 hi2 hi;go_wp2_with fail
 refine (C2.out _ K1.out).mono ?_;rintro e w2 ⟨j,rfl,hj,hj1,hj2,hb2⟩;have I2:Hid (fi B k1 k2 i j):=HR.out i j I1.out.1 hj I1.out.2.1 I1.out.2.2 hj1 hj2;have K2:Hid (Bl w w2):=K0.out.trans ((K1.out.trans (hb2.mono K1.out.size)).mono K0.out.size);clear hb2 hj1 hj2 hj;go_wp2;exact bodyPost_ret (v:=.tuple #[iT i,iT j]) (by simp [results,Tryz.results90,go_sem]) rfl ⟨i,j,rfl,I2.out,K2.out⟩
end Go.Proofs.YtlmgojlffgkciaaGreat
