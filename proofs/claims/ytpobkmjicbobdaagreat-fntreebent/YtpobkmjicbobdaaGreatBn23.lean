/- Walks. -/
import Derived.Test.YtpobkmjicbobdaaGreatBn22
namespace Go.Proofs.YtpobkmjicbobdaaGreat
set_option maxRecDepth 100000
set_option maxHeartbeats 40000000
open Go.RowKit
def BS (B:List ag) (w:World) (e:Ending) (w':World):Prop:=∃g m c',e=.returned (sL g m c')∧aZ w.heap.size w' g m c' B∧Bl w w'
theorem sF (b n c:Nat) (L:List ac) (w:World) (h:aj w (pT b) n c L) (hbw:b<w.heap.size) (hn:n≤100000) :
 Calls Tryz.prog 181 #[sL b n c] w (BS (eP L n).1 w):=by
 have HE:=b6 h;have HLN:Hid (L.length=n):=h.length;have hroom:=h.room;obtain ⟨i0,hi,hz0,hz1,hz2⟩:=info_parts Tryz.infoEnt;obtain ⟨j0,hj,hy0,hy1,hy2⟩:=info_parts Tryz.infoRun;have HR0:Hid (aZ w.heap.size (w.alloc (.cells #[] 63)) w.heap.size 0 0 []):=by
  have:=World.ownsRow_lit (base:=w.heap.size) (e:=63) (size:=2) w #[] 0 (Nat.le_refl _) (by simp) (by simp);exact ⟨rfl,fun p hp=>by simp at hp,_,this,fun i B hB=>by simp at hB⟩
 have K0:Hid (Bl w (w.alloc (.cells #[] 63))):=bZ;clear h;go_enter Tryz.func181,Tryz.ntmps181
 go_wp2;go_loopw [3,4,5] (fun ov fv iv wr=>∃(i f g m c':Nat) (BB:List ag),1≤i∧i≤n+1∧iv=iT (i:Int)∧fv=iT (f:Int)∧f<i∧ov=sL g m c'∧m<i∧eP L (i - 1)=(BB,f)∧aZ w.heap.size wr g m c' BB∧Bl w wr) (fun _ _ iv _=>n+1 - (intOf iv).toNat)
 case atStart=>exact ⟨1,0,_,0,0,[],Nat.le_refl _,by omega,rfl,rfl,by omega,rfl,by omega,rfl,HR0.out,K0.out⟩
 case round =>
  clear HR0 K0;obtain ⟨i,f,g,m,c',BB,hi1,hin,rfl,rfl,hfi,rfl,hmi,hc,hr,hb⟩:=hrel;have HC:Hid (eP L (i - 1)=(BB,f)):=hc;have HR:Hid (aZ w.heap.size wr g m c' BB):=hr;have HK:Hid (Bl w wr):=hb;have zb:b<wr.heap.size:=Nat.lt_of_lt_of_le hbw hb.size;clear hc hr hb;by_cases hlt:i≤n
  · have hltI:(i:Int)≤(n:Int):=by omega
    by_cases hend:i=n
    · subst hend;have HCB:Hid (fP L f i=true):=by show _=_;unfold fP;rw [HLN.out];simp
      have k0:Bl wr wr.drew:=(Below.refl _ wr).drew;have HMK:Hid (∀w',Bl wr w'→(fun w'=>b<w'.heap.size) w'):=fun w' kk=>Nat.lt_of_lt_of_le zb kk.size
      have HKD:Hid (Bl w wr.drew):=HK.out.trans (k0.mono HK.out.size);have HRD:Hid (aZ w.heap.size wr.drew g m c' BB):=HR.out.below k0;go_upto_region 6 with fail
      refine eC HMK k0 fun aa=>?_
      generalize wr.drew=wd at k0 aa HKD HRD ⊢;refine aO 0 24 aa ?_;refine dN ?_;clear aa HMK k0;obtain ⟨P,hP⟩:=aS ((L.drop f).take (i - f));have HPE:Hid (P=(L.drop f).take (i - f)):=hP;obtain ⟨np,hnp⟩:=aS (i - f);have HPL:Hid (P.length=np):=by show _=_;rw [hP,hnp,List.length_take,List.length_drop,HLN.out];omega
      obtain ⟨cp,hcp⟩:=aS (c - f);have hEP:∀w',Bl w w'→aj w' (some ⟨b,f*5,none⟩) np cp P:=fun w' kk=>by rw [hP,hnp,hcp];have:=(HE.out.keep kk).sub (i:=f) (j:=i) (by omega) (by omega);simpa using this
      have HEP:Hid (∀w',Bl w w'→aj w' (some ⟨b,f*5,none⟩) np cp P):=hEP;have hcf:¬c=f:=by omega
      have hfkI:(f:Int)≤(i:Int):=by omega
      have hkcI:(i:Int)≤(c:Int):=by omega
      have hnpb:1≤np∧np≤1048576:=by omega
      have ka:Bl wd (wd.alloc (.cells #[] 50)):=bZ;have HKA:Hid (Bl w (wd.alloc (.cells #[] 50))):=HKD.out.trans (ka.mono HKD.out.size);have HOA:Hid (ay (wd.alloc (.cells #[] 50)) wd.heap.size wd.heap.size 0 0 []):=bQ wd _ (Nat.le_refl _);have HRA:Hid (aZ w.heap.size (wd.alloc (.cells #[] 50)) g m c' BB):=HRD.out.below ka;have HWD:Hid (w.heap.size≤wd.heap.size):=HKD.out.size;have hsz1:((i:Int) - (f:Int)).toNat=np:=by omega
      have hsz2:((c:Int) - (f:Int)).toNat=cp:=by omega
      have hsz3:i - f=np:=hnp.symm;have hsz4:c - f=cp:=hcp.symm;have KAD:Hid (Bl wd (wd.alloc (.cells #[] 50))):=ka;clear ka hP hEP hnp hcp;have HNPB:Hid (1≤np∧np≤1048576):=hnpb;go_wp2_with (at_builtin;refine wpList_append_own _ rfl _ _ 28 rfl wd.heap.size 50 i0 _ 5 56 Tryz.underlying28 hi hz0 hz1 hz2 rfl (by decide) _ _ _ rfl HOA.out.owns ⟨b,f*5,none⟩ np cp (aE P) rfl (by rw [bi,HPL.out]) (pg (HEP.out _ HKA.out)) (aQ _) (by unfold maxLen;omega) (by omega) (by simp) ?_;intro v2 w2 hown2 hgrow2 hnil2;obtain ⟨g2,c2,rfl⟩:=aG hown2 hnil2)
      simp only [Nat.zero_add] at hown2;have KD2:Hid (Bl wd w2):=KAD.out.grown hgrow2 KAD.out.size (fun k e=>by have h1:=Option.some.inj (show some wd.heap.size=some k from e);omega);have HK2:Hid (Bl w w2):=HKD.out.trans (KD2.out.mono HKD.out.size);have HR2:Hid (aZ w.heap.size w2 g m c' BB):=HRD.out.below KD2.out;have HO2:Hid (ay w2 w.heap.size g2 np c2 P):=ay.mono ⟨hown2,HPL.out,(HEP.out _ HKA.out).ents⟩ HWD.out;clear hown2 hgrow2 hnil2 KAD KD2 HKA HOA HRA HRD HKD;obtain ⟨mk,hmk⟩:∃mk:Int,mk=((cZ P:Nat):Int):=⟨_,rfl⟩;have HMK:Hid (mk=((cZ P:Nat):Int)):=hmk;have CL:Hid (Calls Tryz.prog 173 #[sL g2 np c2] w2 fun e w'=>e=.returned (.agg #[sL g2 np c2,iT mk])∧Bl w2 w'):=by rw [hmk];exact nS _ np c2 P w2 HO2.out.entsAt
      clear hmk;refine CL.out.mono ?_;rintro e w3 ⟨rfl,hb3⟩;have ka3:Bl w3 (w3.alloc (.cells #[sL g2 np c2,iT mk] 63)):=bZ;have hb4:=hb3.trans (ka3.mono hb3.size);have HK4:Hid (Bl w (w3.alloc (.cells #[sL g2 np c2,iT mk] 63))):=HK2.out.trans (hb4.mono HK2.out.size);have HO4:Hid (ay (w3.alloc (.cells #[sL g2 np c2,iT mk] 63)) w.heap.size g2 np c2 P):=HO2.out.below hb4;obtain ⟨r1,r2,xs,r3,r4⟩:=HR2.out.below hb4;have HX1:Hid (BB.length=m∧(∀p ∈ BB,(Lit.int .i64 p.2).wf=true)):=⟨r1,r2⟩;have HX3:Hid ((w3.alloc (.cells #[sL g2 np c2,iT mk] 63)).ownsRow w.heap.size 63 2 (sL g m c') m xs):=r3;have HX4:Hid (∀(i:Nat) (p:ag),BB[i]?=some p→∃e d,xs[i*2]?=some (sL e p.1.length d)∧xs[i*2+1]?=some (iT p.2)∧ay (w3.alloc (.cells #[sL g2 np c2,iT mk] 63)) w.heap.size e p.1.length d p.1):=r4;have hcn:=bT w3 (sL g2 np c2) (iT mk) 63;have HCN:=b6 hcn;clear hb3 ka3 hb4 r1 r2 r3 r4 hcn CL HK2 HR2 HO2;go_wp2_with (at_builtin;refine wpList_append_own _ rfl _ _ 61 rfl w.heap.size 63 j0 _ 2 32 Tryz.underlying61 hj hy0 hy1 hy2 rfl (by decide) _ _ _ rfl HX3.out ⟨w3.heap.size,0,none⟩ 1 1 [sL g2 np c2,iT mk] rfl rfl HCN.out (by intro u hu;simp at hu;rcases hu with rfl | rfl <;> rfl) (by unfold maxLen;omega) (by omega) HK4.out.size ?_;intro v5 w5 hown5 hgrow5 hnil5;obtain ⟨g5,c5,rfl⟩:=aG hown5 hnil5)
      have HR5:Hid (aZ w.heap.size w5 g5 (m+1) c5 (BB++[(P,mk)])):=f7 HX1.out.1 HX1.out.2 HX3.out HX4.out (by rw [HPL.out];exact HO4.out) (by rw [HMK.out];exact vo _) hgrow5 (by rw [HPL.out];exact hown5);have HK5:Hid (Bl w w5):=HK4.out.grown hgrow5 HK4.out.size (fun k e=>(HX3.out.lt k e).1);clear hown5 hgrow5 hnil5;go_roundw
      case rel=>exact ⟨i+1,i,g5,m+1,c5,BB++[(P,mk)],by omega,by omega,by go_num,rfl,by omega,rfl,by omega,(by rw [Nat.add_sub_cancel,qS hi1 HC.out HCB.out];unfold em;rw [← HPE.out,← HMK.out]),HR5.out,HK5.out⟩
      case measure=>first | (simp [intOf];omega) | (simp [intOf])
    · have hendI:¬(i:Int)=(n:Int):=by omega
      have hbq:((i:Int) == (n:Int))=false:=by simpa using hendI
      have wsub:IntKind.i64.wrap ((i:Int) - (f:Int))=(i:Int) - (f:Int):=by rw [IntWalk.i64_left];unfold wrap64;omega
      by_cases h20:20≤i - f
      · have h20I:(i:Int) - (f:Int) ≥ 20:=by omega
        have h20J:(20:Int)≤(i:Int) - (f:Int):=by omega
        have wsub1:IntKind.i64.wrap ((i:Int) - 1)=(i:Int) - 1:=by rw [IntWalk.i64_left];unfold wrap64;omega
        have hk1I:(i:Int)<(n:Int):=by omega
        have hk0I:(i:Int) - 1<(n:Int):=by omega
        have hz0I:(0:Int)≤(i:Int) - 1:=by omega
        have hi1I:(1:Int)≤(i:Int):=by omega
        have htn:((i:Int) - 1).toNat=i - 1:=by omega
        obtain ⟨s1,x1,x2,x3,x4,hg1,_,q1,_⟩:=HE.out.ent HK.out hbw i (by omega);obtain ⟨s0,y1,y2,y3,y4,hg0,_,q0,_⟩:=HE.out.ent HK.out hbw (i - 1) (by omega);simp only [Nat.zero_add] at q1 q0;by_cases hkey:s1=s0
        · have HCB:Hid (fP L f i=false):=by show _=_;unfold fP;rw [HLN.out,jz hg1,jz hg0,decide_eq_false hend];simp [hkey]
          have hkl:(s1.toList == s0.toList)=true:=by rw [hkey];simp
          clear hg1 hg0 hkey;have k0:Bl wr wr.drew:=(Below.refl _ wr).drew;have HMK:Hid (∀w',Bl wr w'→(fun w'=>w'.cell? ⟨b,i*5,none⟩=some (.string s1)∧w'.cell? ⟨b,(i - 1)*5,none⟩=some (.string s0)∧b<w'.heap.size) w'):=fun w' kk=>⟨cell_later kk q1,cell_later kk q0,Nat.lt_of_lt_of_le zb kk.size⟩
          have HKD:Hid (Bl w wr.drew):=HK.out.trans (k0.mono HK.out.size);have HRD:Hid (aZ w.heap.size wr.drew g m c' BB):=HR.out.below k0;go_upto_region 6 with fail
          refine eC HMK k0 fun aa=>?_
          generalize wr.drew=wd at k0 aa HKD HRD ⊢;refine aO 0 24 aa ?_;refine dN ?_;clear aa HMK k0;go_wp2;go_roundw
          case rel=>exact ⟨i+1,f,g,m,c',BB,by omega,by omega,by go_num,rfl,by omega,rfl,by omega,(by rw [Nat.add_sub_cancel];exact tB hi1 HC.out HCB.out),HRD.out,HKD.out⟩
          case measure=>first | (simp [intOf];omega) | (simp [intOf])
        · have HCB:Hid (fP L f i=true):=by show _=_;unfold fP;rw [HLN.out,jz hg1,jz hg0];simp [hkey,h20]
          have hkl:(s1.toList == s0.toList)=false:=by rw [beq_eq_false_iff_ne];intro e;rw [ByteArray.toList_eq,ByteArray.toList_eq] at e;exact hkey (ByteArray.ext (Array.toList_inj.1 e))
          clear hg1 hg0;have k0:Bl wr wr.drew:=(Below.refl _ wr).drew;have HMK:Hid (∀w',Bl wr w'→(fun w'=>w'.cell? ⟨b,i*5,none⟩=some (.string s1)∧w'.cell? ⟨b,(i - 1)*5,none⟩=some (.string s0)∧b<w'.heap.size) w'):=fun w' kk=>⟨cell_later kk q1,cell_later kk q0,Nat.lt_of_lt_of_le zb kk.size⟩
          have HKD:Hid (Bl w wr.drew):=HK.out.trans (k0.mono HK.out.size);have HRD:Hid (aZ w.heap.size wr.drew g m c' BB):=HR.out.below k0;go_upto_region 6 with fail
          refine eC HMK k0 fun aa=>?_
          generalize wr.drew=wd at k0 aa HKD HRD ⊢;refine aO 0 24 aa ?_;refine dN ?_;clear aa HMK k0;obtain ⟨P,hP⟩:=aS ((L.drop f).take (i - f));have HPE:Hid (P=(L.drop f).take (i - f)):=hP;obtain ⟨np,hnp⟩:=aS (i - f);have HPL:Hid (P.length=np):=by show _=_;rw [hP,hnp,List.length_take,List.length_drop,HLN.out];omega
          obtain ⟨cp,hcp⟩:=aS (c - f);have hEP:∀w',Bl w w'→aj w' (some ⟨b,f*5,none⟩) np cp P:=fun w' kk=>by rw [hP,hnp,hcp];have:=(HE.out.keep kk).sub (i:=f) (j:=i) (by omega) (by omega);simpa using this
          have HEP:Hid (∀w',Bl w w'→aj w' (some ⟨b,f*5,none⟩) np cp P):=hEP;have hcf:¬c=f:=by omega
          have hfkI:(f:Int)≤(i:Int):=by omega
          have hkcI:(i:Int)≤(c:Int):=by omega
          have hnpb:1≤np∧np≤1048576:=by omega
          have ka:Bl wd (wd.alloc (.cells #[] 50)):=bZ;have HKA:Hid (Bl w (wd.alloc (.cells #[] 50))):=HKD.out.trans (ka.mono HKD.out.size);have HOA:Hid (ay (wd.alloc (.cells #[] 50)) wd.heap.size wd.heap.size 0 0 []):=bQ wd _ (Nat.le_refl _);have HRA:Hid (aZ w.heap.size (wd.alloc (.cells #[] 50)) g m c' BB):=HRD.out.below ka;have HWD:Hid (w.heap.size≤wd.heap.size):=HKD.out.size;have hsz1:((i:Int) - (f:Int)).toNat=np:=by omega
          have hsz2:((c:Int) - (f:Int)).toNat=cp:=by omega
          have hsz3:i - f=np:=hnp.symm;have hsz4:c - f=cp:=hcp.symm;have KAD:Hid (Bl wd (wd.alloc (.cells #[] 50))):=ka;clear ka hP hEP hnp hcp;have HNPB:Hid (1≤np∧np≤1048576):=hnpb;go_wp2_with (at_builtin;refine wpList_append_own _ rfl _ _ 28 rfl wd.heap.size 50 i0 _ 5 56 Tryz.underlying28 hi hz0 hz1 hz2 rfl (by decide) _ _ _ rfl HOA.out.owns ⟨b,f*5,none⟩ np cp (aE P) rfl (by rw [bi,HPL.out]) (pg (HEP.out _ HKA.out)) (aQ _) (by unfold maxLen;omega) (by omega) (by simp) ?_;intro v2 w2 hown2 hgrow2 hnil2;obtain ⟨g2,c2,rfl⟩:=aG hown2 hnil2)
          simp only [Nat.zero_add] at hown2;have KD2:Hid (Bl wd w2):=KAD.out.grown hgrow2 KAD.out.size (fun k e=>by have h1:=Option.some.inj (show some wd.heap.size=some k from e);omega);have HK2:Hid (Bl w w2):=HKD.out.trans (KD2.out.mono HKD.out.size);have HR2:Hid (aZ w.heap.size w2 g m c' BB):=HRD.out.below KD2.out;have HO2:Hid (ay w2 w.heap.size g2 np c2 P):=ay.mono ⟨hown2,HPL.out,(HEP.out _ HKA.out).ents⟩ HWD.out;clear hown2 hgrow2 hnil2 KAD KD2 HKA HOA HRA HRD HKD;obtain ⟨mk,hmk⟩:∃mk:Int,mk=((cZ P:Nat):Int):=⟨_,rfl⟩;have HMK:Hid (mk=((cZ P:Nat):Int)):=hmk;have CL:Hid (Calls Tryz.prog 173 #[sL g2 np c2] w2 fun e w'=>e=.returned (.agg #[sL g2 np c2,iT mk])∧Bl w2 w'):=by rw [hmk];exact nS _ np c2 P w2 HO2.out.entsAt
          clear hmk;refine CL.out.mono ?_;rintro e w3 ⟨rfl,hb3⟩;have ka3:Bl w3 (w3.alloc (.cells #[sL g2 np c2,iT mk] 63)):=bZ;have hb4:=hb3.trans (ka3.mono hb3.size);have HK4:Hid (Bl w (w3.alloc (.cells #[sL g2 np c2,iT mk] 63))):=HK2.out.trans (hb4.mono HK2.out.size);have HO4:Hid (ay (w3.alloc (.cells #[sL g2 np c2,iT mk] 63)) w.heap.size g2 np c2 P):=HO2.out.below hb4;obtain ⟨r1,r2,xs,r3,r4⟩:=HR2.out.below hb4;have HX1:Hid (BB.length=m∧(∀p ∈ BB,(Lit.int .i64 p.2).wf=true)):=⟨r1,r2⟩;have HX3:Hid ((w3.alloc (.cells #[sL g2 np c2,iT mk] 63)).ownsRow w.heap.size 63 2 (sL g m c') m xs):=r3;have HX4:Hid (∀(i:Nat) (p:ag),BB[i]?=some p→∃e d,xs[i*2]?=some (sL e p.1.length d)∧xs[i*2+1]?=some (iT p.2)∧ay (w3.alloc (.cells #[sL g2 np c2,iT mk] 63)) w.heap.size e p.1.length d p.1):=r4;have hcn:=bT w3 (sL g2 np c2) (iT mk) 63;have HCN:=b6 hcn;clear hb3 ka3 hb4 r1 r2 r3 r4 hcn CL HK2 HR2 HO2;go_wp2_with (at_builtin;refine wpList_append_own _ rfl _ _ 61 rfl w.heap.size 63 j0 _ 2 32 Tryz.underlying61 hj hy0 hy1 hy2 rfl (by decide) _ _ _ rfl HX3.out ⟨w3.heap.size,0,none⟩ 1 1 [sL g2 np c2,iT mk] rfl rfl HCN.out (by intro u hu;simp at hu;rcases hu with rfl | rfl <;> rfl) (by unfold maxLen;omega) (by omega) HK4.out.size ?_;intro v5 w5 hown5 hgrow5 hnil5;obtain ⟨g5,c5,rfl⟩:=aG hown5 hnil5)
          have HR5:Hid (aZ w.heap.size w5 g5 (m+1) c5 (BB++[(P,mk)])):=f7 HX1.out.1 HX1.out.2 HX3.out HX4.out (by rw [HPL.out];exact HO4.out) (by rw [HMK.out];exact vo _) hgrow5 (by rw [HPL.out];exact hown5);have HK5:Hid (Bl w w5):=HK4.out.grown hgrow5 HK4.out.size (fun k e=>(HX3.out.lt k e).1);clear hown5 hgrow5 hnil5;go_roundw
          case rel=>exact ⟨i+1,i,g5,m+1,c5,BB++[(P,mk)],by omega,by omega,by go_num,rfl,by omega,rfl,by omega,(by rw [Nat.add_sub_cancel,qS hi1 HC.out HCB.out];unfold em;rw [← HPE.out,← HMK.out]),HR5.out,HK5.out⟩
          case measure=>first | (simp [intOf];omega) | (simp [intOf])
      · have h20I:¬(i:Int) - (f:Int) ≥ 20:=by omega
        have h20J:¬(20:Int)≤(i:Int) - (f:Int):=by omega
        have HCB:Hid (fP L f i=false):=by show _=_;unfold fP;rw [HLN.out,decide_eq_false hend,decide_eq_false h20];rfl
        have k0:Bl wr wr.drew:=(Below.refl _ wr).drew;have HMK:Hid (∀w',Bl wr w'→(fun w'=>b<w'.heap.size) w'):=fun w' kk=>Nat.lt_of_lt_of_le zb kk.size
        have HKD:Hid (Bl w wr.drew):=HK.out.trans (k0.mono HK.out.size);have HRD:Hid (aZ w.heap.size wr.drew g m c' BB):=HR.out.below k0;go_upto_region 6 with fail
        refine eC HMK k0 fun aa=>?_
        generalize wr.drew=wd at k0 aa HKD HRD ⊢;refine aO 0 24 aa ?_;refine dN ?_;clear aa HMK k0;go_wp2;go_roundw
        case rel=>exact ⟨i+1,f,g,m,c',BB,by omega,by omega,by go_num,rfl,by omega,rfl,by omega,(by rw [Nat.add_sub_cancel];exact tB hi1 HC.out HCB.out),HRD.out,HKD.out⟩
        case measure=>first | (simp [intOf];omega) | (simp [intOf])
  · have hltI:¬(i:Int)≤(n:Int):=by omega
    obtain rfl:i=n+1:=by omega
    have HF:Hid ((eP L n).1=BB):=by show _=_;have h:=HC.out;rw [Nat.add_sub_cancel] at h;rw [h]
    go_wp2;go_ret;exact (show BS _ w _ _ from ⟨g,m,c',rfl,by rw [HF.out];exact HR.out,HK.out⟩)
theorem sH (q:Int) (m1:Option Addr) (nm cm bv ov cv:Nat) (k1:Option Addr) (ns cs:Nat) (a2:Option Addr) (n2 c2:Nat) (C:List ag) (nx:Int) (b off n c:Nat) (B:List ag) (r0:ag) (w:World) (hl2:w.cell? ⟨bv,ov+2,none⟩=some (.slice a2 n2 c2)) (hC:az 0 w a2 n2 c2 C) (hnC:n2≤1000) (hneC:∀r ∈ C,1≤r.1.length) (hB:az 0 w (some ⟨b,off,none⟩) n c B) (h0:B[0]?=some r0) (hne:∀r ∈ B,1≤r.1.length) (hn:n≤1000) :
 Calls Tryz.prog 179 #[.agg #[iT q,.slice m1 nm cm,sO bv ov 3 cv,.slice k1 ns cs],iT nx,sO b off n c] w fun e w'=>e=.returned (.bool (decide (nx=2) || decide ((C.filter (dW (fb (bj r0.1) B) (dc (aT r0.1) B))).length=0)))∧Bl w w':=by
 obtain ⟨X,hX⟩:=aS w.heap.size;obtain ⟨W,hW⟩:=aS (w.alloc (.cells #[iT q,.slice m1 nm cm,sO bv ov 3 cv,.slice k1 ns cs] 31));have kW:Bl w W:=by rw [hW];exact bZ
 have bx:ar W X (iT q) (.slice m1 nm cm) (sO bv ov 3 cv) (.slice k1 ns cs):=by rw [hW,hX];exact ar.new _ _ _ _ _ _
 have K0:Hid (Bl w W):=kW;obtain ⟨lo,hlo⟩:=aS (fb (bj r0.1) B);obtain ⟨hi,hhi⟩:=aS (dc (aT r0.1) B);have CR:Hid (Calls Tryz.prog 176 #[sO b off n c] W fun e w'=>e=.returned (.tuple #[.string lo,.string hi])∧Bl W w'):=by rw [hlo,hhi];exact lS b off n c B r0 W (hB.keep kW) h0 hne (by omega)
 have CP:Hid (∀w',Bl w w'→Calls Tryz.prog 177 #[.slice a2 n2 c2,.string lo,.string hi] w' fun e w''=>∃g1 n1 c1 g2 n2 c2,e=.returned (.tuple #[sL g1 n1 c1,sL g2 n2 c2])∧az 0 w'' (pT g1) n1 c1 (C.filter (dW lo hi))∧az 0 w'' (pT g2) n2 c2 (C.filter (fun r=>!dW lo hi r))∧Bl w' w''):=fun w' k=>nT a2 n2 c2 C lo hi w' (hC.keep k) hneC hnC
 rw [← hlo,← hhi];obtain ⟨F,hF⟩:=aS ((decide (nx=2) || decide ((C.filter (dW lo hi)).length=0)));have HF:Hid (F=(decide (nx=2) || decide ((C.filter (dW lo hi)).length=0))):=hF;rw [← hF];have HL2:=b6 hl2;clear hF hlo hhi kW hC hneC hB h0 hne hl2;go_enter Tryz.func179,Tryz.ntmps179
 by_cases h2:nx=2
 · subst h2;have kA:Hid (Bl w (w.alloc (.cells #[iT q,.slice m1 nm cm,sO bv ov 3 cv,.slice k1 ns cs] 31))):=bZ;go_wp2;go_ret;exact ⟨by rw [HF.out];simp,kA.out⟩
 · have h2b:(nx == 2)=false:=by simpa using h2
   go_wp2_with fail
   rw [← hW];clear hW;refine CR.out.mono ?_;rintro e w1 ⟨rfl,hb1⟩;have K1:Hid (Bl w w1):=K0.out.trans (hb1.mono K0.out.size);have bx1:=bx.keep hb1;have x2:=bx1.c2;have xz:=bx1.lt;have l2:=cell_later K1.out HL2.out;have lz:=World.block_lt_of_cell? _ _ l2;simp only at lz;rw [← hX];clear hb1 bx bx1 hX;go_wp2_with fail
   refine (CP.out _ K1.out).mono ?_;rintro e w2 ⟨a5,n5,c5,a6,n6,c6,rfl,hR5,_,hb2⟩;have K2:Hid (Bl w w2):=K1.out.trans (hb2.mono K1.out.size);have HN5:Hid ((C.filter (dW lo hi)).length=n5):=hR5.length;clear hR5 hb2 x2 xz l2 lz;by_cases h5:n5=0
   · subst h5;go_wp2;go_ret;exact ⟨by rw [HF.out,HN5.out];simp,K2.out⟩
   · have h5I:¬(n5:Int)=0:=by omega
     have h5b:((n5:Int) == 0)=false:=by simpa using h5I
     go_wp2;go_ret;exact ⟨by rw [HF.out,HN5.out];simp [h2,h5],K2.out⟩
theorem eH {w:World} {base g n c:Nat} {S:List Int} (h:w.ownsRow base 3 1 (sL g n c) n (S.map iT)) (hl:S.length=n) (hw:∀z ∈ S,(Lit.int .i64 z).wf=true):bG base w (pT g) n c S:=by
 have hrc:=cj h;refine ⟨hl,hrc.1,hrc.2,hw,(fun e=>by cases e),?_,?_⟩
 · rintro x e _;cases e;exact ⟨(h.lt g rfl).2,rfl,(h.lt g rfl).1⟩
 · rintro x e i hi;cases e;simp only [Nat.zero_add];have h1:=h.cellAt i (by omega);rw [List.getElem?_map,List.getElem?_eq_getElem hi] at h1;exact h1
end Go.Proofs.YtpobkmjicbobdaaGreat
