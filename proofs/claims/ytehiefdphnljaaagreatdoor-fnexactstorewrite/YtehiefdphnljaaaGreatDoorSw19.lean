/- Walks. -/
import Derived.Test.YtehiefdphnljaaaGreatDoorSw15
namespace Go.Proofs.YtehiefdphnljaaaGreatDoor
set_option maxRecDepth 100000
set_option maxHeartbeats 40000000
open Go.RowKit
variable {U:List UInt8} {m:Int}
def BZ (l:List UInt8) (n:Int) (b:Bool):Prop:=(∀m,-10000000≤m→m≤10000000→l=Lib.itoa m→n=m∧b=true)∧-100000000000000000≤n∧n≤100000000000000000
def Bo (l:List UInt8) (e:Ending):Prop:=∃n b,e=.returned (.tuple #[iT n,.bool b])∧BZ l n b
theorem kI (t:ByteArray) (pos:Nat) (h:pos<t.size):t.data.toList.drop pos=t[pos] :: t.data.toList.drop (pos+1):=by
 have h':pos<t.data.toList.length:=by rw [Array.length_toList];exact h
 rw [List.drop_eq_getElem_cons h'];rfl
theorem mE (t:ByteArray) (pos:Nat) (h:pos<t.size):t.data.toList.take (pos+1)=t.data.toList.take pos++[t[pos]]:=by
 have h':pos<t.data.toList.length:=by rw [Array.length_toList];exact h
 rw [List.take_succ_eq_append_getElem h'];rfl
theorem wX (s:ByteArray) (i j:Nat):(s.extract i j).data.toList=(s.data.toList.drop i).take (j - i):=by
 simp [ByteArray.data_extract,List.extract_eq_take_drop]
def AU (neg:Bool) (U:List UInt8):Prop:=1≤U.length∧U.length≤8∧U.all d7=true∧∀r,U=48 :: r→(r=[]∧neg=false)
theorem zV (m0:-10000000≤m) (m1:m≤10000000) (h45:∀r,U≠45 :: r) (e:U=Lib.itoa m):AU false U∧(dv U:Int)=m:=by
 rcases m8 m m0 m1 with ⟨k,k1,rfl,e1,e2⟩ | ⟨k,rfl,e1,e2⟩
 · exact absurd (e.trans e1) (h45 _)
 · have eU:U=Lib.decDigits k:=e.trans e1;subst eU;refine ⟨⟨?_,e2,fh k,fun r hr=>⟨?_,rfl⟩⟩,by rw [pq]⟩
   · rw [Lib.decDigits_length];exact Lib.nDigits_pos k
   · rcases Nat.eq_zero_or_pos k with rfl | hk
     · rw [Lib.decDigits_one (by decide)] at hr;exact (List.cons.inj hr).2.symm
     · exact absurd hr (lY k hk r)
theorem zW (m0:-10000000≤m) (m1:m≤10000000) (e:45 :: U=Lib.itoa m):AU true U∧-(dv U:Int)=m:=by
 rcases m8 m m0 m1 with ⟨k,k1,rfl,e1,e2⟩ | ⟨k,rfl,e1,e2⟩
 · have eU:U=Lib.decDigits k:=(List.cons.inj (e.trans e1)).2;subst eU;refine ⟨⟨?_,e2,fh k,fun r hr=>absurd hr (lY k k1 r)⟩,by rw [pq]⟩;rw [Lib.decDigits_length];exact Lib.nDigits_pos k
 · have:=fh k;rw [← e1,← e] at this;simp only [List.all_cons,Bool.and_eq_true] at this;exact absurd this.1 (by decide)
theorem qR (s:ByteArray) (w:World) (hs:s.size≤1048576) (h1:0<s.size) (h45:s[0]=45) :
 Calls Tryz.prog 162 #[.string s] w fun e w'=>Bo s.data.toList e∧w=w':=by
 have hI:(0:Int)<(s.size:Int):=by omega
 have hb0:((s[0]).toNat:Int)=45:=by rw [h45];rfl
 obtain ⟨u,hu⟩:=aw (s.extract 1 s.size);have eU:s.data.toList=45 :: u.data.toList:=by
  have h2:=kI s 0 h1;rw [List.drop_zero,h45] at h2;rw [h2,hu];congr 1
  rw [wX];simp;exact (List.take_of_length_le (by simp)).symm
 have HUL:Hid (u.data.toList.length=u.size):=by show _=_;rw [Array.length_toList];rfl
 have hus:u.size≤1048576:=by have h3:=congrArg List.length eU;rw [Array.length_toList,List.length_cons,HUL.out] at h3;have:s.data.size=s.size:=rfl;omega
 have HQ:Hid (∀m,-10000000≤m→m≤10000000→s.data.toList=Lib.itoa m→AU true u.data.toList∧-(dv u.data.toList:Int)=m):=fun m m0 m1 e=>zW m0 m1 (eU.symm.trans e)
 clear eU;go_enter Tryz.func162,Tryz.ntmps162
 go_upto_region 4 with fail
 rw [← hu];clear hu hb0 hI h45 h1 hs;by_cases z0:u.size=0
 · have z0':(u.size:Int)=0:=by omega
   have z0b:((u.size:Int) == 0)=true:=by simpa using z0'
   have z0d:decide ((u.size:Int)=0)=true:=decide_eq_true z0';have Z0:Hid (u.size=0):=z0;clear z0' z0;go_wp2;go_ret2;exact ⟨⟨0,false,rfl,fun m m0 m1 e=>absurd (HQ.out m m0 m1 e).1 (fun h=>by have:=h.1;rw [HUL.out] at this;have:=Z0.out;omega),by omega,by omega⟩,rfl⟩
 have z0b:((u.size:Int) == 0)=false:=by rw [beq_eq_false_iff_ne];omega
 have z0i:¬(u.size:Int)=0:=by omega
 by_cases z17:(17:Int)<(u.size:Int)
 · go_wp2;go_ret2;exact ⟨⟨0,false,rfl,fun m m0 m1 e=>absurd (HQ.out m m0 m1 e).1 (fun h=>by have:=h.2.1;rw [HUL.out] at this;omega),by omega,by omega⟩,rfl⟩
 have zp:0<u.size:=by omega
 have zpI:(0:Int)<(u.size:Int):=by omega
 obtain ⟨c0,hc0⟩:=aw (u[0]);have HHEAD:Hid (u.data.toList=c0 :: u.data.toList.drop 1):=by
  have:=kI u 0 zp;rw [List.drop_zero,← hc0] at this;exact this
 have hix:u[0]=c0:=hc0.symm;have HIX:Hid (u[0]=c0):=hix;clear hc0;by_cases z48:c0=48
 · have hb48:((u[0]).toNat:Int)=48:=by rw [hix,z48];rfl
   have Z48:Hid (c0=48):=z48;clear z48 hix;go_wp2;all_goals
    go_ret2;exact ⟨⟨0,false,rfl,fun m m0 m1 e=>absurd (HQ.out m m0 m1 e).1 (fun h=>by have:=(h.2.2.2 _ (by rw [HHEAD.out,Z48.out])).2;cases this),by omega,by omega⟩,rfl⟩
 have hb48:¬((u[0]).toNat:Int)=48:=by
  rw [hix];intro e;apply z48;apply UInt8.toNat_inj.1;have e48:(48:UInt8).toNat=48:=by decide
  omega
 have hb48b:(((u[0]).toNat:Int) == 48)=false:=by simpa using hb48
 clear z48 hix;go_wp2;go_loop [5,6] (fun n i=>∃k N:Nat,k≤u.size∧i=iT k∧n=iT (N:Int)∧N=dv (u.data.toList.take k)∧(u.data.toList.take k).all d7=true) (fun _ i=>u.size - (intOf i).toNat)
 case atStart=>exact ⟨0,0,Nat.zero_le _,rfl,rfl,rfl,rfl⟩
 case round =>
  obtain ⟨k,N,hk,rfl,rfl,hN,hall⟩:=hrel;have HN:Hid (N=dv (u.data.toList.take k)):=hN;have HALL:Hid ((u.data.toList.take k).all d7=true):=hall;have hNlt:N<100000000000000000:=by
   rw [hN];have h1:=pp _ hall;have h2:(u.data.toList.take k).length≤17:=by rw [List.length_take,HUL.out];omega
   have h3:10 ^ (u.data.toList.take k).length≤10 ^ 17:=Nat.pow_le_pow_right (by decide) h2;have h4:(10:Nat) ^ 17=100000000000000000:=by decide
   omega
  clear hN hall;by_cases hlt:k<u.size
  · have hltI:(k:Int)<(u.size:Int):=by omega
    obtain ⟨c,hc⟩:=aw (u[k]);have hN16:N<10000000000000000:=by
     rw [HN.out];have h1:=pp _ HALL.out;have h2:(u.data.toList.take k).length≤16:=by rw [List.length_take,HUL.out];omega
     have h3:10 ^ (u.data.toList.take k).length≤10 ^ 16:=Nat.pow_le_pow_right (by decide) h2;have h4:(10:Nat) ^ 16=10000000000000000:=by decide
     omega
    have HTK:Hid (u.data.toList.take (k+1)=u.data.toList.take k++[c]):=by rw [hc];exact mE u k hlt
    have HMEM:Hid (c ∈ u.data.toList):=by
     have h0:c ∈ u.data.toList.take (k+1):=by rw [HTK.out];simp
     exact List.mem_of_mem_take h0
    cases hd:d7 c with
    | true =>
     have hd':=hd;simp only [d7,Bool.and_eq_true,decide_eq_true_eq] at hd';have d1:¬((u[k]).toNat:Int)<48:=by rw [← hc];omega
     have d2:¬(57:Int)<((u[k]).toNat:Int):=by rw [← hc];omega
     have d3:(48:Int)≤((u[k]).toNat:Int):=by omega
     have d4:((u[k]).toNat:Int)≤57:=by omega
     have HD:Hid (d7 c=true):=hd;have HC:Hid (c=u[k]):=hc;clear hd hc hd';go_wp2;go_round
     case rel =>
      refine ⟨k+1,N*10+(c.toNat - 48),by omega,by go_num,?_,by rw [HTK.out,qv,← HN.out],by rw [HTK.out,List.all_append,HALL.out];simp [HD.out]⟩;rw [HC.out];congr 1
      omega
     case measure=>simp [intOf];omega
    | false =>
     have hd':=hd;simp only [d7,Bool.and_eq_false_iff,decide_eq_false_iff_not] at hd';have hb:((u[k]).toNat:Int)<48∨(57:Int)<((u[k]).toNat:Int):=by rw [← hc];omega
     have HD:Hid (d7 c=false):=hd;clear hd hc hd';rcases hb with hb | hb
     · go_wp2;go_ret2;exact ⟨⟨0,false,rfl,fun m m0 m1 e=>absurd (HQ.out m m0 m1 e).1 (fun h=>by have:=List.all_eq_true.1 h.2.2.1 c HMEM.out;rw [HD.out] at this;cases this),by omega,by omega⟩,rfl⟩
     · go_wp2;go_ret2;exact ⟨⟨0,false,rfl,fun m m0 m1 e=>absurd (HQ.out m m0 m1 e).1 (fun h=>by have:=List.all_eq_true.1 h.2.2.1 c HMEM.out;rw [HD.out] at this;cases this),by omega,by omega⟩,rfl⟩
  · have hkn:k=u.size:=by omega
    have hNI:(N:Int)≤100000000000000000:=by omega
    go_wp2;go_ret2;refine ⟨⟨-(N:Int),true,rfl,fun m m0 m1 e=>⟨?_,rfl⟩,by omega,by omega⟩,rfl⟩;have:=(HQ.out m m0 m1 e).2;rw [HN.out,hkn,List.take_of_length_le (by rw [HUL.out];exact Nat.le_refl _)];exact this
theorem qQ (s:ByteArray) (w:World) (hs:s.size≤1048576) (h45:∀h:0<s.size,s[0]≠45) :
 Calls Tryz.prog 162 #[.string s] w fun e w'=>Bo s.data.toList e∧w=w':=by
 obtain ⟨u,hu⟩:=aw s;have HUL:Hid (u.data.toList.length=u.size):=by show _=_;rw [Array.length_toList];rfl
 have hus:u.size≤1048576:=by rw [hu];exact hs
 have h45':∀r,s.data.toList≠45 :: r:=by
  intro r e;have hp:0<s.size:=by have h3:=congrArg List.length e;rw [Array.length_toList] at h3;simp at h3;have:s.data.size=s.size:=rfl;omega
  have h2:=kI s 0 hp;rw [List.drop_zero,e] at h2;exact h45 hp (List.cons.inj h2).1.symm
 have HQ:Hid (∀m,-10000000≤m→m≤10000000→s.data.toList=Lib.itoa m→AU false u.data.toList∧(dv u.data.toList:Int)=m):=fun m m0 m1 e=>by rw [hu];exact zV m0 m1 h45' e
 subst hu;by_cases y0:u.size=0
 · have z0':(u.size:Int)=0:=by omega
   have z0b:((u.size:Int) == 0)=true:=by simpa using z0'
   have z0d:decide ((u.size:Int)=0)=true:=decide_eq_true z0';have z0n:¬(0:Int)<(u.size:Int):=by omega
   have Z0:Hid (u.size=0):=y0;clear z0' y0;go_enter Tryz.func162,Tryz.ntmps162
   go_wp2;go_ret2;exact ⟨⟨0,false,rfl,fun m m0 m1 e=>absurd (HQ.out m m0 m1 e).1 (fun h=>by have:=h.1;rw [HUL.out] at this;have:=Z0.out;omega),by omega,by omega⟩,rfl⟩
 have yp:0<u.size:=by omega
 have ypI:(0:Int)<(u.size:Int):=by omega
 have h45i:¬((u[0]).toNat:Int)=45:=by
  intro e;apply h45 yp;apply UInt8.toNat_inj.1;have e45:(45:UInt8).toNat=45:=by decide
  omega
 have h45b:(((u[0]).toNat:Int) == 45)=false:=by simpa using h45i
 clear h45 h45' hs;go_enter Tryz.func162,Tryz.ntmps162
 go_upto_region 4 with fail
 clear h45i h45b y0;by_cases z0:u.size=0
 · have z0':(u.size:Int)=0:=by omega
   have z0b:((u.size:Int) == 0)=true:=by simpa using z0'
   have z0d:decide ((u.size:Int)=0)=true:=decide_eq_true z0';have Z0:Hid (u.size=0):=z0;clear z0' z0;go_wp2;go_ret2;exact ⟨⟨0,false,rfl,fun m m0 m1 e=>absurd (HQ.out m m0 m1 e).1 (fun h=>by have:=h.1;rw [HUL.out] at this;have:=Z0.out;omega),by omega,by omega⟩,rfl⟩
 have z0b:((u.size:Int) == 0)=false:=by rw [beq_eq_false_iff_ne];omega
 have z0i:¬(u.size:Int)=0:=by omega
 by_cases z17:(17:Int)<(u.size:Int)
 · go_wp2;go_ret2;exact ⟨⟨0,false,rfl,fun m m0 m1 e=>absurd (HQ.out m m0 m1 e).1 (fun h=>by have:=h.2.1;rw [HUL.out] at this;omega),by omega,by omega⟩,rfl⟩
 have zp:0<u.size:=by omega
 have zpI:(0:Int)<(u.size:Int):=by omega
 obtain ⟨c0,hc0⟩:=aw (u[0]);have HHEAD:Hid (u.data.toList=c0 :: u.data.toList.drop 1):=by
  have:=kI u 0 zp;rw [List.drop_zero,← hc0] at this;exact this
 have hix:u[0]=c0:=hc0.symm;have HIX:Hid (u[0]=c0):=hix;clear hc0;by_cases z48:c0=48
 · have hb48:((u[0]).toNat:Int)=48:=by rw [hix,z48];rfl
   have hb48b:(((u[0]).toNat:Int) == 48)=true:=by rw [hb48];rfl
   have Z48:Hid (c0=48):=z48;by_cases z1:(1:Int)<(u.size:Int)
   · clear z48 hix hb48;go_wp2;go_ret2;exact ⟨⟨0,false,rfl,fun m m0 m1 e=>absurd (HQ.out m m0 m1 e).1 (fun h=>by have:=(h.2.2.2 _ (by rw [HHEAD.out,Z48.out])).1;have h2:=congrArg List.length this;simp only [List.length_drop,List.length_nil,HUL.out] at h2;omega),by omega,by omega⟩,rfl⟩
   · clear z48 hix hb48;go_wp2;go_loop [5,6] (fun n i=>∃k N:Nat,k≤u.size∧i=iT k∧n=iT (N:Int)∧N=dv (u.data.toList.take k)∧(u.data.toList.take k).all d7=true) (fun _ i=>u.size - (intOf i).toNat)
     case atStart=>exact ⟨0,0,Nat.zero_le _,rfl,rfl,rfl,rfl⟩
     case round =>
      obtain ⟨k,N,hk,rfl,rfl,hN,hall⟩:=hrel;have HN:Hid (N=dv (u.data.toList.take k)):=hN;have HALL:Hid ((u.data.toList.take k).all d7=true):=hall;have hNlt:N<100000000000000000:=by
       rw [hN];have h1:=pp _ hall;have h2:(u.data.toList.take k).length≤17:=by rw [List.length_take,HUL.out];omega
       have h3:10 ^ (u.data.toList.take k).length≤10 ^ 17:=Nat.pow_le_pow_right (by decide) h2;have h4:(10:Nat) ^ 17=100000000000000000:=by decide
       omega
      clear hN hall;by_cases hlt:k<u.size
      · have hltI:(k:Int)<(u.size:Int):=by omega
        obtain ⟨c,hc⟩:=aw (u[k]);have hN16:N<10000000000000000:=by
         rw [HN.out];have h1:=pp _ HALL.out;have h2:(u.data.toList.take k).length≤16:=by rw [List.length_take,HUL.out];omega
         have h3:10 ^ (u.data.toList.take k).length≤10 ^ 16:=Nat.pow_le_pow_right (by decide) h2;have h4:(10:Nat) ^ 16=10000000000000000:=by decide
         omega
        have HTK:Hid (u.data.toList.take (k+1)=u.data.toList.take k++[c]):=by rw [hc];exact mE u k hlt
        have HMEM:Hid (c ∈ u.data.toList):=by
         have h0:c ∈ u.data.toList.take (k+1):=by rw [HTK.out];simp
         exact List.mem_of_mem_take h0
        cases hd:d7 c with
        | true =>
         have hd':=hd;simp only [d7,Bool.and_eq_true,decide_eq_true_eq] at hd';have d1:¬((u[k]).toNat:Int)<48:=by rw [← hc];omega
         have d2:¬(57:Int)<((u[k]).toNat:Int):=by rw [← hc];omega
         have d3:(48:Int)≤((u[k]).toNat:Int):=by omega
         have d4:((u[k]).toNat:Int)≤57:=by omega
         have HD:Hid (d7 c=true):=hd;have HC:Hid (c=u[k]):=hc;clear hd hc hd';go_wp2;go_round
         case rel =>
          refine ⟨k+1,N*10+(c.toNat - 48),by omega,by go_num,?_,by rw [HTK.out,qv,← HN.out],by rw [HTK.out,List.all_append,HALL.out];simp [HD.out]⟩;rw [HC.out];congr 1
          omega
         case measure=>simp [intOf];omega
        | false =>
         have hd':=hd;simp only [d7,Bool.and_eq_false_iff,decide_eq_false_iff_not] at hd';have hb:((u[k]).toNat:Int)<48∨(57:Int)<((u[k]).toNat:Int):=by rw [← hc];omega
         have HD:Hid (d7 c=false):=hd;clear hd hc hd';rcases hb with hb | hb
         · go_wp2;go_ret2;exact ⟨⟨0,false,rfl,fun m m0 m1 e=>absurd (HQ.out m m0 m1 e).1 (fun h=>by have:=List.all_eq_true.1 h.2.2.1 c HMEM.out;rw [HD.out] at this;cases this),by omega,by omega⟩,rfl⟩
         · go_wp2;go_ret2;exact ⟨⟨0,false,rfl,fun m m0 m1 e=>absurd (HQ.out m m0 m1 e).1 (fun h=>by have:=List.all_eq_true.1 h.2.2.1 c HMEM.out;rw [HD.out] at this;cases this),by omega,by omega⟩,rfl⟩
      · have hkn:k=u.size:=by omega
        have hNI:(N:Int)≤100000000000000000:=by omega
        go_wp2;go_ret2;refine ⟨⟨(N:Int),true,rfl,fun m m0 m1 e=>⟨?_,rfl⟩,by omega,by omega⟩,rfl⟩;have:=(HQ.out m m0 m1 e).2;rw [HN.out,hkn,List.take_of_length_le (by rw [HUL.out];exact Nat.le_refl _)];exact this
 have hb48:¬((u[0]).toNat:Int)=48:=by
  rw [hix];intro e;apply z48;apply UInt8.toNat_inj.1;have e48:(48:UInt8).toNat=48:=by decide
  omega
 have hb48b:(((u[0]).toNat:Int) == 48)=false:=by simpa using hb48
 clear z48 hix;go_wp2;go_loop [5,6] (fun n i=>∃k N:Nat,k≤u.size∧i=iT k∧n=iT (N:Int)∧N=dv (u.data.toList.take k)∧(u.data.toList.take k).all d7=true) (fun _ i=>u.size - (intOf i).toNat)
 case atStart=>exact ⟨0,0,Nat.zero_le _,rfl,rfl,rfl,rfl⟩
 case round =>
  obtain ⟨k,N,hk,rfl,rfl,hN,hall⟩:=hrel;have HN:Hid (N=dv (u.data.toList.take k)):=hN;have HALL:Hid ((u.data.toList.take k).all d7=true):=hall;have hNlt:N<100000000000000000:=by
   rw [hN];have h1:=pp _ hall;have h2:(u.data.toList.take k).length≤17:=by rw [List.length_take,HUL.out];omega
   have h3:10 ^ (u.data.toList.take k).length≤10 ^ 17:=Nat.pow_le_pow_right (by decide) h2;have h4:(10:Nat) ^ 17=100000000000000000:=by decide
   omega
  clear hN hall;by_cases hlt:k<u.size
  · have hltI:(k:Int)<(u.size:Int):=by omega
    obtain ⟨c,hc⟩:=aw (u[k]);have hN16:N<10000000000000000:=by
     rw [HN.out];have h1:=pp _ HALL.out;have h2:(u.data.toList.take k).length≤16:=by rw [List.length_take,HUL.out];omega
     have h3:10 ^ (u.data.toList.take k).length≤10 ^ 16:=Nat.pow_le_pow_right (by decide) h2;have h4:(10:Nat) ^ 16=10000000000000000:=by decide
     omega
    have HTK:Hid (u.data.toList.take (k+1)=u.data.toList.take k++[c]):=by rw [hc];exact mE u k hlt
    have HMEM:Hid (c ∈ u.data.toList):=by
     have h0:c ∈ u.data.toList.take (k+1):=by rw [HTK.out];simp
     exact List.mem_of_mem_take h0
    cases hd:d7 c with
    | true =>
     have hd':=hd;simp only [d7,Bool.and_eq_true,decide_eq_true_eq] at hd';have d1:¬((u[k]).toNat:Int)<48:=by rw [← hc];omega
     have d2:¬(57:Int)<((u[k]).toNat:Int):=by rw [← hc];omega
     have d3:(48:Int)≤((u[k]).toNat:Int):=by omega
     have d4:((u[k]).toNat:Int)≤57:=by omega
     have HD:Hid (d7 c=true):=hd;have HC:Hid (c=u[k]):=hc;clear hd hc hd';go_wp2;go_round
     case rel =>
      refine ⟨k+1,N*10+(c.toNat - 48),by omega,by go_num,?_,by rw [HTK.out,qv,← HN.out],by rw [HTK.out,List.all_append,HALL.out];simp [HD.out]⟩;rw [HC.out];congr 1
      omega
     case measure=>simp [intOf];omega
    | false =>
     have hd':=hd;simp only [d7,Bool.and_eq_false_iff,decide_eq_false_iff_not] at hd';have hb:((u[k]).toNat:Int)<48∨(57:Int)<((u[k]).toNat:Int):=by rw [← hc];omega
     have HD:Hid (d7 c=false):=hd;clear hd hc hd';rcases hb with hb | hb
     · go_wp2;go_ret2;exact ⟨⟨0,false,rfl,fun m m0 m1 e=>absurd (HQ.out m m0 m1 e).1 (fun h=>by have:=List.all_eq_true.1 h.2.2.1 c HMEM.out;rw [HD.out] at this;cases this),by omega,by omega⟩,rfl⟩
     · go_wp2;go_ret2;exact ⟨⟨0,false,rfl,fun m m0 m1 e=>absurd (HQ.out m m0 m1 e).1 (fun h=>by have:=List.all_eq_true.1 h.2.2.1 c HMEM.out;rw [HD.out] at this;cases this),by omega,by omega⟩,rfl⟩
  · have hkn:k=u.size:=by omega
    have hNI:(N:Int)≤100000000000000000:=by omega
    go_wp2;go_ret2;refine ⟨⟨(N:Int),true,rfl,fun m m0 m1 e=>⟨?_,rfl⟩,by omega,by omega⟩,rfl⟩;have:=(HQ.out m m0 m1 e).2;rw [HN.out,hkn,List.take_of_length_le (by rw [HUL.out];exact Nat.le_refl _)];exact this
theorem Ar (s:ByteArray) (w:World) (hs:s.size≤1048576):Calls Tryz.prog 162 #[.string s] w fun e w'=>Bo s.data.toList e∧w=w':=by
 by_cases h:∃h:0<s.size,s[0]=45
 · obtain ⟨h1,h2⟩:=h;exact qR s w hs h1 h2
 · exact qQ s w hs (fun h1 h2=>h ⟨h1,h2⟩)
def ea (t:ByteArray) (z:Int):Prop:=z=-1∨∃j:Nat,z=(j:Int)∧j≤t.size
def BE (t:ByteArray) (k:Nat) (e:Ending):Prop :=
 ∃n z:Int,e=.returned (.tuple #[iT n,iT z])∧(-9223372036854775808≤n∧n≤9223372036854775807)∧ea t z∧(z≠-1→(k:Int)<z) ∧
  ∀(m:Int) (r:List UInt8),-10000000≤m→m≤10000000→t.data.toList.drop k=Lib.itoa m++32 :: r→n=m∧∃j:Nat,z=(j:Int)∧t.data.toList.drop j=r
theorem oA {u v r q:List UInt8} (h:u++32 :: r=v++32 :: q) (hu:(32:UInt8) ∉ u) (hv:(32:UInt8) ∉ v):u=v∧r=q:=by
 have h1:=iF u r hu;rw [h,iF v q hv] at h1;cases h1;exact ⟨rfl,rfl⟩
theorem oD (t:ByteArray) (k:Nat) (w:World) (hk:k≤t.size) (ht:t.size≤1048576) :
 Calls Tryz.prog 138 #[.string t,iT (k:Int)] w fun e w'=>BE t k e∧Bl w w':=by
 have hk0:¬(k:Int)<0:=by omega
 go_enter Tryz.func138,Tryz.ntmps138
 go_wp2_with fail
 refine (qO t k _ hk ht).mono ?_;rintro e w1 ⟨he,hb1⟩;obtain ⟨s,z,rfl,hs,hz⟩:∃(s:ByteArray) (z:Int),e=.returned (.tuple #[.string s,iT z])∧s.size≤1048576∧(ea t z∧(z≠-1→(k:Int)<z)∧∀(m:Int) (r:List UInt8),t.data.toList.drop k=Lib.itoa m++32 :: r→s.data.toList=Lib.itoa m∧∃j:Nat,z=(j:Int)∧t.data.toList.drop j=r):=by
  rcases he with ⟨j,h1,h2,h3,h4,rfl⟩ | ⟨h1,rfl⟩
  · refine ⟨_,_,rfl,by rw [ByteArray.size_extract];omega,Or.inr ⟨j+1,by omega,by omega⟩,fun _=>by omega,fun m r hm=>?_⟩;obtain ⟨e1,e2⟩:=oA (h3.symm.trans hm) h4 (uC m);exact ⟨e1,j+1,by omega,e2⟩
  · refine ⟨_,_,rfl,by decide,Or.inl rfl,fun h=>absurd rfl h,fun m r hm=>?_⟩;rw [hm] at h1;simp at h1
 have HZ:Hid (ea t z∧(z≠-1→(k:Int)<z)∧∀(m:Int) (r:List UInt8),t.data.toList.drop k=Lib.itoa m++32 :: r→s.data.toList=Lib.itoa m∧∃j:Nat,z=(j:Int)∧t.data.toList.drop j=r):=hz;clear hz he;go_wp2_with fail
 refine (Ar s _ hs).mono ?_;rintro e w2 ⟨⟨n,b,rfl,hn,hn1,hn2⟩,rfl⟩;have HN:Hid (∀(m:Int),-10000000≤m→m≤10000000→s.data.toList=Lib.itoa m→n=m∧b=true):=hn;clear hn;cases b with
 | true =>
  go_wp2;refine bodyPost_ret (v:=.tuple #[iT n,iT z]) (by simp [results,Tryz.results138,go_sem]) rfl ⟨⟨n,z,rfl,⟨by omega,by omega⟩,HZ.out.1,HZ.out.2.1,fun m r m0 m1 hm=>?_⟩,hb1⟩;obtain ⟨e1,e2⟩:=HZ.out.2.2 m r hm;exact ⟨(HN.out m m0 m1 e1).1,e2⟩
 | false =>
  go_wp2;refine bodyPost_ret (v:=.tuple #[iT 0,iT (-1)]) (by simp [results,Tryz.results138,go_sem]) rfl ⟨⟨0,-1,rfl,⟨by omega,by omega⟩,Or.inl rfl,fun h=>absurd rfl h,fun m r m0 m1 hm=>?_⟩,hb1⟩;obtain ⟨e1,e2⟩:=HZ.out.2.2 m r hm;have:=(HN.out m m0 m1 e1).2;cases this
theorem vj (t:ByteArray) (w:World):Calls Tryz.prog 138 #[.string t,iT (-1)] w fun e w'=>e=.returned (.tuple #[iT 0,iT (-1)])∧Bl w w':=by
 go_enter Tryz.func138,Tryz.ntmps138
 go_wp2;exact bodyPost_ret (v:=.tuple #[iT 0,iT (-1)]) (by simp [results,Tryz.results138,go_sem]) rfl ⟨rfl,Below.refl _ _⟩
theorem yj (t:ByteArray) (z:Int) (w:World) (hz:ea t z) (ht:t.size≤1048576) :
 Calls Tryz.prog 138 #[.string t,iT z] w fun e w'=>(∃n z':Int,e=.returned (.tuple #[iT n,iT z'])∧(-9223372036854775808≤n∧n≤9223372036854775807)∧ea t z'∧(z'≠-1→z<z')∧∀(k:Nat) (m:Int) (r:List UInt8),z=(k:Int)→-10000000≤m→m≤10000000→t.data.toList.drop k=Lib.itoa m++32 :: r→n=m∧∃j:Nat,z'=(j:Int)∧t.data.toList.drop j=r)∧Bl w w':=by
 rcases hz with rfl | ⟨j,rfl,hj⟩
 · refine (vj t w).mono ?_;rintro e w' ⟨rfl,hb⟩;exact ⟨⟨0,-1,rfl,⟨by omega,by omega⟩,Or.inl rfl,fun h=>absurd rfl h,fun k m r hk=>by omega⟩,hb⟩
 · refine (oD t j w hj ht).mono ?_;rintro e w' ⟨⟨n,z',rfl,h1,h2,h3,h4⟩,hb⟩;refine ⟨⟨n,z',rfl,h1,h2,h3,fun k m r hk m0 m1 hm=>?_⟩,hb⟩;have:j=k:=by omega
   subst this;exact h4 m r m0 m1 hm
def qw (t:ByteArray) (k:Nat) (s:ByteArray) (z:Int):Prop:=ea t z∧s.size≤1048576∧∀(u r:List UInt8),(32:UInt8) ∉ u→t.data.toList.drop k=u++32 :: r→s.data.toList=u∧∃j:Nat,z=(j:Int)∧t.data.toList.drop j=r
theorem ve (t:ByteArray) (k:Nat) (w:World) (hk:k≤t.size) (ht:t.size≤1048576) :
 Calls Tryz.prog 161 #[.string t,iT (k:Int)] w fun e w'=>(∃s z,e=.returned (.tuple #[.string s,iT z])∧qw t k s z)∧Bl w w':=by
 refine (qO t k w hk ht).mono ?_;rintro e w' ⟨he,hb⟩;refine ⟨?_,hb⟩;rcases he with ⟨j,h1,h2,h3,h4,rfl⟩ | ⟨h1,rfl⟩
 · refine ⟨_,_,rfl,Or.inr ⟨j+1,by omega,by omega⟩,by rw [ByteArray.size_extract];omega,fun u r hu hm=>?_⟩;obtain ⟨e1,e2⟩:=oA (h3.symm.trans hm) h4 hu;exact ⟨e1,j+1,by omega,e2⟩
 · refine ⟨_,_,rfl,Or.inl rfl,by decide,fun u r hu hm=>?_⟩;rw [hm] at h1;simp at h1
def kR (t:ByteArray) (z n z':Int):Prop:=(-9223372036854775808≤n∧n≤9223372036854775807)∧ea t z'∧∀(k:Nat) (m:Int) (r:List UInt8),z=(k:Int)→-10000000≤m→m≤10000000→t.data.toList.drop k=Lib.itoa m++32 :: r→n=m∧∃j:Nat,z'=(j:Int)∧t.data.toList.drop j=r
theorem jX (t:ByteArray) (z:Int) (w:World) (hz:ea t z) (ht:t.size≤1048576) :
 Calls Tryz.prog 138 #[.string t,iT z] w fun e w'=>(∃n z':Int,e=.returned (.tuple #[iT n,iT z'])∧kR t z n z')∧Bl w w':=by
 refine (yj t z w hz ht).mono ?_;rintro e w' ⟨⟨n,z',h1,h2,h3,h4,h5⟩,hb⟩;exact ⟨⟨n,z',h1,h2,h3,h5⟩,hb⟩
theorem wM {t s:ByteArray} {k:Nat} {q d n z1 z2 z3 z4 z5:Int} (H1:qw t k s z1) (H2:kR t z1 q z2) (H3:kR t z2 d z3) (H4:kR t z3 n z4) (H5:kR t z4 m z5) {E:ae} {r:List UInt8} (hE:cN E=true) (hd:t.data.toList.drop k=fH E++r) :
 s=E.1∧q=E.2.1∧d=E.2.2.1∧n=E.2.2.2.2∧m=(E.2.2.2.1.size:Int)∧∃j:Nat,z5=(j:Int)∧t.data.toList.drop j=E.2.2.2.1.data.toList++r:=by
 obtain ⟨h1,h2,h3,h4,h5,h6,h7,h8⟩:=dX hE;have hk:=yZ (uF hE);obtain ⟨k',q',d',t',n'⟩:=E;simp only at h1 h2 h3 h4 h5 h6 h7 h8 hk ⊢;have e0:fH (k',q',d',t',n')++r=k'.data.toList++32 :: (Lib.itoa q'++32 :: (Lib.itoa d'++32 :: (Lib.itoa n'++32 :: (Lib.itoa (t'.size:Int)++32 :: (t'.data.toList++r))))):=by simp [fH]
 rw [e0] at hd;obtain ⟨a1,j1,b1,c1⟩:=H1.2.2 _ _ hk hd;obtain ⟨a2,j2,b2,c2⟩:=H2.2.2 j1 _ _ b1 (by omega) (by omega) c1;obtain ⟨a3,j3,b3,c3⟩:=H3.2.2 j2 _ _ b2 (by omega) (by omega) c2;obtain ⟨a4,j4,b4,c4⟩:=H4.2.2 j3 _ _ b3 (by omega) (by omega) c3;obtain ⟨a5,j5,b5,c5⟩:=H5.2.2 j4 _ _ b4 (by omega) (by omega) c4;exact ⟨by have:=ByteArray.ext (Array.toList_inj.1 a1);exact this,a2,a3,a4,a5,j5,b5,c5⟩
def A9 (t:ByteArray) (k:Nat) (e:Ending):Prop :=
 ∃(kk tt:ByteArray) (q d n z:Int),e=.returned (.tuple #[.agg #[.string kk,iT q,iT d,.string tt,iT n],iT z])∧dt (kk,q,d,tt,n)∧ea t z∧∀(E:ae) (r:List UInt8),cN E=true→t.data.toList.drop k=fH E++r→(kk,q,d,tt,n)=E∧∃j:Nat,z=(j:Int)∧t.data.toList.drop j=r
theorem pB {z:Int} (h:-9223372036854775808≤z∧z≤9223372036854775807):(Lit.int .i64 z).wf=true:=WalkArith.wf_i64 (by omega)
theorem yv (t:ByteArray) (k:Nat) (w:World) (hk:k≤t.size) (ht:t.size≤1048576) :
 Calls Tryz.prog 163 #[.string t,iT (k:Int)] w fun e w'=>A9 t k e∧Bl w w':=by
 go_enter Tryz.func163,Tryz.ntmps163
 obtain ⟨W0,hW0⟩:∃W,W=(w.alloc (.cells #[.string ⟨#[]⟩,iT 0,iT 0,.string ⟨#[]⟩,iT 0] 59)).alloc (.cells #[.string ⟨#[]⟩,iT 0,iT 0,.string ⟨#[]⟩,iT 0] 59):=⟨_,rfl⟩;have k0:Bl w W0:=by rw [hW0];exact bZ.alloc (by simp) _
 have A0:cD W0 w.heap.size (.string ⟨#[]⟩) (iT 0) (iT 0) (.string ⟨#[]⟩) (iT 0):=by
  rw [hW0];exact (cD.new _ _ _ _ _ _ _).below bZ
 have E0:cD W0 (w.heap.size+1) (.string ⟨#[]⟩) (iT 0) (iT 0) (.string ⟨#[]⟩) (iT 0):=by
  rw [hW0];have:=cD.new (w.alloc (.cells #[.string ⟨#[]⟩,iT 0,iT 0,.string ⟨#[]⟩,iT 0] 59)) 59 (.string ⟨#[]⟩) (iT 0) (iT 0) (.string ⟨#[]⟩) (iT 0);simpa using this
 go_wp2_with fail
 rw [← hW0];clear hW0;obtain ⟨A,hA⟩:=aw w.heap.size;obtain ⟨E,hE⟩:=aw (w.heap.size+1);have hAE:A<E:=by omega
 have HA:Hid (w.heap.size≤A):=by show _≤_;omega
 rw [← hE] at E0;rw [← hA] at A0;simp only [← hE];simp only [← hA];clear hA hE;have HB0:Hid (Bl w W0):=k0;clear k0;refine (ve t k _ hk ht).mono ?_;rintro e w1 ⟨⟨s,z1,rfl,hs⟩,b1⟩;have H1:Hid (qw t k s z1):=hs;have P1:Hid (ea t z1):=hs.1;have A1:=A0.below b1;have F1:=E0.below b1;have HC1:Hid (Bl w w1):=HB0.out.trans (b1.mono HB0.out.size);clear hs b1 A0 E0 HB0;have f0:=F1.c0;have f1:w1.frozen? ⟨E,0,none⟩=false:=F1.fr 0;have hEl:=F1.lt;go_wp2_with fail
 obtain ⟨W1,hW1⟩:∃W,W=w1.setCell ⟨E,0,none⟩ (.string s):=⟨_,rfl⟩;have E1:cD W1 E (.string s) (iT 0) (iT 0) (.string ⟨#[]⟩) (iT 0):=by rw [hW1];exact F1.set0 _
 have B1:cD W1 A (.string ⟨#[]⟩) (iT 0) (iT 0) (.string ⟨#[]⟩) (iT 0):=by rw [hW1];exact A1.other (by omega) _ _
 have HB1:Hid (Bl w W1):=by rw [hW1];exact HC1.out.setCell (by have:=HA.out;show _≤E;omega) _
 rw [← hW1];clear hW1 F1 A1 HC1 f0 f1 hEl;refine (jX t z1 _ P1.out ht).mono ?_;rintro e w2 ⟨⟨q,z2,rfl,hs⟩,b1⟩;have H2:Hid (kR t z1 q z2):=hs;have P2:Hid (ea t z2):=hs.2.1;have hr2:=hs.1;have A2:=B1.below b1;have F2:=E1.below b1;have HC2:Hid (Bl w w2):=HB1.out.trans (b1.mono HB1.out.size);clear hs b1 B1 E1 HB1;have f0:=F2.c1;have f1:w2.frozen? ⟨E,1,none⟩=false:=F2.fr 1;have hEl:=F2.lt;go_wp2_with fail
 obtain ⟨W2,hW2⟩:∃W,W=w2.setCell ⟨E,1,none⟩ (iT q):=⟨_,rfl⟩;have E2:cD W2 E (.string s) (iT q) (iT 0) (.string ⟨#[]⟩) (iT 0):=by rw [hW2];exact F2.set1 _
 have B2:cD W2 A (.string ⟨#[]⟩) (iT 0) (iT 0) (.string ⟨#[]⟩) (iT 0):=by rw [hW2];exact A2.other (by omega) _ _
 have HB2:Hid (Bl w W2):=by rw [hW2];exact HC2.out.setCell (by have:=HA.out;show _≤E;omega) _
 rw [← hW2];clear hW2 F2 A2 HC2 f0 f1 hEl;refine (jX t z2 _ P2.out ht).mono ?_;rintro e w3 ⟨⟨d,z3,rfl,hs⟩,b1⟩;have H3:Hid (kR t z2 d z3):=hs;have P3:Hid (ea t z3):=hs.2.1;have hr3:=hs.1;have A3:=B2.below b1;have F3:=E2.below b1;have HC3:Hid (Bl w w3):=HB2.out.trans (b1.mono HB2.out.size);clear hs b1 B2 E2 HB2;have f0:=F3.c2;have f1:w3.frozen? ⟨E,2,none⟩=false:=F3.fr 2;have hEl:=F3.lt;go_wp2_with fail
 obtain ⟨W3,hW3⟩:∃W,W=w3.setCell ⟨E,2,none⟩ (iT d):=⟨_,rfl⟩;have E3:cD W3 E (.string s) (iT q) (iT d) (.string ⟨#[]⟩) (iT 0):=by rw [hW3];exact F3.set2 _
 have B3:cD W3 A (.string ⟨#[]⟩) (iT 0) (iT 0) (.string ⟨#[]⟩) (iT 0):=by rw [hW3];exact A3.other (by omega) _ _
 have HB3:Hid (Bl w W3):=by rw [hW3];exact HC3.out.setCell (by have:=HA.out;show _≤E;omega) _
 rw [← hW3];clear hW3 F3 A3 HC3 f0 f1 hEl;refine (jX t z3 _ P3.out ht).mono ?_;rintro e w4 ⟨⟨n,z4,rfl,hs⟩,b1⟩;have H4:Hid (kR t z3 n z4):=hs;have P4:Hid (ea t z4):=hs.2.1;have hr4:=hs.1;have A4:=B3.below b1;have F4:=E3.below b1;have HC4:Hid (Bl w w4):=HB3.out.trans (b1.mono HB3.out.size);clear hs b1 B3 E3 HB3;have f0:=F4.c4;have f1:w4.frozen? ⟨E,4,none⟩=false:=F4.fr 4;have hEl:=F4.lt;go_wp2_with fail
 obtain ⟨W4,hW4⟩:∃W,W=w4.setCell ⟨E,4,none⟩ (iT n):=⟨_,rfl⟩;have E4:cD W4 E (.string s) (iT q) (iT d) (.string ⟨#[]⟩) (iT n):=by rw [hW4];exact F4.set4 _
 have B4:cD W4 A (.string ⟨#[]⟩) (iT 0) (iT 0) (.string ⟨#[]⟩) (iT 0):=by rw [hW4];exact A4.other (by omega) _ _
 have HB4:Hid (Bl w W4):=by rw [hW4];exact HC4.out.setCell (by have:=HA.out;show _≤E;omega) _
 rw [← hW4];clear hW4 F4 A4 HC4 f0 f1 hEl;refine (jX t z4 _ P4.out ht).mono ?_;rintro e w5 ⟨⟨m,z5,rfl,hs⟩,b1⟩;have H5:Hid (kR t z4 m z5):=hs;have P5:Hid (ea t z5):=hs.2.1;have hr5:=hs.1;have A5:=B4.below b1;have F5:=E4.below b1;have HC5:Hid (Bl w w5):=HB4.out.trans (b1.mono HB4.out.size);clear hs b1 B4 E4 HB4;have HCH:Hid (∀(X:ae) (r:List UInt8),cN X=true→t.data.toList.drop k=fH X++r→s=X.1∧q=X.2.1∧d=X.2.2.1∧n=X.2.2.2.2∧m=(X.2.2.2.1.size:Int)∧∃j:Nat,z5=(j:Int)∧t.data.toList.drop j=X.2.2.2.1.data.toList++r):=fun X r hX hd=>wM H1.out H2.out H3.out H4.out H5.out hX hd
 have hs1:=H1.out.2.1;have f0:=F5.all;have a0:=A5.c0;have a1:=A5.c1;have a2:=A5.c2;have a3:=A5.c3;have a4:=A5.c4;have b0:w5.frozen? ⟨A,0,none⟩=false:=A5.fr 0;have b1:w5.frozen? ⟨A,1,none⟩=false:=A5.fr 1;have b2:w5.frozen? ⟨A,2,none⟩=false:=A5.fr 2;have b3:w5.frozen? ⟨A,3,none⟩=false:=A5.fr 3;have b4:w5.frozen? ⟨A,4,none⟩=false:=A5.fr 4;have ff:w5.frozen? ⟨E,3,none⟩=false:=F5.fr 3;have hEl:=F5.lt;have hAl:=A5.lt;have hne:E≠A:=by omega
 have hne':A≠E:=by omega
 have HAE:Hid (w.heap.size≤A∧w.heap.size≤E):=⟨HA.out,by have:=HA.out;omega⟩;clear A5 F5 HA;have HNB:Hid (Bl w (((((w5.setCell ⟨A,0,none⟩ (.string ⟨#[]⟩)).setCell ⟨A,1,none⟩ (iT 0)).setCell ⟨A,2,none⟩ (iT 0)).setCell ⟨A,3,none⟩ (.string ⟨#[]⟩)).setCell ⟨A,4,none⟩ (iT 0))):=(((((HC5.out.setCell HAE.out.1 _).setCell HAE.out.1 _).setCell HAE.out.1 _).setCell HAE.out.1 _).setCell HAE.out.1 _);rcases P5.out with rfl | ⟨j,rfl,hj⟩
 · clear H1 H2 H3 H4 H5 P1 P2 P3 P4;have HNX:Hid (∀(X:ae) (r:List UInt8),cN X=true→t.data.toList.drop k=fH X++r→False):=fun X r hX hd=>by
    obtain ⟨h1,h2,h3,h4,h5,j',h6,h7⟩:=HCH.out X r hX hd;omega
   go_wp2;exact bodyPost_ret (v:=.tuple #[.agg #[.string ⟨#[]⟩,iT 0,iT 0,.string ⟨#[]⟩,iT 0],iT (-1)]) (by simp [results,Tryz.results163,go_sem,a0,a1,a2,a3,a4]) rfl ⟨⟨⟨#[]⟩,⟨#[]⟩,0,0,0,-1,rfl,rX (by decide) (by decide) (by decide) (by decide) (by decide),Or.inl rfl,fun X r hX hd=>absurd (HNX.out X r hX hd) id⟩,HNB.out⟩
 have hj0:¬(j:Int)<0:=by omega
 clear H1 H2 H3 H4 H5 P1 P2 P3 P4 P5;by_cases hm:m<0
 · clear hj0;have hj0:¬(j:Int)<0:=by omega
   have HNX:Hid (∀(X:ae) (r:List UInt8),cN X=true→t.data.toList.drop k=fH X++r→False):=fun X r hX hd=>by
    obtain ⟨h1,h2,h3,h4,h5,j',h6,h7⟩:=HCH.out X r hX hd;omega
   go_wp2;exact bodyPost_ret (v:=.tuple #[.agg #[.string ⟨#[]⟩,iT 0,iT 0,.string ⟨#[]⟩,iT 0],iT (-1)]) (by simp [results,Tryz.results163,go_sem,a0,a1,a2,a3,a4]) rfl ⟨⟨⟨#[]⟩,⟨#[]⟩,0,0,0,-1,rfl,rX (by decide) (by decide) (by decide) (by decide) (by decide),Or.inl rfl,fun X r hX hd=>absurd (HNX.out X r hX hd) id⟩,HNB.out⟩
 obtain ⟨M,rfl⟩:=Int.eq_ofNat_of_zero_le (show 0≤m by omega);have hwr:IntKind.i64.wrap ((t.size:Int) - (j:Int))=(t.size:Int) - (j:Int):=by rw [IntWalk.i64_left];unfold wrap64;omega
 by_cases hgt:(t.size:Int) - (j:Int)<(M:Int)
 · have HNX:Hid (∀(X:ae) (r:List UInt8),cN X=true→t.data.toList.drop k=fH X++r→False):=fun X r hX hd=>by
    obtain ⟨h1,h2,h3,h4,h5,j',h6,h7⟩:=HCH.out X r hX hd;have hl:=congrArg List.length h7;rw [List.length_drop,aN,List.length_append,aN] at hl;omega
   go_wp2;exact bodyPost_ret (v:=.tuple #[.agg #[.string ⟨#[]⟩,iT 0,iT 0,.string ⟨#[]⟩,iT 0],iT (-1)]) (by simp [results,Tryz.results163,go_sem,a0,a1,a2,a3,a4]) rfl ⟨⟨⟨#[]⟩,⟨#[]⟩,0,0,0,-1,rfl,rX (by decide) (by decide) (by decide) (by decide) (by decide),Or.inl rfl,fun X r hX hd=>absurd (HNX.out X r hX hd) id⟩,HNB.out⟩
 have hwr2:IntKind.i64.wrap ((j:Int)+(M:Int))=(j:Int)+(M:Int):=by rw [IntWalk.i64_left];unfold wrap64;omega
 have g0:(j:Int)≤(j:Int)+(M:Int):=by omega
 have g1:(j:Int)+(M:Int)≤(t.size:Int):=by omega
 have g2:0≤(j:Int):=by omega
 have g3:0≤(j:Int)+(M:Int):=by omega
 obtain ⟨u,hu⟩:=aw (t.extract j (j+M));have HU:Hid (u.data.toList=(t.data.toList.drop j).take M∧u.size≤1048576):=by
  rw [hu];refine ⟨?_,by rw [ByteArray.size_extract];omega⟩;rw [dA];congr 1
  omega
 have HNB2:Hid (Bl w (((((((w5.setCell ⟨E,3,none⟩ (.string u)).setCell ⟨A,0,none⟩ (.string s)).setCell ⟨A,1,none⟩ (iT q)).setCell ⟨A,2,none⟩ (iT d)).setCell ⟨A,3,none⟩ (.string u)).setCell ⟨A,4,none⟩ (iT n)))):=((((((HC5.out.setCell HAE.out.2 _).setCell HAE.out.1 _).setCell HAE.out.1 _).setCell HAE.out.1 _).setCell HAE.out.1 _).setCell HAE.out.1 _);have HPOST:Hid (A9 t k (.returned (.tuple #[.agg #[.string s,iT q,iT d,.string u,iT n],iT ((j:Int)+(M:Int))]))):=by
  refine ⟨s,u,q,d,n,_,rfl,rX hs1 (pB hr2) (pB hr3) HU.out.2 (pB hr4),Or.inr ⟨j+M,by omega,by omega⟩,fun X r hX hd=>?_⟩;obtain ⟨h1,h2,h3,h4,h5,j',h6,h7⟩:=HCH.out X r hX hd;obtain rfl:j=j':=by omega
  have hM:M=X.2.2.2.1.data.toList.length:=by rw [aN];omega
  have hut:u=X.2.2.2.1:=by
   have:=HU.out.1;rw [h7,hM,List.take_left] at this;exact ByteArray.ext (Array.toList_inj.1 this)
  refine ⟨by rw [h1,h2,h3,h4,hut],j+M,by omega,?_⟩;rw [← List.drop_drop,h7,hM,List.drop_left]
 have HUE:Hid (u=t.extract j (j+M)):=hu;clear HCH HNB hu;go_wp2;rw [← HUE.out];exact bodyPost_ret (v:=.tuple #[.agg #[.string s,iT q,iT d,.string u,iT n],iT ((j:Int)+(M:Int))]) (by simp [results,Tryz.results163,go_sem,a0,a1,a2,a3,a4]) rfl ⟨HPOST.out,HNB2.out⟩
end Go.Proofs.YtehiefdphnljaaaGreatDoor
