/- Walks. -/
import Derived.Test.YtpobkmjicbobdaaGreatBn04
namespace Go.Proofs.YtpobkmjicbobdaaGreat
set_option maxRecDepth 100000
set_option maxHeartbeats 40000000
open Go.RowKit
variable {B:List ag} {i k:Nat} {r:ag}
theorem qC (b off n c:Nat) (L:List ac) (w:World) (h:aj w (some ⟨b,off,none⟩) n c L) (hn:1≤n) :
 Calls Tryz.prog 126 #[sO b off n c] w fun r w'=>r=.returned (.agg #[.string (bj L),.string (aT L)])∧Bl w w':=by
 have hln:=h.length;have hr:=h.room;have hbg:=h.big;unfold maxLen at hbg;obtain ⟨el,hel,hlow⟩:=ll (L:=L) (by omega);obtain ⟨eh,heh,hhigh⟩:=ij (L:=L) (by omega);rw [hln] at heh;rw [hlow,hhigh];have hbb:=(h.lies _ rfl (by omega)).1;simp only at hbb;obtain ⟨s,q,d,t,nn,hg,_,g0,_⟩:=h.ent (Below.refl _ w) hbb 0 (by omega);rw [hel] at hg;cases hg;obtain ⟨s',q',d',t',nn',hg',_,g1,_⟩:=h.ent (Below.refl _ w) hbb (n - 1) (by omega);rw [heh] at hg';cases hg';rw [Nat.zero_mul,Nat.add_zero] at g0;have hnI:(0:Int)<(n:Int):=by omega
 have hnN:0<n:=hn;have hj3:(1:Int)≤(n:Int):=by omega
 have hj1:(0:Int)≤(n:Int) - 1:=by omega
 have hj2:(n:Int) - 1<(n:Int):=by omega
 have hjt:((n:Int) - 1).toNat=n - 1:=by omega
 have wj:IntKind.i64.wrap ((n:Int) - 1)=(n:Int) - 1:=by rw [IntWalk.i64_left];unfold wrap64;omega
 clear h hlow hhigh hel heh hln;generalize hel:(s,q,d,t,nn)=el;generalize heh:(s',q',d',t',nn')=eh;have e1:s=el.1:=by rw [← hel]
 have e2:s'=eh.1:=by rw [← heh]
 rw [e1] at g0;rw [e2] at g1;clear e1 e2 hel heh;have k0:Bl w (w.alloc (.cells #[.string ⟨#[]⟩,.string ⟨#[]⟩] 135)).drew:=bZ.drew;have HMK:Hid (∀w',Bl w w'→w.heap.size<w'.heap.size→(w'.cell? ⟨b,off,none⟩=some (.string el.1)∧w'.cell? ⟨b,off+(n - 1)*5,none⟩=some (.string eh.1)∧b<w'.heap.size∧w.heap.size<w'.heap.size)):=fun w' kk z=>⟨cell_later kk g0,cell_later kk g1,Nat.lt_of_lt_of_le hbb kk.size,z⟩
 go_enter Tryz.func126,Tryz.ntmps126
 go_wp2_with fail
 refine wp_region_held_drew (S:=(fun w'=>w'.cell? ⟨b,off,none⟩=some (.string el.1)∧w'.cell? ⟨b,off+(n - 1)*5,none⟩=some (.string eh.1)∧b<w'.heap.size∧w.heap.size<w'.heap.size)) (by kernel_rfl) (HMK.out _ k0 (by simp [World.drew])) (fun aa=>?_);refine aO 0 12 aa ?_;refine aI 12 fun K hK=>?_
 go_simp;go_wp2_with fail
 have k1:Bl w (w.alloc (.cells #[.string el.1,.string eh.1] 135)).drew:=bZ.drew;refine hK.out _ _ (HMK.out _ k1 (by simp [World.drew])) fun aa=>?_
 (try go_frame);refine dN ?_;go_wp2;exact bodyPost_ret (v:=.agg #[.string el.1,.string eh.1]) (by simp [results,Tryz.results126,go_sem]) rfl ⟨rfl,k1⟩
theorem xu (a b c d:ByteArray) (w:World) :
 Calls Tryz.prog 186 #[.agg #[.string a,.string b],.agg #[.string c,.string d]] w fun e w'=>e=.returned (.bool (Op.bytesLess b.toList c.toList))∧Bl w w':=by
 have k2:∀o1 o2,Bl w ((w.alloc o1).alloc o2):=fun o1 o2=>((Below.refl _ _).alloc (Nat.le_refl _) o1).alloc (by simp) o2
 go_enter Tryz.func186,Tryz.ntmps186
 go_wp2;go_ret;exact ⟨rfl,k2 _ _⟩
def jG (B:List ag) (i:Nat):Bool:=match B[i]? with | none=>true | some r=>gT B r i
def bD (B:List ag):Bool:=(List.range B.length).all (jG B)
theorem jD {p:ag} (h:B[i]?=some r) (hi:1≤i) (hp:B[i - 1]?=some p):jG B i=j9 p.1 r.1:=by
 obtain ⟨j,rfl⟩:∃j,i=j+1:=⟨i - 1,by omega⟩;simp only [Nat.add_sub_cancel] at hp;unfold jG gT;simp only [h,hp]
theorem zU (hi:i<B.length) (h:jG B i=false):bD B=false:=by
 rw [Bool.eq_false_iff];intro h1;unfold bD at h1;rw [(List.all_eq_true.1 h1) i (List.mem_range.2 hi)] at h;cases h
theorem xX (h:∀j,1≤j→j<k→jG B j=true) (hk:B.length≤k):bD B=true:=by
 unfold bD;rw [List.all_eq_true];intro j hj;have hj:=List.mem_range.1 hj;by_cases e:j=0
 · subst e;unfold jG gT;cases B[0]? <;> rfl
 · exact h j (by omega) (by omega)
theorem ve (h:∀j,1≤j→j<k→jG B j=true) (hk:jG B k=true):∀j,1≤j→j<k+1→jG B j=true:=by
 intro j h1 h2;by_cases e:j=k
 · subst e;exact hk
 · exact h j h1 (by omega)
theorem qG (lo:Nat) (a:Option Addr) (n c:Nat) (B:List ag) (w:World) (h:az lo w a n c B) (hne:∀r ∈ B,1≤r.1.length) :
 Calls Tryz.prog 234 #[.slice a n c] w fun e w'=>e=.returned (.bool (bD B))∧Bl w w':=by
 have HLN:Hid (B.length=n):=h.length;have HNE:=b6 hne;have hr:=h.room;have hbg:=h.big;unfold maxLen at hbg;have H:=b6 h;clear h hne;go_enter Tryz.func234,Tryz.ntmps234
 go_wp2;go_loopw [3] (fun iv wr=>∃i:Nat,1≤i∧i≤n+1∧iv=iT i∧Bl w wr∧(∀j,1≤j→j<i→jG B j=true)) (fun iv _=>n - (intOf iv).toNat)
 case atStart=>exact ⟨1,Nat.le_refl _,by omega,rfl,Below.refl _ _,fun j h1 h2=>absurd h2 (by omega)⟩
 case round =>
  obtain ⟨i,hi1,hi,rfl,hb,hw⟩:=hrel;have HW:Hid (∀j,1≤j→j<i→jG B j=true):=hw;have HB:Hid (Bl w wr):=hb;clear hw;by_cases hin:i<n
  · have hinI:(i:Int)<(n:Int):=by omega
    have HKL:Hid (i<B.length):=by show i<B.length;rw [HLN.out];exact hin
    obtain ⟨b,off,rfl,hbb⟩:=H.out.form (by omega);obtain ⟨L,m,s,ns,cs,hg,_,g0,_,hE⟩:=H.out.run hb i hin;obtain ⟨Lp,mp,sp,np,cp,hp,_,p0,_,hEp⟩:=H.out.run hb (i - 1) (by omega);have l1:=HNE.out _ (List.mem_of_getElem? hg);have l2:=HNE.out _ (List.mem_of_getElem? hp);have hns:=hE.1.length;have hnp:=hEp.1.length;simp only at l1 l2;obtain ⟨bs,os,rfl,_⟩:=hE.1.form (by omega);obtain ⟨bp,op,rfl,_⟩:=hEp.1.form (by omega);have HAT:Hid (jG B i=Op.bytesLess (aT Lp).toList (bj L).toList):=jD hg hi1 hp;have zb:=Nat.lt_of_lt_of_le hbb hb.size;have CP:Hid (∀w',Bl wr w'→Calls Tryz.prog 126 #[sO bp op np cp] w' fun r w''=>r=.returned (.agg #[.string (bj Lp),.string (aT Lp)])∧Bl w' w''):=fun w' k=>qC bp op np cp Lp w' (hEp.1.keep k) (by omega)
    have CS:Hid (∀w',Bl wr w'→Calls Tryz.prog 126 #[sO bs os ns cs] w' fun r w''=>r=.returned (.agg #[.string (bj L),.string (aT L)])∧Bl w' w''):=fun w' k=>qC bs os ns cs L w' (hE.1.keep k) (by omega)
    have CE:Hid (∀w',Bl wr w'→Calls Tryz.prog 186 #[.agg #[.string (bj Lp),.string (aT Lp)],.agg #[.string (bj L),.string (aT L)]] w' fun e w''=>e=.returned (.bool (Op.bytesLess (aT Lp).toList (bj L).toList))∧Bl w' w''):=fun w' _=>xu _ _ _ _ w'
    have HMK:Hid (∀w',Bl wr w'→(w'.cell? ⟨b,off+i*2,none⟩=some (sO bs os ns cs)∧w'.cell? ⟨b,off+(i - 1)*2,none⟩=some (sO bp op np cp)∧b<w'.heap.size)):=fun w' kk=>⟨cell_later kk g0,cell_later kk p0,Nat.lt_of_lt_of_le zb kk.size⟩
    have k0:Bl wr wr.drew:=(Below.refl _ wr).drew;have hj1:(0:Int)≤(i:Int) - 1:=by omega
    have hj2:(i:Int) - 1<(n:Int):=by omega
    have hj3:(1:Int)≤(i:Int):=by omega
    have hjt:((i:Int) - 1).toNat=i - 1:=by omega
    have wj:IntKind.i64.wrap ((i:Int) - 1)=(i:Int) - 1:=by rw [IntWalk.i64_left];unfold wrap64;omega
    clear hg hp hE hEp l1 l2 hns hnp g0 p0 zb hb hi1;generalize Op.bytesLess (aT Lp).toList (bj L).toList=O at HAT CE;generalize bj Lp=x1,aT Lp=x2,bj L=x3,aT L=x4 at CP CS CE;cases O with
    | true =>
     go_wp2_with fail
     refine eC HMK k0 fun aa=>?_
     refine aO 0 6 aa ?_;refine aO 7 5 aa ?_;refine aI 6 fun K hK=>?_
     go_simp;refine (CP.out _ k0).mono ?_;rintro e wk1 ⟨rfl,bk1⟩;have k1:Bl wr wk1:=k0.trans (bk1.mono k0.size);go_wp2_with fail
     refine hK.out _ _ (HMK.out _ k1) fun aa=>?_
     (try go_frame);refine aI 12 fun K hK=>?_
     go_simp;refine (CS.out _ k1).mono ?_;rintro e wk2 ⟨rfl,bk2⟩;have k2:Bl wr wk2:=k1.trans (bk2.mono k1.size);go_wp2_with fail
     refine hK.out _ _ (HMK.out _ k2) fun aa=>?_
     (try go_frame);refine aI 13 fun K hK=>?_
     go_simp;refine (CE.out _ k2).mono ?_;rintro e wk3 ⟨rfl,bk3⟩;have k3:Bl wr wk3:=k2.trans (bk3.mono k2.size);go_wp2_with fail
     refine hK.out _ _ (HMK.out _ k3) fun aa=>?_
     (try go_frame);refine aO 14 1 aa ?_;refine dN ?_;have KY:Hid (Bl w wk3):=HB.out.trans (k3.mono HB.out.size);clear k0 k1 k2 k3 bk1 bk2 bk3 HMK CP CS CE aa;go_wp2;go_roundw
     case rel=>exact ⟨i+1,by omega,by omega,by go_num,KY.out,ve HW.out HAT.out⟩
     case measure=>simp [intOf];omega
    | false =>
     go_wp2_with fail
     refine eC HMK k0 fun aa=>?_
     refine aO 0 6 aa ?_;refine aO 7 5 aa ?_;refine aI 6 fun K hK=>?_
     go_simp;refine (CP.out _ k0).mono ?_;rintro e wk1 ⟨rfl,bk1⟩;have k1:Bl wr wk1:=k0.trans (bk1.mono k0.size);go_wp2_with fail
     refine hK.out _ _ (HMK.out _ k1) fun aa=>?_
     (try go_frame);refine aI 12 fun K hK=>?_
     go_simp;refine (CS.out _ k1).mono ?_;rintro e wk2 ⟨rfl,bk2⟩;have k2:Bl wr wk2:=k1.trans (bk2.mono k1.size);go_wp2_with fail
     refine hK.out _ _ (HMK.out _ k2) fun aa=>?_
     (try go_frame);refine aI 13 fun K hK=>?_
     go_simp;refine (CE.out _ k2).mono ?_;rintro e wk3 ⟨rfl,bk3⟩;have k3:Bl wr wk3:=k2.trans (bk3.mono k2.size);go_wp2_with fail
     refine hK.out _ _ (HMK.out _ k3) fun aa=>?_
     (try go_frame);refine aO 14 1 aa ?_;refine dN ?_;have KY:Hid (Bl w wk3):=HB.out.trans (k3.mono HB.out.size);clear k0 k1 k2 k3 bk1 bk2 bk3 HMK CP CS CE aa;go_wp2;go_ret;exact ⟨af (zU HKL.out HAT.out).symm,KY.out⟩
  · have hinI:¬(i:Int)<(n:Int):=by omega
    have HC:Hid (bD B=true):=xX HW.out (by rw [HLN.out];omega);go_wp2;go_ret;exact ⟨af HC.out.symm,HB.out⟩
def eN (B:List ag):Bool:=B.any (fun r=>!dv r.1 r.2)
theorem AF (h:B[i]?=some r) (hr:dv r.1 r.2=false):eN B=true:=by
 unfold eN;rw [List.any_eq_true];exact ⟨r,List.mem_of_getElem? h,by rw [hr];rfl⟩
theorem Bj (h:∀j r,j<k→B[j]?=some r→dv r.1 r.2=true) (hk:B.length≤k):eN B=false:=by
 unfold eN;rw [List.any_eq_false];intro r hr;obtain ⟨j,hj,e⟩:=List.getElem_of_mem hr;rw [h j r (by omega) (by rw [List.getElem?_eq_getElem hj,e])];simp
theorem lD (h:eN B=false):∀r ∈ B,dv r.1 r.2=true:=by
 intro r hr;unfold eN at h;rw [List.any_eq_false] at h;simpa using h r hr
theorem zi (lo:Nat) (a:Option Addr) (n c:Nat) (B:List ag) (w:World) (h:az lo w a n c B) :
 Calls Tryz.prog 251 #[.slice a n c,.func (.func 233) #[] #[]] w fun e w'=>(∃z:Int,e=.returned (iT z)∧decide (0≤z)=eN B)∧Bl w w':=by
 have HLN:Hid (B.length=n):=h.length;have hr:=h.room;have hbg:=h.big;unfold maxLen at hbg;have H:=b6 h;clear h;go_enter Tryz.func251,Tryz.ntmps251
 go_wp2;go_loopw [8] (fun iv wr=>∃i:Nat,i≤n∧iv=iT i∧Bl w wr∧(∀j r,j<i→B[j]?=some r→dv r.1 r.2=true)) (fun iv _=>n - (intOf iv).toNat)
 case atStart=>exact ⟨0,Nat.zero_le _,rfl,Below.refl _ _,fun j r hj=>absurd hj (Nat.not_lt_zero _)⟩
 case round =>
  obtain ⟨i,hi,rfl,hb,hw⟩:=hrel;have HW:Hid (∀j r,j<i→B[j]?=some r→dv r.1 r.2=true):=hw;have HB:Hid (Bl w wr):=hb;clear hw;by_cases hin:i<n
  · have hinI:(i:Int)<(n:Int):=by omega
    obtain ⟨b,off,rfl,hbb⟩:=H.out.form (by omega);obtain ⟨L,m,s,ns,cs,hg,_,g0,g1,hE⟩:=H.out.run hb i hin;have HG:Hid (B[i]?=some (L,m)):=hg;have HE:Hid (aj wr s ns cs L):=hE.1;have zb:=Nat.lt_of_lt_of_le hbb hb.size;clear hg hb hE;obtain ⟨O,hO⟩:=aS (dv L m);go_wp2_with fail
    refine (xm m s ns cs L wr HE.out).mono ?_;rw [← hO];rintro e w1 ⟨rfl,hb1⟩;have K1:Hid (Bl w w1):=HB.out.trans (hb1.mono HB.out.size);clear hb1;cases hOv:O with
    | false =>
     have HN:Hid (eN B=true):=AF HG.out (by show dv L m=false;rw [← hO,hOv]);go_wp2;go_ret;exact ⟨⟨(i:Int),rfl,by rw [HN.out];simp⟩,K1.out⟩
    | true =>
     have HN:Hid (∀j r,j<i+1→B[j]?=some r→dv r.1 r.2=true):=by
      intro j r hj hr;by_cases e:j=i
      · subst e;rw [HG.out] at hr;cases hr;show dv L m=true;rw [← hO,hOv]
      · exact HW.out j r (by omega) hr
     go_wp2;go_roundw
     case rel=>exact ⟨i+1,by omega,by go_num,K1.out,HN.out⟩
     case measure=>simp [intOf];omega
  · have hinI:¬(i:Int)<(n:Int):=by omega
    have HC:Hid (eN B=false):=Bj HW.out (by rw [HLN.out];omega);go_wp2;go_ret;exact ⟨⟨-1,rfl,by rw [HC.out];rfl⟩,HB.out⟩
theorem jf (lo:Nat) (a:Option Addr) (n c:Nat) (B:List ag) (w:World) (h:az lo w a n c B) :
 Calls Tryz.prog 232 #[.slice a n c,.func (.func 233) #[] #[]] w fun e w'=>e=.returned (.bool (eN B))∧Bl w w':=by
 go_enter Tryz.func232,Tryz.ntmps232
 go_wp2_with fail
 refine (zi lo a n c B w h).mono ?_;rintro e w1 ⟨⟨z,rfl,hz⟩,hb1⟩;have HZ:Hid (decide (0≤z)=eN B):=hz;clear hz;go_wp2;go_ret;exact ⟨af HZ.out,hb1⟩
theorem qE (w:World):Calls Tryz.prog 231 #[iT 0] w fun e w'=>e=.returned (iT 4)∧w'=w:=by
 go_enter Tryz.func231,Tryz.ntmps231
 go_wp2;go_ret;exact ⟨rfl,rfl⟩
theorem jB (k:Nat) (w:World) (h:1≤k):Calls Tryz.prog 231 #[iT (k:Int)] w fun e w'=>e=.returned (iT 8)∧w'=w:=by
 have h1:¬(k:Int)=0:=by omega
 have h2:¬k=0:=by omega
 go_enter Tryz.func231,Tryz.ntmps231
 go_wp2;go_ret;exact ⟨rfl,rfl⟩
def sZ (B:List ag):Bool:=decide ((B.length:Int)≤4) && !eN B
def oy (B:List ag):Bool:=decide ((B.length:Int)≤8) && (!eN B && bD B)
def bu (A B C:List ag):Bool:=sZ A && (oy B && oy C)
theorem zt (w:World) (a0 a1 a2:Option Addr) (n0 c0 n1 c1 n2 c2:Nat):(Instr.index 80 (.agg #[.slice a0 n0 c0,.slice a1 n1 c1,.slice a2 n2 c2]) (iT 0)).run Tryz.prog w=.ok (.slice a0 n0 c0) w:=by
 simp [Instr.index,run_underlying Tryz.underlying80,asIntOf,go_sem,Tryz.isAgg61,Tryz.sizeOf61,part]
theorem zq (w:World) (a0 a1 a2:Option Addr) (n0 c0 n1 c1 n2 c2:Nat):(Instr.index 80 (.agg #[.slice a0 n0 c0,.slice a1 n1 c1,.slice a2 n2 c2]) (iT 1)).run Tryz.prog w=.ok (.slice a1 n1 c1) w:=by
 simp [Instr.index,run_underlying Tryz.underlying80,asIntOf,go_sem,Tryz.isAgg61,Tryz.sizeOf61,part]
theorem zm (w:World) (a0 a1 a2:Option Addr) (n0 c0 n1 c1 n2 c2:Nat):(Instr.index 80 (.agg #[.slice a0 n0 c0,.slice a1 n1 c1,.slice a2 n2 c2]) (iT 2)).run Tryz.prog w=.ok (.slice a2 n2 c2) w:=by
 simp [Instr.index,run_underlying Tryz.underlying80,asIntOf,go_sem,Tryz.isAgg61,Tryz.sizeOf61,part]
theorem uQ (lo:Nat) (q:Int) (am ak:Option Addr) (nm cm nk ck:Nat) (a0 a1 a2:Option Addr) (n0 c0 n1 c1 n2 c2:Nat) (A B C:List ag) (w:World) (h0:az lo w a0 n0 c0 A) (h1:az lo w a1 n1 c1 B) (h2:az lo w a2 n2 c2 C) :
 Calls Tryz.prog 197 #[.agg #[iT q,.slice am nm cm,.slice a0 n0 c0,.slice a1 n1 c1,.slice a2 n2 c2,.slice ak nk ck]] w fun e w'=>e=.returned (.bool (bu A B C))∧Bl w w':=by
 have HR0:=b6 h0;have HR1:=b6 h1;have HR2:=b6 h2;have HN0:Hid (A.length=n0):=h0.length;have HN1:Hid (B.length=n1):=h1.length;have HN2:Hid (C.length=n2):=h2.length;clear h0 h1 h2;go_enter Tryz.func197,Tryz.ntmps197
 go_upto_region 1 with fail
 obtain ⟨W,hW⟩:=aS (w.alloc (.cells #[iT q,.slice am nm cm,.slice a0 n0 c0,.slice a1 n1 c1,.slice a2 n2 c2,.slice ak nk ck] 82));have kW:Bl w W:=by rw [hW];exact bZ
 have x2:W.cell? ⟨w.heap.size,2,none⟩=some (.slice a0 n0 c0):=by rw [hW];simp
 have x3:W.cell? ⟨w.heap.size,3,none⟩=some (.slice a1 n1 c1):=by rw [hW];simp
 have x4:W.cell? ⟨w.heap.size,4,none⟩=some (.slice a2 n2 c2):=by rw [hW];simp
 have zX:=World.block_lt_of_cell? _ _ x2;have HKW:Hid (∀wr,Bl W wr→Bl w wr):=fun wr k=>kW.trans (k.mono kW.size)
 rw [← hW];clear hW kW;go_wp2;go_loopw [7] (fun iv wr=>∃i:Nat,i≤3∧iv=iT i∧Bl W wr∧(1≤i→sZ A=true)∧(2≤i→oy B=true)∧(3≤i→oy C=true)) (fun iv _=>3 - (intOf iv).toNat)
 case atStart=>exact ⟨0,by omega,rfl,Below.refl _ _,fun h=>absurd h (by omega),fun h=>absurd h (by omega),fun h=>absurd h (by omega)⟩
 case round =>
  obtain ⟨i,hi,rfl,hb,hw0,hw1,hw2⟩:=hrel;have HB:Hid (Bl W wr):=hb;have HW0:Hid (1≤i→sZ A=true):=hw0;have HW1:Hid (2≤i→oy B=true):=hw1;have HW2:Hid (3≤i→oy C=true):=hw2;clear hb hw0 hw1 hw2;have hcase:i=0∨i=1∨i=2∨i=3:=by omega
  rcases hcase with hI | hI | hI | hI
  · skip
    subst hI;by_cases hl:(4:Int)<(n0:Int)
    · have HN:Hid (bu A B C=false):=by
       have h1:decide ((A.length:Int)≤4)=false:=decide_eq_false (by have:=HN0.out;omega);show bu A B C=false
       unfold bu sZ oy;rw [h1];simp
      go_wp2_with fail
      rw [zt];go_wp2_with fail
      refine (qE wr).mono ?_;rintro e w' ⟨rfl,rfl⟩;go_wp2;go_ret;exact ⟨af HN.out.symm,HKW.out _ HB.out⟩
    have HL:Hid (decide ((A.length:Int)≤4)=true):=decide_eq_true (by have:=HN0.out;omega);obtain ⟨O,hO⟩:=aS (eN A);go_wp2_with fail
    rw [zt];go_wp2_with fail
    refine (qE wr).mono ?_;rintro e w' ⟨rfl,rfl⟩;go_wp2_with fail
    refine (jf lo a0 n0 c0 A _ (HR0.out.keep (HKW.out _ HB.out))).mono ?_;rw [← hO];rintro e w1 ⟨rfl,hb1⟩;have K1:Hid (Bl W w1):=HB.out.trans (hb1.mono HB.out.size);clear hb1;cases hOv:O with
    | true =>
     have HN:Hid (bu A B C=false):=by
      have h1:eN A=true:=by rw [← hO,hOv]
      show bu A B C=false
      unfold bu sZ oy;rw [h1];simp
     go_wp2;go_ret;exact ⟨af HN.out.symm,HKW.out _ K1.out⟩
    | false =>
     have HN:Hid (sZ A=true):=by
      have h1:eN A=false:=by rw [← hO,hOv]
      show sZ A=true
      unfold sZ;rw [HL.out,h1];rfl
     go_wp2;go_roundw
     case rel=>exact ⟨1,by omega,rfl,K1.out,fun _=>HN.out,fun h=>absurd h (by omega),fun h=>absurd h (by omega)⟩
     case measure=>simp [intOf]
  · skip
    subst hI;by_cases hl:(8:Int)<(n1:Int)
    · have HN:Hid (bu A B C=false):=by
       have h1:decide ((B.length:Int)≤8)=false:=decide_eq_false (by have:=HN1.out;omega);show bu A B C=false
       unfold bu sZ oy;rw [h1];simp
      go_wp2_with fail
      rw [zq];go_wp2_with fail
      refine (jB 1 wr (by omega)).mono ?_;rintro e w' ⟨rfl,rfl⟩;go_wp2;go_ret;exact ⟨af HN.out.symm,HKW.out _ HB.out⟩
    have HL:Hid (decide ((B.length:Int)≤8)=true):=decide_eq_true (by have:=HN1.out;omega);obtain ⟨O,hO⟩:=aS (eN B);go_wp2_with fail
    rw [zq];go_wp2_with fail
    refine (jB 1 wr (by omega)).mono ?_;rintro e w' ⟨rfl,rfl⟩;go_wp2_with fail
    refine (jf lo a1 n1 c1 B _ (HR1.out.keep (HKW.out _ HB.out))).mono ?_;rw [← hO];rintro e w1 ⟨rfl,hb1⟩;have K1:Hid (Bl W w1):=HB.out.trans (hb1.mono HB.out.size);clear hb1;cases hOv:O with
    | true =>
     have HN:Hid (bu A B C=false):=by
      have h1:eN B=true:=by rw [← hO,hOv]
      show bu A B C=false
      unfold bu sZ oy;rw [h1];simp
     go_wp2;go_ret;exact ⟨af HN.out.symm,HKW.out _ K1.out⟩
    | false =>
     have HBF:Hid (eN B=false):=by show _=_;rw [← hO,hOv]
     obtain ⟨G,hG⟩:=aS (bD B);go_wp2_with fail
     refine (qG lo a1 n1 c1 B _ (HR1.out.keep (HKW.out _ K1.out)) (fun r hr=>(bK (lD HBF.out r hr)).1)).mono ?_;rw [← hG];rintro e w2 ⟨rfl,hb2⟩;have K2:Hid (Bl W w2):=K1.out.trans (hb2.mono K1.out.size);clear hb2;cases hGv:G with
     | false =>
      have HN:Hid (bu A B C=false):=by
       have h1:bD B=false:=by rw [← hG,hGv]
       show bu A B C=false
       unfold bu sZ oy;rw [h1];simp
      go_wp2;go_ret;exact ⟨af HN.out.symm,HKW.out _ K2.out⟩
     | true =>
      have HN:Hid (oy B=true):=by
       have h1:bD B=true:=by rw [← hG,hGv]
       show oy B=true
       unfold oy;rw [HL.out,HBF.out,h1];rfl
      go_wp2;go_roundw
      case rel=>exact ⟨2,by omega,rfl,K2.out,fun _=>HW0.out (by omega),fun _=>HN.out,fun h=>absurd h (by omega)⟩
      case measure=>simp [intOf]
  · skip
    subst hI;by_cases hl:(8:Int)<(n2:Int)
    · have HN:Hid (bu A B C=false):=by
       have h1:decide ((C.length:Int)≤8)=false:=decide_eq_false (by have:=HN2.out;omega);show bu A B C=false
       unfold bu sZ oy;rw [h1];simp
      go_wp2_with fail
      rw [zm];go_wp2_with fail
      refine (jB 2 wr (by omega)).mono ?_;rintro e w' ⟨rfl,rfl⟩;go_wp2;go_ret;exact ⟨af HN.out.symm,HKW.out _ HB.out⟩
    have HL:Hid (decide ((C.length:Int)≤8)=true):=decide_eq_true (by have:=HN2.out;omega);obtain ⟨O,hO⟩:=aS (eN C);go_wp2_with fail
    rw [zm];go_wp2_with fail
    refine (jB 2 wr (by omega)).mono ?_;rintro e w' ⟨rfl,rfl⟩;go_wp2_with fail
    refine (jf lo a2 n2 c2 C _ (HR2.out.keep (HKW.out _ HB.out))).mono ?_;rw [← hO];rintro e w1 ⟨rfl,hb1⟩;have K1:Hid (Bl W w1):=HB.out.trans (hb1.mono HB.out.size);clear hb1;cases hOv:O with
    | true =>
     have HN:Hid (bu A B C=false):=by
      have h1:eN C=true:=by rw [← hO,hOv]
      show bu A B C=false
      unfold bu sZ oy;rw [h1];simp
     go_wp2;go_ret;exact ⟨af HN.out.symm,HKW.out _ K1.out⟩
    | false =>
     have HBF:Hid (eN C=false):=by show _=_;rw [← hO,hOv]
     obtain ⟨G,hG⟩:=aS (bD C);go_wp2_with fail
     refine (qG lo a2 n2 c2 C _ (HR2.out.keep (HKW.out _ K1.out)) (fun r hr=>(bK (lD HBF.out r hr)).1)).mono ?_;rw [← hG];rintro e w2 ⟨rfl,hb2⟩;have K2:Hid (Bl W w2):=K1.out.trans (hb2.mono K1.out.size);clear hb2;cases hGv:G with
     | false =>
      have HN:Hid (bu A B C=false):=by
       have h1:bD C=false:=by rw [← hG,hGv]
       show bu A B C=false
       unfold bu sZ oy;rw [h1];simp
      go_wp2;go_ret;exact ⟨af HN.out.symm,HKW.out _ K2.out⟩
     | true =>
      have HN:Hid (oy C=true):=by
       have h1:bD C=true:=by rw [← hG,hGv]
       show oy C=true
       unfold oy;rw [HL.out,HBF.out,h1];rfl
      go_wp2;go_roundw
      case rel=>exact ⟨3,by omega,rfl,K2.out,fun _=>HW0.out (by omega),fun _=>HW1.out (by omega),fun _=>HN.out⟩
      case measure=>simp [intOf]
  · subst hI;have HC:Hid (bu A B C=true):=by
     show bu A B C=true
     unfold bu;rw [HW0.out (by omega),HW1.out (by omega),HW2.out (by omega)];rfl
    go_wp2;go_ret;exact ⟨af HC.out.symm,HKW.out _ HB.out⟩
end Go.Proofs.YtpobkmjicbobdaaGreat
