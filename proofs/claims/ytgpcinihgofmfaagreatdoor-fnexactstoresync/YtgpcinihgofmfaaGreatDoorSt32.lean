/-
  Pieces of the program's TreeOk: ranges, by walks of their Go text.
-/
import Derived.Test.YtgpcinihgofmfaaGreatDoorSt30
import Derived.Test.YtgpcinihgofmfaaGreatDoorSt31
import Derived.Test.YtgpcinihgofmfaaGreatDoorSt00
namespace Go.Proofs.YtgpcinihgofmfaaGreatDoor
open Go.RowKit
set_option maxRecDepth 100000
set_option maxHeartbeats 16000000
theorem pd (b off n c:Nat) (L:List ae) (w:World) (h:au w (some ⟨b,off,none⟩) n c L) (hn:1≤n) :
 Calls Tryz.prog 165 #[sO b off n c] w fun r w'=>r=.returned (.agg #[.string (il L),.string (fd L)])∧Bl w w':=by
 have hln:=h.length;have hr:=h.room;have hbg:=h.big;unfold maxLen at hbg;obtain ⟨el,hel,hlow⟩:=pU (L:=L) (by omega);obtain ⟨eh,heh,hhigh⟩:=kL (L:=L) (by omega);rw [hln] at heh;rw [hlow,hhigh];have hbb:=(h.lies _ rfl (by omega)).1;simp only at hbb;obtain ⟨s,q,d,t,nn,hg,_,g0,_⟩:=h.ent (Below.refl _ w) hbb 0 (by omega);rw [hel] at hg;cases hg;obtain ⟨s',q',d',t',nn',hg',_,g1,_⟩:=h.ent (Below.refl _ w) hbb (n - 1) (by omega);rw [heh] at hg';cases hg';rw [Nat.zero_mul,Nat.add_zero] at g0;have hnI:(0:Int)<(n:Int):=by omega
 have hnN:0<n:=hn;have hj3:(1:Int)≤(n:Int):=by omega
 have hj1:(0:Int)≤(n:Int) - 1:=by omega
 have hj2:(n:Int) - 1<(n:Int):=by omega
 have hjt:((n:Int) - 1).toNat=n - 1:=by omega
 have wj:IntKind.i64.wrap ((n:Int) - 1)=(n:Int) - 1:=by rw [IntWalk.i64_left];unfold wrap64;omega
 clear h hlow hhigh hel heh hln;generalize hel:(s,q,d,t,nn)=el;generalize heh:(s',q',d',t',nn')=eh;have e1:s=el.1:=by rw [← hel]
 have e2:s'=eh.1:=by rw [← heh]
 rw [e1] at g0;rw [e2] at g1;clear e1 e2 hel heh;have k0:Bl w (w.alloc (.cells #[.string ⟨#[]⟩,.string ⟨#[]⟩] 206)).drew:=bZ.drew;have HMK:Hid (∀w',Bl w w'→w.heap.size<w'.heap.size→(w'.cell? ⟨b,off,none⟩=some (.string el.1)∧w'.cell? ⟨b,off+(n - 1)*5,none⟩=some (.string eh.1)∧b<w'.heap.size∧w.heap.size<w'.heap.size)):=fun w' kk z=>⟨cell_later kk g0,cell_later kk g1,Nat.lt_of_lt_of_le hbb kk.size,z⟩
 go_enter Tryz.func165,Tryz.ntmps165
 go_wp2_with fail
 refine wp_region_held_drew (S:=(fun w'=>w'.cell? ⟨b,off,none⟩=some (.string el.1)∧w'.cell? ⟨b,off+(n - 1)*5,none⟩=some (.string eh.1)∧b<w'.heap.size∧w.heap.size<w'.heap.size)) (by kernel_rfl) (HMK.out _ k0 (by simp [World.drew])) (fun aa=>?_);refine aM 0 12 aa ?_;refine aR 12 fun K hK=>?_
 go_simp;go_wp2_with fail
 have k1:Bl w (w.alloc (.cells #[.string el.1,.string eh.1] 206)).drew:=bZ.drew;refine hK.out _ _ (HMK.out _ k1 (by simp [World.drew])) fun aa=>?_
 (try go_frame);refine dN ?_;go_wp2;exact bodyPost_ret (v:=.agg #[.string el.1,.string eh.1]) (by simp [results,Tryz.results165,go_sem]) rfl ⟨rfl,k1⟩
theorem vK (a b c d:ByteArray) (w:World) :
 Calls Tryz.prog 166 #[.agg #[.string a,.string b],.agg #[.string c,.string d]] w fun e w'=>e=.returned (.bool (Op.bytesLess b.toList c.toList))∧Bl w w':=by
 have k2:∀o1 o2,Bl w ((w.alloc o1).alloc o2):=fun o1 o2=>((Below.refl _ _).alloc (Nat.le_refl _) o1).alloc (by simp) o2
 go_enter Tryz.func166,Tryz.ntmps166
 go_wp2;go_ret;exact ⟨rfl,k2 _ _⟩
def jX (B:List aj) (i:Nat):Bool:=match B[i]? with | none=>true | some r=>iB B r i
def bU (B:List aj):Bool:=(List.range B.length).all (jX B)
theorem wR {B:List aj} {i:Nat} {r p:aj} (h:B[i]?=some r) (hi:1≤i) (hp:B[i - 1]?=some p):jX B i=jY p.1 r.1:=by
 obtain ⟨j,rfl⟩:∃j,i=j+1:=⟨i - 1,by omega⟩;simp only [Nat.add_sub_cancel] at hp;unfold jX iB;simp only [h,hp]
theorem zE {B:List aj} {i:Nat} (hi:i<B.length) (h:jX B i=false):bU B=false:=by
 rw [Bool.eq_false_iff];intro h1;unfold bU at h1;rw [(List.all_eq_true.1 h1) i (List.mem_range.2 hi)] at h;cases h
theorem wQ {B:List aj} {k:Nat} (h:∀j,1≤j→j<k→jX B j=true) (hk:B.length≤k):bU B=true:=by
 unfold bU;rw [List.all_eq_true];intro j hj;have hj:=List.mem_range.1 hj;by_cases e:j=0
 · subst e;unfold jX iB;cases B[0]? <;> rfl
 · exact h j (by omega) (by omega)
theorem tU {B:List aj} {k:Nat} (h:∀j,1≤j→j<k→jX B j=true) (hk:jX B k=true):∀j,1≤j→j<k+1→jX B j=true:=by
 intro j h1 h2;by_cases e:j=k
 · subst e;exact hk
 · exact h j h1 (by omega)
theorem pg (lo:Nat) (a:Option Addr) (n c:Nat) (B:List aj) (w:World) (h:aE lo w a n c B) (hne:∀r ∈ B,1≤r.1.length) :
 Calls Tryz.prog 139 #[.slice a n c] w fun e w'=>e=.returned (.bool (bU B))∧Bl w w':=by
 have HLN:Hid (B.length=n):=h.length;have HNE:=ar hne;have hr:=h.room;have hbg:=h.big;unfold maxLen at hbg;have H:=ar h;clear h hne;go_enter Tryz.func139,Tryz.ntmps139
 go_wp2;go_loopw [3] (fun iv wr=>∃i:Nat,1≤i∧i≤n+1∧iv=iT i∧Bl w wr∧(∀j,1≤j→j<i→jX B j=true)) (fun iv _=>n - (intOf iv).toNat)
 case atStart=>exact ⟨1,Nat.le_refl _,by omega,rfl,Below.refl _ _,fun j h1 h2=>absurd h2 (by omega)⟩
 case round =>
  obtain ⟨i,hi1,hi,rfl,hb,hw⟩:=hrel;have HW:Hid (∀j,1≤j→j<i→jX B j=true):=hw;have HB:Hid (Bl w wr):=hb;clear hw;by_cases hin:i<n
  · have hinI:(i:Int)<(n:Int):=by omega
    have HKL:Hid (i<B.length):=by show i<B.length;rw [HLN.out];exact hin
    obtain ⟨b,off,rfl,hbb⟩:=H.out.form (by omega);obtain ⟨L,m,s,ns,cs,hg,_,g0,_,hE⟩:=H.out.run hb i hin;obtain ⟨Lp,mp,sp,np,cp,hp,_,p0,_,hEp⟩:=H.out.run hb (i - 1) (by omega);have l1:=HNE.out _ (List.mem_of_getElem? hg);have l2:=HNE.out _ (List.mem_of_getElem? hp);have hns:=hE.1.length;have hnp:=hEp.1.length;simp only at l1 l2;obtain ⟨bs,os,rfl,_⟩:=hE.1.form (by omega);obtain ⟨bp,op,rfl,_⟩:=hEp.1.form (by omega);have HAT:Hid (jX B i=Op.bytesLess (fd Lp).toList (il L).toList):=wR hg hi1 hp;have zb:=Nat.lt_of_lt_of_le hbb hb.size;have CP:Hid (∀w',Bl wr w'→Calls Tryz.prog 165 #[sO bp op np cp] w' fun r w''=>r=.returned (.agg #[.string (il Lp),.string (fd Lp)])∧Bl w' w''):=fun w' k=>pd bp op np cp Lp w' (hEp.1.keep k) (by omega)
    have CS:Hid (∀w',Bl wr w'→Calls Tryz.prog 165 #[sO bs os ns cs] w' fun r w''=>r=.returned (.agg #[.string (il L),.string (fd L)])∧Bl w' w''):=fun w' k=>pd bs os ns cs L w' (hE.1.keep k) (by omega)
    have CE:Hid (∀w',Bl wr w'→Calls Tryz.prog 166 #[.agg #[.string (il Lp),.string (fd Lp)],.agg #[.string (il L),.string (fd L)]] w' fun e w''=>e=.returned (.bool (Op.bytesLess (fd Lp).toList (il L).toList))∧Bl w' w''):=fun w' _=>vK _ _ _ _ w'
    have HMK:Hid (∀w',Bl wr w'→(w'.cell? ⟨b,off+i*2,none⟩=some (sO bs os ns cs)∧w'.cell? ⟨b,off+(i - 1)*2,none⟩=some (sO bp op np cp)∧b<w'.heap.size)):=fun w' kk=>⟨cell_later kk g0,cell_later kk p0,Nat.lt_of_lt_of_le zb kk.size⟩
    have k0:Bl wr wr.drew:=(Below.refl _ wr).drew;have hj1:(0:Int)≤(i:Int) - 1:=by omega
    have hj2:(i:Int) - 1<(n:Int):=by omega
    have hj3:(1:Int)≤(i:Int):=by omega
    have hjt:((i:Int) - 1).toNat=i - 1:=by omega
    have wj:IntKind.i64.wrap ((i:Int) - 1)=(i:Int) - 1:=by rw [IntWalk.i64_left];unfold wrap64;omega
    clear hg hp hE hEp l1 l2 hns hnp g0 p0 zb hb hi1;generalize Op.bytesLess (fd Lp).toList (il L).toList=O at HAT CE;generalize il Lp=x1,fd Lp=x2,il L=x3,fd L=x4 at CP CS CE;cases O with
    | true =>
     go_wp2_with fail
     refine dI HMK k0 fun aa=>?_
     refine aM 0 6 aa ?_;refine aM 7 5 aa ?_;refine aR 6 fun K hK=>?_
     go_simp;refine (CP.out _ k0).mono ?_;rintro e wk1 ⟨rfl,bk1⟩;have k1:Bl wr wk1:=k0.trans (bk1.mono k0.size);go_wp2_with fail
     refine hK.out _ _ (HMK.out _ k1) fun aa=>?_
     (try go_frame);refine aR 12 fun K hK=>?_
     go_simp;refine (CS.out _ k1).mono ?_;rintro e wk2 ⟨rfl,bk2⟩;have k2:Bl wr wk2:=k1.trans (bk2.mono k1.size);go_wp2_with fail
     refine hK.out _ _ (HMK.out _ k2) fun aa=>?_
     (try go_frame);refine aR 13 fun K hK=>?_
     go_simp;refine (CE.out _ k2).mono ?_;rintro e wk3 ⟨rfl,bk3⟩;have k3:Bl wr wk3:=k2.trans (bk3.mono k2.size);go_wp2_with fail
     refine hK.out _ _ (HMK.out _ k3) fun aa=>?_
     (try go_frame);refine aM 14 1 aa ?_;refine dN ?_;have KY:Hid (Bl w wk3):=HB.out.trans (k3.mono HB.out.size);clear k0 k1 k2 k3 bk1 bk2 bk3 HMK CP CS CE aa;go_wp2;go_roundw
     case rel=>exact ⟨i+1,by omega,by omega,by go_num,KY.out,tU HW.out HAT.out⟩
     case measure=>simp [intOf];omega
    | false =>
     go_wp2_with fail
     refine dI HMK k0 fun aa=>?_
     refine aM 0 6 aa ?_;refine aM 7 5 aa ?_;refine aR 6 fun K hK=>?_
     go_simp;refine (CP.out _ k0).mono ?_;rintro e wk1 ⟨rfl,bk1⟩;have k1:Bl wr wk1:=k0.trans (bk1.mono k0.size);go_wp2_with fail
     refine hK.out _ _ (HMK.out _ k1) fun aa=>?_
     (try go_frame);refine aR 12 fun K hK=>?_
     go_simp;refine (CS.out _ k1).mono ?_;rintro e wk2 ⟨rfl,bk2⟩;have k2:Bl wr wk2:=k1.trans (bk2.mono k1.size);go_wp2_with fail
     refine hK.out _ _ (HMK.out _ k2) fun aa=>?_
     (try go_frame);refine aR 13 fun K hK=>?_
     go_simp;refine (CE.out _ k2).mono ?_;rintro e wk3 ⟨rfl,bk3⟩;have k3:Bl wr wk3:=k2.trans (bk3.mono k2.size);go_wp2_with fail
     refine hK.out _ _ (HMK.out _ k3) fun aa=>?_
     (try go_frame);refine aM 14 1 aa ?_;refine dN ?_;have KY:Hid (Bl w wk3):=HB.out.trans (k3.mono HB.out.size);clear k0 k1 k2 k3 bk1 bk2 bk3 HMK CP CS CE aa;go_wp2;go_ret;exact ⟨aq (zE HKL.out HAT.out).symm,KY.out⟩
  · have hinI:¬(i:Int)<(n:Int):=by omega
    have HC:Hid (bU B=true):=wQ HW.out (by rw [HLN.out];omega);go_wp2;go_ret;exact ⟨aq HC.out.symm,HB.out⟩
end Go.Proofs.YtgpcinihgofmfaaGreatDoor

namespace Go.Proofs.YtgpcinihgofmfaaGreatDoor
open Go.RowKit
set_option maxRecDepth 100000
set_option maxHeartbeats 4000000
def eW (B:List aj):Bool:=B.any (fun r=>!dY r.1 r.2)
theorem Ap {B:List aj} {i:Nat} {r:aj} (h:B[i]?=some r) (hr:dY r.1 r.2=false):eW B=true:=by
 unfold eW;rw [List.any_eq_true];exact ⟨r,List.mem_of_getElem? h,by rw [hr];rfl⟩
theorem AS {B:List aj} {k:Nat} (h:∀j r,j<k→B[j]?=some r→dY r.1 r.2=true) (hk:B.length≤k):eW B=false:=by
 unfold eW;rw [List.any_eq_false];intro r hr;obtain ⟨j,hj,e⟩:=List.getElem_of_mem hr;rw [h j r (by omega) (by rw [List.getElem?_eq_getElem hj,e])];simp
theorem kX {B:List aj} (h:eW B=false):∀r ∈ B,dY r.1 r.2=true:=by
 intro r hr;unfold eW at h;rw [List.any_eq_false] at h;simpa using h r hr
theorem yG (lo:Nat) (a:Option Addr) (n c:Nat) (B:List aj) (w:World) (h:aE lo w a n c B) :
 Calls Tryz.prog 163 #[.slice a n c,.func (.func 138) #[] #[]] w fun e w'=>(∃z:Int,e=.returned (iT z)∧decide (0≤z)=eW B)∧Bl w w':=by
 have HLN:Hid (B.length=n):=h.length;have hr:=h.room;have hbg:=h.big;unfold maxLen at hbg;have H:=ar h;clear h;go_enter Tryz.func163,Tryz.ntmps163
 go_wp2;go_loopw [8] (fun iv wr=>∃i:Nat,i≤n∧iv=iT i∧Bl w wr∧(∀j r,j<i→B[j]?=some r→dY r.1 r.2=true)) (fun iv _=>n - (intOf iv).toNat)
 case atStart=>exact ⟨0,Nat.zero_le _,rfl,Below.refl _ _,fun j r hj=>absurd hj (Nat.not_lt_zero _)⟩
 case round =>
  obtain ⟨i,hi,rfl,hb,hw⟩:=hrel;have HW:Hid (∀j r,j<i→B[j]?=some r→dY r.1 r.2=true):=hw;have HB:Hid (Bl w wr):=hb;clear hw;by_cases hin:i<n
  · have hinI:(i:Int)<(n:Int):=by omega
    obtain ⟨b,off,rfl,hbb⟩:=H.out.form (by omega);obtain ⟨L,m,s,ns,cs,hg,_,g0,g1,hE⟩:=H.out.run hb i hin;have HG:Hid (B[i]?=some (L,m)):=hg;have HE:Hid (au wr s ns cs L):=hE.1;have zb:=Nat.lt_of_lt_of_le hbb hb.size;clear hg hb hE;obtain ⟨O,hO⟩:=aw (dY L m);go_wp2_with fail
    refine (vD m s ns cs L wr HE.out).mono ?_;rw [← hO];rintro e w1 ⟨rfl,hb1⟩;have K1:Hid (Bl w w1):=HB.out.trans (hb1.mono HB.out.size);clear hb1;cases hOv:O with
    | false =>
     have HN:Hid (eW B=true):=Ap HG.out (by show dY L m=false;rw [← hO,hOv]);go_wp2;go_ret;exact ⟨⟨(i:Int),rfl,by rw [HN.out];simp⟩,K1.out⟩
    | true =>
     have HN:Hid (∀j r,j<i+1→B[j]?=some r→dY r.1 r.2=true):=by
      intro j r hj hr;by_cases e:j=i
      · subst e;rw [HG.out] at hr;cases hr;show dY L m=true;rw [← hO,hOv]
      · exact HW.out j r (by omega) hr
     go_wp2;go_roundw
     case rel=>exact ⟨i+1,by omega,by go_num,K1.out,HN.out⟩
     case measure=>simp [intOf];omega
  · have hinI:¬(i:Int)<(n:Int):=by omega
    have HC:Hid (eW B=false):=AS HW.out (by rw [HLN.out];omega);go_wp2;go_ret;exact ⟨⟨-1,rfl,by rw [HC.out];rfl⟩,HB.out⟩
theorem jl (lo:Nat) (a:Option Addr) (n c:Nat) (B:List aj) (w:World) (h:aE lo w a n c B) :
 Calls Tryz.prog 137 #[.slice a n c,.func (.func 138) #[] #[]] w fun e w'=>e=.returned (.bool (eW B))∧Bl w w':=by
 go_enter Tryz.func137,Tryz.ntmps137
 go_wp2_with fail
 refine (yG lo a n c B w h).mono ?_;rintro e w1 ⟨⟨z,rfl,hz⟩,hb1⟩;have HZ:Hid (decide (0≤z)=eW B):=hz;clear hz;go_wp2;go_ret;exact ⟨aq HZ.out,hb1⟩
theorem pf (w:World):Calls Tryz.prog 136 #[iT 0] w fun e w'=>e=.returned (iT 4)∧w'=w:=by
 go_enter Tryz.func136,Tryz.ntmps136
 go_wp2;go_ret;exact ⟨rfl,rfl⟩
theorem jB (k:Nat) (w:World) (h:1≤k):Calls Tryz.prog 136 #[iT (k:Int)] w fun e w'=>e=.returned (iT 8)∧w'=w:=by
 have h1:¬(k:Int)=0:=by omega
 have h2:¬k=0:=by omega
 go_enter Tryz.func136,Tryz.ntmps136
 go_wp2;go_ret;exact ⟨rfl,rfl⟩
end Go.Proofs.YtgpcinihgofmfaaGreatDoor

namespace Go.Proofs.YtgpcinihgofmfaaGreatDoor
open Go.RowKit
set_option maxRecDepth 100000
set_option maxHeartbeats 16000000
def ss (B:List aj):Bool:=decide ((B.length:Int)≤4) && !eW B
def nU (B:List aj):Bool:=decide ((B.length:Int)≤8) && (!eW B && bU B)
def aZ (A B C:List aj):Bool:=ss A && (nU B && nU C)
theorem yK (w:World) (a0 a1 a2:Option Addr) (n0 c0 n1 c1 n2 c2:Nat):(Instr.index 62 (.agg #[.slice a0 n0 c0,.slice a1 n1 c1,.slice a2 n2 c2]) (iT 0)).run Tryz.prog w=.ok (.slice a0 n0 c0) w:=by
 simp [Instr.index,run_underlying Tryz.underlying62,asIntOf,go_sem,Tryz.isAgg61,Tryz.sizeOf61,part]
theorem yJ (w:World) (a0 a1 a2:Option Addr) (n0 c0 n1 c1 n2 c2:Nat):(Instr.index 62 (.agg #[.slice a0 n0 c0,.slice a1 n1 c1,.slice a2 n2 c2]) (iT 1)).run Tryz.prog w=.ok (.slice a1 n1 c1) w:=by
 simp [Instr.index,run_underlying Tryz.underlying62,asIntOf,go_sem,Tryz.isAgg61,Tryz.sizeOf61,part]
theorem yI (w:World) (a0 a1 a2:Option Addr) (n0 c0 n1 c1 n2 c2:Nat):(Instr.index 62 (.agg #[.slice a0 n0 c0,.slice a1 n1 c1,.slice a2 n2 c2]) (iT 2)).run Tryz.prog w=.ok (.slice a2 n2 c2) w:=by
 simp [Instr.index,run_underlying Tryz.underlying62,asIntOf,go_sem,Tryz.isAgg61,Tryz.sizeOf61,part]
theorem tu (lo:Nat) (q:Int) (am ak:Option Addr) (nm cm nk ck:Nat) (a0 a1 a2:Option Addr) (n0 c0 n1 c1 n2 c2:Nat) (A B C:List aj) (w:World) (h0:aE lo w a0 n0 c0 A) (h1:aE lo w a1 n1 c1 B) (h2:aE lo w a2 n2 c2 C) :
 Calls Tryz.prog 103 #[.agg #[iT q,.slice am nm cm,.slice a0 n0 c0,.slice a1 n1 c1,.slice a2 n2 c2,.slice ak nk ck]] w fun e w'=>e=.returned (.bool (aZ A B C))∧Bl w w':=by
 have HR0:=ar h0;have HR1:=ar h1;have HR2:=ar h2;have HN0:Hid (A.length=n0):=h0.length;have HN1:Hid (B.length=n1):=h1.length;have HN2:Hid (C.length=n2):=h2.length;clear h0 h1 h2;go_enter Tryz.func103,Tryz.ntmps103
 go_upto_region 1 with fail
 obtain ⟨W,hW⟩:=aw (w.alloc (.cells #[iT q,.slice am nm cm,.slice a0 n0 c0,.slice a1 n1 c1,.slice a2 n2 c2,.slice ak nk ck] 64));have kW:Bl w W:=by rw [hW];exact bZ
 have x2:W.cell? ⟨w.heap.size,2,none⟩=some (.slice a0 n0 c0):=by rw [hW];simp
 have x3:W.cell? ⟨w.heap.size,3,none⟩=some (.slice a1 n1 c1):=by rw [hW];simp
 have x4:W.cell? ⟨w.heap.size,4,none⟩=some (.slice a2 n2 c2):=by rw [hW];simp
 have zX:=World.block_lt_of_cell? _ _ x2;have HKW:Hid (∀wr,Bl W wr→Bl w wr):=fun wr k=>kW.trans (k.mono kW.size)
 rw [← hW];clear hW kW;go_wp2;go_loopw [7] (fun iv wr=>∃i:Nat,i≤3∧iv=iT i∧Bl W wr∧(1≤i→ss A=true)∧(2≤i→nU B=true)∧(3≤i→nU C=true)) (fun iv _=>3 - (intOf iv).toNat)
 case atStart=>exact ⟨0,by omega,rfl,Below.refl _ _,fun h=>absurd h (by omega),fun h=>absurd h (by omega),fun h=>absurd h (by omega)⟩
 case round =>
  obtain ⟨i,hi,rfl,hb,hw0,hw1,hw2⟩:=hrel;have HB:Hid (Bl W wr):=hb;have HW0:Hid (1≤i→ss A=true):=hw0;have HW1:Hid (2≤i→nU B=true):=hw1;have HW2:Hid (3≤i→nU C=true):=hw2;clear hb hw0 hw1 hw2;have hcase:i=0∨i=1∨i=2∨i=3:=by omega
  rcases hcase with hI | hI | hI | hI
  · skip
    subst hI;by_cases hl:(4:Int)<(n0:Int)
    · have HN:Hid (aZ A B C=false):=by
       have h1:decide ((A.length:Int)≤4)=false:=decide_eq_false (by have:=HN0.out;omega);show aZ A B C=false
       unfold aZ ss nU;rw [h1];simp
      go_wp2_with fail
      rw [yK];go_wp2_with fail
      refine (pf wr).mono ?_;rintro e w' ⟨rfl,rfl⟩;go_wp2;go_ret;exact ⟨aq HN.out.symm,HKW.out _ HB.out⟩
    have HL:Hid (decide ((A.length:Int)≤4)=true):=decide_eq_true (by have:=HN0.out;omega);obtain ⟨O,hO⟩:=aw (eW A);go_wp2_with fail
    rw [yK];go_wp2_with fail
    refine (pf wr).mono ?_;rintro e w' ⟨rfl,rfl⟩;go_wp2_with fail
    refine (jl lo a0 n0 c0 A _ (HR0.out.keep (HKW.out _ HB.out))).mono ?_;rw [← hO];rintro e w1 ⟨rfl,hb1⟩;have K1:Hid (Bl W w1):=HB.out.trans (hb1.mono HB.out.size);clear hb1;cases hOv:O with
    | true =>
     have HN:Hid (aZ A B C=false):=by
      have h1:eW A=true:=by rw [← hO,hOv]
      show aZ A B C=false
      unfold aZ ss nU;rw [h1];simp
     go_wp2;go_ret;exact ⟨aq HN.out.symm,HKW.out _ K1.out⟩
    | false =>
     have HN:Hid (ss A=true):=by
      have h1:eW A=false:=by rw [← hO,hOv]
      show ss A=true
      unfold ss;rw [HL.out,h1];rfl
     go_wp2;go_roundw
     case rel=>exact ⟨1,by omega,rfl,K1.out,fun _=>HN.out,fun h=>absurd h (by omega),fun h=>absurd h (by omega)⟩
     case measure=>simp [intOf]
  · skip
    subst hI;by_cases hl:(8:Int)<(n1:Int)
    · have HN:Hid (aZ A B C=false):=by
       have h1:decide ((B.length:Int)≤8)=false:=decide_eq_false (by have:=HN1.out;omega);show aZ A B C=false
       unfold aZ ss nU;rw [h1];simp
      go_wp2_with fail
      rw [yJ];go_wp2_with fail
      refine (jB 1 wr (by omega)).mono ?_;rintro e w' ⟨rfl,rfl⟩;go_wp2;go_ret;exact ⟨aq HN.out.symm,HKW.out _ HB.out⟩
    have HL:Hid (decide ((B.length:Int)≤8)=true):=decide_eq_true (by have:=HN1.out;omega);obtain ⟨O,hO⟩:=aw (eW B);go_wp2_with fail
    rw [yJ];go_wp2_with fail
    refine (jB 1 wr (by omega)).mono ?_;rintro e w' ⟨rfl,rfl⟩;go_wp2_with fail
    refine (jl lo a1 n1 c1 B _ (HR1.out.keep (HKW.out _ HB.out))).mono ?_;rw [← hO];rintro e w1 ⟨rfl,hb1⟩;have K1:Hid (Bl W w1):=HB.out.trans (hb1.mono HB.out.size);clear hb1;cases hOv:O with
    | true =>
     have HN:Hid (aZ A B C=false):=by
      have h1:eW B=true:=by rw [← hO,hOv]
      show aZ A B C=false
      unfold aZ ss nU;rw [h1];simp
     go_wp2;go_ret;exact ⟨aq HN.out.symm,HKW.out _ K1.out⟩
    | false =>
     have HBF:Hid (eW B=false):=by show _=_;rw [← hO,hOv]
     obtain ⟨G,hG⟩:=aw (bU B);go_wp2_with fail
     refine (pg lo a1 n1 c1 B _ (HR1.out.keep (HKW.out _ K1.out)) (fun r hr=>(bD (kX HBF.out r hr)).1)).mono ?_;rw [← hG];rintro e w2 ⟨rfl,hb2⟩;have K2:Hid (Bl W w2):=K1.out.trans (hb2.mono K1.out.size);clear hb2;cases hGv:G with
     | false =>
      have HN:Hid (aZ A B C=false):=by
       have h1:bU B=false:=by rw [← hG,hGv]
       show aZ A B C=false
       unfold aZ ss nU;rw [h1];simp
      go_wp2;go_ret;exact ⟨aq HN.out.symm,HKW.out _ K2.out⟩
     | true =>
      have HN:Hid (nU B=true):=by
       have h1:bU B=true:=by rw [← hG,hGv]
       show nU B=true
       unfold nU;rw [HL.out,HBF.out,h1];rfl
      go_wp2;go_roundw
      case rel=>exact ⟨2,by omega,rfl,K2.out,fun _=>HW0.out (by omega),fun _=>HN.out,fun h=>absurd h (by omega)⟩
      case measure=>simp [intOf]
  · skip
    subst hI;by_cases hl:(8:Int)<(n2:Int)
    · have HN:Hid (aZ A B C=false):=by
       have h1:decide ((C.length:Int)≤8)=false:=decide_eq_false (by have:=HN2.out;omega);show aZ A B C=false
       unfold aZ ss nU;rw [h1];simp
      go_wp2_with fail
      rw [yI];go_wp2_with fail
      refine (jB 2 wr (by omega)).mono ?_;rintro e w' ⟨rfl,rfl⟩;go_wp2;go_ret;exact ⟨aq HN.out.symm,HKW.out _ HB.out⟩
    have HL:Hid (decide ((C.length:Int)≤8)=true):=decide_eq_true (by have:=HN2.out;omega);obtain ⟨O,hO⟩:=aw (eW C);go_wp2_with fail
    rw [yI];go_wp2_with fail
    refine (jB 2 wr (by omega)).mono ?_;rintro e w' ⟨rfl,rfl⟩;go_wp2_with fail
    refine (jl lo a2 n2 c2 C _ (HR2.out.keep (HKW.out _ HB.out))).mono ?_;rw [← hO];rintro e w1 ⟨rfl,hb1⟩;have K1:Hid (Bl W w1):=HB.out.trans (hb1.mono HB.out.size);clear hb1;cases hOv:O with
    | true =>
     have HN:Hid (aZ A B C=false):=by
      have h1:eW C=true:=by rw [← hO,hOv]
      show aZ A B C=false
      unfold aZ ss nU;rw [h1];simp
     go_wp2;go_ret;exact ⟨aq HN.out.symm,HKW.out _ K1.out⟩
    | false =>
     have HBF:Hid (eW C=false):=by show _=_;rw [← hO,hOv]
     obtain ⟨G,hG⟩:=aw (bU C);go_wp2_with fail
     refine (pg lo a2 n2 c2 C _ (HR2.out.keep (HKW.out _ K1.out)) (fun r hr=>(bD (kX HBF.out r hr)).1)).mono ?_;rw [← hG];rintro e w2 ⟨rfl,hb2⟩;have K2:Hid (Bl W w2):=K1.out.trans (hb2.mono K1.out.size);clear hb2;cases hGv:G with
     | false =>
      have HN:Hid (aZ A B C=false):=by
       have h1:bU C=false:=by rw [← hG,hGv]
       show aZ A B C=false
       unfold aZ ss nU;rw [h1];simp
      go_wp2;go_ret;exact ⟨aq HN.out.symm,HKW.out _ K2.out⟩
     | true =>
      have HN:Hid (nU C=true):=by
       have h1:bU C=true:=by rw [← hG,hGv]
       show nU C=true
       unfold nU;rw [HL.out,HBF.out,h1];rfl
      go_wp2;go_roundw
      case rel=>exact ⟨3,by omega,rfl,K2.out,fun _=>HW0.out (by omega),fun _=>HW1.out (by omega),fun _=>HN.out⟩
      case measure=>simp [intOf]
  · subst hI;have HC:Hid (aZ A B C=true):=by
     show aZ A B C=true
     unfold aZ;rw [HW0.out (by omega),HW1.out (by omega),HW2.out (by omega)];rfl
    go_wp2;go_ret;exact ⟨aq HC.out.symm,HKW.out _ HB.out⟩
end Go.Proofs.YtgpcinihgofmfaaGreatDoor

namespace Go.Proofs.YtgpcinihgofmfaaGreatDoor
open Go.RowKit
def oR (x y:ae):Prop:=x.1=y.1→y.2.1<x.2.1
theorem jQ (x y:ae):(!eV x y)=true ↔ oR x y:=by
 unfold eV oR;by_cases h:x.1=y.1
 · simp [h]
 · simp [h]
def Ov (A B:List ae):Prop:=∀x ∈ A,∀y ∈ B,oR x y
theorem sm {A B:List ae}:iC A B=true ↔ Ov A B:=by
 unfold iC Ov;simp only [List.all_eq_true,jQ]
theorem As {P:List (List ae)}:gP P=true ↔ P.Pairwise Ov:=by
 rw [List.pairwise_iff_getElem];unfold gP;simp only [List.all_eq_true,List.mem_range];constructor
 · intro h i j hi hj hij;have:=h i hi j hj;rw [decide_eq_true hij,lH (List.getElem?_eq_getElem hi) (List.getElem?_eq_getElem hj)] at this;exact sm.1 (by simpa using this)
 · intro h i hi j hj;by_cases hij:i<j
   · rw [decide_eq_true hij,lH (List.getElem?_eq_getElem hi) (List.getElem?_eq_getElem hj),sm.2 (h i j hi hj hij)];rfl
   · rw [decide_eq_false hij];rfl
def cW (q:Int):List ae→Bool
 | []=>true
 | e :: L=>cW q L && (decide (1≤e.2.1) && (decide (e.2.1≤q) && L.all (fun y=>!eV e y)))
theorem ls (q:Int) (L:List ae):cW q L=true ↔ L.Pairwise oR∧∀e ∈ L,1≤e.2.1∧e.2.1≤q:=by
 induction L with
 | nil=>simp [cW]
 | cons e L ih =>
  simp only [cW,Bool.and_eq_true,ih,decide_eq_true_eq,List.all_eq_true,jQ,List.pairwise_cons,List.mem_cons];constructor
  · rintro ⟨⟨h1,h2⟩,h3,h4,h5⟩;refine ⟨⟨h5,h1⟩,?_⟩;rintro x (rfl | hx)
    · exact ⟨h3,h4⟩
    · exact h2 x hx
  · rintro ⟨⟨h5,h1⟩,h2⟩;exact ⟨⟨h1,fun x hx=>h2 x (.inr hx)⟩,(h2 e (.inl rfl)).1,(h2 e (.inl rfl)).2,h5⟩
def l7:List ae→ByteArray→Int
 | [],_=>0
 | e :: L,k=>if e.1=k then e.2.1 else l7 L k
theorem qG (e:ae) (L:List ae) (k:ByteArray):l7 (e :: L) k=if e.1=k then e.2.1 else l7 L k:=rfl
theorem sx {q:Int} (e:ae):∀L:List ae,cW q L=true→(l7 L e.1<e.2.1 ↔ (1≤e.2.1∧∀y ∈ L,oR e y))
 | [],_=>by simp [l7];omega
 | f :: L,h=>by
  have hn:=(ls q (f :: L)).1 h
  rw [List.pairwise_cons] at hn
  have ih:=sx e L (by simp only [cW,Bool.and_eq_true] at h;exact h.1)
  rw [qG]
  by_cases hk:f.1=e.1
  · rw [if_pos hk]
    have hf:=(hn.2 f (List.mem_cons_self ..)).1
    constructor
    · intro h1
      refine ⟨by omega,?_⟩
      intro y hy
      rw [List.mem_cons] at hy
      rcases hy with rfl | hy
      · intro _;exact h1
      · intro e1
        have:=hn.1.1 y hy (hk.trans e1)
        omega
    · rintro ⟨_,h2⟩
      exact h2 f (List.mem_cons_self ..) hk.symm
  · rw [if_neg hk,ih]
    constructor
    · rintro ⟨h1,h2⟩
      refine ⟨h1,?_⟩
      intro y hy
      rw [List.mem_cons] at hy
      rcases hy with rfl | hy
      · intro e1;exact absurd e1.symm hk
      · exact h2 y hy
    · rintro ⟨h1,h2⟩
      exact ⟨h1,fun y hy=>h2 y (List.mem_cons_of_mem _ hy)⟩
theorem s9 {q:Int} {e:ae} {L:List ae} (h:cW q L=true) (h1:l7 L e.1<e.2.1) (h2:e.2.1≤q):cW q (e :: L)=true:=by
 have:=(sx e L h).1 h1;simp only [cW,h,Bool.true_and,Bool.and_eq_true,decide_eq_true_eq,List.all_eq_true,jQ];exact ⟨this.1,h2,this.2⟩
theorem s8 {q:Int} {e:ae} {L A:List ae} (h:¬(l7 L e.1<e.2.1∧e.2.1≤q)):cW q (A++e :: L)=false:=by
 induction A with
 | nil =>
  rw [List.nil_append,Bool.eq_false_iff];intro h1;have hL:cW q L=true:=by simp only [cW,Bool.and_eq_true] at h1;exact h1.1
  have h3:=(ls q _).1 h1;rw [List.pairwise_cons] at h3;have h4:=h3.2 e (List.mem_cons_self ..);exact h ⟨(sx e L hL).2 ⟨h4.1,h3.1.1⟩,h4.2⟩
 | cons a A ih =>
  rw [List.cons_append,cW,ih];rfl
theorem ig {L:List ae} (h:bK L=true):L.Pairwise oR:=by
 rw [List.pairwise_iff_getElem];intro i j hi hj hij hk;rcases eC (jP h hij (List.getElem?_eq_getElem hi) (List.getElem?_eq_getElem hj)) with h1 | h1
 · rw [hk,eD] at h1;cases h1
 · exact h1.2
theorem ju {L:List ae} (h:bK L=true):∀e ∈ L,1≤e.2.1:=by
 intro e he;obtain ⟨j,hj,rfl⟩:=List.getElem_of_mem he;exact (yX (uW h (List.getElem?_eq_getElem hj))).1
theorem oQ {L:List ae} (h:bK L=true) {e:ae} (he:e ∈ L):il L=e.1∨Op.bytesLess (il L).toList e.1.toList=true:=by
 obtain ⟨j,hj,rfl⟩:=List.getElem_of_mem he;obtain ⟨f,hf,hl⟩:=pU (L:=L) (by omega);rw [hl];by_cases h0:j=0
 · subst h0;rw [List.getElem?_eq_getElem hj] at hf;cases hf;exact .inl rfl
 · rcases eC (jP h (Nat.pos_of_ne_zero h0) hf (List.getElem?_eq_getElem hj)) with h1 | h1
   · exact .inr (by rw [ByteArray.toList_eq,ByteArray.toList_eq];exact h1)
   · exact .inl h1.1
theorem sS {L:List ae} (h:bK L=true) {e:ae} (he:e ∈ L):e.1=fd L∨Op.bytesLess e.1.toList (fd L).toList=true:=by
 obtain ⟨j,hj,rfl⟩:=List.getElem_of_mem he;obtain ⟨f,hf,hl⟩:=kL (L:=L) (by omega);rw [hl];by_cases h0:j=L.length - 1
 · subst h0;rw [List.getElem?_eq_getElem hj] at hf;cases hf;exact .inl rfl
 · rcases eC (jP h (by omega:j<L.length - 1) (List.getElem?_eq_getElem hj) hf) with h1 | h1
   · exact .inr (by rw [ByteArray.toList_eq,ByteArray.toList_eq];exact h1)
   · exact .inl h1.1
theorem sT {L:List ae} (h:bK L=true) (hn:1≤L.length):il L=fd L∨Op.bytesLess (il L).toList (fd L).toList=true:=by
 obtain ⟨f,hf,hl⟩:=kL hn;rw [hl];exact oQ h (List.mem_of_getElem? hf)
theorem sj {B:List aj} (h:bU B=true) {i:Nat} {p r:aj} (hp:B[i]?=some p) (hr:B[i+1]?=some r):jY p.1 r.1=true:=by
 unfold bU at h;have:=(List.all_eq_true.1 h) (i+1) (List.mem_range.2 (List.getElem?_eq_some_iff.1 hr).1);unfold jX iB at this;simp only [hr,hp] at this;exact this
theorem pw {B:List aj} (h:bU B=true) (hok:∀r ∈ B,dY r.1 r.2=true):∀(d i:Nat) {p r:aj},B[i]?=some p→B[i+1+d]?=some r→Op.bytesLess (fd p.1).toList (il r.1).toList=true
 | 0,i,p,r,hp,hr=>sj h hp hr
 | d+1,i,p,r,hp,hr=>by
  obtain ⟨hl,_⟩:=List.getElem?_eq_some_iff.1 hr
  have hm:B[i+1+d]?=some (B[i+1+d]'(by omega)):=List.getElem?_eq_getElem _
  have h1:=pw h hok d i hp hm
  have h2:jY (B[i+1+d]'(by omega)).1 r.1=true:=sj h hm hr
  have h3:=bD (hok _ (List.mem_of_getElem? hm))
  unfold jY at h2
  rcases sT h3.2.2.1 h3.1 with e | e
  · rw [e] at h1;exact dP _ _ _ h1 h2
  · exact dP _ _ _ (dP _ _ _ h1 e) h2
theorem kY {B:List aj} (h:bU B=true) (hok:∀r ∈ B,dY r.1 r.2=true):(B.reverse.map (·.1)).Pairwise Ov:=by
 rw [List.pairwise_map,List.pairwise_reverse,List.pairwise_iff_getElem];intro i j hi hj hij x hx y hy hk;exfalso
 have h1:=pw h hok (j - i - 1) i (List.getElem?_eq_getElem hi) (by rw [show i+1+(j - i - 1)=j by omega];exact List.getElem?_eq_getElem hj);have hi3:=(bD (hok _ (List.getElem_mem hi))).2.2.1;have hj3:=(bD (hok _ (List.getElem_mem hj))).2.2.1;have h2:Op.bytesLess y.1.toList (il B[j].1).toList=true:=by
  rcases sS hi3 hy with e | e
  · rw [e];exact h1
  · exact dP _ _ _ e h1
 have h3:Op.bytesLess y.1.toList x.1.toList=true:=by
  rcases oQ hj3 hx with e | e
  · rw [← e];exact h2
  · exact dP _ _ _ h2 e
 rw [hk,eD] at h3;cases h3
def dq (M:List ae) (A B C:List aj):List (List ae):=M :: (A.reverse.map (·.1)++(B.reverse.map (·.1)++C.reverse.map (·.1)))
theorem fm {X:List ae} {B:List aj}:Ov X (dt B) ↔ ∀b ∈ B.reverse.map (·.1),Ov X b:=by
 unfold Ov dt;simp only [List.mem_flatMap,List.mem_map,List.mem_reverse];constructor
 · rintro h b ⟨r,hr,rfl⟩ x hx y hy;exact h x hx y ⟨r,hr,hy⟩
 · rintro h x hx y ⟨r,hr,hy⟩;exact h r.1 ⟨r,hr,rfl⟩ x hx y hy
theorem un {X:List ae} {B:List aj}:Ov (dt B) X ↔ ∀b ∈ B.reverse.map (·.1),Ov b X:=by
 unfold Ov dt;simp only [List.mem_flatMap,List.mem_map,List.mem_reverse];constructor
 · rintro h b ⟨r,hr,rfl⟩ x hx y hy;exact h x ⟨r,hr,hx⟩ y hy
 · rintro h x ⟨r,hr,hx⟩ y hy;exact h r.1 ⟨r,hr,rfl⟩ x hx y hy
theorem lN {M:List ae} {A B C:List aj} (hB:(B.reverse.map (·.1)).Pairwise Ov) (hC:(C.reverse.map (·.1)).Pairwise Ov):(fy M [A,B,C]).Pairwise Ov ↔ (dq M A B C).Pairwise Ov:=by
 unfold fy dq;simp only [List.headD_cons,List.drop_succ_cons,List.drop_zero,List.map_cons,List.map_nil,List.cons_append,List.pairwise_cons,List.pairwise_append,List.mem_append,List.mem_cons,List.not_mem_nil,or_false,List.Pairwise.nil,and_true,false_implies,implies_true];constructor
 · rintro ⟨h1,h2,h3,h4⟩;have hbc:=h3 _ rfl;refine ⟨?_,h2,⟨hB,hC,?_⟩,?_⟩
   · rintro a (h | h | h)
     · exact h1 a (.inl h)
     · exact fm.1 (h1 _ (.inr (.inl rfl))) a h
     · exact fm.1 (h1 _ (.inr (.inr rfl))) a h
   · intro b hb c hc;exact fm.1 (un.1 hbc b hb) c hc
   · rintro a ha b (hb | hb)
     · exact fm.1 (h4 a ha _ (.inl rfl)) b hb
     · exact fm.1 (h4 a ha _ (.inr rfl)) b hb
 · rintro ⟨h1,h2,⟨_,_,h3⟩,h4⟩;refine ⟨?_,h2,?_,?_⟩
   · rintro a (h | h | h)
     · exact h1 a (.inl h)
     · rw [h];exact fm.2 (fun b hb=>h1 b (.inr (.inl hb)))
     · rw [h];exact fm.2 (fun b hb=>h1 b (.inr (.inr hb)))
   · intro c hc;rw [hc];exact un.2 (fun b hb=>fm.2 (fun c hc=>h3 b hb c hc))
   · rintro a ha b (hb | hb)
     · rw [hb];exact fm.2 (fun c hc=>h4 a ha c (.inl hc))
     · rw [hb];exact fm.2 (fun c hc=>h4 a ha c (.inr hc))
theorem mN {B:List aj} {most:Int} {ap:Bool} {q:Int}:dK B most ap q=true ↔ (B.length:Int)≤most∧eW B=false∧(∀r ∈ B,cj r.1 q=true)∧(ap=true→bU B=true):=by
 unfold dK eW bU;simp only [Bool.and_eq_true,decide_eq_true_eq,List.all_eq_true,List.mem_range];constructor
 · rintro ⟨h1,h2⟩;refine ⟨h1,?_,?_,?_⟩
   · rw [List.any_eq_false];intro r hr;obtain ⟨j,hj,rfl⟩:=List.getElem_of_mem hr;have:=h2 j hj;rw [cZ (List.getElem?_eq_getElem hj),Bool.and_eq_true] at this;simp [this.1]
   · intro r hr;obtain ⟨j,hj,rfl⟩:=List.getElem_of_mem hr;have:=h2 j hj;rw [cZ (List.getElem?_eq_getElem hj),Bool.and_eq_true,Bool.and_eq_true] at this;exact this.2.1
   · intro hap j hj;have:=h2 j hj;rw [cZ (List.getElem?_eq_getElem hj),Bool.and_eq_true,Bool.and_eq_true,hap] at this;unfold jX;rw [List.getElem?_eq_getElem hj];simpa using this.2.2
 · rintro ⟨h1,h2,h3,h4⟩;refine ⟨h1,fun j hj=>?_⟩;rw [List.any_eq_false] at h2;have e1:=h2 B[j] (List.getElem_mem hj);have e2:=h3 B[j] (List.getElem_mem hj);rw [cZ (List.getElem?_eq_getElem hj),e2];have e1':dY B[j].1 B[j].2=true:=by simpa using e1
   rw [e1'];cases ap with
   | false=>rfl
   | true =>
    have:=h4 rfl j hj;unfold jX at this;rw [List.getElem?_eq_getElem hj] at this;simpa using this
theorem ep {B:List aj} (h:eW B=false):∀r ∈ B,dY r.1 r.2=true:=by
 unfold eW at h;rw [List.any_eq_false] at h;intro r hr;simpa using h r hr
theorem oA (q:Int) (M:List ae) (A B C:List aj) (S:List Int) :
 bn q M [A,B,C] S=true ↔ 0≤q∧q≤100000∧cV S q=true∧M.length≤60∧bK M=true∧aZ A B C=true∧cW q (dq M A B C).flatten=true:=by
 have hI:aZ A B C=true ↔ ((A.length:Int)≤4∧eW A=false)∧((B.length:Int)≤8∧eW B=false∧bU B=true)∧((C.length:Int)≤8∧eW C=false∧bU C=true):=by
  unfold aZ ss nU;simp only [Bool.and_eq_true,decide_eq_true_eq,Bool.not_eq_true']
 have hT:bn q M [A,B,C] S=true ↔ 0≤q∧q≤100000∧M.length≤60∧bK M=true∧cj M q=true∧cV S q=true∧(dK A 4 false q=true∧dK B 8 true q=true∧dK C 8 true q=true)∧gP (fy M [A,B,C])=true:=by
  unfold bn jx;simp only [Bool.and_eq_true,decide_eq_true_eq,List.length_cons,List.length_nil,Nat.reduceAdd,true_and]
 rw [hT,hI,mN,mN,mN,ls,As,List.pairwise_flatten];have hmem:∀{Z:List aj} {l:List ae},l ∈ Z.reverse.map (·.1)→∃r ∈ Z,r.1=l:=by
  intro Z l hl;rw [List.mem_map] at hl;obtain ⟨r,hr,rfl⟩:=hl;exact ⟨r,List.mem_reverse.1 hr,rfl⟩
 have hwi:∀{L:List ae},cj L q=true ↔ ∀e ∈ L,e.2.1≤q:=by
  intro L;unfold cj;simp only [List.all_eq_true,decide_eq_true_eq]
 have hin:∀{l:List ae},l ∈ dq M A B C ↔ l=M∨(∃r ∈ A,r.1=l)∨(∃r ∈ B,r.1=l)∨(∃r ∈ C,r.1=l):=by
  intro l;unfold dq;simp only [List.mem_cons,List.mem_append,List.mem_map,List.mem_reverse]
 constructor
 · rintro ⟨h1,h2,h3,h4,h5,h6,⟨⟨a1,a2,a3,_⟩,⟨b1,b2,b3,b4⟩,⟨c1,c2,c3,c4⟩⟩,h8⟩;have hB:=kY (b4 rfl) (ep b2);have hC:=kY (c4 rfl) (ep c2);refine ⟨h1,h2,h6,h3,h4,⟨⟨a1,a2⟩,⟨b1,b2,b4 rfl⟩,⟨c1,c2,c4 rfl⟩⟩,⟨?_,(lN hB hC).1 h8⟩,?_⟩
   · intro l hl;rcases hin.1 hl with rfl | ⟨r,hr,rfl⟩ | ⟨r,hr,rfl⟩ | ⟨r,hr,rfl⟩
     · exact ig h4
     · exact ig (bD (ep a2 r hr)).2.2.1
     · exact ig (bD (ep b2 r hr)).2.2.1
     · exact ig (bD (ep c2 r hr)).2.2.1
   · intro e he;obtain ⟨l,hl,hx⟩:=List.mem_flatten.1 he;clear he;have he:=hx;rcases hin.1 hl with rfl | ⟨r,hr,rfl⟩ | ⟨r,hr,rfl⟩ | ⟨r,hr,rfl⟩
     · exact ⟨ju h4 e he,hwi.1 h5 e he⟩
     · exact ⟨ju (bD (ep a2 r hr)).2.2.1 e he,hwi.1 (a3 r hr) e he⟩
     · exact ⟨ju (bD (ep b2 r hr)).2.2.1 e he,hwi.1 (b3 r hr) e he⟩
     · exact ⟨ju (bD (ep c2 r hr)).2.2.1 e he,hwi.1 (c3 r hr) e he⟩
 · rintro ⟨h1,h2,h6,h3,h4,⟨⟨a1,a2⟩,⟨b1,b2,b4⟩,⟨c1,c2,c4⟩⟩,⟨_,h8⟩,h9⟩;have hB:=kY b4 (ep b2);have hC:=kY c4 (ep c2);have hw:∀l ∈ dq M A B C,cj l q=true:=fun l hl=>hwi.2 (fun e he=>(h9 e (List.mem_flatten.2 ⟨l,hl,he⟩)).2)
   exact ⟨h1,h2,h3,h4,hw M (hin.2 (.inl rfl)),h6,⟨⟨a1,a2,fun r hr=>hw _ (hin.2 (.inr (.inl ⟨r,hr,rfl⟩))),fun e=>by cases e⟩,⟨b1,b2,fun r hr=>hw _ (hin.2 (.inr (.inr (.inl ⟨r,hr,rfl⟩)))),fun _=>b4⟩,⟨c1,c2,fun r hr=>hw _ (hin.2 (.inr (.inr (.inr ⟨r,hr,rfl⟩)))),fun _=>c4⟩⟩,(lN hB hC).2 h8⟩
end Go.Proofs.YtgpcinihgofmfaaGreatDoor
