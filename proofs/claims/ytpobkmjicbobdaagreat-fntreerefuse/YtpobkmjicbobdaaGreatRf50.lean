/- Walks. -/
import Derived.Test.YtpobkmjicbobdaaGreatRf49
import Derived.Shelf.GgClosure.Gives
namespace Go.Proofs.YtpobkmjicbobdaaGreat
set_option maxRecDepth 100000
set_option maxHeartbeats 40000000
open Go.RowKit
variable {M:List ac} {S:List Int} {V:List (List af)} {e:Ending} {ok:Bool} {q:Int} {w w':World}
def BF (q:Int) (M K:List ac):Int:=if bG q M K=true then q+K.length else q
def BG (q:Int) (M K:List ac):List ac:=if bG q M K=true then aV (M++dU q K) else M
theorem tS (q:Int) (am:Option Addr) (nm cm:Nat) (av:Option Addr) (nv cv:Nat) (ak:Option Addr) (ns cs:Nat) (M:List ac) (V:List (List af)) (S:List Int) (ab:Option Addr) (nb cb:Nat) (K:List ac) (w:World) (hT:bD 0 w am nm cm av nv cv ak ns cs M V S) (hE:ah w ab nb cb K) (hnb:nb≤1048576) (htb:aZ q M V S=true) :
 Calls Tryz.prog 32 #[.agg #[iT q,.slice am nm cm,.slice av nv cv,.slice ak ns cs],.slice ab nb cb] w (zZ (BF q M K) (BG q M K) V S (bG q M K) w):=by
 have hp:=nH htb;obtain ⟨A,B,C,rfl⟩:=fY htb;have hnv:nv=3:=hT.levels.length.symm;subst hnv;have hml:=hT.mem.1.length;refine nR 0 q am nm cm _ cv ak ns cs M [A,B,C] S _ nb cb _ _ _ S (bG q M K) w hT htb (fun base g1 c1 G c' g3 c3 w2 hcp hbw hk=>?_);refine (nM base q (pT g1) nm c1 _ 3 c' _ ns c3 M [A,B,C] S _ nb cb K w2 hcp.treeIn hbw (.some hcp.mem) (hE.keep hk) hnb (by omega) hp.1 hp.2.1).mono (fun e w3 h3=>?_);have h3:=h3.toD hcp.treeIn hbw;unfold BF BG;cases hf:bG q M K with
 | true =>
  simp only [if_true];have h4:=h3.1 hf;rw [xj hp.2.2.2.1] at h4;exact h4
 | false =>
  simp only [Bool.false_eq_true,if_false];exact h3.2 hf
theorem uK (q:Int) (am:Option Addr) (nm cm:Nat) (av:Option Addr) (nv cv:Nat) (ak:Option Addr) (ns cs:Nat) (M:List ac) (V:List (List af)) (S:List Int) (ab:Option Addr) (nb cb:Nat) (K:List ac) (w:World) (hT:bD 0 w am nm cm av nv cv ak ns cs M V S) (hE:ah w ab nb cb K) (hnb:nb≤1048576) (hKS:eQ K) (htb:aZ q M V S=true) :
 Calls Tryz.prog 31 #[.agg #[iT q,.slice am nm cm,.slice av nv cv,.slice ak ns cs],.slice ab nb cb] w (pL (BF q M K) (BG q M K) V S (bG q M K) w):=by
 have hp:=nH htb;obtain ⟨A,B,C,rfl⟩:=fY htb;have hout:=ul htb;have hml:=hT.mem.1.length;refine jF q am nm cm av nv cv ak ns cs ab nb cb _ _ _ S (bG q M K) w (fun w2 k2 hc2=>?_);obtain ⟨b',off,A',B',C',a0,n0,c0,a1,n1,c1,a2,n2,c2,rfl,rfl,hV',hsh,hCS⟩:=(hT.keep k2).share htb;cases hV';have hclo:∀w3,Bl w2 w3→Calls Tryz.prog 96 #[.agg #[iT q,.slice am nm cm,.slice a0 n0 c0,.slice a1 n1 c1,.slice a2 n2 c2,.slice ak ns cs],.pointer (some ⟨w.heap.size+1,0,none⟩)] w3 (BI q M K A B C S w3):=fun w3 k3 =>
  xV _ q am nm cm a0 n0 c0 a1 n1 c1 a2 n2 c2 ak ns cs M A B C S ab nb cb K w3 (hsh.keep k3) (cell_later k3 hc2) ((hE.keep k2).keep k3) hnb (by omega) hout.em hp.1 hp.2.1
 unfold BF BG;cases hf:bG q M K with
 | true =>
  simp only [if_true];have hlen:K.length≤12∧M.length+K.length≤60:=by
   unfold bG at hf;simp only [Bool.and_eq_true,decide_eq_true_eq] at hf;omega
  have hout2:tC (aV (M++dU q K)) A B C S:=⟨by rw [gV,List.length_append,eV];omega,hout.bk,tT (fun e he=>by
   rcases List.mem_append.1 he with h | h
   · exact hout.em e h
   · exact vJ hKS e h),hout.b0,hout.b1,hout.b2,hout.e0,hout.e1,hout.e2⟩
  exact nC (w.heap.size+1) q am nm cm b' off cv ak ns cs a0 n0 c0 a1 n1 c1 a2 n2 c2 _ _ A B C S w2 hCS (fun w3 k3=>(hclo w3 k3).mono (fun e w4 h4=>h4.1 hf)) hout2
 | false =>
  simp only [Bool.false_eq_true,if_false];exact nE (w.heap.size+1) q am nm cm b' off cv ak ns cs a0 n0 c0 a1 n1 c1 a2 n2 c2 M A B C S w2 hsh hCS (fun w3 k3=>(hclo w3 k3).mono (fun e w4 h4=>h4.2 hf)) hout
theorem sX (q:Int) (am:Option Addr) (nm cm:Nat) (av:Option Addr) (nv cv:Nat) (ak:Option Addr) (ns cs:Nat) (M:List ac) (V:List (List af)) (S:List Int) (ab:Option Addr) (nb cb:Nat) (w:World) (hT:bD 0 w am nm cm av nv cv ak ns cs M V S) (htb:aZ q M V S=false) :
 Calls Tryz.prog 31 #[.agg #[iT q,.slice am nm cm,.slice av nv cv,.slice ak ns cs],.slice ab nb cb] w (pL 0 [] [] [] false w) :=
 jF q _ _ _ _ _ _ _ _ _ ab nb cb 0 [] [] [] false w (fun w2 k2 _=>(xZ 0 q _ _ _ _ _ _ _ _ _ _ M V S w2 (hT.keep k2) htb).mono (fun _ _ h=>wW h))
instance decRun:DecidableEq af:=instDecidableEqProd
def AA (ok:Bool) (w:World) (e:Ending) (w':World):Prop:=∃q2 a1 n1 k1 a2 n2 k2 a3 n3 k3,e=.returned (.tuple #[.agg #[iT q2,.slice a1 n1 k1,.slice a2 n2 k2,.slice a3 n3 k3],.bool ok])∧Bl w w'
theorem pL.tup (h:pL q M V S ok w e w'):AA ok w e w':=by
 obtain ⟨am,nm,av,nv,ak,ns,gs,bs,es,rfl,_,hb⟩:=h;exact ⟨_,_,_,_,_,_,_,_,_,_,rfl,hb⟩
theorem zZ.tup (h:zZ q M V S ok w e w'):AA ok w e w':=by
 obtain ⟨am,nm,cm,av,nv,cv,ak,ns,cs,rfl,_,hb⟩:=h;exact ⟨_,_,_,_,_,_,_,_,_,_,rfl,hb⟩
def iZ (q:Int) (m:Nat) (K:List ac):Nat→Bool
 | 0=>decide (1≤K.length) && (decide (K.length≤12) && decide (m+K.length≤60))
 | i+1=>iZ q m K i && iQ q K i
theorem yK (q:Int) (M K:List ac):iZ q M.length K K.length=bG q M K:=by
 have h:∀i,i≤K.length→iZ q M.length K i=((decide (1≤K.length) && (decide (K.length≤12) && decide (M.length+K.length≤60))) && (List.range i).all (iQ q K)):=fun i=>by
  induction i with
  | zero=>intro _;simp [iZ]
  | succ i ih=>intro hi;rw [iZ,ih (by omega),List.range_succ,List.all_append];simp [Bool.and_assoc]
 rw [h _ (Nat.le_refl _)];unfold bG cV;simp [Bool.and_assoc]
theorem xu {K:List ac} (h:lF K):eQ K:=fun e he=>by
 have:=h e he
 exact ⟨by have:=this.1.1;omega,by have:=this.2.1;omega⟩
theorem lM (a:Option Addr) (len cap:Nat) (w:World) (h:jy w a len cap) :
 Calls Tryz.prog 5 #[.slice a len cap] w fun e w'=>e=.returned (.bool true)∧Bl w w':=by
 have H:=bK h;have hm:=Nat.le_trans h.1 h.2.1;unfold maxLen at hm;clear h;by_cases hbig:1048576<len
 · go_enter Tryz.func5,Tryz.ntmps5
   go_wp2;go_ret;exact ⟨rfl,Below.refl _ _⟩
 go_enter Tryz.func5,Tryz.ntmps5
 go_wp2_with fail
 refine (mT a len cap w H.out).mono ?_;rintro e w1 ⟨q,am,nm,cm,av,nv,cv,ak,ns,cs,M,V,S,g,nb,cb,K,rfl,hX,hE,hnb,hF,hb1⟩;obtain ⟨X,hXe⟩:=aI w1.heap.size;obtain ⟨W,hW⟩:=aI (w1.alloc (.cells #[iT q,.slice am nm cm,.slice av nv cv,.slice ak ns cs] 31));have kW:Bl w1 W:=by rw [hW];exact bZ
 have BX:Hid (aw W X (iT q) (.slice am nm cm) (.slice av nv cv) (.slice ak ns cs)):=by rw [hW,hXe];exact aw.new _ _ _ _ _ _
 have KW:Hid (Bl w W):=hb1.trans (kW.mono hb1.size);have hT:bD 0 W am nm cm av nv cv ak ns cs M V S:=hX.2.1.keep kW;have hE':ah W (pT g) nb cb K:=hE.keep kW;have HE:Hid (ah W (pT g) nb cb K):=hE';have HN:Hid (K.length=nb∧M.length=nm∧(∀e ∈ K,kF e.1)):=⟨hE.length,hX.2.1.mem.1.length,fun e he=>(hF e he).1⟩;have hK:eQ K:=xu hF;obtain ⟨TB,hTB⟩:∃b,b=aZ q M V S:=⟨_,rfl⟩;obtain ⟨OK,hOK⟩:∃b,b=(aZ q M V S && bG q M K):=⟨_,rfl⟩;have CI:Hid (∀w',Bl W w'→Calls Tryz.prog 31 #[.agg #[iT q,.slice am nm cm,.slice av nv cv,.slice ak ns cs],sL g nb cb] w' (AA OK w')):=fun w' k=>by
  rw [hOK];cases htb:aZ q M V S with
  | true=>rw [Bool.true_and];exact (uK q am nm cm av nv cv ak ns cs M V S _ nb cb K w' (hT.keep k) (hE'.keep k) (by omega) hK htb).mono (fun e w'' h=>h.tup)
  | false=>rw [Bool.false_and];exact (sX q am nm cm av nv cv ak ns cs M V S _ nb cb w' (hT.keep k) htb).mono (fun e w'' h=>h.tup)
 have CS:Hid (∀w',Bl W w'→Calls Tryz.prog 32 #[.agg #[iT q,.slice am nm cm,.slice av nv cv,.slice ak ns cs],sL g nb cb] w' (AA OK w')):=fun w' k=>by
  rw [hOK];cases htb:aZ q M V S with
  | true=>rw [Bool.true_and];exact (tS q am nm cm av nv cv ak ns cs M V S _ nb cb K w' (hT.keep k) (hE'.keep k) (by omega) htb).mono (fun e w'' h=>h.tup)
  | false=>rw [Bool.false_and];exact (rW 0 q am av ak nm cm nv cv ns cs M V S _ nb cb w' (hT.keep k) htb).mono (fun e w'' h=>(xB h).tup)
 have CT:Hid (∀w',Bl W w'→Calls Tryz.prog 27 #[.agg #[iT q,.slice am nm cm,.slice av nv cv,.slice ak ns cs]] w' fun e w''=>e=.returned (.bool TB)∧Bl w' w''):=fun w' k=>by
  rw [hTB];exact f5 0 q am av ak nm cm nv cv ns cs M V S w' (hT.keep k)
 have HTB:Hid (TB=true→OK=bG q M K∧0≤q∧q≤100000∧nm≤60):=fun h=>by
  rw [hTB] at h;have hf:=nH h;exact ⟨by rw [hOK,h,Bool.true_and],hf.1,hf.2.1,by have:=HN.out.2.1;omega⟩
 have hOO:(OK == OK)=true:=by cases OK <;> rfl
 have hON:(OK != OK)=false:=by cases OK <;> rfl
 have x0:=BX.out.c0;have x1:=BX.out.c1;have x2:=BX.out.c2;have x3:=BX.out.c3;have xz:=BX.out.lt;clear hb1 kW hT hE' hE hF hK hX hTB hOK;go_upto_region 4 with fail
 rw [← hW];try rw [← hXe]
 clear hW hXe;go_wp2_with fail
 clear x0 x1 x2 x3 xz;refine (CI.out _ (Below.refl _ _)).mono ?_;rintro e w2 ⟨q2,a1,n1,k1,a2,n2,k2,a3,n3,k3,rfl,hb2⟩;obtain ⟨w3,hw3⟩:=aI (w2.alloc (.cells #[iT q2,.slice a1 n1 k1,.slice a2 n2 k2,.slice a3 n3 k3] 31));have K3:Hid (Bl W w3):=hb2.trans (by rw [hw3];exact (Below.refl _ _).alloc hb2.size _);clear hb2 CI;have x:=BX.out.keep K3.out;have x0:=x.c0;have x1:=x.c1;have x2:=x.c2;have x3:=x.c3;have xz:=x.lt;clear x;go_upto_region 5 with fail
 rw [← hw3];clear hw3;go_wp2_with fail
 clear x0 x1 x2 x3 xz;refine (CS.out _ K3.out).mono ?_;rintro e w4 ⟨q4,b1,m1,l1,b2,m2,l2,b3,m3,l3,rfl,hb4⟩;obtain ⟨w5,hw5⟩:=aI (w4.alloc (.cells #[iT q4,.slice b1 m1 l1,.slice b2 m2 l2,.slice b3 m3 l3] 31));have K5:Hid (Bl W w5):=(K3.out.trans (hb4.mono K3.out.size)).trans (by rw [hw5];exact (Below.refl _ _).alloc (Nat.le_trans K3.out.size hb4.size) _);clear hb4 CS K3;have x:=BX.out.keep K5.out;have x0:=x.c0;have x1:=x.c1;have x2:=x.c2;have x3:=x.c3;have xz:=x.lt;clear x;go_upto_region 6 with fail
 rw [← hw5];clear hw5;go_wp2_with fail
 clear x0 x1 x2 x3 xz;refine (CT.out _ K5.out).mono ?_;rintro e w6 ⟨rfl,hb6⟩;have K6:Hid (Bl W w6):=K5.out.trans (hb6.mono K5.out.size);clear hb6 CT K5;cases TB with
 | false =>
  go_wp2;go_ret;exact ⟨rfl,KW.out.trans (K6.out.mono KW.out.size)⟩
 | true =>
  obtain ⟨hOKw,hq0,hq1,hnm⟩:=HTB.out rfl;have HOK:Hid (OK=bG q M K):=hOKw;have x:=BX.out.keep K6.out;have x0:=x.c0;have x1:=x.c1;have x2:=x.c2;have x3:=x.c3;have xz:=x.lt;clear x HTB hOKw;go_upto_region 8 with fail
  go_cut [9] (fun v wz=>v=.bool (iZ q nm K 0)∧wz=w6)
  case first =>
   have hkl:=HN.out.1;have hws:IntKind.i64.wrap ((nm:Int)+(nb:Int))=(nm:Int)+(nb:Int):=by rw [IntWalk.i64_left];unfold wrap64;omega
   by_cases h1:1≤nb
   · have g1:(nb:Int) ≥ 1:=by omega
     by_cases h2:nb≤12
     · have g2:(nb:Int)≤12:=by omega
       by_cases h3:nm+nb≤60
       · have g3:(nm:Int)+(nb:Int)≤60:=by omega
         go_wp2;go_meet
         exact ⟨by simp [iZ,hkl,h1,h2,h3],rfl⟩
       · have g3:¬(nm:Int)+(nb:Int)≤60:=by omega
         go_wp2;go_meet
         exact ⟨by simp [iZ,hkl,h1,h2,h3],rfl⟩
     · have g2:¬(nb:Int)≤12:=by omega
       go_wp2;go_meet
       exact ⟨by simp [iZ,hkl,h1,h2],rfl⟩
   · have g1:¬(nb:Int) ≥ 1:=by omega
     go_wp2;go_meet
     exact ⟨by simp [iZ,hkl,h1],rfl⟩
  case rest =>
   obtain ⟨rfl,rfl⟩:=hcut;clear x0 x1 x2 x3 xz;go_wp2;go_loopw [9,10] (fun mv iv wr=>∃i:Nat,iv=iT (i:Int)∧i≤nb∧mv=.bool (iZ q nm K i)∧Bl W wr) (fun _ iv _=>nb - (intOf iv).toNat)
   case atStart=>exact ⟨0,rfl,by omega,rfl,K6.out⟩
   case round =>
    clear K6;obtain ⟨i,rfl,hi,rfl,hk⟩:=hrel;have KR:Hid (Bl W wr):=hk;clear hk;by_cases hlt:i<nb
    · have hltI:(i:Int)<(nb:Int):=by omega
      have hkl:i<K.length:=by have:=HN.out.1;omega
      obtain ⟨kk,qq,d,tt,nn,hKi⟩:∃kk qq d tt nn,K[i]=(kk,qq,d,tt,nn):=⟨_,_,_,_,_,rfl⟩;have hc:=(HE.out.keep KR.out).cells ⟨g,0,none⟩ rfl i hkl;rw [hKi] at hc;simp only [Nat.zero_add] at hc;obtain ⟨e0,e1,e2,e3,e4⟩:=hc;have ez:=World.block_lt_of_cell? _ _ e0;simp only at ez;have HKI:Hid (K[i]?=some (kk,qq,d,tt,nn)):=by rw [List.getElem?_eq_getElem hkl,hKi];exact rfl
      have hks:kk.size≤maxLen:=by have:=(HN.out.2.2 _ (List.getElem_mem hkl)).1;rw [hKi] at this;unfold maxLen;simp only at this;omega
      have hw1:IntKind.i64.wrap (q+1)=q+1:=by rw [IntWalk.i64_left];unfold wrap64;omega
      have hw2:IntKind.i64.wrap (q+1+(i:Int))=q+1+(i:Int):=by rw [IntWalk.i64_left];unfold wrap64;omega
      have hw3:IntKind.i64.wrap ((i:Int)+1)=(i:Int)+1:=by rw [IntWalk.i64_left];unfold wrap64;omega
      have x:=BX.out.keep KR.out;have x0:=x.c0;have x1:=x.c1;have x2:=x.c2;have x3:=x.c3;have xz:=x.lt;clear x hKi;go_upto_region 14 with fail
      obtain ⟨wE,hwE⟩:=aI (wr.alloc (.cells #[.string kk,iT (q+1+(i:Int)),iT d,.string tt,iT nn] 50));have kE:Bl wr wE:=by rw [hwE];exact bZ
      have KE:Hid (Bl W wE):=KR.out.trans (kE.mono KR.out.size);have e1:=cell_later kE e1;have ez:=Nat.lt_of_lt_of_le ez kE.size;have y:bX wE wr.heap.size (.string kk) (iT (q+1+(i:Int))) (iT d) (.string tt) (iT nn):=by rw [hwE];exact bX.new _ _ _ _ _ _ _
      obtain ⟨Y,hY⟩:=aI wr.heap.size;rw [← hwE];rw [← hY] at y ⊢;have y0:=y.c0;have y1:=y.c1;have y2:=y.c2;have y3:=y.c3;have y4:=y.c4;have yz:=y.lt;clear hwE hY kE e0 e2 e3 e4 x0 x1 x2 x3 xz hw1 hw2 y;cases hm:iZ q nm K i with
      | false =>
       go_wp2;go_roundw
       case rel=>exact ⟨i+1,by rw [show ((i+1:Nat):Int)=(i:Int)+1 by omega],by omega,by simp [iZ,hm],KE.out⟩
       case measure=>simp [intOf];omega
      | true =>
       by_cases hqq:qq=0
       · subst hqq;go_wp2_with fail
         refine (nd kk tt (q+1+(i:Int)) d nn _ hks).mono ?_;rintro e w7 ⟨rfl,hb7⟩;have K7:Hid (Bl W w7):=KE.out.trans (hb7.mono KE.out.size);clear hb7;go_wp2;go_roundw
         case rel=>exact ⟨i+1,by rw [show ((i+1:Nat):Int)=(i:Int)+1 by omega],by omega,by rw [iZ,hm,yg HKI.out rfl,Bool.true_and],K7.out⟩
         case measure=>simp [intOf];omega
       · have hq1:(qq == 0)=false:=by simpa using hqq
         go_wp2;go_roundw
         case rel=>exact ⟨i+1,by rw [show ((i+1:Nat):Int)=(i:Int)+1 by omega],by omega,by rw [iZ,hm,tP HKI.out hqq,Bool.true_and],KE.out⟩
         case measure=>simp [intOf];omega
    · have hltI:¬(i:Int)<(nb:Int):=by omega
      have hin:i=nb:=by omega
      subst hin;have hfin:(OK == iZ q nm K i)=true:=by
       have h:=HN.out;rw [HOK.out,← yK,h.1,h.2.1];cases iZ q nm K i <;> rfl
      go_wp2_with fail
      go_ret;exact ⟨rfl,KW.out.trans (KR.out.mono KW.out.size)⟩
end Go.Proofs.YtpobkmjicbobdaaGreat
