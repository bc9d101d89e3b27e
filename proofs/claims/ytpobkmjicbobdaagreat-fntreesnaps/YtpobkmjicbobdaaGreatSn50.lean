/- Walks. -/
import Derived.Test.YtpobkmjicbobdaaGreatSn49
namespace Go.Proofs.YtpobkmjicbobdaaGreat
set_option maxRecDepth 100000
set_option maxHeartbeats 40000000
open Go.RowKit
variable {M:List ac} {S:List Int} {V:List (List af)} {e:Ending} {ok:Bool} {q:Int} {w w':World}
def iQ (q:Int) (M:List ac) (V:List (List af)) (S:List Int) (q':Int) (M':List ac) (V':List (List af)) (S':List Int):Bool:=decide (q=q') && (decide (M=M') && (decide (V=V') && decide (S=S')))
theorem eC (q q':Int) (lo1 lo2:Nat) (am av ak:Option Addr) (nm cm nv cv ns cs:Nat) (am' av' ak':Option Addr) (nm' cm' nv' cv' ns' cs':Nat) (M:List ac) (V:List (List af)) (S:List Int) (M':List ac) (V':List (List af)) (S':List Int) (w:World) (h1:aZ lo1 w am nm cm av nv cv ak ns cs M V S) (h2:aZ lo2 w am' nm' cm' av' nv' cv' ak' ns' cs' M' V' S') :
 Calls Tryz.prog 24 #[.agg #[iT q,.slice am nm cm,.slice av nv cv,.slice ak ns cs],.agg #[iT q',.slice am' nm' cm',.slice av' nv' cv',.slice ak' ns' cs']] w fun e w'=>e=.returned (.bool (iQ q M V S q' M' V' S'))∧Bl w w':=by
 obtain ⟨W,hW⟩:=aI ((w.alloc (.cells #[iT q,.slice am nm cm,.slice av nv cv,.slice ak ns cs] 31)).alloc (.cells #[iT q',.slice am' nm' cm',.slice av' nv' cv',.slice ak' ns' cs'] 31));have hB:Bl w W:=by rw [hW];exact bZ.alloc (by simp) _
 have x2:W.cell? ⟨w.heap.size,2,none⟩=some (.slice av nv cv):=by rw [hW];simp
 have x3:W.cell? ⟨w.heap.size,3,none⟩=some (.slice ak ns cs):=by rw [hW];simp
 have y2:W.cell? ⟨w.heap.size+1,2,none⟩=some (.slice av' nv' cv'):=by rw [hW];simp
 have y3:W.cell? ⟨w.heap.size+1,3,none⟩=some (.slice ak' ns' cs'):=by rw [hW];simp
 have H1:Hid (aZ lo1 W am nm cm av nv cv ak ns cs M V S):=h1.keep hB;have H2:Hid (aZ lo2 W am' nm' cm' av' nv' cv' ak' ns' cs' M' V' S'):=h2.keep hB;have HB:Hid (Bl w W):=hB;clear h1 h2 hB;obtain ⟨bM,hM⟩:∃b,decide (M=M')=b:=⟨_,rfl⟩;obtain ⟨bV,hV⟩:∃b,decide (V=V')=b:=⟨_,rfl⟩;obtain ⟨bS,hS⟩:∃b,decide (S=S')=b:=⟨_,rfl⟩;have CM:Hid (∀w',Bl W w'→Calls Tryz.prog 79 #[.slice am nm cm,.slice am' nm' cm'] w' fun e w''=>e=.returned (.bool bM)∧Bl w' w''):=by rw [← hM];exact fun w' k=>pN _ _ _ _ _ _ M M' w' (H1.out.keep k).mem.1 (H2.out.keep k).mem.1
 have CV:Hid (∀w',Bl W w'→Calls Tryz.prog 80 #[.slice av nv cv,.slice av' nv' cv',.func (.func 81) #[] #[]] w' fun e w''=>e=.returned (.bool bV)∧Bl w' w''):=by rw [← hV];exact fun w' k=>rP lo1 lo2 _ _ _ _ _ _ V V' w' (H1.out.keep k).levels (H2.out.keep k).levels
 have CS:Hid (∀w',Bl W w'→Calls Tryz.prog 82 #[.slice ak ns cs,.slice ak' ns' cs'] w' fun e w''=>e=.returned (.bool bS)∧Bl w' w''):=by rw [← hS];exact fun w' k=>vC lo1 lo2 _ _ _ _ _ _ S S' w' (H1.out.keep k).snaps (H2.out.keep k).snaps
 have HR:Hid (iQ q M V S q' M' V' S'=(decide (q=q') && (bM && (bV && bS)))):=by rw [← hM,← hV,← hS];rfl
 rw [HR.out];clear hM hV hS H1 H2 HR;by_cases hq:q=q'
 · subst hq;go_enter Tryz.func24,Tryz.ntmps24
   go_wp2_with fail
   rw [← hW];clear hW;refine (CM.out _ (Below.refl _ _)).mono ?_;rintro e w1 ⟨rfl,hb1⟩;have x2:=cell_later hb1 x2;have x3:=cell_later hb1 x3;have y2:=cell_later hb1 y2;have y3:=cell_later hb1 y3;have z1:=World.block_lt_of_cell? _ _ x2;have z2:=World.block_lt_of_cell? _ _ y2;simp only at z1 z2;have K1:Hid (Bl W w1):=hb1;clear hb1;cases bM with
   | false =>
    go_wp2;go_ret;exact ⟨ag (by simp),HB.out.trans (K1.out.mono HB.out.size)⟩
   | true =>
    go_wp2_with fail
    refine (CV.out _ K1.out).mono ?_;rintro e w2 ⟨rfl,hb2⟩;have x3:=cell_later hb2 x3;have y3:=cell_later hb2 y3;have z1:=World.block_lt_of_cell? _ _ x3;have z2:=World.block_lt_of_cell? _ _ y3;simp only at z1 z2;have K2:Hid (Bl W w2):=K1.out.trans (hb2.mono K1.out.size);clear hb2 K1;cases bV with
    | false =>
     go_wp2;go_ret;exact ⟨ag (by simp),HB.out.trans (K2.out.mono HB.out.size)⟩
    | true =>
     go_wp2_with fail
     refine (CS.out _ K2.out).mono ?_;rintro e w3 ⟨rfl,hb3⟩;have K3:Hid (Bl W w3):=K2.out.trans (hb3.mono K2.out.size);clear hb3 K2;go_wp2;go_ret;exact ⟨ag (by simp),HB.out.trans (K3.out.mono HB.out.size)⟩
 · have hd:(q == q')=false:=by simpa using hq
   have HQ:Hid (¬q=q'):=hq;clear hq CM CV CS x2 x3 y2 y3;go_enter Tryz.func24,Tryz.ntmps24
   go_wp2;go_ret;rw [← hW];exact ⟨ag (by simp [HQ.out]),HB.out⟩
def Ad (ok:Bool) (w:World) (e:Ending) (w':World):Prop:=∃q2 a1 n1 k1 a2 n2 k2 a3 n3 k3,e=.returned (.tuple #[.agg #[iT q2,.slice a1 n1 k1,.slice a2 n2 k2,.slice a3 n3 k3],.bool ok])∧Bl w w'
theorem gq.tup (h:gq q M V S ok w e w'):Ad ok w e w':=by
 obtain ⟨am,nm,av,nv,ak,ns,gs,bs,es,rfl,_,hb⟩:=h;exact ⟨_,_,_,_,_,_,_,_,_,_,rfl,hb⟩
theorem ui.tup (h:ui q M V S ok w e w'):Ad ok w e w':=by
 obtain ⟨am,nm,cm,av,nv,cv,ak,ns,cs,rfl,_,hb⟩:=h;exact ⟨_,_,_,_,_,_,_,_,_,_,rfl,hb⟩
def yX (q2:Int) (M2:List ac) (V2:List (List af)) (S2:List Int) (ok:Bool) (w:World) (e:Ending) (w':World):Prop:=∃a1 n1 k1 a2 n2 k2 a3 n3 k3,e=.returned (.tuple #[.agg #[iT q2,.slice a1 n1 k1,.slice a2 n2 k2,.slice a3 n3 k3],.bool ok])∧aZ 0 w' a1 n1 k1 a2 n2 k2 a3 n3 k3 M2 V2 S2∧Bl w w'
theorem gq.tupT (h:gq q M V S ok w e w') (hw:∀z ∈ S,(Lit.int .i64 z).wf=true):yX q M V S ok w e w':=by
 obtain ⟨am,nm,av,nv,ak,ns,gs,bs,es,rfl,hR,hb⟩:=h;exact ⟨_,_,_,_,_,_,_,_,_,rfl,hR.treeIn hw,hb⟩
theorem ui.tupT (h:ui q M V S ok w e w'):yX q M V S ok w e w':=by
 obtain ⟨am,nm,cm,av,nv,cv,ak,ns,cs,rfl,hR,hb⟩:=h;exact ⟨_,_,_,_,_,_,_,_,_,rfl,hR,hb⟩
theorem d5 (q:Int) (M:List ac) (V:List (List af)) (S:List Int):iQ q M V S q M V S=true:=by simp [iQ]
def zN (P:Prop) (q2:Int) (M2:List ac) (V2:List (List af)) (S2:List Int) (ok:Bool) (w:World) (e:Ending) (w':World):Prop:=∃a1 n1 k1 a2 n2 k2 a3 n3 k3,e=.returned (.tuple #[.agg #[iT q2,.slice a1 n1 k1,.slice a2 n2 k2,.slice a3 n3 k3],.bool ok])∧aZ 0 w' a1 n1 k1 a2 n2 k2 a3 n3 k3 M2 V2 S2∧(P→∃g,a3=some ⟨g,0,none⟩)∧Bl w w'
theorem gq.tupJ {P:Prop} (h:gq q M V S ok w e w') (hw:∀z ∈ S,(Lit.int .i64 z).wf=true) (hV:P→V≠[]):zN P q M V S ok w e w':=by
 obtain ⟨am,nm,av,nv,ak,ns,gs,bs,es,rfl,hR,hb⟩:=h;refine ⟨_,_,_,_,_,_,_,_,_,rfl,hR.treeIn hw,fun hp=>?_,hb⟩;rcases hR with ⟨b1,b2,b3,_,_,rfl,_⟩ | ⟨_,_,_,_,_,_,_,h,_⟩
 · exact ⟨_,rfl⟩
 · exact absurd h (hV hp)
theorem uq {lo hi nm nv ns:Nat} {am av ak:Option Addr} {gs bs:Nat→Nat} {es:Nat→Nat→Nat} (hR:iO lo hi w am nm av nv ak ns M V S gs bs es) (hw:∀z ∈ S,(Lit.int .i64 z).wf=true) (hV:V≠[]):aZ 0 w am nm nm av nv nv ak ns ns M V S∧∃g,ak=some ⟨g,0,none⟩:=by
 have hT:=hR.treeIn hw;rcases hR with ⟨b1,b2,b3,_,_,rfl,_⟩ | ⟨_,_,_,_,_,_,_,h,_⟩
 · exact ⟨hT,_,rfl⟩
 · exact absurd h hV
theorem rm (hq:(Lit.int .i64 q).wf=true) (h:∀z ∈ S,(Lit.int .i64 z).wf=true):∀z ∈ ch q S,(Lit.int .i64 z).wf=true:=fun z hz=>by
 unfold ch at hz
 split at hz
 · rcases List.mem_append.1 hz with h1 | h1
   · exact h z h1
   · rw [List.mem_singleton] at h1;rw [h1];exact hq
 · exact h z hz
theorem sV (h:aW q M V S=true):aW q M V (ch q S)=true:=by
 obtain ⟨A,B,C,rfl⟩:=gw h;unfold ch;split
 · next hc=>exact o4 h hc.1 hc.2
 · exact h
theorem mO (q:Int) (S:List Int):ch q (ch q S)=ch q S∧dO q (ch q S)=false:=by
 by_cases h:S.length<4∧q ∉ S
 · have h1:ch q S=S++[q]:=by unfold ch;rw [if_pos h]
   rw [h1];exact ⟨by unfold ch;rw [if_neg (by simp)],by unfold dO;simp⟩
 · have h1:ch q S=S:=by unfold ch;rw [if_neg h]
   rw [h1];exact ⟨h1,by unfold dO;rw [← Bool.not_eq_true];intro h2;simp at h2;exact h ⟨h2.1,h2.2⟩⟩
theorem uc {s:Int} {T:List Int} (hS:S=s :: T) (hp:bF S q=true) (hq:q ∉ S):dO q (bn S s)=true:=by
 have h3:=fb.1 hp;have hl:(bn S s).length≤3:=by
  have h4:(bn S s).length≤T.length:=by
   subst hS;unfold bn;simp only [List.filter_cons];first
    | (simp only [bne_self_eq_false,Bool.false_eq_true,if_false];exact List.length_filter_le _ _)
    | (simp;exact List.length_filter_le _ _)
  have h5:=h3.1;subst hS;simp only [List.length_cons] at h5;omega
 have hn:q ∉ bn S s:=fun h=>hq (by unfold bn at h;exact (List.mem_filter.1 h).1)
 unfold dO;simp [hn];omega
theorem mj (a:Option Addr) (len cap:Nat) (w:World) (h:jh w a len cap) :
 Calls Tryz.prog 6 #[.slice a len cap] w fun e w'=>e=.returned (.bool true)∧Bl w w':=by
 have H:=bQ h;have hm:=Nat.le_trans h.1 h.2.1;unfold maxLen at hm;clear h;by_cases hbig:1048576<len
 · go_enter Tryz.func6,Tryz.ntmps6
   go_wp2;go_ret;exact ⟨rfl,Below.refl _ _⟩
 go_enter Tryz.func6,Tryz.ntmps6
 go_wp2_with fail
 refine (nY a len cap w H.out).mono ?_;rintro e w1 ⟨q,am,nm,cm,av,nv,cv,ak,ns,cs,M,V,S,rfl,hX,hb1⟩;obtain ⟨hqw,hT0,_,gk,rfl⟩:=hX;obtain ⟨X,hXe⟩:=aI w1.heap.size;obtain ⟨W,hW⟩:=aI (w1.alloc (.cells #[iT q,.slice am nm cm,.slice av nv cv,sL gk ns cs] 31));have kW:Bl w1 W:=by rw [hW];exact bZ
 have BX:Hid (ar W X (iT q) (.slice am nm cm) (.slice av nv cv) (sL gk ns cs)):=by rw [hW,hXe];exact ar.new _ _ _ _ _ _
 have KW:Hid (Bl w W):=hb1.trans (kW.mono hb1.size);have hT:aZ 0 W am nm cm av nv cv (pT gk) ns cs M V S:=hT0.keep kW;have HT:Hid (aZ 0 W am nm cm av nv cv (pT gk) ns cs M V S):=hT;have HQW:Hid ((Lit.int .i64 q).wf=true):=hqw;obtain ⟨TB,hTB⟩:∃b,b=aW q M V S:=⟨_,rfl⟩;have hex:∃q2 M2 V2 S2 OK,(TB=true→q2=q∧M2=M∧V2=V∧S2=ch q S∧OK=dO q S) ∧
  (∀w',Bl W w'→Calls Tryz.prog 35 #[.agg #[iT q,.slice am nm cm,.slice av nv cv,sL gk ns cs]] w' (zN (TB=true) q2 M2 V2 S2 OK w')) ∧
  (∀w',Bl W w'→Calls Tryz.prog 36 #[.agg #[iT q,.slice am nm cm,.slice av nv cv,sL gk ns cs]] w' (yX q2 M2 V2 S2 OK w')):=by
  cases htb:aW q M V S with
  | true =>
   have hwf:=rm hqw hT.snaps.wfs;exact ⟨q,M,V,ch q S,dO q S,fun _=>⟨rfl,rfl,rfl,rfl,rfl⟩,fun w' k=>(jd q am nm cm av nv cv gk ns cs M V S w' hqw (hT.keep k) htb).mono (fun e w'' h=>h.tupJ hwf (fun _ hv=>by have:=(iy htb).2.2.2.2.2;rw [hv] at this;simp at this)),fun w' k=>(uY q am nm cm av nv cv _ ns cs M V S w' hqw (hT.keep k) htb).mono (fun e w'' h=>h.tupT)⟩
  | false =>
   rw [htb] at hTB;exact ⟨0,[],[],[],false,(fun h=>by rw [hTB] at h;cases h),fun w' k=>(tQ q am nm cm av nv cv _ ns cs M V S w' (hT.keep k) htb).mono (fun e w'' h=>h.tupJ (fun z hz=>by cases hz) (fun h=>by rw [hTB] at h;cases h)),fun w' k=>(s9 0 q am av _ nm cm nv cv ns cs M V S w' (hT.keep k) htb).mono (fun e w'' h=>(v6 h).tupT)⟩
 obtain ⟨q2,M2,V2,S2,OK,hres,hCI,hCS⟩:=hex;have CI:Hid (∀w',Bl W w'→Calls Tryz.prog 35 #[.agg #[iT q,.slice am nm cm,.slice av nv cv,sL gk ns cs]] w' (zN (TB=true) q2 M2 V2 S2 OK w')):=hCI;have CS:Hid (∀w',Bl W w'→Calls Tryz.prog 36 #[.agg #[iT q,.slice am nm cm,.slice av nv cv,sL gk ns cs]] w' (yX q2 M2 V2 S2 OK w')):=hCS;have HRES:Hid (TB=true→aW q M V S=true∧q2=q∧M2=M∧V2=V∧S2=ch q S∧OK=dO q S):=fun h=>⟨by rw [← hTB];exact h,hres h⟩
 have CT:Hid (∀w',Bl W w'→Calls Tryz.prog 27 #[.agg #[iT q,.slice am nm cm,.slice av nv cv,sL gk ns cs]] w' fun e w''=>e=.returned (.bool TB)∧Bl w' w''):=fun w' k=>by
  rw [hTB];exact gX 0 q am av _ nm cm nv cv ns cs M V S w' (hT.keep k)
 have hOO:(OK == OK)=true:=by cases OK <;> rfl
 have hON:(OK != OK)=false:=by cases OK <;> rfl
 have x0:=(BX.out).c0;have x1:=(BX.out).c1;have x2:=(BX.out).c2;have x3:=(BX.out).c3;have xz:=(BX.out).lt;clear hb1 kW hT hT0 hTB hres hCI hCS hqw;go_upto_region 4 with fail
 rw [← hW];try rw [← hXe]
 clear hW hXe;go_wp2_with fail
 clear x0 x1 x2 x3 xz;refine (CI.out _ (Below.refl _ _)).mono ?_;rintro e w2 ⟨a1,n1,k1,a2,n2,k2,a3,n3,k3,rfl,hT2,hsn,hb2⟩;obtain ⟨Y,hY⟩:=aI w2.heap.size;obtain ⟨w3,hw3⟩:=aI (w2.alloc (.cells #[iT q2,.slice a1 n1 k1,.slice a2 n2 k2,.slice a3 n3 k3] 31));have kk:Bl w2 w3:=by rw [hw3];exact bZ
 have K3:Hid (Bl W w3):=hb2.trans (kk.mono hb2.size);have T3:Hid (aZ 0 w3 a1 n1 k1 a2 n2 k2 a3 n3 k3 M2 V2 S2):=hT2.keep kk;have BY:Hid (ar w3 Y (iT q2) (.slice a1 n1 k1) (.slice a2 n2 k2) (.slice a3 n3 k3)):=by rw [hw3,hY];exact ar.new _ _ _ _ _ _
 have HSN:Hid (TB=true→∃g,a3=some ⟨g,0,none⟩):=hsn;clear hb2 CI kk hT2 hsn;have x0:=(BX.out.keep K3.out).c0;have x1:=(BX.out.keep K3.out).c1;have x2:=(BX.out.keep K3.out).c2;have x3:=(BX.out.keep K3.out).c3;have xz:=(BX.out.keep K3.out).lt;go_upto_region 5 with fail
 rw [← hw3];try rw [← hY]
 clear hw3 hY;go_wp2_with fail
 clear x0 x1 x2 x3 xz;refine (CS.out _ K3.out).mono ?_;rintro e w4 ⟨b1,m1,l1,b2,m2,l2,b3,m3,l3,rfl,hT4,hb4⟩;obtain ⟨Z,hZ⟩:=aI w4.heap.size;obtain ⟨w5,hw5⟩:=aI (w4.alloc (.cells #[iT q2,.slice b1 m1 l1,.slice b2 m2 l2,.slice b3 m3 l3] 31));have kk:Bl w4 w5:=by rw [hw5];exact bZ
 have k35:Bl w3 w5:=hb4.trans (kk.mono hb4.size);have K5:Hid (Bl W w5):=K3.out.trans (k35.mono K3.out.size);have T5:Hid (aZ 0 w5 a1 n1 k1 a2 n2 k2 a3 n3 k3 M2 V2 S2):=T3.out.keep k35;have U5:Hid (aZ 0 w5 b1 m1 l1 b2 m2 l2 b3 m3 l3 M2 V2 S2):=hT4.keep kk;have BY5:Hid (ar w5 Y (iT q2) (.slice a1 n1 k1) (.slice a2 n2 k2) (.slice a3 n3 k3)):=BY.out.keep k35;have BZ5:Hid (ar w5 Z (iT q2) (.slice b1 m1 l1) (.slice b2 m2 l2) (.slice b3 m3 l3)):=by rw [hw5,hZ];exact ar.new _ _ _ _ _ _
 clear hb4 CS K3 T3 BY kk k35 hT4;have y0:=(BY5.out).c0;have y1:=(BY5.out).c1;have y2:=(BY5.out).c2;have y3:=(BY5.out).c3;have yz:=(BY5.out).lt;have z0:=(BZ5.out).c0;have z1:=(BZ5.out).c1;have z2:=(BZ5.out).c2;have z3:=(BZ5.out).c3;have zz:=(BZ5.out).lt;go_upto_region 6 with fail
 rw [← hw5];try rw [← hZ]
 clear hw5 hZ;go_wp2_with fail
 clear y0 y1 y2 y3 yz z0 z1 z2 z3 zz;refine (eC q2 q2 0 0 _ _ _ _ _ _ _ _ _ _ _ _ _ _ _ _ _ _ M2 V2 S2 M2 V2 S2 _ T5.out U5.out).mono ?_;rintro e w6 ⟨rfl,hb6⟩;rw [d5];have k56:Hid (Bl w5 w6):=hb6;have K6:Hid (Bl W w6):=K5.out.trans (hb6.mono K5.out.size);clear hb6;have x0:=(BX.out.keep K6.out).c0;have x1:=(BX.out.keep K6.out).c1;have x2:=(BX.out.keep K6.out).c2;have x3:=(BX.out.keep K6.out).c3;have xz:=(BX.out.keep K6.out).lt;go_wp2_with fail
 clear x0 x1 x2 x3 xz;refine (CT.out _ K6.out).mono ?_;rintro e w7 ⟨rfl,hb7⟩;have k57:Hid (Bl w5 w7):=k56.out.trans (hb7.mono k56.out.size);have K7:Hid (Bl W w7):=K5.out.trans (k57.out.mono K5.out.size);clear hb7 CT k56 K6;cases TB with
 | false =>
  have y0:=(BY5.out.keep k57.out).c0;have y1:=(BY5.out.keep k57.out).c1;have y2:=(BY5.out.keep k57.out).c2;have y3:=(BY5.out.keep k57.out).c3;have yz:=(BY5.out.keep k57.out).lt;have z0:=(BZ5.out.keep k57.out).c0;have z1:=(BZ5.out.keep k57.out).c1;have z2:=(BZ5.out.keep k57.out).c2;have z3:=(BZ5.out.keep k57.out).c3;have zz:=(BZ5.out.keep k57.out).lt;go_wp2_with fail
  clear y0 y1 y2 y3 yz z0 z1 z2 z3 zz;refine (eC q2 q2 0 0 _ _ _ _ _ _ _ _ _ _ _ _ _ _ _ _ _ _ M2 V2 S2 M2 V2 S2 _ (T5.out.keep k57.out) (U5.out.keep k57.out)).mono ?_;rintro e w8 ⟨rfl,hb8⟩;rw [d5];have K8:Hid (Bl W w8):=K7.out.trans (hb8.mono K7.out.size);clear hb8;go_wp2;go_ret;exact ⟨rfl,KW.out.trans (K8.out.mono KW.out.size)⟩
 | true =>
  obtain ⟨htb,rfl,rfl,rfl,rfl,rfl⟩:=HRES.out rfl;obtain ⟨g3,rfl⟩:=HSN.out rfl;have HTB:Hid (aW q2 M2 V2 S=true):=htb;clear htb HRES HSN U5 BZ5;have hsl:=HT.out.snaps.length;have hs4:=(iy HTB.out).2.2.2.2.1;go_wp2;go_loopw [8,9] (fun hv iv wr=>∃i:Nat,iv=iT (i:Int)∧i≤ns∧hv=.bool (decide (q2 ∈ S.take i))∧Bl w7 wr) (fun _ iv _=>ns - (intOf iv).toNat)
  case atStart=>exact ⟨0,rfl,by omega,by simp,Below.refl _ _⟩
  case round =>
   obtain ⟨i,rfl,hi,rfl,hk⟩:=hrel;have k5r:Hid (Bl w5 wr):=k57.out.trans (hk.mono k57.out.size);have KR:Hid (Bl W wr):=K7.out.trans (hk.mono K7.out.size);have HK7:Hid (Bl w7 wr):=hk;clear hk;by_cases hlt:i<ns
   · have hltI:(i:Int)<(ns:Int):=by omega
     have hwi:IntKind.i64.wrap ((i:Int)+1)=(i:Int)+1:=by rw [IntWalk.i64_left];unfold wrap64;omega
     have hil:i<S.length:=by omega
     obtain ⟨s,hs⟩:=aI (S[i]);have HMK:Hid (∀w',Bl wr w'→(fun w':World=>w'.cell? ⟨X,0,none⟩=some (iT q2)∧w'.cell? ⟨X,3,none⟩=some (sL gk ns cs)∧X<w'.heap.size∧w'.cell? ⟨gk,i,none⟩=some (iT s)∧gk<w'.heap.size) w'):=fun w' k=>by
      have kk:=KR.out.trans (k.mono KR.out.size);have b:=BX.out.keep kk;have c:=(HT.out.keep kk).snaps.cells ⟨gk,0,none⟩ rfl i hil;rw [← hs] at c;simp only [Nat.zero_add] at c;exact ⟨b.c0,b.c3,b.lt,c,World.block_lt_of_cell? _ _ c⟩
     have HST:Hid (S.take (i+1)=S.take i++[s]):=by rw [hs];exact List.take_succ_eq_append_getElem hil
     clear hs;have mg:∀b:Bool,b=decide (q2 ∈ S.take i)→(b || decide (s=q2))=decide (q2 ∈ S.take (i+1)):=fun b hb=>by
      rw [HST.out,hb];by_cases h1:q2 ∈ S.take i
      · simp [h1]
      · by_cases h2:s=q2
        · simp [h2]
        · have h3:¬q2=s:=fun e=>h2 e.symm
          simp [h1,h2,h3]
     obtain ⟨hb,hhb⟩:∃b,b=decide (q2 ∈ S.take i):=⟨_,rfl⟩;have HSTEP:Hid ((hb || decide (s=q2))=decide (q2 ∈ S.take (i+1))):=mg hb hhb;rw [← hhb];clear mg hhb;have x:=BX.out.keep KR.out;have x0:=x.c0;have x1:=x.c1;have x2:=x.c2;have x3:=x.c3;have xz:=x.lt;clear x;go_upto_region 12 with fail
     clear x0 x1 x2 x3 xz;have kd:Bl wr wr.drew:=(Below.refl _ wr).drew;have KD:Hid (Bl w7 wr.drew):=HK7.out.trans (kd.mono HK7.out.size);refine eD HMK kd fun aa=>?_
     generalize wr.drew=wd at aa KD ⊢;cases hb with
     | true =>
      refine aO 0 12 aa ?_;refine dN ?_;clear aa HMK kd;go_wp2;go_roundw
      case rel=>exact ⟨i+1,by rw [show ((i+1:Nat):Int)=(i:Int)+1 by omega],by omega,by rw [← HSTEP.out];simp,KD.out⟩
      case measure=>simp [intOf];omega
     | false =>
      by_cases hsq:s=q2
      · have g1:(s == q2)=true:=by simpa using hsq
        refine aO 0 12 aa ?_;refine dN ?_;clear aa HMK kd;go_wp2;go_roundw
        case rel=>exact ⟨i+1,by rw [show ((i+1:Nat):Int)=(i:Int)+1 by omega],by omega,by rw [← HSTEP.out];simp [hsq],KD.out⟩
        case measure=>simp [intOf];omega
      · have g1:(s == q2)=false:=by simpa using hsq
        refine aO 0 12 aa ?_;refine dN ?_;clear aa HMK kd;go_wp2;go_roundw
        case rel=>exact ⟨i+1,by rw [show ((i+1:Nat):Int)=(i:Int)+1 by omega],by omega,by rw [← HSTEP.out];simp [hsq],KD.out⟩
        case measure=>simp [intOf];omega
   · have hltI:¬(i:Int)<(ns:Int):=by omega
     obtain rfl:i=ns:=by omega
     have HSL:Hid (S.length=i):=hsl;rw [← hsl,List.take_length];rw [hsl];obtain ⟨hb,hhb⟩:∃b,b=decide (q2 ∈ S):=⟨_,rfl⟩;rw [← hhb];have HHB:Hid (hb=decide (q2 ∈ S)):=hhb;have T8:Hid (aZ 0 wr a1 n1 k1 a2 n2 k2 (pT g3) n3 k3 M2 V2 (ch q2 S)):=T5.out.keep k5r.out;obtain ⟨h2O,h2L⟩:dO q2 (ch q2 S)=false∧ch q2 (ch q2 S)=ch q2 S:=⟨(mO q2 S).2,(mO q2 S).1⟩;have hCZ:=(jd q2 a1 n1 k1 a2 n2 k2 g3 n3 k3 M2 V2 (ch q2 S) wr HQW.out T8.out (sV HTB.out)).mono (fun e w'' h=>by rw [h2O,h2L] at h;exact h.tupT (rm HQW.out HT.out.snaps.wfs));clear h2O h2L hsl;have x:=BX.out.keep KR.out;have x0:=x.c0;have x1:=x.c1;have x2:=x.c2;have x3:=x.c3;have xz:=x.lt;clear x;have y:=BY5.out.keep k5r.out;have y0:=y.c0;have y1:=y.c1;have y2:=y.c2;have y3:=y.c3;have yz:=y.lt;clear y;clear hhb HK7;go_wp2_with fail
     clear x0 x1 x2 x3 xz y0 y1 y2 y3 yz;refine hCZ.mono ?_;rintro e w9 ⟨b1',m1',l1',b2',m2',l2',b3',m3',l3',rfl,hT9,hb9⟩;obtain ⟨Q,hQ⟩:=aI w9.heap.size;obtain ⟨w10,hw10⟩:=aI (w9.alloc (.cells #[iT q2,.slice b1' m1' l1',.slice b2' m2' l2',.slice b3' m3' l3'] 31));have kk:Bl w9 w10:=by rw [hw10];exact bZ
     have kr:Bl wr w10:=hb9.trans (kk.mono hb9.size);have T10:Hid (aZ 0 w10 a1 n1 k1 a2 n2 k2 (pT g3) n3 k3 M2 V2 (ch q2 S)):=T8.out.keep kr;have U10:Hid (aZ 0 w10 b1' m1' l1' b2' m2' l2' b3' m3' l3' M2 V2 (ch q2 S)):=hT9.keep kk;have K10:Hid (Bl W w10):=KR.out.trans (kr.mono KR.out.size);have BY10:Hid (ar w10 Y (iT q2) (.slice a1 n1 k1) (.slice a2 n2 k2) (sL g3 n3 k3)):=(BY5.out.keep k5r.out).keep kr;have BQ10:Hid (ar w10 Q (iT q2) (.slice b1' m1' l1') (.slice b2' m2' l2') (.slice b3' m3' l3')):=by rw [hw10,hQ];exact ar.new _ _ _ _ _ _
     clear hb9 hCZ kk kr hT9 T8 k5r KR;go_upto_region 14 with fail
     rw [← hw10];try rw [← hQ]
     clear hw10 hQ;have x0:=(BX.out.keep K10.out).c0;have x1:=(BX.out.keep K10.out).c1;have x2:=(BX.out.keep K10.out).c2;have x3:=(BX.out.keep K10.out).c3;have xz:=(BX.out.keep K10.out).lt;have y0:=(BY10.out).c0;have y1:=(BY10.out).c1;have y2:=(BY10.out).c2;have y3:=(BY10.out).c3;have yz:=(BY10.out).lt;have z0:=(BQ10.out).c0;have z1:=(BQ10.out).c1;have z2:=(BQ10.out).c2;have z3:=(BQ10.out).c3;have zz:=(BQ10.out).lt;have hOK:dO q2 S=(decide (i<4) && !hb):=by unfold dO;rw [HHB.out,HSL.out]
     by_cases hl4:i<4
     · have hl4I:(i:Int)<4:=by omega
       obtain ⟨OK,hOKe⟩:∃b,b=dO q2 S:=⟨_,rfl⟩;have hOKv:OK=!hb:=by rw [hOKe,hOK,decide_eq_true hl4];rfl
       rw [← hOKe];clear hOK hOKe;subst hOKv;cases hb with
       | true =>
        go_wp2_with fail
        clear y0 y1 y2 y3 yz z0 z1 z2 z3 zz;refine (eC q2 q2 0 0 _ _ _ _ _ _ _ _ _ _ _ _ _ _ _ _ _ _ M2 V2 (ch q2 S) M2 V2 (ch q2 S) _ U10.out T10.out).mono ?_;rintro e w11 ⟨rfl,hb11⟩;rw [d5];have K11:Hid (Bl W w11):=K10.out.trans (hb11.mono K10.out.size);have x:=BX.out.keep K11.out;have x0:=x.c0;have x1:=x.c1;have x2:=x.c2;have x3:=x.c3;have xz:=x.lt;clear hb11 x;go_wp2;go_ret;exact ⟨rfl,KW.out.trans (K11.out.mono KW.out.size)⟩
       | false =>
        go_wp2_with fail
        clear y0 y1 y2 y3 yz z0 z1 z2 z3 zz;refine (eC q2 q2 0 0 _ _ _ _ _ _ _ _ _ _ _ _ _ _ _ _ _ _ M2 V2 (ch q2 S) M2 V2 (ch q2 S) _ U10.out T10.out).mono ?_;rintro e w11 ⟨rfl,hb11⟩;rw [d5];have K11:Hid (Bl W w11):=K10.out.trans (hb11.mono K10.out.size);have x:=BX.out.keep K11.out;have x0:=x.c0;have x1:=x.c1;have x2:=x.c2;have x3:=x.c3;have xz:=x.lt;clear hb11 x;go_wp2;go_ret;exact ⟨rfl,KW.out.trans (K11.out.mono KW.out.size)⟩
     · have hl4I:¬(i:Int)<4:=by omega
       have hOKv:dO q2 S=false:=by rw [hOK,decide_eq_false hl4];rfl
       rw [hOKv];clear hOK hOKv;cases hb with
       | true =>
        go_wp2_with fail
        clear y0 y1 y2 y3 yz z0 z1 z2 z3 zz;refine (eC q2 q2 0 0 _ _ _ _ _ _ _ _ _ _ _ _ _ _ _ _ _ _ M2 V2 (ch q2 S) M2 V2 (ch q2 S) _ U10.out T10.out).mono ?_;rintro e w11 ⟨rfl,hb11⟩;rw [d5];have K11:Hid (Bl W w11):=K10.out.trans (hb11.mono K10.out.size);have x:=BX.out.keep K11.out;have x0:=x.c0;have x1:=x.c1;have x2:=x.c2;have x3:=x.c3;have xz:=x.lt;clear hb11 x;go_wp2;go_ret;exact ⟨rfl,KW.out.trans (K11.out.mono KW.out.size)⟩
       | false =>
        obtain ⟨s0,T,hS⟩:∃s0 T,S=s0 :: T:=by
         have:=HSL.out;match S,this with
         | x :: y,_=>exact ⟨x,y,rfl⟩
         | [],h=>simp at h;omega
        have hqn:q2 ∉ S:=by have:=HHB.out;simpa using this.symm
        have hsb:bF S q2=true:=(aY HTB.out).2.2.2.2.2.2.1;have hnow:=uc hS hsb hqn;have htd:aW q2 M2 V2 (bn S s0)=true:=by
         obtain ⟨A,B,C,hV⟩:=gw HTB.out;have h:=HTB.out;rw [hV] at h ⊢;exact o5 h s0
        have hmem:decide (s0 ∈ S)=true:=by rw [hS];simp
        have hwd:∀z ∈ bn S s0,(Lit.int .i64 z).wf=true:=fun z hz=>HT.out.snaps.wfs z (by unfold bn at hz;exact (List.mem_filter.1 hz).1)
        have HVN:Hid (V2≠[]):=fun hv=>by have:=(iy HTB.out).2.2.2.2.2;rw [hv] at this;simp at this
        have HD:Hid (aW q2 M2 V2 (bn S s0)=true∧dO q2 (bn S s0)=true∧∀z ∈ bn S s0,(Lit.int .i64 z).wf=true):=⟨htd,hnow,hwd⟩;go_wp2_with fail
        clear y0 y1 y2 y3 yz z0 z1 z2 z3 zz x0 x1 x2 x3 xz;refine (eC q2 q2 0 0 _ _ _ _ _ _ _ _ _ _ _ _ _ _ _ _ _ _ M2 V2 (ch q2 S) M2 V2 (ch q2 S) _ U10.out T10.out).mono ?_;rintro e w11 ⟨rfl,hb11⟩;rw [d5];have K11:Hid (Bl W w11):=K10.out.trans (hb11.mono K10.out.size);have CD:Hid (∀w',Bl w11 w'→Calls Tryz.prog 37 #[.agg #[iT q2,.slice am nm cm,.slice av nv cv,sL gk i cs],iT s0] w' (gq q2 M2 V2 (bn S s0) true w')):=fun w' k=>by
         have h:=(vL q2 am nm cm av nv cv gk i cs M2 V2 S s0 w' (HT.out.keep (K11.out.trans (k.mono K11.out.size))) HTB.out);rw [hmem] at h;exact h
        have HMK:Hid (∀w',Bl w11 w'→(fun w':World=>w'.cell? ⟨X,0,none⟩=some (iT q2)∧w'.cell? ⟨X,1,none⟩=some (.slice am nm cm)∧w'.cell? ⟨X,2,none⟩=some (.slice av nv cv)∧w'.cell? ⟨X,3,none⟩=some (sL gk i cs)∧X<w'.heap.size∧w'.cell? ⟨gk,0,none⟩=some (iT s0)∧gk<w'.heap.size) w'):=fun w' k=>by
         have kk:=K11.out.trans (k.mono K11.out.size);have b:=BX.out.keep kk;have hl:0<S.length:=by have:=HSL.out;omega
         have c:=(HT.out.keep kk).snaps.cells ⟨gk,0,none⟩ rfl 0 hl;have e0:S[0]=s0:=by simp [hS]
         rw [e0] at c;have c2:w'.cell? ⟨gk,0,none⟩=some (iT s0):=by simpa using c
         exact ⟨b.c0,b.c1,b.c2,b.c3,b.lt,c2,World.block_lt_of_cell? _ _ c2⟩
        clear hb11 hS hqn hsb hnow htd hmem hwd;have x:=BX.out.keep K11.out;have x0:=x.c0;have x1:=x.c1;have x2:=x.c2;have x3:=x.c3;have xz:=x.lt;clear x;go_upto_region 18 with fail
        clear x0 x1 x2 x3 xz;have kd:Bl w11 w11.drew:=(Below.refl _ w11).drew;refine eD HMK kd fun aa=>?_
        generalize w11.drew=wd at aa kd ⊢;have hi0:(0:Int)<(i:Int):=by omega
        have hi1:0<i:=by omega
        refine aO 0 3 aa ?_;refine aO 3 1 aa ?_;refine aO 4 1 aa ?_;refine my 5 9 (fun K hK=>?_) (fun K hK=>?_)
        · go_simp;refine (CD.out _ kd).mono ?_;rintro e w12 ⟨d1,e1,d2,e2,d3,e3,gs,bs,es,rfl,hR12,hb12⟩;have k12:Bl w11 w12:=kd.trans (hb12.mono kd.size);clear hb12 CD;go_wp2_with fail
          refine hK.out _ _ (HMK.out _ k12) fun aa=>?_
          (try go_frame);refine aO 6 3 aa ?_;refine aJ 9 fun K hK=>?_
          go_simp;have kc:Bl w12 (w12.alloc (.cells #[iT 0,nZ,nZ,nZ] 31)):=bZ;have BD:=ar.new w12 31 (iT 0) nZ nZ nZ;have hDl:w11.heap.size≤w12.heap.size:=k12.size;have hDe:w12.heap.size≤w12.heap.size:=Nat.le_refl _;have k13:=k12.trans (kc.mono k12.size);generalize hDD:w12.heap.size=D at BD hDl hDe ⊢;generalize w12.alloc (.cells #[iT 0,nZ,nZ,nZ] 31)=w13 at BD k13 kc ⊢;refine hK.out _ _ (HMK.out _ k13) fun aa=>?_
          (try go_frame);refine aJ 10 fun K hK=>?_
          have r0:=BD.c0;have r1:=BD.c1;have r2:=BD.c2;have r3:=BD.c3;have rf:=BD.fz;have rz:=BD.lt;go_simp;obtain ⟨w15,hw15⟩:=aI (((((w13.setCell ⟨D,0,none⟩ (iT q2)).setCell ⟨D,1,none⟩ (.slice d1 e1 e1)).setCell ⟨D,2,none⟩ (.slice d2 e2 e2)).setCell ⟨D,3,none⟩ (.slice d3 e3 e3)));have BD15:Hid (ar w15 D (iT q2) (.slice d1 e1 e1) (.slice d2 e2 e2) (.slice d3 e3 e3)):=by rw [hw15];exact (((BD.set0 _).set1 _).set2 _).set3 _
          have k15:Hid (Bl w11 w15):=by rw [hw15];exact gF k13 hDl _ _ _ _
          have hDe':w12.heap.size≤D:=by rw [hDD];exact Nat.le_refl _
          have HR15:Hid (iO wd.heap.size w12.heap.size w15 d1 e1 d2 e2 d3 e3 M2 V2 (bn S s0) gs bs es):=by
           rw [hw15];refine hR12.below ?_;exact gF kc hDe' _ _ _ _
          rw [← hw15];refine hK.out _ _ (HMK.out _ k15.out) (fun aa=>?_);clear hK K hw15 kc k13 hDD hDl hDe hDe' BD r0 r1 r2 r3 rf rz hR12 k12 kd;(try go_frame);refine aO 11 1 aa ?_;refine dN ?_;obtain ⟨hT15,g5,rfl⟩:=uq HR15.out HD.out.2.2 HVN.out;have hCN:=(jd q2 d1 e1 e1 d2 e2 e2 g5 e3 e3 M2 V2 (bn S s0) w15 HQW.out hT15 HD.out.1).mono (fun e w'' h=>by rw [HD.out.2.1] at h;exact h.tup);have x:=BD15.out;have x0:=x.c0;have x1:=x.c1;have x2:=x.c2;have x3:=x.c3;have xz:=x.lt;clear aa HMK hT15 x;go_wp2_with fail
          clear x0 x1 x2 x3 xz;refine hCN.mono ?_;rintro e w16 ⟨q6,y1,y2,y3,y4,y5,y6,y7,y8,y9,rfl,hb16⟩;have K16:Hid (Bl W w16):=K11.out.trans ((k15.out.trans (hb16.mono k15.out.size)).mono K11.out.size);clear hb16 hCN;go_wp2;go_ret;exact ⟨rfl,KW.out.trans ((K16.out.alloc K16.out.size _).mono KW.out.size)⟩
        · go_simp;have kc:Bl wd (wd.alloc (.cells #[iT 0,nZ,nZ,nZ] 31)):=bZ;have BD0:=ar.new wd 31 (iT 0) nZ nZ nZ;have hDl:w11.heap.size≤wd.heap.size:=kd.size;have k12:=kd.trans (kc.mono kd.size);generalize wd.heap.size=D at BD0 hDl ⊢;generalize wd.alloc (.cells #[iT 0,nZ,nZ,nZ] 31)=w12 at BD0 k12 ⊢;refine hK.out _ _ (HMK.out _ k12) (fun aa=>?_);clear hK K kc;(try go_frame);refine aJ 5 fun K hK=>?_
          go_simp;refine (CD.out _ k12).mono ?_;rintro e w13 ⟨d1,e1,d2,e2,d3,e3,gs,bs,es,rfl,hR12,hb12⟩;have k13:Bl w11 w13:=k12.trans (hb12.mono k12.size);have BD:=BD0.keep hb12;have hDL:D<w12.heap.size:=BD0.lt;clear hb12 CD BD0;go_wp2_with fail
          refine hK.out _ _ (HMK.out _ k13) fun aa=>?_
          (try go_frame);refine aO 6 3 aa ?_;refine aJ 10 fun K hK=>?_
          have r0:=BD.c0;have r1:=BD.c1;have r2:=BD.c2;have r3:=BD.c3;have rf:=BD.fz;have rz:=BD.lt;go_simp;obtain ⟨w15,hw15⟩:=aI (((((w13.setCell ⟨D,0,none⟩ (iT q2)).setCell ⟨D,1,none⟩ (.slice d1 e1 e1)).setCell ⟨D,2,none⟩ (.slice d2 e2 e2)).setCell ⟨D,3,none⟩ (.slice d3 e3 e3)));have BD15:Hid (ar w15 D (iT q2) (.slice d1 e1 e1) (.slice d2 e2 e2) (.slice d3 e3 e3)):=by rw [hw15];exact (((BD.set0 _).set1 _).set2 _).set3 _
          have k15:Hid (Bl w11 w15):=by rw [hw15];exact gF k13 hDl _ _ _ _
          have HR15:Hid (iO w12.heap.size w13.heap.size w15 d1 e1 d2 e2 d3 e3 M2 V2 (bn S s0) gs bs es):=by
           rw [hw15];exact ly hR12 hDL (Nat.le_refl _) (Nat.le_refl _) _ _ _ _
          rw [← hw15];refine hK.out _ _ (HMK.out _ k15.out) (fun aa=>?_);clear hK K hw15 k13 hDl hDL BD r0 r1 r2 r3 rf rz hR12 k12 kd;(try go_frame);refine aO 11 1 aa ?_;refine dN ?_;obtain ⟨hT15,g5,rfl⟩:=uq HR15.out HD.out.2.2 HVN.out;have hCN:=(jd q2 d1 e1 e1 d2 e2 e2 g5 e3 e3 M2 V2 (bn S s0) w15 HQW.out hT15 HD.out.1).mono (fun e w'' h=>by rw [HD.out.2.1] at h;exact h.tup);have x:=BD15.out;have x0:=x.c0;have x1:=x.c1;have x2:=x.c2;have x3:=x.c3;have xz:=x.lt;clear aa HMK hT15 x;go_wp2_with fail
          clear x0 x1 x2 x3 xz;refine hCN.mono ?_;rintro e w16 ⟨q6,y1,y2,y3,y4,y5,y6,y7,y8,y9,rfl,hb16⟩;have K16:Hid (Bl W w16):=K11.out.trans ((k15.out.trans (hb16.mono k15.out.size)).mono K11.out.size);clear hb16 hCN;go_wp2;go_ret;exact ⟨rfl,KW.out.trans ((K16.out.alloc K16.out.size _).mono KW.out.size)⟩
end Go.Proofs.YtpobkmjicbobdaaGreat
