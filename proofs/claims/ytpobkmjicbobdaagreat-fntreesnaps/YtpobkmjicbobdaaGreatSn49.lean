/- Walks. -/
import Derived.Test.YtpobkmjicbobdaaGreatSn46
import Derived.Test.YtpobkmjicbobdaaGreatSn47
import Derived.Test.YtpobkmjicbobdaaGreatSn48
import Derived.Shelf.GgClosure.Gives
namespace Go.Proofs.YtpobkmjicbobdaaGreat
set_option maxRecDepth 100000
set_option maxHeartbeats 40000000
open Go.RowKit
theorem x7 (cb1:Nat) (q:Int) (am:Option Addr) (nm cm:Nat) (a0 a1 a2:Option Addr) (n0 c0 n1 c1 n2 c2 kb ko nk ck:Nat) (M:List ac) (A B C:List af) (S:List Int) (sq:Int) (w:World) (hSh:kL w am nm cm a0 n0 c0 a1 n1 c1 a2 n2 c2 (some ⟨kb,ko,none⟩) nk ck M A B C S) (hcb:w.cell? ⟨cb1,0,none⟩=some (iT sq)) (hn:nk≤1000) (hm:sq ∈ S) (Q:Int) (hsn:bF S Q=true) :
 Calls Tryz.prog 103 #[.agg #[iT q,.slice am nm cm,.slice a0 n0 c0,.slice a1 n1 c1,.slice a2 n2 c2,sO kb ko nk ck],.pointer (pT cb1)] w (yZ q M A B C (bn S sq) w):=by
 obtain ⟨X,hX⟩:=aI w.heap.size;obtain ⟨W,hW⟩:=aI ((w.alloc (.cells #[iT q,.slice am nm cm,.slice a0 n0 c0,.slice a1 n1 c1,.slice a2 n2 c2,sO kb ko nk ck] 82)).alloc (.cells #[iT 0,nZ,nZ,nZ,nZ,nZ] 82));have kW:Bl w W:=by rw [hW];exact bZ.alloc (by simp) _
 have br:bE W (X+1) (iT 0) nZ nZ nZ nZ nZ:=by
  have:=bE.new (w.alloc (.cells #[iT q,.slice am nm cm,.slice a0 n0 c0,.slice a1 n1 c1,.slice a2 n2 c2,sO kb ko nk ck] 82)) 82 (iT 0) nZ nZ nZ nZ nZ;rw [World.size_alloc] at this;rw [hW,hX];exact this
 have HX:Hid (X=w.heap.size):=hX;have K0:Hid (Bl w W):=kW;have HSH:=bQ hSh;have HXL:Hid (X+1<W.heap.size):=br.lt;have CD:Hid (Calls Tryz.prog 104 #[.agg #[iT q,.slice am nm cm,.slice a0 n0 c0,.slice a1 n1 c1,.slice a2 n2 c2,sO kb ko nk ck],iT sq] W fun e w'=>∃a5 n5 c5,e=.returned (.tuple #[.agg #[iT q,.slice am nm cm,.slice a0 n0 c0,.slice a1 n1 c1,.slice a2 n2 c2,.slice a5 n5 c5],.bool true])∧aH W.heap.size w' a5 n5 c5 (bn S sq)∧Bl W w'):=rY 0 q am nm cm a0 a1 a2 n0 c0 n1 c1 n2 c2 kb ko nk ck S sq Q W (hSh.sn.keep kW) hn hm hsn;clear hm hsn;have hcl:=World.block_lt_of_cell? _ _ hcb;simp only at hcl;clear kW hSh;go_enter Tryz.func103,Tryz.ntmps103
 go_wp2_with fail
 rw [← hX,← hW];clear hX hW hcb hcl;refine CD.out.mono ?_;rintro e w1 ⟨a5,n5,c5,rfl,hI1,hb1⟩;have HI1:Hid (aH W.heap.size w1 a5 n5 c5 (bn S sq)):=hI1;clear hI1;have K1:Hid (Bl w w1):=K0.out.trans (hb1.mono K0.out.size);have br1:=br.keep hb1;have HR1:Hid (bE w1 (X+1) (iT 0) nZ nZ nZ nZ nZ):=br1;have y0:=br1.c0;have y1:=br1.c1;have y2:=br1.c2;have y3:=br1.c3;have y4:=br1.c4;have y5:=br1.c5;have yf:=br1.fz;have yz:=br1.lt;clear hb1 br br1;go_wp2;refine bodyPost_ret (v:=.tuple #[.agg #[iT q,.slice am nm cm,.slice a0 n0 c0,.slice a1 n1 c1,.slice a2 n2 c2,.slice a5 n5 c5],.bool true]) ?_ rfl ⟨_,_,_,_,_,_,_,_,_,_,_,_,_,_,_,rfl,?_,?_⟩
 · have e:=(((((HR1.out.set0 (iT q)).set1 (.slice am nm cm)).set2 (.slice a0 n0 c0)).set3 (.slice a1 n1 c1)).set4 (.slice a2 n2 c2)).set5 (.slice a5 n5 c5);simp [results,Tryz.results103,go_sem,e.c0,e.c1,e.c2,e.c3,e.c4,e.c5]
 · have hx:w.heap.size≤X+1:=by have:=HX.out;omega
   have hxl:=HXL.out;have key:∀w',Bl w w'→aH 0 w' a5 n5 c5 (bn S sq)→kL w' am nm cm a0 n0 c0 a1 n1 c1 a2 n2 c2 a5 n5 c5 M A B C (bn S sq):=fun w' k h=>⟨(HSH.out.keep k).mem,(HSH.out.keep k).r0,(HSH.out.keep k).r1,(HSH.out.keep k).r2,h⟩
   have hset:∀(w':World) (o:Nat) (u:Value),cF W.heap.size w' (w'.setCell ⟨X+1,o,none⟩ u):=fun w' o u=>cF.of_set _ _ hxl
   exact key _ (((gF K1.out hx _ _ _ _).setCell (p:=⟨X+1,4,none⟩) hx _).setCell (p:=⟨X+1,5,none⟩) hx _) (((((((HI1.out.same (hset _ _ _)).same (hset _ _ _)).same (hset _ _ _)).same (hset _ _ _)).same (hset _ _ _)).same (hset _ _ _)).lower (Nat.zero_le _))
 · have hx:w.heap.size≤X+1:=by have:=HX.out;omega
   exact ((gF K1.out hx _ _ _ _).setCell (p:=⟨X+1,4,none⟩) hx _).setCell (p:=⟨X+1,5,none⟩) hx _
theorem x8 (cb1:Nat) (q:Int) (am:Option Addr) (nm cm:Nat) (a0 a1 a2:Option Addr) (n0 c0 n1 c1 n2 c2 kb ko nk ck:Nat) (M:List ac) (A B C:List af) (S:List Int) (sq:Int) (w:World) (hSh:kL w am nm cm a0 n0 c0 a1 n1 c1 a2 n2 c2 (some ⟨kb,ko,none⟩) nk ck M A B C S) (hcb:w.cell? ⟨cb1,0,none⟩=some (iT sq)) (hn:nk≤1000) (hm:sq ∉ S) :
 Calls Tryz.prog 103 #[.agg #[iT q,.slice am nm cm,.slice a0 n0 c0,.slice a1 n1 c1,.slice a2 n2 c2,sO kb ko nk ck],.pointer (pT cb1)] w (wF w):=by
 obtain ⟨X,hX⟩:=aI w.heap.size;obtain ⟨W,hW⟩:=aI ((w.alloc (.cells #[iT q,.slice am nm cm,.slice a0 n0 c0,.slice a1 n1 c1,.slice a2 n2 c2,sO kb ko nk ck] 82)).alloc (.cells #[iT 0,nZ,nZ,nZ,nZ,nZ] 82));have kW:Bl w W:=by rw [hW];exact bZ.alloc (by simp) _
 have br:bE W (X+1) (iT 0) nZ nZ nZ nZ nZ:=by
  have:=bE.new (w.alloc (.cells #[iT q,.slice am nm cm,.slice a0 n0 c0,.slice a1 n1 c1,.slice a2 n2 c2,sO kb ko nk ck] 82)) 82 (iT 0) nZ nZ nZ nZ nZ;rw [World.size_alloc] at this;rw [hW,hX];exact this
 have HX:Hid (X=w.heap.size):=hX;have K0:Hid (Bl w W):=kW;have HSH:=bQ hSh;have HXL:Hid (X+1<W.heap.size):=br.lt;have CD:Hid (Calls Tryz.prog 104 #[.agg #[iT q,.slice am nm cm,.slice a0 n0 c0,.slice a1 n1 c1,.slice a2 n2 c2,sO kb ko nk ck],iT sq] W (wF W)):=tW 0 q am nm cm a0 a1 a2 n0 c0 n1 c1 n2 c2 kb ko nk ck S sq W (hSh.sn.keep kW) hn hm;clear hm;have hcl:=World.block_lt_of_cell? _ _ hcb;simp only at hcl;clear kW hSh;go_enter Tryz.func103,Tryz.ntmps103
 go_wp2_with fail
 rw [← hX,← hW];clear hX hW hcb hcl;refine CD.out.mono ?_;rintro e w1 ⟨q2,am2,nm2,cm2,a02,n02,c02,a12,n12,c12,a22,n22,c22,ak2,nk2,ck2,rfl,hb1⟩;have K1:Hid (Bl w w1):=K0.out.trans (hb1.mono K0.out.size);have br1:=br.keep hb1;have HR1:Hid (bE w1 (X+1) (iT 0) nZ nZ nZ nZ nZ):=br1;have y0:=br1.c0;have y1:=br1.c1;have y2:=br1.c2;have y3:=br1.c3;have y4:=br1.c4;have y5:=br1.c5;have yf:=br1.fz;have yz:=br1.lt;clear hb1 br br1;go_wp2;refine bodyPost_ret (v:=.tuple #[.agg #[iT q2,.slice am2 nm2 cm2,.slice a02 n02 c02,.slice a12 n12 c12,.slice a22 n22 c22,.slice ak2 nk2 ck2],.bool false]) ?_ rfl ⟨_,_,_,_,_,_,_,_,_,_,_,_,_,_,_,_,rfl,?_⟩
 · have e:=(((((HR1.out.set0 (iT q2)).set1 (.slice am2 nm2 cm2)).set2 (.slice a02 n02 c02)).set3 (.slice a12 n12 c12)).set4 (.slice a22 n22 c22)).set5 (.slice ak2 nk2 ck2);simp [results,Tryz.results103,go_sem,e.c0,e.c1,e.c2,e.c3,e.c4,e.c5]
 · have hx:w.heap.size≤X+1:=by have:=HX.out;omega
   exact ((gF K1.out hx _ _ _ _).setCell (p:=⟨X+1,4,none⟩) hx _).setCell (p:=⟨X+1,5,none⟩) hx _
theorem pZ (q:Int) (am:Option Addr) (nm cm:Nat) (av:Option Addr) (nv cv:Nat) (ak:Option Addr) (nk ck:Nat) (sq:Int) (q2:Int) (M2:List ac) (V2:List (List af)) (S2:List Int) (ok:Bool) (w:World)
 (hC:∀w',Bl w w'→w'.cell? ⟨w.heap.size+1,0,none⟩=some (iT sq)→Calls Tryz.prog 61 #[.agg #[iT q,.slice am nm cm,.slice av nv cv,.slice ak nk ck],.func (.func 103) #[] #[.pointer (some ⟨w.heap.size+1,0,none⟩)]] w' (gq q2 M2 V2 S2 ok w')) :
 Calls Tryz.prog 37 #[.agg #[iT q,.slice am nm cm,.slice av nv cv,.slice ak nk ck],iT sq] w (gq q2 M2 V2 S2 ok w):=by
 obtain ⟨X,hX⟩:=aI w.heap.size;obtain ⟨W,hW⟩:=aI (((w.alloc (.cells #[iT q,.slice am nm cm,.slice av nv cv,.slice ak nk ck] 31)).alloc (.cells #[iT sq] 3)).alloc (.cells #[iT 0,nZ,nZ,nZ] 31));have kW:Bl w W:=by rw [hW];exact ((bZ.alloc (by simp;try omega) _).alloc (by simp;try omega) _)
 have br:ar W (X+1+1) (iT 0) nZ nZ nZ:=by
  have:=ar.new ((w.alloc (.cells #[iT q,.slice am nm cm,.slice av nv cv,.slice ak nk ck] 31)).alloc (.cells #[iT sq] 3)) 31 (iT 0) nZ nZ nZ;simp only [World.size_alloc] at this;rw [hW,hX];exact this
 have HX:Hid (X=w.heap.size):=hX;have K0:Hid (Bl w W):=kW;have CT:Hid (Calls Tryz.prog 61 #[.agg #[iT q,.slice am nm cm,.slice av nv cv,.slice ak nk ck],.func (.func 103) #[] #[.pointer (some ⟨X+1,0,none⟩)]] W (gq q2 M2 V2 S2 ok W)):=by
  try rw [hX]
  exact hC W kW (by rw [hW];have h1:=dJ (w.alloc (.cells #[iT q,.slice am nm cm,.slice av nv cv,.slice ak nk ck] 31)) (iT sq) 3 0 _ rfl;rw [Go.WideShapes.add_plain,World.size_alloc] at h1;exact cell_later bZ h1)
 have HXL:Hid (X+1+1<W.heap.size):=br.lt;clear kW hC;go_enter Tryz.func37,Tryz.ntmps37
 go_wp2_with fail
 rw [← hX,← hW];clear hX hW;refine CT.out.mono ?_;rintro e w1 ⟨a1,n1,a2,n2,a3,n3,gs,bs,es,rfl,hR1,hb1⟩;have K1:Hid (Bl w w1):=K0.out.trans (hb1.mono K0.out.size);have HR1:Hid (iO W.heap.size w1.heap.size w1 a1 n1 a2 n2 a3 n3 M2 V2 S2 gs bs es):=hR1;have br1:=br.keep hb1;have HB1:Hid (ar w1 (X+1+1) (iT 0) nZ nZ nZ):=br1;have r0:=br1.c0;have r1:=br1.c1;have r2:=br1.c2;have r3:=br1.c3;have rf:=br1.fz;have rz:=br1.lt;clear hb1 br hR1 CT br1;go_wp2;refine bodyPost_ret (v:=.tuple #[.agg #[iT q2,.slice a1 n1 n1,.slice a2 n2 n2,.slice a3 n3 n3],.bool ok]) ?_ rfl ⟨a1,n1,a2,n2,a3,n3,gs,bs,es,rfl,?_,?_⟩
 · have e:=(((HB1.out.set0 (iT q2)).set1 (.slice a1 n1 n1)).set2 (.slice a2 n2 n2)).set3 (.slice a3 n3 n3);simp [results,Tryz.results37,go_sem,e.c0,e.c1,e.c2,e.c3]
 · exact ly HR1.out HXL.out K0.out.size (by simp [World.setCell]) _ _ _ _
 · have hx:w.heap.size≤X+1+1:=by have:=HX.out;omega
   exact gF K1.out hx _ _ _ _
theorem vL (q:Int) (am:Option Addr) (nm cm:Nat) (av:Option Addr) (nv cv gk ns cs:Nat) (M:List ac) (V:List (List af)) (S:List Int) (sq:Int) (w:World) (hT:aZ 0 w am nm cm av nv cv (pT gk) ns cs M V S) (htb:aW q M V S=true) :
 Calls Tryz.prog 37 #[.agg #[iT q,.slice am nm cm,.slice av nv cv,sL gk ns cs],iT sq] w (gq q M V (bn S sq) (decide (sq ∈ S)) w):=by
 have hf:=iy htb;have hsl:=hT.snaps.length;have hsn:=(aY htb).2.2.2.2.2.2.1;refine pZ q am nm cm av nv cv _ ns cs sq q M V (bn S sq) (decide (sq ∈ S)) w (fun w2 k2 hc2=>?_);obtain ⟨b',off,A,B,C,a0,n0,c0,a1,n1,c1,a2,n2,c2,rfl,rfl,rfl,hsh,hCS⟩:=(hT.keep k2).share htb;have hout:=mY htb;by_cases hm:sq ∈ S
 · rw [decide_eq_true hm];have hout2:mh M A B C (bn S sq):=⟨hout.bm,Nat.le_trans (sa S sq) hout.bk,hout.em,hout.b0,hout.b1,hout.b2,hout.e0,hout.e1,hout.e2⟩;exact oP (w.heap.size+1) q am nm cm b' off cv _ ns cs a0 n0 c0 a1 n1 c1 a2 n2 c2 q M A B C (bn S sq) w2 hCS (fun w3 k3=>x7 _ q am nm cm a0 a1 a2 n0 c0 n1 c1 n2 c2 gk 0 ns cs M A B C S sq w3 (hsh.keep k3) (cell_later k3 hc2) (by omega) hm q hsn) hout2
 · rw [decide_eq_false hm,vX hm];exact oR (w.heap.size+1) q am nm cm b' off cv _ ns cs a0 n0 c0 a1 n1 c1 a2 n2 c2 M A B C S w2 hsh hCS (fun w3 k3=>x8 _ q am nm cm a0 a1 a2 n0 c0 n1 c1 n2 c2 gk 0 ns cs M A B C S sq w3 (hsh.keep k3) (cell_later k3 hc2) (by omega) hm) hout
end Go.Proofs.YtpobkmjicbobdaaGreat
namespace Go.Proofs.YtpobkmjicbobdaaGreat
open Go.RowKit
set_option maxRecDepth 100000
theorem sj {s s':ByteArray} (h:¬s=s'):¬s.toList=s'.toList:=fun e=>h (by
 rw [ByteArray.toList_eq,ByteArray.toList_eq] at e
 obtain ⟨⟨x⟩⟩:=s
 obtain ⟨⟨y⟩⟩:=s'
 simpa using e)
theorem qo (s t:ByteArray) (q d n:Int) (w:World):(binOp .neq 50 (.agg #[.string s,iT q,iT d,.string t,iT n]) (.agg #[.string s,iT q,iT d,.string t,iT n])).run Tryz.prog w=.ok (.bool false) w:=by
 have hs:=run_equalIn_struct (P:=Tryz.prog) w 9999 50 #[.string s,iT q,iT d,.string t,iT n] #[.string s,iT q,iT d,.string t,iT n] (by kernel_rfl) (by kernel_rfl);simp [binOp,Op.equal,Op.maxDepth,hs,go_sem,Tryz.underlying50]
theorem qp (s t:ByteArray) (q d n:Int) (s' t':ByteArray) (q' d' n':Int) (w:World) (h:¬((s,q,d,t,n):ac)=(s',q',d',t',n')):(binOp .neq 50 (.agg #[.string s,iT q,iT d,.string t,iT n]) (.agg #[.string s',iT q',iT d',.string t',iT n'])).run Tryz.prog w=.ok (.bool true) w:=by
 have hs:=run_equalIn_struct (P:=Tryz.prog) w 9999 50 #[.string s,iT q,iT d,.string t,iT n] #[.string s',iT q',iT d',.string t',iT n'] (by kernel_rfl) (by kernel_rfl);by_cases h1:s=s'
 · subst h1;by_cases h2:q=q'
   · subst h2;by_cases h3:d=d'
     · subst h3;by_cases h4:t=t'
       · subst h4;have h5:¬n=n':=fun e=>h (by rw [e])
         simp [binOp,Op.equal,Op.maxDepth,hs,go_sem,Tryz.underlying50,h5]
       · have h4':=sj h4;simp [binOp,Op.equal,Op.maxDepth,hs,go_sem,Tryz.underlying50,h4']
     · simp [binOp,Op.equal,Op.maxDepth,hs,go_sem,Tryz.underlying50,h3]
   · simp [binOp,Op.equal,Op.maxDepth,hs,go_sem,Tryz.underlying50,h2]
 · have h4:=sj h1;simp [binOp,Op.equal,Op.maxDepth,hs,go_sem,Tryz.underlying50,h4]
theorem qD {L1 L2:List ac} {k:Nat} {l:ac} (h1:L1[k]?=some l) (h2:L2[k]?=some l) (h:L1.take k=L2.take k):L1.take (k+1)=L2.take (k+1):=by
 rw [List.take_add_one,List.take_add_one,h1,h2,h]
end Go.Proofs.YtpobkmjicbobdaaGreat
namespace Go.Proofs.YtpobkmjicbobdaaGreat
open Go.RowKit
set_option maxRecDepth 100000
end Go.Proofs.YtpobkmjicbobdaaGreat
namespace Go.Proofs.YtpobkmjicbobdaaGreat
set_option maxRecDepth 100000
set_option maxHeartbeats 40000000
open Go.RowKit
variable {k:Nat}
theorem pN (a1 a2:Option Addr) (n1 c1 n2 c2:Nat) (L1 L2:List ac) (w:World) (h1:aq w a1 n1 c1 L1) (h2:aq w a2 n2 c2 L2) :
 Calls Tryz.prog 79 #[.slice a1 n1 c1,.slice a2 n2 c2] w fun e w'=>e=.returned (.bool (decide (L1=L2)))∧Bl w w':=by
 have HN1:Hid (L1.length=n1):=h1.length;have HN2:Hid (L2.length=n2):=h2.length;have hr1:=h1.room;have hb1:=h1.big;have hr2:=h2.room;have hb2:=h2.big;unfold maxLen at hb1 hb2;have H1:=bQ h1;have H2:=bQ h2;clear h1 h2;by_cases hn:n1=n2
 · subst hn;go_enter Tryz.func79,Tryz.ntmps79
   go_wp2;go_loopw [13] (fun i wr=>∃k:Nat,k≤n1∧i=iT k∧Bl w wr∧L1.take k=L2.take k) (fun i _=>n1 - (intOf i).toNat)
   case atStart=>exact ⟨0,Nat.zero_le _,rfl,Below.refl _ _,rfl⟩
   case round =>
    obtain ⟨k,hk,rfl,hb,heq⟩:=hrel;have HEQ:Hid (L1.take k=L2.take k):=heq;clear heq;by_cases hlt:k<n1
    · obtain ⟨x1,o1,rfl,hx1⟩:=H1.out.form (by omega);obtain ⟨x2,o2,rfl,hx2⟩:=H2.out.form (by omega);obtain ⟨s,q,d,t,n,hg,_,g0,g1,g2,g3,g4⟩:=H1.out.ent hb hx1 k hlt;obtain ⟨s',q',d',t',n',hg',_,p0,p1,p2,p3,p4⟩:=H2.out.ent hb hx2 k hlt;have HG:Hid (L1[k]?=some (s,q,d,t,n)):=hg;have HG':Hid (L2[k]?=some (s',q',d',t',n')):=hg';have hltI:(k:Int)<(n1:Int):=by omega
      clear hg hg';by_cases hl:(s,q,d,t,n)=(s',q',d',t',n')
      · cases hl;have hne:=qo s t q d n;go_wp2_with fail
        go_quiet (fail)
        go_wp2;go_roundw
        case rel=>exact ⟨k+1,by omega,by go_num,below_drewN hb _,qD HG.out HG'.out HEQ.out⟩
        case measure=>simp [intOf];omega
      · have hne:=fun w=>qp s t q d n s' t' q' d' n' w hl
        have HD:Hid (¬(s,q,d,t,n)=(s',q',d',t',n')):=hl;clear hl;go_wp2_with fail
        go_quiet (fail)
        go_wp2;go_ret;refine ⟨ag (decide_eq_false ?_).symm,below_drewN hb _⟩;intro e;rw [e,HG'.out] at HG;exact HD.out (by simpa [Hid] using HG.symm)
    · go_wp2;go_ret;refine ⟨ag (decide_eq_true ?_).symm,hb⟩;have:=HEQ.out;rw [List.take_of_length_le (by rw [HN1.out];omega),List.take_of_length_le (by rw [HN2.out];omega)] at this;exact this
 · go_enter Tryz.func79,Tryz.ntmps79
   go_wp2;go_ret;refine ⟨ag (decide_eq_false ?_).symm,Below.refl _ _⟩;intro e;rw [e,HN2.out] at HN1;exact hn HN1.out.symm
def iD (i1:Int) (L1:List ac) (i2:Int) (L2:List ac):Bool:=decide (i1=i2) && decide (L1=L2)
theorem mf (i1 i2:Int) (a1 a2:Option Addr) (n1 c1 n2 c2:Nat) (L1 L2:List ac) (w:World) (h1:aq w a1 n1 c1 L1) (h2:aq w a2 n2 c2 L2) :
 Calls Tryz.prog 140 #[.agg #[.slice a1 n1 c1,iT i1],.agg #[.slice a2 n2 c2,iT i2]] w fun e w'=>e=.returned (.bool (iD i1 L1 i2 L2))∧Bl w w':=by
 have hB:Bl w ((w.alloc (.cells #[.slice a1 n1 c1,iT i1] 63)).alloc (.cells #[.slice a2 n2 c2,iT i2] 63)):=bZ.alloc (by simp) _;by_cases hi:i1=i2
 · subst hi;go_enter Tryz.func140,Tryz.ntmps140
   go_wp2_with (go_at_call 79;refine (pN _ _ _ _ _ _ L1 L2 _ (h1.keep hB) (h2.keep hB)).mono ?_;rintro e w1 ⟨rfl,hb1⟩)
   go_ret;exact ⟨ag (by simp [iD]),hB.trans (hb1.mono (by simp;omega))⟩
 · have hd:(i1 == i2)=false:=by simpa using hi
   clear h1 h2;go_enter Tryz.func140,Tryz.ntmps140
   go_wp2;go_ret;exact ⟨ag (by simp [iD,hi]),hB⟩
instance decRun:DecidableEq af:=instDecidableEqProd
theorem gV {α:Type} {B1 B2:List α} {x y:α} (h1:B1[k]?=some x) (h2:B2[k]?=some y) (hs:x=y) (h:B1.take k=B2.take k):B1.take (k+1)=B2.take (k+1):=by
 subst hs;rw [List.take_add_one,List.take_add_one,h1,h2,h]
theorem nf {α:Type} {B1 B2:List α} {x y:α} (h1:B1[k]?=some x) (h2:B2[k]?=some y) (hs:¬x=y):¬B1=B2:=by
 rintro rfl;rw [h1] at h2;cases h2;exact hs rfl
theorem lZ {m m':Int} {L L':List ac}:iD m L m' L'=decide (((L,m):af)=(L',m')):=by
 unfold iD;by_cases h1:m=m' <;> by_cases h2:L=L' <;> simp [h1,h2]
theorem vg (lo1 lo2:Nat) (a1 a2:Option Addr) (n1 c1 n2 c2:Nat) (B1 B2:List af) (w:World) (h1:aw lo1 w a1 n1 c1 B1) (h2:aw lo2 w a2 n2 c2 B2) :
 Calls Tryz.prog 139 #[.slice a1 n1 c1,.slice a2 n2 c2,.func (.func 140) #[] #[]] w fun e w'=>e=.returned (.bool (decide (B1=B2)))∧Bl w w':=by
 have HN1:Hid (B1.length=n1):=h1.length;have HN2:Hid (B2.length=n2):=h2.length;have hr1:=h1.room;have hb1:=h1.big;have hr2:=h2.room;have hb2:=h2.big;unfold maxLen at hb1 hb2;have H1:=bQ h1;have H2:=bQ h2;have eg:∀args w,(callFunc 140 args).run Tryz.prog w=.ok (.enter 140 args) w:=enters_of Tryz.func140 (by kernel_rfl) rfl;clear h1 h2;by_cases hn:n1=n2
 · subst hn;go_enter Tryz.func139,Tryz.ntmps139
   go_wp2;go_loopw [17] (fun i wr=>∃k:Nat,k≤n1∧i=iT k∧Bl w wr∧B1.take k=B2.take k) (fun i _=>n1 - (intOf i).toNat)
   case atStart=>exact ⟨0,Nat.zero_le _,rfl,Below.refl _ _,rfl⟩
   case round =>
    obtain ⟨k,hk,rfl,hb,heq⟩:=hrel;have HEQ:Hid (B1.take k=B2.take k):=heq;clear heq;by_cases hlt:k<n1
    · obtain ⟨x1,o1,rfl,hx1⟩:=H1.out.form (by omega);obtain ⟨x2,o2,rfl,hx2⟩:=H2.out.form (by omega);obtain ⟨L,m,s,n,c,hg,_,g0,g1,hL⟩:=H1.out.run hb k hlt;obtain ⟨L',m',s',n',c',hg',_,q0,q1,hL'⟩:=H2.out.run hb k hlt;have HG:Hid (B1[k]?=some (L,m)):=hg;have HG':Hid (B2[k]?=some (L',m')):=hg';have hltI:(k:Int)<(n1:Int):=by omega
      have y1:x1<wr.heap.size:=Nat.lt_of_lt_of_le hx1 hb.size;have y2:x2<wr.heap.size:=Nat.lt_of_lt_of_le hx2 hb.size;clear hg hg';have k2:Bl wr ((wr.alloc (.cells #[.slice s n c,iT m] 63)).alloc (.cells #[.slice s' n' c',iT m'] 63)):=bZ.alloc (by simp) _;obtain ⟨q,hq⟩:∃q,decide (((L,m):af)=(L',m'))=q:=⟨_,rfl⟩;have HQ:Hid (decide (((L,m):af)=(L',m'))=q):=hq;clear hq;cases q with
      | true =>
       go_wp2_with (go_at_fn 140;refine (mf _ _ _ _ _ _ _ _ L L' _ (hL.1.keep k2) (hL'.1.keep k2)).mono ?_;rw [lZ,HQ.out];rintro e w1 ⟨rfl,hb1⟩)
       go_roundw
       case rel=>exact ⟨k+1,by omega,by go_num,hb.trans ((k2.trans (hb1.mono k2.size)).mono hb.size),gV HG.out HG'.out (of_decide_eq_true HQ.out) HEQ.out⟩
       case measure=>simp [intOf];omega
      | false =>
       go_wp2_with (go_at_fn 140;refine (mf _ _ _ _ _ _ _ _ L L' _ (hL.1.keep k2) (hL'.1.keep k2)).mono ?_;rw [lZ,HQ.out];rintro e w1 ⟨rfl,hb1⟩)
       go_ret;exact ⟨ag (decide_eq_false (nf HG.out HG'.out (of_decide_eq_false HQ.out))).symm,hb.trans ((k2.trans (hb1.mono k2.size)).mono hb.size)⟩
    · go_wp2;go_ret;refine ⟨ag (decide_eq_true ?_).symm,hb⟩;have:=HEQ.out;rw [List.take_of_length_le (by rw [HN1.out];omega),List.take_of_length_le (by rw [HN2.out];omega)] at this;exact this
 · go_enter Tryz.func139,Tryz.ntmps139
   go_wp2;go_ret;refine ⟨ag (decide_eq_false ?_).symm,Below.refl _ _⟩;intro e;rw [e,HN2.out] at HN1;exact hn HN1.out.symm
theorem iw (lo1 lo2:Nat) (a1 a2:Option Addr) (n1 c1 n2 c2:Nat) (B1 B2:List af) (w:World) (h1:aw lo1 w a1 n1 c1 B1) (h2:aw lo2 w a2 n2 c2 B2) :
 Calls Tryz.prog 81 #[.slice a1 n1 c1,.slice a2 n2 c2] w fun e w'=>e=.returned (.bool (decide (B1=B2)))∧Bl w w':=by
 go_enter Tryz.func81,Tryz.ntmps81
 go_wp2_with (go_at_call 139;refine (vg lo1 lo2 _ _ _ _ _ _ B1 B2 _ h1 h2).mono ?_;rintro e w1 ⟨rfl,hb1⟩)
 go_ret;exact ⟨rfl,hb1⟩
theorem rP (lo1 lo2:Nat) (a1 a2:Option Addr) (n1 c1 n2 c2:Nat) (B1 B2:List (List af)) (w:World) (h1:bI lo1 w a1 n1 c1 B1) (h2:bI lo2 w a2 n2 c2 B2) :
 Calls Tryz.prog 80 #[.slice a1 n1 c1,.slice a2 n2 c2,.func (.func 81) #[] #[]] w fun e w'=>e=.returned (.bool (decide (B1=B2)))∧Bl w w':=by
 have HN1:Hid (B1.length=n1):=h1.length;have HN2:Hid (B2.length=n2):=h2.length;have hr1:=h1.room;have hb1:=h1.big;have hr2:=h2.room;have hb2:=h2.big;unfold maxLen at hb1 hb2;have H1:=bQ h1;have H2:=bQ h2;have eg:∀args w,(callFunc 81 args).run Tryz.prog w=.ok (.enter 81 args) w:=enters_of Tryz.func81 (by kernel_rfl) rfl;clear h1 h2;by_cases hn:n1=n2
 · subst hn;go_enter Tryz.func80,Tryz.ntmps80
   go_wp2;go_loopw [17] (fun i wr=>∃k:Nat,k≤n1∧i=iT k∧Bl w wr∧B1.take k=B2.take k) (fun i _=>n1 - (intOf i).toNat)
   case atStart=>exact ⟨0,Nat.zero_le _,rfl,Below.refl _ _,rfl⟩
   case round =>
    obtain ⟨k,hk,rfl,hb,heq⟩:=hrel;have HEQ:Hid (B1.take k=B2.take k):=heq;clear heq;by_cases hlt:k<n1
    · obtain ⟨x1,o1,rfl,hx1⟩:=H1.out.form (by omega);obtain ⟨x2,o2,rfl,hx2⟩:=H2.out.form (by omega);obtain ⟨B,s,n,c,hg,g0,hL⟩:=H1.out.level hb k hlt;obtain ⟨B',s',n',c',hg',q0,hL'⟩:=H2.out.level hb k hlt;have HG:Hid (B1[k]?=some B):=hg;have HG':Hid (B2[k]?=some B'):=hg';have hltI:(k:Int)<(n1:Int):=by omega
      have y1:x1<wr.heap.size:=Nat.lt_of_lt_of_le hx1 hb.size;have y2:x2<wr.heap.size:=Nat.lt_of_lt_of_le hx2 hb.size;clear hg hg';obtain ⟨q,hq⟩:∃q,decide (B=B')=q:=⟨_,rfl⟩;have HQ:Hid (decide (B=B')=q):=hq;clear hq;cases q with
      | true =>
       go_wp2_with (go_at_fn 81;refine (iw lo1 lo2 _ _ _ _ _ _ B B' _ hL hL').mono ?_;rw [HQ.out];rintro e w1 ⟨rfl,hb1⟩)
       go_roundw
       case rel=>exact ⟨k+1,by omega,by go_num,hb.trans ((hb1).mono hb.size),gV HG.out HG'.out (of_decide_eq_true HQ.out) HEQ.out⟩
       case measure=>simp [intOf];omega
      | false =>
       go_wp2_with (go_at_fn 81;refine (iw lo1 lo2 _ _ _ _ _ _ B B' _ hL hL').mono ?_;rw [HQ.out];rintro e w1 ⟨rfl,hb1⟩)
       go_ret;exact ⟨ag (decide_eq_false (nf HG.out HG'.out (of_decide_eq_false HQ.out))).symm,hb.trans ((hb1).mono hb.size)⟩
    · go_wp2;go_ret;refine ⟨ag (decide_eq_true ?_).symm,hb⟩;have:=HEQ.out;rw [List.take_of_length_le (by rw [HN1.out];omega),List.take_of_length_le (by rw [HN2.out];omega)] at this;exact this
 · go_enter Tryz.func80,Tryz.ntmps80
   go_wp2;go_ret;refine ⟨ag (decide_eq_false ?_).symm,Below.refl _ _⟩;intro e;rw [e,HN2.out] at HN1;exact hn HN1.out.symm
theorem vC (lo1 lo2:Nat) (a1 a2:Option Addr) (n1 c1 n2 c2:Nat) (B1 B2:List Int) (w:World) (h1:aH lo1 w a1 n1 c1 B1) (h2:aH lo2 w a2 n2 c2 B2) :
 Calls Tryz.prog 82 #[.slice a1 n1 c1,.slice a2 n2 c2] w fun e w'=>e=.returned (.bool (decide (B1=B2)))∧Bl w w':=by
 have HN1:Hid (B1.length=n1):=h1.length;have HN2:Hid (B2.length=n2):=h2.length;have hr1:=h1.room;have hb1:=h1.big;have hr2:=h2.room;have hb2:=h2.big;unfold maxLen at hb1 hb2;have H1:=bQ h1;have H2:=bQ h2;clear h1 h2;by_cases hn:n1=n2
 · subst hn;go_enter Tryz.func82,Tryz.ntmps82
   go_wp2;go_loopw [13] (fun i wr=>∃k:Nat,k≤n1∧i=iT k∧Bl w wr∧B1.take k=B2.take k) (fun i _=>n1 - (intOf i).toNat)
   case atStart=>exact ⟨0,Nat.zero_le _,rfl,Below.refl _ _,rfl⟩
   case round =>
    obtain ⟨k,hk,rfl,hb,heq⟩:=hrel;have HEQ:Hid (B1.take k=B2.take k):=heq;clear heq;by_cases hlt:k<n1
    · obtain ⟨x1,o1,rfl,hx1⟩:=H1.out.form (by omega);obtain ⟨x2,o2,rfl,hx2⟩:=H2.out.form (by omega);obtain ⟨q,hg,_,g0⟩:=H1.out.num hb k hlt;obtain ⟨q',hg',_,q0⟩:=H2.out.num hb k hlt;have HG:Hid (B1[k]?=some q):=hg;have HG':Hid (B2[k]?=some q'):=hg';have hltI:(k:Int)<(n1:Int):=by omega
      have y1:x1<wr.heap.size:=Nat.lt_of_lt_of_le hx1 hb.size;have y2:x2<wr.heap.size:=Nat.lt_of_lt_of_le hx2 hb.size;clear hg hg';by_cases hq:q=q'
      · subst hq;go_wp2_with fail
        go_quiet (fail)
        go_wp2;go_roundw
        case rel=>exact ⟨k+1,by omega,by go_num,below_drewN hb _,gV HG.out HG'.out rfl HEQ.out⟩
        case measure=>simp [intOf];omega
      · have HQ:Hid (¬q=q'):=hq;have hd:(q == q')=false:=by simpa using hq
        go_wp2_with fail
        go_quiet (fail)
        go_wp2;go_ret;exact ⟨ag (decide_eq_false (nf HG.out HG'.out HQ.out)).symm,below_drewN hb _⟩
    · go_wp2;go_ret;refine ⟨ag (decide_eq_true ?_).symm,hb⟩;have:=HEQ.out;rw [List.take_of_length_le (by rw [HN1.out];omega),List.take_of_length_le (by rw [HN2.out];omega)] at this;exact this
 · go_enter Tryz.func82,Tryz.ntmps82
   go_wp2;go_ret;refine ⟨ag (decide_eq_false ?_).symm,Below.refl _ _⟩;intro e;rw [e,HN2.out] at HN1;exact hn HN1.out.symm
end Go.Proofs.YtpobkmjicbobdaaGreat
