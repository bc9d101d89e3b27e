/- Walks. -/
import Derived.Test.YtpobkmjicbobdaaGreatBc37
namespace Go.Proofs.YtpobkmjicbobdaaGreat
set_option maxRecDepth 100000
set_option maxHeartbeats 40000000
open Go.RowKit
variable {base c g i n:Nat} {w w':World}
theorem ix {q:Int} {M:List ae} {A B C:List aj} {S:List Int} (htb:aY q M [A,B,C] S=true):(A.length≤4∧B.length≤8∧C.length≤8)∧(∀Z ∈ [A,B,C],∀r ∈ Z,cF r.1 r.2=true)∧bu B=true∧bu C=true:=by
 have b:ef [A,B,C] q=true:=(aZ htb).2.2.2.2.2.2.2.1;unfold ef at b;simp only [FJ] at b;obtain ⟨hA,hB,hC⟩:=b;rw [cE] at hA hB hC;have hb:∀{Z:List aj},eT Z=false→∀r ∈ Z,cF r.1 r.2=true:=fun {Z} h r hr=>by
  unfold eT at h;rw [Hc] at h;simpa using h r hr
 refine ⟨⟨by have:=hA.1;omega,by have:=hB.1;omega,by have:=hC.1;omega⟩,fun Z d=>?_,hB.2.2.2 rfl,hC.2.2.2 rfl⟩;simp only [FF,F4,or_false] at d;rcases d with rfl | rfl | rfl
 · exact hb hA.2.1
 · exact hb hB.2.1
 · exact hb hC.2.1
theorem sP (L:List ae) (key:ByteArray) (seq:Int):aR (aR L key seq) key seq=aR L key seq:=by
 unfold aR;rw [List.filter_filter];simp
theorem qt (L K:List ae) (key:ByteArray) (seq:Int):aR (L++K) key seq=aR L key seq++aR K key seq:=by
 unfold aR;rw [Gt]
theorem AB (M F:List ae) (key:ByteArray) (seq:Int):gH (M++F) key seq=gH (aR M key seq++F) key seq:=by
 unfold gH;rw [qt,qt,sP]
def eU (M:List ae) (V:List (List aj)) (key:ByteArray) (seq:Int):fe:=gH (M++V.flatMap (fun Z=>bf Z key seq)) key seq
theorem tf (lo:Nat) (q:Int) (K R H:Option Addr) (J I L D N E:Nat) (M:List ae) (V:List (List aj)) (S:List Int) (key:ByteArray) (seq:Int) (w:World) (hT:cj lo w K J I R L D H N E M V S) :
 Calls Tryz.prog 40 #[.agg #[iT q,.slice K J I,.slice R L D,.slice H N E],.string key,iT seq] w fun e w'=>e=.returned (eW (if aY q M V S=true then eU M V key seq else (false,⟨#[]⟩,0)))∧Bl w w':=by
 obtain ⟨X,hX⟩:=aG w.heap.size;obtain ⟨W,hW⟩:=aG ((w.alloc (.cells #[iT q,.slice K J I,.slice R L D,.slice H N E] 31)).alloc (.cells #[.bool false,.string ⟨#[]⟩,iT 0] 57));have kW:Bl w W:=by rw [hW];exact bZ.alloc (by simp) _
 have bx:aE W X (iT q) (.slice K J I) (.slice R L D) (.slice H N E):=by rw [hW,hX];exact (aE.new _ _ _ _ _ _).alloc _
 have a9:Eq (W.cell? ⟨X+1,0,none⟩=some (.bool false)∧W.cell? ⟨X+1,1,none⟩=some (.string ⟨#[]⟩)∧W.cell? ⟨X+1,2,none⟩=some (iT 0)∧(∀o,W.frozen? ⟨X+1,o,none⟩=false)∧X+1<W.heap.size):=by
  rw [hW,hX];refine ⟨?_,?_,?_,fun o=>?_,?_⟩ <;> simp
 have K0:Eq (Bl w W):=kW;have HX:Eq (X=w.heap.size):=hX;have BX:Eq (aE W X (iT q) (.slice K J I) (.slice R L D) (.slice H N E)):=bx;obtain ⟨TB,x⟩:=aG (aY q M V S);have CO:Eq (Calls Tryz.prog 27 #[.agg #[iT q,.slice K J I,.slice R L D,.slice H N E]] W fun e Y=>e=.returned (.bool TB)∧Bl W Y):=by rw [x];exact gZ lo q _ _ _ _ _ _ _ _ _ M V S W (hT.keep kW)
 obtain ⟨RC,s⟩:=aG (eW (if aY q M V S=true then eU M V key seq else (false,⟨#[]⟩,0)));obtain ⟨u,t,y,d⟩:∃(u:Bool) (t:ByteArray) (y:Int),RC=.agg #[.bool u,.string t,iT y]:=by
  rw [s];exact ⟨_,_,_,rfl⟩
 have CL:Eq (TB=true→∀w',Bl W w'→Calls Tryz.prog 108 #[.agg #[iT q,.slice K J I,.slice R L D,.slice H N E],.string key,iT seq] w' fun e Y=>e=.returned (.agg #[.bool u,.string t,iT y])∧Bl w' Y):=fun F w' kk=>by
  rw [x] at F;rw [← d,s,if_pos F];obtain ⟨A,B,C,ao⟩:=eS F;subst ao;have ai:L=3:=hT.levels.length.symm;subst ai;obtain ⟨b,ap,rfl,_⟩:=hT.levels.form (by omega);obtain ⟨hl,ag,_⟩:=ix F;have aw:=(aZ F).2.2.1;have ax:=hT.mem.1.length;unfold eU;rw [AB];exact zl lo q K J I b ap D H N E M A B C S key seq w' ((hT.keep kW).keep kk) (by omega) (fun Z hZ=>by simp only [FF,F4,or_false] at hZ;rcases hZ with rfl | rfl | rfl <;> omega) ag
 have al:Eq (TB=false→u=false∧t=⟨#[]⟩∧y=0):=fun F=>by
  rw [x] at F;rw [s,F] at d;simp only [Hn,if_false,eW,Value.agg.injEq] at d;simp at d;exact ⟨by first | exact d.1 | exact d.1.symm,by first | exact d.2.1 | exact d.2.1.symm,by first | exact d.2.2 | exact d.2.2.symm⟩
 rw [← s,d];clear s d x hT kW;have x0:=bx.all;clear bx;go_enter Tryz.func40,Tryz.ntmps40
 go_wp2_with fail
 rw [← hX,← hW];clear hX hW x0;refine CO.o.mono ?_;rintro e w1 ⟨rfl,f⟩;cases TB with
 | false =>
  obtain ⟨rfl,rfl,rfl⟩:=al.o rfl;obtain ⟨r,a4⟩:=aG w1;rw [← a4] at f ⊢;clear a4;obtain ⟨U,T,r2,rf,Q⟩:=a9.o;have U:=cell_later f U;have T:=cell_later f T;have r2:=cell_later f r2;have rf:∀o,r.frozen? ⟨X+1,o,none⟩=false:=fun o=>(f.frozen (p:=⟨X+1,o,none⟩) Q).trans (rf o)
  have Q:=u' Q f.size;have K2:Eq (Bl w r):=K0.o.trans (f.mono K0.o.size);clear f;go_wp2;refine bodyPost_ret (v:=.agg #[.bool false,.string ⟨#[]⟩,iT 0]) ?_ rfl ⟨rfl,?_⟩
  · have a1:(((r.setCell ⟨X+1,0,none⟩ (.bool false)).setCell ⟨X+1,1,none⟩ (.string ⟨#[]⟩)).setCell ⟨X+1,2,none⟩ (iT 0)).cell? ⟨X+1,0,none⟩=some (.bool false):=by rw [Ft _ _ _ _ (by simp),Ft _ _ _ _ (by simp)];exact FD _ _ _ (by rw [U];rfl)
    have a2:(((r.setCell ⟨X+1,0,none⟩ (.bool false)).setCell ⟨X+1,1,none⟩ (.string ⟨#[]⟩)).setCell ⟨X+1,2,none⟩ (iT 0)).cell? ⟨X+1,1,none⟩=some (.string ⟨#[]⟩):=by rw [Ft _ _ _ _ (by simp)];exact FD _ _ _ (by rw [Ft _ _ _ _ (by simp),T];rfl)
    have a0:(((r.setCell ⟨X+1,0,none⟩ (.bool false)).setCell ⟨X+1,1,none⟩ (.string ⟨#[]⟩)).setCell ⟨X+1,2,none⟩ (iT 0)).cell? ⟨X+1,2,none⟩=some (iT 0):=FD _ _ _ (by rw [Ft _ _ _ _ (by simp),Ft _ _ _ _ (by simp),r2];rfl);simp [results,Tryz.results40,go_sem,a1,a2,a0]
  · have hx:w.heap.size≤X+1:=by have:=HX.o;omega
    exact ((K2.o.setCell (p:=⟨X+1,0,none⟩) hx _).setCell (p:=⟨X+1,1,none⟩) hx _).setCell (p:=⟨X+1,2,none⟩) hx _
 | true =>
  have a6:=BX.o.keep f;have x0:=a6.all;have O:Eq (Bl W w1):=f;clear a6 f;go_wp2_with fail
  clear x0;refine (CL.o (by first | rfl | trivial) _ O.o).mono ?_;rintro e r ⟨rfl,aa⟩;have m:=O.o.trans (aa.mono O.o.size);clear aa;obtain ⟨U,T,r2,rf,Q⟩:=a9.o;have U:=cell_later m U;have T:=cell_later m T;have r2:=cell_later m r2;have rf:∀o,r.frozen? ⟨X+1,o,none⟩=false:=fun o=>(m.frozen (p:=⟨X+1,o,none⟩) Q).trans (rf o)
  have Q:=u' Q m.size;have K2:Eq (Bl w r):=K0.o.trans (m.mono K0.o.size);clear m;go_wp2;refine bodyPost_ret (v:=.agg #[.bool u,.string t,iT y]) ?_ rfl ⟨rfl,?_⟩
  · have a1:(((r.setCell ⟨X+1,0,none⟩ (.bool u)).setCell ⟨X+1,1,none⟩ (.string t)).setCell ⟨X+1,2,none⟩ (iT y)).cell? ⟨X+1,0,none⟩=some (.bool u):=by rw [Ft _ _ _ _ (by simp),Ft _ _ _ _ (by simp)];exact FD _ _ _ (by rw [U];rfl)
    have a2:(((r.setCell ⟨X+1,0,none⟩ (.bool u)).setCell ⟨X+1,1,none⟩ (.string t)).setCell ⟨X+1,2,none⟩ (iT y)).cell? ⟨X+1,1,none⟩=some (.string t):=by rw [Ft _ _ _ _ (by simp)];exact FD _ _ _ (by rw [Ft _ _ _ _ (by simp),T];rfl)
    have a0:(((r.setCell ⟨X+1,0,none⟩ (.bool u)).setCell ⟨X+1,1,none⟩ (.string t)).setCell ⟨X+1,2,none⟩ (iT y)).cell? ⟨X+1,2,none⟩=some (iT y):=FD _ _ _ (by rw [Ft _ _ _ _ (by simp),Ft _ _ _ _ (by simp),r2];rfl);simp [results,Tryz.results40,go_sem,a1,a2,a0]
  · have hx:w.heap.size≤X+1:=by have:=HX.o;omega
    exact ((K2.o.setCell (p:=⟨X+1,0,none⟩) hx _).setCell (p:=⟨X+1,1,none⟩) hx _).setCell (p:=⟨X+1,2,none⟩) hx _
theorem pW (q:Int) (B x u:Option Addr) (A y C m D r:Nat) (key:ByteArray) (seq:Int) (w:World)
 (hC:∀w',Bl w w'→Calls Tryz.prog 86 #[.agg #[iT q,.slice B A y,.slice x C m,.slice u D r]] w' fun e J=>(∃(E:Int) (m' x0 x1 x2 U:Value),e=.returned (.tuple #[.agg #[iT E,m',x0,x1,x2,U],.bool false])∧(∃a n c,m'=.slice a n c)∧(∃a n c,x0=.slice a n c)∧(∃a n c,x1=.slice a n c)∧(∃a n c,x2=.slice a n c)∧(∃a n c,U=.slice a n c))∧Bl w' J) :
 Calls Tryz.prog 39 #[.agg #[iT q,.slice B A y,.slice x C m,.slice u D r],.string key,iT seq] w fun e w'=>e=.returned (.agg #[.bool false,.string ⟨#[]⟩,iT 0])∧Bl w w':=by
 obtain ⟨X,t⟩:=aG w.heap.size;obtain ⟨W,s⟩:=aG ((w.alloc (.cells #[iT q,.slice B A y,.slice x C m,.slice u D r] 31)).alloc (.cells #[.bool false,.string ⟨#[]⟩,iT 0] 57));have O:Bl w W:=by rw [s];exact bZ.alloc (by simp) _
 have N:aE W X (iT q) (.slice B A y) (.slice x C m) (.slice u D r):=by rw [s,t];exact (aE.new _ _ _ _ _ _).alloc _
 have K:Eq (W.cell? ⟨X+1,0,none⟩=some (.bool false)∧W.cell? ⟨X+1,1,none⟩=some (.string ⟨#[]⟩)∧W.cell? ⟨X+1,2,none⟩=some (iT 0)∧(∀o,W.frozen? ⟨X+1,o,none⟩=false)∧X+1<W.heap.size):=by
  rw [s,t];refine ⟨?_,?_,?_,fun o=>?_,?_⟩ <;> simp
 have K0:Eq (Bl w W):=O;have HX:Eq (X=w.heap.size):=t;have BX:Eq (aE W X (iT q) (.slice B A y) (.slice x C m) (.slice u D r)):=N;have T:=hC W O;have x0:=N.all;clear N O hC;go_enter Tryz.func39,Tryz.ntmps39
 go_wp2_with fail
 rw [← t,← s];clear t s x0;refine T.mono ?_;rintro e Z ⟨⟨E,_,_,_,_,_,rfl,⟨m1,m2,m3,rfl⟩,⟨y1,y2,y3,rfl⟩,⟨z1,z2,z3,rfl⟩,⟨u1,u2,u3,rfl⟩,⟨v1,v2,v3,rfl⟩⟩,f⟩;obtain ⟨w2,d⟩:=aG (Z.alloc (.cells #[iT E,.slice m1 m2 m3,.slice y1 y2 y3,.slice z1 z2 z3,.slice u1 u2 u3,.slice v1 v2 v3] 82));have k2:Bl Z w2:=by rw [d];exact bZ
 have b:=f.trans (k2.mono f.size);clear f k2;go_upto_region 2 with fail
 rw [← d];clear d T;obtain ⟨I,H,r2,Y,F⟩:=K.o;have I:=cell_later b I;have H:=cell_later b H;have r2:=cell_later b r2;have Y:∀o,w2.frozen? ⟨X+1,o,none⟩=false:=fun o=>(b.frozen (p:=⟨X+1,o,none⟩) F).trans (Y o)
 have F:=u' F b.size;have K2:Eq (Bl w w2):=K0.o.trans (b.mono K0.o.size);clear b;go_wp2;refine bodyPost_ret (v:=.agg #[.bool false,.string ⟨#[]⟩,iT 0]) ?_ rfl ⟨rfl,?_⟩
 · have Q:(((w2.setCell ⟨X+1,0,none⟩ (.bool false)).setCell ⟨X+1,1,none⟩ (.string ⟨#[]⟩)).setCell ⟨X+1,2,none⟩ (iT 0)).cell? ⟨X+1,0,none⟩=some (.bool false):=by rw [Ft _ _ _ _ (by simp),Ft _ _ _ _ (by simp)];exact FD _ _ _ (by rw [I];rfl)
   have R:(((w2.setCell ⟨X+1,0,none⟩ (.bool false)).setCell ⟨X+1,1,none⟩ (.string ⟨#[]⟩)).setCell ⟨X+1,2,none⟩ (iT 0)).cell? ⟨X+1,1,none⟩=some (.string ⟨#[]⟩):=by rw [Ft _ _ _ _ (by simp)];exact FD _ _ _ (by rw [Ft _ _ _ _ (by simp),H];rfl)
   have L:(((w2.setCell ⟨X+1,0,none⟩ (.bool false)).setCell ⟨X+1,1,none⟩ (.string ⟨#[]⟩)).setCell ⟨X+1,2,none⟩ (iT 0)).cell? ⟨X+1,2,none⟩=some (iT 0):=FD _ _ _ (by rw [Ft _ _ _ _ (by simp),Ft _ _ _ _ (by simp),r2];rfl);simp [results,Tryz.results39,go_sem,Q,R,L]
 · have hx:w.heap.size≤X+1:=by have:=HX.o;omega
   exact ((K2.o.setCell (p:=⟨X+1,0,none⟩) hx _).setCell (p:=⟨X+1,1,none⟩) hx _).setCell (p:=⟨X+1,2,none⟩) hx _
theorem oH (q:Int) (I E D:Option Addr) (H F J y L A:Nat) (s0 Q s2 O Y:Value) (hs:(∃a n c,s0=.slice a n c)∧(∃a n c,Q=.slice a n c)∧(∃a n c,s2=.slice a n c)∧(∃a n c,O=.slice a n c)∧(∃a n c,Y=.slice a n c)) (key:ByteArray) (seq:Int) (m:Bool) (f:ByteArray) (r:Int) (w:World)
 (hC:∀w',Bl w w'→Calls Tryz.prog 86 #[.agg #[iT q,.slice I H F,.slice E J y,.slice D L A]] w' fun e d=>e=.returned (.tuple #[.agg #[iT q,s0,Q,s2,O,Y],.bool true])∧Bl w' d)
 (hD:∀w',Bl w w'→Calls Tryz.prog 107 #[.agg #[iT q,s0,Q,s2,O,Y],.string key,iT seq] w' fun e d=>e=.returned (.agg #[.bool m,.string f,iT r])∧Bl w' d) :
 Calls Tryz.prog 39 #[.agg #[iT q,.slice I H F,.slice E J y,.slice D L A],.string key,iT seq] w fun e w'=>e=.returned (.agg #[.bool m,.string f,iT r])∧Bl w w':=by
 obtain ⟨⟨m1,m2,m3,rfl⟩,⟨y1,y2,y3,rfl⟩,⟨z1,z2,z3,rfl⟩,⟨u1,u2,u3,rfl⟩,⟨v1,v2,v3,rfl⟩⟩:=hs;obtain ⟨X,C⟩:=aG w.heap.size;obtain ⟨W,B⟩:=aG ((w.alloc (.cells #[iT q,.slice I H F,.slice E J y,.slice D L A] 31)).alloc (.cells #[.bool false,.string ⟨#[]⟩,iT 0] 57));have kW:Bl w W:=by rw [B];exact bZ.alloc (by simp) _
 have bx:aE W X (iT q) (.slice I H F) (.slice E J y) (.slice D L A):=by rw [B,C];exact (aE.new _ _ _ _ _ _).alloc _
 have Z:Eq (W.cell? ⟨X+1,0,none⟩=some (.bool false)∧W.cell? ⟨X+1,1,none⟩=some (.string ⟨#[]⟩)∧W.cell? ⟨X+1,2,none⟩=some (iT 0)∧(∀o,W.frozen? ⟨X+1,o,none⟩=false)∧X+1<W.heap.size):=by
  rw [B,C];refine ⟨?_,?_,?_,fun o=>?_,?_⟩ <;> simp
 have N:Eq (Bl w W):=kW;have HX:Eq (X=w.heap.size):=C;have BX:Eq (aE W X (iT q) (.slice I H F) (.slice E J y) (.slice D L A)):=bx;have CS:=hC W kW;have CD:Eq (∀w',Bl w w'→Calls Tryz.prog 107 #[.agg #[iT q,.slice m1 m2 m3,.slice y1 y2 y3,.slice z1 z2 z3,.slice u1 u2 u3,.slice v1 v2 v3],.string key,iT seq] w' fun e d=>e=.returned (.agg #[.bool m,.string f,iT r])∧Bl w' d):=hD;have x0:=bx.all;clear bx kW hC hD;go_enter Tryz.func39,Tryz.ntmps39
 go_wp2_with fail
 rw [← C,← B];clear C B x0;refine CS.mono ?_;rintro e w1 ⟨rfl,s⟩;obtain ⟨wb,t⟩:=aG (w1.alloc (.cells #[iT q,.slice m1 m2 m3,.slice y1 y2 y3,.slice z1 z2 z3,.slice u1 u2 u3,.slice v1 v2 v3] 82));have kb:Bl w1 wb:=by rw [t];exact bZ
 have u:Eq (Bl W wb):=s.trans (kb.mono s.size);clear s kb;go_wp2_with fail
 rw [← t];clear t CS;refine (CD.o _ (N.o.trans (u.o.mono N.o.size))).mono ?_;rintro e x ⟨rfl,K⟩;have b:=u.o.trans (K.mono u.o.size);clear K;obtain ⟨U,T,r2,rf,R⟩:=Z.o;have U:=cell_later b U;have T:=cell_later b T;have r2:=cell_later b r2;have rf:∀o,x.frozen? ⟨X+1,o,none⟩=false:=fun o=>(b.frozen (p:=⟨X+1,o,none⟩) R).trans (rf o)
 have R:=u' R b.size;have K2:Eq (Bl w x):=N.o.trans (b.mono N.o.size);clear b;go_wp2;refine bodyPost_ret (v:=.agg #[.bool m,.string f,iT r]) ?_ rfl ⟨rfl,?_⟩
 · have a3:(((x.setCell ⟨X+1,0,none⟩ (.bool m)).setCell ⟨X+1,1,none⟩ (.string f)).setCell ⟨X+1,2,none⟩ (iT r)).cell? ⟨X+1,0,none⟩=some (.bool m):=by rw [Ft _ _ _ _ (by simp),Ft _ _ _ _ (by simp)];exact FD _ _ _ (by rw [U];rfl)
   have a5:(((x.setCell ⟨X+1,0,none⟩ (.bool m)).setCell ⟨X+1,1,none⟩ (.string f)).setCell ⟨X+1,2,none⟩ (iT r)).cell? ⟨X+1,1,none⟩=some (.string f):=by rw [Ft _ _ _ _ (by simp)];exact FD _ _ _ (by rw [Ft _ _ _ _ (by simp),T];rfl)
   have a0:(((x.setCell ⟨X+1,0,none⟩ (.bool m)).setCell ⟨X+1,1,none⟩ (.string f)).setCell ⟨X+1,2,none⟩ (iT r)).cell? ⟨X+1,2,none⟩=some (iT r):=FD _ _ _ (by rw [Ft _ _ _ _ (by simp),Ft _ _ _ _ (by simp),r2];rfl);simp [results,Tryz.results39,go_sem,a3,a5,a0]
 · have hx:w.heap.size≤X+1:=by have:=HX.o;omega
   exact ((K2.o.setCell (p:=⟨X+1,0,none⟩) hx _).setCell (p:=⟨X+1,1,none⟩) hx _).setCell (p:=⟨X+1,2,none⟩) hx _
abbrev cW:=Nat × Nat × Nat × Nat × Nat
def gY (x:cW):List Value:=[.slice (some ⟨x.1,x.2.1,none⟩) x.2.2.1 x.2.2.2.1,iT x.2.2.2.2]
def fq (X:List cW):List Value:=X.flatMap gY
theorem ij (x:cW) (X:List cW):fq (x :: X)=.slice (some ⟨x.1,x.2.1,none⟩) x.2.2.1 x.2.2.2.1 :: iT x.2.2.2.2 :: fq X:=rfl
theorem tG (A B:List cW):fq (A++B)=fq A++fq B:=by simp [fq]
theorem An (X:List cW):(fq X).length=X.length*2:=by
 induction X with
 | nil=>rfl
 | cons x r b=>rw [ij,F5,F5,b,F5];omega
theorem sM:∀(X:List cW) (j:Nat) (x:cW),X[j]?=some x→(fq X)[j*2]?=some (.slice (some ⟨x.1,x.2.1,none⟩) x.2.2.1 x.2.2.2.1)∧(fq X)[j*2+1]?=some (iT x.2.2.2.2)
 | [],j,x,h=>by simp at h
 | y :: X,0,x,h=>by simp at h;subst h;exact ⟨rfl,rfl⟩
 | y :: X,j+1,x,h=>by
  have:=sM X j x (by simpa using h)
  rw [ij,show (j+1)*2=j*2+1+1 by omega]
  exact ⟨by rw [Gw,Gw];exact this.1,by rw [Gw,Gw];exact this.2⟩
theorem sK:∀(X:List cW) (j:Nat) (x:cW),((fq X).set (j*2) (.slice (some ⟨x.1,x.2.1,none⟩) x.2.2.1 x.2.2.2.1)).set (j*2+1) (iT x.2.2.2.2)=fq (X.set j x)
 | [],j,x=>rfl
 | y :: X,0,x=>rfl
 | y :: X,j+1,x=>by
  have:=sK X j x
  rw [ij,show (j+1)*2=j*2+1+1 by omega,GL,GL,GL,GL,this]
  rfl
structure fT (w:World) (base g n c:Nat) (X:List cW):Prop where
 owns:w.ownsRow base 164 2 (sL g n c) n (fq X)
 len:X.length=n
theorem fT.lt {X:List cW} (h:fT w base g n c X):base≤g∧g<w.heap.size:=h.owns.lt g rfl
theorem fT.grown {X:List cW} {row:Option Nat} (h:fT w base g n c X) (hg:w.grownBy w' row) (b:some g≠row):fT w' base g n c X:=⟨h.owns.kept hg (.inr b),h.len⟩
theorem fT.below {X:List cW} (h:fT w base g n c X) (hb:Bl w w'):fT w' base g n c X :=
 h.grown (row:=none) ⟨hb.os,hb.tape,hb.output,hb.size,fun k hk _=>hb.block k hk⟩ (by simp)
theorem fT.at2 {X:List cW} {x:cW} (h:fT w base g n c X) (hx:X[i]?=some x):w.cell? ⟨g,i*2,none⟩=some (.slice (some ⟨x.1,x.2.1,none⟩) x.2.2.1 x.2.2.2.1)∧w.cell? ⟨g,i*2+1,none⟩=some (iT x.2.2.2.2):=by
 have hc:=h.owns.cells (g:=g) rfl;obtain ⟨h0,h1⟩:=sM X i x hx;have a0:=hc _ _ h0;have a1:=hc _ _ h1;rw [FO] at a0 a1;simp only [FG] at a0 a1;exact ⟨a0,a1⟩
theorem fT.cells {X:List cW} (h:fT w base g n c X):∃b,w.heap[g]?=some (.cells b 164 (0,0)):=by
 rcases h.owns.2 with ⟨hv,_⟩ | ⟨f,e,d,hv,_,hg,_⟩
 · cases hv
 · cases hv;exact ⟨_,hg⟩
def setH (w:World) (g i:Nat) (x:cW):World:=(w.setCell ⟨g,i*2,none⟩ (.slice (some ⟨x.1,x.2.1,none⟩) x.2.2.1 x.2.2.2.1)).setCell ⟨g,i*2+1,none⟩ (iT x.2.2.2.2)
theorem fT.setH {X:List cW} {x:cW} (h:fT w base g n c X):fT (setH w g i x) base g n c (X.set i x):=by
 have t0:=h.owns.stored (i*2) (.slice (some ⟨x.1,x.2.1,none⟩) x.2.2.1 x.2.2.2.1);have b:=t0.1.stored (i*2+1) (iT x.2.2.2.2);refine ⟨?_,by simp [h.len]⟩;have h1:=b.1;rw [sK] at h1;exact h1
theorem fE (w:World) (g o:Nat) (v:Value):w.grownBy (w.setCell ⟨g,o,none⟩ v) (some g) :=
 ⟨rfl,rfl,rfl,by simp [World.setCell],fun k _ hk=>Below.heap_setCell _ _ _ _ (fun e=>hk (by rw [e]))⟩
theorem jo (w:World) (g i:Nat) (x:cW):w.grownBy (Go.Proofs.YtpobkmjicbobdaaGreat.setH w g i x) (some g):=(fE _ _ _ _).trans (fE _ _ _ _)
section
attribute [local go_sem] Gi
theorem qg (a:Option Addr) (n c:Nat) (w:World):Calls Tryz.prog 306 #[.slice a n c] w fun e w'=>e=.returned (iT n)∧w'=w:=by
 go_enter Tryz.func306,Tryz.ntmps306
 go_wp2;go_ret;exact ⟨rfl,rfl⟩
theorem iS (base g n c i j:Nat) (X:List cW) (x y:cW) (w:World) (hO:fT w base g n c X) (hx:X[i]?=some x) (hy:X[j]?=some y) :
 Calls Tryz.prog 308 #[sL g n c,iT i,iT j] w fun e w'=>e=.returned (.tuple #[])∧fT w' base g n c ((X.set i y).set j x)∧w.grownBy w' (some g):=by
 obtain ⟨F,J,E,H,D⟩:=x;obtain ⟨B,A,C,L,I⟩:=y;have Z:Eq (X[i]?=some (F,J,E,H,D)):=hx;have HY:Eq (X[j]?=some (B,A,C,L,I)):=hy;have W:Eq (X.length=n):=hO.len;have HI:Eq (i<n):=by have:=(E'.1 hx).1;have:=hO.len;show i<n;omega
 have HJ:Eq (j<n):=by have:=(E'.1 hy).1;have:=hO.len;show j<n;omega
 have pi:(i:Int)<(n:Int):=by have:=HI.o;omega
 have pj:(j:Int)<(n:Int):=by have:=HJ.o;omega
 have m:fT w.drew base g n c X:=hO.below (Below.refl _ w).drew;have Y:w.grownBy w.drew (some g):=⟨rfl,rfl,rfl,Fv _,fun _ _ _=>rfl⟩;clear hx hy hO;go_enter Tryz.func308,Tryz.ntmps308
 go_wp2_with fail
 refine wp_region_held_drew (S:=(fun w'=>g<w'.heap.size)) (by kernel_rfl) (by exact m.lt.2) (fun r=>?_);generalize w.drew=O at m Y r ⊢;refine aP 0 7 r ?_;refine aP 8 3 r ?_;refine lg 7 11 (fun K hK=>?_) fun K hK=>?_
 · obtain ⟨b,d⟩:=m.at2 HY.o;simp only at b d;have f:=m.lt.2;go_simp;clear b d f;refine hK.o _ _ (by exact m.lt.2) fun r=>?_
   (try go_frame);refine aQ 11 fun K hK=>?_
   obtain ⟨b,d⟩:=m.at2 Z.o;simp only at b d;have f:=m.lt.2;go_simp;clear b d f;refine hK.o _ _ (by exact m.lt.2) fun r=>?_
   (try go_frame);refine aP 12 1 r ?_;refine aQ 13 fun K hK=>?_
   obtain ⟨b,d⟩:=m.at2 Z.o;simp only at b d;have f:=m.lt.2;have u:=m.owns.frozenAt;have f0:=u (i*2);have f1:=u (i*2+1);clear u;go_simp;clear b d f f0 f1;have k1:=m.setH (i:=i) (x:=(B,A,C,L,I));refine hK.o _ (setH O g i (B,A,C,L,I)) (by exact k1.lt.2) (fun r=>?_);clear hK K;have t:=jo O g i (B,A,C,L,I);generalize setH O g i (B,A,C,L,I)=s at k1 t r ⊢;(try go_frame);refine aP 14 1 r ?_;refine aQ 15 fun K hK=>?_
   obtain ⟨⟨zb,zo,zn,zc,zk⟩,U⟩:∃z,(X.set i (B,A,C,L,I))[j]?=some z:=⟨_,j' (by rw [H9,W.o];exact HJ.o)⟩;obtain ⟨b,d⟩:=k1.at2 U;simp only at b d;have f:=k1.lt.2;have u:=k1.owns.frozenAt;have f0:=u (j*2);have f1:=u (j*2+1);clear u;go_simp;clear b d f f0 f1 U;have k2:=k1.setH (i:=j) (x:=(F,J,E,H,D));refine hK.o _ (setH s g j (F,J,E,H,D)) (by exact k2.lt.2) (fun r=>?_);clear hK K;have Q:O.grownBy (setH s g j (F,J,E,H,D)) (some g):=t.trans (jo s g j (F,J,E,H,D));generalize setH s g j (F,J,E,H,D)=N at k2 Q r ⊢;(try go_frame);refine dN ?_;have T:Eq (fT N base g n c ((X.set i (B,A,C,L,I)).set j (F,J,E,H,D))):=k2;have R:Eq (w.grownBy N (some g)):=Y.trans Q;clear k2 Q m k1 t Y r;go_wp2;go_end0;exact ⟨rfl,T.o,R.o⟩
 · obtain ⟨b,d⟩:=m.at2 Z.o;simp only at b d;have f:=m.lt.2;go_simp;clear b d f;refine hK.o _ _ (by exact m.lt.2) fun r=>?_
   (try go_frame);refine aQ 7 fun K hK=>?_
   obtain ⟨b,d⟩:=m.at2 HY.o;simp only at b d;have f:=m.lt.2;go_simp;clear b d f;refine hK.o _ _ (by exact m.lt.2) fun r=>?_
   (try go_frame);refine aP 12 1 r ?_;refine aQ 13 fun K hK=>?_
   obtain ⟨b,d⟩:=m.at2 Z.o;simp only at b d;have f:=m.lt.2;have u:=m.owns.frozenAt;have f0:=u (i*2);have f1:=u (i*2+1);clear u;go_simp;clear b d f f0 f1;have k1:=m.setH (i:=i) (x:=(B,A,C,L,I));refine hK.o _ (setH O g i (B,A,C,L,I)) (by exact k1.lt.2) (fun r=>?_);clear hK K;have t:=jo O g i (B,A,C,L,I);generalize setH O g i (B,A,C,L,I)=s at k1 t r ⊢;(try go_frame);refine aP 14 1 r ?_;refine aQ 15 fun K hK=>?_
   obtain ⟨⟨zb,zo,zn,zc,zk⟩,U⟩:∃z,(X.set i (B,A,C,L,I))[j]?=some z:=⟨_,j' (by rw [H9,W.o];exact HJ.o)⟩;obtain ⟨b,d⟩:=k1.at2 U;simp only at b d;have f:=k1.lt.2;have u:=k1.owns.frozenAt;have f0:=u (j*2);have f1:=u (j*2+1);clear u;go_simp;clear b d f f0 f1 U;have k2:=k1.setH (i:=j) (x:=(F,J,E,H,D));refine hK.o _ (setH s g j (F,J,E,H,D)) (by exact k2.lt.2) (fun r=>?_);clear hK K;have Q:O.grownBy (setH s g j (F,J,E,H,D)) (some g):=t.trans (jo s g j (F,J,E,H,D));generalize setH s g j (F,J,E,H,D)=N at k2 Q r ⊢;(try go_frame);refine dN ?_;have T:Eq (fT N base g n c ((X.set i (B,A,C,L,I)).set j (F,J,E,H,D))):=k2;have R:Eq (w.grownBy N (some g)):=Y.trans Q;clear k2 Q m k1 t Y r;go_wp2;go_end0;exact ⟨rfl,T.o,R.o⟩
end
end Go.Proofs.YtpobkmjicbobdaaGreat
