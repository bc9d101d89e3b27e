/- Walks. -/
import Derived.Test.YtpobkmjicbobdaaGreatBn39
namespace Go.Proofs.YtpobkmjicbobdaaGreat
open Go.RowKit
set_option maxRecDepth 100000
set_option maxHeartbeats 16000000
theorem wG {L:List ac} (h:fk L):fk (bk L):=fun e he=>h e ((bJ L).2.mem_iff.1 he)
theorem uJ (R P many:Nat) (a:Option Addr) (len cap:Nat) (w:World) (h:aW w R a len cap P) (hlow:pK a len R) (hP:P<80000) (hm:many≤100) :
 Calls Tryz.prog 195 #[.pointer (pT R),iT many] w (AX R a len cap P many w):=by
 go_enter Tryz.func195,Tryz.ntmps195
 go_wp2_with fail
 refine (uL R P many a len cap w h hlow hP hm).mono ?_;rintro e w1 ⟨g,n,c,P',L,rfl,hO,hn,hF,hR,hP',hG⟩;have HR:Hid (aW w1 R a len cap P'):=hR;have HG:Hid (w.grownBy w1 (some R)):=hG;have HF:Hid (fk L):=hF;have hz:=hG.size;go_wp2_with fail
 refine (yu _ n c L w1 hO.entsAt (by omega)).mono ?_;rintro e w2 ⟨g2,c2,rfl,hO2,hb2⟩;have HO2:Hid (ay w2 w.heap.size g2 n c2 (bk L)):=hO2.mono hz;have HR2:Hid (aW w2 R a len cap P'):=HR.out.below hb2;have HG2:Hid (w.grownBy w2 (some R)):=ae HG.out (aL hb2);clear hO hR hG hF hb2 hO2 HR HG;go_wp2;go_ret;exact ⟨g2,n,c2,P',bk L,rfl,HO2.out,hn,wG HF.out,HR2.out,hP',HG2.out⟩
theorem su (a:Option Addr) (n c:Nat) (L:List ac) (w:World) (hL:aj w a n c L) :
 Calls Tryz.prog 173 #[.slice a n c] w fun e w'=>e=.returned (.agg #[.slice a n c,iT ((cZ L:Nat):Int)])∧Bl w w':=by
 go_enter Tryz.func173,Tryz.ntmps173
 go_wp2_with fail
 refine (lT a n c L _ (hL.keep bZ)).mono ?_;rintro e w1 ⟨rfl,hb1⟩;obtain ⟨hc1,hf1⟩:=vH hb1;have hz:=hb1.size;simp at hz;go_wp2;refine bodyPost_ret (v:=.agg #[.slice a n c,iT ((cZ L:Nat):Int)]) (by simp [results,Tryz.results173,go_sem,hc1]) rfl ⟨rfl,?_⟩;have hB:Bl w w1:=bZ.trans (hb1.mono (by simp));exact (hB.setCell (p:=⟨w.heap.size,0,none⟩) (Nat.le_refl _) _).setCell (p:=⟨w.heap.size,1,none⟩) (Nat.le_refl _) _
theorem bw (w:World) (Z o:Nat) (v:Value):w.grownBy (w.setCell ⟨Z,o,none⟩ v) (some Z) :=
 ⟨rfl,rfl,rfl,by simp [World.setCell],fun k _ hk=>Below.heap_setCell _ _ _ _ (fun e=>hk (by rw [e]))⟩
structure cV (w wi:World) (R:Nat) (a:Option Addr) (len cap P X Y g n c:Nat) (m:Int) (L:List ac):Prop where
 rd:aW wi R a len cap P
 gr:w.grownBy wi (some R)
 x0:∃v,wi.cell? ⟨X,0,none⟩=some v
 x1:∃v,wi.cell? ⟨X,1,none⟩=some v
 fx:∀o,wi.frozen? ⟨X,o,none⟩=false
 y0:wi.cell? ⟨Y,0,none⟩=some (sL g n c)
 y1:wi.cell? ⟨Y,1,none⟩=some (iT m)
 fy:∀o,wi.frozen? ⟨Y,o,none⟩=false
 own:ay wi w.heap.size g n c L
 hx:w.heap.size≤X
 hy:w.heap.size≤Y
 hr:R<w.heap.size
 nxy:X≠Y
 ngx:X<g
 ngy:g≠Y
 low:pK a len R
theorem cV.ltX {w wi:World} {R:Nat} {a:Option Addr} {len cap P X Y g n c:Nat} {m:Int} {L:List ac} (h:cV w wi R a len cap P X Y g n c m L):X<wi.heap.size:=by
 obtain ⟨v,hv⟩:=h.x0;exact World.block_lt_of_cell? _ _ hv
theorem cV.ltY {w wi:World} {R:Nat} {a:Option Addr} {len cap P X Y g n c:Nat} {m:Int} {L:List ac} (h:cV w wi R a len cap P X Y g n c m L):Y<wi.heap.size:=World.block_lt_of_cell? _ _ h.y0
theorem cV.step {w wi wj:World} {R:Nat} {a:Option Addr} {len cap P P' X Y g g' n n' c c' Z:Nat} {m:Int} {L L':List ac} (h:cV w wi R a len cap P X Y g n c m L) (hg:wi.grownBy wj (some Z)) (hr:aW wj R a len cap P') (hZ:Z=R∨w.heap.size≤Z) (zx:Z≠X) (zy:Z≠Y) (ho:ay wj w.heap.size g' n' c' L') (y0':wj.cell? ⟨Y,0,none⟩=some (sL g' n' c')) (nx:X<g') (ny:g'≠Y):cV w wj R a len cap P' X Y g' n' c' m L' where
 rd:=hr
 gr:=by
  rcases hZ with rfl | hZ
  · exact ae h.gr hg
  · exact aH h.gr hZ hg
 x0:=by obtain ⟨v,hv⟩:=h.x0;exact ⟨v,(ah hg (x:=⟨X,0,none⟩) h.ltX (Ne.symm zx)).trans hv⟩
 x1:=by obtain ⟨v,hv⟩:=h.x1;exact ⟨v,(ah hg (x:=⟨X,1,none⟩) h.ltX (Ne.symm zx)).trans hv⟩
 fx:=fun o=>(aV hg (x:=⟨X,o,none⟩) h.ltX (fun e=>zx (by cases e;rfl))).trans (h.fx o)
 y0:=y0'
 y1:=(ah hg (x:=⟨Y,1,none⟩) h.ltY (Ne.symm zy)).trans h.y1
 fy:=fun o=>(aV hg (x:=⟨Y,o,none⟩) h.ltY (fun e=>zy (by cases e;rfl))).trans (h.fy o)
 own:=ho
 hx:=h.hx
 hy:=h.hy
 hr:=h.hr
 nxy:=h.nxy
 ngx:=nx
 ngy:=ny
 low:=h.low
theorem cV.read {w wi wj:World} {R:Nat} {a:Option Addr} {len cap P P' X Y g n c:Nat} {m:Int} {L:List ac} (h:cV w wi R a len cap P X Y g n c m L) (hg:wi.grownBy wj (some R)) (hr:aW wj R a len cap P'):cV w wj R a len cap P' X Y g n c m L:=by
 have h1:=h.hr;have h2:=h.hx;have h3:=h.hy;have h4:=h.own.lt.1;have hyr:Y≠R:=by omega
 exact h.step hg hr (Or.inl rfl) (by omega) (by omega) (h.own.grown hg (fun e=>by cases e;omega)) ((ah hg (x:=⟨Y,0,none⟩) h.ltY hyr).trans h.y0) h.ngx h.ngy
theorem cV.below {w wi wj:World} {R:Nat} {a:Option Addr} {len cap P X Y g n c:Nat} {m:Int} {L:List ac} (h:cV w wi R a len cap P X Y g n c m L) (hb:Bl wi wj):cV w wj R a len cap P X Y g n c m L:=h.read (aL hb) (h.rd.below hb)
theorem cV.mask {w wi:World} {R:Nat} {a:Option Addr} {len cap P X Y g n c:Nat} {m:Int} {L:List ac} (h:cV w wi R a len cap P X Y g n c m L) (m':Int):cV w (wi.setCell ⟨Y,1,none⟩ (iT m')) R a len cap P X Y g n c m' L where
 rd:=h.rd.grown (bw wi Y 1 _) h.low (fun k e=>by cases e;have:=h.hr;have:=h.hy;omega)
 gr:=aH h.gr h.hy (bw wi Y 1 _)
 x0:=by obtain ⟨v,hv⟩:=h.x0;exact ⟨v,(ah (bw wi Y 1 _) (x:=⟨X,0,none⟩) h.ltX h.nxy).trans hv⟩
 x1:=by obtain ⟨v,hv⟩:=h.x1;exact ⟨v,(ah (bw wi Y 1 _) (x:=⟨X,1,none⟩) h.ltX h.nxy).trans hv⟩
 fx:=fun o=>by rw [World.frozen?_setCell];exact h.fx o
 y0:=by rw [World.cell?_setCell_other _ _ _ _ (by simp)];exact h.y0
 y1:=World.cell?_setCell_same' _ _ _ (by rw [h.y1];rfl)
 fy:=fun o=>by rw [World.frozen?_setCell];exact h.fy o
 own:=h.own.grown (bw wi Y 1 _) (fun e=>h.ngy (by cases e;rfl))
 hx:=h.hx
 hy:=h.hy
 hr:=h.hr
 nxy:=h.nxy
 ngx:=h.ngx
 ngy:=h.ngy
 low:=h.low
theorem cV.ents {w wi:World} {R:Nat} {a:Option Addr} {len cap P X Y g n c g' n' c':Nat} {m:Int} {L L':List ac} (h:cV w wi R a len cap P X Y g n c m L) (ho:ay wi w.heap.size g' n' c' L') (nx:X<g') (ny:g'≠Y):cV w (wi.setCell ⟨Y,0,none⟩ (sL g' n' c')) R a len cap P X Y g' n' c' m L' where
 rd:=h.rd.grown (bw wi Y 0 _) h.low (fun k e=>by cases e;have:=h.hr;have:=h.hy;omega)
 gr:=aH h.gr h.hy (bw wi Y 0 _)
 x0:=by obtain ⟨v,hv⟩:=h.x0;exact ⟨v,(ah (bw wi Y 0 _) (x:=⟨X,0,none⟩) h.ltX h.nxy).trans hv⟩
 x1:=by obtain ⟨v,hv⟩:=h.x1;exact ⟨v,(ah (bw wi Y 0 _) (x:=⟨X,1,none⟩) h.ltX h.nxy).trans hv⟩
 fx:=fun o=>by rw [World.frozen?_setCell];exact h.fx o
 y0:=World.cell?_setCell_same' _ _ _ (by rw [h.y0];rfl)
 y1:=by rw [World.cell?_setCell_other _ _ _ _ (by simp)];exact h.y1
 fy:=fun o=>by rw [World.frozen?_setCell];exact h.fy o
 own:=ho.grown (bw wi Y 0 _) (fun e=>ny (by cases e;rfl))
 hx:=h.hx
 hy:=h.hy
 hr:=h.hr
 nxy:=h.nxy
 ngx:=nx
 ngy:=ny
 low:=h.low
theorem ay.rebase {w:World} {base g n c:Nat} {L:List ac} (h:ay w base g n c L):ay w g g n c L:=by
 refine ⟨⟨h.owns.1,?_⟩,h.len,h.ents⟩;rcases h.owns.2 with ⟨hv,_⟩ | ⟨g',cap,cur,hv,hb,hr⟩
 · cases hv
 · cases hv;exact .inr ⟨g,c,cur,rfl,Nat.le_refl _,hr⟩
theorem cV.grewTo {w wi wj:World} {R:Nat} {a:Option Addr} {len cap P X Y g n c g' n' c':Nat} {m:Int} {L L':List ac} (h:cV w wi R a len cap P X Y g n c m L) (hg:wi.grownBy wj (some g)) (ho:ay wj g g' n' c' L') (hn:1≤n'):cV w (wj.setCell ⟨Y,0,none⟩ (sL g' n' c')) R a len cap P X Y g' n' c' m L':=by
 have hb:=h.own.lt.1;have hgg:=ho.lt.1;have hxg:=h.ngx;have hr:=h.hr;have y0j:=(ah hg (x:=⟨Y,0,none⟩) h.ltY (Ne.symm h.ngy)).trans h.y0;have y1j:=(ah hg (x:=⟨Y,1,none⟩) h.ltY (Ne.symm h.ngy)).trans h.y1;have nxg:X≠g:=by omega
 have hlX:X<wj.heap.size:=Nat.lt_of_lt_of_le h.ltX hg.size;have hlY:Y<wj.heap.size:=Nat.lt_of_lt_of_le h.ltY hg.size;have ny:g'≠Y:=fun e=>by
  have hc:=(ho.entsAt.cells _ rfl 0 (by rw [ho.len];omega)).1;subst e;simp only [Nat.zero_mul,Nat.zero_add] at hc;rw [y0j] at hc;cases hc
 exact {
  rd:=(h.rd.grown hg h.low (fun k e=>by cases e;omega)).grown (bw wj Y 0 _) h.low (fun k e=>by cases e;have:=h.hy;omega)
  gr:=aH (aH h.gr hb hg) h.hy (bw wj Y 0 _)
  x0:=by obtain ⟨v,hv⟩:=h.x0;exact ⟨v,(ah (bw wj Y 0 _) (x:=⟨X,0,none⟩) hlX h.nxy).trans ((ah hg (x:=⟨X,0,none⟩) h.ltX nxg).trans hv)⟩
  x1:=by obtain ⟨v,hv⟩:=h.x1;exact ⟨v,(ah (bw wj Y 0 _) (x:=⟨X,1,none⟩) hlX h.nxy).trans ((ah hg (x:=⟨X,1,none⟩) h.ltX nxg).trans hv)⟩
  fx:=fun o=>by rw [World.frozen?_setCell];exact (aV hg (x:=⟨X,o,none⟩) h.ltX (fun e=>nxg (by cases e;rfl))).trans (h.fx o)
  y0:=World.cell?_setCell_same' _ _ _ (by rw [y0j];rfl)
  y1:=by rw [World.cell?_setCell_other _ _ _ _ (by simp)];exact y1j
  fy:=fun o=>by rw [World.frozen?_setCell];exact (aV hg (x:=⟨Y,o,none⟩) h.ltY (fun e=>h.ngy (by cases e;rfl))).trans (h.fy o)
  own:=(ho.mono hb).grown (bw wj Y 0 _) (fun e=>ny (by cases e;rfl))
  hx:=h.hx
  hy:=h.hy
  hr:=h.hr
  nxy:=h.nxy
  ngx:=by omega
  ngy:=ny
  low:=h.low }
def BJ (R:Nat) (a:Option Addr) (len cap P:Nat) (w:World) (e:Ending) (w':World):Prop :=
 ∃(g n c P':Nat) (m:Int) (L:List ac),e=.returned (.agg #[sL g n c,iT m])∧ay w' w.heap.size g n c L∧n≤13∧fk L∧(Lit.int .i64 m).wf=true∧aW w' R a len cap P'∧P'≤P+150∧w.grownBy w' (some R)
theorem cV.done {w wi:World} {R:Nat} {a:Option Addr} {len cap P P0 X Y g n c:Nat} {m:Int} {L:List ac} (h:cV w wi R a len cap P X Y g n c m L) (hn:n≤13) (hF:fk L) (hm:(Lit.int .i64 m).wf=true) (hP:P≤P0+150) (u v:Value) :
 BJ R a len cap P0 w (.returned (.agg #[sL g n c,iT m])) ((wi.setCell ⟨X,0,none⟩ u).setCell ⟨X,1,none⟩ v):=by
 have hRX:R<X:=by have:=h.hr;have:=h.hx;omega
 refine ⟨g,n,c,P,m,L,rfl,?_,hn,hF,hm,?_,hP,?_⟩
 · exact (h.own.grown (bw wi X 0 u) (fun e=>Nat.ne_of_lt h.ngx (by cases e;rfl))).grown (bw _ X 1 v) (fun e=>Nat.ne_of_lt h.ngx (by cases e;rfl))
 · exact (h.rd.grown (bw wi X 0 u) h.low (fun k e=>by cases e;exact hRX)).grown (bw _ X 1 v) h.low (fun k e=>by cases e;exact hRX)
 · exact aH (aH h.gr h.hx (bw wi X 0 u)) h.hx (bw _ X 1 v)
end Go.Proofs.YtpobkmjicbobdaaGreat
namespace Go.Proofs.YtpobkmjicbobdaaGreat
open Go.RowKit
set_option maxRecDepth 100000
set_option maxHeartbeats 16000000
def Nx (z:Int):Prop:=-1≤z∧z≤65536
theorem tM {L:List ac} {k:Nat} {s t:ByteArray} {q d n:Int} (h:fk L) (he:iO s t q d n):fk (L.set k (s,q,d,t,n)):=fun e hm=>by
 rcases List.mem_or_eq_of_mem_set hm with h1 | rfl
 · exact h e h1
 · exact he
theorem ay.put {w:World} {base g n c k:Nat} {L:List ac} (h:ay w base g n c L) (hk:k<n) (s t:ByteArray) (q d m:Int) (hw:ec (s,q,d,t,m)) :
 ay (((((w.setCell ⟨g,k*5,none⟩ (.string s)).setCell ⟨g,k*5+1,none⟩ (iT q)).setCell ⟨g,k*5+2,none⟩ (iT d)).setCell ⟨g,k*5+3,none⟩ (.string t)).setCell ⟨g,k*5+4,none⟩ (iT m)) base g n c (L.set k (s,q,d,t,m)):=by
 have t0:=h.owns.stored (k*5) (.string s);have t1:=t0.1.stored (k*5+1) (iT q);have t2:=t1.1.stored (k*5+2) (iT d);have t3:=t2.1.stored (k*5+3) (.string t);have t4:=t3.1.stored (k*5+4) (iT m);have hX:(aE L).length=n*5:=h.owns.1;refine ⟨?_,by rw [List.length_set];exact h.len,fun e hm=>?_⟩
 · have t5:=t4.1;have key:∀xs:List Value,xs.length=n*5→(∀j l,(L.set k (s,q,d,t,m))[j]?=some l→iM xs j l)→xs=aE (L.set k (s,q,d,t,m)):=fun xs hx hh=>sP (by rw [hx,List.length_set,h.len]) hh
   rw [key _ t5.1 (fun j l hl=>?_)] at t5
   · exact t5
   · by_cases hjk:j=k
     · subst hjk;rw [List.getElem?_set_self (by rw [h.len];exact hk)] at hl;cases hl;exact mF s t q d m (by rw [hX];omega)
     · rw [List.getElem?_set_ne (Ne.symm hjk)] at hl;exact kQ (fs L j l hl) hjk _ _ _ _ _
 · rcases List.mem_or_eq_of_mem_set hm with h1 | rfl
   · exact h.ents e h1
   · exact hw
theorem jX (w:World) (g k:Nat) (v0 v1 v2 v3 v4:Value):w.grownBy (((((w.setCell ⟨g,k,none⟩ v0).setCell ⟨g,k+1,none⟩ v1).setCell ⟨g,k+2,none⟩ v2).setCell ⟨g,k+3,none⟩ v3).setCell ⟨g,k+4,none⟩ v4) (some g) :=
 ae (ae (ae (ae (bw _ g _ _) (bw _ g _ _)) (bw _ g _ _)) (bw _ g _ _)) (bw _ g _ _)
theorem cV.put {w wi:World} {R:Nat} {a:Option Addr} {len cap P X Y g n c k:Nat} {m:Int} {L:List ac} (h:cV w wi R a len cap P X Y g n c m L) (hk:k<n) (s t:ByteArray) (q d nn:Int) (hw:ec (s,q,d,t,nn)) :
 cV w (((((wi.setCell ⟨g,k*5,none⟩ (.string s)).setCell ⟨g,k*5+1,none⟩ (iT q)).setCell ⟨g,k*5+2,none⟩ (iT d)).setCell ⟨g,k*5+3,none⟩ (.string t)).setCell ⟨g,k*5+4,none⟩ (iT nn)) R a len cap P X Y g n c m (L.set k (s,q,d,t,nn)) :=
 h.step (jX wi g (k*5) _ _ _ _ _) (h.rd.grown (jX wi g (k*5) _ _ _ _ _) h.low (fun j e=>by cases e;have:=h.hr;have:=h.own.lt.1;omega)) (Or.inr h.own.lt.1) (Nat.ne_of_gt h.ngx) h.ngy (h.own.put hk s t q d nn hw) ((ah (jX wi g (k*5) _ _ _ _ _) (x:=⟨Y,0,none⟩) h.ltY (Ne.symm h.ngy)).trans h.y0) h.ngx h.ngy
theorem cV.at {w wi:World} {R:Nat} {a:Option Addr} {len cap P X Y g n c k:Nat} {m:Int} {L:List ac} (h:cV w wi R a len cap P X Y g n c m L) (hF:fk L) (hk:k<n) :
 ∃s t q d nn,iO s t q d nn∧wi.cell? ⟨g,k*5,none⟩=some (.string s)∧wi.cell? ⟨g,k*5+1,none⟩=some (iT q)∧wi.cell? ⟨g,k*5+2,none⟩=some (iT d)∧wi.cell? ⟨g,k*5+3,none⟩=some (.string t)∧wi.cell? ⟨g,k*5+4,none⟩=some (iT nn):=by
 have hl:k<L.length:=by rw [h.own.len];exact hk
 obtain ⟨e0,e1,e2,e3,e4⟩:=h.own.entsAt.cells _ rfl k hl;simp only [Nat.zero_add] at e0 e1 e2 e3 e4;exact ⟨_,_,_,_,_,hF _ (List.getElem_mem hl),e0,e1,e2,e3,e4⟩
theorem uK (R P:Nat) (a:Option Addr) (len cap:Nat) (w:World) (h:aW w R a len cap P) (hlow:pK a len R) (hP:P<70000) :
 Calls Tryz.prog 138 #[.pointer (pT R)] w (BJ R a len cap P w):=by
 obtain ⟨i0,hi,hz0,hz1,hz2⟩:=info_parts Tryz.infoEnt;have hRw:=h.lt;have HRW:Hid (R<w.heap.size):=hRw;have HLOW:=b6 hlow;have kA:Bl w (w.alloc (.cells #[nZ,iT 0] 63)):=bZ;go_enter Tryz.func138,Tryz.ntmps138
 go_wp2_with fail
 refine (uJ R P 12 a len cap _ (h.below kA) hlow (by omega) (by omega)).mono ?_;rintro e w1 ⟨g,n,c,P1,L,rfl,hO,hn,hF,hR1,hP1,hG1⟩;obtain ⟨X,hX⟩:=aS w.heap.size;have hXR:X≠R:=by omega
 have hXa:X<(w.alloc (.cells #[nZ,iT 0] 63)).heap.size:=by rw [hX];simp
 have x0:w1.cell? ⟨X,0,none⟩=some nZ:=(ah hG1 (x:=⟨X,0,none⟩) hXa hXR).trans (by rw [hX];simp);have x1:w1.cell? ⟨X,1,none⟩=some (iT 0):=(ah hG1 (x:=⟨X,1,none⟩) hXa hXR).trans (by rw [hX];simp);have fx:∀o,w1.frozen? ⟨X,o,none⟩=false:=fun o=>(aV hG1 (x:=⟨X,o,none⟩) hXa (fun e=>hXR (by cases e;rfl))).trans (by rw [hX];exact World.frozen?_alloc_new w _ _ o)
 have hXw:w.heap.size≤X:=by omega
 have hgX0:X<g:=by have:=hO.lt.1;simp at this;omega
 have HO1:Hid (ay w1 w.heap.size g n c L):=hO.mono (by simp);have HG1:Hid (w.grownBy w1 (some R)):=ae (aL kA) hG1;have HR1:Hid (aW w1 R a len cap P1):=hR1;have HF1:Hid (fk L):=hF;have zX:=World.block_lt_of_cell? _ _ x0;simp only at zX;rw [← hX];clear hO hG1 hR1 hF kA hXa hX h hlow hRw;by_cases hn0:n=0
 · subst hn0;have kB:Bl w1 (w1.alloc (.cells #[.string ⟨#[97]⟩,iT 1,iT 1,.string ⟨#[]⟩,iT 2] 50)):=bZ;have hFa:iO ⟨#[97]⟩ ⟨#[]⟩ 1 1 2:=by unfold iO lI;decide
   have oN:ay (w1.alloc (.cells #[.string ⟨#[97]⟩,iT 1,iT 1,.string ⟨#[]⟩,iT 2] 50)) w.heap.size w1.heap.size 1 1 [(⟨#[97]⟩,1,1,⟨#[]⟩,2)]:=by
    have:=World.ownsRow_lit (base:=w.heap.size) (e:=50) (size:=5) w1 #[.string ⟨#[97]⟩,iT 1,iT 1,.string ⟨#[]⟩,iT 2] 1 HG1.out.size (by unfold maxLen;omega) rfl;exact ⟨by simpa [aE,b9] using this,rfl,fN (ch hFa)⟩
   go_wp2_with fail
   obtain ⟨wl,hwl⟩:=aS (w1.alloc (.cells #[.string ⟨#[97]⟩,iT 1,iT 1,.string ⟨#[]⟩,iT 2] 50));rw [← hwl] at kB oN ⊢;obtain ⟨gl,hgl⟩:=aS w1.heap.size;obtain ⟨LL,hLL⟩:∃LL:List ac,LL=[(⟨#[97]⟩,1,1,⟨#[]⟩,2)]:=⟨_,rfl⟩;have hgX:X<gl:=by omega
   have HFl:Hid (fk LL):=by rw [hLL];exact ch hFa
   rw [← hgl,← hLL] at oN;rw [← hgl];have HOl:Hid (ay wl w.heap.size gl 1 1 LL):=oN;have HRl:Hid (aW wl R a len cap P1):=HR1.out.below kB;have HGl:Hid (w.grownBy wl (some R)):=ae HG1.out (aL kB);have x0l:=cell_later kB x0;have x1l:=cell_later kB x1;have fxl:∀o,wl.frozen? ⟨X,o,none⟩=false:=fun o=>(kB.frozen (p:=⟨X,o,none⟩) zX).trans (fx o)
   have zXl:X<wl.heap.size:=Nat.lt_of_lt_of_le zX kB.size;clear hwl hgl hLL oN kB hFa HO1 HR1 HG1 HF1 x0 x1 fx zX hgX0 hXR;refine (su _ 1 1 LL wl HOl.out.entsAt).mono ?_;rintro e wr ⟨rfl,hbr⟩;obtain ⟨M,hM⟩:∃M:Int,M=((cZ LL:Nat):Int):=⟨_,rfl⟩;have hM0:0≤M:=by omega
   have hM1:M<65536:=by have:=lj LL;omega
   rw [← hM];clear hM;obtain ⟨Y,hY⟩:=aS wr.heap.size;obtain ⟨W,hW⟩:=aS (wr.alloc (.cells #[sL gl 1 1,iT M] 63));have kW:Bl wr W:=by rw [hW];exact bZ
   have kk:=hbr.trans (kW.mono hbr.size);have S0:Hid (cV w W R a len cap P1 X Y gl 1 1 M LL):=⟨HRl.out.below kk,ae HGl.out (aL kk),⟨_,cell_later kk x0l⟩,⟨_,cell_later kk x1l⟩,(fun o=>(kk.frozen (p:=⟨X,o,none⟩) zXl).trans (fxl o)),by rw [hW,hY];simp,by rw [hW,hY];simp,(fun o=>by rw [hW,hY];exact World.frozen?_alloc_new wr _ _ o),HOl.out.below kk,hXw,by have:=HGl.out.size;have:=hbr.size;omega,HRW.out,by have:=hbr.size;omega,hgX,by have:=HOl.out.lt.2;have:=hbr.size;omega,HLOW.out⟩;have sz0:=S0.out.ltY;go_wp2_with fail
   rw [← hW,← hY];clear hW hY kW kk hbr x0l x1l fxl zXl HRl HGl HOl sz0;refine (cF R P1 a len cap _ W S0.out.rd (by omega) (by omega)).mono ?_;rintro e w5 ⟨qk,rfl,hqk,R5,g5⟩;have S5:Hid (cV w w5 R a len cap (P1+1) X Y gl 1 1 M LL):=S0.out.read g5 R5;obtain ⟨k,hk⟩:=Int.eq_ofNat_of_zero_le hqk.1;subst hk;have hkn:k<1:=by have:=hqk.2 (by omega);omega
   have hknI:(k:Int)<((1:Nat):Int):=by omega
   have hknJ:(k:Int)<1:=by omega
   clear R5 g5 S0 hqk;go_wp2_with fail
   refine (cF R (P1+1) a len cap _ w5 S5.out.rd (by omega) (by omega)).mono ?_;rintro e w6 ⟨z,rfl,hz,R6,g6⟩;have S6:Hid (cV w w6 R a len cap (P1+1+1) X Y gl 1 1 M LL):=S5.out.read g6 R6;clear R6 g6 S5 hz;by_cases z0:z=0
   · subst z0;go_wp2_with fail
     have k0:=S6.out.below (Below.refl _ w6).drew;have hn13:True:=trivial;refine wp_region_held_drew (S:=(fun w'=>Y<w'.heap.size)) (by kernel_rfl) (k0.ltY) (fun aa=>?_);generalize w6.drew=wd at k0 aa ⊢;refine aO 0 1 aa ?_;refine aO 2 1 aa ?_;refine iU 1 3 (fun K hK=>?_) fun K hK=>?_
     · have q1y:=k0.y1;go_simp;clear q1y;refine hK.out _ _ (k0.ltY) fun aa=>?_
       (try go_frame);refine aI 3 fun K hK=>?_
       go_simp;have kc:Bl wd (wd.alloc (.cells ((([1,-1,65536]:List Int).map iT).toArray) 3)):=bZ;have kb:=k0.below kc;have cb:=dR wd 3 [1,-1,65536] Nx (by intro s hs;simp only [List.mem_cons,List.not_mem_nil,or_false] at hs;rcases hs with rfl | rfl | rfl <;> (unfold Nx;decide));have bR:wd.heap.size≠R:=by have:=k0.rd.lt;omega
       have bl:wd.heap.size<(wd.alloc (.cells ((([1,-1,65536]:List Int).map iT).toArray) 3)).heap.size:=by simp
       simp only [List.map_cons,List.map_nil] at kc kb cb bl;generalize wd.heap.size=gb at cb bR bl ⊢;generalize wd.alloc (.cells #[iT 1,iT (-1),iT 65536] 3)=wb at kb cb bl ⊢;refine hK.out _ _ (kb.ltY) fun aa=>?_
       (try go_frame);refine aI 4 fun K hK=>?_
       go_simp;refine (dX Nx R _ a len cap gb 0 3 3 _ kb.rd (by omega) (by omega) (by omega) bR bl cb).mono ?_;rintro e w8 ⟨zn,rfl,hzn,R8,g8⟩;have kn:=kb.read g8 R8;obtain ⟨hz1n,hz2n⟩:=hzn;have HWR:Hid (IntKind.i64.wrap (M+zn)=M+zn):=by unfold Hid;simp [IntKind.wrap,IntKind.bits,IntKind.signed];omega
       go_wp2_with fail
       refine hK.out _ _ (kn.ltY) fun aa=>?_
       (try go_frame);refine aO 5 2 aa ?_;refine aI 7 fun K hK=>?_
       have q7y:=kn.y1;have f7y:=kn.fy 1;go_simp;have ks:=kn.mask (IntKind.i64.wrap (M+zn));clear q7y f7y;refine hK.out _ _ (ks.ltY) fun aa=>?_
       (try go_frame);refine dN ?_;generalize w8.setCell ⟨Y,1,none⟩ (iT (IntKind.i64.wrap (M+zn)))=w9 at ks ⊢;rw [HWR.out] at ks;have ey0:=ks.y0;have ey1:=ks.y1;have ezY:=ks.ltY;obtain ⟨ev0,ec0⟩:=ks.x0;obtain ⟨ev1,ec1⟩:=ks.x1;have ef0:=ks.fx 0;have ef1:=ks.fx 1;have exy:=ks.nxy;have HEND:Hid (cV w _ R a len cap _ X Y gl 1 1 (M+zn) LL):=ks;go_wp2;refine bodyPost_ret (v:=.agg #[sL gl 1 1,iT (M+zn)]) (by simp [results,Tryz.results138,go_sem,ec0,ec1]) rfl ?_;exact HEND.out.done (by omega) HFl.out (WalkArith.wf_i64 (by omega)) (by omega) _ _
     · go_simp;have kc:Bl wd (wd.alloc (.cells ((([1,-1,65536]:List Int).map iT).toArray) 3)):=bZ;have kb:=k0.below kc;have cb:=dR wd 3 [1,-1,65536] Nx (by intro s hs;simp only [List.mem_cons,List.not_mem_nil,or_false] at hs;rcases hs with rfl | rfl | rfl <;> (unfold Nx;decide));have bR:wd.heap.size≠R:=by have:=k0.rd.lt;omega
       have bl:wd.heap.size<(wd.alloc (.cells ((([1,-1,65536]:List Int).map iT).toArray) 3)).heap.size:=by simp
       simp only [List.map_cons,List.map_nil] at kc kb cb bl;generalize wd.heap.size=gb at cb bR bl ⊢;generalize wd.alloc (.cells #[iT 1,iT (-1),iT 65536] 3)=wb at kb cb bl ⊢;refine hK.out _ _ (kb.ltY) fun aa=>?_
       (try go_frame);refine iU 1 4 (fun K hK=>?_) fun K hK=>?_
       · have q1y:=kb.y1;go_simp;clear q1y;refine hK.out _ _ (kb.ltY) fun aa=>?_
         (try go_frame);refine aI 4 fun K hK=>?_
         go_simp;refine (dX Nx R _ a len cap gb 0 3 3 _ kb.rd (by omega) (by omega) (by omega) bR bl cb).mono ?_;rintro e w8 ⟨zn,rfl,hzn,R8,g8⟩;have kn:=kb.read g8 R8;obtain ⟨hz1n,hz2n⟩:=hzn;have HWR:Hid (IntKind.i64.wrap (M+zn)=M+zn):=by unfold Hid;simp [IntKind.wrap,IntKind.bits,IntKind.signed];omega
         go_wp2_with fail
         refine hK.out _ _ (kn.ltY) fun aa=>?_
         (try go_frame);refine aO 5 2 aa ?_;refine aI 7 fun K hK=>?_
         have q7y:=kn.y1;have f7y:=kn.fy 1;go_simp;have ks:=kn.mask (IntKind.i64.wrap (M+zn));clear q7y f7y;refine hK.out _ _ (ks.ltY) fun aa=>?_
         (try go_frame);refine dN ?_;generalize w8.setCell ⟨Y,1,none⟩ (iT (IntKind.i64.wrap (M+zn)))=w9 at ks ⊢;rw [HWR.out] at ks;have ey0:=ks.y0;have ey1:=ks.y1;have ezY:=ks.ltY;obtain ⟨ev0,ec0⟩:=ks.x0;obtain ⟨ev1,ec1⟩:=ks.x1;have ef0:=ks.fx 0;have ef1:=ks.fx 1;have exy:=ks.nxy;have HEND:Hid (cV w _ R a len cap _ X Y gl 1 1 (M+zn) LL):=ks;go_wp2;refine bodyPost_ret (v:=.agg #[sL gl 1 1,iT (M+zn)]) (by simp [results,Tryz.results138,go_sem,ec0,ec1]) rfl ?_;exact HEND.out.done (by omega) HFl.out (WalkArith.wf_i64 (by omega)) (by omega) _ _
       · go_simp;refine (dX Nx R _ a len cap gb 0 3 3 _ kb.rd (by omega) (by omega) (by omega) bR bl cb).mono ?_;rintro e w8 ⟨zn,rfl,hzn,R8,g8⟩;have kn:=kb.read g8 R8;obtain ⟨hz1n,hz2n⟩:=hzn;have HWR:Hid (IntKind.i64.wrap (M+zn)=M+zn):=by unfold Hid;simp [IntKind.wrap,IntKind.bits,IntKind.signed];omega
         go_wp2_with fail
         refine hK.out _ _ (kn.ltY) fun aa=>?_
         (try go_frame);refine aI 1 fun K hK=>?_
         have q1y:=kn.y1;go_simp;clear q1y;refine hK.out _ _ (kn.ltY) fun aa=>?_
         (try go_frame);refine aO 5 2 aa ?_;refine aI 7 fun K hK=>?_
         have q7y:=kn.y1;have f7y:=kn.fy 1;go_simp;have ks:=kn.mask (IntKind.i64.wrap (M+zn));clear q7y f7y;refine hK.out _ _ (ks.ltY) fun aa=>?_
         (try go_frame);refine dN ?_;generalize w8.setCell ⟨Y,1,none⟩ (iT (IntKind.i64.wrap (M+zn)))=w9 at ks ⊢;rw [HWR.out] at ks;have ey0:=ks.y0;have ey1:=ks.y1;have ezY:=ks.ltY;obtain ⟨ev0,ec0⟩:=ks.x0;obtain ⟨ev1,ec1⟩:=ks.x1;have ef0:=ks.fx 0;have ef1:=ks.fx 1;have exy:=ks.nxy;have HEND:Hid (cV w _ R a len cap _ X Y gl 1 1 (M+zn) LL):=ks;go_wp2;refine bodyPost_ret (v:=.agg #[sL gl 1 1,iT (M+zn)]) (by simp [results,Tryz.results138,go_sem,ec0,ec1]) rfl ?_;exact HEND.out.done (by omega) HFl.out (WalkArith.wf_i64 (by omega)) (by omega) _ _
   by_cases z1:z=1
   · subst z1;go_wp2_with fail
     have k0:=S6.out.below (Below.refl _ w6).drew;have hn13:True:=trivial;refine wp_region_held_drew (S:=(fun w'=>w'.cell? ⟨Y,0,none⟩=some (sL gl 1 1)∧Y<w'.heap.size∧gl<w'.heap.size)) (by kernel_rfl) (⟨k0.y0,k0.ltY,k0.own.lt.2⟩) (fun aa=>?_);generalize w6.drew=wd at k0 aa ⊢;refine aO 0 10 aa ?_;refine aI 10 fun K hK=>?_
     obtain ⟨es,et,eq,ed,en,hEk,e0,e1,e2,e3,e4⟩:=k0.at HFl.out hkn;go_simp;clear e0 e1 e2 e3 e4;refine hK.out _ _ (⟨k0.y0,k0.ltY,k0.own.lt.2⟩) fun aa=>?_
     (try go_frame);refine aI 11 fun K hK=>?_
     go_simp;refine (ep R _ a len cap _ _ _ _ _ _ k0.rd (by omega) hEk).mono ?_;rintro e wq1 ⟨es1,et1,eq1,ed1,en1,Pq1,rfl,hE1,Rq1,hPq1,gq1⟩;have kq1:=k0.read gq1 Rq1;go_wp2_with fail
     refine hK.out _ _ (⟨kq1.y0,kq1.ltY,kq1.own.lt.2⟩) fun aa=>?_
     (try go_frame);refine aI 12 fun K hK=>?_
     go_simp;refine (ep R _ a len cap _ _ _ _ _ _ kq1.rd (by omega) hE1).mono ?_;rintro e wq2 ⟨es2,et2,eq2,ed2,en2,Pq2,rfl,hE2,Rq2,hPq2,gq2⟩;have kq2:=kq1.read gq2 Rq2;go_wp2_with fail
     refine hK.out _ _ (⟨kq2.y0,kq2.ltY,kq2.own.lt.2⟩) fun aa=>?_
     (try go_frame);refine aI 13 fun K hK=>?_
     go_simp;refine (ep R _ a len cap _ _ _ _ _ _ kq2.rd (by omega) hE2).mono ?_;rintro e wq3 ⟨es3,et3,eq3,ed3,en3,Pq3,rfl,hE3,Rq3,hPq3,gq3⟩;have kq3:=kq2.read gq3 Rq3;go_wp2_with fail
     refine hK.out _ _ (⟨kq3.y0,kq3.ltY,kq3.own.lt.2⟩) fun aa=>?_
     (try go_frame);refine aO 14 1 aa ?_;refine aI 15 fun K hK=>?_
     obtain ⟨x0,x1,x2,x3,x4⟩:=kq3.own.entsAt.cells _ rfl k (by rw [kq3.own.len];exact hkn);simp only [Nat.zero_add] at x0 x1 x2 x3 x4;have y0:=kq3.own.owns.frozenAt (k*5);have y1:=kq3.own.owns.frozenAt (k*5+1);have y2:=kq3.own.owns.frozenAt (k*5+2);have y3:=kq3.own.owns.frozenAt (k*5+3);have y4:=kq3.own.owns.frozenAt (k*5+4);go_simp;have ks:=kq3.put hkn es3 et3 eq3 ed3 en3 (ft hE3);clear x0 x1 x2 x3 x4 y0 y1 y2 y3 y4;refine hK.out _ _ (⟨ks.y0,ks.ltY,ks.own.lt.2⟩) fun aa=>?_
     (try go_frame);refine dN ?_;generalize ((((wq3.setCell ⟨gl,k*5,none⟩ (.string es3)).setCell ⟨gl,k*5+1,none⟩ (iT eq3)).setCell ⟨gl,k*5+2,none⟩ (iT ed3)).setCell ⟨gl,k*5+3,none⟩ (.string et3)).setCell ⟨gl,k*5+4,none⟩ (iT en3)=w9 at ks ⊢;have HFs:Hid (fk (LL.set k (es3,eq3,ed3,et3,en3))):=tM HFl.out hE3;have ey0:=ks.y0;have ey1:=ks.y1;have ezY:=ks.ltY;obtain ⟨ev0,ec0⟩:=ks.x0;obtain ⟨ev1,ec1⟩:=ks.x1;have ef0:=ks.fx 0;have ef1:=ks.fx 1;have exy:=ks.nxy;have HEND:Hid (cV w _ R a len cap _ X Y gl 1 1 M (LL.set k (es3,eq3,ed3,et3,en3))):=ks;go_wp2;refine bodyPost_ret (v:=.agg #[sL gl 1 1,iT M]) (by simp [results,Tryz.results138,go_sem,ec0,ec1]) rfl ?_;exact HEND.out.done (by omega) HFs.out (WalkArith.wf_i64 (by omega)) (by omega) _ _
   by_cases z2:z=2
   · subst z2;go_wp2_with fail
     have k0:=S6.out.below (Below.refl _ w6).drew;have hn13:True:=trivial;refine wp_region_held_drew (S:=(fun w'=>Y<w'.heap.size)) (by kernel_rfl) (k0.ltY) (fun aa=>?_);generalize w6.drew=wd at k0 aa ⊢;refine aO 0 1 aa ?_;refine aO 2 1 aa ?_;refine aO 4 1 aa ?_;refine iU 1 3 (fun K hK=>?_) fun K hK=>?_
     · have q0y:=k0.y0;go_simp;clear q0y;refine hK.out _ _ (k0.ltY) fun aa=>?_
       (try go_frame);refine aI 3 fun K hK=>?_
       have q0y:=k0.y0;go_simp;clear q0y;refine hK.out _ _ (k0.ltY) fun aa=>?_
       (try go_frame);refine aO 5 1 aa ?_;refine aI 6 fun K hK=>?_
       obtain ⟨es,et,eq,ed,en,hEk,e0,e1,e2,e3,e4⟩:=k0.at HFl.out hkn;go_simp;clear e0 e1 e2 e3 e4;refine hK.out _ _ (k0.ltY) fun aa=>?_
       (try go_frame);refine aI 7 fun K hK=>?_
       go_simp;have kc:Bl wd (wd.alloc (.cells #[.string es,iT eq,iT ed,.string et,iT en] 50)):=bZ;have kb:=k0.below kc;have rN:aj (wd.alloc (.cells #[.string es,iT eq,iT ed,.string et,iT en] 50)) (some ⟨wd.heap.size,0,none⟩) 1 1 [(es,eq,ed,et,en)]:=dF wd _ _ _ _ _ (ft hEk);generalize wd.heap.size=gb at rN ⊢;generalize wd.alloc (.cells #[.string es,iT eq,iT ed,.string et,iT en] 50)=wb at kb rN ⊢;refine hK.out _ _ (kb.ltY) fun aa=>?_
       (try go_frame);refine aI 8 fun K hK=>?_
       refine ax rfl (.tmp 50) (.tmp 56) 28 rfl gl 50 i0 _ 5 56 Tryz.underlying28 hi hz0 hz1 hz2 rfl (Nat.succ_pos 4) _ _ _ rfl kb.own.rebase.owns ⟨gb,0,none⟩ 1 1 (aE [(es,eq,ed,et,en)]) rfl rfl (bO rN) (aQ _) ?_ ?_ ?_ ?_
       · unfold maxLen;omega
       · omega
       · exact Nat.le_of_lt kb.own.lt.2
       intro v8 w8 ho8 hg8 hn8;obtain ⟨g8,c8,rfl⟩:=aG ho8 hn8;have hg8':wb.grownBy w8 (some gl):=hg8;refine hK.out _ _ (Nat.lt_of_lt_of_le kb.ltY hg8.size) fun aa=>?_
       (try go_frame);refine aO 9 1 aa ?_;refine aI 10 fun K hK=>?_
       have hO8:ay w8 gl g8 (1+1) c8 (LL++[(es,eq,ed,et,en)]):=⟨by rw [aU];exact ho8,by simp [kb.own.len],fN (cH HFl.out (ch hEk))⟩;have ks:=kb.grewTo hg8' hO8 (by omega);have q0y:=(ah hg8' (x:=⟨Y,0,none⟩) kb.ltY (Ne.symm kb.ngy)).trans kb.y0;have f0y:=(aV hg8' (x:=⟨Y,0,none⟩) kb.ltY (fun e=>kb.ngy (by cases e;rfl))).trans (kb.fy 0);go_simp;clear q0y f0y;refine hK.out _ _ (ks.ltY) fun aa=>?_
       (try go_frame);refine dN ?_;generalize w8.setCell ⟨Y,0,none⟩ (sL g8 (1+1) c8)=w9 at ks ⊢;have HFs:Hid (fk (LL++[(es,eq,ed,et,en)])):=cH HFl.out (ch hEk);have ey0:=ks.y0;have ey1:=ks.y1;have ezY:=ks.ltY;obtain ⟨ev0,ec0⟩:=ks.x0;obtain ⟨ev1,ec1⟩:=ks.x1;have ef0:=ks.fx 0;have ef1:=ks.fx 1;have exy:=ks.nxy;have HEND:Hid (cV w _ R a len cap _ X Y g8 (1+1) c8 M (LL++[(es,eq,ed,et,en)])):=ks;go_wp2;refine bodyPost_ret (v:=.agg #[sL g8 (1+1) c8,iT M]) (by simp [results,Tryz.results138,go_sem,ec0,ec1]) rfl ?_;exact HEND.out.done (by omega) HFs.out (WalkArith.wf_i64 (by omega)) (by omega) _ _
     · have q0y:=k0.y0;go_simp;clear q0y;refine hK.out _ _ (k0.ltY) fun aa=>?_
       (try go_frame);refine aO 5 1 aa ?_;refine iU 1 6 (fun K hK=>?_) fun K hK=>?_
       · have q0y:=k0.y0;go_simp;clear q0y;refine hK.out _ _ (k0.ltY) fun aa=>?_
         (try go_frame);refine aI 6 fun K hK=>?_
         obtain ⟨es,et,eq,ed,en,hEk,e0,e1,e2,e3,e4⟩:=k0.at HFl.out hkn;go_simp;clear e0 e1 e2 e3 e4;refine hK.out _ _ (k0.ltY) fun aa=>?_
         (try go_frame);refine aI 7 fun K hK=>?_
         go_simp;have kc:Bl wd (wd.alloc (.cells #[.string es,iT eq,iT ed,.string et,iT en] 50)):=bZ;have kb:=k0.below kc;have rN:aj (wd.alloc (.cells #[.string es,iT eq,iT ed,.string et,iT en] 50)) (some ⟨wd.heap.size,0,none⟩) 1 1 [(es,eq,ed,et,en)]:=dF wd _ _ _ _ _ (ft hEk);generalize wd.heap.size=gb at rN ⊢;generalize wd.alloc (.cells #[.string es,iT eq,iT ed,.string et,iT en] 50)=wb at kb rN ⊢;refine hK.out _ _ (kb.ltY) fun aa=>?_
         (try go_frame);refine aI 8 fun K hK=>?_
         refine ax rfl (.tmp 50) (.tmp 56) 28 rfl gl 50 i0 _ 5 56 Tryz.underlying28 hi hz0 hz1 hz2 rfl (Nat.succ_pos 4) _ _ _ rfl kb.own.rebase.owns ⟨gb,0,none⟩ 1 1 (aE [(es,eq,ed,et,en)]) rfl rfl (bO rN) (aQ _) ?_ ?_ ?_ ?_
         · unfold maxLen;omega
         · omega
         · exact Nat.le_of_lt kb.own.lt.2
         intro v8 w8 ho8 hg8 hn8;obtain ⟨g8,c8,rfl⟩:=aG ho8 hn8;have hg8':wb.grownBy w8 (some gl):=hg8;refine hK.out _ _ (Nat.lt_of_lt_of_le kb.ltY hg8.size) fun aa=>?_
         (try go_frame);refine aO 9 1 aa ?_;refine aI 10 fun K hK=>?_
         have hO8:ay w8 gl g8 (1+1) c8 (LL++[(es,eq,ed,et,en)]):=⟨by rw [aU];exact ho8,by simp [kb.own.len],fN (cH HFl.out (ch hEk))⟩;have ks:=kb.grewTo hg8' hO8 (by omega);have q0y:=(ah hg8' (x:=⟨Y,0,none⟩) kb.ltY (Ne.symm kb.ngy)).trans kb.y0;have f0y:=(aV hg8' (x:=⟨Y,0,none⟩) kb.ltY (fun e=>kb.ngy (by cases e;rfl))).trans (kb.fy 0);go_simp;clear q0y f0y;refine hK.out _ _ (ks.ltY) fun aa=>?_
         (try go_frame);refine dN ?_;generalize w8.setCell ⟨Y,0,none⟩ (sL g8 (1+1) c8)=w9 at ks ⊢;have HFs:Hid (fk (LL++[(es,eq,ed,et,en)])):=cH HFl.out (ch hEk);have ey0:=ks.y0;have ey1:=ks.y1;have ezY:=ks.ltY;obtain ⟨ev0,ec0⟩:=ks.x0;obtain ⟨ev1,ec1⟩:=ks.x1;have ef0:=ks.fx 0;have ef1:=ks.fx 1;have exy:=ks.nxy;have HEND:Hid (cV w _ R a len cap _ X Y g8 (1+1) c8 M (LL++[(es,eq,ed,et,en)])):=ks;go_wp2;refine bodyPost_ret (v:=.agg #[sL g8 (1+1) c8,iT M]) (by simp [results,Tryz.results138,go_sem,ec0,ec1]) rfl ?_;exact HEND.out.done (by omega) HFs.out (WalkArith.wf_i64 (by omega)) (by omega) _ _
       · obtain ⟨es,et,eq,ed,en,hEk,e0,e1,e2,e3,e4⟩:=k0.at HFl.out hkn;go_simp;clear e0 e1 e2 e3 e4;refine hK.out _ _ (k0.ltY) fun aa=>?_
         (try go_frame);refine iU 1 7 (fun K hK=>?_) fun K hK=>?_
         · have q0y:=k0.y0;go_simp;clear q0y;refine hK.out _ _ (k0.ltY) fun aa=>?_
           (try go_frame);refine aI 7 fun K hK=>?_
           go_simp;have kc:Bl wd (wd.alloc (.cells #[.string es,iT eq,iT ed,.string et,iT en] 50)):=bZ;have kb:=k0.below kc;have rN:aj (wd.alloc (.cells #[.string es,iT eq,iT ed,.string et,iT en] 50)) (some ⟨wd.heap.size,0,none⟩) 1 1 [(es,eq,ed,et,en)]:=dF wd _ _ _ _ _ (ft hEk);generalize wd.heap.size=gb at rN ⊢;generalize wd.alloc (.cells #[.string es,iT eq,iT ed,.string et,iT en] 50)=wb at kb rN ⊢;refine hK.out _ _ (kb.ltY) fun aa=>?_
           (try go_frame);refine aI 8 fun K hK=>?_
           refine ax rfl (.tmp 50) (.tmp 56) 28 rfl gl 50 i0 _ 5 56 Tryz.underlying28 hi hz0 hz1 hz2 rfl (Nat.succ_pos 4) _ _ _ rfl kb.own.rebase.owns ⟨gb,0,none⟩ 1 1 (aE [(es,eq,ed,et,en)]) rfl rfl (bO rN) (aQ _) ?_ ?_ ?_ ?_
           · unfold maxLen;omega
           · omega
           · exact Nat.le_of_lt kb.own.lt.2
           intro v8 w8 ho8 hg8 hn8;obtain ⟨g8,c8,rfl⟩:=aG ho8 hn8;have hg8':wb.grownBy w8 (some gl):=hg8;refine hK.out _ _ (Nat.lt_of_lt_of_le kb.ltY hg8.size) fun aa=>?_
           (try go_frame);refine aO 9 1 aa ?_;refine aI 10 fun K hK=>?_
           have hO8:ay w8 gl g8 (1+1) c8 (LL++[(es,eq,ed,et,en)]):=⟨by rw [aU];exact ho8,by simp [kb.own.len],fN (cH HFl.out (ch hEk))⟩;have ks:=kb.grewTo hg8' hO8 (by omega);have q0y:=(ah hg8' (x:=⟨Y,0,none⟩) kb.ltY (Ne.symm kb.ngy)).trans kb.y0;have f0y:=(aV hg8' (x:=⟨Y,0,none⟩) kb.ltY (fun e=>kb.ngy (by cases e;rfl))).trans (kb.fy 0);go_simp;clear q0y f0y;refine hK.out _ _ (ks.ltY) fun aa=>?_
           (try go_frame);refine dN ?_;generalize w8.setCell ⟨Y,0,none⟩ (sL g8 (1+1) c8)=w9 at ks ⊢;have HFs:Hid (fk (LL++[(es,eq,ed,et,en)])):=cH HFl.out (ch hEk);have ey0:=ks.y0;have ey1:=ks.y1;have ezY:=ks.ltY;obtain ⟨ev0,ec0⟩:=ks.x0;obtain ⟨ev1,ec1⟩:=ks.x1;have ef0:=ks.fx 0;have ef1:=ks.fx 1;have exy:=ks.nxy;have HEND:Hid (cV w _ R a len cap _ X Y g8 (1+1) c8 M (LL++[(es,eq,ed,et,en)])):=ks;go_wp2;refine bodyPost_ret (v:=.agg #[sL g8 (1+1) c8,iT M]) (by simp [results,Tryz.results138,go_sem,ec0,ec1]) rfl ?_;exact HEND.out.done (by omega) HFs.out (WalkArith.wf_i64 (by omega)) (by omega) _ _
         · go_simp;have kc:Bl wd (wd.alloc (.cells #[.string es,iT eq,iT ed,.string et,iT en] 50)):=bZ;have kb:=k0.below kc;have rN:aj (wd.alloc (.cells #[.string es,iT eq,iT ed,.string et,iT en] 50)) (some ⟨wd.heap.size,0,none⟩) 1 1 [(es,eq,ed,et,en)]:=dF wd _ _ _ _ _ (ft hEk);generalize wd.heap.size=gb at rN ⊢;generalize wd.alloc (.cells #[.string es,iT eq,iT ed,.string et,iT en] 50)=wb at kb rN ⊢;refine hK.out _ _ (kb.ltY) fun aa=>?_
           (try go_frame);refine aI 1 fun K hK=>?_
           have q0y:=kb.y0;go_simp;clear q0y;refine hK.out _ _ (kb.ltY) fun aa=>?_
           (try go_frame);refine aI 8 fun K hK=>?_
           refine ax rfl (.tmp 50) (.tmp 56) 28 rfl gl 50 i0 _ 5 56 Tryz.underlying28 hi hz0 hz1 hz2 rfl (Nat.succ_pos 4) _ _ _ rfl kb.own.rebase.owns ⟨gb,0,none⟩ 1 1 (aE [(es,eq,ed,et,en)]) rfl rfl (bO rN) (aQ _) ?_ ?_ ?_ ?_
           · unfold maxLen;omega
           · omega
           · exact Nat.le_of_lt kb.own.lt.2
           intro v8 w8 ho8 hg8 hn8;obtain ⟨g8,c8,rfl⟩:=aG ho8 hn8;have hg8':wb.grownBy w8 (some gl):=hg8;refine hK.out _ _ (Nat.lt_of_lt_of_le kb.ltY hg8.size) fun aa=>?_
           (try go_frame);refine aO 9 1 aa ?_;refine aI 10 fun K hK=>?_
           have hO8:ay w8 gl g8 (1+1) c8 (LL++[(es,eq,ed,et,en)]):=⟨by rw [aU];exact ho8,by simp [kb.own.len],fN (cH HFl.out (ch hEk))⟩;have ks:=kb.grewTo hg8' hO8 (by omega);have q0y:=(ah hg8' (x:=⟨Y,0,none⟩) kb.ltY (Ne.symm kb.ngy)).trans kb.y0;have f0y:=(aV hg8' (x:=⟨Y,0,none⟩) kb.ltY (fun e=>kb.ngy (by cases e;rfl))).trans (kb.fy 0);go_simp;clear q0y f0y;refine hK.out _ _ (ks.ltY) fun aa=>?_
           (try go_frame);refine dN ?_;generalize w8.setCell ⟨Y,0,none⟩ (sL g8 (1+1) c8)=w9 at ks ⊢;have HFs:Hid (fk (LL++[(es,eq,ed,et,en)])):=cH HFl.out (ch hEk);have ey0:=ks.y0;have ey1:=ks.y1;have ezY:=ks.ltY;obtain ⟨ev0,ec0⟩:=ks.x0;obtain ⟨ev1,ec1⟩:=ks.x1;have ef0:=ks.fx 0;have ef1:=ks.fx 1;have exy:=ks.nxy;have HEND:Hid (cV w _ R a len cap _ X Y g8 (1+1) c8 M (LL++[(es,eq,ed,et,en)])):=ks;go_wp2;refine bodyPost_ret (v:=.agg #[sL g8 (1+1) c8,iT M]) (by simp [results,Tryz.results138,go_sem,ec0,ec1]) rfl ?_;exact HEND.out.done (by omega) HFs.out (WalkArith.wf_i64 (by omega)) (by omega) _ _
   by_cases z3:z=3
   · subst z3;have k0:=(S6.out.below ((Below.refl w6.heap.size w6).alloc (Nat.le_refl _) (.cells #[] 50)));have oE:ay (w6.alloc (.cells #[] 50)) w.heap.size w6.heap.size 0 0 []:=bQ w6 _ S6.out.gr.size;have ks:=k0.ents oE S6.out.ltX (by have:=S6.out.ltY;omega);have q6y:=S6.out.y0;have f6y:=S6.out.fy 0;have q6z:=S6.out.ltY;rw [World.setCell_alloc_past _ _ _ _ q6z] at ks;clear k0 oE;go_upto_region 17 with fail
     clear q6y f6y q6z S6;generalize w6.heap.size=g9 at ks ⊢;generalize (w6.setCell ⟨Y,0,none⟩ (sL g9 0 0)).alloc (.cells #[] 50)=w9 at ks ⊢;have ey0:=ks.y0;have ey1:=ks.y1;have ezY:=ks.ltY;obtain ⟨ev0,ec0⟩:=ks.x0;obtain ⟨ev1,ec1⟩:=ks.x1;have ef0:=ks.fx 0;have ef1:=ks.fx 1;have exy:=ks.nxy;have HEND:Hid (cV w _ R a len cap _ X Y g9 0 0 M []):=ks;go_wp2;refine bodyPost_ret (v:=.agg #[sL g9 0 0,iT M]) (by simp [results,Tryz.results138,go_sem,ec0,ec1]) rfl ?_;exact HEND.out.done (by omega) (fun e he=>by cases he) (WalkArith.wf_i64 (by omega)) (by omega) _ _
   by_cases z4:z=4
   · subst z4;have ks:=S6.out.mask 65535;have q6y:=S6.out.y0;have q61:=S6.out.y1;have f6y:=S6.out.fy 1;have q6z:=S6.out.ltY;have q6x:=S6.out.ltX;obtain ⟨ew0,ed0⟩:=S6.out.x0;obtain ⟨ew1,ed1⟩:=S6.out.x1;have eg0:=S6.out.fx 0;have eg1:=S6.out.fx 1;have exy:=S6.out.nxy;have HEND:Hid (cV w _ R a len cap _ X Y gl 1 1 65535 LL):=ks;clear ks;go_wp2;refine bodyPost_ret (v:=.agg #[sL gl 1 1,iT 65535]) (by simp [results,Tryz.results138,go_sem,ed0,ed1]) rfl ?_;exact HEND.out.done (by omega) HFl.out (WalkArith.wf_i64 (by omega)) (by omega) _ _
   have k6:=S6.out;have ey0:=k6.y0;have ey1:=k6.y1;have ezY:=k6.ltY;obtain ⟨ev0,ec0⟩:=k6.x0;obtain ⟨ev1,ec1⟩:=k6.x1;have ef0:=k6.fx 0;have ef1:=k6.fx 1;have exy:=k6.nxy;have HEND:Hid (cV w _ R a len cap _ X Y gl 1 1 M LL):=k6;go_wp2;refine bodyPost_ret (v:=.agg #[sL gl 1 1,iT M]) (by simp [results,Tryz.results138,go_sem,ec0,ec1]) rfl ?_;exact HEND.out.done (by omega) HFl.out (WalkArith.wf_i64 (by omega)) (by omega) _ _
 · have hnI:¬((n:Nat):Int)=0:=by omega
   have hn1:1≤n:=by omega
   have hgX:X<g:=by omega
   have HFl:Hid (fk L):=HF1.out;have HOl:Hid (ay w1 w.heap.size g n c L):=HO1.out;have HRl:Hid (aW w1 R a len cap P1):=HR1.out;have HGl:Hid (w.grownBy w1 (some R)):=HG1.out;have x0l:=x0;have x1l:=x1;have fxl:=fx;have zXl:=zX;clear HO1 HR1 HG1 HF1 x0 x1 fx zX hgX0 hXR;go_wp2_with fail
   refine (su _ n c L w1 HOl.out.entsAt).mono ?_;rintro e wr ⟨rfl,hbr⟩;obtain ⟨M,hM⟩:∃M:Int,M=((cZ L:Nat):Int):=⟨_,rfl⟩;have hM0:0≤M:=by omega
   have hM1:M<65536:=by have:=lj L;omega
   rw [← hM];clear hM;obtain ⟨Y,hY⟩:=aS wr.heap.size;obtain ⟨W,hW⟩:=aS (wr.alloc (.cells #[sL g n c,iT M] 63));have kW:Bl wr W:=by rw [hW];exact bZ
   have kk:=hbr.trans (kW.mono hbr.size);have S0:Hid (cV w W R a len cap P1 X Y g n c M L):=⟨HRl.out.below kk,ae HGl.out (aL kk),⟨_,cell_later kk x0l⟩,⟨_,cell_later kk x1l⟩,(fun o=>(kk.frozen (p:=⟨X,o,none⟩) zXl).trans (fxl o)),by rw [hW,hY];simp,by rw [hW,hY];simp,(fun o=>by rw [hW,hY];exact World.frozen?_alloc_new wr _ _ o),HOl.out.below kk,hXw,by have:=HGl.out.size;have:=hbr.size;omega,HRW.out,by have:=hbr.size;omega,hgX,by have:=HOl.out.lt.2;have:=hbr.size;omega,HLOW.out⟩;have sz0:=S0.out.ltY;go_wp2_with fail
   rw [← hW,← hY];clear hW hY kW kk hbr x0l x1l fxl zXl HRl HGl HOl sz0;refine (cF R P1 a len cap _ W S0.out.rd (by omega) (by omega)).mono ?_;rintro e w5 ⟨qk,rfl,hqk,R5,g5⟩;have S5:Hid (cV w w5 R a len cap (P1+1) X Y g n c M L):=S0.out.read g5 R5;obtain ⟨k,hk⟩:=Int.eq_ofNat_of_zero_le hqk.1;subst hk;have hkn:k<n:=by have:=hqk.2 (by omega);omega
   have hknI:(k:Int)<((n:Nat):Int):=by omega
   have hknJ:(k:Int)<n:=by omega
   clear R5 g5 S0 hqk;go_wp2_with fail
   refine (cF R (P1+1) a len cap _ w5 S5.out.rd (by omega) (by omega)).mono ?_;rintro e w6 ⟨z,rfl,hz,R6,g6⟩;have S6:Hid (cV w w6 R a len cap (P1+1+1) X Y g n c M L):=S5.out.read g6 R6;clear R6 g6 S5 hz;by_cases z0:z=0
   · subst z0;go_wp2_with fail
     have k0:=S6.out.below (Below.refl _ w6).drew;have hn13:True:=trivial;refine wp_region_held_drew (S:=(fun w'=>Y<w'.heap.size)) (by kernel_rfl) (k0.ltY) (fun aa=>?_);generalize w6.drew=wd at k0 aa ⊢;refine aO 0 1 aa ?_;refine aO 2 1 aa ?_;refine iU 1 3 (fun K hK=>?_) fun K hK=>?_
     · have q1y:=k0.y1;go_simp;clear q1y;refine hK.out _ _ (k0.ltY) fun aa=>?_
       (try go_frame);refine aI 3 fun K hK=>?_
       go_simp;have kc:Bl wd (wd.alloc (.cells ((([1,-1,65536]:List Int).map iT).toArray) 3)):=bZ;have kb:=k0.below kc;have cb:=dR wd 3 [1,-1,65536] Nx (by intro s hs;simp only [List.mem_cons,List.not_mem_nil,or_false] at hs;rcases hs with rfl | rfl | rfl <;> (unfold Nx;decide));have bR:wd.heap.size≠R:=by have:=k0.rd.lt;omega
       have bl:wd.heap.size<(wd.alloc (.cells ((([1,-1,65536]:List Int).map iT).toArray) 3)).heap.size:=by simp
       simp only [List.map_cons,List.map_nil] at kc kb cb bl;generalize wd.heap.size=gb at cb bR bl ⊢;generalize wd.alloc (.cells #[iT 1,iT (-1),iT 65536] 3)=wb at kb cb bl ⊢;refine hK.out _ _ (kb.ltY) fun aa=>?_
       (try go_frame);refine aI 4 fun K hK=>?_
       go_simp;refine (dX Nx R _ a len cap gb 0 3 3 _ kb.rd (by omega) (by omega) (by omega) bR bl cb).mono ?_;rintro e w8 ⟨zn,rfl,hzn,R8,g8⟩;have kn:=kb.read g8 R8;obtain ⟨hz1n,hz2n⟩:=hzn;have HWR:Hid (IntKind.i64.wrap (M+zn)=M+zn):=by unfold Hid;simp [IntKind.wrap,IntKind.bits,IntKind.signed];omega
       go_wp2_with fail
       refine hK.out _ _ (kn.ltY) fun aa=>?_
       (try go_frame);refine aO 5 2 aa ?_;refine aI 7 fun K hK=>?_
       have q7y:=kn.y1;have f7y:=kn.fy 1;go_simp;have ks:=kn.mask (IntKind.i64.wrap (M+zn));clear q7y f7y;refine hK.out _ _ (ks.ltY) fun aa=>?_
       (try go_frame);refine dN ?_;generalize w8.setCell ⟨Y,1,none⟩ (iT (IntKind.i64.wrap (M+zn)))=w9 at ks ⊢;rw [HWR.out] at ks;have ey0:=ks.y0;have ey1:=ks.y1;have ezY:=ks.ltY;obtain ⟨ev0,ec0⟩:=ks.x0;obtain ⟨ev1,ec1⟩:=ks.x1;have ef0:=ks.fx 0;have ef1:=ks.fx 1;have exy:=ks.nxy;have HEND:Hid (cV w _ R a len cap _ X Y g n c (M+zn) L):=ks;go_wp2;refine bodyPost_ret (v:=.agg #[sL g n c,iT (M+zn)]) (by simp [results,Tryz.results138,go_sem,ec0,ec1]) rfl ?_;exact HEND.out.done (by omega) HFl.out (WalkArith.wf_i64 (by omega)) (by omega) _ _
     · go_simp;have kc:Bl wd (wd.alloc (.cells ((([1,-1,65536]:List Int).map iT).toArray) 3)):=bZ;have kb:=k0.below kc;have cb:=dR wd 3 [1,-1,65536] Nx (by intro s hs;simp only [List.mem_cons,List.not_mem_nil,or_false] at hs;rcases hs with rfl | rfl | rfl <;> (unfold Nx;decide));have bR:wd.heap.size≠R:=by have:=k0.rd.lt;omega
       have bl:wd.heap.size<(wd.alloc (.cells ((([1,-1,65536]:List Int).map iT).toArray) 3)).heap.size:=by simp
       simp only [List.map_cons,List.map_nil] at kc kb cb bl;generalize wd.heap.size=gb at cb bR bl ⊢;generalize wd.alloc (.cells #[iT 1,iT (-1),iT 65536] 3)=wb at kb cb bl ⊢;refine hK.out _ _ (kb.ltY) fun aa=>?_
       (try go_frame);refine iU 1 4 (fun K hK=>?_) fun K hK=>?_
       · have q1y:=kb.y1;go_simp;clear q1y;refine hK.out _ _ (kb.ltY) fun aa=>?_
         (try go_frame);refine aI 4 fun K hK=>?_
         go_simp;refine (dX Nx R _ a len cap gb 0 3 3 _ kb.rd (by omega) (by omega) (by omega) bR bl cb).mono ?_;rintro e w8 ⟨zn,rfl,hzn,R8,g8⟩;have kn:=kb.read g8 R8;obtain ⟨hz1n,hz2n⟩:=hzn;have HWR:Hid (IntKind.i64.wrap (M+zn)=M+zn):=by unfold Hid;simp [IntKind.wrap,IntKind.bits,IntKind.signed];omega
         go_wp2_with fail
         refine hK.out _ _ (kn.ltY) fun aa=>?_
         (try go_frame);refine aO 5 2 aa ?_;refine aI 7 fun K hK=>?_
         have q7y:=kn.y1;have f7y:=kn.fy 1;go_simp;have ks:=kn.mask (IntKind.i64.wrap (M+zn));clear q7y f7y;refine hK.out _ _ (ks.ltY) fun aa=>?_
         (try go_frame);refine dN ?_;generalize w8.setCell ⟨Y,1,none⟩ (iT (IntKind.i64.wrap (M+zn)))=w9 at ks ⊢;rw [HWR.out] at ks;have ey0:=ks.y0;have ey1:=ks.y1;have ezY:=ks.ltY;obtain ⟨ev0,ec0⟩:=ks.x0;obtain ⟨ev1,ec1⟩:=ks.x1;have ef0:=ks.fx 0;have ef1:=ks.fx 1;have exy:=ks.nxy;have HEND:Hid (cV w _ R a len cap _ X Y g n c (M+zn) L):=ks;go_wp2;refine bodyPost_ret (v:=.agg #[sL g n c,iT (M+zn)]) (by simp [results,Tryz.results138,go_sem,ec0,ec1]) rfl ?_;exact HEND.out.done (by omega) HFl.out (WalkArith.wf_i64 (by omega)) (by omega) _ _
       · go_simp;refine (dX Nx R _ a len cap gb 0 3 3 _ kb.rd (by omega) (by omega) (by omega) bR bl cb).mono ?_;rintro e w8 ⟨zn,rfl,hzn,R8,g8⟩;have kn:=kb.read g8 R8;obtain ⟨hz1n,hz2n⟩:=hzn;have HWR:Hid (IntKind.i64.wrap (M+zn)=M+zn):=by unfold Hid;simp [IntKind.wrap,IntKind.bits,IntKind.signed];omega
         go_wp2_with fail
         refine hK.out _ _ (kn.ltY) fun aa=>?_
         (try go_frame);refine aI 1 fun K hK=>?_
         have q1y:=kn.y1;go_simp;clear q1y;refine hK.out _ _ (kn.ltY) fun aa=>?_
         (try go_frame);refine aO 5 2 aa ?_;refine aI 7 fun K hK=>?_
         have q7y:=kn.y1;have f7y:=kn.fy 1;go_simp;have ks:=kn.mask (IntKind.i64.wrap (M+zn));clear q7y f7y;refine hK.out _ _ (ks.ltY) fun aa=>?_
         (try go_frame);refine dN ?_;generalize w8.setCell ⟨Y,1,none⟩ (iT (IntKind.i64.wrap (M+zn)))=w9 at ks ⊢;rw [HWR.out] at ks;have ey0:=ks.y0;have ey1:=ks.y1;have ezY:=ks.ltY;obtain ⟨ev0,ec0⟩:=ks.x0;obtain ⟨ev1,ec1⟩:=ks.x1;have ef0:=ks.fx 0;have ef1:=ks.fx 1;have exy:=ks.nxy;have HEND:Hid (cV w _ R a len cap _ X Y g n c (M+zn) L):=ks;go_wp2;refine bodyPost_ret (v:=.agg #[sL g n c,iT (M+zn)]) (by simp [results,Tryz.results138,go_sem,ec0,ec1]) rfl ?_;exact HEND.out.done (by omega) HFl.out (WalkArith.wf_i64 (by omega)) (by omega) _ _
   by_cases z1:z=1
   · subst z1;go_wp2_with fail
     have k0:=S6.out.below (Below.refl _ w6).drew;have hn13:True:=trivial;refine wp_region_held_drew (S:=(fun w'=>w'.cell? ⟨Y,0,none⟩=some (sL g n c)∧Y<w'.heap.size∧g<w'.heap.size)) (by kernel_rfl) (⟨k0.y0,k0.ltY,k0.own.lt.2⟩) (fun aa=>?_);generalize w6.drew=wd at k0 aa ⊢;refine aO 0 10 aa ?_;refine aI 10 fun K hK=>?_
     obtain ⟨es,et,eq,ed,en,hEk,e0,e1,e2,e3,e4⟩:=k0.at HFl.out hkn;go_simp;clear e0 e1 e2 e3 e4;refine hK.out _ _ (⟨k0.y0,k0.ltY,k0.own.lt.2⟩) fun aa=>?_
     (try go_frame);refine aI 11 fun K hK=>?_
     go_simp;refine (ep R _ a len cap _ _ _ _ _ _ k0.rd (by omega) hEk).mono ?_;rintro e wq1 ⟨es1,et1,eq1,ed1,en1,Pq1,rfl,hE1,Rq1,hPq1,gq1⟩;have kq1:=k0.read gq1 Rq1;go_wp2_with fail
     refine hK.out _ _ (⟨kq1.y0,kq1.ltY,kq1.own.lt.2⟩) fun aa=>?_
     (try go_frame);refine aI 12 fun K hK=>?_
     go_simp;refine (ep R _ a len cap _ _ _ _ _ _ kq1.rd (by omega) hE1).mono ?_;rintro e wq2 ⟨es2,et2,eq2,ed2,en2,Pq2,rfl,hE2,Rq2,hPq2,gq2⟩;have kq2:=kq1.read gq2 Rq2;go_wp2_with fail
     refine hK.out _ _ (⟨kq2.y0,kq2.ltY,kq2.own.lt.2⟩) fun aa=>?_
     (try go_frame);refine aI 13 fun K hK=>?_
     go_simp;refine (ep R _ a len cap _ _ _ _ _ _ kq2.rd (by omega) hE2).mono ?_;rintro e wq3 ⟨es3,et3,eq3,ed3,en3,Pq3,rfl,hE3,Rq3,hPq3,gq3⟩;have kq3:=kq2.read gq3 Rq3;go_wp2_with fail
     refine hK.out _ _ (⟨kq3.y0,kq3.ltY,kq3.own.lt.2⟩) fun aa=>?_
     (try go_frame);refine aO 14 1 aa ?_;refine aI 15 fun K hK=>?_
     obtain ⟨x0,x1,x2,x3,x4⟩:=kq3.own.entsAt.cells _ rfl k (by rw [kq3.own.len];exact hkn);simp only [Nat.zero_add] at x0 x1 x2 x3 x4;have y0:=kq3.own.owns.frozenAt (k*5);have y1:=kq3.own.owns.frozenAt (k*5+1);have y2:=kq3.own.owns.frozenAt (k*5+2);have y3:=kq3.own.owns.frozenAt (k*5+3);have y4:=kq3.own.owns.frozenAt (k*5+4);go_simp;have ks:=kq3.put hkn es3 et3 eq3 ed3 en3 (ft hE3);clear x0 x1 x2 x3 x4 y0 y1 y2 y3 y4;refine hK.out _ _ (⟨ks.y0,ks.ltY,ks.own.lt.2⟩) fun aa=>?_
     (try go_frame);refine dN ?_;generalize ((((wq3.setCell ⟨g,k*5,none⟩ (.string es3)).setCell ⟨g,k*5+1,none⟩ (iT eq3)).setCell ⟨g,k*5+2,none⟩ (iT ed3)).setCell ⟨g,k*5+3,none⟩ (.string et3)).setCell ⟨g,k*5+4,none⟩ (iT en3)=w9 at ks ⊢;have HFs:Hid (fk (L.set k (es3,eq3,ed3,et3,en3))):=tM HFl.out hE3;have ey0:=ks.y0;have ey1:=ks.y1;have ezY:=ks.ltY;obtain ⟨ev0,ec0⟩:=ks.x0;obtain ⟨ev1,ec1⟩:=ks.x1;have ef0:=ks.fx 0;have ef1:=ks.fx 1;have exy:=ks.nxy;have HEND:Hid (cV w _ R a len cap _ X Y g n c M (L.set k (es3,eq3,ed3,et3,en3))):=ks;go_wp2;refine bodyPost_ret (v:=.agg #[sL g n c,iT M]) (by simp [results,Tryz.results138,go_sem,ec0,ec1]) rfl ?_;exact HEND.out.done (by omega) HFs.out (WalkArith.wf_i64 (by omega)) (by omega) _ _
   by_cases z2:z=2
   · subst z2;go_wp2_with fail
     have k0:=S6.out.below (Below.refl _ w6).drew;have hn13:True:=trivial;refine wp_region_held_drew (S:=(fun w'=>Y<w'.heap.size)) (by kernel_rfl) (k0.ltY) (fun aa=>?_);generalize w6.drew=wd at k0 aa ⊢;refine aO 0 1 aa ?_;refine aO 2 1 aa ?_;refine aO 4 1 aa ?_;refine iU 1 3 (fun K hK=>?_) fun K hK=>?_
     · have q0y:=k0.y0;go_simp;clear q0y;refine hK.out _ _ (k0.ltY) fun aa=>?_
       (try go_frame);refine aI 3 fun K hK=>?_
       have q0y:=k0.y0;go_simp;clear q0y;refine hK.out _ _ (k0.ltY) fun aa=>?_
       (try go_frame);refine aO 5 1 aa ?_;refine aI 6 fun K hK=>?_
       obtain ⟨es,et,eq,ed,en,hEk,e0,e1,e2,e3,e4⟩:=k0.at HFl.out hkn;go_simp;clear e0 e1 e2 e3 e4;refine hK.out _ _ (k0.ltY) fun aa=>?_
       (try go_frame);refine aI 7 fun K hK=>?_
       go_simp;have kc:Bl wd (wd.alloc (.cells #[.string es,iT eq,iT ed,.string et,iT en] 50)):=bZ;have kb:=k0.below kc;have rN:aj (wd.alloc (.cells #[.string es,iT eq,iT ed,.string et,iT en] 50)) (some ⟨wd.heap.size,0,none⟩) 1 1 [(es,eq,ed,et,en)]:=dF wd _ _ _ _ _ (ft hEk);generalize wd.heap.size=gb at rN ⊢;generalize wd.alloc (.cells #[.string es,iT eq,iT ed,.string et,iT en] 50)=wb at kb rN ⊢;refine hK.out _ _ (kb.ltY) fun aa=>?_
       (try go_frame);refine aI 8 fun K hK=>?_
       refine ax rfl (.tmp 50) (.tmp 56) 28 rfl g 50 i0 _ 5 56 Tryz.underlying28 hi hz0 hz1 hz2 rfl (Nat.succ_pos 4) _ _ _ rfl kb.own.rebase.owns ⟨gb,0,none⟩ 1 1 (aE [(es,eq,ed,et,en)]) rfl rfl (bO rN) (aQ _) ?_ ?_ ?_ ?_
       · unfold maxLen;omega
       · omega
       · exact Nat.le_of_lt kb.own.lt.2
       intro v8 w8 ho8 hg8 hn8;obtain ⟨g8,c8,rfl⟩:=aG ho8 hn8;have hg8':wb.grownBy w8 (some g):=hg8;refine hK.out _ _ (Nat.lt_of_lt_of_le kb.ltY hg8.size) fun aa=>?_
       (try go_frame);refine aO 9 1 aa ?_;refine aI 10 fun K hK=>?_
       have hO8:ay w8 g g8 (n+1) c8 (L++[(es,eq,ed,et,en)]):=⟨by rw [aU];exact ho8,by simp [kb.own.len],fN (cH HFl.out (ch hEk))⟩;have ks:=kb.grewTo hg8' hO8 (by omega);have q0y:=(ah hg8' (x:=⟨Y,0,none⟩) kb.ltY (Ne.symm kb.ngy)).trans kb.y0;have f0y:=(aV hg8' (x:=⟨Y,0,none⟩) kb.ltY (fun e=>kb.ngy (by cases e;rfl))).trans (kb.fy 0);go_simp;clear q0y f0y;refine hK.out _ _ (ks.ltY) fun aa=>?_
       (try go_frame);refine dN ?_;generalize w8.setCell ⟨Y,0,none⟩ (sL g8 (n+1) c8)=w9 at ks ⊢;have HFs:Hid (fk (L++[(es,eq,ed,et,en)])):=cH HFl.out (ch hEk);have ey0:=ks.y0;have ey1:=ks.y1;have ezY:=ks.ltY;obtain ⟨ev0,ec0⟩:=ks.x0;obtain ⟨ev1,ec1⟩:=ks.x1;have ef0:=ks.fx 0;have ef1:=ks.fx 1;have exy:=ks.nxy;have HEND:Hid (cV w _ R a len cap _ X Y g8 (n+1) c8 M (L++[(es,eq,ed,et,en)])):=ks;go_wp2;refine bodyPost_ret (v:=.agg #[sL g8 (n+1) c8,iT M]) (by simp [results,Tryz.results138,go_sem,ec0,ec1]) rfl ?_;exact HEND.out.done (by omega) HFs.out (WalkArith.wf_i64 (by omega)) (by omega) _ _
     · have q0y:=k0.y0;go_simp;clear q0y;refine hK.out _ _ (k0.ltY) fun aa=>?_
       (try go_frame);refine aO 5 1 aa ?_;refine iU 1 6 (fun K hK=>?_) fun K hK=>?_
       · have q0y:=k0.y0;go_simp;clear q0y;refine hK.out _ _ (k0.ltY) fun aa=>?_
         (try go_frame);refine aI 6 fun K hK=>?_
         obtain ⟨es,et,eq,ed,en,hEk,e0,e1,e2,e3,e4⟩:=k0.at HFl.out hkn;go_simp;clear e0 e1 e2 e3 e4;refine hK.out _ _ (k0.ltY) fun aa=>?_
         (try go_frame);refine aI 7 fun K hK=>?_
         go_simp;have kc:Bl wd (wd.alloc (.cells #[.string es,iT eq,iT ed,.string et,iT en] 50)):=bZ;have kb:=k0.below kc;have rN:aj (wd.alloc (.cells #[.string es,iT eq,iT ed,.string et,iT en] 50)) (some ⟨wd.heap.size,0,none⟩) 1 1 [(es,eq,ed,et,en)]:=dF wd _ _ _ _ _ (ft hEk);generalize wd.heap.size=gb at rN ⊢;generalize wd.alloc (.cells #[.string es,iT eq,iT ed,.string et,iT en] 50)=wb at kb rN ⊢;refine hK.out _ _ (kb.ltY) fun aa=>?_
         (try go_frame);refine aI 8 fun K hK=>?_
         refine ax rfl (.tmp 50) (.tmp 56) 28 rfl g 50 i0 _ 5 56 Tryz.underlying28 hi hz0 hz1 hz2 rfl (Nat.succ_pos 4) _ _ _ rfl kb.own.rebase.owns ⟨gb,0,none⟩ 1 1 (aE [(es,eq,ed,et,en)]) rfl rfl (bO rN) (aQ _) ?_ ?_ ?_ ?_
         · unfold maxLen;omega
         · omega
         · exact Nat.le_of_lt kb.own.lt.2
         intro v8 w8 ho8 hg8 hn8;obtain ⟨g8,c8,rfl⟩:=aG ho8 hn8;have hg8':wb.grownBy w8 (some g):=hg8;refine hK.out _ _ (Nat.lt_of_lt_of_le kb.ltY hg8.size) fun aa=>?_
         (try go_frame);refine aO 9 1 aa ?_;refine aI 10 fun K hK=>?_
         have hO8:ay w8 g g8 (n+1) c8 (L++[(es,eq,ed,et,en)]):=⟨by rw [aU];exact ho8,by simp [kb.own.len],fN (cH HFl.out (ch hEk))⟩;have ks:=kb.grewTo hg8' hO8 (by omega);have q0y:=(ah hg8' (x:=⟨Y,0,none⟩) kb.ltY (Ne.symm kb.ngy)).trans kb.y0;have f0y:=(aV hg8' (x:=⟨Y,0,none⟩) kb.ltY (fun e=>kb.ngy (by cases e;rfl))).trans (kb.fy 0);go_simp;clear q0y f0y;refine hK.out _ _ (ks.ltY) fun aa=>?_
         (try go_frame);refine dN ?_;generalize w8.setCell ⟨Y,0,none⟩ (sL g8 (n+1) c8)=w9 at ks ⊢;have HFs:Hid (fk (L++[(es,eq,ed,et,en)])):=cH HFl.out (ch hEk);have ey0:=ks.y0;have ey1:=ks.y1;have ezY:=ks.ltY;obtain ⟨ev0,ec0⟩:=ks.x0;obtain ⟨ev1,ec1⟩:=ks.x1;have ef0:=ks.fx 0;have ef1:=ks.fx 1;have exy:=ks.nxy;have HEND:Hid (cV w _ R a len cap _ X Y g8 (n+1) c8 M (L++[(es,eq,ed,et,en)])):=ks;go_wp2;refine bodyPost_ret (v:=.agg #[sL g8 (n+1) c8,iT M]) (by simp [results,Tryz.results138,go_sem,ec0,ec1]) rfl ?_;exact HEND.out.done (by omega) HFs.out (WalkArith.wf_i64 (by omega)) (by omega) _ _
       · obtain ⟨es,et,eq,ed,en,hEk,e0,e1,e2,e3,e4⟩:=k0.at HFl.out hkn;go_simp;clear e0 e1 e2 e3 e4;refine hK.out _ _ (k0.ltY) fun aa=>?_
         (try go_frame);refine iU 1 7 (fun K hK=>?_) fun K hK=>?_
         · have q0y:=k0.y0;go_simp;clear q0y;refine hK.out _ _ (k0.ltY) fun aa=>?_
           (try go_frame);refine aI 7 fun K hK=>?_
           go_simp;have kc:Bl wd (wd.alloc (.cells #[.string es,iT eq,iT ed,.string et,iT en] 50)):=bZ;have kb:=k0.below kc;have rN:aj (wd.alloc (.cells #[.string es,iT eq,iT ed,.string et,iT en] 50)) (some ⟨wd.heap.size,0,none⟩) 1 1 [(es,eq,ed,et,en)]:=dF wd _ _ _ _ _ (ft hEk);generalize wd.heap.size=gb at rN ⊢;generalize wd.alloc (.cells #[.string es,iT eq,iT ed,.string et,iT en] 50)=wb at kb rN ⊢;refine hK.out _ _ (kb.ltY) fun aa=>?_
           (try go_frame);refine aI 8 fun K hK=>?_
           refine ax rfl (.tmp 50) (.tmp 56) 28 rfl g 50 i0 _ 5 56 Tryz.underlying28 hi hz0 hz1 hz2 rfl (Nat.succ_pos 4) _ _ _ rfl kb.own.rebase.owns ⟨gb,0,none⟩ 1 1 (aE [(es,eq,ed,et,en)]) rfl rfl (bO rN) (aQ _) ?_ ?_ ?_ ?_
           · unfold maxLen;omega
           · omega
           · exact Nat.le_of_lt kb.own.lt.2
           intro v8 w8 ho8 hg8 hn8;obtain ⟨g8,c8,rfl⟩:=aG ho8 hn8;have hg8':wb.grownBy w8 (some g):=hg8;refine hK.out _ _ (Nat.lt_of_lt_of_le kb.ltY hg8.size) fun aa=>?_
           (try go_frame);refine aO 9 1 aa ?_;refine aI 10 fun K hK=>?_
           have hO8:ay w8 g g8 (n+1) c8 (L++[(es,eq,ed,et,en)]):=⟨by rw [aU];exact ho8,by simp [kb.own.len],fN (cH HFl.out (ch hEk))⟩;have ks:=kb.grewTo hg8' hO8 (by omega);have q0y:=(ah hg8' (x:=⟨Y,0,none⟩) kb.ltY (Ne.symm kb.ngy)).trans kb.y0;have f0y:=(aV hg8' (x:=⟨Y,0,none⟩) kb.ltY (fun e=>kb.ngy (by cases e;rfl))).trans (kb.fy 0);go_simp;clear q0y f0y;refine hK.out _ _ (ks.ltY) fun aa=>?_
           (try go_frame);refine dN ?_;generalize w8.setCell ⟨Y,0,none⟩ (sL g8 (n+1) c8)=w9 at ks ⊢;have HFs:Hid (fk (L++[(es,eq,ed,et,en)])):=cH HFl.out (ch hEk);have ey0:=ks.y0;have ey1:=ks.y1;have ezY:=ks.ltY;obtain ⟨ev0,ec0⟩:=ks.x0;obtain ⟨ev1,ec1⟩:=ks.x1;have ef0:=ks.fx 0;have ef1:=ks.fx 1;have exy:=ks.nxy;have HEND:Hid (cV w _ R a len cap _ X Y g8 (n+1) c8 M (L++[(es,eq,ed,et,en)])):=ks;go_wp2;refine bodyPost_ret (v:=.agg #[sL g8 (n+1) c8,iT M]) (by simp [results,Tryz.results138,go_sem,ec0,ec1]) rfl ?_;exact HEND.out.done (by omega) HFs.out (WalkArith.wf_i64 (by omega)) (by omega) _ _
         · go_simp;have kc:Bl wd (wd.alloc (.cells #[.string es,iT eq,iT ed,.string et,iT en] 50)):=bZ;have kb:=k0.below kc;have rN:aj (wd.alloc (.cells #[.string es,iT eq,iT ed,.string et,iT en] 50)) (some ⟨wd.heap.size,0,none⟩) 1 1 [(es,eq,ed,et,en)]:=dF wd _ _ _ _ _ (ft hEk);generalize wd.heap.size=gb at rN ⊢;generalize wd.alloc (.cells #[.string es,iT eq,iT ed,.string et,iT en] 50)=wb at kb rN ⊢;refine hK.out _ _ (kb.ltY) fun aa=>?_
           (try go_frame);refine aI 1 fun K hK=>?_
           have q0y:=kb.y0;go_simp;clear q0y;refine hK.out _ _ (kb.ltY) fun aa=>?_
           (try go_frame);refine aI 8 fun K hK=>?_
           refine ax rfl (.tmp 50) (.tmp 56) 28 rfl g 50 i0 _ 5 56 Tryz.underlying28 hi hz0 hz1 hz2 rfl (Nat.succ_pos 4) _ _ _ rfl kb.own.rebase.owns ⟨gb,0,none⟩ 1 1 (aE [(es,eq,ed,et,en)]) rfl rfl (bO rN) (aQ _) ?_ ?_ ?_ ?_
           · unfold maxLen;omega
           · omega
           · exact Nat.le_of_lt kb.own.lt.2
           intro v8 w8 ho8 hg8 hn8;obtain ⟨g8,c8,rfl⟩:=aG ho8 hn8;have hg8':wb.grownBy w8 (some g):=hg8;refine hK.out _ _ (Nat.lt_of_lt_of_le kb.ltY hg8.size) fun aa=>?_
           (try go_frame);refine aO 9 1 aa ?_;refine aI 10 fun K hK=>?_
           have hO8:ay w8 g g8 (n+1) c8 (L++[(es,eq,ed,et,en)]):=⟨by rw [aU];exact ho8,by simp [kb.own.len],fN (cH HFl.out (ch hEk))⟩;have ks:=kb.grewTo hg8' hO8 (by omega);have q0y:=(ah hg8' (x:=⟨Y,0,none⟩) kb.ltY (Ne.symm kb.ngy)).trans kb.y0;have f0y:=(aV hg8' (x:=⟨Y,0,none⟩) kb.ltY (fun e=>kb.ngy (by cases e;rfl))).trans (kb.fy 0);go_simp;clear q0y f0y;refine hK.out _ _ (ks.ltY) fun aa=>?_
           (try go_frame);refine dN ?_;generalize w8.setCell ⟨Y,0,none⟩ (sL g8 (n+1) c8)=w9 at ks ⊢;have HFs:Hid (fk (L++[(es,eq,ed,et,en)])):=cH HFl.out (ch hEk);have ey0:=ks.y0;have ey1:=ks.y1;have ezY:=ks.ltY;obtain ⟨ev0,ec0⟩:=ks.x0;obtain ⟨ev1,ec1⟩:=ks.x1;have ef0:=ks.fx 0;have ef1:=ks.fx 1;have exy:=ks.nxy;have HEND:Hid (cV w _ R a len cap _ X Y g8 (n+1) c8 M (L++[(es,eq,ed,et,en)])):=ks;go_wp2;refine bodyPost_ret (v:=.agg #[sL g8 (n+1) c8,iT M]) (by simp [results,Tryz.results138,go_sem,ec0,ec1]) rfl ?_;exact HEND.out.done (by omega) HFs.out (WalkArith.wf_i64 (by omega)) (by omega) _ _
   by_cases z3:z=3
   · subst z3;have k0:=(S6.out.below ((Below.refl w6.heap.size w6).alloc (Nat.le_refl _) (.cells #[] 50)));have oE:ay (w6.alloc (.cells #[] 50)) w.heap.size w6.heap.size 0 0 []:=bQ w6 _ S6.out.gr.size;have ks:=k0.ents oE S6.out.ltX (by have:=S6.out.ltY;omega);have q6y:=S6.out.y0;have f6y:=S6.out.fy 0;have q6z:=S6.out.ltY;rw [World.setCell_alloc_past _ _ _ _ q6z] at ks;clear k0 oE;go_upto_region 17 with fail
     clear q6y f6y q6z S6;generalize w6.heap.size=g9 at ks ⊢;generalize (w6.setCell ⟨Y,0,none⟩ (sL g9 0 0)).alloc (.cells #[] 50)=w9 at ks ⊢;have ey0:=ks.y0;have ey1:=ks.y1;have ezY:=ks.ltY;obtain ⟨ev0,ec0⟩:=ks.x0;obtain ⟨ev1,ec1⟩:=ks.x1;have ef0:=ks.fx 0;have ef1:=ks.fx 1;have exy:=ks.nxy;have HEND:Hid (cV w _ R a len cap _ X Y g9 0 0 M []):=ks;go_wp2;refine bodyPost_ret (v:=.agg #[sL g9 0 0,iT M]) (by simp [results,Tryz.results138,go_sem,ec0,ec1]) rfl ?_;exact HEND.out.done (by omega) (fun e he=>by cases he) (WalkArith.wf_i64 (by omega)) (by omega) _ _
   by_cases z4:z=4
   · subst z4;have ks:=S6.out.mask 65535;have q6y:=S6.out.y0;have q61:=S6.out.y1;have f6y:=S6.out.fy 1;have q6z:=S6.out.ltY;have q6x:=S6.out.ltX;obtain ⟨ew0,ed0⟩:=S6.out.x0;obtain ⟨ew1,ed1⟩:=S6.out.x1;have eg0:=S6.out.fx 0;have eg1:=S6.out.fx 1;have exy:=S6.out.nxy;have HEND:Hid (cV w _ R a len cap _ X Y g n c 65535 L):=ks;clear ks;go_wp2;refine bodyPost_ret (v:=.agg #[sL g n c,iT 65535]) (by simp [results,Tryz.results138,go_sem,ed0,ed1]) rfl ?_;exact HEND.out.done (by omega) HFl.out (WalkArith.wf_i64 (by omega)) (by omega) _ _
   have k6:=S6.out;have ey0:=k6.y0;have ey1:=k6.y1;have ezY:=k6.ltY;obtain ⟨ev0,ec0⟩:=k6.x0;obtain ⟨ev1,ec1⟩:=k6.x1;have ef0:=k6.fx 0;have ef1:=k6.fx 1;have exy:=k6.nxy;have HEND:Hid (cV w _ R a len cap _ X Y g n c M L):=k6;go_wp2;refine bodyPost_ret (v:=.agg #[sL g n c,iT M]) (by simp [results,Tryz.results138,go_sem,ec0,ec1]) rfl ?_;exact HEND.out.done (by omega) HFl.out (WalkArith.wf_i64 (by omega)) (by omega) _ _
end Go.Proofs.YtpobkmjicbobdaaGreat
namespace Go.Proofs.YtpobkmjicbobdaaGreat
open Go.RowKit
set_option maxRecDepth 100000
set_option maxHeartbeats 16000000
structure mz (w wi:World) (R:Nat) (a:Option Addr) (len cap P X Y g n c:Nat) (m:Int) (L:List ac):Prop where
 all:Bl w wi
 rd:aW wi R a len cap P
 x0:∃v,wi.cell? ⟨X,0,none⟩=some v
 x1:∃v,wi.cell? ⟨X,1,none⟩=some v
 fx:∀o,wi.frozen? ⟨X,o,none⟩=false
 y0:wi.cell? ⟨Y,0,none⟩=some (sL g n c)
 y1:wi.cell? ⟨Y,1,none⟩=some (iT m)
 own:ay wi w.heap.size g n c L
 hx:w.heap.size≤X
 hr:w.heap.size≤R
 nxr:X≠R
 nyr:Y≠R
 nxy:X≠Y
 ngr:g≠R
 ngx:g≠X
 nbx:∀b off,a=some ⟨b,off,none⟩→0<len→b≠X
theorem mz.ltX {w wi:World} {R:Nat} {a:Option Addr} {len cap P X Y g n c:Nat} {m:Int} {L:List ac} (h:mz w wi R a len cap P X Y g n c m L):X<wi.heap.size:=by
 obtain ⟨v,hv⟩:=h.x0;exact World.block_lt_of_cell? _ _ hv
theorem mz.ltY {w wi:World} {R:Nat} {a:Option Addr} {len cap P X Y g n c:Nat} {m:Int} {L:List ac} (h:mz w wi R a len cap P X Y g n c m L):Y<wi.heap.size:=World.block_lt_of_cell? _ _ h.y0
theorem mz.read {w wi wj:World} {R:Nat} {a:Option Addr} {len cap P P' X Y g n c:Nat} {m:Int} {L:List ac} (h:mz w wi R a len cap P X Y g n c m L) (hg:wi.grownBy wj (some R)) (hr:aW wj R a len cap P'):mz w wj R a len cap P' X Y g n c m L where
 all:=h.all.grown hg h.all.size (fun k e=>by cases e;exact h.hr)
 rd:=hr
 x0:=by obtain ⟨v,hv⟩:=h.x0;exact ⟨v,(ah hg (x:=⟨X,0,none⟩) h.ltX h.nxr).trans hv⟩
 x1:=by obtain ⟨v,hv⟩:=h.x1;exact ⟨v,(ah hg (x:=⟨X,1,none⟩) h.ltX h.nxr).trans hv⟩
 fx:=fun o=>(aV hg (x:=⟨X,o,none⟩) h.ltX (fun e=>h.nxr (by cases e;rfl))).trans (h.fx o)
 y0:=(ah hg (x:=⟨Y,0,none⟩) h.ltY h.nyr).trans h.y0
 y1:=(ah hg (x:=⟨Y,1,none⟩) h.ltY h.nyr).trans h.y1
 own:=h.own.grown hg (fun e=>h.ngr (by cases e;rfl))
 hx:=h.hx
 hr:=h.hr
 nxr:=h.nxr
 nyr:=h.nyr
 nxy:=h.nxy
 ngr:=h.ngr
 ngx:=h.ngx
 nbx:=h.nbx
theorem mz.below {w wi wj:World} {R:Nat} {a:Option Addr} {len cap P X Y g n c:Nat} {m:Int} {L:List ac} (h:mz w wi R a len cap P X Y g n c m L) (hb:Bl wi wj):mz w wj R a len cap P X Y g n c m L:=h.read (aL hb) (h.rd.below hb)
theorem mz.setX {w wi:World} {R:Nat} {a:Option Addr} {len cap P X Y g n c:Nat} {m:Int} {L:List ac} (h:mz w wi R a len cap P X Y g n c m L) (o:Nat) (u:Value):mz w (wi.setCell ⟨X,o,none⟩ u) R a len cap P X Y g n c m L where
 all:=h.all.setCell (p:=⟨X,o,none⟩) h.hx _
 rd:=h.rd.other h.nxr h.nbx o u
 x0:=by
  obtain ⟨v,hv⟩:=h.x0;by_cases ho:0=o
  · subst ho;exact ⟨u,World.cell?_setCell_same' _ _ _ (by rw [hv];rfl)⟩
  · exact ⟨v,by rw [World.cell?_setCell_other _ _ _ _ (by intro e;cases e;exact ho rfl)];exact hv⟩
 x1:=by
  obtain ⟨v,hv⟩:=h.x1;by_cases ho:1=o
  · subst ho;exact ⟨u,World.cell?_setCell_same' _ _ _ (by rw [hv];rfl)⟩
  · exact ⟨v,by rw [World.cell?_setCell_other _ _ _ _ (by intro e;cases e;exact ho rfl)];exact hv⟩
 fx:=fun q=>by rw [World.frozen?_setCell];exact h.fx q
 y0:=(ah (bw wi X o u) (x:=⟨Y,0,none⟩) h.ltY (Ne.symm h.nxy)).trans h.y0
 y1:=(ah (bw wi X o u) (x:=⟨Y,1,none⟩) h.ltY (Ne.symm h.nxy)).trans h.y1
 own:=h.own.grown (bw wi X o u) (fun e=>h.ngx (by cases e;rfl))
 hx:=h.hx
 hr:=h.hr
 nxr:=h.nxr
 nyr:=h.nyr
 nxy:=h.nxy
 ngr:=h.ngr
 ngx:=h.ngx
 nbx:=h.nbx
end Go.Proofs.YtpobkmjicbobdaaGreat
