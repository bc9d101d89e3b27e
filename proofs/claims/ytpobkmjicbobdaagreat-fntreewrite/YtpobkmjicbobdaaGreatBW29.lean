/- Walks. -/
import Derived.Test.YtpobkmjicbobdaaGreatBW28
namespace Go.Proofs.YtpobkmjicbobdaaGreat
open Go.RowKit
set_option maxRecDepth 100000
set_option maxHeartbeats 16000000
theorem Ay {L:List ac} (h:iH L):iH (aS L):=fun e b=>h e ((bu L).2.mem_iff.1 b)
theorem yH (R P many:Nat) (a:Option Addr) (len b:Nat) (w:World) (h:bh w R a len b P) (d:ud a len R) (E:P<80000) (hm:many≤100) :
 Calls Tryz.prog 195 #[.pointer (pT R),iT many] w (Fp R a len b P many w):=by
 go_enter Tryz.func195,Tryz.ntmps195
 go_wp2_with fail
 refine (yJ R P many a len b w h d E hm).mono ?_;rintro e x ⟨g,n,c,F,L,rfl,hO,hn,hF,hR,t,hG⟩;have C:=az hR;have B:=az hG;have y:=az hF;have hz:=hG.size;go_wp2_with fail
 refine (Ck _ n c L x hO.entsAt (by omega)).mono ?_;rintro e H ⟨A,D,rfl,u,f⟩;have r:=az (u.mono hz);have s:=az (C.o.below f);have m:=az (ae B.o (aJ f));go_wp2;go_ret;exact ⟨A,n,D,F,aS L,rfl,r.o,hn,Ay y.o,s.o,t,m.o⟩
theorem Cl (a:Option Addr) (n c:Nat) (L:List ac) (w:World) (hL:ah w a n c L) :
 Calls Tryz.prog 173 #[.slice a n c] w fun e w'=>e=.returned (.agg #[.slice a n c,iT ((dL L:Nat):Int)])∧Bl w w':=by
 go_enter Tryz.func173,Tryz.ntmps173
 go_wp2_with fail
 refine (om a n c L _ (hL.keep bZ)).mono ?_;rintro e g ⟨rfl,b⟩;obtain ⟨d,f⟩:=xe b;have hz:=b.size;simp at hz;go_wp2;refine bodyPost_ret (v:=.agg #[.slice a n c,iT ((dL L:Nat):Int)]) (by simp [results,Tryz.results173,go_sem,d]) rfl ⟨rfl,?_⟩;have hB:=bZ.trans (b.mono (by simp));exact (hB.setCell (p:=⟨w.heap.size,0,none⟩) (GL _) _).setCell (p:=⟨w.heap.size,1,none⟩) (GL _) _
theorem bO (w:World) (Z o:Nat) (v:Value):w.grownBy (w.setCell ⟨Z,o,none⟩ v) (some Z) :=
 ⟨rfl,rfl,rfl,by simp [World.setCell],fun k _ hk=>Below.heap_setCell _ _ _ _ (fun e=>hk (by rw [e]))⟩
structure eQ (w wi:World) (R:Nat) (a:Option Addr) (len cap P X Y g n c:Nat) (m:Int) (L:List ac):Prop where
 rd:bh wi R a len cap P
 gr:w.grownBy wi (some R)
 x0:∃v,wi.cell? ⟨X,0,none⟩=some v
 x1:∃v,wi.cell? ⟨X,1,none⟩=some v
 fx:∀o,wi.frozen? ⟨X,o,none⟩=false
 y0:wi.cell? ⟨Y,0,none⟩=some (sL g n c)
 y1:wi.cell? ⟨Y,1,none⟩=some (iT m)
 fy:∀o,wi.frozen? ⟨Y,o,none⟩=false
 own:ag wi w.heap.size g n c L
 hx:w.heap.size≤X
 hy:w.heap.size≤Y
 hr:R<w.heap.size
 nxy:X≠Y
 ngx:X<g
 ngy:g≠Y
 low:ud a len R
theorem eQ.ltX {w d:World} {R:Nat} {a:Option Addr} {len b P X Y g n c:Nat} {m:Int} {L:List ac} (h:eQ w d R a len b P X Y g n c m L):X<d.heap.size:=by
 obtain ⟨v,hv⟩:=h.x0;exact GK _ _ hv
theorem eQ.ltY {w d:World} {R:Nat} {a:Option Addr} {len b P X Y g n c:Nat} {m:Int} {L:List ac} (h:eQ w d R a len b P X Y g n c m L):Y<d.heap.size:=GK _ _ h.y0
theorem eQ.step {w y d:World} {R:Nat} {a:Option Addr} {len b P C X Y g f n r c c' Z:Nat} {m:Int} {L A:List ac} (h:eQ w y R a len b P X Y g n c m L) (hg:y.grownBy d (some Z)) (hr:bh d R a len b C) (u:Z=R∨w.heap.size≤Z) (t:Z≠X) (B:Z≠Y) (ho:ag d w.heap.size f r c' A) (s:d.cell? ⟨Y,0,none⟩=some (sL f r c')) (E:X<f) (D:f≠Y):eQ w d R a len b C X Y f r c' m A where
 rd:=hr
 gr:=by
  rcases u with rfl | u
  · exact ae h.gr hg
  · exact aH h.gr u hg
 x0:=by obtain ⟨v,hv⟩:=h.x0;exact ⟨v,(au hg (x:=⟨X,0,none⟩) h.ltX (IX t)).trans hv⟩
 x1:=by obtain ⟨v,hv⟩:=h.x1;exact ⟨v,(au hg (x:=⟨X,1,none⟩) h.ltX (IX t)).trans hv⟩
 fx:=fun o=>(bU hg (x:=⟨X,o,none⟩) h.ltX (fun e=>t (by cases e;rfl))).trans (h.fx o)
 y0:=s
 y1:=(au hg (x:=⟨Y,1,none⟩) h.ltY (IX B)).trans h.y1
 fy:=fun o=>(bU hg (x:=⟨Y,o,none⟩) h.ltY (fun e=>B (by cases e;rfl))).trans (h.fy o)
 own:=ho
 hx:=h.hx
 hy:=h.hy
 hr:=h.hr
 nxy:=h.nxy
 ngx:=E
 ngy:=D
 low:=h.low
theorem eQ.read {w o d:World} {R:Nat} {a:Option Addr} {len b P r X Y g n c:Nat} {m:Int} {L:List ac} (h:eQ w o R a len b P X Y g n c m L) (hg:o.grownBy d (some R)) (hr:bh d R a len b r):eQ w d R a len b r X Y g n c m L:=by
 have h1:=h.hr;have h2:=h.hx;have h3:=h.hy;have h4:=h.own.lt.1;have f:Y≠R:=by omega
 exact h.step hg hr (Or.inl rfl) (by omega) (by omega) (h.own.grown hg (fun e=>by cases e;omega)) ((au hg (x:=⟨Y,0,none⟩) h.ltY f).trans h.y0) h.ngx h.ngy
theorem eQ.below {w d e:World} {R:Nat} {a:Option Addr} {len b P X Y g n c:Nat} {m:Int} {L:List ac} (h:eQ w d R a len b P X Y g n c m L) (hb:Bl d e):eQ w e R a len b P X Y g n c m L:=h.read (aJ hb) (h.rd.below hb)
theorem eQ.mask {w b:World} {R:Nat} {a:Option Addr} {len d P X Y g n c:Nat} {m:Int} {L:List ac} (h:eQ w b R a len d P X Y g n c m L) (f:Int):eQ w (b.setCell ⟨Y,1,none⟩ (iT f)) R a len d P X Y g n c f L where
 rd:=h.rd.grown (bO b Y 1 _) h.low (fun k e=>by cases e;have:=h.hr;have:=h.hy;omega)
 gr:=aH h.gr h.hy (bO b Y 1 _)
 x0:=by obtain ⟨v,hv⟩:=h.x0;exact ⟨v,(au (bO b Y 1 _) (x:=⟨X,0,none⟩) h.ltX h.nxy).trans hv⟩
 x1:=by obtain ⟨v,hv⟩:=h.x1;exact ⟨v,(au (bO b Y 1 _) (x:=⟨X,1,none⟩) h.ltX h.nxy).trans hv⟩
 fx:=fun o=>by rw [G8];exact h.fx o
 y0:=by rw [GM _ _ _ _ (by simp)];exact h.y0
 y1:=G3 _ _ _ (by rw [h.y1];rfl)
 fy:=fun o=>by rw [G8];exact h.fy o
 own:=h.own.grown (bO b Y 1 _) (fun e=>h.ngy (by cases e;rfl))
 hx:=h.hx
 hy:=h.hy
 hr:=h.hr
 nxy:=h.nxy
 ngx:=h.ngx
 ngy:=h.ngy
 low:=h.low
theorem eQ.ents {w b:World} {R:Nat} {a:Option Addr} {len d P X Y g n c f r c':Nat} {m:Int} {L s:List ac} (h:eQ w b R a len d P X Y g n c m L) (ho:ag b w.heap.size f r c' s) (u:X<f) (t:f≠Y):eQ w (b.setCell ⟨Y,0,none⟩ (sL f r c')) R a len d P X Y f r c' m s where
 rd:=h.rd.grown (bO b Y 0 _) h.low (fun k e=>by cases e;have:=h.hr;have:=h.hy;omega)
 gr:=aH h.gr h.hy (bO b Y 0 _)
 x0:=by obtain ⟨v,hv⟩:=h.x0;exact ⟨v,(au (bO b Y 0 _) (x:=⟨X,0,none⟩) h.ltX h.nxy).trans hv⟩
 x1:=by obtain ⟨v,hv⟩:=h.x1;exact ⟨v,(au (bO b Y 0 _) (x:=⟨X,1,none⟩) h.ltX h.nxy).trans hv⟩
 fx:=fun o=>by rw [G8];exact h.fx o
 y0:=G3 _ _ _ (by rw [h.y0];rfl)
 y1:=by rw [GM _ _ _ _ (by simp)];exact h.y1
 fy:=fun o=>by rw [G8];exact h.fy o
 own:=ho.grown (bO b Y 0 _) (fun e=>t (by cases e;rfl))
 hx:=h.hx
 hy:=h.hy
 hr:=h.hr
 nxy:=h.nxy
 ngx:=u
 ngy:=t
 low:=h.low
theorem ag.rebase {w:World} {base g n c:Nat} {L:List ac} (h:ag w base g n c L):ag w g g n c L:=by
 refine ⟨⟨h.owns.1,?_⟩,h.len,h.ents⟩;rcases h.owns.2 with ⟨hv,_⟩ | ⟨e,d,b,hv,hb,hr⟩
 · cases hv
 · cases hv;exact .inr ⟨g,c,b,rfl,GL _,hr⟩
theorem eQ.grewTo {w A b:World} {R:Nat} {a:Option Addr} {len s P X Y g n c u t c':Nat} {m:Int} {L L':List ac} (h:eQ w A R a len s P X Y g n c m L) (hg:A.grownBy b (some g)) (ho:ag b g u t c' L') (hn:1≤t):eQ w (b.setCell ⟨Y,0,none⟩ (sL u t c')) R a len s P X Y u t c' m L':=by
 have hb:=h.own.lt.1;have E:=ho.lt.1;have C:=h.ngx;have hr:=h.hr;have f:=(au hg (x:=⟨Y,0,none⟩) h.ltY (IX h.ngy)).trans h.y0;have y:=(au hg (x:=⟨Y,1,none⟩) h.ltY (IX h.ngy)).trans h.y1;have d:X≠g:=by omega
 have r:=E' h.ltX hg.size;have D:=E' h.ltY hg.size;have B:u≠Y:=fun e=>by
  have hc:=(ho.entsAt.cells _ rfl 0 (by rw [ho.len];omega)).1;subst e;simp only [I3,GT] at hc;rw [f] at hc;cases hc
 exact {
  rd:=(h.rd.grown hg h.low (fun k e=>by cases e;omega)).grown (bO b Y 0 _) h.low (fun k e=>by cases e;have:=h.hy;omega)
  gr:=aH (aH h.gr hb hg) h.hy (bO b Y 0 _)
  x0:=by obtain ⟨v,hv⟩:=h.x0;exact ⟨v,(au (bO b Y 0 _) (x:=⟨X,0,none⟩) r h.nxy).trans ((au hg (x:=⟨X,0,none⟩) h.ltX d).trans hv)⟩
  x1:=by obtain ⟨v,hv⟩:=h.x1;exact ⟨v,(au (bO b Y 0 _) (x:=⟨X,1,none⟩) r h.nxy).trans ((au hg (x:=⟨X,1,none⟩) h.ltX d).trans hv)⟩
  fx:=fun o=>by rw [G8];exact (bU hg (x:=⟨X,o,none⟩) h.ltX (fun e=>d (by cases e;rfl))).trans (h.fx o)
  y0:=G3 _ _ _ (by rw [f];rfl)
  y1:=by rw [GM _ _ _ _ (by simp)];exact y
  fy:=fun o=>by rw [G8];exact (bU hg (x:=⟨Y,o,none⟩) h.ltY (fun e=>h.ngy (by cases e;rfl))).trans (h.fy o)
  own:=(ho.mono hb).grown (bO b Y 0 _) (fun e=>B (by cases e;rfl))
  hx:=h.hx
  hy:=h.hy
  hr:=h.hr
  nxy:=h.nxy
  ngx:=by omega
  ngy:=B
  low:=h.low }
def Gb (R:Nat) (a:Option Addr) (len cap P:Nat) (w:World) (e:Ending) (w':World):Prop :=
 ∃(g n c P':Nat) (m:Int) (L:List ac),e=.returned (.agg #[sL g n c,iT m])∧ag w' w.heap.size g n c L∧n≤13∧iH L∧(Lit.int .i64 m).wf=true∧bh w' R a len cap P'∧P'≤P+150∧w.grownBy w' (some R)
theorem eQ.done {w b:World} {R:Nat} {a:Option Addr} {len f P o X Y g n c:Nat} {m:Int} {L:List ac} (h:eQ w b R a len f P X Y g n c m L) (hn:n≤13) (hF:iH L) (hm:(Lit.int .i64 m).wf=true) (r:P≤o+150) (u v:Value) :
 Gb R a len f o w (.returned (.agg #[sL g n c,iT m])) ((b.setCell ⟨X,0,none⟩ u).setCell ⟨X,1,none⟩ v):=by
 have d:R<X:=by have:=h.hr;have:=h.hx;omega
 refine ⟨g,n,c,P,m,L,rfl,?_,hn,hF,hm,?_,r,?_⟩
 · exact (h.own.grown (bO b X 0 u) (fun e=>Nat.ne_of_lt h.ngx (by cases e;rfl))).grown (bO _ X 1 v) (fun e=>Nat.ne_of_lt h.ngx (by cases e;rfl))
 · exact (h.rd.grown (bO b X 0 u) h.low (fun k e=>by cases e;exact d)).grown (bO _ X 1 v) h.low (fun k e=>by cases e;exact d)
 · exact aH (aH h.gr h.hx (bO b X 0 u)) h.hx (bO _ X 1 v)
end Go.Proofs.YtpobkmjicbobdaaGreat
namespace Go.Proofs.YtpobkmjicbobdaaGreat
open Go.RowKit
set_option maxRecDepth 100000
set_option maxHeartbeats 16000000
def Nx (z:Int):Prop:=-1≤z∧z≤65536
theorem Eg {L:List ac} {k:Nat} {s t:ByteArray} {q d n:Int} (h:iH L) (b:jX s t q d n):iH (L.set k (s,q,d,t,n)):=fun e hm=>by
 rcases I8 hm with h1 | rfl
 · exact h e h1
 · exact b
theorem ag.put {w:World} {base g n c k:Nat} {L:List ac} (h:ag w base g n c L) (hk:k<n) (s t:ByteArray) (q d m:Int) (hw:d9 (s,q,d,t,m)) :
 ag (((((w.setCell ⟨g,k*5,none⟩ (.string s)).setCell ⟨g,k*5+1,none⟩ (iT q)).setCell ⟨g,k*5+2,none⟩ (iT d)).setCell ⟨g,k*5+3,none⟩ (.string t)).setCell ⟨g,k*5+4,none⟩ (iT m)) base g n c (L.set k (s,q,d,t,m)):=by
 have t0:=h.owns.stored (k*5) (.string s);have r:=t0.1.stored (k*5+1) (iT q);have f:=r.1.stored (k*5+2) (iT d);have t3:=f.1.stored (k*5+3) (.string t);have t4:=t3.1.stored (k*5+4) (iT m);have o:=h.owns.1;refine ⟨?_,by rw [Jg];exact h.len,fun e hm=>?_⟩
 · have t5:=t4.1;have key:∀xs:List Value,xs.length=n*5→(∀j l,(L.set k (s,q,d,t,m))[j]?=some l→jQ xs j l)→xs=aF (L.set k (s,q,d,t,m)):=fun xs hx hh=>qA (by rw [hx,Jg,h.len]) hh
   rw [key _ t5.1 (fun j l hl=>?_)] at t5
   · exact t5
   · by_cases b:j=k
     · subst b;rw [Hp (by rw [h.len];exact hk)] at hl;cases hl;exact kF s t q d m (by rw [o];omega)
     · rw [G9 (IX b)] at hl;exact jy (fP L j l hl) b _ _ _ _ _
 · rcases I8 hm with h1 | rfl
   · exact h.ents e h1
   · exact hw
theorem mw (w:World) (g k:Nat) (v0 d b v3 v4:Value):w.grownBy (((((w.setCell ⟨g,k,none⟩ v0).setCell ⟨g,k+1,none⟩ d).setCell ⟨g,k+2,none⟩ b).setCell ⟨g,k+3,none⟩ v3).setCell ⟨g,k+4,none⟩ v4) (some g) :=
 ae (ae (ae (ae (bO _ g _ _) (bO _ g _ _)) (bO _ g _ _)) (bO _ g _ _)) (bO _ g _ _)
theorem eQ.put {w b:World} {R:Nat} {a:Option Addr} {len f P X Y g n c k:Nat} {m:Int} {L:List ac} (h:eQ w b R a len f P X Y g n c m L) (hk:k<n) (s t:ByteArray) (q d nn:Int) (hw:d9 (s,q,d,t,nn)) :
 eQ w (((((b.setCell ⟨g,k*5,none⟩ (.string s)).setCell ⟨g,k*5+1,none⟩ (iT q)).setCell ⟨g,k*5+2,none⟩ (iT d)).setCell ⟨g,k*5+3,none⟩ (.string t)).setCell ⟨g,k*5+4,none⟩ (iT nn)) R a len f P X Y g n c m (L.set k (s,q,d,t,nn)) :=
 h.step (mw b g (k*5) _ _ _ _ _) (h.rd.grown (mw b g (k*5) _ _ _ _ _) h.low (fun j e=>by cases e;have:=h.hr;have:=h.own.lt.1;omega)) (Or.inr h.own.lt.1) (Nat.ne_of_gt h.ngx) h.ngy (h.own.put hk s t q d nn hw) ((au (mw b g (k*5) _ _ _ _ _) (x:=⟨Y,0,none⟩) h.ltY (IX h.ngy)).trans h.y0) h.ngx h.ngy
theorem eQ.at {w b:World} {R:Nat} {a:Option Addr} {len e P X Y g n c k:Nat} {m:Int} {L:List ac} (h:eQ w b R a len e P X Y g n c m L) (hF:iH L) (hk:k<n) :
 ∃s t q d nn,jX s t q d nn∧b.cell? ⟨g,k*5,none⟩=some (.string s)∧b.cell? ⟨g,k*5+1,none⟩=some (iT q)∧b.cell? ⟨g,k*5+2,none⟩=some (iT d)∧b.cell? ⟨g,k*5+3,none⟩=some (.string t)∧b.cell? ⟨g,k*5+4,none⟩=some (iT nn):=by
 have hl:k<L.length:=by rw [h.own.len];exact hk
 obtain ⟨e0,e1,e2,e3,e4⟩:=h.own.entsAt.cells _ rfl k hl;simp only [GT] at e0 e1 e2 e3 e4;exact ⟨_,_,_,_,_,hF _ (Hj hl),e0,e1,e2,e3,e4⟩
theorem yI (R P:Nat) (a:Option Addr) (len f:Nat) (w:World) (h:bh w R a len f P) (am:ud a len R) (hP:P<70000) :
 Calls Tryz.prog 138 #[.pointer (pT R)] w (Gb R a len f P w):=by
 obtain ⟨i0,hi,b2,b9,b7⟩:=info_parts Tryz.infoEnt;have bx:=h.lt;have bF:Eq (R<w.heap.size):=bx;have br:=az am;have kA:Bl w (w.alloc (.cells #[nZ,iT 0] 63)):=bZ;go_enter Tryz.func138,Tryz.ntmps138
 go_wp2_with fail
 refine (yH R P 12 a len f _ (h.below kA) am (by omega) (by omega)).mono ?_;rintro e w1 ⟨g,n,c,P1,L,rfl,hO,hn,hF,bD,cB,ay⟩;obtain ⟨X,hX⟩:=aG w.heap.size;have aQ:X≠R:=by omega
 have aN:X<(w.alloc (.cells #[nZ,iT 0] 63)).heap.size:=by rw [hX];simp
 have x0:w1.cell? ⟨X,0,none⟩=some nZ:=(au ay (x:=⟨X,0,none⟩) aN aQ).trans (by rw [hX];simp);have x1:w1.cell? ⟨X,1,none⟩=some (iT 0):=(au ay (x:=⟨X,1,none⟩) aN aQ).trans (by rw [hX];simp);have fx:∀o,w1.frozen? ⟨X,o,none⟩=false:=fun o=>(bU ay (x:=⟨X,o,none⟩) aN (fun e=>aQ (by cases e;rfl))).trans (by rw [hX];exact Jc w _ _ o)
 have bX:w.heap.size≤X:=by omega
 have aU:X<g:=by have:=hO.lt.1;simp at this;omega
 have bq:Eq (ag w1 w.heap.size g n c L):=hO.mono (by simp);have aT:Eq (w.grownBy w1 (some R)):=ae (aJ kA) ay;have b4:Eq (bh w1 R a len f P1):=bD;have bs:Eq (iH L):=hF;have zX:=GK _ _ x0;simp only at zX;rw [← hX];clear hO ay bD hF kA aN hX h am bx;go_upto_if 10 with fail
 go_cut [3] (fun v wz=>∃(g n c:Nat) (L:List ac),v=sL g n c∧1≤n∧n≤12∧ag wz w.heap.size g n c L∧iH L∧bh wz R a len f P1∧w.grownBy wz (some R)∧wz.cell? ⟨X,0,none⟩=some nZ∧wz.cell? ⟨X,1,none⟩=some (iT 0)∧(∀o,wz.frozen? ⟨X,o,none⟩=false)∧X<wz.heap.size∧X<g)
 case first =>
  by_cases bS:n=0
  · subst bS;have kB:Bl w1 (w1.alloc (.cells #[.string ⟨#[97]⟩,iT 1,iT 1,.string ⟨#[]⟩,iT 2] 50)):=bZ;have bu:jX ⟨#[97]⟩ ⟨#[]⟩ 1 1 2:=by unfold jX n8;decide
    have oN:ag (w1.alloc (.cells #[.string ⟨#[97]⟩,iT 1,iT 1,.string ⟨#[]⟩,iT 2] 50)) w.heap.size w1.heap.size 1 1 [(⟨#[97]⟩,1,1,⟨#[]⟩,2)]:=by
     have:=Hi (base:=w.heap.size) (e:=50) (size:=5) w1 #[.string ⟨#[97]⟩,iT 1,iT 1,.string ⟨#[]⟩,iT 2] 1 aT.o.size (by unfold maxLen;omega) rfl;exact ⟨by simpa [aF,bi] using this,rfl,mE (eP bu)⟩
    go_wp2;go_meet
    exact ⟨_,1,1,_,rfl,by omega,by omega,oN,eP bu,b4.o.below kB,ae aT.o (aJ kB),cell_later kB x0,cell_later kB x1,fun o=>(kB.frozen (p:=⟨X,o,none⟩) zX).trans (fx o),E' zX kB.size,zX⟩
  · have cy:¬((n:Nat):Int)=0:=by omega
    go_wp2;go_meet
    exact ⟨g,n,c,L,rfl,by omega,hn,bq.o,bs.o,b4.o,aT.o,x0,x1,fx,zX,aU⟩
 case rest =>
  clear bq b4 aT bs x0 x1 fx zX aU aQ hn;obtain ⟨g,n,c,L,rfl,cm,hn,hO,hF,hR,hG,bm,bt,bB,bz,bJ⟩:=hcut;have J:Eq (iH L):=hF;have aI:Eq (ag wc w.heap.size g n c L):=hO;have bo:Eq (bh wc R a len f P1):=hR;have ba:Eq (w.grownBy wc (some R)):=hG;clear hF hO hR hG;go_wp2_with fail
  refine (Cl _ n c L wc aI.o.entsAt).mono ?_;rintro e wr ⟨rfl,ak⟩;obtain ⟨M,hM⟩:∃M:Int,M=((dL L:Nat):Int):=⟨_,rfl⟩;have cz:0≤M:=by omega
  have cp:M<65536:=by have:=qM L;omega
  rw [← hM];clear hM;obtain ⟨Y,hY⟩:=aG wr.heap.size;obtain ⟨W,hW⟩:=aG (wr.alloc (.cells #[sL g n c,iT M] 63));have kW:Bl wr W:=by rw [hW];exact bZ
  have kk:=ak.trans (kW.mono ak.size);have S0:Eq (eQ w W R a len f P1 X Y g n c M L):=⟨bo.o.below kk,ae ba.o (aJ kk),⟨_,cell_later kk bm⟩,⟨_,cell_later kk bt⟩,(fun o=>(kk.frozen (p:=⟨X,o,none⟩) bz).trans (bB o)),by rw [hW,hY];simp,by rw [hW,hY];simp,(fun o=>by rw [hW,hY];exact Jc wr _ _ o),aI.o.below kk,bX,by have:=ba.o.size;have:=ak.size;omega,bF.o,by have:=ak.size;omega,bJ,by have:=aI.o.lt.2;have:=ak.size;omega,br.o⟩;have bN:=S0.o.ltY;go_wp2_with fail
  rw [← hW,← hY];clear hW hY kW kk ak bm bt bB bz bo ba aI bN;refine (dy R P1 a len f _ W S0.o.rd (by omega) (by omega)).mono ?_;rintro e w5 ⟨qk,rfl,b8,R5,g5⟩;have S5:Eq (eQ w w5 R a len f (P1+1) X Y g n c M L):=S0.o.read g5 R5;obtain ⟨k,hk⟩:=Il b8.1;subst hk;have aj:k<n:=by have:=b8.2 (by omega);omega
  have cg:(k:Int)<((n:Nat):Int):=by omega
  have c9:(k:Int)<n:=by omega
  clear R5 g5 S0 b8;go_wp2_with fail
  refine (dy R (P1+1) a len f _ w5 S5.o.rd (by omega) (by omega)).mono ?_;rintro e w6 ⟨z,rfl,hz,R6,g6⟩;have O:Eq (eQ w w6 R a len f (P1+1+1) X Y g n c M L):=S5.o.read g6 R6;clear R6 g6 S5 hz;by_cases z0:z=0
  · subst z0;go_wp2_with fail
    have u:=O.o.below (Below.refl _ w6).drew;have aZ:True:=trivial;refine wp_region_held_drew (S:=(fun w'=>Y<w'.heap.size)) (by kernel_rfl) (u.ltY) (fun r=>?_);generalize w6.drew=t at u r ⊢;refine aR 0 1 r ?_;refine aR 2 1 r ?_;refine mK 1 3 (fun K hK=>?_) fun K hK=>?_
    · have ar:=u.y1;go_simp;clear ar;refine hK.o _ _ (u.ltY) fun r=>?_
      (try go_frame);refine aV 3 fun K hK=>?_
      go_simp;have kc:Bl t (t.alloc (.cells ((([1,-1,65536]:List Int).map iT).toArray) 3)):=bZ;have d:=u.below kc;have cb:=eV t 3 [1,-1,65536] Nx (by intro s hs;simp only [GZ,Hs,or_false] at hs;rcases hs with rfl | rfl | rfl <;> (unfold Nx;decide));have bR:t.heap.size≠R:=by have:=u.rd.lt;omega
      have bl:t.heap.size<(t.alloc (.cells ((([1,-1,65536]:List Int).map iT).toArray) 3)).heap.size:=by simp
      simp only [IH,I9] at kc d cb bl;generalize t.heap.size=gb at cb bR bl ⊢;generalize t.alloc (.cells #[iT 1,iT (-1),iT 65536] 3)=wb at d cb bl ⊢;refine hK.o _ _ (d.ltY) fun r=>?_
      (try go_frame);refine aV 4 fun K hK=>?_
      go_simp;refine (fo Nx R _ a len f gb 0 3 3 _ d.rd (by omega) (by omega) (by omega) bR bl cb).mono ?_;rintro e w8 ⟨zn,rfl,ap,R8,T⟩;have kn:=d.read T R8;obtain ⟨b0,aY⟩:=ap;have aD:Eq (IntKind.i64.wrap (M+zn)=M+zn):=by unfold Eq;simp [IntKind.wrap,IntKind.bits,IntKind.signed];omega
      go_wp2_with fail
      refine hK.o _ _ (kn.ltY) fun r=>?_
      (try go_frame);refine aR 5 2 r ?_;refine aV 7 fun K hK=>?_
      have b6:=kn.y1;have bb:=kn.fy 1;go_simp;have b:=kn.mask (IntKind.i64.wrap (M+zn));clear b6 bb;refine hK.o _ _ (b.ltY) fun r=>?_
      (try go_frame);refine dN ?_;generalize w8.setCell ⟨Y,1,none⟩ (iT (IntKind.i64.wrap (M+zn)))=w9 at b ⊢;rw [aD.o] at b;have a3:=b.y0;have a8:=b.y1;have a7:=b.ltY;obtain ⟨a4,I⟩:=b.x0;obtain ⟨a6,B⟩:=b.x1;have ab:=b.fx 0;have a9:=b.fx 1;have Z:=b.nxy;have m:Eq (eQ w _ R a len f _ X Y g n c (M+zn) L):=b;go_wp2;refine bodyPost_ret (v:=.agg #[sL g n c,iT (M+zn)]) (by simp [results,Tryz.results138,go_sem,I,B]) rfl ?_;exact m.o.done (by omega) J.o (Hu (by omega)) (by omega) _ _
    · go_simp;have kc:Bl t (t.alloc (.cells ((([1,-1,65536]:List Int).map iT).toArray) 3)):=bZ;have d:=u.below kc;have cb:=eV t 3 [1,-1,65536] Nx (by intro s hs;simp only [GZ,Hs,or_false] at hs;rcases hs with rfl | rfl | rfl <;> (unfold Nx;decide));have bR:t.heap.size≠R:=by have:=u.rd.lt;omega
      have bl:t.heap.size<(t.alloc (.cells ((([1,-1,65536]:List Int).map iT).toArray) 3)).heap.size:=by simp
      simp only [IH,I9] at kc d cb bl;generalize t.heap.size=gb at cb bR bl ⊢;generalize t.alloc (.cells #[iT 1,iT (-1),iT 65536] 3)=wb at d cb bl ⊢;refine hK.o _ _ (d.ltY) fun r=>?_
      (try go_frame);refine mK 1 4 (fun K hK=>?_) fun K hK=>?_
      focus
       have ar:=d.y1
       go_simp
       clear ar
       refine hK.o _ _ (d.ltY) fun r=>?_
       (try go_frame)
       refine aV 4 fun K hK=>?_
       go_simp;refine (fo Nx R _ a len f gb 0 3 3 _ d.rd (by omega) (by omega) (by omega) bR bl cb).mono ?_;rintro e w8 ⟨zn,rfl,ap,R8,T⟩;have kn:=d.read T R8;obtain ⟨b0,aY⟩:=ap;have aD:Eq (IntKind.i64.wrap (M+zn)=M+zn):=by unfold Eq;simp [IntKind.wrap,IntKind.bits,IntKind.signed];omega
       go_wp2_with fail
      rotate_left
      focus
       go_simp;refine (fo Nx R _ a len f gb 0 3 3 _ d.rd (by omega) (by omega) (by omega) bR bl cb).mono ?_;rintro e w8 ⟨zn,rfl,ap,R8,T⟩;have kn:=d.read T R8;obtain ⟨b0,aY⟩:=ap;have aD:Eq (IntKind.i64.wrap (M+zn)=M+zn):=by unfold Eq;simp [IntKind.wrap,IntKind.bits,IntKind.signed];omega
       go_wp2_with fail
       refine hK.o _ _ (kn.ltY) fun r=>?_
       (try go_frame)
       refine aV 1 fun K hK=>?_
       have ar:=kn.y1
       go_simp
       clear ar
      all_goals
       refine hK.o _ _ (kn.ltY) fun r=>?_
       (try go_frame)
       refine aR 5 2 r ?_
       refine aV 7 fun K hK=>?_
       have b6:=kn.y1
       have bb:=kn.fy 1
       go_simp
       have b:=kn.mask (IntKind.i64.wrap (M+zn))
       clear b6 bb
       refine hK.o _ _ (b.ltY) fun r=>?_
       (try go_frame)
       refine dN ?_
       generalize w8.setCell ⟨Y,1,none⟩ (iT (IntKind.i64.wrap (M+zn)))=w9 at b ⊢
       rw [aD.o] at b
       have a3:=b.y0
       have a8:=b.y1
       have a7:=b.ltY
       obtain ⟨a4,I⟩:=b.x0
       obtain ⟨a6,B⟩:=b.x1
       have ab:=b.fx 0
       have a9:=b.fx 1
       have Z:=b.nxy
       have m:Eq (eQ w _ R a len f _ X Y g n c (M+zn) L):=b
       go_wp2
       refine bodyPost_ret (v:=.agg #[sL g n c,iT (M+zn)]) (by simp [results,Tryz.results138,go_sem,I,B]) rfl ?_
       exact m.o.done (by omega) J.o (Hu (by omega)) (by omega) _ _
  by_cases z1:z=1
  · subst z1;go_wp2_with fail
    have u:=O.o.below (Below.refl _ w6).drew;have aZ:True:=trivial;refine wp_region_held_drew (S:=(fun w'=>w'.cell? ⟨Y,0,none⟩=some (sL g n c)∧Y<w'.heap.size∧g<w'.heap.size)) (by kernel_rfl) (⟨u.y0,u.ltY,u.own.lt.2⟩) (fun r=>?_);generalize w6.drew=t at u r ⊢;refine aR 0 10 r ?_;refine aV 10 fun K hK=>?_
    obtain ⟨D,C,E,H,F,N,e0,e1,e2,e3,e4⟩:=u.at J.o aj;go_simp;clear e0 e1 e2 e3 e4;refine hK.o _ _ (⟨u.y0,u.ltY,u.own.lt.2⟩) fun r=>?_
    (try go_frame);refine aV 11 fun K hK=>?_
    go_simp;refine (gH R _ a len f _ _ _ _ _ _ u.rd (by omega) N).mono ?_;rintro e cH ⟨cn,cD,cN,bA,cR,cI,rfl,bL,bW,c4,bI⟩;have an:=u.read bI bW;go_wp2_with fail
    refine hK.o _ _ (⟨an.y0,an.ltY,an.own.lt.2⟩) fun r=>?_
    (try go_frame);refine aV 12 fun K hK=>?_
    go_simp;refine (gH R _ a len f _ _ _ _ _ _ an.rd (by omega) bL).mono ?_;rintro e cJ ⟨cu,cx,cr,cv,cM,cq,rfl,bP,bM,ce,bG⟩;have aq:=an.read bG bM;go_wp2_with fail
    refine hK.o _ _ (⟨aq.y0,aq.ltY,aq.own.lt.2⟩) fun r=>?_
    (try go_frame);refine aV 13 fun K hK=>?_
    go_simp;refine (gH R _ a len f _ _ _ _ _ _ aq.rd (by omega) bP).mono ?_;rintro e bH ⟨aP,aK,aM,aL,aH,cl,rfl,bp,bQ,ci,bT⟩;have Q:=aq.read bT bQ;go_wp2_with fail
    refine hK.o _ _ (⟨Q.y0,Q.ltY,Q.own.lt.2⟩) fun r=>?_
    (try go_frame);refine aR 14 1 r ?_;refine aV 15 fun K hK=>?_
    obtain ⟨x0,x1,x2,x3,x4⟩:=Q.own.entsAt.cells _ rfl k (by rw [Q.own.len];exact aj);simp only [GT] at x0 x1 x2 x3 x4;have y0:=Q.own.owns.frozenAt (k*5);have y1:=Q.own.owns.frozenAt (k*5+1);have y2:=Q.own.owns.frozenAt (k*5+2);have y3:=Q.own.owns.frozenAt (k*5+3);have y4:=Q.own.owns.frozenAt (k*5+4);go_simp;have b:=Q.put aj aP aK aM aL aH (kQ bp);clear x0 x1 x2 x3 x4 y0 y1 y2 y3 y4;refine hK.o _ _ (⟨b.y0,b.ltY,b.own.lt.2⟩) fun r=>?_
    (try go_frame);refine dN ?_;generalize ((((bH.setCell ⟨g,k*5,none⟩ (.string aP)).setCell ⟨g,k*5+1,none⟩ (iT aM)).setCell ⟨g,k*5+2,none⟩ (iT aL)).setCell ⟨g,k*5+3,none⟩ (.string aK)).setCell ⟨g,k*5+4,none⟩ (iT aH)=w9 at b ⊢;have a5:Eq (iH (L.set k (aP,aM,aL,aK,aH))):=Eg J.o bp;have a3:=b.y0;have a8:=b.y1;have a7:=b.ltY;obtain ⟨a4,I⟩:=b.x0;obtain ⟨a6,B⟩:=b.x1;have ab:=b.fx 0;have a9:=b.fx 1;have Z:=b.nxy;have m:Eq (eQ w _ R a len f _ X Y g n c M (L.set k (aP,aM,aL,aK,aH))):=b;go_wp2;refine bodyPost_ret (v:=.agg #[sL g n c,iT M]) (by simp [results,Tryz.results138,go_sem,I,B]) rfl ?_;exact m.o.done (by omega) a5.o (Hu (by omega)) (by omega) _ _
  by_cases z2:z=2
  · subst z2;go_wp2_with fail
    have u:=O.o.below (Below.refl _ w6).drew;have aZ:True:=trivial;refine wp_region_held_drew (S:=(fun w'=>Y<w'.heap.size)) (by kernel_rfl) (u.ltY) (fun r=>?_);generalize w6.drew=t at u r ⊢;refine aR 0 1 r ?_;refine aR 2 1 r ?_;refine aR 4 1 r ?_;refine mK 1 3 (fun K hK=>?_) fun K hK=>?_
    · have A:=u.y0;go_simp;clear A;refine hK.o _ _ (u.ltY) fun r=>?_
      (try go_frame);refine aV 3 fun K hK=>?_
      have A:=u.y0;go_simp;clear A;refine hK.o _ _ (u.ltY) fun r=>?_
      (try go_frame);refine aR 5 1 r ?_;refine aV 6 fun K hK=>?_
      obtain ⟨D,C,E,H,F,N,e0,e1,e2,e3,e4⟩:=u.at J.o aj;go_simp;clear e0 e1 e2 e3 e4;refine hK.o _ _ (u.ltY) fun r=>?_
      (try go_frame);refine aV 7 fun K hK=>?_
      go_simp;have kc:Bl t (t.alloc (.cells #[.string D,iT E,iT H,.string C,iT F] 50)):=bZ;have d:=u.below kc;have rN:ah (t.alloc (.cells #[.string D,iT E,iT H,.string C,iT F] 50)) (some ⟨t.heap.size,0,none⟩) 1 1 [(D,E,H,C,F)]:=eW t _ _ _ _ _ (kQ N);generalize t.heap.size=gb at rN ⊢;generalize t.alloc (.cells #[.string D,iT E,iT H,.string C,iT F] 50)=wb at d rN ⊢;refine hK.o _ _ (d.ltY) fun r=>?_
      (try go_frame);refine aV 8 fun K hK=>?_
      refine aE rfl (.tmp 50) (.tmp 56) 28 rfl g 50 i0 _ 5 56 Tryz.underlying28 hi b2 b9 b7 rfl (Hx 4) _ _ _ rfl d.own.rebase.owns ⟨gb,0,none⟩ 1 1 (aF [(D,E,H,C,F)]) rfl rfl (ch rN) (bf _) ?_ ?_ ?_ ?_
      · unfold maxLen;omega
      · omega
      · exact Nat.le_of_lt d.own.lt.2
      intro v8 w8 U a0 av;obtain ⟨T,c8,rfl⟩:=aO U av;have y:wb.grownBy w8 (some g):=a0;refine hK.o _ _ (E' d.ltY a0.size) fun r=>?_
      (try go_frame);refine aR 9 1 r ?_;refine aV 10 fun K hK=>?_
      have aw:ag w8 g T (n+1) c8 (L++[(D,E,H,C,F)]):=⟨by rw [bC];exact U,by simp [d.own.len],mE (fD J.o (eP N))⟩;have b:=d.grewTo y aw (by omega);have A:=(au y (x:=⟨Y,0,none⟩) d.ltY (IX d.ngy)).trans d.y0;have ax:=(bU y (x:=⟨Y,0,none⟩) d.ltY (fun e=>d.ngy (by cases e;rfl))).trans (d.fy 0);go_simp;clear A ax;refine hK.o _ _ (b.ltY) fun r=>?_
      (try go_frame);refine dN ?_;generalize w8.setCell ⟨Y,0,none⟩ (sL T (n+1) c8)=w9 at b ⊢;have a5:Eq (iH (L++[(D,E,H,C,F)])):=fD J.o (eP N);have a3:=b.y0;have a8:=b.y1;have a7:=b.ltY;obtain ⟨a4,I⟩:=b.x0;obtain ⟨a6,B⟩:=b.x1;have ab:=b.fx 0;have a9:=b.fx 1;have Z:=b.nxy;have m:Eq (eQ w _ R a len f _ X Y T (n+1) c8 M (L++[(D,E,H,C,F)])):=b;go_wp2;refine bodyPost_ret (v:=.agg #[sL T (n+1) c8,iT M]) (by simp [results,Tryz.results138,go_sem,I,B]) rfl ?_;exact m.o.done (by omega) a5.o (Hu (by omega)) (by omega) _ _
    · have A:=u.y0;go_simp;clear A;refine hK.o _ _ (u.ltY) fun r=>?_
      (try go_frame);refine aR 5 1 r ?_;refine mK 1 6 (fun K hK=>?_) fun K hK=>?_
      · have A:=u.y0;go_simp;clear A;refine hK.o _ _ (u.ltY) fun r=>?_
        (try go_frame);refine aV 6 fun K hK=>?_
        obtain ⟨D,C,E,H,F,N,e0,e1,e2,e3,e4⟩:=u.at J.o aj;go_simp;clear e0 e1 e2 e3 e4;refine hK.o _ _ (u.ltY) fun r=>?_
        (try go_frame);refine aV 7 fun K hK=>?_
        go_simp;have kc:Bl t (t.alloc (.cells #[.string D,iT E,iT H,.string C,iT F] 50)):=bZ;have d:=u.below kc;have rN:ah (t.alloc (.cells #[.string D,iT E,iT H,.string C,iT F] 50)) (some ⟨t.heap.size,0,none⟩) 1 1 [(D,E,H,C,F)]:=eW t _ _ _ _ _ (kQ N);generalize t.heap.size=gb at rN ⊢;generalize t.alloc (.cells #[.string D,iT E,iT H,.string C,iT F] 50)=wb at d rN ⊢;refine hK.o _ _ (d.ltY) fun r=>?_
        (try go_frame);refine aV 8 fun K hK=>?_
        refine aE rfl (.tmp 50) (.tmp 56) 28 rfl g 50 i0 _ 5 56 Tryz.underlying28 hi b2 b9 b7 rfl (Hx 4) _ _ _ rfl d.own.rebase.owns ⟨gb,0,none⟩ 1 1 (aF [(D,E,H,C,F)]) rfl rfl (ch rN) (bf _) ?_ ?_ ?_ ?_
        · unfold maxLen;omega
        · omega
        · exact Nat.le_of_lt d.own.lt.2
        intro v8 w8 U a0 av;obtain ⟨T,c8,rfl⟩:=aO U av;have y:wb.grownBy w8 (some g):=a0;refine hK.o _ _ (E' d.ltY a0.size) fun r=>?_
        (try go_frame);refine aR 9 1 r ?_;refine aV 10 fun K hK=>?_
        have aw:ag w8 g T (n+1) c8 (L++[(D,E,H,C,F)]):=⟨by rw [bC];exact U,by simp [d.own.len],mE (fD J.o (eP N))⟩;have b:=d.grewTo y aw (by omega);have A:=(au y (x:=⟨Y,0,none⟩) d.ltY (IX d.ngy)).trans d.y0;have ax:=(bU y (x:=⟨Y,0,none⟩) d.ltY (fun e=>d.ngy (by cases e;rfl))).trans (d.fy 0);go_simp;clear A ax;refine hK.o _ _ (b.ltY) fun r=>?_
        (try go_frame);refine dN ?_;generalize w8.setCell ⟨Y,0,none⟩ (sL T (n+1) c8)=w9 at b ⊢;have a5:Eq (iH (L++[(D,E,H,C,F)])):=fD J.o (eP N);have a3:=b.y0;have a8:=b.y1;have a7:=b.ltY;obtain ⟨a4,I⟩:=b.x0;obtain ⟨a6,B⟩:=b.x1;have ab:=b.fx 0;have a9:=b.fx 1;have Z:=b.nxy;have m:Eq (eQ w _ R a len f _ X Y T (n+1) c8 M (L++[(D,E,H,C,F)])):=b;go_wp2;refine bodyPost_ret (v:=.agg #[sL T (n+1) c8,iT M]) (by simp [results,Tryz.results138,go_sem,I,B]) rfl ?_;exact m.o.done (by omega) a5.o (Hu (by omega)) (by omega) _ _
      · obtain ⟨D,C,E,H,F,N,e0,e1,e2,e3,e4⟩:=u.at J.o aj;go_simp;clear e0 e1 e2 e3 e4;refine hK.o _ _ (u.ltY) fun r=>?_
        (try go_frame);refine mK 1 7 (fun K hK=>?_) fun K hK=>?_
        focus
         have A:=u.y0
         go_simp
         clear A
         refine hK.o _ _ (u.ltY) fun r=>?_
         (try go_frame)
         refine aV 7 fun K hK=>?_
         go_simp
         have kc:Bl t (t.alloc (.cells #[.string D,iT E,iT H,.string C,iT F] 50)):=bZ
         have d:=u.below kc
         have rN:ah (t.alloc (.cells #[.string D,iT E,iT H,.string C,iT F] 50)) (some ⟨t.heap.size,0,none⟩) 1 1 [(D,E,H,C,F)]:=eW t _ _ _ _ _ (kQ N)
         generalize t.heap.size=gb at rN ⊢
         generalize t.alloc (.cells #[.string D,iT E,iT H,.string C,iT F] 50)=wb at d rN ⊢
        rotate_left
        focus
         go_simp
         have kc:Bl t (t.alloc (.cells #[.string D,iT E,iT H,.string C,iT F] 50)):=bZ
         have d:=u.below kc
         have rN:ah (t.alloc (.cells #[.string D,iT E,iT H,.string C,iT F] 50)) (some ⟨t.heap.size,0,none⟩) 1 1 [(D,E,H,C,F)]:=eW t _ _ _ _ _ (kQ N)
         generalize t.heap.size=gb at rN ⊢
         generalize t.alloc (.cells #[.string D,iT E,iT H,.string C,iT F] 50)=wb at d rN ⊢
         refine hK.o _ _ (d.ltY) fun r=>?_
         (try go_frame)
         refine aV 1 fun K hK=>?_
         have A:=d.y0
         go_simp
         clear A
        all_goals
         refine hK.o _ _ (d.ltY) fun r=>?_
         (try go_frame)
         refine aV 8 fun K hK=>?_
         refine aE rfl (.tmp 50) (.tmp 56) 28 rfl g 50 i0 _ 5 56 Tryz.underlying28 hi b2 b9 b7 rfl (Hx 4) _ _ _ rfl d.own.rebase.owns ⟨gb,0,none⟩ 1 1 (aF [(D,E,H,C,F)]) rfl rfl (ch rN) (bf _) ?_ ?_ ?_ ?_
         · unfold maxLen;omega
         · omega
         · exact Nat.le_of_lt d.own.lt.2
         intro v8 w8 U a0 av
         obtain ⟨T,c8,rfl⟩:=aO U av
         have y:wb.grownBy w8 (some g):=a0
         refine hK.o _ _ (E' d.ltY a0.size) fun r=>?_
         (try go_frame)
         refine aR 9 1 r ?_
         refine aV 10 fun K hK=>?_
         have aw:ag w8 g T (n+1) c8 (L++[(D,E,H,C,F)]):=⟨by rw [bC];exact U,by simp [d.own.len],mE (fD J.o (eP N))⟩
         have b:=d.grewTo y aw (by omega)
         have A:=(au y (x:=⟨Y,0,none⟩) d.ltY (IX d.ngy)).trans d.y0
         have ax:=(bU y (x:=⟨Y,0,none⟩) d.ltY (fun e=>d.ngy (by cases e;rfl))).trans (d.fy 0)
         go_simp
         clear A ax
         refine hK.o _ _ (b.ltY) fun r=>?_
         (try go_frame)
         refine dN ?_
         generalize w8.setCell ⟨Y,0,none⟩ (sL T (n+1) c8)=w9 at b ⊢
         have a5:Eq (iH (L++[(D,E,H,C,F)])):=fD J.o (eP N)
         have a3:=b.y0
         have a8:=b.y1
         have a7:=b.ltY
         obtain ⟨a4,I⟩:=b.x0
         obtain ⟨a6,B⟩:=b.x1
         have ab:=b.fx 0
         have a9:=b.fx 1
         have Z:=b.nxy
         have m:Eq (eQ w _ R a len f _ X Y T (n+1) c8 M (L++[(D,E,H,C,F)])):=b
         go_wp2
         refine bodyPost_ret (v:=.agg #[sL T (n+1) c8,iT M]) (by simp [results,Tryz.results138,go_sem,I,B]) rfl ?_
         exact m.o.done (by omega) a5.o (Hu (by omega)) (by omega) _ _
  by_cases z3:z=3
  · subst z3;have u:=(O.o.below ((Below.refl w6.heap.size w6).alloc (GL _) (.cells #[] 50)));have oE:ag (w6.alloc (.cells #[] 50)) w.heap.size w6.heap.size 0 0 []:=cK w6 _ O.o.gr.size;have b:=u.ents oE O.o.ltX (by have:=O.o.ltY;omega);have bn:=O.o.y0;have bw:=O.o.fy 0;have b1:=O.o.ltY;rw [World.setCell_alloc_past _ _ _ _ b1] at b;clear u oE;go_upto_region 17 with fail
    clear bn bw b1 O;generalize w6.heap.size=g9 at b ⊢;generalize (w6.setCell ⟨Y,0,none⟩ (sL g9 0 0)).alloc (.cells #[] 50)=w9 at b ⊢;have a3:=b.y0;have a8:=b.y1;have a7:=b.ltY;obtain ⟨a4,I⟩:=b.x0;obtain ⟨a6,B⟩:=b.x1;have ab:=b.fx 0;have a9:=b.fx 1;have Z:=b.nxy;have m:Eq (eQ w _ R a len f _ X Y g9 0 0 M []):=b;go_wp2;refine bodyPost_ret (v:=.agg #[sL g9 0 0,iT M]) (by simp [results,Tryz.results138,go_sem,I,B]) rfl ?_;exact m.o.done (by omega) (fun e he=>by cases he) (Hu (by omega)) (by omega) _ _
  by_cases z4:z=4
  · subst z4;have b:=O.o.mask 65535;have bn:=O.o.y0;have cA:=O.o.y1;have bw:=O.o.fy 1;have b1:=O.o.ltY;have cO:=O.o.ltX;obtain ⟨cw,bO⟩:=O.o.x0;obtain ⟨ct,bA⟩:=O.o.x1;have cs:=O.o.fx 0;have cE:=O.o.fx 1;have Z:=O.o.nxy;have m:Eq (eQ w _ R a len f _ X Y g n c 65535 L):=b;clear b;go_wp2;refine bodyPost_ret (v:=.agg #[sL g n c,iT 65535]) (by simp [results,Tryz.results138,go_sem,bO,bA]) rfl ?_;exact m.o.done (by omega) J.o (Hu (by omega)) (by omega) _ _
  have k6:=O.o;have a3:=k6.y0;have a8:=k6.y1;have a7:=k6.ltY;obtain ⟨a4,I⟩:=k6.x0;obtain ⟨a6,B⟩:=k6.x1;have ab:=k6.fx 0;have a9:=k6.fx 1;have Z:=k6.nxy;have m:Eq (eQ w _ R a len f _ X Y g n c M L):=k6;go_wp2;refine bodyPost_ret (v:=.agg #[sL g n c,iT M]) (by simp [results,Tryz.results138,go_sem,I,B]) rfl ?_;exact m.o.done (by omega) J.o (Hu (by omega)) (by omega) _ _
end Go.Proofs.YtpobkmjicbobdaaGreat
namespace Go.Proofs.YtpobkmjicbobdaaGreat
open Go.RowKit
set_option maxRecDepth 100000
set_option maxHeartbeats 16000000
end Go.Proofs.YtpobkmjicbobdaaGreat
