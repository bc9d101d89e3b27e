/- Walks. -/
import Derived.Test.YtpobkmjicbobdaaGreatBD28
namespace Go.Proofs.YtpobkmjicbobdaaGreat
open Go.RowKit
set_option maxRecDepth 100000
set_option maxHeartbeats 16000000
theorem Aa {L:List ac} (h:iw L):iw (bG L):=fun e b=>h e ((bO L).2.mem_iff.1 b)
theorem x8 (R P many:Nat) (a:Option Addr) (len b:Nat) (w:World) (h:bf w R a len b P) (d:tC a len R) (E:P<80000) (hm:many≤100) :
 Calls Tryz.prog 195 #[.pointer (pT R),iT many] w (EY R a len b P many w):=by
 go_enter Tryz.func195,Tryz.ntmps195
 go_wp2_with fail
 refine (ya R P many a len b w h d E hm).mono ?_;rintro e x ⟨g,n,c,F,L,rfl,hO,hn,hF,hR,t,hG⟩;have C:=az hR;have B:=az hG;have y:=az hF;have hz:=hG.size;go_wp2_with fail
 refine (BM _ n c L x hO.entsAt (by omega)).mono ?_;rintro e H ⟨A,D,rfl,u,f⟩;have r:=az (u.mono hz);have s:=az (C.o.below f);have m:=az (ae B.o (aJ f));go_wp2;go_ret;exact ⟨A,n,D,F,bG L,rfl,r.o,hn,Aa y.o,s.o,t,m.o⟩
theorem BN (a:Option Addr) (n c:Nat) (L:List ac) (w:World) (hL:aj w a n c L) :
 Calls Tryz.prog 173 #[.slice a n c] w fun e w'=>e=.returned (.agg #[.slice a n c,iT ((dG L:Nat):Int)])∧Bl w w':=by
 go_enter Tryz.func173,Tryz.ntmps173
 go_wp2_with fail
 refine (nh a n c L _ (hL.keep bZ)).mono ?_;rintro e g ⟨rfl,b⟩;obtain ⟨d,f⟩:=wg b;have hz:=b.size;simp at hz;go_wp2;refine bodyPost_ret (v:=.agg #[.slice a n c,iT ((dG L:Nat):Int)]) (by simp [results,Tryz.results173,go_sem,d]) rfl ⟨rfl,?_⟩;have hB:=bZ.trans (b.mono (by simp));exact (hB.setCell (p:=⟨w.heap.size,0,none⟩) (Gg _) _).setCell (p:=⟨w.heap.size,1,none⟩) (Gg _) _
theorem bI (w:World) (Z o:Nat) (v:Value):w.grownBy (w.setCell ⟨Z,o,none⟩ v) (some Z) :=
 ⟨rfl,rfl,rfl,by simp [World.setCell],fun k _ hk=>Below.heap_setCell _ _ _ _ (fun e=>hk (by rw [e]))⟩
structure eI (w wi:World) (R:Nat) (a:Option Addr) (len cap P X Y g n c:Nat) (m:Int) (L:List ac):Prop where
 rd:bf wi R a len cap P
 gr:w.grownBy wi (some R)
 x0:∃v,wi.cell? ⟨X,0,none⟩=some v
 x1:∃v,wi.cell? ⟨X,1,none⟩=some v
 fx:∀o,wi.frozen? ⟨X,o,none⟩=false
 y0:wi.cell? ⟨Y,0,none⟩=some (sL g n c)
 y1:wi.cell? ⟨Y,1,none⟩=some (iT m)
 fy:∀o,wi.frozen? ⟨Y,o,none⟩=false
 own:ah wi w.heap.size g n c L
 hx:w.heap.size≤X
 hy:w.heap.size≤Y
 hr:R<w.heap.size
 nxy:X≠Y
 ngx:X<g
 ngy:g≠Y
 low:tC a len R
theorem eI.ltX {w d:World} {R:Nat} {a:Option Addr} {len b P X Y g n c:Nat} {m:Int} {L:List ac} (h:eI w d R a len b P X Y g n c m L):X<d.heap.size:=by
 obtain ⟨v,hv⟩:=h.x0;exact Gf _ _ hv
theorem eI.ltY {w d:World} {R:Nat} {a:Option Addr} {len b P X Y g n c:Nat} {m:Int} {L:List ac} (h:eI w d R a len b P X Y g n c m L):Y<d.heap.size:=Gf _ _ h.y0
theorem eI.step {w y d:World} {R:Nat} {a:Option Addr} {len b P C X Y g f n r c c' Z:Nat} {m:Int} {L A:List ac} (h:eI w y R a len b P X Y g n c m L) (hg:y.grownBy d (some Z)) (hr:bf d R a len b C) (u:Z=R∨w.heap.size≤Z) (t:Z≠X) (B:Z≠Y) (ho:ah d w.heap.size f r c' A) (s:d.cell? ⟨Y,0,none⟩=some (sL f r c')) (E:X<f) (D:f≠Y):eI w d R a len b C X Y f r c' m A where
 rd:=hr
 gr:=by
  rcases u with rfl | u
  · exact ae h.gr hg
  · exact aH h.gr u hg
 x0:=by obtain ⟨v,hv⟩:=h.x0;exact ⟨v,(au hg (x:=⟨X,0,none⟩) h.ltX (Iw t)).trans hv⟩
 x1:=by obtain ⟨v,hv⟩:=h.x1;exact ⟨v,(au hg (x:=⟨X,1,none⟩) h.ltX (Iw t)).trans hv⟩
 fx:=fun o=>(bW hg (x:=⟨X,o,none⟩) h.ltX (fun e=>t (by cases e;rfl))).trans (h.fx o)
 y0:=s
 y1:=(au hg (x:=⟨Y,1,none⟩) h.ltY (Iw B)).trans h.y1
 fy:=fun o=>(bW hg (x:=⟨Y,o,none⟩) h.ltY (fun e=>B (by cases e;rfl))).trans (h.fy o)
 own:=ho
 hx:=h.hx
 hy:=h.hy
 hr:=h.hr
 nxy:=h.nxy
 ngx:=E
 ngy:=D
 low:=h.low
theorem eI.read {w o d:World} {R:Nat} {a:Option Addr} {len b P r X Y g n c:Nat} {m:Int} {L:List ac} (h:eI w o R a len b P X Y g n c m L) (hg:o.grownBy d (some R)) (hr:bf d R a len b r):eI w d R a len b r X Y g n c m L:=by
 have h1:=h.hr;have h2:=h.hx;have h3:=h.hy;have h4:=h.own.lt.1;have f:Y≠R:=by omega
 exact h.step hg hr (Or.inl rfl) (by omega) (by omega) (h.own.grown hg (fun e=>by cases e;omega)) ((au hg (x:=⟨Y,0,none⟩) h.ltY f).trans h.y0) h.ngx h.ngy
theorem eI.below {w d e:World} {R:Nat} {a:Option Addr} {len b P X Y g n c:Nat} {m:Int} {L:List ac} (h:eI w d R a len b P X Y g n c m L) (hb:Bl d e):eI w e R a len b P X Y g n c m L:=h.read (aJ hb) (h.rd.below hb)
theorem eI.mask {w b:World} {R:Nat} {a:Option Addr} {len d P X Y g n c:Nat} {m:Int} {L:List ac} (h:eI w b R a len d P X Y g n c m L) (f:Int):eI w (b.setCell ⟨Y,1,none⟩ (iT f)) R a len d P X Y g n c f L where
 rd:=h.rd.grown (bI b Y 1 _) h.low (fun k e=>by cases e;have:=h.hr;have:=h.hy;omega)
 gr:=aH h.gr h.hy (bI b Y 1 _)
 x0:=by obtain ⟨v,hv⟩:=h.x0;exact ⟨v,(au (bI b Y 1 _) (x:=⟨X,0,none⟩) h.ltX h.nxy).trans hv⟩
 x1:=by obtain ⟨v,hv⟩:=h.x1;exact ⟨v,(au (bI b Y 1 _) (x:=⟨X,1,none⟩) h.ltX h.nxy).trans hv⟩
 fx:=fun o=>by rw [GF];exact h.fx o
 y0:=by rw [Gh _ _ _ _ (by simp)];exact h.y0
 y1:=GD _ _ _ (by rw [h.y1];rfl)
 fy:=fun o=>by rw [GF];exact h.fy o
 own:=h.own.grown (bI b Y 1 _) (fun e=>h.ngy (by cases e;rfl))
 hx:=h.hx
 hy:=h.hy
 hr:=h.hr
 nxy:=h.nxy
 ngx:=h.ngx
 ngy:=h.ngy
 low:=h.low
theorem eI.ents {w b:World} {R:Nat} {a:Option Addr} {len d P X Y g n c f r c':Nat} {m:Int} {L s:List ac} (h:eI w b R a len d P X Y g n c m L) (ho:ah b w.heap.size f r c' s) (u:X<f) (t:f≠Y):eI w (b.setCell ⟨Y,0,none⟩ (sL f r c')) R a len d P X Y f r c' m s where
 rd:=h.rd.grown (bI b Y 0 _) h.low (fun k e=>by cases e;have:=h.hr;have:=h.hy;omega)
 gr:=aH h.gr h.hy (bI b Y 0 _)
 x0:=by obtain ⟨v,hv⟩:=h.x0;exact ⟨v,(au (bI b Y 0 _) (x:=⟨X,0,none⟩) h.ltX h.nxy).trans hv⟩
 x1:=by obtain ⟨v,hv⟩:=h.x1;exact ⟨v,(au (bI b Y 0 _) (x:=⟨X,1,none⟩) h.ltX h.nxy).trans hv⟩
 fx:=fun o=>by rw [GF];exact h.fx o
 y0:=GD _ _ _ (by rw [h.y0];rfl)
 y1:=by rw [Gh _ _ _ _ (by simp)];exact h.y1
 fy:=fun o=>by rw [GF];exact h.fy o
 own:=ho.grown (bI b Y 0 _) (fun e=>t (by cases e;rfl))
 hx:=h.hx
 hy:=h.hy
 hr:=h.hr
 nxy:=h.nxy
 ngx:=u
 ngy:=t
 low:=h.low
theorem ah.rebase {w:World} {base g n c:Nat} {L:List ac} (h:ah w base g n c L):ah w g g n c L:=by
 refine ⟨⟨h.owns.1,?_⟩,h.len,h.ents⟩;rcases h.owns.2 with ⟨hv,_⟩ | ⟨e,d,b,hv,hb,hr⟩
 · cases hv
 · cases hv;exact .inr ⟨g,c,b,rfl,Gg _,hr⟩
theorem eI.grewTo {w A b:World} {R:Nat} {a:Option Addr} {len s P X Y g n c u t c':Nat} {m:Int} {L L':List ac} (h:eI w A R a len s P X Y g n c m L) (hg:A.grownBy b (some g)) (ho:ah b g u t c' L') (hn:1≤t):eI w (b.setCell ⟨Y,0,none⟩ (sL u t c')) R a len s P X Y u t c' m L':=by
 have hb:=h.own.lt.1;have E:=ho.lt.1;have C:=h.ngx;have hr:=h.hr;have f:=(au hg (x:=⟨Y,0,none⟩) h.ltY (Iw h.ngy)).trans h.y0;have y:=(au hg (x:=⟨Y,1,none⟩) h.ltY (Iw h.ngy)).trans h.y1;have d:X≠g:=by omega
 have r:=E' h.ltX hg.size;have D:=E' h.ltY hg.size;have B:u≠Y:=fun e=>by
  have hc:=(ho.entsAt.cells _ rfl 0 (by rw [ho.len];omega)).1;subst e;simp only [It,Gp] at hc;rw [f] at hc;cases hc
 exact {
  rd:=(h.rd.grown hg h.low (fun k e=>by cases e;omega)).grown (bI b Y 0 _) h.low (fun k e=>by cases e;have:=h.hy;omega)
  gr:=aH (aH h.gr hb hg) h.hy (bI b Y 0 _)
  x0:=by obtain ⟨v,hv⟩:=h.x0;exact ⟨v,(au (bI b Y 0 _) (x:=⟨X,0,none⟩) r h.nxy).trans ((au hg (x:=⟨X,0,none⟩) h.ltX d).trans hv)⟩
  x1:=by obtain ⟨v,hv⟩:=h.x1;exact ⟨v,(au (bI b Y 0 _) (x:=⟨X,1,none⟩) r h.nxy).trans ((au hg (x:=⟨X,1,none⟩) h.ltX d).trans hv)⟩
  fx:=fun o=>by rw [GF];exact (bW hg (x:=⟨X,o,none⟩) h.ltX (fun e=>d (by cases e;rfl))).trans (h.fx o)
  y0:=GD _ _ _ (by rw [f];rfl)
  y1:=by rw [Gh _ _ _ _ (by simp)];exact y
  fy:=fun o=>by rw [GF];exact (bW hg (x:=⟨Y,o,none⟩) h.ltY (fun e=>h.ngy (by cases e;rfl))).trans (h.fy o)
  own:=(ho.mono hb).grown (bI b Y 0 _) (fun e=>B (by cases e;rfl))
  hx:=h.hx
  hy:=h.hy
  hr:=h.hr
  nxy:=h.nxy
  ngx:=by omega
  ngy:=B
  low:=h.low }
def FJ (R:Nat) (a:Option Addr) (len cap P:Nat) (w:World) (e:Ending) (w':World):Prop :=
 ∃(g n c P':Nat) (m:Int) (L:List ac),e=.returned (.agg #[sL g n c,iT m])∧ah w' w.heap.size g n c L∧n≤13∧iw L∧(Lit.int .i64 m).wf=true∧bf w' R a len cap P'∧P'≤P+150∧w.grownBy w' (some R)
theorem eI.done {w b:World} {R:Nat} {a:Option Addr} {len f P o X Y g n c:Nat} {m:Int} {L:List ac} (h:eI w b R a len f P X Y g n c m L) (hn:n≤13) (hF:iw L) (hm:(Lit.int .i64 m).wf=true) (r:P≤o+150) (u v:Value) :
 FJ R a len f o w (.returned (.agg #[sL g n c,iT m])) ((b.setCell ⟨X,0,none⟩ u).setCell ⟨X,1,none⟩ v):=by
 have d:R<X:=by have:=h.hr;have:=h.hx;omega
 refine ⟨g,n,c,P,m,L,rfl,?_,hn,hF,hm,?_,r,?_⟩
 · exact (h.own.grown (bI b X 0 u) (fun e=>Nat.ne_of_lt h.ngx (by cases e;rfl))).grown (bI _ X 1 v) (fun e=>Nat.ne_of_lt h.ngx (by cases e;rfl))
 · exact (h.rd.grown (bI b X 0 u) h.low (fun k e=>by cases e;exact d)).grown (bI _ X 1 v) h.low (fun k e=>by cases e;exact d)
 · exact aH (aH h.gr h.hx (bI b X 0 u)) h.hx (bI _ X 1 v)
end Go.Proofs.YtpobkmjicbobdaaGreat
namespace Go.Proofs.YtpobkmjicbobdaaGreat
open Go.RowKit
set_option maxRecDepth 100000
set_option maxHeartbeats 16000000
def Nx (z:Int):Prop:=-1≤z∧z≤65536
theorem DN {L:List ac} {k:Nat} {s t:ByteArray} {q d n:Int} (h:iw L) (b:jE s t q d n):iw (L.set k (s,q,d,t,n)):=fun e hm=>by
 rcases Iz hm with h1 | rfl
 · exact h e h1
 · exact b
theorem ah.put {w:World} {base g n c k:Nat} {L:List ac} (h:ah w base g n c L) (hk:k<n) (s t:ByteArray) (q d m:Int) (hw:eG (s,q,d,t,m)) :
 ah (((((w.setCell ⟨g,k*5,none⟩ (.string s)).setCell ⟨g,k*5+1,none⟩ (iT q)).setCell ⟨g,k*5+2,none⟩ (iT d)).setCell ⟨g,k*5+3,none⟩ (.string t)).setCell ⟨g,k*5+4,none⟩ (iT m)) base g n c (L.set k (s,q,d,t,m)):=by
 have t0:=h.owns.stored (k*5) (.string s);have r:=t0.1.stored (k*5+1) (iT q);have f:=r.1.stored (k*5+2) (iT d);have t3:=f.1.stored (k*5+3) (.string t);have t4:=t3.1.stored (k*5+4) (iT m);have o:=h.owns.1;refine ⟨?_,by rw [IH];exact h.len,fun e hm=>?_⟩
 · have t5:=t4.1;have key:∀xs:List Value,xs.length=n*5→(∀j l,(L.set k (s,q,d,t,m))[j]?=some l→jw xs j l)→xs=aG (L.set k (s,q,d,t,m)):=fun xs hx hh=>pU (by rw [hx,IH,h.len]) hh
   rw [key _ t5.1 (fun j l hl=>?_)] at t5
   · exact t5
   · by_cases b:j=k
     · subst b;rw [GV (by rw [h.len];exact hk)] at hl;cases hl;exact jM s t q d m (by rw [o];omega)
     · rw [GE (Iw b)] at hl;exact jh (fH L j l hl) b _ _ _ _ _
 · rcases Iz hm with h1 | rfl
   · exact h.ents e h1
   · exact hw
theorem lZ (w:World) (g k:Nat) (v0 d b v3 v4:Value):w.grownBy (((((w.setCell ⟨g,k,none⟩ v0).setCell ⟨g,k+1,none⟩ d).setCell ⟨g,k+2,none⟩ b).setCell ⟨g,k+3,none⟩ v3).setCell ⟨g,k+4,none⟩ v4) (some g) :=
 ae (ae (ae (ae (bI _ g _ _) (bI _ g _ _)) (bI _ g _ _)) (bI _ g _ _)) (bI _ g _ _)
theorem eI.put {w b:World} {R:Nat} {a:Option Addr} {len f P X Y g n c k:Nat} {m:Int} {L:List ac} (h:eI w b R a len f P X Y g n c m L) (hk:k<n) (s t:ByteArray) (q d nn:Int) (hw:eG (s,q,d,t,nn)) :
 eI w (((((b.setCell ⟨g,k*5,none⟩ (.string s)).setCell ⟨g,k*5+1,none⟩ (iT q)).setCell ⟨g,k*5+2,none⟩ (iT d)).setCell ⟨g,k*5+3,none⟩ (.string t)).setCell ⟨g,k*5+4,none⟩ (iT nn)) R a len f P X Y g n c m (L.set k (s,q,d,t,nn)) :=
 h.step (lZ b g (k*5) _ _ _ _ _) (h.rd.grown (lZ b g (k*5) _ _ _ _ _) h.low (fun j e=>by cases e;have:=h.hr;have:=h.own.lt.1;omega)) (Or.inr h.own.lt.1) (Nat.ne_of_gt h.ngx) h.ngy (h.own.put hk s t q d nn hw) ((au (lZ b g (k*5) _ _ _ _ _) (x:=⟨Y,0,none⟩) h.ltY (Iw h.ngy)).trans h.y0) h.ngx h.ngy
theorem eI.at {w b:World} {R:Nat} {a:Option Addr} {len e P X Y g n c k:Nat} {m:Int} {L:List ac} (h:eI w b R a len e P X Y g n c m L) (hF:iw L) (hk:k<n) :
 ∃s t q d nn,jE s t q d nn∧b.cell? ⟨g,k*5,none⟩=some (.string s)∧b.cell? ⟨g,k*5+1,none⟩=some (iT q)∧b.cell? ⟨g,k*5+2,none⟩=some (iT d)∧b.cell? ⟨g,k*5+3,none⟩=some (.string t)∧b.cell? ⟨g,k*5+4,none⟩=some (iT nn):=by
 have hl:k<L.length:=by rw [h.own.len];exact hk
 obtain ⟨e0,e1,e2,e3,e4⟩:=h.own.entsAt.cells _ rfl k hl;simp only [Gp] at e0 e1 e2 e3 e4;exact ⟨_,_,_,_,_,hF _ (GQ hl),e0,e1,e2,e3,e4⟩
theorem x9 (R P:Nat) (a:Option Addr) (len f:Nat) (w:World) (h:bf w R a len f P) (am:tC a len R) (hP:P<70000) :
 Calls Tryz.prog 138 #[.pointer (pT R)] w (FJ R a len f P w):=by
 obtain ⟨i0,hi,b3,bb,b9⟩:=info_parts Tryz.infoEnt;have bA:=h.lt;have bG:Eq (R<w.heap.size):=bA;have bs:=az am;have kA:Bl w (w.alloc (.cells #[nZ,iT 0] 63)):=bZ;go_enter Tryz.func138,Tryz.ntmps138
 go_wp2_with fail
 refine (x8 R P 12 a len f _ (h.below kA) am (by omega) (by omega)).mono ?_;rintro e w1 ⟨g,n,c,P1,L,rfl,hO,hn,hF,bE,cB,ay⟩;obtain ⟨X,hX⟩:=aF w.heap.size;have aR:X≠R:=by omega
 have aP:X<(w.alloc (.cells #[nZ,iT 0] 63)).heap.size:=by rw [hX];simp
 have x0:w1.cell? ⟨X,0,none⟩=some nZ:=(au ay (x:=⟨X,0,none⟩) aP aR).trans (by rw [hX];simp);have x1:w1.cell? ⟨X,1,none⟩=some (iT 0):=(au ay (x:=⟨X,1,none⟩) aP aR).trans (by rw [hX];simp);have fx:∀o,w1.frozen? ⟨X,o,none⟩=false:=fun o=>(bW ay (x:=⟨X,o,none⟩) aP (fun e=>aR (by cases e;rfl))).trans (by rw [hX];exact IJ w _ _ o)
 have bY:w.heap.size≤X:=by omega
 have aV:X<g:=by have:=hO.lt.1;simp at this;omega
 have br:Eq (ah w1 w.heap.size g n c L):=hO.mono (by simp);have aU:Eq (w.grownBy w1 (some R)):=ae (aJ kA) ay;have b5:Eq (bf w1 R a len f P1):=bE;have bt:Eq (iw L):=hF;have zX:=Gf _ _ x0;simp only at zX;rw [← hX];clear hO ay bE hF kA aP hX h am bA;go_upto_if 10 with fail
 go_cut [3] (fun v wz=>∃(g n c:Nat) (L:List ac),v=sL g n c∧1≤n∧n≤12∧ah wz w.heap.size g n c L∧iw L∧bf wz R a len f P1∧w.grownBy wz (some R)∧wz.cell? ⟨X,0,none⟩=some nZ∧wz.cell? ⟨X,1,none⟩=some (iT 0)∧(∀o,wz.frozen? ⟨X,o,none⟩=false)∧X<wz.heap.size∧X<g)
 case first =>
  by_cases bT:n=0
  · subst bT;have kB:Bl w1 (w1.alloc (.cells #[.string ⟨#[97]⟩,iT 1,iT 1,.string ⟨#[]⟩,iT 2] 50)):=bZ;have bv:jE ⟨#[97]⟩ ⟨#[]⟩ 1 1 2:=by unfold jE mY;decide
    have oN:ah (w1.alloc (.cells #[.string ⟨#[97]⟩,iT 1,iT 1,.string ⟨#[]⟩,iT 2] 50)) w.heap.size w1.heap.size 1 1 [(⟨#[97]⟩,1,1,⟨#[]⟩,2)]:=by
     have:=GP (base:=w.heap.size) (e:=50) (size:=5) w1 #[.string ⟨#[97]⟩,iT 1,iT 1,.string ⟨#[]⟩,iT 2] 1 aU.o.size (by unfold maxLen;omega) rfl;exact ⟨by simpa [aG,bg] using this,rfl,mf (eF bv)⟩
    go_wp2;go_meet
    exact ⟨_,1,1,_,rfl,by omega,by omega,oN,eF bv,b5.o.below kB,ae aU.o (aJ kB),cell_later kB x0,cell_later kB x1,fun o=>(kB.frozen (p:=⟨X,o,none⟩) zX).trans (fx o),E' zX kB.size,zX⟩
  · have cy:¬((n:Nat):Int)=0:=by omega
    go_wp2;go_meet
    exact ⟨g,n,c,L,rfl,by omega,hn,br.o,bt.o,b5.o,aU.o,x0,x1,fx,zX,aV⟩
 case rest =>
  clear br b5 aU bt x0 x1 fx zX aV aR hn;obtain ⟨g,n,c,L,rfl,cm,hn,hO,hF,hR,hG,bn,bu,bD,bB,bK⟩:=hcut;have J:Eq (iw L):=hF;have aI:Eq (ah wc w.heap.size g n c L):=hO;have bp:Eq (bf wc R a len f P1):=hR;have bc:Eq (w.grownBy wc (some R)):=hG;clear hF hO hR hG;go_wp2_with fail
  refine (BN _ n c L wc aI.o.entsAt).mono ?_;rintro e wr ⟨rfl,ak⟩;obtain ⟨M,hM⟩:∃M:Int,M=((dG L:Nat):Int):=⟨_,rfl⟩;have cz:0≤M:=by omega
  have cp:M<65536:=by have:=ql L;omega
  rw [← hM];clear hM;obtain ⟨Y,hY⟩:=aF wr.heap.size;obtain ⟨W,hW⟩:=aF (wr.alloc (.cells #[sL g n c,iT M] 63));have kW:Bl wr W:=by rw [hW];exact bZ
  have kk:=ak.trans (kW.mono ak.size);have S0:Eq (eI w W R a len f P1 X Y g n c M L):=⟨bp.o.below kk,ae bc.o (aJ kk),⟨_,cell_later kk bn⟩,⟨_,cell_later kk bu⟩,(fun o=>(kk.frozen (p:=⟨X,o,none⟩) bB).trans (bD o)),by rw [hW,hY];simp,by rw [hW,hY];simp,(fun o=>by rw [hW,hY];exact IJ wr _ _ o),aI.o.below kk,bY,by have:=bc.o.size;have:=ak.size;omega,bG.o,by have:=ak.size;omega,bK,by have:=aI.o.lt.2;have:=ak.size;omega,bs.o⟩;have bO:=S0.o.ltY;go_wp2_with fail
  rw [← hW,← hY];clear hW hY kW kk ak bn bu bD bB bp bc aI bO;refine (cJ R P1 a len f _ W S0.o.rd (by omega) (by omega)).mono ?_;rintro e w5 ⟨qk,rfl,ba,R5,g5⟩;have S5:Eq (eI w w5 R a len f (P1+1) X Y g n c M L):=S0.o.read g5 R5;obtain ⟨k,hk⟩:=Hk ba.1;subst hk;have ai:k<n:=by have:=ba.2 (by omega);omega
  have ch:(k:Int)<((n:Nat):Int):=by omega
  have ca:(k:Int)<n:=by omega
  clear R5 g5 S0 ba;go_wp2_with fail
  refine (cJ R (P1+1) a len f _ w5 S5.o.rd (by omega) (by omega)).mono ?_;rintro e w6 ⟨z,rfl,hz,R6,g6⟩;have O:Eq (eI w w6 R a len f (P1+1+1) X Y g n c M L):=S5.o.read g6 R6;clear R6 g6 S5 hz;by_cases z0:z=0
  · subst z0;go_wp2_with fail
    have u:=O.o.below (Below.refl _ w6).drew;have b0:True:=trivial;refine wp_region_held_drew (S:=(fun w'=>Y<w'.heap.size)) (by kernel_rfl) (u.ltY) (fun r=>?_);generalize w6.drew=t at u r ⊢;refine aO 0 1 r ?_;refine aO 2 1 r ?_;refine lI 1 3 (fun K hK=>?_) fun K hK=>?_
    · have ar:=u.y1;go_simp;clear ar;refine hK.o _ _ (u.ltY) fun r=>?_
      (try go_frame);refine aS 3 fun K hK=>?_
      go_simp;have kc:Bl t (t.alloc (.cells ((([1,-1,65536]:List Int).map iT).toArray) 3)):=bZ;have d:=u.below kc;have cb:=eQ t 3 [1,-1,65536] Nx (by intro s hs;simp only [Gz,GZ,or_false] at hs;rcases hs with rfl | rfl | rfl <;> (unfold Nx;decide));have bR:t.heap.size≠R:=by have:=u.rd.lt;omega
      have bl:t.heap.size<(t.alloc (.cells ((([1,-1,65536]:List Int).map iT).toArray) 3)).heap.size:=by simp
      simp only [If,IB] at kc d cb bl;generalize t.heap.size=gb at cb bR bl ⊢;generalize t.alloc (.cells #[iT 1,iT (-1),iT 65536] 3)=wb at d cb bl ⊢;refine hK.o _ _ (d.ltY) fun r=>?_
      (try go_frame);refine aS 4 fun K hK=>?_
      go_simp;refine (fc Nx R _ a len f gb 0 3 3 _ d.rd (by omega) (by omega) (by omega) bR bl cb).mono ?_;rintro e w8 ⟨zn,rfl,ap,R8,T⟩;have kn:=d.read T R8;obtain ⟨b1,aZ⟩:=ap;have aD:Eq (IntKind.i64.wrap (M+zn)=M+zn):=by unfold Eq;simp [IntKind.wrap,IntKind.bits,IntKind.signed];omega
      go_wp2_with fail
      refine hK.o _ _ (kn.ltY) fun r=>?_
      (try go_frame);refine aO 5 2 r ?_;refine aS 7 fun K hK=>?_
      have b8:=kn.y1;have bd:=kn.fy 1;go_simp;have b:=kn.mask (IntKind.i64.wrap (M+zn));clear b8 bd;refine hK.o _ _ (b.ltY) fun r=>?_
      (try go_frame);refine dN ?_;generalize w8.setCell ⟨Y,1,none⟩ (iT (IntKind.i64.wrap (M+zn)))=w9 at b ⊢;rw [aD.o] at b;have a3:=b.y0;have a8:=b.y1;have a7:=b.ltY;obtain ⟨a4,I⟩:=b.x0;obtain ⟨a6,B⟩:=b.x1;have ab:=b.fx 0;have a9:=b.fx 1;have Z:=b.nxy;have m:Eq (eI w _ R a len f _ X Y g n c (M+zn) L):=b;go_wp2;refine bodyPost_ret (v:=.agg #[sL g n c,iT (M+zn)]) (by simp [results,Tryz.results138,go_sem,I,B]) rfl ?_;exact m.o.done (by omega) J.o (G5 (by omega)) (by omega) _ _
    · go_simp;have kc:Bl t (t.alloc (.cells ((([1,-1,65536]:List Int).map iT).toArray) 3)):=bZ;have d:=u.below kc;have cb:=eQ t 3 [1,-1,65536] Nx (by intro s hs;simp only [Gz,GZ,or_false] at hs;rcases hs with rfl | rfl | rfl <;> (unfold Nx;decide));have bR:t.heap.size≠R:=by have:=u.rd.lt;omega
      have bl:t.heap.size<(t.alloc (.cells ((([1,-1,65536]:List Int).map iT).toArray) 3)).heap.size:=by simp
      simp only [If,IB] at kc d cb bl;generalize t.heap.size=gb at cb bR bl ⊢;generalize t.alloc (.cells #[iT 1,iT (-1),iT 65536] 3)=wb at d cb bl ⊢;refine hK.o _ _ (d.ltY) fun r=>?_
      (try go_frame);refine lI 1 4 (fun K hK=>?_) fun K hK=>?_
      focus
       have ar:=d.y1
       go_simp
       clear ar
       refine hK.o _ _ (d.ltY) fun r=>?_
       (try go_frame)
       refine aS 4 fun K hK=>?_
       go_simp;refine (fc Nx R _ a len f gb 0 3 3 _ d.rd (by omega) (by omega) (by omega) bR bl cb).mono ?_;rintro e w8 ⟨zn,rfl,ap,R8,T⟩;have kn:=d.read T R8;obtain ⟨b1,aZ⟩:=ap;have aD:Eq (IntKind.i64.wrap (M+zn)=M+zn):=by unfold Eq;simp [IntKind.wrap,IntKind.bits,IntKind.signed];omega
       go_wp2_with fail
      rotate_left
      focus
       go_simp;refine (fc Nx R _ a len f gb 0 3 3 _ d.rd (by omega) (by omega) (by omega) bR bl cb).mono ?_;rintro e w8 ⟨zn,rfl,ap,R8,T⟩;have kn:=d.read T R8;obtain ⟨b1,aZ⟩:=ap;have aD:Eq (IntKind.i64.wrap (M+zn)=M+zn):=by unfold Eq;simp [IntKind.wrap,IntKind.bits,IntKind.signed];omega
       go_wp2_with fail
       refine hK.o _ _ (kn.ltY) fun r=>?_
       (try go_frame)
       refine aS 1 fun K hK=>?_
       have ar:=kn.y1
       go_simp
       clear ar
      all_goals
       refine hK.o _ _ (kn.ltY) fun r=>?_
       (try go_frame)
       refine aO 5 2 r ?_
       refine aS 7 fun K hK=>?_
       have b8:=kn.y1
       have bd:=kn.fy 1
       go_simp
       have b:=kn.mask (IntKind.i64.wrap (M+zn))
       clear b8 bd
       refine hK.o _ _ (b.ltY) fun r=>?_
       (try go_frame)
       refine dN ?_
       generalize w8.setCell ⟨Y,1,none⟩ (iT (IntKind.i64.wrap (M+zn)))=w9 at b ⊢
       rw [aD.o] at b
       have a3:=b.y0
       have a8:=b.y1
       have a7:=b.ltY
       obtain ⟨a4,I⟩:=b.x0
       obtain ⟨a6,B⟩:=b.x1
       have ab:=b.fx 0
       have a9:=b.fx 1
       have Z:=b.nxy
       have m:Eq (eI w _ R a len f _ X Y g n c (M+zn) L):=b
       go_wp2
       refine bodyPost_ret (v:=.agg #[sL g n c,iT (M+zn)]) (by simp [results,Tryz.results138,go_sem,I,B]) rfl ?_
       exact m.o.done (by omega) J.o (G5 (by omega)) (by omega) _ _
  by_cases z1:z=1
  · subst z1;go_wp2_with fail
    have u:=O.o.below (Below.refl _ w6).drew;have b0:True:=trivial;refine wp_region_held_drew (S:=(fun w'=>w'.cell? ⟨Y,0,none⟩=some (sL g n c)∧Y<w'.heap.size∧g<w'.heap.size)) (by kernel_rfl) (⟨u.y0,u.ltY,u.own.lt.2⟩) (fun r=>?_);generalize w6.drew=t at u r ⊢;refine aO 0 10 r ?_;refine aS 10 fun K hK=>?_
    obtain ⟨D,C,E,H,F,N,e0,e1,e2,e3,e4⟩:=u.at J.o ai;go_simp;clear e0 e1 e2 e3 e4;refine hK.o _ _ (⟨u.y0,u.ltY,u.own.lt.2⟩) fun r=>?_
    (try go_frame);refine aS 11 fun K hK=>?_
    go_simp;refine (gh R _ a len f _ _ _ _ _ _ u.rd (by omega) N).mono ?_;rintro e cI ⟨cn,cD,cP,bC,cS,cL,rfl,bM,bX,c5,bJ⟩;have an:=u.read bJ bX;go_wp2_with fail
    refine hK.o _ _ (⟨an.y0,an.ltY,an.own.lt.2⟩) fun r=>?_
    (try go_frame);refine aS 12 fun K hK=>?_
    go_simp;refine (gh R _ a len f _ _ _ _ _ _ an.rd (by omega) bM).mono ?_;rintro e cM ⟨cu,cx,cr,cv,cO,cq,rfl,bQ,bN,cf,bH⟩;have aq:=an.read bH bN;go_wp2_with fail
    refine hK.o _ _ (⟨aq.y0,aq.ltY,aq.own.lt.2⟩) fun r=>?_
    (try go_frame);refine aS 13 fun K hK=>?_
    go_simp;refine (gh R _ a len f _ _ _ _ _ _ aq.rd (by omega) bQ).mono ?_;rintro e bI ⟨aQ,aK,aN,aM,aH,cl,rfl,bq,bS,ci,bU⟩;have Q:=aq.read bU bS;go_wp2_with fail
    refine hK.o _ _ (⟨Q.y0,Q.ltY,Q.own.lt.2⟩) fun r=>?_
    (try go_frame);refine aO 14 1 r ?_;refine aS 15 fun K hK=>?_
    obtain ⟨x0,x1,x2,x3,x4⟩:=Q.own.entsAt.cells _ rfl k (by rw [Q.own.len];exact ai);simp only [Gp] at x0 x1 x2 x3 x4;have y0:=Q.own.owns.frozenAt (k*5);have y1:=Q.own.owns.frozenAt (k*5+1);have y2:=Q.own.owns.frozenAt (k*5+2);have y3:=Q.own.owns.frozenAt (k*5+3);have y4:=Q.own.owns.frozenAt (k*5+4);go_simp;have b:=Q.put ai aQ aK aN aM aH (jW bq);clear x0 x1 x2 x3 x4 y0 y1 y2 y3 y4;refine hK.o _ _ (⟨b.y0,b.ltY,b.own.lt.2⟩) fun r=>?_
    (try go_frame);refine dN ?_;generalize ((((bI.setCell ⟨g,k*5,none⟩ (.string aQ)).setCell ⟨g,k*5+1,none⟩ (iT aN)).setCell ⟨g,k*5+2,none⟩ (iT aM)).setCell ⟨g,k*5+3,none⟩ (.string aK)).setCell ⟨g,k*5+4,none⟩ (iT aH)=w9 at b ⊢;have a5:Eq (iw (L.set k (aQ,aN,aM,aK,aH))):=DN J.o bq;have a3:=b.y0;have a8:=b.y1;have a7:=b.ltY;obtain ⟨a4,I⟩:=b.x0;obtain ⟨a6,B⟩:=b.x1;have ab:=b.fx 0;have a9:=b.fx 1;have Z:=b.nxy;have m:Eq (eI w _ R a len f _ X Y g n c M (L.set k (aQ,aN,aM,aK,aH))):=b;go_wp2;refine bodyPost_ret (v:=.agg #[sL g n c,iT M]) (by simp [results,Tryz.results138,go_sem,I,B]) rfl ?_;exact m.o.done (by omega) a5.o (G5 (by omega)) (by omega) _ _
  by_cases z2:z=2
  · subst z2;go_wp2_with fail
    have u:=O.o.below (Below.refl _ w6).drew;have b0:True:=trivial;refine wp_region_held_drew (S:=(fun w'=>Y<w'.heap.size)) (by kernel_rfl) (u.ltY) (fun r=>?_);generalize w6.drew=t at u r ⊢;refine aO 0 1 r ?_;refine aO 2 1 r ?_;refine aO 4 1 r ?_;refine lI 1 3 (fun K hK=>?_) fun K hK=>?_
    · have A:=u.y0;go_simp;clear A;refine hK.o _ _ (u.ltY) fun r=>?_
      (try go_frame);refine aS 3 fun K hK=>?_
      have A:=u.y0;go_simp;clear A;refine hK.o _ _ (u.ltY) fun r=>?_
      (try go_frame);refine aO 5 1 r ?_;refine aS 6 fun K hK=>?_
      obtain ⟨D,C,E,H,F,N,e0,e1,e2,e3,e4⟩:=u.at J.o ai;go_simp;clear e0 e1 e2 e3 e4;refine hK.o _ _ (u.ltY) fun r=>?_
      (try go_frame);refine aS 7 fun K hK=>?_
      go_simp;have kc:Bl t (t.alloc (.cells #[.string D,iT E,iT H,.string C,iT F] 50)):=bZ;have d:=u.below kc;have rN:aj (t.alloc (.cells #[.string D,iT E,iT H,.string C,iT F] 50)) (some ⟨t.heap.size,0,none⟩) 1 1 [(D,E,H,C,F)]:=eR t _ _ _ _ _ (jW N);generalize t.heap.size=gb at rN ⊢;generalize t.alloc (.cells #[.string D,iT E,iT H,.string C,iT F] 50)=wb at d rN ⊢;refine hK.o _ _ (d.ltY) fun r=>?_
      (try go_frame);refine aS 8 fun K hK=>?_
      refine aE rfl (.tmp 50) (.tmp 56) 28 rfl g 50 i0 _ 5 56 Tryz.underlying28 hi b3 bb b9 rfl (G4 4) _ _ _ rfl d.own.rebase.owns ⟨gb,0,none⟩ 1 1 (aG [(D,E,H,C,F)]) rfl rfl (b7 rN) (aY _) ?_ ?_ ?_ ?_
      · unfold maxLen;omega
      · omega
      · exact Nat.le_of_lt d.own.lt.2
      intro v8 w8 U a0 av;obtain ⟨T,c8,rfl⟩:=aL U av;have y:wb.grownBy w8 (some g):=a0;refine hK.o _ _ (E' d.ltY a0.size) fun r=>?_
      (try go_frame);refine aO 9 1 r ?_;refine aS 10 fun K hK=>?_
      have aw:ah w8 g T (n+1) c8 (L++[(D,E,H,C,F)]):=⟨by rw [bw];exact U,by simp [d.own.len],mf (fo J.o (eF N))⟩;have b:=d.grewTo y aw (by omega);have A:=(au y (x:=⟨Y,0,none⟩) d.ltY (Iw d.ngy)).trans d.y0;have ax:=(bW y (x:=⟨Y,0,none⟩) d.ltY (fun e=>d.ngy (by cases e;rfl))).trans (d.fy 0);go_simp;clear A ax;refine hK.o _ _ (b.ltY) fun r=>?_
      (try go_frame);refine dN ?_;generalize w8.setCell ⟨Y,0,none⟩ (sL T (n+1) c8)=w9 at b ⊢;have a5:Eq (iw (L++[(D,E,H,C,F)])):=fo J.o (eF N);have a3:=b.y0;have a8:=b.y1;have a7:=b.ltY;obtain ⟨a4,I⟩:=b.x0;obtain ⟨a6,B⟩:=b.x1;have ab:=b.fx 0;have a9:=b.fx 1;have Z:=b.nxy;have m:Eq (eI w _ R a len f _ X Y T (n+1) c8 M (L++[(D,E,H,C,F)])):=b;go_wp2;refine bodyPost_ret (v:=.agg #[sL T (n+1) c8,iT M]) (by simp [results,Tryz.results138,go_sem,I,B]) rfl ?_;exact m.o.done (by omega) a5.o (G5 (by omega)) (by omega) _ _
    · have A:=u.y0;go_simp;clear A;refine hK.o _ _ (u.ltY) fun r=>?_
      (try go_frame);refine aO 5 1 r ?_;refine lI 1 6 (fun K hK=>?_) fun K hK=>?_
      · have A:=u.y0;go_simp;clear A;refine hK.o _ _ (u.ltY) fun r=>?_
        (try go_frame);refine aS 6 fun K hK=>?_
        obtain ⟨D,C,E,H,F,N,e0,e1,e2,e3,e4⟩:=u.at J.o ai;go_simp;clear e0 e1 e2 e3 e4;refine hK.o _ _ (u.ltY) fun r=>?_
        (try go_frame);refine aS 7 fun K hK=>?_
        go_simp;have kc:Bl t (t.alloc (.cells #[.string D,iT E,iT H,.string C,iT F] 50)):=bZ;have d:=u.below kc;have rN:aj (t.alloc (.cells #[.string D,iT E,iT H,.string C,iT F] 50)) (some ⟨t.heap.size,0,none⟩) 1 1 [(D,E,H,C,F)]:=eR t _ _ _ _ _ (jW N);generalize t.heap.size=gb at rN ⊢;generalize t.alloc (.cells #[.string D,iT E,iT H,.string C,iT F] 50)=wb at d rN ⊢;refine hK.o _ _ (d.ltY) fun r=>?_
        (try go_frame);refine aS 8 fun K hK=>?_
        refine aE rfl (.tmp 50) (.tmp 56) 28 rfl g 50 i0 _ 5 56 Tryz.underlying28 hi b3 bb b9 rfl (G4 4) _ _ _ rfl d.own.rebase.owns ⟨gb,0,none⟩ 1 1 (aG [(D,E,H,C,F)]) rfl rfl (b7 rN) (aY _) ?_ ?_ ?_ ?_
        · unfold maxLen;omega
        · omega
        · exact Nat.le_of_lt d.own.lt.2
        intro v8 w8 U a0 av;obtain ⟨T,c8,rfl⟩:=aL U av;have y:wb.grownBy w8 (some g):=a0;refine hK.o _ _ (E' d.ltY a0.size) fun r=>?_
        (try go_frame);refine aO 9 1 r ?_;refine aS 10 fun K hK=>?_
        have aw:ah w8 g T (n+1) c8 (L++[(D,E,H,C,F)]):=⟨by rw [bw];exact U,by simp [d.own.len],mf (fo J.o (eF N))⟩;have b:=d.grewTo y aw (by omega);have A:=(au y (x:=⟨Y,0,none⟩) d.ltY (Iw d.ngy)).trans d.y0;have ax:=(bW y (x:=⟨Y,0,none⟩) d.ltY (fun e=>d.ngy (by cases e;rfl))).trans (d.fy 0);go_simp;clear A ax;refine hK.o _ _ (b.ltY) fun r=>?_
        (try go_frame);refine dN ?_;generalize w8.setCell ⟨Y,0,none⟩ (sL T (n+1) c8)=w9 at b ⊢;have a5:Eq (iw (L++[(D,E,H,C,F)])):=fo J.o (eF N);have a3:=b.y0;have a8:=b.y1;have a7:=b.ltY;obtain ⟨a4,I⟩:=b.x0;obtain ⟨a6,B⟩:=b.x1;have ab:=b.fx 0;have a9:=b.fx 1;have Z:=b.nxy;have m:Eq (eI w _ R a len f _ X Y T (n+1) c8 M (L++[(D,E,H,C,F)])):=b;go_wp2;refine bodyPost_ret (v:=.agg #[sL T (n+1) c8,iT M]) (by simp [results,Tryz.results138,go_sem,I,B]) rfl ?_;exact m.o.done (by omega) a5.o (G5 (by omega)) (by omega) _ _
      · obtain ⟨D,C,E,H,F,N,e0,e1,e2,e3,e4⟩:=u.at J.o ai;go_simp;clear e0 e1 e2 e3 e4;refine hK.o _ _ (u.ltY) fun r=>?_
        (try go_frame);refine lI 1 7 (fun K hK=>?_) fun K hK=>?_
        focus
         have A:=u.y0
         go_simp
         clear A
         refine hK.o _ _ (u.ltY) fun r=>?_
         (try go_frame)
         refine aS 7 fun K hK=>?_
         go_simp
         have kc:Bl t (t.alloc (.cells #[.string D,iT E,iT H,.string C,iT F] 50)):=bZ
         have d:=u.below kc
         have rN:aj (t.alloc (.cells #[.string D,iT E,iT H,.string C,iT F] 50)) (some ⟨t.heap.size,0,none⟩) 1 1 [(D,E,H,C,F)]:=eR t _ _ _ _ _ (jW N)
         generalize t.heap.size=gb at rN ⊢
         generalize t.alloc (.cells #[.string D,iT E,iT H,.string C,iT F] 50)=wb at d rN ⊢
        rotate_left
        focus
         go_simp
         have kc:Bl t (t.alloc (.cells #[.string D,iT E,iT H,.string C,iT F] 50)):=bZ
         have d:=u.below kc
         have rN:aj (t.alloc (.cells #[.string D,iT E,iT H,.string C,iT F] 50)) (some ⟨t.heap.size,0,none⟩) 1 1 [(D,E,H,C,F)]:=eR t _ _ _ _ _ (jW N)
         generalize t.heap.size=gb at rN ⊢
         generalize t.alloc (.cells #[.string D,iT E,iT H,.string C,iT F] 50)=wb at d rN ⊢
         refine hK.o _ _ (d.ltY) fun r=>?_
         (try go_frame)
         refine aS 1 fun K hK=>?_
         have A:=d.y0
         go_simp
         clear A
        all_goals
         refine hK.o _ _ (d.ltY) fun r=>?_
         (try go_frame)
         refine aS 8 fun K hK=>?_
         refine aE rfl (.tmp 50) (.tmp 56) 28 rfl g 50 i0 _ 5 56 Tryz.underlying28 hi b3 bb b9 rfl (G4 4) _ _ _ rfl d.own.rebase.owns ⟨gb,0,none⟩ 1 1 (aG [(D,E,H,C,F)]) rfl rfl (b7 rN) (aY _) ?_ ?_ ?_ ?_
         · unfold maxLen;omega
         · omega
         · exact Nat.le_of_lt d.own.lt.2
         intro v8 w8 U a0 av
         obtain ⟨T,c8,rfl⟩:=aL U av
         have y:wb.grownBy w8 (some g):=a0
         refine hK.o _ _ (E' d.ltY a0.size) fun r=>?_
         (try go_frame)
         refine aO 9 1 r ?_
         refine aS 10 fun K hK=>?_
         have aw:ah w8 g T (n+1) c8 (L++[(D,E,H,C,F)]):=⟨by rw [bw];exact U,by simp [d.own.len],mf (fo J.o (eF N))⟩
         have b:=d.grewTo y aw (by omega)
         have A:=(au y (x:=⟨Y,0,none⟩) d.ltY (Iw d.ngy)).trans d.y0
         have ax:=(bW y (x:=⟨Y,0,none⟩) d.ltY (fun e=>d.ngy (by cases e;rfl))).trans (d.fy 0)
         go_simp
         clear A ax
         refine hK.o _ _ (b.ltY) fun r=>?_
         (try go_frame)
         refine dN ?_
         generalize w8.setCell ⟨Y,0,none⟩ (sL T (n+1) c8)=w9 at b ⊢
         have a5:Eq (iw (L++[(D,E,H,C,F)])):=fo J.o (eF N)
         have a3:=b.y0
         have a8:=b.y1
         have a7:=b.ltY
         obtain ⟨a4,I⟩:=b.x0
         obtain ⟨a6,B⟩:=b.x1
         have ab:=b.fx 0
         have a9:=b.fx 1
         have Z:=b.nxy
         have m:Eq (eI w _ R a len f _ X Y T (n+1) c8 M (L++[(D,E,H,C,F)])):=b
         go_wp2
         refine bodyPost_ret (v:=.agg #[sL T (n+1) c8,iT M]) (by simp [results,Tryz.results138,go_sem,I,B]) rfl ?_
         exact m.o.done (by omega) a5.o (G5 (by omega)) (by omega) _ _
  by_cases z3:z=3
  · subst z3;have u:=(O.o.below ((Below.refl w6.heap.size w6).alloc (Gg _) (.cells #[] 50)));have oE:ah (w6.alloc (.cells #[] 50)) w.heap.size w6.heap.size 0 0 []:=cH w6 _ O.o.gr.size;have b:=u.ents oE O.o.ltX (by have:=O.o.ltY;omega);have bo:=O.o.y0;have bz:=O.o.fy 0;have b2:=O.o.ltY;rw [World.setCell_alloc_past _ _ _ _ b2] at b;clear u oE;go_upto_region 17 with fail
    clear bo bz b2 O;generalize w6.heap.size=g9 at b ⊢;generalize (w6.setCell ⟨Y,0,none⟩ (sL g9 0 0)).alloc (.cells #[] 50)=w9 at b ⊢;have a3:=b.y0;have a8:=b.y1;have a7:=b.ltY;obtain ⟨a4,I⟩:=b.x0;obtain ⟨a6,B⟩:=b.x1;have ab:=b.fx 0;have a9:=b.fx 1;have Z:=b.nxy;have m:Eq (eI w _ R a len f _ X Y g9 0 0 M []):=b;go_wp2;refine bodyPost_ret (v:=.agg #[sL g9 0 0,iT M]) (by simp [results,Tryz.results138,go_sem,I,B]) rfl ?_;exact m.o.done (by omega) (fun e he=>by cases he) (G5 (by omega)) (by omega) _ _
  by_cases z4:z=4
  · subst z4;have b:=O.o.mask 65535;have bo:=O.o.y0;have cA:=O.o.y1;have bz:=O.o.fy 1;have b2:=O.o.ltY;have cQ:=O.o.ltX;obtain ⟨cw,bP⟩:=O.o.x0;obtain ⟨ct,bC⟩:=O.o.x1;have cs:=O.o.fx 0;have cE:=O.o.fx 1;have Z:=O.o.nxy;have m:Eq (eI w _ R a len f _ X Y g n c 65535 L):=b;clear b;go_wp2;refine bodyPost_ret (v:=.agg #[sL g n c,iT 65535]) (by simp [results,Tryz.results138,go_sem,bP,bC]) rfl ?_;exact m.o.done (by omega) J.o (G5 (by omega)) (by omega) _ _
  have k6:=O.o;have a3:=k6.y0;have a8:=k6.y1;have a7:=k6.ltY;obtain ⟨a4,I⟩:=k6.x0;obtain ⟨a6,B⟩:=k6.x1;have ab:=k6.fx 0;have a9:=k6.fx 1;have Z:=k6.nxy;have m:Eq (eI w _ R a len f _ X Y g n c M L):=k6;go_wp2;refine bodyPost_ret (v:=.agg #[sL g n c,iT M]) (by simp [results,Tryz.results138,go_sem,I,B]) rfl ?_;exact m.o.done (by omega) J.o (G5 (by omega)) (by omega) _ _
end Go.Proofs.YtpobkmjicbobdaaGreat
namespace Go.Proofs.YtpobkmjicbobdaaGreat
open Go.RowKit
set_option maxRecDepth 100000
set_option maxHeartbeats 16000000
end Go.Proofs.YtpobkmjicbobdaaGreat
