/- Walks. -/
import Derived.Test.YtpobkmjicbobdaaGreatBc28
namespace Go.Proofs.YtpobkmjicbobdaaGreat
open Go.RowKit
set_option maxRecDepth 100000
set_option maxHeartbeats 16000000
theorem zt {L:List ae} (h:fU L):fU (bD L):=fun e b=>h e ((bO L).2.mem_iff.1 b)
theorem xp (R P many:Nat) (a:Option Addr) (len b:Nat) (w:World) (h:bj w R a len b P) (f:sY a len R) (F:P<80000) (hm:many≤100) :
 Calls Tryz.prog 195 #[.pointer (pT R),iT many] w (Eb R a len b P many w):=by
 go_enter Tryz.func195,Tryz.ntmps195
 go_wp2_with fail
 refine (xr R P many a len b w h f F hm).mono ?_;rintro e u ⟨g,n,c,r,L,rfl,hO,hn,hF,hR,t,hG⟩;have C:Eq (bj u R a len b r):=hR;have D:Eq (w.grownBy u (some R)):=hG;have E:Eq (fU L):=hF;have hz:=hG.size;go_wp2_with fail
 refine (A6 _ n c L u hO.entsAt (by omega)).mono ?_;rintro e s ⟨B,c2,rfl,m,d⟩;have x:Eq (ag s w.heap.size B n c2 (bD L)):=m.mono hz;have y:Eq (bj s R a len b r):=C.o.below d;have A:Eq (w.grownBy s (some R)):=af D.o (aT d);clear hO hR hG hF d m C D;go_wp2;go_ret;exact ⟨B,n,c2,r,bD L,rfl,x.o,hn,zt E.o,y.o,t,A.o⟩
theorem uq (a:Option Addr) (n c:Nat) (L:List ae) (w:World) (hL:ah w a n c L) :
 Calls Tryz.prog 173 #[.slice a n c] w fun e w'=>e=.returned (.agg #[.slice a n c,iT ((du L:Nat):Int)])∧Bl w w':=by
 go_enter Tryz.func173,Tryz.ntmps173
 go_wp2_with fail
 refine (mN a n c L _ (hL.keep bZ)).mono ?_;rintro e w1 ⟨rfl,b⟩;obtain ⟨d,f⟩:=vw b;have hz:=b.size;simp at hz;go_wp2;refine bodyPost_ret (v:=.agg #[.slice a n c,iT ((du L:Nat):Int)]) (by simp [results,Tryz.results173,go_sem,d]) rfl ⟨rfl,?_⟩;have hB:Bl w w1:=bZ.trans (b.mono (by simp));exact (hB.setCell (p:=⟨w.heap.size,0,none⟩) (Fv _) _).setCell (p:=⟨w.heap.size,1,none⟩) (Fv _) _
theorem bQ (w:World) (Z o:Nat) (v:Value):w.grownBy (w.setCell ⟨Z,o,none⟩ v) (some Z) :=
 ⟨rfl,rfl,rfl,by simp [World.setCell],fun k _ hk=>Below.heap_setCell _ _ _ _ (fun e=>hk (by rw [e]))⟩
structure de (w wi:World) (R:Nat) (a:Option Addr) (len cap P X Y g n c:Nat) (m:Int) (L:List ae):Prop where
 rd:bj wi R a len cap P
 gr:w.grownBy wi (some R)
 x0:∃v,wi.cell? ⟨X,0,none⟩=some v
 x1:∃v,wi.cell? ⟨X,1,none⟩=some v
 fx:∀o,wi.frozen? ⟨X,o,none⟩=false
 y0:wi.cell? ⟨Y,0,none⟩=some (sL g n c)
 y1:wi.cell? ⟨Y,1,none⟩=some (iT m)
 fy:∀o,wi.frozen? ⟨Y,o,none⟩=false
 own:ag wi w.heap.size g n c L
 hx:w.heap.size≤X
 hy:w.heap.size≤Y
 hr:R<w.heap.size
 nxy:X≠Y
 ngx:X<g
 ngy:g≠Y
 low:sY a len R
theorem de.ltX {w d:World} {R:Nat} {a:Option Addr} {len b P X Y g n c:Nat} {m:Int} {L:List ae} (h:de w d R a len b P X Y g n c m L):X<d.heap.size:=by
 obtain ⟨v,hv⟩:=h.x0;exact Fu _ _ hv
theorem de.ltY {w d:World} {R:Nat} {a:Option Addr} {len b P X Y g n c:Nat} {m:Int} {L:List ae} (h:de w d R a len b P X Y g n c m L):Y<d.heap.size:=Fu _ _ h.y0
theorem de.step {w A d:World} {R:Nat} {a:Option Addr} {len b P y X Y g f n t c c' Z:Nat} {m:Int} {L C:List ae} (h:de w A R a len b P X Y g n c m L) (hg:A.grownBy d (some Z)) (hr:bj d R a len b y) (r:Z=R∨w.heap.size≤Z) (u:Z≠X) (B:Z≠Y) (ho:ag d w.heap.size f t c' C) (s:d.cell? ⟨Y,0,none⟩=some (sL f t c')) (E:X<f) (D:f≠Y):de w d R a len b y X Y f t c' m C where
 rd:=hr
 gr:=by
  rcases r with rfl | r
  · exact af h.gr hg
  · exact aI h.gr r hg
 x0:=by obtain ⟨v,hv⟩:=h.x0;exact ⟨v,(an hg (x:=⟨X,0,none⟩) h.ltX (Ne.symm u)).trans hv⟩
 x1:=by obtain ⟨v,hv⟩:=h.x1;exact ⟨v,(an hg (x:=⟨X,1,none⟩) h.ltX (Ne.symm u)).trans hv⟩
 fx:=fun o=>(bo hg (x:=⟨X,o,none⟩) h.ltX (fun e=>u (by cases e;rfl))).trans (h.fx o)
 y0:=s
 y1:=(an hg (x:=⟨Y,1,none⟩) h.ltY (Ne.symm B)).trans h.y1
 fy:=fun o=>(bo hg (x:=⟨Y,o,none⟩) h.ltY (fun e=>B (by cases e;rfl))).trans (h.fy o)
 own:=ho
 hx:=h.hx
 hy:=h.hy
 hr:=h.hr
 nxy:=h.nxy
 ngx:=E
 ngy:=D
 low:=h.low
theorem de.read {w r f:World} {R:Nat} {a:Option Addr} {len b P o X Y g n c:Nat} {m:Int} {L:List ae} (h:de w r R a len b P X Y g n c m L) (hg:r.grownBy f (some R)) (hr:bj f R a len b o):de w f R a len b o X Y g n c m L:=by
 have h1:=h.hr;have h2:=h.hx;have h3:=h.hy;have h4:=h.own.lt.1;have d:Y≠R:=by omega
 exact h.step hg hr (Or.inl rfl) (by omega) (by omega) (h.own.grown hg (fun e=>by cases e;omega)) ((an hg (x:=⟨Y,0,none⟩) h.ltY d).trans h.y0) h.ngx h.ngy
theorem de.below {w d e:World} {R:Nat} {a:Option Addr} {len b P X Y g n c:Nat} {m:Int} {L:List ae} (h:de w d R a len b P X Y g n c m L) (hb:Bl d e):de w e R a len b P X Y g n c m L:=h.read (aT hb) (h.rd.below hb)
theorem de.mask {w b:World} {R:Nat} {a:Option Addr} {len d P X Y g n c:Nat} {m:Int} {L:List ae} (h:de w b R a len d P X Y g n c m L) (f:Int):de w (b.setCell ⟨Y,1,none⟩ (iT f)) R a len d P X Y g n c f L where
 rd:=h.rd.grown (bQ b Y 1 _) h.low (fun k e=>by cases e;have:=h.hr;have:=h.hy;omega)
 gr:=aI h.gr h.hy (bQ b Y 1 _)
 x0:=by obtain ⟨v,hv⟩:=h.x0;exact ⟨v,(an (bQ b Y 1 _) (x:=⟨X,0,none⟩) h.ltX h.nxy).trans hv⟩
 x1:=by obtain ⟨v,hv⟩:=h.x1;exact ⟨v,(an (bQ b Y 1 _) (x:=⟨X,1,none⟩) h.ltX h.nxy).trans hv⟩
 fx:=fun o=>by rw [FS];exact h.fx o
 y0:=by rw [Ft _ _ _ _ (by simp)];exact h.y0
 y1:=FD _ _ _ (by rw [h.y1];rfl)
 fy:=fun o=>by rw [FS];exact h.fy o
 own:=h.own.grown (bQ b Y 1 _) (fun e=>h.ngy (by cases e;rfl))
 hx:=h.hx
 hy:=h.hy
 hr:=h.hr
 nxy:=h.nxy
 ngx:=h.ngx
 ngy:=h.ngy
 low:=h.low
theorem de.ents {w b:World} {R:Nat} {a:Option Addr} {len d P X Y g n c f r c':Nat} {m:Int} {L t:List ae} (h:de w b R a len d P X Y g n c m L) (ho:ag b w.heap.size f r c' t) (u:X<f) (s:f≠Y):de w (b.setCell ⟨Y,0,none⟩ (sL f r c')) R a len d P X Y f r c' m t where
 rd:=h.rd.grown (bQ b Y 0 _) h.low (fun k e=>by cases e;have:=h.hr;have:=h.hy;omega)
 gr:=aI h.gr h.hy (bQ b Y 0 _)
 x0:=by obtain ⟨v,hv⟩:=h.x0;exact ⟨v,(an (bQ b Y 0 _) (x:=⟨X,0,none⟩) h.ltX h.nxy).trans hv⟩
 x1:=by obtain ⟨v,hv⟩:=h.x1;exact ⟨v,(an (bQ b Y 0 _) (x:=⟨X,1,none⟩) h.ltX h.nxy).trans hv⟩
 fx:=fun o=>by rw [FS];exact h.fx o
 y0:=FD _ _ _ (by rw [h.y0];rfl)
 y1:=by rw [Ft _ _ _ _ (by simp)];exact h.y1
 fy:=fun o=>by rw [FS];exact h.fy o
 own:=ho.grown (bQ b Y 0 _) (fun e=>s (by cases e;rfl))
 hx:=h.hx
 hy:=h.hy
 hr:=h.hr
 nxy:=h.nxy
 ngx:=u
 ngy:=s
 low:=h.low
theorem ag.rebase {w:World} {base g n c:Nat} {L:List ae} (h:ag w base g n c L):ag w g g n c L:=by
 refine ⟨⟨h.owns.1,?_⟩,h.len,h.ents⟩;rcases h.owns.2 with ⟨hv,_⟩ | ⟨e,d,b,hv,hb,hr⟩
 · cases hv
 · cases hv;exact .inr ⟨g,c,b,rfl,Fv _,hr⟩
theorem de.grewTo {w A b:World} {R:Nat} {a:Option Addr} {len f P X Y g n c u t c':Nat} {m:Int} {L L':List ae} (h:de w A R a len f P X Y g n c m L) (hg:A.grownBy b (some g)) (ho:ag b g u t c' L') (hn:1≤t):de w (b.setCell ⟨Y,0,none⟩ (sL u t c')) R a len f P X Y u t c' m L':=by
 have hb:=h.own.lt.1;have C:=ho.lt.1;have E:=h.ngx;have hr:=h.hr;have s:=(an hg (x:=⟨Y,0,none⟩) h.ltY (Ne.symm h.ngy)).trans h.y0;have y:=(an hg (x:=⟨Y,1,none⟩) h.ltY (Ne.symm h.ngy)).trans h.y1;have d:X≠g:=by omega
 have r:X<b.heap.size:=u' h.ltX hg.size;have D:Y<b.heap.size:=u' h.ltY hg.size;have B:u≠Y:=fun e=>by
  have hc:=(ho.entsAt.cells _ rfl 0 (by rw [ho.len];omega)).1;subst e;simp only [G4,FG] at hc;rw [s] at hc;cases hc
 exact {
  rd:=(h.rd.grown hg h.low (fun k e=>by cases e;omega)).grown (bQ b Y 0 _) h.low (fun k e=>by cases e;have:=h.hy;omega)
  gr:=aI (aI h.gr hb hg) h.hy (bQ b Y 0 _)
  x0:=by obtain ⟨v,hv⟩:=h.x0;exact ⟨v,(an (bQ b Y 0 _) (x:=⟨X,0,none⟩) r h.nxy).trans ((an hg (x:=⟨X,0,none⟩) h.ltX d).trans hv)⟩
  x1:=by obtain ⟨v,hv⟩:=h.x1;exact ⟨v,(an (bQ b Y 0 _) (x:=⟨X,1,none⟩) r h.nxy).trans ((an hg (x:=⟨X,1,none⟩) h.ltX d).trans hv)⟩
  fx:=fun o=>by rw [FS];exact (bo hg (x:=⟨X,o,none⟩) h.ltX (fun e=>d (by cases e;rfl))).trans (h.fx o)
  y0:=FD _ _ _ (by rw [s];rfl)
  y1:=by rw [Ft _ _ _ _ (by simp)];exact y
  fy:=fun o=>by rw [FS];exact (bo hg (x:=⟨Y,o,none⟩) h.ltY (fun e=>h.ngy (by cases e;rfl))).trans (h.fy o)
  own:=(ho.mono hb).grown (bQ b Y 0 _) (fun e=>B (by cases e;rfl))
  hx:=h.hx
  hy:=h.hy
  hr:=h.hr
  nxy:=h.nxy
  ngx:=by omega
  ngy:=B
  low:=h.low }
def EZ (R:Nat) (a:Option Addr) (len cap P:Nat) (w:World) (e:Ending) (w':World):Prop :=
 ∃(g n c P':Nat) (m:Int) (L:List ae),e=.returned (.agg #[sL g n c,iT m])∧ag w' w.heap.size g n c L∧n≤13∧fU L∧(Lit.int .i64 m).wf=true∧bj w' R a len cap P'∧P'≤P+150∧w.grownBy w' (some R)
theorem de.done {w d:World} {R:Nat} {a:Option Addr} {len b P o X Y g n c:Nat} {m:Int} {L:List ae} (h:de w d R a len b P X Y g n c m L) (hn:n≤13) (hF:fU L) (hm:(Lit.int .i64 m).wf=true) (r:P≤o+150) (u v:Value) :
 EZ R a len b o w (.returned (.agg #[sL g n c,iT m])) ((d.setCell ⟨X,0,none⟩ u).setCell ⟨X,1,none⟩ v):=by
 have f:R<X:=by have:=h.hr;have:=h.hx;omega
 refine ⟨g,n,c,P,m,L,rfl,?_,hn,hF,hm,?_,r,?_⟩
 · exact (h.own.grown (bQ d X 0 u) (fun e=>Nat.ne_of_lt h.ngx (by cases e;rfl))).grown (bQ _ X 1 v) (fun e=>Nat.ne_of_lt h.ngx (by cases e;rfl))
 · exact (h.rd.grown (bQ d X 0 u) h.low (fun k e=>by cases e;exact f)).grown (bQ _ X 1 v) h.low (fun k e=>by cases e;exact f)
 · exact aI (aI h.gr h.hx (bQ d X 0 u)) h.hx (bQ _ X 1 v)
end Go.Proofs.YtpobkmjicbobdaaGreat
namespace Go.Proofs.YtpobkmjicbobdaaGreat
open Go.RowKit
set_option maxRecDepth 100000
set_option maxHeartbeats 16000000
def Nx (z:Int):Prop:=-1≤z∧z≤65536
theorem vH {L:List ae} {k:Nat} {s t:ByteArray} {q d n:Int} (h:fU L) (b:jC s t q d n):fU (L.set k (s,q,d,t,n)):=fun e hm=>by
 rcases Ho hm with h1 | rfl
 · exact h e h1
 · exact b
theorem ag.put {w:World} {base g n c k:Nat} {L:List ae} (h:ag w base g n c L) (hk:k<n) (s t:ByteArray) (q d m:Int) (hw:dR (s,q,d,t,m)) :
 ag (((((w.setCell ⟨g,k*5,none⟩ (.string s)).setCell ⟨g,k*5+1,none⟩ (iT q)).setCell ⟨g,k*5+2,none⟩ (iT d)).setCell ⟨g,k*5+3,none⟩ (.string t)).setCell ⟨g,k*5+4,none⟩ (iT m)) base g n c (L.set k (s,q,d,t,m)):=by
 have t0:=h.owns.stored (k*5) (.string s);have o:=t0.1.stored (k*5+1) (iT q);have f:=o.1.stored (k*5+2) (iT d);have t3:=f.1.stored (k*5+3) (.string t);have t4:=t3.1.stored (k*5+4) (iT m);have r:(aC L).length=n*5:=h.owns.1;refine ⟨?_,by rw [H9];exact h.len,fun e hm=>?_⟩
 · have t5:=t4.1;have key:∀xs:List Value,xs.length=n*5→(∀j l,(L.set k (s,q,d,t,m))[j]?=some l→jw xs j l)→xs=aC (L.set k (s,q,d,t,m)):=fun xs hx hh=>pB (by rw [hx,H9,h.len]) hh
   rw [key _ t5.1 (fun j l hl=>?_)] at t5
   · exact t5
   · by_cases b:j=k
     · subst b;rw [Gu (by rw [h.len];exact hk)] at hl;cases hl;exact jJ s t q d m (by rw [r];omega)
     · rw [F3 (Ne.symm b)] at hl;exact jc (fF L j l hl) b _ _ _ _ _
 · rcases Ho hm with h1 | rfl
   · exact h.ents e h1
   · exact hw
theorem lH (w:World) (g k:Nat) (v0 b d v3 v4:Value):w.grownBy (((((w.setCell ⟨g,k,none⟩ v0).setCell ⟨g,k+1,none⟩ b).setCell ⟨g,k+2,none⟩ d).setCell ⟨g,k+3,none⟩ v3).setCell ⟨g,k+4,none⟩ v4) (some g) :=
 af (af (af (af (bQ _ g _ _) (bQ _ g _ _)) (bQ _ g _ _)) (bQ _ g _ _)) (bQ _ g _ _)
theorem de.put {w f:World} {R:Nat} {a:Option Addr} {len b P X Y g n c k:Nat} {m:Int} {L:List ae} (h:de w f R a len b P X Y g n c m L) (hk:k<n) (s t:ByteArray) (q d nn:Int) (hw:dR (s,q,d,t,nn)) :
 de w (((((f.setCell ⟨g,k*5,none⟩ (.string s)).setCell ⟨g,k*5+1,none⟩ (iT q)).setCell ⟨g,k*5+2,none⟩ (iT d)).setCell ⟨g,k*5+3,none⟩ (.string t)).setCell ⟨g,k*5+4,none⟩ (iT nn)) R a len b P X Y g n c m (L.set k (s,q,d,t,nn)) :=
 h.step (lH f g (k*5) _ _ _ _ _) (h.rd.grown (lH f g (k*5) _ _ _ _ _) h.low (fun j e=>by cases e;have:=h.hr;have:=h.own.lt.1;omega)) (Or.inr h.own.lt.1) (Nat.ne_of_gt h.ngx) h.ngy (h.own.put hk s t q d nn hw) ((an (lH f g (k*5) _ _ _ _ _) (x:=⟨Y,0,none⟩) h.ltY (Ne.symm h.ngy)).trans h.y0) h.ngx h.ngy
theorem de.at {w b:World} {R:Nat} {a:Option Addr} {len e P X Y g n c k:Nat} {m:Int} {L:List ae} (h:de w b R a len e P X Y g n c m L) (hF:fU L) (hk:k<n) :
 ∃s t q d nn,jC s t q d nn∧b.cell? ⟨g,k*5,none⟩=some (.string s)∧b.cell? ⟨g,k*5+1,none⟩=some (iT q)∧b.cell? ⟨g,k*5+2,none⟩=some (iT d)∧b.cell? ⟨g,k*5+3,none⟩=some (.string t)∧b.cell? ⟨g,k*5+4,none⟩=some (iT nn):=by
 have hl:k<L.length:=by rw [h.own.len];exact hk
 obtain ⟨e0,e1,e2,e3,e4⟩:=h.own.entsAt.cells _ rfl k hl;simp only [FG] at e0 e1 e2 e3 e4;exact ⟨_,_,_,_,_,hF _ (F8 hl),e0,e1,e2,e3,e4⟩
theorem xq (R P:Nat) (a:Option Addr) (len r:Nat) (w:World) (h:bj w R a len r P) (bd:sY a len R) (hP:P<70000) :
 Calls Tryz.prog 138 #[.pointer (pT R)] w (EZ R a len r P w):=by
 obtain ⟨i0,hi,aZ,aY,b3⟩:=info_parts Tryz.infoEnt;have co:=h.lt;have c6:Eq (R<w.heap.size):=co;have bx:=bT bd;have kA:Bl w (w.alloc (.cells #[nZ,iT 0] 63)):=bZ;go_enter Tryz.func138,Tryz.ntmps138
 go_wp2_with fail
 refine (xp R P 12 a len r _ (h.below kA) bd (by omega) (by omega)).mono ?_;rintro e w1 ⟨g,n,c,P1,L,rfl,hO,hn,hF,cn,cY,bi⟩;obtain ⟨X,hX⟩:=aG w.heap.size;have bg:X≠R:=by omega
 have bu:X<(w.alloc (.cells #[nZ,iT 0] 63)).heap.size:=by rw [hX];simp
 have x0:w1.cell? ⟨X,0,none⟩=some nZ:=(an bi (x:=⟨X,0,none⟩) bu bg).trans (by rw [hX];simp);have x1:w1.cell? ⟨X,1,none⟩=some (iT 0):=(an bi (x:=⟨X,1,none⟩) bu bg).trans (by rw [hX];simp);have fx:∀o,w1.frozen? ⟨X,o,none⟩=false:=fun o=>(bo bi (x:=⟨X,o,none⟩) bu (fun e=>bg (by cases e;rfl))).trans (by rw [hX];exact Hh w _ _ o)
 have cm:w.heap.size≤X:=by omega
 have bw:X<g:=by have:=hO.lt.1;simp at this;omega
 have bL:Eq (ag w1 w.heap.size g n c L):=hO.mono (by simp);have bn:Eq (w.grownBy w1 (some R)):=af (aT kA) bi;have bs:Eq (bj w1 R a len r P1):=cn;have bO:Eq (fU L):=hF;have zX:=Fu _ _ x0;simp only at zX;rw [← hX];clear hO bi cn hF kA bu hX h bd co;by_cases cM:n=0
 · subst cM;have kB:Bl w1 (w1.alloc (.cells #[.string ⟨#[97]⟩,iT 1,iT 1,.string ⟨#[]⟩,iT 2] 50)):=bZ;have bA:jC ⟨#[97]⟩ ⟨#[]⟩ 1 1 2:=by unfold jC mH;decide
   have oN:ag (w1.alloc (.cells #[.string ⟨#[97]⟩,iT 1,iT 1,.string ⟨#[]⟩,iT 2] 50)) w.heap.size w1.heap.size 1 1 [(⟨#[97]⟩,1,1,⟨#[]⟩,2)]:=by
    have:=F6 (base:=w.heap.size) (e:=50) (size:=5) w1 #[.string ⟨#[97]⟩,iT 1,iT 1,.string ⟨#[]⟩,iT 2] 1 bn.o.size (by unfold maxLen;omega) rfl;exact ⟨by simpa [aC,aX] using this,rfl,gN (ch bA)⟩
   go_wp2_with fail
   obtain ⟨wl,cd⟩:=aG (w1.alloc (.cells #[.string ⟨#[97]⟩,iT 1,iT 1,.string ⟨#[]⟩,iT 2] 50));rw [← cd] at kB oN ⊢;obtain ⟨gl,bQ⟩:=aG w1.heap.size;obtain ⟨LL,bW⟩:∃LL:List ae,LL=[(⟨#[97]⟩,1,1,⟨#[]⟩,2)]:=⟨_,rfl⟩;have bE:X<gl:=by omega
   have D:Eq (fU LL):=by rw [bW];exact ch bA
   rw [← bQ,← bW] at oN;rw [← bQ];have aK:Eq (ag wl w.heap.size gl 1 1 LL):=oN;have bp:Eq (bj wl R a len r P1):=bs.o.below kB;have b5:Eq (w.grownBy wl (some R)):=af bn.o (aT kB);have bq:=cell_later kB x0;have bm:=cell_later kB x1;have bf:∀o,wl.frozen? ⟨X,o,none⟩=false:=fun o=>(kB.frozen (p:=⟨X,o,none⟩) zX).trans (fx o)
   have bb:X<wl.heap.size:=u' zX kB.size;clear cd bQ bW oN kB bA bL bs bn bO x0 x1 fx zX bw bg;refine (uq _ 1 1 LL wl aK.o.entsAt).mono ?_;rintro e wr ⟨rfl,ar⟩;obtain ⟨M,hM⟩:∃M:Int,M=((du LL:Nat):Int):=⟨_,rfl⟩;have cN:0≤M:=by omega
   have cH:M<65536:=by have:=ml LL;omega
   rw [← hM];clear hM;obtain ⟨Y,hY⟩:=aG wr.heap.size;obtain ⟨W,hW⟩:=aG (wr.alloc (.cells #[sL gl 1 1,iT M] 63));have kW:Bl wr W:=by rw [hW];exact bZ
   have kk:=ar.trans (kW.mono ar.size);have S0:Eq (de w W R a len r P1 X Y gl 1 1 M LL):=⟨bp.o.below kk,af b5.o (aT kk),⟨_,cell_later kk bq⟩,⟨_,cell_later kk bm⟩,(fun o=>(kk.frozen (p:=⟨X,o,none⟩) bb).trans (bf o)),by rw [hW,hY];simp,by rw [hW,hY];simp,(fun o=>by rw [hW,hY];exact Hh wr _ _ o),aK.o.below kk,cm,by have:=b5.o.size;have:=ar.size;omega,c6.o,by have:=ar.size;omega,bE,by have:=aK.o.lt.2;have:=ar.size;omega,bx.o⟩;have bS:=S0.o.ltY;go_wp2_with fail
   rw [← hW,← hY];clear hW hY kW kk ar bq bm bf bb bp b5 aK bS;refine (cu R P1 a len r _ W S0.o.rd (by omega) (by omega)).mono ?_;rintro e w5 ⟨qk,rfl,b7,R5,g5⟩;have S5:Eq (de w w5 R a len r (P1+1) X Y gl 1 1 M LL):=S0.o.read g5 R5;obtain ⟨k,hk⟩:=Gq b7.1;subst hk;have aq:k<1:=by have:=b7.2 (by omega);omega
   have ce:(k:Int)<((1:Nat):Int):=by omega
   have ca:(k:Int)<1:=by omega
   clear R5 g5 S0 b7;go_wp2_with fail
   refine (cu R (P1+1) a len r _ w5 S5.o.rd (by omega) (by omega)).mono ?_;rintro e w6 ⟨z,rfl,hz,R6,g6⟩;have U:Eq (de w w6 R a len r (P1+1+1) X Y gl 1 1 M LL):=S5.o.read g6 R6;clear R6 g6 S5 hz;by_cases z0:z=0
   · subst z0;go_wp2_with fail
     have y:=U.o.below (Below.refl _ w6).drew;have aV:True:=trivial;refine wp_region_held_drew (S:=(fun w'=>Y<w'.heap.size)) (by kernel_rfl) (y.ltY) (fun m=>?_);generalize w6.drew=u at y m ⊢;refine aP 0 1 m ?_;refine aP 2 1 m ?_;refine lg 1 3 (fun K hK=>?_) fun K hK=>?_
     · have az:=y.y1;go_simp;clear az;refine hK.o _ _ (y.ltY) fun m=>?_
       (try go_frame);refine aQ 3 fun K hK=>?_
       go_simp;have kc:Bl u (u.alloc (.cells ((([1,-1,65536]:List Int).map iT).toArray) 3)):=bZ;have d:=y.below kc;have cb:=dH u 3 [1,-1,65536] Nx (by intro s hs;simp only [FF,F4,or_false] at hs;rcases hs with rfl | rfl | rfl <;> (unfold Nx;decide));have bR:u.heap.size≠R:=by have:=y.rd.lt;omega
       have bl:u.heap.size<(u.alloc (.cells ((([1,-1,65536]:List Int).map iT).toArray) 3)).heap.size:=by simp
       simp only [Gx,GO] at kc d cb bl;generalize u.heap.size=gb at cb bR bl ⊢;generalize u.alloc (.cells #[iT 1,iT (-1),iT 65536] 3)=wb at d cb bl ⊢;refine hK.o _ _ (d.ltY) fun m=>?_
       (try go_frame);refine aQ 4 fun K hK=>?_
       go_simp;refine (dV Nx R _ a len r gb 0 3 3 _ d.rd (by omega) (by omega) (by omega) bR bl cb).mono ?_;rintro e w8 ⟨zn,rfl,av,R8,O⟩;have kn:=d.read O R8;obtain ⟨b0,b1⟩:=av;have aA:Eq (IntKind.i64.wrap (M+zn)=M+zn):=by unfold Eq;simp [IntKind.wrap,IntKind.bits,IntKind.signed];omega
       go_wp2_with fail
       refine hK.o _ _ (kn.ltY) fun m=>?_
       (try go_frame);refine aP 5 2 m ?_;refine aQ 7 fun K hK=>?_
       have ay:=kn.y1;have ax:=kn.fy 1;go_simp;have b:=kn.mask (IntKind.i64.wrap (M+zn));clear ay ax;refine hK.o _ _ (b.ltY) fun m=>?_
       (try go_frame);refine dN ?_;generalize w8.setCell ⟨Y,1,none⟩ (iT (IntKind.i64.wrap (M+zn)))=w9 at b ⊢;rw [aA.o] at b;have a5:=b.y0;have ab:=b.y1;have a6:=b.ltY;obtain ⟨a4,A⟩:=b.x0;obtain ⟨a7,C⟩:=b.x1;have a3:=b.fx 0;have aa:=b.fx 1;have a0:=b.nxy;have f:Eq (de w _ R a len r _ X Y gl 1 1 (M+zn) LL):=b;go_wp2;refine bodyPost_ret (v:=.agg #[sL gl 1 1,iT (M+zn)]) (by simp [results,Tryz.results138,go_sem,A,C]) rfl ?_;exact f.o.done (by omega) D.o (FW (by omega)) (by omega) _ _
     · go_simp;have kc:Bl u (u.alloc (.cells ((([1,-1,65536]:List Int).map iT).toArray) 3)):=bZ;have d:=y.below kc;have cb:=dH u 3 [1,-1,65536] Nx (by intro s hs;simp only [FF,F4,or_false] at hs;rcases hs with rfl | rfl | rfl <;> (unfold Nx;decide));have bR:u.heap.size≠R:=by have:=y.rd.lt;omega
       have bl:u.heap.size<(u.alloc (.cells ((([1,-1,65536]:List Int).map iT).toArray) 3)).heap.size:=by simp
       simp only [Gx,GO] at kc d cb bl;generalize u.heap.size=gb at cb bR bl ⊢;generalize u.alloc (.cells #[iT 1,iT (-1),iT 65536] 3)=wb at d cb bl ⊢;refine hK.o _ _ (d.ltY) fun m=>?_
       (try go_frame);refine lg 1 4 (fun K hK=>?_) fun K hK=>?_
       · have az:=d.y1;go_simp;clear az;refine hK.o _ _ (d.ltY) fun m=>?_
         (try go_frame);refine aQ 4 fun K hK=>?_
         go_simp;refine (dV Nx R _ a len r gb 0 3 3 _ d.rd (by omega) (by omega) (by omega) bR bl cb).mono ?_;rintro e w8 ⟨zn,rfl,av,R8,O⟩;have kn:=d.read O R8;obtain ⟨b0,b1⟩:=av;have aA:Eq (IntKind.i64.wrap (M+zn)=M+zn):=by unfold Eq;simp [IntKind.wrap,IntKind.bits,IntKind.signed];omega
         go_wp2_with fail
         refine hK.o _ _ (kn.ltY) fun m=>?_
         (try go_frame);refine aP 5 2 m ?_;refine aQ 7 fun K hK=>?_
         have ay:=kn.y1;have ax:=kn.fy 1;go_simp;have b:=kn.mask (IntKind.i64.wrap (M+zn));clear ay ax;refine hK.o _ _ (b.ltY) fun m=>?_
         (try go_frame);refine dN ?_;generalize w8.setCell ⟨Y,1,none⟩ (iT (IntKind.i64.wrap (M+zn)))=w9 at b ⊢;rw [aA.o] at b;have a5:=b.y0;have ab:=b.y1;have a6:=b.ltY;obtain ⟨a4,A⟩:=b.x0;obtain ⟨a7,C⟩:=b.x1;have a3:=b.fx 0;have aa:=b.fx 1;have a0:=b.nxy;have f:Eq (de w _ R a len r _ X Y gl 1 1 (M+zn) LL):=b;go_wp2;refine bodyPost_ret (v:=.agg #[sL gl 1 1,iT (M+zn)]) (by simp [results,Tryz.results138,go_sem,A,C]) rfl ?_;exact f.o.done (by omega) D.o (FW (by omega)) (by omega) _ _
       · go_simp;refine (dV Nx R _ a len r gb 0 3 3 _ d.rd (by omega) (by omega) (by omega) bR bl cb).mono ?_;rintro e w8 ⟨zn,rfl,av,R8,O⟩;have kn:=d.read O R8;obtain ⟨b0,b1⟩:=av;have aA:Eq (IntKind.i64.wrap (M+zn)=M+zn):=by unfold Eq;simp [IntKind.wrap,IntKind.bits,IntKind.signed];omega
         go_wp2_with fail
         refine hK.o _ _ (kn.ltY) fun m=>?_
         (try go_frame);refine aQ 1 fun K hK=>?_
         have az:=kn.y1;go_simp;clear az;refine hK.o _ _ (kn.ltY) fun m=>?_
         (try go_frame);refine aP 5 2 m ?_;refine aQ 7 fun K hK=>?_
         have ay:=kn.y1;have ax:=kn.fy 1;go_simp;have b:=kn.mask (IntKind.i64.wrap (M+zn));clear ay ax;refine hK.o _ _ (b.ltY) fun m=>?_
         (try go_frame);refine dN ?_;generalize w8.setCell ⟨Y,1,none⟩ (iT (IntKind.i64.wrap (M+zn)))=w9 at b ⊢;rw [aA.o] at b;have a5:=b.y0;have ab:=b.y1;have a6:=b.ltY;obtain ⟨a4,A⟩:=b.x0;obtain ⟨a7,C⟩:=b.x1;have a3:=b.fx 0;have aa:=b.fx 1;have a0:=b.nxy;have f:Eq (de w _ R a len r _ X Y gl 1 1 (M+zn) LL):=b;go_wp2;refine bodyPost_ret (v:=.agg #[sL gl 1 1,iT (M+zn)]) (by simp [results,Tryz.results138,go_sem,A,C]) rfl ?_;exact f.o.done (by omega) D.o (FW (by omega)) (by omega) _ _
   by_cases z1:z=1
   · subst z1;go_wp2_with fail
     have y:=U.o.below (Below.refl _ w6).drew;have aV:True:=trivial;refine wp_region_held_drew (S:=(fun w'=>w'.cell? ⟨Y,0,none⟩=some (sL gl 1 1)∧Y<w'.heap.size∧gl<w'.heap.size)) (by kernel_rfl) (⟨y.y0,y.ltY,y.own.lt.2⟩) (fun m=>?_);generalize w6.drew=u at y m ⊢;refine aP 0 10 m ?_;refine aQ 10 fun K hK=>?_
     obtain ⟨F,E,J,H,I,N,e0,e1,e2,e3,e4⟩:=y.at D.o aq;go_simp;clear e0 e1 e2 e3 e4;refine hK.o _ _ (⟨y.y0,y.ltY,y.own.lt.2⟩) fun m=>?_
     (try go_frame);refine aQ 11 fun K hK=>?_
     go_simp;refine (eQ R _ a len r _ _ _ _ _ _ y.rd (by omega) N).mono ?_;rintro e cx ⟨cz,cO,cr,bc,cK,cE,rfl,bH,bz,cj,bK⟩;have aB:=y.read bK bz;go_wp2_with fail
     refine hK.o _ _ (⟨aB.y0,aB.ltY,aB.own.lt.2⟩) fun m=>?_
     (try go_frame);refine aQ 12 fun K hK=>?_
     go_simp;refine (eQ R _ a len r _ _ _ _ _ _ aB.rd (by omega) bH).mono ?_;rintro e cJ ⟨cP,cw,cy,ct,cL,cT,rfl,bI,bG,c9,bN⟩;have aD:=aB.read bN bG;go_wp2_with fail
     refine hK.o _ _ (⟨aD.y0,aD.ltY,aD.own.lt.2⟩) fun m=>?_
     (try go_frame);refine aQ 13 fun K hK=>?_
     go_simp;refine (eQ R _ a len r _ _ _ _ _ _ aD.rd (by omega) bI).mono ?_;rintro e bM ⟨aN,aJ,aR,aI,aU,cA,rfl,br,bD,ck,bP⟩;have Q:=aD.read bP bD;go_wp2_with fail
     refine hK.o _ _ (⟨Q.y0,Q.ltY,Q.own.lt.2⟩) fun m=>?_
     (try go_frame);refine aP 14 1 m ?_;refine aQ 15 fun K hK=>?_
     obtain ⟨x0,x1,x2,x3,x4⟩:=Q.own.entsAt.cells _ rfl k (by rw [Q.own.len];exact aq);simp only [FG] at x0 x1 x2 x3 x4;have y0:=Q.own.owns.frozenAt (k*5);have y1:=Q.own.owns.frozenAt (k*5+1);have y2:=Q.own.owns.frozenAt (k*5+2);have y3:=Q.own.owns.frozenAt (k*5+3);have y4:=Q.own.owns.frozenAt (k*5+4);go_simp;have b:=Q.put aq aN aJ aR aI aU (gk br);clear x0 x1 x2 x3 x4 y0 y1 y2 y3 y4;refine hK.o _ _ (⟨b.y0,b.ltY,b.own.lt.2⟩) fun m=>?_
     (try go_frame);refine dN ?_;generalize ((((bM.setCell ⟨gl,k*5,none⟩ (.string aN)).setCell ⟨gl,k*5+1,none⟩ (iT aR)).setCell ⟨gl,k*5+2,none⟩ (iT aI)).setCell ⟨gl,k*5+3,none⟩ (.string aJ)).setCell ⟨gl,k*5+4,none⟩ (iT aU)=w9 at b ⊢;have a9:Eq (fU (LL.set k (aN,aR,aI,aJ,aU))):=vH D.o br;have a5:=b.y0;have ab:=b.y1;have a6:=b.ltY;obtain ⟨a4,A⟩:=b.x0;obtain ⟨a7,C⟩:=b.x1;have a3:=b.fx 0;have aa:=b.fx 1;have a0:=b.nxy;have f:Eq (de w _ R a len r _ X Y gl 1 1 M (LL.set k (aN,aR,aI,aJ,aU))):=b;go_wp2;refine bodyPost_ret (v:=.agg #[sL gl 1 1,iT M]) (by simp [results,Tryz.results138,go_sem,A,C]) rfl ?_;exact f.o.done (by omega) a9.o (FW (by omega)) (by omega) _ _
   by_cases z2:z=2
   · subst z2;go_wp2_with fail
     have y:=U.o.below (Below.refl _ w6).drew;have aV:True:=trivial;refine wp_region_held_drew (S:=(fun w'=>Y<w'.heap.size)) (by kernel_rfl) (y.ltY) (fun m=>?_);generalize w6.drew=u at y m ⊢;refine aP 0 1 m ?_;refine aP 2 1 m ?_;refine aP 4 1 m ?_;refine lg 1 3 (fun K hK=>?_) fun K hK=>?_
     · have B:=y.y0;go_simp;clear B;refine hK.o _ _ (y.ltY) fun m=>?_
       (try go_frame);refine aQ 3 fun K hK=>?_
       have B:=y.y0;go_simp;clear B;refine hK.o _ _ (y.ltY) fun m=>?_
       (try go_frame);refine aP 5 1 m ?_;refine aQ 6 fun K hK=>?_
       obtain ⟨F,E,J,H,I,N,e0,e1,e2,e3,e4⟩:=y.at D.o aq;go_simp;clear e0 e1 e2 e3 e4;refine hK.o _ _ (y.ltY) fun m=>?_
       (try go_frame);refine aQ 7 fun K hK=>?_
       go_simp;have kc:Bl u (u.alloc (.cells #[.string F,iT J,iT H,.string E,iT I] 50)):=bZ;have d:=y.below kc;have rN:ah (u.alloc (.cells #[.string F,iT J,iT H,.string E,iT I] 50)) (some ⟨u.heap.size,0,none⟩) 1 1 [(F,J,H,E,I)]:=df u _ _ _ _ _ (gk N);generalize u.heap.size=gb at rN ⊢;generalize u.alloc (.cells #[.string F,iT J,iT H,.string E,iT I] 50)=wb at d rN ⊢;refine hK.o _ _ (d.ltY) fun m=>?_
       (try go_frame);refine aQ 8 fun K hK=>?_
       refine aw rfl (.tmp 50) (.tmp 56) 28 rfl gl 50 i0 _ 5 56 Tryz.underlying28 hi aZ aY b3 rfl (Ga 4) _ _ _ rfl d.own.rebase.owns ⟨gb,0,none⟩ 1 1 (aC [(F,J,H,E,I)]) rfl rfl (bC rN) (aO _) ?_ ?_ ?_ ?_
       · unfold maxLen;omega
       · omega
       · exact Hp d.own.lt.2
       intro v8 w8 T Z ai;obtain ⟨O,c8,rfl⟩:=aH T ai;have t:wb.grownBy w8 (some gl):=Z;refine hK.o _ _ (u' d.ltY Z.size) fun m=>?_
       (try go_frame);refine aP 9 1 m ?_;refine aQ 10 fun K hK=>?_
       have al:ag w8 gl O (1+1) c8 (LL++[(F,J,H,E,I)]):=⟨by rw [aL];exact T,by simp [d.own.len],gN (cQ D.o (ch N))⟩;have b:=d.grewTo t al (by omega);have B:=(an t (x:=⟨Y,0,none⟩) d.ltY (Ne.symm d.ngy)).trans d.y0;have aj:=(bo t (x:=⟨Y,0,none⟩) d.ltY (fun e=>d.ngy (by cases e;rfl))).trans (d.fy 0);go_simp;clear B aj;refine hK.o _ _ (b.ltY) fun m=>?_
       (try go_frame);refine dN ?_;generalize w8.setCell ⟨Y,0,none⟩ (sL O (1+1) c8)=w9 at b ⊢;have a9:Eq (fU (LL++[(F,J,H,E,I)])):=cQ D.o (ch N);have a5:=b.y0;have ab:=b.y1;have a6:=b.ltY;obtain ⟨a4,A⟩:=b.x0;obtain ⟨a7,C⟩:=b.x1;have a3:=b.fx 0;have aa:=b.fx 1;have a0:=b.nxy;have f:Eq (de w _ R a len r _ X Y O (1+1) c8 M (LL++[(F,J,H,E,I)])):=b;go_wp2;refine bodyPost_ret (v:=.agg #[sL O (1+1) c8,iT M]) (by simp [results,Tryz.results138,go_sem,A,C]) rfl ?_;exact f.o.done (by omega) a9.o (FW (by omega)) (by omega) _ _
     · have B:=y.y0;go_simp;clear B;refine hK.o _ _ (y.ltY) fun m=>?_
       (try go_frame);refine aP 5 1 m ?_;refine lg 1 6 (fun K hK=>?_) fun K hK=>?_
       · have B:=y.y0;go_simp;clear B;refine hK.o _ _ (y.ltY) fun m=>?_
         (try go_frame);refine aQ 6 fun K hK=>?_
         obtain ⟨F,E,J,H,I,N,e0,e1,e2,e3,e4⟩:=y.at D.o aq;go_simp;clear e0 e1 e2 e3 e4;refine hK.o _ _ (y.ltY) fun m=>?_
         (try go_frame);refine aQ 7 fun K hK=>?_
         go_simp;have kc:Bl u (u.alloc (.cells #[.string F,iT J,iT H,.string E,iT I] 50)):=bZ;have d:=y.below kc;have rN:ah (u.alloc (.cells #[.string F,iT J,iT H,.string E,iT I] 50)) (some ⟨u.heap.size,0,none⟩) 1 1 [(F,J,H,E,I)]:=df u _ _ _ _ _ (gk N);generalize u.heap.size=gb at rN ⊢;generalize u.alloc (.cells #[.string F,iT J,iT H,.string E,iT I] 50)=wb at d rN ⊢;refine hK.o _ _ (d.ltY) fun m=>?_
         (try go_frame);refine aQ 8 fun K hK=>?_
         refine aw rfl (.tmp 50) (.tmp 56) 28 rfl gl 50 i0 _ 5 56 Tryz.underlying28 hi aZ aY b3 rfl (Ga 4) _ _ _ rfl d.own.rebase.owns ⟨gb,0,none⟩ 1 1 (aC [(F,J,H,E,I)]) rfl rfl (bC rN) (aO _) ?_ ?_ ?_ ?_
         · unfold maxLen;omega
         · omega
         · exact Hp d.own.lt.2
         intro v8 w8 T Z ai;obtain ⟨O,c8,rfl⟩:=aH T ai;have t:wb.grownBy w8 (some gl):=Z;refine hK.o _ _ (u' d.ltY Z.size) fun m=>?_
         (try go_frame);refine aP 9 1 m ?_;refine aQ 10 fun K hK=>?_
         have al:ag w8 gl O (1+1) c8 (LL++[(F,J,H,E,I)]):=⟨by rw [aL];exact T,by simp [d.own.len],gN (cQ D.o (ch N))⟩;have b:=d.grewTo t al (by omega);have B:=(an t (x:=⟨Y,0,none⟩) d.ltY (Ne.symm d.ngy)).trans d.y0;have aj:=(bo t (x:=⟨Y,0,none⟩) d.ltY (fun e=>d.ngy (by cases e;rfl))).trans (d.fy 0);go_simp;clear B aj;refine hK.o _ _ (b.ltY) fun m=>?_
         (try go_frame);refine dN ?_;generalize w8.setCell ⟨Y,0,none⟩ (sL O (1+1) c8)=w9 at b ⊢;have a9:Eq (fU (LL++[(F,J,H,E,I)])):=cQ D.o (ch N);have a5:=b.y0;have ab:=b.y1;have a6:=b.ltY;obtain ⟨a4,A⟩:=b.x0;obtain ⟨a7,C⟩:=b.x1;have a3:=b.fx 0;have aa:=b.fx 1;have a0:=b.nxy;have f:Eq (de w _ R a len r _ X Y O (1+1) c8 M (LL++[(F,J,H,E,I)])):=b;go_wp2;refine bodyPost_ret (v:=.agg #[sL O (1+1) c8,iT M]) (by simp [results,Tryz.results138,go_sem,A,C]) rfl ?_;exact f.o.done (by omega) a9.o (FW (by omega)) (by omega) _ _
       · obtain ⟨F,E,J,H,I,N,e0,e1,e2,e3,e4⟩:=y.at D.o aq;go_simp;clear e0 e1 e2 e3 e4;refine hK.o _ _ (y.ltY) fun m=>?_
         (try go_frame);refine lg 1 7 (fun K hK=>?_) fun K hK=>?_
         · have B:=y.y0;go_simp;clear B;refine hK.o _ _ (y.ltY) fun m=>?_
           (try go_frame);refine aQ 7 fun K hK=>?_
           go_simp;have kc:Bl u (u.alloc (.cells #[.string F,iT J,iT H,.string E,iT I] 50)):=bZ;have d:=y.below kc;have rN:ah (u.alloc (.cells #[.string F,iT J,iT H,.string E,iT I] 50)) (some ⟨u.heap.size,0,none⟩) 1 1 [(F,J,H,E,I)]:=df u _ _ _ _ _ (gk N);generalize u.heap.size=gb at rN ⊢;generalize u.alloc (.cells #[.string F,iT J,iT H,.string E,iT I] 50)=wb at d rN ⊢;refine hK.o _ _ (d.ltY) fun m=>?_
           (try go_frame);refine aQ 8 fun K hK=>?_
           refine aw rfl (.tmp 50) (.tmp 56) 28 rfl gl 50 i0 _ 5 56 Tryz.underlying28 hi aZ aY b3 rfl (Ga 4) _ _ _ rfl d.own.rebase.owns ⟨gb,0,none⟩ 1 1 (aC [(F,J,H,E,I)]) rfl rfl (bC rN) (aO _) ?_ ?_ ?_ ?_
           · unfold maxLen;omega
           · omega
           · exact Hp d.own.lt.2
           intro v8 w8 T Z ai;obtain ⟨O,c8,rfl⟩:=aH T ai;have t:wb.grownBy w8 (some gl):=Z;refine hK.o _ _ (u' d.ltY Z.size) fun m=>?_
           (try go_frame);refine aP 9 1 m ?_;refine aQ 10 fun K hK=>?_
           have al:ag w8 gl O (1+1) c8 (LL++[(F,J,H,E,I)]):=⟨by rw [aL];exact T,by simp [d.own.len],gN (cQ D.o (ch N))⟩;have b:=d.grewTo t al (by omega);have B:=(an t (x:=⟨Y,0,none⟩) d.ltY (Ne.symm d.ngy)).trans d.y0;have aj:=(bo t (x:=⟨Y,0,none⟩) d.ltY (fun e=>d.ngy (by cases e;rfl))).trans (d.fy 0);go_simp;clear B aj;refine hK.o _ _ (b.ltY) fun m=>?_
           (try go_frame);refine dN ?_;generalize w8.setCell ⟨Y,0,none⟩ (sL O (1+1) c8)=w9 at b ⊢;have a9:Eq (fU (LL++[(F,J,H,E,I)])):=cQ D.o (ch N);have a5:=b.y0;have ab:=b.y1;have a6:=b.ltY;obtain ⟨a4,A⟩:=b.x0;obtain ⟨a7,C⟩:=b.x1;have a3:=b.fx 0;have aa:=b.fx 1;have a0:=b.nxy;have f:Eq (de w _ R a len r _ X Y O (1+1) c8 M (LL++[(F,J,H,E,I)])):=b;go_wp2;refine bodyPost_ret (v:=.agg #[sL O (1+1) c8,iT M]) (by simp [results,Tryz.results138,go_sem,A,C]) rfl ?_;exact f.o.done (by omega) a9.o (FW (by omega)) (by omega) _ _
         · go_simp;have kc:Bl u (u.alloc (.cells #[.string F,iT J,iT H,.string E,iT I] 50)):=bZ;have d:=y.below kc;have rN:ah (u.alloc (.cells #[.string F,iT J,iT H,.string E,iT I] 50)) (some ⟨u.heap.size,0,none⟩) 1 1 [(F,J,H,E,I)]:=df u _ _ _ _ _ (gk N);generalize u.heap.size=gb at rN ⊢;generalize u.alloc (.cells #[.string F,iT J,iT H,.string E,iT I] 50)=wb at d rN ⊢;refine hK.o _ _ (d.ltY) fun m=>?_
           (try go_frame);refine aQ 1 fun K hK=>?_
           have B:=d.y0;go_simp;clear B;refine hK.o _ _ (d.ltY) fun m=>?_
           (try go_frame);refine aQ 8 fun K hK=>?_
           refine aw rfl (.tmp 50) (.tmp 56) 28 rfl gl 50 i0 _ 5 56 Tryz.underlying28 hi aZ aY b3 rfl (Ga 4) _ _ _ rfl d.own.rebase.owns ⟨gb,0,none⟩ 1 1 (aC [(F,J,H,E,I)]) rfl rfl (bC rN) (aO _) ?_ ?_ ?_ ?_
           · unfold maxLen;omega
           · omega
           · exact Hp d.own.lt.2
           intro v8 w8 T Z ai;obtain ⟨O,c8,rfl⟩:=aH T ai;have t:wb.grownBy w8 (some gl):=Z;refine hK.o _ _ (u' d.ltY Z.size) fun m=>?_
           (try go_frame);refine aP 9 1 m ?_;refine aQ 10 fun K hK=>?_
           have al:ag w8 gl O (1+1) c8 (LL++[(F,J,H,E,I)]):=⟨by rw [aL];exact T,by simp [d.own.len],gN (cQ D.o (ch N))⟩;have b:=d.grewTo t al (by omega);have B:=(an t (x:=⟨Y,0,none⟩) d.ltY (Ne.symm d.ngy)).trans d.y0;have aj:=(bo t (x:=⟨Y,0,none⟩) d.ltY (fun e=>d.ngy (by cases e;rfl))).trans (d.fy 0);go_simp;clear B aj;refine hK.o _ _ (b.ltY) fun m=>?_
           (try go_frame);refine dN ?_;generalize w8.setCell ⟨Y,0,none⟩ (sL O (1+1) c8)=w9 at b ⊢;have a9:Eq (fU (LL++[(F,J,H,E,I)])):=cQ D.o (ch N);have a5:=b.y0;have ab:=b.y1;have a6:=b.ltY;obtain ⟨a4,A⟩:=b.x0;obtain ⟨a7,C⟩:=b.x1;have a3:=b.fx 0;have aa:=b.fx 1;have a0:=b.nxy;have f:Eq (de w _ R a len r _ X Y O (1+1) c8 M (LL++[(F,J,H,E,I)])):=b;go_wp2;refine bodyPost_ret (v:=.agg #[sL O (1+1) c8,iT M]) (by simp [results,Tryz.results138,go_sem,A,C]) rfl ?_;exact f.o.done (by omega) a9.o (FW (by omega)) (by omega) _ _
   by_cases z3:z=3
   · subst z3;have y:=(U.o.below ((Below.refl w6.heap.size w6).alloc (Fv _) (.cells #[] 50)));have oE:ag (w6.alloc (.cells #[] 50)) w.heap.size w6.heap.size 0 0 []:=bV w6 _ U.o.gr.size;have b:=y.ents oE U.o.ltX (by have:=U.o.ltY;omega);have bk:=U.o.y0;have be:=U.o.fy 0;have b6:=U.o.ltY;rw [World.setCell_alloc_past _ _ _ _ b6] at b;clear y oE;go_upto_region 17 with fail
     clear bk be b6 U;generalize w6.heap.size=g9 at b ⊢;generalize (w6.setCell ⟨Y,0,none⟩ (sL g9 0 0)).alloc (.cells #[] 50)=w9 at b ⊢;have a5:=b.y0;have ab:=b.y1;have a6:=b.ltY;obtain ⟨a4,A⟩:=b.x0;obtain ⟨a7,C⟩:=b.x1;have a3:=b.fx 0;have aa:=b.fx 1;have a0:=b.nxy;have f:Eq (de w _ R a len r _ X Y g9 0 0 M []):=b;go_wp2;refine bodyPost_ret (v:=.agg #[sL g9 0 0,iT M]) (by simp [results,Tryz.results138,go_sem,A,C]) rfl ?_;exact f.o.done (by omega) (fun e he=>by cases he) (FW (by omega)) (by omega) _ _
   by_cases z4:z=4
   · subst z4;have b:=U.o.mask 65535;have bk:=U.o.y0;have cD:=U.o.y1;have be:=U.o.fy 1;have b6:=U.o.ltY;have cs:=U.o.ltX;obtain ⟨cI,bJ⟩:=U.o.x0;obtain ⟨cC,bc⟩:=U.o.x1;have cv:=U.o.fx 0;have cV:=U.o.fx 1;have a0:=U.o.nxy;have f:Eq (de w _ R a len r _ X Y gl 1 1 65535 LL):=b;clear b;go_wp2;refine bodyPost_ret (v:=.agg #[sL gl 1 1,iT 65535]) (by simp [results,Tryz.results138,go_sem,bJ,bc]) rfl ?_;exact f.o.done (by omega) D.o (FW (by omega)) (by omega) _ _
   have k6:=U.o;have a5:=k6.y0;have ab:=k6.y1;have a6:=k6.ltY;obtain ⟨a4,A⟩:=k6.x0;obtain ⟨a7,C⟩:=k6.x1;have a3:=k6.fx 0;have aa:=k6.fx 1;have a0:=k6.nxy;have f:Eq (de w _ R a len r _ X Y gl 1 1 M LL):=k6;go_wp2;refine bodyPost_ret (v:=.agg #[sL gl 1 1,iT M]) (by simp [results,Tryz.results138,go_sem,A,C]) rfl ?_;exact f.o.done (by omega) D.o (FW (by omega)) (by omega) _ _
 · have cZ:¬((n:Nat):Int)=0:=by omega
   have d1:1≤n:=by omega
   have bE:X<g:=by omega
   have D:Eq (fU L):=bO.o;have aK:Eq (ag w1 w.heap.size g n c L):=bL.o;have bp:Eq (bj w1 R a len r P1):=bs.o;have b5:Eq (w.grownBy w1 (some R)):=bn.o;have bq:=x0;have bm:=x1;have bf:=fx;have bb:=zX;clear bL bs bn bO x0 x1 fx zX bw bg;go_wp2_with fail
   refine (uq _ n c L w1 aK.o.entsAt).mono ?_;rintro e wr ⟨rfl,ar⟩;obtain ⟨M,hM⟩:∃M:Int,M=((du L:Nat):Int):=⟨_,rfl⟩;have cN:0≤M:=by omega
   have cH:M<65536:=by have:=ml L;omega
   rw [← hM];clear hM;obtain ⟨Y,hY⟩:=aG wr.heap.size;obtain ⟨W,hW⟩:=aG (wr.alloc (.cells #[sL g n c,iT M] 63));have kW:Bl wr W:=by rw [hW];exact bZ
   have kk:=ar.trans (kW.mono ar.size);have S0:Eq (de w W R a len r P1 X Y g n c M L):=⟨bp.o.below kk,af b5.o (aT kk),⟨_,cell_later kk bq⟩,⟨_,cell_later kk bm⟩,(fun o=>(kk.frozen (p:=⟨X,o,none⟩) bb).trans (bf o)),by rw [hW,hY];simp,by rw [hW,hY];simp,(fun o=>by rw [hW,hY];exact Hh wr _ _ o),aK.o.below kk,cm,by have:=b5.o.size;have:=ar.size;omega,c6.o,by have:=ar.size;omega,bE,by have:=aK.o.lt.2;have:=ar.size;omega,bx.o⟩;have bS:=S0.o.ltY;go_wp2_with fail
   rw [← hW,← hY];clear hW hY kW kk ar bq bm bf bb bp b5 aK bS;refine (cu R P1 a len r _ W S0.o.rd (by omega) (by omega)).mono ?_;rintro e w5 ⟨qk,rfl,b7,R5,g5⟩;have S5:Eq (de w w5 R a len r (P1+1) X Y g n c M L):=S0.o.read g5 R5;obtain ⟨k,hk⟩:=Gq b7.1;subst hk;have aq:k<n:=by have:=b7.2 (by omega);omega
   have ce:(k:Int)<((n:Nat):Int):=by omega
   have ca:(k:Int)<n:=by omega
   clear R5 g5 S0 b7;go_wp2_with fail
   refine (cu R (P1+1) a len r _ w5 S5.o.rd (by omega) (by omega)).mono ?_;rintro e w6 ⟨z,rfl,hz,R6,g6⟩;have U:Eq (de w w6 R a len r (P1+1+1) X Y g n c M L):=S5.o.read g6 R6;clear R6 g6 S5 hz;by_cases z0:z=0
   · subst z0;go_wp2_with fail
     have y:=U.o.below (Below.refl _ w6).drew;have aV:True:=trivial;refine wp_region_held_drew (S:=(fun w'=>Y<w'.heap.size)) (by kernel_rfl) (y.ltY) (fun m=>?_);generalize w6.drew=u at y m ⊢;refine aP 0 1 m ?_;refine aP 2 1 m ?_;refine lg 1 3 (fun K hK=>?_) fun K hK=>?_
     · have az:=y.y1;go_simp;clear az;refine hK.o _ _ (y.ltY) fun m=>?_
       (try go_frame);refine aQ 3 fun K hK=>?_
       go_simp;have kc:Bl u (u.alloc (.cells ((([1,-1,65536]:List Int).map iT).toArray) 3)):=bZ;have d:=y.below kc;have cb:=dH u 3 [1,-1,65536] Nx (by intro s hs;simp only [FF,F4,or_false] at hs;rcases hs with rfl | rfl | rfl <;> (unfold Nx;decide));have bR:u.heap.size≠R:=by have:=y.rd.lt;omega
       have bl:u.heap.size<(u.alloc (.cells ((([1,-1,65536]:List Int).map iT).toArray) 3)).heap.size:=by simp
       simp only [Gx,GO] at kc d cb bl;generalize u.heap.size=gb at cb bR bl ⊢;generalize u.alloc (.cells #[iT 1,iT (-1),iT 65536] 3)=wb at d cb bl ⊢;refine hK.o _ _ (d.ltY) fun m=>?_
       (try go_frame);refine aQ 4 fun K hK=>?_
       go_simp;refine (dV Nx R _ a len r gb 0 3 3 _ d.rd (by omega) (by omega) (by omega) bR bl cb).mono ?_;rintro e w8 ⟨zn,rfl,av,R8,O⟩;have kn:=d.read O R8;obtain ⟨b0,b1⟩:=av;have aA:Eq (IntKind.i64.wrap (M+zn)=M+zn):=by unfold Eq;simp [IntKind.wrap,IntKind.bits,IntKind.signed];omega
       go_wp2_with fail
       refine hK.o _ _ (kn.ltY) fun m=>?_
       (try go_frame);refine aP 5 2 m ?_;refine aQ 7 fun K hK=>?_
       have ay:=kn.y1;have ax:=kn.fy 1;go_simp;have b:=kn.mask (IntKind.i64.wrap (M+zn));clear ay ax;refine hK.o _ _ (b.ltY) fun m=>?_
       (try go_frame);refine dN ?_;generalize w8.setCell ⟨Y,1,none⟩ (iT (IntKind.i64.wrap (M+zn)))=w9 at b ⊢;rw [aA.o] at b;have a5:=b.y0;have ab:=b.y1;have a6:=b.ltY;obtain ⟨a4,A⟩:=b.x0;obtain ⟨a7,C⟩:=b.x1;have a3:=b.fx 0;have aa:=b.fx 1;have a0:=b.nxy;have f:Eq (de w _ R a len r _ X Y g n c (M+zn) L):=b;go_wp2;refine bodyPost_ret (v:=.agg #[sL g n c,iT (M+zn)]) (by simp [results,Tryz.results138,go_sem,A,C]) rfl ?_;exact f.o.done (by omega) D.o (FW (by omega)) (by omega) _ _
     · go_simp;have kc:Bl u (u.alloc (.cells ((([1,-1,65536]:List Int).map iT).toArray) 3)):=bZ;have d:=y.below kc;have cb:=dH u 3 [1,-1,65536] Nx (by intro s hs;simp only [FF,F4,or_false] at hs;rcases hs with rfl | rfl | rfl <;> (unfold Nx;decide));have bR:u.heap.size≠R:=by have:=y.rd.lt;omega
       have bl:u.heap.size<(u.alloc (.cells ((([1,-1,65536]:List Int).map iT).toArray) 3)).heap.size:=by simp
       simp only [Gx,GO] at kc d cb bl;generalize u.heap.size=gb at cb bR bl ⊢;generalize u.alloc (.cells #[iT 1,iT (-1),iT 65536] 3)=wb at d cb bl ⊢;refine hK.o _ _ (d.ltY) fun m=>?_
       (try go_frame);refine lg 1 4 (fun K hK=>?_) fun K hK=>?_
       · have az:=d.y1;go_simp;clear az;refine hK.o _ _ (d.ltY) fun m=>?_
         (try go_frame);refine aQ 4 fun K hK=>?_
         go_simp;refine (dV Nx R _ a len r gb 0 3 3 _ d.rd (by omega) (by omega) (by omega) bR bl cb).mono ?_;rintro e w8 ⟨zn,rfl,av,R8,O⟩;have kn:=d.read O R8;obtain ⟨b0,b1⟩:=av;have aA:Eq (IntKind.i64.wrap (M+zn)=M+zn):=by unfold Eq;simp [IntKind.wrap,IntKind.bits,IntKind.signed];omega
         go_wp2_with fail
         refine hK.o _ _ (kn.ltY) fun m=>?_
         (try go_frame);refine aP 5 2 m ?_;refine aQ 7 fun K hK=>?_
         have ay:=kn.y1;have ax:=kn.fy 1;go_simp;have b:=kn.mask (IntKind.i64.wrap (M+zn));clear ay ax;refine hK.o _ _ (b.ltY) fun m=>?_
         (try go_frame);refine dN ?_;generalize w8.setCell ⟨Y,1,none⟩ (iT (IntKind.i64.wrap (M+zn)))=w9 at b ⊢;rw [aA.o] at b;have a5:=b.y0;have ab:=b.y1;have a6:=b.ltY;obtain ⟨a4,A⟩:=b.x0;obtain ⟨a7,C⟩:=b.x1;have a3:=b.fx 0;have aa:=b.fx 1;have a0:=b.nxy;have f:Eq (de w _ R a len r _ X Y g n c (M+zn) L):=b;go_wp2;refine bodyPost_ret (v:=.agg #[sL g n c,iT (M+zn)]) (by simp [results,Tryz.results138,go_sem,A,C]) rfl ?_;exact f.o.done (by omega) D.o (FW (by omega)) (by omega) _ _
       · go_simp;refine (dV Nx R _ a len r gb 0 3 3 _ d.rd (by omega) (by omega) (by omega) bR bl cb).mono ?_;rintro e w8 ⟨zn,rfl,av,R8,O⟩;have kn:=d.read O R8;obtain ⟨b0,b1⟩:=av;have aA:Eq (IntKind.i64.wrap (M+zn)=M+zn):=by unfold Eq;simp [IntKind.wrap,IntKind.bits,IntKind.signed];omega
         go_wp2_with fail
         refine hK.o _ _ (kn.ltY) fun m=>?_
         (try go_frame);refine aQ 1 fun K hK=>?_
         have az:=kn.y1;go_simp;clear az;refine hK.o _ _ (kn.ltY) fun m=>?_
         (try go_frame);refine aP 5 2 m ?_;refine aQ 7 fun K hK=>?_
         have ay:=kn.y1;have ax:=kn.fy 1;go_simp;have b:=kn.mask (IntKind.i64.wrap (M+zn));clear ay ax;refine hK.o _ _ (b.ltY) fun m=>?_
         (try go_frame);refine dN ?_;generalize w8.setCell ⟨Y,1,none⟩ (iT (IntKind.i64.wrap (M+zn)))=w9 at b ⊢;rw [aA.o] at b;have a5:=b.y0;have ab:=b.y1;have a6:=b.ltY;obtain ⟨a4,A⟩:=b.x0;obtain ⟨a7,C⟩:=b.x1;have a3:=b.fx 0;have aa:=b.fx 1;have a0:=b.nxy;have f:Eq (de w _ R a len r _ X Y g n c (M+zn) L):=b;go_wp2;refine bodyPost_ret (v:=.agg #[sL g n c,iT (M+zn)]) (by simp [results,Tryz.results138,go_sem,A,C]) rfl ?_;exact f.o.done (by omega) D.o (FW (by omega)) (by omega) _ _
   by_cases z1:z=1
   · subst z1;go_wp2_with fail
     have y:=U.o.below (Below.refl _ w6).drew;have aV:True:=trivial;refine wp_region_held_drew (S:=(fun w'=>w'.cell? ⟨Y,0,none⟩=some (sL g n c)∧Y<w'.heap.size∧g<w'.heap.size)) (by kernel_rfl) (⟨y.y0,y.ltY,y.own.lt.2⟩) (fun m=>?_);generalize w6.drew=u at y m ⊢;refine aP 0 10 m ?_;refine aQ 10 fun K hK=>?_
     obtain ⟨F,E,J,H,I,N,e0,e1,e2,e3,e4⟩:=y.at D.o aq;go_simp;clear e0 e1 e2 e3 e4;refine hK.o _ _ (⟨y.y0,y.ltY,y.own.lt.2⟩) fun m=>?_
     (try go_frame);refine aQ 11 fun K hK=>?_
     go_simp;refine (eQ R _ a len r _ _ _ _ _ _ y.rd (by omega) N).mono ?_;rintro e cx ⟨cz,cO,cr,bc,cK,cE,rfl,bH,bz,cj,bK⟩;have aB:=y.read bK bz;go_wp2_with fail
     refine hK.o _ _ (⟨aB.y0,aB.ltY,aB.own.lt.2⟩) fun m=>?_
     (try go_frame);refine aQ 12 fun K hK=>?_
     go_simp;refine (eQ R _ a len r _ _ _ _ _ _ aB.rd (by omega) bH).mono ?_;rintro e cJ ⟨cP,cw,cy,ct,cL,cT,rfl,bI,bG,c9,bN⟩;have aD:=aB.read bN bG;go_wp2_with fail
     refine hK.o _ _ (⟨aD.y0,aD.ltY,aD.own.lt.2⟩) fun m=>?_
     (try go_frame);refine aQ 13 fun K hK=>?_
     go_simp;refine (eQ R _ a len r _ _ _ _ _ _ aD.rd (by omega) bI).mono ?_;rintro e bM ⟨aN,aJ,aR,aI,aU,cA,rfl,br,bD,ck,bP⟩;have Q:=aD.read bP bD;go_wp2_with fail
     refine hK.o _ _ (⟨Q.y0,Q.ltY,Q.own.lt.2⟩) fun m=>?_
     (try go_frame);refine aP 14 1 m ?_;refine aQ 15 fun K hK=>?_
     obtain ⟨x0,x1,x2,x3,x4⟩:=Q.own.entsAt.cells _ rfl k (by rw [Q.own.len];exact aq);simp only [FG] at x0 x1 x2 x3 x4;have y0:=Q.own.owns.frozenAt (k*5);have y1:=Q.own.owns.frozenAt (k*5+1);have y2:=Q.own.owns.frozenAt (k*5+2);have y3:=Q.own.owns.frozenAt (k*5+3);have y4:=Q.own.owns.frozenAt (k*5+4);go_simp;have b:=Q.put aq aN aJ aR aI aU (gk br);clear x0 x1 x2 x3 x4 y0 y1 y2 y3 y4;refine hK.o _ _ (⟨b.y0,b.ltY,b.own.lt.2⟩) fun m=>?_
     (try go_frame);refine dN ?_;generalize ((((bM.setCell ⟨g,k*5,none⟩ (.string aN)).setCell ⟨g,k*5+1,none⟩ (iT aR)).setCell ⟨g,k*5+2,none⟩ (iT aI)).setCell ⟨g,k*5+3,none⟩ (.string aJ)).setCell ⟨g,k*5+4,none⟩ (iT aU)=w9 at b ⊢;have a9:Eq (fU (L.set k (aN,aR,aI,aJ,aU))):=vH D.o br;have a5:=b.y0;have ab:=b.y1;have a6:=b.ltY;obtain ⟨a4,A⟩:=b.x0;obtain ⟨a7,C⟩:=b.x1;have a3:=b.fx 0;have aa:=b.fx 1;have a0:=b.nxy;have f:Eq (de w _ R a len r _ X Y g n c M (L.set k (aN,aR,aI,aJ,aU))):=b;go_wp2;refine bodyPost_ret (v:=.agg #[sL g n c,iT M]) (by simp [results,Tryz.results138,go_sem,A,C]) rfl ?_;exact f.o.done (by omega) a9.o (FW (by omega)) (by omega) _ _
   by_cases z2:z=2
   · subst z2;go_wp2_with fail
     have y:=U.o.below (Below.refl _ w6).drew;have aV:True:=trivial;refine wp_region_held_drew (S:=(fun w'=>Y<w'.heap.size)) (by kernel_rfl) (y.ltY) (fun m=>?_);generalize w6.drew=u at y m ⊢;refine aP 0 1 m ?_;refine aP 2 1 m ?_;refine aP 4 1 m ?_;refine lg 1 3 (fun K hK=>?_) fun K hK=>?_
     · have B:=y.y0;go_simp;clear B;refine hK.o _ _ (y.ltY) fun m=>?_
       (try go_frame);refine aQ 3 fun K hK=>?_
       have B:=y.y0;go_simp;clear B;refine hK.o _ _ (y.ltY) fun m=>?_
       (try go_frame);refine aP 5 1 m ?_;refine aQ 6 fun K hK=>?_
       obtain ⟨F,E,J,H,I,N,e0,e1,e2,e3,e4⟩:=y.at D.o aq;go_simp;clear e0 e1 e2 e3 e4;refine hK.o _ _ (y.ltY) fun m=>?_
       (try go_frame);refine aQ 7 fun K hK=>?_
       go_simp;have kc:Bl u (u.alloc (.cells #[.string F,iT J,iT H,.string E,iT I] 50)):=bZ;have d:=y.below kc;have rN:ah (u.alloc (.cells #[.string F,iT J,iT H,.string E,iT I] 50)) (some ⟨u.heap.size,0,none⟩) 1 1 [(F,J,H,E,I)]:=df u _ _ _ _ _ (gk N);generalize u.heap.size=gb at rN ⊢;generalize u.alloc (.cells #[.string F,iT J,iT H,.string E,iT I] 50)=wb at d rN ⊢;refine hK.o _ _ (d.ltY) fun m=>?_
       (try go_frame);refine aQ 8 fun K hK=>?_
       refine aw rfl (.tmp 50) (.tmp 56) 28 rfl g 50 i0 _ 5 56 Tryz.underlying28 hi aZ aY b3 rfl (Ga 4) _ _ _ rfl d.own.rebase.owns ⟨gb,0,none⟩ 1 1 (aC [(F,J,H,E,I)]) rfl rfl (bC rN) (aO _) ?_ ?_ ?_ ?_
       · unfold maxLen;omega
       · omega
       · exact Hp d.own.lt.2
       intro v8 w8 T Z ai;obtain ⟨O,c8,rfl⟩:=aH T ai;have t:wb.grownBy w8 (some g):=Z;refine hK.o _ _ (u' d.ltY Z.size) fun m=>?_
       (try go_frame);refine aP 9 1 m ?_;refine aQ 10 fun K hK=>?_
       have al:ag w8 g O (n+1) c8 (L++[(F,J,H,E,I)]):=⟨by rw [aL];exact T,by simp [d.own.len],gN (cQ D.o (ch N))⟩;have b:=d.grewTo t al (by omega);have B:=(an t (x:=⟨Y,0,none⟩) d.ltY (Ne.symm d.ngy)).trans d.y0;have aj:=(bo t (x:=⟨Y,0,none⟩) d.ltY (fun e=>d.ngy (by cases e;rfl))).trans (d.fy 0);go_simp;clear B aj;refine hK.o _ _ (b.ltY) fun m=>?_
       (try go_frame);refine dN ?_;generalize w8.setCell ⟨Y,0,none⟩ (sL O (n+1) c8)=w9 at b ⊢;have a9:Eq (fU (L++[(F,J,H,E,I)])):=cQ D.o (ch N);have a5:=b.y0;have ab:=b.y1;have a6:=b.ltY;obtain ⟨a4,A⟩:=b.x0;obtain ⟨a7,C⟩:=b.x1;have a3:=b.fx 0;have aa:=b.fx 1;have a0:=b.nxy;have f:Eq (de w _ R a len r _ X Y O (n+1) c8 M (L++[(F,J,H,E,I)])):=b;go_wp2;refine bodyPost_ret (v:=.agg #[sL O (n+1) c8,iT M]) (by simp [results,Tryz.results138,go_sem,A,C]) rfl ?_;exact f.o.done (by omega) a9.o (FW (by omega)) (by omega) _ _
     · have B:=y.y0;go_simp;clear B;refine hK.o _ _ (y.ltY) fun m=>?_
       (try go_frame);refine aP 5 1 m ?_;refine lg 1 6 (fun K hK=>?_) fun K hK=>?_
       · have B:=y.y0;go_simp;clear B;refine hK.o _ _ (y.ltY) fun m=>?_
         (try go_frame);refine aQ 6 fun K hK=>?_
         obtain ⟨F,E,J,H,I,N,e0,e1,e2,e3,e4⟩:=y.at D.o aq;go_simp;clear e0 e1 e2 e3 e4;refine hK.o _ _ (y.ltY) fun m=>?_
         (try go_frame);refine aQ 7 fun K hK=>?_
         go_simp;have kc:Bl u (u.alloc (.cells #[.string F,iT J,iT H,.string E,iT I] 50)):=bZ;have d:=y.below kc;have rN:ah (u.alloc (.cells #[.string F,iT J,iT H,.string E,iT I] 50)) (some ⟨u.heap.size,0,none⟩) 1 1 [(F,J,H,E,I)]:=df u _ _ _ _ _ (gk N);generalize u.heap.size=gb at rN ⊢;generalize u.alloc (.cells #[.string F,iT J,iT H,.string E,iT I] 50)=wb at d rN ⊢;refine hK.o _ _ (d.ltY) fun m=>?_
         (try go_frame);refine aQ 8 fun K hK=>?_
         refine aw rfl (.tmp 50) (.tmp 56) 28 rfl g 50 i0 _ 5 56 Tryz.underlying28 hi aZ aY b3 rfl (Ga 4) _ _ _ rfl d.own.rebase.owns ⟨gb,0,none⟩ 1 1 (aC [(F,J,H,E,I)]) rfl rfl (bC rN) (aO _) ?_ ?_ ?_ ?_
         · unfold maxLen;omega
         · omega
         · exact Hp d.own.lt.2
         intro v8 w8 T Z ai;obtain ⟨O,c8,rfl⟩:=aH T ai;have t:wb.grownBy w8 (some g):=Z;refine hK.o _ _ (u' d.ltY Z.size) fun m=>?_
         (try go_frame);refine aP 9 1 m ?_;refine aQ 10 fun K hK=>?_
         have al:ag w8 g O (n+1) c8 (L++[(F,J,H,E,I)]):=⟨by rw [aL];exact T,by simp [d.own.len],gN (cQ D.o (ch N))⟩;have b:=d.grewTo t al (by omega);have B:=(an t (x:=⟨Y,0,none⟩) d.ltY (Ne.symm d.ngy)).trans d.y0;have aj:=(bo t (x:=⟨Y,0,none⟩) d.ltY (fun e=>d.ngy (by cases e;rfl))).trans (d.fy 0);go_simp;clear B aj;refine hK.o _ _ (b.ltY) fun m=>?_
         (try go_frame);refine dN ?_;generalize w8.setCell ⟨Y,0,none⟩ (sL O (n+1) c8)=w9 at b ⊢;have a9:Eq (fU (L++[(F,J,H,E,I)])):=cQ D.o (ch N);have a5:=b.y0;have ab:=b.y1;have a6:=b.ltY;obtain ⟨a4,A⟩:=b.x0;obtain ⟨a7,C⟩:=b.x1;have a3:=b.fx 0;have aa:=b.fx 1;have a0:=b.nxy;have f:Eq (de w _ R a len r _ X Y O (n+1) c8 M (L++[(F,J,H,E,I)])):=b;go_wp2;refine bodyPost_ret (v:=.agg #[sL O (n+1) c8,iT M]) (by simp [results,Tryz.results138,go_sem,A,C]) rfl ?_;exact f.o.done (by omega) a9.o (FW (by omega)) (by omega) _ _
       · obtain ⟨F,E,J,H,I,N,e0,e1,e2,e3,e4⟩:=y.at D.o aq;go_simp;clear e0 e1 e2 e3 e4;refine hK.o _ _ (y.ltY) fun m=>?_
         (try go_frame);refine lg 1 7 (fun K hK=>?_) fun K hK=>?_
         · have B:=y.y0;go_simp;clear B;refine hK.o _ _ (y.ltY) fun m=>?_
           (try go_frame);refine aQ 7 fun K hK=>?_
           go_simp;have kc:Bl u (u.alloc (.cells #[.string F,iT J,iT H,.string E,iT I] 50)):=bZ;have d:=y.below kc;have rN:ah (u.alloc (.cells #[.string F,iT J,iT H,.string E,iT I] 50)) (some ⟨u.heap.size,0,none⟩) 1 1 [(F,J,H,E,I)]:=df u _ _ _ _ _ (gk N);generalize u.heap.size=gb at rN ⊢;generalize u.alloc (.cells #[.string F,iT J,iT H,.string E,iT I] 50)=wb at d rN ⊢;refine hK.o _ _ (d.ltY) fun m=>?_
           (try go_frame);refine aQ 8 fun K hK=>?_
           refine aw rfl (.tmp 50) (.tmp 56) 28 rfl g 50 i0 _ 5 56 Tryz.underlying28 hi aZ aY b3 rfl (Ga 4) _ _ _ rfl d.own.rebase.owns ⟨gb,0,none⟩ 1 1 (aC [(F,J,H,E,I)]) rfl rfl (bC rN) (aO _) ?_ ?_ ?_ ?_
           · unfold maxLen;omega
           · omega
           · exact Hp d.own.lt.2
           intro v8 w8 T Z ai;obtain ⟨O,c8,rfl⟩:=aH T ai;have t:wb.grownBy w8 (some g):=Z;refine hK.o _ _ (u' d.ltY Z.size) fun m=>?_
           (try go_frame);refine aP 9 1 m ?_;refine aQ 10 fun K hK=>?_
           have al:ag w8 g O (n+1) c8 (L++[(F,J,H,E,I)]):=⟨by rw [aL];exact T,by simp [d.own.len],gN (cQ D.o (ch N))⟩;have b:=d.grewTo t al (by omega);have B:=(an t (x:=⟨Y,0,none⟩) d.ltY (Ne.symm d.ngy)).trans d.y0;have aj:=(bo t (x:=⟨Y,0,none⟩) d.ltY (fun e=>d.ngy (by cases e;rfl))).trans (d.fy 0);go_simp;clear B aj;refine hK.o _ _ (b.ltY) fun m=>?_
           (try go_frame);refine dN ?_;generalize w8.setCell ⟨Y,0,none⟩ (sL O (n+1) c8)=w9 at b ⊢;have a9:Eq (fU (L++[(F,J,H,E,I)])):=cQ D.o (ch N);have a5:=b.y0;have ab:=b.y1;have a6:=b.ltY;obtain ⟨a4,A⟩:=b.x0;obtain ⟨a7,C⟩:=b.x1;have a3:=b.fx 0;have aa:=b.fx 1;have a0:=b.nxy;have f:Eq (de w _ R a len r _ X Y O (n+1) c8 M (L++[(F,J,H,E,I)])):=b;go_wp2;refine bodyPost_ret (v:=.agg #[sL O (n+1) c8,iT M]) (by simp [results,Tryz.results138,go_sem,A,C]) rfl ?_;exact f.o.done (by omega) a9.o (FW (by omega)) (by omega) _ _
         · go_simp;have kc:Bl u (u.alloc (.cells #[.string F,iT J,iT H,.string E,iT I] 50)):=bZ;have d:=y.below kc;have rN:ah (u.alloc (.cells #[.string F,iT J,iT H,.string E,iT I] 50)) (some ⟨u.heap.size,0,none⟩) 1 1 [(F,J,H,E,I)]:=df u _ _ _ _ _ (gk N);generalize u.heap.size=gb at rN ⊢;generalize u.alloc (.cells #[.string F,iT J,iT H,.string E,iT I] 50)=wb at d rN ⊢;refine hK.o _ _ (d.ltY) fun m=>?_
           (try go_frame);refine aQ 1 fun K hK=>?_
           have B:=d.y0;go_simp;clear B;refine hK.o _ _ (d.ltY) fun m=>?_
           (try go_frame);refine aQ 8 fun K hK=>?_
           refine aw rfl (.tmp 50) (.tmp 56) 28 rfl g 50 i0 _ 5 56 Tryz.underlying28 hi aZ aY b3 rfl (Ga 4) _ _ _ rfl d.own.rebase.owns ⟨gb,0,none⟩ 1 1 (aC [(F,J,H,E,I)]) rfl rfl (bC rN) (aO _) ?_ ?_ ?_ ?_
           · unfold maxLen;omega
           · omega
           · exact Hp d.own.lt.2
           intro v8 w8 T Z ai;obtain ⟨O,c8,rfl⟩:=aH T ai;have t:wb.grownBy w8 (some g):=Z;refine hK.o _ _ (u' d.ltY Z.size) fun m=>?_
           (try go_frame);refine aP 9 1 m ?_;refine aQ 10 fun K hK=>?_
           have al:ag w8 g O (n+1) c8 (L++[(F,J,H,E,I)]):=⟨by rw [aL];exact T,by simp [d.own.len],gN (cQ D.o (ch N))⟩;have b:=d.grewTo t al (by omega);have B:=(an t (x:=⟨Y,0,none⟩) d.ltY (Ne.symm d.ngy)).trans d.y0;have aj:=(bo t (x:=⟨Y,0,none⟩) d.ltY (fun e=>d.ngy (by cases e;rfl))).trans (d.fy 0);go_simp;clear B aj;refine hK.o _ _ (b.ltY) fun m=>?_
           (try go_frame);refine dN ?_;generalize w8.setCell ⟨Y,0,none⟩ (sL O (n+1) c8)=w9 at b ⊢;have a9:Eq (fU (L++[(F,J,H,E,I)])):=cQ D.o (ch N);have a5:=b.y0;have ab:=b.y1;have a6:=b.ltY;obtain ⟨a4,A⟩:=b.x0;obtain ⟨a7,C⟩:=b.x1;have a3:=b.fx 0;have aa:=b.fx 1;have a0:=b.nxy;have f:Eq (de w _ R a len r _ X Y O (n+1) c8 M (L++[(F,J,H,E,I)])):=b;go_wp2;refine bodyPost_ret (v:=.agg #[sL O (n+1) c8,iT M]) (by simp [results,Tryz.results138,go_sem,A,C]) rfl ?_;exact f.o.done (by omega) a9.o (FW (by omega)) (by omega) _ _
   by_cases z3:z=3
   · subst z3;have y:=(U.o.below ((Below.refl w6.heap.size w6).alloc (Fv _) (.cells #[] 50)));have oE:ag (w6.alloc (.cells #[] 50)) w.heap.size w6.heap.size 0 0 []:=bV w6 _ U.o.gr.size;have b:=y.ents oE U.o.ltX (by have:=U.o.ltY;omega);have bk:=U.o.y0;have be:=U.o.fy 0;have b6:=U.o.ltY;rw [World.setCell_alloc_past _ _ _ _ b6] at b;clear y oE;go_upto_region 17 with fail
     clear bk be b6 U;generalize w6.heap.size=g9 at b ⊢;generalize (w6.setCell ⟨Y,0,none⟩ (sL g9 0 0)).alloc (.cells #[] 50)=w9 at b ⊢;have a5:=b.y0;have ab:=b.y1;have a6:=b.ltY;obtain ⟨a4,A⟩:=b.x0;obtain ⟨a7,C⟩:=b.x1;have a3:=b.fx 0;have aa:=b.fx 1;have a0:=b.nxy;have f:Eq (de w _ R a len r _ X Y g9 0 0 M []):=b;go_wp2;refine bodyPost_ret (v:=.agg #[sL g9 0 0,iT M]) (by simp [results,Tryz.results138,go_sem,A,C]) rfl ?_;exact f.o.done (by omega) (fun e he=>by cases he) (FW (by omega)) (by omega) _ _
   by_cases z4:z=4
   · subst z4;have b:=U.o.mask 65535;have bk:=U.o.y0;have cD:=U.o.y1;have be:=U.o.fy 1;have b6:=U.o.ltY;have cs:=U.o.ltX;obtain ⟨cI,bJ⟩:=U.o.x0;obtain ⟨cC,bc⟩:=U.o.x1;have cv:=U.o.fx 0;have cV:=U.o.fx 1;have a0:=U.o.nxy;have f:Eq (de w _ R a len r _ X Y g n c 65535 L):=b;clear b;go_wp2;refine bodyPost_ret (v:=.agg #[sL g n c,iT 65535]) (by simp [results,Tryz.results138,go_sem,bJ,bc]) rfl ?_;exact f.o.done (by omega) D.o (FW (by omega)) (by omega) _ _
   have k6:=U.o;have a5:=k6.y0;have ab:=k6.y1;have a6:=k6.ltY;obtain ⟨a4,A⟩:=k6.x0;obtain ⟨a7,C⟩:=k6.x1;have a3:=k6.fx 0;have aa:=k6.fx 1;have a0:=k6.nxy;have f:Eq (de w _ R a len r _ X Y g n c M L):=k6;go_wp2;refine bodyPost_ret (v:=.agg #[sL g n c,iT M]) (by simp [results,Tryz.results138,go_sem,A,C]) rfl ?_;exact f.o.done (by omega) D.o (FW (by omega)) (by omega) _ _
end Go.Proofs.YtpobkmjicbobdaaGreat
namespace Go.Proofs.YtpobkmjicbobdaaGreat
open Go.RowKit
set_option maxRecDepth 100000
set_option maxHeartbeats 16000000
end Go.Proofs.YtpobkmjicbobdaaGreat
