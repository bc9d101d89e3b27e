/- Walks. -/
import Derived.Test.YtpobkmjicbobdaaGreatBl32
namespace Go.Proofs.YtpobkmjicbobdaaGreat
open Go.RowKit
set_option maxRecDepth 100000
set_option maxHeartbeats 16000000
theorem wZ {L:List ac} (h:ft L):ft (bF L):=fun e b=>h e ((bK L).2.mem_iff.1 b)
theorem uS (R P many:Nat) (a:Option Addr) (len b:Nat) (w:World) (h:aZ w R a len b P) (m:qM a len R) (F:P<80000) (hm:many≤100) :
 Calls Tryz.prog 195 #[.pointer (pT R),iT many] w (A8 R a len b P many w):=by
 go_enter Tryz.func195,Tryz.ntmps195
 go_wp2_with fail
 refine (uU R P many a len b w h m F hm).mono ?_;rintro e x ⟨g,n,c,s,L,rfl,hO,hn,hF,hR,r,hG⟩;have D:CG (aZ x R a len b s):=hR;have B:CG (w.grownBy x (some R)):=hG;have E:CG (ft L):=hF;have hz:=hG.size;go_wp2_with fail
 refine (yD _ n c L x hO.entsAt (by omega)).mono ?_;rintro e u ⟨C,c2,rfl,f,d⟩;have y:CG (af u w.heap.size C n c2 (bF L)):=f.mono hz;have A:CG (aZ u R a len b s):=D.o.below d;have t:CG (w.grownBy u (some R)):=ae B.o (aS d);clear hO hR hG hF d f D B;go_wp2;go_ret;exact ⟨C,n,c2,s,bF L,rfl,y.o,hn,wZ E.o,A.o,r,t.o⟩
theorem sC (a:Option Addr) (n c:Nat) (L:List ac) (w:World) (hL:ag w a n c L) :
 Calls Tryz.prog 173 #[.slice a n c] w fun e w'=>e=.returned (.agg #[.slice a n c,iT ((cV L:Nat):Int)])∧Bl w w':=by
 go_enter Tryz.func173,Tryz.ntmps173
 go_wp2_with fail
 refine (lV a n c L _ (hL.keep bZ)).mono ?_;rintro e w1 ⟨rfl,b⟩;obtain ⟨d,f⟩:=wg b;have hz:=b.size;simp at hz;go_wp2;refine bodyPost_ret (v:=.agg #[.slice a n c,iT ((cV L:Nat):Int)]) (by simp [results,Tryz.results173,go_sem,d]) rfl ⟨rfl,?_⟩;have hB:Bl w w1:=bZ.trans (b.mono (by simp));exact (hB.setCell (p:=⟨w.heap.size,0,none⟩) (Cy _) _).setCell (p:=⟨w.heap.size,1,none⟩) (Cy _) _
theorem bw (w:World) (Z o:Nat) (v:Value):w.grownBy (w.setCell ⟨Z,o,none⟩ v) (some Z) :=
 ⟨rfl,rfl,rfl,by simp [World.setCell],fun k _ hk=>Below.heap_setCell _ _ _ _ (fun e=>hk (by rw [e]))⟩
structure cJ (w wi:World) (R:Nat) (a:Option Addr) (len cap P X Y g n c:Nat) (m:Int) (L:List ac):Prop where
 rd:aZ wi R a len cap P
 gr:w.grownBy wi (some R)
 x0:∃v,wi.cell? ⟨X,0,none⟩=some v
 x1:∃v,wi.cell? ⟨X,1,none⟩=some v
 fx:∀o,wi.frozen? ⟨X,o,none⟩=false
 y0:wi.cell? ⟨Y,0,none⟩=some (sL g n c)
 y1:wi.cell? ⟨Y,1,none⟩=some (iT m)
 fy:∀o,wi.frozen? ⟨Y,o,none⟩=false
 own:af wi w.heap.size g n c L
 hx:w.heap.size≤X
 hy:w.heap.size≤Y
 hr:R<w.heap.size
 nxy:X≠Y
 ngx:X<g
 ngy:g≠Y
 low:qM a len R
theorem cJ.ltX {w d:World} {R:Nat} {a:Option Addr} {len b P X Y g n c:Nat} {m:Int} {L:List ac} (h:cJ w d R a len b P X Y g n c m L):X<d.heap.size:=by
 obtain ⟨v,hv⟩:=h.x0;exact Cz _ _ hv
theorem cJ.ltY {w d:World} {R:Nat} {a:Option Addr} {len b P X Y g n c:Nat} {m:Int} {L:List ac} (h:cJ w d R a len b P X Y g n c m L):Y<d.heap.size:=Cz _ _ h.y0
theorem cJ.step {w B d:World} {R:Nat} {a:Option Addr} {len b P y X Y g f n s c c' Z:Nat} {m:Int} {L A:List ac} (h:cJ w B R a len b P X Y g n c m L) (hg:B.grownBy d (some Z)) (hr:aZ d R a len b y) (t:Z=R∨w.heap.size≤Z) (r:Z≠X) (C:Z≠Y) (ho:af d w.heap.size f s c' A) (u:d.cell? ⟨Y,0,none⟩=some (sL f s c')) (E:X<f) (D:f≠Y):cJ w d R a len b y X Y f s c' m A where
 rd:=hr
 gr:=by
  rcases t with rfl | t
  · exact ae h.gr hg
  · exact aG h.gr t hg
 x0:=by obtain ⟨v,hv⟩:=h.x0;exact ⟨v,(aj hg (x:=⟨X,0,none⟩) h.ltX (Ne.symm r)).trans hv⟩
 x1:=by obtain ⟨v,hv⟩:=h.x1;exact ⟨v,(aj hg (x:=⟨X,1,none⟩) h.ltX (Ne.symm r)).trans hv⟩
 fx:=fun o=>(bn hg (x:=⟨X,o,none⟩) h.ltX (fun e=>r (by cases e;rfl))).trans (h.fx o)
 y0:=u
 y1:=(aj hg (x:=⟨Y,1,none⟩) h.ltY (Ne.symm C)).trans h.y1
 fy:=fun o=>(bn hg (x:=⟨Y,o,none⟩) h.ltY (fun e=>C (by cases e;rfl))).trans (h.fy o)
 own:=ho
 hx:=h.hx
 hy:=h.hy
 hr:=h.hr
 nxy:=h.nxy
 ngx:=E
 ngy:=D
 low:=h.low
theorem cJ.read {w o f:World} {R:Nat} {a:Option Addr} {len b P r X Y g n c:Nat} {m:Int} {L:List ac} (h:cJ w o R a len b P X Y g n c m L) (hg:o.grownBy f (some R)) (hr:aZ f R a len b r):cJ w f R a len b r X Y g n c m L:=by
 have h1:=h.hr;have h2:=h.hx;have h3:=h.hy;have h4:=h.own.lt.1;have d:Y≠R:=by omega
 exact h.step hg hr (Or.inl rfl) (by omega) (by omega) (h.own.grown hg (fun e=>by cases e;omega)) ((aj hg (x:=⟨Y,0,none⟩) h.ltY d).trans h.y0) h.ngx h.ngy
theorem cJ.below {w d e:World} {R:Nat} {a:Option Addr} {len b P X Y g n c:Nat} {m:Int} {L:List ac} (h:cJ w d R a len b P X Y g n c m L) (hb:Bl d e):cJ w e R a len b P X Y g n c m L:=h.read (aS hb) (h.rd.below hb)
theorem cJ.mask {w b:World} {R:Nat} {a:Option Addr} {len d P X Y g n c:Nat} {m:Int} {L:List ac} (h:cJ w b R a len d P X Y g n c m L) (f:Int):cJ w (b.setCell ⟨Y,1,none⟩ (iT f)) R a len d P X Y g n c f L where
 rd:=h.rd.grown (bw b Y 1 _) h.low (fun k e=>by cases e;have:=h.hr;have:=h.hy;omega)
 gr:=aG h.gr h.hy (bw b Y 1 _)
 x0:=by obtain ⟨v,hv⟩:=h.x0;exact ⟨v,(aj (bw b Y 1 _) (x:=⟨X,0,none⟩) h.ltX h.nxy).trans hv⟩
 x1:=by obtain ⟨v,hv⟩:=h.x1;exact ⟨v,(aj (bw b Y 1 _) (x:=⟨X,1,none⟩) h.ltX h.nxy).trans hv⟩
 fx:=fun o=>by rw [Dj];exact h.fx o
 y0:=by rw [u' _ _ _ _ (by simp)];exact h.y0
 y1:=C4 _ _ _ (by rw [h.y1];rfl)
 fy:=fun o=>by rw [Dj];exact h.fy o
 own:=h.own.grown (bw b Y 1 _) (fun e=>h.ngy (by cases e;rfl))
 hx:=h.hx
 hy:=h.hy
 hr:=h.hr
 nxy:=h.nxy
 ngx:=h.ngx
 ngy:=h.ngy
 low:=h.low
theorem cJ.ents {w b:World} {R:Nat} {a:Option Addr} {len d P X Y g n c f r c':Nat} {m:Int} {L t:List ac} (h:cJ w b R a len d P X Y g n c m L) (ho:af b w.heap.size f r c' t) (u:X<f) (s:f≠Y):cJ w (b.setCell ⟨Y,0,none⟩ (sL f r c')) R a len d P X Y f r c' m t where
 rd:=h.rd.grown (bw b Y 0 _) h.low (fun k e=>by cases e;have:=h.hr;have:=h.hy;omega)
 gr:=aG h.gr h.hy (bw b Y 0 _)
 x0:=by obtain ⟨v,hv⟩:=h.x0;exact ⟨v,(aj (bw b Y 0 _) (x:=⟨X,0,none⟩) h.ltX h.nxy).trans hv⟩
 x1:=by obtain ⟨v,hv⟩:=h.x1;exact ⟨v,(aj (bw b Y 0 _) (x:=⟨X,1,none⟩) h.ltX h.nxy).trans hv⟩
 fx:=fun o=>by rw [Dj];exact h.fx o
 y0:=C4 _ _ _ (by rw [h.y0];rfl)
 y1:=by rw [u' _ _ _ _ (by simp)];exact h.y1
 fy:=fun o=>by rw [Dj];exact h.fy o
 own:=ho.grown (bw b Y 0 _) (fun e=>s (by cases e;rfl))
 hx:=h.hx
 hy:=h.hy
 hr:=h.hr
 nxy:=h.nxy
 ngx:=u
 ngy:=s
 low:=h.low
theorem af.rebase {w:World} {base g n c:Nat} {L:List ac} (h:af w base g n c L):af w g g n c L:=by
 refine ⟨⟨h.owns.1,?_⟩,h.len,h.ents⟩;rcases h.owns.2 with ⟨hv,_⟩ | ⟨e,d,b,hv,hb,hr⟩
 · cases hv
 · cases hv;exact .inr ⟨g,c,b,rfl,Cy _,hr⟩
theorem cJ.grewTo {w B b:World} {R:Nat} {a:Option Addr} {len f P X Y g n c t u c':Nat} {m:Int} {L L':List ac} (h:cJ w B R a len f P X Y g n c m L) (hg:B.grownBy b (some g)) (ho:af b g t u c' L') (hn:1≤u):cJ w (b.setCell ⟨Y,0,none⟩ (sL t u c')) R a len f P X Y t u c' m L':=by
 have hb:=h.own.lt.1;have D:=ho.lt.1;have E:=h.ngx;have hr:=h.hr;have s:=(aj hg (x:=⟨Y,0,none⟩) h.ltY (Ne.symm h.ngy)).trans h.y0;have y:=(aj hg (x:=⟨Y,1,none⟩) h.ltY (Ne.symm h.ngy)).trans h.y1;have d:X≠g:=by omega
 have r:X<b.heap.size:=l' h.ltX hg.size;have C:Y<b.heap.size:=l' h.ltY hg.size;have A:t≠Y:=fun e=>by
  have hc:=(ho.entsAt.cells _ rfl 0 (by rw [ho.len];omega)).1;subst e;simp only [EO,C6] at hc;rw [s] at hc;cases hc
 exact {
  rd:=(h.rd.grown hg h.low (fun k e=>by cases e;omega)).grown (bw b Y 0 _) h.low (fun k e=>by cases e;have:=h.hy;omega)
  gr:=aG (aG h.gr hb hg) h.hy (bw b Y 0 _)
  x0:=by obtain ⟨v,hv⟩:=h.x0;exact ⟨v,(aj (bw b Y 0 _) (x:=⟨X,0,none⟩) r h.nxy).trans ((aj hg (x:=⟨X,0,none⟩) h.ltX d).trans hv)⟩
  x1:=by obtain ⟨v,hv⟩:=h.x1;exact ⟨v,(aj (bw b Y 0 _) (x:=⟨X,1,none⟩) r h.nxy).trans ((aj hg (x:=⟨X,1,none⟩) h.ltX d).trans hv)⟩
  fx:=fun o=>by rw [Dj];exact (bn hg (x:=⟨X,o,none⟩) h.ltX (fun e=>d (by cases e;rfl))).trans (h.fx o)
  y0:=C4 _ _ _ (by rw [s];rfl)
  y1:=by rw [u' _ _ _ _ (by simp)];exact y
  fy:=fun o=>by rw [Dj];exact (bn hg (x:=⟨Y,o,none⟩) h.ltY (fun e=>h.ngy (by cases e;rfl))).trans (h.fy o)
  own:=(ho.mono hb).grown (bw b Y 0 _) (fun e=>A (by cases e;rfl))
  hx:=h.hx
  hy:=h.hy
  hr:=h.hr
  nxy:=h.nxy
  ngx:=by omega
  ngy:=A
  low:=h.low }
def B4 (R:Nat) (a:Option Addr) (len cap P:Nat) (w:World) (e:Ending) (w':World):Prop :=
 ∃(g n c P':Nat) (m:Int) (L:List ac),e=.returned (.agg #[sL g n c,iT m])∧af w' w.heap.size g n c L∧n≤13∧ft L∧(Lit.int .i64 m).wf=true∧aZ w' R a len cap P'∧P'≤P+150∧w.grownBy w' (some R)
theorem cJ.done {w f:World} {R:Nat} {a:Option Addr} {len b P o X Y g n c:Nat} {m:Int} {L:List ac} (h:cJ w f R a len b P X Y g n c m L) (hn:n≤13) (hF:ft L) (hm:(Lit.int .i64 m).wf=true) (r:P≤o+150) (u v:Value) :
 B4 R a len b o w (.returned (.agg #[sL g n c,iT m])) ((f.setCell ⟨X,0,none⟩ u).setCell ⟨X,1,none⟩ v):=by
 have d:R<X:=by have:=h.hr;have:=h.hx;omega
 refine ⟨g,n,c,P,m,L,rfl,?_,hn,hF,hm,?_,r,?_⟩
 · exact (h.own.grown (bw f X 0 u) (fun e=>Nat.ne_of_lt h.ngx (by cases e;rfl))).grown (bw _ X 1 v) (fun e=>Nat.ne_of_lt h.ngx (by cases e;rfl))
 · exact (h.rd.grown (bw f X 0 u) h.low (fun k e=>by cases e;exact d)).grown (bw _ X 1 v) h.low (fun k e=>by cases e;exact d)
 · exact aG (aG h.gr h.hx (bw f X 0 u)) h.hx (bw _ X 1 v)
end Go.Proofs.YtpobkmjicbobdaaGreat
namespace Go.Proofs.YtpobkmjicbobdaaGreat
open Go.RowKit
set_option maxRecDepth 100000
set_option maxHeartbeats 16000000
def Nx (z:Int):Prop:=-1≤z∧z≤65536
theorem tT {L:List ac} {k:Nat} {s t:ByteArray} {q d n:Int} (h:ft L) (b:iX s t q d n):ft (L.set k (s,q,d,t,n)):=fun e hm=>by
 rcases EF hm with h1 | rfl
 · exact h e h1
 · exact b
theorem af.put {w:World} {base g n c k:Nat} {L:List ac} (h:af w base g n c L) (hk:k<n) (s t:ByteArray) (q d m:Int) (hw:dR (s,q,d,t,m)) :
 af (((((w.setCell ⟨g,k*5,none⟩ (.string s)).setCell ⟨g,k*5+1,none⟩ (iT q)).setCell ⟨g,k*5+2,none⟩ (iT d)).setCell ⟨g,k*5+3,none⟩ (.string t)).setCell ⟨g,k*5+4,none⟩ (iT m)) base g n c (L.set k (s,q,d,t,m)):=by
 have t0:=h.owns.stored (k*5) (.string s);have o:=t0.1.stored (k*5+1) (iT q);have f:=o.1.stored (k*5+2) (iT d);have t3:=f.1.stored (k*5+3) (.string t);have t4:=t3.1.stored (k*5+4) (iT m);have r:(aC L).length=n*5:=h.owns.1;refine ⟨?_,by rw [List.length_set];exact h.len,fun e hm=>?_⟩
 · have t5:=t4.1;have key:∀xs:List Value,xs.length=n*5→(∀j l,(L.set k (s,q,d,t,m))[j]?=some l→iP xs j l)→xs=aC (L.set k (s,q,d,t,m)):=fun xs hx hh=>n8 (by rw [hx,List.length_set,h.len]) hh
   rw [key _ t5.1 (fun j l hl=>?_)] at t5
   · exact t5
   · by_cases b:j=k
     · subst b;rw [DX (by rw [h.len];exact hk)] at hl;cases hl;exact jd s t q d m (by rw [r];omega)
     · rw [Dx (Ne.symm b)] at hl;exact iA (fe L j l hl) b _ _ _ _ _
 · rcases EF hm with h1 | rfl
   · exact h.ents e h1
   · exact hw
theorem km (w:World) (g k:Nat) (v0 b d v3 v4:Value):w.grownBy (((((w.setCell ⟨g,k,none⟩ v0).setCell ⟨g,k+1,none⟩ b).setCell ⟨g,k+2,none⟩ d).setCell ⟨g,k+3,none⟩ v3).setCell ⟨g,k+4,none⟩ v4) (some g) :=
 ae (ae (ae (ae (bw _ g _ _) (bw _ g _ _)) (bw _ g _ _)) (bw _ g _ _)) (bw _ g _ _)
theorem cJ.put {w f:World} {R:Nat} {a:Option Addr} {len b P X Y g n c k:Nat} {m:Int} {L:List ac} (h:cJ w f R a len b P X Y g n c m L) (hk:k<n) (s t:ByteArray) (q d nn:Int) (hw:dR (s,q,d,t,nn)) :
 cJ w (((((f.setCell ⟨g,k*5,none⟩ (.string s)).setCell ⟨g,k*5+1,none⟩ (iT q)).setCell ⟨g,k*5+2,none⟩ (iT d)).setCell ⟨g,k*5+3,none⟩ (.string t)).setCell ⟨g,k*5+4,none⟩ (iT nn)) R a len b P X Y g n c m (L.set k (s,q,d,t,nn)) :=
 h.step (km f g (k*5) _ _ _ _ _) (h.rd.grown (km f g (k*5) _ _ _ _ _) h.low (fun j e=>by cases e;have:=h.hr;have:=h.own.lt.1;omega)) (Or.inr h.own.lt.1) (Nat.ne_of_gt h.ngx) h.ngy (h.own.put hk s t q d nn hw) ((aj (km f g (k*5) _ _ _ _ _) (x:=⟨Y,0,none⟩) h.ltY (Ne.symm h.ngy)).trans h.y0) h.ngx h.ngy
theorem cJ.at {w b:World} {R:Nat} {a:Option Addr} {len e P X Y g n c k:Nat} {m:Int} {L:List ac} (h:cJ w b R a len e P X Y g n c m L) (hF:ft L) (hk:k<n) :
 ∃s t q d nn,iX s t q d nn∧b.cell? ⟨g,k*5,none⟩=some (.string s)∧b.cell? ⟨g,k*5+1,none⟩=some (iT q)∧b.cell? ⟨g,k*5+2,none⟩=some (iT d)∧b.cell? ⟨g,k*5+3,none⟩=some (.string t)∧b.cell? ⟨g,k*5+4,none⟩=some (iT nn):=by
 have hl:k<L.length:=by rw [h.own.len];exact hk
 obtain ⟨x,r,o,u,f⟩:=h.own.entsAt.cells _ rfl k hl;simp only [C6] at x r o u f;exact ⟨_,_,_,_,_,hF _ (Dq hl),x,r,o,u,f⟩
theorem uT (R P:Nat) (a:Option Addr) (len r:Nat) (w:World) (h:aZ w R a len r P) (br:qM a len R) (hP:P<70000) :
 Calls Tryz.prog 138 #[.pointer (pT R)] w (B4 R a len r P w):=by
 obtain ⟨i0,hi,b3,aX,aY⟩:=info_parts Tryz.infoEnt;have ck:=h.lt;have cq:CG (R<w.heap.size):=ck;have bB:=bO br;have kA:Bl w (w.alloc (.cells #[nZ,iT 0] 63)):=bZ;go_enter Tryz.func138,Tryz.ntmps138
 go_wp2_with fail
 refine (uS R P 12 a len r _ (h.below kA) br (by omega) (by omega)).mono ?_;rintro e w1 ⟨g,n,c,P1,L,rfl,hO,hn,hF,cg,d7,bs⟩;obtain ⟨X,hX⟩:=aH w.heap.size;have bm:X≠R:=by omega
 have bz:X<(w.alloc (.cells #[nZ,iT 0] 63)).heap.size:=by rw [hX];simp
 have x0:w1.cell? ⟨X,0,none⟩=some nZ:=(aj bs (x:=⟨X,0,none⟩) bz bm).trans (by rw [hX];simp);have x1:w1.cell? ⟨X,1,none⟩=some (iT 0):=(aj bs (x:=⟨X,1,none⟩) bz bm).trans (by rw [hX];simp);have fx:∀o,w1.frozen? ⟨X,o,none⟩=false:=fun o=>(bn bs (x:=⟨X,o,none⟩) bz (fun e=>bm (by cases e;rfl))).trans (by rw [hX];exact Ey w _ _ o)
 have ch:w.heap.size≤X:=by omega
 have bC:X<g:=by have:=hO.lt.1;simp at this;omega
 have bT:CG (af w1 w.heap.size g n c L):=hO.mono (by simp);have bo:CG (w.grownBy w1 (some R)):=ae (aS kA) bs;have bA:CG (aZ w1 R a len r P1):=cg;have c0:CG (ft L):=hF;have zX:=Cz _ _ x0;simp only at zX;rw [← hX];clear hO bs cg hF kA bz hX h br ck;by_cases cN:n=0
 · subst cN;have kB:Bl w1 (w1.alloc (.cells #[.string ⟨#[97]⟩,iT 1,iT 1,.string ⟨#[]⟩,iT 2] 50)):=bZ;have bL:iX ⟨#[97]⟩ ⟨#[]⟩ 1 1 2:=by unfold iX lO;decide
   have oN:af (w1.alloc (.cells #[.string ⟨#[97]⟩,iT 1,iT 1,.string ⟨#[]⟩,iT 2] 50)) w.heap.size w1.heap.size 1 1 [(⟨#[97]⟩,1,1,⟨#[]⟩,2)]:=by
    have:=Do (base:=w.heap.size) (e:=50) (size:=5) w1 #[.string ⟨#[97]⟩,iT 1,iT 1,.string ⟨#[]⟩,iT 2] 1 bo.o.size (by unfold maxLen;omega) rfl;exact ⟨by simpa [aC,bD] using this,rfl,fW (bV bL)⟩
   go_wp2_with fail
   obtain ⟨wl,cc⟩:=aH (w1.alloc (.cells #[.string ⟨#[97]⟩,iT 1,iT 1,.string ⟨#[]⟩,iT 2] 50));rw [← cc] at kB oN ⊢;obtain ⟨gl,bU⟩:=aH w1.heap.size;obtain ⟨LL,bQ⟩:∃LL:List ac,LL=[(⟨#[97]⟩,1,1,⟨#[]⟩,2)]:=⟨_,rfl⟩;have c4:X<gl:=by omega
   have D:CG (ft LL):=by rw [bQ];exact bV bL
   rw [← bU,← bQ] at oN;rw [← bU];have aT:CG (af wl w.heap.size gl 1 1 LL):=oN;have bu:CG (aZ wl R a len r P1):=bA.o.below kB;have bc:CG (w.grownBy wl (some R)):=ae bo.o (aS kB);have bh:=cell_later kB x0;have bg:=cell_later kB x1;have bj:∀o,wl.frozen? ⟨X,o,none⟩=false:=fun o=>(kB.frozen (p:=⟨X,o,none⟩) zX).trans (fx o)
   have bw:X<wl.heap.size:=l' zX kB.size;clear cc bU bQ oN kB bL bT bA bo c0 x0 x1 fx zX bC bm;refine (sC _ 1 1 LL wl aT.o.entsAt).mono ?_;rintro e wr ⟨rfl,aq⟩;obtain ⟨M,hM⟩:∃M:Int,M=((cV LL:Nat):Int):=⟨_,rfl⟩;have cP:0≤M:=by omega
   have cH:M<65536:=by have:=lq LL;omega
   rw [← hM];clear hM;obtain ⟨Y,hY⟩:=aH wr.heap.size;obtain ⟨W,hW⟩:=aH (wr.alloc (.cells #[sL gl 1 1,iT M] 63));have kW:Bl wr W:=by rw [hW];exact bZ
   have kk:=aq.trans (kW.mono aq.size);have S0:CG (cJ w W R a len r P1 X Y gl 1 1 M LL):=⟨bu.o.below kk,ae bc.o (aS kk),⟨_,cell_later kk bh⟩,⟨_,cell_later kk bg⟩,(fun o=>(kk.frozen (p:=⟨X,o,none⟩) bw).trans (bj o)),by rw [hW,hY];simp,by rw [hW,hY];simp,(fun o=>by rw [hW,hY];exact Ey wr _ _ o),aT.o.below kk,ch,by have:=bc.o.size;have:=aq.size;omega,cq.o,by have:=aq.size;omega,c4,by have:=aT.o.lt.2;have:=aq.size;omega,bB.o⟩;have bJ:=S0.o.ltY;go_wp2_with fail
   rw [← hW,← hY];clear hW hY kW kk aq bh bg bj bw bu bc aT bJ;refine (bX R P1 a len r _ W S0.o.rd (by omega) (by omega)).mono ?_;rintro e w5 ⟨qk,rfl,b8,R5,g5⟩;have S5:CG (cJ w w5 R a len r (P1+1) X Y gl 1 1 M LL):=S0.o.read g5 R5;obtain ⟨k,hk⟩:=DL b8.1;subst hk;have ap:k<1:=by have:=b8.2 (by omega);omega
   have ci:(k:Int)<((1:Nat):Int):=by omega
   have ce:(k:Int)<1:=by omega
   clear R5 g5 S0 b8;go_wp2_with fail
   refine (bX R (P1+1) a len r _ w5 S5.o.rd (by omega) (by omega)).mono ?_;rintro e w6 ⟨z,rfl,hz,R6,g6⟩;have T:CG (cJ w w6 R a len r (P1+1+1) X Y gl 1 1 M LL):=S5.o.read g6 R6;clear R6 g6 S5 hz;by_cases z0:z=0
   · subst z0;go_wp2_with fail
     have y:=T.o.below (Below.refl _ w6).drew;have aV:True:=trivial;refine wp_region_held_drew (S:=(fun w'=>Y<w'.heap.size)) (by kernel_rfl) (y.ltY) (fun m=>?_);generalize w6.drew=u at y m ⊢;refine aP 0 1 m ?_;refine aP 2 1 m ?_;refine jX 1 3 (fun K hK=>?_) fun K hK=>?_
     · have ax:=y.y1;go_simp;clear ax;refine hK.o _ _ (y.ltY) fun m=>?_
       (try go_frame);refine aR 3 fun K hK=>?_
       go_simp;have kc:Bl u (u.alloc (.cells ((([1,-1,65536]:List Int).map iT).toArray) 3)):=bZ;have d:=y.below kc;have cb:=dl u 3 [1,-1,65536] Nx (by intro s hs;simp only [Da,Dr,or_false] at hs;rcases hs with rfl | rfl | rfl <;> (unfold Nx;decide));have bR:u.heap.size≠R:=by have:=y.rd.lt;omega
       have bl:u.heap.size<(u.alloc (.cells ((([1,-1,65536]:List Int).map iT).toArray) 3)).heap.size:=by simp
       simp only [Ep,Ev] at kc d cb bl;generalize u.heap.size=gb at cb bR bl ⊢;generalize u.alloc (.cells #[iT 1,iT (-1),iT 65536] 3)=wb at d cb bl ⊢;refine hK.o _ _ (d.ltY) fun m=>?_
       (try go_frame);refine aR 4 fun K hK=>?_
       go_simp;refine (dF Nx R _ a len r gb 0 3 3 _ d.rd (by omega) (by omega) (by omega) bR bl cb).mono ?_;rintro e w8 ⟨zn,rfl,az,R8,O⟩;have kn:=d.read O R8;obtain ⟨b2,b1⟩:=az;have aA:CG (IntKind.i64.wrap (M+zn)=M+zn):=by unfold CG;simp [IntKind.wrap,IntKind.bits,IntKind.signed];omega
       go_wp2_with fail
       refine hK.o _ _ (kn.ltY) fun m=>?_
       (try go_frame);refine aP 5 2 m ?_;refine aR 7 fun K hK=>?_
       have ay:=kn.y1;have aD:=kn.fy 1;go_simp;have b:=kn.mask (IntKind.i64.wrap (M+zn));clear ay aD;refine hK.o _ _ (b.ltY) fun m=>?_
       (try go_frame);refine dN ?_;generalize w8.setCell ⟨Y,1,none⟩ (iT (IntKind.i64.wrap (M+zn)))=w9 at b ⊢;rw [aA.o] at b;have a9:=b.y0;have a5:=b.y1;have a4:=b.ltY;obtain ⟨a7,C⟩:=b.x0;obtain ⟨a8,B⟩:=b.x1;have ad:=b.fx 0;have a3:=b.fx 1;have a0:=b.nxy;have f:CG (cJ w _ R a len r _ X Y gl 1 1 (M+zn) LL):=b;go_wp2;refine bodyPost_ret (v:=.agg #[sL gl 1 1,iT (M+zn)]) (by simp [results,Tryz.results138,go_sem,C,B]) rfl ?_;exact f.o.done (by omega) D.o (Dk (by omega)) (by omega) _ _
     · go_simp;have kc:Bl u (u.alloc (.cells ((([1,-1,65536]:List Int).map iT).toArray) 3)):=bZ;have d:=y.below kc;have cb:=dl u 3 [1,-1,65536] Nx (by intro s hs;simp only [Da,Dr,or_false] at hs;rcases hs with rfl | rfl | rfl <;> (unfold Nx;decide));have bR:u.heap.size≠R:=by have:=y.rd.lt;omega
       have bl:u.heap.size<(u.alloc (.cells ((([1,-1,65536]:List Int).map iT).toArray) 3)).heap.size:=by simp
       simp only [Ep,Ev] at kc d cb bl;generalize u.heap.size=gb at cb bR bl ⊢;generalize u.alloc (.cells #[iT 1,iT (-1),iT 65536] 3)=wb at d cb bl ⊢;refine hK.o _ _ (d.ltY) fun m=>?_
       (try go_frame);refine jX 1 4 (fun K hK=>?_) fun K hK=>?_
       · have ax:=d.y1;go_simp;clear ax;refine hK.o _ _ (d.ltY) fun m=>?_
         (try go_frame);refine aR 4 fun K hK=>?_
         go_simp;refine (dF Nx R _ a len r gb 0 3 3 _ d.rd (by omega) (by omega) (by omega) bR bl cb).mono ?_;rintro e w8 ⟨zn,rfl,az,R8,O⟩;have kn:=d.read O R8;obtain ⟨b2,b1⟩:=az;have aA:CG (IntKind.i64.wrap (M+zn)=M+zn):=by unfold CG;simp [IntKind.wrap,IntKind.bits,IntKind.signed];omega
         go_wp2_with fail
         refine hK.o _ _ (kn.ltY) fun m=>?_
         (try go_frame);refine aP 5 2 m ?_;refine aR 7 fun K hK=>?_
         have ay:=kn.y1;have aD:=kn.fy 1;go_simp;have b:=kn.mask (IntKind.i64.wrap (M+zn));clear ay aD;refine hK.o _ _ (b.ltY) fun m=>?_
         (try go_frame);refine dN ?_;generalize w8.setCell ⟨Y,1,none⟩ (iT (IntKind.i64.wrap (M+zn)))=w9 at b ⊢;rw [aA.o] at b;have a9:=b.y0;have a5:=b.y1;have a4:=b.ltY;obtain ⟨a7,C⟩:=b.x0;obtain ⟨a8,B⟩:=b.x1;have ad:=b.fx 0;have a3:=b.fx 1;have a0:=b.nxy;have f:CG (cJ w _ R a len r _ X Y gl 1 1 (M+zn) LL):=b;go_wp2;refine bodyPost_ret (v:=.agg #[sL gl 1 1,iT (M+zn)]) (by simp [results,Tryz.results138,go_sem,C,B]) rfl ?_;exact f.o.done (by omega) D.o (Dk (by omega)) (by omega) _ _
       · go_simp;refine (dF Nx R _ a len r gb 0 3 3 _ d.rd (by omega) (by omega) (by omega) bR bl cb).mono ?_;rintro e w8 ⟨zn,rfl,az,R8,O⟩;have kn:=d.read O R8;obtain ⟨b2,b1⟩:=az;have aA:CG (IntKind.i64.wrap (M+zn)=M+zn):=by unfold CG;simp [IntKind.wrap,IntKind.bits,IntKind.signed];omega
         go_wp2_with fail
         refine hK.o _ _ (kn.ltY) fun m=>?_
         (try go_frame);refine aR 1 fun K hK=>?_
         have ax:=kn.y1;go_simp;clear ax;refine hK.o _ _ (kn.ltY) fun m=>?_
         (try go_frame);refine aP 5 2 m ?_;refine aR 7 fun K hK=>?_
         have ay:=kn.y1;have aD:=kn.fy 1;go_simp;have b:=kn.mask (IntKind.i64.wrap (M+zn));clear ay aD;refine hK.o _ _ (b.ltY) fun m=>?_
         (try go_frame);refine dN ?_;generalize w8.setCell ⟨Y,1,none⟩ (iT (IntKind.i64.wrap (M+zn)))=w9 at b ⊢;rw [aA.o] at b;have a9:=b.y0;have a5:=b.y1;have a4:=b.ltY;obtain ⟨a7,C⟩:=b.x0;obtain ⟨a8,B⟩:=b.x1;have ad:=b.fx 0;have a3:=b.fx 1;have a0:=b.nxy;have f:CG (cJ w _ R a len r _ X Y gl 1 1 (M+zn) LL):=b;go_wp2;refine bodyPost_ret (v:=.agg #[sL gl 1 1,iT (M+zn)]) (by simp [results,Tryz.results138,go_sem,C,B]) rfl ?_;exact f.o.done (by omega) D.o (Dk (by omega)) (by omega) _ _
   by_cases z1:z=1
   · subst z1;go_wp2_with fail
     have y:=T.o.below (Below.refl _ w6).drew;have aV:True:=trivial;refine wp_region_held_drew (S:=(fun w'=>w'.cell? ⟨Y,0,none⟩=some (sL gl 1 1)∧Y<w'.heap.size∧gl<w'.heap.size)) (by kernel_rfl) (⟨y.y0,y.ltY,y.own.lt.2⟩) (fun m=>?_);generalize w6.drew=u at y m ⊢;refine aP 0 10 m ?_;refine aR 10 fun K hK=>?_
     obtain ⟨J,E,F,H,I,N,e0,e1,e2,e3,e4⟩:=y.at D.o ap;go_simp;clear e0 e1 e2 e3 e4;refine hK.o _ _ (⟨y.y0,y.ltY,y.own.lt.2⟩) fun m=>?_
     (try go_frame);refine aR 11 fun K hK=>?_
     go_simp;refine (eu R _ a len r _ _ _ _ _ _ y.rd (by omega) N).mono ?_;rintro e cz ⟨d4,cY,cW,bt,cX,cB,rfl,bM,c2,ct,bG⟩;have av:=y.read bG c2;go_wp2_with fail
     refine hK.o _ _ (⟨av.y0,av.ltY,av.own.lt.2⟩) fun m=>?_
     (try go_frame);refine aR 12 fun K hK=>?_
     go_simp;refine (eu R _ a len r _ _ _ _ _ _ av.rd (by omega) bM).mono ?_;rintro e cM ⟨cU,cZ,d0,cL,cy,d5,rfl,c5,bS,cr,bH⟩;have aB:=av.read bH bS;go_wp2_with fail
     refine hK.o _ _ (⟨aB.y0,aB.ltY,aB.own.lt.2⟩) fun m=>?_
     (try go_frame);refine aR 13 fun K hK=>?_
     go_simp;refine (eu R _ a len r _ _ _ _ _ _ aB.rd (by omega) c5).mono ?_;rintro e bF ⟨aI,aK,aM,aU,aN,cA,rfl,bq,bP,cl,bN⟩;have U:=aB.read bN bP;go_wp2_with fail
     refine hK.o _ _ (⟨U.y0,U.ltY,U.own.lt.2⟩) fun m=>?_
     (try go_frame);refine aP 14 1 m ?_;refine aR 15 fun K hK=>?_
     obtain ⟨x0,x1,x2,x3,x4⟩:=U.own.entsAt.cells _ rfl k (by rw [U.own.len];exact ap);simp only [C6] at x0 x1 x2 x3 x4;have y0:=U.own.owns.frozenAt (k*5);have y1:=U.own.owns.frozenAt (k*5+1);have y2:=U.own.owns.frozenAt (k*5+2);have y3:=U.own.owns.frozenAt (k*5+3);have y4:=U.own.owns.frozenAt (k*5+4);go_simp;have b:=U.put ap aI aK aM aU aN (fH bq);clear x0 x1 x2 x3 x4 y0 y1 y2 y3 y4;refine hK.o _ _ (⟨b.y0,b.ltY,b.own.lt.2⟩) fun m=>?_
     (try go_frame);refine dN ?_;generalize ((((bF.setCell ⟨gl,k*5,none⟩ (.string aI)).setCell ⟨gl,k*5+1,none⟩ (iT aM)).setCell ⟨gl,k*5+2,none⟩ (iT aU)).setCell ⟨gl,k*5+3,none⟩ (.string aK)).setCell ⟨gl,k*5+4,none⟩ (iT aN)=w9 at b ⊢;have a6:CG (ft (LL.set k (aI,aM,aU,aK,aN))):=tT D.o bq;have a9:=b.y0;have a5:=b.y1;have a4:=b.ltY;obtain ⟨a7,C⟩:=b.x0;obtain ⟨a8,B⟩:=b.x1;have ad:=b.fx 0;have a3:=b.fx 1;have a0:=b.nxy;have f:CG (cJ w _ R a len r _ X Y gl 1 1 M (LL.set k (aI,aM,aU,aK,aN))):=b;go_wp2;refine bodyPost_ret (v:=.agg #[sL gl 1 1,iT M]) (by simp [results,Tryz.results138,go_sem,C,B]) rfl ?_;exact f.o.done (by omega) a6.o (Dk (by omega)) (by omega) _ _
   by_cases z2:z=2
   · subst z2;go_wp2_with fail
     have y:=T.o.below (Below.refl _ w6).drew;have aV:True:=trivial;refine wp_region_held_drew (S:=(fun w'=>Y<w'.heap.size)) (by kernel_rfl) (y.ltY) (fun m=>?_);generalize w6.drew=u at y m ⊢;refine aP 0 1 m ?_;refine aP 2 1 m ?_;refine aP 4 1 m ?_;refine jX 1 3 (fun K hK=>?_) fun K hK=>?_
     · have A:=y.y0;go_simp;clear A;refine hK.o _ _ (y.ltY) fun m=>?_
       (try go_frame);refine aR 3 fun K hK=>?_
       have A:=y.y0;go_simp;clear A;refine hK.o _ _ (y.ltY) fun m=>?_
       (try go_frame);refine aP 5 1 m ?_;refine aR 6 fun K hK=>?_
       obtain ⟨J,E,F,H,I,N,e0,e1,e2,e3,e4⟩:=y.at D.o ap;go_simp;clear e0 e1 e2 e3 e4;refine hK.o _ _ (y.ltY) fun m=>?_
       (try go_frame);refine aR 7 fun K hK=>?_
       go_simp;have kc:Bl u (u.alloc (.cells #[.string J,iT F,iT H,.string E,iT I] 50)):=bZ;have d:=y.below kc;have rN:ag (u.alloc (.cells #[.string J,iT F,iT H,.string E,iT I] 50)) (some ⟨u.heap.size,0,none⟩) 1 1 [(J,F,H,E,I)]:=cK u _ _ _ _ _ (fH N);generalize u.heap.size=gb at rN ⊢;generalize u.alloc (.cells #[.string J,iT F,iT H,.string E,iT I] 50)=wb at d rN ⊢;refine hK.o _ _ (d.ltY) fun m=>?_
       (try go_frame);refine aR 8 fun K hK=>?_
       refine aw rfl (.tmp 50) (.tmp 56) 28 rfl gl 50 i0 _ 5 56 Tryz.underlying28 hi b3 aX aY rfl (Dz 4) _ _ _ rfl d.own.rebase.owns ⟨gb,0,none⟩ 1 1 (aC [(J,F,H,E,I)]) rfl rfl (bi rN) (aL _) ?_ ?_ ?_ ?_
       · unfold maxLen;omega
       · omega
       · exact EP d.own.lt.2
       intro v8 w8 Z Q al;obtain ⟨O,c8,rfl⟩:=aF Z al;have t:wb.grownBy w8 (some gl):=Q;refine hK.o _ _ (l' d.ltY Q.size) fun m=>?_
       (try go_frame);refine aP 9 1 m ?_;refine aR 10 fun K hK=>?_
       have ak:af w8 gl O (1+1) c8 (LL++[(J,F,H,E,I)]):=⟨by rw [aJ];exact Z,by simp [d.own.len],fW (cC D.o (bV N))⟩;have b:=d.grewTo t ak (by omega);have A:=(aj t (x:=⟨Y,0,none⟩) d.ltY (Ne.symm d.ngy)).trans d.y0;have am:=(bn t (x:=⟨Y,0,none⟩) d.ltY (fun e=>d.ngy (by cases e;rfl))).trans (d.fy 0);go_simp;clear A am;refine hK.o _ _ (b.ltY) fun m=>?_
       (try go_frame);refine dN ?_;generalize w8.setCell ⟨Y,0,none⟩ (sL O (1+1) c8)=w9 at b ⊢;have a6:CG (ft (LL++[(J,F,H,E,I)])):=cC D.o (bV N);have a9:=b.y0;have a5:=b.y1;have a4:=b.ltY;obtain ⟨a7,C⟩:=b.x0;obtain ⟨a8,B⟩:=b.x1;have ad:=b.fx 0;have a3:=b.fx 1;have a0:=b.nxy;have f:CG (cJ w _ R a len r _ X Y O (1+1) c8 M (LL++[(J,F,H,E,I)])):=b;go_wp2;refine bodyPost_ret (v:=.agg #[sL O (1+1) c8,iT M]) (by simp [results,Tryz.results138,go_sem,C,B]) rfl ?_;exact f.o.done (by omega) a6.o (Dk (by omega)) (by omega) _ _
     · have A:=y.y0;go_simp;clear A;refine hK.o _ _ (y.ltY) fun m=>?_
       (try go_frame);refine aP 5 1 m ?_;refine jX 1 6 (fun K hK=>?_) fun K hK=>?_
       · have A:=y.y0;go_simp;clear A;refine hK.o _ _ (y.ltY) fun m=>?_
         (try go_frame);refine aR 6 fun K hK=>?_
         obtain ⟨J,E,F,H,I,N,e0,e1,e2,e3,e4⟩:=y.at D.o ap;go_simp;clear e0 e1 e2 e3 e4;refine hK.o _ _ (y.ltY) fun m=>?_
         (try go_frame);refine aR 7 fun K hK=>?_
         go_simp;have kc:Bl u (u.alloc (.cells #[.string J,iT F,iT H,.string E,iT I] 50)):=bZ;have d:=y.below kc;have rN:ag (u.alloc (.cells #[.string J,iT F,iT H,.string E,iT I] 50)) (some ⟨u.heap.size,0,none⟩) 1 1 [(J,F,H,E,I)]:=cK u _ _ _ _ _ (fH N);generalize u.heap.size=gb at rN ⊢;generalize u.alloc (.cells #[.string J,iT F,iT H,.string E,iT I] 50)=wb at d rN ⊢;refine hK.o _ _ (d.ltY) fun m=>?_
         (try go_frame);refine aR 8 fun K hK=>?_
         refine aw rfl (.tmp 50) (.tmp 56) 28 rfl gl 50 i0 _ 5 56 Tryz.underlying28 hi b3 aX aY rfl (Dz 4) _ _ _ rfl d.own.rebase.owns ⟨gb,0,none⟩ 1 1 (aC [(J,F,H,E,I)]) rfl rfl (bi rN) (aL _) ?_ ?_ ?_ ?_
         · unfold maxLen;omega
         · omega
         · exact EP d.own.lt.2
         intro v8 w8 Z Q al;obtain ⟨O,c8,rfl⟩:=aF Z al;have t:wb.grownBy w8 (some gl):=Q;refine hK.o _ _ (l' d.ltY Q.size) fun m=>?_
         (try go_frame);refine aP 9 1 m ?_;refine aR 10 fun K hK=>?_
         have ak:af w8 gl O (1+1) c8 (LL++[(J,F,H,E,I)]):=⟨by rw [aJ];exact Z,by simp [d.own.len],fW (cC D.o (bV N))⟩;have b:=d.grewTo t ak (by omega);have A:=(aj t (x:=⟨Y,0,none⟩) d.ltY (Ne.symm d.ngy)).trans d.y0;have am:=(bn t (x:=⟨Y,0,none⟩) d.ltY (fun e=>d.ngy (by cases e;rfl))).trans (d.fy 0);go_simp;clear A am;refine hK.o _ _ (b.ltY) fun m=>?_
         (try go_frame);refine dN ?_;generalize w8.setCell ⟨Y,0,none⟩ (sL O (1+1) c8)=w9 at b ⊢;have a6:CG (ft (LL++[(J,F,H,E,I)])):=cC D.o (bV N);have a9:=b.y0;have a5:=b.y1;have a4:=b.ltY;obtain ⟨a7,C⟩:=b.x0;obtain ⟨a8,B⟩:=b.x1;have ad:=b.fx 0;have a3:=b.fx 1;have a0:=b.nxy;have f:CG (cJ w _ R a len r _ X Y O (1+1) c8 M (LL++[(J,F,H,E,I)])):=b;go_wp2;refine bodyPost_ret (v:=.agg #[sL O (1+1) c8,iT M]) (by simp [results,Tryz.results138,go_sem,C,B]) rfl ?_;exact f.o.done (by omega) a6.o (Dk (by omega)) (by omega) _ _
       · obtain ⟨J,E,F,H,I,N,e0,e1,e2,e3,e4⟩:=y.at D.o ap;go_simp;clear e0 e1 e2 e3 e4;refine hK.o _ _ (y.ltY) fun m=>?_
         (try go_frame);refine jX 1 7 (fun K hK=>?_) fun K hK=>?_
         · have A:=y.y0;go_simp;clear A;refine hK.o _ _ (y.ltY) fun m=>?_
           (try go_frame);refine aR 7 fun K hK=>?_
           go_simp;have kc:Bl u (u.alloc (.cells #[.string J,iT F,iT H,.string E,iT I] 50)):=bZ;have d:=y.below kc;have rN:ag (u.alloc (.cells #[.string J,iT F,iT H,.string E,iT I] 50)) (some ⟨u.heap.size,0,none⟩) 1 1 [(J,F,H,E,I)]:=cK u _ _ _ _ _ (fH N);generalize u.heap.size=gb at rN ⊢;generalize u.alloc (.cells #[.string J,iT F,iT H,.string E,iT I] 50)=wb at d rN ⊢;refine hK.o _ _ (d.ltY) fun m=>?_
           (try go_frame);refine aR 8 fun K hK=>?_
           refine aw rfl (.tmp 50) (.tmp 56) 28 rfl gl 50 i0 _ 5 56 Tryz.underlying28 hi b3 aX aY rfl (Dz 4) _ _ _ rfl d.own.rebase.owns ⟨gb,0,none⟩ 1 1 (aC [(J,F,H,E,I)]) rfl rfl (bi rN) (aL _) ?_ ?_ ?_ ?_
           · unfold maxLen;omega
           · omega
           · exact EP d.own.lt.2
           intro v8 w8 Z Q al;obtain ⟨O,c8,rfl⟩:=aF Z al;have t:wb.grownBy w8 (some gl):=Q;refine hK.o _ _ (l' d.ltY Q.size) fun m=>?_
           (try go_frame);refine aP 9 1 m ?_;refine aR 10 fun K hK=>?_
           have ak:af w8 gl O (1+1) c8 (LL++[(J,F,H,E,I)]):=⟨by rw [aJ];exact Z,by simp [d.own.len],fW (cC D.o (bV N))⟩;have b:=d.grewTo t ak (by omega);have A:=(aj t (x:=⟨Y,0,none⟩) d.ltY (Ne.symm d.ngy)).trans d.y0;have am:=(bn t (x:=⟨Y,0,none⟩) d.ltY (fun e=>d.ngy (by cases e;rfl))).trans (d.fy 0);go_simp;clear A am;refine hK.o _ _ (b.ltY) fun m=>?_
           (try go_frame);refine dN ?_;generalize w8.setCell ⟨Y,0,none⟩ (sL O (1+1) c8)=w9 at b ⊢;have a6:CG (ft (LL++[(J,F,H,E,I)])):=cC D.o (bV N);have a9:=b.y0;have a5:=b.y1;have a4:=b.ltY;obtain ⟨a7,C⟩:=b.x0;obtain ⟨a8,B⟩:=b.x1;have ad:=b.fx 0;have a3:=b.fx 1;have a0:=b.nxy;have f:CG (cJ w _ R a len r _ X Y O (1+1) c8 M (LL++[(J,F,H,E,I)])):=b;go_wp2;refine bodyPost_ret (v:=.agg #[sL O (1+1) c8,iT M]) (by simp [results,Tryz.results138,go_sem,C,B]) rfl ?_;exact f.o.done (by omega) a6.o (Dk (by omega)) (by omega) _ _
         · go_simp;have kc:Bl u (u.alloc (.cells #[.string J,iT F,iT H,.string E,iT I] 50)):=bZ;have d:=y.below kc;have rN:ag (u.alloc (.cells #[.string J,iT F,iT H,.string E,iT I] 50)) (some ⟨u.heap.size,0,none⟩) 1 1 [(J,F,H,E,I)]:=cK u _ _ _ _ _ (fH N);generalize u.heap.size=gb at rN ⊢;generalize u.alloc (.cells #[.string J,iT F,iT H,.string E,iT I] 50)=wb at d rN ⊢;refine hK.o _ _ (d.ltY) fun m=>?_
           (try go_frame);refine aR 1 fun K hK=>?_
           have A:=d.y0;go_simp;clear A;refine hK.o _ _ (d.ltY) fun m=>?_
           (try go_frame);refine aR 8 fun K hK=>?_
           refine aw rfl (.tmp 50) (.tmp 56) 28 rfl gl 50 i0 _ 5 56 Tryz.underlying28 hi b3 aX aY rfl (Dz 4) _ _ _ rfl d.own.rebase.owns ⟨gb,0,none⟩ 1 1 (aC [(J,F,H,E,I)]) rfl rfl (bi rN) (aL _) ?_ ?_ ?_ ?_
           · unfold maxLen;omega
           · omega
           · exact EP d.own.lt.2
           intro v8 w8 Z Q al;obtain ⟨O,c8,rfl⟩:=aF Z al;have t:wb.grownBy w8 (some gl):=Q;refine hK.o _ _ (l' d.ltY Q.size) fun m=>?_
           (try go_frame);refine aP 9 1 m ?_;refine aR 10 fun K hK=>?_
           have ak:af w8 gl O (1+1) c8 (LL++[(J,F,H,E,I)]):=⟨by rw [aJ];exact Z,by simp [d.own.len],fW (cC D.o (bV N))⟩;have b:=d.grewTo t ak (by omega);have A:=(aj t (x:=⟨Y,0,none⟩) d.ltY (Ne.symm d.ngy)).trans d.y0;have am:=(bn t (x:=⟨Y,0,none⟩) d.ltY (fun e=>d.ngy (by cases e;rfl))).trans (d.fy 0);go_simp;clear A am;refine hK.o _ _ (b.ltY) fun m=>?_
           (try go_frame);refine dN ?_;generalize w8.setCell ⟨Y,0,none⟩ (sL O (1+1) c8)=w9 at b ⊢;have a6:CG (ft (LL++[(J,F,H,E,I)])):=cC D.o (bV N);have a9:=b.y0;have a5:=b.y1;have a4:=b.ltY;obtain ⟨a7,C⟩:=b.x0;obtain ⟨a8,B⟩:=b.x1;have ad:=b.fx 0;have a3:=b.fx 1;have a0:=b.nxy;have f:CG (cJ w _ R a len r _ X Y O (1+1) c8 M (LL++[(J,F,H,E,I)])):=b;go_wp2;refine bodyPost_ret (v:=.agg #[sL O (1+1) c8,iT M]) (by simp [results,Tryz.results138,go_sem,C,B]) rfl ?_;exact f.o.done (by omega) a6.o (Dk (by omega)) (by omega) _ _
   by_cases z3:z=3
   · subst z3;have y:=(T.o.below ((Below.refl w6.heap.size w6).alloc (Cy _) (.cells #[] 50)));have oE:af (w6.alloc (.cells #[] 50)) w.heap.size w6.heap.size 0 0 []:=bI w6 _ T.o.gr.size;have b:=y.ents oE T.o.ltX (by have:=T.o.ltY;omega);have bp:=T.o.y0;have bk:=T.o.fy 0;have b4:=T.o.ltY;rw [World.setCell_alloc_past _ _ _ _ b4] at b;clear y oE;go_upto_region 17 with fail
     clear bp bk b4 T;generalize w6.heap.size=g9 at b ⊢;generalize (w6.setCell ⟨Y,0,none⟩ (sL g9 0 0)).alloc (.cells #[] 50)=w9 at b ⊢;have a9:=b.y0;have a5:=b.y1;have a4:=b.ltY;obtain ⟨a7,C⟩:=b.x0;obtain ⟨a8,B⟩:=b.x1;have ad:=b.fx 0;have a3:=b.fx 1;have a0:=b.nxy;have f:CG (cJ w _ R a len r _ X Y g9 0 0 M []):=b;go_wp2;refine bodyPost_ret (v:=.agg #[sL g9 0 0,iT M]) (by simp [results,Tryz.results138,go_sem,C,B]) rfl ?_;exact f.o.done (by omega) (fun e he=>by cases he) (Dk (by omega)) (by omega) _ _
   by_cases z4:z=4
   · subst z4;have b:=T.o.mask 65535;have bp:=T.o.y0;have cQ:=T.o.y1;have bk:=T.o.fy 1;have b4:=T.o.ltY;have d2:=T.o.ltX;obtain ⟨cG,bY⟩:=T.o.x0;obtain ⟨cO,bt⟩:=T.o.x1;have cR:=T.o.fx 0;have d1:=T.o.fx 1;have a0:=T.o.nxy;have f:CG (cJ w _ R a len r _ X Y gl 1 1 65535 LL):=b;clear b;go_wp2;refine bodyPost_ret (v:=.agg #[sL gl 1 1,iT 65535]) (by simp [results,Tryz.results138,go_sem,bY,bt]) rfl ?_;exact f.o.done (by omega) D.o (Dk (by omega)) (by omega) _ _
   have k6:=T.o;have a9:=k6.y0;have a5:=k6.y1;have a4:=k6.ltY;obtain ⟨a7,C⟩:=k6.x0;obtain ⟨a8,B⟩:=k6.x1;have ad:=k6.fx 0;have a3:=k6.fx 1;have a0:=k6.nxy;have f:CG (cJ w _ R a len r _ X Y gl 1 1 M LL):=k6;go_wp2;refine bodyPost_ret (v:=.agg #[sL gl 1 1,iT M]) (by simp [results,Tryz.results138,go_sem,C,B]) rfl ?_;exact f.o.done (by omega) D.o (Dk (by omega)) (by omega) _ _
 · have d8:¬((n:Nat):Int)=0:=by omega
   have d6:1≤n:=by omega
   have c4:X<g:=by omega
   have D:CG (ft L):=c0.o;have aT:CG (af w1 w.heap.size g n c L):=bT.o;have bu:CG (aZ w1 R a len r P1):=bA.o;have bc:CG (w.grownBy w1 (some R)):=bo.o;have bh:=x0;have bg:=x1;have bj:=fx;have bw:=zX;clear bT bA bo c0 x0 x1 fx zX bC bm;go_wp2_with fail
   refine (sC _ n c L w1 aT.o.entsAt).mono ?_;rintro e wr ⟨rfl,aq⟩;obtain ⟨M,hM⟩:∃M:Int,M=((cV L:Nat):Int):=⟨_,rfl⟩;have cP:0≤M:=by omega
   have cH:M<65536:=by have:=lq L;omega
   rw [← hM];clear hM;obtain ⟨Y,hY⟩:=aH wr.heap.size;obtain ⟨W,hW⟩:=aH (wr.alloc (.cells #[sL g n c,iT M] 63));have kW:Bl wr W:=by rw [hW];exact bZ
   have kk:=aq.trans (kW.mono aq.size);have S0:CG (cJ w W R a len r P1 X Y g n c M L):=⟨bu.o.below kk,ae bc.o (aS kk),⟨_,cell_later kk bh⟩,⟨_,cell_later kk bg⟩,(fun o=>(kk.frozen (p:=⟨X,o,none⟩) bw).trans (bj o)),by rw [hW,hY];simp,by rw [hW,hY];simp,(fun o=>by rw [hW,hY];exact Ey wr _ _ o),aT.o.below kk,ch,by have:=bc.o.size;have:=aq.size;omega,cq.o,by have:=aq.size;omega,c4,by have:=aT.o.lt.2;have:=aq.size;omega,bB.o⟩;have bJ:=S0.o.ltY;go_wp2_with fail
   rw [← hW,← hY];clear hW hY kW kk aq bh bg bj bw bu bc aT bJ;refine (bX R P1 a len r _ W S0.o.rd (by omega) (by omega)).mono ?_;rintro e w5 ⟨qk,rfl,b8,R5,g5⟩;have S5:CG (cJ w w5 R a len r (P1+1) X Y g n c M L):=S0.o.read g5 R5;obtain ⟨k,hk⟩:=DL b8.1;subst hk;have ap:k<n:=by have:=b8.2 (by omega);omega
   have ci:(k:Int)<((n:Nat):Int):=by omega
   have ce:(k:Int)<n:=by omega
   clear R5 g5 S0 b8;go_wp2_with fail
   refine (bX R (P1+1) a len r _ w5 S5.o.rd (by omega) (by omega)).mono ?_;rintro e w6 ⟨z,rfl,hz,R6,g6⟩;have T:CG (cJ w w6 R a len r (P1+1+1) X Y g n c M L):=S5.o.read g6 R6;clear R6 g6 S5 hz;by_cases z0:z=0
   · subst z0;go_wp2_with fail
     have y:=T.o.below (Below.refl _ w6).drew;have aV:True:=trivial;refine wp_region_held_drew (S:=(fun w'=>Y<w'.heap.size)) (by kernel_rfl) (y.ltY) (fun m=>?_);generalize w6.drew=u at y m ⊢;refine aP 0 1 m ?_;refine aP 2 1 m ?_;refine jX 1 3 (fun K hK=>?_) fun K hK=>?_
     · have ax:=y.y1;go_simp;clear ax;refine hK.o _ _ (y.ltY) fun m=>?_
       (try go_frame);refine aR 3 fun K hK=>?_
       go_simp;have kc:Bl u (u.alloc (.cells ((([1,-1,65536]:List Int).map iT).toArray) 3)):=bZ;have d:=y.below kc;have cb:=dl u 3 [1,-1,65536] Nx (by intro s hs;simp only [Da,Dr,or_false] at hs;rcases hs with rfl | rfl | rfl <;> (unfold Nx;decide));have bR:u.heap.size≠R:=by have:=y.rd.lt;omega
       have bl:u.heap.size<(u.alloc (.cells ((([1,-1,65536]:List Int).map iT).toArray) 3)).heap.size:=by simp
       simp only [Ep,Ev] at kc d cb bl;generalize u.heap.size=gb at cb bR bl ⊢;generalize u.alloc (.cells #[iT 1,iT (-1),iT 65536] 3)=wb at d cb bl ⊢;refine hK.o _ _ (d.ltY) fun m=>?_
       (try go_frame);refine aR 4 fun K hK=>?_
       go_simp;refine (dF Nx R _ a len r gb 0 3 3 _ d.rd (by omega) (by omega) (by omega) bR bl cb).mono ?_;rintro e w8 ⟨zn,rfl,az,R8,O⟩;have kn:=d.read O R8;obtain ⟨b2,b1⟩:=az;have aA:CG (IntKind.i64.wrap (M+zn)=M+zn):=by unfold CG;simp [IntKind.wrap,IntKind.bits,IntKind.signed];omega
       go_wp2_with fail
       refine hK.o _ _ (kn.ltY) fun m=>?_
       (try go_frame);refine aP 5 2 m ?_;refine aR 7 fun K hK=>?_
       have ay:=kn.y1;have aD:=kn.fy 1;go_simp;have b:=kn.mask (IntKind.i64.wrap (M+zn));clear ay aD;refine hK.o _ _ (b.ltY) fun m=>?_
       (try go_frame);refine dN ?_;generalize w8.setCell ⟨Y,1,none⟩ (iT (IntKind.i64.wrap (M+zn)))=w9 at b ⊢;rw [aA.o] at b;have a9:=b.y0;have a5:=b.y1;have a4:=b.ltY;obtain ⟨a7,C⟩:=b.x0;obtain ⟨a8,B⟩:=b.x1;have ad:=b.fx 0;have a3:=b.fx 1;have a0:=b.nxy;have f:CG (cJ w _ R a len r _ X Y g n c (M+zn) L):=b;go_wp2;refine bodyPost_ret (v:=.agg #[sL g n c,iT (M+zn)]) (by simp [results,Tryz.results138,go_sem,C,B]) rfl ?_;exact f.o.done (by omega) D.o (Dk (by omega)) (by omega) _ _
     · go_simp;have kc:Bl u (u.alloc (.cells ((([1,-1,65536]:List Int).map iT).toArray) 3)):=bZ;have d:=y.below kc;have cb:=dl u 3 [1,-1,65536] Nx (by intro s hs;simp only [Da,Dr,or_false] at hs;rcases hs with rfl | rfl | rfl <;> (unfold Nx;decide));have bR:u.heap.size≠R:=by have:=y.rd.lt;omega
       have bl:u.heap.size<(u.alloc (.cells ((([1,-1,65536]:List Int).map iT).toArray) 3)).heap.size:=by simp
       simp only [Ep,Ev] at kc d cb bl;generalize u.heap.size=gb at cb bR bl ⊢;generalize u.alloc (.cells #[iT 1,iT (-1),iT 65536] 3)=wb at d cb bl ⊢;refine hK.o _ _ (d.ltY) fun m=>?_
       (try go_frame);refine jX 1 4 (fun K hK=>?_) fun K hK=>?_
       · have ax:=d.y1;go_simp;clear ax;refine hK.o _ _ (d.ltY) fun m=>?_
         (try go_frame);refine aR 4 fun K hK=>?_
         go_simp;refine (dF Nx R _ a len r gb 0 3 3 _ d.rd (by omega) (by omega) (by omega) bR bl cb).mono ?_;rintro e w8 ⟨zn,rfl,az,R8,O⟩;have kn:=d.read O R8;obtain ⟨b2,b1⟩:=az;have aA:CG (IntKind.i64.wrap (M+zn)=M+zn):=by unfold CG;simp [IntKind.wrap,IntKind.bits,IntKind.signed];omega
         go_wp2_with fail
         refine hK.o _ _ (kn.ltY) fun m=>?_
         (try go_frame);refine aP 5 2 m ?_;refine aR 7 fun K hK=>?_
         have ay:=kn.y1;have aD:=kn.fy 1;go_simp;have b:=kn.mask (IntKind.i64.wrap (M+zn));clear ay aD;refine hK.o _ _ (b.ltY) fun m=>?_
         (try go_frame);refine dN ?_;generalize w8.setCell ⟨Y,1,none⟩ (iT (IntKind.i64.wrap (M+zn)))=w9 at b ⊢;rw [aA.o] at b;have a9:=b.y0;have a5:=b.y1;have a4:=b.ltY;obtain ⟨a7,C⟩:=b.x0;obtain ⟨a8,B⟩:=b.x1;have ad:=b.fx 0;have a3:=b.fx 1;have a0:=b.nxy;have f:CG (cJ w _ R a len r _ X Y g n c (M+zn) L):=b;go_wp2;refine bodyPost_ret (v:=.agg #[sL g n c,iT (M+zn)]) (by simp [results,Tryz.results138,go_sem,C,B]) rfl ?_;exact f.o.done (by omega) D.o (Dk (by omega)) (by omega) _ _
       · go_simp;refine (dF Nx R _ a len r gb 0 3 3 _ d.rd (by omega) (by omega) (by omega) bR bl cb).mono ?_;rintro e w8 ⟨zn,rfl,az,R8,O⟩;have kn:=d.read O R8;obtain ⟨b2,b1⟩:=az;have aA:CG (IntKind.i64.wrap (M+zn)=M+zn):=by unfold CG;simp [IntKind.wrap,IntKind.bits,IntKind.signed];omega
         go_wp2_with fail
         refine hK.o _ _ (kn.ltY) fun m=>?_
         (try go_frame);refine aR 1 fun K hK=>?_
         have ax:=kn.y1;go_simp;clear ax;refine hK.o _ _ (kn.ltY) fun m=>?_
         (try go_frame);refine aP 5 2 m ?_;refine aR 7 fun K hK=>?_
         have ay:=kn.y1;have aD:=kn.fy 1;go_simp;have b:=kn.mask (IntKind.i64.wrap (M+zn));clear ay aD;refine hK.o _ _ (b.ltY) fun m=>?_
         (try go_frame);refine dN ?_;generalize w8.setCell ⟨Y,1,none⟩ (iT (IntKind.i64.wrap (M+zn)))=w9 at b ⊢;rw [aA.o] at b;have a9:=b.y0;have a5:=b.y1;have a4:=b.ltY;obtain ⟨a7,C⟩:=b.x0;obtain ⟨a8,B⟩:=b.x1;have ad:=b.fx 0;have a3:=b.fx 1;have a0:=b.nxy;have f:CG (cJ w _ R a len r _ X Y g n c (M+zn) L):=b;go_wp2;refine bodyPost_ret (v:=.agg #[sL g n c,iT (M+zn)]) (by simp [results,Tryz.results138,go_sem,C,B]) rfl ?_;exact f.o.done (by omega) D.o (Dk (by omega)) (by omega) _ _
   by_cases z1:z=1
   · subst z1;go_wp2_with fail
     have y:=T.o.below (Below.refl _ w6).drew;have aV:True:=trivial;refine wp_region_held_drew (S:=(fun w'=>w'.cell? ⟨Y,0,none⟩=some (sL g n c)∧Y<w'.heap.size∧g<w'.heap.size)) (by kernel_rfl) (⟨y.y0,y.ltY,y.own.lt.2⟩) (fun m=>?_);generalize w6.drew=u at y m ⊢;refine aP 0 10 m ?_;refine aR 10 fun K hK=>?_
     obtain ⟨J,E,F,H,I,N,e0,e1,e2,e3,e4⟩:=y.at D.o ap;go_simp;clear e0 e1 e2 e3 e4;refine hK.o _ _ (⟨y.y0,y.ltY,y.own.lt.2⟩) fun m=>?_
     (try go_frame);refine aR 11 fun K hK=>?_
     go_simp;refine (eu R _ a len r _ _ _ _ _ _ y.rd (by omega) N).mono ?_;rintro e cz ⟨d4,cY,cW,bt,cX,cB,rfl,bM,c2,ct,bG⟩;have av:=y.read bG c2;go_wp2_with fail
     refine hK.o _ _ (⟨av.y0,av.ltY,av.own.lt.2⟩) fun m=>?_
     (try go_frame);refine aR 12 fun K hK=>?_
     go_simp;refine (eu R _ a len r _ _ _ _ _ _ av.rd (by omega) bM).mono ?_;rintro e cM ⟨cU,cZ,d0,cL,cy,d5,rfl,c5,bS,cr,bH⟩;have aB:=av.read bH bS;go_wp2_with fail
     refine hK.o _ _ (⟨aB.y0,aB.ltY,aB.own.lt.2⟩) fun m=>?_
     (try go_frame);refine aR 13 fun K hK=>?_
     go_simp;refine (eu R _ a len r _ _ _ _ _ _ aB.rd (by omega) c5).mono ?_;rintro e bF ⟨aI,aK,aM,aU,aN,cA,rfl,bq,bP,cl,bN⟩;have U:=aB.read bN bP;go_wp2_with fail
     refine hK.o _ _ (⟨U.y0,U.ltY,U.own.lt.2⟩) fun m=>?_
     (try go_frame);refine aP 14 1 m ?_;refine aR 15 fun K hK=>?_
     obtain ⟨x0,x1,x2,x3,x4⟩:=U.own.entsAt.cells _ rfl k (by rw [U.own.len];exact ap);simp only [C6] at x0 x1 x2 x3 x4;have y0:=U.own.owns.frozenAt (k*5);have y1:=U.own.owns.frozenAt (k*5+1);have y2:=U.own.owns.frozenAt (k*5+2);have y3:=U.own.owns.frozenAt (k*5+3);have y4:=U.own.owns.frozenAt (k*5+4);go_simp;have b:=U.put ap aI aK aM aU aN (fH bq);clear x0 x1 x2 x3 x4 y0 y1 y2 y3 y4;refine hK.o _ _ (⟨b.y0,b.ltY,b.own.lt.2⟩) fun m=>?_
     (try go_frame);refine dN ?_;generalize ((((bF.setCell ⟨g,k*5,none⟩ (.string aI)).setCell ⟨g,k*5+1,none⟩ (iT aM)).setCell ⟨g,k*5+2,none⟩ (iT aU)).setCell ⟨g,k*5+3,none⟩ (.string aK)).setCell ⟨g,k*5+4,none⟩ (iT aN)=w9 at b ⊢;have a6:CG (ft (L.set k (aI,aM,aU,aK,aN))):=tT D.o bq;have a9:=b.y0;have a5:=b.y1;have a4:=b.ltY;obtain ⟨a7,C⟩:=b.x0;obtain ⟨a8,B⟩:=b.x1;have ad:=b.fx 0;have a3:=b.fx 1;have a0:=b.nxy;have f:CG (cJ w _ R a len r _ X Y g n c M (L.set k (aI,aM,aU,aK,aN))):=b;go_wp2;refine bodyPost_ret (v:=.agg #[sL g n c,iT M]) (by simp [results,Tryz.results138,go_sem,C,B]) rfl ?_;exact f.o.done (by omega) a6.o (Dk (by omega)) (by omega) _ _
   by_cases z2:z=2
   · subst z2;go_wp2_with fail
     have y:=T.o.below (Below.refl _ w6).drew;have aV:True:=trivial;refine wp_region_held_drew (S:=(fun w'=>Y<w'.heap.size)) (by kernel_rfl) (y.ltY) (fun m=>?_);generalize w6.drew=u at y m ⊢;refine aP 0 1 m ?_;refine aP 2 1 m ?_;refine aP 4 1 m ?_;refine jX 1 3 (fun K hK=>?_) fun K hK=>?_
     · have A:=y.y0;go_simp;clear A;refine hK.o _ _ (y.ltY) fun m=>?_
       (try go_frame);refine aR 3 fun K hK=>?_
       have A:=y.y0;go_simp;clear A;refine hK.o _ _ (y.ltY) fun m=>?_
       (try go_frame);refine aP 5 1 m ?_;refine aR 6 fun K hK=>?_
       obtain ⟨J,E,F,H,I,N,e0,e1,e2,e3,e4⟩:=y.at D.o ap;go_simp;clear e0 e1 e2 e3 e4;refine hK.o _ _ (y.ltY) fun m=>?_
       (try go_frame);refine aR 7 fun K hK=>?_
       go_simp;have kc:Bl u (u.alloc (.cells #[.string J,iT F,iT H,.string E,iT I] 50)):=bZ;have d:=y.below kc;have rN:ag (u.alloc (.cells #[.string J,iT F,iT H,.string E,iT I] 50)) (some ⟨u.heap.size,0,none⟩) 1 1 [(J,F,H,E,I)]:=cK u _ _ _ _ _ (fH N);generalize u.heap.size=gb at rN ⊢;generalize u.alloc (.cells #[.string J,iT F,iT H,.string E,iT I] 50)=wb at d rN ⊢;refine hK.o _ _ (d.ltY) fun m=>?_
       (try go_frame);refine aR 8 fun K hK=>?_
       refine aw rfl (.tmp 50) (.tmp 56) 28 rfl g 50 i0 _ 5 56 Tryz.underlying28 hi b3 aX aY rfl (Dz 4) _ _ _ rfl d.own.rebase.owns ⟨gb,0,none⟩ 1 1 (aC [(J,F,H,E,I)]) rfl rfl (bi rN) (aL _) ?_ ?_ ?_ ?_
       · unfold maxLen;omega
       · omega
       · exact EP d.own.lt.2
       intro v8 w8 Z Q al;obtain ⟨O,c8,rfl⟩:=aF Z al;have t:wb.grownBy w8 (some g):=Q;refine hK.o _ _ (l' d.ltY Q.size) fun m=>?_
       (try go_frame);refine aP 9 1 m ?_;refine aR 10 fun K hK=>?_
       have ak:af w8 g O (n+1) c8 (L++[(J,F,H,E,I)]):=⟨by rw [aJ];exact Z,by simp [d.own.len],fW (cC D.o (bV N))⟩;have b:=d.grewTo t ak (by omega);have A:=(aj t (x:=⟨Y,0,none⟩) d.ltY (Ne.symm d.ngy)).trans d.y0;have am:=(bn t (x:=⟨Y,0,none⟩) d.ltY (fun e=>d.ngy (by cases e;rfl))).trans (d.fy 0);go_simp;clear A am;refine hK.o _ _ (b.ltY) fun m=>?_
       (try go_frame);refine dN ?_;generalize w8.setCell ⟨Y,0,none⟩ (sL O (n+1) c8)=w9 at b ⊢;have a6:CG (ft (L++[(J,F,H,E,I)])):=cC D.o (bV N);have a9:=b.y0;have a5:=b.y1;have a4:=b.ltY;obtain ⟨a7,C⟩:=b.x0;obtain ⟨a8,B⟩:=b.x1;have ad:=b.fx 0;have a3:=b.fx 1;have a0:=b.nxy;have f:CG (cJ w _ R a len r _ X Y O (n+1) c8 M (L++[(J,F,H,E,I)])):=b;go_wp2;refine bodyPost_ret (v:=.agg #[sL O (n+1) c8,iT M]) (by simp [results,Tryz.results138,go_sem,C,B]) rfl ?_;exact f.o.done (by omega) a6.o (Dk (by omega)) (by omega) _ _
     · have A:=y.y0;go_simp;clear A;refine hK.o _ _ (y.ltY) fun m=>?_
       (try go_frame);refine aP 5 1 m ?_;refine jX 1 6 (fun K hK=>?_) fun K hK=>?_
       · have A:=y.y0;go_simp;clear A;refine hK.o _ _ (y.ltY) fun m=>?_
         (try go_frame);refine aR 6 fun K hK=>?_
         obtain ⟨J,E,F,H,I,N,e0,e1,e2,e3,e4⟩:=y.at D.o ap;go_simp;clear e0 e1 e2 e3 e4;refine hK.o _ _ (y.ltY) fun m=>?_
         (try go_frame);refine aR 7 fun K hK=>?_
         go_simp;have kc:Bl u (u.alloc (.cells #[.string J,iT F,iT H,.string E,iT I] 50)):=bZ;have d:=y.below kc;have rN:ag (u.alloc (.cells #[.string J,iT F,iT H,.string E,iT I] 50)) (some ⟨u.heap.size,0,none⟩) 1 1 [(J,F,H,E,I)]:=cK u _ _ _ _ _ (fH N);generalize u.heap.size=gb at rN ⊢;generalize u.alloc (.cells #[.string J,iT F,iT H,.string E,iT I] 50)=wb at d rN ⊢;refine hK.o _ _ (d.ltY) fun m=>?_
         (try go_frame);refine aR 8 fun K hK=>?_
         refine aw rfl (.tmp 50) (.tmp 56) 28 rfl g 50 i0 _ 5 56 Tryz.underlying28 hi b3 aX aY rfl (Dz 4) _ _ _ rfl d.own.rebase.owns ⟨gb,0,none⟩ 1 1 (aC [(J,F,H,E,I)]) rfl rfl (bi rN) (aL _) ?_ ?_ ?_ ?_
         · unfold maxLen;omega
         · omega
         · exact EP d.own.lt.2
         intro v8 w8 Z Q al;obtain ⟨O,c8,rfl⟩:=aF Z al;have t:wb.grownBy w8 (some g):=Q;refine hK.o _ _ (l' d.ltY Q.size) fun m=>?_
         (try go_frame);refine aP 9 1 m ?_;refine aR 10 fun K hK=>?_
         have ak:af w8 g O (n+1) c8 (L++[(J,F,H,E,I)]):=⟨by rw [aJ];exact Z,by simp [d.own.len],fW (cC D.o (bV N))⟩;have b:=d.grewTo t ak (by omega);have A:=(aj t (x:=⟨Y,0,none⟩) d.ltY (Ne.symm d.ngy)).trans d.y0;have am:=(bn t (x:=⟨Y,0,none⟩) d.ltY (fun e=>d.ngy (by cases e;rfl))).trans (d.fy 0);go_simp;clear A am;refine hK.o _ _ (b.ltY) fun m=>?_
         (try go_frame);refine dN ?_;generalize w8.setCell ⟨Y,0,none⟩ (sL O (n+1) c8)=w9 at b ⊢;have a6:CG (ft (L++[(J,F,H,E,I)])):=cC D.o (bV N);have a9:=b.y0;have a5:=b.y1;have a4:=b.ltY;obtain ⟨a7,C⟩:=b.x0;obtain ⟨a8,B⟩:=b.x1;have ad:=b.fx 0;have a3:=b.fx 1;have a0:=b.nxy;have f:CG (cJ w _ R a len r _ X Y O (n+1) c8 M (L++[(J,F,H,E,I)])):=b;go_wp2;refine bodyPost_ret (v:=.agg #[sL O (n+1) c8,iT M]) (by simp [results,Tryz.results138,go_sem,C,B]) rfl ?_;exact f.o.done (by omega) a6.o (Dk (by omega)) (by omega) _ _
       · obtain ⟨J,E,F,H,I,N,e0,e1,e2,e3,e4⟩:=y.at D.o ap;go_simp;clear e0 e1 e2 e3 e4;refine hK.o _ _ (y.ltY) fun m=>?_
         (try go_frame);refine jX 1 7 (fun K hK=>?_) fun K hK=>?_
         · have A:=y.y0;go_simp;clear A;refine hK.o _ _ (y.ltY) fun m=>?_
           (try go_frame);refine aR 7 fun K hK=>?_
           go_simp;have kc:Bl u (u.alloc (.cells #[.string J,iT F,iT H,.string E,iT I] 50)):=bZ;have d:=y.below kc;have rN:ag (u.alloc (.cells #[.string J,iT F,iT H,.string E,iT I] 50)) (some ⟨u.heap.size,0,none⟩) 1 1 [(J,F,H,E,I)]:=cK u _ _ _ _ _ (fH N);generalize u.heap.size=gb at rN ⊢;generalize u.alloc (.cells #[.string J,iT F,iT H,.string E,iT I] 50)=wb at d rN ⊢;refine hK.o _ _ (d.ltY) fun m=>?_
           (try go_frame);refine aR 8 fun K hK=>?_
           refine aw rfl (.tmp 50) (.tmp 56) 28 rfl g 50 i0 _ 5 56 Tryz.underlying28 hi b3 aX aY rfl (Dz 4) _ _ _ rfl d.own.rebase.owns ⟨gb,0,none⟩ 1 1 (aC [(J,F,H,E,I)]) rfl rfl (bi rN) (aL _) ?_ ?_ ?_ ?_
           · unfold maxLen;omega
           · omega
           · exact EP d.own.lt.2
           intro v8 w8 Z Q al;obtain ⟨O,c8,rfl⟩:=aF Z al;have t:wb.grownBy w8 (some g):=Q;refine hK.o _ _ (l' d.ltY Q.size) fun m=>?_
           (try go_frame);refine aP 9 1 m ?_;refine aR 10 fun K hK=>?_
           have ak:af w8 g O (n+1) c8 (L++[(J,F,H,E,I)]):=⟨by rw [aJ];exact Z,by simp [d.own.len],fW (cC D.o (bV N))⟩;have b:=d.grewTo t ak (by omega);have A:=(aj t (x:=⟨Y,0,none⟩) d.ltY (Ne.symm d.ngy)).trans d.y0;have am:=(bn t (x:=⟨Y,0,none⟩) d.ltY (fun e=>d.ngy (by cases e;rfl))).trans (d.fy 0);go_simp;clear A am;refine hK.o _ _ (b.ltY) fun m=>?_
           (try go_frame);refine dN ?_;generalize w8.setCell ⟨Y,0,none⟩ (sL O (n+1) c8)=w9 at b ⊢;have a6:CG (ft (L++[(J,F,H,E,I)])):=cC D.o (bV N);have a9:=b.y0;have a5:=b.y1;have a4:=b.ltY;obtain ⟨a7,C⟩:=b.x0;obtain ⟨a8,B⟩:=b.x1;have ad:=b.fx 0;have a3:=b.fx 1;have a0:=b.nxy;have f:CG (cJ w _ R a len r _ X Y O (n+1) c8 M (L++[(J,F,H,E,I)])):=b;go_wp2;refine bodyPost_ret (v:=.agg #[sL O (n+1) c8,iT M]) (by simp [results,Tryz.results138,go_sem,C,B]) rfl ?_;exact f.o.done (by omega) a6.o (Dk (by omega)) (by omega) _ _
         · go_simp;have kc:Bl u (u.alloc (.cells #[.string J,iT F,iT H,.string E,iT I] 50)):=bZ;have d:=y.below kc;have rN:ag (u.alloc (.cells #[.string J,iT F,iT H,.string E,iT I] 50)) (some ⟨u.heap.size,0,none⟩) 1 1 [(J,F,H,E,I)]:=cK u _ _ _ _ _ (fH N);generalize u.heap.size=gb at rN ⊢;generalize u.alloc (.cells #[.string J,iT F,iT H,.string E,iT I] 50)=wb at d rN ⊢;refine hK.o _ _ (d.ltY) fun m=>?_
           (try go_frame);refine aR 1 fun K hK=>?_
           have A:=d.y0;go_simp;clear A;refine hK.o _ _ (d.ltY) fun m=>?_
           (try go_frame);refine aR 8 fun K hK=>?_
           refine aw rfl (.tmp 50) (.tmp 56) 28 rfl g 50 i0 _ 5 56 Tryz.underlying28 hi b3 aX aY rfl (Dz 4) _ _ _ rfl d.own.rebase.owns ⟨gb,0,none⟩ 1 1 (aC [(J,F,H,E,I)]) rfl rfl (bi rN) (aL _) ?_ ?_ ?_ ?_
           · unfold maxLen;omega
           · omega
           · exact EP d.own.lt.2
           intro v8 w8 Z Q al;obtain ⟨O,c8,rfl⟩:=aF Z al;have t:wb.grownBy w8 (some g):=Q;refine hK.o _ _ (l' d.ltY Q.size) fun m=>?_
           (try go_frame);refine aP 9 1 m ?_;refine aR 10 fun K hK=>?_
           have ak:af w8 g O (n+1) c8 (L++[(J,F,H,E,I)]):=⟨by rw [aJ];exact Z,by simp [d.own.len],fW (cC D.o (bV N))⟩;have b:=d.grewTo t ak (by omega);have A:=(aj t (x:=⟨Y,0,none⟩) d.ltY (Ne.symm d.ngy)).trans d.y0;have am:=(bn t (x:=⟨Y,0,none⟩) d.ltY (fun e=>d.ngy (by cases e;rfl))).trans (d.fy 0);go_simp;clear A am;refine hK.o _ _ (b.ltY) fun m=>?_
           (try go_frame);refine dN ?_;generalize w8.setCell ⟨Y,0,none⟩ (sL O (n+1) c8)=w9 at b ⊢;have a6:CG (ft (L++[(J,F,H,E,I)])):=cC D.o (bV N);have a9:=b.y0;have a5:=b.y1;have a4:=b.ltY;obtain ⟨a7,C⟩:=b.x0;obtain ⟨a8,B⟩:=b.x1;have ad:=b.fx 0;have a3:=b.fx 1;have a0:=b.nxy;have f:CG (cJ w _ R a len r _ X Y O (n+1) c8 M (L++[(J,F,H,E,I)])):=b;go_wp2;refine bodyPost_ret (v:=.agg #[sL O (n+1) c8,iT M]) (by simp [results,Tryz.results138,go_sem,C,B]) rfl ?_;exact f.o.done (by omega) a6.o (Dk (by omega)) (by omega) _ _
   by_cases z3:z=3
   · subst z3;have y:=(T.o.below ((Below.refl w6.heap.size w6).alloc (Cy _) (.cells #[] 50)));have oE:af (w6.alloc (.cells #[] 50)) w.heap.size w6.heap.size 0 0 []:=bI w6 _ T.o.gr.size;have b:=y.ents oE T.o.ltX (by have:=T.o.ltY;omega);have bp:=T.o.y0;have bk:=T.o.fy 0;have b4:=T.o.ltY;rw [World.setCell_alloc_past _ _ _ _ b4] at b;clear y oE;go_upto_region 17 with fail
     clear bp bk b4 T;generalize w6.heap.size=g9 at b ⊢;generalize (w6.setCell ⟨Y,0,none⟩ (sL g9 0 0)).alloc (.cells #[] 50)=w9 at b ⊢;have a9:=b.y0;have a5:=b.y1;have a4:=b.ltY;obtain ⟨a7,C⟩:=b.x0;obtain ⟨a8,B⟩:=b.x1;have ad:=b.fx 0;have a3:=b.fx 1;have a0:=b.nxy;have f:CG (cJ w _ R a len r _ X Y g9 0 0 M []):=b;go_wp2;refine bodyPost_ret (v:=.agg #[sL g9 0 0,iT M]) (by simp [results,Tryz.results138,go_sem,C,B]) rfl ?_;exact f.o.done (by omega) (fun e he=>by cases he) (Dk (by omega)) (by omega) _ _
   by_cases z4:z=4
   · subst z4;have b:=T.o.mask 65535;have bp:=T.o.y0;have cQ:=T.o.y1;have bk:=T.o.fy 1;have b4:=T.o.ltY;have d2:=T.o.ltX;obtain ⟨cG,bY⟩:=T.o.x0;obtain ⟨cO,bt⟩:=T.o.x1;have cR:=T.o.fx 0;have d1:=T.o.fx 1;have a0:=T.o.nxy;have f:CG (cJ w _ R a len r _ X Y g n c 65535 L):=b;clear b;go_wp2;refine bodyPost_ret (v:=.agg #[sL g n c,iT 65535]) (by simp [results,Tryz.results138,go_sem,bY,bt]) rfl ?_;exact f.o.done (by omega) D.o (Dk (by omega)) (by omega) _ _
   have k6:=T.o;have a9:=k6.y0;have a5:=k6.y1;have a4:=k6.ltY;obtain ⟨a7,C⟩:=k6.x0;obtain ⟨a8,B⟩:=k6.x1;have ad:=k6.fx 0;have a3:=k6.fx 1;have a0:=k6.nxy;have f:CG (cJ w _ R a len r _ X Y g n c M L):=k6;go_wp2;refine bodyPost_ret (v:=.agg #[sL g n c,iT M]) (by simp [results,Tryz.results138,go_sem,C,B]) rfl ?_;exact f.o.done (by omega) D.o (Dk (by omega)) (by omega) _ _
end Go.Proofs.YtpobkmjicbobdaaGreat
namespace Go.Proofs.YtpobkmjicbobdaaGreat
open Go.RowKit
set_option maxRecDepth 100000
set_option maxHeartbeats 16000000
end Go.Proofs.YtpobkmjicbobdaaGreat
