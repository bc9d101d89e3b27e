/- Walks. -/
import Derived.Test.YtpobkmjicbobdaaGreatBc42
namespace Go.Proofs.YtpobkmjicbobdaaGreat
set_option maxRecDepth 100000
set_option maxHeartbeats 40000000
open Go.RowKit
variable {M:List ae} {S:List Int} {V:List (List aj)} {q:Int}
theorem qs (B:List aj) (key:ByteArray) (seq:Int):aR (bi B) key seq=bf B key seq:=by
 unfold aR bi bf aR;rw [List.filter_flatMap]
theorem xI (B:List aj) (key:ByteArray) (seq:Int):aR (bf B key seq) key seq=bf B key seq:=by
 rw [← qs,sP]
theorem yQ {L:List ae} (h:fS L) (key:ByteArray) (seq:Int):D8 (aR L key seq):=by
 unfold D8 aR;rw [List.pairwise_filter];refine h.imp fun {x y} b hx hy e=>b ?_
 simp only [FJ,decide_eq_true_eq] at hx hy;exact ⟨hx.1.trans hy.1.symm,e⟩
theorem C5 (h:aY q M V S=true) (key:ByteArray) (seq:Int):gH (fW q M V S) key seq=eU M V key seq:=by
 obtain ⟨A,B,C,rfl⟩:=eS h;have d:fS (M++(bi A++(bi B++bi C))):=(jE h).perm (ic M A B C) (fun {x y} b e=>b ⟨e.1.symm,e.2.symm⟩);have hp:(fW q M [A,B,C] S).Perm (M++(bi A++(bi B++bi C))):=by
  unfold fW;rw [if_pos h];exact (bO _).2.trans (parts_flat M A B C)
 have e1:aR (M++[A,B,C].flatMap (fun Z=>bf Z key seq)) key seq=aR (M++(bi A++(bi B++bi C))) key seq:=by
  simp only [Hr,List.flatMap_nil,GR,qt,qs,xI]
 unfold eU gH;rw [e1,Au (B:=aR (fW q M [A,B,C] S) key seq) (yQ d key seq) (hp.symm.filter _)]
def gL (V:List (List aj)):Nat:=(V.map lV).sum
theorem C3 (h:aY q M V S=true):(fW q M V S).length=gL V+M.length:=by
 obtain ⟨A,B,C,rfl⟩:=eS h;unfold fW;rw [if_pos h,(bO _).2.length_eq,(parts_flat M A B C).length_eq];simp only [Fy,vh,gL,Gx,GO,List.sum_cons,List.sum_nil];omega
theorem sE {i:Nat} {B:List aj} (h:V[i]?=some B):gL (V.take (i+1))=gL (V.take i)+lV B:=by
 unfold gL;rw [FU,h];simp
theorem yV (B:List aj) (k:Nat):lV (B.take k)≤lV B:=by
 have h:lV B=lV (B.take k)+lV (B.drop k):=by
  unfold lV;rw [← List.sum_append,← GM,FX]
 omega
theorem Ae (V:List (List aj)) (k:Nat):gL (V.take k)≤gL V:=by
 have h:gL V=gL (V.take k)+gL (V.drop k):=by
  unfold gL;rw [← List.sum_append,← GM,FX]
 omega
theorem xE:gL V≤De V:=by
 unfold gL De;induction V with
 | nil=>simp
 | cons B V b=>simp only [Gx,List.sum_cons];omega
end Go.Proofs.YtpobkmjicbobdaaGreat
namespace Go.Proofs.YtpobkmjicbobdaaGreat
open Go.RowKit
set_option maxRecDepth 100000
theorem vr {s b:ByteArray} (h:¬s=b):¬s.toList=b.toList:=fun e=>h (by
 rw [F1,F1] at e
 obtain ⟨⟨x⟩⟩:=s
 obtain ⟨⟨y⟩⟩:=b
 simpa using e)
theorem tw (s t:ByteArray) (q d n:Int) (w:World):(binOp .neq 50 (.agg #[.string s,iT q,iT d,.string t,iT n]) (.agg #[.string s,iT q,iT d,.string t,iT n])).run Tryz.prog w=.ok (.bool false) w:=by
 have hs:=run_equalIn_struct (P:=Tryz.prog) w 9999 50 #[.string s,iT q,iT d,.string t,iT n] #[.string s,iT q,iT d,.string t,iT n] (by kernel_rfl) (by kernel_rfl);simp [binOp,Op.equal,Op.maxDepth,hs,go_sem,Tryz.underlying50]
theorem tx (s t:ByteArray) (q d n:Int) (m f:ByteArray) (b g n':Int) (w:World) (h:¬((s,q,d,t,n):ae)=(m,b,g,f,n')):(binOp .neq 50 (.agg #[.string s,iT q,iT d,.string t,iT n]) (.agg #[.string m,iT b,iT g,.string f,iT n'])).run Tryz.prog w=.ok (.bool true) w:=by
 have hs:=run_equalIn_struct (P:=Tryz.prog) w 9999 50 #[.string s,iT q,iT d,.string t,iT n] #[.string m,iT b,iT g,.string f,iT n'] (by kernel_rfl) (by kernel_rfl);by_cases h1:s=m
 · subst h1;by_cases h2:q=b
   · subst h2;by_cases h3:d=g
     · subst h3;by_cases h4:t=f
       · subst h4;have h5:¬n=n':=fun e=>h (by rw [e])
         simp [binOp,Op.equal,Op.maxDepth,hs,go_sem,Tryz.underlying50,h5]
       · have o:=vr h4;simp [binOp,Op.equal,Op.maxDepth,hs,go_sem,Tryz.underlying50,o]
     · simp [binOp,Op.equal,Op.maxDepth,hs,go_sem,Tryz.underlying50,h3]
   · simp [binOp,Op.equal,Op.maxDepth,hs,go_sem,Tryz.underlying50,h2]
 · have h4:=vr h1;simp [binOp,Op.equal,Op.maxDepth,hs,go_sem,Tryz.underlying50,h4]
theorem tN {d b:List ae} {k:Nat} {l:ae} (h1:d[k]?=some l) (h2:b[k]?=some l) (h:d.take k=b.take k):d.take (k+1)=b.take (k+1):=by
 rw [FU,FU,h1,h2,h]
end Go.Proofs.YtpobkmjicbobdaaGreat
namespace Go.Proofs.YtpobkmjicbobdaaGreat
open Go.RowKit
set_option maxRecDepth 100000
end Go.Proofs.YtpobkmjicbobdaaGreat
namespace Go.Proofs.YtpobkmjicbobdaaGreat
set_option maxRecDepth 100000
set_option maxHeartbeats 40000000
open Go.RowKit
variable {M:List ae} {S:List Int} {V:List (List aj)} {ak am av:Option Addr} {cm cs cv nm ns nv:Nat} {q:Int} {w:World}
theorem vO (a1 a2:Option Addr) (b c1 n2 c2:Nat) (g m:List ae) (w:World) (h1:ah w a1 b c1 g) (h2:ah w a2 n2 c2 m) :
 Calls Tryz.prog 41 #[.slice a1 b c1,.slice a2 n2 c2] w fun e w'=>e=.returned (.bool (decide (g=m)))∧Bl w w':=by
 have f:Eq (g.length=b):=h1.length;have y:Eq (m.length=n2):=h2.length;have W:=h1.room;have I:=h1.big;have X:=h2.room;have J:=h2.big;unfold maxLen at I J;have Q:=bT h1;have R:=bT h2;clear h1 h2;by_cases hn:b=n2
 · subst hn;go_enter Tryz.func41,Tryz.ntmps41
   go_wp2;go_loopw [5] (fun i wr=>∃k:Nat,k≤b∧i=iT k∧Bl w wr∧g.take k=m.take k) (fun i _=>b - (intOf i).toNat)
   case atStart=>exact ⟨0,FB _,rfl,Below.refl _ _,rfl⟩
   case round =>
    obtain ⟨k,hk,rfl,hb,x⟩:=hrel;have r:Eq (g.take k=m.take k):=x;clear x;by_cases B:k<b
    · obtain ⟨x1,o1,rfl,L⟩:=Q.o.form (by omega);obtain ⟨x2,Y,rfl,K⟩:=R.o.form (by omega);obtain ⟨s,q,d,t,n,hg,_,g0,Z,g2,g3,g4⟩:=Q.o.ent hb L k B;obtain ⟨D,F,H,C,E,A,_,p0,p1,p2,p3,p4⟩:=R.o.ent hb K k B;have N:Eq (g[k]?=some (s,q,d,t,n)):=hg;have u:Eq (m[k]?=some (D,F,H,C,E)):=A;have T:(k:Int)<(b:Int):=by omega
      clear hg A;by_cases hl:(s,q,d,t,n)=(D,F,H,C,E)
      · cases hl;have O:=tw s t q d n;go_wp2_with fail
        go_quiet (fail)
        go_wp2;go_roundw
        case rel=>exact ⟨k+1,by omega,by go_num,below_drewN hb _,tN N.o u.o r.o⟩
        case measure=>simp [intOf];omega
      · have O:=fun w=>tx s t q d n D C F H E w hl
        have U:Eq (¬(s,q,d,t,n)=(D,F,H,C,E)):=hl;clear hl;go_wp2_with fail
        go_quiet (fail)
        go_wp2;go_ret;refine ⟨aq (decide_eq_false ?_).symm,below_drewN hb _⟩;intro e;rw [e,u.o] at N;exact U.o (by simpa [Eq] using N.symm)
    · go_wp2;go_ret;refine ⟨aq (decide_eq_true ?_).symm,hb⟩;have:=r.o;rw [FH (by rw [f.o];omega),FH (by rw [y.o];omega)] at this;exact this
 · go_enter Tryz.func41,Tryz.ntmps41
   go_wp2;go_ret;refine ⟨aq (decide_eq_false ?_).symm,Below.refl _ _⟩;intro e;rw [e,y.o] at f;exact hn f.o.symm
def DW (L:List ae) (w:World) (e:Ending) (w':World):Prop:=∃a n c,e=.returned (.slice a n c)∧ah w' a n c L∧Bl w w'
theorem B9 (h:qK w q am nm cm av nv cv ak ns cs M V S) :
 Calls Tryz.prog 29 #[.agg #[iT q,.slice am nm cm,.slice av nv cv,.slice ak ns cs]] w (DW (fW q M V S) w):=by
 refine (vd 0 q _ _ _ _ _ _ _ _ _ M V S w h.2.1 (fun b=>by have:=(f6 b).1;omega) (fun b=>(f6 b).2.1) (fun b=>(f6 b).2.2)).mono ?_;rintro e w' ⟨⟨a,n,rfl,ho⟩,hb⟩;exact ⟨a,n,n,rfl,ho.entsAt,hb⟩
theorem Be (h:qK w q am nm cm av nv cv ak ns cs M V S) :
 Calls Tryz.prog 42 #[.agg #[iT q,.slice am nm cm,.slice av nv cv,.slice ak ns cs]] w (DW (fW q M V S) w):=by
 refine (uo 0 q _ _ _ _ _ _ _ _ _ M V S w h.2.1 (fun b=>by have:=(f6 b).1;omega)).mono ?_;rintro e w' ⟨g,n,c,rfl,ho,hb⟩;exact ⟨_,n,c,rfl,ho.entsAt,hb⟩
theorem DO (h:aY q M V S=true):∀e ∈ fW q M V S,e.2.2.2.1.size≤281474976710656:=fun e b=>by
 obtain ⟨A,B,C,rfl⟩:=eS h
 have hs:=f6 h
 unfold fW at b
 rw [if_pos h] at b
 exact (xZ hs.2.1 hs.2.2 e ((parts_flat M A B C).mem_iff.1 ((bO _).2.mem_iff.1 b))).2
theorem pe (a:Option Addr) (len al:Nat) (w:World) (h:lc w a len al) :
 Calls Tryz.prog 8 #[.slice a len al] w fun e w'=>e=.returned (.bool true)∧Bl w w':=by
 have H:=bT h;have hm:=FK h.1 h.2.1;unfold maxLen at hm;clear h;by_cases hbig:1048576<len
 · go_enter Tryz.func8,Tryz.ntmps8
   go_wp2;go_ret;exact ⟨rfl,Below.refl _ _⟩
 go_enter Tryz.func8,Tryz.ntmps8
 go_wp2_with fail
 refine (qv a len al w H.o).mono ?_;rintro e w1 ⟨q,am,nm,cm,av,nv,cv,ak,ns,cs,M,V,S,key,I,rfl,⟨hX,_⟩,ad⟩;obtain ⟨E,A⟩:=aG (EC q M V S);obtain ⟨TB,a0⟩:=aG (aY q M V S);obtain ⟨g,O⟩:=aG (fW q M V S);obtain ⟨X,a7⟩:=aG w1.heap.size;obtain ⟨W,hW⟩:=aG (w1.alloc (.cells #[iT q,.slice am nm cm,.slice av nv cv,.slice ak ns cs] 31));have kW:Bl w1 W:=by rw [hW];exact bZ
 have BX:Eq (aE W X (iT q) (.slice am nm cm) (.slice av nv cv) (.slice ak ns cs)):=by rw [hW,a7];exact aE.new _ _ _ _ _ _
 have KW:Eq (Bl w W):=ad.trans (kW.mono ad.size);have r:=hX.keep kW;have HX:Eq (qK W q am nm cm av nv cv ak ns cs M V S):=r;have CI:Eq (∀k t w',Bl W w'→Calls Tryz.prog 39 #[.agg #[iT q,.slice am nm cm,.slice av nv cv,.slice ak ns cs],.string k,iT t] w' (tW (E k t) w')):=fun k t w' x=>by rw [A];exact z7 (r.keep x) k t
 have CS:Eq (∀k t w',Bl W w'→Calls Tryz.prog 40 #[.agg #[iT q,.slice am nm cm,.slice av nv cv,.slice ak ns cs],.string k,iT t] w' (tW (E k t) w')):=fun k t w' x=>by rw [A];exact zj (r.keep x) k t
 have CO:Eq (∀w',Bl W w'→Calls Tryz.prog 27 #[.agg #[iT q,.slice am nm cm,.slice av nv cv,.slice ak ns cs]] w' fun e bt=>e=.returned (.bool TB)∧Bl w' bt):=fun w' x=>by rw [a0];exact gZ 0 q _ _ _ _ _ _ _ _ _ M V S w' (r.keep x).2.1
 have CA:Eq (∀w',Bl W w'→Calls Tryz.prog 29 #[.agg #[iT q,.slice am nm cm,.slice av nv cv,.slice ak ns cs]] w' (DW g w')):=fun w' x=>by rw [O];exact B9 (r.keep x)
 have CB:Eq (∀w',Bl W w'→Calls Tryz.prog 42 #[.agg #[iT q,.slice am nm cm,.slice av nv cv,.slice ak ns cs]] w' (DW g w')):=fun w' x=>by rw [O];exact Be (r.keep x)
 have HF:Eq (TB=true→V.length=3∧M.length+gL V≤100000∧g.length=gL V+M.length∧(∀e ∈ g,e.2.2.2.1.size≤281474976710656)∧gH g key I=E key I∧E key 0=En):=fun C=>by
  rw [a0] at C;have hs:=(f6 C).1;have hv:=xE (V:=V);rw [O,A];refine ⟨(aZ C).2.2.2.2.2.1,by omega,C3 C,DO C,?_,?_⟩
  · unfold EC;rw [if_pos C];exact C5 C key I
  · unfold EC;rw [if_pos C];exact ue C key (Int.le_refl 0)
 have HG:Eq (TB=false→E key I=En):=fun C=>by
  rw [A];unfold EC;rw [if_neg (by rw [← a0,C];simp)]
 clear ad kW hX r A a0 O H;obtain ⟨rb,rt,rn,hc⟩:∃rb rt rn,E key I=(rb,rt,rn):=⟨_,_,_,rfl⟩;have HC:Eq (E key I=(rb,rt,rn)):=hc;clear hc;go_upto_region 4 with fail
 rw [← hW];try rw [← a7]
 clear hW a7;have x0:=BX.o.all;go_wp2_with fail
 clear x0;refine (CI.o key I _ (Below.refl _ _)).mono ?_;rintro e w2 h2;obtain ⟨rfl,ai⟩:=h2.as HC.o;obtain ⟨Z,hZ⟩:=aG w2.heap.size;obtain ⟨w3,R⟩:=aG (w2.alloc (.cells #[.bool rb,.string rt,iT rn] 57));have k3:Bl w2 w3:=by rw [R];exact bZ
 have F:Eq (Bl W w3):=ai.trans (k3.mono ai.size);have HZ:Eq (w3.cell? ⟨Z,0,none⟩=some (.bool rb)∧w3.cell? ⟨Z,1,none⟩=some (.string rt)∧w3.cell? ⟨Z,2,none⟩=some (iT rn)):=by
  rw [R,hZ];refine ⟨?_,?_,?_⟩ <;> simp
 clear h2 ai k3;go_upto_region 5 with fail
 rw [← R];try rw [← hZ]
 clear R hZ;have f:Eq (∀w',Bl w3 w'→(fun w':World=>w'.cell? ⟨X,0,none⟩=some (iT q)∧w'.cell? ⟨X,1,none⟩=some (.slice am nm cm)∧w'.cell? ⟨X,2,none⟩=some (.slice av nv cv)∧w'.cell? ⟨X,3,none⟩=some (.slice ak ns cs)∧w'.cell? ⟨Z,0,none⟩=some (.bool rb)∧w'.cell? ⟨Z,1,none⟩=some (.string rt)∧w'.cell? ⟨Z,2,none⟩=some (iT rn)∧X<w'.heap.size∧Z<w'.heap.size) w'):=fun w' k=>by
  have b:=BX.o.keep (F.o.trans (k.mono F.o.size));have z0:=cell_later k HZ.o.1;have z1:=Fu _ _ z0;exact ⟨b.c0,b.c1,b.c2,b.c3,z0,cell_later k HZ.o.2.1,cell_later k HZ.o.2.2,b.lt,z1⟩
 have a6:Eq (∀k t w',Bl w3 w'→Calls Tryz.prog 39 #[.agg #[iT q,.slice am nm cm,.slice av nv cv,.slice ak ns cs],.string k,iT t] w' (tW (E k t) w')):=fun k t w' x=>CI.o k t w' (F.o.trans (x.mono F.o.size))
 have aK:Eq (∀k t w',Bl w3 w'→Calls Tryz.prog 40 #[.agg #[iT q,.slice am nm cm,.slice av nv cv,.slice ak ns cs],.string k,iT t] w' (tW (E k t) w')):=fun k t w' x=>CS.o k t w' (F.o.trans (x.mono F.o.size))
 have d:=(Below.refl w3.heap.size w3).drew;refine eJ f d fun u=>?_
 generalize w3.drew=wd at u d ⊢;refine aP 0 4 u ?_;refine aQ 4 fun K hK=>?_
 go_simp;refine (aK.o key I _ d).mono ?_;rintro e w4 aq;obtain ⟨rfl,ap⟩:=aq.as HC.o;have d:=d.trans (ap.mono d.size);clear ap aq;go_wp2_with fail
 refine hK.o _ _ (f.o _ d) fun u=>?_
 (try go_frame);refine aP 5 1 u ?_;refine dN ?_;have K4:Eq (Bl w3 w4):=d;have J:Eq (Bl W w4):=F.o.trans (d.mono F.o.size);clear u d CI CS aK;have Y:=f.o _ K4.o;obtain ⟨x0,x1,x2,x3,_,_,_,xz,_⟩:=Y;go_wp2_with fail
 clear x0;refine (CA.o _ J.o).mono ?_;rintro e w5 ⟨aa,na,ca,rfl,aB,a4⟩;have K5:Eq (Bl w3 w5):=K4.o.trans (a4.mono K4.o.size);have T:Eq (Bl W w5):=J.o.trans (a4.mono J.o.size);have aL:Eq (ah w5 aa na ca g):=aB;clear aB a4 K4 J CA;have Y:=f.o _ K5.o;obtain ⟨x0,x1,x2,x3,_,_,_,xz,_⟩:=Y;go_wp2_with fail
 clear x0;refine (CB.o _ T.o).mono ?_;rintro e w6 ⟨ab,nb,cb,rfl,aI,N⟩;have K6:Eq (Bl w3 w6):=K5.o.trans (N.mono K5.o.size);have an:Eq (Bl W w6):=T.o.trans (N.mono T.o.size);have a5:Eq (ah w6 aa na ca g):=aL.o.keep N;have aw:Eq (ah w6 ab nb cb g):=aI;clear aI N K5 T CB aL;go_wp2_with fail
 refine (vO _ _ _ _ _ _ g g _ a5.o aw.o).mono ?_;rintro e w7 ⟨rfl,Q⟩;rw [decide_eq_true rfl];have K7:Eq (Bl w3 w7):=K6.o.trans (Q.mono K6.o.size);have a1:Eq (Bl W w7):=an.o.trans (Q.mono an.o.size);have aA:Eq (ah w7 aa na ca g):=a5.o.keep Q;clear Q K6 an a5 aw;have Y:=f.o _ K7.o;obtain ⟨x0,x1,x2,x3,_,_,_,xz,_⟩:=Y;go_wp2_with fail
 clear x0;refine (CO.o _ a1.o).mono ?_;rintro e D ⟨rfl,U⟩;have K8:Eq (Bl w3 D):=K7.o.trans (U.mono K7.o.size);have aF:Eq (Bl W D):=a1.o.trans (U.mono a1.o.size);have aJ:Eq (ah D aa na ca g):=aA.o.keep U;clear U K7 a1 aA CO;cases TB with
 | false =>
  have hn:=HC.o;rw [HG.o rfl] at hn;unfold En at hn;simp only [Prod.mk.injEq] at hn;obtain ⟨rfl,rfl,rfl⟩:=hn;have Y:=f.o _ K8.o;obtain ⟨_,_,_,_,z0,z1,z2,_,zz⟩:=Y;clear HF HG HC a6;go_wp2;go_ret;exact ⟨rfl,KW.o.trans (aF.o.mono KW.o.size)⟩
 | true =>
  obtain ⟨a8,hsz,ay,aH,hca,aM⟩:=HF.o rfl;have ae:Eq (M.length+gL V≤100000):=hsz;have aD:Eq (g.length=gL V+M.length):=ay;have bu:Eq (∀e ∈ g,e.2.2.2.1.size≤281474976710656):=aH;have br:Eq (gH g key I=(rb,rt,rn)):=by rw [hca];exact HC.o
  have b3:Eq (E key 0=(false,⟨#[]⟩,0)):=aM;have y:Eq (qK D q am nm cm av nv cv ak ns cs M V S):=HX.o.keep aF.o;have bw:Eq (V.length=nv):=y.o.2.1.levels.length;obtain ⟨b,rfl⟩:=y.o.2.2.1.some (by intro hv;rw [hv] at a8;simp at a8);clear HF HG HC hsz ay aH hca aM a8 HX;go_wp2;go_loop [8,9] (fun hv iv=>∃i:Nat,iv=iT (i:Int)∧i≤nv∧hv=iT ((gL (V.take i):Nat):Int)) (fun _ iv=>nv - (intOf iv).toNat)
  case atStart=>exact ⟨0,rfl,by omega,rfl⟩
  case round =>
   obtain ⟨i,rfl,hi,rfl⟩:=hrel;have Y:=f.o _ K8.o;obtain ⟨x0,x1,x2,x3,_,_,_,xz,_⟩:=Y;by_cases bl:i<nv
   · have aC:(i:Int)<(nv:Int):=by omega
     have bY:IntKind.i64.wrap ((i:Int)+1)=(i:Int)+1:=by have h1:=y.o.2.1.levels.room;have h2:=y.o.2.1.levels.big;unfold maxLen at h2;rw [FQ];unfold wrap64;omega
     obtain ⟨B,s,n,c,hB,ax,hR⟩:=y.o.2.1.levels.level (Below.refl _ _) i bl;rw [FG] at ax;have b9:=Fu _ _ ax;simp only at b9;have HB:Eq (V[i]?=some B):=hB;have HR:Eq (az 0 D s n c B):=hR;have bB:Eq (B.length=n):=hR.length;have bp:Eq (gL (V.take i)+lV B≤100000):=by
      have h1:=sE hB;have h2:=Ae V (i+1);have h3:=ae.o;show _≤_
      omega
     clear hB hR;go_wp2;go_loop [8,10] (fun hv kv=>∃k:Nat,kv=iT (k:Int)∧k≤n∧hv=iT ((gL (V.take i)+lV (B.take k):Nat):Int)) (fun _ kv=>n - (intOf kv).toNat)
     case atStart=>exact ⟨0,rfl,by omega,by simp [lV]⟩
     case round =>
      obtain ⟨k,rfl,hk,rfl⟩:=hrel;by_cases bC:k<n
      · have au:(k:Int)<(n:Int):=by omega
        have bQ:IntKind.i64.wrap ((k:Int)+1)=(k:Int)+1:=by have h1:=HR.o.room;have h2:=HR.o.big;unfold maxLen at h2;rw [FQ];unfold wrap64;omega
        obtain ⟨bs,os,rfl,bq⟩:=HR.o.form (by omega);obtain ⟨L,m,s1,n1,c1,hL,_,bP,_,hE⟩:=HR.o.run (Below.refl _ _) k bC;have b7:=hE.1.length;have hsn:=A3 hL;have bo:=yV B (k+1);have b6:wrap64 ((gL (V.take i):Int)+(lV (B.take k):Int)+(n1:Int))=((gL (V.take i)+lV (B.take (k+1)):Nat):Int):=by
         have h1:=bp.o;have h2:lV (B.take (k+1))=lV (B.take k)+n1:=by rw [hsn];show _+L.length=_;omega
         unfold wrap64;omega
        have bI:bs<D.heap.size:=bq;clear hsn bo b7 hE hL;go_wp2;go_round
        case rel=>exact ⟨k+1,by rw [show ((k+1:Nat):Int)=(k:Int)+1 by omega],by omega,by rw [b6]⟩
        case measure=>simp [intOf];omega
      · have au:¬(k:Int)<(n:Int):=by omega
        go_wp2;go_round
        case rel=>exact ⟨i+1,by rw [show ((i+1:Nat):Int)=(i:Int)+1 by omega],by omega,by rw [sE HB.o,FH (l:=B) (i:=k) (by have:=bB.o;omega)]⟩
        case measure=>simp [intOf];omega
   · have aC:¬(i:Int)<(nv:Int):=by omega
     have bm:M.length=nm:=y.o.2.1.mem.1.length;have ba:g.length=na:=aJ.o.length;have bf:Eq (gL (V.take i)=gL V):=by show _=_;rw [FH (by have:=bw.o;omega)]
     have bV:IntKind.i64.wrap (((gL (V.take i):Nat):Int)+(nm:Int))=(na:Int):=by
      have h1:=bf.o;have h2:=ae.o;have h3:=aD.o;rw [FQ];unfold wrap64;omega
     have bx:Eq (na≤1048576):=by have h2:=ae.o;have h3:=aD.o;show _≤_;omega
     clear bm ba;go_upto_region 20 with fail
     clear x0;have d:=K8.o.trans ((Below.refl D.heap.size D).drew.mono K8.o.size);have aj:=aJ.o.keep (Below.refl D.heap.size D).drew;refine eJ f d fun u=>?_
     generalize D.drew=wd at u d aj ⊢;refine aP 0 4 u ?_;refine aQ 4 fun K hK=>?_
     go_simp;refine (ow _ _ _ g key I _ aj bx.o bu.o).mono ?_;rintro e w9 aN;rw [br.o] at aN;obtain ⟨rfl,ar⟩:=aN;have d:=d.trans (ar.mono d.size);clear ar aj;unfold eW;go_wp2_with fail
     refine hK.o _ _ (f.o _ d) fun u=>?_
     (try go_frame);refine aP 5 4 u ?_;refine aP 10 1 u ?_;refine aQ 9 fun K hK=>?_
     go_simp;refine (a6.o key 0 _ d).mono ?_;rintro e bk a2;obtain ⟨rfl,a3⟩:=a2.as b3.o;have d:=d.trans (a3.mono d.size);clear a3 a2;go_wp2_with fail
     refine hK.o _ _ (f.o _ d) fun u=>?_
     (try go_frame);refine aP 11 13 u ?_;refine dN ?_;have K9:Eq (Bl w3 bk):=d;clear u f a6 d;go_wp2;go_ret;exact ⟨rfl,KW.o.trans ((F.o.trans (K9.o.mono F.o.size)).mono KW.o.size)⟩
end Go.Proofs.YtpobkmjicbobdaaGreat
