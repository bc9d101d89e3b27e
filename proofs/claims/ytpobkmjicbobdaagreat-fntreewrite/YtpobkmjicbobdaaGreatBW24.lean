/- Walks. -/
import Derived.Test.YtpobkmjicbobdaaGreatBW19
namespace Go.Proofs.YtpobkmjicbobdaaGreat
set_option maxRecDepth 100000
set_option maxHeartbeats 40000000
open Go.RowKit
variable {L:List ac} {a:Option Addr} {base c lo n:Nat} {q:Int} {w:World}
theorem xW {d b f c1 G g c3:Nat} {M:List ac} {V:List (List af)} {S:List Int} {m:Bool} {w':World} {e:Ending} (o:e=.returned (.tuple #[.agg #[iT q,sL f d c1,sL G b c,sL g n c3],.bool m])) (hc:cQ base w' f d c1 G b c g n c3 M V S) (hl:w.heap.size≤base) (hb:Bl w w'):∃n,xB q d b n M V S m w e w' :=
 ⟨n,f,c1,G,c,g,c3,o,hc.mono hl,hb⟩
theorem At (lo:Nat) (q:Int) (N:Option Addr) (b Q:Nat) (O:Option Addr) (d R:Nat) (J:Option Addr) (m cs:Nat) (M:List ac) (V:List (List af)) (S:List Int) (sq:Int) (w:World) (hT:aZ lo w N b Q O d R J m cs M V S) (T:aP q M V S=true) :
 Calls Tryz.prog 45 #[.agg #[iT q,.slice N b Q,.slice O d R,.slice J m cs],iT sq] w (fun e w'=>∃n,xB q b d n M V (ic S sq) (decide (sq ∈ S)) w e w'):=by
 have hsl:=hT.snaps.length;have hns:m≤4:=by
  have h1:=(aL T).2.2.2.2.2.2.1;unfold cG at h1;rw [G2] at h1;have h2:=of_decide_eq_true h1.1;omega
 have bK:b≤60:=by have h1:=(aL T).2.2.1;have h2:=hT.mem.1.length;omega
 obtain ⟨A,B,C,aB⟩:=dX T;have bG:d≤100:=by have h1:=hT.levels.length;rw [aB] at h1;have h2:([A,B,C]:List (List af)).length=3:=rfl;omega
 have b2:∀B ∈ V,B.length≤100∧∀r ∈ B,1≤r.1.length∧r.1.length≤10000:=by
  have h8:fa V q=true:=(aL T).2.2.2.2.2.2.2.1;rw [aB] at h8 ⊢;unfold fa at h8;simp only [G2] at h8;intro Z b0;simp only [GZ,Hs,or_false] at b0;rcases b0 with rfl | rfl | rfl
  · exact cT h8.1 (by omega)
  · exact cT h8.2.1 (by omega)
  · exact cT h8.2.2 (by omega)
 have CO:Eq (∀w',Bl w w'→Calls Tryz.prog 27 #[.agg #[iT q,.slice N b Q,.slice O d R,.slice J m cs]] w' fun e aj=>e=.returned (.bool true)∧Bl w' aj):=fun w' k=>by
  have:=iq lo q _ _ _ _ _ _ _ _ _ M V S w' (hT.keep k);rw [T] at this;exact this
 have CC:Eq (∀w',Bl w w'→Calls Tryz.prog 57 #[.agg #[iT q,.slice N b Q,.slice O d R,.slice J m cs]] w' fun e aj=>∃y c1 G c g3 c3,e=.returned (.agg #[iT q,sL y b c1,sL G d c,sL g3 m c3])∧cQ w'.heap.size aj y b c1 G d c g3 m c3 M V S∧Bl w' aj):=fun w' k=>io lo q N O J b Q d R m cs M V S w' (hT.keep k) (by omega) (by omega) (by omega) b2
 obtain ⟨i0,hi,bb,bk,bi⟩:=info_parts Tryz.infoInt;obtain ⟨X,hX⟩:=aG w.heap.size;obtain ⟨W,hW⟩:=aG ((w.alloc (.cells #[iT q,.slice N b Q,.slice O d R,.slice J m cs] 31)).alloc (.cells #[iT 0,nZ,nZ,nZ] 31));have kW:Bl w W:=by rw [hW];exact bZ.alloc (by simp) _
 have bx:ay W X (iT q) (.slice N b Q) (.slice O d R) (.slice J m cs):=by rw [hW,hX];exact (ay.new _ _ _ _ _ _).alloc _
 have br:ay W (X+1) (iT 0) nZ nZ nZ:=by
  have:=ay.new (w.alloc (.cells #[iT q,.slice N b Q,.slice O d R,.slice J m cs] 31)) 31 (iT 0) nZ nZ nZ;rw [GY] at this;rw [hW,hX];exact this
 have HX:Eq (X=w.heap.size):=hX;have K0:Eq (Bl w W):=kW;have aC:Eq (bJ lo w J m cs S):=hT.snaps;have a8:Eq (S.length=m):=hsl;have bo:Eq (∀z ∈ S,(Lit.int .i64 z).wf=true):=hT.snaps.wfs;clear hT hsl;clear kW b2 T aB;go_enter Tryz.func45,Tryz.ntmps45
 go_wp2_with fail
 rw [← hX,← hW];clear hX hW;refine (CO.o _ K0.o).mono ?_;rintro e w1 ⟨rfl,an⟩;have K1:Eq (Bl w w1):=K0.o.trans (an.mono K0.o.size);have ai:=bx.keep an;have ad:=br.keep an;have x0:=ai.all;clear an bx br;go_wp2_with fail
 clear x0;refine (CC.o _ K1.o).mono ?_;rintro e w2 ⟨y,c1,G,c,g3,c3,rfl,aw,I⟩;obtain ⟨Y,hY⟩:=aG w2.heap.size;obtain ⟨w3,a6⟩:=aG (w2.alloc (.cells #[iT q,sL y b c1,sL G d c,sL g3 m c3] 31));have k3:Bl w2 w3:=by rw [a6];exact bZ
 have K3:Eq (Bl w w3):=(K1.o.trans (I.mono K1.o.size)).trans (k3.mono (GU K1.o.size I.size));have ax:Eq (cQ w1.heap.size w3 y b c1 G d c g3 m c3 M V S):=aw.below k3;have aY:=(ai.keep I).keep k3;have aS:=(ad.keep I).keep k3;have az:ay w3 Y (iT q) (sL y b c1) (sL G d c) (sL g3 m c3):=by rw [a6,hY];exact ay.new _ _ _ _ _ _
 have bp:Eq (X+1<w1.heap.size):=ad.lt;have bm:Eq (w.heap.size≤w1.heap.size):=K1.o.size;have a7:Eq (X<Y∧X+1<Y):=by rw [hY];exact ⟨(ai.keep I).lt,(ad.keep I).lt⟩
 have aA:Eq (aq w3 Y 31 4):=by rw [a6,hY];exact ⟨_,(by show (w2.heap.push _)[w2.heap.size]?=_;exact In),rfl⟩
 have bn:Eq (g3<Y):=by rw [hY];exact (aw.sn.lt g3 rfl).2
 clear I k3 aw ai ad;go_upto_region 4 with fail
 rw [← a6];try rw [← hY]
 clear a6 hY;have y0:=az.all;obtain ⟨w4,ae⟩:=aG ((w3.setCell ⟨Y,3,none⟩ (sL (w3.heap.size) 0 0)).alloc (.cells #[] 3));obtain ⟨ws,x⟩:=aG (w3.setCell ⟨Y,3,none⟩ (sL (w3.heap.size) 0 0));have hsz:ws.heap.size=w3.heap.size:=by rw [x];simp [World.setCell]
 have ka:Bl ws w4:=by rw [ae,← x];exact bZ
 have hbase:w1.heap.size≤w3.heap.size:=by have h1:=(ax.o.sn.lt g3 rfl);omega
 have aX:w4.ownsRow w1.heap.size 3 1 (sL (w3.heap.size) 0 0) 0 []:=by
  refine ⟨rfl,Or.inr ⟨w3.heap.size,0,#[],rfl,hbase,?_,GL _,GQ _,rfl,rfl⟩⟩;rw [ae,← x,← hsz];show (ws.heap.push _)[ws.heap.size]?=_
  exact In
 have aI:Eq (f7 w w4 w1.heap.size X Y (iT q) (.slice N b Q) (.slice O d R) (.slice J m cs) q y b c1 G d c w3.heap.size 0 0 M V (ic (S.take 0) sq)):=by
  have aT:cQ w1.heap.size ws y b c1 G d c g3 m c3 M V S:=by rw [x];exact ax.o.kind aA.o (by decide) (by decide) (by decide) (by decide) (dg _ _ _ _)
  have bh:aq ws Y 31 4:=by rw [x];exact aA.o.setCell _
  have bc:ay ws X (iT q) (.slice N b Q) (.slice O d R) (.slice J m cs):=by rw [x];exact aY.other (by have:=a7.o;omega) _
  have bd:ay ws (X+1) (iT 0) nZ nZ nZ:=by rw [x];exact aS.other (by have:=a7.o;omega) _
  have hby:ay ws Y (iT q) (sL y b c1) (sL G d c) (sL (w3.heap.size) 0 0):=by rw [x];exact az.set3 _
  have ap:Bl w ws:=by rw [x];exact K3.o.setCell (p:=⟨Y,3,none⟩) (by show _≤Y;have:=HX.o;have:=a7.o;omega) _
  have bg:=a7.o;exact ⟨ap.trans (ka.mono ap.size),bc.keep ka,bd.keep ka,hby.keep ka,⟨(aT.below ka).mem,(aT.below ka).levs,rfl,(fun z hz=>by cases hz),aX⟩,bh.below ka,⟨bp.o,bg.2,bm.o,by have:=HX.o;omega⟩⟩
 obtain ⟨g4,aU⟩:=aG w3.heap.size;clear aX ka hbase hsz x;go_wp2;rw [← ae];rw [← aU] at aI;clear ae aU y0 aY aS az ax K3 aA bn a7 CO CC K1 K0;have aN:Eq (∀(k:Nat) (z:Int),S[k]?=some z→∃U os,J=some ⟨U,os,none⟩∧∀w',Bl w w'→w'.cell? ⟨U,os+k,none⟩=some (iT z)∧U<w'.heap.size):=fun k z hz=>by
  have hk:=(F'.1 hz).1;obtain ⟨U,os,rfl,_⟩:=aC.o.form (by rw [← a8.o];omega);refine ⟨U,os,rfl,fun w' kk=>?_⟩;have h1:=(aC.o.keep kk).cells _ rfl k hk;have h2:=(aC.o.keep kk).lies _ rfl (by rw [← a8.o];omega);rw [(F'.1 hz).2] at h1;exact ⟨h1,h2.1⟩
 go_loopw [7] (fun iv wr=>∃(k g D c4:Nat),k≤m∧iv=iT k∧D≤k∧f7 w wr w1.heap.size X Y (iT q) (.slice N b Q) (.slice O d R) (.slice J m cs) q y b c1 G d c g D c4 M V (ic (S.take k) sq)) (fun iv _=>m - (intOf iv).toNat)
 case atStart=>exact ⟨0,g4,0,0,GQ _,rfl,GL _,aI.o⟩
 case round =>
  clear aI;obtain ⟨k,g,D,c4,hk,rfl,aF,aQ⟩:=hrel;have ST:Eq (f7 w wr w1.heap.size X Y (iT q) (.slice N b Q) (.slice O d R) (.slice J m cs) q y b c1 G d c g D c4 M V (ic (S.take k) sq)):=aQ;clear aQ;by_cases ba:k<m
  · have b1:(k:Int)<(m:Int):=by omega
    obtain ⟨z,hz⟩:∃z,S[k]?=some z:=⟨_,j' (by rw [a8.o];exact ba)⟩;have bf:Eq ((Lit.int .i64 z).wf=true):=bo.o z (GP hz);obtain ⟨U,os,rfl,aO⟩:=aN.o k z hz;have t:Eq (∀w',Bl w w'→w'.cell? ⟨U,os+k,none⟩=some (iT z)∧U<w'.heap.size):=aO;clear aO;have x3:=ST.o.bx.c3;have xz:=ST.o.bx.lt;obtain ⟨bz,bl⟩:=t.o _ ST.o.low;by_cases hzs:z=sq
    · subst hzs;have ah:Eq (f7 w wr w1.heap.size X Y (iT q) (.slice N b Q) (.slice O d R) (sO U os m cs) q y b c1 G d c g D c4 M V (ic (S.take (k+1)) z)):=by
       show f7 _ _ _ _ _ _ _ _ _ _ _ _ _ _ _ _ _ _ _ _ _ _
       rw [drop_take hz,if_pos rfl];exact ST.o
      clear hz ST;go_wp2;go_roundw
      case rel=>exact ⟨k+1,g,D,c4,by omega,by go_num,by omega,ah.o⟩
      case measure=>simp [intOf];omega
    · have bj:Eq (ic (S.take (k+1)) sq=ic (S.take k) sq++[z]):=by show _=_;rw [drop_take hz,if_neg hzs]
      have bP:decide (z=sq)=false:=decide_eq_false hzs;have bL:(z == sq)=false:=by simpa using hzs
      clear hz;have f:=ST.o.below (Below.refl _ wr).drew;go_wp2_with fail
      clear x3 xz bz bl;refine wp_region_held_drew (S:=(fun w'=>w'.cell? ⟨X,3,none⟩=some (sO U os m cs)∧w'.cell? ⟨U,os+k,none⟩=some (iT z)∧X<w'.heap.size∧U<w'.heap.size∧Y<w'.heap.size)) (by kernel_rfl) (⟨f.bx.c3,(t.o _ f.low).1,f.bx.lt,(t.o _ f.low).2,f.hy.lt⟩) (fun E=>?_);generalize wr.drew=wd at f E ⊢;refine aR 0 1 E ?_;refine aR 2 5 E ?_;refine mK 1 7 (fun K hK=>?_) fun K hK=>?_
      focus
       have q3:=f.hy.c3
       go_simp
       clear q3
       refine hK.o _ _ (⟨f.bx.c3,(t.o _ f.low).1,f.bx.lt,(t.o _ f.low).2,f.hy.lt⟩) fun E=>?_
       (try go_frame)
       refine aV 7 fun K hK=>?_
       go_simp
       have kc:Bl wd (wd.alloc (.cells #[iT z] 3)):=bZ
       have s:=f.below kc
       have F:=dU wd (iT z) 3
       generalize wd.heap.size=gb at F ⊢
       generalize wd.alloc (.cells #[iT z] 3)=wb at s F ⊢
      rotate_left
      focus
       go_simp
       have kc:Bl wd (wd.alloc (.cells #[iT z] 3)):=bZ
       have s:=f.below kc
       have F:=dU wd (iT z) 3
       generalize wd.heap.size=gb at F ⊢
       generalize wd.alloc (.cells #[iT z] 3)=wb at s F ⊢
       refine hK.o _ _ (⟨s.bx.c3,(t.o _ s.low).1,s.bx.lt,(t.o _ s.low).2,s.hy.lt⟩) fun E=>?_
       (try go_frame)
       refine aV 1 fun K hK=>?_
       have q3:=s.hy.c3
       go_simp
       clear q3
      all_goals
       refine hK.o _ _ (⟨s.bx.c3,(t.o _ s.low).1,s.bx.lt,(t.o _ s.low).2,s.hy.lt⟩) fun E=>?_
       (try go_frame)
       refine aV 8 fun K hK=>?_
       refine aE rfl (.tmp 31) (.tmp 37) 24 rfl w1.heap.size 3 i0 _ 1 8 Tryz.underlying24 hi bb bk bi rfl (by decide) _ _ _ rfl s.cp.sn ⟨gb,0,none⟩ 1 1 [iT z] rfl rfl F (by simp [Value.oneCell']) ?_ ?_ ?_ ?_
       · unfold maxLen;omega
       · omega
       · have h1:=(s.cp.sn.lt g rfl);omega
       intro v8 w8 au bq bM
       obtain ⟨g8,c8,rfl⟩:=ownsRow_succ au
       have u:wb.grownBy w8 (some g):=bq
       have H:Bl w w8:=s.low.grown u s.low.size (fun k e=>by cases e;have h1:=(s.cp.sn.lt g rfl).1;have h2:=s.lows;omega)
       refine hK.o _ _ (⟨(s.bx.grownB u s.ne.1).c3,(t.o _ H).1,(s.bx.grownB u s.ne.1).lt,(t.o _ H).2,(s.hy.grownB u s.ne.2.2).lt⟩) fun E=>?_
       (try go_frame)
       refine aR 9 1 E ?_
       refine aV 10 fun K hK=>?_
       have ag:=s.hy.grownB u s.ne.2.2
       have q3:=ag.c3
       have qf:=ag.fz 3
       have qz:=ag.lt
       go_simp
       have ks:=s.push u au bf.o
       clear q3 qf qz ag
       refine hK.o _ _ (⟨ks.bx.c3,(t.o _ ks.low).1,ks.bx.lt,(t.o _ ks.low).2,ks.hy.lt⟩) fun E=>?_
       (try go_frame);refine dN ?_;have ah:Eq (f7 w (w8.setCell ⟨Y,3,none⟩ (sL g8 (D+1) c8)) w1.heap.size X Y (iT q) (.slice N b Q) (.slice O d R) (sO U os m cs) q y b c1 G d c g8 (D+1) c8 M V (ic (S.take (k+1)) sq)):=by rw [bj.o];exact ks
       generalize w8.setCell ⟨Y,3,none⟩ (sL g8 (D+1) c8)=w9 at ah ⊢
       clear ks s f u au H F E
       go_wp2
       go_roundw
       case rel=>exact ⟨k+1,g8,D+1,c8,by omega,by go_num,by omega,ah.o⟩
       case measure=>simp [intOf];omega
  · have b1:¬(k:Int)<(m:Int):=by omega
    have b7:Eq (S.take k=S):=GV (by rw [a8.o];omega);have x3:=ST.o.bx.c3;have xz:=ST.o.bx.lt;have f:=ST.o.below (Below.refl _ wr).drew;go_wp2_with fail
    clear x3 xz;refine wp_region_held_drew (S:=(fun w'=>w'.cell? ⟨Y,0,none⟩=some (iT q)∧w'.cell? ⟨Y,1,none⟩=some (sL y b c1)∧w'.cell? ⟨Y,2,none⟩=some (sL G d c)∧w'.cell? ⟨Y,3,none⟩=some (sL g D c4)∧w'.cell? ⟨X,3,none⟩=some (.slice J m cs)∧X<w'.heap.size∧Y<w'.heap.size)) (by kernel_rfl) (⟨f.hy.c0,f.hy.c1,f.hy.c2,f.hy.c3,f.bx.c3,f.bx.lt,f.hy.lt⟩) (fun E=>?_);generalize wr.drew=wd at f E ⊢;refine aR 0 8 E ?_;refine aV 8 fun K hK=>?_
    have r0:=f.br.all;have a4:X+1≠Y:=by have:=f.lows;omega
    have a5:X+1≠X:=by omega
    have a0:=(((f.hy.other (b':=X+1) (o:=0) a4 (iT q)).other (b':=X+1) (o:=1) a4 (sL y b c1)).other (b':=X+1) (o:=2) a4 (sL G d c)).other (b':=X+1) (o:=3) a4 (sL g D c4);have aD:=(((f.bx.other (b':=X+1) (o:=0) a5 (iT q)).other (b':=X+1) (o:=1) a5 (sL y b c1)).other (b':=X+1) (o:=2) a5 (sL G d c)).other (b':=X+1) (o:=3) a5 (sL g D c4);go_simp;clear r0;refine hK.o _ _ (⟨a0.c0,a0.c1,a0.c2,a0.c3,aD.c3,aD.lt,a0.lt⟩) fun E=>?_
    (try go_frame);refine aR 9 1 E ?_;refine dN ?_;clear a0 aD a4 a5 E;go_wp2;refine bodyPost_ret (v:=.tuple #[.agg #[iT q,sL y b c1,sL G d c,sL g D c4],.bool (decide ((D:Int)<(m:Int)))]) ?_ rfl ?_
    · have e:=(((f.br.set0 (iT q)).set1 (sL y b c1)).set2 (sL G d c)).set3 (sL g D c4);simp [results,Tryz.results45,go_sem,e.all]
    · have hl:=f.lows;have hx:w.heap.size≤X+1:=by omega
      have hc:=f.cp.four (X:=X+1) hl.1 (iT q) (sL y b c1) (sL G d c) (sL g D c4);have aF:=f.cp.slen;rw [b7.o] at hc aF;refine xW ?_ hc hl.2.2.1 (jY f.low hx _ _ _ _);rw [← EW,a8.o,aF];simp
theorem Ao (a:Option Addr) (n c:Nat) (K:List ac) (q:Int) (w:World) (hK:ah w a n c K) (hn:n≤1048576) (aV:0≤q) (aS:q≤100000) :
 Calls Tryz.prog 158 #[.slice a n c,iT q] w fun e w'=>ld q K n w e w':=by
 have HK:=az hK;have r:Eq (K.length=n):=hK.length;clear hK;obtain ⟨i0,hi,ax,aA,ar⟩:=info_parts Tryz.infoEnt;have a6:Eq ((w.alloc (.cells #[] 50)).ownsRow w.heap.size 50 5 (sL (w.heap.size) 0 0) 0 (aF (dh q (K.take 0)))):=by
  have:=Hi (base:=w.heap.size) (e:=50) (size:=5) w #[] 0 (GL _) (by simp) (by simp);show World.ownsRow _ _ _ _ _ _ _
  simpa [dh,aF] using this
 have a5:Bl w (w.alloc (.cells #[] 50)):=bZ;go_enter Tryz.func158,Tryz.ntmps158
 go_wp2;go_loopw [6,7] (fun vv iv wr=>∃i:Nat,i≤n∧iv=iT i∧(∃g c',vv=sL g i c')∧wr.ownsRow w.heap.size 50 5 vv i (aF (dh q (K.take i)))∧(∀l ∈ dh q (K.take i),d9 l)∧(∀j,j<i→lV q K j=true)∧Bl w wr) (fun _ iv _=>n - (intOf iv).toNat)
 case atStart=>exact ⟨0,GQ _,rfl,⟨_,_,rfl⟩,a6.o,(by simp [dh]),(fun j hj=>absurd hj (H7 _)),a5⟩
 case round =>
  clear a6 a5;obtain ⟨i,aX,rfl,⟨x,y,rfl⟩,hv,hw,aa,hb⟩:=hrel;have HV:Eq (wr.ownsRow w.heap.size 50 5 (sL x i y) i (aF (dh q (K.take i)))):=hv;have HW:Eq (∀l ∈ dh q (K.take i),d9 l):=hw;have a1:Eq (∀j,j<i→lV q K j=true):=aa;have HB:Eq (Bl w wr):=hb;have aQ:=hb.size;clear hv hw aa;by_cases U:i<n
  · have ad:(i:Int)<(n:Int):=by omega
    obtain ⟨b,aZ,rfl,a4⟩:=HK.o.form (by omega);obtain ⟨s,W,d,t,m,hg,a7,g0,g1,g2,g3,g4⟩:=HK.o.ent hb a4 i U;have HG:Eq (K[i]?=some (s,W,d,t,m)):=hg;have I:Eq (d9 (s,W,d,t,m)):=a7;have aW:b<wr.heap.size:=E' a4 hb.size;clear hg a7 hb;by_cases h0:W=0
    · subst h0;have e1:IntKind.i64.wrap (q+1)=q+1:=by rw [G4];unfold wrap64;omega
      have e2:IntKind.i64.wrap (q+1+(i:Int))=q+1+(i:Int):=by rw [G4];unfold wrap64;omega
      obtain ⟨Q,hQ⟩:∃Q:Int,Q=q+1+(i:Int):=⟨_,rfl⟩;have HQ:Eq (Q=q+1+(i:Int)):=hQ;obtain ⟨wq,N⟩:=aG (wr.alloc (.cells #[.string s,iT (q+1+(i:Int)),iT d,.string t,iT m] 50));obtain ⟨A,X⟩:=aG wr.heap.size;have kq:Bl wr wq:=by rw [N];exact bZ
      have b5:wq.cell? ⟨A,0,none⟩=some (.string s)∧wq.cell? ⟨A,1,none⟩=some (iT Q)∧wq.cell? ⟨A,2,none⟩=some (iT d)∧wq.cell? ⟨A,3,none⟩=some (.string t)∧wq.cell? ⟨A,4,none⟩=some (iT m)∧A<wq.heap.size:=by
       rw [N,X,hQ];refine ⟨?_,?_,?_,?_,?_,?_⟩ <;> simp
      have B5:Eq (wq.cell? ⟨A,0,none⟩=some (.string s)∧wq.cell? ⟨A,1,none⟩=some (iT Q)∧wq.cell? ⟨A,2,none⟩=some (iT d)∧wq.cell? ⟨A,3,none⟩=some (.string t)∧wq.cell? ⟨A,4,none⟩=some (iT m)∧A<wq.heap.size):=b5;obtain ⟨O,hO⟩:=aG (dM s Q d t m);have CE:Eq (Calls Tryz.prog 143 #[.agg #[.string s,iT Q,iT d,.string t,iT m]] wq fun e w'=>e=.returned (.bool O)∧Bl wq w'):=by rw [hO];exact ul s t Q d m wq I.o.1 I.o.2.2.2.1
      have af:Eq (lV q K i=O):=by
       show lV q K i=O
       rw [Ff HG.o rfl,hO,hQ]
      have ab:Eq (Bl w wq):=HB.o.trans (kq.mono HB.o.size);have av:Eq (wq.ownsRow w.heap.size 50 5 (sL x i y) i (aF (dh q (K.take i)))):=bD HV.o kq;have aD:Eq (d9 (s,Q,d,t,m)):=⟨I.o.1,(by rw [hQ];exact Hu (by omega):(Lit.int .i64 Q).wf=true),I.o.2.2⟩;clear kq b5 hO;go_upto_region 9 with fail
      rw [← N];try rw [← X]
      try rw [← hQ]
      clear N X hQ;obtain ⟨y0,y1,y2,y3,y4,yz⟩:=B5.o;go_wp2_with fail
      clear y0 y1 y2 y3 y4 yz g0 g1 g2 g3 g4;refine CE.o.mono ?_;rintro e F ⟨rfl,f⟩;have H:Eq (Bl w F):=ab.o.trans (f.mono ab.o.size);have a9:Eq (F.ownsRow w.heap.size 50 5 (sL x i y) i (aF (dh q (K.take i)))):=bD av.o f;obtain ⟨y0,y1,y2,y3,y4,yz⟩:=B5.o;have y0:=cell_later f y0;have y1:=cell_later f y1;have y2:=cell_later f y2;have y3:=cell_later f y3;have y4:=cell_later f y4;have yz:=E' yz f.size;have aH:=H.o.size;clear f;cases O with
      | false =>
       have Z:Eq (dx q K=false):=mN (i:=i) (by rw [r.o];exact U) af.o;go_wp2;exact bodyPost_ret (v:=.tuple #[sL x i y,.bool false]) (by simp [results,Tryz.results158,go_sem]) rfl (show ld q K _ w _ _ from ⟨_,_,rfl,(fun h=>by rw [Z.o] at h;cases h),fun _=>⟨rfl,_,_,_,dh q (K.take i),rfl,ag.entsAt ⟨a9.o,by rw [fk,GS,r.o];omega,HW.o⟩⟩,H.o⟩)
      | true =>
       have a2:∀j u,[Value.string s,iT Q,iT d,.string t,iT m][j]?=some u→(F.alloc (.cells #[.string s,iT Q,iT d,.string t,iT m] 50)).cell? ((⟨F.heap.size,0,none⟩:Addr).add j)=some u:=l9 F s Q d t m;have ay:=az a2;have ka:Bl F (F.alloc (.cells #[.string s,iT Q,iT d,.string t,iT m] 50)):=bZ;have ae:Eq ((F.alloc (.cells #[.string s,iT Q,iT d,.string t,iT m] 50)).ownsRow w.heap.size 50 5 (sL x i y) i (aF (dh q (K.take i)))):=bD a9.o ka;have R:Eq (Bl w (F.alloc (.cells #[.string s,iT Q,iT d,.string t,iT m] 50))):=H.o.trans (ka.mono H.o.size);clear a2 ka;go_wp2_with (at_builtin;refine wpList_append_own _ rfl _ _ 28 rfl w.heap.size 50 i0 _ 5 56 Tryz.underlying28 hi ax aA ar rfl (by decide) _ _ _ rfl ae.o ⟨F.heap.size,0,none⟩ 1 1 [.string s,iT Q,iT d,.string t,iT m] rfl rfl ay.o (by intro u hu;simp at hu;rcases hu with rfl | rfl | rfl | rfl | rfl <;> rfl) (by unfold maxLen;omega) (by omega) R.o.size ?_;intro v2 w2 B J T;obtain ⟨g2,c2,rfl⟩:=aO B T)
       go_roundw
       case rel =>
        have e3:dh q (K.take (i+1))=dh q (K.take i)++[(s,Q,d,t,m)]:=by
         rw [qg HG.o,HQ.o];rfl
        refine ⟨i+1,by omega,by go_num,⟨_,_,rfl⟩,?_,?_,?_,?_⟩
        · rw [e3,bC];exact B
        · rw [e3];intro l hl;rcases GX.1 hl with h | h
          · exact HW.o l h
          · rw [G5] at h;subst h;exact aD.o
        · intro j hj;by_cases aq:j<i
          · exact a1.o j aq
          · rw [show j=i by omega];exact af.o
        · exact R.o.grown J R.o.size (fun k e=>(ae.o.lt k e).1)
       case measure=>simp [intOf];omega
    · have Z:Eq (dx q K=false):=mN (i:=i) (by rw [r.o];exact U) (Cj HG.o h0);have b0:(W == 0)=false:=by simpa using h0
      have aT:decide (W=0)=false:=decide_eq_false h0;have ao:Eq ((wr.alloc (.cells #[.string s,iT W,iT d,.string t,iT m] 50)).ownsRow w.heap.size 50 5 (sL x i y) i (aF (dh q (K.take i)))):=bD HV.o bZ;have au:Eq (Bl w (wr.alloc (.cells #[.string s,iT W,iT d,.string t,iT m] 50))):=HB.o.alloc HB.o.size _;go_wp2;exact bodyPost_ret (v:=.tuple #[sL x i y,.bool false]) (by simp [results,Tryz.results158,go_sem]) rfl (show ld q K _ w _ _ from ⟨_,_,rfl,(fun h=>by rw [Z.o] at h;cases h),fun _=>⟨rfl,_,_,_,dh q (K.take i),rfl,ag.entsAt ⟨ao.o,by rw [fk,GS,r.o];omega,HW.o⟩⟩,au.o⟩)
  · have ad:¬(i:Int)<(n:Int):=by omega
    obtain rfl:i=n:=by omega
    have E:Eq (dx q K=true):=s5 r.o a1.o;have C:=HV.o;rw [GV (by rw [r.o];omega)] at C;have Y:=HW.o;rw [GV (by rw [r.o];omega)] at Y;have hsl:(dh q K).length=i:=by rw [fk,r.o]
    have D:Eq (ag wr w.heap.size x i y (dh q K)):=⟨C,hsl,Y⟩;clear C Y hsl;by_cases h1:1≤i
    · have aB:(i:Int) ≥ 1:=by omega
      by_cases a3:i≤12
      · have a8:(i:Int)≤12:=by omega
        go_wp2;exact bodyPost_ret (v:=.tuple #[sL x i y,.bool true]) (by simp [results,Tryz.results158,go_sem]) rfl (show ld q K _ w _ _ from ⟨_,_,rfl,(fun _=>⟨⟨x,y,rfl,D.o⟩,by simp [h1,a3]⟩),(fun h=>by rw [E.o] at h;cases h),HB.o⟩)
      · have a8:¬(i:Int)≤12:=by omega
        go_wp2;exact bodyPost_ret (v:=.tuple #[sL x i y,.bool false]) (by simp [results,Tryz.results158,go_sem]) rfl (show ld q K _ w _ _ from ⟨_,_,rfl,(fun _=>⟨⟨x,y,rfl,D.o⟩,by simp [h1,a3]⟩),(fun h=>by rw [E.o] at h;cases h),HB.o⟩)
    · have aB:¬(i:Int) ≥ 1:=by omega
      go_wp2;exact bodyPost_ret (v:=.tuple #[sL x i y,.bool false]) (by simp [results,Tryz.results158,go_sem]) rfl (show ld q K _ w _ _ from ⟨_,_,rfl,(fun _=>⟨⟨x,y,rfl,D.o⟩,by simp [h1]⟩),(fun h=>by rw [E.o] at h;cases h),HB.o⟩)
theorem Cn (s t:ByteArray) (q d n:Int) (w:World) (hE:d9 (s,q,d,t,n)) :
 Calls Tryz.prog 159 #[nZ,.agg #[.string s,iT q,iT d,.string t,iT n]] w fun e w'=>∃g c,e=.returned (sL g 1 c)∧ag w' w.heap.size g 1 c [(s,q,d,t,n)]∧Bl w w':=by
 have a2:=az hE;obtain ⟨X,hX⟩:=aG w.heap.size;obtain ⟨W,hW⟩:=aG (w.alloc (.cells #[.string s,iT q,iT d,.string t,iT n] 50));have x0:W.cell? ⟨X,0,none⟩=some (.string s):=by rw [hW,hX];simp
 have x1:W.cell? ⟨X,1,none⟩=some (iT q):=by rw [hW,hX];simp
 have x2:W.cell? ⟨X,2,none⟩=some (iT d):=by rw [hW,hX];simp
 have x3:W.cell? ⟨X,3,none⟩=some (.string t):=by rw [hW,hX];simp
 have x4:W.cell? ⟨X,4,none⟩=some (iT n):=by rw [hW,hX];simp
 have kW:Bl w W:=by rw [hW];exact bZ
 have ax:w.heap.size+1≤W.heap.size:=by rw [hW];simp
 have a7:Eq (X=w.heap.size):=hX;have aq:Eq (Bl w W):=kW;have aD:Eq (w.heap.size+1≤W.heap.size):=ax;obtain ⟨i0,hi,a8,ab,a6⟩:=info_parts Tryz.infoEnt;go_enter Tryz.func159,Tryz.ntmps159
 go_upto_block 0 with fail
 rw [← hW,← hX];clear hW hX kW ax hE;go_cut [5] (fun kv wz=>kv=iT 0∧Bl W wz)
 case first =>
  go_wp2_with fail
  go_loopw [5] (fun kv wr=>kv=iT 0∧Bl W wr) (fun _ _=>0)
  case atStart=>exact ⟨rfl,Below.refl _ _⟩
  case round =>
   obtain ⟨rfl,hb⟩:=hrel;have y0:=cell_later hb x0;have y1:=cell_later hb x1;have y2:=cell_later hb x2;have y3:=cell_later hb x3;have y4:=cell_later hb x4;have k0:Bl wr wr.drew:=(Below.refl _ wr).drew;have y:Eq (∀w',Bl wr w'→(w'.cell? ⟨X,0,none⟩=some (.string s)∧w'.cell? ⟨X,1,none⟩=some (iT q)∧w'.cell? ⟨X,2,none⟩=some (iT d)∧w'.cell? ⟨X,3,none⟩=some (.string t)∧w'.cell? ⟨X,4,none⟩=some (iT n)∧X<w'.heap.size)):=fun w' I=>⟨cell_later I y0,cell_later I y1,cell_later I y2,cell_later I y3,cell_later I y4,GK _ _ (cell_later I y0)⟩
   go_wp2_with fail
   refine eJ y k0 fun E=>?_
   refine aR 0 9 E ?_;refine aV 9 fun K hK=>?_
   go_simp;refine hK.o _ _ (y.o _ k0) fun E=>?_
   refine aR 10 1 E ?_;refine dN ?_;have KZ:Eq (Bl W wr.drew):=hb.trans (k0.mono hb.size);clear k0 y E y0 y1 y2 y3 y4 hb;go_wp2;go_meet
   exact ⟨rfl,KZ.o⟩
 case rest =>
  obtain ⟨rfl,kz⟩:=hcut;obtain ⟨wz,aA⟩:=aG wc;rw [← aA] at kz ⊢;clear aA;have al:Bl w wz:=aq.o.trans (kz.mono aq.o.size);have hzs:w.heap.size+1≤wz.heap.size:=GU aD.o kz.size;have z0:=cell_later kz x0;have z1:=cell_later kz x1;have z2:=cell_later kz x2;have z3:=cell_later kz x3;have z4:=cell_later kz x4;have kt:Bl wz (wz.alloc (.cells #[] 50)):=bZ;have ay:Eq (ag (wz.alloc (.cells #[] 50)) (w.heap.size+1) wz.heap.size 0 0 []):=cK wz _ hzs;have ar:Eq (gg w (wz.alloc (.cells #[] 50)) X wz.heap.size 0 0 s t q d n []):=⟨al.trans (kt.mono al.size),GU hzs kt.size,cell_later kt z0,cell_later kt z1,cell_later kt z2,cell_later kt z3,cell_later kt z4,ay.o⟩;clear kz z0 z1 z2 z3 z4 kt al;go_upto_region 4 with fail
  go_cut [6] (fun tv wt=>∃gt ct,tv=sL gt 0 ct∧gg w wt X gt 0 ct s t q d n [])
  case first =>
   go_wp2;go_meet
   exact ⟨wz.heap.size,0,rfl,ar.o⟩
  case rest =>
   obtain ⟨gt,ct,rfl,aj⟩:=hcut;obtain ⟨wt,aB⟩:=aG wc;rw [← aB] at aj ⊢;have k0:gg w wt.drew X gt 0 ct s t q d n []:=aj.below (Below.refl _ wt).drew;clear aB aj ay ar hzs;have y:Eq (∀w',gg w w' X gt 0 ct s t q d n []→(w'.cell? ⟨X,0,none⟩=some (.string s)∧w'.cell? ⟨X,1,none⟩=some (iT q)∧w'.cell? ⟨X,2,none⟩=some (iT d)∧w'.cell? ⟨X,3,none⟩=some (.string t)∧w'.cell? ⟨X,4,none⟩=some (iT n)∧X<w'.heap.size)):=fun w' I=>⟨I.x0,I.x1,I.x2,I.x3,I.x4,I.lt⟩
   go_wp2_with fail
   refine eJ y k0 fun E=>?_
   generalize wt.drew=H at k0 E ⊢;refine aR 1 3 E ?_;refine aR 5 1 E ?_;refine aR 8 1 E ?_;have aX:=k0.tl.lt.2;refine mK 0 6 (fun K hK=>?_) (fun K hK=>?_)
   · go_simp;have kA:Bl H (H.alloc (.cells #[] 50)):=bZ;have T:=k0.below kA;have Q:gt≠H.heap.size:=by omega
     have O:ag (H.alloc (.cells #[] 50)) (w.heap.size+1) H.heap.size 0 0 []:=cK H _ k0.hi;generalize H.heap.size=ga at O Q ⊢;generalize H.alloc (.cells #[] 50)=F at T O ⊢;clear kA;refine hK.o _ _ (y.o _ T) fun E=>?_
     (try go_frame);refine mK 4 6 (fun K hK=>?_) (fun K hK=>?_)
     focus
      go_simp
      refine hK.o _ _ (y.o _ T) fun E=>?_
      (try go_frame)
      refine aV 6 fun K hK=>?_
      go_simp;have kN:Bl F (F.alloc (.cells #[.string s,iT q,iT d,.string t,iT n] 50)):=bZ;have N:=T.below kN;have R:ah (F.alloc (.cells #[.string s,iT q,iT d,.string t,iT n] 50)) (some ⟨F.heap.size,0,none⟩) 1 1 [(s,q,d,t,n)]:=eW F _ _ _ _ _ a2.o;have rB:=O.below kN;have Y:ga≠F.heap.size:=by have:=O.lt.2;omega
      generalize F.heap.size=gn at R Y ⊢
      generalize F.alloc (.cells #[.string s,iT q,iT d,.string t,iT n] 50)=J at N R rB ⊢
      clear kN
     rotate_left
     focus
      go_simp;have kN:Bl F (F.alloc (.cells #[.string s,iT q,iT d,.string t,iT n] 50)):=bZ;have N:=T.below kN;have R:ah (F.alloc (.cells #[.string s,iT q,iT d,.string t,iT n] 50)) (some ⟨F.heap.size,0,none⟩) 1 1 [(s,q,d,t,n)]:=eW F _ _ _ _ _ a2.o;have rB:=O.below kN;have Y:ga≠F.heap.size:=by have:=O.lt.2;omega
      generalize F.heap.size=gn at R Y ⊢
      generalize F.alloc (.cells #[.string s,iT q,iT d,.string t,iT n] 50)=J at N R rB ⊢
      clear kN
      refine hK.o _ _ (y.o _ N) fun E=>?_
      (try go_frame)
      refine aV 4 fun K hK=>?_
      go_simp
     all_goals
      refine hK.o _ _ (y.o _ N) fun E=>?_
      (try go_frame)
      refine aV 7 fun K hK=>?_
      refine aE rfl (.tmp 31) (.tmp 33) 28 rfl (w.heap.size+1) 50 i0 _ 5 56 Tryz.underlying28 hi a8 ab a6 rfl (Hx 4) _ _ _ rfl rB.owns ⟨gn,0,none⟩ 1 1 (aF [(s,q,d,t,n)]) rfl rfl (ch R) (bf _) (by decide) (by decide) N.hi ?_
      intro v7 w7 u A B
      obtain ⟨g7,c7,rfl⟩:=aO u B
      have C:J.grownBy w7 (some ga):=A
      have m:=N.grown C (by have:=rB.lt.1;omega) (by have:=rB.lt.1;have:=a7.o;omega) Q
      have Z:ag w7 (w.heap.size+1) g7 1 c7 [(s,q,d,t,n)]:=⟨u,rfl,fun l hl=>by simp only [G5] at hl;subst hl;exact a2.o⟩
      refine hK.o _ _ (y.o _ m) fun E=>?_
      (try go_frame)
      refine aV 9 fun K hK=>?_
      refine aE rfl (.tmp 34) (.tmp 35) 28 rfl (w.heap.size+1) 50 i0 _ 5 56 Tryz.underlying28 hi a8 ab a6 rfl (Hx 4) _ _ _ rfl Z.owns ⟨gt,0,none⟩ 0 ct [] rfl rfl (fun _ _ h=>by cases h) (fun _ h=>by cases h) (by decide) (by decide) m.hi ?_
      intro v9 w9 r f D
      obtain ⟨g9,c9,rfl⟩:=aO r D
      have b:w7.grownBy w9 (some g7):=f
      have a0:Bl w w9:=m.low.grown b m.low.size (fun k e=>by cases e;have:=Z.lt.1;omega)
      have af:Eq (ag w9 w.heap.size g9 1 c9 [(s,q,d,t,n)]):=ag.mono (base:=w.heap.size+1) ⟨r,rfl,Z.ents⟩ (by omega)
      have ak:Eq (Bl w w9):=a0
      refine hK.o _ _ ?_ (fun E=>?_)
      · have U:X≠g7:=by have:=Z.lt.1;have:=a7.o;omega
        exact ⟨(au b (x:=⟨X,0,none⟩) m.lt U).trans m.x0,(au b (x:=⟨X,1,none⟩) m.lt U).trans m.x1,(au b (x:=⟨X,2,none⟩) m.lt U).trans m.x2,(au b (x:=⟨X,3,none⟩) m.lt U).trans m.x3,(au b (x:=⟨X,4,none⟩) m.lt U).trans m.x4,E' m.lt f.size⟩
      clear hK K
      (try go_frame)
      refine aR 10 1 E ?_
      refine dN ?_
      clear r f D u A B Z m a0
      go_wp2
      go_ret
      exact ⟨g9,c9,rfl,af.o,ak.o⟩
   · go_simp;have kN:Bl H (H.alloc (.cells #[.string s,iT q,iT d,.string t,iT n] 50)):=bZ;have N:=k0.below kN;have R:ah (H.alloc (.cells #[.string s,iT q,iT d,.string t,iT n] 50)) (some ⟨H.heap.size,0,none⟩) 1 1 [(s,q,d,t,n)]:=eW H _ _ _ _ _ a2.o;have aC:gt<(H.alloc (.cells #[.string s,iT q,iT d,.string t,iT n] 50)).heap.size:=by rw [GY];omega
     generalize H.heap.size=gn at R ⊢;generalize H.alloc (.cells #[.string s,iT q,iT d,.string t,iT n] 50)=J at N R aC ⊢;clear kN;refine hK.o _ _ (y.o _ N) fun E=>?_
     (try go_frame);refine aV 0 fun K hK=>?_
     go_simp;have kA:Bl J (J.alloc (.cells #[] 50)):=bZ;have T:=N.below kA;have Q:gt≠J.heap.size:=by omega
     have O:ag (J.alloc (.cells #[] 50)) (w.heap.size+1) J.heap.size 0 0 []:=cK J _ N.hi;have rM:=R.keep kA;have Y:J.heap.size≠gn:=by have h1:gn<J.heap.size:=(R.lies _ rfl (by decide)).1;omega
     generalize J.heap.size=ga at O Y Q ⊢;generalize J.alloc (.cells #[] 50)=F at T O rM ⊢;clear kA;refine hK.o _ _ (y.o _ T) fun E=>?_
     (try go_frame);refine aV 4 fun K hK=>?_
     go_simp;refine hK.o _ _ (y.o _ T) fun E=>?_
     (try go_frame);refine aV 7 fun K hK=>?_
     refine aE rfl (.tmp 31) (.tmp 33) 28 rfl (w.heap.size+1) 50 i0 _ 5 56 Tryz.underlying28 hi a8 ab a6 rfl (Hx 4) _ _ _ rfl O.owns ⟨gn,0,none⟩ 1 1 (aF [(s,q,d,t,n)]) rfl rfl (ch rM) (bf _) (by decide) (by decide) T.hi ?_;intro v7 w7 u A B;obtain ⟨g7,c7,rfl⟩:=aO u B;have C:F.grownBy w7 (some ga):=A;have m:=T.grown C (by have:=O.lt.1;omega) (by have:=O.lt.1;have:=a7.o;omega) Q;have Z:ag w7 (w.heap.size+1) g7 1 c7 [(s,q,d,t,n)]:=⟨u,rfl,fun l hl=>by simp only [G5] at hl;subst hl;exact a2.o⟩;refine hK.o _ _ (y.o _ m) fun E=>?_
     (try go_frame);refine aV 9 fun K hK=>?_
     refine aE rfl (.tmp 34) (.tmp 35) 28 rfl (w.heap.size+1) 50 i0 _ 5 56 Tryz.underlying28 hi a8 ab a6 rfl (Hx 4) _ _ _ rfl Z.owns ⟨gt,0,none⟩ 0 ct [] rfl rfl (fun _ _ h=>by cases h) (fun _ h=>by cases h) (by decide) (by decide) m.hi ?_;intro v9 w9 r f D;obtain ⟨g9,c9,rfl⟩:=aO r D;have b:w7.grownBy w9 (some g7):=f;have a0:Bl w w9:=m.low.grown b m.low.size (fun k e=>by cases e;have:=Z.lt.1;omega);have af:Eq (ag w9 w.heap.size g9 1 c9 [(s,q,d,t,n)]):=ag.mono (base:=w.heap.size+1) ⟨r,rfl,Z.ents⟩ (by omega);have ak:Eq (Bl w w9):=a0;refine hK.o _ _ ?_ (fun E=>?_)
     · have U:X≠g7:=by have:=Z.lt.1;have:=a7.o;omega
       exact ⟨(au b (x:=⟨X,0,none⟩) m.lt U).trans m.x0,(au b (x:=⟨X,1,none⟩) m.lt U).trans m.x1,(au b (x:=⟨X,2,none⟩) m.lt U).trans m.x2,(au b (x:=⟨X,3,none⟩) m.lt U).trans m.x3,(au b (x:=⟨X,4,none⟩) m.lt U).trans m.x4,E' m.lt f.size⟩
     clear hK K;(try go_frame);refine aR 10 1 E ?_;refine dN ?_;clear r f D u A B Z m a0;go_wp2;go_ret;exact ⟨g9,c9,rfl,af.o,ak.o⟩
theorem cE.set (h:cE w lo a n c L) {p:Addr} (hp:∀x,a=Option.some x→p.block≠x.block) (v:Value):cE (w.setCell p v) lo a n c L :=
 ⟨h.1,fun x e=>by
  obtain ⟨g,e1,o⟩:=h.2 x e
  exact ⟨g,e1,o.setCell (by have:=hp x e;rw [e1] at this;exact this) v⟩⟩
theorem cE.inl (h:cE w lo a n c L):fu lo w a n c L:=⟨h.entsAt,fun x e _=>(h.lt x e).1⟩
theorem Cm (a:Option Addr) (len b:Nat) (L:List ac) (s t:ByteArray) (q d n:Int) (w:World) (hL:cE w lo a len b L) (hlen:len≤1048576) (hE:d9 (s,q,d,t,n)) :
 Calls Tryz.prog 159 #[.slice a len b,.agg #[.string s,iT q,iT d,.string t,iT n]] w fun e w'=>∃g c,e=.returned (sL g (len+1) c)∧ag w' w.heap.size g (len+1) c (eI L (s,q,d,t,n))∧Bl w w':=by
 cases a with
 | none =>
  obtain ⟨rfl,rfl,rfl⟩:=hL.1 rfl;exact Cn s t q d n w hE
 | some x =>
  obtain ⟨g,rfl,h⟩:=hL.2 x rfl;exact uk g len b L s t q d n w h.entsAt h.lt.2 hlen hE
theorem ag.at5 {g i:Nat} {s t:ByteArray} {d nn:Int} (h:ag w base g n c L) (hx:L[i]?=some (s,q,d,t,nn)):w.cell? ⟨g,i*5,none⟩=some (.string s)∧w.cell? ⟨g,i*5+1,none⟩=some (iT q)∧w.cell? ⟨g,i*5+2,none⟩=some (iT d)∧w.cell? ⟨g,i*5+3,none⟩=some (.string t)∧w.cell? ⟨g,i*5+4,none⟩=some (iT nn):=by
 obtain ⟨hi,e⟩:=F'.1 hx;obtain ⟨c0,c1,b,c3,c4⟩:=h.entsAt.cells _ rfl i hi;rw [e] at c0 c1 b c3 c4;simp only [GT] at c0 c1 b c3 c4;exact ⟨c0,c1,b,c3,c4⟩
end Go.Proofs.YtpobkmjicbobdaaGreat
