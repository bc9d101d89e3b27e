/- Walks. -/
import Derived.Test.YtpobkmjicbobdaaGreatBc18
namespace Go.Proofs.YtpobkmjicbobdaaGreat
set_option maxRecDepth 100000
set_option maxHeartbeats 40000000
open Go.RowKit
variable {L:List ae} {a:Option Addr} {base c lo n:Nat} {q:Int} {w:World}
theorem wv {g f b c1 G d c3:Nat} {M:List ae} {V:List (List aj)} {S:List Int} {m:Bool} {w':World} {e:Ending} (o:e=.returned (.tuple #[.agg #[iT q,sL b g c1,sL G f c,sL d n c3],.bool m])) (hc:cU base w' b g c1 G f c d n c3 M V S) (hl:w.heap.size≤base) (hb:Bl w w'):∃n,vK q g f n M V S m w e w' :=
 ⟨n,b,c1,G,c,d,c3,o,hc.mono hl,hb⟩
theorem zh (lo:Nat) (q:Int) (Q:Option Addr) (m O:Nat) (U:Option Addr) (s J:Nat) (R:Option Addr) (u cs:Nat) (M:List ae) (V:List (List aj)) (S:List Int) (sq:Int) (w:World) (hT:cj lo w Q m O U s J R u cs M V S) (htb:aY q M V S=true) :
 Calls Tryz.prog 45 #[.agg #[iT q,.slice Q m O,.slice U s J,.slice R u cs],iT sq] w (fun e w'=>∃n,vK q m s n M V (gG S sq) (decide (sq ∈ S)) w e w'):=by
 have hsl:=hT.snaps.length;have bT:u≤4:=by
  have h1:=(aZ htb).2.2.2.2.2.2.1;unfold cC at h1;rw [FJ] at h1;have h2:=of_decide_eq_true h1.1;omega
 have bJ:m≤60:=by have h1:=(aZ htb).2.2.1;have h2:=hT.mem.1.length;omega
 obtain ⟨A,B,C,aC⟩:=eS htb;have bN:s≤100:=by have h1:=hT.levels.length;rw [aC] at h1;have h2:([A,B,C]:List (List aj)).length=3:=rfl;omega
 have aN:∀B ∈ V,B.length≤100∧∀r ∈ B,1≤r.1.length∧r.1.length≤10000:=by
  have h8:ef V q=true:=(aZ htb).2.2.2.2.2.2.2.1;rw [aC] at h8 ⊢;unfold ef at h8;simp only [FJ] at h8;intro Z aT;simp only [FF,F4,or_false] at aT;rcases aT with rfl | rfl | rfl
  · exact cG h8.1 (by omega)
  · exact cG h8.2.1 (by omega)
  · exact cG h8.2.2 (by omega)
 have CO:Eq (∀w',Bl w w'→Calls Tryz.prog 27 #[.agg #[iT q,.slice Q m O,.slice U s J,.slice R u cs]] w' fun e ao=>e=.returned (.bool true)∧Bl w' ao):=fun w' k=>by
  have:=gZ lo q _ _ _ _ _ _ _ _ _ M V S w' (hT.keep k);rw [htb] at this;exact this
 have CC:Eq (∀w',Bl w w'→Calls Tryz.prog 57 #[.agg #[iT q,.slice Q m O,.slice U s J,.slice R u cs]] w' fun e ao=>∃F c1 G c g3 c3,e=.returned (.agg #[iT q,sL F m c1,sL G s c,sL g3 u c3])∧cU w'.heap.size ao F m c1 G s c g3 u c3 M V S∧Bl w' ao):=fun w' k=>iK lo q Q U R m O s J u cs M V S w' (hT.keep k) (by omega) (by omega) (by omega) aN
 obtain ⟨i0,hi,b3,b1,b9⟩:=info_parts Tryz.infoInt;obtain ⟨X,hX⟩:=aG w.heap.size;obtain ⟨W,hW⟩:=aG ((w.alloc (.cells #[iT q,.slice Q m O,.slice U s J,.slice R u cs] 31)).alloc (.cells #[iT 0,nZ,nZ,nZ] 31));have kW:Bl w W:=by rw [hW];exact bZ.alloc (by simp) _
 have bx:aE W X (iT q) (.slice Q m O) (.slice U s J) (.slice R u cs):=by rw [hW,hX];exact (aE.new _ _ _ _ _ _).alloc _
 have br:aE W (X+1) (iT 0) nZ nZ nZ:=by
  have:=aE.new (w.alloc (.cells #[iT q,.slice Q m O,.slice U s J,.slice R u cs] 31)) 31 (iT 0) nZ nZ nZ;rw [FP] at this;rw [hW,hX];exact this
 have HX:Eq (X=w.heap.size):=hX;have K0:Eq (Bl w W):=kW;have az:Eq (b6 lo w R u cs S):=hT.snaps;have ad:Eq (S.length=u):=hsl;have bv:Eq (∀z ∈ S,(Lit.int .i64 z).wf=true):=hT.snaps.wfs;clear hT hsl;clear kW aN htb aC;go_enter Tryz.func45,Tryz.ntmps45
 go_wp2_with fail
 rw [← hX,← hW];clear hX hW;refine (CO.o _ K0.o).mono ?_;rintro e N ⟨rfl,an⟩;have K1:Eq (Bl w N):=K0.o.trans (an.mono K0.o.size);have ag:=bx.keep an;have aq:=br.keep an;have x0:=ag.all;clear an bx br;go_wp2_with fail
 clear x0;refine (CC.o _ K1.o).mono ?_;rintro e w2 ⟨F,c1,G,c,g3,c3,rfl,aB,a1⟩;obtain ⟨Y,hY⟩:=aG w2.heap.size;obtain ⟨w3,ab⟩:=aG (w2.alloc (.cells #[iT q,sL F m c1,sL G s c,sL g3 u c3] 31));have k3:Bl w2 w3:=by rw [ab];exact bZ
 have K3:Eq (Bl w w3):=(K1.o.trans (a1.mono K1.o.size)).trans (k3.mono (FK K1.o.size a1.size));have aI:Eq (cU N.heap.size w3 F m c1 G s c g3 u c3 M V S):=aB.below k3;have aX:=(ag.keep a1).keep k3;have aS:=(aq.keep a1).keep k3;have aH:aE w3 Y (iT q) (sL F m c1) (sL G s c) (sL g3 u c3):=by rw [ab,hY];exact aE.new _ _ _ _ _ _
 have bf:Eq (X+1<N.heap.size):=aq.lt;have bj:Eq (w.heap.size≤N.heap.size):=K1.o.size;have aa:Eq (X<Y∧X+1<Y):=by rw [hY];exact ⟨(ag.keep a1).lt,(aq.keep a1).lt⟩
 have aD:Eq (ay w3 Y 31 4):=by rw [ab,hY];exact ⟨_,(by show (w2.heap.push _)[w2.heap.size]?=_;exact GE),rfl⟩
 have bg:Eq (g3<Y):=by rw [hY];exact (aB.sn.lt g3 rfl).2
 clear a1 k3 aB ag aq;go_upto_region 4 with fail
 rw [← ab];try rw [← hY]
 clear ab hY;have y0:=aH.all;obtain ⟨w4,al⟩:=aG ((w3.setCell ⟨Y,3,none⟩ (sL (w3.heap.size) 0 0)).alloc (.cells #[] 3));obtain ⟨ws,D⟩:=aG (w3.setCell ⟨Y,3,none⟩ (sL (w3.heap.size) 0 0));have hsz:ws.heap.size=w3.heap.size:=by rw [D];simp [World.setCell]
 have ka:Bl ws w4:=by rw [al,← D];exact bZ
 have hbase:N.heap.size≤w3.heap.size:=by have h1:=(aI.o.sn.lt g3 rfl);omega
 have ba:w4.ownsRow N.heap.size 3 1 (sL (w3.heap.size) 0 0) 0 []:=by
  refine ⟨rfl,Or.inr ⟨w3.heap.size,0,#[],rfl,hbase,?_,Fv _,FB _,rfl,rfl⟩⟩;rw [al,← D,← hsz];show (ws.heap.push _)[ws.heap.size]?=_
  exact GE
 have aA:Eq (fu w w4 N.heap.size X Y (iT q) (.slice Q m O) (.slice U s J) (.slice R u cs) q F m c1 G s c w3.heap.size 0 0 M V (gG (S.take 0) sq)):=by
  have aO:cU N.heap.size ws F m c1 G s c g3 u c3 M V S:=by rw [D];exact aI.o.kind aD.o (by decide) (by decide) (by decide) (by decide) (cJ _ _ _ _)
  have bh:ay ws Y 31 4:=by rw [D];exact aD.o.setCell _
  have bk:aE ws X (iT q) (.slice Q m O) (.slice U s J) (.slice R u cs):=by rw [D];exact aX.other (by have:=aa.o;omega) _
  have bw:aE ws (X+1) (iT 0) nZ nZ nZ:=by rw [D];exact aS.other (by have:=aa.o;omega) _
  have hby:aE ws Y (iT q) (sL F m c1) (sL G s c) (sL (w3.heap.size) 0 0):=by rw [D];exact aH.set3 _
  have ar:Bl w ws:=by rw [D];exact K3.o.setCell (p:=⟨Y,3,none⟩) (by show _≤Y;have:=HX.o;have:=aa.o;omega) _
  have bu:=aa.o;exact ⟨ar.trans (ka.mono ar.size),bk.keep ka,bw.keep ka,hby.keep ka,⟨(aO.below ka).mem,(aO.below ka).levs,rfl,(fun z hz=>by cases hz),ba⟩,bh.below ka,⟨bf.o,bu.2,bj.o,by have:=HX.o;omega⟩⟩
 obtain ⟨g4,aU⟩:=aG w3.heap.size;clear ba ka hbase hsz D;go_wp2;rw [← al];rw [← aU] at aA;clear al aU y0 aX aS aH aI K3 aD bg aa CO CC K1 K0;have aV:Eq (∀(k:Nat) (z:Int),S[k]?=some z→∃bs os,R=some ⟨bs,os,none⟩∧∀w',Bl w w'→w'.cell? ⟨bs,os+k,none⟩=some (iT z)∧bs<w'.heap.size):=fun k z hz=>by
  have hk:=(E'.1 hz).1;obtain ⟨bs,os,rfl,_⟩:=az.o.form (by rw [← ad.o];omega);refine ⟨bs,os,rfl,fun w' kk=>?_⟩;have h1:=(az.o.keep kk).cells _ rfl k hk;have h2:=(az.o.keep kk).lies _ rfl (by rw [← ad.o];omega);rw [(E'.1 hz).2] at h1;exact ⟨h1,h2.1⟩
 go_loopw [7] (fun iv wr=>∃(k g y c4:Nat),k≤u∧iv=iT k∧y≤k∧fu w wr N.heap.size X Y (iT q) (.slice Q m O) (.slice U s J) (.slice R u cs) q F m c1 G s c g y c4 M V (gG (S.take k) sq)) (fun iv _=>u - (intOf iv).toNat)
 case atStart=>exact ⟨0,g4,0,0,FB _,rfl,Fv _,aA.o⟩
 case round =>
  clear aA;obtain ⟨k,g,y,c4,hk,rfl,aJ,b0⟩:=hrel;have ST:Eq (fu w wr N.heap.size X Y (iT q) (.slice Q m O) (.slice U s J) (.slice R u cs) q F m c1 G s c g y c4 M V (gG (S.take k) sq)):=b0;clear b0;by_cases bp:k<u
  · have b8:(k:Int)<(u:Int):=by omega
    obtain ⟨z,hz⟩:∃z,S[k]?=some z:=⟨_,j' (by rw [ad.o];exact bp)⟩;have b7:Eq ((Lit.int .i64 z).wf=true):=bv.o z (Fw hz);obtain ⟨bs,os,rfl,aR⟩:=aV.o k z hz;have f:Eq (∀w',Bl w w'→w'.cell? ⟨bs,os+k,none⟩=some (iT z)∧bs<w'.heap.size):=aR;clear aR;have x3:=ST.o.bx.c3;have xz:=ST.o.bx.lt;obtain ⟨bz,bl⟩:=f.o _ ST.o.low;by_cases hzs:z=sq
    · subst hzs;have a2:Eq (fu w wr N.heap.size X Y (iT q) (.slice Q m O) (.slice U s J) (sO bs os u cs) q F m c1 G s c g y c4 M V (gG (S.take (k+1)) z)):=by
       show fu _ _ _ _ _ _ _ _ _ _ _ _ _ _ _ _ _ _ _ _ _ _
       rw [drop_take hz,if_pos rfl];exact ST.o
      clear hz ST;go_wp2;go_roundw
      case rel=>exact ⟨k+1,g,y,c4,by omega,by go_num,by omega,a2.o⟩
      case measure=>simp [intOf];omega
    · have b5:Eq (gG (S.take (k+1)) sq=gG (S.take k) sq++[z]):=by show _=_;rw [drop_take hz,if_neg hzs]
      have bP:decide (z=sq)=false:=decide_eq_false hzs;have bS:(z == sq)=false:=by simpa using hzs
      clear hz;have t:=ST.o.below (Below.refl _ wr).drew;go_wp2_with fail
      clear x3 xz bz bl;refine wp_region_held_drew (S:=(fun w'=>w'.cell? ⟨X,3,none⟩=some (sO bs os u cs)∧w'.cell? ⟨bs,os+k,none⟩=some (iT z)∧X<w'.heap.size∧bs<w'.heap.size∧Y<w'.heap.size)) (by kernel_rfl) (⟨t.bx.c3,(f.o _ t.low).1,t.bx.lt,(f.o _ t.low).2,t.hy.lt⟩) (fun E=>?_);generalize wr.drew=wd at t E ⊢;refine aP 0 1 E ?_;refine aP 2 5 E ?_;refine lg 1 7 (fun K hK=>?_) fun K hK=>?_
      · have q3:=t.hy.c3;go_simp;clear q3;refine hK.o _ _ (⟨t.bx.c3,(f.o _ t.low).1,t.bx.lt,(f.o _ t.low).2,t.hy.lt⟩) fun E=>?_
        (try go_frame);refine aQ 7 fun K hK=>?_
        go_simp;have kc:Bl wd (wd.alloc (.cells #[iT z] 3)):=bZ;have b:=t.below kc;have H:=ew wd (iT z) 3;generalize wd.heap.size=gb at H ⊢;generalize wd.alloc (.cells #[iT z] 3)=wb at b H ⊢;refine hK.o _ _ (⟨b.bx.c3,(f.o _ b.low).1,b.bx.lt,(f.o _ b.low).2,b.hy.lt⟩) fun E=>?_
        (try go_frame);refine aQ 8 fun K hK=>?_
        refine aw rfl (.tmp 31) (.tmp 37) 24 rfl N.heap.size 3 i0 _ 1 8 Tryz.underlying24 hi b3 b1 b9 rfl (by decide) _ _ _ rfl b.cp.sn ⟨gb,0,none⟩ 1 1 [iT z] rfl rfl H (by simp [Value.oneCell']) ?_ ?_ ?_ ?_
        · unfold maxLen;omega
        · omega
        · have h1:=(b.cp.sn.lt g rfl);omega
        intro v8 w8 a0 aK bi;obtain ⟨g8,c8,rfl⟩:=ownsRow_succ a0;have d:wb.grownBy w8 (some g):=aK;have x:Bl w w8:=b.low.grown d b.low.size (fun k e=>by cases e;have h1:=(b.cp.sn.lt g rfl).1;have h2:=b.lows;omega);refine hK.o _ _ (⟨(b.bx.grownB d b.ne.1).c3,(f.o _ x).1,(b.bx.grownB d b.ne.1).lt,(f.o _ x).2,(b.hy.grownB d b.ne.2.2).lt⟩) fun E=>?_
        (try go_frame);refine aP 9 1 E ?_;refine aQ 10 fun K hK=>?_
        have I:=b.hy.grownB d b.ne.2.2;have q3:=I.c3;have qf:=I.fz 3;have qz:=I.lt;go_simp;have T:=b.push d a0 b7.o;clear q3 qf qz I;refine hK.o _ _ (⟨T.bx.c3,(f.o _ T.low).1,T.bx.lt,(f.o _ T.low).2,T.hy.lt⟩) fun E=>?_
        (try go_frame);refine dN ?_;have a2:Eq (fu w (w8.setCell ⟨Y,3,none⟩ (sL g8 (y+1) c8)) N.heap.size X Y (iT q) (.slice Q m O) (.slice U s J) (sO bs os u cs) q F m c1 G s c g8 (y+1) c8 M V (gG (S.take (k+1)) sq)):=by rw [b5.o];exact T
        generalize w8.setCell ⟨Y,3,none⟩ (sL g8 (y+1) c8)=w9 at a2 ⊢;clear T b t d a0 x H E;go_wp2;go_roundw
        case rel=>exact ⟨k+1,g8,y+1,c8,by omega,by go_num,by omega,a2.o⟩
        case measure=>simp [intOf];omega
      · go_simp;have kc:Bl wd (wd.alloc (.cells #[iT z] 3)):=bZ;have b:=t.below kc;have H:=ew wd (iT z) 3;generalize wd.heap.size=gb at H ⊢;generalize wd.alloc (.cells #[iT z] 3)=wb at b H ⊢;refine hK.o _ _ (⟨b.bx.c3,(f.o _ b.low).1,b.bx.lt,(f.o _ b.low).2,b.hy.lt⟩) fun E=>?_
        (try go_frame);refine aQ 1 fun K hK=>?_
        have q3:=b.hy.c3;go_simp;clear q3;refine hK.o _ _ (⟨b.bx.c3,(f.o _ b.low).1,b.bx.lt,(f.o _ b.low).2,b.hy.lt⟩) fun E=>?_
        (try go_frame);refine aQ 8 fun K hK=>?_
        refine aw rfl (.tmp 31) (.tmp 37) 24 rfl N.heap.size 3 i0 _ 1 8 Tryz.underlying24 hi b3 b1 b9 rfl (by decide) _ _ _ rfl b.cp.sn ⟨gb,0,none⟩ 1 1 [iT z] rfl rfl H (by simp [Value.oneCell']) ?_ ?_ ?_ ?_
        · unfold maxLen;omega
        · omega
        · have h1:=(b.cp.sn.lt g rfl);omega
        intro v8 w8 a0 aK bi;obtain ⟨g8,c8,rfl⟩:=ownsRow_succ a0;have d:wb.grownBy w8 (some g):=aK;have x:Bl w w8:=b.low.grown d b.low.size (fun k e=>by cases e;have h1:=(b.cp.sn.lt g rfl).1;have h2:=b.lows;omega);refine hK.o _ _ (⟨(b.bx.grownB d b.ne.1).c3,(f.o _ x).1,(b.bx.grownB d b.ne.1).lt,(f.o _ x).2,(b.hy.grownB d b.ne.2.2).lt⟩) fun E=>?_
        (try go_frame);refine aP 9 1 E ?_;refine aQ 10 fun K hK=>?_
        have I:=b.hy.grownB d b.ne.2.2;have q3:=I.c3;have qf:=I.fz 3;have qz:=I.lt;go_simp;have T:=b.push d a0 b7.o;clear q3 qf qz I;refine hK.o _ _ (⟨T.bx.c3,(f.o _ T.low).1,T.bx.lt,(f.o _ T.low).2,T.hy.lt⟩) fun E=>?_
        (try go_frame);refine dN ?_;have a2:Eq (fu w (w8.setCell ⟨Y,3,none⟩ (sL g8 (y+1) c8)) N.heap.size X Y (iT q) (.slice Q m O) (.slice U s J) (sO bs os u cs) q F m c1 G s c g8 (y+1) c8 M V (gG (S.take (k+1)) sq)):=by rw [b5.o];exact T
        generalize w8.setCell ⟨Y,3,none⟩ (sL g8 (y+1) c8)=w9 at a2 ⊢;clear T b t d a0 x H E;go_wp2;go_roundw
        case rel=>exact ⟨k+1,g8,y+1,c8,by omega,by go_num,by omega,a2.o⟩
        case measure=>simp [intOf];omega
  · have b8:¬(k:Int)<(u:Int):=by omega
    have bm:Eq (S.take k=S):=FH (by rw [ad.o];omega);have x3:=ST.o.bx.c3;have xz:=ST.o.bx.lt;have t:=ST.o.below (Below.refl _ wr).drew;go_wp2_with fail
    clear x3 xz;refine wp_region_held_drew (S:=(fun w'=>w'.cell? ⟨Y,0,none⟩=some (iT q)∧w'.cell? ⟨Y,1,none⟩=some (sL F m c1)∧w'.cell? ⟨Y,2,none⟩=some (sL G s c)∧w'.cell? ⟨Y,3,none⟩=some (sL g y c4)∧w'.cell? ⟨X,3,none⟩=some (.slice R u cs)∧X<w'.heap.size∧Y<w'.heap.size)) (by kernel_rfl) (⟨t.hy.c0,t.hy.c1,t.hy.c2,t.hy.c3,t.bx.c3,t.bx.lt,t.hy.lt⟩) (fun E=>?_);generalize wr.drew=wd at t E ⊢;refine aP 0 8 E ?_;refine aQ 8 fun K hK=>?_
    have r0:=t.br.all;have a6:X+1≠Y:=by have:=t.lows;omega
    have a7:X+1≠X:=by omega
    have a4:=(((t.hy.other (b':=X+1) (o:=0) a6 (iT q)).other (b':=X+1) (o:=1) a6 (sL F m c1)).other (b':=X+1) (o:=2) a6 (sL G s c)).other (b':=X+1) (o:=3) a6 (sL g y c4);have aF:=(((t.bx.other (b':=X+1) (o:=0) a7 (iT q)).other (b':=X+1) (o:=1) a7 (sL F m c1)).other (b':=X+1) (o:=2) a7 (sL G s c)).other (b':=X+1) (o:=3) a7 (sL g y c4);go_simp;clear r0;refine hK.o _ _ (⟨a4.c0,a4.c1,a4.c2,a4.c3,aF.c3,aF.lt,a4.lt⟩) fun E=>?_
    (try go_frame);refine aP 9 1 E ?_;refine dN ?_;clear a4 aF a6 a7 E;go_wp2;refine bodyPost_ret (v:=.tuple #[.agg #[iT q,sL F m c1,sL G s c,sL g y c4],.bool (decide ((y:Int)<(u:Int)))]) ?_ rfl ?_
    · have e:=(((t.br.set0 (iT q)).set1 (sL F m c1)).set2 (sL G s c)).set3 (sL g y c4);simp [results,Tryz.results45,go_sem,e.all]
    · have hl:=t.lows;have hx:w.heap.size≤X+1:=by omega
      have hc:=t.cp.four (X:=X+1) hl.1 (iT q) (sL F m c1) (sL G s c) (sL g y c4);have aJ:=t.cp.slen;rw [bm.o] at hc aJ;refine wv ?_ hc hl.2.2.1 (tk t.low hx _ _ _ _);rw [← DG,ad.o,aJ];simp
theorem za (a:Option Addr) (n c:Nat) (K:List ae) (q:Int) (w:World) (hK:ah w a n c K) (hn:n≤1048576) (aV:0≤q) (aW:q≤100000) :
 Calls Tryz.prog 158 #[.slice a n c,iT q] w fun e w'=>jW q K n w e w':=by
 have HK:=bT hK;have r:Eq (K.length=n):=hK.length;clear hK;obtain ⟨i0,hi,aq,ao,aA⟩:=info_parts Tryz.infoEnt;have a5:Eq ((w.alloc (.cells #[] 50)).ownsRow w.heap.size 50 5 (sL (w.heap.size) 0 0) 0 (aC (fs q (K.take 0)))):=by
  have:=F6 (base:=w.heap.size) (e:=50) (size:=5) w #[] 0 (Fv _) (by simp) (by simp);show World.ownsRow _ _ _ _ _ _ _
  simpa [fs,aC] using this
 have af:Bl w (w.alloc (.cells #[] 50)):=bZ;go_enter Tryz.func158,Tryz.ntmps158
 go_wp2;go_loopw [6,7] (fun vv iv wr=>∃i:Nat,i≤n∧iv=iT i∧(∃g c',vv=sL g i c')∧wr.ownsRow w.heap.size 50 5 vv i (aC (fs q (K.take i)))∧(∀l ∈ fs q (K.take i),dR l)∧(∀j,j<i→oD q K j=true)∧Bl w wr) (fun _ iv _=>n - (intOf iv).toNat)
 case atStart=>exact ⟨0,FB _,rfl,⟨_,_,rfl⟩,a5.o,(by simp [fs]),(fun j hj=>absurd hj (Gy _)),af⟩
 case round =>
  clear a5 af;obtain ⟨i,aY,rfl,⟨y,x,rfl⟩,hv,hw,a1,hb⟩:=hrel;have HV:Eq (wr.ownsRow w.heap.size 50 5 (sL y i x) i (aC (fs q (K.take i)))):=hv;have HW:Eq (∀l ∈ fs q (K.take i),dR l):=hw;have a8:Eq (∀j,j<i→oD q K j=true):=a1;have Y:Eq (Bl w wr):=hb;have aU:=hb.size;clear hv hw a1;by_cases Z:i<n
  · have a4:(i:Int)<(n:Int):=by omega
    obtain ⟨b,b1,rfl,aa⟩:=HK.o.form (by omega);obtain ⟨s,U,d,t,m,hg,a6,g0,g1,g2,g3,g4⟩:=HK.o.ent hb aa i Z;have HG:Eq (K[i]?=some (s,U,d,t,m)):=hg;have I:Eq (dR (s,U,d,t,m)):=a6;have aS:b<wr.heap.size:=u' aa hb.size;clear hg a6 hb;by_cases h0:U=0
    · subst h0;have e1:IntKind.i64.wrap (q+1)=q+1:=by rw [FQ];unfold wrap64;omega
      have e2:IntKind.i64.wrap (q+1+(i:Int))=q+1+(i:Int):=by rw [FQ];unfold wrap64;omega
      obtain ⟨Q,hQ⟩:∃Q:Int,Q=q+1+(i:Int):=⟨_,rfl⟩;have HQ:Eq (Q=q+1+(i:Int)):=hQ;obtain ⟨wq,H⟩:=aG (wr.alloc (.cells #[.string s,iT (q+1+(i:Int)),iT d,.string t,iT m] 50));obtain ⟨A,W⟩:=aG wr.heap.size;have kq:Bl wr wq:=by rw [H];exact bZ
      have b5:wq.cell? ⟨A,0,none⟩=some (.string s)∧wq.cell? ⟨A,1,none⟩=some (iT Q)∧wq.cell? ⟨A,2,none⟩=some (iT d)∧wq.cell? ⟨A,3,none⟩=some (.string t)∧wq.cell? ⟨A,4,none⟩=some (iT m)∧A<wq.heap.size:=by
       rw [H,W,hQ];refine ⟨?_,?_,?_,?_,?_,?_⟩ <;> simp
      have B5:Eq (wq.cell? ⟨A,0,none⟩=some (.string s)∧wq.cell? ⟨A,1,none⟩=some (iT Q)∧wq.cell? ⟨A,2,none⟩=some (iT d)∧wq.cell? ⟨A,3,none⟩=some (.string t)∧wq.cell? ⟨A,4,none⟩=some (iT m)∧A<wq.heap.size):=b5;obtain ⟨O,hO⟩:=aG (dm s Q d t m);have CE:Eq (Calls Tryz.prog 143 #[.agg #[.string s,iT Q,iT d,.string t,iT m]] wq fun e w'=>e=.returned (.bool O)∧Bl wq w'):=by rw [hO];exact th s t Q d m wq I.o.1 I.o.2.2.2.1
      have a3:Eq (oD q K i=O):=by
       show oD q K i=O
       rw [EM HG.o rfl,hO,hQ]
      have a9:Eq (Bl w wq):=Y.o.trans (kq.mono Y.o.size);have ap:Eq (wq.ownsRow w.heap.size 50 5 (sL y i x) i (aC (fs q (K.take i)))):=bK HV.o kq;have ay:Eq (dR (s,Q,d,t,m)):=⟨I.o.1,(by rw [hQ];exact FW (by omega):(Lit.int .i64 Q).wf=true),I.o.2.2⟩;clear kq b5 hO;go_upto_region 9 with fail
      rw [← H];try rw [← W]
      try rw [← hQ]
      clear H W hQ;obtain ⟨y0,y1,y2,y3,y4,yz⟩:=B5.o;go_wp2_with fail
      clear y0 y1 y2 y3 y4 yz g0 g1 g2 g3 g4;refine CE.o.mono ?_;rintro e F ⟨rfl,f⟩;have N:Eq (Bl w F):=a9.o.trans (f.mono a9.o.size);have ab:Eq (F.ownsRow w.heap.size 50 5 (sL y i x) i (aC (fs q (K.take i)))):=bK ap.o f;obtain ⟨y0,y1,y2,y3,y4,yz⟩:=B5.o;have y0:=cell_later f y0;have y1:=cell_later f y1;have y2:=cell_later f y2;have y3:=cell_later f y3;have y4:=cell_later f y4;have yz:=u' yz f.size;have aO:=N.o.size;clear f;cases O with
      | false =>
       have X:Eq (fk q K=false):=ui (i:=i) (by rw [r.o];exact Z) a3.o;go_wp2;exact bodyPost_ret (v:=.tuple #[sL y i x,.bool false]) (by simp [results,Tryz.results158,go_sem]) rfl (show jW q K _ w _ _ from ⟨_,_,rfl,(fun h=>by rw [X.o] at h;cases h),fun _=>⟨rfl,_,_,_,fs q (K.take i),rfl,ag.entsAt ⟨ab.o,by rw [fJ,FC,r.o];omega,HW.o⟩⟩,N.o⟩)
      | true =>
       have a2:∀j u,[Value.string s,iT Q,iT d,.string t,iT m][j]?=some u→(F.alloc (.cells #[.string s,iT Q,iT d,.string t,iT m] 50)).cell? ((⟨F.heap.size,0,none⟩:Addr).add j)=some u:=ri F s Q d t m;have ar:=bT a2;have ka:Bl F (F.alloc (.cells #[.string s,iT Q,iT d,.string t,iT m] 50)):=bZ;have ad:Eq ((F.alloc (.cells #[.string s,iT Q,iT d,.string t,iT m] 50)).ownsRow w.heap.size 50 5 (sL y i x) i (aC (fs q (K.take i)))):=bK ab.o ka;have T:Eq (Bl w (F.alloc (.cells #[.string s,iT Q,iT d,.string t,iT m] 50))):=N.o.trans (ka.mono N.o.size);clear a2 ka;go_wp2_with (at_builtin;refine wpList_append_own _ rfl _ _ 28 rfl w.heap.size 50 i0 _ 5 56 Tryz.underlying28 hi aq ao aA rfl (by decide) _ _ _ rfl ad.o ⟨F.heap.size,0,none⟩ 1 1 [.string s,iT Q,iT d,.string t,iT m] rfl rfl ar.o (by intro u hu;simp at hu;rcases hu with rfl | rfl | rfl | rfl | rfl <;> rfl) (by unfold maxLen;omega) (by omega) T.o.size ?_;intro v2 w2 B J R;obtain ⟨g2,c2,rfl⟩:=aH B R)
       go_roundw
       case rel =>
        have e3:fs q (K.take (i+1))=fs q (K.take i)++[(s,Q,d,t,m)]:=by
         rw [A5 HG.o,HQ.o];rfl
        refine ⟨i+1,by omega,by go_num,⟨_,_,rfl⟩,?_,?_,?_,?_⟩
        · rw [e3,aL];exact B
        · rw [e3];intro l hl;rcases FI.1 hl with h | h
          · exact HW.o l h
          · rw [FL] at h;subst h;exact ay.o
        · intro j hj;by_cases aB:j<i
          · exact a8.o j aB
          · rw [show j=i by omega];exact a3.o
        · exact T.o.grown J T.o.size (fun k e=>(ad.o.lt k e).1)
       case measure=>simp [intOf];omega
    · have X:Eq (fk q K=false):=ui (i:=i) (by rw [r.o];exact Z) (Eh HG.o h0);have b2:(U == 0)=false:=by simpa using h0
      have aP:decide (U=0)=false:=decide_eq_false h0;have az:Eq ((wr.alloc (.cells #[.string s,iT U,iT d,.string t,iT m] 50)).ownsRow w.heap.size 50 5 (sL y i x) i (aC (fs q (K.take i)))):=bK HV.o bZ;have av:Eq (Bl w (wr.alloc (.cells #[.string s,iT U,iT d,.string t,iT m] 50))):=Y.o.alloc Y.o.size _;go_wp2;exact bodyPost_ret (v:=.tuple #[sL y i x,.bool false]) (by simp [results,Tryz.results158,go_sem]) rfl (show jW q K _ w _ _ from ⟨_,_,rfl,(fun h=>by rw [X.o] at h;cases h),fun _=>⟨rfl,_,_,_,fs q (K.take i),rfl,ag.entsAt ⟨az.o,by rw [fJ,FC,r.o];omega,HW.o⟩⟩,av.o⟩)
  · have a4:¬(i:Int)<(n:Int):=by omega
    obtain rfl:i=n:=by omega
    have E:Eq (fk q K=true):=yX r.o a8.o;have C:=HV.o;rw [FH (by rw [r.o];omega)] at C;have a0:=HW.o;rw [FH (by rw [r.o];omega)] at a0;have hsl:(fs q K).length=i:=by rw [fJ,r.o]
    have D:Eq (ag wr w.heap.size y i x (fs q K)):=⟨C,hsl,a0⟩;clear C a0 hsl;by_cases h1:1≤i
    · have au:(i:Int) ≥ 1:=by omega
      by_cases ac:i≤12
      · have a7:(i:Int)≤12:=by omega
        go_wp2;exact bodyPost_ret (v:=.tuple #[sL y i x,.bool true]) (by simp [results,Tryz.results158,go_sem]) rfl (show jW q K _ w _ _ from ⟨_,_,rfl,(fun _=>⟨⟨y,x,rfl,D.o⟩,by simp [h1,ac]⟩),(fun h=>by rw [E.o] at h;cases h),Y.o⟩)
      · have a7:¬(i:Int)≤12:=by omega
        go_wp2;exact bodyPost_ret (v:=.tuple #[sL y i x,.bool false]) (by simp [results,Tryz.results158,go_sem]) rfl (show jW q K _ w _ _ from ⟨_,_,rfl,(fun _=>⟨⟨y,x,rfl,D.o⟩,by simp [h1,ac]⟩),(fun h=>by rw [E.o] at h;cases h),Y.o⟩)
    · have au:¬(i:Int) ≥ 1:=by omega
      go_wp2;exact bodyPost_ret (v:=.tuple #[sL y i x,.bool false]) (by simp [results,Tryz.results158,go_sem]) rfl (show jW q K _ w _ _ from ⟨_,_,rfl,(fun _=>⟨⟨y,x,rfl,D.o⟩,by simp [h1]⟩),(fun h=>by rw [E.o] at h;cases h),Y.o⟩)
theorem A8 (s t:ByteArray) (q d n:Int) (w:World) (hE:dR (s,q,d,t,n)) :
 Calls Tryz.prog 159 #[nZ,.agg #[.string s,iT q,iT d,.string t,iT n]] w fun e w'=>∃g c,e=.returned (sL g 1 c)∧ag w' w.heap.size g 1 c [(s,q,d,t,n)]∧Bl w w':=by
 have a0:=bT hE;obtain ⟨X,hX⟩:=aG w.heap.size;obtain ⟨W,hW⟩:=aG (w.alloc (.cells #[.string s,iT q,iT d,.string t,iT n] 50));have x0:W.cell? ⟨X,0,none⟩=some (.string s):=by rw [hW,hX];simp
 have x1:W.cell? ⟨X,1,none⟩=some (iT q):=by rw [hW,hX];simp
 have x2:W.cell? ⟨X,2,none⟩=some (iT d):=by rw [hW,hX];simp
 have x3:W.cell? ⟨X,3,none⟩=some (.string t):=by rw [hW,hX];simp
 have x4:W.cell? ⟨X,4,none⟩=some (iT n):=by rw [hW,hX];simp
 have kW:Bl w W:=by rw [hW];exact bZ
 have av:w.heap.size+1≤W.heap.size:=by rw [hW];simp
 have Z:Eq (X=w.heap.size):=hX;have az:Eq (Bl w W):=kW;have aI:Eq (w.heap.size+1≤W.heap.size):=av;obtain ⟨i0,hi,T,R,a1⟩:=info_parts Tryz.infoEnt;go_enter Tryz.func159,Tryz.ntmps159
 go_upto_block 0 with fail
 rw [← hW,← hX];clear hW hX kW av hE;go_cut [5] (fun kv wz=>kv=iT 0∧Bl W wz)
 case first =>
  go_wp2_with fail
  go_loopw [5] (fun kv wr=>kv=iT 0∧Bl W wr) (fun _ _=>0)
  case atStart=>exact ⟨rfl,Below.refl _ _⟩
  case round =>
   obtain ⟨rfl,hb⟩:=hrel;have y0:=cell_later hb x0;have y1:=cell_later hb x1;have y2:=cell_later hb x2;have y3:=cell_later hb x3;have y4:=cell_later hb x4;have k0:Bl wr wr.drew:=(Below.refl _ wr).drew;have D:Eq (∀w',Bl wr w'→(w'.cell? ⟨X,0,none⟩=some (.string s)∧w'.cell? ⟨X,1,none⟩=some (iT q)∧w'.cell? ⟨X,2,none⟩=some (iT d)∧w'.cell? ⟨X,3,none⟩=some (.string t)∧w'.cell? ⟨X,4,none⟩=some (iT n)∧X<w'.heap.size)):=fun w' U=>⟨cell_later U y0,cell_later U y1,cell_later U y2,cell_later U y3,cell_later U y4,Fu _ _ (cell_later U y0)⟩
   go_wp2_with fail
   refine eJ D k0 fun E=>?_
   refine aP 0 9 E ?_;refine aQ 9 fun K hK=>?_
   go_simp;refine hK.o _ _ (D.o _ k0) fun E=>?_
   refine aP 10 1 E ?_;refine dN ?_;have KZ:Eq (Bl W wr.drew):=hb.trans (k0.mono hb.size);clear k0 D E y0 y1 y2 y3 y4 hb;go_wp2;go_meet
   exact ⟨rfl,KZ.o⟩
 case rest =>
  obtain ⟨rfl,kz⟩:=hcut;obtain ⟨wz,au⟩:=aG wc;rw [← au] at kz ⊢;clear au;have ap:Bl w wz:=az.o.trans (kz.mono az.o.size);have hzs:w.heap.size+1≤wz.heap.size:=FK aI.o kz.size;have z0:=cell_later kz x0;have z1:=cell_later kz x1;have z2:=cell_later kz x2;have z3:=cell_later kz x3;have z4:=cell_later kz x4;have kt:Bl wz (wz.alloc (.cells #[] 50)):=bZ;have ax:Eq (ag (wz.alloc (.cells #[] 50)) (w.heap.size+1) wz.heap.size 0 0 []):=bV wz _ hzs;have aE:Eq (fZ w (wz.alloc (.cells #[] 50)) X wz.heap.size 0 0 s t q d n []):=⟨ap.trans (kt.mono ap.size),FK hzs kt.size,cell_later kt z0,cell_later kt z1,cell_later kt z2,cell_later kt z3,cell_later kt z4,ax.o⟩;clear kz z0 z1 z2 z3 z4 kt ap;go_upto_region 4 with fail
  go_cut [6] (fun tv wt=>∃gt ct,tv=sL gt 0 ct∧fZ w wt X gt 0 ct s t q d n [])
  case first =>
   go_wp2;go_meet
   exact ⟨wz.heap.size,0,rfl,aE.o⟩
  case rest =>
   obtain ⟨gt,ct,rfl,ao⟩:=hcut;obtain ⟨wt,aB⟩:=aG wc;rw [← aB] at ao ⊢;have k0:fZ w wt.drew X gt 0 ct s t q d n []:=ao.below (Below.refl _ wt).drew;clear aB ao ax aE hzs;have D:Eq (∀w',fZ w w' X gt 0 ct s t q d n []→(w'.cell? ⟨X,0,none⟩=some (.string s)∧w'.cell? ⟨X,1,none⟩=some (iT q)∧w'.cell? ⟨X,2,none⟩=some (iT d)∧w'.cell? ⟨X,3,none⟩=some (.string t)∧w'.cell? ⟨X,4,none⟩=some (iT n)∧X<w'.heap.size)):=fun w' U=>⟨U.x0,U.x1,U.x2,U.x3,U.x4,U.lt⟩
   go_wp2_with fail
   refine eJ D k0 fun E=>?_
   generalize wt.drew=N at k0 E ⊢;refine aP 1 3 E ?_;refine aP 5 1 E ?_;refine aP 8 1 E ?_;have aZ:=k0.tl.lt.2;refine lg 0 6 (fun K hK=>?_) (fun K hK=>?_)
   · go_simp;have kA:Bl N (N.alloc (.cells #[] 50)):=bZ;have sA:=k0.below kA;have Y:gt≠N.heap.size:=by omega
     have rA:ag (N.alloc (.cells #[] 50)) (w.heap.size+1) N.heap.size 0 0 []:=bV N _ k0.hi;generalize N.heap.size=ga at rA Y ⊢;generalize N.alloc (.cells #[] 50)=F at sA rA ⊢;clear kA;refine hK.o _ _ (D.o _ sA) fun E=>?_
     (try go_frame);refine lg 4 6 (fun K hK=>?_) (fun K hK=>?_)
     · go_simp;refine hK.o _ _ (D.o _ sA) fun E=>?_
       (try go_frame);refine aQ 6 fun K hK=>?_
       go_simp;have kN:Bl F (F.alloc (.cells #[.string s,iT q,iT d,.string t,iT n] 50)):=bZ;have O:=sA.below kN;have rN:ah (F.alloc (.cells #[.string s,iT q,iT d,.string t,iT n] 50)) (some ⟨F.heap.size,0,none⟩) 1 1 [(s,q,d,t,n)]:=df F _ _ _ _ _ a0.o;have rB:=rA.below kN;have a5:ga≠F.heap.size:=by have:=rA.lt.2;omega
       generalize F.heap.size=gn at rN a5 ⊢;generalize F.alloc (.cells #[.string s,iT q,iT d,.string t,iT n] 50)=Q at O rN rB ⊢;clear kN;refine hK.o _ _ (D.o _ O) fun E=>?_
       (try go_frame);refine aQ 7 fun K hK=>?_
       refine aw rfl (.tmp 31) (.tmp 33) 28 rfl (w.heap.size+1) 50 i0 _ 5 56 Tryz.underlying28 hi T R a1 rfl (Ga 4) _ _ _ rfl rB.owns ⟨gn,0,none⟩ 1 1 (aC [(s,q,d,t,n)]) rfl rfl (bC rN) (aO _) (by decide) (by decide) O.hi ?_;intro v7 w7 u y C;obtain ⟨g7,c7,rfl⟩:=aH u C;have A:Q.grownBy w7 (some ga):=y;have m:=O.grown A (by have:=rB.lt.1;omega) (by have:=rB.lt.1;have:=Z.o;omega) Y;have I:ag w7 (w.heap.size+1) g7 1 c7 [(s,q,d,t,n)]:=⟨u,rfl,fun l hl=>by simp only [FL] at hl;subst hl;exact a0.o⟩;refine hK.o _ _ (D.o _ m) fun E=>?_
       (try go_frame);refine aQ 9 fun K hK=>?_
       refine aw rfl (.tmp 34) (.tmp 35) 28 rfl (w.heap.size+1) 50 i0 _ 5 56 Tryz.underlying28 hi T R a1 rfl (Ga 4) _ _ _ rfl I.owns ⟨gt,0,none⟩ 0 ct [] rfl rfl (fun _ _ h=>by cases h) (fun _ h=>by cases h) (by decide) (by decide) m.hi ?_;intro v9 w9 r f B;obtain ⟨g9,c9,rfl⟩:=aH r B;have b:w7.grownBy w9 (some g7):=f;have H:Bl w w9:=m.low.grown b m.low.size (fun k e=>by cases e;have:=I.lt.1;omega);have a8:Eq (ag w9 w.heap.size g9 1 c9 [(s,q,d,t,n)]):=ag.mono (base:=w.heap.size+1) ⟨r,rfl,I.ents⟩ (by omega);have a9:Eq (Bl w w9):=H;refine hK.o _ _ ?_ (fun E=>?_)
       · have J:X≠g7:=by have:=I.lt.1;have:=Z.o;omega
         exact ⟨(an b (x:=⟨X,0,none⟩) m.lt J).trans m.x0,(an b (x:=⟨X,1,none⟩) m.lt J).trans m.x1,(an b (x:=⟨X,2,none⟩) m.lt J).trans m.x2,(an b (x:=⟨X,3,none⟩) m.lt J).trans m.x3,(an b (x:=⟨X,4,none⟩) m.lt J).trans m.x4,u' m.lt f.size⟩
       clear hK K;(try go_frame);refine aP 10 1 E ?_;refine dN ?_;clear r f B u y C I m H;go_wp2;go_ret;exact ⟨g9,c9,rfl,a8.o,a9.o⟩
     · go_simp;have kN:Bl F (F.alloc (.cells #[.string s,iT q,iT d,.string t,iT n] 50)):=bZ;have O:=sA.below kN;have rN:ah (F.alloc (.cells #[.string s,iT q,iT d,.string t,iT n] 50)) (some ⟨F.heap.size,0,none⟩) 1 1 [(s,q,d,t,n)]:=df F _ _ _ _ _ a0.o;have rB:=rA.below kN;have a5:ga≠F.heap.size:=by have:=rA.lt.2;omega
       generalize F.heap.size=gn at rN a5 ⊢;generalize F.alloc (.cells #[.string s,iT q,iT d,.string t,iT n] 50)=Q at O rN rB ⊢;clear kN;refine hK.o _ _ (D.o _ O) fun E=>?_
       (try go_frame);refine aQ 4 fun K hK=>?_
       go_simp;refine hK.o _ _ (D.o _ O) fun E=>?_
       (try go_frame);refine aQ 7 fun K hK=>?_
       refine aw rfl (.tmp 31) (.tmp 33) 28 rfl (w.heap.size+1) 50 i0 _ 5 56 Tryz.underlying28 hi T R a1 rfl (Ga 4) _ _ _ rfl rB.owns ⟨gn,0,none⟩ 1 1 (aC [(s,q,d,t,n)]) rfl rfl (bC rN) (aO _) (by decide) (by decide) O.hi ?_;intro v7 w7 u y C;obtain ⟨g7,c7,rfl⟩:=aH u C;have A:Q.grownBy w7 (some ga):=y;have m:=O.grown A (by have:=rB.lt.1;omega) (by have:=rB.lt.1;have:=Z.o;omega) Y;have I:ag w7 (w.heap.size+1) g7 1 c7 [(s,q,d,t,n)]:=⟨u,rfl,fun l hl=>by simp only [FL] at hl;subst hl;exact a0.o⟩;refine hK.o _ _ (D.o _ m) fun E=>?_
       (try go_frame);refine aQ 9 fun K hK=>?_
       refine aw rfl (.tmp 34) (.tmp 35) 28 rfl (w.heap.size+1) 50 i0 _ 5 56 Tryz.underlying28 hi T R a1 rfl (Ga 4) _ _ _ rfl I.owns ⟨gt,0,none⟩ 0 ct [] rfl rfl (fun _ _ h=>by cases h) (fun _ h=>by cases h) (by decide) (by decide) m.hi ?_;intro v9 w9 r f B;obtain ⟨g9,c9,rfl⟩:=aH r B;have b:w7.grownBy w9 (some g7):=f;have H:Bl w w9:=m.low.grown b m.low.size (fun k e=>by cases e;have:=I.lt.1;omega);have a8:Eq (ag w9 w.heap.size g9 1 c9 [(s,q,d,t,n)]):=ag.mono (base:=w.heap.size+1) ⟨r,rfl,I.ents⟩ (by omega);have a9:Eq (Bl w w9):=H;refine hK.o _ _ ?_ (fun E=>?_)
       · have J:X≠g7:=by have:=I.lt.1;have:=Z.o;omega
         exact ⟨(an b (x:=⟨X,0,none⟩) m.lt J).trans m.x0,(an b (x:=⟨X,1,none⟩) m.lt J).trans m.x1,(an b (x:=⟨X,2,none⟩) m.lt J).trans m.x2,(an b (x:=⟨X,3,none⟩) m.lt J).trans m.x3,(an b (x:=⟨X,4,none⟩) m.lt J).trans m.x4,u' m.lt f.size⟩
       clear hK K;(try go_frame);refine aP 10 1 E ?_;refine dN ?_;clear r f B u y C I m H;go_wp2;go_ret;exact ⟨g9,c9,rfl,a8.o,a9.o⟩
   · go_simp;have kN:Bl N (N.alloc (.cells #[.string s,iT q,iT d,.string t,iT n] 50)):=bZ;have O:=k0.below kN;have rN:ah (N.alloc (.cells #[.string s,iT q,iT d,.string t,iT n] 50)) (some ⟨N.heap.size,0,none⟩) 1 1 [(s,q,d,t,n)]:=df N _ _ _ _ _ a0.o;have aD:gt<(N.alloc (.cells #[.string s,iT q,iT d,.string t,iT n] 50)).heap.size:=by rw [FP];omega
     generalize N.heap.size=gn at rN ⊢;generalize N.alloc (.cells #[.string s,iT q,iT d,.string t,iT n] 50)=Q at O rN aD ⊢;clear kN;refine hK.o _ _ (D.o _ O) fun E=>?_
     (try go_frame);refine aQ 0 fun K hK=>?_
     go_simp;have kA:Bl Q (Q.alloc (.cells #[] 50)):=bZ;have sA:=O.below kA;have Y:gt≠Q.heap.size:=by omega
     have rA:ag (Q.alloc (.cells #[] 50)) (w.heap.size+1) Q.heap.size 0 0 []:=bV Q _ O.hi;have rM:=rN.keep kA;have a5:Q.heap.size≠gn:=by have h1:gn<Q.heap.size:=(rN.lies _ rfl (by decide)).1;omega
     generalize Q.heap.size=ga at rA a5 Y ⊢;generalize Q.alloc (.cells #[] 50)=F at sA rA rM ⊢;clear kA;refine hK.o _ _ (D.o _ sA) fun E=>?_
     (try go_frame);refine aQ 4 fun K hK=>?_
     go_simp;refine hK.o _ _ (D.o _ sA) fun E=>?_
     (try go_frame);refine aQ 7 fun K hK=>?_
     refine aw rfl (.tmp 31) (.tmp 33) 28 rfl (w.heap.size+1) 50 i0 _ 5 56 Tryz.underlying28 hi T R a1 rfl (Ga 4) _ _ _ rfl rA.owns ⟨gn,0,none⟩ 1 1 (aC [(s,q,d,t,n)]) rfl rfl (bC rM) (aO _) (by decide) (by decide) sA.hi ?_;intro v7 w7 u y C;obtain ⟨g7,c7,rfl⟩:=aH u C;have A:F.grownBy w7 (some ga):=y;have m:=sA.grown A (by have:=rA.lt.1;omega) (by have:=rA.lt.1;have:=Z.o;omega) Y;have I:ag w7 (w.heap.size+1) g7 1 c7 [(s,q,d,t,n)]:=⟨u,rfl,fun l hl=>by simp only [FL] at hl;subst hl;exact a0.o⟩;refine hK.o _ _ (D.o _ m) fun E=>?_
     (try go_frame);refine aQ 9 fun K hK=>?_
     refine aw rfl (.tmp 34) (.tmp 35) 28 rfl (w.heap.size+1) 50 i0 _ 5 56 Tryz.underlying28 hi T R a1 rfl (Ga 4) _ _ _ rfl I.owns ⟨gt,0,none⟩ 0 ct [] rfl rfl (fun _ _ h=>by cases h) (fun _ h=>by cases h) (by decide) (by decide) m.hi ?_;intro v9 w9 r f B;obtain ⟨g9,c9,rfl⟩:=aH r B;have b:w7.grownBy w9 (some g7):=f;have H:Bl w w9:=m.low.grown b m.low.size (fun k e=>by cases e;have:=I.lt.1;omega);have a8:Eq (ag w9 w.heap.size g9 1 c9 [(s,q,d,t,n)]):=ag.mono (base:=w.heap.size+1) ⟨r,rfl,I.ents⟩ (by omega);have a9:Eq (Bl w w9):=H;refine hK.o _ _ ?_ (fun E=>?_)
     · have J:X≠g7:=by have:=I.lt.1;have:=Z.o;omega
       exact ⟨(an b (x:=⟨X,0,none⟩) m.lt J).trans m.x0,(an b (x:=⟨X,1,none⟩) m.lt J).trans m.x1,(an b (x:=⟨X,2,none⟩) m.lt J).trans m.x2,(an b (x:=⟨X,3,none⟩) m.lt J).trans m.x3,(an b (x:=⟨X,4,none⟩) m.lt J).trans m.x4,u' m.lt f.size⟩
     clear hK K;(try go_frame);refine aP 10 1 E ?_;refine dN ?_;clear r f B u y C I m H;go_wp2;go_ret;exact ⟨g9,c9,rfl,a8.o,a9.o⟩
theorem cT.set (h:cT w lo a n c L) {p:Addr} (hp:∀x,a=Option.some x→p.block≠x.block) (v:Value):cT (w.setCell p v) lo a n c L :=
 ⟨h.1,fun x e=>by
  obtain ⟨g,e1,o⟩:=h.2 x e
  exact ⟨g,e1,o.setCell (by have:=hp x e;rw [e1] at this;exact this) v⟩⟩
theorem cT.inl (h:cT w lo a n c L):fm lo w a n c L:=⟨h.entsAt,fun x e _=>(h.lt x e).1⟩
theorem A7 (a:Option Addr) (len b:Nat) (L:List ae) (s t:ByteArray) (q d n:Int) (w:World) (hL:cT w lo a len b L) (hlen:len≤1048576) (hE:dR (s,q,d,t,n)) :
 Calls Tryz.prog 159 #[.slice a len b,.agg #[.string s,iT q,iT d,.string t,iT n]] w fun e w'=>∃g c,e=.returned (sL g (len+1) c)∧ag w' w.heap.size g (len+1) c (eE L (s,q,d,t,n))∧Bl w w':=by
 cases a with
 | none =>
  obtain ⟨rfl,rfl,rfl⟩:=hL.1 rfl;exact A8 s t q d n w hE
 | some x =>
  obtain ⟨g,rfl,h⟩:=hL.2 x rfl;exact tg g len b L s t q d n w h.entsAt h.lt.2 hlen hE
theorem ag.at5 {g i:Nat} {s t:ByteArray} {d nn:Int} (h:ag w base g n c L) (hx:L[i]?=some (s,q,d,t,nn)):w.cell? ⟨g,i*5,none⟩=some (.string s)∧w.cell? ⟨g,i*5+1,none⟩=some (iT q)∧w.cell? ⟨g,i*5+2,none⟩=some (iT d)∧w.cell? ⟨g,i*5+3,none⟩=some (.string t)∧w.cell? ⟨g,i*5+4,none⟩=some (iT nn):=by
 obtain ⟨hi,b⟩:=E'.1 hx;obtain ⟨c0,c1,c2,c3,c4⟩:=h.entsAt.cells _ rfl i hi;rw [b] at c0 c1 c2 c3 c4;simp only [FG] at c0 c1 c2 c3 c4;exact ⟨c0,c1,c2,c3,c4⟩
end Go.Proofs.YtpobkmjicbobdaaGreat
