/- Walks. -/
import Derived.Test.YtpobkmjicbobdaaGreatBl21
namespace Go.Proofs.YtpobkmjicbobdaaGreat
set_option maxRecDepth 100000
set_option maxHeartbeats 40000000
open Go.RowKit
theorem wP (lo:Nat) (q:Int) (am:Option Addr) (d J:Nat) (av:Option Addr) (f K:Nat) (Q:Option Addr) (b cs:Nat) (M:List ac) (V:List (List an)) (S:List Int) (w:World) (hT:b6 lo w am d J av f K Q b cs M V S) (hq:(Lit.int .i64 q).wf=true) (htb:bf q M V S=true) :
 Calls Tryz.prog 36 #[.agg #[iT q,.slice am d J,.slice av f K,.slice Q b cs]] w fun e w'=>(b<4∧q ∉ S→tW q d f (b+1) M V (S++[q]) true w e w')∧(¬(b<4∧q ∉ S)→tW q d f b M V S false w e w'):=by
 have hsl:=hT.snaps.length;have bd:b≤4:=by
  have h1:=(aY htb).2.2.2.2.2.2.1;unfold b9 at h1;rw [Db] at h1;have h2:=of_decide_eq_true h1.1;omega
 have b2:d≤60:=by have h1:=(aY htb).2.2.1;have h2:=hT.mem.1.length;omega
 obtain ⟨A,B,C,a6⟩:=ia htb;have be:f≤100:=by have h1:=hT.levels.length;rw [a6] at h1;have h2:([A,B,C]:List (List an)).length=3:=rfl;omega
 have ab:∀B ∈ V,B.length≤100∧∀r ∈ B,1≤r.1.length∧r.1.length≤10000:=by
  have h8:er V q=true:=(aY htb).2.2.2.2.2.2.2.1;rw [a6] at h8 ⊢;unfold er at h8;simp only [Db] at h8;intro Z ag;simp only [Da,Dr,or_false] at ag;rcases ag with rfl | rfl | rfl
  · exact de h8.1 (by omega)
  · exact de h8.2.1 (by omega)
  · exact de h8.2.2 (by omega)
 obtain ⟨Z,hZ⟩:=aH (decide (q ∈ S));have CO:CG (∀w',Bl w w'→Calls Tryz.prog 27 #[.agg #[iT q,.slice am d J,.slice av f K,.slice Q b cs]] w' fun e u=>e=.returned (.bool true)∧Bl w' u):=fun w' k=>by
  have:=ix lo q _ _ _ _ _ _ _ _ _ M V S w' (hT.keep k);rw [htb] at this;exact this
 have CC:CG (∀w',Bl w w'→Calls Tryz.prog 57 #[.agg #[iT q,.slice am d J,.slice av f K,.slice Q b cs]] w' fun e u=>∃m c1 G c g c3,e=.returned (.agg #[iT q,sL m d c1,sL G f c,sL g b c3])∧cE w'.heap.size u m d c1 G f c g b c3 M V S∧Bl w' u):=fun w' k=>ib lo q am av Q d J f K b cs M V S w' (hT.keep k) (by omega) (by omega) (by omega) ab
 have CH:CG (∀w',Bl w w'→Calls Tryz.prog 102 #[.agg #[iT q,.slice am d J,.slice av f K,.slice Q b cs],iT q] w' fun e u=>e=.returned (.bool Z)∧Bl w' u):=fun w' k=>by rw [hZ];exact Ao lo q q _ _ _ _ _ _ _ _ _ S w' (hT.snaps.keep k) (by omega)
 obtain ⟨i0,hi,aR,aE,aG⟩:=info_parts Tryz.infoInt;obtain ⟨X,hX⟩:=aH w.heap.size;obtain ⟨W,hW⟩:=aH ((w.alloc (.cells #[iT q,.slice am d J,.slice av f K,.slice Q b cs] 31)).alloc (.cells #[iT 0,nZ,nZ,nZ] 31));have kW:Bl w W:=by rw [hW];exact bZ.alloc (by simp) _
 have bx:az W X (iT q) (.slice am d J) (.slice av f K) (.slice Q b cs):=by rw [hW,hX];exact (az.new _ _ _ _ _ _).alloc _
 have br:az W (X+1) (iT 0) nZ nZ nZ:=by
  have:=az.new (w.alloc (.cells #[iT q,.slice am d J,.slice av f K,.slice Q b cs] 31)) 31 (iT 0) nZ nZ nZ;rw [Dc] at this;rw [hW,hX];exact this
 have HX:CG (X=w.heap.size):=hX;have K0:CG (Bl w W):=kW;have hd:(b<4∧q ∉ S) ↔ (b<4∧Z=false):=by rw [hZ];simp
 clear hT kW ab hsl htb hZ a6;go_enter Tryz.func36,Tryz.ntmps36
 go_wp2_with fail
 rw [← hX,← hW];clear hX hW;refine (CO.o _ K0.o).mono ?_;rintro e N ⟨rfl,O⟩;have K1:CG (Bl w N):=K0.o.trans (O.mono K0.o.size);have L:=bx.keep O;have U:=br.keep O;have x0:=L.all;clear O bx br;go_wp2_with fail
 clear x0;refine (CC.o _ K1.o).mono ?_;rintro e w2 ⟨m,c1,G,c,g,c3,rfl,a4,t⟩;obtain ⟨Y,hY⟩:=aH w2.heap.size;obtain ⟨w3,E⟩:=aH (w2.alloc (.cells #[iT q,sL m d c1,sL G f c,sL g b c3] 31));have k3:Bl w2 w3:=by rw [E];exact bZ
 have K3:CG (Bl w w3):=(K1.o.trans (t.mono K1.o.size)).trans (k3.mono (C8 K1.o.size t.size));have aO:CG (cE N.heap.size w3 m d c1 G f c g b c3 M V S):=a4.below k3;have a5:=(L.keep t).keep k3;have af:=(U.keep t).keep k3;have ar:az w3 Y (iT q) (sL m d c1) (sL G f c) (sL g b c3):=by rw [E,hY];exact az.new _ _ _ _ _ _
 have T:CG (X+1<N.heap.size):=U.lt;have R:CG (w.heap.size≤N.heap.size):=K1.o.size;have aK:CG (X<Y∧X+1<Y):=by rw [hY];exact ⟨(L.keep t).lt,(U.keep t).lt⟩
 have aD:CG (au w3 Y 31 4):=by rw [E,hY];exact ⟨_,(by show (w2.heap.push _)[w2.heap.size]?=_;exact DT),rfl⟩
 have aw:CG (g<Y):=by rw [hY];exact (a4.sn.lt g rfl).2
 have x0:=a5.all;clear t k3 a4 L U;go_upto_region 4 with fail
 rw [← E];try rw [← hY]
 clear E hY;go_wp2_with fail
 refine (CH.o _ K3.o).mono ?_;rintro e I ⟨rfl,n⟩;have K4:CG (Bl w I):=K3.o.trans (n.mono K3.o.size);have y:CG (cE N.heap.size I m d c1 G f c g b c3 M V S):=aO.o.below n;have ax:CG (Bl w3 I):=n;have aL:=a5.keep n;have a2:=af.keep n;have ap:=ar.keep n;clear x0 n a5 af ar;have x0:=aL.all;have y0:=ap.all;have r0:=a2.all;have F:CG (cE N.heap.size I m d c1 G f c g b c3 M V S):=y.o;cases Z with
 | true =>
  have D:¬(b<4∧q ∉ S):=fun h=>by have:=(hd.1 h).2;cases this
  clear hd;go_wp2;refine bodyPost_ret (v:=.tuple #[.agg #[iT q,sL m d c1,sL G f c,sL g (b) c3],.bool false]) ?_ rfl ⟨fun hn=>absurd hn D,fun _=>⟨m,c1,G,c,g,c3,rfl,?_,?_⟩⟩
  · have e:=(((a2.set0 (iT q)).set1 (sL m d c1)).set2 (sL G f c)).set3 (sL g (b) c3);simp [results,Tryz.results36,go_sem,e.all]
  · exact (F.o.four T.o _ _ _ _).mono R.o
  · have hx:w.heap.size≤X+1:=by have:=HX.o;omega
    exact qX K4.o hx _ _ _ _
 | false =>
  by_cases h4:b<4
  · have D:b<4∧q ∉ S:=hd.2 ⟨h4,rfl⟩;have aU:¬(b:Int) ≥ 4:=by omega
    have ba:=aK.o;have hsn:=y.o.sn.alloc (.cells #[iT q] 3);have b3:=K4.o.size;have aI:CG (N.heap.size≤I.heap.size):=by have h1:=(y.o.sn.lt g rfl);show _≤_;omega
    have aV:=aI.o;have aN:CG (X+1≠g):=by have h1:=(y.o.sn.lt g rfl).1;have h2:=T.o;show _≠_;omega
    clear hd F;go_upto_region 7 with (at_builtin;refine wpList_append_own _ rfl _ _ 24 rfl N.heap.size 3 i0 _ 1 8 Tryz.underlying24 hi aR aE aG rfl (by decide) _ _ _ rfl hsn ⟨I.heap.size,0,none⟩ 1 1 [iT q] rfl rfl (dV _ _ _) (by simp [Value.oneCell']) (by unfold maxLen;omega) (by omega) (by simp;omega) ?_;intro v5 w5 ad s bb;obtain ⟨g4,c4,rfl⟩:=ownsRow_succ ad;have s:(I.alloc (.cells #[iT q] 3)).grownBy w5 (some g):=s;have H:=(ap.alloc (.cells #[iT q] 3)).grownB s (by have:=aw.o;omega);have aj:=(a2.alloc (.cells #[iT q] 3)).grownB s aN.o;have y0:=H.all;have yz:=H.lt)
    have ka:Bl I (I.alloc (.cells #[iT q] 3)):=bZ;have ae:=(y.o.below ka).push s ad hq;have K5:Bl w w5:=(K4.o.alloc K4.o.size _).grown s (by simp;omega) (fun k e=>by cases e;exact C8 R.o (y.o.sn.lt g rfl).1);obtain ⟨w6,x⟩:=aH (w5.setCell ⟨Y,3,none⟩ (sL g4 (b+1) c4));have a3:w5.grownBy w6 (some Y):=by rw [x];exact cq _ _ _ _
    have ai:au w5 Y 31 4:=by
     obtain ⟨aP,h1,h2⟩:=(aD.o.below ax.o).below ka;exact ⟨aP,(s.block Y (DM.1 h1).1 (fun e=>by have:=CZ e;have:=aw.o;omega)).trans h1,h2⟩
    have F:CG (cE N.heap.size w6 m d c1 G f c g4 (b+1) c4 M V (S++[q])):=ae.kind ai (by decide) (by decide) (by decide) (by decide) a3;have aM:az w6 Y (iT q) (sL m d c1) (sL G f c) (sL g4 (b+1) c4):=by rw [x];exact H.set3 _
    have al:az w6 (X+1) (iT 0) nZ nZ nZ:=by rw [x];exact aj.other (b':=Y) (o:=3) (by omega) _
    have aF:CG (az w6 (X+1) (iT 0) nZ nZ nZ):=al;have K6:CG (Bl w w6):=by rw [x];exact K5.setCell (p:=⟨Y,3,none⟩) (by show _≤Y;have:=HX.o;omega) _
    rw [← x];clear x ai ae a3 y0 yz H aj ka K5 x0 r0;have y0:=aM.all;have r0:=al.all;go_wp2;refine bodyPost_ret (v:=.tuple #[.agg #[iT q,sL m d c1,sL G f c,sL g4 (b+1) c4],.bool true]) ?_ rfl ⟨fun _=>⟨m,c1,G,c,g4,c4,rfl,?_,?_⟩,fun hn=>absurd D hn⟩
    · have e:=(((aF.o.set0 (iT q)).set1 (sL m d c1)).set2 (sL G f c)).set3 (sL g4 (b+1) c4);simp [results,Tryz.results36,go_sem,e.all]
    · exact (F.o.four T.o _ _ _ _).mono R.o
    · have hx:w.heap.size≤X+1:=by have:=HX.o;omega
      exact qX K6.o hx _ _ _ _
  · have D:¬(b<4∧q ∉ S):=fun h=>h4 h.1
    have aU:(b:Int) ≥ 4:=by omega
    clear hd;go_wp2;refine bodyPost_ret (v:=.tuple #[.agg #[iT q,sL m d c1,sL G f c,sL g (b) c3],.bool false]) ?_ rfl ⟨fun hn=>absurd hn D,fun _=>⟨m,c1,G,c,g,c3,rfl,?_,?_⟩⟩
    · have e:=(((a2.set0 (iT q)).set1 (sL m d c1)).set2 (sL G f c)).set3 (sL g (b) c3);simp [results,Tryz.results36,go_sem,e.all]
    · exact (F.o.four T.o _ _ _ _).mono R.o
    · have hx:w.heap.size≤X+1:=by have:=HX.o;omega
      exact qX K4.o hx _ _ _ _
theorem us {base g b n f c1 G c d c3:Nat} {q:Int} {M:List ac} {V:List (List an)} {S:List Int} {m:Bool} {w w':World} {e:Ending} (o:e=.returned (.tuple #[.agg #[iT q,sL f g c1,sL G b c,sL d n c3],.bool m])) (hc:cE base w' f g c1 G b c d n c3 M V S) (hl:w.heap.size≤base) (hb:Bl w w'):∃n,tW q g b n M V S m w e w' :=
 ⟨n,f,c1,G,c,d,c3,o,hc.mono hl,hb⟩
theorem wS (lo:Nat) (q:Int) (am:Option Addr) (m J:Nat) (T:Option Addr) (s L:Nat) (O:Option Addr) (u cs:Nat) (M:List ac) (V:List (List an)) (S:List Int) (sq:Int) (w:World) (hT:b6 lo w am m J T s L O u cs M V S) (htb:bf q M V S=true) :
 Calls Tryz.prog 45 #[.agg #[iT q,.slice am m J,.slice T s L,.slice O u cs],iT sq] w (fun e w'=>∃n,tW q m s n M V (fS S sq) (decide (sq ∈ S)) w e w'):=by
 have hsl:=hT.snaps.length;have bU:u≤4:=by
  have h1:=(aY htb).2.2.2.2.2.2.1;unfold b9 at h1;rw [Db] at h1;have h2:=of_decide_eq_true h1.1;omega
 have bK:m≤60:=by have h1:=(aY htb).2.2.1;have h2:=hT.mem.1.length;omega
 obtain ⟨A,B,C,aC⟩:=ia htb;have bV:s≤100:=by have h1:=hT.levels.length;rw [aC] at h1;have h2:([A,B,C]:List (List an)).length=3:=rfl;omega
 have aM:∀B ∈ V,B.length≤100∧∀r ∈ B,1≤r.1.length∧r.1.length≤10000:=by
  have h8:er V q=true:=(aY htb).2.2.2.2.2.2.2.1;rw [aC] at h8 ⊢;unfold er at h8;simp only [Db] at h8;intro Z aO;simp only [Da,Dr,or_false] at aO;rcases aO with rfl | rfl | rfl
  · exact de h8.1 (by omega)
  · exact de h8.2.1 (by omega)
  · exact de h8.2.2 (by omega)
 have CO:CG (∀w',Bl w w'→Calls Tryz.prog 27 #[.agg #[iT q,.slice am m J,.slice T s L,.slice O u cs]] w' fun e af=>e=.returned (.bool true)∧Bl w' af):=fun w' k=>by
  have:=ix lo q _ _ _ _ _ _ _ _ _ M V S w' (hT.keep k);rw [htb] at this;exact this
 have CC:CG (∀w',Bl w w'→Calls Tryz.prog 57 #[.agg #[iT q,.slice am m J,.slice T s L,.slice O u cs]] w' fun e af=>∃F c1 G c g3 c3,e=.returned (.agg #[iT q,sL F m c1,sL G s c,sL g3 u c3])∧cE w'.heap.size af F m c1 G s c g3 u c3 M V S∧Bl w' af):=fun w' k=>ib lo q am T O m J s L u cs M V S w' (hT.keep k) (by omega) (by omega) (by omega) aM
 obtain ⟨i0,hi,b2,aV,aW⟩:=info_parts Tryz.infoInt;obtain ⟨X,hX⟩:=aH w.heap.size;obtain ⟨W,hW⟩:=aH ((w.alloc (.cells #[iT q,.slice am m J,.slice T s L,.slice O u cs] 31)).alloc (.cells #[iT 0,nZ,nZ,nZ] 31));have kW:Bl w W:=by rw [hW];exact bZ.alloc (by simp) _
 have bx:az W X (iT q) (.slice am m J) (.slice T s L) (.slice O u cs):=by rw [hW,hX];exact (az.new _ _ _ _ _ _).alloc _
 have br:az W (X+1) (iT 0) nZ nZ nZ:=by
  have:=az.new (w.alloc (.cells #[iT q,.slice am m J,.slice T s L,.slice O u cs] 31)) 31 (iT 0) nZ nZ nZ;rw [Dc] at this;rw [hW,hX];exact this
 have HX:CG (X=w.heap.size):=hX;have K0:CG (Bl w W):=kW;have aG:CG (bQ lo w O u cs S):=hT.snaps;have a7:CG (S.length=u):=hsl;have bi:CG (∀z ∈ S,(Lit.int .i64 z).wf=true):=hT.snaps.wfs;clear hT hsl;clear kW aM htb aC;go_enter Tryz.func45,Tryz.ntmps45
 go_wp2_with fail
 rw [← hX,← hW];clear hX hW;refine (CO.o _ K0.o).mono ?_;rintro e N ⟨rfl,aj⟩;have K1:CG (Bl w N):=K0.o.trans (aj.mono K0.o.size);have ag:=bx.keep aj;have ao:=br.keep aj;have x0:=ag.all;clear aj bx br;go_wp2_with fail
 clear x0;refine (CC.o _ K1.o).mono ?_;rintro e w2 ⟨F,c1,G,c,g3,c3,rfl,aB,Q⟩;obtain ⟨Y,hY⟩:=aH w2.heap.size;obtain ⟨w3,a6⟩:=aH (w2.alloc (.cells #[iT q,sL F m c1,sL G s c,sL g3 u c3] 31));have k3:Bl w2 w3:=by rw [a6];exact bZ
 have K3:CG (Bl w w3):=(K1.o.trans (Q.mono K1.o.size)).trans (k3.mono (C8 K1.o.size Q.size));have aI:CG (cE N.heap.size w3 F m c1 G s c g3 u c3 M V S):=aB.below k3;have aS:=(ag.keep Q).keep k3;have aN:=(ao.keep Q).keep k3;have aJ:az w3 Y (iT q) (sL F m c1) (sL G s c) (sL g3 u c3):=by rw [a6,hY];exact az.new _ _ _ _ _ _
 have bo:CG (X+1<N.heap.size):=ao.lt;have bk:CG (w.heap.size≤N.heap.size):=K1.o.size;have a9:CG (X<Y∧X+1<Y):=by rw [hY];exact ⟨(ag.keep Q).lt,(ao.keep Q).lt⟩
 have aA:CG (au w3 Y 31 4):=by rw [a6,hY];exact ⟨_,(by show (w2.heap.push _)[w2.heap.size]?=_;exact DT),rfl⟩
 have bq:CG (g3<Y):=by rw [hY];exact (aB.sn.lt g3 rfl).2
 clear Q k3 aB ag ao;go_upto_region 4 with fail
 rw [← a6];try rw [← hY]
 clear a6 hY;have y0:=aJ.all;obtain ⟨w4,ah⟩:=aH ((w3.setCell ⟨Y,3,none⟩ (sL (w3.heap.size) 0 0)).alloc (.cells #[] 3));obtain ⟨ws,E⟩:=aH (w3.setCell ⟨Y,3,none⟩ (sL (w3.heap.size) 0 0));have hsz:ws.heap.size=w3.heap.size:=by rw [E];simp [World.setCell]
 have ka:Bl ws w4:=by rw [ah,← E];exact bZ
 have hbase:N.heap.size≤w3.heap.size:=by have h1:=(aI.o.sn.lt g3 rfl);omega
 have b0:w4.ownsRow N.heap.size 3 1 (sL (w3.heap.size) 0 0) 0 []:=by
  refine ⟨rfl,Or.inr ⟨w3.heap.size,0,#[],rfl,hbase,?_,Cy _,C3 _,rfl,rfl⟩⟩;rw [ah,← E,← hsz];show (ws.heap.push _)[ws.heap.size]?=_
  exact DT
 have aE:CG (fa w w4 N.heap.size X Y (iT q) (.slice am m J) (.slice T s L) (.slice O u cs) q F m c1 G s c w3.heap.size 0 0 M V (fS (S.take 0) sq)):=by
  have b5:cE N.heap.size ws F m c1 G s c g3 u c3 M V S:=by rw [E];exact aI.o.kind aA.o (by decide) (by decide) (by decide) (by decide) (cq _ _ _ _)
  have be:au ws Y 31 4:=by rw [E];exact aA.o.setCell _
  have bv:az ws X (iT q) (.slice am m J) (.slice T s L) (.slice O u cs):=by rw [E];exact aS.other (by have:=a9.o;omega) _
  have bp:az ws (X+1) (iT 0) nZ nZ nZ:=by rw [E];exact aN.other (by have:=a9.o;omega) _
  have hby:az ws Y (iT q) (sL F m c1) (sL G s c) (sL (w3.heap.size) 0 0):=by rw [E];exact aJ.set3 _
  have aq:Bl w ws:=by rw [E];exact K3.o.setCell (p:=⟨Y,3,none⟩) (by show _≤Y;have:=HX.o;have:=a9.o;omega) _
  have bt:=a9.o;exact ⟨aq.trans (ka.mono aq.size),bv.keep ka,bp.keep ka,hby.keep ka,⟨(b5.below ka).mem,(b5.below ka).levs,rfl,(fun z hz=>by cases hz),b0⟩,be.below ka,⟨bo.o,bt.2,bk.o,by have:=HX.o;omega⟩⟩
 obtain ⟨g4,b4⟩:=aH w3.heap.size;clear b0 ka hbase hsz E;go_wp2;rw [← ah];rw [← b4] at aE;clear ah b4 y0 aS aN aJ aI K3 aA bq a9 CO CC K1 K0;have b3:CG (∀(k:Nat) (z:Int),S[k]?=some z→∃bs os,O=some ⟨bs,os,none⟩∧∀w',Bl w w'→w'.cell? ⟨bs,os+k,none⟩=some (iT z)∧bs<w'.heap.size):=fun k z hz=>by
  have hk:=(Cx.1 hz).1;obtain ⟨bs,os,rfl,_⟩:=aG.o.form (by rw [← a7.o];omega);refine ⟨bs,os,rfl,fun w' kk=>?_⟩;have h1:=(aG.o.keep kk).cells _ rfl k hk;have h2:=(aG.o.keep kk).lies _ rfl (by rw [← a7.o];omega);rw [(Cx.1 hz).2] at h1;exact ⟨h1,h2.1⟩
 go_loopw [7] (fun iv wr=>∃(k g y c4:Nat),k≤u∧iv=iT k∧y≤k∧fa w wr N.heap.size X Y (iT q) (.slice am m J) (.slice T s L) (.slice O u cs) q F m c1 G s c g y c4 M V (fS (S.take k) sq)) (fun iv _=>u - (intOf iv).toNat)
 case atStart=>exact ⟨0,g4,0,0,C3 _,rfl,Cy _,aE.o⟩
 case round =>
  clear aE;obtain ⟨k,g,y,c4,hk,rfl,aD,aQ⟩:=hrel;have ST:CG (fa w wr N.heap.size X Y (iT q) (.slice am m J) (.slice T s L) (.slice O u cs) q F m c1 G s c g y c4 M V (fS (S.take k) sq)):=aQ;clear aQ;by_cases bn:k<u
  · have b1:(k:Int)<(u:Int):=by omega
    obtain ⟨z,hz⟩:∃z,S[k]?=some z:=⟨_,j' (by rw [a7.o];exact bn)⟩;have aU:CG ((Lit.int .i64 z).wf=true):=bi.o z (CV hz);obtain ⟨bs,os,rfl,aX⟩:=b3.o k z hz;have f:CG (∀w',Bl w w'→w'.cell? ⟨bs,os+k,none⟩=some (iT z)∧bs<w'.heap.size):=aX;clear aX;have x3:=ST.o.bx.c3;have xz:=ST.o.bx.lt;obtain ⟨bz,bl⟩:=f.o _ ST.o.low;by_cases hzs:z=sq
    · subst hzs;have a1:CG (fa w wr N.heap.size X Y (iT q) (.slice am m J) (.slice T s L) (sO bs os u cs) q F m c1 G s c g y c4 M V (fS (S.take (k+1)) z)):=by
       show fa _ _ _ _ _ _ _ _ _ _ _ _ _ _ _ _ _ _ _ _ _ _
       rw [drop_take hz,if_pos rfl];exact ST.o
      clear hz ST;go_wp2;go_roundw
      case rel=>exact ⟨k+1,g,y,c4,by omega,by go_num,by omega,a1.o⟩
      case measure=>simp [intOf];omega
    · have b7:CG (fS (S.take (k+1)) sq=fS (S.take k) sq++[z]):=by show _=_;rw [drop_take hz,if_neg hzs]
      have bT:decide (z=sq)=false:=decide_eq_false hzs;have bL:(z == sq)=false:=by simpa using hzs
      clear hz;have t:=ST.o.below (Below.refl _ wr).drew;go_wp2_with fail
      clear x3 xz bz bl;refine wp_region_held_drew (S:=(fun w'=>w'.cell? ⟨X,3,none⟩=some (sO bs os u cs)∧w'.cell? ⟨bs,os+k,none⟩=some (iT z)∧X<w'.heap.size∧bs<w'.heap.size∧Y<w'.heap.size)) (by kernel_rfl) (⟨t.bx.c3,(f.o _ t.low).1,t.bx.lt,(f.o _ t.low).2,t.hy.lt⟩) (fun D=>?_);generalize wr.drew=wd at t D ⊢;refine aP 0 1 D ?_;refine aP 2 5 D ?_;refine jX 1 7 (fun K hK=>?_) fun K hK=>?_
      · have q3:=t.hy.c3;go_simp;clear q3;refine hK.o _ _ (⟨t.bx.c3,(f.o _ t.low).1,t.bx.lt,(f.o _ t.low).2,t.hy.lt⟩) fun D=>?_
        (try go_frame);refine aR 7 fun K hK=>?_
        go_simp;have kc:Bl wd (wd.alloc (.cells #[iT z] 3)):=bZ;have b:=t.below kc;have H:=dV wd (iT z) 3;generalize wd.heap.size=gb at H ⊢;generalize wd.alloc (.cells #[iT z] 3)=wb at b H ⊢;refine hK.o _ _ (⟨b.bx.c3,(f.o _ b.low).1,b.bx.lt,(f.o _ b.low).2,b.hy.lt⟩) fun D=>?_
        (try go_frame);refine aR 8 fun K hK=>?_
        refine aw rfl (.tmp 31) (.tmp 37) 24 rfl N.heap.size 3 i0 _ 1 8 Tryz.underlying24 hi b2 aV aW rfl (by decide) _ _ _ rfl b.cp.sn ⟨gb,0,none⟩ 1 1 [iT z] rfl rfl H (by simp [Value.oneCell']) ?_ ?_ ?_ ?_
        · unfold maxLen;omega
        · omega
        · have h1:=(b.cp.sn.lt g rfl);omega
        intro v8 w8 U ay bm;obtain ⟨g8,c8,rfl⟩:=ownsRow_succ U;have d:wb.grownBy w8 (some g):=ay;have x:Bl w w8:=b.low.grown d b.low.size (fun k e=>by cases e;have h1:=(b.cp.sn.lt g rfl).1;have h2:=b.lows;omega);refine hK.o _ _ (⟨(b.bx.grownB d b.ne.1).c3,(f.o _ x).1,(b.bx.grownB d b.ne.1).lt,(f.o _ x).2,(b.hy.grownB d b.ne.2.2).lt⟩) fun D=>?_
        (try go_frame);refine aP 9 1 D ?_;refine aR 10 fun K hK=>?_
        have I:=b.hy.grownB d b.ne.2.2;have q3:=I.c3;have qf:=I.fz 3;have qz:=I.lt;go_simp;have R:=b.push d U aU.o;clear q3 qf qz I;refine hK.o _ _ (⟨R.bx.c3,(f.o _ R.low).1,R.bx.lt,(f.o _ R.low).2,R.hy.lt⟩) fun D=>?_
        (try go_frame);refine dN ?_;have a1:CG (fa w (w8.setCell ⟨Y,3,none⟩ (sL g8 (y+1) c8)) N.heap.size X Y (iT q) (.slice am m J) (.slice T s L) (sO bs os u cs) q F m c1 G s c g8 (y+1) c8 M V (fS (S.take (k+1)) sq)):=by rw [b7.o];exact R
        generalize w8.setCell ⟨Y,3,none⟩ (sL g8 (y+1) c8)=w9 at a1 ⊢;clear R b t d U x H D;go_wp2;go_roundw
        case rel=>exact ⟨k+1,g8,y+1,c8,by omega,by go_num,by omega,a1.o⟩
        case measure=>simp [intOf];omega
      · go_simp;have kc:Bl wd (wd.alloc (.cells #[iT z] 3)):=bZ;have b:=t.below kc;have H:=dV wd (iT z) 3;generalize wd.heap.size=gb at H ⊢;generalize wd.alloc (.cells #[iT z] 3)=wb at b H ⊢;refine hK.o _ _ (⟨b.bx.c3,(f.o _ b.low).1,b.bx.lt,(f.o _ b.low).2,b.hy.lt⟩) fun D=>?_
        (try go_frame);refine aR 1 fun K hK=>?_
        have q3:=b.hy.c3;go_simp;clear q3;refine hK.o _ _ (⟨b.bx.c3,(f.o _ b.low).1,b.bx.lt,(f.o _ b.low).2,b.hy.lt⟩) fun D=>?_
        (try go_frame);refine aR 8 fun K hK=>?_
        refine aw rfl (.tmp 31) (.tmp 37) 24 rfl N.heap.size 3 i0 _ 1 8 Tryz.underlying24 hi b2 aV aW rfl (by decide) _ _ _ rfl b.cp.sn ⟨gb,0,none⟩ 1 1 [iT z] rfl rfl H (by simp [Value.oneCell']) ?_ ?_ ?_ ?_
        · unfold maxLen;omega
        · omega
        · have h1:=(b.cp.sn.lt g rfl);omega
        intro v8 w8 U ay bm;obtain ⟨g8,c8,rfl⟩:=ownsRow_succ U;have d:wb.grownBy w8 (some g):=ay;have x:Bl w w8:=b.low.grown d b.low.size (fun k e=>by cases e;have h1:=(b.cp.sn.lt g rfl).1;have h2:=b.lows;omega);refine hK.o _ _ (⟨(b.bx.grownB d b.ne.1).c3,(f.o _ x).1,(b.bx.grownB d b.ne.1).lt,(f.o _ x).2,(b.hy.grownB d b.ne.2.2).lt⟩) fun D=>?_
        (try go_frame);refine aP 9 1 D ?_;refine aR 10 fun K hK=>?_
        have I:=b.hy.grownB d b.ne.2.2;have q3:=I.c3;have qf:=I.fz 3;have qz:=I.lt;go_simp;have R:=b.push d U aU.o;clear q3 qf qz I;refine hK.o _ _ (⟨R.bx.c3,(f.o _ R.low).1,R.bx.lt,(f.o _ R.low).2,R.hy.lt⟩) fun D=>?_
        (try go_frame);refine dN ?_;have a1:CG (fa w (w8.setCell ⟨Y,3,none⟩ (sL g8 (y+1) c8)) N.heap.size X Y (iT q) (.slice am m J) (.slice T s L) (sO bs os u cs) q F m c1 G s c g8 (y+1) c8 M V (fS (S.take (k+1)) sq)):=by rw [b7.o];exact R
        generalize w8.setCell ⟨Y,3,none⟩ (sL g8 (y+1) c8)=w9 at a1 ⊢;clear R b t d U x H D;go_wp2;go_roundw
        case rel=>exact ⟨k+1,g8,y+1,c8,by omega,by go_num,by omega,a1.o⟩
        case measure=>simp [intOf];omega
  · have b1:¬(k:Int)<(u:Int):=by omega
    have bB:CG (S.take k=S):=C9 (by rw [a7.o];omega);have x3:=ST.o.bx.c3;have xz:=ST.o.bx.lt;have t:=ST.o.below (Below.refl _ wr).drew;go_wp2_with fail
    clear x3 xz;refine wp_region_held_drew (S:=(fun w'=>w'.cell? ⟨Y,0,none⟩=some (iT q)∧w'.cell? ⟨Y,1,none⟩=some (sL F m c1)∧w'.cell? ⟨Y,2,none⟩=some (sL G s c)∧w'.cell? ⟨Y,3,none⟩=some (sL g y c4)∧w'.cell? ⟨X,3,none⟩=some (.slice O u cs)∧X<w'.heap.size∧Y<w'.heap.size)) (by kernel_rfl) (⟨t.hy.c0,t.hy.c1,t.hy.c2,t.hy.c3,t.bx.c3,t.bx.lt,t.hy.lt⟩) (fun D=>?_);generalize wr.drew=wd at t D ⊢;refine aP 0 8 D ?_;refine aR 8 fun K hK=>?_
    have r0:=t.br.all;have ab:X+1≠Y:=by have:=t.lows;omega
    have a8:X+1≠X:=by omega
    have a4:=(((t.hy.other (b':=X+1) (o:=0) ab (iT q)).other (b':=X+1) (o:=1) ab (sL F m c1)).other (b':=X+1) (o:=2) ab (sL G s c)).other (b':=X+1) (o:=3) ab (sL g y c4);have aF:=(((t.bx.other (b':=X+1) (o:=0) a8 (iT q)).other (b':=X+1) (o:=1) a8 (sL F m c1)).other (b':=X+1) (o:=2) a8 (sL G s c)).other (b':=X+1) (o:=3) a8 (sL g y c4);go_simp;clear r0;refine hK.o _ _ (⟨a4.c0,a4.c1,a4.c2,a4.c3,aF.c3,aF.lt,a4.lt⟩) fun D=>?_
    (try go_frame);refine aP 9 1 D ?_;refine dN ?_;clear a4 aF ab a8 D;go_wp2;refine bodyPost_ret (v:=.tuple #[.agg #[iT q,sL F m c1,sL G s c,sL g y c4],.bool (decide ((y:Int)<(u:Int)))]) ?_ rfl ?_
    · have e:=(((t.br.set0 (iT q)).set1 (sL F m c1)).set2 (sL G s c)).set3 (sL g y c4);simp [results,Tryz.results45,go_sem,e.all]
    · have hl:=t.lows;have hx:w.heap.size≤X+1:=by omega
      have hc:=t.cp.four (X:=X+1) hl.1 (iT q) (sL F m c1) (sL G s c) (sL g y c4);have aD:=t.cp.slen;rw [bB.o] at hc aD;refine us ?_ hc hl.2.2.1 (qX t.low hx _ _ _ _);rw [← AH,a7.o,aD];simp
theorem wN (a:Option Addr) (n c:Nat) (K:List ac) (q:Int) (w:World) (hK:ag w a n c K) (hn:n≤1048576) (aS:0≤q) (aX:q≤100000) :
 Calls Tryz.prog 158 #[.slice a n c,iT q] w fun e w'=>jp q K n w e w':=by
 have HK:=bO hK;have r:CG (K.length=n):=hK.length;clear hK;obtain ⟨i0,hi,aw,aq,ar⟩:=info_parts Tryz.infoEnt;have a6:CG ((w.alloc (.cells #[] 50)).ownsRow w.heap.size 50 5 (sL (w.heap.size) 0 0) 0 (aC (eZ q (K.take 0)))):=by
  have:=Do (base:=w.heap.size) (e:=50) (size:=5) w #[] 0 (Cy _) (by simp) (by simp);show World.ownsRow _ _ _ _ _ _ _
  simpa [eZ,aC] using this
 have a0:Bl w (w.alloc (.cells #[] 50)):=bZ;go_enter Tryz.func158,Tryz.ntmps158
 go_wp2;go_loopw [6,7] (fun vv iv wr=>∃i:Nat,i≤n∧iv=iT i∧(∃g c',vv=sL g i c')∧wr.ownsRow w.heap.size 50 5 vv i (aC (eZ q (K.take i)))∧(∀l ∈ eZ q (K.take i),dR l)∧(∀j,j<i→mK q K j=true)∧Bl w wr) (fun _ iv _=>n - (intOf iv).toNat)
 case atStart=>exact ⟨0,C3 _,rfl,⟨_,_,rfl⟩,a6.o,(by simp [eZ]),(fun j hj=>absurd hj (DP _)),a0⟩
 case round =>
  clear a6 a0;obtain ⟨i,aZ,rfl,⟨y,x,rfl⟩,hv,hw,a4,hb⟩:=hrel;have HV:CG (wr.ownsRow w.heap.size 50 5 (sL y i x) i (aC (eZ q (K.take i)))):=hv;have HW:CG (∀l ∈ eZ q (K.take i),dR l):=hw;have aa:CG (∀j,j<i→mK q K j=true):=a4;have X:CG (Bl w wr):=hb;have b0:=hb.size;clear hv hw a4;by_cases U:i<n
  · have a9:(i:Int)<(n:Int):=by omega
    obtain ⟨b,aQ,rfl,ad⟩:=HK.o.form (by omega);obtain ⟨s,W,d,t,m,hg,a2,g0,g1,g2,g3,g4⟩:=HK.o.ent hb ad i U;have HG:CG (K[i]?=some (s,W,d,t,m)):=hg;have J:CG (dR (s,W,d,t,m)):=a2;have aV:b<wr.heap.size:=l' ad hb.size;clear hg a2 hb;by_cases h0:W=0
    · subst h0;have e1:IntKind.i64.wrap (q+1)=q+1:=by rw [Dg];unfold wrap64;omega
      have e2:IntKind.i64.wrap (q+1+(i:Int))=q+1+(i:Int):=by rw [Dg];unfold wrap64;omega
      obtain ⟨Q,hQ⟩:∃Q:Int,Q=q+1+(i:Int):=⟨_,rfl⟩;have HQ:CG (Q=q+1+(i:Int)):=hQ;obtain ⟨wq,H⟩:=aH (wr.alloc (.cells #[.string s,iT (q+1+(i:Int)),iT d,.string t,iT m] 50));obtain ⟨A,R⟩:=aH wr.heap.size;have kq:Bl wr wq:=by rw [H];exact bZ
      have b5:wq.cell? ⟨A,0,none⟩=some (.string s)∧wq.cell? ⟨A,1,none⟩=some (iT Q)∧wq.cell? ⟨A,2,none⟩=some (iT d)∧wq.cell? ⟨A,3,none⟩=some (.string t)∧wq.cell? ⟨A,4,none⟩=some (iT m)∧A<wq.heap.size:=by
       rw [H,R,hQ];refine ⟨?_,?_,?_,?_,?_,?_⟩ <;> simp
      have B5:CG (wq.cell? ⟨A,0,none⟩=some (.string s)∧wq.cell? ⟨A,1,none⟩=some (iT Q)∧wq.cell? ⟨A,2,none⟩=some (iT d)∧wq.cell? ⟨A,3,none⟩=some (.string t)∧wq.cell? ⟨A,4,none⟩=some (iT m)∧A<wq.heap.size):=b5;obtain ⟨O,hO⟩:=aH (cT s Q d t m);have CE:CG (Calls Tryz.prog 143 #[.agg #[.string s,iT Q,iT d,.string t,iT m]] wq fun e w'=>e=.returned (.bool O)∧Bl wq w'):=by rw [hO];exact qV s t Q d m wq J.o.1 J.o.2.2.2.1
      have a5:CG (mK q K i=O):=by
       show mK q K i=O
       rw [BK HG.o rfl,hO,hQ]
      have a7:CG (Bl w wq):=X.o.trans (kq.mono X.o.size);have ap:CG (wq.ownsRow w.heap.size 50 5 (sL y i x) i (aC (eZ q (K.take i)))):=bu HV.o kq;have av:CG (dR (s,Q,d,t,m)):=⟨J.o.1,(by rw [hQ];exact Dk (by omega):(Lit.int .i64 Q).wf=true),J.o.2.2⟩;clear kq b5 hO;go_upto_region 9 with fail
      rw [← H];try rw [← R]
      try rw [← hQ]
      clear H R hQ;obtain ⟨y0,y1,y2,y3,y4,yz⟩:=B5.o;go_wp2_with fail
      clear y0 y1 y2 y3 y4 yz g0 g1 g2 g3 g4;refine CE.o.mono ?_;rintro e F ⟨rfl,f⟩;have L:CG (Bl w F):=a7.o.trans (f.mono a7.o.size);have a3:CG (F.ownsRow w.heap.size 50 5 (sL y i x) i (aC (eZ q (K.take i)))):=bu ap.o f;obtain ⟨y0,y1,y2,y3,y4,yz⟩:=B5.o;have y0:=cell_later f y0;have y1:=cell_later f y1;have y2:=cell_later f y2;have y3:=cell_later f y3;have y4:=cell_later f y4;have yz:=l' yz f.size;have aG:=L.o.size;clear f;cases O with
      | false =>
       have Z:CG (eS q K=false):=sj (i:=i) (by rw [r.o];exact U) a5.o;go_wp2;exact bodyPost_ret (v:=.tuple #[sL y i x,.bool false]) (by simp [results,Tryz.results158,go_sem]) rfl (show jp q K _ w _ _ from ⟨_,_,rfl,(fun h=>by rw [Z.o] at h;cases h),fun _=>⟨rfl,_,_,_,eZ q (K.take i),rfl,af.entsAt ⟨a3.o,by rw [fk,C5,r.o];omega,HW.o⟩⟩,L.o⟩)
      | true =>
       have a1:∀j u,[Value.string s,iT Q,iT d,.string t,iT m][j]?=some u→(F.alloc (.cells #[.string s,iT Q,iT d,.string t,iT m] 50)).cell? ((⟨F.heap.size,0,none⟩:Addr).add j)=some u:=pF F s Q d t m;have am:=bO a1;have ka:Bl F (F.alloc (.cells #[.string s,iT Q,iT d,.string t,iT m] 50)):=bZ;have ae:CG ((F.alloc (.cells #[.string s,iT Q,iT d,.string t,iT m] 50)).ownsRow w.heap.size 50 5 (sL y i x) i (aC (eZ q (K.take i)))):=bu a3.o ka;have Y:CG (Bl w (F.alloc (.cells #[.string s,iT Q,iT d,.string t,iT m] 50))):=L.o.trans (ka.mono L.o.size);clear a1 ka;go_wp2_with (at_builtin;refine wpList_append_own _ rfl _ _ 28 rfl w.heap.size 50 i0 _ 5 56 Tryz.underlying28 hi aw aq ar rfl (by decide) _ _ _ rfl ae.o ⟨F.heap.size,0,none⟩ 1 1 [.string s,iT Q,iT d,.string t,iT m] rfl rfl am.o (by intro u hu;simp at hu;rcases hu with rfl | rfl | rfl | rfl | rfl <;> rfl) (by unfold maxLen;omega) (by omega) Y.o.size ?_;intro v2 w2 C I T;obtain ⟨g2,c2,rfl⟩:=aF C T)
       go_roundw
       case rel =>
        have e3:eZ q (K.take (i+1))=eZ q (K.take i)++[(s,Q,d,t,m)]:=by
         rw [yC HG.o,HQ.o];rfl
        refine ⟨i+1,by omega,by go_num,⟨_,_,rfl⟩,?_,?_,?_,?_⟩
        · rw [e3,aJ];exact C
        · rw [e3];intro l hl;rcases Dd.1 hl with h | h
          · exact HW.o l h
          · rw [Df] at h;subst h;exact av.o
        · intro j hj;by_cases aA:j<i
          · exact aa.o j aA
          · rw [show j=i by omega];exact a5.o
        · exact Y.o.grown I Y.o.size (fun k e=>(ae.o.lt k e).1)
       case measure=>simp [intOf];omega
    · have Z:CG (eS q K=false):=sj (i:=i) (by rw [r.o];exact U) (Be HG.o h0);have aR:(W == 0)=false:=by simpa using h0
      have b1:decide (W=0)=false:=decide_eq_false h0;have ax:CG ((wr.alloc (.cells #[.string s,iT W,iT d,.string t,iT m] 50)).ownsRow w.heap.size 50 5 (sL y i x) i (aC (eZ q (K.take i)))):=bu HV.o bZ;have aB:CG (Bl w (wr.alloc (.cells #[.string s,iT W,iT d,.string t,iT m] 50))):=X.o.alloc X.o.size _;go_wp2;exact bodyPost_ret (v:=.tuple #[sL y i x,.bool false]) (by simp [results,Tryz.results158,go_sem]) rfl (show jp q K _ w _ _ from ⟨_,_,rfl,(fun h=>by rw [Z.o] at h;cases h),fun _=>⟨rfl,_,_,_,eZ q (K.take i),rfl,af.entsAt ⟨ax.o,by rw [fk,C5,r.o];omega,HW.o⟩⟩,aB.o⟩)
  · have a9:¬(i:Int)<(n:Int):=by omega
    obtain rfl:i=n:=by omega
    have E:CG (eS q K=true):=wI r.o aa.o;have D:=HV.o;rw [C9 (by rw [r.o];omega)] at D;have N:=HW.o;rw [C9 (by rw [r.o];omega)] at N;have hsl:(eZ q K).length=i:=by rw [fk,r.o]
    have B:CG (af wr w.heap.size y i x (eZ q K)):=⟨D,hsl,N⟩;clear D N hsl;by_cases h1:1≤i
    · have ao:(i:Int) ≥ 1:=by omega
      by_cases ab:i≤12
      · have a8:(i:Int)≤12:=by omega
        go_wp2;exact bodyPost_ret (v:=.tuple #[sL y i x,.bool true]) (by simp [results,Tryz.results158,go_sem]) rfl (show jp q K _ w _ _ from ⟨_,_,rfl,(fun _=>⟨⟨y,x,rfl,B.o⟩,by simp [h1,ab]⟩),(fun h=>by rw [E.o] at h;cases h),X.o⟩)
      · have a8:¬(i:Int)≤12:=by omega
        go_wp2;exact bodyPost_ret (v:=.tuple #[sL y i x,.bool false]) (by simp [results,Tryz.results158,go_sem]) rfl (show jp q K _ w _ _ from ⟨_,_,rfl,(fun _=>⟨⟨y,x,rfl,B.o⟩,by simp [h1,ab]⟩),(fun h=>by rw [E.o] at h;cases h),X.o⟩)
    · have ao:¬(i:Int) ≥ 1:=by omega
      go_wp2;exact bodyPost_ret (v:=.tuple #[sL y i x,.bool false]) (by simp [results,Tryz.results158,go_sem]) rfl (show jp q K _ w _ _ from ⟨_,_,rfl,(fun _=>⟨⟨y,x,rfl,B.o⟩,by simp [h1]⟩),(fun h=>by rw [E.o] at h;cases h),X.o⟩)
end Go.Proofs.YtpobkmjicbobdaaGreat
