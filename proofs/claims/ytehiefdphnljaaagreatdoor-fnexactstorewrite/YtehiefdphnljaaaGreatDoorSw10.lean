/- Walks. -/
import Derived.Test.YtehiefdphnljaaaGreatDoorSw09
namespace Go.Proofs.YtehiefdphnljaaaGreatDoor
set_option maxRecDepth 100000
set_option maxHeartbeats 40000000
open Go.ChangeShapes Go.Joins Go.RowKit Go.WideShapes
variable {U V:List (List aq)}
theorem ud (lo1 lo2:Nat) (lg:ByteArray) (sf sd:Int) (d d':Option Addr) (nd cd cd':Nat) (U:List (List aq)) (w:World) (h1:au lo1 w d nd cd U) (h2:au lo2 w d' nd cd' U) :
 Calls Tryz.prog 27 #[.agg #[.string lg,iT sf,.slice d nd cd,iT sd],.agg #[.string lg,iT sf,.slice d' nd cd',iT sd]] w fun e w'=>e=.returned (.bool true)∧Bl w w':=by
 obtain ⟨W,hW⟩:=aw ((w.alloc (.cells #[.string lg,iT sf,.slice d nd cd,iT sd] 38)).alloc (.cells #[.string lg,iT sf,.slice d' nd cd',iT sd] 38));have hB:Bl w W:=by rw [hW];exact bZ.alloc (by simp) _
 have x3:W.cell? ⟨w.heap.size,3,none⟩=some (iT sd):=by rw [hW];simp
 have y3:W.cell? ⟨w.heap.size+1,3,none⟩=some (iT sd):=by rw [hW];simp
 have H1:Hid (au lo1 W d nd cd U):=h1.keep hB;have H2:Hid (au lo2 W d' nd cd' U):=h2.keep hB;have HB:Hid (Bl w W):=hB;clear h1 h2 hB;go_enter Tryz.func27,Tryz.ntmps27
 go_wp2_with fail
 rw [← hW];clear hW;refine (lU lo1 lo2 _ _ _ _ _ U _ H1.out H2.out).mono ?_;rintro e w1 ⟨rfl,hb1⟩;have x3:=cell_later hb1 x3;have y3:=cell_later hb1 y3;have z1:=World.block_lt_of_cell? _ _ x3;have z2:=World.block_lt_of_cell? _ _ y3;simp only at z1 z2;have K1:Hid (Bl W w1):=hb1;clear hb1;go_wp2;go_ret;exact ⟨rfl,HB.out.trans (K1.out.mono HB.out.size)⟩
def Ai (M:List ae) (V:List (List aq)) (S:List Int) (U:List (List aq)):Prop:=ul M V S∧iY U
theorem fZ (lo1 lo2:Nat) (up:Bool) (q:Int) (m:Option Addr) (nm cm:Nat) (v:Option Addr) (nv cv:Nat) (k:Option Addr) (ns cs:Nat) (lg:ByteArray) (sf:Int) (d:Option Addr) (nd cd:Nat) (sd:Int) (M:List ae) (V:List (List aq)) (S:List Int) (U:List (List aq)) (m':Option Addr) (cm':Nat) (v':Option Addr) (cv':Nat) (k':Option Addr) (cs':Nat) (d':Option Addr) (cd':Nat) (w:World) (h1:bU lo1 w m nm cm v nv cv k ns cs d nd cd M V S U) (h2:bU lo2 w m' nm cm' v' nv cv' k' ns cs' d' nd cd' M V S U) :
 Calls Tryz.prog 10 #[.agg #[.bool up,iT q,.slice m nm cm,.slice v nv cv,.slice k ns cs,.string lg,iT sf,.slice d nd cd,iT sd],.agg #[.bool up,iT q,.slice m' nm cm',.slice v' nv cv',.slice k' ns cs',.string lg,iT sf,.slice d' nd cd',iT sd]] w fun e w'=>e=.returned (.bool true)∧Bl w w':=by
 obtain ⟨W,hW⟩:=aw ((w.alloc (.cells #[.bool up,iT q,.slice m nm cm,.slice v nv cv,.slice k ns cs,.string lg,iT sf,.slice d nd cd,iT sd] 40)).alloc (.cells #[.bool up,iT q,.slice m' nm cm',.slice v' nv cv',.slice k' ns cs',.string lg,iT sf,.slice d' nd cd',iT sd] 40));have hB:Bl w W:=by rw [hW];exact bZ.alloc (by simp) _
 have bx:aC W w.heap.size (.bool up) (iT q) (.slice m nm cm) (.slice v nv cv) (.slice k ns cs) (.string lg) (iT sf) (.slice d nd cd) (iT sd):=by rw [hW];exact (aC.new _ _ _ _ _ _ _ _ _ _ _).alloc _
 have bu:aC W (w.heap.size+1) (.bool up) (iT q) (.slice m' nm cm') (.slice v' nv cv') (.slice k' ns cs') (.string lg) (iT sf) (.slice d' nd cd') (iT sd):=by
  have:=aC.new (w.alloc (.cells #[.bool up,iT q,.slice m nm cm,.slice v nv cv,.slice k ns cs,.string lg,iT sf,.slice d nd cd,iT sd] 40)) 40 (.bool up) (iT q) (.slice m' nm cm') (.slice v' nv cv') (.slice k' ns cs') (.string lg) (iT sf) (.slice d' nd cd') (iT sd);rw [World.size_alloc] at this;rw [hW];exact this
 have H1:Hid (bU lo1 W m nm cm v nv cv k ns cs d nd cd M V S U):=h1.keep hB;have H2:Hid (bU lo2 W m' nm cm' v' nv cv' k' ns cs' d' nd cd' M V S U):=h2.keep hB;have HB:Hid (Bl w W):=hB;have HX:Hid (aC W w.heap.size (.bool up) (iT q) (.slice m nm cm) (.slice v nv cv) (.slice k ns cs) (.string lg) (iT sf) (.slice d nd cd) (iT sd)):=bx;have HU:Hid (aC W (w.heap.size+1) (.bool up) (iT q) (.slice m' nm cm') (.slice v' nv cv') (.slice k' ns cs') (.string lg) (iT sf) (.slice d' nd cd') (iT sd)):=bu;clear h1 h2 hB bx bu;go_enter Tryz.func10,Tryz.ntmps10
 go_wp2_with fail
 rw [← hW];clear hW;refine (tY q lo1 lo2 _ _ _ _ _ _ _ _ _ _ _ _ _ _ _ M V S _ H1.out.tree H2.out.tree).mono ?_;rintro e w1 ⟨rfl,hb1⟩;have x5:=(HX.out.keep hb1).c5;have x6:=(HX.out.keep hb1).c6;have x7:=(HX.out.keep hb1).c7;have x8:=(HX.out.keep hb1).c8;have xz:=(HX.out.keep hb1).lt;have y5:=(HU.out.keep hb1).c5;have y6:=(HU.out.keep hb1).c6;have y7:=(HU.out.keep hb1).c7;have y8:=(HU.out.keep hb1).c8;have yz:=(HU.out.keep hb1).lt;have K1:Hid (Bl W w1):=hb1;clear hb1;go_wp2_with fail
 refine (ud lo1 lo2 lg sf sd _ _ _ _ _ U _ (H1.out.keep K1.out).disk (H2.out.keep K1.out).disk).mono ?_;rintro e w2 ⟨rfl,hb2⟩;have K2:Hid (Bl W w2):=K1.out.trans (hb2.mono K1.out.size);clear hb2 K1;go_wp2;go_ret;exact ⟨rfl,HB.out.trans (K2.out.mono HB.out.size)⟩
theorem pO (q:Int) (lo hi b1 nm b2 nv b3 ns k:Nat) (V:List (List aq)) (w:World) (hB:dQ lo hi w b1 nm b2 V b3 ns) (hV:V.length=nv) (h1:nm≤1048576) (h2:iY V) (h3:ns≤1048576) (hhi:hi≤w.heap.size) (hk:1≤k) (hn:k+5*nm+cZ V+ns≤1000000000) :
 Calls Tryz.prog 29 #[.agg #[iT q,sL b1 nm nm,sL b2 nv nv,sL b3 ns ns],iT k] w fun e w'=>(∃r:Nat,r=k+5*nm+cZ V+ns∧e=.returned (iT (r:Int)))∧aQ lo hi w w':=by
 obtain ⟨Y,hY⟩:=aw w.heap.size;obtain ⟨W,hW⟩:=aw (w.alloc (.cells #[iT q,sL b1 nm nm,sL b2 nv nv,sL b3 ns ns] 36));have kW:Bl w W:=by rw [hW];exact bZ
 have x2:W.cell? ⟨Y,2,none⟩=some (sL b2 nv nv):=by rw [hW,hY];simp
 have x3:W.cell? ⟨Y,3,none⟩=some (sL b3 ns ns):=by rw [hW,hY];simp
 have M0:Hid (aQ lo hi w W):=aQ.of_below kW;have HB:=ar hB;have HV:=ar hV;have H2:=ar h2;have hnv:nv≤1048576:=by have:=h2.1;omega
 have HYH:Hid (hi≤Y):=by rw [hY];exact hhi
 have HN:=ar hn;have hn1:k+5*nm≤1000000000:=by omega
 obtain ⟨K2,hK2⟩:∃K2:Nat,K2=k+5*nm+cZ V:=⟨_,rfl⟩;have hn2:K2+ns≤1000000000:=by omega
 have HK2:Hid (K2=k+5*nm+cZ V):=hK2;have CL:Hid (∀w',cQ lo hi w' b2 V→Calls Tryz.prog 57 #[sL b2 nv nv,iT ((k+5*nm:Nat):Int)] w' fun e w''=>e=.returned (iT (K2:Int))∧aQ lo hi w' w''):=by
  rw [hK2];exact fun w' h=>lN lo hi b2 nv (k+5*nm) V w' h hV hnv h2.2 (by omega) (by omega)
 clear hB kW h2 hV hhi hn hK2;go_enter Tryz.func29,Tryz.ntmps29
 go_wp2_with fail
 rw [← hW];try rw [← hY]
 clear hW hY;refine (iM lo hi b1 nm k _ (HB.out.mark M0.out).mem h1 hk hn1).mono ?_;rintro e w1 ⟨rfl,hM1⟩;have x2:=hM1.cell (.inr HYH.out) x2;have x3:=hM1.cell (.inr HYH.out) x3;have M1:Hid (aQ lo hi w w1):=M0.out.trans hM1;have z1:=World.block_lt_of_cell? _ _ x2;simp only at z1;obtain ⟨K1,hK1⟩:∃K1:Nat,K1=k+5*nm:=⟨_,rfl⟩;rw [← hK1] at CL ⊢;clear hM1 hK1;go_wp2_with fail
 refine (CL.out _ (HB.out.mark M1.out).levs).mono ?_;rintro e w2 ⟨rfl,hM2⟩;have x3:=hM2.cell (.inr HYH.out) x3;have M2:Hid (aQ lo hi w w2):=M1.out.trans hM2;have z1:=World.block_lt_of_cell? _ _ x3;simp only at z1;clear hM2 x2;go_wp2_with fail
 have hs:=(HB.out.mark M2.out).sn;refine (ru lo hi b3 ns K2 _ hs.1 hs.2.1 hs.2.2 hn2).mono ?_;rintro e w3 ⟨rfl,hM3⟩;have M3:Hid (aQ lo hi w w3):=M2.out.trans hM3;clear hM3 hs x3;obtain ⟨K3,hK3⟩:∃K3:Nat,K3=K2+ns:=⟨_,rfl⟩;have HK3:Hid (K3=K2+ns):=hK3;rw [← hK3];clear hK3;go_wp2;go_ret;exact ⟨⟨K3,by rw [HK3.out,HK2.out],rfl⟩,M3.out⟩

structure mq (lo hi:Nat) (w:World) (b1 nm b2:Nat) (V:List (List aq)) (b3 ns b4:Nat) (U:List (List aq)):Prop where
 tree:dQ lo hi w b1 nm b2 V b3 ns
 disk:cQ lo hi w b4 U
theorem mq.mark {lo hi lo' hi' b1 nm b2 b3 ns b4:Nat} {w w':World} (h:mq lo hi w b1 nm b2 V b3 ns b4 U) (k:aQ lo' hi' w w'):mq lo hi w' b1 nm b2 V b3 ns b4 U:=⟨h.tree.mark k,h.disk.mark k⟩
def BU (lg:ByteArray) (sf sd:Int) (nd:Nat) (U:List (List aq)) (w:World) (e:Ending) (w':World):Prop :=
 ∃b:Nat,e=.returned (.agg #[.string lg,iT sf,sL b nd nd,iT sd])∧au w.heap.size w' (pT b) nd nd U∧cQ w.heap.size w'.heap.size w' b U∧Bl w w'
theorem uY (lo:Nat) (lg:ByteArray) (sf sd:Int) (d:Option Addr) (nd cd:Nat) (U:List (List aq)) (w:World) (h:au lo w d nd cd U) (hs:iY U) :
 Calls Tryz.prog 22 #[.agg #[.string lg,iT sf,.slice d nd cd,iT sd]] w (BU lg sf sd nd U w):=by
 obtain ⟨X,hX⟩:=aw w.heap.size;obtain ⟨W,hW⟩:=aw (((w.alloc (.cells #[.string lg,iT sf,.slice d nd cd,iT sd] 28)).alloc (.cells #[.string ⟨#[]⟩,iT 0,nZ,iT 0] 38)).alloc (.cells #[.string lg,iT sf,nZ,iT 0] 38));have kW:Bl w W:=by rw [hW];exact (bZ.alloc (by simp) _).alloc (by simp;omega) _
 have bp:bf W X (.string lg) (iT sf) (.slice d nd cd) (iT sd):=by rw [hW,hX];exact ((bf.new _ _ _ _ _ _).alloc _).alloc _
 have br:bf W (X+1) (.string ⟨#[]⟩) (iT 0) nZ (iT 0):=by
  have:=(bf.new (w.alloc (.cells #[.string lg,iT sf,.slice d nd cd,iT sd] 28)) 38 (.string ⟨#[]⟩) (iT 0) nZ (iT 0)).alloc (.cells #[.string lg,iT sf,nZ,iT 0] 38);rw [World.size_alloc] at this;rw [hW,hX];exact this
 have bo:bf W (X+1+1) (.string lg) (iT sf) nZ (iT 0):=by
  have:=bf.new ((w.alloc (.cells #[.string lg,iT sf,.slice d nd cd,iT sd] 28)).alloc (.cells #[.string ⟨#[]⟩,iT 0,nZ,iT 0] 38)) 38 (.string lg) (iT sf) nZ (iT 0);rw [World.size_alloc,World.size_alloc] at this;rw [hW,hX];exact this
 have hsz:W.heap.size=X+1+1+1:=by rw [hW,hX];simp
 have H:=ar h;have HS:=ar hs;have HX:Hid (X=w.heap.size):=hX;have HK:Hid (Bl w W):=kW;clear h hs kW;go_enter Tryz.func22,Tryz.ntmps22
 go_wp2_with fail
 rw [← hX,← hW];clear hX hW;refine (mD lo _ _ _ U _ (H.out.keep HK.out) HS.out).mono ?_;rintro e w2 ⟨rfl,hE2,hF2,_,hb2⟩;obtain ⟨b2,hbe2⟩:=aw W.heap.size;rw [← hbe2] at hE2 hF2 ⊢;have vo:=(bo.keep hb2).c2;have vo0:=(bo.keep hb2).c0;have vo1:=(bo.keep hb2).c1;have vo3:=(bo.keep hb2).c3;have vf:=(bo.keep hb2).fz;have vp:=(bp.keep hb2).c3;have vz:=(bo.keep hb2).lt;have vz':X<w2.heap.size:=by omega
 have vr0:=(br.keep hb2).c0;have vr1:=(br.keep hb2).c1;have vr2:=(br.keep hb2).c2;have vr3:=(br.keep hb2).c3;have vrf:=(br.keep hb2).fz;have vz1:X+1<w2.heap.size:=by omega
 obtain ⟨W3,hW3⟩:=aw ((w2.setCell ⟨X+1+1,2,none⟩ (sL b2 nd nd)).setCell ⟨X+1+1,3,none⟩ (iT sd));have br3:bf W3 (X+1) (.string ⟨#[]⟩) (iT 0) nZ (iT 0):=by rw [hW3];exact ((br.keep hb2).other (by omega) _).other (by omega) _
 have hx:w.heap.size≤X+1+1:=by have:=HX.out;omega
 have K3:Hid (Bl w W3):=by rw [hW3];exact ((HK.out.trans (hb2.mono HK.out.size)).setCell (p:=⟨X+1+1,2,none⟩) hx _).setCell (p:=⟨X+1+1,3,none⟩) hx _
 have E3:Hid (au (X+3) W3 (pT b2) nd nd U):=by rw [hW3];exact (au.same (hE2.mono (by omega)) (aM.of_set _ _ (by show X+1+1<X+3;omega))).same (aM.of_set _ _ (by show X+1+1<X+3;omega))
 have F3:Hid (cQ (X+3) W3.heap.size W3 b2 U):=by
  rw [hW3];exact (cQ.far (hF2.mono (lo':=X+3) (by omega) (Nat.le_refl _)) ((cC.of_set _ _ (by show X+1+1<X+3;omega)).trans (cC.of_set _ _ (by show X+1+1<X+3;omega)))).mono (Nat.le_refl _) (by simp [World.setCell])
 clear hb2 bo bp br hE2 hF2 hbe2 hx hsz;go_wp2;rw [← hW3];refine bodyPost_ret (v:=.agg #[.string lg,iT sf,sL b2 nd nd,iT sd]) ?_ rfl ⟨b2,rfl,?_,?_,?_⟩
 · have c0:=(((br3.set0 (.string lg)).set1 (iT sf)).set2 (sL b2 nd nd)).set3 (iT sd);simp [results,Tryz.results22,go_sem,c0.all]
 · have hm:aM (X+3) W3 ((((W3.setCell ⟨X+1,0,none⟩ (.string lg)).setCell ⟨X+1,1,none⟩ (iT sf)).setCell ⟨X+1,2,none⟩ (sL b2 nd nd)).setCell ⟨X+1,3,none⟩ (iT sd)):=(((aM.of_set _ _ (by show X+1<X+3;omega)).trans (aM.of_set _ _ (by show X+1<X+3;omega))).trans (aM.of_set _ _ (by show X+1<X+3;omega))).trans (aM.of_set _ _ (by show X+1<X+3;omega));have hx:=HX.out;exact (E3.out.same hm).mono (by omega)
 · have hx:=HX.out;refine (cQ.far F3.out ?_).mono (by omega) (by simp [World.setCell]);exact (((cC.of_set _ _ (by show X+1<X+3;omega)).trans (cC.of_set _ _ (by show X+1<X+3;omega))).trans (cC.of_set _ _ (by show X+1<X+3;omega))).trans (cC.of_set _ _ (by show X+1<X+3;omega))
 · have hx:w.heap.size≤X+1:=by have:=HX.out;omega
   exact mf K3.out hx _ _ _ _
def BS (up:Bool) (q:Int) (nm nv ns:Nat) (lg:ByteArray) (sf:Int) (nd:Nat) (sd:Int) (M:List ae) (V:List (List aq)) (S:List Int) (U:List (List aq)) (w:World) (e:Ending) (w':World):Prop :=
 ∃b1 b2 b3 b4:Nat,e=.returned (.agg #[.bool up,iT q,sL b1 nm nm,sL b2 nv nv,sL b3 ns ns,.string lg,iT sf,sL b4 nd nd,iT sd])∧bU w.heap.size w' (pT b1) nm nm (pT b2) nv nv (pT b3) ns ns (pT b4) nd nd M V S U∧mq w.heap.size w'.heap.size w' b1 nm b2 V b3 ns b4 U∧Bl w w'
theorem gK (lo:Nat) (up:Bool) (q:Int) (m:Option Addr) (nm cm:Nat) (v:Option Addr) (nv cv:Nat) (k:Option Addr) (ns cs:Nat) (lg:ByteArray) (sf:Int) (d:Option Addr) (nd cd:Nat) (sd:Int) (M:List ae) (V:List (List aq)) (S:List Int) (U:List (List aq)) (w:World) (h:bU lo w m nm cm v nv cv k ns cs d nd cd M V S U) (hs:Ai M V S U) :
 Calls Tryz.prog 7 #[.agg #[.bool up,iT q,.slice m nm cm,.slice v nv cv,.slice k ns cs,.string lg,iT sf,.slice d nd cd,iT sd]] w (BS up q nm nv ns lg sf nd sd M V S U w):=by
 obtain ⟨X,hX⟩:=aw w.heap.size;obtain ⟨W,hW⟩:=aw (((w.alloc (.cells #[.bool up,iT q,.slice m nm cm,.slice v nv cv,.slice k ns cs,.string lg,iT sf,.slice d nd cd,iT sd] 30)).alloc (.cells #[.bool false,iT 0,nZ,nZ,nZ,.string ⟨#[]⟩,iT 0,nZ,iT 0] 40)).alloc (.cells #[.bool up,iT 0,nZ,nZ,nZ,.string ⟨#[]⟩,iT 0,nZ,iT 0] 40));have kW:Bl w W:=by rw [hW];exact (bZ.alloc (by simp) _).alloc (by simp;omega) _
 have bp:aC W X (.bool up) (iT q) (.slice m nm cm) (.slice v nv cv) (.slice k ns cs) (.string lg) (iT sf) (.slice d nd cd) (iT sd):=by rw [hW,hX];exact ((aC.new _ _ _ _ _ _ _ _ _ _ _).alloc _).alloc _
 have br:aC W (X+1) (.bool false) (iT 0) nZ nZ nZ (.string ⟨#[]⟩) (iT 0) nZ (iT 0):=by
  have:=(aC.new (w.alloc (.cells #[.bool up,iT q,.slice m nm cm,.slice v nv cv,.slice k ns cs,.string lg,iT sf,.slice d nd cd,iT sd] 30)) 40 (.bool false) (iT 0) nZ nZ nZ (.string ⟨#[]⟩) (iT 0) nZ (iT 0)).alloc (.cells #[.bool up,iT 0,nZ,nZ,nZ,.string ⟨#[]⟩,iT 0,nZ,iT 0] 40);rw [World.size_alloc] at this;rw [hW,hX];exact this
 have bo:aC W (X+1+1) (.bool up) (iT 0) nZ nZ nZ (.string ⟨#[]⟩) (iT 0) nZ (iT 0):=by
  have:=aC.new ((w.alloc (.cells #[.bool up,iT q,.slice m nm cm,.slice v nv cv,.slice k ns cs,.string lg,iT sf,.slice d nd cd,iT sd] 30)).alloc (.cells #[.bool false,iT 0,nZ,nZ,nZ,.string ⟨#[]⟩,iT 0,nZ,iT 0] 40)) 40 (.bool up) (iT 0) nZ nZ nZ (.string ⟨#[]⟩) (iT 0) nZ (iT 0);rw [World.size_alloc,World.size_alloc] at this;rw [hW,hX];exact this
 have hsz:W.heap.size=X+1+1+1:=by rw [hW,hX];simp
 have H:=ar h;have HS:=ar hs;have HX:Hid (X=w.heap.size):=hX;have HK:Hid (Bl w W):=kW;clear h hs kW;go_enter Tryz.func7,Tryz.ntmps7
 go_wp2_with fail
 rw [← hX,← hW];clear hX hW;refine (uT q lo _ _ _ _ _ _ _ _ _ M V S _ (H.out.keep HK.out).tree HS.out.1).mono ?_;rintro e w1 ⟨b1,b2,b3,rfl,hT1,hF1,hb1⟩;obtain ⟨W1,hW1⟩:=aw (((((w1.setCell ⟨X+1+1,1,none⟩ (iT q)).setCell ⟨X+1+1,2,none⟩ (sL b1 nm nm)).setCell ⟨X+1+1,3,none⟩ (sL b2 nv nv)).setCell ⟨X+1+1,4,none⟩ (sL b3 ns ns)));have hx:w.heap.size≤X+1+1:=by have:=HX.out;omega
 have bo1:aC W1 (X+1+1) (.bool up) (iT q) (sL b1 nm nm) (sL b2 nv nv) (sL b3 ns ns) (.string ⟨#[]⟩) (iT 0) nZ (iT 0):=by rw [hW1];exact (((((bo.keep hb1).set1 (iT q)).set2 (sL b1 nm nm)).set3 (sL b2 nv nv)).set4 (sL b3 ns ns))
 have bp1:aC W1 X (.bool up) (iT q) (.slice m nm cm) (.slice v nv cv) (.slice k ns cs) (.string lg) (iT sf) (.slice d nd cd) (iT sd):=by rw [hW1];exact (((((bp.keep hb1).other (by omega) _).other (by omega) _).other (by omega) _).other (by omega) _)
 have br1:aC W1 (X+1) (.bool false) (iT 0) nZ nZ nZ (.string ⟨#[]⟩) (iT 0) nZ (iT 0):=by rw [hW1];exact (((((br.keep hb1).other (by omega) _).other (by omega) _).other (by omega) _).other (by omega) _)
 have K1:Hid (Bl w W1):=by rw [hW1];exact (((((HK.out.trans (hb1.mono HK.out.size)).setCell (p:=⟨X+1+1,1,none⟩) hx _).setCell (p:=⟨X+1+1,2,none⟩) hx _).setCell (p:=⟨X+1+1,3,none⟩) hx _).setCell (p:=⟨X+1+1,4,none⟩) hx _)
 have S1:aM (X+3) w1 W1:=by rw [hW1];exact ((((aM.of_set _ _ (by show X+1+1<X+3;omega)).trans (aM.of_set _ _ (by show X+1+1<X+3;omega))).trans (aM.of_set _ _ (by show X+1+1<X+3;omega))).trans (aM.of_set _ _ (by show X+1+1<X+3;omega)))
 have hsz1:X+3≤W1.heap.size:=by have:=S1.1;have:=hb1.size;omega
 have T1:Hid (aX (X+3) W1 (pT b1) nm nm (pT b2) nv nv (pT b3) ns ns M V S):=aX.same ⟨hT1.mem.mono (by omega),hT1.levels.mono (by omega),hT1.snaps.lower (by omega)⟩ S1;have F1:Hid (dQ (X+3) W1.heap.size W1 b1 nm b2 V b3 ns):=by
  rw [hW1];exact (dQ.far (hF1.mono (lo':=X+3) (by omega) (Nat.le_refl _)) ((((cC.of_set _ _ (by show X+1+1<X+3;omega)).trans (cC.of_set _ _ (by show X+1+1<X+3;omega))).trans (cC.of_set _ _ (by show X+1+1<X+3;omega))).trans (cC.of_set _ _ (by show X+1+1<X+3;omega)))).mono (Nat.le_refl _) (by simp [World.setCell])
 have vo1:=(bo.keep hb1).c1;have vo2:=(bo.keep hb1).c2;have vo3:=(bo.keep hb1).c3;have vo4:=(bo.keep hb1).c4;have vf:=(bo.keep hb1).fz;have vz:=(bo.keep hb1).lt;have vp5:=(bp.keep hb1).c5;have vp6:=(bp.keep hb1).c6;have vp7:=(bp.keep hb1).c7;have vp8:=(bp.keep hb1).c8;have vz':X<w1.heap.size:=by omega
 clear hb1 bo bp br hT1 hF1 S1 hsz;go_wp2_with fail
 rw [← hW1];clear hW1 vo1 vo2 vo3 vo4 vf vz vp5 vp6 vp7 vp8 vz';refine (uY lo lg sf sd _ _ _ U _ (H.out.keep K1.out).disk HS.out.2).mono ?_;rintro e w2 ⟨b4,rfl,hU2,hG2,hb2⟩;obtain ⟨W2,hW2⟩:=aw (((((w2.setCell ⟨X+1+1,5,none⟩ (.string lg)).setCell ⟨X+1+1,6,none⟩ (iT sf)).setCell ⟨X+1+1,7,none⟩ (sL b4 nd nd)).setCell ⟨X+1+1,8,none⟩ (iT sd)));have br2:aC W2 (X+1) (.bool false) (iT 0) nZ nZ nZ (.string ⟨#[]⟩) (iT 0) nZ (iT 0):=by rw [hW2];exact (((((br1.keep hb2).other (by omega) _).other (by omega) _).other (by omega) _).other (by omega) _)
 have K2:Hid (Bl w W2):=by rw [hW2];exact (((((K1.out.trans (hb2.mono K1.out.size)).setCell (p:=⟨X+1+1,5,none⟩) hx _).setCell (p:=⟨X+1+1,6,none⟩) hx _).setCell (p:=⟨X+1+1,7,none⟩) hx _).setCell (p:=⟨X+1+1,8,none⟩) hx _)
 have S2:aM (X+3) w2 W2:=by rw [hW2];exact ((((aM.of_set _ _ (by show X+1+1<X+3;omega)).trans (aM.of_set _ _ (by show X+1+1<X+3;omega))).trans (aM.of_set _ _ (by show X+1+1<X+3;omega))).trans (aM.of_set _ _ (by show X+1+1<X+3;omega)))
 have U2:Hid (au (X+3) W2 (pT b4) nd nd U):=(hU2.mono (by omega)).same S2;have T2:Hid (aX (X+3) W2 (pT b1) nm nm (pT b2) nv nv (pT b3) ns ns M V S):=(T1.out.keep hb2).same S2;have D2:∀hi,cC (X+3) hi w2 W2:=fun hi=>by rw [hW2];exact ((((cC.of_set _ _ (by show X+1+1<X+3;omega)).trans (cC.of_set _ _ (by show X+1+1<X+3;omega))).trans (cC.of_set _ _ (by show X+1+1<X+3;omega))).trans (cC.of_set _ _ (by show X+1+1<X+3;omega)))
 have hz2:w2.heap.size≤W2.heap.size:=by rw [hW2];simp [World.setCell]
 have F2:Hid (dQ (X+3) W2.heap.size W2 b1 nm b2 V b3 ns):=(F1.out.far ((cC.of_below hb2).trans (D2 _))).mono (Nat.le_refl _) (Nat.le_trans hb2.size hz2);have G2:Hid (cQ (X+3) W2.heap.size W2 b4 U):=(cQ.far (hG2.mono (lo':=X+3) (by omega) (Nat.le_refl _)) (D2 _)).mono (Nat.le_refl _) hz2;have vo0:=(bo1.keep hb2).c0;have vo1:=(bo1.keep hb2).c1;have vo2:=(bo1.keep hb2).c2;have vo3:=(bo1.keep hb2).c3;have vo4:=(bo1.keep hb2).c4;have vo5:=(bo1.keep hb2).c5;have vo6:=(bo1.keep hb2).c6;have vo7:=(bo1.keep hb2).c7;have vo8:=(bo1.keep hb2).c8;have vf:=(bo1.keep hb2).fz;have vz:=(bo1.keep hb2).lt;have vr0:=(br1.keep hb2).c0;have vr1:=(br1.keep hb2).c1;have vr2:=(br1.keep hb2).c2;have vr3:=(br1.keep hb2).c3;have vr4:=(br1.keep hb2).c4;have vr5:=(br1.keep hb2).c5;have vr6:=(br1.keep hb2).c6;have vr7:=(br1.keep hb2).c7;have vr8:=(br1.keep hb2).c8;have vrf:=(br1.keep hb2).fz;have vrz:=(br1.keep hb2).lt;clear hb2 bo1 bp1 br1 hU2 hG2 S2 D2 hz2 hx;go_wp2;rw [← hW2];refine bodyPost_ret (v:=.agg #[.bool up,iT q,sL b1 nm nm,sL b2 nv nv,sL b3 ns ns,.string lg,iT sf,sL b4 nd nd,iT sd]) ?_ rfl ⟨b1,b2,b3,b4,rfl,?_,?_,?_⟩
 · have c:=(((((((((br2.set0 (.bool up)).set1 (iT q)).set2 (sL b1 nm nm)).set3 (sL b2 nv nv)).set4 (sL b3 ns ns)).set5 (.string lg)).set6 (iT sf)).set7 (sL b4 nd nd)).set8 (iT sd));simp [results,Tryz.results7,go_sem,c.all]
 · have hm:aM (X+3) W2 (((((((((W2.setCell ⟨X+1,0,none⟩ (.bool up)).setCell ⟨X+1,1,none⟩ (iT q)).setCell ⟨X+1,2,none⟩ (sL b1 nm nm)).setCell ⟨X+1,3,none⟩ (sL b2 nv nv)).setCell ⟨X+1,4,none⟩ (sL b3 ns ns)).setCell ⟨X+1,5,none⟩ (.string lg)).setCell ⟨X+1,6,none⟩ (iT sf)).setCell ⟨X+1,7,none⟩ (sL b4 nd nd)).setCell ⟨X+1,8,none⟩ (iT sd)):=(((((((((aM.of_set _ _ (by show X+1<X+3;omega)).trans (aM.of_set _ _ (by show X+1<X+3;omega))).trans (aM.of_set _ _ (by show X+1<X+3;omega))).trans (aM.of_set _ _ (by show X+1<X+3;omega))).trans (aM.of_set _ _ (by show X+1<X+3;omega))).trans (aM.of_set _ _ (by show X+1<X+3;omega))).trans (aM.of_set _ _ (by show X+1<X+3;omega))).trans (aM.of_set _ _ (by show X+1<X+3;omega))).trans (aM.of_set _ _ (by show X+1<X+3;omega)));have hx:=HX.out;have t:=T2.out.same hm;exact ⟨⟨t.mem.mono (by omega),t.levels.mono (by omega),t.snaps.lower (by omega)⟩,(U2.out.same hm).mono (by omega)⟩
 · have hx:=HX.out;obtain ⟨wf,hwf⟩:=aw (((((((((W2.setCell ⟨X+1,0,none⟩ (.bool up)).setCell ⟨X+1,1,none⟩ (iT q)).setCell ⟨X+1,2,none⟩ (sL b1 nm nm)).setCell ⟨X+1,3,none⟩ (sL b2 nv nv)).setCell ⟨X+1,4,none⟩ (sL b3 ns ns)).setCell ⟨X+1,5,none⟩ (.string lg)).setCell ⟨X+1,6,none⟩ (iT sf)).setCell ⟨X+1,7,none⟩ (sL b4 nd nd)).setCell ⟨X+1,8,none⟩ (iT sd));have D3:∀hi,cC (X+3) hi W2 wf:=fun hi=>by rw [hwf];exact (((((((((cC.of_set _ _ (by show X+1<X+3;omega)).trans (cC.of_set _ _ (by show X+1<X+3;omega))).trans (cC.of_set _ _ (by show X+1<X+3;omega))).trans (cC.of_set _ _ (by show X+1<X+3;omega))).trans (cC.of_set _ _ (by show X+1<X+3;omega))).trans (cC.of_set _ _ (by show X+1<X+3;omega))).trans (cC.of_set _ _ (by show X+1<X+3;omega))).trans (cC.of_set _ _ (by show X+1<X+3;omega))).trans (cC.of_set _ _ (by show X+1<X+3;omega)))
   have hz3:W2.heap.size≤wf.heap.size:=by rw [hwf];simp [World.setCell]
   rw [← hwf];exact ⟨(F2.out.far (D3 _)).mono (by omega) hz3,(G2.out.far (D3 _)).mono (by omega) hz3⟩
 · have hx:w.heap.size≤X+1:=by have:=HX.out;omega
   exact ((((((mf K2.out hx _ _ _ _).setCell (p:=⟨X+1,4,none⟩) hx _).setCell (p:=⟨X+1,5,none⟩) hx _).setCell (p:=⟨X+1,6,none⟩) hx _).setCell (p:=⟨X+1,7,none⟩) hx _).setCell (p:=⟨X+1,8,none⟩) hx _)
theorem ry (lo hi b4 nd k:Nat) (lg:ByteArray) (sf sd:Int) (U:List (List aq)) (w:World) (hB:cQ lo hi w b4 U) (hU:U.length=nd) (h2:iY U) (hk:1≤k) (hn:k+cZ U≤1000000000) :
 Calls Tryz.prog 30 #[.agg #[.string lg,iT sf,sL b4 nd nd,iT sd],iT k] w fun e w'=>(∃r:Nat,r=k+cZ U∧e=.returned (iT (r:Int)))∧aQ lo hi w w':=by
 obtain ⟨W,hW⟩:=aw (w.alloc (.cells #[.string lg,iT sf,sL b4 nd nd,iT sd] 38));have kW:Bl w W:=by rw [hW];exact bZ
 have M0:Hid (aQ lo hi w W):=aQ.of_below kW;have HB:=ar (hB.mark M0.out);have hnv:nd≤1048576:=by have:=h2.1;omega
 obtain ⟨K1,hK1⟩:=aw (k+cZ U);have CL:=lN lo hi b4 nd k U W HB.out hU hnv h2.2 hk hn;rw [← hK1] at CL;have HK1:=ar hK1;clear kW hB h2 hK1;go_enter Tryz.func30,Tryz.ntmps30
 go_wp2_with fail
 rw [← hW];clear hW;refine CL.mono ?_;rintro e w1 ⟨rfl,hM1⟩;have M1:Hid (aQ lo hi w w1):=M0.out.trans hM1;clear hM1 CL;go_wp2;go_ret;exact ⟨⟨K1,HK1.out,rfl⟩,M1.out⟩
theorem pQ (up:Bool) (q:Int) (lo hi b1 nm b2 nv b3 ns b4 nd k:Nat) (lg:ByteArray) (sf sd:Int) (V U:List (List aq)) (w:World) (hB:mq lo hi w b1 nm b2 V b3 ns b4 U) (hV:V.length=nv) (hU:U.length=nd) (h1:nm≤1048576) (h2:iY V) (h3:ns≤1048576) (h4:iY U) (hhi:hi≤w.heap.size) (hk:1≤k) (hn:k+5*nm+cZ V+ns+cZ U≤1000000000) :
 Calls Tryz.prog 12 #[.agg #[.bool up,iT q,sL b1 nm nm,sL b2 nv nv,sL b3 ns ns,.string lg,iT sf,sL b4 nd nd,iT sd],iT k] w fun e w'=>(∃r:Nat,r=k+5*nm+cZ V+ns+cZ U∧e=.returned (iT (r:Int)))∧aQ lo hi w w':=by
 obtain ⟨Y,hY⟩:=aw w.heap.size;obtain ⟨W,hW⟩:=aw (w.alloc (.cells #[.bool up,iT q,sL b1 nm nm,sL b2 nv nv,sL b3 ns ns,.string lg,iT sf,sL b4 nd nd,iT sd] 40));have kW:Bl w W:=by rw [hW];exact bZ
 have bx:aC W Y (.bool up) (iT q) (sL b1 nm nm) (sL b2 nv nv) (sL b3 ns ns) (.string lg) (iT sf) (sL b4 nd nd) (iT sd):=by rw [hW,hY];exact aC.new _ _ _ _ _ _ _ _ _ _ _
 have x5:=bx.c5;have x6:=bx.c6;have x7:=bx.c7;have x8:=bx.c8;have M0:Hid (aQ lo hi w W):=aQ.of_below kW;have HB:=ar (hB.mark M0.out);have HYH:Hid (hi≤Y):=by rw [hY];exact hhi
 obtain ⟨K1,hK1⟩:=aw (k+5*nm+cZ V+ns);have CT:=pO q lo hi b1 nm b2 nv b3 ns k V W HB.out.tree hV h1 h2 h3 (Nat.le_trans hhi kW.size) hk (by omega);have CD:Hid (∀w',cQ lo hi w' b4 U→Calls Tryz.prog 30 #[.agg #[.string lg,iT sf,sL b4 nd nd,iT sd],iT (K1:Int)] w' fun e w''=>(∃r:Nat,r=K1+cZ U∧e=.returned (iT (r:Int)))∧aQ lo hi w' w''):=fun w' h=>ry lo hi b4 nd K1 lg sf sd U w' h hU h4 (by omega) (by omega)
 have HK1:=ar hK1;clear kW hB h2 h4 bx hK1 hn;go_enter Tryz.func12,Tryz.ntmps12
 go_wp2_with fail
 rw [← hW];try rw [← hY]
 clear hW hY;refine CT.mono ?_;rintro e w1 ⟨⟨r,hr,rfl⟩,hM1⟩;obtain rfl:K1=r:=HK1.out.trans hr.symm;have x5:=hM1.cell (.inr HYH.out) x5;have x6:=hM1.cell (.inr HYH.out) x6;have x7:=hM1.cell (.inr HYH.out) x7;have x8:=hM1.cell (.inr HYH.out) x8;have M1:Hid (aQ lo hi w w1):=M0.out.trans hM1;have HB1:=ar (HB.out.mark hM1);have z1:=World.block_lt_of_cell? _ _ x5;simp only at z1;clear hM1 CT hr;go_wp2_with fail
 refine (CD.out _ HB1.out.disk).mono ?_;rintro e w2 ⟨⟨r2,hr2,rfl⟩,hM2⟩;have M2:Hid (aQ lo hi w w2):=M1.out.trans hM2;have HR2:=ar hr2;clear hM2 x5 x6 x7 x8 hr2;go_wp2;go_ret;exact ⟨⟨r2,by rw [HR2.out,HK1.out],rfl⟩,M2.out⟩
def uk (M:List ae) (V:List (List aq)) (S:List Int) (lg:ByteArray) (U:List (List aq)):Prop:=M.length+(l9 V+V.length)+S.length+(lg.size+(l9 U+U.length))≤1048576∧(∀e ∈ M,xB e)∧(∀B ∈ V,xC B)∧∀B ∈ U,xC B
theorem uk.small {M:List ae} {S:List Int} {lg:ByteArray} (h:uk M V S lg U):Ai M V S U :=
 ⟨jZ (by have:=h.1;omega),(jZ (M:=[]) (V:=U) (S:=[]) (by have:=h.1;simp only [List.length_nil];omega)).2.1⟩
theorem sP (lo:Nat) (lg:ByteArray) (sf sd:Int) (d:Option Addr) (nd cd:Nat) (U:List (List aq)) (left:Int) (w:World) (h:au lo w d nd cd U) (hl:lg.size≤maxLen) (h0:0≤left) (h1:left≤1048576) :
 Calls Tryz.prog 16 #[.agg #[.string lg,iT sf,.slice d nd cd,iT sd],iT left] w fun e w'=>∃r:Int,e=.returned (iT r)∧(r=-1∨(0≤r∧r+(lg.size+(l9 U+U.length):Nat)≤left∧∀B ∈ U,xC B))∧Bl w w':=by
 unfold maxLen at hl;obtain ⟨W,hW⟩:=aw (w.alloc (.cells #[.string lg,iT sf,.slice d nd cd,iT sd] 28));have hB:Bl w W:=by rw [hW];exact bZ
 have H1:Hid (au lo W d nd cd U):=h.keep hB;have HB:Hid (Bl w W):=hB;clear h hB;have wl:IntKind.i64.wrap (left - (lg.size:Int))=left - (lg.size:Int):=by rw [IntWalk.i64_left];unfold wrap64;omega
 go_enter Tryz.func16,Tryz.ntmps16
 by_cases hs:left - (lg.size:Int)<0
 · go_wp2;go_ret;rw [← hW];exact ⟨-1,rfl,Or.inl rfl,HB.out⟩
 go_wp2_with fail
 rw [← hW];clear hW;refine (lH lo _ _ _ U _ _ H1.out (by omega) (by omega)).mono ?_;rintro e w2 ⟨r2,rfl,hr2,hb2⟩;have K2:Hid (Bl W w2):=hb2;clear hb2;rcases hr2 with rfl | ⟨a2,b2,c2⟩
 · go_wp2;go_ret;exact ⟨-1,rfl,Or.inl rfl,HB.out.trans (K2.out.mono HB.out.size)⟩
 · have C2:Hid (∀B ∈ U,xC B):=c2;clear c2;go_wp2;go_ret;exact ⟨r2,rfl,Or.inr ⟨a2,by omega,C2.out⟩,HB.out.trans (K2.out.mono HB.out.size)⟩
theorem qJ (lo:Nat) (up:Bool) (q:Int) (m:Option Addr) (nm cm:Nat) (v:Option Addr) (nv cv:Nat) (k:Option Addr) (ns cs:Nat) (lg:ByteArray) (sf:Int) (d:Option Addr) (nd cd:Nat) (sd:Int) (M:List ae) (V:List (List aq)) (S:List Int) (U:List (List aq)) (left:Int) (w:World) (h:bU lo w m nm cm v nv cv k ns cs d nd cd M V S U) (hl:lg.size≤maxLen) (h0:0≤left) (h1:left≤1048576) :
 Calls Tryz.prog 4 #[.agg #[.bool up,iT q,.slice m nm cm,.slice v nv cv,.slice k ns cs,.string lg,iT sf,.slice d nd cd,iT sd],iT left] w fun e w'=>∃r:Int,e=.returned (iT r)∧(r=-1∨(0≤r∧r≤1048576∧uk M V S lg U))∧Bl w w':=by
 obtain ⟨W,hW⟩:=aw (w.alloc (.cells #[.bool up,iT q,.slice m nm cm,.slice v nv cv,.slice k ns cs,.string lg,iT sf,.slice d nd cd,iT sd] 30));have hB:Bl w W:=by rw [hW];exact bZ
 have bx:aC W w.heap.size (.bool up) (iT q) (.slice m nm cm) (.slice v nv cv) (.slice k ns cs) (.string lg) (iT sf) (.slice d nd cd) (iT sd):=by rw [hW];exact aC.new _ _ _ _ _ _ _ _ _ _ _
 have H1:Hid (bU lo W m nm cm v nv cv k ns cs d nd cd M V S U):=h.keep hB;have HB:Hid (Bl w W):=hB;have HX:Hid (aC W w.heap.size (.bool up) (iT q) (.slice m nm cm) (.slice v nv cv) (.slice k ns cs) (.string lg) (iT sf) (.slice d nd cd) (iT sd)):=bx;clear h hB bx;go_enter Tryz.func4,Tryz.ntmps4
 go_wp2_with fail
 rw [← hW];clear hW;refine (sJ _ lo _ _ _ _ _ _ _ _ _ M V S _ _ H1.out.tree h0 h1).mono ?_;rintro e w1 ⟨r1,rfl,hr1,hb1⟩;have x5:=(HX.out.keep hb1).c5;have x6:=(HX.out.keep hb1).c6;have x7:=(HX.out.keep hb1).c7;have x8:=(HX.out.keep hb1).c8;have xz:=(HX.out.keep hb1).lt;have K1:Hid (Bl W w1):=hb1;clear hb1;rcases hr1 with rfl | ⟨a1,b1,c1,d1⟩
 · go_wp2;go_ret;exact ⟨-1,rfl,Or.inl rfl,HB.out.trans (K1.out.mono HB.out.size)⟩
 have C1:Hid ((∀e ∈ M,xB e)∧∀B ∈ V,xC B):=⟨c1,d1⟩;clear c1 d1;go_wp2_with fail
 refine (sP lo lg sf sd d nd cd U _ _ (H1.out.keep K1.out).disk hl a1 (by omega)).mono ?_;rintro e w2 ⟨r2,rfl,hr2,hb2⟩;have K2:Hid (Bl W w2):=K1.out.trans (hb2.mono K1.out.size);clear hb2 K1;rcases hr2 with rfl | ⟨a2,b2,c2⟩
 · go_wp2;go_ret;exact ⟨-1,rfl,Or.inl rfl,HB.out.trans (K2.out.mono HB.out.size)⟩
 · have C2:Hid (uk M V S lg U):=⟨by omega,C1.out.1,C1.out.2,c2⟩;clear c2;go_wp2;go_ret;exact ⟨r2,rfl,Or.inr ⟨a2,by omega,C2.out⟩,HB.out.trans (K2.out.mono HB.out.size)⟩
end Go.Proofs.YtehiefdphnljaaaGreatDoor
