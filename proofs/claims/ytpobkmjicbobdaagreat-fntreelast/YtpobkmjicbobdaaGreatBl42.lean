/- Walks. -/
import Derived.Test.YtpobkmjicbobdaaGreatBl41
namespace Go.Proofs.YtpobkmjicbobdaaGreat
set_option maxRecDepth 100000
set_option maxHeartbeats 40000000
open Go.RowKit
theorem wV (lo:Nat) (q:Int) (am:Option Addr) (nm cm b d cv:Nat) (ak:Option Addr) (ns cs:Nat) (M:List ac) (A B C:List an) (S:List Int) (key:ByteArray) (seq:Int) (w:World) (hT:b6 lo w am nm cm (some ⟨b,d,none⟩) 3 cv ak ns cs M [A,B,C] S) (bR:nm≤60) (hl:∀Z ∈ [A,B,C],Z.length≤8) (ah:∀Z ∈ [A,B,C],∀r ∈ Z,ch r.1 r.2=true) :
 Calls Tryz.prog 108 #[.agg #[iT q,.slice am nm cm,sO b d 3 cv,.slice ak ns cs],.string key,iT seq] w fun e w'=>e=.returned (eK (gT (aQ M key seq++[A,B,C].flatMap (fun Z=>aV Z key seq)) key seq))∧Bl w w':=by
 have HT:=bO hT;have ba:=bO hl;have aq:=bO ah;obtain ⟨RC,H⟩:=aH (eK (gT (aQ M key seq++[A,B,C].flatMap (fun Z=>aV Z key seq)) key seq));have CA:CG (∀(base g n c:Nat) (w':World),af w' base g n c (aQ M key seq++[A,B,C].flatMap (fun Z=>aV Z key seq))→n≤1048576→Calls Tryz.prog 168 #[sL g n c,.string key,iT seq] w' fun e bf=>e=.returned RC∧Bl w' bf):=fun base g n c w' h hn=>by
  rw [H];exact sJ _ n c _ key seq w' h.entsAt hn
 obtain ⟨R,rt,rn,bh⟩:∃(R:Bool) (rt:ByteArray) (rn:Int),RC=.agg #[.bool R,.string rt,iT rn]:=by
  rw [H];exact ⟨_,_,_,rfl⟩
 rw [← H];clear H;subst bh;obtain ⟨I,F⟩:=aH (aQ M key seq);have bw:CG (I.length≤nm):=by have h1:=io M key seq;have h2:=hT.mem.1.length;show _≤_;rw [F];omega
 obtain ⟨X,hX⟩:=aH w.heap.size;obtain ⟨W,hW⟩:=aH ((w.alloc (.cells #[iT q,.slice am nm cm,sO b d 3 cv,.slice ak ns cs] 31)).alloc (.cells #[.bool false,.string ⟨#[]⟩,iT 0] 57));have kW:Bl w W:=by rw [hW];exact bZ.alloc (by simp) _
 have bx:az W X (iT q) (.slice am nm cm) (sO b d 3 cv) (.slice ak ns cs):=by rw [hW,hX];exact (az.new _ _ _ _ _ _).alloc _
 have CC:CG (Calls Tryz.prog 167 #[.slice am nm cm,.string key,iT seq] W fun e w'=>∃g n c,e=.returned (sL g n c)∧af w' W.heap.size g n c I∧Bl W w'):=by rw [F];exact pQ am nm cm M key seq W (hT.mem.1.keep kW) (by omega)
 rw [← F] at CA;have K0:CG (Bl w W):=kW;have HX:CG (X=w.heap.size):=hX;have aE:CG (∀w',Bl W w'→w'.cell? ⟨X,2,none⟩=some (sO b d 3 cv)∧X<w'.heap.size):=fun w' k=>⟨cell_later k bx.c2,l' bx.lt k.size⟩
 have bn:CG (W.cell? ⟨X+1,0,none⟩=some (.bool false)∧W.cell? ⟨X+1,1,none⟩=some (.string ⟨#[]⟩)∧W.cell? ⟨X+1,2,none⟩=some (iT 0)∧(∀o,W.frozen? ⟨X+1,o,none⟩=false)∧X+1<W.heap.size):=by
  rw [hW,hX];refine ⟨?_,?_,?_,fun o=>?_,?_⟩ <;> simp
 have x1:=bx.c1;have xz:=bx.lt;clear kW bx hT hl ah F;go_enter Tryz.func108,Tryz.ntmps108
 go_wp2_with fail
 rw [← hX,← hW];clear hX hW x1 xz;refine CC.o.mono ?_;rintro e w1 ⟨g,n,c,rfl,U,x⟩;have E:CG (af w1 W.heap.size g n c I):=U;have cg:n≤60:=by have h1:=U.len;have h2:=bw.o;omega
 have aD:CG (Bl W w1):=x;clear x U CC;go_wp2;go_loopw [7,8] (fun fv kv wr=>∃(k gf K cf:Nat),k≤3∧kv=iT k∧fv=sL gf K cf∧K≤60+1200*k∧af wr W.heap.size gf K cf (I++([A,B,C].take k).flatMap (fun Z=>aV Z key seq))∧Bl W wr) (fun _ kv _=>3 - (intOf kv).toNat)
 case atStart=>exact ⟨0,g,n,c,by omega,rfl,rfl,by omega,by simpa using E.o,aD.o⟩
 case round =>
  clear E aD;obtain ⟨k,gf,K,cf,hk,rfl,rfl,bT,aw,ar⟩:=hrel;have a0:CG (af wr W.heap.size gf K cf (I++([A,B,C].take k).flatMap (fun Z=>aV Z key seq))):=aw;have t:CG (Bl W wr):=ar;clear aw ar;obtain ⟨x2,xz⟩:=aE.o _ t.o;by_cases aA:k<3
  · have au:(k:Int)<3:=by omega
    have D:CG (∀w',Bl W w'→Bl w w'):=fun w' kk=>K0.o.trans (kk.mono K0.o.size)
    obtain ⟨Z,sz,nz,cz,hZ,gz,u⟩:=HT.o.levels.level (D.o _ t.o) k aA;have y:=(HT.o.levels.lies _ rfl (by omega)).1;simp only at y;have aK:CG (∀w',Bl W w'→w'.cell? ⟨b,d+k,none⟩=some (.slice sz nz cz)∧b<w'.heap.size∧ay lo w' sz nz cz Z):=fun w' kk=>by
     obtain ⟨Z',cl,c4,cd,al,ab,aj⟩:=HT.o.levels.level (D.o _ kk) k aA;rw [hZ] at al;cases al;have e1:wr.cell? ⟨b,d+k,none⟩=w.cell? ⟨b,d+k,none⟩:=DJ ((D.o _ t.o).block b y);have e2:w'.cell? ⟨b,d+k,none⟩=w.cell? ⟨b,d+k,none⟩:=DJ ((D.o _ kk).block b y);rw [e2,← e1,gz] at ab;cases ab;exact ⟨by rw [e2,← e1];exact gz,l' y (D.o _ kk).size,aj⟩
    have aB:CG (Z ∈ [A,B,C]):=CV hZ;have aa:CG (Z.length=nz):=u.length;have b5:CG ([A,B,C][k]?=some Z):=hZ;have c6:nz≤8:=by have h1:=ba.o Z aB.o;have h2:=aa.o;omega
    obtain ⟨G,hG⟩:=aH (I++([A,B,C].take k).flatMap (fun Z=>aV Z key seq));have HG:CG (G=I++([A,B,C].take k).flatMap (fun Z=>aV Z key seq)):=hG;have aP:CG (af wr W.heap.size gf K cf G):=by rw [hG];exact a0.o
    have a9:CG (Bl W wr):=t.o;clear hG a0 gz u hZ y;go_wp2;clear x2 xz;go_loopw [7,9] (fun fv jv wr=>∃(j g n c:Nat),j≤nz∧jv=iT j∧fv=sL g n c∧n≤60+1200*k+150*j∧af wr W.heap.size g n c (G++aV (Z.take j) key seq)∧Bl W wr) (fun _ jv _=>nz - (intOf jv).toNat)
    case atStart=>exact ⟨0,gf,K,cf,C3 _,rfl,rfl,by omega,by simpa [aV] using aP.o,a9.o⟩
    case round =>
     clear aP a9 t;obtain ⟨j,g,n,c,hj,rfl,rfl,hn,hO,hb⟩:=hrel;have HO:CG (af wr W.heap.size g n c (G++aV (Z.take j) key seq)):=hO;have Q:CG (Bl W wr):=hb;clear hO hb;obtain ⟨x2,xz⟩:=aE.o _ Q.o;obtain ⟨gz,bo,_⟩:=aK.o _ Q.o;by_cases bv:j<nz
     · have aS:(j:Int)<(nz:Int):=by omega
       have u:=(aK.o _ Q.o).2.2;obtain ⟨bz,oz,rfl,y⟩:=u.form (by omega);obtain ⟨L,m,s,ne,ce,hr,bX,g0,g1,hE⟩:=u.run (Below.refl _ wr) j bv;have aG:CG (Z[j]?=some (L,m)):=hr;obtain ⟨Y,ae,aN⟩:=dL (aq.o Z aB.o _ (CV hr));simp only at Y ae aN;have ap:CG (aI L=true):=Y;have aZ:=hE.1.length;have aW:CG (∀w',Bl wr w'→ag w' s ne ce L):=fun w' kk=>hE.1.keep kk
       have cn:ne≤150:=by omega
       have aL:1≤ne:=by omega
       obtain ⟨be,oe,rfl,ao⟩:=hE.1.form aL;obtain ⟨s0,q0,d0,t0,m0,aU,_,z0,_⟩:=hE.1.ent (Below.refl _ wr) ao 0 (by omega);obtain ⟨N,q1,d1,t1,m1,aR,_,z1,_⟩:=hE.1.ent (Below.refl _ wr) ao (ne - 1) (by omega);simp only [EO,DS] at z0;have bi:CG (bd L=s0):=by show bd L=s0;unfold bd;rw [aU]
       have b7:CG (aT L=N):=by show aT L=N;unfold aT;rw [aZ,aR]
       have cc:(0:Int)≤(ne:Int) - 1:=by omega
       have c9:(ne:Int) - 1<(ne:Int):=by omega
       have bS:((ne:Int) - 1).toNat=ne - 1:=by omega
       have bH:(0:Int)<(ne:Int):=by omega
       have wj:IntKind.i64.wrap ((ne:Int) - 1)=(ne:Int) - 1:=by rw [Dg];unfold wrap64;omega
       have ca:j≤8:=by omega
       have bg:n≤1048576:=by omega
       have aX:CG (aQ L key seq=[]→af wr W.heap.size g n c (G++aV (Z.take (j+1)) key seq)):=fun h0=>by
        have e1:aV (Z.take (j+1)) key seq=aV (Z.take j) key seq:=by
         rw [Dl,aG.o,fG];simp [aV,h0]
        rw [e1];exact HO.o
       clear hr Y ae aN hE aU aR u aZ;cases h1:Op.bytesLess key.toList s0.toList with
       | true =>
        have HS:CG (af wr W.heap.size g n c (G++aV (Z.take (j+1)) key seq)):=aX.o (jQ ap.o (by rw [bi.o];exact h1));go_wp2;go_roundw
        case rel=>exact ⟨j+1,g,n,c,by omega,by go_num,rfl,by omega,HS.o,Q.o⟩
        case measure=>simp [intOf];omega
       | false =>
        by_cases h2:Op.bytesLess N.toList key.toList=true
        · have h3:Op.bytesLess key.toList N.toList=false:=ee _ _ h2;have h4:(key.toList == N.toList)=false:=by
           rw [beq_eq_false_iff_ne];intro e;rw [e,bU] at h2;cases h2
          have HS:CG (af wr W.heap.size g n c (G++aV (Z.take (j+1)) key seq)):=aX.o (jl ap.o (by rw [b7.o];exact h2));clear h2;go_wp2;go_roundw
          case rel=>exact ⟨j+1,g,n,c,by omega,by go_num,rfl,by omega,HS.o,Q.o⟩
          case measure=>simp [intOf];omega
        · have h3:(Op.bytesLess key.toList N.toList || key.toList == N.toList)=true:=by
           by_cases he:key.toList=N.toList
           · rw [he];simp
           · rcases gU _ _ he with h | h
             · rw [h];rfl
             · exact absurd h h2
          have CF:CG (Calls Tryz.prog 167 #[sO be oe ne ce,.string key,iT seq] wr fun e w'=>∃g n c,e=.returned (sL g n c)∧af w' wr.heap.size g n c (aQ L key seq)∧Bl wr w'):=pQ _ ne ce L key seq wr (aW.o _ (Below.refl _ _)) (by omega);clear h2;go_wp2_with fail
          refine CF.o.mono ?_;rintro e w1 ⟨gr,nr,cr,rfl,T,x⟩;have aC:CG (Bl W w1):=Q.o.trans (x.mono Q.o.size);have E:CG (af w1 W.heap.size g n c (G++aV (Z.take j) key seq)):=HO.o.below x;have bq:CG (cH w1 wr.heap.size (pT gr) nr cr (aQ L key seq)):=cH.some T;have bY:nr≤150:=by have h1:=T.len;have h2:=io L key seq;have h3:=(aW.o _ (Below.refl _ _)).length;omega
          obtain ⟨J,ax⟩:=aH (n+nr);have bB:CG (J=n+nr):=ax;have b8:CG (J≤60+1200*k+150*(j+1)):=by show _≤_;omega
          clear T x ax x2 xz gz bo g0 g1 z0 z1;go_wp2_with (at_builtin;refine ng rfl _ _ rfl W.heap.size wr.heap.size g n c _ rfl E.o _ nr cr _ rfl bq.o bg (by omega) J bB.o ?_;intro g2 c2 w2 bk bA)
          go_roundw
          case rel =>
           refine ⟨j+1,g2,J,c2,by omega,by go_num,rfl,b8.o,?_,aC.o.grown bA aC.o.size (fun k e=>by cases e;exact E.o.lt.1)⟩;rw [Dl,aG.o];have e1:aV (Z.take j++(some (L,m)).toList) key seq=aV (Z.take j) key seq++aQ L key seq:=by rw [fG];simp [aV]
           rw [e1,← Di];exact bk
          case measure=>simp [intOf];omega
     · have aS:¬(j:Int)<(nz:Int):=by omega
       have ad:j=nz:=by omega
       have O:CG (af wr W.heap.size g n c (I++([A,B,C].take (k+1)).flatMap (fun Z=>aV Z key seq))∧n≤60+1200*(k+1)):=by
        have h:=HO.o;rw [ad,C9 (by rw [aa.o];omega)] at h;refine ⟨?_,by omega⟩;rw [HG.o] at h;rw [Dl,b5.o,List.flatMap_append,← Di];simpa using h
       clear ad HO;go_wp2;go_roundw
       case rel=>exact ⟨k+1,g,n,c,by omega,by go_num,rfl,O.o.2,O.o.1,Q.o⟩
       case measure=>simp [intOf];omega
  · have au:¬(k:Int)<3:=by omega
    obtain rfl:k=3:=by omega
    have b9:CG (af wr W.heap.size gf K cf (I++[A,B,C].flatMap (fun Z=>aV Z key seq))):=a0.o;go_wp2_with fail
    clear x2 xz;refine (CA.o _ _ _ _ _ b9.o (by omega)).mono ?_;rintro e w2 ⟨rfl,aJ⟩;have f:=t.o.trans (aJ.mono t.o.size);have K2:CG (Bl w w2):=K0.o.trans (f.mono K0.o.size);obtain ⟨r0,r1,r2,rf,rz⟩:=bn.o;have r0:=cell_later f r0;have r1:=cell_later f r1;have r2:=cell_later f r2;have rf:∀o,w2.frozen? ⟨X+1,o,none⟩=false:=fun o=>(f.frozen (p:=⟨X+1,o,none⟩) rz).trans (rf o)
    have rz:=l' rz f.size;clear aJ f;go_wp2;refine bodyPost_ret (v:=.agg #[.bool R,.string rt,iT rn]) ?_ rfl ⟨rfl,?_⟩
    · have bF:(((w2.setCell ⟨X+1,0,none⟩ (.bool R)).setCell ⟨X+1,1,none⟩ (.string rt)).setCell ⟨X+1,2,none⟩ (iT rn)).cell? ⟨X+1,0,none⟩=some (.bool R):=by rw [u' _ _ _ _ (by simp),u' _ _ _ _ (by simp)];exact C4 _ _ _ (by rw [r0];rfl)
      have bD:(((w2.setCell ⟨X+1,0,none⟩ (.bool R)).setCell ⟨X+1,1,none⟩ (.string rt)).setCell ⟨X+1,2,none⟩ (iT rn)).cell? ⟨X+1,1,none⟩=some (.string rt):=by rw [u' _ _ _ _ (by simp)];exact C4 _ _ _ (by rw [u' _ _ _ _ (by simp),r1];rfl)
      have bu:(((w2.setCell ⟨X+1,0,none⟩ (.bool R)).setCell ⟨X+1,1,none⟩ (.string rt)).setCell ⟨X+1,2,none⟩ (iT rn)).cell? ⟨X+1,2,none⟩=some (iT rn):=C4 _ _ _ (by rw [u' _ _ _ _ (by simp),u' _ _ _ _ (by simp),r2];rfl);simp [results,Tryz.results108,go_sem,bF,bD,bu]
    · have hx:w.heap.size≤X+1:=by have:=HX.o;omega
      exact ((K2.o.setCell (p:=⟨X+1,0,none⟩) hx _).setCell (p:=⟨X+1,1,none⟩) hx _).setCell (p:=⟨X+1,2,none⟩) hx _
theorem iZ {q:Int} {M:List ac} {A B C:List an} {S:List Int} (htb:bf q M [A,B,C] S=true):(A.length≤4∧B.length≤8∧C.length≤8)∧(∀Z ∈ [A,B,C],∀r ∈ Z,ch r.1 r.2=true)∧bg B=true∧bg C=true:=by
 have b:er [A,B,C] q=true:=(aY htb).2.2.2.2.2.2.2.1;unfold er at b;simp only [Db] at b;obtain ⟨hA,hB,hC⟩:=b;rw [cu] at hA hB hC;have hb:∀{Z:List an},eE Z=false→∀r ∈ Z,ch r.1 r.2=true:=fun {Z} h r hr=>by
  unfold eE at h;rw [Es] at h;simpa using h r hr
 refine ⟨⟨by have:=hA.1;omega,by have:=hB.1;omega,by have:=hC.1;omega⟩,fun Z d=>?_,hB.2.2.2 rfl,hC.2.2.2 rfl⟩;simp only [Da,Dr,or_false] at d;rcases d with rfl | rfl | rfl
 · exact hb hA.2.1
 · exact hb hB.2.1
 · exact hb hC.2.1
theorem xS (L:List ac) (key:ByteArray) (seq:Int):aQ (aQ L key seq) key seq=aQ L key seq:=by
 unfold aQ;rw [List.filter_filter];simp
theorem lD (L K:List ac) (key:ByteArray) (seq:Int):aQ (L++K) key seq=aQ L key seq++aQ K key seq:=by
 unfold aQ;rw [Ea]
theorem ya (M F:List ac) (key:ByteArray) (seq:Int):gT (M++F) key seq=gT (aQ M key seq++F) key seq:=by
 unfold gT;rw [lD,lD,xS]
def dK (M:List ac) (V:List (List an)) (key:ByteArray) (seq:Int):eN:=gT (M++V.flatMap (fun Z=>aV Z key seq)) key seq
theorem qT (lo:Nat) (q:Int) (am av ak:Option Addr) (nm cm nv cv y x:Nat) (M:List ac) (V:List (List an)) (S:List Int) (key:ByteArray) (seq:Int) (w:World) (O:b6 lo w am nm cm av nv cv ak y x M V S) :
 Calls Tryz.prog 40 #[.agg #[iT q,.slice am nm cm,.slice av nv cv,.slice ak y x],.string key,iT seq] w fun e w'=>e=.returned (eK (if bf q M V S=true then dK M V key seq else (false,⟨#[]⟩,0)))∧Bl w w':=by
 obtain ⟨X,hX⟩:=aH w.heap.size;obtain ⟨W,T⟩:=aH ((w.alloc (.cells #[iT q,.slice am nm cm,.slice av nv cv,.slice ak y x] 31)).alloc (.cells #[.bool false,.string ⟨#[]⟩,iT 0] 57));have kW:Bl w W:=by rw [T];exact bZ.alloc (by simp) _
 have bx:az W X (iT q) (.slice am nm cm) (.slice av nv cv) (.slice ak y x):=by rw [T,hX];exact (az.new _ _ _ _ _ _).alloc _
 have Q:CG (W.cell? ⟨X+1,0,none⟩=some (.bool false)∧W.cell? ⟨X+1,1,none⟩=some (.string ⟨#[]⟩)∧W.cell? ⟨X+1,2,none⟩=some (iT 0)∧(∀o,W.frozen? ⟨X+1,o,none⟩=false)∧X+1<W.heap.size):=by
  rw [T,hX];refine ⟨?_,?_,?_,fun o=>?_,?_⟩ <;> simp
 have K0:CG (Bl w W):=kW;have HX:CG (X=w.heap.size):=hX;have BX:CG (az W X (iT q) (.slice am nm cm) (.slice av nv cv) (.slice ak y x)):=bx;obtain ⟨TB,r⟩:=aH (bf q M V S);have CO:CG (Calls Tryz.prog 27 #[.agg #[iT q,.slice am nm cm,.slice av nv cv,.slice ak y x]] W fun e H=>e=.returned (.bool TB)∧Bl W H):=by rw [r];exact ix lo q _ _ _ _ _ _ _ _ _ M V S W (O.keep kW)
 obtain ⟨RC,m⟩:=aH (eK (if bf q M V S=true then dK M V key seq else (false,⟨#[]⟩,0)));obtain ⟨s,u,t,d⟩:∃(s:Bool) (u:ByteArray) (t:Int),RC=.agg #[.bool s,.string u,iT t]:=by
  rw [m];exact ⟨_,_,_,rfl⟩
 have CL:CG (TB=true→∀w',Bl W w'→Calls Tryz.prog 108 #[.agg #[iT q,.slice am nm cm,.slice av nv cv,.slice ak y x],.string key,iT seq] w' fun e H=>e=.returned (.agg #[.bool s,.string u,iT t])∧Bl w' H):=fun D w' kk=>by
  rw [r] at D;rw [← d,m,if_pos D];obtain ⟨A,B,C,a8⟩:=ia D;subst a8;have aa:nv=3:=O.levels.length.symm;subst aa;obtain ⟨b,a5,rfl,_⟩:=O.levels.form (by omega);obtain ⟨hl,a6,_⟩:=iZ D;have ae:=(aY D).2.2.1;have ai:=O.mem.1.length;unfold dK;rw [ya];exact wV lo q am nm cm b a5 cv ak y x M A B C S key seq w' ((O.keep kW).keep kk) (by omega) (fun Z hZ=>by simp only [Da,Dr,or_false] at hZ;rcases hZ with rfl | rfl | rfl <;> omega) a6
 have ad:CG (TB=false→s=false∧u=⟨#[]⟩∧t=0):=fun D=>by
  rw [r] at D;rw [m,D] at d;simp only [EE,if_false,eK,Value.agg.injEq] at d;simp at d;exact ⟨by first | exact d.1 | exact d.1.symm,by first | exact d.2.1 | exact d.2.1.symm,by first | exact d.2.2 | exact d.2.2.symm⟩
 rw [← m,d];clear m d r O kW;have x0:=bx.all;clear bx;go_enter Tryz.func40,Tryz.ntmps40
 go_wp2_with fail
 rw [← hX,← T];clear hX T x0;refine CO.o.mono ?_;rintro e w1 ⟨rfl,f⟩;cases TB with
 | false =>
  obtain ⟨rfl,rfl,rfl⟩:=ad.o rfl;obtain ⟨n,U⟩:=aH w1;rw [← U] at f ⊢;clear U;obtain ⟨J,K,r2,rf,E⟩:=Q.o;have J:=cell_later f J;have K:=cell_later f K;have r2:=cell_later f r2;have rf:∀o,n.frozen? ⟨X+1,o,none⟩=false:=fun o=>(f.frozen (p:=⟨X+1,o,none⟩) E).trans (rf o)
  have E:=l' E f.size;have K2:CG (Bl w n):=K0.o.trans (f.mono K0.o.size);clear f;go_wp2;refine bodyPost_ret (v:=.agg #[.bool false,.string ⟨#[]⟩,iT 0]) ?_ rfl ⟨rfl,?_⟩
  · have L:(((n.setCell ⟨X+1,0,none⟩ (.bool false)).setCell ⟨X+1,1,none⟩ (.string ⟨#[]⟩)).setCell ⟨X+1,2,none⟩ (iT 0)).cell? ⟨X+1,0,none⟩=some (.bool false):=by rw [u' _ _ _ _ (by simp),u' _ _ _ _ (by simp)];exact C4 _ _ _ (by rw [J];rfl)
    have I:(((n.setCell ⟨X+1,0,none⟩ (.bool false)).setCell ⟨X+1,1,none⟩ (.string ⟨#[]⟩)).setCell ⟨X+1,2,none⟩ (iT 0)).cell? ⟨X+1,1,none⟩=some (.string ⟨#[]⟩):=by rw [u' _ _ _ _ (by simp)];exact C4 _ _ _ (by rw [u' _ _ _ _ (by simp),K];rfl)
    have F:(((n.setCell ⟨X+1,0,none⟩ (.bool false)).setCell ⟨X+1,1,none⟩ (.string ⟨#[]⟩)).setCell ⟨X+1,2,none⟩ (iT 0)).cell? ⟨X+1,2,none⟩=some (iT 0):=C4 _ _ _ (by rw [u' _ _ _ _ (by simp),u' _ _ _ _ (by simp),r2];rfl);simp [results,Tryz.results40,go_sem,L,I,F]
  · have hx:w.heap.size≤X+1:=by have:=HX.o;omega
    exact ((K2.o.setCell (p:=⟨X+1,0,none⟩) hx _).setCell (p:=⟨X+1,1,none⟩) hx _).setCell (p:=⟨X+1,2,none⟩) hx _
 | true =>
  have Y:=BX.o.keep f;have x0:=Y.all;have N:CG (Bl W w1):=f;clear Y f;go_wp2_with fail
  clear x0;refine (CL.o (by first | rfl | trivial) _ N.o).mono ?_;rintro e n ⟨rfl,R⟩;have g:=N.o.trans (R.mono N.o.size);clear R;obtain ⟨J,K,r2,rf,E⟩:=Q.o;have J:=cell_later g J;have K:=cell_later g K;have r2:=cell_later g r2;have rf:∀o,n.frozen? ⟨X+1,o,none⟩=false:=fun o=>(g.frozen (p:=⟨X+1,o,none⟩) E).trans (rf o)
  have E:=l' E g.size;have K2:CG (Bl w n):=K0.o.trans (g.mono K0.o.size);clear g;go_wp2;refine bodyPost_ret (v:=.agg #[.bool s,.string u,iT t]) ?_ rfl ⟨rfl,?_⟩
  · have L:(((n.setCell ⟨X+1,0,none⟩ (.bool s)).setCell ⟨X+1,1,none⟩ (.string u)).setCell ⟨X+1,2,none⟩ (iT t)).cell? ⟨X+1,0,none⟩=some (.bool s):=by rw [u' _ _ _ _ (by simp),u' _ _ _ _ (by simp)];exact C4 _ _ _ (by rw [J];rfl)
    have I:(((n.setCell ⟨X+1,0,none⟩ (.bool s)).setCell ⟨X+1,1,none⟩ (.string u)).setCell ⟨X+1,2,none⟩ (iT t)).cell? ⟨X+1,1,none⟩=some (.string u):=by rw [u' _ _ _ _ (by simp)];exact C4 _ _ _ (by rw [u' _ _ _ _ (by simp),K];rfl)
    have F:(((n.setCell ⟨X+1,0,none⟩ (.bool s)).setCell ⟨X+1,1,none⟩ (.string u)).setCell ⟨X+1,2,none⟩ (iT t)).cell? ⟨X+1,2,none⟩=some (iT t):=C4 _ _ _ (by rw [u' _ _ _ _ (by simp),u' _ _ _ _ (by simp),r2];rfl);simp [results,Tryz.results40,go_sem,L,I,F]
  · have hx:w.heap.size≤X+1:=by have:=HX.o;omega
    exact ((K2.o.setCell (p:=⟨X+1,0,none⟩) hx _).setCell (p:=⟨X+1,1,none⟩) hx _).setCell (p:=⟨X+1,2,none⟩) hx _
theorem oK (q:Int) (am av ak:Option Addr) (nm cm nv cv r g:Nat) (key:ByteArray) (seq:Int) (w:World)
 (hC:∀w',Bl w w'→Calls Tryz.prog 86 #[.agg #[iT q,.slice am nm cm,.slice av nv cv,.slice ak r g]] w' fun e C=>(∃(A:Int) (L x0 x1 O J:Value),e=.returned (.tuple #[.agg #[iT A,L,x0,x1,O,J],.bool false])∧(∃a n c,L=.slice a n c)∧(∃a n c,x0=.slice a n c)∧(∃a n c,x1=.slice a n c)∧(∃a n c,O=.slice a n c)∧(∃a n c,J=.slice a n c))∧Bl w' C) :
 Calls Tryz.prog 39 #[.agg #[iT q,.slice am nm cm,.slice av nv cv,.slice ak r g],.string key,iT seq] w fun e w'=>e=.returned (.agg #[.bool false,.string ⟨#[]⟩,iT 0])∧Bl w w':=by
 obtain ⟨X,s⟩:=aH w.heap.size;obtain ⟨W,m⟩:=aH ((w.alloc (.cells #[iT q,.slice am nm cm,.slice av nv cv,.slice ak r g] 31)).alloc (.cells #[.bool false,.string ⟨#[]⟩,iT 0] 57));have u:Bl w W:=by rw [m];exact bZ.alloc (by simp) _
 have B:az W X (iT q) (.slice am nm cm) (.slice av nv cv) (.slice ak r g):=by rw [m,s];exact (az.new _ _ _ _ _ _).alloc _
 have t:CG (W.cell? ⟨X+1,0,none⟩=some (.bool false)∧W.cell? ⟨X+1,1,none⟩=some (.string ⟨#[]⟩)∧W.cell? ⟨X+1,2,none⟩=some (iT 0)∧(∀o,W.frozen? ⟨X+1,o,none⟩=false)∧X+1<W.heap.size):=by
  rw [m,s];refine ⟨?_,?_,?_,fun o=>?_,?_⟩ <;> simp
 have Q:CG (Bl w W):=u;have HX:CG (X=w.heap.size):=s;have BX:CG (az W X (iT q) (.slice am nm cm) (.slice av nv cv) (.slice ak r g)):=B;have I:=hC W u;have x0:=B.all;clear B u hC;go_enter Tryz.func39,Tryz.ntmps39
 go_wp2_with fail
 rw [← s,← m];clear s m x0;refine I.mono ?_;rintro e N ⟨⟨A,_,_,_,_,_,rfl,⟨m1,m2,m3,rfl⟩,⟨y1,Z,T,rfl⟩,⟨z1,R,z3,rfl⟩,⟨u1,u2,u3,rfl⟩,⟨U,v2,v3,rfl⟩⟩,f⟩;obtain ⟨w2,d⟩:=aH (N.alloc (.cells #[iT A,.slice m1 m2 m3,.slice y1 Z T,.slice z1 R z3,.slice u1 u2 u3,.slice U v2 v3] 82));have k2:Bl N w2:=by rw [d];exact bZ
 have b:=f.trans (k2.mono f.size);clear f k2;go_upto_region 2 with fail
 rw [← d];clear d I;obtain ⟨E,F,r2,K,x⟩:=t.o;have E:=cell_later b E;have F:=cell_later b F;have r2:=cell_later b r2;have K:∀o,w2.frozen? ⟨X+1,o,none⟩=false:=fun o=>(b.frozen (p:=⟨X+1,o,none⟩) x).trans (K o)
 have x:=l' x b.size;have Y:CG (Bl w w2):=Q.o.trans (b.mono Q.o.size);clear b;go_wp2;refine bodyPost_ret (v:=.agg #[.bool false,.string ⟨#[]⟩,iT 0]) ?_ rfl ⟨rfl,?_⟩
 · have H:(((w2.setCell ⟨X+1,0,none⟩ (.bool false)).setCell ⟨X+1,1,none⟩ (.string ⟨#[]⟩)).setCell ⟨X+1,2,none⟩ (iT 0)).cell? ⟨X+1,0,none⟩=some (.bool false):=by rw [u' _ _ _ _ (by simp),u' _ _ _ _ (by simp)];exact C4 _ _ _ (by rw [E];rfl)
   have D:(((w2.setCell ⟨X+1,0,none⟩ (.bool false)).setCell ⟨X+1,1,none⟩ (.string ⟨#[]⟩)).setCell ⟨X+1,2,none⟩ (iT 0)).cell? ⟨X+1,1,none⟩=some (.string ⟨#[]⟩):=by rw [u' _ _ _ _ (by simp)];exact C4 _ _ _ (by rw [u' _ _ _ _ (by simp),F];rfl)
   have y:(((w2.setCell ⟨X+1,0,none⟩ (.bool false)).setCell ⟨X+1,1,none⟩ (.string ⟨#[]⟩)).setCell ⟨X+1,2,none⟩ (iT 0)).cell? ⟨X+1,2,none⟩=some (iT 0):=C4 _ _ _ (by rw [u' _ _ _ _ (by simp),u' _ _ _ _ (by simp),r2];rfl);simp [results,Tryz.results39,go_sem,H,D,y]
 · have hx:w.heap.size≤X+1:=by have:=HX.o;omega
   exact ((Y.o.setCell (p:=⟨X+1,0,none⟩) hx _).setCell (p:=⟨X+1,1,none⟩) hx _).setCell (p:=⟨X+1,2,none⟩) hx _
theorem mM (q:Int) (am av ak:Option Addr) (nm cm nv cv B y:Nat) (Q L O E I:Value) (hs:(∃a n c,Q=.slice a n c)∧(∃a n c,L=.slice a n c)∧(∃a n c,O=.slice a n c)∧(∃a n c,E=.slice a n c)∧(∃a n c,I=.slice a n c)) (key:ByteArray) (seq:Int) (f:Bool) (m:ByteArray) (g:Int) (w:World)
 (hC:∀w',Bl w w'→Calls Tryz.prog 86 #[.agg #[iT q,.slice am nm cm,.slice av nv cv,.slice ak B y]] w' fun e d=>e=.returned (.tuple #[.agg #[iT q,Q,L,O,E,I],.bool true])∧Bl w' d)
 (hD:∀w',Bl w w'→Calls Tryz.prog 107 #[.agg #[iT q,Q,L,O,E,I],.string key,iT seq] w' fun e d=>e=.returned (.agg #[.bool f,.string m,iT g])∧Bl w' d) :
 Calls Tryz.prog 39 #[.agg #[iT q,.slice am nm cm,.slice av nv cv,.slice ak B y],.string key,iT seq] w fun e w'=>e=.returned (.agg #[.bool f,.string m,iT g])∧Bl w w':=by
 obtain ⟨⟨m1,m2,m3,rfl⟩,⟨y1,y2,y3,rfl⟩,⟨z1,z2,z3,rfl⟩,⟨u1,u2,u3,rfl⟩,⟨v1,v2,v3,rfl⟩⟩:=hs;obtain ⟨X,C⟩:=aH w.heap.size;obtain ⟨W,A⟩:=aH ((w.alloc (.cells #[iT q,.slice am nm cm,.slice av nv cv,.slice ak B y] 31)).alloc (.cells #[.bool false,.string ⟨#[]⟩,iT 0] 57));have H:Bl w W:=by rw [A];exact bZ.alloc (by simp) _
 have N:az W X (iT q) (.slice am nm cm) (.slice av nv cv) (.slice ak B y):=by rw [A,C];exact (az.new _ _ _ _ _ _).alloc _
 have F:CG (W.cell? ⟨X+1,0,none⟩=some (.bool false)∧W.cell? ⟨X+1,1,none⟩=some (.string ⟨#[]⟩)∧W.cell? ⟨X+1,2,none⟩=some (iT 0)∧(∀o,W.frozen? ⟨X+1,o,none⟩=false)∧X+1<W.heap.size):=by
  rw [A,C];refine ⟨?_,?_,?_,fun o=>?_,?_⟩ <;> simp
 have D:CG (Bl w W):=H;have HX:CG (X=w.heap.size):=C;have BX:CG (az W X (iT q) (.slice am nm cm) (.slice av nv cv) (.slice ak B y)):=N;have Z:=hC W H;have CD:CG (∀w',Bl w w'→Calls Tryz.prog 107 #[.agg #[iT q,.slice m1 m2 m3,.slice y1 y2 y3,.slice z1 z2 z3,.slice u1 u2 u3,.slice v1 v2 v3],.string key,iT seq] w' fun e d=>e=.returned (.agg #[.bool f,.string m,iT g])∧Bl w' d):=hD;have x0:=N.all;clear N H hC hD;go_enter Tryz.func39,Tryz.ntmps39
 go_wp2_with fail
 rw [← C,← A];clear C A x0;refine Z.mono ?_;rintro e w1 ⟨rfl,t⟩;obtain ⟨wb,s⟩:=aH (w1.alloc (.cells #[iT q,.slice m1 m2 m3,.slice y1 y2 y3,.slice z1 z2 z3,.slice u1 u2 u3,.slice v1 v2 v3] 82));have kb:Bl w1 wb:=by rw [s];exact bZ
 have r:CG (Bl W wb):=t.trans (kb.mono t.size);clear t kb;go_wp2_with fail
 rw [← s];clear s Z;refine (CD.o _ (D.o.trans (r.o.mono D.o.size))).mono ?_;rintro e x ⟨rfl,u⟩;have b:=r.o.trans (u.mono r.o.size);clear u;obtain ⟨T,U,r2,rf,J⟩:=F.o;have T:=cell_later b T;have U:=cell_later b U;have r2:=cell_later b r2;have rf:∀o,x.frozen? ⟨X+1,o,none⟩=false:=fun o=>(b.frozen (p:=⟨X+1,o,none⟩) J).trans (rf o)
 have J:=l' J b.size;have K2:CG (Bl w x):=D.o.trans (b.mono D.o.size);clear b;go_wp2;refine bodyPost_ret (v:=.agg #[.bool f,.string m,iT g]) ?_ rfl ⟨rfl,?_⟩
 · have Y:(((x.setCell ⟨X+1,0,none⟩ (.bool f)).setCell ⟨X+1,1,none⟩ (.string m)).setCell ⟨X+1,2,none⟩ (iT g)).cell? ⟨X+1,0,none⟩=some (.bool f):=by rw [u' _ _ _ _ (by simp),u' _ _ _ _ (by simp)];exact C4 _ _ _ (by rw [T];rfl)
   have R:(((x.setCell ⟨X+1,0,none⟩ (.bool f)).setCell ⟨X+1,1,none⟩ (.string m)).setCell ⟨X+1,2,none⟩ (iT g)).cell? ⟨X+1,1,none⟩=some (.string m):=by rw [u' _ _ _ _ (by simp)];exact C4 _ _ _ (by rw [u' _ _ _ _ (by simp),U];rfl)
   have K:(((x.setCell ⟨X+1,0,none⟩ (.bool f)).setCell ⟨X+1,1,none⟩ (.string m)).setCell ⟨X+1,2,none⟩ (iT g)).cell? ⟨X+1,2,none⟩=some (iT g):=C4 _ _ _ (by rw [u' _ _ _ _ (by simp),u' _ _ _ _ (by simp),r2];rfl);simp [results,Tryz.results39,go_sem,Y,R,K]
 · have hx:w.heap.size≤X+1:=by have:=HX.o;omega
   exact ((K2.o.setCell (p:=⟨X+1,0,none⟩) hx _).setCell (p:=⟨X+1,1,none⟩) hx _).setCell (p:=⟨X+1,2,none⟩) hx _
end Go.Proofs.YtpobkmjicbobdaaGreat
namespace Go.Proofs.YtpobkmjicbobdaaGreat
namespace Mg
variable {β : Type} {less : β → β → Bool}
def Ok (less : β → β → Bool) (H : List β) (p c : Nat) : Prop := ∀ x y, H[p]? = some x → H[c]? = some y → less y x = false
structure A9 (less : β → β → Bool) (n : Nat) (H : List β) (i : Nat) : Prop where
  rest : ∀ c, 0 < c → c < n → (c - 1) / 2 ≠ i → Ok less H ((c - 1) / 2) c
  over : 0 < i → ∀ c, 0 < c → c < n → (c - 1) / 2 = i → Ok less H ((i - 1) / 2) c
def sw (H : List β) (i j : Nat) (x y : β) : List β := (H.set i y).set j x
theorem yB {H : List β} {i j : Nat} {x y : β} (hx : H[i]? = some x) (hy : H[j]? = some y) (k : Nat) : (sw H i j x y)[k]? = if k = j then some x else if k = i then some y else H[k]? := by
  have hi := (Cx.1 hx).1
  have b := (Cx.1 hy).1
  unfold sw
  by_cases h1 : k = j
  · subst h1; rw [if_pos rfl, DX (by simpa using b)]
  · rw [if_neg h1, Dx (Ne.symm h1)]
    by_cases h2 : k = i
    · subst h2; rw [if_pos rfl, DX hi]
    · rw [if_neg h2, Dx (Ne.symm h2)]
structure Ord (less : β → β → Bool) : Prop where
  asym : ∀ a b, less a b = true → less b a = false
  tran : ∀ a b c, less a b = false → less b c = false → less a c = false
theorem fI (o : Ord less) {H : List β} {n i j : Nat} {x y : β} (h : A9 less n H i) (hi : (j - 1) / 2 = i) (h0 : 0 < j) (r : j < n) (hx : H[i]? = some x) (hy : H[j]? = some y) (hl : less y x = true) (hs : ∀ c, 0 < c → c < n → (c - 1) / 2 = i → ∀ v, H[c]? = some v → less v y = false) : A9 less n (sw H i j x y) j := by
  have f := o.asym _ _ hl
  have m : i < j := by omega
  constructor
  · intro c c0 hc g u v b hv
    rw [yB hx hy] at b hv
    rw [if_neg g] at b
    by_cases e : c = j
    · subst e
      rw [if_pos hi] at b
      rw [if_pos rfl] at hv
      cases b
      cases hv
      exact f
    · rw [if_neg e] at hv
      by_cases hp : (c - 1) / 2 = i
      · rw [if_pos hp] at b
        rw [if_neg (by omega)] at hv
        cases b
        exact hs c c0 hc hp v hv
      · rw [if_neg hp] at b
        by_cases d : c = i
        · rw [if_pos d] at hv
          cases hv
          subst d
          exact h.over c0 j h0 r hi u y b hy
        · rw [if_neg d] at hv
          exact h.rest c c0 hc hp u v b hv
  · intro _ c c0 hc hp u v b hv
    rw [yB hx hy] at b hv
    rw [if_neg (by omega), if_pos hi] at b
    rw [if_neg (by omega), if_neg (by omega)] at hv
    cases b
    exact h.rest c c0 hc (by omega) _ v (by rw [hp]; exact hy) hv
/-! Lists in order, and what is alike. -/
section
variable {α : Type} {lt : α → α → Bool}
def iY (lt : α → α → Bool) (L : List α) : Prop := L.Pairwise (fun a b => lt b a = false)
/-! Stretches: what is left of each, by number, and those that are left, in whatever order. -/
end
end Mg
end Go.Proofs.YtpobkmjicbobdaaGreat
namespace Go.Proofs.YtpobkmjicbobdaaGreat
set_option maxRecDepth 100000
set_option maxHeartbeats 40000000
open Go.RowKit
variable {M:List ac} {S:List Int} {V:List (List an)} {ak am av:Option Addr} {cm cs cv nm ns nv:Nat} {q:Int} {w:World}
def rV (c:eN) (w:World) (e:Ending) (w':World):Prop:=e=.returned (.agg #[.bool c.1,.string c.2.1,iT c.2.2])∧Bl w w'
theorem po.nn {b:Nat} (h:po w (pT b) V):qN w b V:=fun i B hB=>by
 obtain ⟨b',e,n,c,d,h1⟩:=h i B hB
 cases d
 exact ⟨e,n,c,h1⟩
theorem po.some (h:po w av V) (hV:V≠[]):∃b,av=some ⟨b,0,none⟩:=by
 match V,hV,h with
 | B :: V,_,h =>
  obtain ⟨b,e,n,c,d,_⟩:=h 0 B rfl;exact ⟨b,d⟩
theorem xI (q:Int) (n nm cm b nv cv:Nat) (ak:Option Addr) (ns cs:Nat) (M:List ac) (V:List (List an)) (S:List Int) (key:ByteArray) (seq:Int) (w:World) (r:b6 0 w (pT n) nm cm (pT b) nv cv ak ns cs M V S) (htb:bf q M V S=true) (t:qN w b V) :
 Calls Tryz.prog 39 #[.agg #[iT q,sL n nm cm,sL b nv cv,.slice ak ns cs],.string key,iT seq] w (rV (dK M V key seq) w):=by
 obtain ⟨A,B,C,x,F,c0,E,u,c1,D,n2,c2,rfl,rfl,f,g⟩:=r.shareN htb t;obtain ⟨hl,m,d,e⟩:=iZ htb;have o:=(aY htb).2.2.1;have s:=r.mem.1.length;refine mM q _ _ _ _ _ _ _ _ _ _ _ _ _ _ ⟨⟨_,_,_,rfl⟩,⟨_,_,_,rfl⟩,⟨_,_,_,rfl⟩,⟨_,_,_,rfl⟩,⟨_,_,_,rfl⟩⟩ key seq _ _ _ w g (fun y k2=>?_);exact zB q n nm cm x F c0 E u c1 D n2 c2 _ ns cs M A B C S key seq y (f.keep k2) (by omega) hl.1 hl.2.1 hl.2.2 (aY htb).2.2.2.1 m d e
theorem yN (D:Nat) (g:Int) (am av ak:Option Addr) (nm cm nv cv f m:Nat) (M:List ac) (V:List (List an)) (S:List Int) (w:World) (d:b6 D w am nm cm av nv cv ak f m M V S) (htb:bf g M V S=false) :
 Calls Tryz.prog 86 #[.agg #[iT g,.slice am nm cm,.slice av nv cv,.slice ak f m]] w fun e w2=>(∃(J:Int) (F x0 x1 H E:Value),e=.returned (.tuple #[.agg #[iT J,F,x0,x1,H,E],.bool false])∧(∃a n c,F=.slice a n c)∧(∃a n c,x0=.slice a n c)∧(∃a n c,x1=.slice a n c)∧(∃a n c,H=.slice a n c)∧(∃a n c,E=.slice a n c))∧Bl w w2:=by
 have t:CG (V.length=nv):=d.levels.length;have k:Bl w w:=Below.refl _ w;by_cases hn:nv=3
 · subst hn;obtain ⟨A,B,C,r⟩:∃A B C,V=[A,B,C]:=by
    have:=t.o;match V,this with
    | [A,B,C],_=>exact ⟨A,B,C,rfl⟩
   subst r;obtain ⟨b,s,rfl,L⟩:=d.levels.form (by omega);obtain ⟨Q,a0,K,c0,hA,l0,u⟩:=d.levels.level (Below.refl _ w) 0 (by omega);obtain ⟨N,a1,I,c1,hB,l1,x⟩:=d.levels.level (Below.refl _ w) 1 (by omega);obtain ⟨O,a2,n2,c2,hC,l2,y⟩:=d.levels.level (Below.refl _ w) 2 (by omega);simp only [Ex,Ei,Er] at hA hB hC;subst hA hB hC;rw [DS] at l0;have:=qr D g am ak nm cm b s cv f m M A B C S a0 a1 a2 K c0 I c1 n2 c2 w (d.mem.1.keep k) (d.snaps.keep k) (u.keep k) (x.keep k) (y.keep k) (cell_later k l0) (cell_later k l1) (cell_later k l2);rw [htb] at this;refine this.mono ?_;rintro e w2 ⟨rfl,hb⟩;exact ⟨⟨_,_,_,_,_,_,rfl,⟨_,_,_,rfl⟩,⟨_,_,_,rfl⟩,⟨_,_,_,rfl⟩,⟨_,_,_,rfl⟩,⟨_,_,_,rfl⟩⟩,hb⟩
 · refine (tw g am av ak nm cm nv cv f m w hn).mono ?_;rintro e w2 ⟨rfl,hb⟩;exact ⟨⟨_,_,_,_,_,_,rfl,⟨_,_,_,rfl⟩,⟨_,_,_,rfl⟩,⟨_,_,_,rfl⟩,⟨_,_,_,rfl⟩,⟨_,_,_,rfl⟩⟩,hb⟩
def BZ (q:Int) (M:List ac) (V:List (List an)) (S:List Int) (key:ByteArray) (t:Int):eN:=if bf q M V S=true then dK M V key t else Bm
theorem xJ (h:vq w q am nm cm av nv cv ak ns cs M V S) (key:ByteArray) (t:Int) :
 Calls Tryz.prog 39 #[.agg #[iT q,.slice am nm cm,.slice av nv cv,.slice ak ns cs],.string key,iT t] w (rV (BZ q M V S key t) w):=by
 obtain ⟨_,d,hL,_,f,rfl⟩:=h;unfold BZ;cases htb:bf q M V S with
 | true =>
  obtain ⟨A,B,C,rfl⟩:=ia htb;obtain ⟨b,rfl⟩:=hL.some (by simp);exact xI q f nm cm b nv cv ak ns cs M _ S key t w d htb hL.nn
 | false=>exact oK q _ _ _ _ _ _ _ _ _ key t w (fun e k2=>yN 0 q _ _ _ _ _ _ _ _ _ M V S e (d.keep k2) htb)
theorem wU (h:vq w q am nm cm av nv cv ak ns cs M V S) (key:ByteArray) (t:Int) :
 Calls Tryz.prog 40 #[.agg #[iT q,.slice am nm cm,.slice av nv cv,.slice ak ns cs],.string key,iT t] w (rV (BZ q M V S key t) w):=qT 0 q _ _ _ _ _ _ _ _ _ M V S key t w h.2.1
theorem rV.as {c:eN} {d:Bool} {f:ByteArray} {b:Int} {w':World} {e:Ending} (h:rV c w e w') (hc:c=(d,f,b)):e=.returned (.agg #[.bool d,.string f,iT b])∧Bl w w':=by
 subst hc;exact h
end Go.Proofs.YtpobkmjicbobdaaGreat
