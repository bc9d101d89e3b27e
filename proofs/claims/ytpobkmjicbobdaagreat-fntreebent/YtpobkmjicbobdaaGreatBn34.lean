/- Walks. -/
import Derived.Test.YtpobkmjicbobdaaGreatBn33
namespace Go.Proofs.YtpobkmjicbobdaaGreat
set_option maxRecDepth 100000
set_option maxHeartbeats 40000000
open Go.RowKit
variable {D L:List ac} {X c cd gd lo n nb:Nat} {a:Option Addr} {q:Int} {u2 u3:Value} {w wr:World}
def BW (lo:Nat) (q:Int) (a1:Option Addr) (nm c1:Nat) (av:Option Addr) (nv cv:Nat) (ak:Option Addr) (ns cs:Nat) (M K:List ac) (w:World) (e:Ending) (w':World):Prop :=
 (fZ q M K=true→∃a n c,e=.returned (.tuple #[.agg #[iT (q+K.length),.slice a n c,.slice av nv cv,.slice ak ns cs],.bool true])∧eu w.heap.size w' a n c ((fa q K).foldl d5 M)∧Bl w w'∧dV w' lo a n c ((fa q K).foldl d5 M))∧(fZ q M K=false→e=.returned (.tuple #[.agg #[iT q,.slice a1 nm c1,.slice av nv cv,.slice ak ns cs],.bool false])∧Bl w w')
theorem ua {K:List ac} {w':World} {e:Ending} (h:jk q K n w e w'):((eO q K=true∧1≤n∧n≤12∧∃g c,e=.returned (.tuple #[sL g n c,.bool true])∧ay w' w.heap.size g n c (fa q K))∨((eO q K=false∨n=0∨12<n)∧∃a m c L,e=.returned (.tuple #[.slice a m c,.bool false])∧aj w' a m c L))∧Bl w w':=by
 obtain ⟨v,ok,he,h1,h2,h3⟩:=h;refine ⟨?_,h3⟩;cases hs:eO q K with
 | true =>
  obtain ⟨⟨g,c,rfl,h4⟩,rfl⟩:=h1 hs;by_cases hn:1≤n∧n≤12
  · exact .inl ⟨rfl,hn.1,hn.2,g,c,by rw [he];simp [hn.1,hn.2],h4⟩
  · refine .inr ⟨.inr (by omega),some ⟨g,0,none⟩,n,c,_,?_,h4.entsAt⟩;rw [he,show (decide (1≤n) && decide (n≤12))=false by simp;omega]
 | false =>
  obtain ⟨rfl,a,m,c,L,rfl,hL⟩:=h2 hs;exact .inr ⟨.inl rfl,a,m,c,L,he,hL⟩
theorem xF (M:List ac) {D:List ac} {i:Nat} {e:ac} (h:D[i]?=some e):(D.take (i+1)).foldl d5 M=d5 ((D.take i).foldl d5 M) e:=by
 rw [List.take_add_one,h];simp
structure xY (lo:Nat) (w wr:World) (X gd nb cd:Nat) (D:List ac) (q:Int) (a:Option Addr) (n c:Nat) (L:List ac) (u2 u3:Value):Prop where
 low:Bl w wr
 bx:ar wr X (iT q) (.slice a n c) u2 u3
 br:ar wr (X+1) (iT 0) nZ nZ nZ
 mem:dV wr lo a n c L
 dn:ay wr 0 gd nb cd D
 ne:(∀x,a=some x→x.block≠X∧x.block≠X+1)∧gd≠X∧gd≠X+1
 hx:w.heap.size≤X
 hlo:lo≤w.heap.size
theorem xY.below {ws:World} (h:xY lo w wr X gd nb cd D q a n c L u2 u3) (hb:Bl wr ws):xY lo w ws X gd nb cd D q a n c L u2 u3 :=
 ⟨h.low.trans (hb.mono h.low.size),h.bx.keep hb,h.br.keep hb,h.mem.below hb,h.dn.below hb,h.ne,h.hx,h.hlo⟩
theorem xY.held {i:Nat} {s t:ByteArray} {q0 d m:Int} (h:xY lo w wr X gd nb cd D q a n c L u2 u3) (hg:D[i]?=some (s,q0,d,t,m)):wr.cell? ⟨gd,i*5,none⟩=some (.string s)∧wr.cell? ⟨gd,i*5+1,none⟩=some (iT q0)∧wr.cell? ⟨gd,i*5+2,none⟩=some (iT d)∧wr.cell? ⟨gd,i*5+3,none⟩=some (.string t)∧wr.cell? ⟨gd,i*5+4,none⟩=some (iT m)∧gd<wr.heap.size∧X<wr.heap.size:=by
 obtain ⟨c0,c1,c2,c3,c4⟩:=h.dn.at5 hg;exact ⟨c0,c1,c2,c3,c4,h.dn.lt.2,h.bx.lt⟩
theorem xY.put {base g2 n2 c2:Nat} {L2:List ac} (h:xY lo w wr X gd nb cd D q a n c L u2 u3) (hO:ay wr base g2 n2 c2 L2) (hb:X+1<base):xY lo w (wr.setCell ⟨X,1,none⟩ (sL g2 n2 c2)) X gd nb cd D q (pT g2) n2 c2 L2 u2 u3:=by
 have hl:=hO.lt.1;exact ⟨h.low.setCell (p:=⟨X,1,none⟩) h.hx _,h.bx.set1 _,h.br.other (by omega) _,(dV.set (p:=⟨X,1,none⟩) (.some (hO.mono (by have:=h.hx;have:=h.hlo;omega))) (fun x e=>by cases e;show X≠g2;omega) _),h.dn.setCell (p:=⟨X,1,none⟩) (fun e=>h.ne.2.1 e.symm) _,⟨fun x e=>by cases e;exact ⟨by show g2≠_;omega,by show g2≠_;omega⟩,h.ne.2⟩,h.hx,h.hlo⟩
theorem ud {lo2:Nat} (lo:Nat) (q:Int) (a1:Option Addr) (nm c1:Nat) (av:Option Addr) (nv cv:Nat) (ak:Option Addr) (ns cs:Nat) (M:List ac) (V:List (List ag)) (S:List Int) (ab:Option Addr) (nb cb:Nat) (K:List ac) (w:World) (hT:bf lo2 w a1 nm c1 av nv cv ak ns cs M V S) (hlo:lo≤w.heap.size) (hO:dV w lo a1 nm c1 M) (hK:aj w ab nb cb K) (hnb:nb≤1048576) (hnm:nm≤60) (hq0:0≤q) (hq1:q≤100000) :
 Calls Tryz.prog 98 #[.agg #[iT q,.slice a1 nm c1,.slice av nv cv,.slice ak ns cs],.slice ab nb cb] w (BW lo q a1 nm c1 av nv cv ak ns cs M K w):=by
 obtain ⟨X,hX⟩:=aS w.heap.size;obtain ⟨W,hW⟩:=aS ((w.alloc (.cells #[iT q,.slice a1 nm c1,.slice av nv cv,.slice ak ns cs] 31)).alloc (.cells #[iT 0,nZ,nZ,nZ] 31));have kW:Bl w W:=by rw [hW];exact bZ.alloc (by simp) _
 have bx:ar W X (iT q) (.slice a1 nm c1) (.slice av nv cv) (.slice ak ns cs):=by rw [hW,hX];exact (ar.new _ _ _ _ _ _).alloc _
 have br:ar W (X+1) (iT 0) nZ nZ nZ:=by
  have:=ar.new (w.alloc (.cells #[iT q,.slice a1 nm c1,.slice av nv cv,.slice ak ns cs] 31)) 31 (iT 0) nZ nZ nZ;rw [World.size_alloc] at this;rw [hW,hX];exact this
 have HX:Hid (X=w.heap.size):=hX;have HSZ:Hid (W.heap.size=X+1+1):=by show _=_;rw [hW,hX];simp
 have K0:Hid (Bl w W):=kW;have HT:=b6 hT;have HKL:Hid (K.length=nb):=hK.length;have HML:Hid (M.length=nm):=hO.len;have HOM:=b6 hO;have CT:Hid (Calls Tryz.prog 158 #[.slice ab nb cb,iT q] W (jk q K nb W)):=vV ab nb cb K q W (hK.keep kW) hnb hq0 hq1;clear kW hT hK hO;have e1:IntKind.i64.wrap ((nm:Int)+(nb:Int))=(nm:Int)+(nb:Int):=by rw [IntWalk.i64_left];unfold wrap64;omega
 have e2:IntKind.i64.wrap (q+(nb:Int))=q+(nb:Int):=by rw [IntWalk.i64_left];unfold wrap64;omega
 go_enter Tryz.func98,Tryz.ntmps98
 go_upto_region 1 with fail
 rw [← hX,← hW];clear hX hW;have x0:=bx.c0;have x1:=bx.c1;have x2:=bx.c2;have x3:=bx.c3;have xf:=bx.fz;have xz:=bx.lt;go_wp2_with fail
 clear x0 x1 x2 x3 xf xz;refine CT.out.mono ?_;rintro e w1 hst;obtain ⟨hst,hb1⟩:=ua hst;have K1:Hid (Bl w w1):=K0.out.trans (hb1.mono K0.out.size);have KW1:Hid (Bl W w1):=hb1;have bx1:=bx.keep hb1;have br1:=br.keep hb1;clear hb1 bx br CT;rcases hst with ⟨hsB,hn1,hn12,gd,cd,rfl,hD⟩ | ⟨hno,ad,md,cd,_,rfl,_⟩
 rotate_left
 · have HNO:Hid (fZ q M K=false):=by
    show _=_
    have:=HKL.out;unfold fZ;rcases hno with h | h | h
    · rw [h];simp
    · simp [show ¬1≤K.length by omega]
    · simp [show ¬K.length≤12 by omega]
   have HR:Hid (ar w1 (X+1) (iT 0) nZ nZ nZ):=br1;have x0:=bx1.c0;have x1:=bx1.c1;have x2:=bx1.c2;have x3:=bx1.c3;have xf:=bx1.fz;have xz:=bx1.lt;have r0:=br1.c0;have r1:=br1.c1;have r2:=br1.c2;have r3:=br1.c3;have rf:=br1.fz;have rz:=br1.lt;clear bx1 br1;go_wp2;refine bodyPost_ret (v:=.tuple #[.agg #[iT q,.slice a1 nm c1,.slice av nv cv,.slice ak ns cs],.bool false]) ?_ rfl (show BW lo q a1 nm c1 av nv cv ak ns cs M K w _ _ from ⟨(fun h=>by rw [HNO.out] at h;cases h),fun _=>⟨rfl,?_⟩⟩)
   · have e:=((((HR.out.set0 (iT q)).set1 (.slice a1 nm c1)).set2 (.slice av nv cv)).set3 (.slice ak ns cs));simp [results,Tryz.results98,go_sem,e.c0,e.c1,e.c2,e.c3]
   · have hx:w.heap.size≤X+1:=by have:=HX.out;omega
     exact (gG K1.out hx _ _ _ _)
 have HD:Hid (ay w1 W.heap.size gd nb cd (fa q K)):=hD;have HSB:Hid (eO q K=true):=hsB;clear hD hsB;by_cases h60:60<nm+nb
 · have h60I:(nm:Int)+(nb:Int) > 60:=by omega
   have h60J:(60:Int)<(nm:Int)+(nb:Int):=by omega
   have HNO:Hid (fZ q M K=false):=by show _=_;have:=HKL.out;have:=HML.out;unfold fZ;simp [show ¬M.length+K.length≤60 by omega]
   have HR:Hid (ar w1 (X+1) (iT 0) nZ nZ nZ):=br1;have x0:=bx1.c0;have x1:=bx1.c1;have x2:=bx1.c2;have x3:=bx1.c3;have xf:=bx1.fz;have xz:=bx1.lt;have r0:=br1.c0;have r1:=br1.c1;have r2:=br1.c2;have r3:=br1.c3;have rf:=br1.fz;have rz:=br1.lt;clear bx1 br1;go_wp2;refine bodyPost_ret (v:=.tuple #[.agg #[iT q,.slice a1 nm c1,.slice av nv cv,.slice ak ns cs],.bool false]) ?_ rfl (show BW lo q a1 nm c1 av nv cv ak ns cs M K w _ _ from ⟨(fun h=>by rw [HNO.out] at h;cases h),fun _=>⟨rfl,?_⟩⟩)
   · have e:=((((HR.out.set0 (iT q)).set1 (.slice a1 nm c1)).set2 (.slice av nv cv)).set3 (.slice ak ns cs));simp [results,Tryz.results98,go_sem,e.c0,e.c1,e.c2,e.c3]
   · have hx:w.heap.size≤X+1:=by have:=HX.out;omega
     exact (gG K1.out hx _ _ _ _)
 have h60I:¬(nm:Int)+(nb:Int) > 60:=by omega
 have h60J:¬(60:Int)<(nm:Int)+(nb:Int):=by omega
 have HYES:Hid (fZ q M K=true):=by
  show _=_
  have h1:=HKL.out;have h2:=HML.out;have h3:=HSB.out;unfold fZ;rw [h3];simp;omega
 have ST:Hid (xY lo w w1 X gd nb cd (fa q K) (q) a1 (nm) c1 (M) (.slice av nv cv) (.slice ak ns cs)):=by
  have hd:=HD.out.lt.1;have hx:=HX.out;have hs:=HSZ.out;exact ⟨K1.out,bx1,br1,(HOM.out.below K0.out).below KW1.out,HD.out.mono (Nat.zero_le _),⟨fun x e=>by have hl:=(HOM.out.lt x e).2;exact ⟨by omega,by omega⟩,by omega,by omega⟩,by omega,hlo⟩
 have x0:=bx1.c0;have x1:=bx1.c1;have x2:=bx1.c2;have x3:=bx1.c3;have xf:=bx1.fz;have xz:=bx1.lt;clear bx1 br1;go_wp2_with fail
 clear x0 x1 x2 x3 xf xz;go_loopw [8] (fun iv wr=>∃(i:Nat) (a:Option Addr) (c:Nat),i≤nb∧iv=iT i∧(0<i→∀x,a=some x→w.heap.size≤x.block)∧xY lo w wr X gd nb cd (fa q K) (q) a (nm+i) c (((fa q K).take i).foldl d5 M) (.slice av nv cv) (.slice ak ns cs)) (fun iv _=>nb - (intOf iv).toNat)
 case atStart=>exact ⟨0,a1,c1,Nat.zero_le _,rfl,fun h=>absurd h (Nat.lt_irrefl 0),ST.out⟩
 case round =>
  clear ST HD K1 KW1 HOM HSB;obtain ⟨i,a,c,hin,rfl,hge,hst⟩:=hrel;have HGE:=b6 hge;have HS:Hid (xY lo w wr X gd nb cd (fa q K) (q) a (nm+i) c (((fa q K).take i).foldl d5 M) (.slice av nv cv) (.slice ak ns cs)):=hst;clear hst;by_cases hlt:i<nb
  · have hltI:(i:Int)<(nb:Int):=by omega
    obtain ⟨⟨s,q0,d,t,m⟩,hg⟩:∃e,(fa q K)[i]?=some e:=⟨_,List.getElem?_eq_getElem (by rw [fC,HKL.out];exact hlt)⟩;have HG:Hid ((fa q K)[i]?=some (s,q0,d,t,m)):=hg;have HEW:Hid (ec (s,q0,d,t,m)):=HS.out.dn.entsAt.ents _ (List.mem_of_getElem? hg);obtain ⟨LL,hLL⟩:=aS (((fa q K).take i).foldl d5 M);have HLL:Hid (LL=((fa q K).take i).foldl d5 M):=hLL;have k0:xY lo w wr.drew X gd nb cd (fa q K) (q) a (nm+i) c (LL) (.slice av nv cv) (.slice ak ns cs):=by rw [hLL];exact HS.out.below (Below.refl _ wr).drew
    clear hg hLL HS;go_upto_region 7 with fail
    refine wp_region_held_drew (S:=(fun w'=>w'.cell? ⟨gd,i*5,none⟩=some (.string s)∧w'.cell? ⟨gd,i*5+1,none⟩=some (iT q0)∧w'.cell? ⟨gd,i*5+2,none⟩=some (iT d)∧w'.cell? ⟨gd,i*5+3,none⟩=some (.string t)∧w'.cell? ⟨gd,i*5+4,none⟩=some (iT m)∧gd<w'.heap.size∧X<w'.heap.size)) (by kernel_rfl) (k0.held HG.out) (fun aa=>?_);generalize wr.drew=wd at k0 aa ⊢;refine aO 0 1 aa ?_;refine aO 2 4 aa ?_;refine aI 1 fun K hK=>?_
    have q1:=k0.bx.c1;have qz:=k0.bx.lt;go_simp;clear q1 qz;refine hK.out _ _ (k0.held HG.out) (fun aa=>?_);clear hK K;(try go_frame);refine aI 6 fun K hK=>?_
    go_simp;refine (yw a (nm+i) c LL s t q0 d m _ k0.mem (by omega) HEW.out).mono ?_;rintro e w2 ⟨g2,c2,rfl,hO2,hb2⟩;have k2:=k0.below hb2;go_wp2_with fail
    refine hK.out _ _ (k2.held HG.out) (fun aa=>?_);clear hK K;(try go_frame);refine aO 7 1 aa ?_;refine aI 8 fun K hK=>?_
    have q1:=k2.bx.c1;have qf:=k2.bx.fz;have qz:=k2.bx.lt;go_simp;have HG2:Hid (w.heap.size≤g2):=by have h1:=hO2.lt.1;have h2:=k0.bx.lt;have h3:=HX.out;show _≤_;omega
    have ks:=k2.put (g2:=g2) (n2:=nm+i+1) (c2:=c2) hO2 k0.br.lt;clear q1 qf qz;refine hK.out _ _ (ks.held HG.out) (fun aa=>?_);clear hK K;(try go_frame);refine dN ?_;generalize w2.setCell ⟨X,1,none⟩ (sL g2 (nm+i+1) c2)=w9 at ks ⊢;have KS:Hid (xY lo w w9 X gd nb cd (fa q K) (q) (pT g2) (nm+i+1) c2 (d5 LL (s,q0,d,t,m)) (.slice av nv cv) (.slice ak ns cs)):=ks;clear ks k2 k0 hO2 hb2 aa;go_wp2;go_roundw
    case rel =>
     refine ⟨i+1,some ⟨g2,0,none⟩,c2,by omega,by go_num,fun _ x e=>by cases e;exact HG2.out,?_⟩;have h:=KS.out;rw [HLL.out,← xF M HG.out] at h;exact h
    case measure=>simp [intOf];omega
  · have hltI:¬(i:Int)<(nb:Int):=by omega
    obtain rfl:i=nb:=by omega
    have hfull:(fa q K).take i=fa q K:=List.take_of_length_le (by rw [fC,HKL.out];omega);have HF:Hid (dV wr lo a (nm+i) c ((fa q K).foldl d5 M)):=by have h:=HS.out.mem;rw [hfull] at h;exact h
    have hbx:=HS.out.bx;have hbr:=HS.out.br;have HB:Hid (Bl w wr):=HS.out.low;have HNE:Hid (∀x,a=some x→x.block≠X∧x.block≠X+1):=HS.out.ne.1;clear HS hfull;have x0:=hbx.c0;have x1:=hbx.c1;have x2:=hbx.c2;have x3:=hbx.c3;have xf:=hbx.fz;have xz:=hbx.lt;obtain ⟨w3,hw3⟩:=aS (wr.setCell ⟨X,0,none⟩ (iT (q+(i:Int))));have hx0:=HX.out;have bx3:ar w3 X (iT (q+(i:Int))) (.slice a (nm+i) c) (.slice av nv cv) (.slice ak ns cs):=by rw [hw3];exact hbx.set0 _
    have br3:ar w3 (X+1) (iT 0) nZ nZ nZ:=by rw [hw3];exact hbr.other (by omega) _
    have HF3:Hid (dV w3 lo a (nm+i) c ((fa q K).foldl d5 M)):=by rw [hw3];exact HF.out.set (p:=⟨X,0,none⟩) (fun x e h=>(HNE.out x e).1 h.symm) _
    have HB3:Hid (Bl w w3):=by rw [hw3];exact HB.out.setCell (p:=⟨X,0,none⟩) (by show _≤X;omega) _
    clear hx0;go_upto_region 9 with fail
    rw [← hw3];clear hw3 x0 x1 x2 x3 xf xz hbx hbr HF HB;have x0:=bx3.c0;have x1:=bx3.c1;have x2:=bx3.c2;have x3:=bx3.c3;have xf:=bx3.fz;have xz:=bx3.lt;have r0:=br3.c0;have r1:=br3.c1;have r2:=br3.c2;have r3:=br3.c3;have rf:=br3.fz;have rz:=br3.lt;have HR:Hid (ar w3 (X+1) (iT 0) nZ nZ nZ):=br3;clear bx3 br3;go_wp2;have hkl:=HKL.out;have hx:w.heap.size≤X+1:=by have:=HX.out;omega
    refine bodyPost_ret (v:=.tuple #[.agg #[iT (q+(i:Int)),.slice a (nm+i) c,.slice av nv cv,.slice ak ns cs],.bool true]) ?_ rfl (show BW lo q a1 nm c1 av nv cv ak ns cs M K w _ _ from ⟨fun _=>⟨_,_,_,by rw [hkl],?_,(gG HB3.out hx _ _ _ _),?_⟩,fun h=>by rw [HYES.out] at h;cases h⟩)
    · have e:=((((HR.out.set0 (iT (q+(i:Int)))).set1 (.slice a (nm+i) c)).set2 (.slice av nv cv)).set3 (.slice ak ns cs));simp [results,Tryz.results98,go_sem,e.c0,e.c1,e.c2,e.c3]
    · have hn:∀o x,a=some x→(⟨X+1,o,none⟩:Addr).block≠x.block:=fun _ x e h=>(HNE.out x e).2 h.symm
      have hpos:0<i:=by omega
      exact ⟨(dV.inl ((((HF3.out.set (hn 0) _).set (hn 1) _).set (hn 2) _).set (hn 3) _)).1,fun x e _=>HGE.out hpos x e⟩
    · have hn:∀o x,a=some x→(⟨X+1,o,none⟩:Addr).block≠x.block:=fun _ x e h=>(HNE.out x e).2 h.symm
      exact (((HF3.out.set (hn 0) _).set (hn 1) _).set (hn 2) _).set (hn 3) _
theorem cF (R P:Nat) (a:Option Addr) (len cap:Nat) (n:Int) (w:World) (h:aW w R a len cap P) (hP:P<100000) (hn:n≤1000000) :
 Calls Tryz.prog 75 #[.pointer (pT R),iT n] w fun e w'=>∃q:Int,e=.returned (iT q)∧AW n q∧aW w' R a len cap (P+1)∧w.grownBy w' (some R):=by
 have c0:=h.c0;have c1:=h.c1;have f1:=h.f1;have few:=h.few;have H:=b6 h;clear h;by_cases h1:n<1
 · go_enter Tryz.func75,Tryz.ntmps75
   go_wp2;go_ret;exact ⟨0,rfl,⟨by omega,fun h=>by omega⟩,H.out.next,iH w R _⟩
 by_cases h2:len=0
 · subst h2;go_enter Tryz.func75,Tryz.ntmps75
   go_wp2;go_ret;exact ⟨0,rfl,⟨by omega,fun h=>by omega⟩,H.out.next,iH w R _⟩
 obtain ⟨b,off,rfl,hbR,hbw,hbytes⟩:∃b off,a=some ⟨b,off,none⟩∧b≠R∧b<w.heap.size∧∀i,i<len→∃z:Nat,z≤255∧w.cell? ⟨b,off+i,none⟩=some (.int .u8 z):=by
  rcases H.out.bytes with h0 | h0
  · exact absurd h0 h2
  · exact h0
 have HB:Hid (∀i,i<len→∃z:Nat,z≤255∧w.cell? ⟨b,off+i,none⟩=some (.int .u8 z)):=hbytes;clear hbytes;have hl0:((len:Int) == 0)=false:=by simpa using h2
 by_cases h3:P<len
 · obtain ⟨z,hz,hcz⟩:=HB.out P h3;have hcz':(w.setCell ⟨R,1,none⟩ (iT ((P:Int)+1))).cell? ⟨b,off+P,none⟩=some (.int .u8 z):=by rw [World.cell?_setCell_other _ _ _ _ (fun e=>hbR (congrArg Addr.block e).symm)];exact hcz
   go_enter Tryz.func75,Tryz.ntmps75
   go_wp2;go_ret;exact ⟨_,rfl,⟨Int.emod_nonneg _ (by omega),fun _=>Int.emod_lt_of_pos _ (by omega)⟩,H.out.next,iH w R _⟩
 · have hm1:P % len<len:=Nat.mod_lt _ (by omega);have hm2:(P*7+3) % len<len:=Nat.mod_lt _ (by omega);obtain ⟨z,hz,hcz⟩:=HB.out (P % len) hm1;obtain ⟨y,hy,hcy⟩:=HB.out ((P*7+3) % len) hm2;have hcz':(w.setCell ⟨R,1,none⟩ (iT ((P:Int)+1))).cell? ⟨b,off+P % len,none⟩=some (.int .u8 z):=by rw [World.cell?_setCell_other _ _ _ _ (fun e=>hbR (congrArg Addr.block e).symm)];exact hcz
   have hcy':(w.setCell ⟨R,1,none⟩ (iT ((P:Int)+1))).cell? ⟨b,off+(P*7+3) % len,none⟩=some (.int .u8 y):=by rw [World.cell?_setCell_other _ _ _ _ (fun e=>hbR (congrArg Addr.block e).symm)];exact hcy
   have hlp:(0:Int)<(len:Int):=by omega
   have hi0:(0:Int)≤(P:Int) % (len:Int):=Int.emod_nonneg _ (by omega);have hi1:(P:Int) % (len:Int)<(len:Int):=Int.emod_lt_of_pos _ hlp;have hj0:(0:Int)≤((P:Int)*7+3) % (len:Int):=Int.emod_nonneg _ (by omega);have hj1:((P:Int)*7+3) % (len:Int)<(len:Int):=Int.emod_lt_of_pos _ hlp;go_enter Tryz.func75,Tryz.ntmps75
   go_wp2_with fail
   go_quiet (fail)
   go_wp2;go_ret;exact ⟨_,rfl,yQ z y P len n hz hy hP (by omega),aW.below H.out.next (below_drewN (Below.refl _ _) _),ae (iH w R _) (aL (below_drewN (Below.refl _ _) _))⟩
theorem dX (Q:Int→Prop) (R P:Nat) (a:Option Addr) (len cap:Nat) (b off m c:Nat) (w:World) (h:aW w R a len cap P) (hP:P<100000) (hm1:1≤m) (hm2:m≤100) (hbR:b≠R) (hbw:b<w.heap.size)
 (hc:∀i,i<m→∃z:Int,w.cell? ⟨b,off+i,none⟩=some (iT z)∧Q z) :
 Calls Tryz.prog 106 #[.pointer (pT R),sO b off m c] w fun e w'=>∃z:Int,e=.returned (iT z)∧Q z∧aW w' R a len cap (P+1)∧w.grownBy w' (some R):=by
 have HC:=b6 hc;clear hc;go_enter Tryz.func106,Tryz.ntmps106
 go_wp2_with fail
 refine (cF R P a len cap _ _ h hP (by omega)).mono ?_;rintro e w1 ⟨q,rfl,hq,hR1,hg1⟩;obtain ⟨k,rfl⟩:=Int.eq_ofNat_of_zero_le hq.1;have hk:k<m:=by have:=hq.2 (by omega);omega
 obtain ⟨z,hz,hQ⟩:=HC.out k hk;have hz1:w1.cell? ⟨b,off+k,none⟩=some (iT z):=(ah hg1 (x:=⟨b,off+k,none⟩) hbw hbR).trans hz;clear hz hq;go_wp2;go_ret;exact ⟨z,rfl,hQ,hR1,hg1⟩
theorem rk (Q:ByteArray→Prop) (R P:Nat) (a:Option Addr) (len cap:Nat) (b off m c:Nat) (w:World) (h:aW w R a len cap P) (hP:P<100000) (hm1:1≤m) (hm2:m≤100) (hbR:b≠R) (hbw:b<w.heap.size)
 (hc:∀i,i<m→∃z:ByteArray,w.cell? ⟨b,off+i,none⟩=some (.string z)∧Q z) :
 Calls Tryz.prog 164 #[.pointer (pT R),sO b off m c] w fun e w'=>∃z:ByteArray,e=.returned (.string z)∧Q z∧aW w' R a len cap (P+1)∧w.grownBy w' (some R):=by
 have HC:=b6 hc;clear hc;go_enter Tryz.func164,Tryz.ntmps164
 go_wp2_with fail
 refine (cF R P a len cap _ _ h hP (by omega)).mono ?_;rintro e w1 ⟨q,rfl,hq,hR1,hg1⟩;obtain ⟨k,rfl⟩:=Int.eq_ofNat_of_zero_le hq.1;have hk:k<m:=by have:=hq.2 (by omega);omega
 obtain ⟨z,hz,hQ⟩:=HC.out k hk;have hz1:w1.cell? ⟨b,off+k,none⟩=some (.string z):=(ah hg1 (x:=⟨b,off+k,none⟩) hbw hbR).trans hz;clear hz hq;go_wp2;go_ret;exact ⟨z,rfl,hQ,hR1,hg1⟩
theorem kK (w:World) (t:TypeId) (l:List ByteArray) (Q:ByteArray→Prop) (hQ:∀s ∈ l,Q s):∀i,i<l.length→∃z:ByteArray,(w.alloc (.cells (l.map Value.string).toArray t)).cell? ⟨w.heap.size,0+i,none⟩=some (.string z)∧Q z:=by
 intro i hi;refine ⟨l[i],?_,hQ _ (List.getElem_mem hi)⟩;rw [Nat.zero_add,World.cell?_alloc_new];simp [hi]
theorem dR (w:World) (t:TypeId) (l:List Int) (Q:Int→Prop) (hQ:∀s ∈ l,Q s):∀i,i<l.length→∃z:Int,(w.alloc (.cells (l.map iT).toArray t)).cell? ⟨w.heap.size,0+i,none⟩=some (iT z)∧Q z:=by
 intro i hi;refine ⟨l[i],?_,hQ _ (List.getElem_mem hi)⟩;rw [Nat.zero_add,World.cell?_alloc_new];simp [hi]
theorem yM (w:World) (a:Option Addr) (len cap:Nat) (t:TypeId) (few:len≤2000) (hb:len=0∨∃b off,a=some ⟨b,off,none⟩∧b<w.heap.size∧∀i,i<len→∃z:Nat,z≤255∧w.cell? ⟨b,off+i,none⟩=some (.int .u8 z)) :
 aW (w.alloc (.cells #[.slice a len cap,iT 0] t)) w.heap.size a len cap 0:=by
 refine ⟨by simp,by simp,by simp,few,fun o=>by simp,?_⟩;rcases hb with h0 | ⟨b,off,ha,hbw,hc⟩
 · exact Or.inl h0
 · refine Or.inr ⟨b,off,ha,by omega,by simp;omega,fun i hi=>?_⟩;obtain ⟨z,hz,hcc⟩:=hc i hi;exact ⟨z,hz,cell_later bZ hcc⟩
theorem oM (a:Option Addr) (len cap:Nat) (w:World) (hl:len≤cap) (hcap:cap≤maxLen) (hb:len=0∨∃b off,a=some ⟨b,off,none⟩∧b<w.heap.size∧∀i,i<len→∃z:Nat,z≤255∧w.cell? ⟨b,off+i,none⟩=some (.int .u8 z)) :
 Calls Tryz.prog 73 #[.slice a len cap] w fun e w'=>∃len',e=.returned (.pointer (some ⟨w.heap.size,0,none⟩))∧aW w' w.heap.size a len' cap 0∧Bl w w'∧w'.heap.size=w.heap.size+1:=by
 unfold maxLen at hcap;have HB:=b6 hb;clear hb;by_cases h2:2000<len
 · obtain ⟨b,off,rfl,hbw,hby⟩:∃b off,a=some ⟨b,off,none⟩∧b<w.heap.size∧∀i,i<len→∃z:Nat,z≤255∧w.cell? ⟨b,off+i,none⟩=some (.int .u8 z):=by
    rcases HB.out with h0 | h0
    · omega
    · exact h0
   have HBY:Hid (∀i,i<len→∃z:Nat,z≤255∧w.cell? ⟨b,off+i,none⟩=some (.int .u8 z)):=hby
   clear hby
   have hcI:(2000:Int)≤(cap:Int):=by omega
   go_enter Tryz.func73,Tryz.ntmps73
   go_wp2;go_ret;exact ⟨2000,rfl,yM w _ 2000 cap _ (by omega) (Or.inr ⟨b,off,rfl,hbw,fun i hi=>HBY.out i (by omega)⟩),bZ,by simp⟩
 · go_enter Tryz.func73,Tryz.ntmps73
   go_wp2;go_ret;exact ⟨len,rfl,yM w _ len cap _ (by omega) HB.out,bZ,by simp⟩
end Go.Proofs.YtpobkmjicbobdaaGreat
