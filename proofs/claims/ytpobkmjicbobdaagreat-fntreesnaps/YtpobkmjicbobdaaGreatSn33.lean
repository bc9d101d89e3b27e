/- Walks. -/
import Derived.Test.YtpobkmjicbobdaaGreatSn31
import Derived.Test.YtpobkmjicbobdaaGreatSn32
namespace Go.Proofs.YtpobkmjicbobdaaGreat
set_option maxRecDepth 100000
set_option maxHeartbeats 40000000
open Go.RowKit
variable {A B C:List af} {M:List ac} {S:List Int} {lo:Nat} {q:Int} {v:Value} {w w':World}
theorem jK.mono {lo':Nat} {am:Option Addr} {nm cm G c:Nat} {ak:Option Addr} {ns cs gA dA:Nat} {e1 n1 d1 e2 n2 d2:Nat} (h:jK lo w am nm cm G c ak ns cs gA dA e1 n1 d1 e2 n2 d2 M A B C S) (hl:lo'≤lo):jK lo' w am nm cm G c ak ns cs gA dA e1 n1 d1 e2 n2 d2 M A B C S :=
 ⟨h.mem.mono hl,d9 h.row hl,h.rA.mono hl,h.rB,h.rC,h.sn.lower hl,h.sk⟩
theorem ol {M A' B' C':_} {ok:Bool} {e:Ending} (hlw:lo≤w.heap.size) (hg:∀w',Bl w w'→cH lo w' v) (htb:ok=true→aW q M [A',B',C'] S=true) (h:jn w.heap.size q v M A' B' C' S ok w e w'):mv lo w e w':=by
 obtain ⟨am,nm,cm,av,nv,cv,ak,ns,cs,rfl,hb,h0,h1⟩:=h;refine ⟨_,_,rfl,?_,fV.of hb⟩;cases ok with
 | false=>rw [h0 rfl];exact hg _ hb
 | true =>
  obtain ⟨G,gA,dA,e1,n1,d1,e2,n2,d2,rfl,rfl,hT⟩:=h1 rfl;exact ⟨q,am,nm,cm,G,cv,ak,ns,cs,gA,dA,e1,n1,d1,e2,n2,d2,M,A',B',C',S,rfl,hT.mono hlw,htb rfl⟩
theorem cH.below (h:cH lo w v) (hb:Bl w w'):cH lo w' v:=by
 obtain ⟨q,am,nm,cm,G,c,ak,ns,cs,gA,dA,e1,n1,d1,e2,n2,d2,M,A,B,C,S,rfl,hT,htb⟩:=h;exact ⟨q,am,nm,cm,G,c,ak,ns,cs,gA,dA,e1,n1,d1,e2,n2,d2,M,A,B,C,S,rfl,hT.below hb,htb⟩
theorem mw (htb:aW q M [A,B,C] S=true):∀Z ∈ [A,B,C],Z.length≤100∧∀r ∈ Z,1≤r.1.length∧r.1.length≤10000:=by
 have h8:ez [A,B,C] q=true:=(aY htb).2.2.2.2.2.2.2.1;unfold ez at h8;simp only [Bool.and_eq_true] at h8;intro Z hZm;simp only [List.mem_cons,List.not_mem_nil,or_false] at hZm;rcases hZm with rfl | rfl | rfl
 · exact cY h8.1 (by omega)
 · exact cY h8.2.1 (by omega)
 · exact cY h8.2.2 (by omega)
theorem se (lo:Nat) (v:Value) (lv pk:Int) (w:World) (h:cH lo w v) (hlw:lo≤w.heap.size):Calls Tryz.prog 56 #[v,iT lv,iT pk] w (mv lo w):=by
 have hg:=fun w' (hb:Bl w w')=>h.below hb
 obtain ⟨q,am,nm,cm,G,c,ak,ns,cs,gA,dA,e1,n1,d1,e2,n2,d2,M,A,B,C,S,rfl,hT,htb⟩:=h;have hsz:=mw htb;obtain ⟨⟨hlA,hlB,hlC⟩,hrun,_,_⟩:=p8 htb;have hM:=(aY htb).2.2.1;have hS:=jP htb;have hnm:nm≤1048576:=by have:=hT.mem.len;omega
 have hns:ns≤1048576:=by have:=hT.sn.length;omega
 have h150:∀Z ∈ [A,B,C],∀r ∈ Z,r.1.length≤150:=fun Z hZ r hr=>(bu (hrun Z hZ r hr)).2.1
 have hBl:=hT.rB.1.length;by_cases h0:lv=0∧1≤A.length
 · obtain ⟨rfl,hA1⟩:=h0;have hok:=zj htb hA1;exact (wh 0 q am nm cm G c ak ns cs M A B C S gA 0 A.length dA pk w hT.treeIn hnm hns hsz hT.head.1 (hT.rA.runsIn.mono (Nat.zero_le _)) hA1 (by omega) hok (uL (h150 A (by simp)) (h150 B (by simp)) (by omega))).mono (fun e w' hc=>ol hlw hg (fun ho=>oT htb hA1 ho) hc)
 · by_cases h1:lv=1∧0≤pk∧pk<(n1:Int)
   · obtain ⟨rfl,hp0,hp1⟩:=h1;obtain ⟨p,rfl⟩:=Int.eq_ofNat_of_zero_le hp0;have hp:p<B.length:=by omega
     have hok:=zi htb hp;have hs:((B.drop p).take 1).Sublist B:=(List.take_sublist _ _).trans (List.drop_sublist _ _);exact (wg 0 q am nm cm G c ak ns cs M A B C S e1 n1 d1 p w hT.treeIn hnm hns hsz hT.head.2.1 hT.rB.1 (by omega) (by omega) hok (uL (fun r hr=>h150 B (by simp) r (hs.subset hr)) (h150 C (by simp)) (by have:=hs.length_le;omega))).mono (fun e w' hc=>ol hlw hg (fun ho=>oS htb hp ho) hc)
   · exact (we 0 q am nm cm G c ak ns cs M A B C S (pT gA) (pT e1) A.length dA n1 d1 lv pk w hT.treeIn hT.head.1 hT.head.2.1 ⟨h0,h1⟩).mono (fun e w' hc=>ol hlw hg (fun ho=>by cases ho) hc)
end Go.Proofs.YtpobkmjicbobdaaGreat
