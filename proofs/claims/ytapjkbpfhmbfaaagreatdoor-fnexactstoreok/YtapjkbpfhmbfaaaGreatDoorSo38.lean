/-
  What the document's l1Max and l6Mem answer, by walks of their Go text.
  Shorter words for a region that draws its order: several operations taken in one line (tkr), a step (rd1, rd2, rd3), the end (dN), the beginning (drw); no statement of the program stands here.
-/
import Derived.Test.YtapjkbpfhmbfaaaGreatDoorSo37
import Derived.Test.YtapjkbpfhmbfaaaGreatDoorSo01
import Derived.Test.YtapjkbpfhmbfaaaGreatDoorSo03
namespace Go.Proofs.YtapjkbpfhmbfaaaGreatDoor
open Go.RowKit
set_option maxRecDepth 100000
set_option maxHeartbeats 4000000
theorem specMax (a b : Int) (w : World) : Calls Tryz.prog 104 #[.int .i64 a, .int .i64 b] w fun e w' => e = .returned (.int .i64 (max a b)) ∧ w' = w := by
  by_cases h : b < a
  · have e : max a b = a := by omega
    rw [e]
    go_enter Tryz.func104, Tryz.ntmps104
    go_wp2
    go_ret
    exact ⟨rfl, rfl⟩
  · have e : max a b = b := by omega
    rw [e]
    go_enter Tryz.func104, Tryz.ntmps104
    go_wp2
    go_ret
    exact ⟨rfl, rfl⟩
theorem late_snoc_yes {q : Int} {L : List EntD} {k : Nat} {e : EntD} (h : L[k]? = some e) (hq : q < e.2.1) : lateL q (L.take (k + 1)) = lateL q (L.take k) ++ [e] := by
  unfold lateL
  rw [List.take_add_one, h, List.filter_append]
  simp [lateE, hq]
theorem late_snoc_no {q : Int} {L : List EntD} {k : Nat} {e : EntD} (h : L[k]? = some e) (hq : ¬ q < e.2.1) : lateL q (L.take (k + 1)) = lateL q (L.take k) := by
  unfold lateL
  rw [List.take_add_one, h, List.filter_append]
  simp [lateE, hq]
theorem late_len (q : Int) (P : List (List EntD)) : (P.map (lateL q)).flatten.length ≤ P.flatten.length := by
  induction P with
  | nil => simp
  | cons L P ih =>
    have := List.length_filter_le (lateE q) L
    simp only [List.map_cons, List.flatten_cons, List.length_append]
    unfold lateL at ih ⊢
    omega
theorem late_part {q : Int} {P : List (List EntD)} {i k : Nat} {L : List EntD} (h : P[i]? = some L) : (((P.take i).map (lateL q)).flatten ++ lateL q (L.take k)).length ≤ P.flatten.length := by
  have h1 := mFlat_le (k := k) h
  have h2 := late_len q (P.take i)
  have h3 := List.length_filter_le (lateE q) (L.take k)
  rw [List.length_append] at h1 ⊢
  unfold lateL at h2 ⊢
  omega
theorem specMem (a : Option Addr) (n c : Nat) (P : List (List EntD)) (q : Int) (w : World) (hP : PartsAt w a n c P) (hsum : P.flatten.length ≤ 1048576) :
    Calls Tryz.prog 81 #[.slice a n c, .int .i64 q] w fun e w' => ∃ g cg, e = .returned (.tuple #[.slice (some ⟨g, 0, none⟩) (P.map (lateL q)).flatten.length cg, .int .i64 (lastQ q P)]) ∧ OwnE w' w.heap.size g (P.map (lateL q)).flatten.length cg (sortE (P.map (lateL q)).flatten) ∧ Below w.heap.size w w' := by
  have HP : Hid (PartsAt w a n c P) := hP
  have HLN : Hid (P.length = n) := hP.length
  have HSU : Hid (P.flatten.length ≤ 1048576) := hsum
  have hroom := hP.room
  have hbig := hP.big
  unfold maxLen at hbig
  clear hP hsum
  obtain ⟨N, hN⟩ : ∃ N, (P.map (lateL q)).flatten.length = N := ⟨_, rfl⟩
  have HN : Hid ((P.map (lateL q)).flatten.length = N) := hN
  obtain ⟨LQ, hLQ⟩ : ∃ LQ, LQ = lastQ q P := ⟨_, rfl⟩
  have HLQ : Hid (LQ = lastQ q P) := hLQ
  rw [hN, ← hLQ]
  clear hN hLQ
  go_enter Tryz.func81, Tryz.ntmps81
  go_wp2
  go_loopw [6, 7, 8] (fun ov lv iv wr => ∃ (i g cg m : Nat) (F : List EntD), i ≤ n ∧ iv = .int .i64 i ∧ F = ((P.take i).map (lateL q)).flatten ∧ F.length = m ∧ ov = .slice (some ⟨g, 0, none⟩) m cg ∧ lv = .int .i64 (lastQ q (P.take i)) ∧ OwnE wr w.heap.size g m cg (sortE F) ∧ Below w.heap.size w wr) (fun _ _ iv _ => n - (intOf iv).toNat)
  case atStart => exact ⟨0, w.heap.size, 0, 0, [], Nat.zero_le _, rfl, by simp, rfl, rfl, rfl, own_empty w _ (Nat.le_refl _), (Below.refl _ _).alloc (Nat.le_refl _) _⟩
  case round =>
    obtain ⟨i, g, cg, m, F, hi, rfl, hF, hFm, rfl, rfl, hO, hb⟩ := hrel
    have HF : Hid (F = ((P.take i).map (lateL q)).flatten) := hF
    have HFM : Hid (F.length = m) := hFm
    have HO : Hid (OwnE wr w.heap.size g m cg (sortE F)) := hO
    have HB : Hid (Below w.heap.size w wr) := hb
    obtain ⟨Li, hLi⟩ : ∃ Li, Li = lastQ q (P.take i) := ⟨_, rfl⟩
    have HLI : Hid (Li = lastQ q (P.take i)) := hLi
    rw [← hLi]
    clear hF hFm hO hb hLi
    by_cases hlt : i < n
    · have hltI : (i : Int) < (n : Int) := by omega
      obtain ⟨b, off, rfl, hbb⟩ := HP.out.form (by omega)
      obtain ⟨L, hL⟩ : ∃ L, P[i]? = some L := ⟨_, List.getElem?_eq_getElem (by rw [HLN.out]; exact hlt)⟩
      have HL : Hid (P[i]? = some L) := hL
      clear hL
      go_wp2
      go_loopw [6, 7, 9] (fun ov lv kv wq => ∃ (k g cg m : Nat) (G : List EntD) (Lk : Int), k ≤ L.length ∧ kv = .int .i64 k ∧ G = F ++ lateL q (L.take k) ∧ G.length = m ∧ ov = .slice (some ⟨g, 0, none⟩) m cg ∧ lv = .int .i64 Lk ∧ Lk = (lateL q (L.take k)).foldl (fun m e => max m e.2.1) Li ∧ OwnE wq w.heap.size g m cg (sortE G) ∧ Below w.heap.size w wq) (fun _ _ kv _ => L.length - (intOf kv).toNat)
      case atStart => exact ⟨0, g, cg, m, F, Li, Nat.zero_le _, rfl, by simp [lateL], HFM.out, rfl, rfl, rfl, HO.out, HB.out⟩
      case round =>
        clear HO HB HFM
        obtain ⟨k, g, cg, m, G, Lk, hk, rfl, hG, hGm, rfl, rfl, hLk, hO, hb⟩ := hrel
        obtain ⟨L', s, len, cap, hL', c0, hE⟩ := HP.out.list hb i hlt
        rw [HL.out] at hL'
        cases hL'
        have HG : Hid (G = F ++ lateL q (L.take k)) := hG
        have HGM : Hid (G.length = m) := hGm
        have HLK : Hid (Lk = (lateL q (L.take k)).foldl (fun m e => max m e.2.1) Li) := hLk
        have HO : Hid (OwnE wr w.heap.size g m cg (sortE G)) := hO
        have HB : Hid (Below w.heap.size w wr) := hb
        have hLl := hE.length
        have HLL : Hid (L.length = len) := hLl
        have zb : b < wr.heap.size := Nat.lt_of_lt_of_le hbb hb.size
        have hlc := hE.room
        have hcb := hE.big
        unfold maxLen at hcb
        have hm : m ≤ 1048576 := by
          have h1 := late_part (q := q) (k := k) HL.out
          rw [← HF.out, ← hG] at h1
          have h2 := HSU.out
          omega
        rw [hLl] at hk
        clear hG hGm hO hb hLl hLk
        by_cases hkl : k < len
        · have hklI : (k : Int) < (len : Int) := by omega
          obtain ⟨bs, os, rfl, zs⟩ := hE.form (by omega)
          obtain ⟨es, eq, ed, et, en, hx, hw, e0, e1, e2, e3, e4⟩ := hE.ent (Below.refl _ wr) zs k hkl
          have HX : Hid (L[k]? = some (es, eq, ed, et, en)) := hx
          have CP := specPut g m cg (sortE G) es et eq ed en wr HO.out.entsAt HO.out.lt.2 hm hw
          clear hx hw
          by_cases hq : q < eq
          · go_wp2_with fail
            refine CP.mono ?_
            rintro e w2 ⟨g2, c2, rfl, hO2, hb2⟩
            have HO2 : Hid (OwnE w2 w.heap.size g2 (m + 1) c2 (putE (sortE G) (es, eq, ed, et, en))) := hO2.mono HB.out.size
            have HB2 : Hid (Below w.heap.size w w2) := HB.out.trans (hb2.mono HB.out.size)
            have c0' := cell_later hb2 c0
            have e1' := cell_later hb2 e1
            have zb2 : b < w2.heap.size := Nat.lt_of_lt_of_le zb hb2.size
            have zs2 : bs < w2.heap.size := Nat.lt_of_lt_of_le zs hb2.size
            clear hO2 hb2 CP HO HB hE c0 e0 e1 e2 e3 e4 zb zs
            go_wp2_with (go_at_call 104; refine (specMax _ _ _).mono ?_; rintro e w3 ⟨rfl, rfl⟩)
            go_roundw
            case rel =>
              refine ⟨k + 1, g2, c2, m + 1, F ++ lateL q (L.take (k + 1)), max Lk eq, by have := HLL.out; omega, by go_num, rfl, ?_, rfl, rfl, ?_, ?_, HB2.out⟩
              · rw [late_snoc_yes HX.out hq, ← List.append_assoc, ← HG.out, List.length_append, HGM.out]
                rfl
              · rw [late_snoc_yes HX.out hq, List.foldl_append, ← HLK.out]
                rfl
              · rw [late_snoc_yes HX.out hq, ← List.append_assoc, ← HG.out, sort_snoc]
                exact HO2.out
            case measure => have := HLL.out; simp [intOf]; omega
          · clear CP hE
            go_wp2
            go_roundw
            case rel =>
              refine ⟨k + 1, g, cg, m, F ++ lateL q (L.take (k + 1)), Lk, by have := HLL.out; omega, by go_num, rfl, ?_, rfl, rfl, ?_, ?_, HB.out⟩
              · rw [late_snoc_no HX.out hq, ← HG.out]; exact HGM.out
              · rw [late_snoc_no HX.out hq]; exact HLK.out
              · rw [late_snoc_no HX.out hq, ← HG.out]; exact HO.out
            case measure => have := HLL.out; simp [intOf]; omega
        · have hklI : ¬ (k : Int) < (len : Int) := by omega
          have HKL : Hid (L.take k = L) := List.take_of_length_le (by have := HLL.out; omega)
          have wi : IntKind.i64.wrap ((i : Int) + 1) = ((i + 1 : Nat) : Int) := by rw [IntWalk.i64_left]; unfold wrap64; omega
          clear hE
          go_wp2
          go_roundw
          case rel =>
            refine ⟨i + 1, g, cg, m, G, by omega, by first | rfl | go_num, ?_, HGM.out, rfl, ?_, HO.out, HB.out⟩
            · rw [late_take HL.out, HG.out, HF.out, HKL.out]
            · rw [last_take HL.out, ← HLI.out, HLK.out, HKL.out]
          case measure => simp [intOf]; omega
    · have hin : i = n := by omega
      have hltI : ¬ (i : Int) < (n : Int) := by omega
      have HTA : Hid (P.take i = P) := List.take_of_length_le (by rw [HLN.out]; omega)
      have HFA : Hid (F = (P.map (lateL q)).flatten) := by show F = _; rw [HF.out, HTA.out]
      have HLA : Hid (Li = LQ) := by show Li = LQ; rw [HLI.out, HLQ.out, HTA.out]
      clear hin
      go_wp2
      have h1 := HFM.out
      have h2 := HO.out
      rw [HFA.out] at h1 h2
      obtain rfl : N = m := by have := HN.out; omega
      obtain rfl := HLA.out
      refine bodyPost_ret (v := .tuple #[.slice (some ⟨g, 0, none⟩) N cg, .int .i64 Li]) (by simp [results, Tryz.results81, go_sem]) rfl ⟨g, cg, rfl, h2, HB.out⟩
end Go.Proofs.YtapjkbpfhmbfaaaGreatDoor

namespace Go.Proofs.YtapjkbpfhmbfaaaGreatDoor
open Go.RowKit
theorem rd1 {P : Program} {l : List Oper} {Q : Exit → Act → World → Prop} {md : Region.Mode} {S : World → Prop} (i : Nat) {o : Oper} {fuel : Nat} {listed : Array Bool} {a : Act} {w : World}
    (h : ∀ K' : Act → World → Prop, Shut (∀ a w, S w → (S w → wpAnyH P md l.toArray Q S fuel (listed.setIfInBounds i true) a w) → K' a w) → if Region.wanted o (yielded l.toArray a.tmps) = true then Oper.wp P o a w K' Q else K' (a.put o.dst undef) w)
    (ho : l[i]? = some o := by exact rfl) (hr : Region.ready md l.toArray listed = [i] := by kernel_rfl) : wpAnyH P md l.toArray Q S (fuel + 1) listed a w :=
  wpAnyH_ready hr (by simp) (consL ho h AllReadyH.nil)
def TakeR (P:Program) (md:Region.Mode) (l:List Oper) (Q:Exit → Act → World → Prop) (S:World → Prop) (fuel:Nat) (w:World):Nat → Nat → Array Bool → Act → Prop
 | 0,_,listed,a=>wpAnyH P md l.toArray Q S fuel listed a w
 | n+1,i,listed,a=>∃oi v,(l[i]? = some oi∧Region.noSelect l.toArray=true∧Region.free md l.toArray listed i=true∧(Region.ready md l.toArray listed).contains i=true)∧(∀c a w,Q (.panic c) (a.put oi.dst v) w → Q (.panic c) a w)∧YieldsIf P l.toArray S oi v a∧TakeR P md l Q S fuel w n (i+1) (listed.setIfInBounds i true) (a.put oi.dst v)
theorem tk0 {P:Program} {md:Region.Mode} {l:List Oper} {Q:Exit → Act → World → Prop} {S:World → Prop} {fuel:Nat} {w:World} {i:Nat} {listed:Array Bool} {a:Act} (h:wpAnyH P md l.toArray Q S fuel listed a w):TakeR P md l Q S fuel w 0 i listed a:=h
theorem tk1 {P:Program} {md:Region.Mode} {l:List Oper} {Q:Exit → Act → World → Prop} {S:World → Prop} {fuel:Nat} {w:World} {i n:Nat} {listed:Array Bool} {a:Act} {oi:Oper} {v:Value} (hi:l[i]? = some oi) (hs:Region.noSelect l.toArray=true) (hf:Region.free md l.toArray listed i=true) (hr:(Region.ready md l.toArray listed).contains i=true)
 (hQ:∀c a w,Q (.panic c) (a.put oi.dst v) w → Q (.panic c) a w) (hy:YieldsIf P l.toArray S oi v a) (h:TakeR P md l Q S fuel w n (i+1) (listed.setIfInBounds i true) (a.put oi.dst v)):TakeR P md l Q S fuel w (n+1) i listed a:=⟨oi,v,⟨hi,hs,hf,hr⟩,hQ,hy,h⟩
theorem tkS {P:Program} {md:Region.Mode} {l:List Oper} {Q:Exit → Act → World → Prop} {S:World → Prop} {fuel:Nat} {w:World} (hS:S w):∀(n i:Nat) (listed:Array Bool) (a:Act),TakeR P md l Q S fuel w n i listed a → wpAnyH P md l.toArray Q S (fuel+n) listed a w
 | 0,_,_,_,h=>h
 | n+1,_,_,_,⟨_,_,⟨hi,hs,hf,hr⟩,hQ,hy,h⟩=>wpAnyH_takeL hi hs hf hr hQ hy hS (tkS hS n _ _ _ h)
theorem tkr {P:Program} {md:Region.Mode} {l:List Oper} {Q:Exit → Act → World → Prop} {S:World → Prop} {fuel:Nat} {w:World} (i n:Nat) {listed:Array Bool} {a:Act} {g:Prop} (hS:S w) (h:g)
 (e:g → TakeR P md l Q S fuel w n i listed a:=by
  (intro hg; repeat (first | exact tk0 hg | ((refine tk1 (v:=?_) rfl (by kernel_rfl) (by kernel_rfl) (by kernel_rfl) (fun _ _ _ h=>h) (Or.inl ⟨by rfl,?_⟩) ?_; rotate_left; · (intro w hSw; (try dsimp only at hSw); go_simp; try with_reducible rfl)); try simp only [Act.put,List.setIfInBounds_toArray,List.set_cons_succ,List.set_cons_zero]) | (refine tk1 (v:=undef) rfl (by kernel_rfl) (by kernel_rfl) (by kernel_rfl) (fun _ _ _ h=>h) (Or.inr ⟨by rfl,rfl⟩) ?_; try simp only [Act.put,List.setIfInBounds_toArray,List.set_cons_succ,List.set_cons_zero])))):wpAnyH P md l.toArray Q S (fuel+n) listed a w:=tkS hS n i listed a (e h)
theorem drw {P:Program} {ops:Array Oper} {Q:Exit → Act → World → Prop} {id:Nat} {a:Act} {w:World} {R S:World → Prop} (H:Hid (∀w',R w' → S w')) (k:R w.drew) (h:S w.drew → wpAnyH P .any ops Q S ops.size (Array.replicate ops.size false) a w.drew) (hm:P.follows .mixedOrders=true:=by kernel_rfl):(Code.region id ops true).wp P Q a w:=wp_region_held_drew hm (H.out _ k) h
theorem dN {P:Program} {md:Region.Mode} {l:List Oper} {Q:Exit → Act → World → Prop} {S:World → Prop} {fuel:Nat} {listed:Array Bool} {a:Act} {w:World} (h:Q .normal a w) (hr:Region.ready md l.toArray listed=[]:=by kernel_rfl):wpAnyH P md l.toArray Q S fuel listed a w:=wpAnyH_done hr h _
theorem hiD {p : Prop} (h : p) : Hid p := h
theorem ex' {α : Type} (a : α) : ∃ x, x = a := ⟨a, rfl⟩
end Go.Proofs.YtapjkbpfhmbfaaaGreatDoor
