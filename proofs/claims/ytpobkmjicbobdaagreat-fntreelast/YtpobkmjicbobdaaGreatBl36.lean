/- Walks. -/
import Derived.Test.YtpobkmjicbobdaaGreatBl35
namespace Go.Proofs.YtpobkmjicbobdaaGreat
set_option maxRecDepth 100000
set_option maxHeartbeats 40000000
open Go.RowKit
variable {A B M:List ac} {a b e x:ac} {bs:Nat}
/-! Two rows in order made one, the first ahead where times are alike. -/
def fw : List ac → List ac → List ac
  | [], B => B
  | a :: A, [] => a :: A
  | a :: A, b :: B => if b.2.1 < a.2.1 then b :: fw (a :: A) B else a :: fw A (b :: B)
termination_by A B => A.length + B.length
theorem eQ (B : List ac) : fw [] B = B := by rw [fw]
theorem dO : ∀ A : List ac, fw A [] = A
  | [] => by rw [fw]
  | a :: A => by rw [fw]
theorem fm (h : b.2.1 < a.2.1) : fw (a :: A) (b :: B) = b :: fw (a :: A) B := by rw [fw, if_pos h]
theorem fo (h : ¬ b.2.1 < a.2.1) : fw (a :: A) (b :: B) = a :: fw A (b :: B) := by rw [fw, if_neg h]
theorem rj : ∀ (A B : List ac), (fw A B).length = A.length + B.length
  | [], B => by rw [eQ]; simp
  | a :: A, [] => by rw [dO]; simp
  | a :: A, b :: B => by
    by_cases h : b.2.1 < a.2.1
    · rw [fm h, DC, rj (a :: A) B]; simp; omega
    · rw [fo h, DC, rj A (b :: B)]; simp; omega
termination_by A B => A.length + B.length
theorem lp : ∀ (A B : List ac), (fw A B).Perm (A ++ B)
  | [], B => by rw [eQ]; simp
  | a :: A, [] => by rw [dO]; simp
  | a :: A, b :: B => by
    by_cases h : b.2.1 < a.2.1
    · rw [fm h]; exact ((lp (a :: A) B).cons b).trans List.perm_middle.symm
    · rw [fo h]; exact (lp A (b :: B)).cons a
termination_by A B => A.length + B.length
theorem fE : ∀ (n f m d : List ac), (∀ a ∈ n, ∀ b ∈ d, ¬ b.2.1 < a.2.1) → (∀ b ∈ m, ∀ a ∈ f, b.2.1 < a.2.1) → fw (n ++ f) (m ++ d) = fw n m ++ fw f d
  | [], f, [], d, _, _ => by simp [eQ]
  | [], [], b :: m, d, _, _ => by simp [eQ]
  | [], a :: f, b :: m, d, h1, h2 => by
    have hb := h2 b Dy a Dy
    have g := fE [] (a :: f) m d h1 (fun x hx => h2 x (DB _ hx))
    simp only [DA, eQ, DD] at g ⊢
    rw [fm hb, g]
  | a :: n, f, [], [], _, _ => by simp [dO]
  | a :: n, f, [], b :: d, h1, h2 => by
    have hb := h1 a Dy b Dy
    have g := fE n f [] (b :: d) (fun x hx => h1 x (DB _ hx)) h2
    simp only [DA, dO, DD] at g ⊢
    rw [fo hb, g]
  | a :: n, f, b :: m, d, h1, h2 => by
    by_cases h : b.2.1 < a.2.1
    · have g := fE (a :: n) f m d h1 (fun x hx => h2 x (DB _ hx))
      simp only [DD] at g ⊢
      rw [fm h, fm h, g]
      rfl
    · have g := fE n f (b :: m) d (fun x hx => h1 x (DB _ hx)) h2
      simp only [DD] at g ⊢
      rw [fo h, fo h, g]
      rfl
termination_by n _ m _ => n.length + m.length
theorem ri (x : ac) (d B2 : List ac) (h1 : ∀ b ∈ d, b.2.1 < x.2.1) (h2 : ∀ b ∈ B2, ¬ b.2.1 < x.2.1) : fw [x] (d ++ B2) = d ++ x :: B2 := by
  have h := fE [] [x] d B2 (by simp) (fun b hb a ha => by simp only [Df] at ha; subst ha; exact h1 b hb)
  simp only [DA, eQ] at h
  rw [h]
  cases B2 with
  | nil => rw [dO]
  | cons b B2 => rw [fo (h2 b Dy), eQ]
theorem pC (y : ac) (d A2 : List ac) (h1 : ∀ a ∈ d, ¬ y.2.1 < a.2.1) (h2 : ∀ a ∈ A2, y.2.1 < a.2.1) : fw (d ++ A2) [y] = d ++ y :: A2 := by
  have h := fE d A2 [] [y] (fun a ha b hb => by simp only [Df] at hb; subst hb; exact h1 a ha) (by simp)
  simp only [DA, dO] at h
  rw [h]
  cases A2 with
  | nil => rw [eQ]
  | cons a A2 => rw [fm (h2 a Dy), dO]
def iY (A : List ac) : Prop := A.Pairwise (fun a b => a.2.1 ≤ b.2.1)
theorem eP (h : iY (x :: M)) (f : e.2.1 < x.2.1) : eD (x :: M) e = e :: x :: M := by
  have h1 := Dm.1 h
  have d : ∀ y ∈ x :: M, e.2.1 < y.2.1 := fun y hy => by
    rcases Da.1 hy with rfl | hy
    · exact f
    · have := h1.1 y hy; omega
  have := oc (A := []) (B := x :: M) d
  simp only [DA] at this
  rw [this]
  simp [eD, gG]
theorem s6 {x : ac} {M : List ac} {q : Int} (hx : ¬ q < x.2.1) : ∀ k, k ≤ M.length → gG (x :: M) q (k + 1) = gG M q k + 1
  | 0, _ => by simp [gG, hx]
  | k + 1, hk => by
    have hm := j' (show k < M.length from hk)
    have h1 : (x :: M)[k + 1]? = some M[k] := by simp
    have f : gG (x :: M) q (k + 1 + 1) = if q < M[k].2.1 then gG (x :: M) q (k + 1) else k + 1 + 1 := by rw [gG, h1]
    have d : gG M q (k + 1) = if q < M[k].2.1 then gG M q k else k + 1 := by rw [gG, hm]
    rw [f, d]
    by_cases hc : q < M[k].2.1
    · rw [if_pos hc, if_pos hc]; exact s6 hx k (by omega)
    · rw [if_neg hc, if_neg hc]
theorem eo (d : ¬ e.2.1 < x.2.1) : eD (x :: M) e = x :: eD M e := by
  unfold eD
  rw [DC, s6 d M.length (Cy _)]
  simp
theorem mV : ∀ {A B : List ac}, iY A → iY B → iY (fw A B)
  | [], B, _, hB => by rw [eQ]; exact hB
  | a :: A, [], hA, _ => by rw [dO]; exact hA
  | a :: A, b :: B, hA, hB => by
    have a1 := Dm.1 hA
    have b1 := Dm.1 hB
    by_cases h : b.2.1 < a.2.1
    · rw [fm h]
      refine Dm.2 ⟨fun y hy => ?_, mV hA b1.2⟩
      rcases Dd.1 ((lp _ _).mem_iff.1 hy) with hy | hy
      · rcases Da.1 hy with rfl | hy
        · omega
        · have := a1.1 y hy; omega
      · exact b1.1 y hy
    · rw [fo h]
      refine Dm.2 ⟨fun y hy => ?_, mV a1.2 hB⟩
      rcases Dd.1 ((lp _ _).mem_iff.1 hy) with hy | hy
      · exact a1.1 y hy
      · rcases Da.1 hy with rfl | hy
        · omega
        · have := b1.1 y hy; omega
termination_by A B => A.length + B.length
theorem jf (e : ac) : ∀ {A B : List ac}, iY A → iY B → eD (fw A B) e = fw A (eD B e)
  | [], B, _, _ => by rw [eQ, eQ]
  | a :: A, [], hA, _ => by
    have a1 := Dm.1 hA
    rw [dO]
    have : eD [] e = [e] := by simp [eD, gG]
    rw [this]
    by_cases h : e.2.1 < a.2.1
    · rw [eP hA h, fm h, dO]
    · rw [eo h, fo h]
      have m := jf e a1.2 (B := []) List.Pairwise.nil
      rw [dO, this] at m
      rw [m]
  | a :: A, b :: B, hA, hB => by
    have a1 := Dm.1 hA
    have b1 := Dm.1 hB
    by_cases f : b.2.1 < a.2.1
    · by_cases d : e.2.1 < b.2.1
      · have hs := mV hA hB
        rw [fm f] at hs ⊢
        rw [eP hs d, eP hB d, fm (show e.2.1 < a.2.1 by omega), fm f]
      · rw [fm f, eo d, eo d, fm f, jf e hA b1.2]
    · by_cases d : e.2.1 < b.2.1
      · rw [eP hB d]
        by_cases g : e.2.1 < a.2.1
        · have hs := mV hA hB
          rw [fo f] at hs ⊢
          rw [eP hs g, fm g, fo f]
        · rw [fo f, eo g, fo g, jf e a1.2 hB, eP hB d]
      · rw [fo f, eo (show ¬ e.2.1 < a.2.1 by omega), eo d, fo f, jf e a1.2 hB, eo d]
termination_by A B => A.length + B.length
theorem zT (A : List ac) : ∀ B : List ac, bk (A ++ B) = fw (bk A) (bk B) := by
  have key : ∀ n (B : List ac), B.length = n → bk (A ++ B) = fw (bk A) (bk B) := by
    intro n
    induction n with
    | zero => intro B h; rw [DQ] at h; subst h; simp [bk, dO]
    | succ n f =>
      intro B h
      obtain ⟨d, x, rfl⟩ : ∃ d x, B = d ++ [x] := ⟨B.dropLast, B.getLast (by intro h0; simp [h0] at h), (List.dropLast_concat_getLast _).symm⟩
      simp at h
      rw [← Di, jJ, jJ, f d h, jf x (fg A) (fg d)]
  exact fun B => key _ B rfl
/-! Rows of so many, each in order. -/
def AL (bs : Nat) : Nat → List ac → List ac
  | 0, L => bk L
  | f + 1, L => if L.length ≤ bs then bk L else bk (L.take bs) ++ AL bs f (L.drop bs)
theorem tI {bs : Nat} (hb : 1 ≤ bs) : ∀ (f d : Nat) (L : List ac), L.length ≤ f → L.length ≤ d → AL bs f L = AL bs d L
  | 0, 0, L, _, _ => rfl
  | 0, d + 1, L, h, _ => by
    have : L.length ≤ bs := by omega
    simp [AL, this]
  | f + 1, 0, L, _, h => by
    have : L.length ≤ bs := by omega
    simp [AL, this]
  | f + 1, d + 1, L, h, g => by
    simp only [AL]
    by_cases hl : L.length ≤ bs
    · rw [if_pos hl, if_pos hl]
    · rw [if_neg hl, if_neg hl, tI hb f d (L.drop bs) (by simp; omega) (by simp; omega)]
def iV (bs : Nat) (L : List ac) : List ac := AL bs L.length L
theorem iM {bs : Nat} {L : List ac} (h : L.length ≤ bs) : iV bs L = bk L := by
  unfold iV
  match hl : L.length with
  | 0 => rfl
  | n + 1 => rw [AL, if_pos (by omega)]
theorem pe (hb : 1 ≤ bs) (L : List ac) : iV bs L = bk (L.take bs) ++ iV bs (L.drop bs) := by
  by_cases d : L.length ≤ bs
  · rw [iM d, C9 d, DY d, iM (by simp)]
    simp [bk]
  · unfold iV
    obtain ⟨n, hn⟩ : ∃ n, L.length = n + 1 := ⟨L.length - 1, by omega⟩
    rw [hn, AL, if_neg d, tI hb n (L.drop bs).length (L.drop bs) (by simp; omega) (Cy _)]
theorem vU (bs : Nat) (R : List ac) : fw (bk (R.take bs)) (bk (R.drop bs)) = bk R := by
  rw [← zT, Ds]
/-! The steps of the library's stable sort, on plain rows. -/
theorem yA (d f g : List ac) (p q : ac) : Sort.swp (d ++ p :: (f ++ q :: g)).toArray d.length (d.length + 1 + f.length) = (d ++ q :: (f ++ p :: g)).toArray := by
  unfold Sort.swp
  apply Array.ext'
  have o : (d ++ p :: (f ++ q :: g))[d.length + 1 + f.length]? = some q := by
    rw [CU (by omega), show d.length + 1 + f.length - d.length = f.length + 1 by omega]
    simp
  have m : ((d ++ p :: (f ++ q :: g)).toArray)[d.length + 1 + f.length]! = q := by simp [o]
  have n : ((d ++ p :: (f ++ q :: g)).toArray)[d.length]! = p := by simp
  rw [m, n]
  simp only [En]
  rw [DZ _ _ (Cy _), Eg, Eb, DZ _ _ (by omega), show d.length + 1 + f.length - d.length = f.length + 1 by omega, ED, DZ _ _ (Cy _), Eg, Eb]
theorem An (Z D : List ac) (i j : Nat) (hi : i < D.length) (d : j < D.length) : Sort.swp (Z ++ D).toArray (Z.length + i) (Z.length + j) = (Z ++ (Sort.swp D.toArray i j).toList).toArray := by
  unfold Sort.swp
  apply Array.ext'
  have m : (Z ++ D)[Z.length + j]? = some D[j] := by rw [CU (by omega), D0, j' d]
  have n : (Z ++ D)[Z.length + i]? = some D[i] := by rw [CU (by omega), D0, j' hi]
  have f : ((Z ++ D).toArray)[Z.length + j]! = D[j] := by simp [m]
  have g : ((Z ++ D).toArray)[Z.length + i]! = D[i] := by simp [n]
  have h1 : (D.toArray)[j]! = D[j] := by simp [d]
  have h0 : (D.toArray)[i]! = D[i] := by simp [hi]
  rw [f, g, h1, h0]
  simp only [En]
  rw [DZ _ _ (by omega), D0, DZ _ _ (by omega), D0]
theorem sf (D : List ac) (i j : Nat) : (Sort.swp D.toArray i j).toList.length = D.length := by unfold Sort.swp; simp
theorem qp (Z : List ac) : ∀ (j : Nat) (D : List ac), j < D.length → Sort.insInner uJ Z.length (Z.length + j) (Z ++ D).toArray = (Z ++ (Sort.insInner uJ 0 j D.toArray).toList).toArray
  | 0, D, _ => by
    simp only [DS, Sort.insInner]
    cases hz : Z.length with
    | zero => simp [Sort.insInner]
    | succ k => simp [Sort.insInner]
  | j + 1, D, d => by
    show Sort.insInner uJ Z.length (Z.length + j + 1) (Z ++ D).toArray = _
    have n : (Z ++ D)[Z.length + j + 1]? = some D[j + 1] := by rw [CU (by omega), show Z.length + j + 1 - Z.length = j + 1 by omega, j' d]
    have o : (Z ++ D)[Z.length + j]? = some D[j] := by rw [CU (by omega), D0, j']
    have g : ((Z ++ D).toArray)[Z.length + j + 1]! = D[j + 1] := by simp [n]
    have m : ((Z ++ D).toArray)[Z.length + j]! = D[j] := by simp [o]
    have h1 : (D.toArray)[j + 1]! = D[j + 1] := by simp [d]
    have h0 : (D.toArray)[j]! = D[j] := by simp [show j < D.length by omega]
    rw [Sort.insInner, Sort.insInner, g, m, h1, h0]
    by_cases hc : uJ D[j + 1] D[j] = true
    · have hs : Sort.swp (Z ++ D).toArray (Z.length + j + 1) (Z.length + j) = (Z ++ (Sort.swp D.toArray (j + 1) j).toList).toArray := An Z D (j + 1) j d (by omega)
      have f := qp Z j (Sort.swp D.toArray (j + 1) j).toList (by rw [sf]; omega)
      rw [if_pos (by simp [hc]; omega), if_pos (by simp [hc]), hs, f]
    · rw [if_neg (by simp [hc]), if_neg (by simp [hc])]
theorem oJ (lt : ac → ac → Bool) (a : Nat) : ∀ (j : Nat) (D : List ac), (Sort.insInner lt a j D.toArray).toList.length = D.length
  | 0, D => by simp [Sort.insInner]
  | j + 1, D => by
    rw [Sort.insInner]
    split
    · have := oJ lt a j (Sort.swp D.toArray (j + 1) j).toList
      rw [sf] at this
      simpa using this
    · rfl
theorem xi (Z : List ac) (b : Nat) : ∀ (m i : Nat) (D : List ac), b - i = m → b ≤ D.length → Sort.insOuter uJ Z.length (Z.length + b) (Z.length + i) (Z ++ D).toArray = (Z ++ (Sort.insOuter uJ 0 b i D.toArray).toList).toArray := by
  intro m
  induction m with
  | zero =>
    intro i D hm hb
    rw [Sort.insOuter, if_neg (by omega), Sort.insOuter, if_neg (by omega)]
  | succ m d =>
    intro i D hm hb
    rw [Sort.insOuter, if_pos (by omega), qp Z i D (by omega)]
    conv => rhs; rw [Sort.insOuter, if_pos (show i < b by omega)]
    have := d (i + 1) (Sort.insInner uJ 0 i D.toArray).toList (by omega) (by rw [oJ]; exact hb)
    rw [show Z.length + i + 1 = Z.length + (i + 1) by omega, this]
theorem uF (L Y : List ac) : ∀ m i, L.length - i = m → i ≤ L.length → Sort.insOuter uJ 0 L.length i (bk (L.take i) ++ (L.drop i ++ Y)).toArray = (bk L ++ Y).toArray := by
  intro m
  induction m with
  | zero =>
    intro i hm hi
    have : i = L.length := by omega
    subst this
    rw [Sort.insOuter, if_neg (by omega)]
    simp
  | succ m f =>
    intro i hm hi
    have d : i < L.length := by omega
    rw [Sort.insOuter, if_pos d, DR d]
    have hl : (bk (L.take i)).length = i := by rw [eJ]; simp; omega
    have := AA (bk (L.take i)) (L.drop (i + 1) ++ Y) L[i]
    rw [hl] at this
    simp only [DD]
    rw [this, ← xY (j' d)]
    exact f (i + 1) (by omega) (by omega)
theorem zq (Z X Y : List ac) : Sort.insertionSort uJ (Z ++ (X ++ Y)).toArray Z.length (Z.length + X.length) = (Z ++ (bk X ++ Y)).toArray := by
  unfold Sort.insertionSort
  rw [xi Z X.length (X.length - 1) 1 (X ++ Y) rfl (by simp)]
  by_cases h : X.length = 0
  · rw [DQ] at h
    subst h
    rw [Sort.insOuter, if_neg (by simp)]
    simp [bk]
  · have h1 : bk (X.take 1) ++ (X.drop 1 ++ Y) = X ++ Y := by
      match X, h with
      | [], h => simp at h
      | x :: r, _ => simp [bk, eD, gG]
    have := uF X Y (X.length - 1) 1 rfl (by omega)
    rw [h1] at this
    rw [this]
def dP (Z P M Q Y : List ac) (i : Nat) : List ac := (Z ++ Q.take i) ++ (P.drop i ++ (M ++ (P.take i ++ (Q.drop i ++ Y))))
theorem AE (Z P M Q Y : List ac) (i n : Nat) (g : P.length = n) (hQ : Q.length = n) (hi : i < n) : Sort.swp (dP Z P M Q Y i).toArray (Z.length + i) (Z.length + n + M.length + i) = (dP Z P M Q Y (i + 1)).toArray := by
  have hp : i < P.length := by omega
  have hq : i < Q.length := by omega
  have f : dP Z P M Q Y i = (Z ++ Q.take i) ++ P[i] :: ((P.drop (i + 1) ++ (M ++ P.take i)) ++ Q[i] :: (Q.drop (i + 1) ++ Y)) := by
    unfold dP
    rw [DR hp, DR hq]
    simp only [Di, DD]
  have d : dP Z P M Q Y (i + 1) = (Z ++ Q.take i) ++ Q[i] :: ((P.drop (i + 1) ++ (M ++ P.take i)) ++ P[i] :: (Q.drop (i + 1) ++ Y)) := by
    unfold dP
    rw [Dl, Dl, j' hp, j' hq]
    simp only [Option.toList_some, Di, DD, DA]
  have := yA (Z ++ Q.take i) (P.drop (i + 1) ++ (M ++ P.take i)) (Q.drop (i + 1) ++ Y) P[i] Q[i]
  rw [← f, ← d] at this
  have l1 : (Z ++ Q.take i).length = Z.length + i := by simp; omega
  have l2 : (P.drop (i + 1) ++ (M ++ P.take i)).length = n - (i + 1) + M.length + i := by simp; omega
  rw [l1, l2] at this
  rw [← this]
  congr 1
  omega
theorem Bt (Z P M Q Y : List ac) : dP Z P M Q Y 0 = Z ++ (P ++ (M ++ (Q ++ Y))) := by simp [dP]
theorem Bs (Z P M Q Y : List ac) (n : Nat) (d : P.length = n) (hQ : Q.length = n) : dP Z P M Q Y n = Z ++ (Q ++ (M ++ (P ++ Y))) := by
  unfold dP
  rw [C9 (by omega), DY (by omega), C9 (by omega), DY (by omega)]
  simp
end Go.Proofs.YtpobkmjicbobdaaGreat
namespace Go.Proofs.YtpobkmjicbobdaaGreat
set_option maxRecDepth 100000
set_option maxHeartbeats 8000000
open Go.RowKit Go.Sort
theorem tf {w:World} {base g n c:Nat} {D:List ac} {cur:Array Value} (hb:base≤g) (hg:w.heap[g]?=some (.cells cur 50 (0,0))) (hs:cur.size=c*5) (hE:ag w (pT g) n c D):af w base g n c D:=by
 have hl:=hE.length;have hr:=hE.room;refine ⟨⟨by rw [aU,hl],Or.inr ⟨g,c,cur,rfl,hb,hg,hr,hE.big,hs,?_⟩⟩,hl,hE.ents⟩;apply List.ext_getElem?;intro j;by_cases f:j<n*5
 · have d:j<(aC D).length:=by rw [aU,hl];exact f
   have h1:=bi hE j _ (j' d);rw [De,C6] at h1;have h2:w.cell? ⟨g,j,none⟩=cur[j]?:=by simp [World.cell?,hg]
   rw [h2] at h1;rw [EQ,if_pos f,Array.getElem?_toList,h1,j' d]
 · rw [Eu (by simp;omega),Eu (by rw [aU,hl];omega)]
theorem af.block {w:World} {base g n c:Nat} {L:List ac} (h:af w base g n c L):∃d,w.heap[g]?=some (.cells d 50 (0,0))∧d.size=c*5:=by
 rcases h.owns.2 with ⟨hv,_⟩ | ⟨m,f,d,hv,_,h2,_,_,h5,_⟩
 · cases hv
 · cases hv;exact ⟨d,h2,h5⟩
theorem uD {w:World} {base g n c m:Nat} {o:Array Obj} {L D:List ac} (hO:af w base g n c L) (hp:D.Perm L):af (sortWorldK bD 5 w g 0 m D.toArray o) base g n c D:=by
 have hE:=hO.entsAt;have hl:D.length=n:=hp.length_eq.trans hO.len;have r:=holdsK_sortWorldK_c bD 5 w g 0 L.toArray D.toArray m o (oQ hO) hO.lt.2 (by simp [hp.length_eq]);obtain ⟨cur,hg,hs⟩:=hO.block;have d:=hO.lt.2;refine tf (cur:=putCells id 0 (flatK bD 5 D.toArray) cur) hO.lt.1 ?_ (by simpa [putCells] using hs) ⟨hl,hE.room,hE.big,fun l f=>hO.ents l (hp.mem_iff.1 f),(fun e=>by cases e),(fun x e _=>by cases e;exact ⟨l' hO.lt.2 (lA _).size,rfl⟩),(fun x e i hi=>by cases e;exact vf r i hi)⟩;unfold sortWorldK putRowK;rw [heap_grow_old _ _ (by simpa [putRow,mapBlock,Sort.ahead] using d)];simp [putRow,mapBlock,Sort.ahead,Array.getElem?_modify,hg,onCells]
theorem vI (base g n c:Nat) (Z X Y:List ac) (a b:Nat) (w:World) (hO:af w base g n c (Z++(X++Y))) (ha:a=Z.length) (hb:b=Z.length+X.length) (hn:n≤1048576) :
 Calls Tryz.prog 213 #[sL g n c,iT a,iT b,.func (.func 112) #[] #[]] w fun e w'=>e=.returned (.tuple #[])∧af w' base g n c (Z++(bk X++Y))∧w.grownBy w' (some g):=by
 subst ha hb;have hl:=hO.len;have hsz:(Z++(X++Y)).toArray.size=n:=by simpa using hl
 have d:Z.length+X.length≤n:=by rw [← hl];simp
 have f:∀args w,(callFunc 112 args).run Tryz.prog w=.ok (.enter 112 args) w:=enters_of Tryz.func112 (by kernel_rfl) rfl;have hcmp:CmpLays Tryz.prog 112 #[] bD 5 vy g 0 (Z++(X++Y)).toArray.size w:=fun m os r _ x y=>AD x.1 x.2.2.2.1 y.1 y.2.2.2.1 x.2.1 x.2.2.1 x.2.2.2.2 y.2.1 y.2.2.1 y.2.2.2.2 _
 have h:=AnyQ.insertionSortCmpFunc Tryz.insL 5 Tryz.isAgg50 Tryz.sizeOf50 bD (fun _=>rfl) (fun x v hv=>by simp [bD] at hv;rcases hv with rfl | rfl | rfl | rfl | rfl <;> rfl) vy 112 #[] g 0 c Z.length (Z.length+X.length) (Z++(X++Y)).toArray w f hcmp (oQ hO) hO.lt.2 (by omega) (by rw [hsz];exact d) (by rw [hsz];omega);rw [hsz,Bg,zq] at h;have o:Calls Tryz.prog 213 #[sL g n c,iT (Z.length:Nat),iT ((Z.length+X.length:Nat):Int),.func (.func 112) #[] #[]] w fun e w'=>e=.returned (.tuple #[])∧∃m os,w'=sortWorldK bD 5 w g 0 m (Z++(bk X++Y)).toArray os:=h
 refine o.mono ?_;rintro e w' ⟨rfl,m,os,rfl⟩;exact ⟨rfl,uD hO (((qH X).append_right Y).append_left Z),lA _⟩
def setE (w:World) (g i:Nat) (e:ac):World:=((((w.setCell ⟨g,i*5,none⟩ (.string e.1)).setCell ⟨g,i*5+1,none⟩ (iT e.2.1)).setCell ⟨g,i*5+2,none⟩ (iT e.2.2.1)).setCell ⟨g,i*5+3,none⟩ (.string e.2.2.2.1)).setCell ⟨g,i*5+4,none⟩ (iT e.2.2.2.2)
theorem af.setE {w:World} {base g n c i:Nat} {L:List ac} {e:ac} (h:af w base g n c L) (hi:i<n) (hw:dR e):af (setE w g i e) base g n c (L.set i e):=by
 obtain ⟨s,q,d,t,nn⟩:=e;have t0:=h.owns.stored (i*5) (.string s);have r:=t0.1.stored (i*5+1) (iT q);have u:=r.1.stored (i*5+2) (iT d);have t3:=u.1.stored (i*5+3) (.string t);have t4:=t3.1.stored (i*5+4) (iT nn);have hl:=h.len;have hx:(aC L).length=n*5:=by rw [aU,hl]
 have hf:((((((aC L).set (i*5) (.string s)).set (i*5+1) (iT q)).set (i*5+2) (iT d)).set (i*5+3) (.string t)).set (i*5+4) (iT nn))=aC (L.set i (s,q,d,t,nn)):=n8 (by simp [hx,hl]) (fun j l m=>by
  by_cases f:j=i
  · subst f;rw [DX (by omega)] at m;cases m;exact jd s t q d nn (by omega)
  · rw [Dx (Ne.symm f)] at m;exact iA (fe L j l m) f _ _ _ _ _)
 refine ⟨?_,by simp [hl],fun l o=>?_⟩
 · have h4:=t4.1;rw [hf] at h4;exact h4
 · rcases EF o with h1 | h1
   · exact h.ents l h1
   · rw [h1];exact hw
theorem fP (w:World) (g o:Nat) (v:Value):w.grownBy (w.setCell ⟨g,o,none⟩ v) (some g) :=
 ⟨rfl,rfl,rfl,by simp [World.setCell],fun k _ hk=>Below.heap_setCell _ _ _ _ (fun e=>hk (by rw [e]))⟩
theorem df (w:World) (g i:Nat) (e:ac):w.grownBy (Go.Proofs.YtpobkmjicbobdaaGreat.setE w g i e) (some g) :=
 ae (ae (ae (ae (fP _ _ _ _) (fP _ _ _ _)) (fP _ _ _ _)) (fP _ _ _ _)) (fP _ _ _ _)
theorem vx (d f g:List ac) (p q:ac):((d++p :: (f++q :: g)).set d.length q).set (d.length+1+f.length) p=d++q :: (f++p :: g):=by
 rw [DZ _ _ (Cy _),Eg,Eb,DZ _ _ (by omega),show d.length+1+f.length - d.length=f.length+1 by omega,ED,DZ _ _ (Cy _),Eg,Eb]
theorem af.swap {w:World} {base g n c i j:Nat} {d f m:List ac} {p q:ac} (h:af w base g n c (d++p :: (f++q :: m))) (hi:i=d.length) (o:j=d.length+1+f.length):af (Go.Proofs.YtpobkmjicbobdaaGreat.setE (Go.Proofs.YtpobkmjicbobdaaGreat.setE w g i q) g j p) base g n c (d++q :: (f++p :: m)):=by
 subst hi o;have hl:=h.len;simp at hl;have h1:=h.setE (i:=d.length) (e:=q) (by omega) (h.ents _ (by simp));have h2:=h1.setE (i:=d.length+1+f.length) (e:=p) (by omega) (h.ents _ (by simp));rw [vx] at h2;exact h2
end Go.Proofs.YtpobkmjicbobdaaGreat
namespace Go.Proofs.YtpobkmjicbobdaaGreat
open Go.RowKit
set_option maxRecDepth 100000
set_option maxHeartbeats 8000000
attribute [local go_sem] DN
theorem fd (w:World) (g:Nat):w.grownBy w.drew (some g):=⟨rfl,rfl,rfl,Cy _,fun _ _ _=>rfl⟩
theorem vM {Z P M Q Y:List ac} {i n:Nat} (d:P.length=n) (hQ:Q.length=n) (hi:i<n):(dP Z P M Q Y i)[Z.length+i]?=P[i]?∧(dP Z P M Q Y i)[Z.length+n+M.length+i]?=Q[i]?:=by
 unfold dP;have l1:(Z++Q.take i).length=Z.length+i:=by simp;omega
 constructor
 · rw [CU (by omega),l1,Eg,C7 (by simp;omega),DH,DS]
 · rw [CU (by omega),l1,CU (by simp;omega),Dh,d,CU (by omega),CU (by simp;omega),C5,d,C7 (by simp;omega),DH];congr 1
   omega
theorem zF {Z P M Q Y:List ac} {i n:Nat} {x y:ac} (d:P.length=n) (hQ:Q.length=n) (hi:i<n) (hx:P[i]?=some x) (hy:Q[i]?=some y):((dP Z P M Q Y i).set (Z.length+i) y).set (Z.length+n+M.length+i) x=dP Z P M Q Y (i+1):=by
 have hg:=AE Z P M Q Y i n d hQ hi;have ha:=vM (Z:=Z) (M:=M) (Y:=Y) d hQ hi;unfold Sort.swp at hg;have f:((dP Z P M Q Y i).toArray)[Z.length+n+M.length+i]! = y:=by simp [ha.2,hy]
 have g:((dP Z P M Q Y i).toArray)[Z.length+i]! = x:=by simp [ha.1,hx]
 rw [f,g] at hg;have:=congrArg Array.toList hg;simpa using this
theorem lS (base g n c:Nat) (Z P M Q Y:List ac) (a b m:Nat) (fv:Value) (w:World) (hO:af w base g n c (Z++(P++(M++(Q++Y))))) (ha:a=Z.length) (hb:b=Z.length+m+M.length) (hP:P.length=m) (hQ:Q.length=m) (hn:n≤1048576) :
 Calls Tryz.prog 254 #[sL g n c,iT a,iT b,iT m,fv] w fun e w'=>e=.returned (.tuple #[])∧af w' base g n c (Z++(Q++(M++(P++Y))))∧w.grownBy w' (some g):=by
 have hl:=hO.len;simp only [CW] at hl;have au:=hO.entsAt.big;have aE:=hO.entsAt.room;unfold maxLen at au;have HP:=bO hP;have HQ:=bO hQ;have HA:=bO ha;have HB:=bO hb;have al:CG (b+m≤n∧a+m≤b):=by show b+m≤n∧a+m≤b;omega
 have HO:CG (af w base g n c (dP Z P M Q Y 0)):=by rw [Bt];exact hO
 clear hO ha hb hP hQ hl;go_enter Tryz.func254,Tryz.ntmps254
 go_wp2;go_loopw [10] (fun iv wr=>∃i:Nat,i≤m∧iv=iT i∧af wr base g n c (dP Z P M Q Y i)∧w.grownBy wr (some g)) (fun iv _=>m - (intOf iv).toNat)
 case atStart=>exact ⟨0,C3 _,rfl,HO.o,⟨rfl,rfl,rfl,Cy _,fun _ _ _=>rfl⟩⟩
 case round =>
  obtain ⟨i,hi,rfl,ak,ah⟩:=hrel;have a0:CG (af wr base g n c (dP Z P M Q Y i)):=ak;have ag:CG (w.grownBy wr (some g)):=ah;clear ak ah HO;by_cases X:i<m
  · have am:(i:Int)<(m:Int):=by omega
    obtain ⟨⟨s,q,d,t,nn⟩,hx⟩:∃x,P[i]?=some x:=⟨_,j' (by rw [HP.o];exact X)⟩;obtain ⟨⟨R,T,U,O,F⟩,hy⟩:∃y,Q[i]?=some y:=⟨_,j' (by rw [HQ.o];exact X)⟩;have hat:=vM (Z:=Z) (M:=M) (Y:=Y) HP.o HQ.o X;rw [← HB.o,← HA.o,hx,hy] at hat;have HX:CG ((dP Z P M Q Y i)[a+i]?=some (s,q,d,t,nn)):=hat.1;have HY:CG ((dP Z P M Q Y i)[b+i]?=some (R,T,U,O,F)):=hat.2;have ao:CG (((dP Z P M Q Y i).set (a+i) (R,T,U,O,F)).set (b+i) (s,q,d,t,nn)=dP Z P M Q Y (i+1)):=by
     have:=zF (Z:=Z) (M:=M) (Y:=Y) HP.o HQ.o X hx hy;rw [← HB.o,← HA.o] at this;exact this
    obtain ⟨ar,av⟩:=al.o;have HI:CG (a+i<n):=by show a+i<n;omega
    have HJ:CG (b+i<n):=by show b+i<n;omega
    have ai:CG (a+i≠b+i):=by show a+i≠b+i;omega
    have ea:((a:Int)+(i:Int)).toNat=a+i:=by omega
    have pa:(0:Int)≤(a:Int)+(i:Int):=by omega
    have ba:(a:Int)+(i:Int)<(n:Int):=by omega
    have ra:IntKind.i64.wrap ((a:Int)+(i:Int))=(a:Int)+(i:Int):=by rw [Dv];omega
    have ec:((b:Int)+(i:Int)).toNat=b+i:=by omega
    have pc:(0:Int)≤(b:Int)+(i:Int):=by omega
    have bc:(b:Int)+(i:Int)<(n:Int):=by omega
    have rc:IntKind.i64.wrap ((b:Int)+(i:Int))=(b:Int)+(i:Int):=by rw [Dv];omega
    have H:af wr.drew base g n c (dP Z P M Q Y i):=a0.o.below (Below.refl _ _).drew;have gd:w.grownBy wr.drew (some g):=ae ag.o (fd _ _);clear hat hx hy ar av a0;go_wp2_with fail
    refine wp_region_held_drew (S:=(fun w'=>g<w'.heap.size)) (by kernel_rfl) (by exact H.lt.2) (fun J=>?_);generalize wr.drew=wd at H gd J ⊢;refine aP 0 13 J ?_;refine aP 14 5 J ?_;refine jX 13 19 (fun K hK=>?_) fun K hK=>?_
    · obtain ⟨E,f,u,D,C⟩:=H.at5 HY.o;have r:=H.lt.2;go_simp;clear E f u D C r;refine hK.o _ _ (by exact H.lt.2) fun J=>?_
      (try go_frame);refine aR 19 fun K hK=>?_
      obtain ⟨E,f,u,D,C⟩:=H.at5 HX.o;have r:=H.lt.2;go_simp;clear E f u D C r;refine hK.o _ _ (by exact H.lt.2) fun J=>?_
      (try go_frame);refine aP 20 1 J ?_;refine aR 21 fun K hK=>?_
      obtain ⟨E,f,u,D,C⟩:=H.at5 HX.o;have r:=H.lt.2;have I:=H.owns.frozenAt;have f0:=I ((a+i)*5);have f1:=I ((a+i)*5+1);have f2:=I ((a+i)*5+2);have f3:=I ((a+i)*5+3);have f4:=I ((a+i)*5+4);clear I;go_simp;clear E f u D C r;clear f0 f1 f2 f3 f4;have k1:=H.setE (i:=a+i) (e:=(R,T,U,O,F)) HI.o (H.ents _ (CV HY.o));refine hK.o _ (setE wd g (a+i) (R,T,U,O,F)) (by exact k1.lt.2) (fun J=>?_);clear hK K;have N:=df wd g (a+i) (R,T,U,O,F);generalize setE wd g (a+i) (R,T,U,O,F)=L at k1 N J ⊢;(try go_frame);refine aP 22 1 J ?_;refine aR 23 fun K hK=>?_
      have a2:((dP Z P M Q Y i).set (a+i) (R,T,U,O,F))[b+i]?=some (R,T,U,O,F):=by rw [Dx ai.o];exact HY.o
      obtain ⟨E,f,u,D,C⟩:=k1.at5 a2;have r:=k1.lt.2;have I:=k1.owns.frozenAt;have f0:=I ((b+i)*5);have f1:=I ((b+i)*5+1);have f2:=I ((b+i)*5+2);have f3:=I ((b+i)*5+3);have f4:=I ((b+i)*5+4);clear I;go_simp;clear E f u D C r;clear f0 f1 f2 f3 f4;have k2:=k1.setE (i:=b+i) (e:=(s,q,d,t,nn)) HJ.o (H.ents _ (CV HX.o));refine hK.o _ (setE L g (b+i) (s,q,d,t,nn)) (by exact k2.lt.2) (fun J=>?_);clear hK K;have gw:wd.grownBy (setE L g (b+i) (s,q,d,t,nn)) (some g):=ae N (df L g (b+i) (s,q,d,t,nn));generalize setE L g (b+i) (s,q,d,t,nn)=W at k2 gw J ⊢;(try go_frame);refine dN ?_;have a6:CG (af W base g n c (dP Z P M Q Y (i+1))):=by have:=k2;rw [ao.o] at this;exact this
      have a3:CG (w.grownBy W (some g)):=ae gd gw;clear k2 gw H k1 N gd J;go_wp2;go_roundw
      case rel=>exact ⟨i+1,by omega,by go_num,a6.o,a3.o⟩
      case measure=>simp [intOf];omega
    · obtain ⟨E,f,u,D,C⟩:=H.at5 HX.o;have r:=H.lt.2;go_simp;clear E f u D C r;refine hK.o _ _ (by exact H.lt.2) fun J=>?_
      (try go_frame);refine aR 13 fun K hK=>?_
      obtain ⟨E,f,u,D,C⟩:=H.at5 HY.o;have r:=H.lt.2;go_simp;clear E f u D C r;refine hK.o _ _ (by exact H.lt.2) fun J=>?_
      (try go_frame);refine aP 20 1 J ?_;refine aR 21 fun K hK=>?_
      obtain ⟨E,f,u,D,C⟩:=H.at5 HX.o;have r:=H.lt.2;have I:=H.owns.frozenAt;have f0:=I ((a+i)*5);have f1:=I ((a+i)*5+1);have f2:=I ((a+i)*5+2);have f3:=I ((a+i)*5+3);have f4:=I ((a+i)*5+4);clear I;go_simp;clear E f u D C r;clear f0 f1 f2 f3 f4;have k1:=H.setE (i:=a+i) (e:=(R,T,U,O,F)) HI.o (H.ents _ (CV HY.o));refine hK.o _ (setE wd g (a+i) (R,T,U,O,F)) (by exact k1.lt.2) (fun J=>?_);clear hK K;have N:=df wd g (a+i) (R,T,U,O,F);generalize setE wd g (a+i) (R,T,U,O,F)=L at k1 N J ⊢;(try go_frame);refine aP 22 1 J ?_;refine aR 23 fun K hK=>?_
      have a2:((dP Z P M Q Y i).set (a+i) (R,T,U,O,F))[b+i]?=some (R,T,U,O,F):=by rw [Dx ai.o];exact HY.o
      obtain ⟨E,f,u,D,C⟩:=k1.at5 a2;have r:=k1.lt.2;have I:=k1.owns.frozenAt;have f0:=I ((b+i)*5);have f1:=I ((b+i)*5+1);have f2:=I ((b+i)*5+2);have f3:=I ((b+i)*5+3);have f4:=I ((b+i)*5+4);clear I;go_simp;clear E f u D C r;clear f0 f1 f2 f3 f4;have k2:=k1.setE (i:=b+i) (e:=(s,q,d,t,nn)) HJ.o (H.ents _ (CV HX.o));refine hK.o _ (setE L g (b+i) (s,q,d,t,nn)) (by exact k2.lt.2) (fun J=>?_);clear hK K;have gw:wd.grownBy (setE L g (b+i) (s,q,d,t,nn)) (some g):=ae N (df L g (b+i) (s,q,d,t,nn));generalize setE L g (b+i) (s,q,d,t,nn)=W at k2 gw J ⊢;(try go_frame);refine dN ?_;have a6:CG (af W base g n c (dP Z P M Q Y (i+1))):=by have:=k2;rw [ao.o] at this;exact this
      have a3:CG (w.grownBy W (some g)):=ae gd gw;clear k2 gw H k1 N gd J;go_wp2;go_roundw
      case rel=>exact ⟨i+1,by omega,by go_num,a6.o,a3.o⟩
      case measure=>simp [intOf];omega
  · have am:¬(i:Int)<(m:Int):=by omega
    have aj:i=m:=by omega
    have HD:CG (af wr base g n c (Z++(Q++(M++(P++Y))))):=by have:=a0.o;rw [aj,Bs Z P M Q Y m HP.o HQ.o] at this;exact this
    clear aj a0;go_wp2;go_end0;exact ⟨rfl,HD.o,ag.o⟩
theorem Bj (base g n c:Nat) (Z U V Y:List ac) (a m b:Nat) (fv:Value) (w:World) (hO:af w base g n c (Z++(U++(V++Y)))) (ha:a=Z.length) (hm:m=Z.length+U.length) (hb:b=Z.length+U.length+V.length) (hU:1≤U.length) (hV:1≤V.length) (hn:n≤1048576) :
 Calls Tryz.prog 239 #[sL g n c,iT a,iT m,iT b,fv] w fun e w'=>e=.returned (.tuple #[])∧af w' base g n c (Z++(V++(U++Y)))∧w.grownBy w' (some g):=by
 obtain ⟨T,hT⟩:=aH (Z++(V++(U++Y)));rw [← hT];have Q:CG (T=Z++(V++(U++Y))):=hT;have R:=bO hO;have hl:=hO.len;simp only [CW] at hl;have r1:IntKind.i64.wrap ((m:Int) - (a:Int))=((U.length:Nat):Int):=by rw [Dv];omega
 have r2:IntKind.i64.wrap ((b:Int) - (m:Int))=((V.length:Nat):Int):=by rw [Dv];omega
 obtain ⟨i0,K⟩:=aH U.length;obtain ⟨j0,I⟩:=aH V.length;have X:CG (∃(r d f s:List ac),1≤i0∧1≤j0∧d.length=i0∧f.length=j0∧m=r.length+i0∧m+j0≤n∧T=r++(f++(d++s))∧af w base g n c (r++(d++(f++s)))):=⟨Z,U,V,Y,by omega,by omega,K.symm,I.symm,by omega,by omega,Q.o,R.o⟩;rw [← K] at r1;rw [← I] at r2;clear hT hO ha hm hb hU hV hl K I Q R;go_enter Tryz.func239,Tryz.ntmps239
 go_wp2;clear r1 r2;go_loopw [10,11] (fun iv jv wr=>∃(i j:Nat) (r d f s:List ac),iv=iT i∧jv=iT j∧1≤i∧1≤j∧d.length=i∧f.length=j∧m=r.length+i∧m+j≤n∧T=r++(f++(d++s))∧af wr base g n c (r++(d++(f++s)))∧w.grownBy wr (some g)) (fun iv jv _=>(intOf iv).toNat+(intOf jv).toNat)
 case atStart =>
  obtain ⟨r,d,f,s,h1,h2,h3,h4,h5,h6,h7,h8⟩:=X.o;exact ⟨i0,j0,r,d,f,s,rfl,rfl,h1,h2,h3,h4,h5,h6,h7,h8,⟨rfl,rfl,rfl,Cy _,fun _ _ _=>rfl⟩⟩
 case round =>
  obtain ⟨i,j,r,d,f,s,rfl,rfl,hi,hj,hu,hv,a0,ab,a3,a5,a1⟩:=hrel;have W:CG (d.length=i):=hu;have L:CG (f.length=j):=hv;have E:CG (m=r.length+i):=a0;have Q:CG (T=r++(f++(d++s))):=a3;have R:CG (af wr base g n c (r++(d++(f++s)))):=a5;have HG:CG (w.grownBy wr (some g)):=a1;have ap:i≤m:=by omega
  clear hu hv a0 a3 a5 a1 X;have rm:IntKind.i64.wrap ((m:Int) - (i:Int))=((m - i:Nat):Int):=by rw [Dv];omega
  by_cases O:i=j
  · have ag:¬((i:Int)≠(j:Int)):=by omega
    have a2:((i:Int) == (j:Int))=true:=by simp [O]
    have aj:CG (i=j):=O;subst O;have D:CG (af wr base g n c (r++(d++([]++(f++s))))):=by simpa [CG] using R.o
    go_wp2_with fail
    refine (lS base g n c r d [] f s (m - i) m i _ _ D.o (by have:=E.o;omega) (by have:=E.o;simp;omega) W.o L.o hn).mono ?_;rintro e F ⟨rfl,u,t⟩;have y:CG (af F base g n c T):=by rw [Q.o];simpa [CG] using u
    have C:CG (w.grownBy F (some g)):=ae HG.o t;clear u t;go_wp2;go_end0;exact ⟨rfl,y.o,C.o⟩
  · have a2:((i:Int) == (j:Int))=false:=by simp;omega
    by_cases al:j<i
    · have a4:(j:Int)<(i:Int):=by omega
      have rs:IntKind.i64.wrap ((i:Int) - (j:Int))=((i - j:Nat):Int):=by rw [Dv];omega
      have J:d=d.take j++d.drop j:=(Ds j d).symm;have D:CG (af wr base g n c (r++(d.take j++(d.drop j++(f++s))))):=by
       have:=R.o;rw [J,Di] at this;simpa [CG] using this
      have N:CG (T=(r++f)++(d.take j++(d.drop j++s))):=by
       have:=Q.o;rw [J,Di] at this;simpa [CG] using this
      clear J;go_wp2_with fail
      refine (lS base g n c r (d.take j) (d.drop j) f s (m - i) m j _ _ D.o (by have:=E.o;omega) (by have:=E.o;have:=W.o;simp;omega) (by have:=W.o;simp;omega) L.o hn).mono ?_;rintro e F ⟨rfl,u,t⟩;have y:CG (af F base g n c ((r++f)++(d.drop j++(d.take j++s)))):=by simpa [CG] using u
      have C:CG (w.grownBy F (some g)):=ae HG.o t;clear u t;go_wp2;go_roundw
      case rel=>exact ⟨i - j,j,r++f,d.drop j,d.take j,s,rfl,rfl,by omega,hj,by have:=W.o;simp;omega,by have:=W.o;simp;omega,by have:=E.o;have:=L.o;simp;omega,ab,N.o,y.o,C.o⟩
      case measure=>simp [intOf];omega
    · have a4:¬(j:Int)<(i:Int):=by omega
      have rs:IntKind.i64.wrap ((j:Int) - (i:Int))=((j - i:Nat):Int):=by rw [Dv];omega
      have ra:IntKind.i64.wrap ((m:Int)+(j:Int))=(m:Int)+(j:Int):=by rw [Dv];omega
      have rb:IntKind.i64.wrap ((m:Int)+(j:Int) - (i:Int))=((m+j - i:Nat):Int):=by rw [Dv];omega
      have H:f=f.take (j - i)++f.drop (j - i):=(Ds (j - i) f).symm;have D:CG (af wr base g n c (r++(d++(f.take (j - i)++(f.drop (j - i)++s))))):=by
       have:=R.o;rw [H,Di] at this;simpa [CG] using this
      have N:CG (T=r++(f.take (j - i)++(f.drop (j - i)++(d++s)))):=by
       have:=Q.o;rw [H,Di] at this;simpa [CG] using this
      clear H;go_wp2_with fail
      refine (lS base g n c r d (f.take (j - i)) (f.drop (j - i)) s (m - i) (m+j - i) i _ _ D.o (by have:=E.o;omega) (by have:=E.o;have:=L.o;simp;omega) W.o (by have:=L.o;simp;omega) hn).mono ?_;rintro e F ⟨rfl,u,t⟩;have y:CG (af F base g n c (r++(f.drop (j - i)++(f.take (j - i)++(d++s))))):=u;have C:CG (w.grownBy F (some g)):=ae HG.o t;clear u t;go_wp2;go_roundw
      case rel=>exact ⟨i,j - i,r,f.drop (j - i),f.take (j - i),d++s,rfl,rfl,hi,by omega,by have:=L.o;simp;omega,by have:=L.o;simp;omega,E.o,by omega,N.o,y.o,C.o⟩
      case measure=>simp [intOf];omega
end Go.Proofs.YtpobkmjicbobdaaGreat
