/- Walks. -/
import Derived.Test.YtpobkmjicbobdaaGreatBc31
namespace Go.Proofs.YtpobkmjicbobdaaGreat
set_option maxRecDepth 100000
set_option maxHeartbeats 40000000
open Go.RowKit
variable {A B M:List ae} {a b e x:ae} {bs:Nat}
/-! Two rows in order made one, the first ahead where times are alike. -/
def fX : List ae → List ae → List ae
  | [], B => B
  | a :: A, [] => a :: A
  | a :: A, b :: B => if b.2.1 < a.2.1 then b :: fX (a :: A) B else a :: fX A (b :: B)
termination_by A B => A.length + B.length
theorem fi (B : List ae) : fX [] B = B := by rw [fX]
theorem ee : ∀ A : List ae, fX A [] = A
  | [] => by rw [fX]
  | a :: A => by rw [fX]
theorem fM (h : b.2.1 < a.2.1) : fX (a :: A) (b :: B) = b :: fX (a :: A) B := by rw [fX, if_pos h]
theorem fN (h : ¬ b.2.1 < a.2.1) : fX (a :: A) (b :: B) = a :: fX A (b :: B) := by rw [fX, if_neg h]
theorem tA : ∀ (A B : List ae), (fX A B).length = A.length + B.length
  | [], B => by rw [fi]; simp
  | a :: A, [] => by rw [ee]; simp
  | a :: A, b :: B => by
    by_cases h : b.2.1 < a.2.1
    · rw [fM h, F5, tA (a :: A) B]; simp; omega
    · rw [fN h, F5, tA A (b :: B)]; simp; omega
termination_by A B => A.length + B.length
theorem mj : ∀ (A B : List ae), (fX A B).Perm (A ++ B)
  | [], B => by rw [fi]; simp
  | a :: A, [] => by rw [ee]; simp
  | a :: A, b :: B => by
    by_cases h : b.2.1 < a.2.1
    · rw [fM h]; exact ((mj (a :: A) B).cons b).trans List.perm_middle.symm
    · rw [fN h]; exact (mj A (b :: B)).cons a
termination_by A B => A.length + B.length
theorem f9 : ∀ (m d n f : List ae), (∀ a ∈ m, ∀ b ∈ f, ¬ b.2.1 < a.2.1) → (∀ b ∈ n, ∀ a ∈ d, b.2.1 < a.2.1) → fX (m ++ d) (n ++ f) = fX m n ++ fX d f
  | [], d, [], f, _, _ => by simp [fi]
  | [], [], b :: n, f, _, _ => by simp [fi]
  | [], a :: d, b :: n, f, h1, h2 => by
    have hb := h2 b FV a FV
    have g := f9 [] (a :: d) n f h1 (fun x hx => h2 x (FY _ hx))
    simp only [Gb, fi, Gd] at g ⊢
    rw [fM hb, g]
  | a :: m, d, [], [], _, _ => by simp [ee]
  | a :: m, d, [], b :: f, h1, h2 => by
    have hb := h1 a FV b FV
    have g := f9 m d [] (b :: f) (fun x hx => h1 x (FY _ hx)) h2
    simp only [Gb, ee, Gd] at g ⊢
    rw [fN hb, g]
  | a :: m, d, b :: n, f, h1, h2 => by
    by_cases h : b.2.1 < a.2.1
    · have g := f9 (a :: m) d n f h1 (fun x hx => h2 x (FY _ hx))
      simp only [Gd] at g ⊢
      rw [fM h, fM h, g]
      rfl
    · have g := f9 m d (b :: n) f (fun x hx => h1 x (FY _ hx)) h2
      simp only [Gd] at g ⊢
      rw [fN h, fN h, g]
      rfl
termination_by m _ n _ => m.length + n.length
theorem tz (x : ae) (d B2 : List ae) (h1 : ∀ b ∈ d, b.2.1 < x.2.1) (h2 : ∀ b ∈ B2, ¬ b.2.1 < x.2.1) : fX [x] (d ++ B2) = d ++ x :: B2 := by
  have h := f9 [] [x] d B2 (by simp) (fun b hb a ha => by simp only [FL] at ha; subst ha; exact h1 b hb)
  simp only [Gb, fi] at h
  rw [h]
  cases B2 with
  | nil => rw [ee]
  | cons b B2 => rw [fN (h2 b FV), fi]
theorem re (y : ae) (d A2 : List ae) (h1 : ∀ a ∈ d, ¬ y.2.1 < a.2.1) (h2 : ∀ a ∈ A2, y.2.1 < a.2.1) : fX (d ++ A2) [y] = d ++ y :: A2 := by
  have h := f9 d A2 [] [y] (fun a ha b hb => by simp only [FL] at hb; subst hb; exact h1 a ha) (by simp)
  simp only [Gb, ee] at h
  rw [h]
  cases A2 with
  | nil => rw [fi]
  | cons a A2 => rw [fM (h2 a FV), ee]
def Asc (A : List ae) : Prop := A.Pairwise (fun a b => a.2.1 ≤ b.2.1)
theorem fh (h : Asc (x :: M)) (f : e.2.1 < x.2.1) : eX (x :: M) e = e :: x :: M := by
  have h1 := FR.1 h
  have d : ∀ y ∈ x :: M, e.2.1 < y.2.1 := fun y hy => by
    rcases FF.1 hy with rfl | hy
    · exact f
    · have := h1.1 y hy; omega
  have := pC (A := []) (B := x :: M) d
  simp only [Gb] at this
  rw [this]
  simp [eX, io]
theorem uO {x : ae} {M : List ae} {q : Int} (hx : ¬ q < x.2.1) : ∀ k, k ≤ M.length → io (x :: M) q (k + 1) = io M q k + 1
  | 0, _ => by simp [io, hx]
  | k + 1, hk => by
    have hm := j' (show k < M.length from hk)
    have h1 : (x :: M)[k + 1]? = some M[k] := by simp
    have e1 : io (x :: M) q (k + 1 + 1) = if q < M[k].2.1 then io (x :: M) q (k + 1) else k + 1 + 1 := by rw [io, h1]
    have e2 : io M q (k + 1) = if q < M[k].2.1 then io M q k else k + 1 := by rw [io, hm]
    rw [e1, e2]
    by_cases hc : q < M[k].2.1
    · rw [if_pos hc, if_pos hc]; exact uO hx k (by omega)
    · rw [if_neg hc, if_neg hc]
theorem eN (d : ¬ e.2.1 < x.2.1) : eX (x :: M) e = x :: eX M e := by
  unfold eX
  rw [F5, uO d M.length (Fv _)]
  simp
theorem oT : ∀ {A B : List ae}, Asc A → Asc B → Asc (fX A B)
  | [], B, _, hB => by rw [fi]; exact hB
  | a :: A, [], hA, _ => by rw [ee]; exact hA
  | a :: A, b :: B, hA, hB => by
    have a1 := FR.1 hA
    have b1 := FR.1 hB
    by_cases h : b.2.1 < a.2.1
    · rw [fM h]
      refine FR.2 ⟨fun y hy => ?_, oT hA b1.2⟩
      rcases FI.1 ((mj _ _).mem_iff.1 hy) with hy | hy
      · rcases FF.1 hy with rfl | hy
        · omega
        · have := a1.1 y hy; omega
      · exact b1.1 y hy
    · rw [fN h]
      refine FR.2 ⟨fun y hy => ?_, oT a1.2 hB⟩
      rcases FI.1 ((mj _ _).mem_iff.1 hy) with hy | hy
      · exact a1.1 y hy
      · rcases FF.1 hy with rfl | hy
        · omega
        · have := b1.1 y hy; omega
termination_by A B => A.length + B.length
theorem jL (e : ae) : ∀ {A B : List ae}, Asc A → Asc B → eX (fX A B) e = fX A (eX B e)
  | [], B, _, _ => by rw [fi, fi]
  | a :: A, [], hA, _ => by
    have a1 := FR.1 hA
    rw [ee]
    have : eX [] e = [e] := by simp [eX, io]
    rw [this]
    by_cases h : e.2.1 < a.2.1
    · rw [fh hA h, fM h, ee]
    · rw [eN h, fN h]
      have m := jL e a1.2 (B := []) List.Pairwise.nil
      rw [ee, this] at m
      rw [m]
  | a :: A, b :: B, hA, hB => by
    have a1 := FR.1 hA
    have b1 := FR.1 hB
    by_cases f : b.2.1 < a.2.1
    · by_cases d : e.2.1 < b.2.1
      · have hs := oT hA hB
        rw [fM f] at hs ⊢
        rw [fh hs d, fh hB d, fM (show e.2.1 < a.2.1 by omega), fM f]
      · rw [fM f, eN d, eN d, fM f, jL e hA b1.2]
    · by_cases d : e.2.1 < b.2.1
      · rw [fh hB d]
        by_cases g : e.2.1 < a.2.1
        · have hs := oT hA hB
          rw [fN f] at hs ⊢
          rw [fh hs g, fM g, fN f]
        · rw [fN f, eN g, fN g, jL e a1.2 hB, fh hB d]
      · rw [fN f, eN (show ¬ e.2.1 < a.2.1 by omega), eN d, fN f, jL e a1.2 hB, eN d]
termination_by A B => A.length + B.length
theorem Cw (A : List ae) : ∀ B : List ae, bE (A ++ B) = fX (bE A) (bE B) := by
  have key : ∀ n (B : List ae), B.length = n → bE (A ++ B) = fX (bE A) (bE B) := by
    intro n
    induction n with
    | zero => intro B h; rw [Gk] at h; subst h; simp [bE, ee]
    | succ n f =>
      intro B h
      obtain ⟨d, x, rfl⟩ : ∃ d x, B = d ++ [x] := ⟨B.dropLast, B.getLast (by intro h0; simp [h0] at h), (List.dropLast_concat_getLast _).symm⟩
      simp at h
      rw [← FT, kU, kU, f d h, jL x (fa A) (fa d)]
  exact fun B => key _ B rfl
/-! Rows of so many, each in order. -/
def DK (bs : Nat) : Nat → List ae → List ae
  | 0, L => bE L
  | f + 1, L => if L.length ≤ bs then bE L else bE (L.take bs) ++ DK bs f (L.drop bs)
theorem vq {bs : Nat} (hb : 1 ≤ bs) : ∀ (f d : Nat) (L : List ae), L.length ≤ f → L.length ≤ d → DK bs f L = DK bs d L
  | 0, 0, L, _, _ => rfl
  | 0, d + 1, L, h, _ => by
    have : L.length ≤ bs := by omega
    simp [DK, this]
  | f + 1, 0, L, _, h => by
    have : L.length ≤ bs := by omega
    simp [DK, this]
  | f + 1, d + 1, L, h, h' => by
    simp only [DK]
    by_cases hl : L.length ≤ bs
    · rw [if_pos hl, if_pos hl]
    · rw [if_neg hl, if_neg hl, vq hb f d (L.drop bs) (by simp; omega) (by simp; omega)]
def jA (bs : Nat) (L : List ae) : List ae := DK bs L.length L
theorem js {bs : Nat} {L : List ae} (h : L.length ≤ bs) : jA bs L = bE L := by
  unfold jA
  match hl : L.length with
  | 0 => rfl
  | n + 1 => rw [DK, if_pos (by omega)]
theorem qD (hb : 1 ≤ bs) (L : List ae) : jA bs L = bE (L.take bs) ++ jA bs (L.drop bs) := by
  by_cases d : L.length ≤ bs
  · rw [js d, FH d, GD d, js (by simp)]
    simp [bE]
  · unfold jA
    obtain ⟨n, hn⟩ : ∃ n, L.length = n + 1 := ⟨L.length - 1, by omega⟩
    rw [hn, DK, if_neg d, vq hb n (L.drop bs).length (L.drop bs) (by simp; omega) (Fv _)]
theorem yD (bs : Nat) (R : List ae) : fX (bE (R.take bs)) (bE (R.drop bs)) = bE R := by
  rw [← Cw, FX]
/-! The steps of the library's stable sort, on plain rows. -/
theorem A4 (d f g : List ae) (p q : ae) : Sort.swp (d ++ p :: (f ++ q :: g)).toArray d.length (d.length + 1 + f.length) = (d ++ q :: (f ++ p :: g)).toArray := by
  unfold Sort.swp
  apply Array.ext'
  have e1 : (d ++ p :: (f ++ q :: g))[d.length + 1 + f.length]? = some q := by
    rw [Fz (by omega), show d.length + 1 + f.length - d.length = f.length + 1 by omega]
    simp
  have n : ((d ++ p :: (f ++ q :: g)).toArray)[d.length + 1 + f.length]! = q := by simp [e1]
  have m : ((d ++ p :: (f ++ q :: g)).toArray)[d.length]! = p := by simp
  rw [n, m]
  simp only [G8]
  rw [GB _ _ (Fv _), G5, GY, GB _ _ (by omega), show d.length + 1 + f.length - d.length = f.length + 1 by omega, GL, GB _ _ (Fv _), G5, GY]
theorem Dk (Z D : List ae) (i j : Nat) (hi : i < D.length) (d : j < D.length) : Sort.swp (Z ++ D).toArray (Z.length + i) (Z.length + j) = (Z ++ (Sort.swp D.toArray i j).toList).toArray := by
  unfold Sort.swp
  apply Array.ext'
  have e1 : (Z ++ D)[Z.length + j]? = some D[j] := by rw [Fz (by omega), GI, j' d]
  have e0 : (Z ++ D)[Z.length + i]? = some D[i] := by rw [Fz (by omega), GI, j' hi]
  have g : ((Z ++ D).toArray)[Z.length + j]! = D[j] := by simp [e1]
  have f : ((Z ++ D).toArray)[Z.length + i]! = D[i] := by simp [e0]
  have h1 : (D.toArray)[j]! = D[j] := by simp [d]
  have h0 : (D.toArray)[i]! = D[i] := by simp [hi]
  rw [g, f, h1, h0]
  simp only [G8]
  rw [GB _ _ (by omega), GI, GB _ _ (by omega), GI]
theorem ug (D : List ae) (i j : Nat) : (Sort.swp D.toArray i j).toList.length = D.length := by unfold Sort.swp; simp
theorem sf (Z : List ae) : ∀ (j : Nat) (D : List ae), j < D.length → Sort.insInner wX Z.length (Z.length + j) (Z ++ D).toArray = (Z ++ (Sort.insInner wX 0 j D.toArray).toList).toArray
  | 0, D, _ => by
    simp only [Gv, Sort.insInner]
    cases hz : Z.length with
    | zero => simp [Sort.insInner]
    | succ k => simp [Sort.insInner]
  | j + 1, D, d => by
    show Sort.insInner wX Z.length (Z.length + j + 1) (Z ++ D).toArray = _
    have e1 : (Z ++ D)[Z.length + j + 1]? = some D[j + 1] := by rw [Fz (by omega), show Z.length + j + 1 - Z.length = j + 1 by omega, j' d]
    have e0 : (Z ++ D)[Z.length + j]? = some D[j] := by rw [Fz (by omega), GI, j']
    have g : ((Z ++ D).toArray)[Z.length + j + 1]! = D[j + 1] := by simp [e1]
    have f : ((Z ++ D).toArray)[Z.length + j]! = D[j] := by simp [e0]
    have h1 : (D.toArray)[j + 1]! = D[j + 1] := by simp [d]
    have h0 : (D.toArray)[j]! = D[j] := by simp [show j < D.length by omega]
    rw [Sort.insInner, Sort.insInner, g, f, h1, h0]
    by_cases hc : wX D[j + 1] D[j] = true
    · have hs : Sort.swp (Z ++ D).toArray (Z.length + j + 1) (Z.length + j) = (Z ++ (Sort.swp D.toArray (j + 1) j).toList).toArray := Dk Z D (j + 1) j d (by omega)
      have m := sf Z j (Sort.swp D.toArray (j + 1) j).toList (by rw [ug]; omega)
      rw [if_pos (by simp [hc]; omega), if_pos (by simp [hc]), hs, m]
    · rw [if_neg (by simp [hc]), if_neg (by simp [hc])]
theorem pV (lt : ae → ae → Bool) (a : Nat) : ∀ (j : Nat) (D : List ae), (Sort.insInner lt a j D.toArray).toList.length = D.length
  | 0, D => by simp [Sort.insInner]
  | j + 1, D => by
    rw [Sort.insInner]
    split
    · have := pV lt a j (Sort.swp D.toArray (j + 1) j).toList
      rw [ug] at this
      simpa using this
    · rfl
theorem zD (Z : List ae) (b : Nat) : ∀ (m i : Nat) (D : List ae), b - i = m → b ≤ D.length → Sort.insOuter wX Z.length (Z.length + b) (Z.length + i) (Z ++ D).toArray = (Z ++ (Sort.insOuter wX 0 b i D.toArray).toList).toArray := by
  intro m
  induction m with
  | zero =>
    intro i D hm hb
    rw [Sort.insOuter, if_neg (by omega), Sort.insOuter, if_neg (by omega)]
  | succ m d =>
    intro i D hm hb
    rw [Sort.insOuter, if_pos (by omega), sf Z i D (by omega)]
    conv => rhs; rw [Sort.insOuter, if_pos (show i < b by omega)]
    have := d (i + 1) (Sort.insInner wX 0 i D.toArray).toList (by omega) (by rw [pV]; exact hb)
    rw [show Z.length + i + 1 = Z.length + (i + 1) by omega, this]
theorem wQ (L Y : List ae) : ∀ m i, L.length - i = m → i ≤ L.length → Sort.insOuter wX 0 L.length i (bE (L.take i) ++ (L.drop i ++ Y)).toArray = (bE L ++ Y).toArray := by
  intro m
  induction m with
  | zero =>
    intro i hm hi
    have : i = L.length := by omega
    subst this
    rw [Sort.insOuter, if_neg (by omega)]
    simp
  | succ m f =>
    intro i hm hi
    have d : i < L.length := by omega
    rw [Sort.insOuter, if_pos d, Gj d]
    have hl : (bE (L.take i)).length = i := by rw [fb]; simp; omega
    have := Dx (bE (L.take i)) (L.drop (i + 1) ++ Y) L[i]
    rw [hl] at this
    simp only [Gd]
    rw [this, ← At (j' d)]
    exact f (i + 1) (by omega) (by omega)
theorem BV (Z X Y : List ae) : Sort.insertionSort wX (Z ++ (X ++ Y)).toArray Z.length (Z.length + X.length) = (Z ++ (bE X ++ Y)).toArray := by
  unfold Sort.insertionSort
  rw [zD Z X.length (X.length - 1) 1 (X ++ Y) rfl (by simp)]
  by_cases h : X.length = 0
  · rw [Gk] at h
    subst h
    rw [Sort.insOuter, if_neg (by simp)]
    simp [bE]
  · have h1 : bE (X.take 1) ++ (X.drop 1 ++ Y) = X ++ Y := by
      match X, h with
      | [], h => simp at h
      | x :: r, _ => simp [bE, eX, io]
    have := wQ X Y (X.length - 1) 1 rfl (by omega)
    rw [h1] at this
    rw [this]
def eo (Z P M Q Y : List ae) (i : Nat) : List ae := (Z ++ Q.take i) ++ (P.drop i ++ (M ++ (P.take i ++ (Q.drop i ++ Y))))
theorem DD (Z P M Q Y : List ae) (i n : Nat) (d : P.length = n) (hQ : Q.length = n) (hi : i < n) : Sort.swp (eo Z P M Q Y i).toArray (Z.length + i) (Z.length + n + M.length + i) = (eo Z P M Q Y (i + 1)).toArray := by
  have hp : i < P.length := by omega
  have hq : i < Q.length := by omega
  have e1 : eo Z P M Q Y i = (Z ++ Q.take i) ++ P[i] :: ((P.drop (i + 1) ++ (M ++ P.take i)) ++ Q[i] :: (Q.drop (i + 1) ++ Y)) := by
    unfold eo
    rw [Gj hp, Gj hq]
    simp only [FT, Gd]
  have e2 : eo Z P M Q Y (i + 1) = (Z ++ Q.take i) ++ Q[i] :: ((P.drop (i + 1) ++ (M ++ P.take i)) ++ P[i] :: (Q.drop (i + 1) ++ Y)) := by
    unfold eo
    rw [FU, FU, j' hp, j' hq]
    simp only [Option.toList_some, FT, Gd, Gb]
  have := A4 (Z ++ Q.take i) (P.drop (i + 1) ++ (M ++ P.take i)) (Q.drop (i + 1) ++ Y) P[i] Q[i]
  rw [← e1, ← e2] at this
  have l1 : (Z ++ Q.take i).length = Z.length + i := by simp; omega
  have l2 : (P.drop (i + 1) ++ (M ++ P.take i)).length = n - (i + 1) + M.length + i := by simp; omega
  rw [l1, l2] at this
  rw [← this]
  congr 1
  omega
theorem Ev (Z P M Q Y : List ae) : eo Z P M Q Y 0 = Z ++ (P ++ (M ++ (Q ++ Y))) := by simp [eo]
theorem Eu (Z P M Q Y : List ae) (n : Nat) (d : P.length = n) (hQ : Q.length = n) : eo Z P M Q Y n = Z ++ (Q ++ (M ++ (P ++ Y))) := by
  unfold eo
  rw [FH (by omega), GD (by omega), FH (by omega), GD (by omega)]
  simp
end Go.Proofs.YtpobkmjicbobdaaGreat
namespace Go.Proofs.YtpobkmjicbobdaaGreat
set_option maxRecDepth 100000
set_option maxHeartbeats 8000000
open Go.RowKit Go.Sort
theorem uS {w:World} {base g n c:Nat} {D:List ae} {cur:Array Value} (hb:base≤g) (hg:w.heap[g]?=some (.cells cur 50 (0,0))) (hs:cur.size=c*5) (hE:ah w (pT g) n c D):ag w base g n c D:=by
 have hl:=hE.length;have hr:=hE.room;refine ⟨⟨by rw [aV,hl],Or.inr ⟨g,c,cur,rfl,hb,hg,hr,hE.big,hs,?_⟩⟩,hl,hE.ents⟩;apply List.ext_getElem?;intro j;by_cases f:j<n*5
 · have d:j<(aC D).length:=by rw [aV,hl];exact f
   have h1:=bC hE j _ (j' d);rw [FO,FG] at h1;have h2:w.cell? ⟨g,j,none⟩=cur[j]?:=by simp [World.cell?,hg]
   rw [h2] at h1;rw [Hv,if_pos f,Array.getElem?_toList,h1,j' d]
 · rw [Hd (by simp;omega),Hd (by rw [aV,hl];omega)]
theorem ag.block {w:World} {base g n c:Nat} {L:List ae} (h:ag w base g n c L):∃d,w.heap[g]?=some (.cells d 50 (0,0))∧d.size=c*5:=by
 rcases h.owns.2 with ⟨hv,_⟩ | ⟨m,f,d,hv,_,h2,_,_,h5,_⟩
 · cases hv
 · cases hv;exact ⟨d,h2,h5⟩
theorem wO {w:World} {base g n c m:Nat} {o:Array Obj} {L D:List ae} (hO:ag w base g n c L) (hp:D.Perm L):ag (sortWorldK aX 5 w g 0 m D.toArray o) base g n c D:=by
 have hE:=hO.entsAt;have hl:D.length=n:=hp.length_eq.trans hO.len;have r:=holdsK_sortWorldK_c aX 5 w g 0 L.toArray D.toArray m o (p8 hO) hO.lt.2 (by simp [hp.length_eq]);obtain ⟨cur,hg,hs⟩:=hO.block;have f:=hO.lt.2;refine uS (cur:=putCells id 0 (flatK aX 5 D.toArray) cur) hO.lt.1 ?_ (by simpa [putCells] using hs) ⟨hl,hE.room,hE.big,fun l d=>hO.ents l (hp.mem_iff.1 d),(fun e=>by cases e),(fun x e _=>by cases e;exact ⟨u' hO.lt.2 (mq _).size,rfl⟩),(fun x e i hi=>by cases e;exact xJ r i hi)⟩;unfold sortWorldK putRowK;rw [heap_grow_old _ _ (by simpa [putRow,mapBlock,Sort.ahead] using f)];simp [putRow,mapBlock,Sort.ahead,Array.getElem?_modify,hg,onCells]
theorem ym (base g n c:Nat) (Z X Y:List ae) (a b:Nat) (w:World) (hO:ag w base g n c (Z++(X++Y))) (ha:a=Z.length) (hb:b=Z.length+X.length) (hn:n≤1048576) :
 Calls Tryz.prog 213 #[sL g n c,iT a,iT b,.func (.func 112) #[] #[]] w fun e w'=>e=.returned (.tuple #[])∧ag w' base g n c (Z++(bE X++Y))∧w.grownBy w' (some g):=by
 subst ha hb;have hl:=hO.len;have hsz:(Z++(X++Y)).toArray.size=n:=by simpa using hl
 have d:Z.length+X.length≤n:=by rw [← hl];simp
 have f:∀args w,(callFunc 112 args).run Tryz.prog w=.ok (.enter 112 args) w:=enters_of Tryz.func112 (by kernel_rfl) rfl;have hcmp:CmpLays Tryz.prog 112 #[] aX 5 x8 g 0 (Z++(X++Y)).toArray.size w:=fun m os o _ x y=>DA x.1 x.2.2.2.1 y.1 y.2.2.2.1 x.2.1 x.2.2.1 x.2.2.2.2 y.2.1 y.2.2.1 y.2.2.2.2 _
 have h:=AnyQ.insertionSortCmpFunc Tryz.insL 5 Tryz.isAgg50 Tryz.sizeOf50 aX (fun _=>rfl) (fun x v hv=>by simp [aX] at hv;rcases hv with rfl | rfl | rfl | rfl | rfl <;> rfl) x8 112 #[] g 0 c Z.length (Z.length+X.length) (Z++(X++Y)).toArray w f hcmp (p8 hO) hO.lt.2 (by omega) (by rw [hsz];exact d) (by rw [hsz];omega);rw [hsz,Ej,BV] at h;have h':Calls Tryz.prog 213 #[sL g n c,iT (Z.length:Nat),iT ((Z.length+X.length:Nat):Int),.func (.func 112) #[] #[]] w fun e w'=>e=.returned (.tuple #[])∧∃m os,w'=sortWorldK aX 5 w g 0 m (Z++(bE X++Y)).toArray os:=h
 refine h'.mono ?_;rintro e w' ⟨rfl,m,os,rfl⟩;exact ⟨rfl,wO hO (((iV X).append_right Y).append_left Z),mq _⟩
def setE (w:World) (g i:Nat) (e:ae):World:=((((w.setCell ⟨g,i*5,none⟩ (.string e.1)).setCell ⟨g,i*5+1,none⟩ (iT e.2.1)).setCell ⟨g,i*5+2,none⟩ (iT e.2.2.1)).setCell ⟨g,i*5+3,none⟩ (.string e.2.2.2.1)).setCell ⟨g,i*5+4,none⟩ (iT e.2.2.2.2)
theorem ag.setE {w:World} {base g n c i:Nat} {L:List ae} {e:ae} (h:ag w base g n c L) (hi:i<n) (hw:dR e):ag (setE w g i e) base g n c (L.set i e):=by
 obtain ⟨s,q,d,t,nn⟩:=e;have t0:=h.owns.stored (i*5) (.string s);have u:=t0.1.stored (i*5+1) (iT q);have r:=u.1.stored (i*5+2) (iT d);have t3:=r.1.stored (i*5+3) (.string t);have t4:=t3.1.stored (i*5+4) (iT nn);have hl:=h.len;have hx:(aC L).length=n*5:=by rw [aV,hl]
 have hf:((((((aC L).set (i*5) (.string s)).set (i*5+1) (iT q)).set (i*5+2) (iT d)).set (i*5+3) (.string t)).set (i*5+4) (iT nn))=aC (L.set i (s,q,d,t,nn)):=pB (by simp [hx,hl]) (fun j l m=>by
  by_cases f:j=i
  · subst f;rw [Gu (by omega)] at m;cases m;exact jJ s t q d nn (by omega)
  · rw [F3 (Ne.symm f)] at m;exact jc (fF L j l m) f _ _ _ _ _)
 refine ⟨?_,by simp [hl],fun l o=>?_⟩
 · have h4:=t4.1;rw [hf] at h4;exact h4
 · rcases Ho o with h1 | h1
   · exact h.ents l h1
   · rw [h1];exact hw
theorem gE (w:World) (g o:Nat) (v:Value):w.grownBy (w.setCell ⟨g,o,none⟩ v) (some g) :=
 ⟨rfl,rfl,rfl,by simp [World.setCell],fun k _ hk=>Below.heap_setCell _ _ _ _ (fun e=>hk (by rw [e]))⟩
theorem dz (w:World) (g i:Nat) (e:ae):w.grownBy (Go.Proofs.YtpobkmjicbobdaaGreat.setE w g i e) (some g) :=
 af (af (af (af (gE _ _ _ _) (gE _ _ _ _)) (gE _ _ _ _)) (gE _ _ _ _)) (gE _ _ _ _)
theorem x7 (d f g:List ae) (p q:ae):((d++p :: (f++q :: g)).set d.length q).set (d.length+1+f.length) p=d++q :: (f++p :: g):=by
 rw [GB _ _ (Fv _),G5,GY,GB _ _ (by omega),show d.length+1+f.length - d.length=f.length+1 by omega,GL,GB _ _ (Fv _),G5,GY]
theorem ag.swap {w:World} {base g n c i j:Nat} {d f m:List ae} {p q:ae} (h:ag w base g n c (d++p :: (f++q :: m))) (hi:i=d.length) (o:j=d.length+1+f.length):ag (Go.Proofs.YtpobkmjicbobdaaGreat.setE (Go.Proofs.YtpobkmjicbobdaaGreat.setE w g i q) g j p) base g n c (d++q :: (f++p :: m)):=by
 subst hi o;have hl:=h.len;simp at hl;have h1:=h.setE (i:=d.length) (e:=q) (by omega) (h.ents _ (by simp));have h2:=h1.setE (i:=d.length+1+f.length) (e:=p) (by omega) (h.ents _ (by simp));rw [x7] at h2;exact h2
end Go.Proofs.YtpobkmjicbobdaaGreat
namespace Go.Proofs.YtpobkmjicbobdaaGreat
open Go.RowKit
set_option maxRecDepth 100000
set_option maxHeartbeats 8000000
attribute [local go_sem] Gi
theorem fD (w:World) (g:Nat):w.grownBy w.drew (some g):=⟨rfl,rfl,rfl,Fv _,fun _ _ _=>rfl⟩
theorem yt {Z P M Q Y:List ae} {i n:Nat} (d:P.length=n) (hQ:Q.length=n) (hi:i<n):(eo Z P M Q Y i)[Z.length+i]?=P[i]?∧(eo Z P M Q Y i)[Z.length+n+M.length+i]?=Q[i]?:=by
 unfold eo;have l1:(Z++Q.take i).length=Z.length+i:=by simp;omega
 constructor
 · rw [Fz (by omega),l1,G5,FE (by simp;omega),Gg,Gv]
 · rw [Fz (by omega),l1,Fz (by simp;omega),FN,d,Fz (by omega),Fz (by simp;omega),FC,d,FE (by simp;omega),Gg];congr 1
   omega
theorem Ch {Z P M Q Y:List ae} {i n:Nat} {x y:ae} (d:P.length=n) (hQ:Q.length=n) (hi:i<n) (hx:P[i]?=some x) (hy:Q[i]?=some y):((eo Z P M Q Y i).set (Z.length+i) y).set (Z.length+n+M.length+i) x=eo Z P M Q Y (i+1):=by
 have hg:=DD Z P M Q Y i n d hQ hi;have ha:=yt (Z:=Z) (M:=M) (Y:=Y) d hQ hi;unfold Sort.swp at hg;have e1:((eo Z P M Q Y i).toArray)[Z.length+n+M.length+i]! = y:=by simp [ha.2,hy]
 have e0:((eo Z P M Q Y i).toArray)[Z.length+i]! = x:=by simp [ha.1,hx]
 rw [e1,e0] at hg;have:=congrArg Array.toList hg;simpa using this
theorem mJ (base g n c:Nat) (Z P M Q Y:List ae) (a b m:Nat) (fv:Value) (w:World) (hO:ag w base g n c (Z++(P++(M++(Q++Y))))) (ha:a=Z.length) (hb:b=Z.length+m+M.length) (hP:P.length=m) (hQ:Q.length=m) (hn:n≤1048576) :
 Calls Tryz.prog 254 #[sL g n c,iT a,iT b,iT m,fv] w fun e w'=>e=.returned (.tuple #[])∧ag w' base g n c (Z++(Q++(M++(P++Y))))∧w.grownBy w' (some g):=by
 have hl:=hO.len;simp only [Fy] at hl;have ao:=hO.entsAt.big;have aB:=hO.entsAt.room;unfold maxLen at ao;have HP:=bT hP;have HQ:=bT hQ;have HA:=bT ha;have HB:=bT hb;have a8:Eq (b+m≤n∧a+m≤b):=by show b+m≤n∧a+m≤b;omega
 have HO:Eq (ag w base g n c (eo Z P M Q Y 0)):=by rw [Ev];exact hO
 clear hO ha hb hP hQ hl;go_enter Tryz.func254,Tryz.ntmps254
 go_wp2;go_loopw [10] (fun iv wr=>∃i:Nat,i≤m∧iv=iT i∧ag wr base g n c (eo Z P M Q Y i)∧w.grownBy wr (some g)) (fun iv _=>m - (intOf iv).toNat)
 case atStart=>exact ⟨0,FB _,rfl,HO.o,⟨rfl,rfl,rfl,Fv _,fun _ _ _=>rfl⟩⟩
 case round =>
  obtain ⟨i,hi,rfl,aj,a9⟩:=hrel;have X:Eq (ag wr base g n c (eo Z P M Q Y i)):=aj;have ak:Eq (w.grownBy wr (some g)):=a9;clear aj a9 HO;by_cases a0:i<m
  · have ab:(i:Int)<(m:Int):=by omega
    obtain ⟨⟨s,q,d,t,nn⟩,hx⟩:∃x,P[i]?=some x:=⟨_,j' (by rw [HP.o];exact a0)⟩;obtain ⟨⟨O,R,U,T,F⟩,hy⟩:∃y,Q[i]?=some y:=⟨_,j' (by rw [HQ.o];exact a0)⟩;have hat:=yt (Z:=Z) (M:=M) (Y:=Y) HP.o HQ.o a0;rw [← HB.o,← HA.o,hx,hy] at hat;have HX:Eq ((eo Z P M Q Y i)[a+i]?=some (s,q,d,t,nn)):=hat.1;have HY:Eq ((eo Z P M Q Y i)[b+i]?=some (O,R,U,T,F)):=hat.2;have ad:Eq (((eo Z P M Q Y i).set (a+i) (O,R,U,T,F)).set (b+i) (s,q,d,t,nn)=eo Z P M Q Y (i+1)):=by
     have:=Ch (Z:=Z) (M:=M) (Y:=Y) HP.o HQ.o a0 hx hy;rw [← HB.o,← HA.o] at this;exact this
    obtain ⟨ap,aq⟩:=a8.o;have HI:Eq (a+i<n):=by show a+i<n;omega
    have HJ:Eq (b+i<n):=by show b+i<n;omega
    have ah:Eq (a+i≠b+i):=by show a+i≠b+i;omega
    have ea:((a:Int)+(i:Int)).toNat=a+i:=by omega
    have pa:(0:Int)≤(a:Int)+(i:Int):=by omega
    have ba:(a:Int)+(i:Int)<(n:Int):=by omega
    have ra:IntKind.i64.wrap ((a:Int)+(i:Int))=(a:Int)+(i:Int):=by rw [F0];omega
    have ec:((b:Int)+(i:Int)).toNat=b+i:=by omega
    have pc:(0:Int)≤(b:Int)+(i:Int):=by omega
    have bc:(b:Int)+(i:Int)<(n:Int):=by omega
    have rc:IntKind.i64.wrap ((b:Int)+(i:Int))=(b:Int)+(i:Int):=by rw [F0];omega
    have H:ag wr.drew base g n c (eo Z P M Q Y i):=X.o.below (Below.refl _ _).drew;have gd:w.grownBy wr.drew (some g):=af ak.o (fD _ _);clear hat hx hy ap aq X;go_wp2_with fail
    refine wp_region_held_drew (S:=(fun w'=>g<w'.heap.size)) (by kernel_rfl) (by exact H.lt.2) (fun J=>?_);generalize wr.drew=wd at H gd J ⊢;refine aP 0 13 J ?_;refine aP 14 5 J ?_;refine lg 13 19 (fun K hK=>?_) fun K hK=>?_
    · obtain ⟨u,D,f,r,C⟩:=H.at5 HY.o;have E:=H.lt.2;go_simp;clear u D f r C E;refine hK.o _ _ (by exact H.lt.2) fun J=>?_
      (try go_frame);refine aQ 19 fun K hK=>?_
      obtain ⟨u,D,f,r,C⟩:=H.at5 HX.o;have E:=H.lt.2;go_simp;clear u D f r C E;refine hK.o _ _ (by exact H.lt.2) fun J=>?_
      (try go_frame);refine aP 20 1 J ?_;refine aQ 21 fun K hK=>?_
      obtain ⟨u,D,f,r,C⟩:=H.at5 HX.o;have E:=H.lt.2;have I:=H.owns.frozenAt;have f0:=I ((a+i)*5);have f1:=I ((a+i)*5+1);have f2:=I ((a+i)*5+2);have f3:=I ((a+i)*5+3);have f4:=I ((a+i)*5+4);clear I;go_simp;clear u D f r C E;clear f0 f1 f2 f3 f4;have k1:=H.setE (i:=a+i) (e:=(O,R,U,T,F)) HI.o (H.ents _ (Fw HY.o));refine hK.o _ (setE wd g (a+i) (O,R,U,T,F)) (by exact k1.lt.2) (fun J=>?_);clear hK K;have N:=dz wd g (a+i) (O,R,U,T,F);generalize setE wd g (a+i) (O,R,U,T,F)=L at k1 N J ⊢;(try go_frame);refine aP 22 1 J ?_;refine aQ 23 fun K hK=>?_
      have a3:((eo Z P M Q Y i).set (a+i) (O,R,U,T,F))[b+i]?=some (O,R,U,T,F):=by rw [F3 ah.o];exact HY.o
      obtain ⟨u,D,f,r,C⟩:=k1.at5 a3;have E:=k1.lt.2;have I:=k1.owns.frozenAt;have f0:=I ((b+i)*5);have f1:=I ((b+i)*5+1);have f2:=I ((b+i)*5+2);have f3:=I ((b+i)*5+3);have f4:=I ((b+i)*5+4);clear I;go_simp;clear u D f r C E;clear f0 f1 f2 f3 f4;have k2:=k1.setE (i:=b+i) (e:=(s,q,d,t,nn)) HJ.o (H.ents _ (Fw HX.o));refine hK.o _ (setE L g (b+i) (s,q,d,t,nn)) (by exact k2.lt.2) (fun J=>?_);clear hK K;have gw:wd.grownBy (setE L g (b+i) (s,q,d,t,nn)) (some g):=af N (dz L g (b+i) (s,q,d,t,nn));generalize setE L g (b+i) (s,q,d,t,nn)=W at k2 gw J ⊢;(try go_frame);refine dN ?_;have a5:Eq (ag W base g n c (eo Z P M Q Y (i+1))):=by have:=k2;rw [ad.o] at this;exact this
      have a4:Eq (w.grownBy W (some g)):=af gd gw;clear k2 gw H k1 N gd J;go_wp2;go_roundw
      case rel=>exact ⟨i+1,by omega,by go_num,a5.o,a4.o⟩
      case measure=>simp [intOf];omega
    · obtain ⟨u,D,f,r,C⟩:=H.at5 HX.o;have E:=H.lt.2;go_simp;clear u D f r C E;refine hK.o _ _ (by exact H.lt.2) fun J=>?_
      (try go_frame);refine aQ 13 fun K hK=>?_
      obtain ⟨u,D,f,r,C⟩:=H.at5 HY.o;have E:=H.lt.2;go_simp;clear u D f r C E;refine hK.o _ _ (by exact H.lt.2) fun J=>?_
      (try go_frame);refine aP 20 1 J ?_;refine aQ 21 fun K hK=>?_
      obtain ⟨u,D,f,r,C⟩:=H.at5 HX.o;have E:=H.lt.2;have I:=H.owns.frozenAt;have f0:=I ((a+i)*5);have f1:=I ((a+i)*5+1);have f2:=I ((a+i)*5+2);have f3:=I ((a+i)*5+3);have f4:=I ((a+i)*5+4);clear I;go_simp;clear u D f r C E;clear f0 f1 f2 f3 f4;have k1:=H.setE (i:=a+i) (e:=(O,R,U,T,F)) HI.o (H.ents _ (Fw HY.o));refine hK.o _ (setE wd g (a+i) (O,R,U,T,F)) (by exact k1.lt.2) (fun J=>?_);clear hK K;have N:=dz wd g (a+i) (O,R,U,T,F);generalize setE wd g (a+i) (O,R,U,T,F)=L at k1 N J ⊢;(try go_frame);refine aP 22 1 J ?_;refine aQ 23 fun K hK=>?_
      have a3:((eo Z P M Q Y i).set (a+i) (O,R,U,T,F))[b+i]?=some (O,R,U,T,F):=by rw [F3 ah.o];exact HY.o
      obtain ⟨u,D,f,r,C⟩:=k1.at5 a3;have E:=k1.lt.2;have I:=k1.owns.frozenAt;have f0:=I ((b+i)*5);have f1:=I ((b+i)*5+1);have f2:=I ((b+i)*5+2);have f3:=I ((b+i)*5+3);have f4:=I ((b+i)*5+4);clear I;go_simp;clear u D f r C E;clear f0 f1 f2 f3 f4;have k2:=k1.setE (i:=b+i) (e:=(s,q,d,t,nn)) HJ.o (H.ents _ (Fw HX.o));refine hK.o _ (setE L g (b+i) (s,q,d,t,nn)) (by exact k2.lt.2) (fun J=>?_);clear hK K;have gw:wd.grownBy (setE L g (b+i) (s,q,d,t,nn)) (some g):=af N (dz L g (b+i) (s,q,d,t,nn));generalize setE L g (b+i) (s,q,d,t,nn)=W at k2 gw J ⊢;(try go_frame);refine dN ?_;have a5:Eq (ag W base g n c (eo Z P M Q Y (i+1))):=by have:=k2;rw [ad.o] at this;exact this
      have a4:Eq (w.grownBy W (some g)):=af gd gw;clear k2 gw H k1 N gd J;go_wp2;go_roundw
      case rel=>exact ⟨i+1,by omega,by go_num,a5.o,a4.o⟩
      case measure=>simp [intOf];omega
  · have ab:¬(i:Int)<(m:Int):=by omega
    have ai:i=m:=by omega
    have HD:Eq (ag wr base g n c (Z++(Q++(M++(P++Y))))):=by have:=X.o;rw [ai,Eu Z P M Q Y m HP.o HQ.o] at this;exact this
    clear ai X;go_wp2;go_end0;exact ⟨rfl,HD.o,ak.o⟩
theorem El (base g n c:Nat) (Z U V Y:List ae) (a m b:Nat) (fv:Value) (w:World) (hO:ag w base g n c (Z++(U++(V++Y)))) (ha:a=Z.length) (hm:m=Z.length+U.length) (hb:b=Z.length+U.length+V.length) (hU:1≤U.length) (hV:1≤V.length) (hn:n≤1048576) :
 Calls Tryz.prog 239 #[sL g n c,iT a,iT m,iT b,fv] w fun e w'=>e=.returned (.tuple #[])∧ag w' base g n c (Z++(V++(U++Y)))∧w.grownBy w' (some g):=by
 obtain ⟨T,hT⟩:=aG (Z++(V++(U++Y)));rw [← hT];have R:Eq (T=Z++(V++(U++Y))):=hT;have Q:=bT hO;have hl:=hO.len;simp only [Fy] at hl;have r1:IntKind.i64.wrap ((m:Int) - (a:Int))=((U.length:Nat):Int):=by rw [F0];omega
 have r2:IntKind.i64.wrap ((b:Int) - (m:Int))=((V.length:Nat):Int):=by rw [F0];omega
 obtain ⟨i0,J⟩:=aG U.length;obtain ⟨j0,L⟩:=aG V.length;have a0:Eq (∃(r f d s:List ae),1≤i0∧1≤j0∧f.length=i0∧d.length=j0∧m=r.length+i0∧m+j0≤n∧T=r++(d++(f++s))∧ag w base g n c (r++(f++(d++s)))):=⟨Z,U,V,Y,by omega,by omega,J.symm,L.symm,by omega,by omega,R.o,Q.o⟩;rw [← J] at r1;rw [← L] at r2;clear hT hO ha hm hb hU hV hl J L R Q;go_enter Tryz.func239,Tryz.ntmps239
 go_wp2;clear r1 r2;go_loopw [10,11] (fun iv jv wr=>∃(i j:Nat) (r f d s:List ae),iv=iT i∧jv=iT j∧1≤i∧1≤j∧f.length=i∧d.length=j∧m=r.length+i∧m+j≤n∧T=r++(d++(f++s))∧ag wr base g n c (r++(f++(d++s)))∧w.grownBy wr (some g)) (fun iv jv _=>(intOf iv).toNat+(intOf jv).toNat)
 case atStart =>
  obtain ⟨r,f,d,s,h1,h2,h3,h4,h5,h6,h7,h8⟩:=a0.o;exact ⟨i0,j0,r,f,d,s,rfl,rfl,h1,h2,h3,h4,h5,h6,h7,h8,⟨rfl,rfl,rfl,Fv _,fun _ _ _=>rfl⟩⟩
 case round =>
  obtain ⟨i,j,r,f,d,s,rfl,rfl,hi,hj,hu,hv,a4,ab,X,a3,a5⟩:=hrel;have W:Eq (f.length=i):=hu;have O:Eq (d.length=j):=hv;have F:Eq (m=r.length+i):=a4;have R:Eq (T=r++(d++(f++s))):=X;have Q:Eq (ag wr base g n c (r++(f++(d++s)))):=a3;have HG:Eq (w.grownBy wr (some g)):=a5;have ai:i≤m:=by omega
  clear hu hv a4 X a3 a5 a0;have rm:IntKind.i64.wrap ((m:Int) - (i:Int))=((m - i:Nat):Int):=by rw [F0];omega
  by_cases I:i=j
  · have ac:¬((i:Int)≠(j:Int)):=by omega
    have a2:((i:Int) == (j:Int))=true:=by simp [I]
    have al:Eq (i=j):=I;subst I;have D:Eq (ag wr base g n c (r++(f++([]++(d++s))))):=by simpa [Eq] using Q.o
    go_wp2_with fail
    refine (mJ base g n c r f [] d s (m - i) m i _ _ D.o (by have:=F.o;omega) (by have:=F.o;simp;omega) W.o O.o hn).mono ?_;rintro e E ⟨rfl,t,u⟩;have y:Eq (ag E base g n c T):=by rw [R.o];simpa [Eq] using t
    have C:Eq (w.grownBy E (some g)):=af HG.o u;clear t u;go_wp2;go_end0;exact ⟨rfl,y.o,C.o⟩
  · have a2:((i:Int) == (j:Int))=false:=by simp;omega
    by_cases ap:j<i
    · have a1:(j:Int)<(i:Int):=by omega
      have rs:IntKind.i64.wrap ((i:Int) - (j:Int))=((i - j:Nat):Int):=by rw [F0];omega
      have N:f=f.take j++f.drop j:=(FX j f).symm;have D:Eq (ag wr base g n c (r++(f.take j++(f.drop j++(d++s))))):=by
       have:=Q.o;rw [N,FT] at this;simpa [Eq] using this
      have H:Eq (T=(r++d)++(f.take j++(f.drop j++s))):=by
       have:=R.o;rw [N,FT] at this;simpa [Eq] using this
      clear N;go_wp2_with fail
      refine (mJ base g n c r (f.take j) (f.drop j) d s (m - i) m j _ _ D.o (by have:=F.o;omega) (by have:=F.o;have:=W.o;simp;omega) (by have:=W.o;simp;omega) O.o hn).mono ?_;rintro e E ⟨rfl,t,u⟩;have y:Eq (ag E base g n c ((r++d)++(f.drop j++(f.take j++s)))):=by simpa [Eq] using t
      have C:Eq (w.grownBy E (some g)):=af HG.o u;clear t u;go_wp2;go_roundw
      case rel=>exact ⟨i - j,j,r++d,f.drop j,f.take j,s,rfl,rfl,by omega,hj,by have:=W.o;simp;omega,by have:=W.o;simp;omega,by have:=F.o;have:=O.o;simp;omega,ab,H.o,y.o,C.o⟩
      case measure=>simp [intOf];omega
    · have a1:¬(j:Int)<(i:Int):=by omega
      have rs:IntKind.i64.wrap ((j:Int) - (i:Int))=((j - i:Nat):Int):=by rw [F0];omega
      have ra:IntKind.i64.wrap ((m:Int)+(j:Int))=(m:Int)+(j:Int):=by rw [F0];omega
      have rb:IntKind.i64.wrap ((m:Int)+(j:Int) - (i:Int))=((m+j - i:Nat):Int):=by rw [F0];omega
      have K:d=d.take (j - i)++d.drop (j - i):=(FX (j - i) d).symm;have D:Eq (ag wr base g n c (r++(f++(d.take (j - i)++(d.drop (j - i)++s))))):=by
       have:=Q.o;rw [K,FT] at this;simpa [Eq] using this
      have H:Eq (T=r++(d.take (j - i)++(d.drop (j - i)++(f++s)))):=by
       have:=R.o;rw [K,FT] at this;simpa [Eq] using this
      clear K;go_wp2_with fail
      refine (mJ base g n c r f (d.take (j - i)) (d.drop (j - i)) s (m - i) (m+j - i) i _ _ D.o (by have:=F.o;omega) (by have:=F.o;have:=O.o;simp;omega) W.o (by have:=O.o;simp;omega) hn).mono ?_;rintro e E ⟨rfl,t,u⟩;have y:Eq (ag E base g n c (r++(d.drop (j - i)++(d.take (j - i)++(f++s))))):=t;have C:Eq (w.grownBy E (some g)):=af HG.o u;clear t u;go_wp2;go_roundw
      case rel=>exact ⟨i,j - i,r,d.drop (j - i),d.take (j - i),f++s,rfl,rfl,hi,by omega,by have:=O.o;simp;omega,by have:=O.o;simp;omega,F.o,by omega,H.o,y.o,C.o⟩
      case measure=>simp [intOf];omega
end Go.Proofs.YtpobkmjicbobdaaGreat
