/- Walks. -/
import Derived.Test.YtpobkmjicbobdaaGreatBl09
import Derived.Sort.Defs
import Derived.Test.YtpobkmjicbobdaaGreatBl08
namespace Go.Proofs.YtpobkmjicbobdaaGreat
set_option maxRecDepth 100000
set_option maxHeartbeats 40000000
open Go.RowKit
variable {S:List Int} {k:Nat} {n o:Int}
def fs (S:List Int) (o n:Int):Bool:=S.any (fun s=>decide (o≤s) && decide (s<n))
theorem kL {s:Int} (h:S[k]?=some s):fs (S.take (k+1)) o n=(fs (S.take k) o n || (decide (o≤s) && decide (s<n))):=by
 simp [fs,Dl,h,List.any_append]
theorem vp (h:fs (S.take k) o n=true):fs S o n=true:=by
 unfold fs at *;rw [List.any_eq_true] at *;obtain ⟨x,hx,hp⟩:=h;exact ⟨x,Dw hx,hp⟩
theorem pU (C:Nat) (a:Option Addr) (n c:Nat) (S:List Int) (o p:Int) (w:World) (h:bQ C w a n c S) :
 Calls Tryz.prog 246 #[.slice a n c,iT o,iT p] w fun e w'=>e=.returned (.bool (fs S o p))∧Bl w w':=by
 have hr:=h.room;have x:=h.big;unfold maxLen at x;have H:=bO h;clear h;go_enter Tryz.func246,Tryz.ntmps246
 go_wp2;go_loopw [7] (fun i wr=>∃k:Nat,k≤n∧i=iT k∧fs (S.take k) o p=false∧Bl w wr) (fun i _=>n - (intOf i).toNat)
 case atStart=>exact ⟨0,C3 _,rfl,rfl,Below.refl _ _⟩
 case round =>
  obtain ⟨k,hk,rfl,u,hb⟩:=hrel;have f:CG (fs (S.take k) o p=false):=u;clear u;by_cases y:k<n
  · have m:(k:Int)<(n:Int):=by omega
    obtain ⟨b,D,rfl,A⟩:=H.o.form (by omega);obtain ⟨s,hs,hw,hc⟩:=H.o.num hb k y;have B:CG (S[k]?=some s):=hs;have E:b<wr.heap.size:=l' A hb.size;clear hs hw;by_cases h1:o≤s
    · by_cases h2:s<p
      · go_wp2;go_ret;have g:fs S o p=true:=vp (k:=k+1) (by rw [kL B.o];simp [h1,h2]);exact ⟨by rw [g];rfl,hb⟩
      · go_wp2;go_roundw
        case rel=>exact ⟨k+1,by omega,by go_num,by rw [kL B.o,f.o];simp [h2],hb⟩
        case measure=>simp [intOf];omega
    · go_wp2;go_roundw
      case rel=>exact ⟨k+1,by omega,by go_num,by rw [kL B.o,f.o];simp [h1],hb⟩
      case measure=>simp [intOf];omega
  · have m:¬(k:Int)<(n:Int):=by omega
    have d:S.take k=S:=C9 (by have:=H.o.length;omega);have r:CG (fs S o p=false):=by have:=f.o;rw [d] at this;exact this
    clear d;go_wp2;go_ret;exact ⟨by rw [r.o];rfl,hb⟩
end Go.Proofs.YtpobkmjicbobdaaGreat
namespace Go.Proofs.YtpobkmjicbobdaaGreat
namespace Sq
variable {α κ:Type} [DecidableEq κ]
def putP (r:α→α→Bool) (x:α):List (List α)→List (List α)
 | (y :: c) :: cs=>if r x y then (x :: y :: c) :: cs else [x] :: (y :: c) :: cs
 | cs=>[x] :: cs
def parts (r:α→α→Bool) (L:List α):List (List α):=L.foldr (putP r) []
theorem parts_cons (r:α→α→Bool) (x:α) (L:List α):parts r (x :: L)=putP r x (parts r L):=rfl
theorem og (r:α→α→Bool) (x:α) (L:List α):∃c cs,parts r (x :: L)=(x :: c) :: cs:=by
 rw [parts_cons];unfold putP;split
 · rename_i y c cs _
   by_cases h:r x y
   · exact ⟨y :: c,cs,by rw [if_pos h]⟩
   · exact ⟨[],(y :: c) :: cs,by rw [if_neg h]⟩
 · exact ⟨[],_,rfl⟩
theorem parts_flat (r:α→α→Bool):∀L:List α,(parts r L).flatten=L
 | []=>rfl
 | x :: L=>by
  rw [parts_cons]
  have d:=parts_flat r L
  unfold putP
  split
  · rename_i y c cs h
    rw [h] at d
    by_cases hr:r x y
    · rw [if_pos hr];simpa using d
    · rw [if_neg hr];simpa using d
  · simpa using d
variable (key:α→κ) (cl:Bool→List α→List α) (bottom:Bool)
def stepD (c:List α) (st:Bool × List α):Bool × List α:=(if (cl st.1 c).isEmpty then st.1 else false,cl st.1 c++st.2)
def leftD (Cs:List (List α)):List α:=(Cs.foldr (stepD cl) (bottom,[])).2
end Sq
namespace Sq
variable {α:Type}
theorem p8 (r:α→α→Bool):∀A B:List α,(∀x y,A.getLast?=some x→B.head?=some y→r x y=false)→parts r (A++B)=parts r A++parts r B
 | [],B,_=>rfl
 | [x],B,h=>by
  match B with
  | []=>rfl
  | y :: R =>
   obtain ⟨c,cs,hp⟩:=og r y R
   have hr:=h x y rfl rfl
   rw [List.singleton_append,parts_cons,hp]
   simp [putP,hr,parts]
 | x :: z :: A,B,h=>by
  have d:=p8 r (z :: A) B (fun a b ha hb=>h a b (by rw [List.getLast?_cons_cons];exact ha) hb)
  obtain ⟨c,cs,hp⟩:=og r z A
  rw [DD,parts_cons,d,parts_cons r x,hp]
  by_cases e:r x z <;> simp [putP,e]
theorem mD (r:α→α→Bool):∀A:List α,A≠[]→(∀(j:Nat) x y,A[j]?=some x→A[j+1]?=some y→r x y=true)→parts r A=[A]
 | [],h,_=>absurd rfl h
 | [x],_,_=>rfl
 | x :: z :: A,_,h=>by
  have d:=mD r (z :: A) (by simp) (fun j a b ha hb=>h (j+1) a b (by simpa using ha) (by simpa using hb))
  have hr:=h 0 x z rfl rfl
  rw [parts_cons,d]
  simp [putP,hr]
theorem parts_front (r:α→α→Bool) (L:List α) (i k:Nat) (d:i<k) (hk:k≤L.length) (h1:∀j,i<j→j<k→∀x y,L[j - 1]?=some x→L[j]?=some y→r x y=true)
 (h2:∀x y,L[k - 1]?=some x→L[k]?=some y→r x y=false):parts r (L.drop i)=(L.drop i).take (k - i) :: parts r (L.drop k):=by
 have e:L.drop i=(L.drop i).take (k - i)++L.drop k:=by
  have:=(Ds (k - i) (L.drop i)).symm;rw [D5,show i+(k - i)=k by omega] at this;exact this
 have hl:((L.drop i).take (k - i)).length=k - i:=by rw [C5,Dh];omega
 conv=>lhs;rw [e]
 rw [p8,mD]
 · rfl
 · intro e;rw [e] at hl;simp at hl;omega
 · intro j x y hx hy;have f:j+1<k - i:=by rw [← hl];exact (Cx.1 hy).1
   rw [DI (by omega),DH] at hx hy;exact h1 (i+(j+1)) (by omega) (by omega) x y (by rw [show i+(j+1) - 1=i+j by omega];exact hx) hy
 · intro x y hx hy;rw [List.getLast?_eq_getElem?,hl,DI (by omega),DH,show i+(k - i - 1)=k - 1 by omega] at hx;rw [List.head?_drop] at hy;exact h2 x y hx hy
end Sq
end Go.Proofs.YtpobkmjicbobdaaGreat
namespace Go.Proofs.YtpobkmjicbobdaaGreat
def lM (b:Bool):List ac→List ac
 | []=>[]
 | e :: r=>dJ b e.1 e.2.1 (e :: r)
def f7 (S:List Int) (x y:ac):Bool:=!fs S y.2.1 x.2.1
def eY (x y:ac):Bool:=decide (x.1=y.1)
def eG (S:List Int) (bottom:Bool) (G:List ac):List ac:=Sq.leftD lM bottom (Sq.parts (f7 S) G)
def bG (L:List ac) (S:List Int) (bottom:Bool):List ac:=if aI L=true then (Sq.parts eY L).flatMap (eG S bottom) else []
theorem tH {c:List ac} {e:ac} (b:Bool) (h:c[0]?=some e):lM b c=dJ b e.1 e.2.1 c:=by
 match c,h with
 | x :: r,h=>simp at h;subst h;rfl
theorem vW (b:Bool):∀c:List ac,(lM b c).length≤c.length
 | []=>Cy _
 | e :: r=>by
  show (dJ b e.1 e.2.1 (e :: r)).length≤(e :: r).length
  unfold dJ
  by_cases h1:dH (aX true 0 (e :: r)).2.2=true
  · rw [if_pos h1]
    by_cases h2:b=true∧(aX true 0 (e :: r)).1=2
    · rw [if_pos h2];simp
    · rw [if_neg h2];simp
  · rw [if_neg h1];exact Cy _
theorem oF (bottom:Bool):∀P:List (List ac),((P.foldr (Sq.stepD lM) (bottom,[])).2).length≤P.flatten.length
 | []=>Cy _
 | c :: P=>by
  have e:=oF bottom P
  have h:=vW (P.foldr (Sq.stepD lM) (bottom,[])).1 c
  rw [List.foldr_cons,DW,CW]
  generalize P.foldr (Sq.stepD lM) (bottom,[])=d at e h ⊢
  show (lM d.1 c++d.2).length≤_
  rw [CW]
  omega
theorem mc (S:List Int) (bottom:Bool) (G:List ac):(eG S bottom G).length≤G.length:=by
 have:=oF bottom (Sq.parts (f7 S) G);rw [Sq.parts_flat] at this;exact this
theorem xt (bottom:Bool) (P:List (List ac)) (j:Nat) (c:List ac) (h:P[j]?=some c) :
 (P.drop j).foldr (Sq.stepD lM) (bottom,[])=Sq.stepD lM c ((P.drop (j+1)).foldr (Sq.stepD lM) (bottom,[])):=by
 obtain ⟨d,e⟩:=Cx.1 h;rw [DR d,e];rfl
theorem oV (S:List Int) (bottom:Bool):∀P:List (List ac),(P.flatMap (eG S bottom)).length≤P.flatten.length
 | []=>Cy _
 | c :: P=>by
  have d:=oV S bottom P
  have h:=mc S bottom c
  rw [ES,DW,CW,CW]
  omega
theorem jb (L:List ac) (S:List Int) (bottom:Bool):(bG L S bottom).length≤L.length:=by
 unfold bG;split
 · have:=oV S bottom (Sq.parts eY L);rwa [Sq.parts_flat] at this
 · simp
theorem ig (r:ac→ac→Bool) (L:List ac) (c:List ac) (h:c ∈ Sq.parts r L):c.length≤L.length∧∀e ∈ c,e ∈ L:=by
 have hf:=Sq.parts_flat r L;refine ⟨?_,fun e d=>by rw [← hf];exact Ew.2 ⟨c,h,d⟩⟩;obtain ⟨A,B,e⟩:=List.append_of_mem h;rw [← hf,e];simp;omega
theorem jA (r:ac→ac→Bool):∀(L:List ac) (c:List ac),c ∈ Sq.parts r L→c≠[]
 | [],c,h=>by simp [Sq.parts] at h
 | z :: L,c,h=>by
  have d:=jA r L
  rw [Sq.parts_cons] at h
  unfold Sq.putP at h
  split at h
  · rename_i y c' cs hp
    rw [hp] at d
    split at h
    · rcases Da.1 h with rfl | h
      · simp
      · exact d c (DB _ h)
    · rcases Da.1 h with rfl | h
      · simp
      · exact d c h
  · rcases Da.1 h with rfl | h
    · simp
    · exact d c h
theorem uw {L:List ac} (h:aI L=true):∀e ∈ L,(-1000000≤e.2.2.2.2∧e.2.2.2.2≤1000000)∧(1≤e.2.2.1∧e.2.2.1≤3∧(e.2.2.1=2→e.2.2.2.1=⟨#[]⟩))∧e.1≠⟨#[]⟩:=by
 intro e r;obtain ⟨j,s⟩:=DF r;have hb:=d4 h s;unfold cT at hb;simp only [Db,decide_eq_true_eq] at hb;obtain ⟨hk,h1,h2,h3,h4,h5,h6⟩:=hb;refine ⟨⟨h3,h4⟩,?_,?_⟩
 · by_cases f:e.2.2.1=1
   · exact ⟨by omega,by omega,fun h=>by omega⟩
   · by_cases d:e.2.2.1=2
     · rw [d] at h6;simp [fp] at h6;exact ⟨by omega,by omega,fun _=>h6.1⟩
     · by_cases g:e.2.2.1=3
       · exact ⟨by omega,by omega,fun h=>by omega⟩
       · rw [mX f d g] at h6;cases h6
 · intro m;rw [m] at hk;simp [fu,ByteArray.size] at hk
end Go.Proofs.YtpobkmjicbobdaaGreat
namespace Go.Proofs.YtpobkmjicbobdaaGreat
set_option maxRecDepth 100000
set_option maxHeartbeats 40000000
open Go.RowKit
variable {b:Bool} {n n':Int} {t t':ByteArray}
section
attribute [local go_sem] DN
def eK (c:eN):Value:=.agg #[.bool c.1,.string c.2.1,iT c.2.2]
def fA (b:Bool) (t:ByteArray) (n:Int) (d:Int) (t':ByteArray) (n':Int):eN :=
 if d=1 then (true,t',n') else if d=2 then (false,⟨#[]⟩,0) else if d=3 then (true,t,wrap64 (n+n')) else (b,t,n)
theorem vZ:fA b t n 1 t' n'=(true,t',n'):=by simp [fA]
theorem vY:fA b t n 2 t' n'=(false,⟨#[]⟩,0):=by simp [fA]
theorem vX:fA b t n 3 t' n'=(true,t,wrap64 (n+n')):=by simp [fA]
theorem v6 {d:Int} (h1:¬d=1) (h2:¬d=2) (h3:¬d=3):fA b t n d t' n'=(b,t,n):=by simp [fA,h1,h2,h3]
theorem vj (b:Bool) (t k t':ByteArray) (n q d n':Int) (w:World) :
 Calls Tryz.prog 311 #[.agg #[],.agg #[.bool b,.string t,iT n],.agg #[.string k,iT q,iT d,.string t',iT n']] w fun e w'=>e=.returned (eK (true,t',n'))∧Bl w w':=by
 go_enter Tryz.func311,Tryz.ntmps311
 go_wp2;refine bodyPost_ret (v:=.agg #[.bool true,.string t',iT n']) (by simp [results,Tryz.results311,go_sem]) rfl ⟨rfl,?_⟩;exact (((bZ.alloc (by simp) _).alloc (by simp;omega) _).alloc (by simp;omega) _)
theorem vk (b:Bool) (t k t':ByteArray) (n q d n':Int) (w:World) :
 Calls Tryz.prog 313 #[.agg #[],.agg #[.bool b,.string t,iT n],.agg #[.string k,iT q,iT d,.string t',iT n']] w fun e w'=>e=.returned (eK (false,⟨#[]⟩,0))∧Bl w w':=by
 go_enter Tryz.func313,Tryz.ntmps313
 go_wp2;refine bodyPost_ret (v:=.agg #[.bool false,.string ⟨#[]⟩,iT 0]) (by simp [results,Tryz.results313,go_sem]) rfl ⟨rfl,?_⟩;exact (((bZ.alloc (by simp) _).alloc (by simp;omega) _).alloc (by simp;omega) _)
theorem vl (b:Bool) (t k t':ByteArray) (n q d n':Int) (w:World) :
 Calls Tryz.prog 315 #[.agg #[],.agg #[.bool b,.string t,iT n],.agg #[.string k,iT q,iT d,.string t',iT n']] w fun e w'=>e=.returned (eK (true,t,wrap64 (n+n')))∧Bl w w':=by
 go_enter Tryz.func315,Tryz.ntmps315
 go_wp2;refine bodyPost_ret (v:=.agg #[.bool true,.string t,iT (wrap64 (n+n'))]) (by simp [results,Tryz.results315,go_sem]) rfl ⟨rfl,?_⟩;exact (((bZ.alloc (by simp) _).alloc (by simp;omega) _).alloc (by simp;omega) _)
theorem xX (b:Bool) (t k t':ByteArray) (n q d n':Int) (w:World) :
 Calls Tryz.prog 317 #[.agg #[],.agg #[.bool b,.string t,iT n],.agg #[.string k,iT q,iT d,.string t',iT n']] w fun e w'=>e=.returned (eK (b,t,n))∧Bl w w':=by
 go_enter Tryz.func317,Tryz.ntmps317
 go_wp2;refine bodyPost_ret (v:=.agg #[.bool b,.string t,iT n]) (by simp [results,Tryz.results317,go_sem]) rfl ⟨rfl,?_⟩;exact (((bZ.alloc (by simp) _).alloc (by simp;omega) _).alloc (by simp;omega) _)
end
end Go.Proofs.YtpobkmjicbobdaaGreat
namespace Go.Proofs.YtpobkmjicbobdaaGreat
open Go.RowKit
def gG (L : List ac) (q : Int) : Nat → Nat
  | 0 => 0
  | k + 1 => match L[k]? with
    | none => k + 1
    | some x => if q < x.2.1 then gG L q k else k + 1
theorem uB (L : List ac) (q : Int) : ∀ k, gG L q k ≤ k
  | 0 => Cy _
  | k + 1 => by
    have d := uB L q k
    unfold gG
    split
    · exact Cy _
    · split <;> omega
def eD (L : List ac) (e : ac) : List ac := L.take (gG L e.2.1 L.length) ++ ([e] ++ L.drop (gG L e.2.1 L.length))
def bk (L : List ac) : List ac := L.foldl eD []
theorem od (L : List ac) (e : ac) : (eD L e).length = L.length + 1 := by
  have := uB L e.2.1 L.length
  simp [eD]
  omega
theorem xP (L : List ac) : ∀ A : List ac, (L.foldl eD A).length = A.length + L.length := by
  induction L with
  | nil => intro A; simp
  | cons e r d => intro A; rw [List.foldl_cons, d, od, DC]; omega
theorem eJ (L : List ac) : (bk L).length = L.length := by
  have := xP L []
  simpa [bk] using this
theorem jJ (L : List ac) (e : ac) : bk (L ++ [e]) = eD (bk L) e := by simp [bk]
theorem xY {L : List ac} {k : Nat} {e : ac} (h : L[k]? = some e) : bk (L.take (k + 1)) = eD (bk (L.take k)) e := by
  rw [Dl, h]
  exact jJ _ _
theorem xe (L : List ac) (e : ac) : (eD L e).Perm (e :: L) := by
  unfold eD
  refine (List.perm_append_comm_assoc _ _ _).trans ?_
  simp
theorem qH (L : List ac) : (bk L).Perm L := by
  have key : ∀ (L A : List ac), (L.foldl eD A).Perm (A ++ L) := by
    intro L
    induction L with
    | nil => intro A; simp
    | cons e r d =>
      intro A
      rw [List.foldl_cons]
      refine (d _).trans ?_
      refine ((xe A e).append_right r).trans ?_
      simp only [DD]
      exact List.perm_middle.symm
  have := key L []
  simpa [bk] using this
theorem zR {L : List ac} {e : ac} : e ∈ bk L ↔ e ∈ L := (qH L).mem_iff
/-! The insertion sort that the library runs is this one. -/
open Go.Sort in
theorem Am (P R : List ac) (a b : ac) : Sort.swp (P ++ a :: b :: R).toArray (P.length + 1) P.length = (P ++ b :: a :: R).toArray := by
  unfold Sort.swp
  apply Array.ext'
  simp
def uJ (x y : ac) : Bool := decide (x.2.1 < y.2.1)
theorem qo (A B : List ac) (e : ac) : ∀ j, j ≤ A.length → Sort.insInner uJ 0 j (A.take j ++ e :: (A.drop j ++ B)).toArray = (A.take (gG A e.2.1 j) ++ e :: (A.drop (gG A e.2.1 j) ++ B)).toArray
  | 0, _ => by simp [Sort.insInner, gG]
  | j + 1, u => by
    have d : j < A.length := u
    obtain ⟨a, ha⟩ : ∃ a, A[j]? = some a := ⟨_, j' d⟩
    have f : A[j] = a := by rw [j' d] at ha; exact CZ ha
    have h1 : A.take (j + 1) = A.take j ++ [a] := by rw [Dl, ha]; rfl
    have hl : (A.take j).length = j := by simp; omega
    have g : A.take (j + 1) ++ e :: (A.drop (j + 1) ++ B) = A.take j ++ a :: e :: (A.drop (j + 1) ++ B) := by rw [h1]; simp
    have hd : A.drop j = a :: A.drop (j + 1) := by rw [← f]; exact DR d
    have s : ((A.take j ++ a :: e :: (A.drop (j + 1) ++ B)).toArray)[j + 1]! = e := by
      have : (A.take j ++ a :: e :: (A.drop (j + 1) ++ B))[j + 1]? = some e := by
        rw [CU (by omega), hl]
        simp
      simp [this]
    have r : ((A.take j ++ a :: e :: (A.drop (j + 1) ++ B)).toArray)[j]! = a := by
      have : (A.take j ++ a :: e :: (A.drop (j + 1) ++ B))[j]? = some a := by
        rw [CU (by omega), hl]
        simp
      simp [this]
    have m := qo A B e j (by omega)
    rw [g, Sort.insInner, s, r]
    have hp : gG A e.2.1 (j + 1) = if e.2.1 < a.2.1 then gG A e.2.1 j else j + 1 := by
      rw [gG, ha]
    by_cases hc : e.2.1 < a.2.1
    · have hs : Sort.swp (A.take j ++ a :: e :: (A.drop (j + 1) ++ B)).toArray (j + 1) j = (A.take j ++ e :: (A.drop j ++ B)).toArray := by
        have := Am (A.take j) (A.drop (j + 1) ++ B) a e
        rw [hl] at this
        rw [this, hd]
        simp
      rw [hp, if_pos hc, hs]
      simp only [uJ, hc]
      simpa using m
    · rw [hp, if_neg hc]
      simp [uJ, hc, g]
theorem AA (A B : List ac) (e : ac) : Sort.insInner uJ 0 A.length (A ++ e :: B).toArray = (eD A e ++ B).toArray := by
  have := qo A B e A.length (Cy _)
  simp only [List.take_length, List.drop_length, DA] at this
  rw [this]
  simp [eD]
/-! What a key has. -/
def yk (c : eN) (e : ac) : eN := fA c.1 c.2.1 c.2.2 e.2.2.1 e.2.2.2.1 e.2.2.2.2
def iU (L : List ac) : eN := L.foldl yk (false, ⟨#[]⟩, 0)
def gT (L : List ac) (key : ByteArray) (seq : Int) : eN := iU (bk (aQ L key seq))
theorem ku {L : List ac} {k : Nat} {e : ac} (h : L[k]? = some e) : iU (L.take (k + 1)) = yk (iU (L.take k)) e := by
  rw [Dl, h]
  simp [iU]
end Go.Proofs.YtpobkmjicbobdaaGreat
namespace Go.Proofs.YtpobkmjicbobdaaGreat
open Go.RowKit
/-! What the laws of cells say, of lists alone. -/
theorem yX {A : List ac} {q : Int} (h : ∀ x ∈ A, ¬ q < x.2.1) : gG A q A.length = A.length := by
  match hA : A.length with
  | 0 => rfl
  | k + 1 =>
    have ha := j' (show k < A.length by omega)
    rw [gG, ha]
    simp only
    rw [if_neg (h _ (Dq _))]
theorem vB (A B : List ac) (q : Int) : ∀ k, k ≤ A.length → gG (A ++ B) q k = gG A q k
  | 0, _ => rfl
  | k + 1, hk => by
    have h1 : (A ++ B)[k]? = A[k]? := C7 hk
    rw [gG, gG, h1, vB A B q k (by omega)]
theorem s5 {A B : List ac} {q : Int} (h : ∀ x ∈ B, q < x.2.1) : ∀ k, k ≤ B.length → gG (A ++ B) q (A.length + k) = gG A q A.length
  | 0, _ => vB A B q A.length (Cy _)
  | k + 1, hk => by
    have ha : (A ++ B)[A.length + k]? = some (B[k]'hk) := by
      rw [CU (by omega), D0, j' hk]
    show gG (A ++ B) q (A.length + k + 1) = _
    rw [gG, ha]
    simp only
    rw [if_pos (h _ (Dq _))]
    exact s5 h k (by omega)
theorem oc {A B : List ac} {e : ac} (h : ∀ x ∈ B, e.2.1 < x.2.1) : eD (A ++ B) e = eD A e ++ B := by
  have hp := s5 (A := A) h B.length (Cy _)
  have hl := uB A e.2.1 A.length
  unfold eD
  rw [CW, hp, List.take_append_of_le_length hl, List.drop_append_of_le_length hl]
  simp
theorem xg {A : List ac} {e : ac} (h : ∀ x ∈ A, ¬ e.2.1 < x.2.1) : eD A e = A ++ [e] := by
  unfold eD
  rw [yX h]
  simp
theorem sV {A : List ac} {e : ac} (h : A.Pairwise (fun a b => a.2.1 ≤ b.2.1)) : (eD A e).Pairwise (fun a b => a.2.1 ≤ b.2.1) := by
  have key : ∀ (B A : List ac), (A ++ B).Pairwise (fun a b => a.2.1 ≤ b.2.1) → (∀ x ∈ B, e.2.1 < x.2.1) → (eD (A ++ B) e).Pairwise (fun a b => a.2.1 ≤ b.2.1) := by
    intro B A
    induction hn : A.length generalizing A B with
    | zero =>
      intro hs hB
      rw [DQ] at hn
      subst hn
      rw [oc hB]
      have : eD [] e = [e] := by simp [eD, gG]
      rw [this]
      simp only [DA] at hs
      exact Dm.2 ⟨fun x hx => by have := hB x hx; omega, hs⟩
    | succ n m =>
      intro hs hB
      obtain ⟨f, x, rfl⟩ : ∃ f x, A = f ++ [x] := ⟨A.dropLast, A.getLast (by intro h; simp [h] at hn), (List.dropLast_concat_getLast _).symm⟩
      simp at hn
      by_cases hx : e.2.1 < x.2.1
      · have := m (x :: B) f hn (by simpa using hs) (by intro y hy; rcases Da.1 hy with rfl | hy; exact hx; exact hB y hy)
        simpa using this
      · rw [oc hB, xg]
        · rw [Di, Di]
          rw [Di] at hs
          rw [DK] at hs ⊢
          obtain ⟨h1, h2, h3⟩ := hs
          have d := (Dm.1 (show (x :: B).Pairwise (fun a b => a.2.1 ≤ b.2.1) by simpa using h2))
          refine ⟨h1, ?_, ?_⟩
          · simp only [List.singleton_append]
            rw [Dm, Dm]
            refine ⟨?_, ?_, d.2⟩
            · intro y hy
              rcases Da.1 hy with rfl | hy
              · omega
              · exact d.1 y hy
            · intro y hy
              have := hB y hy
              omega
          · intro y hy z hz
            simp only [List.singleton_append, Da] at hz
            have g := h3 y hy x (by simp)
            rcases hz with rfl | rfl | hz
            · exact g
            · omega
            · exact h3 y hy z (by simp [hz])
        · intro y hy
          rcases Dd.1 hy with hy | hy
          · rw [Di, DK] at hs
            have := hs.2.2 y hy x (by simp)
            omega
          · simp at hy
            subst hy
            exact hx
  have := key [] A (by simpa using h) (by simp)
  simpa using this
theorem fg (L : List ac) : (bk L).Pairwise (fun a b => a.2.1 ≤ b.2.1) := by
  have key : ∀ (L A : List ac), A.Pairwise (fun a b => a.2.1 ≤ b.2.1) → (L.foldl eD A).Pairwise (fun a b => a.2.1 ≤ b.2.1) := by
    intro L
    induction L with
    | nil => intro A h; exact h
    | cons e r d => intro A h; exact d _ (sV h)
  exact key L [] List.Pairwise.nil
end Go.Proofs.YtpobkmjicbobdaaGreat
namespace Go.Proofs.YtpobkmjicbobdaaGreat
open Go.RowKit
/-! A cell is its last reset and what was added since. -/
end Go.Proofs.YtpobkmjicbobdaaGreat
namespace Go.Proofs.YtpobkmjicbobdaaGreat
set_option maxRecDepth 100000
set_option maxHeartbeats 40000000
open Go.RowKit
variable {L M:List ac} {base c n:Nat} {w w':World}
def ev (M : List ac) (c : eN) : eN := M.foldr (fun e c => yk c e) c
def Bm : eN := (false, ⟨#[]⟩, 0)
theorem uv (h : aI L = true) : L.Pairwise (fun a b => bo a.1 a.2.1 b.1 b.2.1 = true) := by
  rw [Dt]
  intro i j hi e d
  exact e9 h d (j' hi) (j' e)
/-! One class. -/
open Go.RowKit in
def pK (s : Int) (X : eN) : eN := (true, X.2.1, wrap64 (X.2.2 + s))
theorem BS (X : eN) {e : ac} (h : e.2.2.1 = 1) : yk X e = (true, e.2.2.2.1, e.2.2.2.2) := by simp [yk, fA, h]
theorem BQ (X : eN) {e : ac} (h : e.2.2.1 = 2) : yk X e = (false, ⟨#[]⟩, 0) := by simp [yk, fA, h]
theorem BP (X : eN) {e : ac} (h : e.2.2.1 = 3) : yk X e = pK e.2.2.2.2 X := by simp [yk, fA, h, pK]
open Go.RowKit in
theorem wu (x a b : Int) : wrap64 (wrap64 (x + a) + b) = wrap64 (x + (b + a)) := by unfold wrap64; omega
theorem add_add (a b : Int) (X : eN) : pK a (pK b X) = pK (a + b) X := by
  unfold pK
  simp only [wu]
def Ce (e : ac) : Prop := (e.2.2.1 = 1 ∨ e.2.2.1 = 2 ∨ e.2.2.1 = 3) ∧ (e.2.2.1 = 2 → e.2.2.2.2 = 0)
open Go.RowKit in
theorem qn : ∀ (L : List ac) (d : Int) (X : eN), (∀ e ∈ L, Ce e) →
    pK d (ev L X) = (if (aX false d L).1 = 3 then pK (aX false d L).2.2 X else (true, (aX false d L).2.1, wrap64 (aX false d L).2.2)) ∧ ((aX false d L).1 = 1 ∨ ((aX false d L).1 = 3 ∧ (aX false d L).2.1 = ⟨#[]⟩))
  | [], d, X, _ => by simp [aX, ev]
  | e :: R, d, X, h => by
    obtain ⟨hk, h0⟩ := h e Dy
    have g : ev (e :: R) X = yk (ev R X) e := rfl
    rw [g]
    rcases hk with hk | hk | hk
    · have f : aX false d (e :: R) = (1, e.2.2.2.1, d + e.2.2.2.2) := by simp [aX, hk]
      rw [f, BS _ hk]
      simp only [pK]
      rw [if_neg (by omega), Int.add_comm]
      exact ⟨rfl, .inl trivial⟩
    · have f : aX false d (e :: R) = (1, ⟨#[]⟩, d + e.2.2.2.2) := by simp [aX, hk]
      rw [f, BQ _ hk, h0 hk]
      simp only [pK]
      rw [if_neg (by omega), Int.add_comm]
      exact ⟨rfl, .inl trivial⟩
    · have f : aX false d (e :: R) = aX false (d + e.2.2.2.2) R := by
        conv => lhs; unfold aX
        rw [if_neg (by omega), if_neg (by omega)]
      rw [f, BP _ hk, add_add]
      exact qn R (d + e.2.2.2.2) X (fun x hx => h x (DB _ hx))
theorem AK (b : Bool) : ∀ (c : List ac) (x : ac), x ∈ lM b c → ∃ y ∈ c, x.1 = y.1 ∧ x.2.1 = y.2.1
  | [], x, h => by cases h
  | e :: R, x, h => by
    have d : x ∈ dJ b e.1 e.2.1 (e :: R) := h
    unfold dJ at d
    by_cases h1 : dH (aX true 0 (e :: R)).2.2 = true
    · rw [if_pos h1] at d
      by_cases h2 : b = true ∧ (aX true 0 (e :: R)).1 = 2
      · rw [if_pos h2] at d; cases d
      · rw [if_neg h2] at d
        have := Df.1 d
        rw [this]
        exact ⟨e, Dy, rfl, rfl⟩
    · rw [if_neg h1] at d
      exact ⟨x, d, rfl, rfl⟩
/-! The classes of a key. -/
/-! All keys. -/
/-! One class and its one entry. -/
theorem xy : ∀ (L : List ac) (d : Int), (∀ e ∈ L, Ce e) → (aX false d L).1 = 1 ∨ ((aX false d L).1 = 3 ∧ (aX false d L).2.1 = ⟨#[]⟩) := fun L d h => (qn L d Bm h).2
theorem uW (e : ac) (R : List ac) (h : ∀ x ∈ e :: R, Ce x) : (aX true 0 (e :: R)).1 = 1 ∨ ((aX true 0 (e :: R)).1 = 2 ∧ (aX true 0 (e :: R)).2.1 = ⟨#[]⟩ ∧ (aX true 0 (e :: R)).2.2 = 0) ∨ ((aX true 0 (e :: R)).1 = 3 ∧ (aX true 0 (e :: R)).2.1 = ⟨#[]⟩) := by
  obtain ⟨hk, h0⟩ := h e Dy
  rcases hk with hk | hk | hk
  · have d : aX true 0 (e :: R) = (1, e.2.2.2.1, 0 + e.2.2.2.2) := by simp [aX, hk]
    rw [d]; exact .inl rfl
  · have d : aX true 0 (e :: R) = (2, ⟨#[]⟩, 0 + e.2.2.2.2) := by simp [aX, hk]
    rw [d, h0 hk]; exact .inr (.inl ⟨rfl, rfl, rfl⟩)
  · have d : aX true 0 (e :: R) = aX false (0 + e.2.2.2.2) R := by
      conv => lhs; unfold aX
      rw [if_neg (by omega), if_neg (by omega)]
    rw [d]
    rcases xy R (0 + e.2.2.2.2) (fun x hx => h x (DB _ hx)) with h1 | h1
    · exact .inl h1
    · exact .inr (.inr h1)
/-! The classes of a key. -/
/-! All keys. -/
theorem tu : ∀ (L : List ac) (f : Bool) (d : Int), (∀ e ∈ L, e.2.2.2.1.size ≤ 60) → (aX f d L).2.1.size ≤ 60 := by
  intro L
  induction L with
  | nil => intro f d _; exact C3 _
  | cons e R g =>
    intro f d h
    unfold aX
    split
    · exact h e (Dy ..)
    · split
      · exact C3 _
      · exact g false _ (fun x hx => h x (DB _ hx))
def vh (e : ac) : Bool := cT e.1 e.2.1 e.2.2.1 e.2.2.2.1 e.2.2.2.2
theorem vO {e: ac} (h : vh e = true) : Ce e ∧ e.2.2.2.1.size ≤ 60 := by
  unfold vh cT at h
  simp only [Db, decide_eq_true_eq] at h
  obtain ⟨_, _, _, _, _, h5, h6⟩ := h
  refine ⟨⟨?_, ?_⟩, h5⟩
  · by_cases g : e.2.2.1 = 1
    · exact .inl g
    · by_cases d : e.2.2.1 = 2
      · exact .inr (.inl d)
      · by_cases f : e.2.2.1 = 3
        · exact .inr (.inr f)
        · rw [mX g d f] at h6; cases h6
  · intro d
    rw [d, gQ] at h6
    simp only [Db, decide_eq_true_eq] at h6
    exact h6.2
theorem BA (b : Bool) : ∀ c : List ac, (∀ e ∈ c, vh e = true) → ∀ x ∈ lM b c, vh x = true
  | [], _, x, hx => by cases hx
  | e :: R, h, x, hx => by
    by_cases hs : dH (aX true 0 (e :: R)).2.2 = true
    · have m := h e Dy
      have r := tu (e :: R) true 0 (fun y hy => (vO (h y hy)).2)
      have hf := uW e R (fun y hy => (vO (h y hy)).1)
      have f : x ∈ dJ b e.1 e.2.1 (e :: R) := hx
      unfold dJ at f
      rw [if_pos hs] at f
      obtain ⟨d, t, s, u⟩ : ∃ d t s, aX true 0 (e :: R) = (d, t, s) := ⟨_, _, _, rfl⟩
      rw [u] at hs hf r f
      simp only at hs hf r f
      by_cases h2 : b = true ∧ d = 2
      · rw [if_pos h2] at f; cases f
      · rw [if_neg h2] at f
        have g := Df.1 f
        rw [g]
        unfold vh cT at m ⊢
        simp only [Db, decide_eq_true_eq, dH] at m hs ⊢
        obtain ⟨a1, a2, a3, _⟩ := m
        refine ⟨a1, a2, a3, hs.1, hs.2, r, ?_⟩
        by_cases h3 : b = true ∧ d = 3
        · rw [if_pos h3]; exact mW
        · rw [if_neg h3]
          rcases hf with rfl | ⟨rfl, rfl, rfl⟩ | ⟨rfl, rfl⟩
          · exact mW
          · rw [gQ]; rfl
          · rw [ly]; rfl
    · have f : x ∈ dJ b e.1 e.2.1 (e :: R) := hx
      unfold dJ at f
      rw [if_neg hs] at f
      exact h x f
theorem nK (p : ac → Prop) (S : List Int) (bottom : Bool) {L : List ac} (s : ∀ b c, (∀ e ∈ c, e ∈ L) → c.length ≤ L.length → ∀ x ∈ lM b c, p x) : ∀ x ∈ bG L S bottom, p x := by
  unfold bG
  by_cases hr : aI L = true
  · rw [if_pos hr]
    intro x hx
    obtain ⟨G, hG, m⟩ := Ej.1 hx
    have key : ∀ f : List (List ac), (∀ c ∈ f, (∀ e ∈ c, e ∈ L) ∧ c.length ≤ L.length) → ∀ e ∈ (f.foldr (Sq.stepD lM) (bottom, [])).2, p e := by
      intro f
      induction f with
      | nil => intro _ e d; cases d
      | cons c f y =>
        intro h e d
        have g := y (fun x hx => h x (DB _ hx))
        rw [List.foldr_cons] at d
        generalize f.foldr (Sq.stepD lM) (bottom, []) = u at g d
        have r : e ∈ lM u.1 c ++ u.2 := d
        rcases Dd.1 r with h1 | h1
        · exact s _ c (h c Dy).1 (h c Dy).2 e h1
        · exact g e h1
    exact key _ (fun c hc => ⟨fun e d => (ig _ _ G hG).2 e ((ig _ _ c hc).2 e d), C8 (ig _ _ c hc).1 (ig _ _ G hG).1⟩) x m
  · rw [if_neg hr]; intro x hx; cases hx
theorem su (h : ∀ e ∈ L, vh e = true) (S : List Int) (bottom : Bool) : ∀ x ∈ bG L S bottom, vh x = true :=
  nK _ S bottom (fun b c hc _ => BA b c (fun e d => h e (hc e d)))
/-! Keys and times of what is left. -/
def kq (e : ac) : ByteArray × Int := (e.1, e.2.1)
theorem Bz (b : Bool) : ∀ c : List ac, ((lM b c).map kq).Sublist (c.map kq)
  | [] => Ee _
  | e :: R => by
    show ((dJ b e.1 e.2.1 (e :: R)).map kq).Sublist _
    unfold dJ
    by_cases h1 : dH (aX true 0 (e :: R)).2.2 = true
    · rw [if_pos h1]
      by_cases h2 : b = true ∧ (aX true 0 (e :: R)).1 = 2
      · rw [if_pos h2]; exact List.nil_sublist _
      · rw [if_neg h2]
        simp only [Ep, Ev, kq]
        exact List.Sublist.cons_cons _ (List.nil_sublist _)
    · rw [if_neg h1]; exact Ee _
theorem tq (bottom : Bool) : ∀ d : List (List ac), ((d.foldr (Sq.stepD lM) (bottom, [])).2.map kq).Sublist (d.flatten.map kq)
  | [] => Ee _
  | c :: d => by
    have e := tq bottom d
    rw [List.foldr_cons, DW, EJ]
    generalize d.foldr (Sq.stepD lM) (bottom, []) = f at e ⊢
    show ((lM f.1 c ++ f.2).map kq).Sublist _
    rw [EJ]
    exact EA (Bz _ c) e
theorem oT (S : List Int) (bottom : Bool) : ∀ d : List (List ac), ((d.flatMap (eG S bottom)).map kq).Sublist (d.flatten.map kq)
  | [] => Ee _
  | G :: d => by
    have e := oT S bottom d
    have h := tq bottom (Sq.parts (f7 S) G)
    rw [Sq.parts_flat] at h
    rw [ES, DW, EJ, EJ]
    exact EA h e
theorem ss (h : L.Pairwise (fun a b => bo a.1 a.2.1 b.1 b.2.1 = true)) (S : List Int) (bottom : Bool) : (bG L S bottom).Pairwise (fun a b => bo a.1 a.2.1 b.1 b.2.1 = true) := by
  unfold bG
  by_cases hr : aI L = true
  · rw [if_pos hr]
    have hs := oT S bottom (Sq.parts eY L)
    rw [Sq.parts_flat] at hs
    have h1 : (L.map kq).Pairwise (fun a b => bo a.1 a.2 b.1 b.2 = true) := List.pairwise_map.2 h
    exact List.pairwise_map.1 (h1.sublist hs)
  · rw [if_neg hr]; exact List.Pairwise.nil
theorem xd (hl : L.length = n) (h1 : ∀ e ∈ L, cT e.1 e.2.1 e.2.2.1 e.2.2.2.1 e.2.2.2.2 = true) (h2 : ∀ j, 1 ≤ j → j < n → ∀ x y, L[j - 1]? = some x → L[j]? = some y → bo x.1 x.2.1 y.1 y.2.1 = true) : aI L = true := by
  refine lh (k := n) (fun j g => ?_) (by omega)
  have d : j < L.length := by omega
  have f := j' d
  match j, g, d, f with
  | 0, _, d, f => rw [jC f]; exact h1 _ (Dq d)
  | j + 1, g, d, f =>
    have hd := j' (l := L) (i := j) (by omega)
    rw [ij f hd, h1 _ (Dq d), h2 (j + 1) (by omega) g _ _ (show L[j + 1 - 1]? = _ from hd) f]
    rfl
theorem iB (hr : aI L = true) (S : List Int) (bottom : Bool) : aI (bG L S bottom) = true := by
  have hp := ss (uv hr) S bottom
  refine xd rfl (su (fun e g => by obtain ⟨j, d⟩ := DF g; exact d4 hr d) S bottom) (fun j h1 h2 x y hx hy => ?_)
  obtain ⟨hi, f⟩ := Cx.1 hx
  obtain ⟨d, m⟩ := Cx.1 hy
  have := (Dt.1 hp) (j - 1) j hi d (by omega)
  rw [f, m] at this
  exact this
structure cH (w:World) (base:Nat) (a:Option Addr) (n c:Nat) (L:List ac):Prop where
 nil:a=none→n=0∧c=0∧L=[]
 own:∀x,a=some x→∃g,x=⟨g,0,none⟩∧af w base g n c L
theorem cH.some {g:Nat} (h:af w base g n c L):cH w base (pT g) n c L:=⟨(fun e=>by cases e),(fun x e=>by cases e;exact ⟨g,rfl,h⟩)⟩
theorem cH.none (w:World) (base:Nat):cH w base none 0 0 []:=⟨fun _=>⟨rfl,rfl,rfl⟩,fun x e=>by cases e⟩
theorem cH.len {a:Option Addr} (h:cH w base a n c L):L.length=n:=by
 cases a with
 | none=>obtain ⟨h1,_,h3⟩:=h.nil rfl;rw [h1,h3];rfl
 | some x=>obtain ⟨g,_,h2⟩:=h.own x rfl;exact h2.len
theorem cH.entsAt {a:Option Addr} (h:cH w base a n c L):ag w a n c L:=by
 cases a with
 | none =>
  obtain ⟨h1,h2,h3⟩:=h.nil rfl;subst h1 h2 h3;exact ⟨rfl,Cy _,C3 _,by simp,fun _=>rfl,(fun x e=>by cases e),(fun x e=>by cases e)⟩
 | some x=>obtain ⟨g,rfl,h2⟩:=h.own x rfl;exact h2.entsAt
theorem cH.lt {a:Option Addr} (h:cH w base a n c L):∀x,a=.some x→base≤x.block∧x.block<w.heap.size:=fun x e=>by
 obtain ⟨g,rfl,h2⟩:=h.own x e
 exact h2.lt
theorem cH.grown {a:Option Addr} {row:Option Nat} (h:cH w base a n c L) (hg:w.grownBy w' row) (d:∀x,a=.some x→.some x.block≠row):cH w' base a n c L :=
 ⟨h.nil,fun x e=>by obtain ⟨g,rfl,h2⟩:=h.own x e;exact ⟨g,rfl,h2.grown hg (d _ e)⟩⟩
theorem cH.mono {base':Nat} {a:Option Addr} (h:cH w base a n c L) (hb:base'≤base):cH w base' a n c L :=
 ⟨h.nil,fun x e=>by obtain ⟨g,rfl,h2⟩:=h.own x e;exact ⟨g,rfl,h2.mono hb⟩⟩
theorem oR (hb:Bl w w'):w.grownBy w' none:=⟨hb.os,hb.tape,hb.output,hb.size,fun k hk _=>hb.block k hk⟩
theorem cH.below {a:Option Addr} (h:cH w base a n c L) (hb:Bl w w'):cH w' base a n c L:=h.grown (oR hb) (fun x _ e=>by cases e)
theorem fU (hs:rU M) (f:∀e ∈ M,cT e.1 e.2.1 e.2.2.1 e.2.2.2.1 e.2.2.2.2=true):aI M=true:=by
 refine lh (k:=M.length) ?_ (Cy _);intro j d;have hg:M[j]?=some M[j]:=j' d;match j,d,hg with
 | 0,d,hg=>rw [jC hg];exact f _ (Dq d)
 | i+1,d,hg =>
  have hi:M[i]?=some (M[i]'(by omega)):=j' (by omega);rw [ij hg hi,f _ (Dq d)];exact (Dt.1 hs) i (i+1) (by omega) d (by omega)
theorem rl {a b:ac} (h:fN b a=false) (hd:¬(a.1=b.1∧a.2.1=b.2.1)):fN a b=true:=by
 have h1:=qh a.1 b.1 a.2.1 b.2.1;unfold fN at h ⊢;rw [h,Bool.or_false] at h1;rw [h1];by_cases e:a.1=b.1
 · have:¬a.2.1=b.2.1:=fun d=>hd ⟨e,d⟩
   simp [this]
 · simp [e]
def fX (L:List ac):Prop:=L.Pairwise (fun a b=>¬(a.1=b.1∧a.2.1=b.2.1))
theorem gL {A B:List ac} (h:fX A) (p:A.Perm B):fX B :=
 (List.Perm.pairwise_iff (fun {_ _} h e=>h ⟨e.1.symm,e.2.symm⟩) p).1 h
theorem qQ (h:aI L=true):fX L:=by
 refine (fZ h).imp ?_;rintro a b d ⟨f,e⟩;unfold fN at d;rw [f,e,oD] at d;cases d
theorem lT (hw:lJ M) (d:fX M):rU M:=by
 refine (List.Pairwise.and hw d).imp ?_;rintro a b ⟨h1,h2⟩;exact rl h1 h2
theorem sM {F G:List ac} (u:fX F) (p:F.Perm G):bF F=bF G :=
 ja (lT (bK F).1 (gL u (bK F).2.symm)) (bK G).1 ((bK F).2.trans (p.trans (bK G).2.symm))
end Go.Proofs.YtpobkmjicbobdaaGreat
