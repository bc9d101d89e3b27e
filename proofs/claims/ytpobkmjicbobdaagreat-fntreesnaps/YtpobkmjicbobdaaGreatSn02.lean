/- Walks. -/
import Derived.Deep.RegionWith
import Derived.Deep.QuietTactic
import Derived.BigQuiet
import Derived.Test.YtpobkmjicbobdaaGreatSn01
namespace Go.Proofs.YtpobkmjicbobdaaGreat
set_option maxRecDepth 100000
set_option maxHeartbeats 40000000
open Go.RowKit
variable {fuel i:Nat} {v:Value} {w:World}
theorem qh (n:Nat) (w:World) (hn:n≤16) :
 Calls Tryz.prog 253 #[iT n] w fun e w'=>e=.returned (iT ((2 ^ n:Nat):Int))∧w'=w:=by
 go_enter Tryz.func253,Tryz.ntmps253
 go_wp2;go_loop [3,4] (fun o i=>∃k p:Nat,k≤n∧i=iT k∧o=iT p∧p=2 ^ k) (fun _ i=>n - (intOf i).toNat)
 case atStart=>exact ⟨0,1,Nat.zero_le _,rfl,rfl,rfl⟩
 case round =>
  obtain ⟨k,p,hk,rfl,rfl,hp⟩:=hrel;have HP:Hid (p=2 ^ k):=hp;have hp2:p≤65536:=by rw [hp];exact Nat.pow_le_pow_right (n:=2) (by omega) (by omega:k≤16)
  clear hp;by_cases hlt:k<n
  · go_wp2;go_round
    case rel=>exact ⟨k+1,p*2,by omega,by go_num,by go_num,by rw [HP.out,Nat.pow_succ]⟩
    case measure=>simp [intOf];omega
  · go_wp2;go_ret;have:k=n:=by omega
    subst this;exact ⟨jU (by have:=HP.out;subst this;simp),rfl⟩
theorem xd (a b:Nat) (w:World) (ha:a<65536) (hb:b<65536) :
 Calls Tryz.prog 236 #[iT a,iT b] w fun e w'=>e=.returned (iT ((a ||| b:Nat):Int))∧w'=w:=by
 obtain ⟨c,hc⟩:=aI (a ||| b);have hcs:c<65536:=by rw [hc];exact gJ ha hb
 have HST:Hid (∀i,c / 2 ^ i=c / 2 ^ (i+1)*2+(if a / 2 ^ i % 2=1∨b / 2 ^ i % 2=1 then 1 else 0)):=by rw [hc];exact yF a b
 rw [← hc];clear hc;go_enter Tryz.func236,Tryz.ntmps236
 go_wp2;go_loop [5,6] (fun o i=>∃(k p:Nat) (x:Int),k≤16∧x=(k:Int) - 1∧i=iT x∧o=iT p∧p=c / 2 ^ k) (fun _ i=>(intOf i+1).toNat)
 case atStart=>exact ⟨16,0,15,Nat.le_refl _,rfl,rfl,rfl,(Nat.div_eq_of_lt hcs).symm⟩
 case round =>
  obtain ⟨k,p,x,hk,hx,rfl,rfl,hp⟩:=hrel;cases k with
  | zero =>
   have hp':p=c:=by simpa using hp
   subst hp';have hx':x=-1:=by omega
   subst hx';clear hx hp;go_wp2;go_ret;exact ⟨rfl,rfl⟩
  | succ j =>
   obtain ⟨z,hz⟩:∃z:Nat,z=2 ^ j:=⟨_,rfl⟩;have hz1:0<z:=by rw [hz];exact Nat.two_pow_pos j
   have hp2:p≤65536:=by rw [hp];exact Nat.le_trans (Nat.div_le_self _ _) (by omega)
   have HB:Hid (∀w,Calls Tryz.prog 253 #[iT j] w fun e w'=>e=.returned (iT (z:Int))∧w'=w):=by rw [hz];exact fun w=>qh j w (by omega)
   have hst:=HST.out j;rw [← hp,← hz] at hst;have HS:Hid (c / z=p*2+(if a / z % 2=1∨b / z % 2=1 then 1 else 0)):=hst;have HZ:Hid (z=2 ^ j):=hz;clear hst hp hz;have hx':x=(j:Int):=by omega
   subst hx';clear hx;obtain ⟨qa,hqa⟩:∃q:Nat,q=a / z:=⟨_,rfl⟩;obtain ⟨qb,hqb⟩:∃q:Nat,q=b / z:=⟨_,rfl⟩;have eA:(a:Int) / (z:Int)=(qa:Int):=by rw [hqa];simp
   have eB:(b:Int) / (z:Int)=(qb:Int):=by rw [hqb];simp
   have la:qa<65536:=by rw [hqa];exact Nat.lt_of_le_of_lt (Nat.div_le_self _ _) ha
   have lb:qb<65536:=by rw [hqb];exact Nat.lt_of_le_of_lt (Nat.div_le_self _ _) hb
   rw [← hqa,← hqb] at HS;clear hqa hqb;by_cases h1:qa % 2=1
   · have h1':(qa:Int) % 2=1:=by omega
     go_wp2_with (go_at_call 253;refine (HB.out _).mono ?_;rintro e w' ⟨rfl,rfl⟩)
     exact ⟨⟨j,p*2+1,(j:Int) - 1,by omega,rfl,rfl,by simp,by rw [← HZ.out,HS.out,if_pos (Or.inl h1)]⟩,by simp [intOf]⟩
   · have h1':¬(qa:Int) % 2=1:=by omega
     by_cases h2:qb % 2=1
     · have h2':(qb:Int) % 2=1:=by omega
       go_wp2_with (go_at_call 253;refine (HB.out _).mono ?_;rintro e w' ⟨rfl,rfl⟩)
       exact ⟨⟨j,p*2+1,(j:Int) - 1,by omega,rfl,rfl,by simp,by rw [← HZ.out,HS.out,if_pos (Or.inr h2)]⟩,by simp [intOf]⟩
     · have h2':((qb:Int) % 2 == 1)=false:=by rw [beq_eq_false_iff_ne];omega
       have h1b:((qa:Int) % 2 == 1)=false:=by rw [beq_eq_false_iff_ne];omega
       go_wp2_with (go_at_call 253;refine (HB.out _).mono ?_;rintro e w' ⟨rfl,rfl⟩)
       exact ⟨⟨j,p*2,(j:Int) - 1,by omega,rfl,rfl,by simp,by rw [← HZ.out,HS.out,if_neg (fun g=>g.elim h1 h2)];rfl⟩,by simp [intOf]⟩
theorem xg (s:ByteArray) (w:World) (hs:s.size≤maxLen) :
 Calls Tryz.prog 237 #[.string s] w fun e w'=>e=.returned (iT ((fY s:Nat):Int))∧w'=w:=by
 unfold maxLen at hs;go_enter Tryz.func237,Tryz.ntmps237
 go_wp2;go_loop [3,4] (fun o i=>∃k h:Nat,k≤s.size∧i=iT k∧o=iT h∧h<65521∧iu (s.data.toList.take k)=h) (fun _ i=>s.size - (intOf i).toNat)
 case atStart=>exact ⟨0,7,Nat.zero_le _,rfl,rfl,by omega,rfl⟩
 case round =>
  obtain ⟨k,h,hk,rfl,rfl,hh,hh2⟩:=hrel;have HH:Hid (iu (s.data.toList.take k)=h):=hh2;clear hh2;by_cases hlt:k<s.size
  · have HC:Hid (iu (s.data.toList.take (k+1))=(31*h+(s[k]).toNat) % 65521):=by
     show iu (s.data.toList.take (k+1))=(31*h+(s[k]).toNat) % 65521
     rw [pH s k hlt,HH.out];rfl
    have hc:(s[k]).toNat<256:=(s[k]).toNat_lt;go_wp2;go_round
    case rel=>exact ⟨k+1,(31*h+(s[k]).toNat) % 65521,by omega,by go_num,by go_num,by omega,HC.out⟩
    case measure=>simp [intOf];omega
  · have hke:k=s.size:=by omega
    have HE:Hid (fY s=2 ^ (h % 16) ||| 2 ^ (h / 16 % 16)):=by
     show fY s=_
     have:=HH.out;rw [List.take_of_length_le (by simp [hke])] at this;unfold fY uv;rw [this]
    obtain ⟨x,hx⟩:=aI (h % 16);obtain ⟨y,hy⟩:=aI (h / 16 % 16);rw [← hx,← hy] at HE;have hx1:x<16:=by omega
    have hy1:y<16:=by omega
    have ex:(h:Int) % 16=(x:Int):=by omega
    have ey:(h:Int) / 16 % 16=(y:Int):=by omega
    obtain ⟨px,hpx⟩:∃p:Nat,p=2 ^ x:=⟨_,rfl⟩;obtain ⟨py,hpy⟩:∃p:Nat,p=2 ^ y:=⟨_,rfl⟩;have CX:Hid (∀w,Calls Tryz.prog 253 #[iT x] w fun e w'=>e=.returned (iT (px:Int))∧w'=w):=by rw [hpx];exact fun w=>qh x w (by omega)
    have CY:Hid (∀w,Calls Tryz.prog 253 #[iT y] w fun e w'=>e=.returned (iT (py:Int))∧w'=w):=by rw [hpy];exact fun w=>qh y w (by omega)
    have hpx1:px<65536:=by rw [hpx];exact fd hx1
    have hpy1:py<65536:=by rw [hpy];exact fd hy1
    rw [← hpx,← hpy] at HE;clear hx hy hpx hpy;have COR:Hid (∀w,Calls Tryz.prog 236 #[iT px,iT py] w fun e w'=>e=.returned (iT ((px ||| py:Nat):Int))∧w'=w):=fun w=>xd px py w hpx1 hpy1
    go_wp2_with fail
    refine (CX.out _).mono ?_;rintro e w' ⟨rfl,rfl⟩;go_wp2_with fail
    refine (CY.out _).mono ?_;rintro e w' ⟨rfl,rfl⟩;go_wp2_with fail
    refine (COR.out _).mono ?_;rintro e w' ⟨rfl,rfl⟩;go_wp2;go_ret;exact ⟨jU (by rw [HE.out]),rfl⟩
theorem uK (a b:Nat) (ha:a<65536) (hb:b<65536):bits .or .i64 (a:Int) (b:Int)=((a ||| b:Nat):Int):=by
 have hc:=gJ ha hb;have e:(BitVec.ofInt 64 (a:Int) ||| BitVec.ofInt 64 (b:Int)).toNat=a ||| b:=by
  simp [BitVec.toNat_or];rw [Nat.mod_eq_of_lt (by omega),Nat.mod_eq_of_lt (by omega)]
 have e2:IntKind.i64.wrap (((a ||| b:Nat)):Int)=((a ||| b:Nat):Int):=by
  rw [IntWalk.i64_left];generalize a ||| b=y at hc
  unfold wrap64;omega
 show IntKind.i64.wrap ((BitVec.ofInt 64 (a:Int) ||| BitVec.ofInt 64 (b:Int)).toNat:Int)=_
 rw [e,e2]
theorem ru (x:Nat) (hx:x<16):wrap64 (2 ^ x)=((2 ^ x:Nat):Int):=by
 have hp:=fd hx;have:(2 ^ x:Int)=((2 ^ x:Nat):Int):=by simp
 rw [this];generalize 2 ^ x=y at hp;unfold wrap64;omega
theorem xO (s:ByteArray) (w:World) (hs:s.size≤maxLen) :
 Calls Tryz.prog 244 #[.string s] w fun e w'=>e=.returned (iT ((fY s:Nat):Int))∧Bl w w':=by
 unfold maxLen at hs;go_enter Tryz.func244,Tryz.ntmps244
 go_wp2;go_loop [3,7] (fun o i=>∃k h:Nat,k≤s.size∧i=iT k∧o=iT h∧h<65521∧iu (s.data.toList.take k)=h) (fun _ i=>s.size - (intOf i).toNat)
 case atStart=>exact ⟨0,7,Nat.zero_le _,rfl,rfl,by omega,rfl⟩
 case round =>
  obtain ⟨k,h,hk,rfl,rfl,hh,hh2⟩:=hrel;have HH:Hid (iu (s.data.toList.take k)=h):=hh2;clear hh2;by_cases hlt:k<s.size
  · have HC:Hid (iu (s.data.toList.take (k+1))=(31*h+(s[k]).toNat) % 65521):=by
     show iu (s.data.toList.take (k+1))=(31*h+(s[k]).toNat) % 65521
     rw [pH s k hlt,HH.out];rfl
    have hc:(s[k]).toNat<256:=(s[k]).toNat_lt;go_wp2;go_round
    case rel=>exact ⟨k+1,(31*h+(s[k]).toNat) % 65521,by omega,by go_num,by go_num,by omega,HC.out⟩
    case measure=>simp [intOf];omega
  · have hke:k=s.size:=by omega
    have HE:Hid (fY s=2 ^ (h % 16) ||| 2 ^ (h / 16 % 16)):=by
     show fY s=_
     have:=HH.out;rw [List.take_of_length_le (by simp [hke])] at this;unfold fY uv;rw [this]
    obtain ⟨x,hx⟩:=aI (h % 16);obtain ⟨y,hy⟩:=aI (h / 16 % 16);rw [← hx,← hy] at HE;have hx1:x<16:=by omega
    have hy1:y<16:=by omega
    have ex:(h:Int) % 16=(x:Int):=by omega
    have ey:(h:Int) / 16 % 16=(y:Int):=by omega
    clear hx hy;go_wp2_with fail
    go_quiet (fail)
    go_wp2;go_ret;refine ⟨jU ?_,below_drewN (Below.refl _ _) _⟩;rw [ru x hx1,ru y hy1,uK _ _ (fd hx1) (fd hy1),HE.out]
theorem cC {P:Program} {l:List Oper} {Q:Exit→Act→World→Prop} {md:Region.Mode} {S:World→Prop} {oi:Oper} {listed:Array Bool} {a:Act} (hi:l[i]?=some oi)
 (hs:Region.noSelect l.toArray=true) (hf:Region.free md l.toArray listed i=true) (hr:(Region.ready md l.toArray listed).contains i=true)
 (hQ:∀c a w,Q (.panic c) (a.put oi.dst v) w→Q (.panic c) a w) (hy:YieldsIf P l.toArray S oi v a) (hS:S w)
 (h:wpAnyH P md l.toArray Q S fuel (listed.setIfInBounds i true) (a.put oi.dst v) w):wpAnyH P md l.toArray Q S (fuel+1) listed a w :=
 wpAnyH_take (by simpa using hi) hs hf hr hQ hy hS h
theorem tkL {P:Program} {l:List Oper} {Q:Exit→Act→World→Prop} {md:Region.Mode} {S:World→Prop} (i:Nat) {oi:Oper} {v:Value} {fuel:Nat} {listed:Array Bool} {a:Act} {w:World} (hS:S w)
 (h:wpAnyH P md l.toArray Q S fuel (listed.setIfInBounds i true) (a.put oi.dst v) w) (hi:l[i]?=some oi:=by exact rfl) (hs:Region.noSelect l.toArray=true:=by kernel_rfl) (hf:Region.free md l.toArray listed i=true:=by kernel_rfl) (hr:(Region.ready md l.toArray listed).contains i=true:=by kernel_rfl)
 (hQ:∀c a w,Q (.panic c) (a.put oi.dst v) w→Q (.panic c) a w:=by exact fun _ _ _ h=>h) (hy:YieldsIf P l.toArray S oi v a:=by (refine Or.inl ⟨by rfl,?_⟩;intro w hSw;(try dsimp only at hSw);go_simp;try with_reducible rfl)):wpAnyH P md l.toArray Q S (fuel+1) listed a w :=
 cC hi hs hf hr hQ hy hS h
theorem tkN {P:Program} {l:List Oper} {Q:Exit→Act→World→Prop} {md:Region.Mode} {S:World→Prop} (i:Nat) {oi:Oper} {fuel:Nat} {listed:Array Bool} {a:Act} {w:World} (hS:S w)
 (h:wpAnyH P md l.toArray Q S fuel (listed.setIfInBounds i true) (a.put oi.dst undef) w) (hi:l[i]?=some oi:=by exact rfl) (hs:Region.noSelect l.toArray=true:=by kernel_rfl) (hf:Region.free md l.toArray listed i=true:=by kernel_rfl) (hr:(Region.ready md l.toArray listed).contains i=true:=by kernel_rfl)
 (hQ:∀c a w,Q (.panic c) (a.put oi.dst undef) w→Q (.panic c) a w:=by exact fun _ _ _ h=>h) (hy:YieldsIf P l.toArray S oi undef a:=by exact Or.inr ⟨by rfl,rfl⟩):wpAnyH P md l.toArray Q S (fuel+1) listed a w :=
 cC hi hs hf hr hQ hy hS h
theorem bU {P:Program} {l:List Oper} {Q:Exit→Act→World→Prop} {md:Region.Mode} {S:World→Prop} {listed:Array Bool} {a:Act} {o:Oper} {rs:List Nat} (ho:l[i]?=some o)
 (h:∀K':Act→World→Prop,Shut (∀a w,S w→(S w→wpAnyH P md l.toArray Q S fuel (listed.setIfInBounds i true) a w)→K' a w)→if Region.wanted o (yielded l.toArray a.tmps)=true then Oper.wp P o a w K' Q else K' (a.put o.dst undef) w)
 (hs:AllReadyH P md l.toArray Q S fuel listed a w rs):AllReadyH P md l.toArray Q S fuel listed a w (i :: rs) :=
 AllReadyH.cons (by simpa using ho) h hs
theorem aJ {P:Program} {l:List Oper} {Q:Exit→Act→World→Prop} {md:Region.Mode} {S:World→Prop} (i:Nat) {o:Oper} {fuel:Nat} {listed:Array Bool} {a:Act} {w:World}
 (h:∀K':Act→World→Prop,Shut (∀a w,S w→(S w→wpAnyH P md l.toArray Q S fuel (listed.setIfInBounds i true) a w)→K' a w)→if Region.wanted o (yielded l.toArray a.tmps)=true then Oper.wp P o a w K' Q else K' (a.put o.dst undef) w)
 (ho:l[i]?=some o:=by exact rfl) (hr:Region.ready md l.toArray listed=[i]:=by kernel_rfl):wpAnyH P md l.toArray Q S (fuel+1) listed a w :=
 wpAnyH_ready hr (by simp) (bU ho h AllReadyH.nil)
def pV (P:Program) (md:Region.Mode) (l:List Oper) (Q:Exit → Act → World → Prop) (S:World → Prop) (fuel:Nat) (w:World):Nat → Nat → Array Bool → Act → Prop
 | 0,_,listed,a=>wpAnyH P md l.toArray Q S fuel listed a w
 | n+1,i,listed,a=>∃oi v,(l[i]? = some oi∧Region.noSelect l.toArray=true∧Region.free md l.toArray listed i=true∧(Region.ready md l.toArray listed).contains i=true)∧(∀c a w,Q (.panic c) (a.put oi.dst v) w → Q (.panic c) a w)∧YieldsIf P l.toArray S oi v a∧pV P md l Q S fuel w n (i+1) (listed.setIfInBounds i true) (a.put oi.dst v)
theorem tk0 {P:Program} {md:Region.Mode} {l:List Oper} {Q:Exit → Act → World → Prop} {S:World → Prop} {listed:Array Bool} {a:Act} (h:wpAnyH P md l.toArray Q S fuel listed a w):pV P md l Q S fuel w 0 i listed a:=h
theorem AE {P:Program} {md:Region.Mode} {l:List Oper} {Q:Exit → Act → World → Prop} {S:World → Prop} {n:Nat} {listed:Array Bool} {a:Act} {oi:Oper} (hi:l[i]? = some oi) (hs:Region.noSelect l.toArray=true) (hf:Region.free md l.toArray listed i=true) (hr:(Region.ready md l.toArray listed).contains i=true)
 (hQ:∀c a w,Q (.panic c) (a.put oi.dst v) w → Q (.panic c) a w) (hy:YieldsIf P l.toArray S oi v a) (h:pV P md l Q S fuel w n (i+1) (listed.setIfInBounds i true) (a.put oi.dst v)):pV P md l Q S fuel w (n+1) i listed a:=⟨oi,v,⟨hi,hs,hf,hr⟩,hQ,hy,h⟩
theorem AD {P:Program} {md:Region.Mode} {l:List Oper} {Q:Exit → Act → World → Prop} {S:World → Prop} {fuel:Nat} {w:World} (hS:S w):∀(n i:Nat) (listed:Array Bool) (a:Act),pV P md l Q S fuel w n i listed a → wpAnyH P md l.toArray Q S (fuel+n) listed a w
 | 0,_,_,_,h=>h
 | n+1,_,_,_,⟨_,_,⟨hi,hs,hf,hr⟩,hQ,hy,h⟩=>cC hi hs hf hr hQ hy hS (AD hS n _ _ _ h)
theorem aO {P:Program} {md:Region.Mode} {l:List Oper} {Q:Exit → Act → World → Prop} {S:World → Prop} (i n:Nat) {listed:Array Bool} {a:Act} {g:Prop} (hS:S w) (h:g)
 (e:g → pV P md l Q S fuel w n i listed a:=by
  (intro hg; repeat (first | exact tk0 hg | ((refine AE (v:=?_) rfl (by kernel_rfl) (by kernel_rfl) (by kernel_rfl) (fun _ _ _ h=>h) (Or.inl ⟨by rfl,?_⟩) ?_; rotate_left; · (intro w hSw; (try dsimp only at hSw); go_simp; try with_reducible rfl)); try simp only [Act.put,List.setIfInBounds_toArray,List.set_cons_succ,List.set_cons_zero]) | (refine AE (v:=undef) rfl (by kernel_rfl) (by kernel_rfl) (by kernel_rfl) (fun _ _ _ h=>h) (Or.inr ⟨by rfl,rfl⟩) ?_; try simp only [Act.put,List.setIfInBounds_toArray,List.set_cons_succ,List.set_cons_zero])))):wpAnyH P md l.toArray Q S (fuel+n) listed a w:=AD hS n i listed a (e h)
theorem my {P:Program} {l:List Oper} {Q:Exit → Act → World → Prop} {md:Region.Mode} {S:World → Prop} (i j:Nat) {o p:Oper} {fuel:Nat} {listed:Array Bool} {a:Act} {w:World}
 (h:∀K':Act → World → Prop,Shut (∀a w,S w → (S w → wpAnyH P md l.toArray Q S fuel (listed.setIfInBounds i true) a w) → K' a w) → if Region.wanted o (yielded l.toArray a.tmps)=true then Oper.wp P o a w K' Q else K' (a.put o.dst undef) w)
 (h2:∀K':Act → World → Prop,Shut (∀a w,S w → (S w → wpAnyH P md l.toArray Q S fuel (listed.setIfInBounds j true) a w) → K' a w) → if Region.wanted p (yielded l.toArray a.tmps)=true then Oper.wp P p a w K' Q else K' (a.put p.dst undef) w)
 (ho:l[i]? = some o:=by exact rfl) (hp:l[j]? = some p:=by exact rfl) (hr:Region.ready md l.toArray listed=[i,j]:=by kernel_rfl):wpAnyH P md l.toArray Q S (fuel+1) listed a w:=wpAnyH_ready hr (by simp) (bU ho h (bU hp h2 AllReadyH.nil))
theorem rd3 {P:Program} {l:List Oper} {Q:Exit → Act → World → Prop} {md:Region.Mode} {S:World → Prop} (i j k:Nat) {o p q:Oper} {fuel:Nat} {listed:Array Bool} {a:Act} {w:World}
 (h:∀K':Act → World → Prop,Shut (∀a w,S w → (S w → wpAnyH P md l.toArray Q S fuel (listed.setIfInBounds i true) a w) → K' a w) → if Region.wanted o (yielded l.toArray a.tmps)=true then Oper.wp P o a w K' Q else K' (a.put o.dst undef) w)
 (h2:∀K':Act → World → Prop,Shut (∀a w,S w → (S w → wpAnyH P md l.toArray Q S fuel (listed.setIfInBounds j true) a w) → K' a w) → if Region.wanted p (yielded l.toArray a.tmps)=true then Oper.wp P p a w K' Q else K' (a.put p.dst undef) w)
 (h3:∀K':Act → World → Prop,Shut (∀a w,S w → (S w → wpAnyH P md l.toArray Q S fuel (listed.setIfInBounds k true) a w) → K' a w) → if Region.wanted q (yielded l.toArray a.tmps)=true then Oper.wp P q a w K' Q else K' (a.put q.dst undef) w)
 (ho:l[i]? = some o:=by exact rfl) (hp:l[j]? = some p:=by exact rfl) (hq:l[k]? = some q:=by exact rfl) (hr:Region.ready md l.toArray listed=[i,j,k]:=by kernel_rfl):wpAnyH P md l.toArray Q S (fuel+1) listed a w:=wpAnyH_ready hr (by simp) (bU ho h (bU hp h2 (bU hq h3 AllReadyH.nil)))
theorem eD {P:Program} {ops:Array Oper} {Q:Exit → Act → World → Prop} {id:Nat} {a:Act} {R S:World → Prop} (H:Hid (∀w',R w' → S w')) (k:R w.drew) (h:S w.drew → wpAnyH P .any ops Q S ops.size (Array.replicate ops.size false) a w.drew) (hm:P.follows .mixedOrders=true:=by kernel_rfl):(Code.region id ops true).wp P Q a w:=wp_region_held_drew hm (H.out _ k) h
theorem x6 {P:Program} {ops:Array Oper} {Q:Exit → Act → World → Prop} {id:Nat} {a:Act} {R S:World → Prop} (H:∀w',R w' → S w') (k:R w.drew) (h:S w.drew → wpAnyH P .any ops Q S ops.size (Array.replicate ops.size false) a w.drew) (hm:P.follows .mixedOrders=true:=by kernel_rfl):(Code.region id ops true).wp P Q a w:=wp_region_held_drew hm (H _ k) h
theorem dN {P:Program} {md:Region.Mode} {l:List Oper} {Q:Exit → Act → World → Prop} {S:World → Prop} {fuel:Nat} {listed:Array Bool} {a:Act} (h:Q .normal a w) (hr:Region.ready md l.toArray listed=[]:=by kernel_rfl):wpAnyH P md l.toArray Q S fuel listed a w:=wpAnyH_done hr h _
theorem nG (k t:ByteArray) (q n:Int) (w:World) :
 Calls Tryz.prog 100 #[.agg #[.string k,iT q,iT 1,.string t,iT n]] w fun e w'=>e=.returned (.iface 176 (.agg #[]))∧Bl w w':=by
 go_enter Tryz.func100,Tryz.ntmps100
 go_wp2;go_ret;exact ⟨rfl,bZ⟩
theorem nH (k t:ByteArray) (q n:Int) (w:World) :
 Calls Tryz.prog 100 #[.agg #[.string k,iT q,iT 2,.string t,iT n]] w fun e w'=>e=.returned (.iface 177 (.agg #[]))∧Bl w w':=by
 go_enter Tryz.func100,Tryz.ntmps100
 go_wp2;go_ret;exact ⟨rfl,bZ⟩
theorem nJ (k t:ByteArray) (q n:Int) (w:World) :
 Calls Tryz.prog 100 #[.agg #[.string k,iT q,iT 3,.string t,iT n]] w fun e w'=>e=.returned (.iface 178 (.agg #[]))∧Bl w w':=by
 go_enter Tryz.func100,Tryz.ntmps100
 go_wp2;go_ret;exact ⟨rfl,bZ⟩
theorem oW (k t:ByteArray) (q d n:Int) (w:World) (d1:¬d=1) (d2:¬d=2) (d3:¬d=3) :
 Calls Tryz.prog 100 #[.agg #[.string k,iT q,iT d,.string t,iT n]] w fun e w'=>e=.returned (.iface 179 (.agg #[]))∧Bl w w':=by
 have e1:(d == 1)=false:=by simpa using d1
 have e2:(d == 2)=false:=by simpa using d2
 have e3:(d == 3)=false:=by simpa using d3
 go_enter Tryz.func100,Tryz.ntmps100
 go_wp2;go_ret;exact ⟨rfl,bZ⟩
theorem qy (k t:ByteArray) (q n:Int) (w:World) :
 Calls Tryz.prog 312 #[.agg #[],.agg #[.string k,iT q,iT 1,.string t,iT n]] w fun e w'=>e=.returned (.bool (eU 1 t n))∧Bl w w':=by
 go_enter Tryz.func312,Tryz.ntmps312
 go_wp2;go_ret;exact ⟨ag (mz (t:=t) (n:=n)).symm,bZ.alloc (by simp) _⟩
theorem qA (k t:ByteArray) (q n:Int) (w:World) :
 Calls Tryz.prog 314 #[.agg #[],.agg #[.string k,iT q,iT 2,.string t,iT n]] w fun e w'=>e=.returned (.bool (eU 2 t n))∧Bl w w':=by
 by_cases t0:t=ByteArray.empty
 · subst t0;by_cases n0:n=0
   · subst n0;go_enter Tryz.func314,Tryz.ntmps314
     go_wp2;all_goals
      go_ret;exact ⟨ag (by rw [f5];rfl),bZ.alloc (by simp) _⟩
   · have n1:(n == 0)=false:=by simpa using n0
     go_enter Tryz.func314,Tryz.ntmps314
     go_wp2;all_goals
      go_ret;exact ⟨ag (by rw [f5];simp [n0]),bZ.alloc (by simp) _⟩
 · have t1:=eT t0;have t2:=iR t0;go_enter Tryz.func314,Tryz.ntmps314
   go_wp2;all_goals
    go_ret;exact ⟨ag (by rw [f5];simp [t1]),bZ.alloc (by simp) _⟩
theorem qB (k t:ByteArray) (q n:Int) (w:World) :
 Calls Tryz.prog 316 #[.agg #[],.agg #[.string k,iT q,iT 3,.string t,iT n]] w fun e w'=>e=.returned (.bool (eU 3 t n))∧Bl w w':=by
 by_cases t0:t=ByteArray.empty
 · subst t0;go_enter Tryz.func316,Tryz.ntmps316
   go_wp2;all_goals
    go_ret;exact ⟨ag (by rw [kf];rfl),bZ.alloc (by simp) _⟩
 · have t1:=eT t0;have t2:=iR t0;go_enter Tryz.func316,Tryz.ntmps316
   go_wp2;all_goals
    go_ret;exact ⟨ag (by rw [kf];simp [t1,t2]),bZ.alloc (by simp) _⟩
theorem r6 (k t:ByteArray) (q d n:Int) (w:World) (d1:¬d=1) (d2:¬d=2) (d3:¬d=3) :
 Calls Tryz.prog 318 #[.agg #[],.agg #[.string k,iT q,iT d,.string t,iT n]] w fun e w'=>e=.returned (.bool (eU d t n))∧Bl w w':=by
 go_enter Tryz.func318,Tryz.ntmps318
 go_wp2;go_ret;exact ⟨ag (mA d1 d2 d3).symm,bZ.alloc (by simp) _⟩
end Go.Proofs.YtpobkmjicbobdaaGreat
