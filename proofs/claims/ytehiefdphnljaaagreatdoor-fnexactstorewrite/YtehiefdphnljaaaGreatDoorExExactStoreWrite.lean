/-
  At every store and list of entries the program's StoreWrite answers as the document's, field by field, in memory of its own, and writes into no argument; the condition is the card's own: strconv's table of powers of ten and its two errors
-/
import Derived.WalkKit
import Derived.ProofKit
import Derived.OpenShut
import Derived.ShutString
import Derived.ChangeOld
import Derived.Below
import Derived.Lib.SmallJoins
import Derived.LaidMore
import Derived.LaidLaws
import Derived.Stop.LaidErr
import Derived.Lib.LaidTab
import Derived.Stop.Joined
import Derived.SevenTiedAt
import Derived.Test.YtehiefdphnljaaaGreatDoorRows
import Derived.Test.YtehiefdphnljaaaGreatDoorTie
import Derived.Test.YtehiefdphnljaaaGreatDoorCards
import Derived.Test.YtehiefdphnljaaaGreatDoorSw51
namespace Go.Proofs.YtehiefdphnljaaaGreatDoor
set_option maxRecDepth 100000
set_option maxHeartbeats 100000000
namespace fnExactStoreWriteDone
open Go.ChangeShapes Go.WideShapes Go.ChangeAt Go.RowKit
open Go.ChangeMaps (open_string shut_string)
set_option linter.unusedVariables false
theorem own:ownKnob Tryz.prog.godebug=none:=by kernel_rfl
theorem laidOut:laidOutB Tryz.prog=true:=by kernel_rfl
theorem gT : Tryz.prog.globalNamed "internal/strconv.uint64pow10" = some 0 := by kernel_rfl
theorem gTType:(Tryz.prog.globals[0]?).map (·.type)=some 245:=by kernel_rfl
theorem gS : Tryz.prog.globalNamed "strconv.ErrSyntax" = some 4 := by kernel_rfl
theorem gSType:(Tryz.prog.globals[4]?).map (·.type)=some 174:=by kernel_rfl
theorem gR : Tryz.prog.globalNamed "strconv.ErrRange" = some 5 := by kernel_rfl
theorem gRType:(Tryz.prog.globals[5]?).map (·.type)=some 174:=by kernel_rfl
theorem star : "*" ++ "errors.errorString" = "*errors.errorString" := by decide
theorem rowE (u : TypeId) (h : Tryz.prog.typeName? 3 u = some "*errors.errorString") : u = 267 :=
 typeName_ptr_named (nm := "errors.errorString") (by rw [star]; kernel_rfl) (by kernel_rfl) (by decide) u (by rw [star]; exact h)
theorem cellsE:Tryz.prog.cellsOf 269=1:=by kernel_rfl
theorem cellsS:Tryz.prog.cellsOf 9=1:=by kernel_rfl
theorem frW_of_laid {W:World} (h:laidMetH Tryz.prog Rows.fnExactStoreWriteRow.laid W):BK W.heap.size W:=by
 have h':laidMet Tryz.prog Rows.fnExactStoreWriteRow.laid W:=h;have hT : Lib.TabIs Tryz.prog W "internal/strconv.uint64pow10" .u64 Lib.pow10Tab := Lib.tabIs_of_head gT gTType Tryz.underlying245 Tryz.underlying233 (by kernel_rfl) (by kernel_rfl) (laidMet.tail (laidMet.tail h'))
 obtain ⟨a,_,hR,_⟩:=laid_sentinel (laidMet.tail (laidMet.tail (laidMet.tail h'))) gR gRType Tryz.underlying174 rowE Tryz.underlying267 Tryz.underlying269 rfl rfl Tryz.underlying9 cellsE cellsS;obtain ⟨b,_,hS,_⟩:=laid_sentinel (laidMet.tail (laidMet.tail (laidMet.tail (laidMet.tail h')))) gS gSType Tryz.underlying174 rowE Tryz.underlying267 Tryz.underlying269 rfl rfl Tryz.underlying9 cellsE cellsS;have hE:um W:=⟨⟨_,_,hS⟩,_,_,hR⟩;exact ⟨fun w' k=>hE.below k,Lib.tabBelow_of_tabIs hT⟩
theorem door_met (os:Os) (args:Array Value):laidMetH Tryz.prog Rows.fnExactStoreWriteRow.laid ((World.doorLaid Tryz.prog 400 os).forCall (fun _ _=>0) ⟨#[],args,[]⟩).memory :=
 laidMetH_of_parts3 (fuel:=8) (laidMet_of_run' 8 (by kernel_rfl) (by kernel_rfl)) (by kernel_rfl) (by kernel_rfl)
theorem lifted (os:Os) (started:os.Started) (H:Type) (enc:TypeId × Value→H) :
 ReturnsInHanded {} Tryz.checked os 3 .any (fun w args=>(Rows.fnExactStoreWriteSpec.pre enc Tryz.prog Tryz.f3 [] false w args∧laidMetH Tryz.prog Rows.fnExactStoreWriteRow.laid w)∧sizedMet enc Tryz.prog Tryz.f3 (OpenSpec.ofChange Rows.fnExactStoreWriteSpec) false w args) (Rows.fnExactStoreWriteSpec.post enc Tryz.prog Tryz.f3 false true false false):=by
 refine returnsInHanded_of_change_and (C:=Tryz.checked) (X:=fun w _=>laidMetH Tryz.prog Rows.fnExactStoreWriteRow.laid w) (fun _ _ _ hh h=>h.of_heap hh) own started (by kernel_rfl) Tryz.func3
  (ChangeSpec.witness_shaped (enc:=enc) (C:=Tryz.checked) (os:=os) (X:=fun w _=>laidMetH Tryz.prog Rows.fnExactStoreWriteRow.laid w) false (World.doorLaid Tryz.prog 400 os) #[.agg #[.bool false,iT 0,nZ,nZ,nZ,.string ByteArray.empty,iT 0,nZ,iT 0],nZ] 8 rfl (World.shaped_of_RefB (by kernel_rfl) (by kernel_rfl)) (by kernel_rfl) (by kernel_rfl) (by kernel_rfl) (door_met os _)) ?_
 intro W base args ds gs before hval0 hW _ _ hL _;have hval:∀(j:Nat) t v,Tryz.f3.params[j]?=some t→args[j]?=some v→Value.okWide Tryz.prog W .any base t v:=hval0;have hW':=hW;obtain ⟨p,q,hA0,hV,rfl,hfz,hnd⟩:=hW;have hA:DataW.TrodAll enc Tryz.prog W 0 (fun _=>true) true Tryz.f3.params.toList args.toList ds p:=hA0;rw [Tryz.params3] at hA hval;obtain ⟨v0,vs0,d0,ds0,p0,q0,hargs,rfl,rfl,h0,r0⟩:=trodAll_cons hA;obtain ⟨v1,vs1,d1,ds1,p1,q1,rfl,rfl,rfl,h1,r1⟩:=trodAll_cons r0;obtain ⟨rfl,rfl,rfl⟩:=trodAll_nil r1;obtain rfl:args=#[v0,v1]:=by cases args;simp_all
 obtain ⟨rfl,rfl⟩:=trodVars_none hV;have lt0:∀x ∈ p0,x.block<W.heap.size:=by obtain ⟨m,hm⟩:=h0;exact DataW.trod_lt m _ _ _ hm
 have lt1:∀x ∈ p1,x.block<W.heap.size:=by obtain ⟨m,hm⟩:=h1;exact DataW.trod_lt m _ _ _ hm
 have k0:=h0;obtain ⟨upv0,qv0,mv0,nmv0,cmv0,vv0,nvv0,cvv0,kv0,nsv0,csv0,lgv0,sfv0,dv0,ndv0,cdv0,sdv0,Mv0,Vv0,Sv0,Uv0,rfl,w0⟩:=ts (hval 0 30 v0 rfl rfl) h0;have k1:=h1;obtain ⟨s1,n1,c1,L1,rfl,w1⟩:=vy (hval 1 22 v1 rfl rfl) h1;clear hA0 hval0;refine (iD upv0 qv0 mv0 nmv0 cmv0 vv0 nvv0 cvv0 kv0 nsv0 csv0 lgv0 sfv0 dv0 ndv0 cdv0 sdv0 Mv0 Vv0 Sv0 Uv0 s1 n1 c1 L1 W w0 w1 (frW_of_laid hL)).mono fun e W' ⟨he,bel⟩=>?_
 subst he;exact ⟨_,rfl,_,_,_,[],_,[],hW',trodAll_mk1 (shut_bool Tryz.underlying4 _),(trodAll_cons_mk (Below.trod laidOut (by kernel_rfl) (of_decide_eq_true (by kernel_rfl)) k0 bel lt0) (trodAll_cons_mk (Below.trod laidOut (by kernel_rfl) (of_decide_eq_true (by kernel_rfl)) k1 bel lt1) trodAll_mk0)),rfl,bel.frame _,fun h=>by cases h⟩
theorem facts:joinedFacts Tryz.pinned.checked.prog 3 Tryz.f3 Rows.fnExactStoreWriteSpec Rows.fnExactStoreWriteRow=true:=by
 unfold joinedFacts;simp only [Bool.and_eq_true];repeat' apply And.intro
 all_goals (as_aux_lemma=>kernel_rfl)
theorem named:Tryz.pinned.checked.prog.funcNamed Rows.fnExactStoreWriteRow.func=some 3:=by kernel_rfl
theorem inst:Tryz.f3.isInstance Tryz.pinned.checked.prog Rows.fnExactStoreWriteRow.origin Rows.fnExactStoreWriteRow.targs:=of_decide_eq_true (by kernel_rfl)
theorem wrap:Tryz.f3.isWrapper Tryz.pinned.checked.prog Rows.fnExactStoreWriteRow.wrapper Rows.fnExactStoreWriteRow.mainSum:=by unfold Func.isWrapper;first | (rw [if_pos (by decide +kernel)];kernel_rfl) | (rw [if_neg (by decide +kernel)];exact ⟨rfl,rfl⟩)
theorem over:Rows.fnExactStoreWriteRow.holds Tryz.pinned (OpenSpec.ofChange Rows.fnExactStoreWriteSpec) :=
 OpenClaim.holds_of_wide 3 Tryz.f3 rfl rfl rfl rfl rfl rfl rfl ⟨rfl,rfl,rfl,rfl,rfl⟩ rfl rfl rfl rfl rfl named Tryz.func3 facts inst wrap
  (fun os started H enc _=>lifted os started H enc)
end fnExactStoreWriteDone
theorem fnExactStoreWrite_row:Rows.FnExactStoreWriteSaid:=fnExactStoreWriteDone.over
theorem fnExactStoreWriteCard_holds:Rows.FnExactStoreWriteCardSaid :=
 Claim7.holds_tied_plain_at .later [] [.data, .data, .data, .sentinel, .sentinel] true (true, "766177f0c661e7847c22cb06d4a133caa07f8a8528d4be615bd66d7b4c432ebc") true
  fnExactStoreWrite_row (fun _ h=>by cases h) (by as_aux_lemma=>kernel_rfl) (fun _ h=>by cases h) fnExactStoreWrite_row_tie rfl ⟨rfl,rfl⟩ (by as_aux_lemma=>kernel_rfl) rfl
  (fun f fn hf hfn=>by
   obtain rfl : f = 3 := Option.some.inj ((show Tryz.prog.funcNamed "loop.example/comptoir/laws.FnExactStoreWrite" = some 3 by as_aux_lemma => kernel_rfl).symm.trans hf) |>.symm
   obtain rfl:fn=Tryz.f3:=(Option.some.inj (Tryz.func3.symm.trans hfn)).symm
   exact ⟨by as_aux_lemma=>kernel_rfl,fun j t ht=>by
    rw [Tryz.params3] at ht
    have hm:t ∈ [30,22]:=by simpa using Array.mem_of_getElem? ht
    have hall:([30,22].all fun u=>!Tryz.prog.wantsStandIn u)=true:=by as_aux_lemma=>kernel_rfl
    exact (show Tryz.prog.wantsStandIn t=false by simpa using List.all_eq_true.1 hall t hm)⟩)
  (by as_aux_lemma=>kernel_rfl)
#print axioms fnExactStoreWriteCard_holds
end Go.Proofs.YtehiefdphnljaaaGreatDoor
