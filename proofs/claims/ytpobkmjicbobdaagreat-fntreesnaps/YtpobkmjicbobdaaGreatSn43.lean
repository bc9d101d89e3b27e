/- Walks. -/
import Derived.ChangeSlices
import Derived.Test.YtpobkmjicbobdaaGreatSn37
namespace Go.Proofs.YtpobkmjicbobdaaGreat
open Go.RowKit
set_option maxRecDepth 100000
def jh (w:World) (a:Option Addr) (len cap:Nat):Prop:=len≤cap∧cap≤maxLen∧(len=0∨∃b off,a=some ⟨b,off,none⟩∧b<w.heap.size∧∀i,i<len→∃z:Nat,z≤255∧w.cell? ⟨b,off+i,none⟩=some (.int .u8 z))
theorem jh.keep {w w':World} {a:Option Addr} {len cap:Nat} (h:jh w a len cap) (hb:Bl w w'):jh w' a len cap:=by
 obtain ⟨h1,h2,h3⟩:=h;refine ⟨h1,h2,?_⟩;rcases h3 with e | ⟨b,off,ha,hlt,hc⟩
 · exact Or.inl e
 · exact Or.inr ⟨b,off,ha,Nat.lt_of_lt_of_le hlt hb.size,fun i hi=>by obtain ⟨z,hz,hcc⟩:=hc i hi;exact ⟨z,hz,cell_later hb hcc⟩⟩
end Go.Proofs.YtpobkmjicbobdaaGreat
namespace Go.Proofs.YtpobkmjicbobdaaGreat
set_option maxRecDepth 100000
open Go.RowKit Go.Joins Go.ChangeShapes Go.WideShapes Go.ChangeAt
theorem Tryz.cellsU8:Tryz.prog.cellsOf 5=1:=by kernel_rfl
theorem tu {H:Type} {enc:TypeId × Value→H} {W:World} {b0 base:Nat} {v:Value} {d:DataW H} {p:List MemPlace} {held:Bool}
 (hv:Value.okWide Tryz.prog W .any b0 38 v) (h:DataW.Trod enc Tryz.prog W base (fun _=>true) held 38 v d p) :
 ∃(a:Option Addr) (len cap:Nat),v=.slice a len cap∧jh W a len cap:=by
 obtain ⟨a1,len,cap,rfl⟩:=okWide_slice Tryz.underlying38 hv;obtain ⟨fuel,hf⟩:=h;rcases Go.ChangeShapes.open_ints Tryz.underlying38 Tryz.underlying5 Tryz.cellsU8 hf with ⟨hcs,hx⟩ | ⟨a,len',cap',zs,hcs,_,hl,hm,hz,hx,hcell,hwz⟩
 · simp [Value.cells] at hcs;obtain ⟨rfl,rfl,rfl⟩:=hcs;exact ⟨none,0,0,rfl,Nat.le_refl _,Nat.zero_le _,Or.inl rfl⟩
 · simp [Value.cells] at hcs;obtain ⟨rfl,rfl,rfl⟩:=hcs;simp only [if_true] at hz;refine ⟨some a,len,cap,rfl,hl,hm,?_⟩;by_cases h0:len=0
   · exact Or.inl h0
   right
   obtain ⟨ab,ao,spot⟩:=a;have hspot:spot=none:=by simpa [Addr.add] using World.cell?_spot (hcell 0 (by omega))
   subst hspot;refine ⟨ab,ao,rfl,?_,fun i hi=>?_⟩
   · have:=World.block_lt_of_cell? _ _ (hcell 0 (by omega));simpa [Addr.add] using this
   · have hc:=hcell i (by omega);rw [Addr.add_lit] at hc;have hm':zs.getD i 0 ∈ zs:=by
      have hi':i<zs.length:=by omega
      rw [List.getD_eq_getElem?_getD,List.getElem?_eq_getElem hi'];exact List.getElem_mem hi'
     have hb:=bounds_u8 (hwz _ hm');obtain ⟨z,hz'⟩:=Int.eq_ofNat_of_zero_le hb.1;rw [hz'] at hc hb;exact ⟨z,by omega,hc⟩
end Go.Proofs.YtpobkmjicbobdaaGreat
