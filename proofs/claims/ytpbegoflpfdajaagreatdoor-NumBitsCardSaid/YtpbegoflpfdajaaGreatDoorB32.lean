/- WHAT IS PROVED: contracts of functions of the numbers package and laws for them, used by the last text of this claim. CONDITIONS: stated at each theorem. -/
import Derived.Test.YtpbegoflpfdajaaGreatDoorRows
import Derived.Test.YtpbegoflpfdajaaGreatDoorB31
import Derived.ProofKit
import Derived.LaidMore
import Derived.OpenShut
import Derived.SizedLaws
import Derived.Carry
import Derived.Stop.Joined
import Derived.Stop.LaidErr
import Derived.Shelf.Vars
import Derived.Lib.LaidTab
namespace Go.Proofs.YtpbegoflpfdajaaGreatDoor
open Go.ChangeShapes Go.WideShapes Go.ChangeAt Go.WideMaps Go.WideElems Go.RowKit

theorem own : ownKnob Tryz.prog.godebug = none:=by kernel_rfl
theorem laidOut : laidOutB Tryz.prog = true:=by kernel_rfl
theorem gPowers : Tryz.prog.globalNamed "entail/num.powers" = some 0:=by kernel_rfl
theorem gTen : Tryz.prog.globalNamed "internal/strconv.uint64pow10" = some 1:=by kernel_rfl
theorem gSyn : Tryz.prog.globalNamed "strconv.ErrSyntax" = some 2:=by kernel_rfl
theorem gRange : Tryz.prog.globalNamed "strconv.ErrRange" = some 3:=by kernel_rfl
abbrev laidL : List (String × DataW Unit):=[("math/bits.deBruijn32tab", Rows.laid_math_bits_deBruijn32tab),("math/bits.deBruijn64tab", Rows.laid_math_bits_deBruijn64tab),("internal/strconv.uint64pow10", Rows.laid_internal_strconv_uint64pow10),("strconv.ErrRange", Rows.laid_strconv_ErrRange),("strconv.ErrSyntax", Rows.laid_strconv_ErrSyntax),("entail/num.powers", Rows.laid_entail_num_powers)]
theorem door_met (os : Os) (args : Array Value) : laidMetH Tryz.prog laidL ((World.doorLaid Tryz.prog 400 os).forCall (fun _ _=>0) ⟨#[],args,[]⟩).memory :=
  laidMetH_of_parts3 (fuel:=8) (laidMet_of_run' 8 (by kernel_rfl) (by kernel_rfl)) (by kernel_rfl) (by kernel_rfl)
theorem tPowers : (Tryz.prog.globals[0]?).map (·.type) = some 176:=by kernel_rfl
theorem tTen : (Tryz.prog.globals[1]?).map (·.type) = some 209:=by kernel_rfl
theorem tSyn : (Tryz.prog.globals[2]?).map (·.type) = some 77:=by kernel_rfl
theorem tRange : (Tryz.prog.globals[3]?).map (·.type) = some 77:=by kernel_rfl
theorem cPowers : Tryz.prog.cellsOf 176 = 9:=by kernel_rfl
theorem cTen : Tryz.prog.cellsOf 209 = 20:=by kernel_rfl
theorem ePowers : (Rows.laid_entail_num_powers : DataW Unit) = Lib.tabData .u32 [1,10,100,1000,10000,100000,1000000,10000000,100000000]:=by kernel_rfl
theorem eTen : (Rows.laid_internal_strconv_uint64pow10 : DataW Unit) = Lib.tabData .u64 Lib.pow10Tab:=by kernel_rfl
theorem row228 (u : TypeId) (h : Tryz.prog.typeName? 3 u = some "*errors.errorString") : u = 228 :=
  typeName_ptr_named (nm := "errors.errorString") (by rw [show "*" ++ "errors.errorString" = "*errors.errorString" by decide];kernel_rfl) (by kernel_rfl) (by decide) u (by rw [show "*" ++ "errors.errorString" = "*errors.errorString" by decide];exact h)
theorem max_of_shape {W : World} (h : W.ShapedOpen Tryz.prog) : ∃ m,W.cell? ⟨4,0,none⟩ = some (.int .i64 m) :=
  cell_of_shapedOpen_int (t:=3) (zero:=#[.int .i64 0]) h (of_decide_eq_true (by kernel_rfl)) (by kernel_rfl) rfl (by kernel_rfl) (by kernel_rfl) Tryz.underlying3
theorem gl_of_laid {W : World} (h : laidMetH Tryz.prog laidL W) (hs : W.ShapedOpen Tryz.prog) : Gl W:=by
  rw [MakeChecks.laidMetH_plain _ _ _ (by kernel_rfl)] at h
  have h3:=h.tail.tail
  have h4:=h3.tail
  have h5:=h4.tail
  have h6:=h5.tail
  rw [eTen] at h3
  rw [ePowers] at h6
  have p1:=Lib.tabIs_of_head gPowers tPowers Tryz.underlying176 Tryz.underlying82 (by kernel_rfl) cPowers h6
  obtain ⟨a,_,hr,_⟩:=laid_sentinel h4 gRange tRange Tryz.underlying77 row228 Tryz.underlying228 Tryz.underlying230 rfl rfl Tryz.underlying9 (by kernel_rfl) (by kernel_rfl)
  obtain ⟨b,_,hy,_⟩:=laid_sentinel h5 gSyn tSyn Tryz.underlying77 row228 Tryz.underlying228 Tryz.underlying230 rfl rfl Tryz.underlying9 (by kernel_rfl) (by kernel_rfl)
  refine ⟨fun i hi=>?_,Lib.tabIs_of_head gTen tTen Tryz.underlying209 Tryz.underlying57 (by kernel_rfl) cTen h3,⟨228,.pointer (some b),World.var?_cell gSyn hy 0⟩,⟨228,.pointer (some a),World.var?_cell gRange hr 0⟩,max_of_shape hs⟩
  have:=p1.cell gPowers i (by simpa using hi)
  rw [this]
  rcases (show i = 0 ∨ i = 1 ∨ i = 2 ∨ i = 3 ∨ i = 4 ∨ i = 5 ∨ i = 6 ∨ i = 7 ∨ i = 8 by omega) with rfl | rfl | rfl | rfl | rfl | rfl | rfl | rfl | rfl <;> rfl
end Go.Proofs.YtpbegoflpfdajaaGreatDoor
