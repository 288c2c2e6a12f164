/-
  DERIVED. GIVEN WITH THE SEED: THE PROGRAM's TIES (one call each: nine closed facts by the kernel) AND EACH ROW's TIE, after the 31st guide's Derived/Test/Toyas{Tie, Card}.lean. No idea stands in it: it is a product of the set-up. Laid BY PROGRAM, IN A SANDBOX (cutbox-door.mjs). By AI agents, Wed Nov 11 2026. No macro, syntax, notation, axiom, sorry.
-/
import Derived.Test.YtoddkejemcbkmaaGreatDoorRows
import Derived.LaidByTextLater
import Derived.SevenTiedAt
import Derived.LaidSub
import Derived.LaidOnce
namespace Go.Proofs.YtoddkejemcbkmaaGreatDoor
open Go
set_option maxRecDepth 100000
theorem seatTie1 : Tryz.prog.laidByTextLater [("math/bits.deBruijn32tab", Rows.laid_math_bits_deBruijn32tab), ("math/bits.deBruijn64tab", Rows.laid_math_bits_deBruijn64tab), ("internal/strconv.uint64pow10", Rows.laid_internal_strconv_uint64pow10), ("strconv.ErrRange", Rows.laid_strconv_ErrRange), ("strconv.ErrSyntax", Rows.laid_strconv_ErrSyntax), ("loop.example/kilndeed/impl.rows", Rows.laid_loop_example_kilndeed_impl_rows), ("loop.example/kilndeed/impl.errWord", Rows.laid_loop_example_kilndeed_impl_errWord), ("loop.example/kilndeed/impl.errOperand", Rows.laid_loop_example_kilndeed_impl_errOperand), ("loop.example/kilndeed/impl.errNumber", Rows.laid_loop_example_kilndeed_impl_errNumber), ("loop.example/kilndeed/impl.errQuote", Rows.laid_loop_example_kilndeed_impl_errQuote), ("loop.example/kilndeed/impl.errBound", Rows.laid_loop_example_kilndeed_impl_errBound), ("loop.example/kilndeed/impl.errNoTarget", Rows.laid_loop_example_kilndeed_impl_errNoTarget)] [.data, .data, .data, .sentinel, .sentinel, .data, .sentinel, .sentinel, .sentinel, .sentinel, .sentinel, .sentinel] true :=
  Program.laidByTextLater_by_one 196 8 81 (by kernel_rfl) (by kernel_rfl) (by kernel_rfl) (by kernel_rfl) (by kernel_rfl) (by kernel_rfl) (fun _ _ => by kernel_rfl)
theorem noOwnUnsafe : Tryz.pinned.checked.prog.headLifts.contains "ownunsafe" = false := by kernel_rfl
theorem tie : Tryz.prog.laidByTextLater [("math/bits.deBruijn32tab", Rows.laid_math_bits_deBruijn32tab), ("math/bits.deBruijn64tab", Rows.laid_math_bits_deBruijn64tab), ("internal/strconv.uint64pow10", Rows.laid_internal_strconv_uint64pow10), ("strconv.ErrRange", Rows.laid_strconv_ErrRange), ("strconv.ErrSyntax", Rows.laid_strconv_ErrSyntax), ("loop.example/kilndeed/impl.rows", Rows.laid_loop_example_kilndeed_impl_rows), ("loop.example/kilndeed/impl.errWord", Rows.laid_loop_example_kilndeed_impl_errWord), ("loop.example/kilndeed/impl.errOperand", Rows.laid_loop_example_kilndeed_impl_errOperand), ("loop.example/kilndeed/impl.errNumber", Rows.laid_loop_example_kilndeed_impl_errNumber), ("loop.example/kilndeed/impl.errQuote", Rows.laid_loop_example_kilndeed_impl_errQuote), ("loop.example/kilndeed/impl.errBound", Rows.laid_loop_example_kilndeed_impl_errBound), ("loop.example/kilndeed/impl.errNoTarget", Rows.laid_loop_example_kilndeed_impl_errNoTarget)] [.data, .data, .data, .sentinel, .sentinel, .data, .sentinel, .sentinel, .sentinel, .sentinel, .sentinel, .sentinel] true :=
  Program.laidByTextLater.sub seatTie1 ["math/bits.deBruijn32tab", "math/bits.deBruijn64tab", "internal/strconv.uint64pow10", "strconv.ErrRange", "strconv.ErrSyntax", "loop.example/kilndeed/impl.rows", "loop.example/kilndeed/impl.errWord", "loop.example/kilndeed/impl.errOperand", "loop.example/kilndeed/impl.errNumber", "loop.example/kilndeed/impl.errQuote", "loop.example/kilndeed/impl.errBound", "loop.example/kilndeed/impl.errNoTarget"] (by kernel_rfl) (by kernel_rfl)
theorem fnForm_row_tie : Rows.fnFormRow.laidByTextAt .later Tryz.pinned [.data, .data, .data, .sentinel, .sentinel, .data, .sentinel, .sentinel, .sentinel, .sentinel, .sentinel, .sentinel] true :=
  OpenClaim.laidByTextAt_later rfl rfl tie noOwnUnsafe
theorem fnSeal_row_tie : Rows.fnSealRow.laidByTextAt .later Tryz.pinned [.data, .data, .data, .sentinel, .sentinel, .data, .sentinel, .sentinel, .sentinel, .sentinel, .sentinel, .sentinel] true :=
  OpenClaim.laidByTextAt_later rfl rfl tie noOwnUnsafe
theorem fnFormUpto_row_tie : Rows.fnFormUptoRow.laidByTextAt .later Tryz.pinned [.data, .data, .data, .sentinel, .sentinel, .data, .sentinel, .sentinel, .sentinel, .sentinel, .sentinel, .sentinel] true :=
  OpenClaim.laidByTextAt_later rfl rfl tie noOwnUnsafe
theorem fnSealUpto_row_tie : Rows.fnSealUptoRow.laidByTextAt .later Tryz.pinned [.data, .data, .data, .sentinel, .sentinel, .data, .sentinel, .sentinel, .sentinel, .sentinel, .sentinel, .sentinel] true :=
  OpenClaim.laidByTextAt_later rfl rfl tie noOwnUnsafe
end Go.Proofs.YtoddkejemcbkmaaGreatDoor
