/- Package ipv4: the sizes of a packet, what is wrong with it, whether it is right. -/
import Derived.Test.YtojoaidnkljcpaaDoorW7
namespace Go.Proofs.YtojoaidnkljcpaaDoor
open Go.RowKit Go.Shelf
set_option maxRecDepth 100000

theorem fld_head (a b : Int) (w : World) : (Instr.field 110 (.agg #[.int .i64 a, .int .i64 b]) 0).run Tryd.prog w = .ok (.int .i64 a) w := by kernel_rfl
theorem fld_all (a b : Int) (w : World) : (Instr.field 110 (.agg #[.int .i64 a, .int .i64 b]) 1).run Tryd.prog w = .ok (.int .i64 b) w := by kernel_rfl

/-- What is wrong with a packet of so many bytes of Options and Data. -/
def flt (lo ld : Nat) : Int := if 40 < lo ∨ lo % 4 ≠ 0 then 4 else if 65535 < 20 + lo + ld then 8 else 0

end Go.Proofs.YtojoaidnkljcpaaDoor