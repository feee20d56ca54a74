import Derived.OwnWalk
import Derived.Test.YtofknbfbmaefoaaGreatDoorW4
namespace Go.Proofs.YtofknbfbmaefoaaGreatDoor
open Go.RowKit Go.Shelf
set_option maxRecDepth 100000
theorem info_u8 : (Tryz.prog.info? 5).map (fun i => (i.zero, i.size, i.bytes)) = some (some (.int .u8 0), 1, 1) := by kernel_rfl
def wl (zs : List Int) (k : Nat) : List Int := (List.range k).map (fun j => wat zs (2 * j))
def fw (zs : List Int) (k : Nat) : Int := Mt.fd (wl zs k).sum
set_option maxHeartbeats 1000000 in
theorem good_any (sv : Value) (zs : List Int) (hB : Mt.By zs) (hl : zs.length ≤ 140737488355328) (w : World) (hI : Rd w.heap.size w sv zs) :
  Calls Tryz.prog 98 #[sv] w fun e w' => e = .returned (.bool (Mt.cks zs == 0)) ∧ Below w.heap.size w w' := by
 obtain ⟨a, cap, rfl, _⟩ := hI.slice
 go_enter Tryz.func98, Tryz.ntmps98
 go_wp2_with fail
 refine (sum_any _ zs hB hl w hI).mono ?_
 rintro e w1 ⟨rfl, hb1⟩
 go_wp2
 go_ret
 exact ⟨rfl, hb1⟩
end Go.Proofs.YtofknbfbmaefoaaGreatDoor
