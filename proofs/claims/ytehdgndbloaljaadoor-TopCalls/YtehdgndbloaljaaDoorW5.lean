/- The document's answer for a check sum (its words as a list, folded one by one), and Good of both. -/
import Derived.OwnWalk
import Derived.Test.YtehdgndbloaljaaDoorW4
namespace Go.Proofs.YtehdgndbloaljaaDoor
open Go.RowKit Go.Shelf
set_option maxRecDepth 100000

theorem info_int : (Tryd.prog.info? 3).map (fun i => (i.zero, i.size, i.bytes)) = some (some (.int .i64 0), 1, 8) := by kernel_rfl
theorem info_u8 : (Tryd.prog.info? 5).map (fun i => (i.zero, i.size, i.bytes)) = some (some (.int .u8 0), 1, 1) := by kernel_rfl

/-- The first k words. -/
def wl (zs : List Int) (k : Nat) : List Int := (List.range k).map (fun j => wat zs (2 * j))
theorem wl_succ (zs : List Int) (k : Nat) : wl zs (k + 1) = wl zs k ++ [wat zs (2 * k)] := by simp [wl, List.range_succ]
theorem wl_length (zs : List Int) (k : Nat) : (wl zs k).length = k := by simp [wl]
theorem wl_sm (zs : List Int) (h : Mt.By zs) (k : Nat) : (wl zs k).sum = sm (wds zs h k) := by simp [wl, sm, wds]; rfl

/-- What has been folded when k words are in. -/
def fw (zs : List Int) (k : Nat) : Int := Mt.fd (wl zs k).sum
theorem wl_bd (zs : List Int) (h : Mt.By zs) (k : Nat) : 0 ≤ (wl zs k).sum := by rw [wl_sm zs h]; exact (sm_bd _).1
theorem fw_succ (zs : List Int) (h : Mt.By zs) (k : Nat) : Mt.fd (fw zs k + wat zs (2 * k)) = fw zs (k + 1) := by
  unfold fw
  rw [Mt.fd_add _ _ (wl_bd zs h k) (wat_bd h _).1, wl_succ]
  simp

end Go.Proofs.YtehdgndbloaljaaDoor