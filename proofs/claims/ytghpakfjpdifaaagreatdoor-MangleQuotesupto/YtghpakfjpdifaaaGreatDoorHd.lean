/- The bytes of a header, written out, and what they tell. -/
import Derived.Test.YtghpakfjpdifaaaGreatDoorV2
namespace Go.Proofs.YtghpakfjpdifaaaGreatDoor
set_option maxRecDepth 100000

theorem putAt2_lit (zs : List Int) (k : Nat) (p v : Int) (hp : p = (k : Int)) (hk : k + 1 < zs.length) : putAt2 zs p v = Mt.put2 zs k v := by
 subst hp; unfold putAt2; rw [if_pos (by omega), Int.toNat_natCast]
theorem putAt4_lit (zs : List Int) (k : Nat) (p v : Int) (hp : p = (k : Int)) (hk : k + 3 < zs.length) : putAt4 zs p v = put4 zs k v := by
 subst hp; unfold putAt4; rw [if_pos (by omega), Int.toNat_natCast]

/-- The twenty bytes of a header, with s for its check sum. -/
def h20 (tos id : Int) (keep : Bool) (ttl proto src dst : Int) (lo : Nat) (all s : Int) : List Int :=
 [64 + (20 + (lo : Int)) / 4, tos, all / 256, all % 256, id / 256, id % 256, if keep then 64 else 0, 0, ttl, proto, s / 256, s % 256,
  src / 65536 / 256, src / 65536 % 256, src % 65536 / 256, src % 65536 % 256, dst / 65536 / 256, dst / 65536 % 256, dst % 65536 / 256, dst % 65536 % 256]

end Go.Proofs.YtghpakfjpdifaaaGreatDoor
