/- The bytes of a header, written out, and what they tell. -/
import Derived.Test.YtohflohdbkamnaaGreatDoorV2
namespace Go.Proofs.YtohflohdbkamnaaGreatDoor
set_option maxRecDepth 100000

/-- The twenty bytes of a header, with s for its check sum. -/
def h20 (tos id : Int) (keep : Bool) (ttl proto src dst : Int) (lo : Nat) (all s : Int) : List Int :=
  [64 + (20 + (lo : Int)) / 4, tos, all / 256, all % 256, id / 256, id % 256, if keep then 64 else 0, 0, ttl, proto, s / 256, s % 256,
   src / 65536 / 256, src / 65536 % 256, src % 65536 / 256, src % 65536 % 256, dst / 65536 / 256, dst / 65536 % 256, dst % 65536 / 256, dst % 65536 % 256]

end Go.Proofs.YtohflohdbkamnaaGreatDoor
