/- bytes.Equal, and package ipv4's Same. -/
import Derived.Test.YtibjgaelaijgpaaGreatDoorW8
import Derived.Test.YtibjgaelaijgpaaGreatDoorV3
namespace Go.Proofs.YtibjgaelaijgpaaGreatDoor
open Go.RowKit Go.Shelf
set_option maxRecDepth 100000

theorem str_inj {a b : List Int} (ha : Mt.By a) (hb : Mt.By b) (h : strOfNums a = strOfNums b) : a = b := by
  have h1 : (strOfNums a).data.toList = (strOfNums b).data.toList := by rw [h]
  rw [strOfNums_data, strOfNums_data] at h1
  have h2 := congrArg (List.map (fun c : UInt8 => (c.toNat : Int))) h1
  have e : ∀ l : List Int, Mt.By l → (l.map fun n => UInt8.ofNat n.toNat).map (fun c : UInt8 => (c.toNat : Int)) = l := by
    intro l hl
    rw [List.map_map]
    conv => rhs; rw [← List.map_id l]
    refine List.map_congr_left (fun z hz => ?_)
    have := hl z hz
    simp
    omega
  rw [e a ha, e b hb] at h2
  exact h2

theorem str_eq {a b : List Int} (ha : Mt.By a) (hb : Mt.By b) : ((strOfNums a).toList == (strOfNums b).toList) = decide (a = b) := by
  by_cases h : a = b
  · subst h; simp
  · rw [decide_eq_false h]
    refine beq_eq_false_iff_ne.2 (fun e => h (str_inj ha hb ?_))
    rw [ByteArray.toList_eq, ByteArray.toList_eq] at e
    unfold strOfNums at *
    simpa using e

end Go.Proofs.YtibjgaelaijgpaaGreatDoor
