/- bytes.Equal, and package ipv4's Same. -/
import Derived.Test.YtehdgndbloaljaaDoorW8
import Derived.Test.YtehdgndbloaljaaDoorV3
namespace Go.Proofs.YtehdgndbloaljaaDoor
open Go.RowKit Go.Shelf
set_option maxRecDepth 100000

theorem str_inj {a b : List Int} (ha : Mt.By a) (hb : Mt.By b) (h : strOfNums a = strOfNums b) : a = b := by
  have h1 : (strOfNums a).data.toList = (strOfNums b).data.toList := by rw [h]
  rw [strOfNums_data, strOfNums_data] at h1
  have h2 := congrArg (List.map (fun c : UInt8 => (c.toNat : Int))) h1
  have e : ∀ l : List Int, Mt.By l → (l.map fun n => UInt8.ofNat n.toNat).map (fun c : UInt8 => (c.toNat : Int)) = l := by
    intro l hl
    rw [List.map_map]
    conv => rhs; rw [← List.map_id l]
    refine List.map_congr_left (fun z hz => ?_)
    have := hl z hz
    simp
    omega
  rw [e a ha, e b hb] at h2
  exact h2

theorem str_eq {a b : List Int} (ha : Mt.By a) (hb : Mt.By b) : ((strOfNums a).toList == (strOfNums b).toList) = decide (a = b) := by
  by_cases h : a = b
  · subst h; simp
  · rw [decide_eq_false h]
    refine beq_eq_false_iff_ne.2 (fun e => h (str_inj ha hb ?_))
    rw [ByteArray.toList_eq, ByteArray.toList_eq] at e
    unfold strOfNums at *
    simpa using e

set_option maxHeartbeats 1000000 in
theorem equal_any {n₀ n₁ : Nat} (sa sb : Value) (za zb : List Int) (w : World) (hA : Mt.By za) (hB : Mt.By zb) (hIa : Rd n₀ w sa za) (hIb : Rd n₁ w sb zb) :
    Calls Tryd.prog 26 #[sa, sb] w fun e w' => e = .returned (.bool (decide (za = zb))) ∧ w' = w := by
  have ca := conv_rd 22 9 5 Tryd.underlying22 Tryd.underlying5 Tryd.underlying9 hIa
  have cb := conv_rd 22 9 5 Tryd.underlying22 Tryd.underlying5 Tryd.underlying9 hIb
  go_enter Tryd.func26, Tryd.ntmps26
  have HE := hide (str_eq hA hB)
  go_wp2
  rw [HE.out]
  go_ret
  exact ⟨rfl, rfl⟩

/-- Are two packets the same? -/
def smP (tos1 id1 ttl1 proto1 src1 dst1 tos2 id2 ttl2 proto2 src2 dst2 : Int) (keep1 keep2 : Bool) (zo1 zd1 zo2 zd2 : List Int) : Bool :=
  tos1 == tos2 && (id1 == id2 && (keep1 == keep2 && (ttl1 == ttl2 && (proto1 == proto2 && (src1 == src2 && (dst1 == dst2 && (decide (zo1 = zo2) && decide (zd1 = zd2))))))))

end Go.Proofs.YtehdgndbloaljaaDoor