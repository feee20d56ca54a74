/- What Build answers, in one form. -/
import Derived.Test.YtcdeiakeiehaaaaDoorCL
namespace Go.Proofs.YtcdeiakeiehaaaaDoor
open Go.RowKit Go.Shelf
set_option maxRecDepth 100000
set_option linter.unusedVariables false
set_option linter.unusedSimpArgs false

theorem buildIcmp_u (tos id ttl proto src dst : Int) (keep : Bool) (so sd : Value) (zo : List Int) (ty cde rest : Int) (sm : Value) (zm : List Int) (w : World) (hBo : Mt.By zo) (hIo : Rd w.heap.size w so zo) (hBd : Mt.By zm) (hIm : Rd w.heap.size w sm zm)
    (h1 : zo.length ≤ 140737488355328) (h2 : 16 + zm.length ≤ 140737488355328) (ht : 0 ≤ tos ∧ tos ≤ 255) (hid : 0 ≤ id ∧ id ≤ 65535) (htt : 0 ≤ ttl ∧ ttl ≤ 255) (hsr : 0 ≤ src ∧ src ≤ 4294967295) (hds : 0 ≤ dst ∧ dst ≤ 4294967295) (hty : 0 ≤ ty ∧ ty ≤ 255) (hcd : 0 ≤ cde ∧ cde ≤ 255) (hre : 0 ≤ rest ∧ rest ≤ 4294967295) :
    Calls Tryd.prog 6 #[.agg #[.int .u8 tos, .int .u16 id, .bool keep, .int .u8 ttl, .int .u8 proto, .int .u32 src, .int .u32 dst, so, sd], .agg #[.int .u8 ty, .int .u8 cde, .int .u32 rest, sm]] w fun e w' => Below w.heap.size w w' ∧ ∃ (x0 x1 : Int) (x2 : Bool) (x3 x4 x5 x6 : Int) (a7 : Option Addr) (l7 c7 : Nat) (a8 : Option Addr) (l8 c8 : Nat) (ec : Int), e = .returned (.tuple #[.agg #[.int .u8 x0, .int .u16 x1, .bool x2, .int .u8 x3, .int .u8 x4, .int .u32 x5, .int .u32 x6, .slice a7 l7 c7, .slice a8 l8 c8], .int .i64 ec]) ∧
      (ec = 0 → flt zo.length (8 + zm.length) = 0 ∧ (x0 = tos ∧ x1 = id ∧ x2 = keep ∧ x3 = ttl ∧ x4 = 1 ∧ x5 = src ∧ x6 = dst ∧ l7 = zo.length ∧ l8 = (8 + zm.length)) ∧ Ow w.heap.size w' (.slice a7 l7 c7) zo ∧ Ow w.heap.size w' (.slice a8 l8 c8) (icm ty cde rest zm)) := by
  refine (buildIcmp_any tos id ttl proto src dst ty cde rest keep so sd sm zo zm w hBo hIo hBd hIm h1 (by omega) ht hid htt hsr hds hty hcd hre).mono ?_
  rintro e w' ⟨hb, ⟨hf, rfl⟩ | ⟨hf, ao, co, ad, cd, rfl, hO, hD⟩⟩
  · exact ⟨hb, 0, 0, false, 0, 0, 0, 0, none, 0, 0, none, 0, 0, _, rfl, fun h => absurd h hf⟩
  · exact ⟨hb, _, _, _, _, _, _, _, _, _, _, _, _, _, 0, rfl, fun _ => ⟨hf, ⟨rfl, rfl, rfl, rfl, rfl, rfl, rfl, rfl, rfl⟩, hO, hD⟩⟩

theorem buildGre_u (tos id ttl proto src dst : Int) (keep : Bool) (so sd : Value) (zo : List Int) (cl sq ak : Int) (hs ha : Bool) (sm : Value) (zm : List Int) (w : World) (hT : Tb w) (hBo : Mt.By zo) (hIo : Rd w.heap.size w so zo) (hBd : Mt.By zm) (hIm : Rd w.heap.size w sm zm)
    (h1 : zo.length ≤ 140737488355328) (h2 : 16 + zm.length ≤ 140737488355328) (ht : 0 ≤ tos ∧ tos ≤ 255) (hid : 0 ≤ id ∧ id ≤ 65535) (htt : 0 ≤ ttl ∧ ttl ≤ 255) (hsr : 0 ≤ src ∧ src ≤ 4294967295) (hds : 0 ≤ dst ∧ dst ≤ 4294967295) (hcl : 0 ≤ cl ∧ cl ≤ 65535) (hsq : 0 ≤ sq ∧ sq ≤ 4294967295) (hak : 0 ≤ ak ∧ ak ≤ 4294967295) :
    Calls Tryd.prog 8 #[.agg #[.int .u8 tos, .int .u16 id, .bool keep, .int .u8 ttl, .int .u8 proto, .int .u32 src, .int .u32 dst, so, sd], .agg #[.int .u16 cl, .bool hs, .bool ha, .int .u32 sq, .int .u32 ak, sm]] w fun e w' => Below w.heap.size w w' ∧ ∃ (x0 x1 : Int) (x2 : Bool) (x3 x4 x5 x6 : Int) (a7 : Option Addr) (l7 c7 : Nat) (a8 : Option Addr) (l8 c8 : Nat) (ec : Int), e = .returned (.tuple #[.agg #[.int .u8 x0, .int .u16 x1, .bool x2, .int .u8 x3, .int .u8 x4, .int .u32 x5, .int .u32 x6, .slice a7 l7 c7, .slice a8 l8 c8], .int .i64 ec]) ∧
      (ec = 0 → flt zo.length (grn hs ha zm.length) = 0 ∧ grf hs ha sq ak = false ∧ (x0 = tos ∧ x1 = id ∧ x2 = keep ∧ x3 = ttl ∧ x4 = 47 ∧ x5 = src ∧ x6 = dst ∧ l7 = zo.length ∧ l8 = (grn hs ha zm.length)) ∧ Ow w.heap.size w' (.slice a7 l7 c7) zo ∧ Ow w.heap.size w' (.slice a8 l8 c8) (grb cl hs ha sq ak zm)) := by
  by_cases hg : grf hs ha sq ak = true
  · exact (buildGre_bad tos id ttl proto src dst cl sq ak keep hs ha so sd sm w hg).mono fun e w' ⟨hb, he⟩ => ⟨hb, 0, 0, false, 0, 0, 0, 0, none, 0, 0, none, 0, 0, 4, he, fun h => absurd h (by omega)⟩
  have hg' : grf hs ha sq ak = false := by simpa using hg
  refine (buildGre_any tos id ttl proto src dst cl sq ak keep hs ha so sd sm zo zm w hT hBo hIo hBd hIm h1 h2 ht hid htt hsr hds hcl hsq hak hg').mono ?_
  rintro e w' ⟨hb, ⟨hf, rfl⟩ | ⟨hf, ao, co, ad, cd, rfl, hO, hD⟩⟩
  · exact ⟨hb, 0, 0, false, 0, 0, 0, 0, none, 0, 0, none, 0, 0, _, rfl, fun h => absurd h hf⟩
  · exact ⟨hb, _, _, _, _, _, _, _, _, _, _, _, _, _, 0, rfl, fun _ => ⟨hf, hg', ⟨rfl, rfl, rfl, rfl, rfl, rfl, rfl, rfl, rfl⟩, hO, hD⟩⟩

end Go.Proofs.YtcdeiakeiehaaaaDoor
