/- What Build answers, the same form for the program and the document. -/
import Derived.Test.YtcdeiakeiehaaaaDoorCY
import Derived.Test.YtcdeiakeiehaaaaDoorCL
namespace Go.Proofs.YtcdeiakeiehaaaaDoor
open Go.RowKit Go.Shelf
set_option maxRecDepth 100000
set_option linter.unusedVariables false
set_option linter.unusedSimpArgs false

def zI (f x : Int) : Int := if f = 0 then x else 0
def zB (f : Int) (x : Bool) : Bool := if f = 0 then x else false
def zL (f : Int) (x : List Int) : List Int := if f = 0 then x else []
theorem zI_no {f x : Int} (h : f ≠ 0) : zI f x = 0 := if_neg h
theorem zB_no {f : Int} {x : Bool} (h : f ≠ 0) : zB f x = false := if_neg h
theorem zL_no {f : Int} {x : List Int} (h : f ≠ 0) : zL f x = [] := if_neg h
theorem zI_yes {f x : Int} (h : f = 0) : zI f x = x := if_pos h
theorem zB_yes {f : Int} {x : Bool} (h : f = 0) : zB f x = x := if_pos h
theorem zL_yes {f : Int} {x : List Int} (h : f = 0) : zL f x = x := if_pos h
theorem By_zL {f : Int} {x : List Int} (h : Mt.By x) : Mt.By (zL f x) := by unfold zL; split; exact h; exact Mt.By.nil
/-- What a frame is refused with. -/
def grE (hs ha : Bool) (sq ak : Int) (lo ld : Nat) : Int := if grf hs ha sq ak = true then 4 else flt lo (grn hs ha ld)

set_option maxHeartbeats 1000000 in
theorem rbuildGre_bad (tos id ttl proto src dst cl sq ak : Int) (keep hs ha : Bool) (so sd sm : Value) (w : World) (hg : grf hs ha sq ak = true) :
    Calls Tryd.prog 9 #[.agg #[.int .u8 tos, .int .u16 id, .bool keep, .int .u8 ttl, .int .u8 proto, .int .u32 src, .int .u32 dst, so, sd], .agg #[.int .u16 cl, .bool hs, .bool ha, .int .u32 sq, .int .u32 ak, sm]] w fun e w' => Below w.heap.size w w' ∧ e = .returned (.tuple #[.agg zcc.toArray, .int .i64 4]) := by
  have hb0 : Below w.heap.size w (((w.alloc (.cells #[.int .u8 tos, .int .u16 id, .bool keep, .int .u8 ttl, .int .u8 proto, .int .u32 src, .int .u32 dst, so, sd] 26)).alloc (.cells #[.int .u16 cl, .bool hs, .bool ha, .int .u32 sq, .int .u32 ak, sm] 30)).alloc (.cells zcc.toArray 26)) := (((Below.refl _ _).alloc (Nat.le_refl _) _).alloc (by simp) _).alloc (by simp; omega) _
  cases hs
  · cases h1 : (sq != 0)
    · cases ha
      · have h2 : (ak != 0) = true := by simpa [grf, h1] using hg
        clear hg
        go_enter Tryd.func9, Tryd.ntmps9
        go_wp2_with fail
        exact bodyPost_ret (v := .tuple #[.agg zcc.toArray, .int .i64 4]) (by simp [results, Tryd.results9, go_sem]) rfl ⟨hb0, rfl⟩
      · simp [grf, h1] at hg
    · clear hg
      go_enter Tryd.func9, Tryd.ntmps9
      go_wp2_with fail
      exact bodyPost_ret (v := .tuple #[.agg zcc.toArray, .int .i64 4]) (by simp [results, Tryd.results9, go_sem]) rfl ⟨hb0, rfl⟩
  · cases ha
    · have h2 : (ak != 0) = true := by simpa [grf] using hg
      clear hg
      go_enter Tryd.func9, Tryd.ntmps9
      go_wp2_with fail
      exact bodyPost_ret (v := .tuple #[.agg zcc.toArray, .int .i64 4]) (by simp [results, Tryd.results9, go_sem]) rfl ⟨hb0, rfl⟩
    · simp [grf] at hg

theorem buildIcmp_v (tos id ttl proto src dst : Int) (keep : Bool) (so : Value) (ad : Option Addr) (ld cd : Nat) (zo : List Int) (ty cde rest : Int) (sm : Value) (zm : List Int) (w : World) (hBo : Mt.By zo) (hIo : Rd w.heap.size w so zo) (hBd : Mt.By zm) (hIm : Rd w.heap.size w sm zm)
    (h1 : zo.length ≤ 140737488355328) (h2 : 16 + zm.length ≤ 140737488355328) (ht : 0 ≤ tos ∧ tos ≤ 255) (hid : 0 ≤ id ∧ id ≤ 65535) (htt : 0 ≤ ttl ∧ ttl ≤ 255) (hsr : 0 ≤ src ∧ src ≤ 4294967295) (hds : 0 ≤ dst ∧ dst ≤ 4294967295) (hty : 0 ≤ ty ∧ ty ≤ 255) (hcd : 0 ≤ cde ∧ cde ≤ 255) (hre : 0 ≤ rest ∧ rest ≤ 4294967295) :
    Calls Tryd.prog 6 #[.agg #[.int .u8 tos, .int .u16 id, .bool keep, .int .u8 ttl, .int .u8 proto, .int .u32 src, .int .u32 dst, so, .slice ad ld cd], .agg #[.int .u8 ty, .int .u8 cde, .int .u32 rest, sm]] w fun e w' => Below w.heap.size w w' ∧ ∃ a7 c7 a8 c8, e = .returned (.tuple #[.agg #[.int .u8 (zI (flt zo.length (8 + zm.length)) tos), .int .u16 (zI (flt zo.length (8 + zm.length)) id), .bool (zB (flt zo.length (8 + zm.length)) keep), .int .u8 (zI (flt zo.length (8 + zm.length)) ttl), .int .u8 (zI (flt zo.length (8 + zm.length)) 1), .int .u32 (zI (flt zo.length (8 + zm.length)) src), .int .u32 (zI (flt zo.length (8 + zm.length)) dst), .slice a7 (zL (flt zo.length (8 + zm.length)) zo).length c7, .slice a8 (zL (flt zo.length (8 + zm.length)) (icm ty cde rest zm)).length c8], .int .i64 (flt zo.length (8 + zm.length))]) ∧ Ow w.heap.size w' (.slice a7 (zL (flt zo.length (8 + zm.length)) zo).length c7) (zL (flt zo.length (8 + zm.length)) zo) ∧ Ow w.heap.size w' (.slice a8 (zL (flt zo.length (8 + zm.length)) (icm ty cde rest zm)).length c8) (zL (flt zo.length (8 + zm.length)) (icm ty cde rest zm)) := by
  refine (buildIcmp_any tos id ttl proto src dst ty cde rest keep so _ sm zo zm w hBo hIo hBd hIm h1 (by omega) ht hid htt hsr hds hty hcd hre).mono ?_
  rintro e w' ⟨hb, ⟨hf, rfl⟩ | ⟨hf, ao, co, ad, cd, rfl, hO, hD⟩⟩
  · rw [zI_no hf, zI_no hf, zI_no hf, zI_no hf, zI_no hf, zI_no hf, zB_no hf, zL_no hf, zL_no hf]
    exact ⟨hb, none, 0, none, 0, rfl, .inl ⟨rfl, rfl⟩, .inl ⟨rfl, rfl⟩⟩
  · rw [zI_yes hf, zI_yes hf, zI_yes hf, zI_yes hf, zI_yes hf, zI_yes hf, zB_yes hf, zL_yes hf, zL_yes hf, icm_length, hf]
    exact ⟨hb, _, _, _, _, rfl, hO, hD⟩


theorem rbuildIcmp_v (tos id ttl proto src dst : Int) (keep : Bool) (so : Value) (ad : Option Addr) (ld cd : Nat) (zo : List Int) (ty cde rest : Int) (sm : Value) (zm : List Int) (w : World) (hBo : Mt.By zo) (hIo : Rd w.heap.size w so zo) (hBd : Mt.By zm) (hIm : Rd w.heap.size w sm zm)
    (h1 : zo.length ≤ 140737488355328) (h2 : 16 + zm.length ≤ 140737488355328) (ht : 0 ≤ tos ∧ tos ≤ 255) (hid : 0 ≤ id ∧ id ≤ 65535) (htt : 0 ≤ ttl ∧ ttl ≤ 255) (hsr : 0 ≤ src ∧ src ≤ 4294967295) (hds : 0 ≤ dst ∧ dst ≤ 4294967295) (hty : 0 ≤ ty ∧ ty ≤ 255) (hcd : 0 ≤ cde ∧ cde ≤ 255) (hre : 0 ≤ rest ∧ rest ≤ 4294967295) :
    Calls Tryd.prog 7 #[.agg #[.int .u8 tos, .int .u16 id, .bool keep, .int .u8 ttl, .int .u8 proto, .int .u32 src, .int .u32 dst, so, .slice ad ld cd], .agg #[.int .u8 ty, .int .u8 cde, .int .u32 rest, sm]] w fun e w' => Below w.heap.size w w' ∧ ∃ a7 c7 a8 c8, e = .returned (.tuple #[.agg #[.int .u8 (zI (flt zo.length (8 + zm.length)) tos), .int .u16 (zI (flt zo.length (8 + zm.length)) id), .bool (zB (flt zo.length (8 + zm.length)) keep), .int .u8 (zI (flt zo.length (8 + zm.length)) ttl), .int .u8 (zI (flt zo.length (8 + zm.length)) 1), .int .u32 (zI (flt zo.length (8 + zm.length)) src), .int .u32 (zI (flt zo.length (8 + zm.length)) dst), .slice a7 (zL (flt zo.length (8 + zm.length)) zo).length c7, .slice a8 (zL (flt zo.length (8 + zm.length)) (icm ty cde rest zm)).length c8], .int .i64 (flt zo.length (8 + zm.length))]) ∧ Ow w.heap.size w' (.slice a7 (zL (flt zo.length (8 + zm.length)) zo).length c7) (zL (flt zo.length (8 + zm.length)) zo) ∧ Ow w.heap.size w' (.slice a8 (zL (flt zo.length (8 + zm.length)) (icm ty cde rest zm)).length c8) (zL (flt zo.length (8 + zm.length)) (icm ty cde rest zm)) := by
  refine (rbuildIcmp_any tos id ttl proto src dst ty cde rest keep so sm ad ld cd zo zm w hIo hBd hIm h1 (by omega) hty hcd hre).mono ?_
  rintro e w' ⟨hb, ⟨hf, rfl⟩ | ⟨hf, ao, co, ad, cd, rfl, hO, hD⟩⟩
  · rw [zI_no hf, zI_no hf, zI_no hf, zI_no hf, zI_no hf, zI_no hf, zB_no hf, zL_no hf, zL_no hf]
    exact ⟨hb, none, 0, none, 0, rfl, .inl ⟨rfl, rfl⟩, .inl ⟨rfl, rfl⟩⟩
  · rw [zI_yes hf, zI_yes hf, zI_yes hf, zI_yes hf, zI_yes hf, zI_yes hf, zB_yes hf, zL_yes hf, zL_yes hf, icm_length, hf]
    exact ⟨hb, _, _, _, _, rfl, hO, hD⟩


theorem buildGre_v (tos id ttl proto src dst : Int) (keep : Bool) (so : Value) (ad : Option Addr) (ld cd : Nat) (zo : List Int) (cl sq ak : Int) (hs ha : Bool) (sm : Value) (zm : List Int) (w : World) (hT : Tb w) (hBo : Mt.By zo) (hIo : Rd w.heap.size w so zo) (hBd : Mt.By zm) (hIm : Rd w.heap.size w sm zm)
    (h1 : zo.length ≤ 140737488355328) (h2 : 16 + zm.length ≤ 140737488355328) (ht : 0 ≤ tos ∧ tos ≤ 255) (hid : 0 ≤ id ∧ id ≤ 65535) (htt : 0 ≤ ttl ∧ ttl ≤ 255) (hsr : 0 ≤ src ∧ src ≤ 4294967295) (hds : 0 ≤ dst ∧ dst ≤ 4294967295) (hcl : 0 ≤ cl ∧ cl ≤ 65535) (hsq : 0 ≤ sq ∧ sq ≤ 4294967295) (hak : 0 ≤ ak ∧ ak ≤ 4294967295) :
    Calls Tryd.prog 8 #[.agg #[.int .u8 tos, .int .u16 id, .bool keep, .int .u8 ttl, .int .u8 proto, .int .u32 src, .int .u32 dst, so, .slice ad ld cd], .agg #[.int .u16 cl, .bool hs, .bool ha, .int .u32 sq, .int .u32 ak, sm]] w fun e w' => Below w.heap.size w w' ∧ ∃ a7 c7 a8 c8, e = .returned (.tuple #[.agg #[.int .u8 (zI (grE hs ha sq ak zo.length zm.length) tos), .int .u16 (zI (grE hs ha sq ak zo.length zm.length) id), .bool (zB (grE hs ha sq ak zo.length zm.length) keep), .int .u8 (zI (grE hs ha sq ak zo.length zm.length) ttl), .int .u8 (zI (grE hs ha sq ak zo.length zm.length) 47), .int .u32 (zI (grE hs ha sq ak zo.length zm.length) src), .int .u32 (zI (grE hs ha sq ak zo.length zm.length) dst), .slice a7 (zL (grE hs ha sq ak zo.length zm.length) zo).length c7, .slice a8 (zL (grE hs ha sq ak zo.length zm.length) (grb cl hs ha sq ak zm)).length c8], .int .i64 (grE hs ha sq ak zo.length zm.length)]) ∧ Ow w.heap.size w' (.slice a7 (zL (grE hs ha sq ak zo.length zm.length) zo).length c7) (zL (grE hs ha sq ak zo.length zm.length) zo) ∧ Ow w.heap.size w' (.slice a8 (zL (grE hs ha sq ak zo.length zm.length) (grb cl hs ha sq ak zm)).length c8) (zL (grE hs ha sq ak zo.length zm.length) (grb cl hs ha sq ak zm)) := by
  by_cases hg : grf hs ha sq ak = true
  · have hf : (grE hs ha sq ak zo.length zm.length) ≠ 0 := by unfold grE; rw [if_pos hg]; decide
    have hf4 : (grE hs ha sq ak zo.length zm.length) = 4 := by unfold grE; rw [if_pos hg]
    refine (buildGre_bad tos id ttl proto src dst cl sq ak keep hs ha so _ sm w hg).mono ?_
    rintro e w' ⟨hb, rfl⟩
    rw [zI_no hf, zI_no hf, zI_no hf, zI_no hf, zI_no hf, zI_no hf, zB_no hf, zL_no hf, zL_no hf, hf4]
    exact ⟨hb, none, 0, none, 0, rfl, .inl ⟨rfl, rfl⟩, .inl ⟨rfl, rfl⟩⟩
  have hg' : grf hs ha sq ak = false := by simpa using hg
  have he : (grE hs ha sq ak zo.length zm.length) = flt zo.length (grn hs ha zm.length) := by unfold grE; rw [if_neg hg]
  rw [he]
  refine (buildGre_any tos id ttl proto src dst cl sq ak keep hs ha so _ sm zo zm w hT hBo hIo hBd hIm h1 h2 ht hid htt hsr hds hcl hsq hak hg').mono ?_
  rintro e w' ⟨hb, ⟨hf, rfl⟩ | ⟨hf, ao, co, ad, cd, rfl, hO, hD⟩⟩
  · rw [zI_no hf, zI_no hf, zI_no hf, zI_no hf, zI_no hf, zI_no hf, zB_no hf, zL_no hf, zL_no hf]
    exact ⟨hb, none, 0, none, 0, rfl, .inl ⟨rfl, rfl⟩, .inl ⟨rfl, rfl⟩⟩
  · rw [zI_yes hf, zI_yes hf, zI_yes hf, zI_yes hf, zI_yes hf, zI_yes hf, zB_yes hf, zL_yes hf, zL_yes hf, grb_length, hf]
    exact ⟨hb, _, _, _, _, rfl, hO, hD⟩


theorem rbuildGre_v (tos id ttl proto src dst : Int) (keep : Bool) (so : Value) (ad : Option Addr) (ld cd : Nat) (zo : List Int) (cl sq ak : Int) (hs ha : Bool) (sm : Value) (zm : List Int) (w : World) (hBo : Mt.By zo) (hIo : Rd w.heap.size w so zo) (hBd : Mt.By zm) (hIm : Rd w.heap.size w sm zm)
    (h1 : zo.length ≤ 140737488355328) (h2 : 16 + zm.length ≤ 140737488355328) (ht : 0 ≤ tos ∧ tos ≤ 255) (hid : 0 ≤ id ∧ id ≤ 65535) (htt : 0 ≤ ttl ∧ ttl ≤ 255) (hsr : 0 ≤ src ∧ src ≤ 4294967295) (hds : 0 ≤ dst ∧ dst ≤ 4294967295) (hcl : 0 ≤ cl ∧ cl ≤ 65535) (hsq : 0 ≤ sq ∧ sq ≤ 4294967295) (hak : 0 ≤ ak ∧ ak ≤ 4294967295) :
    Calls Tryd.prog 9 #[.agg #[.int .u8 tos, .int .u16 id, .bool keep, .int .u8 ttl, .int .u8 proto, .int .u32 src, .int .u32 dst, so, .slice ad ld cd], .agg #[.int .u16 cl, .bool hs, .bool ha, .int .u32 sq, .int .u32 ak, sm]] w fun e w' => Below w.heap.size w w' ∧ ∃ a7 c7 a8 c8, e = .returned (.tuple #[.agg #[.int .u8 (zI (grE hs ha sq ak zo.length zm.length) tos), .int .u16 (zI (grE hs ha sq ak zo.length zm.length) id), .bool (zB (grE hs ha sq ak zo.length zm.length) keep), .int .u8 (zI (grE hs ha sq ak zo.length zm.length) ttl), .int .u8 (zI (grE hs ha sq ak zo.length zm.length) 47), .int .u32 (zI (grE hs ha sq ak zo.length zm.length) src), .int .u32 (zI (grE hs ha sq ak zo.length zm.length) dst), .slice a7 (zL (grE hs ha sq ak zo.length zm.length) zo).length c7, .slice a8 (zL (grE hs ha sq ak zo.length zm.length) (grb cl hs ha sq ak zm)).length c8], .int .i64 (grE hs ha sq ak zo.length zm.length)]) ∧ Ow w.heap.size w' (.slice a7 (zL (grE hs ha sq ak zo.length zm.length) zo).length c7) (zL (grE hs ha sq ak zo.length zm.length) zo) ∧ Ow w.heap.size w' (.slice a8 (zL (grE hs ha sq ak zo.length zm.length) (grb cl hs ha sq ak zm)).length c8) (zL (grE hs ha sq ak zo.length zm.length) (grb cl hs ha sq ak zm)) := by
  by_cases hg : grf hs ha sq ak = true
  · have hf : (grE hs ha sq ak zo.length zm.length) ≠ 0 := by unfold grE; rw [if_pos hg]; decide
    have hf4 : (grE hs ha sq ak zo.length zm.length) = 4 := by unfold grE; rw [if_pos hg]
    refine (rbuildGre_bad tos id ttl proto src dst cl sq ak keep hs ha so _ sm w hg).mono ?_
    rintro e w' ⟨hb, rfl⟩
    rw [zI_no hf, zI_no hf, zI_no hf, zI_no hf, zI_no hf, zI_no hf, zB_no hf, zL_no hf, zL_no hf, hf4]
    exact ⟨hb, none, 0, none, 0, rfl, .inl ⟨rfl, rfl⟩, .inl ⟨rfl, rfl⟩⟩
  have hg' : grf hs ha sq ak = false := by simpa using hg
  have he : (grE hs ha sq ak zo.length zm.length) = flt zo.length (grn hs ha zm.length) := by unfold grE; rw [if_neg hg]
  rw [he]
  refine (rbuildGre_any tos id ttl proto src dst cl sq ak keep hs ha so sm ad ld cd zo zm w hIo hBd hIm h1 h2 hcl hsq hak hg').mono ?_
  rintro e w' ⟨hb, ⟨hf, rfl⟩ | ⟨hf, ao, co, ad, cd, rfl, hO, hD⟩⟩
  · rw [zI_no hf, zI_no hf, zI_no hf, zI_no hf, zI_no hf, zI_no hf, zB_no hf, zL_no hf, zL_no hf]
    exact ⟨hb, none, 0, none, 0, rfl, .inl ⟨rfl, rfl⟩, .inl ⟨rfl, rfl⟩⟩
  · rw [zI_yes hf, zI_yes hf, zI_yes hf, zI_yes hf, zI_yes hf, zI_yes hf, zB_yes hf, zL_yes hf, zL_yes hf, grb_length, hf]
    exact ⟨hb, _, _, _, _, rfl, hO, hD⟩

end Go.Proofs.YtcdeiakeiehaaaaDoor
