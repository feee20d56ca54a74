/- Package ctrl: what Parse answers, in one form. -/
import Derived.Test.YtcdeiakeiehaaaaDoorCI
import Derived.Test.YtcdeiakeiehaaaaDoorCJ
namespace Go.Proofs.YtcdeiakeiehaaaaDoor
open Go.RowKit Go.Shelf
set_option maxRecDepth 100000
set_option linter.unusedVariables false
set_option linter.unusedSimpArgs false

/-- What a message's parts are, of a packet's data (zeros with an error). -/
def pty (proto : Int) (zs : List Int) : Int := if pie proto zs = 0 then zs[0]?.getD 0 else 0
def pcd (proto : Int) (zs : List Int) : Int := if pie proto zs = 0 then zs[1]?.getD 0 else 0
def prs (proto : Int) (zs : List Int) : Int := if pie proto zs = 0 then wat4 zs 4 else 0
def pdt (proto : Int) (zs : List Int) : List Int := if pie proto zs = 0 then zs.drop 8 else []
theorem By_pdt (proto : Int) (zs : List Int) (h : Mt.By zs) : Mt.By (pdt proto zs) := by unfold pdt; split; exact h.drop _; exact Mt.By.nil

theorem parseIcmp_u (tos id ttl proto src dst : Int) (keep : Bool) (so sd : Value) (zs : List Int) (w : World) (hB : Mt.By zs) (hI : Rd w.heap.size w sd zs) (hl : zs.length ≤ 140737488355328) :
    Calls Tryd.prog 12 #[.agg #[.int .u8 tos, .int .u16 id, .bool keep, .int .u8 ttl, .int .u8 proto, .int .u32 src, .int .u32 dst, so, sd]] w fun e w' => Below w.heap.size w w' ∧ ∃ am lm cm, e = .returned (.tuple #[.agg #[.int .u8 (pty proto zs), .int .u8 (pcd proto zs), .int .u32 (prs proto zs), .slice am lm cm], .int .i64 (pie proto zs)]) ∧ lm = (pdt proto zs).length ∧ Ow w.heap.size w' (.slice am lm cm) (pdt proto zs) := by
  refine (parseIcmp_any tos id ttl proto src dst keep so sd zs w hB hI hl).mono ?_
  rintro e w' ⟨hb, ⟨h, rfl⟩ | ⟨h, ad, cd, rfl, hO⟩⟩
  · have e1 : pty proto zs = 0 := by unfold pty; rw [if_neg h]
    have e2 : pcd proto zs = 0 := by unfold pcd; rw [if_neg h]
    have e3 : prs proto zs = 0 := by unfold prs; rw [if_neg h]
    have e4 : pdt proto zs = [] := by unfold pdt; rw [if_neg h]
    exact ⟨hb, none, 0, 0, by rw [e1, e2, e3], by rw [e4]; rfl, .inl ⟨rfl, e4⟩⟩
  · have e1 : pty proto zs = zs[0]?.getD 0 := by unfold pty; rw [if_pos h]
    have e2 : pcd proto zs = zs[1]?.getD 0 := by unfold pcd; rw [if_pos h]
    have e3 : prs proto zs = wat4 zs 4 := by unfold prs; rw [if_pos h]
    have e4 : pdt proto zs = zs.drop 8 := by unfold pdt; rw [if_pos h]
    exact ⟨hb, ad, zs.length - 8, cd, by rw [e1, e2, e3, h], by rw [e4, List.length_drop], by rw [e4]; exact hO⟩

/-- What a frame's parts are. -/
def gcl (proto : Int) (zs : List Int) : Int := if pge proto zs = 0 then getAt2 zs 6 else 0
def gh1 (proto : Int) (zs : List Int) : Bool := if pge proto zs = 0 then ghs (bgz zs) else false
def gh2 (proto : Int) (zs : List Int) : Bool := if pge proto zs = 0 then gha (bgz zs) else false
def gq1 (proto : Int) (zs : List Int) : Int := if pge proto zs = 0 then gsq (bgz zs) zs else 0
def gq2 (proto : Int) (zs : List Int) : Int := if pge proto zs = 0 then gak (bgz zs) zs else 0
def gdt (proto : Int) (zs : List Int) : List Int := if pge proto zs = 0 then zs.drop (ghd (bgz zs)) else []
theorem By_gdt (proto : Int) (zs : List Int) (h : Mt.By zs) : Mt.By (gdt proto zs) := by unfold gdt; split; exact h.drop _; exact Mt.By.nil

theorem parseGre_u (tos id ttl proto src dst : Int) (keep : Bool) (so sd : Value) (zs : List Int) (w : World) (hT : Tb w) (hB : Mt.By zs) (hI : Rd w.heap.size w sd zs) (hl : zs.length ≤ 140737488355328) :
    Calls Tryd.prog 15 #[.agg #[.int .u8 tos, .int .u16 id, .bool keep, .int .u8 ttl, .int .u8 proto, .int .u32 src, .int .u32 dst, so, sd]] w fun e w' => Below w.heap.size w w' ∧ ∃ am lm cm, e = .returned (.tuple #[.agg #[.int .u16 (gcl proto zs), .bool (gh1 proto zs), .bool (gh2 proto zs), .int .u32 (gq1 proto zs), .int .u32 (gq2 proto zs), .slice am lm cm], .int .i64 (pge proto zs)]) ∧ lm = (gdt proto zs).length ∧ Ow w.heap.size w' (.slice am lm cm) (gdt proto zs) := by
  refine (parseGre_any tos id ttl proto src dst keep so sd zs w hT hB hI hl).mono ?_
  rintro e w' ⟨hb, ⟨h, rfl⟩ | ⟨h, ad, cd, rfl, hO⟩⟩
  · have e1 : gcl proto zs = 0 := by unfold gcl; rw [if_neg h]
    have e2 : gh1 proto zs = false := by unfold gh1; rw [if_neg h]
    have e3 : gh2 proto zs = false := by unfold gh2; rw [if_neg h]
    have e5 : gq1 proto zs = 0 := by unfold gq1; rw [if_neg h]
    have e6 : gq2 proto zs = 0 := by unfold gq2; rw [if_neg h]
    have e4 : gdt proto zs = [] := by unfold gdt; rw [if_neg h]
    exact ⟨hb, none, 0, 0, by rw [e1, e2, e3, e5, e6], by rw [e4]; rfl, .inl ⟨rfl, e4⟩⟩
  · have e1 : gcl proto zs = getAt2 zs 6 := by unfold gcl; rw [if_pos h]
    have e2 : gh1 proto zs = ghs (bgz zs) := by unfold gh1; rw [if_pos h]
    have e3 : gh2 proto zs = gha (bgz zs) := by unfold gh2; rw [if_pos h]
    have e5 : gq1 proto zs = gsq (bgz zs) zs := by unfold gq1; rw [if_pos h]
    have e6 : gq2 proto zs = gak (bgz zs) zs := by unfold gq2; rw [if_pos h]
    have e4 : gdt proto zs = zs.drop (ghd (bgz zs)) := by unfold gdt; rw [if_pos h]
    exact ⟨hb, ad, zs.length - ghd (bgz zs), cd, by rw [e1, e2, e3, e5, e6, h], by rw [e4, List.length_drop], by rw [e4]; exact hO⟩

/-- What is of another protocol. -/
theorem pie_other {proto : Int} {zs : List Int} (h : proto ≠ 1) : pie proto zs = 12 := by unfold pie; rw [if_pos h]
theorem pge_other {proto : Int} {zs : List Int} (h : proto ≠ 47) : pge proto zs = 12 := by unfold pge; rw [if_pos h]
end Go.Proofs.YtcdeiakeiehaaaaDoor
