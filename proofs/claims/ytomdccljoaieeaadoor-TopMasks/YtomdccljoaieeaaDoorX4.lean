/- Several texts in one. -/
import Derived.Test.YtomdccljoaieeaaDoorX5
import Derived.Test.YtomdccljoaieeaaDoorW9
import Derived.Deep.OwnRows
import Derived.Test.YtomdccljoaieeaaDoorV4
import Derived.Test.YtomdccljoaieeaaDoorRt
/- The document's options of a header's bytes. -/
namespace Go.Proofs.YtomdccljoaieeaaDoor
open Go.RowKit Go.Shelf
set_option maxRecDepth 100000
set_option linter.unusedVariables false
set_option linter.unusedSimpArgs false

/-- One more option, behind those of one's own. -/
theorem OwO_snoc {base : Nat} {A B : World} {vr v2 s : Value} {os : List Opt} {ss : List Value} {k : Int} {dt : List Int} (hsl : ss.length = os.length) (hdat : ∀ j, j < os.length → Ow base A (ss[j]?.getD undef) (os[j]?.getD (0, [])).2)
    (hrowA : A.ownsRow base 162 2 vr os.length (rowO os ss)) (hs : Ow base A s dt) (hrow2 : B.ownsRow base 162 2 v2 (os.length + 1) (rowO os ss ++ [.int .u8 k, s])) (hg : A.grownBy B vr.ownBlock) : OwO base B v2 (os ++ [(k, dt)]) := by
  have hdk : ∀ v zs', Ow base A v zs' → Ow base B v zs' := fun v zs' h => by
    rcases h with h | ⟨g, cp, cur, e1, e2, e3, e4, e5, e6, e7⟩
    · exact .inl h
    · refine .inr ⟨g, cp, cur, e1, e2, e3, e4, e5, (hg.block g (Array.getElem?_eq_some_iff.1 e6).1 (fun e => ?_)).trans e6, e7⟩
      rcases hrowA.2 with ⟨rfl, _⟩ | ⟨g', cp', cur', rfl, hg', hh', _⟩
      · cases e
      · cases e
        rw [e6] at hh'
        simp at hh'
  refine ⟨ss ++ [s], by simp [hsl], ?_, ?_⟩
  · rw [List.length_append, List.length_singleton, rowO_snoc os ss hsl]
    exact hrow2
  · intro j hj
    simp at hj
    by_cases h : j < os.length
    · rw [List.getElem?_append_left h, List.getElem?_append_left (by omega)]
      exact hdk _ _ (hdat j h)
    · obtain rfl : j = os.length := by omega
      rw [List.getElem?_append_right (Nat.le_refl _), List.getElem?_append_right (by omega), hsl]
      simpa using hdk _ _ hs
theorem new_cells (W : World) (xs : List Value) (t : TypeId) : ∀ j u, xs[j]? = some u → (W.alloc (.cells xs.toArray t)).cell? ((⟨W.heap.size, 0, none⟩ : Addr).add j) = some u := fun j u hj => by
  rw [show (⟨W.heap.size, 0, none⟩ : Addr).add j = ⟨W.heap.size, j, none⟩ from by unfold Addr.add; split <;> simp_all, block_cell (heap_alloc_new W _) j]
  simpa using hj

end Go.Proofs.YtomdccljoaieeaaDoor

/- The document's answers for four bytes got, and for words put. -/
namespace Go.Proofs.YtomdccljoaieeaaDoor
open Go.RowKit Go.Shelf
set_option maxRecDepth 100000

end Go.Proofs.YtomdccljoaieeaaDoor

/- Package segs: which option tells edges. -/
namespace Go.Proofs.YtomdccljoaieeaaDoor
open Go.RowKit Go.Shelf
set_option maxRecDepth 100000
set_option linter.unusedVariables false
set_option linter.unusedSimpArgs false

def telb (k : Int) (len : Nat) : Bool := decide (k = 5 ∧ len % 8 = 0 ∧ 1 ≤ len / 8 ∧ len / 8 ≤ 4)

/-- The place of the option that tells edges. -/
def tlo (o : Opt) : Bool := telb o.1 o.2.length
def skx (os : List Opt) : Option Nat := os.findIdx? tlo
theorem skx_none {os : List Opt} (h : ∀ j, j < os.length → tlo (os[j]?.getD (0, [])) = false) : skx os = none := by
  unfold skx
  rw [List.findIdx?_eq_none_iff]
  intro o ho
  obtain ⟨j, hj, rfl⟩ := List.getElem_of_mem ho
  have := h j hj
  simpa [hj] using this
theorem skx_some {os : List Opt} {k : Nat} (hk : k < os.length) (h : ∀ j, j < k → tlo (os[j]?.getD (0, [])) = false) (ht : tlo (os[k]?.getD (0, [])) = true) : skx os = some k := by
  unfold skx
  rw [List.findIdx?_eq_some_iff_getElem]
  refine ⟨hk, by simpa [hk] using ht, fun j hj => ?_⟩
  have := h j hj
  simpa [show j < os.length from by omega] using this
theorem skx_lt {os : List Opt} {k : Nat} (h : skx os = some k) : k < os.length ∧ tlo (os[k]?.getD (0, [])) = true := by
  unfold skx at h
  rw [List.findIdx?_eq_some_iff_getElem] at h
  obtain ⟨hk, ht, _⟩ := h
  exact ⟨hk, by simpa [hk] using ht⟩

end Go.Proofs.YtomdccljoaieeaaDoor

/- Package segs: the edges that a segment tells. -/
namespace Go.Proofs.YtomdccljoaieeaaDoor
open Go.RowKit Go.Shelf
set_option maxRecDepth 100000
set_option linter.unusedVariables false
set_option linter.unusedSimpArgs false

/-- The numbers of four bytes each; the edges that options tell. -/
def quads (zs : List Int) : List Int := (List.range (zs.length / 4)).map fun i => wat4 zs (i * 4)
theorem quads_length (zs : List Int) : (quads zs).length = zs.length / 4 := by simp [quads]
theorem quads_at (zs : List Int) (k : Nat) (h : k < zs.length / 4) : (quads zs)[k]? = some (wat4 zs (k * 4)) := by simp [quads, h]
def sacks (os : List Opt) : List Int := match skx os with | some k => quads (os[k]?.getD (0, [])).2 | none => []
/-- A slice of numbers of 32 bits in a block of one's own, or none. -/
def Ow4 (base : Nat) (W : World) (v : Value) (ns : List Int) : Prop :=
  (v = .slice none 0 0 ∧ ns = []) ∨ ∃ g, v = .slice (some ⟨g, 0, none⟩) ns.length ns.length ∧ base ≤ g ∧ W.heap[g]? = some (.cells (ns.map (Value.int .u32)).toArray 23 (0, 0))
theorem Ow4.later {base : Nat} {A B : World} {v : Value} {ns : List Int} (h : Ow4 base A v ns) (l : Later A B) : Ow4 base B v ns := by
  rcases h with h | ⟨g, h1, h2, h3⟩
  · exact .inl h
  · exact .inr ⟨g, h1, h2, later_keep l h3⟩
theorem Ow4.mono {base base' : Nat} {A : World} {v : Value} {ns : List Int} (h : Ow4 base A v ns) (hb : base' ≤ base) : Ow4 base' A v ns := by
  rcases h with h | ⟨g, h1, h2, h3⟩
  · exact .inl h
  · exact .inr ⟨g, h1, by omega, h3⟩
theorem Ow4.slice {base : Nat} {A : World} {v : Value} {ns : List Int} (h : Ow4 base A v ns) : ∃ a, v = .slice a ns.length ns.length := by
  rcases h with ⟨rfl, rfl⟩ | ⟨g, rfl, _⟩
  · exact ⟨none, rfl⟩
  · exact ⟨_, rfl⟩
theorem Ow4.cell {base : Nat} {A : World} {a : Option Addr} {l c : Nat} {ns : List Int} (h : Ow4 base A (.slice a l c) ns) (hne : 0 < ns.length) : ∃ g, a = some ⟨g, 0, none⟩ ∧ l = ns.length ∧ c = ns.length ∧ base ≤ g ∧ ∀ j, j < ns.length → A.cell? ⟨g, j, none⟩ = some (.int .u32 (ns[j]?.getD 0)) := by
  rcases h with ⟨_, rfl⟩ | ⟨g, e, h2, h3⟩
  · simp at hne
  · cases e
    refine ⟨g, rfl, rfl, rfl, h2, fun j hj => ?_⟩
    rw [block_cell h3 j]
    simp [hj]

theorem info_u32 : (Tryd.prog.info? 23).map (fun i => (i.zero, i.size, i.bytes)) = some (some (.int .u32 0), 1, 4) := by kernel_rfl
theorem made_eq (n : Nat) : Obj.cells (madeCells #[.int .u32 0] n) 23 = Obj.cells (List.replicate n (Value.int .u32 0)).toArray 23 (0, 0) := by
  congr 1
  apply Array.ext
  · simp [madeCells]
  · intro i h1 h2
    simp [madeCells, Nat.mod_one]

theorem getAt4_lit (zs : List Int) (p : Int) (k : Nat) (hk : p = k) (h : k + 4 ≤ zs.length) : getAt4 zs p = wat4 zs k := by
  subst hk
  unfold getAt4
  rw [if_pos (by omega), Int.toNat_natCast]
theorem Rd.below' {n₀ : Nat} {w A B : World} {v : Value} {zs : List Int} (h : Rd n₀ A v zs) (ha : Below n₀ w A) (hb : Below n₀ w B) : Rd n₀ B v zs := by
  rcases h with h | ⟨b, off, cap, e, hne, hl, hm, hlt, hc⟩
  · exact .inl h
  · exact .inr ⟨b, off, cap, e, hne, hl, hm, hlt, fun j hj => (hb.cell (p := ⟨b, off + j, none⟩) hlt).trans ((ha.cell (p := ⟨b, off + j, none⟩) hlt).symm.trans (hc j hj))⟩

end Go.Proofs.YtomdccljoaieeaaDoor

/- The document's answer for a packet's segment. -/
namespace Go.Proofs.YtomdccljoaieeaaDoor
open Go.RowKit Go.Shelf
set_option maxRecDepth 100000
set_option linter.unusedVariables false
set_option linter.unusedSimpArgs false

theorem OwO.kept {base : Nat} {A B : World} {v : Value} {os : List Opt} (h : OwO base A v os) (hk : ∀ (k : Nat) (o : Obj), base ≤ k → A.heap[k]? = some o → B.heap[k]? = some o) : OwO base B v os := by
  obtain ⟨ss, h1, h2, h3⟩ := h
  refine ⟨ss, h1, ⟨h2.1, h2.2.imp id ?_⟩, fun j hj => ?_⟩
  · rintro ⟨g, cap, cur, e1, e2, e3, r⟩
    exact ⟨g, cap, cur, e1, e2, hk g _ e2 e3, r⟩
  · rcases h3 j hj with h | ⟨g, cp, cur, e1, e2, e3, e4, e5, e6, e7⟩
    · exact .inl h
    · exact .inr ⟨g, cp, cur, e1, e2, e3, e4, e5, hk g _ e2 e6, e7⟩

end Go.Proofs.YtomdccljoaieeaaDoor

/- Package ctrl: whether two messages, two frames are the same; the document's answers. -/
namespace Go.Proofs.YtomdccljoaieeaaDoor
open Go.RowKit Go.Shelf
set_option maxRecDepth 100000
set_option linter.unusedVariables false
set_option linter.unusedSimpArgs false

/-- Are two messages, two frames the same? -/
def smI (ty1 : Int) (cde1 : Int) (rest1 : Int) (ty2 : Int) (cde2 : Int) (rest2 : Int) (zd1 zd2 : List Int) : Bool := ty1 == ty2 && (cde1 == cde2 && (rest1 == rest2 && (decide (zd1 = zd2))))
theorem smI_self (ty : Int) (cde : Int) (rest : Int) (zd : List Int) : smI ty cde rest ty cde rest zd zd = true := by simp [smI]
def smG (cl1 : Int) (hs1 : Bool) (ha1 : Bool) (sq1 : Int) (ak1 : Int) (cl2 : Int) (hs2 : Bool) (ha2 : Bool) (sq2 : Int) (ak2 : Int) (zd1 zd2 : List Int) : Bool := cl1 == cl2 && (hs1 == hs2 && (ha1 == ha2 && (sq1 == sq2 && (ak1 == ak2 && (decide (zd1 = zd2))))))
theorem smG_self (cl : Int) (hs : Bool) (ha : Bool) (sq : Int) (ak : Int) (zd : List Int) : smG cl hs ha sq ak cl hs ha sq ak zd zd = true := by simp [smG]

end Go.Proofs.YtomdccljoaieeaaDoor

/- Package ctrl: what Parse answers, in one form. -/
namespace Go.Proofs.YtomdccljoaieeaaDoor
open Go.RowKit Go.Shelf
set_option maxRecDepth 100000
set_option linter.unusedVariables false
set_option linter.unusedSimpArgs false

/-- What a message's parts are, of a packet's data (zeros with an error). -/
def pty (proto : Int) (zs : List Int) : Int := if pie proto zs = 0 then zs[0]?.getD 0 else 0
def pcd (proto : Int) (zs : List Int) : Int := if pie proto zs = 0 then zs[1]?.getD 0 else 0
def prs (proto : Int) (zs : List Int) : Int := if pie proto zs = 0 then wat4 zs 4 else 0
def pdt (proto : Int) (zs : List Int) : List Int := if pie proto zs = 0 then zs.drop 8 else []
theorem By_pdt (proto : Int) (zs : List Int) (h : Mt.By zs) : Mt.By (pdt proto zs) := by unfold pdt; split; exact h.drop _; exact Mt.By.nil

theorem parseIcmp_u (tos id ttl proto src dst : Int) (keep : Bool) (so sd : Value) (zs : List Int) (w : World) (hB : Mt.By zs) (hI : Rd w.heap.size w sd zs) (hl : zs.length ≤ 140737488355328) :
    Calls Tryd.prog 68 #[.agg #[.int .u8 tos, .int .u16 id, .bool keep, .int .u8 ttl, .int .u8 proto, .int .u32 src, .int .u32 dst, so, sd]] w fun e w' => Below w.heap.size w w' ∧ ∃ am lm cm, e = .returned (.tuple #[.agg #[.int .u8 (pty proto zs), .int .u8 (pcd proto zs), .int .u32 (prs proto zs), .slice am lm cm], .int .i64 (pie proto zs)]) ∧ lm = (pdt proto zs).length ∧ Ow w.heap.size w' (.slice am lm cm) (pdt proto zs) := by
  refine (parseIcmp_any tos id ttl proto src dst keep so sd zs w hB hI hl).mono ?_
  rintro e w' ⟨hb, ⟨h, rfl⟩ | ⟨h, ad, cd, rfl, hO⟩⟩
  · have e1 : pty proto zs = 0 := by unfold pty; rw [if_neg h]
    have e2 : pcd proto zs = 0 := by unfold pcd; rw [if_neg h]
    have e3 : prs proto zs = 0 := by unfold prs; rw [if_neg h]
    have e4 : pdt proto zs = [] := by unfold pdt; rw [if_neg h]
    exact ⟨hb, none, 0, 0, by rw [e1, e2, e3], by rw [e4]; rfl, .inl ⟨rfl, e4⟩⟩
  · have e1 : pty proto zs = zs[0]?.getD 0 := by unfold pty; rw [if_pos h]
    have e2 : pcd proto zs = zs[1]?.getD 0 := by unfold pcd; rw [if_pos h]
    have e3 : prs proto zs = wat4 zs 4 := by unfold prs; rw [if_pos h]
    have e4 : pdt proto zs = zs.drop 8 := by unfold pdt; rw [if_pos h]
    exact ⟨hb, ad, zs.length - 8, cd, by rw [e1, e2, e3, h], by rw [e4, List.length_drop], by rw [e4]; exact hO⟩

/-- What a frame's parts are. -/
def gcl (proto : Int) (zs : List Int) : Int := if pge proto zs = 0 then getAt2 zs 6 else 0
def gh1 (proto : Int) (zs : List Int) : Bool := if pge proto zs = 0 then ghs (bgz zs) else false
def gh2 (proto : Int) (zs : List Int) : Bool := if pge proto zs = 0 then gha (bgz zs) else false
def gq1 (proto : Int) (zs : List Int) : Int := if pge proto zs = 0 then gsq (bgz zs) zs else 0
def gq2 (proto : Int) (zs : List Int) : Int := if pge proto zs = 0 then gak (bgz zs) zs else 0
def gdt (proto : Int) (zs : List Int) : List Int := if pge proto zs = 0 then zs.drop (ghd (bgz zs)) else []
theorem By_gdt (proto : Int) (zs : List Int) (h : Mt.By zs) : Mt.By (gdt proto zs) := by unfold gdt; split; exact h.drop _; exact Mt.By.nil

theorem parseGre_u (tos id ttl proto src dst : Int) (keep : Bool) (so sd : Value) (zs : List Int) (w : World) (hT : Tb w) (hB : Mt.By zs) (hI : Rd w.heap.size w sd zs) (hl : zs.length ≤ 140737488355328) :
    Calls Tryd.prog 70 #[.agg #[.int .u8 tos, .int .u16 id, .bool keep, .int .u8 ttl, .int .u8 proto, .int .u32 src, .int .u32 dst, so, sd]] w fun e w' => Below w.heap.size w w' ∧ ∃ am lm cm, e = .returned (.tuple #[.agg #[.int .u16 (gcl proto zs), .bool (gh1 proto zs), .bool (gh2 proto zs), .int .u32 (gq1 proto zs), .int .u32 (gq2 proto zs), .slice am lm cm], .int .i64 (pge proto zs)]) ∧ lm = (gdt proto zs).length ∧ Ow w.heap.size w' (.slice am lm cm) (gdt proto zs) := by
  refine (parseGre_any tos id ttl proto src dst keep so sd zs w hT hB hI hl).mono ?_
  rintro e w' ⟨hb, ⟨h, rfl⟩ | ⟨h, ad, cd, rfl, hO⟩⟩
  · have e1 : gcl proto zs = 0 := by unfold gcl; rw [if_neg h]
    have e2 : gh1 proto zs = false := by unfold gh1; rw [if_neg h]
    have e3 : gh2 proto zs = false := by unfold gh2; rw [if_neg h]
    have e5 : gq1 proto zs = 0 := by unfold gq1; rw [if_neg h]
    have e6 : gq2 proto zs = 0 := by unfold gq2; rw [if_neg h]
    have e4 : gdt proto zs = [] := by unfold gdt; rw [if_neg h]
    exact ⟨hb, none, 0, 0, by rw [e1, e2, e3, e5, e6], by rw [e4]; rfl, .inl ⟨rfl, e4⟩⟩
  · have e1 : gcl proto zs = getAt2 zs 6 := by unfold gcl; rw [if_pos h]
    have e2 : gh1 proto zs = ghs (bgz zs) := by unfold gh1; rw [if_pos h]
    have e3 : gh2 proto zs = gha (bgz zs) := by unfold gh2; rw [if_pos h]
    have e5 : gq1 proto zs = gsq (bgz zs) zs := by unfold gq1; rw [if_pos h]
    have e6 : gq2 proto zs = gak (bgz zs) zs := by unfold gq2; rw [if_pos h]
    have e4 : gdt proto zs = zs.drop (ghd (bgz zs)) := by unfold gdt; rw [if_pos h]
    exact ⟨hb, ad, zs.length - ghd (bgz zs), cd, by rw [e1, e2, e3, e5, e6, h], by rw [e4, List.length_drop], by rw [e4]; exact hO⟩

/-- What is of another protocol. -/
theorem pie_other {proto : Int} {zs : List Int} (h : proto ≠ 1) : pie proto zs = 12 := by unfold pie; rw [if_pos h]
theorem pge_other {proto : Int} {zs : List Int} (h : proto ≠ 47) : pge proto zs = 12 := by unfold pge; rw [if_pos h]
end Go.Proofs.YtomdccljoaieeaaDoor

/- The document's ParseIcmp. -/
namespace Go.Proofs.YtomdccljoaieeaaDoor
open Go.RowKit Go.Shelf
set_option maxRecDepth 100000
set_option linter.unusedVariables false
set_option linter.unusedSimpArgs false

/-- Bytes of one's own stay where another block turns that holds no bytes. -/
theorem Ow.other {base mb : Nat} {W W' : World} {v : Value} {zs : List Int} {cur : Array Value} {t : TypeId} (h : Ow base W v zs) (hm : W.heap[mb]? = some (.cells cur t (0, 0))) (ht : t ≠ 5) (hb : But (fun b => b = mb) W W') : Ow base W' v zs := by
  rcases h with h | ⟨g, cap, c, h1, h2, h3, h4, h5, h6, h7⟩
  · exact .inl h
  · refine .inr ⟨g, cap, c, h1, h2, h3, h4, h5, (hb.block g (Array.getElem?_eq_some_iff.1 h6).1 (fun e => ?_)).trans h6, h7⟩
    subst e
    rw [hm] at h6
    simp at h6
    exact ht h6.2

end Go.Proofs.YtomdccljoaieeaaDoor

/- The document's ParseGre: the beginning. -/
namespace Go.Proofs.YtomdccljoaieeaaDoor
open Go.RowKit Go.Shelf
set_option maxRecDepth 100000
set_option linter.unusedVariables false
set_option linter.unusedSimpArgs false

end Go.Proofs.YtomdccljoaieeaaDoor
