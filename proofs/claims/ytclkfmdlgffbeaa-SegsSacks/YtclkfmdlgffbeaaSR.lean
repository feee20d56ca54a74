/- Package segs: the edges that a segment tells. -/
import Derived.Deep.OwnRows
import Derived.Test.YtclkfmdlgffbeaaSQ
namespace Go.Proofs.Ytclkfmdlgffbeaa
open Go.RowKit Go.Shelf
set_option maxRecDepth 100000
set_option linter.unusedVariables false
set_option linter.unusedSimpArgs false

/-- The numbers of four bytes each; the edges that options tell. -/
def quads (zs : List Int) : List Int := (List.range (zs.length / 4)).map fun i => wat4 zs (i * 4)
theorem quads_length (zs : List Int) : (quads zs).length = zs.length / 4 := by simp [quads]
theorem quads_at (zs : List Int) (k : Nat) (h : k < zs.length / 4) : (quads zs)[k]? = some (wat4 zs (k * 4)) := by simp [quads, h]
def sacks (os : List Opt) : List Int := match skx os with | some k => quads (os[k]?.getD (0, [])).2 | none => []
/-- A slice of numbers of 32 bits in a block of one's own, or none. -/
def Ow4 (base : Nat) (W : World) (v : Value) (ns : List Int) : Prop :=
  (v = .slice none 0 0 ∧ ns = []) ∨ ∃ g, v = .slice (some ⟨g, 0, none⟩) ns.length ns.length ∧ base ≤ g ∧ W.heap[g]? = some (.cells (ns.map (Value.int .u32)).toArray 23 (0, 0))
theorem Ow4.later {base : Nat} {A B : World} {v : Value} {ns : List Int} (h : Ow4 base A v ns) (l : Later A B) : Ow4 base B v ns := by
  rcases h with h | ⟨g, h1, h2, h3⟩
  · exact .inl h
  · exact .inr ⟨g, h1, h2, later_keep l h3⟩
theorem Ow4.mono {base base' : Nat} {A : World} {v : Value} {ns : List Int} (h : Ow4 base A v ns) (hb : base' ≤ base) : Ow4 base' A v ns := by
  rcases h with h | ⟨g, h1, h2, h3⟩
  · exact .inl h
  · exact .inr ⟨g, h1, by omega, h3⟩
theorem Ow4.slice {base : Nat} {A : World} {v : Value} {ns : List Int} (h : Ow4 base A v ns) : ∃ a, v = .slice a ns.length ns.length := by
  rcases h with ⟨rfl, rfl⟩ | ⟨g, rfl, _⟩
  · exact ⟨none, rfl⟩
  · exact ⟨_, rfl⟩
theorem Ow4.cell {base : Nat} {A : World} {a : Option Addr} {l c : Nat} {ns : List Int} (h : Ow4 base A (.slice a l c) ns) (hne : 0 < ns.length) : ∃ g, a = some ⟨g, 0, none⟩ ∧ l = ns.length ∧ c = ns.length ∧ base ≤ g ∧ ∀ j, j < ns.length → A.cell? ⟨g, j, none⟩ = some (.int .u32 (ns[j]?.getD 0)) := by
  rcases h with ⟨_, rfl⟩ | ⟨g, e, h2, h3⟩
  · simp at hne
  · cases e
    refine ⟨g, rfl, rfl, rfl, h2, fun j hj => ?_⟩
    rw [block_cell h3 j]
    simp [hj]

theorem info_u32 : (Try.prog.info? 23).map (fun i => (i.zero, i.size, i.bytes)) = some (some (.int .u32 0), 1, 4) := by kernel_rfl
theorem made_eq (n : Nat) : Obj.cells (madeCells #[.int .u32 0] n) 23 = Obj.cells (List.replicate n (Value.int .u32 0)).toArray 23 (0, 0) := by
  congr 1
  apply Array.ext
  · simp [madeCells]
  · intro i h1 h2
    simp [madeCells, Nat.mod_one]

theorem getAt4_lit (zs : List Int) (p : Int) (k : Nat) (hk : p = k) (h : k + 4 ≤ zs.length) : getAt4 zs p = wat4 zs k := by
  subst hk
  unfold getAt4
  rw [if_pos (by omega), Int.toNat_natCast]
theorem Rd.below' {n₀ : Nat} {w A B : World} {v : Value} {zs : List Int} (h : Rd n₀ A v zs) (ha : Below n₀ w A) (hb : Below n₀ w B) : Rd n₀ B v zs := by
  rcases h with h | ⟨b, off, cap, e, hne, hl, hm, hlt, hc⟩
  · exact .inl h
  · exact .inr ⟨b, off, cap, e, hne, hl, hm, hlt, fun j hj => (hb.cell (p := ⟨b, off + j, none⟩) hlt).trans ((ha.cell (p := ⟨b, off + j, none⟩) hlt).symm.trans (hc j hj))⟩

set_option maxHeartbeats 4000000 in
theorem sacks_any (sp dp sq ak fl wn ur : Int) (sO sm : Value) (os : List Opt) (w : World) (hB : ByO os) (hI : RdO w.heap.size w sO os) (hl : ∀ o ∈ os, o.2.length ≤ 140737488355328) :
    Calls Try.prog 16 #[.agg #[.int .u16 sp, .int .u16 dp, .int .u32 sq, .int .u32 ak, .int .u8 fl, .int .u16 wn, .int .u16 ur, sO, sm]] w fun e w' => Below w.heap.size w w' ∧ ∃ v, e = .returned v ∧ Ow4 w.heap.size w' v (sacks os) := by
  obtain ⟨a, cap, rfl, hc1, hc2⟩ := hI.slice
  have hb0 : Below w.heap.size w (w.alloc (.cells #[.int .u16 sp, .int .u16 dp, .int .u32 sq, .int .u32 ak, .int .u8 fl, .int .u16 wn, .int .u16 ur, .slice a os.length cap, sm] 29)) := (Below.refl _ _).alloc (Nat.le_refl _) _
  have s0 := heap_alloc_new w (.cells #[.int .u16 sp, .int .u16 dp, .int .u32 sq, .int .u32 ak, .int .u8 fl, .int .u16 wn, .int .u16 ur, .slice a os.length cap, sm] 29)
  have S0 := hide s0
  clear s0
  go_enter Try.func16, Try.ntmps16
  go_wp2_with fail
  generalize w.alloc (.cells #[.int .u16 sp, .int .u16 dp, .int .u32 sq, .int .u32 ak, .int .u8 fl, .int .u16 wn, .int .u16 ur, .slice a os.length cap, sm] 29) = W0 at *
  refine (idxo_any w.heap.size _ os W0 hb0.size (hI.below hb0) hl).mono ?_
  rintro e w1 ⟨hb1, ⟨hn, rfl⟩ | ⟨k, hk, rfl⟩⟩
  · have hw1 := hb0.trans (hb1.mono hb0.size)
    have HS : Hid (sacks os = []) := by show _ = _; unfold sacks; rw [hn]
    clear hn
    go_wp2_with fail
    go_ret
    exact ⟨hw1, _, rfl, by rw [HS.out]; exact .inl ⟨rfl, rfl⟩⟩
  · have hw1 := hb0.trans (hb1.mono hb0.size)
    have s1 := later_keep hb1 S0.out
    obtain ⟨hkl, htl⟩ := skx_lt hk
    have HS : Hid (sacks os = quads (os[k]?.getD (0, [])).2) := by show _ = _; unfold sacks; rw [hk]
    obtain ⟨b, off, cp, e, _, _, hbb, hcs⟩ := (hI.below hw1).cells (by omega)
    simp at e
    obtain ⟨rfl, rfl⟩ := e
    obtain ⟨s, c0, c1, hRs⟩ := hcs k hkl
    obtain ⟨sa, sc, rfl, _, _⟩ := hRs.slice
    have hoB := (hB (os[k]?.getD (0, [])) (by simp [hkl])).2
    have hts : (os[k]?.getD (0, [])).2.length % 8 = 0 ∧ 1 ≤ (os[k]?.getD (0, [])).2.length / 8 ∧ (os[k]?.getD (0, [])).2.length / 8 ≤ 4 := by
      unfold tlo telb at htl
      have := of_decide_eq_true htl
      exact this.2
    clear hcs htl hk hb1 hb0 S0
    generalize (os[k]?.getD (0, [])).2 = dt at *
    have hkl' : (k : Int) < os.length := by omega
    have K1 := block_cell s1
    obtain ⟨i0, hi, hz0, hz1, hz2⟩ := info_parts info_u32
    have h4 : dt.length ≤ 32 := by omega
    have H8 := hide hts
    have h8 : 8 ≤ dt.length := by omega
    clear hts
    go_wp2_with (at_make; refine wpList_make_row _ rfl _ _ 43 rfl 23 i0 (.int .u32 0) Try.underlying43 hi hz0 hz1 rfl .i64 .i64 (dt.length / 4) (congrArg (Value.int .i64) (Int.natCast_ediv dt.length 4).symm) (congrArg (Value.int .i64) (Int.natCast_ediv dt.length 4).symm) (by rw [hz2]; omega) (by omega) ?_)
    have hg0 : (w1.alloc (.cells (madeCells #[.int .u32 0] (dt.length / 4)) 23)).heap[w1.heap.size]? = some (.cells (((quads dt).take 0).map (Value.int .u32) ++ List.replicate (dt.length / 4 - 0) (Value.int .u32 0)).toArray 23 (0, 0)) := by
      rw [heap_alloc_new, List.take_zero, List.map_nil, List.nil_append, Nat.sub_zero]
      congr 1
      exact made_eq _
    have hb2 : Below w.heap.size w (w1.alloc (.cells (madeCells #[.int .u32 0] (dt.length / 4)) 23)) := hw1.trans ((Below.refl _ w1).alloc hw1.size _)
    have hgw := hw1.size
    have HS2 : Hid (sacks os = quads dt) := HS
    generalize w1.alloc (.cells (madeCells #[.int .u32 0] (dt.length / 4)) 23) = W2 at *
    clear K1 s1 HS c0 c1
    go_loopw [24] (fun i wr => ∃ m : Nat, m ≤ dt.length / 4 ∧ i = .int .i64 (m : Int) ∧ wr.heap[w1.heap.size]? = some (.cells (((quads dt).take m).map (Value.int .u32) ++ List.replicate (dt.length / 4 - m) (Value.int .u32 0)).toArray 23 (0, 0)) ∧ Below w.heap.size w wr) (fun i _ => dt.length / 4 - (intOf i).toNat)
    case atStart => exact ⟨0, by omega, rfl, hg0, hb2⟩
    case round =>
      obtain ⟨m, hm, rfl, hgm, hbm⟩ := hrel
      by_cases hlt : m < dt.length / 4
      · have hlt' : (m : Int) < (dt.length : Int) / 4 := by omega
        have hmN : (m : Int) < ((dt.length / 4 : Nat) : Int) := by omega
        go_wp2_with fail
        refine (get32_at _ dt hoB ((m : Int) * 4) wr ((hRs.below' hw1 hbm))).mono ?_
        rintro e w' ⟨rfl, q, hq⟩
        have hbq : Later wr w' := by rw [hq]; exact below_draw (Later.refl wr) q
        clear hq
        rw [getAt4_lit dt ((m : Int) * 4) (m * 4) (by omega) (by omega)]
        have hgq := later_keep hbq hgm
        have hw' := hbm.trans (hbq.mono hbm.size)
        have hrl : ((quads dt).take m).length = m := by rw [List.length_take, quads_length]; omega
        have Kq : w'.cell? ⟨w1.heap.size, m, none⟩ = some (.int .u32 0) := by
          rw [block_cell hgq m]
          simp only [List.getElem?_toArray]
          rw [List.getElem?_append_right (by rw [List.length_map, hrl]; exact Nat.le_refl _), List.length_map, hrl, Nat.sub_self, List.getElem?_replicate]
          simp; omega
        have Fq : w'.frozen? ⟨w1.heap.size, m, none⟩ = false := block_frozen hgq m
        have hset := heap_set1 hgq m (.int .u32 (wat4 dt (m * 4)))
        have hE : Below w.heap.size w (w'.setCell ⟨w1.heap.size, m, none⟩ (.int .u32 (wat4 dt (m * 4)))) := hw'.setCell (p := ⟨w1.heap.size, m, none⟩) hgw _
        have HLT := hide hlt
        go_wp2_with fail
        go_roundw
        case rel =>
          refine ⟨m + 1, by omega, by go_num, ?_, hE⟩
          rw [hset]
          congr 2
          have h1 := quads_at dt m hlt
          rw [List.take_add_one, h1]
          simp only [List.setIfInBounds_toArray]
          congr 1
          rw [List.set_append_right _ _ (by rw [List.length_map, hrl]; exact Nat.le_refl _), List.length_map, hrl, Nat.sub_self, show dt.length / 4 - m = (dt.length / 4 - (m + 1)) + 1 from by omega, List.replicate_succ]
          simp
        case measure => simp [intOf]; omega
      · obtain rfl : m = dt.length / 4 := by omega
        have hfin : wr.heap[w1.heap.size]? = some (.cells ((quads dt).map (Value.int .u32)).toArray 23 (0, 0)) := by
          rw [hgm, ← quads_length dt, List.take_length]
          simp
        go_wp2_with fail
        go_ret
        exact ⟨hbm, _, rfl, by rw [HS2.out]; exact .inr ⟨w1.heap.size, by rw [quads_length]; rfl, hgw, hfin⟩⟩
end Go.Proofs.Ytclkfmdlgffbeaa
