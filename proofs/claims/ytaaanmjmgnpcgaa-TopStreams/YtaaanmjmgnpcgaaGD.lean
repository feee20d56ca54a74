/- Package seqadj: New, Len, Map, Unmap, what Add asks. -/
import Derived.Test.YtaaanmjmgnpcgaaGC
namespace Go.Proofs.Ytaaanmjmgnpcgaa
open Go.RowKit Go.Shelf
set_option maxRecDepth 100000
set_option linter.unusedVariables false
set_option linter.unusedSimpArgs false

def mapS (l : List Pa) (n : Int) : Int := acr Pa.ws Pa.we Pa.is Pa.ie n l.reverse
def unmS (l : List Pa) (n : Int) : Int := acr Pa.is Pa.ie Pa.ws Pa.we n l.reverse

theorem smap_any (base b : Nat) (v : Value) (ls : List Pa) (n : Int) (hn : 0 ≤ n ∧ n ≤ 4294967295) (w : World) (hT : SL 57 base w b v ls) (hlen : ls.length ≤ 1000) :
    Calls Try.prog 19 #[.pointer (some ⟨b, 0, none⟩), .int .u32 n] w fun e w' => e = .returned (.int .u32 (mapS ls n)) ∧ Later w w' := by
  have HA := hide (across_any base b 37 v ls Pa.ws Pa.we Pa.is Pa.ie n hn w hT hlen (enters_of Try.func37 (by kernel_rfl) rfl) (fun p W => map1_any p W))
  unfold mapS
  generalize acr Pa.ws Pa.we Pa.is Pa.ie n ls.reverse = z at *
  go_enter Try.func19, Try.ntmps19
  go_wp2_with fail
  refine HA.out.mono ?_
  rintro e w1 ⟨rfl, l1⟩
  go_wp2_with fail
  go_ret
  exact ⟨rfl, l1⟩
theorem sunmap_any (base b : Nat) (v : Value) (ls : List Pa) (n : Int) (hn : 0 ≤ n ∧ n ≤ 4294967295) (w : World) (hT : SL 57 base w b v ls) (hlen : ls.length ≤ 1000) :
    Calls Try.prog 18 #[.pointer (some ⟨b, 0, none⟩), .int .u32 n] w fun e w' => e = .returned (.int .u32 (unmS ls n)) ∧ Later w w' := by
  have HA := hide (across_any base b 36 v ls Pa.is Pa.ie Pa.ws Pa.we n hn w hT hlen (enters_of Try.func36 (by kernel_rfl) rfl) (fun p W => unmap1_any p W))
  unfold unmS
  generalize acr Pa.is Pa.ie Pa.ws Pa.we n ls.reverse = z at *
  go_enter Try.func18, Try.ntmps18
  go_wp2_with fail
  refine HA.out.mono ?_
  rintro e w1 ⟨rfl, l1⟩
  go_wp2_with fail
  go_ret
  exact ⟨rfl, l1⟩
theorem across_nil (n : Int) (cf : Nat) (w : World) : Calls Try.prog 35 #[.pointer none, .int .u32 n, .func (.func cf) #[] #[]] w fun e w' => e = .returned (.int .u32 0) ∧ Later w w' := by
  refine (callsIn_wide (n := 5)).1 ?_
  refine callsIn_of_wp_marks Try.func35 rfl trivial ?_ rfl
  simp only [Try.ntmps35, List.size_toArray, List.length_cons, List.length_nil, Nat.reduceAdd, Nat.reduceSub, Array.replicate_succ, Array.replicate_zero, List.push_toArray, List.append_toArray, List.nil_append, List.cons_append]
  gi_wp2
  refine wpIn_wide.2 (wp_scope_straight ((wpIn_wide (n := 5)).1 ?_))
  gi_wp2
  exact ⟨.int .u32 0, by simp [results, Try.results35, go_sem], rfl, ((Below.refl _ _).alloc (Nat.le_refl _) _).alloc (by simp) _⟩
theorem smap_nil (n : Int) (w : World) : Calls Try.prog 19 #[.pointer none, .int .u32 n] w fun e w' => e = .returned (.int .u32 0) ∧ Later w w' := by
  go_enter Try.func19, Try.ntmps19
  go_wp2_with fail
  refine (across_nil n _ w).mono ?_
  rintro e w1 ⟨rfl, l1⟩
  go_wp2_with fail
  go_ret
  exact ⟨rfl, l1⟩
theorem sunmap_nil (n : Int) (w : World) : Calls Try.prog 18 #[.pointer none, .int .u32 n] w fun e w' => e = .returned (.int .u32 0) ∧ Later w w' := by
  go_enter Try.func18, Try.ntmps18
  go_wp2_with fail
  refine (across_nil n _ w).mono ?_
  rintro e w1 ⟨rfl, l1⟩
  go_wp2_with fail
  go_ret
  exact ⟨rfl, l1⟩

theorem snew_any (w : World) : Calls Try.prog 12 #[] w fun e w' => e = .returned (.pointer (some ⟨w.heap.size, 0, none⟩)) ∧ Later w w' ∧ SL 57 w.heap.size w' w.heap.size (.slice none 0 0) [] := by
  have la : Later w (w.alloc (.cells #[.slice none 0 0] 57)) := (Below.refl _ _).alloc (Nat.le_refl _) _
  have hn := heap_alloc_new w (.cells #[.slice none 0 0] 57)
  go_enter Try.func12, Try.ntmps12
  go_wp2_with fail
  go_ret
  exact ⟨rfl, la, Nat.le_refl _, hn, rfl, .inl ⟨rfl, rfl⟩⟩
theorem slen_any (base b : Nat) (v : Value) (l : List Pa) (w : World) (hT : SL 57 base w b v l) : Calls Try.prog 15 #[.pointer (some ⟨b, 0, none⟩)] w fun e w' => e = .returned (.int .i64 (l.length : Int)) ∧ w' = w := by
  have k0 := block_cell hT.2.1
  obtain ⟨av, cv, rfl, _, _⟩ := (ownP_rd hT.2.2).slice
  go_enter Try.func15, Try.ntmps15
  go_wp2_with fail
  go_ret
  exact ⟨rfl, rfl⟩
theorem slen_nil (w : World) : Calls Try.prog 15 #[.pointer none] w fun e w' => e = .returned (.int .i64 0) ∧ w' = w := by
  go_enter Try.func15, Try.ntmps15
  go_wp2_with fail
  go_ret
  exact ⟨rfl, rfl⟩

def okN (n : Int) : Bool := decide (1 ≤ n) && decide (n ≤ 128)
theorem mayBe_any (n : Int) (w : World) : Calls Try.prog 30 #[.int .i64 n] w fun e w' => e = .returned (.bool (okN n)) ∧ w' = w := by
  unfold okN
  go_enter Try.func30, Try.ntmps30
  by_cases h : 1 ≤ n
  · go_wp2_with fail
    go_ret
    exact ⟨by simp [h], rfl⟩
  · go_wp2_with fail
    go_ret
    exact ⟨by first | (simp [h]; done) | (simp [h]; omega), rfl⟩

/-- The last part. -/
def lstP (l : List Pa) : Pa := l.getLast?.getD zPa
def pssd (l : List Pa) (s : Int) : Bool := !l.isEmpty && decide (ahd s (lstP l).we < 0)
def shf (l : List Pa) : Int := if l.isEmpty then 0 else ((lstP l).ie - (lstP l).we) % 4294967296
theorem lstP_at {l : List Pa} (h : 0 < l.length) : lstP l = l[l.length - 1]'(by omega) := by
  unfold lstP
  rw [List.getLast?_eq_getElem?, List.getElem?_eq_getElem (by omega)]
  rfl

set_option maxHeartbeats 2000000 in
theorem passed_any (base b : Nat) (v : Value) (l : List Pa) (s : Int) (w : World) (hT : SL 57 base w b v l) (hl : l.length ≤ 1000) :
    Calls Try.prog 31 #[.pointer (some ⟨b, 0, none⟩), .int .u32 s] w fun e w' => e = .returned (.bool (pssd l s)) ∧ w' = w := by
  have k0 := block_cell hT.2.1
  have hli : (l.length : Int) ≤ 1000 := by omega
  obtain ⟨av, cv, rfl, _, _⟩ := (ownP_rd hT.2.2).slice
  have hcase : l = [] ∨ 0 < l.length := by cases l <;> simp
  rcases hcase with rfl | hpos
  · go_enter Try.func31, Try.ntmps31
    go_wp2_with fail
    go_ret
    exact ⟨rfl, rfl⟩
  · have hpos' : (0 : Int) < l.length := by omega
    obtain ⟨g, off, cp, e, _, _, hgn, hcs⟩ := (ownP_rd hT.2.2).cells hpos
    simp at e
    obtain ⟨rfl, rfl⟩ := e
    have c1 := hcs (l.length - 1) (by omega) 1 (by omega)
    have hv : pssd l s = decide (ahd s (l[l.length - 1]'(by omega)).we < 0) := by
      unfold pssd
      rw [lstP_at hpos]
      cases l with
      | nil => simp at hpos
      | cons a t => simp
    have HV := hide hv
    clear hcs hv
    simp only [pac, List.getElem?_cons_zero, List.getElem?_cons_succ] at c1
    generalize (l[l.length - 1]'(by omega)).we = q at *
    have HA := hide (ahead_any s q w)
    generalize ahd s q = d at *
    obtain ⟨m, hm⟩ : ∃ m : Nat, l.length = m + 1 := ⟨l.length - 1, by omega⟩
    rw [hm] at c1 k0 hli hpos'
    simp only [Nat.add_sub_cancel] at c1
    clear hm hpos hT
    have hli' : (m : Int) ≤ 1000 := by omega
    go_enter Try.func31, Try.ntmps31
    go_wp2_with fail
    refine HA.out.mono ?_
    rintro e w1 ⟨rfl, rfl⟩
    go_wp2_with fail
    go_ret
    exact ⟨by rw [HV.out]; rfl, rfl⟩
set_option maxHeartbeats 2000000 in
theorem shift_any (base b : Nat) (v : Value) (l : List Pa) (w : World) (hT : SL 57 base w b v l) (hl : l.length ≤ 1000) :
    Calls Try.prog 32 #[.pointer (some ⟨b, 0, none⟩)] w fun e w' => e = .returned (.int .u32 (shf l)) ∧ Later w w' := by
  have k0 := block_cell hT.2.1
  have hli : (l.length : Int) ≤ 1000 := by omega
  obtain ⟨av, cv, rfl, _, _⟩ := (ownP_rd hT.2.2).slice
  have hcase : l = [] ∨ 0 < l.length := by cases l <;> simp
  rcases hcase with rfl | hpos
  · go_enter Try.func32, Try.ntmps32
    go_wp2_with fail
    go_ret
    exact ⟨rfl, Later.refl _⟩
  · have hpos' : (0 : Int) < l.length := by omega
    obtain ⟨g, off, cp, e, _, _, hgn, hcs⟩ := (ownP_rd hT.2.2).cells hpos
    simp at e
    obtain ⟨rfl, rfl⟩ := e
    have c1 := hcs (l.length - 1) (by omega) 1 (by omega)
    have c3 := hcs (l.length - 1) (by omega) 3 (by omega)
    have hv : shf l = ((l[l.length - 1]'(by omega)).ie - (l[l.length - 1]'(by omega)).we) % 4294967296 := by
      unfold shf
      rw [lstP_at hpos]
      cases l with
      | nil => simp at hpos
      | cons a t => simp
    have HV := hide hv
    clear hcs hv
    simp only [pac, List.getElem?_cons_zero, List.getElem?_cons_succ] at c1 c3
    generalize (l[l.length - 1]'(by omega)).we = q at *
    generalize (l[l.length - 1]'(by omega)).ie = r at *
    obtain ⟨m, hm⟩ : ∃ m : Nat, l.length = m + 1 := ⟨l.length - 1, by omega⟩
    rw [hm] at c1 c3 k0 hli hpos'
    simp only [Nat.add_sub_cancel] at c1 c3
    clear hm hpos hT
    have hli' : (m : Int) ≤ 1000 := by omega
    go_enter Try.func32, Try.ntmps32
    go_upto_region 4 with fail
    go_quiet (fail)
    go_wp2_with fail
    go_ret
    exact ⟨by rw [HV.out]; first | rfl | simp, below_draw (Later.refl _) _⟩
end Go.Proofs.Ytaaanmjmgnpcgaa
