/- Package rules: all rules, the first that is wanted. -/
import Derived.Test.YtgjemeibaghfaabYA
namespace Go.Proofs.Ytgjemeibaghfaab
open Go.RowKit Go.Shelf
set_option maxRecDepth 100000
attribute [local go_sem] Oper.semAt_some
set_option linter.unusedVariables false
set_option linter.unusedSimpArgs false

def encU (r : Ru) : Array Value := #[.agg (ruc r).toArray]
def XU (l : List Ru) (pre : List Ru) (x : Ru) (_V : World) : Prop := ∃ rest, pre ++ x :: rest = l

theorem allU_in (n : Nat) (p : Option Addr) (w : World) :
    CallsIn Fence.wide n Try.prog 15 #[.pointer p] w fun e w' => e = .returned (.func (.func 24) #[] #[.pointer (some ⟨w.heap.size, 0, none⟩)]) ∧ w' = w.alloc (.cells #[.pointer p] 22) := by
  refine callsIn_of_wp Try.func15 rfl trivial ?_ rfl
  simp only [Try.ntmps15, List.size_toArray, List.length_cons, List.length_nil, Nat.reduceAdd, Nat.reduceSub, Array.replicate_succ, Array.replicate_zero, List.push_toArray, List.append_toArray, List.nil_append, List.cons_append]
  gi_wp2
  go_ret
  exact ⟨rfl, rfl⟩

set_option maxRecDepth 100000 in
set_option maxHeartbeats 4000000 in
theorem allU1_in (n : Nat) (hn : 1 ≤ n) (l B b n₀ : Nat) (v : Value) (ls : List Ru) (J Jx : List Ru → World → Prop)
    (hJ : ∀ s A B, J s A → Later A B → J s B)
    (hY : ∀ pre x V, J pre V → XU ls pre x V → YieldAt Fence.wide (n - 1) Try.prog l (encU x) V fun e V' => (e = .returned (.bool true) ∧ J (pre ++ [x]) V' ∧ Below n₀ V V') ∨ (e = .returned (.bool false) ∧ Jx (pre ++ [x]) V'))
    (W : World) (hB : W.cell? ⟨B, 0, none⟩ = some (.pointer (some ⟨b, 0, none⟩))) (hn0 : n₀ ≤ W.heap.size) (hc : W.cell? ⟨b, 0, none⟩ = some v) (hR : RdQ n₀ W v ls) (h0 : J [] W) :
    CallsIn Fence.wide n Try.prog 24 #[.func (.yield l) #[] #[], .pointer (some ⟨B, 0, none⟩)] W fun e W' => (∃ v, e = .returned v) ∧ ((∃ xs, xs = ls ∧ J xs W') ∨ (∃ pre, (∃ rest, pre ++ rest = ls) ∧ Jx pre W')) := by
  obtain ⟨sa, cap, rfl, hc1, hc2⟩ := hR.slice
  have HR := hide hR
  clear hR
  refine callsIn_of_wp Try.func24 rfl trivial ?_ rfl
  simp only [Try.ntmps24, List.size_toArray, List.length_cons, List.length_nil, Nat.reduceAdd, Nat.reduceSub, Array.replicate_succ, Array.replicate_zero, List.push_toArray, List.append_toArray, List.nil_append, List.cons_append]
  gi_wp2
  gi_loopw [12] (fun i wx => ∃ k : Nat, k ≤ ls.length ∧ i = .int .i64 (k : Int) ∧ J (ls.take k) wx ∧ Below n₀ W wx) (fun i _ => ls.length - (intOf i).toNat)
  case atStart => exact ⟨0, by omega, rfl, by rw [List.take_zero]; exact h0, Below.refl _ _⟩
  case round =>
    obtain ⟨k, hk, rfl, hJk, hbk⟩ := hrel
    by_cases hkl : k < ls.length
    · obtain ⟨g, off, cp, e, _, _, hgn, hcs⟩ := (HR.out.below hbk).cells (by omega)
      simp at e
      obtain ⟨rfl, rfl⟩ := e
      have c0 := hcs k hkl 0 (by omega)
      have c1 := hcs k hkl 1 (by omega)
      have c2 := hcs k hkl 2 (by omega)
      have c3 := hcs k hkl 3 (by omega)
      have c4 := hcs k hkl 4 (by omega)
      have c5 := hcs k hkl 5 (by omega)
      have c6 := hcs k hkl 6 (by omega)
      have c7 := hcs k hkl 7 (by omega)
      have hkl' : (k : Int) < ls.length := by omega
      have hat : ∃ rest, ls.take k ++ ls[k] :: rest = ls := ⟨ls.drop (k + 1), by rw [← List.drop_eq_getElem_cons hkl, List.take_append_drop]⟩
      have htk : ls.take (k + 1) = ls.take k ++ [ls[k]] := (List.take_append_getElem hkl).symm
      have htl : ∃ rest, ls.take k ++ [ls[k]] ++ rest = ls := ⟨ls.drop (k + 1), by rw [List.take_append_getElem hkl, List.take_append_drop]⟩
      clear hcs
      generalize hgo : ls[k] = r at *
      have HAT := hide hat
      have HTK := hide htk
      have HTL := hide htl
      clear hgo hat htk htl
      simp only [ruc, List.getElem?_cons_zero, List.getElem?_cons_succ, Nat.add_zero] at c0 c1 c2 c3 c4 c5 c6 c7
      have la : Later wr (wr.alloc (.cells #[.int .i64 r.kind, .int .u8 r.proto, .int .u32 r.net, .int .i64 r.bits, .int .u32 r.to, .int .u16 r.port, .int .u32 r.host, .int .u16 r.hp] 30)) := (Below.refl _ _).alloc (Nat.le_refl _) _
      obtain ⟨fn, tmps, assign, body, hy, hR⟩ := hY _ r _ (hJ _ _ _ hJk la) HAT.out
      dsimp only [encU, ruc] at hy
      have hwr := Nat.le_trans hn0 hbk.size
      gi_wp2
      refine hR.mono ?_
      rintro e W3 (⟨rfl, hJ3, hk3⟩ | ⟨rfl, hJx3⟩)
      · gi_wp2
        go_roundw
        case rel => exact ⟨k + 1, by omega, by go_num, by rw [HTK.out]; exact hJ3, hbk.trans ((la.mono hwr).trans hk3)⟩
        case measure => simp [intOf]; omega
      · gi_wp2
        refine bodyPost_ret (results_none rfl _ _ _) rfl ?_
        exact ⟨⟨_, rfl⟩, .inr ⟨_, HTL.out, hJx3⟩⟩
    · obtain rfl : k = ls.length := by omega
      gi_wp2
      go_end0
      exact ⟨⟨_, rfl⟩, .inl ⟨_, rfl, by rw [List.take_length] at hJk; exact hJk⟩⟩

theorem allU1_nil (n : Nat) (l B : Nat) (J Jx : List Ru → World → Prop) (W : World) (hB : W.cell? ⟨B, 0, none⟩ = some (.pointer none)) (h0 : J [] W) :
    CallsIn Fence.wide n Try.prog 24 #[.func (.yield l) #[] #[], .pointer (some ⟨B, 0, none⟩)] W fun e W' => (∃ v, e = .returned v) ∧ ((∃ xs, xs = [] ∧ J xs W') ∨ (∃ pre, (∃ rest, pre ++ rest = []) ∧ Jx pre W')) := by
  refine callsIn_of_wp Try.func24 rfl trivial ?_ rfl
  simp only [Try.ntmps24, List.size_toArray, List.length_cons, List.length_nil, Nat.reduceAdd, Nat.reduceSub, Array.replicate_succ, Array.replicate_zero, List.push_toArray, List.append_toArray, List.nil_append, List.cons_append]
  gi_wp2
  refine bodyPost_ret (results_none rfl _ _ _) rfl ?_
  exact ⟨⟨_, rfl⟩, .inl ⟨_, rfl, h0⟩⟩

/-- The rules that a pointer leads to: none of nil. -/
def PL (base : Nat) (W : World) (p : Option Addr) (l : List Ru) : Prop := (p = none ∧ l = []) ∨ ∃ b v, p = some ⟨b, 0, none⟩ ∧ RL 42 base W b v l
theorem PL.later {base : Nat} {A B : World} {p : Option Addr} {l : List Ru} (h : PL base A p l) (k : Later A B) : PL base B p l := h.imp id fun ⟨b, v, e, h⟩ => ⟨b, v, e, h.later k⟩

theorem allU_gen (n : Nat) (hn : 1 ≤ n) (B base : Nat) (p : Option Addr) (ls : List Ru) (w0 w : World) (hT : PL base w0 p ls) (hw : Later w0 w) (hBl : B < w.heap.size) (hB : w.cell? ⟨B, 0, none⟩ = some (.pointer p)) :
    GenX Fence.wide n Try.prog 24 #[.pointer (some ⟨B, 0, none⟩)] encU (Below w0.heap.size) (XU ls) (fun xs => xs = ls) (fun pre => ∃ rest, pre ++ rest = ls) w := fun l J Jx W hW hJ hY h0 => by
  have hwW : Later w0 W := hw.trans hW
  have hBW := (hW.cell (p := ⟨B, 0, none⟩) hBl).trans hB
  rcases hT with ⟨rfl, rfl⟩ | ⟨b, v, rfl, hT⟩
  · exact allU1_nil n l B J Jx W hBW h0
  · exact allU1_in n hn l B b w0.heap.size v ls J Jx hJ hY W hBW hwW.size ((block_cell (hT.later hwW).2.1 0).trans rfl) ((ownU_rd hT.2.2).below hwW) h0
end Go.Proofs.Ytgjemeibaghfaab
