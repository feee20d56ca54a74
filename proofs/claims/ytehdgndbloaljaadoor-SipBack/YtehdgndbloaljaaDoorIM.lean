/- Package sip: the lines of a text, one after the other. -/
import Derived.Test.YtehdgndbloaljaaDoorIL
import Derived.Test.YtehdgndbloaljaaDoorRz
import Derived.Test.YtehdgndbloaljaaDoorRn
namespace Go.Proofs.YtehdgndbloaljaaDoor
open Go.RowKit Go.Shelf
set_option maxRecDepth 100000
attribute [local go_sem] Oper.semAt_some
set_option linter.unusedVariables false
set_option linter.unusedSimpArgs false

def crB : ByteArray := ⟨#[13, 10]⟩
theorem ba_len (s : ByteArray) : s.size = s.data.toList.length := by rw [Array.length_toList]; rfl
theorem ba_ext {s t : ByteArray} (h : s.data.toList = t.data.toList) : s = t := by
  cases s; cases t; simp only at h; congr 1; exact Array.toList_inj.1 h
theorem cutA_data (s p : ByteArray) : (cutA s p).data.toList = (Lib.cut s.data.toList p.data.toList).1 := by unfold cutA; simp
theorem cutZ_data (s p : ByteArray) : (cutZ s p).data.toList = (Lib.cut s.data.toList p.data.toList).2.1 := by unfold cutZ; simp
/-- What cutting tells: the parts, and nothing of the kind ahead. -/
theorem cut_spec (s p : ByteArray) : (cutF s p = true ∧ s.data.toList = (cutA s p).data.toList ++ (p.data.toList ++ (cutZ s p).data.toList) ∧ Lib.NoOcc s.data.toList p.data.toList (cutA s p).size) ∨
    (cutF s p = false ∧ cutA s p = s ∧ cutZ s p = ⟨#[]⟩ ∧ ∀ j, j ≤ s.size → Lib.occAt s.data.toList p.data.toList j = false) := by
  rw [ba_len, ba_len, cutA_data, cutZ_data]
  have h3 : cutF s p = (Lib.cut s.data.toList p.data.toList).2.2 := rfl
  rw [h3]
  rcases Lib.index_spec s.data.toList p.data.toList with ⟨h1, h2⟩ | ⟨i, h1, h2, ho, hn⟩
  · refine .inr ?_
    have hc : Lib.cut s.data.toList p.data.toList = (s.data.toList, [], false) := by unfold Lib.cut; rw [if_neg (by omega)]
    refine ⟨by rw [hc], ba_ext (by rw [cutA_data, hc]), ba_ext (by rw [cutZ_data, hc]), h2⟩
  · refine .inl ?_
    have hc : Lib.cut s.data.toList p.data.toList = (s.data.toList.take i, s.data.toList.drop (i + p.data.toList.length), true) := by unfold Lib.cut; rw [if_pos (by omega), h1]; rfl
    rw [hc]
    refine ⟨rfl, ?_, by simp only [List.length_take]; rw [Nat.min_eq_left h2]; exact hn⟩
    simp only
    unfold Lib.occAt at ho
    obtain ⟨t, ht⟩ := List.isPrefixOf_iff_prefix.1 ho
    have : s.data.toList.drop (i + p.data.toList.length) = t := by
      rw [← List.drop_drop, ← ht, List.drop_left]
    rw [this, ht, List.take_append_drop]
/-- What stands between the two parts. -/
def betw (s p : ByteArray) : ByteArray := s.extract (cutA s p).size (s.size - (cutZ s p).size)
theorem cut_sizes (s p : ByteArray) : (cutA s p).size + (cutZ s p).size ≤ s.size ∧ (s.size ≠ 0 → p.size ≠ 0 → (cutZ s p).size < s.size) := by
  rcases cut_spec s p with ⟨_, h, _⟩ | ⟨_, h1, h2, _⟩
  · have := congrArg List.length h
    rw [List.length_append, List.length_append, ← ba_len, ← ba_len, ← ba_len, ← ba_len] at this
    omega
  · rw [h1, h2]
    have : ByteArray.size ⟨#[]⟩ = 0 := rfl
    omega
/-- A text's lines, with what ends each. -/
def lnsF : Nat → ByteArray → List (ByteArray × ByteArray)
  | 0, _ => []
  | n + 1, s => if s.size = 0 then [] else (cutA s crB, betw s crB) :: lnsF n (cutZ s crB)
def lnsB (s : ByteArray) : List (ByteArray × ByteArray) := lnsF s.size s
theorem lnsF_fuel : ∀ (n m : Nat) (s : ByteArray), s.size ≤ n → s.size ≤ m → lnsF n s = lnsF m s
  | 0, 0, s, _, _ => rfl
  | 0, m + 1, s, h, _ => by unfold lnsF; rw [if_pos (by omega)]
  | n + 1, 0, s, _, h => by unfold lnsF; rw [if_pos (by omega)]
  | n + 1, m + 1, s, h1, h2 => by
    unfold lnsF
    split
    · rfl
    · have := (cut_sizes s crB).2 (by assumption) (by decide)
      rw [lnsF_fuel n m (cutZ s crB) (by omega) (by omega)]
theorem lnsB_nil {s : ByteArray} (h : s.size = 0) : lnsB s = [] := by unfold lnsB; rw [h]; rfl
theorem lnsB_cons {s : ByteArray} (h : s.size ≠ 0) : lnsB s = (cutA s crB, betw s crB) :: lnsB (cutZ s crB) := by
  have hz := (cut_sizes s crB).2 h (by decide)
  unfold lnsB
  obtain ⟨n, hn⟩ : ∃ n, s.size = n + 1 := ⟨s.size - 1, by omega⟩
  rw [hn]
  have e : lnsF (n + 1) s = (cutA s crB, betw s crB) :: lnsF n (cutZ s crB) := by
    show (if s.size = 0 then [] else _) = _
    rw [if_neg h]
  rw [e]
  congr 1
  exact lnsF_fuel n (cutZ s crB).size (cutZ s crB) (by omega) (Nat.le_refl _)

theorem lines_in (n : Nat) (s : ByteArray) (w : World) :
    CallsIn Fence.wide n Tryd.prog 28 #[.string s] w fun e w' => e = .returned (.func (.func 46) #[] #[.pointer (some ⟨w.heap.size, 0, none⟩)]) ∧ w' = w.alloc (.cells #[.string s] 9) := by
  refine callsIn_of_wp Tryd.func28 rfl trivial ?_ rfl
  simp only [Tryd.ntmps28, List.size_toArray, List.length_cons, List.length_nil, Nat.reduceAdd, Nat.reduceSub, Array.replicate_succ, Array.replicate_zero, List.push_toArray, List.append_toArray, List.nil_append, List.cons_append]
  gi_wp2
  go_ret
  exact ⟨rfl, rfl⟩

def encL (r : ByteArray × ByteArray) : Array Value := #[.string r.1, .string r.2]
def XL (l : List (ByteArray × ByteArray)) (pre : List (ByteArray × ByteArray)) (x : ByteArray × ByteArray) (_V : World) : Prop := ∃ rest, pre ++ x :: rest = l

set_option maxRecDepth 100000 in
set_option maxHeartbeats 4000000 in
theorem lines1_in (n : Nat) (hn : 1 ≤ n) (l B : Nat) (s : ByteArray) (w0 : World) (hM : TabM w0) (hs : s.size ≤ 1000000) (J Jx : List (ByteArray × ByteArray) → World → Prop) (hJ : ∀ s A B, J s A → Later A B → J s B)
    (hY : ∀ pre x V, J pre V → XL (lnsB s) pre x V → YieldAt Fence.wide (n - 1) Tryd.prog l (encL x) V fun e V' => (e = .returned (.bool true) ∧ J (pre ++ [x]) V' ∧ Below w0.heap.size V V') ∨ (e = .returned (.bool false) ∧ Jx (pre ++ [x]) V'))
    (W : World) (hB : W.cell? ⟨B, 0, none⟩ = some (.string s)) (hW : Later w0 W) (h0 : J [] W) :
    CallsIn Fence.wide n Tryd.prog 46 #[.func (.yield l) #[] #[], .pointer (some ⟨B, 0, none⟩)] W fun e W' => (∃ v, e = .returned v) ∧ ((∃ xs, xs = lnsB s ∧ J xs W') ∨ (∃ pre, (∃ rest, pre ++ rest = lnsB s) ∧ Jx pre W')) := by
  refine callsIn_of_wp Tryd.func46 rfl trivial ?_ rfl
  simp only [Tryd.ntmps46, List.size_toArray, List.length_cons, List.length_nil, Nat.reduceAdd, Nat.reduceSub, Array.replicate_succ, Array.replicate_zero, List.push_toArray, List.append_toArray, List.nil_append, List.cons_append]
  gi_wp2
  clear hB
  gi_loopw [3] (fun i wx => ∃ (pre : List (ByteArray × ByteArray)) (t : ByteArray), i = .string t ∧ t.size ≤ 1000000 ∧ Hid (pre ++ lnsB t = lnsB s) ∧ J pre wx ∧ Later w0 wx) (fun i _ => match i with | .string t => t.size | _ => 0)
  case atStart => exact ⟨[], s, rfl, hs, rfl, h0, hW⟩
  case round =>
    obtain ⟨pre, t, rfl, ht, hpre, hJk, hLk⟩ := hrel
    by_cases hz : t.size = 0
    · have hp2 := hpre.out
      rw [lnsB_nil hz, List.append_nil] at hp2
      have HP2 := hide hp2
      obtain rfl := str_empty t hz
      clear hp2 hpre
      gi_wp2
      go_end0
      exact ⟨⟨_, rfl⟩, .inl ⟨_, HP2.out, hJk⟩⟩
    · have he := str_ne hz
      have hc := cut_sizes t crB
      have hp2 := hpre.out
      rw [lnsB_cons hz] at hp2
      have HP2 := hide hp2
      have HCT := hide ((callsIn_wide (n := n - 1)).2 (cut_any t crB wr (hM.later hLk) ht))
      have hc1 := hc.1
      have hc2 := hc.2 hz (by decide)
      have HBE : Hid (betw t crB = t.extract (cutA t crB).size (t.size - (cutZ t crB).size)) := rfl
      clear hpre hp2 hc hz
      generalize betw t crB = bt at *
      generalize cutA t crB = ca at *
      generalize cutZ t crB = cz at *
      generalize cutF t crB = cf at *
      have hsz' : (t.size : Int) ≤ 1000000 := by omega
      gi_wp2
      refine ⟨trivial, ?_⟩
      refine HCT.out.mono ?_
      rintro e w3 ⟨rfl, l3⟩
      obtain ⟨fn, tmps, assign, body, hy, hRr⟩ := hY _ (ca, bt) _ (hJ _ _ _ hJk l3) ⟨_, HP2.out⟩
      dsimp only [encL] at hy
      have HRR := hide hRr
      rw [HBE.out] at hy
      have h1 : (ca.size : Int) ≤ (t.size : Int) - (cz.size : Int) := by omega
      have h2 : (t.size : Int) - (cz.size : Int) = ((t.size - cz.size : Nat) : Int) := by omega
      have h3 : t.size - cz.size ≤ t.size := by omega
      have h4 : ca.size ≤ t.size - cz.size := by omega
      clear HCT hRr
      gi_wp2
      refine HRR.out.mono ?_
      rintro e W3 (⟨rfl, hJ3, hk3⟩ | ⟨rfl, hJx3⟩)
      · gi_wp2
        go_roundw
        case rel => exact ⟨pre ++ [(ca, bt)], cz, rfl, by omega, by (show _ = _; rw [List.append_assoc]; exact HP2.out), hJ3, Below.trans (hLk.trans l3) hk3⟩
        case measure => (show cz.size < t.size); exact hc2
      · gi_wp2
        refine bodyPost_ret (results_none rfl _ _ _) rfl ?_
        exact ⟨⟨_, rfl⟩, .inr ⟨_, ⟨lnsB cz, by rw [List.append_assoc]; exact HP2.out⟩, hJx3⟩⟩

theorem lines_gen (n : Nat) (hn : 1 ≤ n) (B : Nat) (s : ByteArray) (w0 w : World) (hM : TabM w0) (hs : s.size ≤ 1000000) (hw : Later w0 w) (hBl : B < w.heap.size) (hB : w.cell? ⟨B, 0, none⟩ = some (.string s)) :
    GenX Fence.wide n Tryd.prog 46 #[.pointer (some ⟨B, 0, none⟩)] encL (Below w0.heap.size) (XL (lnsB s)) (fun xs => xs = lnsB s) (fun pre => ∃ rest, pre ++ rest = lnsB s) w := fun l J Jx W hW hJ hY h0 =>
  lines1_in n hn l B s w0 hM hs J Jx hJ hY W ((hW.cell (p := ⟨B, 0, none⟩) hBl).trans hB) (hw.trans hW) h0
end Go.Proofs.YtehdgndbloaljaaDoor
