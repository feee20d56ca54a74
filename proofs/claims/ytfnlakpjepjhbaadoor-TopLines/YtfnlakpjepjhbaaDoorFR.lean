/- Package ftp: Replace. -/
import Derived.Test.YtfnlakpjepjhbaaDoorCt
import Derived.Test.YtfnlakpjepjhbaaDoorVS
namespace Go.Proofs.YtfnlakpjepjhbaaDoor
open Go.RowKit Go.Shelf
set_option maxRecDepth 100000
set_option linter.unusedVariables false
set_option linter.unusedSimpArgs false

/-- A line with other bytes in place of some. -/
def rpl (st en : Int) (zs ts : List Int) : List Int := if st < 0 ∨ st > en ∨ en > zs.length then zs else zs.take st.toNat ++ (ts ++ zs.drop en.toNat)
theorem later_allocR (w : World) (o : Obj) : Later w (w.alloc o) := (Below.refl _ _).alloc (Nat.le_refl _) _

set_option maxHeartbeats 4000000 in
theorem replace_any (k st en ad po : Int) (sv tv : Value) (zs ts : List Int) (w : World) (hI : Rd w.heap.size w sv zs) (hJ : Rd w.heap.size w tv ts) (hl : zs.length + ts.length ≤ 140737488355328)
    (hs : -9223372036854775808 ≤ st ∧ st ≤ 9223372036854775807) (he : -9223372036854775808 ≤ en ∧ en ≤ 9223372036854775807) :
    Calls Tryd.prog 6 #[sv, .agg #[.int .i64 k, .int .i64 st, .int .i64 en, .int .u32 ad, .int .u16 po], tv] w fun e w' => ∃ x c, e = .returned (.slice x (rpl st en zs ts).length c) ∧ Ow w.heap.size w' (.slice x (rpl st en zs ts).length c) (rpl st en zs ts) ∧ Below w.heap.size w w' := by
  obtain ⟨av, cv, rfl, hlv, hmv⟩ := hI.slice
  obtain ⟨at', ct, rfl, hlt, hmt⟩ := hJ.slice
  have l1 := later_allocR w (.cells #[.int .i64 k, .int .i64 st, .int .i64 en, .int .u32 ad, .int .u16 po] 31)
  have F1 := hide (heap_alloc_new w (.cells #[.int .i64 k, .int .i64 st, .int .i64 en, .int .u32 ad, .int .u16 po] 31))
  go_enter Tryd.func6, Tryd.ntmps6
  go_upto_region 1 with fail
  generalize w.alloc (.cells #[.int .i64 k, .int .i64 st, .int .i64 en, .int .u32 ad, .int .u16 po] 31) = w1 at *
  have hI1 := hI.later l1
  have hJ1 := hJ.later l1
  have kF := block_cell F1.out
  by_cases hbad : st < 0 ∨ st > en ∨ en > zs.length
  · have HR : Hid (rpl st en zs ts = zs) := by show _ = _; unfold rpl; rw [if_pos hbad]
    have HC := hide (cloneb_any _ zs w1 (by omega) hI1)
    have fin : ∀ (e : Ending) (w' : World), (∃ a8 c8, e = .returned (.slice a8 zs.length c8) ∧ Ow w1.heap.size w' (.slice a8 zs.length c8) zs ∧ Below w1.heap.size w1 w') → ∃ x c, e = .returned (.slice x (rpl st en zs ts).length c) ∧ Ow w.heap.size w' (.slice x (rpl st en zs ts).length c) (rpl st en zs ts) ∧ Below w.heap.size w w' := by
      rintro e w' ⟨a8, c8, rfl, hO, hb⟩
      rw [HR.out]
      exact ⟨a8, c8, rfl, hO.mono l1.size, l1.trans hb⟩
    by_cases c1 : st < 0
    · have t1 : decide (st < 0) = true := by simp [c1]
      go_wp2_with fail
      refine HC.out.mono ?_
      rintro e w2 ⟨a8, c8, rfl, hO, hb⟩
      go_wp2_with fail
      go_ret
      exact fin _ _ ⟨a8, c8, rfl, hO, hb⟩
    have t1 : decide (st < 0) = false := by simp [c1]
    by_cases c2 : st > en
    · have t2 : decide (en < st) = true := by simp [c2]
      go_wp2_with fail
      refine HC.out.mono ?_
      rintro e w2 ⟨a8, c8, rfl, hO, hb⟩
      go_wp2_with fail
      go_ret
      exact fin _ _ ⟨a8, c8, rfl, hO, hb⟩
    have t2 : decide (en < st) = false := by simp [c2]
    have c3 : (zs.length : Int) < en := by omega
    have t3 : decide ((zs.length : Int) < en) = true := by simp [c3]
    go_wp2_with fail
    refine HC.out.mono ?_
    rintro e w2 ⟨a8, c8, rfl, hO, hb⟩
    go_wp2_with fail
    go_ret
    exact fin _ _ ⟨a8, c8, rfl, hO, hb⟩
  · have HR : Hid (rpl st en zs ts = zs.take st.toNat ++ (ts ++ zs.drop en.toNat)) := by show _ = _; unfold rpl; rw [if_neg hbad]
    obtain ⟨n, rfl⟩ : ∃ n : Nat, st = (n : Int) := ⟨st.toNat, by omega⟩
    obtain ⟨m, rfl⟩ : ∃ m : Nat, en = (m : Int) := ⟨en.toNat, by omega⟩
    have hnm : n ≤ m := by omega
    have hmz : m ≤ zs.length := by omega
    rw [Int.toNat_natCast, Int.toNat_natCast] at HR
    have t1 : decide ((n : Int) < 0) = false := by simp
    have t2 : decide ((m : Int) < n) = false := by simp; omega
    have t3 : decide ((zs.length : Int) < m) = false := by simp; omega
    have hrl : (rpl n m zs ts).length ≤ 140737488355328 := by rw [HR.out, List.length_append, List.length_append, List.length_take, List.length_drop]; omega
    generalize hrz : rpl n m zs ts = rz at *
    have ER := hide hrz
    clear hrz
    clear hbad hs he
    go_upto_region 3 with fail
    clear t1 t2 t3 kF
    refine anyT_begin (R := Later) 12 rfl (by kernel_rfl) ?_
    have hdr : Later w1 w1.drew := Later.drew w1
    have F2 := hide ((hdr.block w.heap.size (Array.getElem?_eq_some_iff.1 F1.out).1).trans F1.out)
    have hI2 := hI1.later hdr
    have hJ2 := hJ1.later hdr
    have L2 := l1.trans hdr
    generalize w1.drew = w2 at *
    clear hI1 hJ1 hdr F1 l1
    have qF : ∀ v1, Later w2 v1 → ∀ i, v1.cell? ⟨w.heap.size, i, none⟩ = #[Value.int .i64 k, .int .i64 n, .int .i64 m, .int .u32 ad, .int .u16 po][i]? := fun v1 h => block_cell ((h.block w.heap.size (Array.getElem?_eq_some_iff.1 F2.out).1).trans F2.out)
    have hnc : n ≤ cv := by omega
    refine anyT_val Later.pre 0 rfl (by kernel_rfl) (by kernel_rfl) (by kernel_rfl) (fun _ _ _ _ h => h) rfl ?_; apply Exists.intro; refine ⟨fun v1 hv1 => ?_, ?_⟩; (· (go_simp; rfl)); simp only [Act.put, List.setIfInBounds_toArray, List.set_cons_zero, List.set_cons_succ]
    refine anyT_val Later.pre 1 rfl (by kernel_rfl) (by kernel_rfl) (by kernel_rfl) (fun _ _ _ _ h => h) rfl ?_; apply Exists.intro; refine ⟨fun v1 hv1 => ?_, ?_⟩; (· (go_simp; rfl)); simp only [Act.put, List.setIfInBounds_toArray, List.set_cons_zero, List.set_cons_succ]
    refine anyT_val Later.pre 2 rfl (by kernel_rfl) (by kernel_rfl) (by kernel_rfl) (fun _ _ _ _ h => h) rfl ?_; apply Exists.intro; refine ⟨fun v1 hv1 => ?_, ?_⟩; (· (go_simp; rfl)); simp only [Act.put, List.setIfInBounds_toArray, List.set_cons_zero, List.set_cons_succ]
    refine anyT_val Later.pre 3 rfl (by kernel_rfl) (by kernel_rfl) (by kernel_rfl) (fun _ _ _ _ h => h) rfl ?_; apply Exists.intro; refine ⟨fun v1 hv1 => ?_, ?_⟩; (· (go_simp; rfl)); simp only [Act.put, List.setIfInBounds_toArray, List.set_cons_zero, List.set_cons_succ]
    refine anyT_val Later.pre 4 rfl (by kernel_rfl) (by kernel_rfl) (by kernel_rfl) (fun _ _ _ _ h => h) rfl ?_; apply Exists.intro; refine ⟨fun v1 hv1 => ?_, ?_⟩; (· (go_simp; rfl)); simp only [Act.put, List.setIfInBounds_toArray, List.set_cons_zero, List.set_cons_succ]
    refine anyT_val Later.pre 5 rfl (by kernel_rfl) (by kernel_rfl) (by kernel_rfl) (fun _ _ _ _ h => h) rfl ?_; apply Exists.intro; refine ⟨fun v1 hv1 => ?_, ?_⟩; (· (go_simp; rfl)); simp only [Act.put, List.setIfInBounds_toArray, List.set_cons_zero, List.set_cons_succ]
    refine anyT_val Later.pre 6 rfl (by kernel_rfl) (by kernel_rfl) (by kernel_rfl) (fun _ _ _ _ h => h) rfl ?_; apply Exists.intro; refine ⟨fun v1 hv1 => ?_, ?_⟩; (· (go_simp; rfl)); simp only [Act.put, List.setIfInBounds_toArray, List.set_cons_zero, List.set_cons_succ]
    refine anyT_val Later.pre 7 rfl (by kernel_rfl) (by kernel_rfl) (by kernel_rfl) (fun _ _ _ _ h => h) rfl ?_; apply Exists.intro; refine ⟨fun v1 hv1 => ?_, ?_⟩; (· (go_simp; rfl)); simp only [Act.put, List.setIfInBounds_toArray, List.set_cons_zero, List.set_cons_succ]
    refine anyT_val Later.pre 8 rfl (by kernel_rfl) (by kernel_rfl) (by kernel_rfl) (fun _ _ _ _ h => h) rfl ?_; apply Exists.intro; refine ⟨fun v1 hv1 => ?_, ?_⟩; (· (go_simp; rfl)); simp only [Act.put, List.setIfInBounds_toArray, List.set_cons_zero, List.set_cons_succ]
    clear qF
    have R9 := hide (show Rd w2.heap.size w2 (.slice (if cv = m then av else Option.map (fun x => x.add m) av) (zs.length - m) (cv - m)) (zs.drop m) from by simpa [sliced] using Rd.drop m hmz hI2)
    have R8 := hide (hI2.take n (by omega))
    have R7 := hide hJ2
    generalize (if cv = m then av else Option.map (fun x => x.add m) av) = a9 at *
    generalize zs.length - m = n9 at *
    generalize cv - m = c9 at *
    refine anyT_one 9 rfl (by kernel_rfl) rfl ?_
    unfold Oper.wp
    go_simp
    have l3 := later_allocR w2 (.cells #[.slice av n cv, .slice at' ts.length ct, .slice a9 n9 c9] 26)
    have B3 := heap_alloc_new w2 (.cells #[.slice av n cv, .slice at' ts.length ct, .slice a9 n9 c9] 26)
    refine ⟨l3, ?_⟩
    generalize w2.alloc (.cells #[.slice av n cv, .slice at' ts.length ct, .slice a9 n9 c9] 26) = w3 at *
    have C3 := block_cell B3
    have hfl : ([zs.take n, ts, zs.drop m] : List (List Int)).flatten = rz := by rw [HR.out]; simp
    have H4 := concat_any w2.heap.size 3 [.slice av n cv, .slice at' ts.length ct, .slice a9 n9 c9] [zs.take n, ts, zs.drop m] w3 rfl (by simp) (by simp) (by rw [hfl]; exact hrl)
      (fun j hj => by
        have hj3 : j < 3 := hj
        have : j = 0 ∨ j = 1 ∨ j = 2 := by omega
        rcases this with rfl | rfl | rfl <;> exact C3 _)
      (fun j hj => by
        have hj3 : j < 3 := hj
        have : j = 0 ∨ j = 1 ∨ j = 2 := by omega
        rcases this with rfl | rfl | rfl
        · exact R8.out.later l3
        · exact R7.out.later l3
        · exact R9.out.later l3)
    rw [hfl] at H4
    have HL4 := hide H4
    clear H4 C3 B3 hfl
    generalize w2.heap.size = gb at *
    refine anyT_one 10 rfl (by kernel_rfl) rfl ?_
    refine wp_enter 22 #[.slice (some ⟨gb, 0, none⟩) 3 3] (by go_simp) (HL4.out.mono ?_)
    rintro e w4 ⟨v4, rfl, hown, b4⟩
    have l4 : Later w3 w4 := b4
    have O4 := hide (Ow.of_row hown)
    clear hown
    refine ⟨l4, ?_⟩
    simp only [Act.put, List.setIfInBounds_toArray, List.set_cons_zero, List.set_cons_succ]
    refine anyT_val Later.pre 11 rfl (by kernel_rfl) (by kernel_rfl) (by kernel_rfl) (fun _ _ _ _ h => h) rfl ?_; apply Exists.intro; refine ⟨fun v1 hv1 => ?_, ?_⟩; (· (go_simp; rfl)); simp only [Act.put, List.setIfInBounds_toArray, List.set_cons_zero, List.set_cons_succ]
    refine anyT_done (by kernel_rfl) ?_
    obtain ⟨x, c, rfl, _, _⟩ := O4.out.slice
    go_wp2_with fail
    go_ret
    have L3 := L2.trans l3
    rw [ER.out]
    exact ⟨x, c, rfl, O4.out.mono L3.size, L3.trans l4⟩
end Go.Proofs.YtfnlakpjepjhbaaDoor
