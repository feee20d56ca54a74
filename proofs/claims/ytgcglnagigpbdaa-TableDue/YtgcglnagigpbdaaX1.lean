/- Several texts in one. -/
import Derived.Test.YtgcglnagigpbdaaX2
import Derived.Test.YtgcglnagigpbdaaBM
import Derived.Test.YtgcglnagigpbdaaKK
import Derived.Laws.Closers25b
import Derived.Test.YtgcglnagigpbdaaRu
import Derived.Test.YtgcglnagigpbdaaRv
import Derived.Test.YtgcglnagigpbdaaBH
import Derived.Test.YtgcglnagigpbdaaBK
import Derived.ProofKit
import Derived.OpenShut
import Derived.Lib.SmallJoins
/- Deeds on both tables: the law's play. -/
namespace Go.Proofs.Ytgcglnagigpbdaa
open Go.RowKit Go.Shelf
set_option maxRecDepth 100000
set_option linter.unusedVariables false
set_option linter.unusedSimpArgs false

set_option maxHeartbeats 4000000 in
theorem rnew6_any (n : Int) (w : World) (h1 : 1 ≤ n) (h2 : n ≤ 4096) : Calls Try.prog 25 #[.int .i64 n] w fun e w' => e = .returned (.pointer (some ⟨w.heap.size, 0, none⟩)) ∧ Below w.heap.size w w' ∧ DT w.heap.size w' w.heap.size (.slice none 0 0) n 0 [] := by
  have la : Later w (w.alloc (.cells #[.slice none 0 0, .int .i64 n, .int .i64 0] 81)) := (Below.refl _ _).alloc (Nat.le_refl _) _
  have hn := heap_alloc_new w (.cells #[.slice none 0 0, .int .i64 n, .int .i64 0] 81)
  go_enter Try.func25, Try.ntmps25
  go_wp2_with fail
  go_ret
  exact ⟨rfl, la, Nat.le_refl _, hn, World.ownsRow_nil _ _ _ _⟩

set_option maxHeartbeats 8000000 in
theorem play6_any (n₀ : Nat) (m : Int) (sv : Value) (ds : List De) (w : World) (hm : 0 ≤ m ∧ m ≤ 255) (hI : RdE n₀ w sv ds) (hd : ∀ d ∈ ds, wfE d) (hn : n₀ ≤ w.heap.size) :
    Calls Try.prog 9 #[.int .u8 m, sv] w fun e w' => Later w w' ∧ ∃ a b, e = .returned (.tuple #[.pointer (some ⟨a, 0, none⟩), .pointer (some ⟨b, 0, none⟩), .bool true]) ∧ PT w.heap.size w' a b (m % 8 + 1) 100 := by
  obtain ⟨aa, ca, rfl, ha1, ha2⟩ := hI.slice
  have HI := hide hI
  clear hI
  have hr1 : 1 ≤ m % 8 + 1 := by omega
  have hr2 : m % 8 + 1 ≤ 8 := by omega
  have hmt : Int.tmod m 8 = m % 8 := Int.tmod_eq_emod_of_nonneg hm.1
  go_enter Try.func9, Try.ntmps9
  go_wp2_with fail
  refine (new_yes (m % 8 + 1) w hr1 (by omega)).mono ?_
  rintro e w1 ⟨rfl, l1, hA⟩
  generalize hwa : w.heap.size = a at *
  go_wp2_with fail
  refine (rnew6_any (m % 8 + 1) w1 hr1 (by omega)).mono ?_
  rintro e w2 ⟨rfl, l2, hB⟩
  have hA2 := TB.later hA l2
  have hs1 := l1.size
  have hPQ0 : PT a w2 a w1.heap.size (m % 8 + 1) 0 := ⟨_, _, [], 0, hA2, ⟨by omega, hB.2.1, World.ownsRow_nil _ _ _ _⟩, Rel.empty, fun _ => Nat.le_refl _, Nat.le_refl _, by omega, by omega, ⟨by simp; omega, fun r hr => by cases hr⟩, Wft.nil _, fun r hr => by cases hr⟩
  generalize w1.heap.size = b at *
  have L2 : Below a w w2 := l1.trans (l2.mono (by omega))
  clear hB hA hA2
  generalize hlm : m % 8 + 1 = lim at *
  have HLM := hide hlm
  clear hlm
  clear hmt hm
  go_wp2_with fail
  go_loopw [10] (fun i wr => ∃ k : Nat, k ≤ ds.length ∧ k ≤ 100 ∧ i = .int .i64 (k : Int) ∧ PT a wr a b lim k ∧ Below a w2 wr) (fun i _ => ds.length - (intOf i).toNat)
  case atStart => exact ⟨0, by omega, by omega, rfl, hPQ0, Below.refl _ _⟩
  case round =>
    obtain ⟨k, hk, hk6, rfl, hPQ, hbw⟩ := hrel
    have hbz : Below a w wr := L2.trans hbw
    by_cases hlt : k < ds.length
    · have hlt' : (k : Int) < ds.length := by omega
      by_cases h60 : k < 100
      · have h60' : (k : Int) < 100 := by omega
        obtain ⟨bb, off, cp, e, _, _, hbb, hcs⟩ := (HI.out.below (hbz.mono (by omega))).cells (by omega)
        simp at e
        obtain ⟨rfl, rfl⟩ := e
        have d0 := hcs k hlt 0 (by omega)
        have d1 := hcs k hlt 1 (by omega)
        have d2 := hcs k hlt 2 (by omega)
        have d3 := hcs k hlt 3 (by omega)
        have d4 := hcs k hlt 4 (by omega)
        have d5 := hcs k hlt 5 (by omega)
        have d6 := hcs k hlt 6 (by omega)
        have d7 := hcs k hlt 7 (by omega)
        have hwf := hd ds[k] (List.getElem_mem hlt)
        clear hcs
        generalize ds[k] = r at *
        simp only [dec, List.getElem?_cons_zero, List.getElem?_cons_succ, Nat.add_zero] at d0 d1 d2 d3 d4 d5 d6 d7
        have HDO := hide (do6_any a a b lim k r.k r.p r.s r.d r.a r.b r.id r.till wr hPQ (by omega) (by omega) ⟨hwf.2.1, hwf.2.2.1, hwf.2.2.2.1, hwf.2.2.2.2.1⟩ (by have := hbz.size; omega))
        go_wp2_with fail
        refine HDO.out.mono ?_
        rintro e W3 ⟨rfl, hP3, hb3⟩
        clear d0 d1 d2 d3 d4 d5 d6 d7
        go_wp2_with fail
        go_roundw
        case rel => exact ⟨k + 1, by omega, by omega, by go_num, hP3, hbw.trans hb3⟩
        case measure => simp [intOf]; omega
      · obtain rfl : k = 100 := by omega
        go_wp2_with fail
        refine bodyPost_ret (v := .tuple #[.pointer (some ⟨a, 0, none⟩), .pointer (some ⟨b, 0, none⟩), .bool true]) (by simp [results, Try.results9, go_sem]) rfl ⟨by unfold Later; rw [hwa]; exact hbz, a, b, rfl, by rw [hwa, HLM.out]; exact hPQ⟩
    · obtain rfl : k = ds.length := by omega
      go_wp2_with fail
      refine bodyPost_ret (v := .tuple #[.pointer (some ⟨a, 0, none⟩), .pointer (some ⟨b, 0, none⟩), .bool true]) (by simp [results, Try.results9, go_sem]) rfl ⟨by unfold Later; rw [hwa]; exact hbz, a, b, rfl, ?_⟩
      rw [hwa, HLM.out]
      exact hPQ.mono hk6
end Go.Proofs.Ytgcglnagigpbdaa

/- The walk of TableKeys. -/
namespace Go.Proofs.Ytgcglnagigpbdaa
open Go.RowKit Go.Shelf
set_option maxRecDepth 100000
set_option linter.unusedVariables false
set_option linter.unusedSimpArgs false

theorem gtv_kyp {p s d a a' b : Int} {ls : Nat → List Rw} (h : kyp p a' = kyp p a) : gtv p s d a' b ls = gtv p s d a b ls := by
  unfold gtv kx bki
  rw [h]
/-- What Get answers: an identity, a time, whether it is there. -/
theorem gtv_form (p s d a b : Int) (ls : Nat → List Rw) : ∃ x y z, gtv p s d a b ls = .tuple #[.int .i64 x, .int .i64 y, .bool z] := by
  unfold gtv
  split
  · exact ⟨_, _, _, rfl⟩
  · rename_i k hk
    obtain ⟨hkl, _⟩ := kix_at hk
    rw [List.getElem?_eq_getElem hkl]
    exact ⟨_, _, _, rfl⟩

set_option maxHeartbeats 8000000 in
theorem walk_TableKeys (w : World) (m : Int) (hm : 0 ≤ m ∧ m ≤ 255) (sv : Value) (ds : List De) (hI : RdE w.heap.size w sv ds) (hd : ∀ d ∈ ds, wfE d) (kd p s d a b id till : Int) (hkd : -9223372036854775808 ≤ kd ∧ kd ≤ 9223372036854775807) (hp : 0 ≤ p ∧ p ≤ 255) (hs : 0 ≤ s ∧ s ≤ 4294967295) (hdd : 0 ≤ d ∧ d ≤ 4294967295) (ha : 0 ≤ a ∧ a ≤ 65535) (hb : 0 ≤ b ∧ b ≤ 65535) (hid : -9223372036854775808 ≤ id ∧ id ≤ 9223372036854775807) (htl : -9223372036854775808 ≤ till ∧ till ≤ 9223372036854775807) :
    Calls Try.prog 6 #[.int .u8 m, sv, .agg #[.int .i64 kd, .int .u8 p, .int .u32 s, .int .u32 d, .int .u16 a, .int .u16 b, .int .i64 id, .int .i64 till]] w fun e w' => e = .returned (.bool true) ∧ Below w.heap.size w w' := by
  obtain ⟨aa, ca, rfl, ha1, ha2⟩ := hI.slice
  have lb0 : Later w (w.alloc (.cells #[.int .i64 kd, .int .u8 p, .int .u32 s, .int .u32 d, .int .u16 a, .int .u16 b, .int .i64 id, .int .i64 till] 28)) := (Below.refl _ _).alloc (Nat.le_refl _) _
  have c0 := heap_alloc_new w (.cells #[.int .i64 kd, .int .u8 p, .int .u32 s, .int .u32 d, .int .u16 a, .int .u16 b, .int .i64 id, .int .i64 till] 28)
  go_enter Try.func6, Try.ntmps6
  go_upto_region 1 with fail
  generalize w.alloc _ = w0 at *
  go_wp2_with fail
  refine (play6_any w.heap.size m _ ds w0 hm (hI.below lb0) hd lb0.size).mono ?_
  rintro e w1 ⟨l1, bt, bd, rfl, ls, v, l, trn, hT, _, _⟩
  go_wp2_with fail
  refine (live6_any w1).mono ?_
  rintro e w2 ⟨rfl, l2⟩
  have c2 := later_keep (l1.trans l2) c0
  have hT2 := TB.later hT l2
  have L2 := lb0.trans (l1.trans l2)
  have hsz := L2.size
  clear c0 l1 l2 lb0 hT
  have k2 := block_cell c2
  by_cases hp47 : p = 47
  · subst hp47
    go_upto_region 7 with fail
    have haq : 0 ≤ bits .xor .u16 a 1 ∧ bits .xor .u16 a 1 ≤ 65535 := ⟨bits_lo_u16 _ _ _, bits_hi_u16 _ _ _⟩
    have HKP : Hid (kyp 47 (bits .xor .u16 a 1) = kyp 47 a) := by unfold kyp; rfl
    generalize bits .xor .u16 a 1 = aq at *
    have hkp : kyp 47 aq = kyp 47 a := HKP.out
    have e0 := heap_alloc_new w2 (.cells #[.int .u8 47, .int .u32 s, .int .u32 d, .int .u16 aq, .int .u16 b] 26)
    have lb : Later w2 (w2.alloc (.cells #[.int .u8 47, .int .u32 s, .int .u32 d, .int .u16 aq, .int .u16 b] 26)) := (Below.refl _ _).alloc (Nat.le_refl _) _
    have c3 := later_keep lb c2
    have hT3 := TB.later hT2 lb
    have L3 := L2.trans lb
    clear k2 c2 hT2 L2 lb
    generalize w2.alloc _ = w3 at *
    have k3 := block_cell c3
    have j3 := block_cell e0
    go_wp2_with fail
    refine (get_any w0.heap.size bt _ _ trn ls 47 s d a b w3 hT3 hs hdd ha hb).mono ?_
    rintro e w4 ⟨l4, rfl⟩
    obtain ⟨x, y, z, hgf⟩ := gtv_form 47 s d a b ls
    rw [hgf]
    have c4 := later_keep l4 c3
    have e4 := later_keep l4 e0
    have hT4 := TB.later hT3 l4
    have L4 := L3.trans l4
    clear k3 j3 c3 e0 hT3 L3 l4
    have k4 := block_cell c4
    have j4 := block_cell e4
    have HGF := hide hgf
    clear hgf
    go_wp2_with fail
    refine (get_any w0.heap.size bt _ _ trn ls 47 s d aq b w4 hT4 hs hdd haq hb).mono ?_
    rintro e w5 ⟨l5, rfl⟩
    rw [gtv_kyp hkp, HGF.out]
    have c5 := later_keep l5 c4
    have hT5 := TB.later hT4 l5
    have L5 := L4.trans l5
    clear k4 j4 c4 e4 hT4 L4 l5
    have k5 := block_cell c5
    go_wp2_with fail
    refine (rkey_any 47 s d a b w5).mono ?_
    rintro e w6 ⟨rfl, l6⟩
    have hT6 := TB.later hT5 l6
    have L6 := L5.trans l6
    clear k5 c5 hT5 L5 l6
    have hky : kyp 47 (kyp 47 a) = kyp 47 a := by unfold kyp; split <;> rfl
    have hkb : 0 ≤ kyp 47 a ∧ kyp 47 a ≤ 65535 := by unfold kyp; split <;> omega
    have HKY := hide hky
    clear hky hkp
    generalize hak : kyp 47 a = ak at *
    have HAK := hide hak
    clear hak
    go_wp2_with fail
    refine (get_any w0.heap.size bt _ _ trn ls 47 s d ak b w6 hT6 hs hdd hkb hb).mono ?_
    rintro e w7 ⟨l7, rfl⟩
    rw [gtv_kyp (HKY.out.trans HAK.out.symm), HGF.out]
    have L7 := L6.trans l7
    clear hT6 L6 l7
    go_wp2_with fail
    go_ret
    exact ⟨by simp, L7⟩
  · go_upto_region 7 with fail
    have haq := ha
    have e0 := heap_alloc_new w2 (.cells #[.int .u8 p, .int .u32 s, .int .u32 d, .int .u16 a, .int .u16 b] 26)
    have lb : Later w2 (w2.alloc (.cells #[.int .u8 p, .int .u32 s, .int .u32 d, .int .u16 a, .int .u16 b] 26)) := (Below.refl _ _).alloc (Nat.le_refl _) _
    have c3 := later_keep lb c2
    have hT3 := TB.later hT2 lb
    have L3 := L2.trans lb
    clear k2 c2 hT2 L2 lb
    generalize w2.alloc _ = w3 at *
    have k3 := block_cell c3
    have j3 := block_cell e0
    go_wp2_with fail
    refine (get_any w0.heap.size bt _ _ trn ls p s d a b w3 hT3 hs hdd ha hb).mono ?_
    rintro e w4 ⟨l4, rfl⟩
    obtain ⟨x, y, z, hgf⟩ := gtv_form p s d a b ls
    rw [hgf]
    have c4 := later_keep l4 c3
    have e4 := later_keep l4 e0
    have hT4 := TB.later hT3 l4
    have L4 := L3.trans l4
    clear k3 j3 c3 e0 hT3 L3 l4
    have k4 := block_cell c4
    have j4 := block_cell e4
    have HGF := hide hgf
    clear hgf
    go_wp2_with fail
    refine (get_any w0.heap.size bt _ _ trn ls p s d a b w4 hT4 hs hdd haq hb).mono ?_
    rintro e w5 ⟨l5, rfl⟩
    rw [HGF.out]
    have c5 := later_keep l5 c4
    have hT5 := TB.later hT4 l5
    have L5 := L4.trans l5
    clear k4 j4 c4 e4 hT4 L4 l5
    have k5 := block_cell c5
    go_wp2_with fail
    refine (rkey_any p s d a b w5).mono ?_
    rintro e w6 ⟨rfl, l6⟩
    have hT6 := TB.later hT5 l6
    have L6 := L5.trans l6
    clear k5 c5 hT5 L5 l6
    have hky : kyp p (kyp p a) = kyp p a := by unfold kyp; split <;> rfl
    have hkb : 0 ≤ kyp p a ∧ kyp p a ≤ 65535 := by unfold kyp; split <;> omega
    have HKY := hide hky
    clear hky
    generalize hak : kyp p a = ak at *
    have HAK := hide hak
    clear hak
    go_wp2_with fail
    refine (get_any w0.heap.size bt _ _ trn ls p s d ak b w6 hT6 hs hdd hkb hb).mono ?_
    rintro e w7 ⟨l7, rfl⟩
    rw [gtv_kyp (HKY.out.trans HAK.out.symm), HGF.out]
    have L7 := L6.trans l7
    clear hT6 L6 l7
    go_wp2_with fail
    go_ret
    exact ⟨by simp, L7⟩
end Go.Proofs.Ytgcglnagigpbdaa

/- Sorting up to twelve rows. -/
namespace Go.Proofs.Ytgcglnagigpbdaa
open Go.RowKit Go.Shelf
set_option maxRecDepth 100000
set_option linter.unusedVariables false
set_option linter.unusedSimpArgs false

/-- Does a row stand ahead of another? -/
def ltR (x y : Rw) : Bool := decide (ordv x y < 0)
/-- A row put into rows that are in order, from behind. -/
def insF (x : Rw) (P : List Rw) : List Rw := (P.reverse.dropWhile (ltR x)).reverse ++ x :: (P.reverse.takeWhile (ltR x)).reverse
theorem insF_eq {x : Rw} {A B : List Rw} (hB : ∀ e ∈ B, ltR x e = true) (hA : ∀ e, A.getLast? = some e → ltR x e = false) : insF x (A ++ B) = A ++ x :: B := by
  have hB' : ∀ e ∈ B.reverse, ltR x e = true := fun e he => hB e (List.mem_reverse.1 he)
  have h1 : (B.reverse ++ A.reverse).takeWhile (ltR x) = B.reverse ++ A.reverse.takeWhile (ltR x) := List.takeWhile_append_of_pos hB'
  have h2 : (B.reverse ++ A.reverse).dropWhile (ltR x) = A.reverse.dropWhile (ltR x) := List.dropWhile_append_of_pos hB'
  have h3 : A.reverse.takeWhile (ltR x) = [] ∧ A.reverse.dropWhile (ltR x) = A.reverse := by
    cases hr : A.reverse with
    | nil => simp
    | cons e t =>
      have := hA e (by rw [List.getLast?_eq_head?_reverse, hr]; rfl)
      simp [List.takeWhile_cons, List.dropWhile_cons, this]
  unfold insF
  rw [List.reverse_append, h1, h2, h3.1, h3.2]
  simp
theorem insF_length (x : Rw) (P : List Rw) : (insF x P).length = P.length + 1 := by
  have := congrArg List.length (List.takeWhile_append_dropWhile (p := ltR x) (l := P.reverse))
  rw [List.length_append, List.length_reverse] at this
  unfold insF
  rw [List.length_append, List.length_cons, List.length_reverse, List.length_reverse]
  omega
def isort (l : List Rw) : List Rw := l.foldl (fun P x => insF x P) []
theorem isort_snoc (l : List Rw) (x : Rw) : isort (l ++ [x]) = insF x (isort l) := by unfold isort; simp
theorem isort_length (l : List Rw) : (isort l).length = l.length := by
  have : ∀ (m : List Rw) (P : List Rw), (m.foldl (fun P x => insF x P) P).length = P.length + m.length := by
    intro m
    induction m with
    | nil => intro P; simp
    | cons x m ih => intro P; rw [List.foldl_cons, ih, insF_length]; simp; omega
  unfold isort
  rw [this]
  simp

set_option maxHeartbeats 8000000 in
theorem insert_any (g cap : Nat) (l : List Rw) (post : List Value) (w : World) (hl1 : 1 ≤ l.length) (hl : l.length ≤ 12) (hcap : l.length ≤ cap ∧ cap ≤ 9223372036854775807)
    (hh : w.heap[g]? = some (.cells (rws l ++ post).toArray 69 (0, 0))) :
    Calls Try.prog 58 #[.slice (some ⟨g, 0, none⟩) l.length cap, .int .i64 0, .int .i64 (l.length : Int), .func (.func 32) #[] #[]] w fun e w' => (∃ u, e = .returned u) ∧ w'.heap[g]? = some (.cells (rws (isort l) ++ post).toArray 69 (0, 0)) ∧ But (fun b => b = g) w w' := by
  go_enter Try.func58, Try.ntmps58
  go_wp2_with fail
  go_loopw [8] (fun i wr => ∃ k : Nat, 1 ≤ k ∧ k ≤ l.length ∧ i = .int .i64 (k : Int) ∧ wr.heap[g]? = some (.cells (rws (isort (l.take k) ++ l.drop k) ++ post).toArray 69 (0, 0)) ∧ But (fun b => b = g) w wr) (fun i _ => l.length - (intOf i).toNat)
  case atStart => exact ⟨1, by omega, by omega, rfl, by
    have : isort (l.take 1) ++ l.drop 1 = l := by
      cases l with
      | nil => simp at hl1
      | cons x l => simp [isort, insF]
    rw [this]
    exact hh, But.refl _ _⟩
  case round =>
    obtain ⟨k, hk1, hk, rfl, hcr, hbt⟩ := hrel
    rename World => w1
    by_cases hlt : k < l.length
    · have hlt' : (k : Int) < l.length := by omega
      have hP : (isort (l.take k)).length = k := by rw [isort_length, List.length_take]; omega
      have htk : isort (l.take (k + 1)) = insF l[k] (isort (l.take k)) := by rw [← List.take_append_getElem hlt, isort_snoc]
      have hdk : l.drop k = l[k] :: l.drop (k + 1) := List.drop_eq_getElem_cons hlt
      rw [hdk] at hcr
      have HTK := hide htk
      clear htk hdk
      generalize l[k] = x at *
      generalize isort (l.take k) = P at *
      generalize hsf : l.drop (k + 1) = suf at *
      have hsl : suf.length = l.length - (k + 1) := by rw [← hsf, List.length_drop]
      have HSF := hide hsf
      clear hsf
      go_wp2_with fail
      go_loopw [9] (fun j wr => ∃ A B, P = A ++ B ∧ j = .int .i64 (A.length : Int) ∧ (∀ e ∈ B, ltR x e = true) ∧ wr.heap[g]? = some (.cells (rws A ++ (rwc x ++ (rws (B ++ suf) ++ post))).toArray 69 (0, 0)) ∧ But (fun b => b = g) w wr) (fun j _ => (intOf j).toNat)
      case atStart => exact ⟨P, [], by simp, by rw [hP], by simp, by rw [hcr, rws_append, rws_cons]; simp, hbt⟩
      case round =>
        obtain ⟨A, B, hAB, rfl, hB, hci, hbi⟩ := hrel
        rename World => w2
        rcases List.eq_nil_or_concat A with rfl | ⟨A', y, rfl⟩
        · simp only [List.length_nil]
          go_upto_region 4 with fail
          go_quiet (fail)
          rw [List.nil_append] at hAB
          have ld : Later w2 (w2.drewN nq) := below_draw (Below.refl _ _) nq
          have hcd := later_keep ld hci
          have hbd := hbi.trans (But.of ld)
          have HREL : Hid (∃ k' : Nat, 1 ≤ k' ∧ k' ≤ l.length ∧ (Value.int .i64 ((k : Int) + 1)) = .int .i64 (k' : Int) ∧ (w2.drewN nq).heap[g]? = some (.cells (rws (isort (l.take k') ++ l.drop k') ++ post).toArray 69 (0, 0)) ∧ But (fun b => b = g) w (w2.drewN nq)) :=
            ⟨k + 1, by omega, by omega, by simp, by
              have hin := insF_eq (A := []) hB (fun e he => by cases he)
              rw [List.nil_append] at hin
              rw [HTK.out, HSF.out, hAB, hin, hcd]
              simp [rws], hbd⟩
          go_wp2_with fail
          go_roundw
          case rel => exact HREL.out
          case measure => simp [intOf]; omega
        · have hrl : (rws A').length = A'.length * 8 := rws_length _
          have hci' : w2.heap[g]? = some (.cells (rws A' ++ (rwc y ++ (rwc x ++ (rws (B ++ suf) ++ post)))).toArray 69 (0, 0)) := by rw [hci]; simp [rws]
          have hlp : (A' ++ [y]).length = A'.length + 1 := by simp
          have hkl : k = A'.length + 1 + B.length := by rw [← hP, hAB]; simp; omega
          clear hci hcr
          try simp only [List.concat_eq_append] at *
          generalize hpp : (A' ++ [y]).length = p at *
          generalize hqq : A'.length = q at *
          have HPP := hide hpp
          have HQQ := hide hqq
          have HAB := hide hAB
          clear hpp hqq hAB
          have e9 : (p : Int) - 1 = (q : Int) := by omega
          have g0 : (0 : Int) < (p : Int) := by omega
          have g00 : 0 < p := by omega
          have q1 : (q : Int) < l.length := by omega
          have p1 : (p : Int) < l.length := by omega
          have HLP := hide hlp
          have HWR : Hid (IntKind.i64.wrap (q : Int) = (q : Int)) := by
            have : (q : Int) < 12 := by omega
            show _ = _
            simp [IntKind.wrap, IntKind.bits, IntKind.signed]
            omega
          clear hlp hkl
          go_upto_region 4 with fail
          refine anyT_begin (R := Later) 17 rfl (by kernel_rfl) ?_
          have ld : Later w2 w2.drew := Later.drew w2
          have hcd := later_keep ld hci'
          have hbd := hbi.trans (But.of ld)
          clear hci' hbi ld
          generalize w2.drew = Wd at *
          have HY : Hid (∀ v1, Later Wd v1 → ∀ i, i < 8 → v1.cell? ⟨g, q * 8 + i, none⟩ = (rwc y)[i]?) := fun v1 h i hi => by
            rw [block_cell (later_keep h hcd), List.getElem?_toArray, List.getElem?_append_right (by omega), hrl, Nat.add_sub_cancel_left, List.getElem?_append_left (by rw [rwc_length]; exact hi)]
          have HX : Hid (∀ v1, Later Wd v1 → ∀ i, i < 8 → v1.cell? ⟨g, p * 8 + i, none⟩ = (rwc x)[i]?) := fun v1 h i hi => by
            have hlp := HLP.out; rw [block_cell (later_keep h hcd), List.getElem?_toArray, List.getElem?_append_right (by omega), hrl, List.getElem?_append_right (by rw [rwc_length]; omega), rwc_length, show p * 8 + i - q * 8 - 8 = i from by omega, List.getElem?_append_left (by rw [rwc_length]; exact hi)]
          have y0 : ∀ v1, Later Wd v1 → v1.cell? ⟨g, q * 8, none⟩ = some (.int .u8 y.p) := fun v1 h => (HY.out v1 h 0 (by omega))
          have y1 : ∀ v1, Later Wd v1 → v1.cell? ⟨g, q * 8 + 1, none⟩ = some (.int .u32 y.s) := fun v1 h => (HY.out v1 h 1 (by omega))
          have y2 : ∀ v1, Later Wd v1 → v1.cell? ⟨g, q * 8 + 2, none⟩ = some (.int .u32 y.d) := fun v1 h => (HY.out v1 h 2 (by omega))
          have y3 : ∀ v1, Later Wd v1 → v1.cell? ⟨g, q * 8 + 3, none⟩ = some (.int .u16 y.a) := fun v1 h => (HY.out v1 h 3 (by omega))
          have y4 : ∀ v1, Later Wd v1 → v1.cell? ⟨g, q * 8 + 4, none⟩ = some (.int .u16 y.b) := fun v1 h => (HY.out v1 h 4 (by omega))
          have y5 : ∀ v1, Later Wd v1 → v1.cell? ⟨g, q * 8 + 5, none⟩ = some (.int .i64 y.id) := fun v1 h => (HY.out v1 h 5 (by omega))
          have y6 : ∀ v1, Later Wd v1 → v1.cell? ⟨g, q * 8 + 6, none⟩ = some (.int .i64 y.till) := fun v1 h => (HY.out v1 h 6 (by omega))
          have y7 : ∀ v1, Later Wd v1 → v1.cell? ⟨g, q * 8 + 7, none⟩ = some (.int .i64 y.turn) := fun v1 h => (HY.out v1 h 7 (by omega))
          have x0 : ∀ v1, Later Wd v1 → v1.cell? ⟨g, p * 8, none⟩ = some (.int .u8 x.p) := fun v1 h => (HX.out v1 h 0 (by omega))
          have x1 : ∀ v1, Later Wd v1 → v1.cell? ⟨g, p * 8 + 1, none⟩ = some (.int .u32 x.s) := fun v1 h => (HX.out v1 h 1 (by omega))
          have x2 : ∀ v1, Later Wd v1 → v1.cell? ⟨g, p * 8 + 2, none⟩ = some (.int .u32 x.d) := fun v1 h => (HX.out v1 h 2 (by omega))
          have x3 : ∀ v1, Later Wd v1 → v1.cell? ⟨g, p * 8 + 3, none⟩ = some (.int .u16 x.a) := fun v1 h => (HX.out v1 h 3 (by omega))
          have x4 : ∀ v1, Later Wd v1 → v1.cell? ⟨g, p * 8 + 4, none⟩ = some (.int .u16 x.b) := fun v1 h => (HX.out v1 h 4 (by omega))
          have x5 : ∀ v1, Later Wd v1 → v1.cell? ⟨g, p * 8 + 5, none⟩ = some (.int .i64 x.id) := fun v1 h => (HX.out v1 h 5 (by omega))
          have x6 : ∀ v1, Later Wd v1 → v1.cell? ⟨g, p * 8 + 6, none⟩ = some (.int .i64 x.till) := fun v1 h => (HX.out v1 h 6 (by omega))
          have x7 : ∀ v1, Later Wd v1 → v1.cell? ⟨g, p * 8 + 7, none⟩ = some (.int .i64 x.turn) := fun v1 h => (HX.out v1 h 7 (by omega))
          refine anyT_val Later.pre 0 rfl (by kernel_rfl) (by kernel_rfl) (by kernel_rfl) (fun _ _ _ _ h => h) rfl ?_; apply Exists.intro; refine ⟨fun v1 hv1 => ?_, ?_⟩; (· (go_simp; rfl)); simp only [Act.put, List.setIfInBounds_toArray, List.set_cons_zero, List.set_cons_succ]
          refine anyT_val Later.pre 1 rfl (by kernel_rfl) (by kernel_rfl) (by kernel_rfl) (fun _ _ _ _ h => h) rfl ?_; apply Exists.intro; refine ⟨fun v1 hv1 => ?_, ?_⟩; (· (go_simp; rfl)); simp only [Act.put, List.setIfInBounds_toArray, List.set_cons_zero, List.set_cons_succ]
          refine anyT_val Later.pre 2 rfl (by kernel_rfl) (by kernel_rfl) (by kernel_rfl) (fun _ _ _ _ h => h) rfl ?_
          refine ⟨.bool true, fun v1 hv1 => ?_, ?_⟩
          · go_simp
            try simp [g00, g0]
          simp only [Act.put, List.setIfInBounds_toArray, List.set_cons_zero, List.set_cons_succ]
          refine anyT_val Later.pre 3 rfl (by kernel_rfl) (by kernel_rfl) (by kernel_rfl) (fun _ _ _ _ h => h) rfl ?_; apply Exists.intro; refine ⟨fun v1 hv1 => ?_, ?_⟩; (· (go_simp; rfl)); simp only [Act.put, List.setIfInBounds_toArray, List.set_cons_zero, List.set_cons_succ]
          refine anyT_valG Later.pre 4 rfl (by kernel_rfl) (by kernel_rfl) (by kernel_rfl) (fun _ _ _ _ h => h) (by rfl) ?_; apply Exists.intro; refine ⟨fun v1 hv1 => ?_, ?_⟩; (· (go_simp; rfl)); simp only [Act.put, List.setIfInBounds_toArray, List.set_cons_zero, List.set_cons_succ]
          refine anyT_valG Later.pre 5 rfl (by kernel_rfl) (by kernel_rfl) (by kernel_rfl) (fun _ _ _ _ h => h) (by rfl) ?_; apply Exists.intro; refine ⟨fun v1 hv1 => ?_, ?_⟩; (· (go_simp; rfl)); simp only [Act.put, List.setIfInBounds_toArray, List.set_cons_zero, List.set_cons_succ]
          refine anyT_valG Later.pre 6 rfl (by kernel_rfl) (by kernel_rfl) (by kernel_rfl) (fun _ _ _ _ h => h) (by rfl) ?_; apply Exists.intro; refine ⟨fun v1 hv1 => ?_, ?_⟩; (· (go_simp; rfl)); simp only [Act.put, List.setIfInBounds_toArray, List.set_cons_zero, List.set_cons_succ]
          refine anyT_valG Later.pre 7 rfl (by kernel_rfl) (by kernel_rfl) (by kernel_rfl) (fun _ _ _ _ h => h) (by rfl) ?_; apply Exists.intro; refine ⟨fun v1 hv1 => ?_, ?_⟩; (· (go_simp; rfl)); simp only [Act.put, List.setIfInBounds_toArray, List.set_cons_zero, List.set_cons_succ]
          refine anyT_valG Later.pre 8 rfl (by kernel_rfl) (by kernel_rfl) (by kernel_rfl) (fun _ _ _ _ h => h) (by rfl) ?_; apply Exists.intro; refine ⟨fun v1 hv1 => ?_, ?_⟩; (· (go_simp; rfl)); simp only [Act.put, List.setIfInBounds_toArray, List.set_cons_zero, List.set_cons_succ]
          refine anyT_valG Later.pre 9 rfl (by kernel_rfl) (by kernel_rfl) (by kernel_rfl) (fun _ _ _ _ h => h) (by rfl) ?_; apply Exists.intro; refine ⟨fun v1 hv1 => ?_, ?_⟩; (· (go_simp; rfl)); simp only [Act.put, List.setIfInBounds_toArray, List.set_cons_zero, List.set_cons_succ]
          refine anyT_valG Later.pre 10 rfl (by kernel_rfl) (by kernel_rfl) (by kernel_rfl) (fun _ _ _ _ h => h) (by rfl) ?_; apply Exists.intro; refine ⟨fun v1 hv1 => ?_, ?_⟩; (· (go_simp; rfl)); simp only [Act.put, List.setIfInBounds_toArray, List.set_cons_zero, List.set_cons_succ]
          refine anyT_valG Later.pre 11 rfl (by kernel_rfl) (by kernel_rfl) (by kernel_rfl) (fun _ _ _ _ h => h) (by rfl) ?_; refine ⟨.int .i64 (q : Int), fun v1 hv1 => ?_, ?_⟩; (· (go_simp; rw [HWR.out])); simp only [Act.put, List.setIfInBounds_toArray, List.set_cons_zero, List.set_cons_succ]
          refine anyT_valG Later.pre 12 rfl (by kernel_rfl) (by kernel_rfl) (by kernel_rfl) (fun _ _ _ _ h => h) (by rfl) ?_; apply Exists.intro; refine ⟨fun v1 hv1 => ?_, ?_⟩; (· (go_simp; rfl)); simp only [Act.put, List.setIfInBounds_toArray, List.set_cons_zero, List.set_cons_succ]
          refine anyT_valG Later.pre 13 rfl (by kernel_rfl) (by kernel_rfl) (by kernel_rfl) (fun _ _ _ _ h => h) (by rfl) ?_; apply Exists.intro; refine ⟨fun v1 hv1 => ?_, ?_⟩; (· (go_simp; rfl)); simp only [Act.put, List.setIfInBounds_toArray, List.set_cons_zero, List.set_cons_succ]
          clear y0 y1 y2 y3 y4 y5 y6 y7 x0 x1 x2 x3 x4 x5 x6 x7
          refine anyT_oneG 14 rfl (by kernel_rfl) (by rfl) ?_
          refine wp_enter 32 #[.agg #[.int .u8 x.p, .int .u32 x.s, .int .u32 x.d, .int .u16 x.a, .int .u16 x.b, .int .i64 x.id, .int .i64 x.till, .int .i64 x.turn], .agg #[.int .u8 y.p, .int .u32 y.s, .int .u32 y.d, .int .u16 y.a, .int .u16 y.b, .int .i64 y.id, .int .i64 y.till, .int .i64 y.turn]] (by go_simp) ?_
          refine (inOrder_any x y Wd).mono ?_
          rintro e W1 ⟨rfl, hb1⟩
          have m1 : Later Wd W1 := hb1
          refine ⟨m1, ?_⟩
          simp only [Act.put, List.setIfInBounds_toArray, List.set_cons_zero, List.set_cons_succ]
          have hc1 := later_keep m1 hcd
          have hb1' := hbd.trans (But.of m1)
          clear hcd hbd m1 hb1 HY HX
          have HLT : Hid (ltR x y = decide (ordv x y < 0)) := rfl
          generalize ordv x y = o at *
          by_cases ho : o < 0
          · refine anyT_valG Later.pre 15 rfl (by kernel_rfl) (by kernel_rfl) (by kernel_rfl) (fun _ _ _ _ h => h) (by rfl) ?_; apply Exists.intro; refine ⟨fun v1 hv1 => ?_, ?_⟩; (· (go_simp; rfl)); simp only [Act.put, List.setIfInBounds_toArray, List.set_cons_zero, List.set_cons_succ]
            refine anyT_val Later.pre 16 rfl (by kernel_rfl) (by kernel_rfl) (by kernel_rfl) (fun _ _ _ _ h => h) rfl ?_; apply Exists.intro; refine ⟨fun v1 hv1 => ?_, ?_⟩; (· (go_simp; rfl)); simp only [Act.put, List.setIfInBounds_toArray, List.set_cons_zero, List.set_cons_succ]
            refine anyT_done (by kernel_rfl) ?_
            go_upto_region 6 with fail
            refine anyU_begin (R1 := Later) (R2 := But (fun b => b = g)) (D := [15, 17]) 18 rfl (by kernel_rfl) ?_
            have ld : Later W1 W1.drew := Later.drew W1
            have hcd := later_keep ld hc1
            have hbd := hb1'.trans (But.of ld)
            clear hc1 hb1' ld
            generalize W1.drew = We at *
            have HYe : Hid (∀ v1, Later We v1 → ∀ i, i < 8 → v1.cell? ⟨g, q * 8 + i, none⟩ = (rwc y)[i]?) := fun v1 h i hi => by
              rw [block_cell (later_keep h hcd), List.getElem?_toArray, List.getElem?_append_right (by omega), hrl, Nat.add_sub_cancel_left, List.getElem?_append_left (by rw [rwc_length]; exact hi)]
            have HXe : Hid (∀ v1, Later We v1 → ∀ i, i < 8 → v1.cell? ⟨g, p * 8 + i, none⟩ = (rwc x)[i]?) := fun v1 h i hi => by
              have hlp := HLP.out; rw [block_cell (later_keep h hcd), List.getElem?_toArray, List.getElem?_append_right (by omega), hrl, List.getElem?_append_right (by rw [rwc_length]; omega), rwc_length, show p * 8 + i - q * 8 - 8 = i from by omega, List.getElem?_append_left (by rw [rwc_length]; exact hi)]
            have y0e : ∀ v1, Later We v1 → v1.cell? ⟨g, q * 8, none⟩ = some (.int .u8 y.p) := fun v1 h => (HYe.out v1 h 0 (by omega))
            have y1e : ∀ v1, Later We v1 → v1.cell? ⟨g, q * 8 + 1, none⟩ = some (.int .u32 y.s) := fun v1 h => (HYe.out v1 h 1 (by omega))
            have y2e : ∀ v1, Later We v1 → v1.cell? ⟨g, q * 8 + 2, none⟩ = some (.int .u32 y.d) := fun v1 h => (HYe.out v1 h 2 (by omega))
            have y3e : ∀ v1, Later We v1 → v1.cell? ⟨g, q * 8 + 3, none⟩ = some (.int .u16 y.a) := fun v1 h => (HYe.out v1 h 3 (by omega))
            have y4e : ∀ v1, Later We v1 → v1.cell? ⟨g, q * 8 + 4, none⟩ = some (.int .u16 y.b) := fun v1 h => (HYe.out v1 h 4 (by omega))
            have y5e : ∀ v1, Later We v1 → v1.cell? ⟨g, q * 8 + 5, none⟩ = some (.int .i64 y.id) := fun v1 h => (HYe.out v1 h 5 (by omega))
            have y6e : ∀ v1, Later We v1 → v1.cell? ⟨g, q * 8 + 6, none⟩ = some (.int .i64 y.till) := fun v1 h => (HYe.out v1 h 6 (by omega))
            have y7e : ∀ v1, Later We v1 → v1.cell? ⟨g, q * 8 + 7, none⟩ = some (.int .i64 y.turn) := fun v1 h => (HYe.out v1 h 7 (by omega))
            have x0e : ∀ v1, Later We v1 → v1.cell? ⟨g, p * 8, none⟩ = some (.int .u8 x.p) := fun v1 h => (HXe.out v1 h 0 (by omega))
            have x1e : ∀ v1, Later We v1 → v1.cell? ⟨g, p * 8 + 1, none⟩ = some (.int .u32 x.s) := fun v1 h => (HXe.out v1 h 1 (by omega))
            have x2e : ∀ v1, Later We v1 → v1.cell? ⟨g, p * 8 + 2, none⟩ = some (.int .u32 x.d) := fun v1 h => (HXe.out v1 h 2 (by omega))
            have x3e : ∀ v1, Later We v1 → v1.cell? ⟨g, p * 8 + 3, none⟩ = some (.int .u16 x.a) := fun v1 h => (HXe.out v1 h 3 (by omega))
            have x4e : ∀ v1, Later We v1 → v1.cell? ⟨g, p * 8 + 4, none⟩ = some (.int .u16 x.b) := fun v1 h => (HXe.out v1 h 4 (by omega))
            have x5e : ∀ v1, Later We v1 → v1.cell? ⟨g, p * 8 + 5, none⟩ = some (.int .i64 x.id) := fun v1 h => (HXe.out v1 h 5 (by omega))
            have x6e : ∀ v1, Later We v1 → v1.cell? ⟨g, p * 8 + 6, none⟩ = some (.int .i64 x.till) := fun v1 h => (HXe.out v1 h 6 (by omega))
            have x7e : ∀ v1, Later We v1 → v1.cell? ⟨g, p * 8 + 7, none⟩ = some (.int .i64 x.turn) := fun v1 h => (HXe.out v1 h 7 (by omega))
            refine anyU_pure Later.refl (But.refl _) 0 rfl (by kernel_rfl) (by kernel_rfl) (by kernel_rfl) (fun _ _ _ _ h => h) (by rfl) ?_; apply Exists.intro; refine ⟨fun v1 => ?_, ?_⟩; (· (go_simp; rfl)); simp only [Act.put, List.setIfInBounds_toArray, List.set_cons_zero, List.set_cons_succ]
            refine anyU_pure Later.refl (But.refl _) 1 rfl (by kernel_rfl) (by kernel_rfl) (by kernel_rfl) (fun _ _ _ _ h => h) (by rfl) ?_; apply Exists.intro; refine ⟨fun v1 => ?_, ?_⟩; (· (go_simp; rfl)); simp only [Act.put, List.setIfInBounds_toArray, List.set_cons_zero, List.set_cons_succ]
            refine anyU_pure Later.refl (But.refl _) 2 rfl (by kernel_rfl) (by kernel_rfl) (by kernel_rfl) (fun _ _ _ _ h => h) (by rfl) ?_; apply Exists.intro; refine ⟨fun v1 => ?_, ?_⟩; (· (go_simp; rfl)); simp only [Act.put, List.setIfInBounds_toArray, List.set_cons_zero, List.set_cons_succ]
            refine anyU_pure Later.refl (But.refl _) 3 rfl (by kernel_rfl) (by kernel_rfl) (by kernel_rfl) (fun _ _ _ _ h => h) (by rfl) ?_; apply Exists.intro; refine ⟨fun v1 => ?_, ?_⟩; (· (go_simp; rfl)); simp only [Act.put, List.setIfInBounds_toArray, List.set_cons_zero, List.set_cons_succ]
            refine anyU_pure Later.refl (But.refl _) 4 rfl (by kernel_rfl) (by kernel_rfl) (by kernel_rfl) (fun _ _ _ _ h => h) (by rfl) ?_; refine ⟨.int .i64 (q : Int), fun v1 => ?_, ?_⟩; (· (go_simp; rw [HWR.out])); simp only [Act.put, List.setIfInBounds_toArray, List.set_cons_zero, List.set_cons_succ]
            refine anyU_pure Later.refl (But.refl _) 5 rfl (by kernel_rfl) (by kernel_rfl) (by kernel_rfl) (fun _ _ _ _ h => h) (by rfl) ?_; apply Exists.intro; refine ⟨fun v1 => ?_, ?_⟩; (· (go_simp; rfl)); simp only [Act.put, List.setIfInBounds_toArray, List.set_cons_zero, List.set_cons_succ]
            refine anyU_pure Later.refl (But.refl _) 6 rfl (by kernel_rfl) (by kernel_rfl) (by kernel_rfl) (fun _ _ _ _ h => h) (by rfl) ?_; apply Exists.intro; refine ⟨fun v1 => ?_, ?_⟩; (· (go_simp; rfl)); simp only [Act.put, List.setIfInBounds_toArray, List.set_cons_zero, List.set_cons_succ]
            refine anyU_pure Later.refl (But.refl _) 7 rfl (by kernel_rfl) (by kernel_rfl) (by kernel_rfl) (fun _ _ _ _ h => h) (by rfl) ?_; refine ⟨.int .i64 (q : Int), fun v1 => ?_, ?_⟩; (· (go_simp; rw [HWR.out])); simp only [Act.put, List.setIfInBounds_toArray, List.set_cons_zero, List.set_cons_succ]
            refine anyU_pure Later.refl (But.refl _) 8 rfl (by kernel_rfl) (by kernel_rfl) (by kernel_rfl) (fun _ _ _ _ h => h) (by rfl) ?_; apply Exists.intro; refine ⟨fun v1 => ?_, ?_⟩; (· (go_simp; rfl)); simp only [Act.put, List.setIfInBounds_toArray, List.set_cons_zero, List.set_cons_succ]
            refine anyU_val Later.pre 9 [15, 17] rfl (by rfl) (by rfl) (by kernel_rfl) (by kernel_rfl) (by kernel_rfl) (by kernel_rfl) (by kernel_rfl) (fun _ _ _ _ h => h) (by rfl) ?_; apply Exists.intro; refine ⟨fun v1 hv1 => ?_, ?_⟩; (· (go_simp; rfl)); simp only [Act.put, List.setIfInBounds_toArray, List.set_cons_zero, List.set_cons_succ]
            refine anyU_pure Later.refl (But.refl _) 10 rfl (by kernel_rfl) (by kernel_rfl) (by kernel_rfl) (fun _ _ _ _ h => h) (by rfl) ?_; apply Exists.intro; refine ⟨fun v1 => ?_, ?_⟩; (· (go_simp; rfl)); simp only [Act.put, List.setIfInBounds_toArray, List.set_cons_zero, List.set_cons_succ]
            refine anyU_pure Later.refl (But.refl _) 11 rfl (by kernel_rfl) (by kernel_rfl) (by kernel_rfl) (fun _ _ _ _ h => h) (by rfl) ?_; apply Exists.intro; refine ⟨fun v1 => ?_, ?_⟩; (· (go_simp; rfl)); simp only [Act.put, List.setIfInBounds_toArray, List.set_cons_zero, List.set_cons_succ]
            refine anyU_pure Later.refl (But.refl _) 12 rfl (by kernel_rfl) (by kernel_rfl) (by kernel_rfl) (fun _ _ _ _ h => h) (by rfl) ?_; apply Exists.intro; refine ⟨fun v1 => ?_, ?_⟩; (· (go_simp; rfl)); simp only [Act.put, List.setIfInBounds_toArray, List.set_cons_zero, List.set_cons_succ]
            refine anyU_val Later.pre 13 [15, 17] rfl (by rfl) (by rfl) (by kernel_rfl) (by kernel_rfl) (by kernel_rfl) (by kernel_rfl) (by kernel_rfl) (fun _ _ _ _ h => h) (by rfl) ?_; apply Exists.intro; refine ⟨fun v1 hv1 => ?_, ?_⟩; (· (go_simp; rfl)); simp only [Act.put, List.setIfInBounds_toArray, List.set_cons_zero, List.set_cons_succ]
            refine anyU_pure Later.refl (But.refl _) 14 rfl (by kernel_rfl) (by kernel_rfl) (by kernel_rfl) (fun _ _ _ _ h => h) (by rfl) ?_; apply Exists.intro; refine ⟨fun v1 => ?_, ?_⟩; (· (go_simp; rfl)); simp only [Act.put, List.setIfInBounds_toArray, List.set_cons_zero, List.set_cons_succ]
            have c0 := x0e We (Later.refl We)
            have c1 := x1e We (Later.refl We)
            have c2 := x2e We (Later.refl We)
            have c3 := x3e We (Later.refl We)
            have c4 := x4e We (Later.refl We)
            have c5 := x5e We (Later.refl We)
            have c6 := x6e We (Later.refl We)
            have c7 := x7e We (Later.refl We)
            clear y0e y1e y2e y3e y4e y5e y6e y7e x0e x1e x2e x3e x4e x5e x6e x7e
            have Fe := block_frozen hcd
            have hput : (putRow We g (p * 8) (rwc y)).heap[g]? = some (.cells (rws A' ++ (rwc y ++ (rwc y ++ (rws (B ++ suf) ++ post)))).toArray 69 (0, 0)) := by
              have := putRow_mid (rwc y) (rws A' ++ rwc y) (rwc x) (rws (B ++ suf) ++ post) We (by rw [hcd, List.append_assoc]) rfl
              have hlp := HLP.out
              rw [List.length_append, hrl, rwc_length, show q * 8 + 8 = p * 8 from by omega, List.append_assoc] at this
              exact this
            have hbp : But (fun b => b = g) We (putRow We g (p * 8) (rwc y)) := putRow_but (E := fun b => b = g) rfl _ _ _ _ (But.refl _ _)
            have HPUT := hide hput
            have HBP := hide hbp
            clear hput hbp
            refine anyU_one 15 rfl (by kernel_rfl) (by rfl) ?_
            unfold Oper.wp
            go_simp
            refine ⟨Rj_in (by rfl) HBP.out, ?_⟩
            change wpAnyU _ _ _ _ _ _ _ _ _ _ (putRow We g (p * 8) (rwc y))
            have hp1 := HPUT.out
            have hbf := hbd.trans HBP.out
            clear c0 c1 c2 c3 c4 c5 c6 c7 HPUT HBP hcd hbd Fe HYe HXe
            generalize putRow We g (p * 8) (rwc y) = Wf at *
            have hyf : ∀ i, i < 8 → Wf.cell? ⟨g, q * 8 + i, none⟩ = (rwc y)[i]? := fun i hi => by
              rw [block_cell hp1, List.getElem?_toArray, List.getElem?_append_right (by omega), hrl, Nat.add_sub_cancel_left, List.getElem?_append_left (by rw [rwc_length]; exact hi)]
            have c0 : Wf.cell? ⟨g, q * 8, none⟩ = some (.int .u8 y.p) := hyf 0 (by omega)
            have c1 : Wf.cell? ⟨g, q * 8 + 1, none⟩ = some (.int .u32 y.s) := hyf 1 (by omega)
            have c2 : Wf.cell? ⟨g, q * 8 + 2, none⟩ = some (.int .u32 y.d) := hyf 2 (by omega)
            have c3 : Wf.cell? ⟨g, q * 8 + 3, none⟩ = some (.int .u16 y.a) := hyf 3 (by omega)
            have c4 : Wf.cell? ⟨g, q * 8 + 4, none⟩ = some (.int .u16 y.b) := hyf 4 (by omega)
            have c5 : Wf.cell? ⟨g, q * 8 + 5, none⟩ = some (.int .i64 y.id) := hyf 5 (by omega)
            have c6 : Wf.cell? ⟨g, q * 8 + 6, none⟩ = some (.int .i64 y.till) := hyf 6 (by omega)
            have c7 : Wf.cell? ⟨g, q * 8 + 7, none⟩ = some (.int .i64 y.turn) := hyf 7 (by omega)
            clear hyf
            refine anyU_pure Later.refl (But.refl _) 16 rfl (by kernel_rfl) (by kernel_rfl) (by kernel_rfl) (fun _ _ _ _ h => h) (by rfl) ?_; apply Exists.intro; refine ⟨fun v1 => ?_, ?_⟩; (· (go_simp; rfl)); simp only [Act.put, List.setIfInBounds_toArray, List.set_cons_zero, List.set_cons_succ]
            have Ff := block_frozen hp1
            have hput : (putRow Wf g (q * 8) (rwc x)).heap[g]? = some (.cells (rws A' ++ (rwc x ++ (rwc y ++ (rws (B ++ suf) ++ post)))).toArray 69 (0, 0)) := by
              have := putRow_mid (rwc x) (rws A') (rwc y) (rwc y ++ (rws (B ++ suf) ++ post)) Wf hp1 rfl
              rw [hrl] at this
              exact this
            have hbp : But (fun b => b = g) Wf (putRow Wf g (q * 8) (rwc x)) := putRow_but (E := fun b => b = g) rfl _ _ _ _ (But.refl _ _)
            have HPUT := hide hput
            have HBP := hide hbp
            clear hput hbp
            refine anyU_one 17 rfl (by kernel_rfl) (by rfl) ?_
            unfold Oper.wp
            go_simp
            refine ⟨Rj_in (by rfl) HBP.out, ?_⟩
            change wpAnyU _ _ _ _ _ _ _ _ _ _ (putRow Wf g (q * 8) (rwc x))
            have hp2 := HPUT.out
            have hbg := hbf.trans HBP.out
            clear c0 c1 c2 c3 c4 c5 c6 c7 HPUT HBP hp1 hbf Ff
            generalize putRow Wf g (q * 8) (rwc x) = Wg at *
            refine anyU_done (by kernel_rfl) ?_
            have HREL : Hid (∃ A B, P = A ++ B ∧ (Value.int .i64 (q : Int)) = .int .i64 (A.length : Int) ∧ (∀ e ∈ B, ltR x e = true) ∧ Wg.heap[g]? = some (.cells (rws A ++ (rwc x ++ (rws (B ++ suf) ++ post))).toArray 69 (0, 0)) ∧ But (fun b => b = g) w Wg) :=
              ⟨A', y :: B, by rw [HAB.out]; simp, by rw [HQQ.out], fun e he => by
                rcases List.mem_cons.1 he with rfl | he
                · rw [HLT.out]; simpa using ho
                · exact hB e he, by rw [hp2, List.cons_append, rws_cons]; simp, hbg⟩
            go_wp2_with fail
            go_roundw
            case rel => exact HREL.out
            case measure => simp [intOf]; omega
          · refine anyT_valG Later.pre 15 rfl (by kernel_rfl) (by kernel_rfl) (by kernel_rfl) (fun _ _ _ _ h => h) (by rfl) ?_; apply Exists.intro; refine ⟨fun v1 hv1 => ?_, ?_⟩; (· (go_simp; rfl)); simp only [Act.put, List.setIfInBounds_toArray, List.set_cons_zero, List.set_cons_succ]
            refine anyT_val Later.pre 16 rfl (by kernel_rfl) (by kernel_rfl) (by kernel_rfl) (fun _ _ _ _ h => h) rfl ?_; apply Exists.intro; refine ⟨fun v1 hv1 => ?_, ?_⟩; (· (go_simp; rfl)); simp only [Act.put, List.setIfInBounds_toArray, List.set_cons_zero, List.set_cons_succ]
            refine anyT_done (by kernel_rfl) ?_
            have HREL : Hid (∃ k' : Nat, 1 ≤ k' ∧ k' ≤ l.length ∧ (Value.int .i64 ((k : Int) + 1)) = .int .i64 (k' : Int) ∧ W1.heap[g]? = some (.cells (rws (isort (l.take k') ++ l.drop k') ++ post).toArray 69 (0, 0)) ∧ But (fun b => b = g) w W1) :=
              ⟨k + 1, by omega, by omega, by simp, by
                rw [HTK.out, HSF.out, HAB.out, insF_eq hB (fun e he => by
                  obtain rfl : e = y := by simpa using he.symm
                  rw [HLT.out]; simpa using ho), hc1]
                simp [rws], hb1'⟩
            go_wp2_with fail
            go_roundw
            case rel => exact HREL.out
            case measure => simp [intOf]; omega
    · obtain rfl : k = l.length := by omega
      rw [List.take_length, List.drop_length, List.append_nil] at hcr
      go_wp2_with fail
      go_end0
      exact ⟨⟨_, rfl⟩, hcr, hbt⟩

set_option maxHeartbeats 2000000 in
theorem pdq_few (g cap : Nat) (l : List Rw) (post : List Value) (lm : Int) (w : World) (hl1 : 1 ≤ l.length) (hl : l.length ≤ 12) (hcap : l.length ≤ cap ∧ cap ≤ 9223372036854775807)
    (hh : w.heap[g]? = some (.cells (rws l ++ post).toArray 69 (0, 0))) :
    Calls Try.prog 48 #[.slice (some ⟨g, 0, none⟩) l.length cap, .int .i64 0, .int .i64 (l.length : Int), .int .i64 lm, .func (.func 32) #[] #[]] w fun e w' => (∃ u, e = .returned u) ∧ w'.heap[g]? = some (.cells (rws (isort l) ++ post).toArray 69 (0, 0)) ∧ But (fun b => b = g) w w' := by
  have h1 : (l.length : Int) ≤ 12 := by omega
  go_enter Try.func48, Try.ntmps48
  go_wp2_with fail
  go_loopw [1, 2] (fun a b wr => a = .int .i64 0 ∧ b = .int .i64 (l.length : Int) ∧ wr = w) (fun _ _ _ => 0)
  case atStart => exact ⟨rfl, rfl, rfl⟩
  case round =>
    obtain ⟨rfl, rfl, rfl⟩ := hrel
    go_wp2_with fail
    refine (insert_any g cap l post wr hl1 hl hcap hh).mono ?_
    rintro e w1 ⟨⟨v, rfl⟩, hc, hb⟩
    go_wp2_with fail
    refine bodyPost_ret (results_none rfl _ _ _) rfl ?_
    exact ⟨⟨_, rfl⟩, hc, hb⟩

set_option maxHeartbeats 2000000 in
theorem sorts_few (l : List Rw) (hl : l.length ≤ 12) : SortsTo l (isort l) := by
  by_cases h0 : l.length = 0
  · obtain rfl : l = [] := List.eq_nil_of_length_eq_zero h0
    exact sorts_one [] (by simp)
  refine ⟨isort_length l, fun base v W hv => ?_⟩
  obtain ⟨h1, ⟨_, e⟩ | ⟨g, cap, cur, rfl, hgb, hh, hlc, hm, hs, hc⟩⟩ := hv
  · exact absurd e h0
  obtain ⟨post, hpost⟩ : ∃ post, cur.toList = rws l ++ post := ⟨cur.toList.drop (l.length * 8), by rw [← hc, List.take_append_drop]⟩
  have hh' : W.heap[g]? = some (.cells (rws l ++ post).toArray 69 (0, 0)) := by
    rw [hh, ← hpost]
  have hn : (l.length : Int) ≤ 12 := by omega
  have hm' : cap ≤ 9223372036854775807 := by simpa [maxLen] using hm
  have hpl : (rws (isort l) ++ post).length = cur.size := by
    have := congrArg List.length hpost
    rw [List.length_append, rws_length, Array.length_toList] at this
    rw [List.length_append, rws_length, isort_length]
    omega
  have HF : Hid (∀ W' : World, W'.heap[g]? = some (.cells (rws (isort l) ++ post).toArray 69 (0, 0)) → W'.ownsRow base 69 8 (.slice (some ⟨g, 0, none⟩) l.length cap) l.length (rws (isort l))) := fun W' hW' => by
    refine ⟨by rw [rws_length, isort_length], .inr ⟨g, cap, _, rfl, hgb, hW', hlc, hm, ?_, ?_⟩⟩
    · rw [List.size_toArray, hpl, hs]
    · rw [List.toList_toArray, List.take_left' (by rw [rws_length, isort_length])]
  have HH := hide hh'
  clear hh hh' hc hs hpost hpl h1
  go_enter Try.func31, Try.ntmps31
  go_wp2_with fail
  refine (len_few l.length W hl).mono ?_
  rintro e w1 ⟨⟨v, rfl⟩, rfl⟩
  go_wp2_with fail
  refine (pdq_few g cap l post v w1 (by omega) hl ⟨hlc, hm'⟩ HH.out).mono ?_
  rintro e w2 ⟨⟨v2, rfl⟩, hc2, hb2⟩
  go_wp2_with fail
  go_end0
  exact ⟨⟨_, rfl⟩, HF.out _ hc2, ⟨hb2.os, hb2.tape, hb2.output, hb2.size, fun k hk he => hb2.block k hk (fun e => he (by rw [e]; rfl))⟩⟩
end Go.Proofs.Ytgcglnagigpbdaa

/- The walk of TableLimits. -/
namespace Go.Proofs.Ytgcglnagigpbdaa
open Go.RowKit Go.Shelf
set_option maxRecDepth 100000
set_option linter.unusedVariables false
set_option linter.unusedSimpArgs false

theorem bkr_lt (r : Rw) : bkr r < 256 := by have := hsh_tb r.p r.s r.d r.a r.b; unfold bkr; omega
/-- All rows, list by list, are the document's in another order. -/
theorem Rel.perm {ls : Nat → List Rw} {l : List Rw} (h : Rel ls l) : (allR ls).Perm l := by
  have hn : ∀ m : List Rw, UP m → m.Nodup := fun m hm => List.Pairwise.imp (fun {x y} hxy e => hxy (by rw [e])) hm
  refine (List.perm_ext_iff_of_nodup ?_ (hn _ h.up)).2 fun r => ?_
  · unfold allR List.Nodup
    rw [List.pairwise_flatMap]
    refine ⟨fun i _ => hn _ (h.once i), ?_⟩
    refine List.Pairwise.imp ?_ List.nodup_range
    intro i j hij x hx y hy e
    rw [← h.place i x hx, ← h.place j y hy, e] at hij
    exact hij rfl
  · unfold allR
    rw [List.mem_flatMap, h.mem r]
    constructor
    · rintro ⟨i, _, hr⟩
      rw [h.place i r hr]
      exact hr
    · intro hr
      exact ⟨bkr r, by simpa using bkr_lt r, hr⟩
theorem Rel.due_all {ls : Nat → List Rw} {l : List Rw} {lim : Int} (h : Rel ls l) (hw : Wfl lim l) : duR 1099511627776 (allR ls) = allR ls := by
  unfold duR
  rw [List.filter_eq_self]
  intro r hr
  simpa using (hw.2 r (h.perm.mem_iff.1 hr)).2

set_option maxHeartbeats 8000000 in
theorem walk_TableLimits (w : World) (m : Int) (hm : 0 ≤ m ∧ m ≤ 255) (sv : Value) (ds : List De) (hI : RdE w.heap.size w sv ds) (hd : ∀ d ∈ ds, wfE d) :
    Calls Try.prog 5 #[.int .u8 m, sv] w fun e w' => e = .returned (.bool true) ∧ Below w.heap.size w w' := by
  obtain ⟨aa, ca, rfl, ha1, ha2⟩ := hI.slice
  have hmt : Int.tmod m 8 = m % 8 := Int.tmod_eq_emod_of_nonneg hm.1
  go_enter Try.func5, Try.ntmps5
  go_wp2_with fail
  refine (play6_any w.heap.size m _ ds w hm hI hd (Nat.le_refl _)).mono ?_
  rintro e w1 ⟨l1, bt, bd, rfl, ls, v, l, trn, hT, _, hR, hl1, hl2, ht0, ht1, hwf, _⟩
  have hr1 : 1 ≤ m % 8 + 1 := by omega
  have hr2 : m % 8 + 1 ≤ 8 := by omega
  go_wp2_with fail
  refine (live6_any w1).mono ?_
  rintro e w2 ⟨rfl, l2⟩
  generalize m % 8 + 1 = lim at *
  clear hmt hm
  have hal : (allR ls).length = l.length := hR.perm.length_eq
  have hl8 : l.length ≤ 8 := by have := hwf.1; omega
  have hda := hR.due_all hwf
  have hso : SortsTo (duR 1099511627776 (allR ls)) (isort (allR ls)) := by rw [hda]; exact sorts_few _ (by omega)
  have hT2 := TB.later hT l2
  have L2 := l1.trans l2
  clear hT l1 l2 hda hR
  have hil : (isort (allR ls)).length = l.length := by rw [isort_length, hal]
  have HDU := hide (fun (W : World) (hW : TB w.heap.size W bt lim (l.length : Nat) trn ls) => due_any w.heap.size bt lim (l.length : Nat) trn 1099511627776 ls _ W hW hso (by omega))
  have HLS : Hid (∀ i, (ls i).length ≤ 100) := hl1
  clear hl1
  have hc := hwf.1
  clear hwf hso hal
  rw [hil] at HDU
  clear hil
  generalize l.length = c at *
  have hcn : ¬ lim < (c : Int) := by omega
  have hs2 := L2.size
  go_wp2_with fail
  refine (len_any _ bt lim c trn ls w2 hT2).mono ?_
  rintro e w3 ⟨rfl, l3⟩
  have hT3 := TB.later hT2 l3
  have L3 := L2.trans l3
  clear hT2 L2 l3
  go_wp2_with fail
  refine (len_any _ bt lim c trn ls w3 hT3).mono ?_
  rintro e w4 ⟨rfl, l4⟩
  have hT4 := TB.later hT3 l4
  have L4 := L3.trans l4
  clear hT3 L3 l4
  go_wp2_with fail
  refine (HDU.out w4 hT4).mono ?_
  rintro e w5 ⟨l5, g5, rfl, _, _⟩
  have hT5 := TB.later hT4 l5
  have L5 := L4.trans l5
  clear hT4 L4 l5 HDU
  go_upto_region 6 with fail
  have lb : Later w5 (w5.alloc (.cells #[.int .u8 255, .int .u32 77, .int .u32 0, .int .u16 0, .int .u16 9] 26)) := (Below.refl _ _).alloc (Nat.le_refl _) _
  have c6 := heap_alloc_new w5 (.cells #[.int .u8 255, .int .u32 77, .int .u32 0, .int .u16 0, .int .u16 9] 26)
  have hT6 := TB.later hT5 lb
  have L6 := L5.trans lb
  have hs5 := L5.size
  clear hT5 L5 lb
  generalize hbk : w5.heap.size = bk at *
  clear hbk
  generalize w5.alloc _ = w6 at *
  have k6 := block_cell c6
  go_wp2_with fail
  refine (get_any _ bt lim c trn ls 255 77 0 0 9 w6 hT6 (by omega) (by omega) (by omega) (by omega)).mono ?_
  rintro e w7 ⟨l7, rfl⟩
  obtain ⟨vs, hT7⟩ := TB.later hT6 l7
  have L7 := L6.trans l7
  have c7 := later_keep l7 c6
  have hs7 := L7.size
  clear hT6 L6 l7 c6 k6
  have k7 := block_cell c7
  have HPU := hide (put_any w.heap.size bt lim c trn vs ls 255 77 0 0 9 1 1 w7 hT7 (by omega) (by omega) (by omega) (by omega) hs7 (by omega) (by omega) (by omega) (by have := HLS.out (bki 255 77 0 0 9); omega))
  by_cases hk : kx 255 77 0 0 9 ls = none
  · have hg : gtv 255 77 0 0 9 ls = .tuple #[.int .i64 0, .int .i64 0, .bool false] := by unfold gtv; rw [hk]
    rw [hg]
    clear hg
    by_cases hf : lim ≤ (c : Int)
    · have hp : pute lim c ls 255 77 0 0 9 1 = 9 := by unfold pute; rw [if_neg (by decide), if_neg (by simp [hk]), if_pos hf]
      rw [hp] at HPU
      obtain rfl : lim = (c : Int) := by omega
      clear hk hp hf hc hcn
      go_wp2_with fail
      refine HPU.out.mono ?_
      rintro e w8 ⟨rfl, ⟨_, hT8, l8⟩ | ⟨h0, _⟩⟩
      · have L8 := L7.trans l8
        clear HPU hT7 L7 l8 c7 k7
        go_wp2_with fail
        refine (len_any _ bt c c trn ls w8 ⟨vs, hT8⟩).mono ?_
        rintro e w9 ⟨rfl, l9⟩
        have L9 := L8.trans l9
        clear hT8 L8 l9
        go_wp2_with fail
        go_ret
        exact ⟨by simp, L9⟩
      · cases h0
    · have hp : pute lim c ls 255 77 0 0 9 1 = 0 := by unfold pute; rw [if_neg (by decide), if_neg (by simp [hk]), if_neg hf]
      rw [hp] at HPU
      clear hk hp
      have hc1 : (c : Int) + 1 ≤ lim := by omega
      go_wp2_with fail
      refine HPU.out.mono ?_
      rintro e w8 ⟨rfl, ⟨h0, _⟩ | ⟨_, hT8, hb8⟩⟩
      · exact absurd rfl h0
      · have L8 : Below w.heap.size w w8 := Below.trans L7 (hT7.below_but _ (bki_lt _ _ _ _ _) hs7 hb8)
        clear HPU hT7 L7 hb8 c7 k7
        go_wp2_with fail
        refine (len_any _ bt lim _ _ _ w8 hT8).mono ?_
        rintro e w9 ⟨rfl, l9⟩
        have L9 : Below w.heap.size w w9 := Below.trans L8 (l9.mono L8.size)
        clear hT8 L8 l9
        go_wp2_with fail
        go_ret
        exact ⟨by simp, L9⟩
  · obtain ⟨k, hk2⟩ := Option.ne_none_iff_exists'.1 hk
    have hp : pute lim c ls 255 77 0 0 9 1 = 10 := by unfold pute; rw [if_neg (by decide), if_pos hk]
    rw [hp] at HPU
    have hg : ∃ x y, gtv 255 77 0 0 9 ls = .tuple #[.int .i64 x, .int .i64 y, .bool true] := by
      unfold gtv
      rw [hk2]
      obtain ⟨hkl, _⟩ := kix_at hk2
      simp only [List.getElem?_eq_getElem hkl]
      exact ⟨_, _, rfl⟩
    obtain ⟨x, y, hg⟩ := hg
    rw [hg]
    clear hg hp hk hk2
    go_wp2_with fail
    refine HPU.out.mono ?_
    rintro e w8 ⟨rfl, ⟨_, hT8, l8⟩ | ⟨h0, _⟩⟩
    · have L8 := L7.trans l8
      clear HPU hT7 L7 l8 c7 k7
      go_wp2_with fail
      go_ret
      exact ⟨by simp, L8⟩
    · cases h0
end Go.Proofs.Ytgcglnagigpbdaa

/- What sorting tells: a permutation, in order; what is due of it. -/
namespace Go.Proofs.Ytgcglnagigpbdaa
open Go.RowKit Go.Shelf
set_option maxRecDepth 100000
set_option linter.unusedVariables false
set_option linter.unusedSimpArgs false

theorem ltR_iff {x y : Rw} : ltR x y = true ↔ x.till < y.till ∨ (x.till = y.till ∧ x.turn < y.turn) := by
  unfold ltR ordv orv cmpv
  rw [decide_eq_true_iff]
  split <;> split at * <;> (try split at *) <;> (try split at *) <;> omega
theorem insF_perm (x : Rw) (P : List Rw) : (insF x P).Perm (x :: P) := by
  unfold insF
  have h : (P.reverse.takeWhile (ltR x) ++ P.reverse.dropWhile (ltR x)).reverse = P := by rw [List.takeWhile_append_dropWhile, List.reverse_reverse]
  rw [List.reverse_append] at h
  have h2 := List.perm_middle (a := x) (l₁ := (P.reverse.dropWhile (ltR x)).reverse) (l₂ := (P.reverse.takeWhile (ltR x)).reverse)
  rw [h] at h2
  exact h2
theorem isort_perm (l : List Rw) : (isort l).Perm l := by
  have : ∀ (m P : List Rw), (m.foldl (fun P x => insF x P) P).Perm (P ++ m) := by
    intro m
    induction m with
    | nil => intro P; simp
    | cons x m ih =>
      intro P
      rw [List.foldl_cons]
      refine (ih _).trans ?_
      refine ((insF_perm x P).append_right m).trans ?_
      rw [List.cons_append]
      exact List.perm_middle.symm
  unfold isort
  simpa using this l []
/-- In order: what stands behind does not stand ahead. -/
def InO (l : List Rw) : Prop := l.Pairwise (fun x y => ltR y x = false)
theorem ltR_false {x y : Rw} : ltR x y = false ↔ ¬ (x.till < y.till ∨ (x.till = y.till ∧ x.turn < y.turn)) := by
  rw [← ltR_iff]
  simp
theorem ltR_step {x y z : Rw} (h1 : ltR y x = false) (h2 : ltR z y = false) : ltR z x = false := by
  rw [ltR_false] at *
  omega
theorem insF_inO {x : Rw} {P : List Rw} (h : InO P) : InO (insF x P) := by
  have hP : P = (P.reverse.dropWhile (ltR x)).reverse ++ (P.reverse.takeWhile (ltR x)).reverse := by
    rw [← List.reverse_append, List.takeWhile_append_dropWhile, List.reverse_reverse]
  have hB : ∀ e ∈ (P.reverse.takeWhile (ltR x)).reverse, ltR x e = true := fun e he => by
    have := List.all_takeWhile (p := ltR x) (l := P.reverse)
    rw [List.all_eq_true] at this
    exact this e (List.mem_reverse.1 he)
  have hA : ∀ e, (P.reverse.dropWhile (ltR x)).head? = some e → ltR x e = false := fun e he => by
    have := List.head?_dropWhile_not (ltR x) P.reverse
    rw [he] at this
    simpa using this
  unfold insF
  generalize hAe : (P.reverse.dropWhile (ltR x)).reverse = A at *
  generalize (P.reverse.takeWhile (ltR x)).reverse = B at *
  have hA' : ∀ e, A.getLast? = some e → ltR x e = false := fun e he => hA e (by rw [← hAe, List.getLast?_reverse] at he; exact he)
  unfold InO at *
  rw [hP] at h
  obtain ⟨h1, h2, h3⟩ := List.pairwise_append.1 h
  have hAx : ∀ e ∈ A, ltR x e = false := fun e he => by
    obtain ⟨A', y, rfl⟩ : ∃ A' y, A = A' ++ [y] := ⟨A.dropLast, A.getLast (List.ne_nil_of_mem he), (List.dropLast_concat_getLast (List.ne_nil_of_mem he)).symm⟩
    have hy := hA' y (by simp)
    rcases List.mem_append.1 he with he | he
    · exact ltR_step ((List.pairwise_append.1 h1).2.2 e he y (by simp)) hy
    · obtain rfl : e = y := by simpa using he
      exact hy
  refine List.pairwise_append.2 ⟨h1, List.pairwise_cons.2 ⟨fun e he => ?_, h2⟩, fun e he z hz => ?_⟩
  · have := hB e he
    rw [ltR_iff] at this
    rw [ltR_false]
    omega
  · rcases List.mem_cons.1 hz with rfl | hz
    · exact hAx e he
    · exact h3 e he z hz
theorem isort_inO (l : List Rw) : InO (isort l) := by
  have : ∀ (m P : List Rw), InO P → InO (m.foldl (fun P x => insF x P) P) := by
    intro m
    induction m with
    | nil => intro P h; exact h
    | cons x m ih => intro P h; exact ih _ (insF_inO h)
  exact this l [] List.Pairwise.nil
/-- Rows whose turns differ stand in one order alone. -/
theorem inO_unique : ∀ {l m : List Rw}, l.Perm m → InO l → InO m → l.Pairwise (fun x y => x.turn ≠ y.turn) → l = m
  | [], m, hp, _, _, _ => (List.Perm.nil_eq hp)
  | x :: l, [], hp, _, _, _ => absurd hp.length_eq (by simp)
  | x :: l, y :: m, hp, h1, h2, hd => by
    have hxy : x = y := by
      have hx : x ∈ y :: m := hp.mem_iff.1 (by simp)
      have hy : y ∈ x :: l := hp.mem_iff.2 (by simp)
      rcases List.mem_cons.1 hx with e | hx
      · exact e
      · rcases List.mem_cons.1 hy with e | hy
        · exact e.symm
        · have a1 := (List.pairwise_cons.1 h1).1 y hy
          have a2 := (List.pairwise_cons.1 h2).1 x hx
          have a3 := (List.pairwise_cons.1 hd).1 y hy
          rw [ltR_false] at a1 a2
          omega
    subst hxy
    rw [inO_unique ((List.perm_cons x).1 hp) (List.pairwise_cons.1 h1).2 (List.pairwise_cons.1 h2).2 (List.pairwise_cons.1 hd).2]
/-- What is due earlier is the beginning of what is due later. -/
theorem inO_due {l : List Rw} (h : InO l) (now : Int) : duR now l = l.take (duR now l).length := by
  induction l with
  | nil => rfl
  | cons x l ih =>
    have h' := List.pairwise_cons.1 h
    unfold duR at *
    by_cases hx : x.till ≤ now
    · rw [List.filter_cons_of_pos (by simpa using hx)]
      rw [List.length_cons, List.take_succ_cons]
      congr 1
      exact ih h'.2
    · have : (x :: l).filter (fun r => decide (r.till ≤ now)) = [] := by
        rw [List.filter_eq_nil_iff]
        intro e he
        rcases List.mem_cons.1 he with rfl | he
        · simpa using hx
        · have := h'.1 e he
          rw [ltR_false] at this
          simp
          omega
      rw [this]
      rfl
theorem InO.due {l : List Rw} (h : InO l) (now : Int) : InO (duR now l) := List.Pairwise.filter _ h
/-- Sorting what is due is what is due of the sorted rows. -/
theorem isort_due {l : List Rw} (hd : l.Pairwise (fun x y => x.turn ≠ y.turn)) (now : Int) : isort (duR now l) = duR now (isort l) := by
  refine inO_unique ?_ (isort_inO _) ((isort_inO l).due now) ?_
  · exact (isort_perm _).trans ((isort_perm l).filter _).symm
  · refine ((isort_perm (duR now l)).pairwise_iff (fun {x y} h e => h e.symm)).2 ?_
    exact List.Pairwise.filter _ hd
end Go.Proofs.Ytgcglnagigpbdaa

/- What TableDue asks: keys of rows, row by row; the same keys. -/
namespace Go.Proofs.Ytgcglnagigpbdaa
open Go.RowKit Go.Shelf
set_option maxRecDepth 100000
set_option linter.unusedVariables false
set_option linter.unusedSimpArgs false

theorem rks_at : ∀ (l : List Rw) (j i : Nat) (hj : j < l.length), i < 5 → (rks l)[j * 5 + i]? = (rwk l[j])[i]?
  | r :: l, 0, i, _, hi => by
    unfold rks
    rw [List.flatMap_cons, List.getElem?_append_left (by simp [rwk]; omega)]
    simp
  | r :: l, j + 1, i, hj, hi => by
    have := rks_at l j i (by simpa using hj) hi
    unfold rks at this ⊢
    rw [List.flatMap_cons, List.getElem?_append_right (by simp [rwk]; omega)]
    rw [show (j + 1) * 5 + i - (rwk r).length = j * 5 + i from by simp [rwk]; omega, this]
    simp
/-- In order: a row's time is up just where it stands ahead of all that is not due. -/
theorem inO_due_iff {l : List Rw} (h : InO l) (now : Int) (i : Nat) (hi : i < l.length) : l[i].till ≤ now ↔ i < (duR now l).length := by
  constructor
  · intro ht
    have h2 : ∀ j (hj : j < l.length), j ≤ i → l[j].till ≤ now := fun j hj hji => by
      rcases Nat.lt_or_eq_of_le hji with hlt | rfl
      · have := List.pairwise_iff_getElem.1 h j i hj hi hlt
        rw [ltR_false] at this
        omega
      · exact ht
    have h3 : (l.take (i + 1)).filter (fun r => decide (r.till ≤ now)) = l.take (i + 1) := by
      rw [List.filter_eq_self]
      intro r hr
      obtain ⟨j, hj, rfl⟩ := List.getElem_of_mem hr
      rw [List.getElem_take]
      simpa using h2 j (by simp at hj; omega) (by simp at hj; omega)
    unfold duR
    conv => rhs; rw [← List.take_append_drop (i + 1) l]
    rw [List.filter_append, h3, List.length_append, List.length_take]
    omega
  · intro hlt
    have e := inO_due h now
    have hm : l[i] ∈ duR now l := by
      rw [e]
      exact List.mem_iff_getElem.2 ⟨i, by rw [List.length_take]; omega, by rw [List.getElem_take]⟩
    unfold duR at hm
    simpa using (List.mem_filter.1 hm).2
theorem due_due {l : List Rw} {a b : Int} (h : a ≤ b) : duR a (duR b l) = duR a l := by
  unfold duR
  rw [List.filter_filter]
  congr 1
  funext r
  simp
  omega
/-- Get of a key that stands in the table answers its row. -/
theorem Rel.gtv {ls : Nat → List Rw} {l : List Rw} (h : Rel ls l) {r : Rw} (hr : r ∈ l) (hk : kyp r.p r.a = r.a) : gtv r.p r.s r.d r.a r.b ls = .tuple #[.int .i64 r.id, .int .i64 r.till, .bool true] := by
  have hb : bki r.p r.s r.d r.a r.b = bkr r := by unfold bki bkr; rw [hk]
  have hm := (h.mem r).1 hr
  obtain ⟨i, hi, e⟩ := List.getElem_of_mem hm
  have hself : isK r.p r.s r.d r.a r.b r = true := isK_iff.2 rfl
  have hx : kx r.p r.s r.d r.a r.b ls = some i := by
    unfold kx
    rw [hb, hk]
    cases hn : kix r.p r.s r.d r.a r.b (ls (bkr r)) with
    | none =>
      have := kix_none_iff.1 hn r hm
      rw [hself] at this
      cases this
    | some j =>
      obtain ⟨hj, hj2⟩ := kix_at hn
      rw [h.uq _ r.p r.s r.d r.a r.b j i hj hi hj2 (by rw [e]; exact hself)]
  unfold Go.Proofs.Ytgcglnagigpbdaa.gtv
  rw [hx, hb]
  simp only [List.getElem?_eq_getElem hi, e]
end Go.Proofs.Ytgcglnagigpbdaa

/- The law's sameKeys. -/
namespace Go.Proofs.Ytgcglnagigpbdaa
open Go.RowKit Go.Shelf
set_option maxRecDepth 100000
set_option linter.unusedVariables false
set_option linter.unusedSimpArgs false

theorem keys_at {w : World} {g : Nat} {X : List Rw} (h : w.heap[g]? = some (.cells (rks X).toArray 26 (0, 0))) (k : Nat) (hk : k < X.length) (i : Nat) (hi : i < 5) : w.cell? ⟨g, k * 5 + i, none⟩ = (rwk X[k])[i]? := by
  rw [block_cell h, List.getElem?_toArray, rks_at X k i hk hi]

set_option maxHeartbeats 4000000 in
theorem sameKeys_yes (ga gb cb : Nat) (X Y : List Rw) (w : World) (hx : w.heap[ga]? = some (.cells (rks X).toArray 26 (0, 0))) (hy : w.heap[gb]? = some (.cells (rks Y).toArray 26 (0, 0))) (hXY : X = Y.take X.length) (hl : X.length ≤ 100) (hc : X.length ≤ cb ∧ cb ≤ 1000) :
    Calls Try.prog 13 #[.slice (some ⟨ga, 0, none⟩) X.length X.length, .slice (some ⟨gb, 0, none⟩) X.length cb] w fun e w' => e = .returned (.bool true) ∧ Below w.heap.size w w' := by
  have HXY := hide hXY
  have HX := hide hx
  have HY := hide hy
  clear hXY hx hy
  go_enter Try.func13, Try.ntmps13
  go_wp2_with fail
  go_loopw [5] (fun i wr => ∃ k : Nat, k ≤ X.length ∧ i = .int .i64 (k : Int) ∧ Later w wr) (fun i _ => X.length - (intOf i).toNat)
  case atStart => exact ⟨0, by omega, rfl, Below.refl _ _⟩
  case round =>
    obtain ⟨k, hk, rfl, hlw⟩ := hrel
    by_cases hlt : k < X.length
    · have hlt' : (k : Int) < X.length := by omega
      have hYl : k < Y.length := by
        have := congrArg List.length HXY.out
        rw [List.length_take] at this
        omega
      have hxy : X[k] = Y[k] := by
        have e : X[k]? = Y[k]? := by
          rw [HXY.out, List.getElem?_take, if_pos hlt]
        rw [List.getElem?_eq_getElem hlt, List.getElem?_eq_getElem hYl] at e
        simpa using e
      have fx := keys_at (later_keep hlw HX.out) k hlt
      have fy := keys_at (later_keep hlw HY.out) k hYl
      rw [← hxy] at fy
      have a0 := fx 0 (by omega)
      have a1 := fx 1 (by omega)
      have a2 := fx 2 (by omega)
      have a3 := fx 3 (by omega)
      have a4 := fx 4 (by omega)
      have b0 := fy 0 (by omega)
      have b1 := fy 1 (by omega)
      have b2 := fy 2 (by omega)
      have b3 := fy 3 (by omega)
      have b4 := fy 4 (by omega)
      clear fx fy hxy
      generalize X[k] = r at *
      simp only [rwk, List.getElem?_cons_zero, List.getElem?_cons_succ, Nat.add_zero] at a0 a1 a2 a3 a4 b0 b1 b2 b3 b4
      go_upto_region 6 with fail
      go_quiet (fail)
      have hld : Later w (wr.drewN nq) := hlw.trans (below_draw (Below.refl _ _) nq)
      go_wp2_with fail
      go_roundw
      case rel => exact ⟨k + 1, by omega, by go_num, hld⟩
      case measure => simp [intOf]; omega
    · obtain rfl : k = X.length := by omega
      go_wp2_with fail
      go_ret
      exact ⟨by simp, hlw⟩
end Go.Proofs.Ytgcglnagigpbdaa

/- The walk of TableDue. -/
namespace Go.Proofs.Ytgcglnagigpbdaa
open Go.RowKit Go.Shelf
set_option maxRecDepth 100000
set_option linter.unusedVariables false
set_option linter.unusedSimpArgs false

set_option maxHeartbeats 8000000 in
theorem walk_TableDue (w : World) (m : Int) (hm : 0 ≤ m ∧ m ≤ 255) (sv : Value) (ds : List De) (hI : RdE w.heap.size w sv ds) (hd : ∀ d ∈ ds, wfE d) (x0 : Int) (hx0 : 0 ≤ x0 ∧ x0 ≤ 65535) (x1 : Int) (hx1 : 0 ≤ x1 ∧ x1 ≤ 65535) :
    Calls Try.prog 4 #[.int .u8 m, sv, .agg #[.int .u16 x0, .int .u16 x1]] w fun e w' => e = .returned (.bool true) ∧ Below w.heap.size w w' := by
  obtain ⟨aa, ca, rfl, ha1, ha2⟩ := hI.slice
  have lb0 : Later w (w.alloc (.cells #[.int .u16 x0, .int .u16 x1] 36)) := (Below.refl _ _).alloc (Nat.le_refl _) _
  have c0 := heap_alloc_new w (.cells #[.int .u16 x0, .int .u16 x1] 36)
  go_enter Try.func4, Try.ntmps4
  go_upto_region 1 with fail
  generalize w.alloc _ = w0 at *
  go_wp2_with fail
  refine (play6_any w.heap.size m _ ds w0 hm (hI.below lb0) hd lb0.size).mono ?_
  rintro e w1 ⟨l1, bt, bd, rfl, ls, v, l, trn, hT, _, hR, hl1, hl2, ht0, ht1, hwf, hwt, hwk⟩
  go_wp2_with fail
  refine (live6_any w1).mono ?_
  rintro e w2 ⟨rfl, l2⟩
  have c2 := later_keep (l1.trans l2) c0
  have hT2 := TB.later hT l2
  have L2 := lb0.trans (l1.trans l2)
  have hl8 : l.length ≤ 8 := by have := hwf.1; omega
  clear c0 l1 l2 lb0 hT hl1 hl2 ht0 ht1 hm
  have k2 := block_cell c2
  go_upto_region 4 with fail
  go_quiet (fail)
  have ld : Later w2 (w2.drewN nq) := below_draw (Below.refl _ _) nq
  have hT3 := TB.later hT2 ld
  have L3 := L2.trans ld
  clear hT2 L2 ld c2 k2
  generalize w2.drewN nq = w3 at *
  have HR := hide hR
  have HWF := hide hwf
  have HWT := hide hwt
  have HWK := hide hwk
  have hpm := hR.perm
  have hal : (allR ls).length = l.length := hpm.length_eq
  have hdt : (allR ls).Pairwise (fun x y => x.turn ≠ y.turn) := (hpm.pairwise_iff (fun {x y} h e => h e.symm)).2 hwt.2
  have HPM := hide hpm
  have HDU := hide (fun (W : World) (now : Int) (hW : TB w0.heap.size W bt (m % 8 + 1) (l.length : Nat) trn ls) => by
    have h := due_any w0.heap.size bt (m % 8 + 1) (l.length : Nat) trn now ls _ W hW (sorts_few (duR now (allR ls)) (by have := duR_length now (allR ls); omega)) (by omega)
    rw [isort_due hdt now] at h
    exact h)
  have hSL : (isort (allR ls)).length = l.length := by rw [isort_length, hal]
  have hSO := isort_inO (allR ls)
  have hSM : ∀ r ∈ isort (allR ls), r ∈ l := fun r hr => hpm.mem_iff.1 ((isort_perm _).mem_iff.1 hr)
  clear hR hwf hwt hwk hpm hdt hal
  generalize isort (allR ls) = S at *
  by_cases hgt0 : x1 < x0
  · skip
    have hab : x1 ≤ x0 := by omega
    have hXY : duR x1 S = (duR x0 S).take (duR x1 S).length := by
      have := inO_due (hSO.due x0) x1
      rwa [due_due hab] at this
    have hiff : ∀ i (hi : i < (duR x0 S).length), (duR x0 S)[i].till ≤ x1 ↔ i < (duR x1 S).length := fun i hi => by
      have := inO_due_iff (hSO.due x0) x1 i hi
      rwa [due_due hab] at this
    have hYo := hSO.due x0
    have hYm : ∀ r ∈ duR x0 S, r ∈ l ∧ r.till ≤ x0 := fun r hr => by
      unfold duR at hr
      have := List.mem_filter.1 hr
      exact ⟨hSM r this.1, by simpa using this.2⟩
    have hYl : (duR x0 S).length ≤ 8 := by have := duR_length x0 S; omega
    have hXl : (duR x1 S).length ≤ (duR x0 S).length := by
      have := congrArg List.length hXY
      rw [List.length_take] at this
      omega
    have HDA := hide (fun W => HDU.out W x1)
    have HDB := hide (fun W => HDU.out W x0)
    clear HDU hSO hSM hSL
    generalize duR x1 S = X at *
    generalize duR x0 S = Y at *
    have HXY := hide hXY
    have HIF := hide hiff
    have HYO := hide hYo
    have HYM := hide hYm
    clear hXY hiff hYo hYm
    go_upto_region 7 with fail
    go_wp2_with fail
    refine (HDA.out w3 hT3).mono ?_
    rintro e w4 ⟨l4, gx, rfl, _, hX⟩
    have hT4 := TB.later hT3 l4
    have L4 := L3.trans l4
    clear hT3 L3 l4
    go_wp2_with fail
    refine (HDB.out w4 hT4).mono ?_
    rintro e w5 ⟨l5, gy, rfl, _, hY⟩
    have hT5 := TB.later hT4 l5
    have L5 := L4.trans l5
    have HX5 := hide (later_keep l5 hX)
    have HY5 := hide hY
    clear hT4 L4 l5 hX hY HDA HDB
    have hgt : ¬ (Y.length : Int) < (X.length : Int) := by omega
    have hgtN : ¬ Y.length < X.length := by omega
    go_wp2_with fail
    refine (sameKeys_yes gx gy Y.length X Y w5 HX5.out HY5.out HXY.out (by omega) (by omega)).mono ?_
    rintro e w6 ⟨rfl, l6⟩
    have hT6 := TB.later hT5 l6
    have L6 := L5.trans l6
    have HY6 := hide (later_keep l6 HY5.out)
    clear hT5 L5 l6 HX5 HY5 hgt
    go_wp2_with fail
    go_loopw [14, 15] (fun la i wr => ∃ (k : Nat) (z : Int), k ≤ Y.length ∧ i = .int .i64 (k : Int) ∧ la = .int .i64 z ∧ (∀ hk : k < Y.length, z ≤ Y[k].till) ∧ Later w6 wr) (fun _ i _ => Y.length - (intOf i).toNat)
    case atStart => exact ⟨0, -1, by omega, rfl, rfl, fun hk => by have := (HWF.out.2 _ (HYM.out _ (List.getElem_mem hk)).1).1; omega, Below.refl _ _⟩
    case round =>
      obtain ⟨k, z, hk, rfl, rfl, hz, hlw⟩ := hrel
      by_cases hlt : k < Y.length
      · have hlt' : (k : Int) < Y.length := by omega
        have fy := keys_at (later_keep hlw HY6.out) k hlt
        have hz' := hz hlt
        have hif := HIF.out k hlt
        have hym := HYM.out _ (List.getElem_mem hlt)
        have hwk := HWK.out _ hym.1
        have hgv := HR.out.gtv hym.1 hwk.1
        have hnx : ∀ hk : k + 1 < Y.length, Y[k].till ≤ Y[k + 1].till := fun hk => by
          have := List.pairwise_iff_getElem.1 HYO.out k (k + 1) hlt hk (by omega)
          rw [ltR_false] at this
          omega
        clear hz
        have HNX := hide hnx
        clear hnx
        generalize Y[k] = r at *
        have b0 := fy 0 (by omega)
        have b1 := fy 1 (by omega)
        have b2 := fy 2 (by omega)
        have b3 := fy 3 (by omega)
        have b4 := fy 4 (by omega)
        clear fy
        simp only [rwk, List.getElem?_cons_zero, List.getElem?_cons_succ, Nat.add_zero] at b0 b1 b2 b3 b4
        have t1 : ¬ x0 < r.till := by have := hym.2; omega
        have t2 : ¬ r.till < z := by omega
        have HGV := hide hgv
        have HKD := hide hwk
        clear hgv hwk hym hz'
        have hTr := TB.later hT6 hlw
        go_wp2_with fail
        refine (get_any _ bt _ _ trn ls r.p r.s r.d r.a r.b wr hTr HKD.out.2.1 HKD.out.2.2.1 HKD.out.2.2.2.1 HKD.out.2.2.2.2).mono ?_
        rintro e w7 ⟨l7, rfl⟩
        rw [HGV.out]
        have hlw7 := hlw.trans l7
        clear b0 b1 b2 b3 b4 hTr hlw l7
        by_cases hkx : k < X.length
        · have t3 : r.till ≤ x1 := hif.2 hkx
          have t4 : (k : Int) < X.length := by omega
          clear hif
          go_wp2_with fail
          refine ⟨?_, by simp [intOf]; omega⟩
          refine ⟨k + 1, r.till, by omega, ?_, rfl, HNX.out, hlw7⟩
          first | go_num | simp | (simp; omega)
        · have t3 : ¬ r.till ≤ x1 := fun h => hkx (hif.1 h)
          have t4 : ¬ (k : Int) < X.length := by omega
          clear hif
          go_wp2_with fail
          refine ⟨?_, by simp [intOf]; omega⟩
          refine ⟨k + 1, r.till, by omega, ?_, rfl, HNX.out, hlw7⟩
          first | go_num | simp | (simp; omega)
      · obtain rfl : k = Y.length := by omega
        have L7 := L6.trans hlw
        go_wp2_with fail
        go_ret
        exact ⟨by simp, L7⟩
  · skip
    have hab : x0 ≤ x1 := by omega
    have hXY : duR x0 S = (duR x1 S).take (duR x0 S).length := by
      have := inO_due (hSO.due x1) x0
      rwa [due_due hab] at this
    have hiff : ∀ i (hi : i < (duR x1 S).length), (duR x1 S)[i].till ≤ x0 ↔ i < (duR x0 S).length := fun i hi => by
      have := inO_due_iff (hSO.due x1) x0 i hi
      rwa [due_due hab] at this
    have hYo := hSO.due x1
    have hYm : ∀ r ∈ duR x1 S, r ∈ l ∧ r.till ≤ x1 := fun r hr => by
      unfold duR at hr
      have := List.mem_filter.1 hr
      exact ⟨hSM r this.1, by simpa using this.2⟩
    have hYl : (duR x1 S).length ≤ 8 := by have := duR_length x1 S; omega
    have hXl : (duR x0 S).length ≤ (duR x1 S).length := by
      have := congrArg List.length hXY
      rw [List.length_take] at this
      omega
    have HDA := hide (fun W => HDU.out W x0)
    have HDB := hide (fun W => HDU.out W x1)
    clear HDU hSO hSM hSL
    generalize duR x0 S = X at *
    generalize duR x1 S = Y at *
    have HXY := hide hXY
    have HIF := hide hiff
    have HYO := hide hYo
    have HYM := hide hYm
    clear hXY hiff hYo hYm
    go_upto_region 7 with fail
    go_wp2_with fail
    refine (HDA.out w3 hT3).mono ?_
    rintro e w4 ⟨l4, gx, rfl, _, hX⟩
    have hT4 := TB.later hT3 l4
    have L4 := L3.trans l4
    clear hT3 L3 l4
    go_wp2_with fail
    refine (HDB.out w4 hT4).mono ?_
    rintro e w5 ⟨l5, gy, rfl, _, hY⟩
    have hT5 := TB.later hT4 l5
    have L5 := L4.trans l5
    have HX5 := hide (later_keep l5 hX)
    have HY5 := hide hY
    clear hT4 L4 l5 hX hY HDA HDB
    have hgt : ¬ (Y.length : Int) < (X.length : Int) := by omega
    have hgtN : ¬ Y.length < X.length := by omega
    go_wp2_with fail
    refine (sameKeys_yes gx gy Y.length X Y w5 HX5.out HY5.out HXY.out (by omega) (by omega)).mono ?_
    rintro e w6 ⟨rfl, l6⟩
    have hT6 := TB.later hT5 l6
    have L6 := L5.trans l6
    have HY6 := hide (later_keep l6 HY5.out)
    clear hT5 L5 l6 HX5 HY5 hgt
    go_wp2_with fail
    go_loopw [14, 15] (fun la i wr => ∃ (k : Nat) (z : Int), k ≤ Y.length ∧ i = .int .i64 (k : Int) ∧ la = .int .i64 z ∧ (∀ hk : k < Y.length, z ≤ Y[k].till) ∧ Later w6 wr) (fun _ i _ => Y.length - (intOf i).toNat)
    case atStart => exact ⟨0, -1, by omega, rfl, rfl, fun hk => by have := (HWF.out.2 _ (HYM.out _ (List.getElem_mem hk)).1).1; omega, Below.refl _ _⟩
    case round =>
      obtain ⟨k, z, hk, rfl, rfl, hz, hlw⟩ := hrel
      by_cases hlt : k < Y.length
      · have hlt' : (k : Int) < Y.length := by omega
        have fy := keys_at (later_keep hlw HY6.out) k hlt
        have hz' := hz hlt
        have hif := HIF.out k hlt
        have hym := HYM.out _ (List.getElem_mem hlt)
        have hwk := HWK.out _ hym.1
        have hgv := HR.out.gtv hym.1 hwk.1
        have hnx : ∀ hk : k + 1 < Y.length, Y[k].till ≤ Y[k + 1].till := fun hk => by
          have := List.pairwise_iff_getElem.1 HYO.out k (k + 1) hlt hk (by omega)
          rw [ltR_false] at this
          omega
        clear hz
        have HNX := hide hnx
        clear hnx
        generalize Y[k] = r at *
        have b0 := fy 0 (by omega)
        have b1 := fy 1 (by omega)
        have b2 := fy 2 (by omega)
        have b3 := fy 3 (by omega)
        have b4 := fy 4 (by omega)
        clear fy
        simp only [rwk, List.getElem?_cons_zero, List.getElem?_cons_succ, Nat.add_zero] at b0 b1 b2 b3 b4
        have t1 : ¬ x1 < r.till := by have := hym.2; omega
        have t2 : ¬ r.till < z := by omega
        have HGV := hide hgv
        have HKD := hide hwk
        clear hgv hwk hym hz'
        have hTr := TB.later hT6 hlw
        go_wp2_with fail
        refine (get_any _ bt _ _ trn ls r.p r.s r.d r.a r.b wr hTr HKD.out.2.1 HKD.out.2.2.1 HKD.out.2.2.2.1 HKD.out.2.2.2.2).mono ?_
        rintro e w7 ⟨l7, rfl⟩
        rw [HGV.out]
        have hlw7 := hlw.trans l7
        clear b0 b1 b2 b3 b4 hTr hlw l7
        by_cases hkx : k < X.length
        · have t3 : r.till ≤ x0 := hif.2 hkx
          have t4 : (k : Int) < X.length := by omega
          clear hif
          go_wp2_with fail
          refine ⟨?_, by simp [intOf]; omega⟩
          refine ⟨k + 1, r.till, by omega, ?_, rfl, HNX.out, hlw7⟩
          first | go_num | simp | (simp; omega)
        · have t3 : ¬ r.till ≤ x0 := fun h => hkx (hif.1 h)
          have t4 : ¬ (k : Int) < X.length := by omega
          clear hif
          go_wp2_with fail
          refine ⟨?_, by simp [intOf]; omega⟩
          refine ⟨k + 1, r.till, by omega, ?_, rfl, HNX.out, hlw7⟩
          first | go_num | simp | (simp; omega)
      · obtain rfl : k = Y.length := by omega
        have L7 := L6.trans hlw
        go_wp2_with fail
        go_ret
        exact ⟨by simp, L7⟩
end Go.Proofs.Ytgcglnagigpbdaa

/- How arguments that are arrays of two words read: their values are numbers within their kinds. -/
namespace Go.Proofs.Ytgcglnagigpbdaa
open Go.ChangeShapes Go.WideShapes Go.ChangeAt Go.RowKit Go.Joins
set_option maxRecDepth 100000

section
variable {H : Type} {enc : TypeId × Value → H} {P : Program} {w : World} {base : Nat} {spare : Nat → Bool} {held : Bool}
/-- An array of two uint16, by value. -/
theorem open_arr2 {r : Reach} {b0 : Nat} {t e : TypeId} {v : Value} {d : DataW H} {p : List MemPlace} (ht : P.underlying t = some (.array 2 e)) (he : P.underlying e = some (.int .u16)) (hce : P.cellsOf e = 1) (hct : P.cellsOf t = 2)
    (hv : Value.okWide P w r b0 t v) (h : DataW.Trod enc P w base spare held t v d p) :
    ∃ x y, v = .agg #[.int .u16 x, .int .u16 y] ∧ (0 ≤ x ∧ x ≤ 65535) ∧ (0 ≤ y ∧ y ≤ 65535) := by
  obtain ⟨cs, rfl, hsz, _⟩ : ∃ cs, v = .agg cs ∧ cs.size = P.cellsOf t ∧ Row.okWide P w r b0 t cs := by
    simpa [Value.okWide, ht] using hv
  obtain ⟨c0, c1, rfl⟩ := array2 (hsz.trans hct)
  obtain ⟨fuel, hf⟩ := h
  obtain ⟨xs, m, _, _, _, hl, hel⟩ := DataW.trod_array ht hf
  match xs, hl with
  | [y0, y1], _ =>
    have e0 := hel 0 (by omega)
    have e1 := hel 1 (by omega)
    rw [hce] at e0 e1
    simp [Value.cells] at e0 e1
    obtain ⟨x, hx, _, wx⟩ := DataW.trod_int he e0
    obtain ⟨y, hy, _, wy⟩ := DataW.trod_int he e1
    simp at hx hy
    subst hx hy
    exact ⟨x, y, rfl, by simpa [Lit.wf, IntKind.min, IntKind.max, IntKind.signed, IntKind.bits] using wx, by simpa [Lit.wf, IntKind.min, IntKind.max, IntKind.signed, IntKind.bits] using wy⟩
end
end Go.Proofs.Ytgcglnagigpbdaa
