/- Several texts in one. -/
import Derived.Test.YtjkhblfgadnjfaaDoorX2
import Derived.Lib.ConvBytes
import Derived.Lib.AppendIntMem
import Derived.Laws.AppendOwn
import Derived.Test.YtjkhblfgadnjfaaDoorCards
import Derived.Test.YtjkhblfgadnjfaaDoorTie
import Derived.WalkKit
import Derived.ProofKit
import Derived.OpenShut
import Derived.PinnedBridge
import Derived.Lib.LaidIn
import Derived.Lib.LaidU8T
import Derived.Deep.DeepHandedRow
import Derived.Lib.LaidTab
import Derived.Lib.TrailingZeros
import Derived.SizedLaws
import Derived.Lib.SmallJoins
import Derived.Test.YtjkhblfgadnjfaaDoorW4
import Derived.Test.YtjkhblfgadnjfaaDoorRows
import Derived.Test.YtjkhblfgadnjfaaDoorRs
/- Package ftp: Find, of any bytes. -/
namespace Go.Proofs.YtjkhblfgadnjfaaDoor
open Go.RowKit Go.Shelf
set_option maxRecDepth 100000
set_option linter.unusedVariables false
set_option linter.unusedSimpArgs false

/-- What a line names, without its end. -/
def fnd (zs : List Int) (back : Bool) : Value := if (kdV zs 0 back).1 = 1 then fd1 zs (kdV zs 0 back).2 else if (kdV zs 0 back).1 = 2 then fd2 zs (kdV zs 0 back).2 else if (kdV zs 0 back).1 = 3 then fd3 zs (kdV zs 0 back).2 else if (kdV zs 0 back).1 = 4 then fd4 zs (kdV zs 0 back).2 else fdN
/-- What bytes name. -/
def fndB (zs : List Int) (back : Bool) : Value := if oneL zs = true then fnd (zs.take (zs.length - 2)) back else fdN
theorem kdV_rng (zs : List Int) (back : Bool) : ((kdV zs 0 back).1 = 0 ∨ (kdV zs 0 back).1 = 1 ∨ (kdV zs 0 back).1 = 2 ∨ (kdV zs 0 back).1 = 3 ∨ (kdV zs 0 back).1 = 4) ∧ (kdV zs 0 back).2 ≤ zs.length := by
  unfold kdV
  have h1 : tkB zs 0 tPort = true → 5 ≤ zs.length := fun h => by have := tkB_le h; simpa [tPort, ByteArray.size] using this
  have h2 : tkB zs 0 tEprt = true → 5 ≤ zs.length := fun h => by have := tkB_le h; simpa [tEprt, ByteArray.size] using this
  have h3 : tkB zs 0 t227 = true → 4 ≤ zs.length := fun h => by have := tkB_le h; simpa [t227, ByteArray.size] using this
  have h4 : tkB zs 0 t229 = true → 4 ≤ zs.length := fun h => by have := tkB_le h; simpa [t229, ByteArray.size] using this
  split
  · split
    · rename_i h; exact ⟨by simp, by have := h1 h; omega⟩
    · split
      · rename_i h; exact ⟨by simp, by have := h2 h; omega⟩
      · exact ⟨by simp, by simp⟩
  · split
    · rename_i h; exact ⟨by simp, by have := h3 h; omega⟩
    · split
      · rename_i h; exact ⟨by simp, by have := h4 h; omega⟩
      · exact ⟨by simp, by simp⟩

theorem find_line (sv : Value) (back : Bool) (bb off cp : Nat) (zs : List Int) (w : World) (hl : zs.length ≤ 1000) (hI : Rd w.heap.size w (.slice (some ⟨bb, off, none⟩) zs.length cp) zs) (hz : Mt.By zs) (hcp : zs.length < cp) (HL : ∀ W, Later w W → Calls Tryd.prog 15 #[sv] W fun e w' => e = .returned (.slice (some ⟨bb, off, none⟩) zs.length cp) ∧ Later W w') :
    Calls Tryd.prog 9 #[sv, .bool back] w fun e w' => e = .returned (fnd zs back) ∧ Below w.heap.size w w' := by
  obtain ⟨hk, hp⟩ := kdV_rng zs back
  unfold fnd
  rcases hk with hk | hk | hk | hk | hk
  · rw [if_neg (by omega), if_neg (by omega), if_neg (by omega), if_neg (by omega)]
    exact find_k0 sv back bb off cp zs w hl hI hk HL
  · rw [if_pos hk]
    exact find_k1 sv back bb off cp zs w hl hI hz (by omega) hk hp HL
  · rw [if_neg (by omega), if_pos hk]
    exact find_k2 sv back bb off cp zs w hl hI hz (by omega) hk hp HL
  · rw [if_neg (by omega), if_neg (by omega), if_pos hk]
    exact find_k3 sv back bb off cp zs w hl hI hz hcp hk hp HL
  · rw [if_neg (by omega), if_neg (by omega), if_neg (by omega), if_pos hk]
    exact find_k4 sv back bb off cp zs w hl hI hz hcp hk hp HL
theorem oneL_len {zs : List Int} (h : oneL zs = true) : 2 ≤ zs.length ∧ zs.length ≤ 128 := by
  unfold oneL endB at h
  simp at h
  omega

theorem find_any (sv : Value) (zs : List Int) (back : Bool) (w : World) (hT : TabR w) (hB : Mt.By zs) (hI : Rd w.heap.size w sv zs) :
    Calls Tryd.prog 9 #[sv, .bool back] w fun e w' => e = .returned (fndB zs back) ∧ Below w.heap.size w w' := by
  rcases hI with ⟨a, c, rfl, rfl, hc⟩ | ⟨bb, off, cp, rfl, hne, hl, hm, hb, hcell⟩
  · rw [show fndB [] back = fdN from rfl]
    exact find_nil _ back w (fun W _ => lineOf_nil a c W)
  · have hI : Rd w.heap.size w (.slice (some ⟨bb, off, none⟩) zs.length cp) zs := .inr ⟨bb, off, cp, rfl, hne, hl, hm, hb, hcell⟩
    cases h1 : oneL zs with
    | false =>
      rw [show fndB zs back = fdN from by unfold fndB; rw [if_neg (by rw [h1]; simp)]]
      exact find_nil _ back w (fun W l => (lineOf_some bb off cp zs W (hT.later l) hB (hI.later l)).mono fun e w' h => ⟨by rw [h.1, lineV_no h1], h.2⟩)
    | true =>
      obtain ⟨h2, h128⟩ := oneL_len h1
      have hl2 : (zs.take (zs.length - 2)).length = zs.length - 2 := by rw [List.length_take]; omega
      rw [show fndB zs back = fnd (zs.take (zs.length - 2)) back from by unfold fndB; rw [if_pos h1]]
      refine find_line _ back bb off cp (zs.take (zs.length - 2)) w (by omega) ?_ (hB.take _) (by omega) (fun W l => ?_)
      · rw [hl2]; exact hI.take _ (by omega)
      · rw [hl2]
        exact (lineOf_some bb off cp zs W (hT.later l) hB (hI.later l)).mono fun e w' h => ⟨by rw [h.1, lineV_yes h1], h.2⟩
end Go.Proofs.YtjkhblfgadnjfaaDoor

/- Package ftp: numbers as text. -/
namespace Go.Proofs.YtjkhblfgadnjfaaDoor
open Go.RowKit Go.Shelf
set_option maxRecDepth 100000
set_option linter.unusedVariables false
set_option linter.unusedSimpArgs false

/-- A string's bytes as numbers. -/
def nmsB (s : ByteArray) : List Int := s.data.toList.map fun b => (b.toNat : Int)
theorem nmsB_len (s : ByteArray) : (nmsB s).length = s.size := by unfold nmsB; rw [List.length_map, Array.length_toList]; rfl
theorem nmsB_by (s : ByteArray) : Mt.By (nmsB s) := fun z hz => by
  simp only [nmsB, List.mem_map] at hz
  obtain ⟨b, _, rfl⟩ := hz
  have := b.toNat_lt
  omega
theorem conv_later (w : World) (e : TypeId) (s : ByteArray) : Later w (Lib.bytesWorld w e s) :=
  ⟨rfl, rfl, rfl, by rw [Lib.bytesWorld_size]; omega, fun i hi => Lib.bytesWorld_at_old w e s i hi⟩
theorem conv_rdS (w : World) (e : TypeId) (s : ByteArray) (hs : s.size ≤ 140737488355328) : Rd (Lib.bytesWorld w e s).heap.size (Lib.bytesWorld w e s) (.slice (some ⟨w.heap.size, 0, none⟩) s.size (grownCap w s.size 0 e)) (nmsB s) := by
  have hc := grownCap_le_maxLen w s.size 0 e (by unfold maxLen; omega)
  unfold maxLen at hc
  by_cases h0 : s.size = 0
  · rw [h0] at hc ⊢
    exact .inl ⟨_, _, rfl, List.eq_nil_of_length_eq_zero ((nmsB_len s).trans h0), by omega, fun h => by cases h⟩
  · refine .inr ⟨w.heap.size, 0, _, by rw [nmsB_len], fun h => h0 (by rw [← nmsB_len, h]; rfl), by rw [nmsB_len]; exact grownCap_ge _ _ _ _, by omega, by rw [Lib.bytesWorld_size]; omega, fun j hj => ?_⟩
    rw [nmsB_len] at hj
    rw [Nat.zero_add, Lib.bytesWorld_cell w e s j hj]
    have hj' : j < s.data.toList.length := by rw [Array.length_toList]; exact hj
    simp only [nmsB, List.getElem?_map, List.getD, List.getElem?_eq_getElem hj', Option.map_some, Option.getD_some]
/-- The library's table of powers of ten. -/
def TabI (w : World) : Prop := Lib.TabIs Tryd.prog w "internal/strconv.uint64pow10" .u64 Lib.pow10Tab
theorem TabI.later {A B : World} (h : TabI A) (b : Later A B) : TabI B := by
  unfold TabI Lib.TabIs World.var? at *
  cases hg : Tryd.prog.globalNamed "internal/strconv.uint64pow10" with
  | none => simp [hg] at h
  | some g =>
    simp only [hg, Option.bind_some] at h ⊢
    have hlt : g < A.heap.size := by
      rcases Nat.lt_or_ge g A.heap.size with h' | h'
      · exact h'
      · simp [Array.getElem?_eq_none h'] at h
    rw [b.block g hlt]
    exact h
/-- A number's digits. -/
def decB (n : Nat) : ByteArray := ⟨(Lib.decDigits n).toArray⟩
theorem itoa_any (n : Nat) (w : World) (hT : TabI w) (hn : n ≤ 1000000) :
    Calls Tryd.prog 33 #[.int .i64 (n : Int)] w fun e w' => e = .returned (.string (decB n)) ∧ Below w.heap.size w w' := by
  refine (Any.strconv_Itoa itoaL (n : Int) (by omega) (by omega) w hT).mono ?_
  rintro e w' ⟨rfl, k, os, rfl⟩
  refine ⟨?_, Lib.below_grow _ _ (Nat.le_refl _) _ _⟩
  unfold Lib.itoa decB
  rw [if_neg (by omega)]
  rfl
theorem nDig_le : ∀ (k n : Nat), n < 10 ^ k → 1 ≤ k → (Lib.decDigits n).length ≤ k
  | 0, n, _, h => by omega
  | k + 1, n, h, _ => by
    rw [Lib.decDigits]
    split
    · simp
    · rw [List.length_append, List.length_singleton]
      have hk : 1 ≤ k := by
        rcases Nat.eq_zero_or_pos k with rfl | h'
        · simp at h; omega
        · exact h'
      have := nDig_le k (n / 10) (by rw [Nat.pow_succ] at h; omega) hk
      omega
theorem decB_size (n : Nat) (h : n ≤ 65535) : (decB n).size ≤ 5 := by
  have := nDig_le 5 n (by omega) (by omega)
  simpa [decB, ByteArray.size] using this

set_option maxHeartbeats 4000000 in
theorem text_4 (a : Int) (n : Nat) (w : World) (hT : TabI w) (hn : n ≤ 65535) :
    Calls Tryd.prog 14 #[.int .i64 4, .int .u32 a, .int .u16 (n : Int)] w fun e w' => ∃ x c, e = .returned (.slice x (nmsB (decB n)).length c) ∧ Rd w'.heap.size w' (.slice x (nmsB (decB n)).length c) (nmsB (decB n)) ∧ Below w.heap.size w w' := by
  have HI := hide (itoa_any n w hT (by omega))
  have hs := decB_size n hn
  have hcv := fun W => Lib.run_convert_string_bytes (P := Tryd.prog) W 9 22 5 (decB n) Tryd.underlying9 Tryd.underlying22 Tryd.underlying5
  have HR := hide (fun W => conv_rdS W 5 (decB n) (by omega))
  have HLn := hide (nmsB_len (decB n))
  generalize decB n = s at *
  have HS := hide hs
  clear hs
  go_enter Tryd.func14, Tryd.ntmps14
  go_wp2_with fail
  refine HI.out.mono ?_
  rintro e w1 ⟨rfl, b1⟩
  go_wp2_with fail
  go_ret
  rw [HLn.out]
  exact ⟨_, _, rfl, HR.out w1, Later.trans b1 (conv_later w1 _ s)⟩

/-- A line, and what it names. -/
def zsL : List Int := [80, 79, 82, 84, 32, 49, 48, 44, 48, 44, 48, 44, 50, 44, 52, 44, 49, 13, 10]
theorem fnd_zsL : fndB zsL false = fdY 1 5 17 167772162 1025 := by kernel_rfl
theorem zsL_by : Mt.By zsL := by
  have h : ∀ z ∈ zsL, 0 ≤ z ∧ z ≤ 255 := by decide
  exact h
theorem dec7 : decB 7 = ⟨#[55]⟩ := by unfold decB; rw [Lib.decDigits, dif_pos (by decide)]; rfl
theorem rd_mark (l : List Int) (e : TypeId) (m : Nat × Nat) (w : World) (hne : l ≠ []) (hm : l.length ≤ 1000) : Rd (w.alloc (.cells (l.map (Value.int .u8)).toArray e m)).heap.size (w.alloc (.cells (l.map (Value.int .u8)).toArray e m)) (.slice (some ⟨w.heap.size, 0, none⟩) l.length l.length) l := by
  refine .inr ⟨w.heap.size, 0, l.length, rfl, hne, Nat.le_refl _, by omega, by simp, fun j hj => ?_⟩
  rw [Nat.zero_add, World.cell?_alloc_mark w _ _ _ j, List.getElem?_toArray, List.getElem?_map, List.getElem?_eq_getElem hj]
  rfl

set_option maxHeartbeats 4000000 in
theorem live13_any (w : World) (hT : TabR w) (hU : TabI w) : Calls Tryd.prog 11 #[] w fun e w' => e = .returned (.bool true) ∧ Below w.heap.size w w' := by
  have l1 : Later w (w.alloc (.cells #[.int .u8 80, .int .u8 79, .int .u8 82, .int .u8 84, .int .u8 32, .int .u8 49, .int .u8 48, .int .u8 44, .int .u8 48, .int .u8 44, .int .u8 48, .int .u8 44, .int .u8 50, .int .u8 44, .int .u8 52, .int .u8 44, .int .u8 49, .int .u8 13, .int .u8 10] 5 (19, 20))) := (Below.refl _ _).alloc (Nat.le_refl _) _
  have R1 : Rd (w.alloc (.cells #[.int .u8 80, .int .u8 79, .int .u8 82, .int .u8 84, .int .u8 32, .int .u8 49, .int .u8 48, .int .u8 44, .int .u8 48, .int .u8 44, .int .u8 48, .int .u8 44, .int .u8 50, .int .u8 44, .int .u8 52, .int .u8 44, .int .u8 49, .int .u8 13, .int .u8 10] 5 (19, 20))).heap.size (w.alloc (.cells #[.int .u8 80, .int .u8 79, .int .u8 82, .int .u8 84, .int .u8 32, .int .u8 49, .int .u8 48, .int .u8 44, .int .u8 48, .int .u8 44, .int .u8 48, .int .u8 44, .int .u8 50, .int .u8 44, .int .u8 52, .int .u8 44, .int .u8 49, .int .u8 13, .int .u8 10] 5 (19, 20))) (.slice (some ⟨w.heap.size, 0, none⟩) 19 19) zsL := rd_mark zsL 5 (19, 20) w (by decide) (by decide)
  have hcv := Lib.run_convert_bytes_const (P := Tryd.prog) w 22 5 #[.int .u8 80, .int .u8 79, .int .u8 82, .int .u8 84, .int .u8 32, .int .u8 49, .int .u8 48, .int .u8 44, .int .u8 48, .int .u8 44, .int .u8 48, .int .u8 44, .int .u8 50, .int .u8 44, .int .u8 52, .int .u8 44, .int .u8 49, .int .u8 13, .int .u8 10] 19 19 Tryd.underlying22 Tryd.underlying5
  have HF := hide (find_any _ zsL false _ (hT.later l1) zsL_by R1)
  have H1 := hide (hU.later l1)
  rw [fnd_zsL] at HF
  clear hT hU R1
  go_enter Tryd.func11, Tryd.ntmps11
  go_wp2_with fail
  refine HF.out.mono ?_
  rintro e w2 ⟨rfl, b2⟩
  have L2 : Later w w2 := l1.trans b2
  have H2 := hide (H1.out.later b2)
  clear HF hcv
  unfold fdY
  have l3 : Later w2 (w2.alloc (.cells #[.int .i64 1, .int .i64 5, .int .i64 17, .int .u32 167772162, .int .u16 1025] 27)) := later_allocR _ _
  have B3 := heap_alloc_new w2 (.cells #[.int .i64 1, .int .i64 5, .int .i64 17, .int .u32 167772162, .int .u16 1025] 27)
  go_upto_region 2 with fail
  generalize w2.alloc _ = w3 at *
  have kB := block_cell B3
  have HX := hide (text_4 0 7 w3 (H2.out.later l3) (by omega))
  rw [dec7] at HX
  have L3 := L2.trans l3
  clear B3
  go_wp2_with fail
  refine HX.out.mono ?_
  rintro e w4 ⟨x, c, rfl, hR, b4⟩
  have hcs := conv_rd 22 9 5 Tryd.underlying22 Tryd.underlying5 Tryd.underlying9 hR
  rw [show strOfNums (nmsB ⟨#[55]⟩) = ⟨#[55]⟩ from by decide] at hcs
  clear hR
  have L4 := L3.trans b4
  go_wp2_with fail
  go_ret
  exact ⟨rfl, L4⟩
end Go.Proofs.YtjkhblfgadnjfaaDoor

/- The library's tables that package ftp's road meets, as a row lists them. -/
namespace Go.Proofs.YtjkhblfgadnjfaaDoor
open Go.ChangeShapes Go.WideShapes Go.ChangeAt Go.RowKit Go.Lib Go.Shelf
set_option maxRecDepth 100000
set_option linter.unusedVariables false

/-- The tables, as the rows list them. -/
def laid5 : List (String × DataW Unit) := [("math/bits.deBruijn32tab", Rows.laid_math_bits_deBruijn32tab), ("math/bits.deBruijn64tab", Rows.laid_math_bits_deBruijn64tab), ("internal/strconv.uint64pow10", Rows.laid_internal_strconv_uint64pow10), ("unicode/utf8.acceptRanges", Rows.laid_unicode_utf8_acceptRanges), ("unicode/utf8.first", Rows.laid_unicode_utf8_first)]
def u8ren : Ren := ⟨fun n => n, fun | 5 => 5 | 119 => 133 | 138 => 135 | 139 => 136 | n => n, fun | 3 => 2 | 4 => 3 | n => n⟩
theorem u8types : U8Types Tryd.prog u8ren := { t5 := Tryd.underlying5, t119 := Tryd.underlying133, t138 := Tryd.underlying135, t139 := Tryd.underlying136 }
theorem u8extra : U8Extra Tryd.prog u8ren := ⟨by kernel_rfl, by kernel_rfl, by kernel_rfl, by kernel_rfl, by kernel_rfl, by kernel_rfl, by kernel_rfl⟩
theorem pow_ty : (Tryd.prog.globals[1]?).map (·.type) = some 127 := by kernel_rfl
theorem pow_nm : Tryd.prog.globalNamed "internal/strconv.uint64pow10" = some 1 := by kernel_rfl
theorem pow_c1 : Tryd.prog.cellsOf 117 = 1 := by kernel_rfl
theorem pow_c2 : Tryd.prog.cellsOf 127 = 20 := by kernel_rfl
theorem pow_eq : (Rows.laid_internal_strconv_uint64pow10 : DataW Unit) = tabData .u64 pow10Tab := by kernel_rfl

theorem tabs_of_laid {W : World} (h : laidMetH Tryd.prog laid5 W) : Lib.Utf8Tabs (runeL_ren.g 2) (runeL_ren.g 3) W ∧ TabI W := by
  have h' : laidMet Tryd.prog laid5 W := h
  refine ⟨?_, ?_⟩
  · have h3 := laidMet.reads h' (n := "unicode/utf8.first") (d := Rows.laid_unicode_utf8_first) (.tail _ (.tail _ (.tail _ (.tail _ (.head _)))))
    have h4 := laidMet.reads h' (n := "unicode/utf8.acceptRanges") (d := Rows.laid_unicode_utf8_acceptRanges) (.tail _ (.tail _ (.tail _ (.head _))))
    rw [show Rows.laid_unicode_utf8_first = firstData from Go.Pinned.utf8First_eq] at h3
    rw [show (Rows.laid_unicode_utf8_acceptRanges : DataW Unit) = acceptData by kernel_rfl] at h4
    exact utf8Tabs_of_readsT u8types u8extra h3 h4
  · have h3 := laidMet.reads h' (n := "internal/strconv.uint64pow10") (d := Rows.laid_internal_strconv_uint64pow10) (.tail _ (.tail _ (.head _)))
    rw [pow_eq] at h3
    obtain ⟨g, t, cs, fuel, p, hg, hty, hvar, hd⟩ := h3
    obtain rfl := Option.some.inj (pow_nm.symm.trans hg)
    obtain rfl := Option.some.inj (pow_ty.symm.trans hty)
    have hcs := cells_of_tab Tryd.underlying127 Tryd.underlying117 pow_c1 pow_c2 hd
    unfold TabI Lib.TabIs
    rw [hvar, ← hcs]
theorem maxlen_of_shaped {W : World} (h : W.ShapedOpen Tryd.prog) : ∃ m : Int, W.cell? ⟨0, 0, none⟩ = some (.int .i64 m) := by
  obtain ⟨cs, hc, hs, hr⟩ := h.1 0 #[.int .i64 0] 3 (by decide +kernel) (by kernel_rfl)
  obtain ⟨ts, hts, _, hcell⟩ := hr (by kernel_rfl)
  obtain rfl : [3] = ts := Option.some.inj ((show Tryd.prog.cellTypes Tryd.prog.depth 3 = some [3] by kernel_rfl).symm.trans hts)
  have h1 : cs.size = 1 := hs
  obtain ⟨v, hv⟩ : ∃ v, cs[0]? = some v := ⟨cs[0]'(by omega), Array.getElem?_eq_getElem (by omega)⟩
  obtain ⟨u, hu, hok⟩ := hcell 0 v hv
  obtain rfl : 3 = u := by simpa using hu
  unfold Cell.ok at hok
  rw [Tryd.underlying3] at hok
  cases v with
  | int k n =>
    simp only at hok
    obtain ⟨rfl, _⟩ := hok
    exact ⟨n, by rw [block_cell hc]; exact hv⟩
  | _ => simp at hok

/-- A world for the witness: the tables hold what their initialisers lay. -/
noncomputable def laidWorld5 (os : Os) : World :=
  let w0 := World.holding Tryd.prog os ⟨#[], #[], []⟩
  let put (h : Array Obj) (g : Nat) (cs : Array Value) : Array Obj := h.modify g fun
    | .cells _ t frozen => .cells cs t frozen
    | o => o
  let h1 := put w0.heap 2 (Lib.firstTab.map fun z => Value.int .u8 z).toArray
  let h2 := put h1 3 ((List.range 16).flatMap fun i => [Value.int .u8 (Lib.accLo i), Value.int .u8 (Lib.accHi i)]).toArray
  let h3 := put h2 1 (Lib.pow10Tab.map fun z => Value.int .u64 z).toArray
  let h4 := put h3 5 (Lib.deBruijn64tab.map fun (z : Nat) => Value.int .u8 (z : Int)).toArray
  let h5 := put h4 4 (Lib.deBruijn32tab.map fun (z : Nat) => Value.int .u8 (z : Int)).toArray
  { w0 with heap := h5 }
theorem laid_met5 (os : Os) (args : Array Value) : laidMet Tryd.prog laid5 ((laidWorld5 os).forCall (fun _ _ => 0) ⟨#[], args, []⟩).memory :=
  (LaidIn.of_run (l := laid5) [4, 5, 1, 3, 2] 8 (by kernel_rfl) (by kernel_rfl) (by kernel_rfl) (by kernel_rfl)).met
end Go.Proofs.YtjkhblfgadnjfaaDoor

/- How an argument that is a packet reads. -/
namespace Go.Proofs.YtjkhblfgadnjfaaDoor
open Go.ChangeShapes Go.WideShapes Go.ChangeAt Go.RowKit Go.Joins
set_option maxRecDepth 100000

theorem array9 {α : Type} {cs : Array α} (h : cs.size = 9) : ∃ c0 c1 c2 c3 c4 c5 c6 c7 c8, cs = #[c0, c1, c2, c3, c4, c5, c6, c7, c8] := by
  obtain ⟨l⟩ := cs
  match l, h with
  | [c0, c1, c2, c3, c4, c5, c6, c7, c8], _ => exact ⟨c0, c1, c2, c3, c4, c5, c6, c7, c8, rfl⟩
theorem list9 {α : Type} {l : List α} (h : l.length = 9) : ∃ c0 c1 c2 c3 c4 c5 c6 c7 c8, l = [c0, c1, c2, c3, c4, c5, c6, c7, c8] := by
  match l, h with
  | [c0, c1, c2, c3, c4, c5, c6, c7, c8], _ => exact ⟨c0, c1, c2, c3, c4, c5, c6, c7, c8, rfl⟩

/-- A field that is a slice of bytes. -/
theorem open_bytes {H : Type} {enc : TypeId × Value → H} {W : World} {n : Nat} {c : Value} {y : DataW H × List MemPlace} (h : DataW.trod enc Tryd.prog W 0 (fun _ => true) true n 22 [c] = some y) :
    ∃ zs, Mt.By zs ∧ Rd W.heap.size W c zs ∧ ((DataW.weights Tryd.prog 22 y.1).all (· ≤ reachBytes) = true → zs.length ≤ 140737488351232) := by
  obtain ⟨a, l, cp, hc⟩ := slice_form Tryd.underlying22 h
  cases hc
  rcases open_ints Tryd.underlying22 Tryd.underlying5 (by kernel_rfl) h with ⟨hcs, _⟩ | ⟨x, l', c', zs, hcs, _, hl, hm, hz, hx, hcell, hwz⟩
  · simp at hcs
    obtain ⟨rfl, rfl, rfl⟩ := hcs
    exact ⟨[], Mt.By.nil, .inl ⟨_, _, rfl, rfl, by omega, fun _ => rfl⟩, fun _ => by simp⟩
  · simp at hcs
    obtain ⟨rfl, rfl, rfl⟩ := hcs
    rw [if_pos rfl] at hz
    obtain ⟨ys, hB, hI⟩ := rd_of_row x l cp zs hl (by simpa [maxLen] using hm) hz hcell hwz W.heap.size (fun h => row_block x zs hcell (by omega))
    refine ⟨ys, hB, hI, fun hw => ?_⟩
    obtain ⟨a', cap', e', h1, _⟩ := hI.slice
    cases e'
    subst hx
    have hb : Tryd.prog.bytesOf 5 = 1 := by kernel_rfl
    simp only [DataW.weights, Tryd.underlying22, List.all_cons, Bool.and_eq_true, hb, reachBytes] at hw
    have h2 := hw.1
    simp [lits] at h2
    omega

end Go.Proofs.YtjkhblfgadnjfaaDoor

/- How arguments of package ftp's laws read. -/
namespace Go.Proofs.YtjkhblfgadnjfaaDoor
open Go.ChangeShapes Go.WideShapes Go.ChangeAt Go.RowKit Go.Joins
set_option maxRecDepth 100000
set_option linter.unusedVariables false
set_option linter.unusedSimpArgs false

theorem arr5 {α : Type} {l : Array α} (h : l.size = 5) : ∃ a b c d e, l = #[a, b, c, d, e] := by
  obtain ⟨l⟩ := l
  match l, h with
  | [a, b, c, d, e], _ => exact ⟨a, b, c, d, e, rfl⟩
theorem lst5 {α : Type} {l : List α} (h : l.length = 5) : ∃ a b c d e, l = [a, b, c, d, e] := by
  match l, h with
  | [a, b, c, d, e], _ => exact ⟨a, b, c, d, e, rfl⟩
theorem arr2a {α : Type} {l : Array α} (h : l.size = 2) : ∃ a b, l = #[a, b] := by
  obtain ⟨l⟩ := l
  match l, h with
  | [a, b], _ => exact ⟨a, b, rfl⟩
theorem lst2a {α : Type} {l : List α} (h : l.length = 2) : ∃ a b, l = [a, b] := by
  match l, h with
  | [a, b], _ => exact ⟨a, b, rfl⟩

theorem open_found {H : Type} {enc : TypeId × Value → H} {W : World} {r : Reach} {b0 : Nat} {v : Value} {d : DataW H} {p : List MemPlace} (hv : Value.okWide Tryd.prog W r b0 27 v) (h : DataW.Trod enc Tryd.prog W 0 (fun _ => true) true 27 v d p) :
    ∃ x y z a b : Int, v = .agg #[.int .i64 x, .int .i64 y, .int .i64 z, .int .u32 a, .int .u16 b] ∧ (-9223372036854775808 ≤ x ∧ x ≤ 9223372036854775807) ∧ (-9223372036854775808 ≤ y ∧ y ≤ 9223372036854775807) ∧ (-9223372036854775808 ≤ z ∧ z ≤ 9223372036854775807) ∧ (0 ≤ a ∧ a ≤ 4294967295) ∧ (0 ≤ b ∧ b ≤ 65535) := by
  obtain ⟨cs, rfl, hsz⟩ := okWide_struct Tryd.underlying27 hv
  obtain ⟨c0, c1, c2, c3, c4, rfl⟩ := arr5 (hsz.trans (by kernel_rfl))
  obtain ⟨fuel, hf⟩ := h
  obtain ⟨xs, n, _, hx, _, hlen, hfs⟩ := DataW.trod_struct Tryd.underlying27 hf
  obtain ⟨y0, y1, y2, y3, y4, rfl⟩ := lst5 hlen
  have k1 : Tryd.prog.cellsOf 23 = 1 := by kernel_rfl
  have k2 : Tryd.prog.cellsOf 3 = 1 := by kernel_rfl
  have k3 : Tryd.prog.cellsOf 24 = 1 := by kernel_rfl
  have k5 : Tryd.prog.cellsOf 25 = 1 := by kernel_rfl
  have f0 := hfs 0 _ rfl
  have f1 := hfs 1 _ rfl
  have f2 := hfs 2 _ rfl
  have f3 := hfs 3 _ rfl
  have f4 := hfs 4 _ rfl
  simp [Value.cells, k1, k2, k3, k5] at f0 f1 f2 f3 f4
  obtain ⟨x, e0, _, w0⟩ := DataW.trod_int Tryd.underlying23 f0
  obtain ⟨y, e1, _, w1⟩ := DataW.trod_int Tryd.underlying3 f1
  obtain ⟨z, e2, _, w2⟩ := DataW.trod_int Tryd.underlying3 f2
  obtain ⟨a, e3, _, w3⟩ := DataW.trod_int Tryd.underlying24 f3
  obtain ⟨b, e4, _, w4⟩ := DataW.trod_int Tryd.underlying25 f4
  simp at e0 e1 e2 e3 e4
  subst e0 e1 e2 e3 e4
  simp [Lit.wf, IntKind.min, IntKind.max, IntKind.signed, IntKind.bits] at w0 w1 w2 w3 w4
  exact ⟨x, y, z, a, b, rfl, w0, w1, w2, w3, w4⟩

theorem open_to {H : Type} {enc : TypeId × Value → H} {W : World} {r : Reach} {b0 : Nat} {v : Value} {d : DataW H} {p : List MemPlace} (hv : Value.okWide Tryd.prog W r b0 40 v) (h : DataW.Trod enc Tryd.prog W 0 (fun _ => true) true 40 v d p) :
    ∃ a b : Int, v = .agg #[.int .u32 a, .int .u16 b] ∧ (0 ≤ a ∧ a ≤ 4294967295) ∧ (0 ≤ b ∧ b ≤ 65535) := by
  obtain ⟨cs, rfl, hsz⟩ := okWide_struct Tryd.underlying40 hv
  obtain ⟨c0, c1, rfl⟩ := arr2a (hsz.trans (by kernel_rfl))
  obtain ⟨fuel, hf⟩ := h
  obtain ⟨xs, n, _, hx, _, hlen, hfs⟩ := DataW.trod_struct Tryd.underlying40 hf
  obtain ⟨y0, y1, rfl⟩ := lst2a hlen
  have k3 : Tryd.prog.cellsOf 24 = 1 := by kernel_rfl
  have k5 : Tryd.prog.cellsOf 25 = 1 := by kernel_rfl
  have f0 := hfs 0 _ rfl
  have f1 := hfs 1 _ rfl
  simp [Value.cells, k3, k5] at f0 f1
  obtain ⟨a, e3, _, w3⟩ := DataW.trod_int Tryd.underlying24 f0
  obtain ⟨b, e4, _, w4⟩ := DataW.trod_int Tryd.underlying25 f1
  simp at e3 e4
  subst e3 e4
  simp [Lit.wf, IntKind.min, IntKind.max, IntKind.signed, IntKind.bits] at w3 w4
  exact ⟨a, b, rfl, w3, w4⟩
end Go.Proofs.YtjkhblfgadnjfaaDoor

/- What the bound on the arguments' bulk says of a packet's bytes. -/
namespace Go.Proofs.YtjkhblfgadnjfaaDoor
open Go.ChangeShapes Go.WideShapes Go.ChangeAt Go.RowKit Go.Joins
set_option maxRecDepth 100000
set_option linter.unusedVariables false
set_option linter.unusedSimpArgs false

theorem bulk_one {H : Type} (d : DataW H) : 1 ≤ Rows.uptoBulk d := by
  cases d with
  | lit l => cases l <;> simp [Rows.uptoBulk]
  | nil => simp [Rows.uptoBulk]
  | ptr d => simp [Rows.uptoBulk]
  | slice elems spare => simp [Rows.uptoBulk]
  | agg parts => simp [Rows.uptoBulk]
  | iface t d => simp [Rows.uptoBulk]
  | map entries => simp [Rows.uptoBulk]
  | held h => simp [Rows.uptoBulk]
theorem bulk_length {H : Type} (l : List (DataW H)) : l.length ≤ Rows.uptoBulkAll l := by
  induction l with
  | nil => simp
  | cons x r ih => have := bulk_one x; simp only [Rows.uptoBulkAll, List.length_cons]; omega
theorem bulk_append {H : Type} (l r : List (DataW H)) : Rows.uptoBulkAll (l ++ r) = Rows.uptoBulkAll l + Rows.uptoBulkAll r := by
  induction l with
  | nil => simp [Rows.uptoBulkAll]
  | cons x l ih => simp only [List.cons_append, Rows.uptoBulkAll, ih]; omega
theorem bulk_small {H : Type} {l : List (DataW H)} (hk : Rows.uptoSmall H l = true) : Rows.uptoBulkAll l ≤ 1048576 := of_decide_eq_true hk

/-- A slice of bytes is no longer than its bulk. -/
theorem bytes_bulk {H : Type} {enc : TypeId × Value → H} {W : World} {n : Nat} {a : Option Addr} {l cp : Nat} {y : DataW H × List MemPlace} (h : DataW.trod enc Tryd.prog W 0 (fun _ => true) true n 22 [.slice a l cp] = some y) : l ≤ Rows.uptoBulk y.1 := by
  rcases open_ints Tryd.underlying22 Tryd.underlying5 (by kernel_rfl) h with ⟨hcs, _⟩ | ⟨x, l', c', zs, hcs, _, hl, hm, hz, hx, hcell, hwz⟩
  · simp at hcs
    obtain ⟨rfl, rfl, rfl⟩ := hcs
    omega
  · simp at hcs
    obtain ⟨rfl, rfl, rfl⟩ := hcs
    rw [if_pos rfl] at hz
    subst hx
    simp only [Rows.uptoBulk]
    refine Nat.le_trans ?_ (Nat.le_trans (Nat.add_le_add (bulk_length _) (bulk_length _)) (Nat.le_succ _))
    simp [lits]
    omega

end Go.Proofs.YtjkhblfgadnjfaaDoor

/- A guarded operation that is the only one to come next. -/
namespace Go.Proofs.YtjkhblfgadnjfaaDoor
open Go.RowKit Go.Shelf
set_option maxRecDepth 100000
set_option linter.unusedVariables false
set_option linter.unusedSimpArgs false

section
variable {P : Program} {l : List Oper} {Q : Exit → Act → World → Prop} {fuel : Nat} {listed : Array Bool} {a : Act} {w : World} {R : World → World → Prop}
theorem anyR_oneG (i : Nat) {oi : Oper} (hi : nthOp l i = some oi) (hr : Region.ready .any l.toArray listed = [i]) (hg : Region.wanted oi (yielded l.toArray a.tmps) = true)
    (h1 : ∀ w', R w w' → oi.wp P a w' (fun a' w'' => R w' w'' ∧ wpAnyR P .any l.toArray Q R fuel (listed.setIfInBounds i true) a' w'') Q) :
    wpAnyR P .any l.toArray Q R (fuel + 1) listed a w := by
  have hi' : l.toArray[i]? = some oi := by rw [← hi, nthOp_eq]; simp
  refine ⟨fun h0 => (by rw [hr] at h0; cases h0), fun k hk w' hw' => ?_⟩
  rw [hr] at hk
  unfold wpOp
  obtain rfl : k = i := by simpa using hk
  rw [hi']; simp only [hg, if_true]; exact .inl (h1 w' hw')
end

end Go.Proofs.YtjkhblfgadnjfaaDoor

/- The document's Replace. -/
namespace Go.Proofs.YtjkhblfgadnjfaaDoor
open Go.RowKit Go.Shelf
set_option maxRecDepth 100000
set_option linter.unusedVariables false
set_option linter.unusedSimpArgs false

set_option maxHeartbeats 4000000 in
theorem rreplace_any (k st en ad po : Int) (sv tv : Value) (zs ts : List Int) (w : World) (hI : Rd w.heap.size w sv zs) (hJ : Rd w.heap.size w tv ts) (hl : zs.length + ts.length ≤ 140737488355328)
    (hs : -9223372036854775808 ≤ st ∧ st ≤ 9223372036854775807) (he : -9223372036854775808 ≤ en ∧ en ≤ 9223372036854775807) :
    Calls Tryd.prog 13 #[sv, .agg #[.int .i64 k, .int .i64 st, .int .i64 en, .int .u32 ad, .int .u16 po], tv] w fun e w' => ∃ v, e = .returned v ∧ Ow w.heap.size w' v (rpl st en zs ts) ∧ Below w.heap.size w w' := by
  obtain ⟨i0, hi, hz0, hz1, hz2⟩ := info_parts info_u8
  obtain ⟨av, cv, rfl, hlv, hmv⟩ := hI.slice
  obtain ⟨at', ct, rfl, hlt, hmt⟩ := hJ.slice
  have l1 := later_allocR w (.cells #[.int .i64 k, .int .i64 st, .int .i64 en, .int .u32 ad, .int .u16 po] 31)
  have F1 := hide (heap_alloc_new w (.cells #[.int .i64 k, .int .i64 st, .int .i64 en, .int .u32 ad, .int .u16 po] 31))
  go_enter Tryd.func13, Tryd.ntmps13
  go_upto_region 2 with fail
  generalize w.alloc (.cells #[.int .i64 k, .int .i64 st, .int .i64 en, .int .u32 ad, .int .u16 po] 31) = w1 at *
  have hI1 := hI.later l1
  have hJ1 := hJ.later l1
  have kF := block_cell F1.out
  by_cases hbad : st < 0 ∨ st > en ∨ en > zs.length
  · have HR : Hid (rpl st en zs ts = zs) := by show _ = _; unfold rpl; rw [if_pos hbad]
    have fin : ∀ (v : Value) (w' : World), Ow w1.heap.size w' v zs → Below w1.heap.size w1 w' → ∃ x, Ending.returned v = .returned x ∧ Ow w.heap.size w' x (rpl st en zs ts) ∧ Below w.heap.size w w' := by
      intro v w' hO hb
      rw [HR.out]
      exact ⟨v, rfl, hO.mono l1.size, l1.trans hb⟩
    by_cases c1 : st < 0
    · have t1 : decide (st < 0) = true := by simp [c1]
      go_wp2_with (at_builtin; refine wpList_app _ rfl (.tmp 25) (.tmp 26) 22 rfl w1.heap.size 5 i0 Tryd.underlying22 hi hz0 hz1 hz2 _ [] rfl (World.ownsRow_nil _ _ _ _) w1.heap.size _ zs rfl hI1 (by simp; omega) (by simp) ?_; intro v2 w2 hown2 hg2; have hb2 := (Below.refl w1.heap.size w1).grown hg2 (by simp) (fun k e => by cases e); clear hg2; have hO2 := Ow.of_row hown2; clear hown2; simp only [List.nil_append] at hO2)
      go_ret
      exact fin _ _ hO2 hb2
    have t1 : decide (st < 0) = false := by simp [c1]
    by_cases c2 : st > en
    · have t2 : decide (en < st) = true := by simp [c2]
      go_wp2_with (at_builtin; refine wpList_app _ rfl (.tmp 25) (.tmp 26) 22 rfl w1.heap.size 5 i0 Tryd.underlying22 hi hz0 hz1 hz2 _ [] rfl (World.ownsRow_nil _ _ _ _) w1.heap.size _ zs rfl hI1 (by simp; omega) (by simp) ?_; intro v2 w2 hown2 hg2; have hb2 := (Below.refl w1.heap.size w1).grown hg2 (by simp) (fun k e => by cases e); clear hg2; have hO2 := Ow.of_row hown2; clear hown2; simp only [List.nil_append] at hO2)
      go_ret
      exact fin _ _ hO2 hb2
    have t2 : decide (en < st) = false := by simp [c2]
    have c3 : (zs.length : Int) < en := by omega
    have t3 : decide ((zs.length : Int) < en) = true := by simp [c3]
    go_wp2_with (at_builtin; refine wpList_app _ rfl (.tmp 25) (.tmp 26) 22 rfl w1.heap.size 5 i0 Tryd.underlying22 hi hz0 hz1 hz2 _ [] rfl (World.ownsRow_nil _ _ _ _) w1.heap.size _ zs rfl hI1 (by simp; omega) (by simp) ?_; intro v2 w2 hown2 hg2; have hb2 := (Below.refl w1.heap.size w1).grown hg2 (by simp) (fun k e => by cases e); clear hg2; have hO2 := Ow.of_row hown2; clear hown2; simp only [List.nil_append] at hO2)
    go_ret
    exact fin _ _ hO2 hb2
  · have HR : Hid (rpl st en zs ts = zs.take st.toNat ++ (ts ++ zs.drop en.toNat)) := by show _ = _; unfold rpl; rw [if_neg hbad]
    obtain ⟨n, rfl⟩ : ∃ n : Nat, st = (n : Int) := ⟨st.toNat, by omega⟩
    obtain ⟨m, rfl⟩ : ∃ m : Nat, en = (m : Int) := ⟨en.toNat, by omega⟩
    have hnm : n ≤ m := by omega
    have hmz : m ≤ zs.length := by omega
    rw [Int.toNat_natCast, Int.toNat_natCast] at HR
    have t1 : decide ((n : Int) < 0) = false := by simp
    have t2 : decide ((m : Int) < n) = false := by simp; omega
    have t3 : decide ((zs.length : Int) < m) = false := by simp; omega
    have hnc : n ≤ cv := by omega
    have hb1 : Below w1.heap.size w1 w1 := Below.refl _ _
    have RT := hide (hI1.take n (by omega))
    have RD := hide (show Rd w1.heap.size w1 (.slice (if cv = m then av else Option.map (fun x => x.add m) av) (zs.length - m) (cv - m)) (zs.drop m) from by simpa [sliced] using Rd.drop m hmz hI1)
    have htl : (zs.take n).length = n := by rw [List.length_take]; omega
    have hdl : (zs.drop m).length = zs.length - m := by rw [List.length_drop]
    have HTL := hide htl
    have HDL := hide hdl
    clear hbad hs he htl hdl
    go_upto_region 4 with fail
    clear t1 t2 t3
    go_upto_region 5 with first
      | (at_builtin; refine wpList_app _ rfl (.tmp 28) (.tmp 32) 22 rfl w1.heap.size 5 i0 Tryd.underlying22 hi hz0 hz1 hz2 _ [] rfl (World.ownsRow_nil _ _ _ _) w1.heap.size _ (zs.take n) rfl RT.out (by have := HTL.out; simp; omega) (by simp) ?_; intro v2 w2 hown2 hg2; have hb2 := (Below.refl w1.heap.size w1).grown hg2 (by simp) (fun k e => by cases e); clear hg2; simp only [List.nil_append] at hown2)
      | (at_builtin; refine wpList_app _ rfl (.tmp 33) (.tmp 34) 22 rfl w1.heap.size 5 i0 Tryd.underlying22 hi hz0 hz1 hz2 _ (zs.take n) rfl hown2 w1.heap.size _ ts rfl (hJ1.below hb2) (by have := HTL.out; omega) hb2.size ?_; intro v3 w3 hown3 hg3; have hb3 := below_app hb2 hown2 hg3 (Nat.le_refl _) hb2.size; clear hg3 hown2)
    have kF3 := block_cell ((hb3.block w.heap.size (Array.getElem?_eq_some_iff.1 F1.out).1).trans F1.out)
    clear kF
    go_wp2_with (at_builtin; refine wpList_app _ rfl (.tmp 36) (.tmp 40) 22 rfl w1.heap.size 5 i0 Tryd.underlying22 hi hz0 hz1 hz2 _ (zs.take n ++ ts) rfl hown3 w1.heap.size _ (zs.drop m) rfl (RD.out.below hb3) (by have := HTL.out; have := HDL.out; rw [List.length_append]; omega) hb3.size ?_; intro v4 w4 hown4 hg4; have hb4 := below_app hb3 hown3 hg4 (Nat.le_refl _) hb3.size; clear hg4 hown3)
    all_goals
      have hO4 := Ow.of_row hown4
      rw [List.append_assoc, ← HR.out] at hO4
      go_ret
      exact ⟨_, rfl, hO4.mono l1.size, l1.trans hb4⟩
end Go.Proofs.YtjkhblfgadnjfaaDoor

/- The walk of FtpReplaces. -/
namespace Go.Proofs.YtjkhblfgadnjfaaDoor
open Go.RowKit Go.Shelf
set_option maxRecDepth 100000
set_option linter.unusedVariables false
set_option linter.unusedSimpArgs false

set_option maxHeartbeats 8000000 in
theorem walk_FtpReplaces (w : World) (hT : TabR w) (hU : TabI w) (sv : Value) (zs : List Int) (hB : Mt.By zs) (hI : Rd w.heap.size w sv zs) (hl0 : zs.length ≤ 140737488351232) (hl : zs.length ≤ 1048576)
    (k st en ad po : Int) (hk : -9223372036854775808 ≤ k ∧ k ≤ 9223372036854775807) (hst : -9223372036854775808 ≤ st ∧ st ≤ 9223372036854775807) (hen : -9223372036854775808 ≤ en ∧ en ≤ 9223372036854775807) (had : 0 ≤ ad ∧ ad ≤ 4294967295) (hpo : 0 ≤ po ∧ po ≤ 65535)
    (tv : Value) (ts : List Int) (hB2 : Mt.By ts) (hJ : Rd w.heap.size w tv ts) (hm0 : ts.length ≤ 140737488351232) (hm : ts.length ≤ 1048576) :
    Calls Tryd.prog 4 #[sv, .agg #[.int .i64 k, .int .i64 st, .int .i64 en, .int .u32 ad, .int .u16 po], tv] w fun e w' => e = .returned (.bool true) ∧ Below w.heap.size w w' := by
  obtain ⟨a, cap, rfl, hl1, hm1⟩ := hI.slice
  obtain ⟨a', cap', rfl, hl2, hm2⟩ := hJ.slice
  have HT := hide hT
  have HU := hide hU
  have HA := hide (fun u sv tv (h : Rd u.heap.size u sv zs) (h' : Rd u.heap.size u tv ts) => replace_any k st en ad po sv tv zs ts u h h' (by omega) hst hen)
  have HB3 := hide (fun u sv tv (h : Rd u.heap.size u sv zs) (h' : Rd u.heap.size u tv ts) => rreplace_any k st en 0 0 sv tv zs ts u h h' (by omega) hst hen)
  generalize rpl st en zs ts = rs at *
  clear hT hU hl0 hm0 hl1 hl2 hst hen hk had hpo
  have l1 := later_allocR w (.cells #[.int .i64 k, .int .i64 st, .int .i64 en, .int .u32 ad, .int .u16 po] 27)
  have B1 := hide (heap_alloc_new w (.cells #[.int .i64 k, .int .i64 st, .int .i64 en, .int .u32 ad, .int .u16 po] 27))
  go_enter Tryd.func4, Tryd.ntmps4
  go_upto_region 1 with fail
  generalize w.alloc _ = w1 at *
  have kB1 := block_cell B1.out
  have l2 := later_allocR w1 (.cells #[.int .i64 k, .int .i64 st, .int .i64 en, .int .u32 0, .int .u16 0] 31)
  have B2 := hide (heap_alloc_new w1 (.cells #[.int .i64 k, .int .i64 st, .int .i64 en, .int .u32 0, .int .u16 0] 31))
  go_upto_region 2 with fail
  generalize w1.alloc _ = w2 at *
  generalize w1.heap.size = wc at *
  clear kB1
  have L2 : Later w w2 := Later.trans l1 l2
  refine anyR_begin (R := Later) Later.pre Later.drew 15 rfl (by kernel_rfl) (fun V0 hV0 => ?_)
  have LV : Later w V0 := L2.trans hV0
  have HZ : Hid (∀ u, Later V0 u → Rd u.heap.size u (.slice a zs.length cap) zs) := fun u hu => (hI.below (LV.trans hu)).mono (LV.trans hu).size
  have HO : Hid (∀ u, Later V0 u → Rd u.heap.size u (.slice a' ts.length cap') ts) := fun u hu => (hJ.below (LV.trans hu)).mono (LV.trans hu).size
  have kF : ∀ u, Later V0 u → ∀ j, u.cell? ⟨w.heap.size, j, none⟩ = (#[.int .i64 k, .int .i64 st, .int .i64 en, .int .u32 ad, .int .u16 po] : Array Value)[j]? := fun u hu => block_cell (later_keep (l2.trans (hV0.trans hu)) B1.out)
  have kG : ∀ u, Later V0 u → ∀ j, u.cell? ⟨wc, j, none⟩ = (#[.int .i64 k, .int .i64 st, .int .i64 en, .int .u32 0, .int .u16 0] : Array Value)[j]? := fun u hu => block_cell (later_keep (hV0.trans hu) B2.out)
  refine anyR_take Later.pre 0 (.bool true) rfl (by kernel_rfl) (by kernel_rfl) (by kernel_rfl) (fun _ _ _ h => h) rfl (fun v1 hv1 => goes_call 11 #[] (by go_simp) (live13_any v1 (HT.out.later (LV.trans hv1)) (HU.out.later (LV.trans hv1)))) ?_
  simp only [Act.put, List.setIfInBounds_toArray, List.set_cons_zero, List.set_cons_succ]
  refine anyR_val Later.pre 1 rfl (by kernel_rfl) (by kernel_rfl) (by kernel_rfl) (fun _ _ _ _ h => h) rfl ?_; apply Exists.intro; refine ⟨fun v1 hv1 => ?_, ?_⟩; (· (go_simp; rfl)); simp only [Act.put, List.setIfInBounds_toArray, List.set_cons_zero, List.set_cons_succ]
  refine anyR_valG Later.pre 2 rfl (by kernel_rfl) (by kernel_rfl) (by kernel_rfl) (fun _ _ _ _ h => h) (by rfl) ?_; apply Exists.intro; refine ⟨fun v1 hv1 => ?_, ?_⟩; (· (go_simp; rfl)); simp only [Act.put, List.setIfInBounds_toArray, List.set_cons_zero, List.set_cons_succ]
  refine anyR_valG Later.pre 3 rfl (by kernel_rfl) (by kernel_rfl) (by kernel_rfl) (fun _ _ _ _ h => h) (by rfl) ?_; apply Exists.intro; refine ⟨fun v1 hv1 => ?_, ?_⟩; (· (go_simp; rfl)); simp only [Act.put, List.setIfInBounds_toArray, List.set_cons_zero, List.set_cons_succ]
  refine anyR_valG Later.pre 4 rfl (by kernel_rfl) (by kernel_rfl) (by kernel_rfl) (fun _ _ _ _ h => h) (by rfl) ?_; apply Exists.intro; refine ⟨fun v1 hv1 => ?_, ?_⟩; (· (go_simp; rfl)); simp only [Act.put, List.setIfInBounds_toArray, List.set_cons_zero, List.set_cons_succ]
  refine anyR_valG Later.pre 7 rfl (by kernel_rfl) (by kernel_rfl) (by kernel_rfl) (fun _ _ _ _ h => h) (by rfl) ?_; apply Exists.intro; refine ⟨fun v1 hv1 => ?_, ?_⟩; (· (go_simp; rfl)); simp only [Act.put, List.setIfInBounds_toArray, List.set_cons_zero, List.set_cons_succ]
  refine anyR_valG Later.pre 8 rfl (by kernel_rfl) (by kernel_rfl) (by kernel_rfl) (fun _ _ _ _ h => h) (by rfl) ?_; apply Exists.intro; refine ⟨fun v1 hv1 => ?_, ?_⟩; (· (go_simp; rfl)); simp only [Act.put, List.setIfInBounds_toArray, List.set_cons_zero, List.set_cons_succ]
  refine anyR_valG Later.pre 9 rfl (by kernel_rfl) (by kernel_rfl) (by kernel_rfl) (fun _ _ _ _ h => h) (by rfl) ?_; apply Exists.intro; refine ⟨fun v1 hv1 => ?_, ?_⟩; (· (go_simp; rfl)); simp only [Act.put, List.setIfInBounds_toArray, List.set_cons_zero, List.set_cons_succ]
  clear kF kG
  refine anyR_oneG 5 rfl (by kernel_rfl) (by rfl) (fun V1 hV1 => ?_)
  refine wp_enter 12 #[.slice a zs.length cap, .agg #[.int .i64 k, .int .i64 st, .int .i64 en, .int .u32 ad, .int .u16 po], .slice a' ts.length cap'] (by go_simp) ((HA.out V1 _ _ (HZ.out V1 hV1) (HO.out V1 hV1)).mono ?_)
  rintro e V2 ⟨a2, c2, rfl, hO2, k2⟩
  refine ⟨k2, ?_⟩
  simp only [Act.put, List.setIfInBounds_toArray, List.set_cons_zero, List.set_cons_succ]
  have q2 : ∀ u, Later V2 u → (convert 22 9 (.slice a2 rs.length c2)).run Tryd.prog u = .ok (.string (strOfNums rs)) u := fun u hu => conv_rd 22 9 5 Tryd.underlying22 Tryd.underlying5 Tryd.underlying9 (hO2.rd.below hu)
  refine anyR_valG Later.pre 6 rfl (by kernel_rfl) (by kernel_rfl) (by kernel_rfl) (fun _ _ _ _ h => h) (by rfl) ?_; apply Exists.intro; refine ⟨fun v1 hv1 => ?_, ?_⟩; (· (go_simp; rfl)); simp only [Act.put, List.setIfInBounds_toArray, List.set_cons_zero, List.set_cons_succ]
  clear q2
  refine anyR_oneG 10 rfl (by kernel_rfl) (by rfl) (fun V3 hV3 => ?_)
  have M3 : Later V0 V3 := hV1.trans (Later.trans k2 hV3)
  refine wp_enter 13 #[.slice a zs.length cap, .agg #[.int .i64 k, .int .i64 st, .int .i64 en, .int .u32 0, .int .u16 0], .slice a' ts.length cap'] (by go_simp) ((HB3.out V3 _ _ (HZ.out V3 M3) (HO.out V3 M3)).mono ?_)
  rintro e V4 ⟨r4, rfl, hO4, k4⟩
  refine ⟨k4, ?_⟩
  simp only [Act.put, List.setIfInBounds_toArray, List.set_cons_zero, List.set_cons_succ]
  have q4 : ∀ u, Later V4 u → (convert 22 9 r4).run Tryd.prog u = .ok (.string (strOfNums rs)) u := fun u hu => conv_rd 22 9 5 Tryd.underlying22 Tryd.underlying5 Tryd.underlying9 (hO4.rd.below hu)
  refine anyR_valG Later.pre 11 rfl (by kernel_rfl) (by kernel_rfl) (by kernel_rfl) (fun _ _ _ _ h => h) (by rfl) ?_; apply Exists.intro; refine ⟨fun v1 hv1 => ?_, ?_⟩; (· (go_simp; rfl)); simp only [Act.put, List.setIfInBounds_toArray, List.set_cons_zero, List.set_cons_succ]
  clear q4
  refine anyR_valG Later.pre 12 rfl (by kernel_rfl) (by kernel_rfl) (by kernel_rfl) (fun _ _ _ _ h => h) (by rfl) ?_; apply Exists.intro; refine ⟨fun v1 hv1 => ?_, ?_⟩; (· (go_simp; rfl)); simp only [Act.put, List.setIfInBounds_toArray, List.set_cons_zero, List.set_cons_succ]
  refine anyR_val Later.pre 13 rfl (by kernel_rfl) (by kernel_rfl) (by kernel_rfl) (fun _ _ _ _ h => h) rfl ?_; apply Exists.intro; refine ⟨fun v1 hv1 => ?_, ?_⟩; (· (go_simp; rfl)); simp only [Act.put, List.setIfInBounds_toArray, List.set_cons_zero, List.set_cons_succ]
  refine anyR_val Later.pre 14 rfl (by kernel_rfl) (by kernel_rfl) (by kernel_rfl) (fun _ _ _ _ h => h) rfl ?_; apply Exists.intro; refine ⟨fun v1 hv1 => ?_, ?_⟩; (· (go_simp; rfl)); simp only [Act.put, List.setIfInBounds_toArray, List.set_cons_zero, List.set_cons_succ]
  refine anyR_done (by kernel_rfl) (fun V9 hV9 => ?_)
  go_wp2_with fail
  go_ret
  exact ⟨rfl, LV.trans (M3.trans (Later.trans k4 hV9))⟩
end Go.Proofs.YtjkhblfgadnjfaaDoor
