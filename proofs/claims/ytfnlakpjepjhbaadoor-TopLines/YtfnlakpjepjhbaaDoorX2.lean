/- Several texts in one. -/
import Derived.Test.YtfnlakpjepjhbaaDoorRows
import Derived.ProofKit
import Derived.OpenShut
import Derived.Lib.SmallJoins
import Derived.Shelf.Strings.OnBuilder
import Derived.Test.YtfnlakpjepjhbaaDoorX3
import Derived.Test.YtfnlakpjepjhbaaDoorFM
import Derived.Laws.Append
/- How arguments of package ftp's laws read. -/
namespace Go.Proofs.YtfnlakpjepjhbaaDoor
open Go.ChangeShapes Go.WideShapes Go.ChangeAt Go.RowKit Go.Joins
set_option maxRecDepth 100000
set_option linter.unusedVariables false
set_option linter.unusedSimpArgs false

theorem arr5 {α : Type} {l : Array α} (h : l.size = 5) : ∃ a b c d e, l = #[a, b, c, d, e] := by
  obtain ⟨l⟩ := l
  match l, h with
  | [a, b, c, d, e], _ => exact ⟨a, b, c, d, e, rfl⟩
theorem lst5 {α : Type} {l : List α} (h : l.length = 5) : ∃ a b c d e, l = [a, b, c, d, e] := by
  match l, h with
  | [a, b, c, d, e], _ => exact ⟨a, b, c, d, e, rfl⟩
theorem arr2a {α : Type} {l : Array α} (h : l.size = 2) : ∃ a b, l = #[a, b] := by
  obtain ⟨l⟩ := l
  match l, h with
  | [a, b], _ => exact ⟨a, b, rfl⟩
theorem lst2a {α : Type} {l : List α} (h : l.length = 2) : ∃ a b, l = [a, b] := by
  match l, h with
  | [a, b], _ => exact ⟨a, b, rfl⟩

theorem open_found {H : Type} {enc : TypeId × Value → H} {W : World} {r : Reach} {b0 : Nat} {v : Value} {d : DataW H} {p : List MemPlace} (hv : Value.okWide Tryd.prog W r b0 31 v) (h : DataW.Trod enc Tryd.prog W 0 (fun _ => true) true 31 v d p) :
    ∃ x y z a b : Int, v = .agg #[.int .i64 x, .int .i64 y, .int .i64 z, .int .u32 a, .int .u16 b] ∧ (-9223372036854775808 ≤ x ∧ x ≤ 9223372036854775807) ∧ (-9223372036854775808 ≤ y ∧ y ≤ 9223372036854775807) ∧ (-9223372036854775808 ≤ z ∧ z ≤ 9223372036854775807) ∧ (0 ≤ a ∧ a ≤ 4294967295) ∧ (0 ≤ b ∧ b ≤ 65535) := by
  obtain ⟨cs, rfl, hsz⟩ := okWide_struct Tryd.underlying31 hv
  obtain ⟨c0, c1, c2, c3, c4, rfl⟩ := arr5 (hsz.trans (by kernel_rfl))
  obtain ⟨fuel, hf⟩ := h
  obtain ⟨xs, n, _, hx, _, hlen, hfs⟩ := DataW.trod_struct Tryd.underlying31 hf
  obtain ⟨y0, y1, y2, y3, y4, rfl⟩ := lst5 hlen
  have k1 : Tryd.prog.cellsOf 28 = 1 := by kernel_rfl
  have k2 : Tryd.prog.cellsOf 3 = 1 := by kernel_rfl
  have k3 : Tryd.prog.cellsOf 22 = 1 := by kernel_rfl
  have k5 : Tryd.prog.cellsOf 24 = 1 := by kernel_rfl
  have f0 := hfs 0 _ rfl
  have f1 := hfs 1 _ rfl
  have f2 := hfs 2 _ rfl
  have f3 := hfs 3 _ rfl
  have f4 := hfs 4 _ rfl
  simp [Value.cells, k1, k2, k3, k5] at f0 f1 f2 f3 f4
  obtain ⟨x, e0, _, w0⟩ := DataW.trod_int Tryd.underlying28 f0
  obtain ⟨y, e1, _, w1⟩ := DataW.trod_int Tryd.underlying3 f1
  obtain ⟨z, e2, _, w2⟩ := DataW.trod_int Tryd.underlying3 f2
  obtain ⟨a, e3, _, w3⟩ := DataW.trod_int Tryd.underlying22 f3
  obtain ⟨b, e4, _, w4⟩ := DataW.trod_int Tryd.underlying24 f4
  simp at e0 e1 e2 e3 e4
  subst e0 e1 e2 e3 e4
  simp [Lit.wf, IntKind.min, IntKind.max, IntKind.signed, IntKind.bits] at w0 w1 w2 w3 w4
  exact ⟨x, y, z, a, b, rfl, w0, w1, w2, w3, w4⟩

end Go.Proofs.YtfnlakpjepjhbaaDoor

/- How arguments that are arrays of two words read: their values are numbers within their kinds. -/
namespace Go.Proofs.YtfnlakpjepjhbaaDoor
open Go.ChangeShapes Go.WideShapes Go.ChangeAt Go.RowKit Go.Joins
set_option maxRecDepth 100000

section
variable {H : Type} {enc : TypeId × Value → H} {P : Program} {w : World} {base : Nat} {spare : Nat → Bool} {held : Bool}
/-- An array of two uint16, by value. -/
theorem open_arr2 {r : Reach} {b0 : Nat} {t e : TypeId} {v : Value} {d : DataW H} {p : List MemPlace} (ht : P.underlying t = some (.array 2 e)) (he : P.underlying e = some (.int .u16)) (hce : P.cellsOf e = 1) (hct : P.cellsOf t = 2)
    (hv : Value.okWide P w r b0 t v) (h : DataW.Trod enc P w base spare held t v d p) :
    ∃ x y, v = .agg #[.int .u16 x, .int .u16 y] ∧ (0 ≤ x ∧ x ≤ 65535) ∧ (0 ≤ y ∧ y ≤ 65535) := by
  obtain ⟨cs, rfl, hsz, _⟩ : ∃ cs, v = .agg cs ∧ cs.size = P.cellsOf t ∧ Row.okWide P w r b0 t cs := by
    simpa [Value.okWide, ht] using hv
  obtain ⟨c0, c1, rfl⟩ := array2 (hsz.trans hct)
  obtain ⟨fuel, hf⟩ := h
  obtain ⟨xs, m, _, _, _, hl, hel⟩ := DataW.trod_array ht hf
  match xs, hl with
  | [y0, y1], _ =>
    have e0 := hel 0 (by omega)
    have e1 := hel 1 (by omega)
    rw [hce] at e0 e1
    simp [Value.cells] at e0 e1
    obtain ⟨x, hx, _, wx⟩ := DataW.trod_int he e0
    obtain ⟨y, hy, _, wy⟩ := DataW.trod_int he e1
    simp at hx hy
    subst hx hy
    exact ⟨x, y, rfl, by simpa [Lit.wf, IntKind.min, IntKind.max, IntKind.signed, IntKind.bits] using wx, by simpa [Lit.wf, IntKind.min, IntKind.max, IntKind.signed, IntKind.bits] using wy⟩
end
end Go.Proofs.YtfnlakpjepjhbaaDoor

/- How arguments that are arrays of two words read: their values are numbers within their kinds. -/
namespace Go.Proofs.YtfnlakpjepjhbaaDoor
open Go.ChangeShapes Go.WideShapes Go.ChangeAt Go.RowKit Go.Joins
set_option maxRecDepth 100000

section
variable {H : Type} {enc : TypeId × Value → H} {P : Program} {w : World} {base : Nat} {spare : Nat → Bool} {held : Bool}
/-- An array of two uint16, by value. -/
theorem open_arr2w {r : Reach} {b0 : Nat} {t e : TypeId} {v : Value} {d : DataW H} {p : List MemPlace} (ht : P.underlying t = some (.array 2 e)) (he : P.underlying e = some (.int .u32)) (hce : P.cellsOf e = 1) (hct : P.cellsOf t = 2)
    (hv : Value.okWide P w r b0 t v) (h : DataW.Trod enc P w base spare held t v d p) :
    ∃ x y, v = .agg #[.int .u32 x, .int .u32 y] ∧ (0 ≤ x ∧ x ≤ 4294967295) ∧ (0 ≤ y ∧ y ≤ 4294967295) := by
  obtain ⟨cs, rfl, hsz, _⟩ : ∃ cs, v = .agg cs ∧ cs.size = P.cellsOf t ∧ Row.okWide P w r b0 t cs := by
    simpa [Value.okWide, ht] using hv
  obtain ⟨c0, c1, rfl⟩ := array2 (hsz.trans hct)
  obtain ⟨fuel, hf⟩ := h
  obtain ⟨xs, m, _, _, _, hl, hel⟩ := DataW.trod_array ht hf
  match xs, hl with
  | [y0, y1], _ =>
    have e0 := hel 0 (by omega)
    have e1 := hel 1 (by omega)
    rw [hce] at e0 e1
    simp [Value.cells] at e0 e1
    obtain ⟨x, hx, _, wx⟩ := DataW.trod_int he e0
    obtain ⟨y, hy, _, wy⟩ := DataW.trod_int he e1
    simp at hx hy
    subst hx hy
    exact ⟨x, y, rfl, by simpa [Lit.wf, IntKind.min, IntKind.max, IntKind.signed, IntKind.bits] using wx, by simpa [Lit.wf, IntKind.min, IntKind.max, IntKind.signed, IntKind.bits] using wy⟩
end
end Go.Proofs.YtfnlakpjepjhbaaDoor

/- Package written: Row and Address. -/
namespace Go.Proofs.YtfnlakpjepjhbaaDoor
open Go.RowKit Go.Shelf
set_option maxRecDepth 100000
set_option linter.unusedVariables false
set_option linter.unusedSimpArgs false

theorem joinX : Builder.Extra Tryd.prog joinL_ren := { sizeBuilder := by kernel_rfl, liesBuilder := by kernel_rfl, t5 := Tryd.underlying5, a5 := Tryd.isAgg5, z5 := Tryd.sizeOf5, v5 := Tryd.zeroValue5, infoByte := by kernel_rfl, cellsByte := by kernel_rfl, sizeByte := by kernel_rfl, neB5 := by decide }
theorem info_str : (Tryd.prog.info? 9).map (fun i => (i.zero, i.size, i.bytes)) = some (some (.string ⟨#[]⟩), 1, 16) := by kernel_rfl
theorem info_partsS {P : Program} {t : TypeId} {z : Value} {a b : Nat} (h : (P.info? t).map (fun i => (i.zero, i.size, i.bytes)) = some (some z, a, b)) : ∃ i, P.info? t = some i ∧ i.zero = some z ∧ i.size = a ∧ i.bytes = b := by
  cases hi : P.info? t with
  | none => rw [hi] at h; cases h
  | some i => rw [hi] at h; simp at h; exact ⟨i, rfl, h.1, h.2.1, h.2.2⟩
theorem new_str (W : World) (xs : List Value) : ∀ j u, xs[j]? = some u → (W.alloc (.cells xs.toArray 9)).cell? ((⟨W.heap.size, 0, none⟩ : Addr).add j) = some u := fun j u hj => by
  rw [show (⟨W.heap.size, 0, none⟩ : Addr).add j = ⟨W.heap.size, j, none⟩ from by unfold Addr.add; split <;> simp_all, block_cell (heap_alloc_new W _) j]
  simpa using hj
theorem ownsS_later {base : Nat} {e : TypeId} {size : Nat} {A B : World} {v : Value} {n : Nat} {xs : List Value} (h : A.ownsRow base e size v n xs) (c : Later A B) : B.ownsRow base e size v n xs := by
  obtain ⟨h1, h2 | ⟨g, cap, cur, hv, hg, hh, r⟩⟩ := h
  · exact ⟨h1, .inl h2⟩
  · exact ⟨h1, .inr ⟨g, cap, cur, hv, hg, later_keep c hh, r⟩⟩
theorem ownsS_succ {w : World} {base : Nat} {e : TypeId} {size : Nat} {v : Value} {n : Nat} {xs : List Value} (h : w.ownsRow base e size v (n + 1) xs) : ∃ g cp, v = .slice (some ⟨g, 0, none⟩) (n + 1) cp := by
  obtain ⟨_, ⟨_, h⟩ | ⟨g, cap, cur, hv, _⟩⟩ := h
  · omega
  · exact ⟨g, cap, hv⟩
/-- Strings as cells. -/
def strs (l : List ByteArray) : List Value := l.map Value.string
theorem strs_snoc (l : List ByteArray) (x : ByteArray) : strs (l ++ [x]) = strs l ++ [.string x] := by unfold strs; simp

theorem wpList_appS {ops : Array Oper} {rest : List Oper} {o : Oper} {a : Act} {Q : Exit → Act → World → Prop} {W : World} (hgd : o.guard = none) (s y : Operand)
    (ho : o.op = .call { callee := .builtin .append, args := #[s, y], argTypes := #[29, 29] }) (base : Nat) (v : Value) (M : List ByteArray) (x : ByteArray)
    (hs : a.eval s = v) (hy : a.eval y = .slice (some ⟨W.heap.size, 0, none⟩) 1 1) (hown : W.ownsRow base 9 1 v M.length (strs M)) (hb : base ≤ W.heap.size) (hM : M.length ≤ 100000)
    (h : ∀ g cp W2, W2.ownsRow base 9 1 (.slice (some ⟨g, 0, none⟩) (M.length + 1) cp) (M ++ [x]).length (strs (M ++ [x])) → Below base W W2 → wpList Tryd.prog ops Q rest (a.put o.dst (.slice (some ⟨g, 0, none⟩) (M.length + 1) cp)) W2) :
    wpList Tryd.prog ops Q (o :: rest) a (W.alloc (.cells #[.string x] 9)) := by
  obtain ⟨i0, hi0, hz0, hz1, hz2⟩ := info_partsS info_str
  have la : Later W (W.alloc (.cells #[.string x] 9)) := (Below.refl _ _).alloc (Nat.le_refl _) _
  have hownA := ownsS_later hown la
  refine wpList_append_own _ hgd s y 29 ho base 9 i0 (.string ⟨#[]⟩) 1 16 Tryd.underlying29 hi0 hz0 hz1 hz2 rfl (by decide) v M.length (strs M) hs hownA ⟨W.heap.size, 0, none⟩ 1 1 [.string x] hy rfl (new_str W [.string x]) (by intro u hu; simp at hu; subst hu; rfl) (by unfold maxLen; omega) (by omega) (by have := la.size; omega) ?_
  intro v2 W2 hrow hg _
  obtain ⟨g2, cp2, rfl⟩ := ownsS_succ hrow
  refine h g2 cp2 W2 ?_ ?_
  · rw [strs_snoc, List.length_append, List.length_singleton]
    exact hrow
  · refine (la.mono hb).trans ⟨hg.os, hg.tape, hg.output, hg.size, fun i hi => hg.block i (by have := la.size; omega) (fun e => ?_)⟩
    have := (hown.lt i e.symm).1
    omega

/-- Numbers written with a mark between them. -/
def rowB (mk : ByteArray) (zs : List Int) : ByteArray := ⟨(Lib.join ((zs.map fun z => decB z.toNat).map (·.data.toList)) mk.data.toList).toArray⟩

theorem join_any (bk c : Nat) (xs : List ByteArray) (sep : ByteArray) (w : World) (hc : w.ownsRow 0 9 1 (.slice (some ⟨bk, 0, none⟩) xs.length c) xs.length (strs xs)) (hlen : (Lib.join (xs.map (·.data.toList)) sep.data.toList).length ≤ 140737488355328) (hN : xs.length ≤ 100000) :
    Calls Tryd.prog 29 #[.slice (some ⟨bk, 0, none⟩) xs.length c, .string sep] w fun e w' => e = .returned (.string ⟨(Lib.join (xs.map (·.data.toList)) sep.data.toList).toArray⟩) ∧ Later w w' := by
  obtain ⟨_, ⟨e, _⟩ | ⟨g, cap, cur, e, _, hh, h1, h2, h3, h4⟩⟩ := hc
  · cases e
  cases e
  refine Any.strings_Join joinL joinX bk 0 c xs sep w (fun j x hj => ?_) (Array.getElem?_eq_some_iff.1 hh).1 (by omega) h1 hlen
  have hj' : j < xs.length := (List.getElem?_eq_some_iff.1 hj).1
  rw [Nat.zero_add, block_cell hh, ← Array.getElem?_toList]
  have h5 := congrArg (·[j]?) h4
  simp only [Nat.mul_one] at h5
  rw [List.getElem?_take, if_pos hj'] at h5
  rw [h5]
  unfold strs
  rw [List.getElem?_map, hj]
  rfl

set_option maxHeartbeats 4000000 in
theorem wrow_any (mk : ByteArray) (sv : Value) (zs : List Int) (w : World) (hT : TabI w) (hB : Mt.By zs) (hI : Rd w.heap.size w sv zs) (hn : zs.length ≤ 100) (hne : zs ≠ []) (hlen : (rowB mk zs).size ≤ 1000000) :
    Calls Tryd.prog 12 #[.string mk, sv] w fun e w' => e = .returned (.string (rowB mk zs)) ∧ Below w.heap.size w w' := by
  obtain ⟨av, cv, rfl, hlv, hmv⟩ := hI.slice
  have HT := hide hT
  have HI := hide hI
  have HB := hide hB
  have HNE := hide hne
  have HLE := hide hlen
  clear hT hI hB hne hlen
  have hzl : (zs.length : Int) ≤ 100 := by omega
  go_enter Tryd.func12, Tryd.ntmps12
  go_wp2_with fail
  go_loopw [5, 10] (fun v5 v10 wr => ∃ k : Nat, k ≤ zs.length ∧ v10 = .int .i64 (k : Int) ∧ wr.ownsRow w.heap.size 9 1 v5 ((zs.take k).map fun z => decB z.toNat).length (strs ((zs.take k).map fun z => decB z.toNat)) ∧ Later w wr) (fun _ v10 _ => zs.length - (intOf v10).toNat)
  case atStart => exact ⟨0, by omega, rfl, ⟨rfl, .inl ⟨rfl, rfl⟩⟩, Later.refl _⟩
  case round =>
    obtain ⟨k, hk, rfl, hown, l1⟩ := hrel
    have HO := hide hown
    clear hown
    by_cases hlt : k < zs.length
    · have hlt' : (k : Int) < zs.length := by omega
      obtain ⟨bb, off, cp, he, hl5, hl6, hl7, hcell⟩ := (HI.out.later l1).cells (by omega)
      obtain ⟨rfl, rfl⟩ : av = some ⟨bb, off, none⟩ ∧ cv = cp := by injection he with h1 h2 h3; exact ⟨h1, h3⟩
      clear he
      have hck := hcell k hlt
      have hzb := Mt.By.at HB.out k
      have HS : Hid ((zs.take (k + 1)).map (fun z => decB z.toNat) = (zs.take k).map (fun z => decB z.toNat) ++ [decB (zs[k]?.getD 0).toNat]) := by
        show _ = _
        rw [List.take_succ_eq_append_getElem hlt, List.map_append, List.getElem?_eq_getElem hlt]
        rfl
      clear hcell
      generalize hM : (zs.take k).map (fun z => decB z.toNat) = M at HO HS
      have HML : Hid (M.length = k) := by show _ = _; rw [← hM, List.length_map, List.length_take]; omega
      clear hM
      obtain ⟨n, hn'⟩ : ∃ n : Nat, zs[k]?.getD 0 = (n : Int) := ⟨(zs[k]?.getD 0).toNat, by omega⟩
      rw [hn'] at hck hzb HS
      rw [Int.toNat_natCast] at HS
      have HIT := hide (itoa_any n wr (HT.out.later l1) (by omega))
      generalize decB n = x at *
      clear hn'
      go_wp2_with fail
      refine HIT.out.mono ?_
      rintro e w2 ⟨rfl, b2⟩
      have HO2 := hide (ownsS_later HO.out b2)
      have l2 : Later w w2 := l1.trans b2
      have hws : w.heap.size ≤ w2.heap.size := l2.size
      have hM1 : M.length ≤ 100000 := by rw [HML.out]; omega
      go_wp2_with (at_builtin; refine wpList_appS rfl (.tmp 14) (.tmp 18) rfl w.heap.size _ M x rfl rfl HO2.out hws hM1 ?_; intro g cp w3 hown3 b3; refine Hid.out ?_)
      have HO3 := hide hown3
      clear hown3
      have l3 : Later w w3 := Below.trans l2 b3
      show wpList _ _ _ _ _ _
      go_wp2_with fail
      go_roundw
      case rel => exact ⟨k + 1, hlt, by go_num, by rw [HS.out]; exact HO3.out, l3⟩
      case measure => simp [intOf]; omega
    · obtain rfl : k = zs.length := by omega
      rw [List.take_length] at HO
      have hgb : ∃ g cp, u5 = .slice (some ⟨g, 0, none⟩) (zs.map fun z => decB z.toNat).length cp := by
        have hl : (zs.map fun z => decB z.toNat).length = zs.length - 1 + 1 := by
          rw [List.length_map]
          have : zs.length ≠ 0 := fun h => HNE.out (List.length_eq_zero_iff.1 h)
          omega
        have := HO.out
        rw [hl] at this ⊢
        exact ownsS_succ this
      obtain ⟨g, cp, rfl⟩ := hgb
      have h0 : wr.ownsRow 0 9 1 (.slice (some ⟨g, 0, none⟩) (zs.map fun z => decB z.toNat).length cp) (zs.map fun z => decB z.toNat).length (strs (zs.map fun z => decB z.toNat)) := by
        obtain ⟨h1, h2 | ⟨g, cap, cur, hv, hg, hh, r⟩⟩ := HO.out
        · exact ⟨h1, .inl h2⟩
        · exact ⟨h1, .inr ⟨g, cap, cur, hv, Nat.zero_le _, hh, r⟩⟩
      have HJ := hide (join_any g cp (zs.map fun z => decB z.toNat) mk wr h0 (by have := HLE.out; unfold rowB at this; have e : ∀ l : List UInt8, (⟨l.toArray⟩ : ByteArray).size = l.length := fun _ => rfl; rw [e] at this; omega) (by rw [List.length_map]; omega))
      have HRW : Hid ((⟨(Lib.join ((zs.map fun z => decB z.toNat).map (·.data.toList)) mk.data.toList).toArray⟩ : ByteArray) = rowB mk zs) := rfl
      rw [HRW.out] at HJ
      generalize hrb : rowB mk zs = rb at *
      have ERB := hide hrb
      clear hrb
      generalize (zs.map fun z => decB z.toNat) = xs at *
      clear h0 HO HRW
      go_wp2_with fail
      refine HJ.out.mono ?_
      rintro e w4 ⟨rfl, b4⟩
      go_wp2_with fail
      go_ret
      exact ⟨by rw [ERB.out]; rfl, l1.trans b4⟩

theorem join_two (l m : List UInt8) (r : List (List UInt8)) (sep : List UInt8) : Lib.join (l :: m :: r) sep = l ++ (sep ++ Lib.join (m :: r) sep) := by simp [Lib.join, List.intercalate, List.intersperse]
theorem join_le (sep : List UInt8) (k : Nat) : ∀ ls : List (List UInt8), (∀ l ∈ ls, l.length ≤ k) → (Lib.join ls sep).length ≤ ls.length * (k + sep.length)
  | [], _ => by simp [Lib.join]
  | [l], h => by have := h l (by simp); simp [Lib.join]; omega
  | l :: m :: r, h => by
    have h1 := h l (by simp)
    have h2 := join_le sep k (m :: r) (fun x hx => h x (by simp [hx]))
    rw [join_two, List.length_append, List.length_append, List.length_cons, Nat.succ_mul]
    omega
theorem rowB_size (mk : ByteArray) (zs : List Int) (h : Mt.By zs) : (rowB mk zs).size ≤ zs.length * (5 + mk.size) := by
  have := join_le mk.data.toList 5 ((zs.map fun z => decB z.toNat).map (·.data.toList)) (fun l hl => by
    simp only [List.mem_map] at hl
    obtain ⟨x, ⟨z, hz, rfl⟩, rfl⟩ := hl
    have h2 := h z hz
    have h3 := decB_size z.toNat (by omega)
    rw [Array.length_toList]
    exact h3)
  rw [List.length_map, List.length_map, Array.length_toList] at this
  exact this
/-- An address's four numbers; a port's two. -/
def ad4 (a : Int) : List Int := [a / 16777216, a / 65536 % 256, a / 256 % 256, a % 256]
theorem ad4_by (a : Int) (h : 0 ≤ a ∧ a ≤ 4294967295) : Mt.By (ad4 a) := fun z hz => by
  simp [ad4] at hz
  omega
def po2 (p : Int) : List Int := [p / 256, p % 256]
theorem po2_by (p : Int) (h : 0 ≤ p ∧ p ≤ 65535) : Mt.By (po2 p) := fun z hz => by
  simp [po2] at hz
  omega

set_option maxHeartbeats 4000000 in
theorem address_any (a : Int) (h : 0 ≤ a ∧ a ≤ 4294967295) (w : World) (hT : TabI w) :
    Calls Tryd.prog 10 #[.int .u32 a] w fun e w' => e = .returned (.string (rowB tDot (ad4 a))) ∧ Below w.heap.size w w' := by
  have la : Later w (w.alloc (.cells ((ad4 a).map (Value.int .u8)).toArray 5)) := later_allocR _ _
  have HR := hide (wrow_any tDot _ (ad4 a) _ (hT.later la) (ad4_by a h) (rd_mark (ad4 a) 5 (0, 0) w (by simp [ad4]) (by simp [ad4])) (by simp [ad4]) (by simp [ad4]) (Nat.le_trans (rowB_size tDot (ad4 a) (ad4_by a h)) (by simp [ad4, tDot, ByteArray.size])))
  generalize hrb : rowB tDot (ad4 a) = rb at HR
  have ERB := hide hrb
  clear hT hrb
  unfold tDot at HR
  go_enter Tryd.func10, Tryd.ntmps10
  go_wp2_with fail
  refine HR.out.mono ?_
  rintro e w1 ⟨rfl, b1⟩
  have l1 : Later w w1 := la.trans b1
  go_wp2_with fail
  go_ret
  exact ⟨rfl, l1⟩

/-- The bytes of a kind that name an address and a port. -/
def tOneB : ByteArray := ⟨#[124, 49, 124]⟩
def txtB (k a : Int) (p : Nat) : ByteArray := if k = 2 then tOne ++ rowB tDot (ad4 a) ++ tBar ++ decB p ++ tBar else if k = 4 then decB p else rowB cma (ad4 a ++ po2 p)

set_option maxHeartbeats 4000000 in
theorem text_2 (a : Int) (h : 0 ≤ a ∧ a ≤ 4294967295) (n : Nat) (w : World) (hT : TabI w) (hn : n ≤ 65535) :
    Calls Tryd.prog 4 #[.int .i64 2, .int .u32 a, .int .u16 (n : Int)] w fun e w' => ∃ x c, e = .returned (.slice x (nmsB (txtB 2 a n)).length c) ∧ Rd w'.heap.size w' (.slice x (nmsB (txtB 2 a n)).length c) (nmsB (txtB 2 a n)) ∧ Below w.heap.size w w' := by
  have HA := hide (address_any a h w hT)
  have HIT := hide (fun W (l : Later w W) => itoa_any n W (hT.later l) (by omega))
  have hs1 := rowB_size tDot (ad4 a) (ad4_by a h)
  have hs2 := decB_size n hn
  have hsz : (txtB 2 a n).size ≤ 100 := by
    unfold txtB
    rw [if_pos rfl]
    simp only [ByteArray.size_append]
    have : tOne.size = 3 := rfl
    have : tBar.size = 1 := rfl
    have h3 : (ad4 a).length * (5 + tDot.size) = 24 := rfl
    omega
  have hcv := fun W => Lib.run_convert_string_bytes (P := Tryd.prog) W 9 26 5 (txtB 2 a n) Tryd.underlying9 Tryd.underlying26 Tryd.underlying5
  have HR := hide (fun W => conv_rdS W 5 (txtB 2 a n) (by omega))
  have HLn := hide (nmsB_len (txtB 2 a n))
  have hE : txtB 2 a n = tOne ++ rowB tDot (ad4 a) ++ tBar ++ decB n ++ tBar := by unfold txtB; rw [if_pos rfl]
  rw [hE] at hcv
  unfold tOne tBar at hcv
  have HE := hide hE
  have hs1' : (rowB tDot (ad4 a)).size ≤ 24 := hs1
  generalize rowB tDot (ad4 a) = rb at *
  generalize decB n = s at *
  have q1 : (rb.size : Int) ≤ 24 := by omega
  have q2 : (s.size : Int) ≤ 5 := by omega
  clear hE hs1 hs2 hsz hT
  go_enter Tryd.func4, Tryd.ntmps4
  go_wp2_with fail
  refine HA.out.mono ?_
  rintro e w1 ⟨rfl, b1⟩
  go_wp2_with fail
  refine (HIT.out w1 b1).mono ?_
  rintro e w2 ⟨rfl, b2⟩
  have l2 : Later w w2 := Later.trans b1 b2
  go_wp2_with fail
  go_ret
  rw [HLn.out]
  have e : ((⟨#[124, 49, 124]⟩ : ByteArray) ++ rb ++ ⟨#[124]⟩ ++ s ++ ⟨#[124]⟩) = txtB 2 a n := HE.out.symm
  have hsz2 : 3 + rb.size + 1 + s.size + 1 = (txtB 2 a n).size := by rw [← e]; simp only [ByteArray.size_append]; rfl
  rw [e]
  refine ⟨some ⟨w2.heap.size, 0, none⟩, grownCap w2 (txtB 2 a n).size 0 5, ?_, HR.out w2, Later.trans l2 (conv_later w2 _ _)⟩
  rw [← hsz2]
  rfl

set_option maxHeartbeats 4000000 in
theorem text_6 (k a : Int) (hk : k ≠ 0 ∧ k ≠ 2 ∧ k ≠ 4) (h : 0 ≤ a ∧ a ≤ 4294967295) (n : Nat) (w : World) (hT : TabI w) (hn : n ≤ 65535) :
    Calls Tryd.prog 4 #[.int .i64 k, .int .u32 a, .int .u16 (n : Int)] w fun e w' => ∃ x c, e = .returned (.slice x (nmsB (txtB k a n)).length c) ∧ Rd w'.heap.size w' (.slice x (nmsB (txtB k a n)).length c) (nmsB (txtB k a n)) ∧ Below w.heap.size w w' := by
  have la : Later w (w.alloc (.cells ((ad4 a ++ po2 n).map (Value.int .u8)).toArray 5)) := later_allocR _ _
  have hby : Mt.By (ad4 a ++ po2 n) := fun z hz => by
    rcases List.mem_append.1 hz with hz | hz
    · exact ad4_by a h z hz
    · exact po2_by n (by omega) z hz
  have hrs : (rowB cma (ad4 a ++ po2 n)).size ≤ 36 := rowB_size cma (ad4 a ++ po2 n) hby
  have HRW := hide (wrow_any cma _ (ad4 a ++ po2 n) _ (hT.later la) hby (rd_mark (ad4 a ++ po2 n) 5 (0, 0) w (by simp [ad4]) (by simp [ad4, po2])) (by simp [ad4, po2]) (by simp [ad4]) (by omega))
  have hE : txtB k a n = rowB cma (ad4 a ++ po2 n) := by unfold txtB; rw [if_neg hk.2.1, if_neg hk.2.2]
  rw [hE]
  have hcv := fun W => Lib.run_convert_string_bytes (P := Tryd.prog) W 9 26 5 (rowB cma (ad4 a ++ po2 n)) Tryd.underlying9 Tryd.underlying26 Tryd.underlying5
  have HR := hide (fun W => conv_rdS W 5 (rowB cma (ad4 a ++ po2 n)) (by omega))
  have HLn := hide (nmsB_len (rowB cma (ad4 a ++ po2 n)))
  generalize rowB cma (ad4 a ++ po2 n) = s at *
  clear hE hrs hT hby
  unfold cma at HRW
  have k0 : (k == 0) = false := by simp [hk.1]
  have k2 : (k == 2) = false := by simp [hk.2.1]
  have k4 : (k == 4) = false := by simp [hk.2.2]
  clear hk
  go_enter Tryd.func4, Tryd.ntmps4
  go_wp2_with fail
  refine HRW.out.mono ?_
  rintro e w1 ⟨rfl, b1⟩
  have l1 : Later w w1 := la.trans b1
  go_wp2_with fail
  go_ret
  rw [HLn.out]
  exact ⟨_, _, rfl, HR.out w1, Later.trans l1 (conv_later w1 _ s)⟩

theorem text_any (k a : Int) (hk : k ≠ 0) (h : 0 ≤ a ∧ a ≤ 4294967295) (n : Nat) (w : World) (hT : TabI w) (hn : n ≤ 65535) :
    Calls Tryd.prog 4 #[.int .i64 k, .int .u32 a, .int .u16 (n : Int)] w fun e w' => ∃ x c, e = .returned (.slice x (nmsB (txtB k a n)).length c) ∧ Rd w'.heap.size w' (.slice x (nmsB (txtB k a n)).length c) (nmsB (txtB k a n)) ∧ Below w.heap.size w w' := by
  by_cases h2 : k = 2
  · subst h2; exact text_2 a h n w hT hn
  · by_cases h4 : k = 4
    · subst h4; exact text_4 a n w hT hn
    · exact text_6 k a ⟨hk, h2, h4⟩ h n w hT hn
end Go.Proofs.YtfnlakpjepjhbaaDoor

/- The document's number and the program's are the same. -/
namespace Go.Proofs.YtfnlakpjepjhbaaDoor
open Go.RowKit Go.Shelf
set_option maxRecDepth 100000
set_option linter.unusedVariables false
set_option linter.unusedSimpArgs false

theorem dgE_in (zs : List Int) : ∀ k p j, p ≤ j → j < dgE zs k p → dgt (zs[j]?.getD 0) = true
  | 0, p, j, h1, h2 => by have : dgE zs 0 p = p := rfl; omega
  | k + 1, p, j, h1, h2 => by
    unfold dgE at h2
    split at h2
    · rename_i hq
      by_cases hj : j = p
      · subst hj; exact hq.2
      · exact dgE_in zs k (p + 1) j (by omega) h2
    · omega
theorem dgE_out (zs : List Int) : ∀ k p, zs.length - p ≤ k → dgE zs k p < zs.length → dgt (zs[dgE zs k p]?.getD 0) = false
  | 0, p, h1, h2 => by have : dgE zs 0 p = p := rfl; omega
  | k + 1, p, h1, h2 => by
    unfold dgE at h2 ⊢
    split at h2
    · rename_i hq
      rw [if_pos hq]
      exact dgE_out zs k (p + 1) (by omega) h2
    · rename_i hq
      rw [if_neg hq]
      cases hd : dgt (zs[p]?.getD 0) with
      | false => rfl
      | true => exact absurd ⟨h2, hd⟩ hq
theorem dgZ_in {zs : List Int} {p j : Nat} (h1 : p ≤ j) (h2 : j < dgZ zs p) : dgt (zs[j]?.getD 0) = true := dgE_in zs _ p j h1 h2
theorem dgZ_out {zs : List Int} {p : Nat} (h : dgZ zs p < zs.length) : dgt (zs[dgZ zs p]?.getD 0) = false := dgE_out zs _ p (Nat.le_refl _) h
theorem nmE_ge (zs : List Int) (most : Int) : ∀ k i n, i ≤ (nmE zs most k i n).1
  | 0, i, n => Nat.le_refl _
  | k + 1, i, n => by
    unfold nmE
    split
    · have := nmE_ge zs most k (i + 1) (n * 10 + (zs[i]?.getD 0 - 48)); omega
    · exact Nat.le_refl _
theorem dgS_size {zs : List Int} {p : Nat} (h : p ≤ zs.length) : (dgS zs p).size = dgZ zs p - p := by
  unfold dgS
  rw [strOfNums_size]
  have := dgZ_le h
  simp
  omega
theorem dgS_at {zs : List Int} {p j : Nat} (hz : Mt.By zs) (h : p ≤ zs.length) (hj : j < dgZ zs p - p) : bAt (dgS zs p) j = zs[p + j]?.getD 0 := by
  unfold dgS
  have := dgZ_le h
  rw [strOf_at _ (fun z hzz => hz z (List.mem_of_mem_drop (List.mem_of_mem_take hzz))) j (by simp; omega), List.getElem?_take, if_pos hj, List.getElem?_drop]
/-- Behind a first digit that is no nought. -/
theorem num_same {zs : List Int} {p : Nat} {most : Int} (hz : Mt.By zs) (hp : p ≤ zs.length) (hm : 0 ≤ most) (h0 : zs[p]?.getD 0 ≠ 48) : ∀ k pos n, pos + k = dgZ zs p - p → 0 ≤ n → n ≤ most → (0 < pos → 0 < n) → (pos = 0 → n = 0) →
    (numP (dgS zs p) most k pos n = none ∧ most < (nmZ zs most (p + pos) n).2) ∨ ∃ v, numP (dgS zs p) most k pos n = some v ∧ nmZ zs most (p + pos) n = (dgZ zs p, v) ∧ v ≤ most
  | 0, pos, n, h1, h2, h3, h4, h5 => by
    have hle := dgZ_le hp
    refine .inr ⟨n, rfl, ?_, h3⟩
    have e : p + pos = dgZ zs p := by omega
    rw [e]
    refine nmZ_stop (fun hq => ?_)
    have := dgZ_out hq.1
    rw [this] at hq
    cases hq.2.1
  | k + 1, pos, n, h1, h2, h3, h4, h5 => by
    have hle := dgZ_le hp
    have hd := dgZ_in (zs := zs) (p := p) (j := p + pos) (by omega) (by omega)
    have hb := dgS_at hz hp (j := pos) (by omega)
    have hr := dgt_rng hd
    have hgo := nmZ_go (zs := zs) (most := most) (i := p + pos) (n := n) ⟨by omega, hd, h3⟩
    rw [hgo]
    unfold numP
    rw [hb, hd, if_neg (by simp), if_neg (fun hq => by have := h4 hq.1; omega)]
    by_cases hbig : most < n * 10 + (zs[p + pos]?.getD 0 - 48)
    · rw [if_pos hbig]
      refine .inl ⟨rfl, ?_⟩
      rw [nmZ_stop (fun hq => by have := hq.2.2; omega)]
      exact hbig
    · rw [if_neg hbig]
      refine num_same hz hp hm h0 k (pos + 1) _ (by omega) (by omega) (by omega) (fun _ => ?_) (by omega)
      by_cases hpz : pos = 0
      · subst hpz
        have := h5 rfl
        simp only [Nat.add_zero] at hr ⊢
        omega
      · have := h4 (by omega); omega
theorem numD_is {zs : List Int} {p : Nat} {most : Int} (hz : Mt.By zs) (hp : p ≤ zs.length) (hm : 0 ≤ most) : numD zs p most = (numV (dgS zs p) most).map fun n => (n, dgZ zs p) := by
  have hle := dgZ_le hp
  have hs := dgS_size hp
  by_cases hm0 : dgZ zs p = p
  · have e1 : nmZ zs most p 0 = (p, 0) := by
      refine nmZ_stop (fun hq => ?_)
      have := dgZ_out (zs := zs) (p := p) (by omega)
      rw [hm0] at this
      rw [this] at hq
      cases hq.2.1
    unfold numD numV
    rw [e1, if_pos (.inl rfl), if_pos (by omega)]
    rfl
  · have hV : numV (dgS zs p) most = numP (dgS zs p) most (dgZ zs p - p) 0 0 := by unfold numV; rw [if_neg (by omega), hs]
    rw [hV]
    by_cases h48 : zs[p]?.getD 0 = 48
    · have hd := dgZ_in (zs := zs) (p := p) (j := p) (Nat.le_refl _) (by omega)
      have e1 := nmZ_go (zs := zs) (most := most) (i := p) (n := 0) ⟨by omega, hd, hm⟩
      have hb := dgS_at hz hp (j := 0) (by omega)
      simp only [Nat.add_zero] at hb
      rw [h48] at e1
      have e0 : (0 : Int) * 10 + (48 - 48) = 0 := by omega
      rw [e0] at e1
      by_cases hone : dgZ zs p = p + 1
      · have e2 : nmZ zs most (p + 1) 0 = (p + 1, 0) := by
          refine nmZ_stop (fun hq => ?_)
          have := dgZ_out (zs := zs) (p := p) (by omega)
          rw [hone] at this
          rw [this] at hq
          cases hq.2.1
        have hn : ¬ ((p + 1 = p) ∨ most < 0 ∨ (zs[p]?.getD 0 = 48 ∧ p + 1 < p + 1) ∨ (p + 1 < zs.length ∧ dgt (zs[p + 1]?.getD 0) = true)) := by
          intro hq
          rcases hq with hq | hq | hq | hq
          · omega
          · omega
          · omega
          · have := dgZ_out (zs := zs) (p := p) (by omega)
            rw [hone, hq.2] at this
            cases this
        unfold numD
        rw [e1, e2, if_neg hn, hone, show p + 1 - p = 1 by omega]
        unfold numP
        rw [hb, h48, if_neg (by decide), if_neg (by omega), if_neg (by omega)]
        rfl
      · have e2 := nmE_ge zs most (zs.length - (p + 2)) (p + 2) (0 * 10 + (zs[p + 1]?.getD 0 - 48))
        have hd1 := dgZ_in (zs := zs) (p := p) (j := p + 1) (by omega) (by omega)
        have e3 := nmZ_go (zs := zs) (most := most) (i := p + 1) (n := 0) ⟨by omega, hd1, hm⟩
        have e4 : p + 2 ≤ (nmZ zs most p 0).1 := by rw [e1, e3]; exact e2
        unfold numD
        rw [if_pos (.inr (.inr (.inl ⟨h48, by omega⟩))), show dgZ zs p - p = (dgZ zs p - p - 2) + 1 + 1 by omega]
        unfold numP
        rw [hb, h48, if_neg (by decide), if_neg (by omega), if_neg (by omega), e0]
        have hb1 := dgS_at hz hp (j := 1) (by omega)
        have : numP (dgS zs p) most (dgZ zs p - p - 2 + 1) (0 + 1) 0 = none := by
          unfold numP
          rw [show 0 + 1 = 1 from rfl, hb1, hd1, if_neg (by simp), if_pos ⟨by omega, rfl⟩]
        rw [this]
        rfl
    · have := num_same hz hp hm h48 (dgZ zs p - p) 0 0 (by omega) (Int.le_refl _) hm (by omega) (fun _ => rfl)
      simp only [Nat.add_zero] at this
      rcases this with ⟨a1, a2⟩ | ⟨v, a1, a2, a3⟩
      · unfold numD
        rw [a1, if_pos (.inr (.inl a2))]
        rfl
      · unfold numD
        rw [a1, a2, if_neg]
        · rfl
        · intro hq
          rcases hq with hq | hq | hq | hq
          · exact hm0 hq
          · omega
          · exact h48 hq.1
          · have := dgZ_out hq.1
            rw [this] at hq
            cases hq.2
end Go.Proofs.YtfnlakpjepjhbaaDoor

/- Numbers as text: what is written is read, and what is read was written so. -/
namespace Go.Proofs.YtfnlakpjepjhbaaDoor
open Go.RowKit Go.Shelf
set_option maxRecDepth 100000
set_option linter.unusedVariables false
set_option linter.unusedSimpArgs false

/-- A number's digits. -/
def dg (n : Nat) : List Int := nmsB (decB n)
theorem dg_eq (n : Nat) : dg n = (Lib.decDigits n).map fun b => (b.toNat : Int) := rfl
theorem dg_small {n : Nat} (h : n < 10) : dg n = [48 + (n : Int)] := by
  rw [dg_eq, Lib.decDigits, dif_pos h]
  simp
  omega
theorem dg_big {n : Nat} (h : 10 ≤ n) : dg n = dg (n / 10) ++ [48 + ((n % 10 : Nat) : Int)] := by
  rw [dg_eq, Lib.decDigits, dif_neg (by omega), List.map_append, ← dg_eq]
  simp
  omega
theorem dg_pos (n : Nat) : 0 < (dg n).length := by
  by_cases h : n < 10
  · rw [dg_small h]; simp
  · rw [dg_big (by omega)]; simp
theorem dg_dgt : ∀ (n : Nat), ∀ z ∈ dg n, dgt z = true := by
  intro n
  induction n using Nat.strongRecOn with
  | ind n ih =>
    intro z hz
    by_cases h : n < 10
    · rw [dg_small h] at hz
      simp at hz
      subst hz
      unfold dgt
      simp
      omega
    · rw [dg_big (by omega)] at hz
      rcases List.mem_append.1 hz with hz | hz
      · exact ih (n / 10) (by omega) z hz
      · simp only [List.mem_singleton] at hz
        subst hz
        unfold dgt
        simp
        omega
theorem nmsB_at (s : ByteArray) (i : Nat) (h : i < s.size) : bAt s i = (nmsB s)[i]?.getD 0 := by
  unfold bAt nmsB
  have h' : i < s.data.toList.length := by rw [Array.length_toList]; exact h
  rw [List.getElem?_map, List.getElem?_eq_getElem h']
  simp only [Option.map_some, Option.getD_some, ByteArray.get!]
  rw [getElem!_pos s.data i h]
  simp
theorem nmsB_str (l : List Int) (h : Mt.By l) : nmsB (strOfNums l) = l := by
  apply List.ext_getElem?
  intro i
  by_cases hi : i < l.length
  · have hs : i < (strOfNums l).size := by rw [strOfNums_size]; exact hi
    have h1 := strOf_at l h i hi
    rw [nmsB_at _ _ hs] at h1
    have h2 : i < (nmsB (strOfNums l)).length := by rw [nmsB_len]; exact hs
    rw [List.getElem?_eq_getElem h2, List.getElem?_eq_getElem hi] at h1 ⊢
    simp only [Option.getD_some] at h1
    rw [h1]
  · rw [List.getElem?_eq_none (l := nmsB (strOfNums l)) (by rw [nmsB_len, strOfNums_size]; omega), List.getElem?_eq_none (by omega)]
theorem str_nmsB (s : ByteArray) : strOfNums (nmsB s) = s := by
  cases s with
  | mk d =>
    unfold strOfNums nmsB
    congr 1
    rw [List.map_map]
    have : ((fun n : Int => UInt8.ofNat n.toNat) ∘ fun b : UInt8 => (b.toNat : Int)) = id := by
      funext b
      simp
    rw [this]
    simp
theorem numP_step {s : ByteArray} {most : Int} {pos : Nat} {n : Int} (h : pos < s.size) (hd : dgt (bAt s pos) = true) (h0 : ¬ (0 < pos ∧ n = 0)) (hm : n * 10 + (bAt s pos - 48) ≤ most) :
    numP s most (s.size - pos) pos n = numP s most (s.size - (pos + 1)) (pos + 1) (n * 10 + (bAt s pos - 48)) := by
  rw [show s.size - pos = (s.size - (pos + 1)) + 1 by omega]
  show (if _ then _ else if _ then _ else if _ then _ else _) = _
  rw [if_neg (by rw [hd]; simp), if_neg h0, if_neg (by omega)]
theorem take_at {l : List Int} {k i : Nat} {r : List Int} (h : l.take k = r) (hi : i < r.length) : l[i]?.getD 0 = r[i]?.getD 0 := by
  have hk : i < k := by rw [← h, List.length_take] at hi; omega
  rw [← h, List.getElem?_take, if_pos hk]
theorem reads_dg (s : ByteArray) (most : Int) : ∀ n : Nat, (nmsB s).take (dg n).length = dg n → (n : Int) ≤ most → numP s most s.size 0 0 = numP s most (s.size - (dg n).length) (dg n).length n := by
  intro n
  induction n using Nat.strongRecOn with
  | ind n ih =>
    intro h hm
    have hsz : (dg n).length ≤ s.size := by
      have := congrArg List.length h
      rw [List.length_take, nmsB_len] at this
      omega
    by_cases hn : n < 10
    · have hl : (dg n).length = 1 := by rw [dg_small hn]; rfl
      have h0 := take_at h (i := 0) (by omega)
      rw [← nmsB_at _ _ (by omega), dg_small hn] at h0
      simp only [List.getElem?_cons_zero, Option.getD_some] at h0
      rw [hl]
      have := numP_step (s := s) (most := most) (pos := 0) (n := 0) (by omega) (by rw [h0]; unfold dgt; simp; omega) (by omega) (by rw [h0]; omega)
      rw [Nat.sub_zero, h0] at this
      rw [this]
      congr 1
      omega
    · have hb := dg_big (n := n) (by omega)
      have hl : (dg n).length = (dg (n / 10)).length + 1 := by rw [hb, List.length_append]; rfl
      have h1 : (nmsB s).take (dg (n / 10)).length = dg (n / 10) := by
        have h2 := congrArg (List.take (dg (n / 10)).length) h
        rw [List.take_take, Nat.min_eq_left (by omega)] at h2
        rw [h2, hb, List.take_left]
      rw [ih (n / 10) (by omega) h1 (by omega)]
      have h0 := take_at h (i := (dg (n / 10)).length) (by omega)
      rw [← nmsB_at _ _ (by omega)] at h0
      have h3 : (dg n)[(dg (n / 10)).length]?.getD 0 = 48 + ((n % 10 : Nat) : Int) := by
        rw [hb, List.getElem?_append_right (Nat.le_refl _)]
        simp
      rw [h3] at h0
      have := numP_step (s := s) (most := most) (pos := (dg (n / 10)).length) (n := ((n / 10 : Nat) : Int)) (by omega) (by rw [h0]; unfold dgt; simp; omega) (by omega) (by rw [h0]; omega)
      rw [this, h0, hl]
      congr 1
      omega
theorem numV_dg (n : Nat) (most : Int) (h : (n : Int) ≤ most) : numV (decB n) most = some (n : Int) := by
  unfold numV
  have hs : (decB n).size = (dg n).length := (nmsB_len _).symm
  have hp := dg_pos n
  rw [if_neg (by omega), reads_dg (decB n) most n (by show (dg n).take _ = _; rw [List.take_length]) h, hs, Nat.sub_self]
  rfl
theorem numP_dg (s : ByteArray) (most : Int) : ∀ k pos n v, numP s most k pos n = some v → pos + k = s.size → 0 ≤ n → ((pos = 0 ∧ n = 0) ∨ (0 < pos ∧ (nmsB s).take pos = dg n.toNat)) → 0 < s.size → nmsB s = dg v.toNat ∧ 0 ≤ v
  | 0, pos, n, v, h, hk, hn, hi, hs => by
    have e : n = v := by simpa [numP] using h
    subst e
    rcases hi with ⟨h1, _⟩ | ⟨_, h2⟩
    · omega
    · rw [List.take_of_length_le (by rw [nmsB_len]; omega)] at h2
      exact ⟨h2, hn⟩
  | k + 1, pos, n, v, h, hk, hn, hi, hs => by
    have hu : numP s most (k + 1) pos n = if dgt (bAt s pos) = false then none else if 0 < pos ∧ n = 0 then none else if most < n * 10 + (bAt s pos - 48) then none else numP s most k (pos + 1) (n * 10 + (bAt s pos - 48)) := rfl
    rw [hu] at h
    split at h
    · cases h
    rename_i hd
    split at h
    · cases h
    rename_i h0
    split at h
    · cases h
    have hd' : dgt (bAt s pos) = true := by simpa using hd
    have hr := dgt_rng hd'
    refine numP_dg s most k (pos + 1) _ v h (by omega) (by omega) (.inr ⟨by omega, ?_⟩) hs
    have hlt : pos < (nmsB s).length := by rw [nmsB_len]; omega
    have hc : (nmsB s)[pos]'hlt = bAt s pos := by rw [nmsB_at _ _ (by omega), List.getElem?_eq_getElem hlt]; rfl
    rw [List.take_succ_eq_append_getElem hlt, hc]
    rcases hi with ⟨rfl, rfl⟩ | ⟨hp, ht⟩
    · rw [List.take_zero, dg_small (by omega)]
      simp
      omega
    · have hn0 : 0 < n := by
        rcases Int.lt_or_eq_of_le hn with h | h
        · exact h
        · exact absurd ⟨hp, h.symm⟩ h0
      rw [ht, dg_big (n := (n * 10 + (bAt s pos - 48)).toNat) (by omega)]
      have e1 : (n * 10 + (bAt s pos - 48)).toNat / 10 = n.toNat := by omega
      have e2 : (((n * 10 + (bAt s pos - 48)).toNat % 10 : Nat) : Int) = bAt s pos - 48 := by omega
      rw [e1, e2]
      congr 2
      omega
theorem numV_some {s : ByteArray} {most v : Int} (h : numV s most = some v) : nmsB s = dg v.toNat ∧ 0 ≤ v := by
  unfold numV at h
  split at h
  · cases h
  · exact numP_dg s most s.size 0 0 v h (by omega) (by omega) (.inl ⟨rfl, rfl⟩) (by omega)

/-- Digits that stand in a row of bytes: all of them, as far as they go. -/
theorem dgZ_at (pre l suf : List Int) (hd : ∀ z ∈ l, dgt z = true) (hs : dgt (suf[0]?.getD 0) = false) : dgZ (pre ++ (l ++ suf)) pre.length = pre.length + l.length := by
  induction l generalizing pre with
  | nil =>
    simp only [List.nil_append, List.length_nil, Nat.add_zero]
    cases suf with
    | nil => exact dgZ_end (by simp)
    | cons c r =>
      refine dgZ_stop (by simp) ?_
      rw [List.getElem?_append_right (Nat.le_refl _), Nat.sub_self]
      exact hs
  | cons c r ih =>
    have h1 : pre ++ ((c :: r) ++ suf) = (pre ++ [c]) ++ (r ++ suf) := by simp
    have h2 := ih (pre ++ [c]) (fun z hz => hd z (by simp [hz]))
    rw [dgZ_go (by simp) (by rw [List.getElem?_append_right (Nat.le_refl _), Nat.sub_self]; exact hd c (by simp)), h1]
    rw [show pre.length + 1 = (pre ++ [c]).length by simp, h2]
    simp
    omega
theorem dgS_at2 (pre l suf : List Int) (hB : Mt.By l) (hd : ∀ z ∈ l, dgt z = true) (hs : dgt (suf[0]?.getD 0) = false) : dgS (pre ++ (l ++ suf)) pre.length = strOfNums l := by
  unfold dgS
  rw [dgZ_at pre l suf hd hs, List.drop_left, Nat.add_sub_cancel_left, List.take_left]
theorem dg_by (n : Nat) : Mt.By (dg n) := nmsB_by _
/-- A number that is written is read. -/
theorem num_at (pre suf : List Int) (n : Nat) (most : Int) (h : (n : Int) ≤ most) (hs : dgt (suf[0]?.getD 0) = false) : numV (dgS (pre ++ (dg n ++ suf)) pre.length) most = some (n : Int) ∧ dgZ (pre ++ (dg n ++ suf)) pre.length = pre.length + (dg n).length := by
  refine ⟨?_, dgZ_at _ _ _ (dg_dgt n) hs⟩
  rw [dgS_at2 _ _ _ (dg_by n) (dg_dgt n) hs]
  show numV (strOfNums (nmsB (decB n))) most = _
  rw [str_nmsB]
  exact numV_dg n most h
/-- What is read was written so. -/
theorem num_was {zs : List Int} {p : Nat} {most v : Int} (hz : Mt.By zs) (hp : p ≤ zs.length) (h : numV (dgS zs p) most = some v) : zs.drop p = dg v.toNat ++ zs.drop (dgZ zs p) ∧ 0 ≤ v ∧ dgZ zs p = p + (dg v.toNat).length := by
  obtain ⟨h1, h2⟩ := numV_some h
  unfold dgS at h1
  rw [nmsB_str _ (fun z hz' => hz z (List.mem_of_mem_drop (List.mem_of_mem_take hz')))] at h1
  have h3 := dgZ_le hp
  have h4 : dgZ zs p = p + (dg v.toNat).length := by
    rw [← h1, List.length_take, List.length_drop]
    omega
  refine ⟨?_, h2, h4⟩
  rw [← h1]
  have := List.take_append_drop (dgZ zs p - p) (zs.drop p)
  rw [List.drop_drop, show p + (dgZ zs p - p) = dgZ zs p by omega] at this
  exact this.symm
/-- One sign that is no letter. -/
theorem tk_one (zs : List Int) (hz : Mt.By zs) (p : Nat) (c : UInt8) (hc : c.toNat < 65) : tkB zs p ⟨#[c]⟩ = true ↔ zs.drop p = (c.toNat : Int) :: zs.drop (p + 1) := by
  unfold tkB swV
  have hsz : (⟨#[c]⟩ : ByteArray).size = 1 := rfl
  rw [hsz, strOfNums_size]
  by_cases hp : p < zs.length
  · have h1 : (zs.drop p).take 1 = [zs[p]] := by rw [List.drop_eq_getElem_cons hp]; rfl
    rw [h1]
    have hb := hz zs[p] (List.getElem_mem hp)
    have h2 : bAt (strOfNums [zs[p]]) 0 = zs[p] := by
      have := strOf_at [zs[p]] (fun z h => by simp at h; subst h; exact hb) 0 (by simp)
      simpa using this
    have h3 : bAt ⟨#[c]⟩ 0 = (c.toNat : Int) := rfl
    simp only [List.length_singleton, decide_true, Bool.true_and, swP, h2, h3, Nat.zero_add]
    rw [List.drop_eq_getElem_cons hp]
    simp only [List.cons.injEq, and_true]
    have h4 : sml (c.toNat : Int) = (c.toNat : Int) := by unfold sml; rw [if_neg (by omega)]
    rw [h4]
    have h5 : decide (p + 1 ≤ zs.length) = true := by simp; omega
    rw [h5]
    simp only [Bool.true_and]
    constructor
    · intro h
      split at h
      · rename_i h6
        unfold sml at h6
        split at h6 <;> omega
      · cases h
    · intro h
      rw [if_pos (by rw [h, h4])]
  · have h5 : decide (p + 1 ≤ zs.length) = false := by simp; omega
    rw [h5]
    simp only [Bool.false_and, Bool.false_eq_true, false_iff]
    rw [List.drop_of_length_le (by omega)]
    simp
/-- Numbers with a mark between them, from the i-th on. -/
def rwT (c : UInt8) : Nat → List Int → List Int
  | _, [] => []
  | i, v :: r => (if i = 0 then [] else [(c.toNat : Int)]) ++ (dg v.toNat ++ rwT c (i + 1) r)
theorem rwT_cons (c : UInt8) (i : Nat) (v : Int) (r : List Int) : rwT c i (v :: r) = (if i = 0 then [] else [(c.toNat : Int)]) ++ (dg v.toNat ++ rwT c (i + 1) r) := rfl
theorem rwT_by (c : UInt8) (hc : c.toNat < 48) : ∀ (x : List Int) (i : Nat), Mt.By x → Mt.By (rwT c i x)
  | [], i, _ => Mt.By.nil
  | v :: r, i, h => by
    intro z hz
    rw [rwT_cons] at hz
    simp only [List.mem_append] at hz
    rcases hz with hz | hz | hz
    · split at hz
      · simp at hz
      · simp at hz; omega
    · exact dg_by _ z hz
    · exact rwT_by c hc r (i + 1) (fun z hz => h z (by simp [hz])) z hz
theorem rwT_at (c : UInt8) (hc : c.toNat < 48) : ∀ (x : List Int) (i : Nat) (pre suf : List Int), Mt.By pre → Mt.By suf → Mt.By x → dgt (suf[0]?.getD 0) = false →
    rowF (pre ++ (rwT c i x ++ suf)) ⟨#[c]⟩ x.length i pre.length = some (x, pre.length + (rwT c i x).length)
  | [], i, pre, suf, _, _, _, _ => by simp [rowF, rwT]
  | v :: r, i, pre, suf, hp, hs, hx, hd => by
    have hv := hx v (by simp)
    have hr : Mt.By r := fun z hz => hx z (by simp [hz])
    have hrw : Mt.By (rwT c (i + 1) r) := rwT_by c hc r (i + 1) hr
    obtain ⟨m, hm⟩ : ∃ m, m = (if i = 0 then [] else [(c.toNat : Int)] : List Int) := ⟨_, rfl⟩
    have hmb : Mt.By m := by rw [hm]; split; (· exact Mt.By.nil); (· intro z hz; simp at hz; omega)
    have e : pre ++ (rwT c i (v :: r) ++ suf) = (pre ++ m) ++ (dg v.toNat ++ (rwT c (i + 1) r ++ suf)) := by rw [rwT_cons, ← hm]; simp
    have hd2 : dgt ((rwT c (i + 1) r ++ suf)[0]?.getD 0) = false := by
      cases r with
      | nil => exact hd
      | cons a b => rw [rwT_cons]; simp; unfold dgt; simp; omega
    obtain ⟨n1, n2⟩ := num_at (pre ++ m) (rwT c (i + 1) r ++ suf) v.toNat 255 (by omega) hd2
    have hall : Mt.By (pre ++ (rwT c i (v :: r) ++ suf)) := by
      rw [e]
      intro z hz
      simp only [List.mem_append] at hz
      rcases hz with (hz | hz) | hz | hz | hz
      · exact hp z hz
      · exact hmb z hz
      · exact dg_by _ z hz
      · exact hrw z hz
      · exact hs z hz
    have hnx : nxP (pre ++ (rwT c i (v :: r) ++ suf)) ⟨#[c]⟩ i pre.length = some (pre ++ m).length := by
      unfold nxP
      by_cases h0 : i = 0
      · rw [if_pos h0, hm, if_pos h0]; simp
      · rw [if_neg h0, if_pos]
        · rw [hm, if_neg h0]; simp; rfl
        · rw [tk_one _ hall _ _ (by omega)]
          rw [List.drop_left]
          rw [rwT_cons, if_neg h0]
          rw [List.drop_append]
          simp
    show (nxP _ _ _ _).bind _ = _
    rw [hnx, Option.bind_some]
    rw [e] at *
    rw [n1, Option.bind_some, n2]
    have ih := rwT_at c hc r (i + 1) (pre ++ m ++ dg v.toNat) suf (fun z hz => by
      simp only [List.mem_append] at hz
      rcases hz with (hz | hz) | hz
      · exact hp z hz
      · exact hmb z hz
      · exact dg_by _ z hz) hs hr hd
    rw [show (pre ++ m) ++ (dg v.toNat ++ (rwT c (i + 1) r ++ suf)) = (pre ++ m ++ dg v.toNat) ++ (rwT c (i + 1) r ++ suf) by simp]
    rw [show (pre ++ m).length + (dg v.toNat).length = (pre ++ m ++ dg v.toNat).length from (List.length_append).symm, ih]
    have hvv : ((v.toNat : Nat) : Int) = v := by omega
    simp only [Option.map_some, hvv]
    congr 2
    rw [rwT_cons, ← hm]
    simp only [List.length_append]
    omega

theorem rwT_was (c : UInt8) (hc : c.toNat < 48) (zs : List Int) (hz : Mt.By zs) : ∀ (k i p : Nat) (x : List Int) (q : Nat), p ≤ zs.length → rowF zs ⟨#[c]⟩ k i p = some (x, q) → zs.drop p = rwT c i x ++ zs.drop q ∧ q = p + (rwT c i x).length ∧ q ≤ zs.length
  | 0, i, p, x, q, hp, h => by
    obtain ⟨rfl, rfl⟩ : [] = x ∧ p = q := by simpa [rowF] using h
    exact ⟨rfl, rfl, hp⟩
  | k + 1, i, p, x, q, hp, h => by
    have hu : rowF zs ⟨#[c]⟩ (k + 1) i p = (nxP zs ⟨#[c]⟩ i p).bind fun q => (numV (dgS zs q) 255).bind fun v => (rowF zs ⟨#[c]⟩ k (i + 1) (dgZ zs q)).map fun x => (v :: x.1, x.2) := rfl
    rw [hu] at h
    obtain ⟨q1, h1, h⟩ := Option.bind_eq_some_iff.1 h
    obtain ⟨v, h2, h⟩ := Option.bind_eq_some_iff.1 h
    obtain ⟨⟨y, q2⟩, h3, h⟩ := Option.map_eq_some_iff.1 h
    obtain ⟨rfl, rfl⟩ : v :: y = x ∧ q2 = q := by simpa using h
    have hq1 : zs.drop p = (if i = 0 then [] else [(c.toNat : Int)]) ++ zs.drop q1 ∧ q1 = p + (if i = 0 then [] else [(c.toNat : Int)] : List Int).length ∧ q1 ≤ zs.length := by
      unfold nxP at h1
      by_cases h0 : i = 0
      · rw [if_pos h0] at h1 ⊢
        obtain rfl : p = q1 := by simpa using h1
        exact ⟨rfl, rfl, hp⟩
      · rw [if_neg h0] at h1 ⊢
        split at h1
        · rename_i ht
          have hle := tkB_le ht
          rw [tk_one zs hz p c (by omega)] at ht
          have h9 : some (p + 1) = some q1 := h1
          obtain rfl : p + 1 = q1 := by simpa using h9
          exact ⟨ht, rfl, hle⟩
        · cases h1
    obtain ⟨e1, e2, e3⟩ := hq1
    obtain ⟨n1, n2, n3⟩ := num_was hz e3 h2
    have hle := (dgZ_le e3).2
    obtain ⟨r1, r2, r3⟩ := rwT_was c hc zs hz k (i + 1) (dgZ zs q1) y q2 hle h3
    refine ⟨?_, ?_, r3⟩
    · rw [e1, n1, r1, rwT_cons]
      simp
    · rw [rwT_cons, List.length_append, List.length_append]
      omega
theorem rwT_pos (c : UInt8) : ∀ (r : List Int) (i j : Nat), i ≠ 0 → j ≠ 0 → rwT c i r = rwT c j r
  | [], _, _, _, _ => rfl
  | v :: r, i, j, hi, hj => by rw [rwT_cons, rwT_cons, if_neg hi, if_neg hj, rwT_pos c r (i + 1) (j + 1) (by omega) (by omega)]
theorem rowB_is (c : UInt8) : ∀ x : List Int, nmsB (rowB ⟨#[c]⟩ x) = rwT c 0 x
  | [] => rfl
  | v :: r => by
    have key : ∀ (r : List Int) (v : Int), (Lib.join (((v :: r).map fun z => decB z.toNat).map (·.data.toList)) [c]).map (fun b : UInt8 => (b.toNat : Int)) = dg v.toNat ++ rwT c 1 r := by
      intro r
      induction r with
      | nil => intro v; simp [Lib.join, rwT, dg, nmsB]
      | cons u r ih =>
        intro v
        have h1 := ih u
        simp only [List.map_cons] at h1 ⊢
        rw [join_two, List.map_append, List.map_append, h1, rwT_cons]
        have h2 : rwT c 2 r = rwT c 1 r := rwT_pos c r 2 1 (by omega) (by omega)
        rw [if_neg (by omega), h2]
        rfl
    have h0 : nmsB (rowB ⟨#[c]⟩ (v :: r)) = (Lib.join (((v :: r).map fun z => decB z.toNat).map (·.data.toList)) [c]).map (fun b : UInt8 => (b.toNat : Int)) := by
      unfold nmsB rowB
      simp
    rw [h0, key, rwT_cons, if_pos rfl]
    rfl
end Go.Proofs.YtfnlakpjepjhbaaDoor

/- FtpLines: what is not one line names nothing; the walk. -/
namespace Go.Proofs.YtfnlakpjepjhbaaDoor
open Go.RowKit Go.Shelf
set_option maxRecDepth 100000
set_option linter.unusedVariables false
set_option linter.unusedSimpArgs false

/-- Something is named, or nothing. -/
def FdF (v : Value) : Prop := v = fdN ∨ ∃ kd st en ad pt, v = fdY kd st en ad pt
theorem fdF_ite {p : Prop} [Decidable p] {a b : Value} (ha : FdF a) (hb : FdF b) : FdF (if p then a else b) := by split <;> assumption
theorem fdF_no : FdF fdN := .inl rfl
theorem fdF_yes (kd st en ad pt : Int) : FdF (fdY kd st en ad pt) := .inr ⟨_, _, _, _, _, rfl⟩
theorem fndB_form (zs : List Int) (back : Bool) : FdF (fndB zs back) := by
  unfold fndB fnd
  refine fdF_ite (fdF_ite ?_ (fdF_ite ?_ (fdF_ite ?_ (fdF_ite ?_ fdF_no)))) fdF_no
  · unfold fd1; split
    · exact fdF_no
    · exact fdF_ite (fdF_yes _ _ _ _ _) fdF_no
  · unfold fd2; split
    · exact fdF_no
    · exact fdF_ite (fdF_yes _ _ _ _ _) fdF_no
  · unfold fd3; refine fdF_ite fdF_no ?_; split
    · exact fdF_no
    · exact fdF_ite (fdF_yes _ _ _ _ _) fdF_no
  · unfold fd4
    exact fdF_ite fdF_no (fdF_ite fdF_no (fdF_ite fdF_no (fdF_ite fdF_no (fdF_yes _ _ _ _ _))))
theorem fdY_ne (kd st en ad pt : Int) : fdY kd st en ad pt ≠ fdN := by
  intro h
  unfold fdY fdN at h
  simp at h
theorem oneL_of {zs : List Int} {back : Bool} (h : fndB zs back ≠ fdN) : oneL zs = true := by
  cases h1 : oneL zs with
  | true => rfl
  | false => exact absurd (by unfold fndB; rw [if_neg (by rw [h1]; simp)]) h
theorem oneL_parts {zs : List Int} (h : oneL zs = true) : ∃ l, zs = l ++ [13, 10] ∧ crl l = false ∧ zs.length ≤ 128 := by
  have hl := oneL_len h
  unfold oneL endB at h
  simp only [Bool.and_eq_true, decide_eq_true_eq, Bool.not_eq_true', List.length_cons, List.length_nil] at h
  refine ⟨zs.take (zs.length - 2), ?_, h.2.2, h.2.1⟩
  have := List.take_append_drop (zs.length - 2) zs
  rw [h.1.2] at this
  exact this.symm
theorem oneL_mk (l : List Int) : oneL (l ++ [13, 10]) = (decide (l.length ≤ 126) && !(crl l)) := by
  unfold oneL endB
  have e1 : (l ++ [13, 10]).length - 2 = l.length := by simp
  simp only [List.length_cons, List.length_nil, e1, List.drop_left, List.take_left, List.length_append]
  have e2 : decide (l.length + 2 ≤ 128) = decide (l.length ≤ 126) := by congr 1; simp
  simp [e2]
theorem fndB_no {zs : List Int} {back : Bool} (h : oneL zs = false) : fndB zs back = fdN := by unfold fndB; rw [if_neg (by rw [h]; simp)]
theorem crl_app (a b : List Int) : crl (a ++ b) = (crl a || crl b) := by unfold crl; rw [List.any_append]
/-- A line that is cut, doubled, or behind another one's end is none. -/
theorem ln_cut {zs : List Int} {back b2 : Bool} (h : fndB zs back ≠ fdN) : fndB (zs.take (zs.length - 1)) b2 = fdN := by
  obtain ⟨l, rfl, hc, hl⟩ := oneL_parts (oneL_of h)
  apply fndB_no
  have e : (l ++ [13, 10]).take ((l ++ [13, 10]).length - 1) = l ++ [13] := by
    rw [show (l ++ [13, 10] : List Int) = (l ++ [13]) ++ [10] by simp]
    rw [show ((l ++ [13]) ++ [10] : List Int).length - 1 = (l ++ [13]).length by simp, List.take_left]
  rw [e]
  unfold oneL endB
  have : (decide ((l ++ [13]).drop ((l ++ [13]).length - 2) = [13, 10])) = false := by
    rw [decide_eq_false_iff_not]
    intro h'
    have h2 := congrArg List.getLast? h'
    have h3 : ((l ++ [13] : List Int).drop ((l ++ [13]).length - 2)).getLast? = some 13 := by
      rw [List.getLast?_drop]
      simp
      omega
    rw [h3] at h2
    simp at h2
  simp only [List.length_cons, List.length_nil] at *
  rw [this]
  simp
theorem ln_two {zs : List Int} {back b2 : Bool} (h : fndB zs back ≠ fdN) : fndB (zs ++ zs) b2 = fdN := by
  obtain ⟨l, rfl, hc, hl⟩ := oneL_parts (oneL_of h)
  apply fndB_no
  rw [show (l ++ [13, 10] ++ (l ++ [13, 10]) : List Int) = (l ++ [13, 10] ++ l) ++ [13, 10] by simp, oneL_mk, crl_app, crl_app]
  simp [crl, isCr]
theorem ln_end {zs : List Int} {back b2 : Bool} (h : fndB zs back ≠ fdN) : fndB ([13, 10] ++ zs) b2 = fdN := by
  obtain ⟨l, rfl, hc, hl⟩ := oneL_parts (oneL_of h)
  apply fndB_no
  rw [show ([13, 10] ++ (l ++ [13, 10]) : List Int) = ([13, 10] ++ l) ++ [13, 10] by simp, oneL_mk, crl_app]
  simp [crl, isCr]
theorem ln_len {zs : List Int} {back : Bool} (h : fndB zs back ≠ fdN) : 2 ≤ zs.length ∧ zs.length ≤ 128 := oneL_len (oneL_of h)
/-- What a line begins with. -/
theorem swP_head (s t : ByteArray) (k : Nat) (h : swP s t (k + 1) 0 = true) : sml (bAt s 0) = sml (bAt t 0) := by
  unfold swP at h
  split at h
  · assumption
  · cases h
theorem tkB_head {zs : List Int} (hB : Mt.By zs) {t : ByteArray} (ht : 0 < t.size) (h : tkB zs 0 t = true) : sml (zs[0]?.getD 0) = sml (bAt t 0) := by
  unfold tkB swV at h
  simp only [Bool.and_eq_true, decide_eq_true_eq, List.drop_zero, Nat.zero_add] at h
  obtain ⟨h1, h2, h3⟩ := h
  rw [h2, show t.size = (t.size - 1) + 1 by omega] at h3
  have h4 := swP_head _ _ _ h3
  have h5 := strOf_at (zs.take (t.size - 1 + 1)) (fun z hz => hB z (List.mem_of_mem_take hz)) 0 (by rw [List.length_take]; omega)
  rw [h5] at h4
  rw [← h4]
  congr 2
  rw [List.getElem?_take, if_pos (by omega)]
theorem kd_back {zs : List Int} (hB : Mt.By zs) (h : (kdV zs 0 true).1 ≠ 0) : sml (zs[0]?.getD 0) = 50 := by
  unfold kdV at h
  simp only [Bool.true_eq_false, if_false] at h
  split at h
  · rename_i h1; have := tkB_head hB (by decide) h1; rw [this]; decide
  · split at h
    · rename_i h1; have := tkB_head hB (by decide) h1; rw [this]; decide
    · exact absurd rfl h
theorem kd_forth {zs : List Int} (hB : Mt.By zs) (h : (kdV zs 0 false).1 ≠ 0) : sml (zs[0]?.getD 0) = 112 ∨ sml (zs[0]?.getD 0) = 101 := by
  unfold kdV at h
  simp only [if_true] at h
  split at h
  · rename_i h1; have := tkB_head hB (by decide) h1; left; rw [this]; decide
  · split at h
    · rename_i h1; have := tkB_head hB (by decide) h1; right; rw [this]; decide
    · exact absurd rfl h
theorem fnd_kd {zs : List Int} {back : Bool} (h : fnd zs back ≠ fdN) : (kdV zs 0 back).1 ≠ 0 := fun h0 => h (by unfold fnd; rw [h0]; simp)
theorem fndB_kd {l : List Int} {back : Bool} (h : fndB (l ++ [13, 10]) back ≠ fdN) : (kdV l 0 back).1 ≠ 0 := by
  have h1 := oneL_of h
  refine fnd_kd (back := back) fun h0 => h ?_
  unfold fndB
  rw [if_pos h1, show (l ++ [13, 10] : List Int).length - 2 = l.length by simp, List.take_left, h0]
theorem ln_sp {zs : List Int} {back b2 : Bool} (hB : Mt.By zs) (h : fndB zs back ≠ fdN) : fndB ([32] ++ zs) b2 = fdN := by
  obtain ⟨l, rfl, hc, hl⟩ := oneL_parts (oneL_of h)
  apply Classical.byContradiction
  intro h'
  rw [show ([32] ++ (l ++ [13, 10]) : List Int) = ([32] ++ l) ++ [13, 10] by simp] at h'
  have h2 := fndB_kd h'
  have hB' : Mt.By ([32] ++ l) := fun z hz => by
    simp only [List.singleton_append, List.mem_cons] at hz
    rcases hz with rfl | hz
    · omega
    · exact hB z (by simp [hz])
  cases b2 with
  | true => have := kd_back hB' h2; simp [sml] at this
  | false => have := kd_forth hB' h2; simp [sml] at this
theorem ln_other {zs : List Int} {back : Bool} (hB : Mt.By zs) (h : fndB zs back ≠ fdN) : fndB zs (!back) = fdN := by
  obtain ⟨l, rfl, hc, hl⟩ := oneL_parts (oneL_of h)
  apply Classical.byContradiction
  intro h'
  have hB' : Mt.By l := fun z hz => hB z (by simp [hz])
  have h2 := fndB_kd h
  have h3 := fndB_kd h'
  cases back with
  | true => have := kd_back hB' h2; have := kd_forth hB' h3; omega
  | false => have := kd_back hB' h3; have := kd_forth hB' h2; omega

/-- append onto a slice that is full. -/
theorem run_app_full {P : Program} (w : World) (t ty e : TypeId) (i : TypeInfo) (ht : P.underlying t = some (.slice e)) (hi : P.info? e = some i) (hz : i.zero = some (.int .u8 0)) (hsize : i.size = 1) (hby : i.bytes = 1)
    (g : Nat) (ys : List Int) (n₀ n₁ : Nat) (hY : Rd n₀ w (.slice (some ⟨g, 0, none⟩) ys.length ys.length) ys) (hy : ys ≠ []) (sx : Value) (zs : List Int) (hI : Rd n₁ w sx zs) (hne : zs ≠ []) (hbd : ys.length + zs.length ≤ 1000000) :
    ∃ h c w', (Builtin.append_ #[t, t] ty #[.slice (some ⟨g, 0, none⟩) ys.length ys.length, sx]).run P w = .ok (.slice (some ⟨h, 0, none⟩) (ys ++ zs).length c) w' ∧ Rd w'.heap.size w' (.slice (some ⟨h, 0, none⟩) (ys ++ zs).length c) (ys ++ zs) ∧ Later w w' := by
  rcases hY with ⟨_, _, _, h, _⟩ | ⟨b, off, cap, e1, _, _, _, hb1, hc1⟩
  · exact absurd h hy
  rcases hI with ⟨_, _, _, h, _⟩ | ⟨b2, off2, cap2, rfl, _, _, _, hb2, hc2⟩
  · exact absurd h hne
  obtain ⟨rfl, rfl⟩ : b = g ∧ off = 0 := by simp at e1; exact ⟨e1.1.1.symm, e1.1.2.symm⟩
  have hp : 0 < zs.length := by cases zs with | nil => exact absurd rfl hne | cons _ _ => simp
  have hr := run_append_grow (P := P) (w := w) t ty e i (.int .u8 0) ht hi hz ⟨b, 0, none⟩ ys.length ys.length (ys.map (Value.int .u8)) (by rw [hsize]; simp)
    (fun j v hj => by
      have hj' : j < ys.length := by have := (List.getElem?_eq_some_iff.1 hj).1; simpa using this
      rw [show (⟨b, 0, none⟩ : Addr).add j = ⟨b, 0 + j, none⟩ from by unfold Addr.add; split <;> simp_all, hc1 j hj', ← hj]
      simp [hj'])
    ⟨b2, off2, none⟩ zs.length cap2 (zs.map (Value.int .u8)) (by rw [hsize]; simp)
    (fun j v hj => by
      have hj' : j < zs.length := by have := (List.getElem?_eq_some_iff.1 hj).1; simpa using this
      rw [show (⟨b2, off2, none⟩ : Addr).add j = ⟨b2, off2 + j, none⟩ from by unfold Addr.add; split <;> simp_all, hc2 j hj', ← hj]
      simp [hj'])
    (by omega) (by omega) (by have := nextslicecap_le (need := ys.length + zs.length) (old := ys.length) (by omega); rw [hby]; omega)
  have hcap := grownCap_le_maxLen w (ys.length + zs.length) ys.length e (by unfold maxLen; omega)
  have hcap2 := grownCap_ge w (ys.length + zs.length) ys.length e
  unfold maxLen at hcap
  refine ⟨w.heap.size, grownCap w (ys.length + zs.length) ys.length e, _, by rw [List.length_append]; exact hr, ?_, ?_⟩
  · refine .inr ⟨w.heap.size, 0, _, rfl, by simp [hy], by rw [List.length_append]; exact hcap2, by omega, by simp, fun j hj => ?_⟩
    rw [Nat.zero_add]
    have hsz : w.drew.heap.size = w.heap.size := rfl
    have := World.cell?_alloc_mark w.drew ((ys.map (Value.int .u8)).toArray ++ (zs.map (Value.int .u8)).toArray ++ Builtin.zeroCells (Value.int .u8 0).cells (grownCap w (ys.length + zs.length) ys.length e - (ys.length + zs.length))) e (0, 0) j
    rw [hsz] at this
    rw [this, Array.getElem?_append_left (by simpa using hj), show (ys.map (Value.int .u8)).toArray ++ (zs.map (Value.int .u8)).toArray = ((ys ++ zs).map (Value.int .u8)).toArray from by rw [List.map_append]; simp, List.getElem?_toArray, List.getElem?_map, List.getElem?_eq_getElem hj]
    rfl
  · exact ⟨rfl, rfl, rfl, by simp, fun k hk => by
      have : w.drew.heap = w.heap := rfl
      simp [World.alloc, World.drew, -World.alloc_eq, -World.drew_eq, Array.getElem?_push, Nat.ne_of_lt hk]⟩
end Go.Proofs.YtfnlakpjepjhbaaDoor

/- Lines that name an address: what is found was written so, and what is written so is found. -/
namespace Go.Proofs.YtfnlakpjepjhbaaDoor
open Go.RowKit Go.Shelf
set_option maxRecDepth 100000
set_option linter.unusedVariables false
set_option linter.unusedSimpArgs false

theorem by_app {a b : List Int} (h : Mt.By (a ++ b)) : Mt.By a ∧ Mt.By b := ⟨fun z hz => h z (by simp [hz]), fun z hz => h z (by simp [hz])⟩
theorem app_by {a b : List Int} (h : Mt.By a) (h' : Mt.By b) : Mt.By (a ++ b) := fun z hz => by rcases List.mem_append.1 hz with hz | hz; (· exact h z hz); (· exact h' z hz)
/-- The first bracket. -/
theorem ix_was : ∀ (l : List Int), Mt.By l → 0 ≤ Lib.indexByte (Lib.bytesOf l) 40 → ∃ a b, l = a ++ 40 :: b ∧ (a.length : Int) = Lib.indexByte (Lib.bytesOf l) 40 ∧ 40 ∉ a
  | [], _, h => by simp [Lib.bytesOf, Lib.indexByte] at h
  | z :: l, hB, h => by
    have hz := hB z (by simp)
    have hl : Mt.By l := fun x hx => hB x (by simp [hx])
    have hu : Lib.bytesOf (z :: l) = UInt8.ofNat z.toNat :: Lib.bytesOf l := rfl
    rw [hu] at h ⊢
    by_cases h40 : z = 40
    · subst h40
      exact ⟨[], l, rfl, by simp [Lib.indexByte], by simp⟩
    · have hne : (UInt8.ofNat z.toNat == 40) = false := by
        rw [beq_eq_false_iff_ne]
        intro hh
        have := congrArg UInt8.toNat hh
        simp at this
        omega
      rw [Lib.indexByte, hne] at h ⊢
      simp only [Bool.false_eq_true, if_false] at h ⊢
      by_cases h1 : (Lib.indexByte (Lib.bytesOf l) 40 == -1) = true
      · rw [if_pos h1] at h; omega
      · rw [if_neg h1] at h ⊢
        have hr := ixb_rng (Lib.bytesOf l) 40
        have h2 : 0 ≤ Lib.indexByte (Lib.bytesOf l) 40 := by
          have : Lib.indexByte (Lib.bytesOf l) 40 ≠ -1 := by simpa using h1
          rcases hr with hr | ⟨_, hr⟩
          · omega
          · exact absurd hr this
        obtain ⟨a, b, e1, e2, e3⟩ := ix_was l hl h2
        exact ⟨z :: a, b, by rw [e1]; rfl, by rw [List.length_cons]; omega, by simp [e3]; omega⟩
theorem ix_mk (b : List Int) : ∀ (a : List Int), Mt.By a → 40 ∉ a → Lib.indexByte (Lib.bytesOf (a ++ 40 :: b)) 40 = (a.length : Int)
  | [], _, _ => by
    have hu : Lib.bytesOf ([] ++ 40 :: b) = 40 :: Lib.bytesOf b := rfl
    rw [hu]
    simp [Lib.indexByte]
  | z :: a, hB, hn => by
    have hz := hB z (by simp)
    have hl : Mt.By a := fun x hx => hB x (by simp [hx])
    have hz40 : z ≠ 40 := fun h => hn (by simp [h])
    have hu : Lib.bytesOf ((z :: a) ++ 40 :: b) = UInt8.ofNat z.toNat :: Lib.bytesOf (a ++ 40 :: b) := rfl
    have ih := ix_mk b a hl (fun h => hn (by simp [h]))
    have hne : (UInt8.ofNat z.toNat == 40) = false := by
      rw [beq_eq_false_iff_ne]
      intro hh
      have := congrArg UInt8.toNat hh
      simp at this
      omega
    rw [hu, Lib.indexByte, hne, ih]
    simp only [Bool.false_eq_true, if_false]
    rw [if_neg (by simp <;> omega), List.length_cons]
    omega
theorem tkB_pre {pre r : List Int} {t : ByteArray} (h : t.size ≤ pre.length) : tkB (pre ++ r) 0 t = tkB pre 0 t := by
  unfold tkB
  rw [List.drop_zero, List.drop_zero, List.take_append_of_le_length h]
  have e1 : decide (0 + t.size ≤ (pre ++ r).length) = true := by simp; omega
  have e2 : decide (0 + t.size ≤ pre.length) = true := by simp; omega
  rw [e1, e2]
theorem wat_six (a : Int) (h : 0 ≤ a ∧ a ≤ 4294967295) (n : Int) (hn : 0 ≤ n ∧ n ≤ 65535) : wat4 (ad4 a ++ po2 n) 0 = a ∧ wat (ad4 a ++ po2 n) 4 = n := by
  unfold wat4 wat ad4 po2
  simp
  omega
theorem wat_four (a : Int) (h : 0 ≤ a ∧ a ≤ 4294967295) : wat4 (ad4 a) 0 = a := by
  unfold wat4 wat ad4
  simp
  omega
theorem six_is {x : List Int} (hx : Mt.By x) (hl : x.length = 6) : x = ad4 (wat4 x 0) ++ po2 (wat x 4) ∧ (0 ≤ wat4 x 0 ∧ wat4 x 0 ≤ 4294967295) ∧ (0 ≤ wat x 4 ∧ wat x 4 ≤ 65535) := by
  match x, hl with
  | [a, b, c, d, e, f], _ =>
    have h1 := hx a (by simp); have h2 := hx b (by simp); have h3 := hx c (by simp); have h4 := hx d (by simp); have h5 := hx e (by simp); have h6 := hx f (by simp)
    unfold wat4 wat ad4 po2
    simp
    omega
theorem four_is {x : List Int} (hx : Mt.By x) (hl : x.length = 4) : x = ad4 (wat4 x 0) ∧ (0 ≤ wat4 x 0 ∧ wat4 x 0 ≤ 4294967295) := by
  match x, hl with
  | [a, b, c, d], _ =>
    have h1 := hx a (by simp); have h2 := hx b (by simp); have h3 := hx c (by simp); have h4 := hx d (by simp)
    unfold wat4 wat ad4
    simp
    omega
/-- A kind's text. -/
def txt (k a : Int) (n : Nat) : List Int := if k = 2 then [124, 49, 124] ++ (rwT 46 0 (ad4 a) ++ (124 :: (dg n ++ [124]))) else if k = 4 then dg n else rwT 44 0 (ad4 a ++ po2 n)
theorem nmsB_app (a b : ByteArray) : nmsB (a ++ b) = nmsB a ++ nmsB b := by unfold nmsB; simp
theorem txt_is (k a : Int) (n : Nat) : nmsB (txtB k a n) = txt k a n := by
  unfold txtB txt
  split
  · simp only [nmsB_app]
    rw [show nmsB (rowB tDot (ad4 a)) = rwT 46 0 (ad4 a) from rowB_is 46 _]
    show [124, 49, 124] ++ rwT 46 0 (ad4 a) ++ [124] ++ dg n ++ [124] = _
    simp
  · split
    · rfl
    · exact rowB_is 44 _

theorem swP_iff (s t : ByteArray) : ∀ k pos, swP s t k pos = true ↔ ∀ j, j < k → sml (bAt s (pos + j)) = sml (bAt t (pos + j))
  | 0, pos => by simp [swP]
  | k + 1, pos => by
    unfold swP
    constructor
    · intro h
      split at h
      · rename_i h0
        intro j hj
        cases j with
        | zero => exact h0
        | succ j =>
          have := (swP_iff s t k (pos + 1)).1 h j (by omega)
          rw [show pos + (j + 1) = pos + 1 + j by omega]
          exact this
      · cases h
    · intro h
      rw [if_pos (show sml (bAt s pos) = sml (bAt t pos) from h 0 (by omega))]
      exact (swP_iff s t k (pos + 1)).2 fun j hj => by
        have := h (j + 1) (by omega)
        rw [show pos + (j + 1) = pos + 1 + j by omega] at this
        exact this
/-- No letter. -/
def NL (c : Int) : Prop := ¬ (65 ≤ c ∧ c ≤ 90) ∧ ¬ (97 ≤ c ∧ c ≤ 122)
theorem sml_nl {z c : Int} (h : NL c) : sml z = sml c ↔ z = c := by
  unfold NL at h
  unfold sml
  constructor
  · intro e
    split at e <;> split at e <;> omega
  · intro e; rw [e]
theorem tk_iff (zs : List Int) (hz : Mt.By zs) (p : Nat) (t : ByteArray) (ht : ∀ z ∈ nmsB t, NL z) (h0 : 0 < t.size) : tkB zs p t = true ↔ zs.drop p = nmsB t ++ zs.drop (p + t.size) := by
  unfold tkB swV
  have hb : Mt.By ((zs.drop p).take t.size) := fun z h => hz z (List.mem_of_mem_drop (List.mem_of_mem_take h))
  simp only [Bool.and_eq_true, decide_eq_true_eq, strOfNums_size]
  constructor
  · rintro ⟨h1, h2, h3⟩
    rw [swP_iff] at h3
    have e : (zs.drop p).take t.size = nmsB t := by
      apply List.ext_getElem (by rw [nmsB_len]; exact h2)
      intro i hi1 hi2
      have hi : i < t.size := by rw [nmsB_len] at hi2; exact hi2
      have h4 := h3 i (by rw [h2]; exact hi)
      rw [Nat.zero_add, strOf_at _ hb i hi1, nmsB_at t i hi, List.getElem?_eq_getElem hi1, List.getElem?_eq_getElem hi2] at h4
      simp only [Option.getD_some] at h4
      exact (sml_nl (ht _ (List.getElem_mem hi2))).1 h4
    rw [← e, ← List.drop_drop]
    exact (List.take_append_drop _ _).symm
  · intro h
    have hl := congrArg List.length h
    rw [List.length_append, List.length_drop, List.length_drop, nmsB_len] at hl
    have e : (zs.drop p).take t.size = nmsB t := by rw [h, ← nmsB_len, List.take_left]
    refine ⟨by omega, by rw [e, nmsB_len], ?_⟩
    rw [swP_iff]
    intro j hj
    rw [e, str_nmsB]
theorem nl_one : ∀ z ∈ nmsB tOne, NL z := by unfold NL; decide
theorem nl_bar : ∀ z ∈ nmsB tBar, NL z := by unfold NL; decide
theorem nl_end : ∀ z ∈ nmsB tEnd, NL z := by unfold NL; decide
theorem nl_bars : ∀ z ∈ nmsB tBars, NL z := by unfold NL; decide
theorem nl_end4 : ∀ z ∈ nmsB tEnd4, NL z := by unfold NL; decide
theorem pre_at (pre r : List Int) : (pre ++ r).drop pre.length = r := List.drop_left
theorem tk_mk {zs u v : List Int} {p : Nat} {t : ByteArray} (hz : Mt.By zs) (ht : ∀ z ∈ nmsB t, NL z) (h0 : 0 < t.size) (e : zs = u ++ (nmsB t ++ v)) (hp : p = u.length) : tkB zs p t = true := by
  rw [tk_iff zs hz p t ht h0, ← List.drop_drop, hp, e, pre_at, ← nmsB_len, pre_at]
/-- How a line of a kind stands about its text. -/
def Sh (k : Int) (back : Bool) (pre suf : List Int) : Prop :=
  (k = 1 ∧ back = false ∧ pre.length = 5 ∧ tkB pre 0 tPort = true ∧ suf = []) ∨
  (k = 2 ∧ back = false ∧ pre.length = 5 ∧ tkB pre 0 tPort = false ∧ tkB pre 0 tEprt = true ∧ suf = []) ∨
  (k = 3 ∧ back = true ∧ tkB pre 0 t227 = true ∧ (∃ h a, pre = h ++ (a ++ [40]) ∧ h.length = 4 ∧ 40 ∉ a) ∧ ∃ r, suf = 41 :: r) ∨
  (k = 4 ∧ back = true ∧ tkB pre 0 t227 = false ∧ tkB pre 0 t229 = true ∧ (∃ h a, pre = h ++ (a ++ [40, 124, 124, 124]) ∧ h.length = 4 ∧ 40 ∉ a) ∧ ∃ r, suf = 124 :: 41 :: r)
theorem ad4_len (a : Int) : (ad4 a).length = 4 := rfl
theorem six_len (a : Int) (n : Nat) : (ad4 a ++ po2 n).length = 6 := rfl
theorem txt_by (k a : Int) (n : Nat) (ha : 0 ≤ a ∧ a ≤ 4294967295) (hn : n ≤ 65535) : Mt.By (txt k a n) := by rw [← txt_is]; exact nmsB_by _
theorem port_at (pre suf : List Int) (n : Nat) (hn : 0 < n) (hn2 : n ≤ 65535) (hs : dgt (suf[0]?.getD 0) = false) : portB (pre ++ (dg n ++ suf)) pre.length = true ∧ portV (pre ++ (dg n ++ suf)) pre.length = n ∧ dgZ (pre ++ (dg n ++ suf)) pre.length = pre.length + (dg n).length := by
  obtain ⟨h1, h2⟩ := num_at pre suf n 65535 (by omega) hs
  refine ⟨?_, ?_, h2⟩
  · unfold portB; rw [h1]; simp; omega
  · unfold portV; rw [h1]; rfl

theorem fnd_mk1 (pre suf : List Int) (back : Bool) (hp : Mt.By pre) (hs : Mt.By suf) (a : Int) (ha : 0 ≤ a ∧ a ≤ 4294967295) (n : Nat) (hn : 0 < n) (hn2 : n ≤ 65535) (h : Sh 1 back pre suf) :
    fnd (pre ++ (txt 1 a n ++ suf)) back = fdY 1 (pre.length : Nat) ((pre.length + (txt 1 a n).length : Nat) : Int) a n := by
  rcases h with ⟨_, rfl, h5, h6, rfl⟩ | ⟨h, _⟩ | ⟨h, _⟩ | ⟨h, _⟩ <;> try omega
  have hk : kdV (pre ++ (txt 1 a n ++ [])) 0 false = (1, 5) := by unfold kdV; rw [if_pos rfl, if_pos (by rw [tkB_pre (by rw [h5]; decide)]; exact h6)]
  have hw := wat_six a ha n (by omega)
  have hby : Mt.By (ad4 a ++ po2 n) := app_by (ad4_by a ha) (po2_by n (by omega))
  have hx : txt 1 a n = rwT 44 0 (ad4 a ++ po2 n) := by unfold txt; rw [if_neg (by omega), if_neg (by omega)]
  unfold fnd
  rw [hk]
  simp only [if_true]
  unfold fd1 sixO
  have hr := rwT_at 44 (by decide) (ad4 a ++ po2 n) 0 pre [] hp hs hby (by decide)
  rw [six_len, h5] at hr
  rw [hx, show cma = ⟨#[44]⟩ from rfl, hr]
  simp only
  rw [if_pos ⟨by rw [hw.2]; omega, by simp; omega⟩, hw.1, hw.2, h5]
  try simp
theorem fnd_mk2 (pre suf : List Int) (back : Bool) (hp : Mt.By pre) (hs : Mt.By suf) (a : Int) (ha : 0 ≤ a ∧ a ≤ 4294967295) (n : Nat) (hn : 0 < n) (hn2 : n ≤ 65535) (h : Sh 2 back pre suf) :
    fnd (pre ++ (txt 2 a n ++ suf)) back = fdY 2 (pre.length : Nat) ((pre.length + (txt 2 a n).length : Nat) : Int) a n := by
  rcases h with ⟨h, _⟩ | ⟨_, rfl, h5, h6, h7, rfl⟩ | ⟨h, _⟩ | ⟨h, _⟩ <;> try omega
  have hk : kdV (pre ++ (txt 2 a n ++ [])) 0 false = (2, 5) := by unfold kdV; rw [if_pos rfl, if_neg (by rw [tkB_pre (by rw [h5]; decide), h6]; simp), if_pos (by rw [tkB_pre (by rw [h5]; decide)]; exact h7)]
  have hw := wat_four a ha
  have hx : txt 2 a n = [124, 49, 124] ++ (rwT 46 0 (ad4 a) ++ (124 :: (dg n ++ [124]))) := by unfold txt; rw [if_pos rfl]
  have hall : Mt.By (pre ++ (txt 2 a n ++ [])) := app_by hp (app_by (txt_by 2 a n ha hn2) hs)
  have hrb := rwT_by 46 (by decide) (ad4 a) 0 (ad4_by a ha)
  have hZ : Hid (pre ++ (txt 2 a n ++ []) = pre ++ (txt 2 a n ++ [])) := rfl
  have hfin : fd2 (pre ++ (txt 2 a n ++ [])) 5 = fdY 2 (pre.length : Nat) ((pre.length + (txt 2 a n).length : Nat) : Int) a n := by
    have hbar : barO (pre ++ (txt 2 a n ++ [])) 5 = some (ad4 a, pre.length + (txt 2 a n).length, (n : Int)) := by
      unfold barO
      have t1 : tkB (pre ++ (txt 2 a n ++ [])) 5 tOne = true := tk_mk hall nl_one (by decide) (u := pre) (v := rwT 46 0 (ad4 a) ++ (124 :: (dg n ++ [124]))) (by rw [hx, List.append_nil]; rfl) h5.symm
      rw [if_neg (by rw [t1]; simp)]
      have hr := rwT_at 46 (by decide) (ad4 a) 0 (pre ++ [124, 49, 124]) (124 :: (dg n ++ [124])) (app_by hp (fun z hz => by simp at hz; omega)) (fun z hz => by
        simp only [List.mem_cons, List.mem_append, List.mem_singleton] at hz
        rcases hz with rfl | hz | rfl | hz
        · omega
        · exact dg_by n z hz
        · omega
        · simp at hz) (ad4_by a ha) rfl
      have e1 : pre ++ [124, 49, 124] ++ (rwT 46 0 (ad4 a) ++ (124 :: (dg n ++ [124]))) = pre ++ (txt 2 a n ++ []) := by rw [hx]; simp
      have l1 : (pre ++ [124, 49, 124]).length = 5 + 3 := by simp; omega
      rw [e1, ad4_len, l1] at hr
      rw [show tDot = ⟨#[46]⟩ from rfl, hr, Option.bind_some]
      simp only
      have e2 : pre ++ (txt 2 a n ++ []) = (pre ++ [124, 49, 124] ++ rwT 46 0 (ad4 a)) ++ (124 :: (dg n ++ [124])) := by rw [hx]; simp
      have l2 : (pre ++ [124, 49, 124] ++ rwT 46 0 (ad4 a)).length = 5 + 3 + (rwT 46 0 (ad4 a)).length := by simp; omega
      have t2 : tkB (pre ++ (txt 2 a n ++ [])) (5 + 3 + (rwT 46 0 (ad4 a)).length) tBar = true := tk_mk hall nl_bar (by decide) (u := pre ++ [124, 49, 124] ++ rwT 46 0 (ad4 a)) (v := dg n ++ [124]) e2 l2.symm
      rw [if_neg (by rw [t2]; simp)]
      have e3 : pre ++ (txt 2 a n ++ []) = (pre ++ [124, 49, 124] ++ rwT 46 0 (ad4 a) ++ [124]) ++ (dg n ++ [124]) := by rw [hx]; simp
      have l3 : (pre ++ [124, 49, 124] ++ rwT 46 0 (ad4 a) ++ [124]).length = 5 + 3 + (rwT 46 0 (ad4 a)).length + 1 := by simp; omega
      obtain ⟨p1, p2, p3⟩ := port_at (pre ++ [124, 49, 124] ++ rwT 46 0 (ad4 a) ++ [124]) [124] n hn hn2 (by decide)
      rw [← e3, l3] at p1 p2 p3
      rw [if_neg (by rw [p1]; simp), p2, p3]
      have t3 : tkB (pre ++ (txt 2 a n ++ [])) (5 + 3 + (rwT 46 0 (ad4 a)).length + 1 + (dg n).length) tBar = true := tk_mk hall nl_bar (by decide) (u := pre ++ [124, 49, 124] ++ rwT 46 0 (ad4 a) ++ [124] ++ dg n) (v := []) (by rw [hx]; simp; rfl) (by rw [List.length_append, l3])
      rw [if_neg (by rw [t3]; simp)]
      congr 2
      rw [hx]
      simp
      omega
    unfold fd2
    rw [hbar]
    simp only
    rw [if_pos (by simp), hw, h5]
    try simp
  unfold fnd
  rw [hk]
  simp only
  rw [if_neg (by omega), if_pos trivial]
  exact hfin

theorem kd227 {pre r : List Int} (h4 : 4 ≤ pre.length) (h : tkB pre 0 t227 = true) : kdV (pre ++ r) 0 true = (3, 4) := by unfold kdV; rw [if_neg (by simp), if_pos (by rw [tkB_pre (t := t227) h4]; exact h)]
theorem kd229 {pre r : List Int} (h4 : 4 ≤ pre.length) (h : tkB pre 0 t227 = false) (h' : tkB pre 0 t229 = true) : kdV (pre ++ r) 0 true = (4, 4) := by unfold kdV; rw [if_neg (by simp), if_neg (by rw [tkB_pre (t := t227) h4, h]; simp), if_pos (by rw [tkB_pre (t := t229) h4]; exact h')]
theorem pst_at (h a r : List Int) (h4 : h.length = 4) (ha : Mt.By a) (hn : 40 ∉ a) : pst (h ++ (a ++ 40 :: r)) 4 40 = (a.length : Int) ∧ p40 (h ++ (a ++ 40 :: r)) 4 = 4 + a.length + 1 := by
  have e : pst (h ++ (a ++ 40 :: r)) 4 40 = (a.length : Int) := by
    unfold pst
    rw [← h4, pre_at]
    exact ix_mk r a ha hn
  refine ⟨e, ?_⟩
  unfold p40
  rw [e]
  omega
theorem fnd_mk3 (pre suf : List Int) (back : Bool) (hp : Mt.By pre) (hs : Mt.By suf) (a : Int) (ha : 0 ≤ a ∧ a ≤ 4294967295) (n : Nat) (hn : 0 < n) (hn2 : n ≤ 65535) (h : Sh 3 back pre suf) :
    fnd (pre ++ (txt 3 a n ++ suf)) back = fdY 3 (pre.length : Nat) ((pre.length + (txt 3 a n).length : Nat) : Int) a n := by
  rcases h with ⟨h, _⟩ | ⟨h, _⟩ | ⟨_, rfl, h6, ⟨hd, m, rfl, h4, hm⟩, r, rfl⟩ | ⟨h, _⟩ <;> try omega
  have hk := kd227 (r := txt 3 a n ++ 41 :: r) (by simp; omega) h6
  have hw := wat_six a ha n (by omega)
  have hby : Mt.By (ad4 a ++ po2 n) := app_by (ad4_by a ha) (po2_by n (by omega))
  have hx : txt 3 a n = rwT 44 0 (ad4 a ++ po2 n) := by unfold txt; rw [if_neg (by omega), if_neg (by omega)]
  have hall : Mt.By ((hd ++ (m ++ [40])) ++ (txt 3 a n ++ 41 :: r)) := app_by hp (app_by (txt_by 3 a n ha hn2) hs)
  have hmb : Mt.By m := (by_app (by_app hp).2).1
  obtain ⟨q1, q2⟩ := pst_at hd m (txt 3 a n ++ 41 :: r) h4 hmb hm
  have e0 : hd ++ (m ++ 40 :: (txt 3 a n ++ 41 :: r)) = (hd ++ (m ++ [40])) ++ (txt 3 a n ++ 41 :: r) := by simp
  rw [e0] at q1 q2
  have hpl : (hd ++ (m ++ [40])).length = 4 + m.length + 1 := by simp; omega
  have hr := rwT_at 44 (by decide) (ad4 a ++ po2 n) 0 (hd ++ (m ++ [40])) (41 :: r) hp hs hby rfl
  rw [six_len, ← hx, hpl] at hr
  have hfin : fd3 ((hd ++ (m ++ [40])) ++ (txt 3 a n ++ 41 :: r)) 4 = fdY 3 ((hd ++ (m ++ [40])).length : Nat) (((hd ++ (m ++ [40])).length + (txt 3 a n).length : Nat) : Int) a n := by
    unfold fd3
    rw [if_neg (by rw [q1]; omega), q2]
    unfold sixO
    rw [show cma = ⟨#[44]⟩ from rfl, hr]
    simp only
    have t1 : tkB ((hd ++ (m ++ [40])) ++ (txt 3 a n ++ 41 :: r)) (4 + m.length + 1 + (txt 3 a n).length) tEnd = true := tk_mk hall nl_end (by decide) (u := (hd ++ (m ++ [40])) ++ txt 3 a n) (v := r) (by show _ = ((hd ++ (m ++ [40])) ++ txt 3 a n) ++ ([41] ++ r); simp) (by rw [List.length_append, hpl])
    rw [if_pos ⟨by rw [hw.2]; omega, t1⟩, hw.1, hw.2, hpl]
  unfold fnd
  rw [hk]
  simp only
  rw [if_neg (by omega), if_neg (by omega), if_pos trivial]
  exact hfin
theorem fnd_mk4 (pre suf : List Int) (back : Bool) (hp : Mt.By pre) (hs : Mt.By suf) (a : Int) (ha : 0 ≤ a ∧ a ≤ 4294967295) (n : Nat) (hn : 0 < n) (hn2 : n ≤ 65535) (h : Sh 4 back pre suf) :
    fnd (pre ++ (txt 4 a n ++ suf)) back = fdY 4 (pre.length : Nat) ((pre.length + (txt 4 a n).length : Nat) : Int) 0 n := by
  rcases h with ⟨h, _⟩ | ⟨h, _⟩ | ⟨h, _⟩ | ⟨_, rfl, h6, h7, ⟨hd, m, rfl, h4, hm⟩, r, rfl⟩ <;> try omega
  have hk := kd229 (r := txt 4 a n ++ 124 :: 41 :: r) (by simp; omega) h6 h7
  have hx : txt 4 a n = dg n := by unfold txt; rw [if_neg (by omega), if_pos rfl]
  have hall : Mt.By ((hd ++ (m ++ [40, 124, 124, 124])) ++ (txt 4 a n ++ 124 :: 41 :: r)) := app_by hp (app_by (txt_by 4 a n ha hn2) hs)
  have hmb : Mt.By m := (by_app (by_app hp).2).1
  obtain ⟨q1, q2⟩ := pst_at hd m ([124, 124, 124] ++ (txt 4 a n ++ 124 :: 41 :: r)) h4 hmb hm
  have e0 : hd ++ (m ++ 40 :: ([124, 124, 124] ++ (txt 4 a n ++ 124 :: 41 :: r))) = (hd ++ (m ++ [40, 124, 124, 124])) ++ (txt 4 a n ++ 124 :: 41 :: r) := by simp
  rw [e0] at q1 q2
  have e1 : (hd ++ (m ++ [40, 124, 124, 124])) ++ (txt 4 a n ++ 124 :: 41 :: r) = (hd ++ (m ++ [40])) ++ ([124, 124, 124] ++ (txt 4 a n ++ 124 :: 41 :: r)) := by simp
  have l1 : (hd ++ (m ++ [40])).length = 4 + m.length + 1 := by simp; omega
  have hpl : (hd ++ (m ++ [40, 124, 124, 124])).length = 4 + m.length + 1 + 3 := by simp; omega
  obtain ⟨p1, p2, p3⟩ := port_at (hd ++ (m ++ [40, 124, 124, 124])) (124 :: 41 :: r) n hn hn2 rfl
  rw [← hx, hpl] at p1 p2 p3
  have hfin : fd4 ((hd ++ (m ++ [40, 124, 124, 124])) ++ (txt 4 a n ++ 124 :: 41 :: r)) 4 = fdY 4 ((hd ++ (m ++ [40, 124, 124, 124])).length : Nat) (((hd ++ (m ++ [40, 124, 124, 124])).length + (txt 4 a n).length : Nat) : Int) 0 n := by
    unfold fd4
    have t1 : tkB ((hd ++ (m ++ [40, 124, 124, 124])) ++ (txt 4 a n ++ 124 :: 41 :: r)) (4 + m.length + 1) tBars = true := tk_mk hall nl_bars (by decide) (u := hd ++ (m ++ [40])) (v := txt 4 a n ++ 124 :: 41 :: r) e1 l1.symm
    have t2 : tkB ((hd ++ (m ++ [40, 124, 124, 124])) ++ (txt 4 a n ++ 124 :: 41 :: r)) (4 + m.length + 1 + 3 + (txt 4 a n).length) tEnd4 = true := tk_mk hall nl_end4 (by decide) (u := (hd ++ (m ++ [40, 124, 124, 124])) ++ txt 4 a n) (v := r) (by show _ = ((hd ++ (m ++ [40, 124, 124, 124])) ++ txt 4 a n) ++ ([124, 41] ++ r); simp) (by rw [List.length_append, hpl])
    rw [if_neg (by rw [q1]; omega), q2, if_neg (by rw [t1]; simp), if_neg (by rw [p1]; simp), p2, p3, if_neg (by rw [t2]; simp), hpl]
  unfold fnd
  rw [hk]
  simp only
  rw [if_neg (by omega), if_neg (by omega), if_neg (by omega), if_pos trivial]
  exact hfin
end Go.Proofs.YtfnlakpjepjhbaaDoor

/- What is found was written so. -/
namespace Go.Proofs.YtfnlakpjepjhbaaDoor
open Go.RowKit Go.Shelf
set_option maxRecDepth 100000
set_option linter.unusedVariables false
set_option linter.unusedSimpArgs false

theorem fdY_inj {k st en ad pt k' st' en' ad' pt' : Int} (h : fdY k st en ad pt = fdY k' st' en' ad' pt') : k = k' ∧ st = st' ∧ en = en' ∧ ad = ad' ∧ pt = pt' := by
  unfold fdY at h
  simp at h
  exact h
/-- What a line that names something looks like. -/
def Was (l : List Int) (back : Bool) (k st en ad pt : Int) : Prop := ∃ (pre suf : List Int) (n : Nat), l = pre ++ (txt k ad n ++ suf) ∧ Sh k back pre suf ∧ st = (pre.length : Int) ∧ en = ((pre.length + (txt k ad n).length : Nat) : Int) ∧ pt = (n : Int) ∧ 0 < n ∧ n ≤ 65535 ∧ 0 ≤ ad ∧ ad ≤ 4294967295
theorem kd1 {l : List Int} {back : Bool} (h : (kdV l 0 back).1 = 1) : back = false ∧ tkB l 0 tPort = true ∧ kdV l 0 back = (1, 5) := by
  unfold kdV at h ⊢
  cases back with
  | true => simp only [Bool.true_eq_false, if_false] at h; split at h; (· simp at h); split at h <;> simp at h
  | false =>
    simp only [if_true] at h ⊢
    split at h
    · rename_i h1; exact ⟨trivial, h1, by rw [if_pos h1]⟩
    · split at h <;> simp at h
theorem kd2 {l : List Int} {back : Bool} (h : (kdV l 0 back).1 = 2) : back = false ∧ tkB l 0 tPort = false ∧ tkB l 0 tEprt = true ∧ kdV l 0 back = (2, 5) := by
  unfold kdV at h ⊢
  cases back with
  | true => simp only [Bool.true_eq_false, if_false] at h; split at h; (· simp at h); split at h <;> simp at h
  | false =>
    simp only [if_true] at h ⊢
    split at h
    · simp at h
    · rename_i h1
      split at h
      · rename_i h2; exact ⟨trivial, by simpa using h1, h2, by rw [if_neg h1, if_pos h2]⟩
      · simp at h
theorem kd3 {l : List Int} {back : Bool} (h : (kdV l 0 back).1 = 3) : back = true ∧ tkB l 0 t227 = true ∧ kdV l 0 back = (3, 4) := by
  unfold kdV at h ⊢
  cases back with
  | false => simp only [if_true] at h; split at h; (· simp at h); split at h <;> simp at h
  | true =>
    simp only [Bool.true_eq_false, if_false] at h ⊢
    split at h
    · rename_i h1; exact ⟨trivial, h1, by rw [if_pos h1]⟩
    · split at h <;> simp at h
theorem kd4 {l : List Int} {back : Bool} (h : (kdV l 0 back).1 = 4) : back = true ∧ tkB l 0 t227 = false ∧ tkB l 0 t229 = true ∧ kdV l 0 back = (4, 4) := by
  unfold kdV at h ⊢
  cases back with
  | false => simp only [if_true] at h; split at h; (· simp at h); split at h <;> simp at h
  | true =>
    simp only [Bool.true_eq_false, if_false] at h ⊢
    split at h
    · simp at h
    · rename_i h1
      split at h
      · rename_i h2; exact ⟨trivial, by simpa using h1, h2, by rw [if_neg h1, if_pos h2]⟩
      · simp at h
theorem tkB_take {l : List Int} {t : ByteArray} {p : Nat} (h : t.size ≤ p) (hp : p ≤ l.length) : tkB (l.take p) 0 t = tkB l 0 t := by
  have := tkB_pre (pre := l.take p) (r := l.drop p) (t := t) (by rw [List.length_take]; omega)
  rw [List.take_append_drop] at this
  exact this.symm
theorem port_was {zs : List Int} {p : Nat} (hz : Mt.By zs) (hp : p ≤ zs.length) (h : portB zs p = true) : ∃ n : Nat, portV zs p = (n : Int) ∧ 0 < n ∧ n ≤ 65535 ∧ zs.drop p = dg n ++ zs.drop (dgZ zs p) ∧ dgZ zs p = p + (dg n).length := by
  unfold portB at h
  cases hv : numV (dgS zs p) 65535 with
  | none => rw [hv] at h; simp at h
  | some v =>
    have hr := numV_rng (dgS zs p) 65535 (by omega)
    rw [hv] at h hr
    simp at h hr
    obtain ⟨h1, h2, h3⟩ := num_was hz hp hv
    refine ⟨v.toNat, ?_, by omega, by omega, h1, h3⟩
    unfold portV
    rw [hv]
    simp
    omega
theorem six_was {zs : List Int} {p : Nat} (hz : Mt.By zs) (hp : p ≤ zs.length) {x : List Int × Nat} (h : sixO zs p = some x) (hn : wat x.1 4 ≠ 0) : ∃ n : Nat, wat x.1 4 = (n : Int) ∧ 0 < n ∧ n ≤ 65535 ∧ (0 ≤ wat4 x.1 0 ∧ wat4 x.1 0 ≤ 4294967295) ∧ zs.drop p = rwT 44 0 (ad4 (wat4 x.1 0) ++ po2 n) ++ zs.drop x.2 ∧ x.2 = p + (rwT 44 0 (ad4 (wat4 x.1 0) ++ po2 n)).length ∧ x.2 ≤ zs.length := by
  obtain ⟨x, q⟩ := x
  have hl := rowF_len zs cma 6 0 p (x, q) h
  have hb := rowF_by zs cma 6 0 p (x, q) h
  obtain ⟨e1, e2, e3⟩ := six_is hb hl
  obtain ⟨r1, r2, r3⟩ := rwT_was 44 (by decide) zs hz 6 0 p x q hp h
  simp only at hn e1 e2 e3 ⊢
  refine ⟨(wat x 4).toNat, by omega, by omega, by omega, e2, ?_, ?_, r3⟩
  · rw [Int.toNat_of_nonneg e3.1, ← e1]; exact r1
  · rw [Int.toNat_of_nonneg e3.1, ← e1]; exact r2
theorem txt_six (k : Int) (a : Int) (n : Nat) (h2 : k ≠ 2) (h4 : k ≠ 4) : txt k a n = rwT 44 0 (ad4 a ++ po2 n) := by unfold txt; rw [if_neg h2, if_neg h4]

theorem was_1 {l : List Int} (hB : Mt.By l) {back : Bool} {k st en ad pt : Int} (hk : (kdV l 0 back).1 = 1) (h : fd1 l (kdV l 0 back).2 = fdY k st en ad pt) : Was l back k st en ad pt := by
  obtain ⟨rfl, h1, h2⟩ := kd1 hk
  have hp := (kdV_rng l false).2
  rw [h2] at h hp
  simp only at h hp
  unfold fd1 at h
  split at h
  · exact absurd h.symm (fdY_ne _ _ _ _ _)
  rename_i x hx
  split at h
  · rename_i hc
    obtain ⟨n, n1, n2, n3, n4, n5, n6, n7⟩ := six_was hB hp hx hc.1
    obtain ⟨rfl, rfl, rfl, rfl, rfl⟩ := fdY_inj h
    have hd : l.drop x.2 = [] := List.drop_of_length_le (by omega)
    rw [hd, List.append_nil] at n5
    refine ⟨l.take 5, [], n, ?_, .inl ⟨rfl, rfl, by rw [List.length_take]; omega, by rw [tkB_take (by decide) hp]; exact h1, rfl⟩, by rw [List.length_take]; omega, ?_, n1, n2, n3, n4⟩
    · rw [txt_six 1 _ _ (by omega) (by omega), ← n5, List.append_nil, List.take_append_drop]
    · rw [txt_six 1 _ _ (by omega) (by omega), n6, List.length_take]; omega
  · exact absurd h.symm (fdY_ne _ _ _ _ _)
theorem was_3 {l : List Int} (hB : Mt.By l) {back : Bool} {k st en ad pt : Int} (hk : (kdV l 0 back).1 = 3) (h : fd3 l (kdV l 0 back).2 = fdY k st en ad pt) : Was l back k st en ad pt := by
  obtain ⟨rfl, h1, h2⟩ := kd3 hk
  have hp := (kdV_rng l true).2
  rw [h2] at h hp
  simp only at h hp
  unfold fd3 at h
  split at h
  · exact absurd h.symm (fdY_ne _ _ _ _ _)
  rename_i hps
  obtain ⟨a, b, e1, e2, e3⟩ := ix_was (l.drop 4) (fun z hz => hB z (List.mem_of_mem_drop hz)) (by unfold pst at hps; simpa using hps)
  have hpe : p40 l 4 = 4 + a.length + 1 := by
    unfold p40 pst
    have : Lib.indexByte (Lib.bytesOf (l.drop 4)) (40 : Int).toNat.toUInt8 = (a.length : Int) := e2.symm
    rw [this]
    omega
  have hl4 : l = (l.take 4 ++ (a ++ [40])) ++ b := by
    have := List.take_append_drop 4 l
    rw [e1] at this
    rw [← this]
    simp [List.take_append_of_le_length, List.length_take, Nat.min_eq_left hp]
  have hpl : (l.take 4 ++ (a ++ [40])).length = 4 + a.length + 1 := by simp [List.length_take]; omega
  have hple : 4 + a.length + 1 ≤ l.length := by
    have := congrArg List.length hl4
    rw [List.length_append, hpl] at this
    omega
  rw [hpe] at h
  split at h
  · exact absurd h.symm (fdY_ne _ _ _ _ _)
  rename_i x hx
  split at h
  · rename_i hc
    obtain ⟨n, n1, n2, n3, n4, n5, n6, n7⟩ := six_was hB hple hx hc.1
    obtain ⟨rfl, rfl, rfl, rfl, rfl⟩ := fdY_inj h
    have ht := (tk_iff l hB _ _ nl_end (by decide)).1 hc.2
    have hb : l.drop (4 + a.length + 1) = b := by
      have := congrArg (List.drop (4 + a.length + 1)) hl4
      rw [this, ← hpl, pre_at]
    rw [hb] at n5
    refine ⟨l.take 4 ++ (a ++ [40]), l.drop x.2, n, ?_, .inr (.inr (.inl ⟨rfl, rfl, ?_, ⟨l.take 4, a, rfl, by rw [List.length_take]; omega, e3⟩, _, ht⟩)), by rw [hpl], ?_, n1, n2, n3, n4⟩
    · rw [txt_six 3 _ _ (by omega) (by omega), ← n5]; exact hl4
    · have := tkB_pre (pre := l.take 4 ++ (a ++ [40])) (r := b) (t := t227) (by rw [hpl]; show 4 ≤ _; omega)
      rw [← hl4] at this
      rw [← this]; exact h1
    · rw [txt_six 3 _ _ (by omega) (by omega), n6, hpl]
  · exact absurd h.symm (fdY_ne _ _ _ _ _)

theorem was_2 {l : List Int} (hB : Mt.By l) {back : Bool} {k st en ad pt : Int} (hk : (kdV l 0 back).1 = 2) (h : fd2 l (kdV l 0 back).2 = fdY k st en ad pt) : Was l back k st en ad pt := by
  obtain ⟨rfl, h1, h1', h2⟩ := kd2 hk
  have hp := (kdV_rng l false).2
  rw [h2] at h hp
  simp only at h hp
  unfold fd2 at h
  split at h
  · exact absurd h.symm (fdY_ne _ _ _ _ _)
  rename_i x hx
  split at h
  · rename_i hc
    unfold barO at hx
    split at hx
    · cases hx
    rename_i t1
    obtain ⟨y, hy, hx⟩ := Option.bind_eq_some_iff.1 hx
    split at hx
    · cases hx
    rename_i t2
    split at hx
    · cases hx
    rename_i t3
    split at hx
    · cases hx
    rename_i t4
    obtain rfl : (y.1, dgZ l (y.2 + 1) + 1, portV l (y.2 + 1)) = x := by simpa using hx
    simp only at h hc
    have t1' : tkB l 5 tOne = true := by simpa using t1
    have t2' : tkB l y.2 tBar = true := by simpa using t2
    have t3' : portB l (y.2 + 1) = true := by simpa using t3
    have t4' : tkB l (dgZ l (y.2 + 1)) tBar = true := by simpa using t4
    have q1 := tkB_le t1'
    have q2 := tkB_le t2'
    have q4 := tkB_le t4'
    have e1 := (tk_iff l hB _ _ nl_one (by decide)).1 t1'
    have e2 := (tk_iff l hB _ _ nl_bar (by decide)).1 t2'
    have e4 := (tk_iff l hB _ _ nl_bar (by decide)).1 t4'
    obtain ⟨r1, r2, r3⟩ := rwT_was 46 (by decide) l hB 4 0 (5 + 3) y.1 y.2 q1 hy
    have hl := rowF_len l tDot 4 0 (5 + 3) y hy
    have hb := rowF_by l tDot 4 0 (5 + 3) y hy
    obtain ⟨f1, f2⟩ := four_is hb hl
    obtain ⟨n, n1, n2, n3, n4, n5⟩ := port_was hB q2 t3'
    obtain ⟨rfl, rfl, rfl, rfl, rfl⟩ := fdY_inj h
    have hd : l.drop (dgZ l (y.2 + 1) + 1) = [] := List.drop_of_length_le (by omega)
    have e5 : l.drop (dgZ l (y.2 + 1) + tBar.size) = [] := hd
    rw [e5] at e4
    have hx2 : txt 2 (wat4 y.1 0) n = l.drop 5 := by
      have e1' : l.drop 5 = [124, 49, 124] ++ l.drop (5 + 3) := e1
      have e2' : l.drop y.2 = [124] ++ l.drop (y.2 + 1) := e2
      have e4' : l.drop (dgZ l (y.2 + 1)) = [124] ++ [] := e4
      have n4' : l.drop (y.2 + 1) = dg n ++ l.drop (dgZ l (y.2 + 1)) := n4
      unfold txt
      rw [if_pos rfl, ← f1, e1', r1, e2', n4', e4']
      simp
    have hlen := congrArg List.length hx2
    rw [List.length_drop] at hlen
    refine ⟨l.take 5, [], n, ?_, .inr (.inl ⟨rfl, rfl, by rw [List.length_take]; omega, by rw [tkB_take (by decide) hp]; exact h1, by rw [tkB_take (by decide) hp]; exact h1', rfl⟩), by rw [List.length_take]; omega, ?_, n1, n2, n3, f2⟩
    · rw [hx2, List.append_nil, List.take_append_drop]
    · rw [hlen, List.length_take]; omega
  · exact absurd h.symm (fdY_ne _ _ _ _ _)
theorem was_4 {l : List Int} (hB : Mt.By l) {back : Bool} {k st en ad pt : Int} (hk : (kdV l 0 back).1 = 4) (h : fd4 l (kdV l 0 back).2 = fdY k st en ad pt) : Was l back k st en ad pt := by
  obtain ⟨rfl, h1, h1', h2⟩ := kd4 hk
  have hp := (kdV_rng l true).2
  rw [h2] at h hp
  simp only at h hp
  unfold fd4 at h
  split at h
  · exact absurd h.symm (fdY_ne _ _ _ _ _)
  rename_i hps
  obtain ⟨a, b, e1, e2, e3⟩ := ix_was (l.drop 4) (fun z hz => hB z (List.mem_of_mem_drop hz)) (by unfold pst at hps; simpa using hps)
  have hpe : p40 l 4 = 4 + a.length + 1 := by
    unfold p40 pst
    have : Lib.indexByte (Lib.bytesOf (l.drop 4)) (40 : Int).toNat.toUInt8 = (a.length : Int) := e2.symm
    rw [this]
    omega
  have hl4 : l = (l.take 4 ++ (a ++ [40])) ++ b := by
    have := List.take_append_drop 4 l
    rw [e1] at this
    rw [← this]
    simp [List.take_append_of_le_length, List.length_take, Nat.min_eq_left hp]
  have hpl : (l.take 4 ++ (a ++ [40])).length = 4 + a.length + 1 := by simp [List.length_take]; omega
  rw [hpe] at h
  split at h
  · exact absurd h.symm (fdY_ne _ _ _ _ _)
  rename_i t1
  split at h
  · exact absurd h.symm (fdY_ne _ _ _ _ _)
  rename_i t2
  split at h
  · exact absurd h.symm (fdY_ne _ _ _ _ _)
  rename_i t3
  have t1' : tkB l (4 + a.length + 1) tBars = true := by simpa using t1
  have t2' : portB l (4 + a.length + 1 + 3) = true := by simpa using t2
  have t3' : tkB l (dgZ l (4 + a.length + 1 + 3)) tEnd4 = true := by simpa using t3
  have q1 := tkB_le t1'
  have f1 := (tk_iff l hB _ _ nl_bars (by decide)).1 t1'
  have f3 := (tk_iff l hB _ _ nl_end4 (by decide)).1 t3'
  obtain ⟨n, n1, n2, n3, n4, n5⟩ := port_was hB (show 4 + a.length + 1 + 3 ≤ l.length from q1) t2'
  obtain ⟨rfl, rfl, rfl, rfl, rfl⟩ := fdY_inj h
  have hb : l.drop (4 + a.length + 1) = b := by
    have := congrArg (List.drop (4 + a.length + 1)) hl4
    rw [this, ← hpl, pre_at]
  have f1' : b = [124, 124, 124] ++ l.drop (4 + a.length + 1 + 3) := by rw [← hb]; exact f1
  have hl5 : l = (l.take 4 ++ (a ++ [40, 124, 124, 124])) ++ (dg n ++ l.drop (dgZ l (4 + a.length + 1 + 3))) := by
    rw [← n4]
    rw [f1'] at hl4
    have : (l.take 4 ++ (a ++ [40])) ++ ([124, 124, 124] ++ l.drop (4 + a.length + 1 + 3)) = (l.take 4 ++ (a ++ [40, 124, 124, 124])) ++ l.drop (4 + a.length + 1 + 3) := by simp
    rw [← this]
    exact hl4
  have hx4 : txt 4 0 n = dg n := by unfold txt; rw [if_neg (by omega), if_pos rfl]
  have hpl5 : (l.take 4 ++ (a ++ [40, 124, 124, 124])).length = 4 + a.length + 1 + 3 := by simp [List.length_take]; omega
  have k227 := tkB_pre (pre := l.take 4 ++ (a ++ [40, 124, 124, 124])) (r := dg n ++ l.drop (dgZ l (4 + a.length + 1 + 3))) (t := t227) (by rw [hpl5]; show 4 ≤ _; omega)
  have k229 := tkB_pre (pre := l.take 4 ++ (a ++ [40, 124, 124, 124])) (r := dg n ++ l.drop (dgZ l (4 + a.length + 1 + 3))) (t := t229) (by rw [hpl5]; show 4 ≤ _; omega)
  rw [← hl5] at k227 k229
  refine ⟨l.take 4 ++ (a ++ [40, 124, 124, 124]), l.drop (dgZ l (4 + a.length + 1 + 3)), n, by rw [hx4]; exact hl5, .inr (.inr (.inr ⟨rfl, rfl, by rw [← k227]; exact h1, by rw [← k229]; exact h1', ⟨l.take 4, a, rfl, by rw [List.length_take]; omega, e3⟩, _, f3⟩)), by rw [hpl5], by rw [hx4, hpl5, n5], n1, n2, n3, by omega, by omega⟩
theorem fnd_was {l : List Int} (hB : Mt.By l) {back : Bool} {k st en ad pt : Int} (h : fnd l back = fdY k st en ad pt) : Was l back k st en ad pt := by
  unfold fnd at h
  split at h
  · exact was_1 hB (by assumption) h
  split at h
  · exact was_2 hB (by assumption) h
  split at h
  · exact was_3 hB (by assumption) h
  split at h
  · exact was_4 hB (by assumption) h
  exact absurd h.symm (fdY_ne _ _ _ _ _)
theorem Sh.kind {k : Int} {back : Bool} {pre suf : List Int} (h : Sh k back pre suf) : k = 1 ∨ k = 2 ∨ k = 3 ∨ k = 4 := by
  rcases h with ⟨h, _⟩ | ⟨h, _⟩ | ⟨h, _⟩ | ⟨h, _⟩ <;> omega
theorem fnd_mk {k : Int} {pre suf : List Int} {back : Bool} (h : Sh k back pre suf) (hp : Mt.By pre) (hs : Mt.By suf) (a : Int) (ha : 0 ≤ a ∧ a ≤ 4294967295) (n : Nat) (hn : 0 < n) (hn2 : n ≤ 65535) :
    fnd (pre ++ (txt k a n ++ suf)) back = fdY k (pre.length : Nat) ((pre.length + (txt k a n).length : Nat) : Int) (if k = 4 then 0 else a) n := by
  rcases h.kind with rfl | rfl | rfl | rfl
  · exact fnd_mk1 pre suf back hp hs a ha n hn hn2 h
  · exact fnd_mk2 pre suf back hp hs a ha n hn hn2 h
  · exact fnd_mk3 pre suf back hp hs a ha n hn hn2 h
  · exact fnd_mk4 pre suf back hp hs a ha n hn hn2 h

/-- No line's end within a text. -/
theorem crl_no {l : List Int} (h : ∀ z ∈ l, z ≠ 13 ∧ z ≠ 10) : crl l = false := by
  unfold crl
  rw [List.any_eq_false]
  intro z hz
  have := h z hz
  unfold isCr
  simp
  omega
theorem dg_cr (n : Nat) : ∀ z ∈ dg n, z ≠ 13 ∧ z ≠ 10 := fun z hz => by have := dgt_rng (dg_dgt n z hz); omega
theorem rwT_cr (c : UInt8) (hc : 32 ≤ c.toNat) : ∀ (x : List Int) (i : Nat), ∀ z ∈ rwT c i x, z ≠ 13 ∧ z ≠ 10
  | [], i => by intro z hz; simp [rwT] at hz
  | v :: r, i => by
    intro z hz
    rw [rwT_cons] at hz
    simp only [List.mem_append] at hz
    rcases hz with hz | hz | hz
    · split at hz
      · simp at hz
      · simp at hz; omega
    · exact dg_cr _ z hz
    · exact rwT_cr c hc r (i + 1) z hz
theorem txt_cr (k a : Int) (n : Nat) : ∀ z ∈ txt k a n, z ≠ 13 ∧ z ≠ 10 := by
  unfold txt
  intro z hz
  split at hz
  · simp only [List.mem_append, List.mem_cons, List.mem_singleton] at hz
    rcases hz with (rfl | rfl | rfl | hz) | hz | rfl | hz | rfl | hz
    · omega
    · omega
    · omega
    · simp at hz
    · exact rwT_cr 46 (by decide) _ _ z hz
    · omega
    · exact dg_cr n z hz
    · omega
    · simp at hz
  · split at hz
    · exact dg_cr n z hz
    · exact rwT_cr 44 (by decide) _ _ z hz
/-- Bytes that name something. -/
theorem fndB_was {zs : List Int} (hB : Mt.By zs) {back : Bool} {k st en ad pt : Int} (h : fndB zs back = fdY k st en ad pt) : ∃ l, zs = l ++ [13, 10] ∧ crl l = false ∧ zs.length ≤ 128 ∧ Was l back k st en ad pt := by
  have hno : fndB zs back ≠ fdN := by rw [h]; exact fdY_ne _ _ _ _ _
  obtain ⟨l, rfl, hc, hl⟩ := oneL_parts (oneL_of hno)
  refine ⟨l, rfl, hc, hl, fnd_was (by_app hB).1 ?_⟩
  unfold fndB at h
  rw [if_pos (oneL_of hno), show (l ++ [13, 10] : List Int).length - 2 = l.length by simp, List.take_left] at h
  exact h
theorem fndB_line {l : List Int} (back : Bool) (hc : crl l = false) (hl : l.length ≤ 126) : fndB (l ++ [13, 10]) back = fnd l back := by
  unfold fndB
  rw [if_pos (by rw [oneL_mk, hc]; simp [hl]), show (l ++ [13, 10] : List Int).length - 2 = l.length by simp, List.take_left]
theorem fndB_long {zs : List Int} (back : Bool) (h : 128 < zs.length) : fndB zs back = fdN := fndB_no (by unfold oneL; simp; intro _ _; omega)
theorem crl_mid {pre m suf : List Int} (h : crl (pre ++ (m ++ suf)) = false) {m' : List Int} (hm : ∀ z ∈ m', z ≠ 13 ∧ z ≠ 10) : crl (pre ++ (m' ++ suf)) = false := by
  rw [crl_app, crl_app] at h ⊢
  rw [crl_no hm]
  simp only [Bool.or_eq_false_iff] at h ⊢
  exact ⟨h.1, trivial, h.2.2⟩
theorem txt_pos (k a : Int) (n : Nat) : 0 < (txt k a n).length := by
  unfold txt
  split
  · simp
  · split
    · exact dg_pos n
    · show 0 < (rwT 44 0 ((a / 16777216) :: _)).length
      rw [rwT_cons]
      have := dg_pos (a / 16777216).toNat
      simp only [List.length_append]
      omega
/-- FtpBack's and FtpSelf's mathematics. -/
theorem back_math {zs : List Int} (hB : Mt.By zs) {back : Bool} {k st en ad pt : Int} (h : fndB zs back = fdY k st en ad pt) (a : Int) (ha : 0 ≤ a ∧ a ≤ 4294967295) (n : Nat) (hn : 0 < n) (hn2 : n ≤ 65535) :
    ∃ c, rpl st en zs (txt k a n) = c ∧ ((128 < c.length ∧ fndB c back = fdN) ∨ (c.length ≤ 128 ∧ fndB c back = fdY k st (st + (txt k a n).length) (if k = 4 then 0 else a) n)) ∧ (c.length : Int) = zs.length + (txt k a n).length - (en - st) := by
  obtain ⟨l, rfl, hc, hl, pre, suf, m, rfl, hS, rfl, rfl, rfl, hm, hm2, had⟩ := fndB_was hB h
  have hp := (by_app (by_app hB).1).1
  have hs := (by_app (by_app (by_app hB).1).2).2
  have hr : rpl (pre.length : Int) ((pre.length + (txt k ad m).length : Nat) : Int) (pre ++ (txt k ad m ++ suf) ++ [13, 10]) (txt k a n) = (pre ++ (txt k a n ++ suf)) ++ [13, 10] := by
    unfold rpl
    rw [if_neg (by simp; omega)]
    have e1 : (pre.length : Int).toNat = pre.length := by omega
    have e2 : ((pre.length + (txt k ad m).length : Nat) : Int).toNat = pre.length + (txt k ad m).length := by omega
    rw [e1, e2, List.append_assoc, List.take_left, ← List.drop_drop, List.drop_left, List.append_assoc, List.drop_left]
    simp
  refine ⟨_, hr, ?_, by simp; omega⟩
  by_cases h128 : ((pre ++ (txt k a n ++ suf)) ++ [13, 10]).length ≤ 128
  · right
    refine ⟨h128, ?_⟩
    rw [fndB_line back (crl_mid hc (txt_cr k a n)) (by simp at h128 ⊢; omega), fnd_mk hS hp hs a ha n hn hn2]
    congr 1
  · left
    exact ⟨by omega, fndB_long back (by omega)⟩
theorem self_math {zs : List Int} (hB : Mt.By zs) {back : Bool} {k st en ad pt : Int} (h : fndB zs back = fdY k st en ad pt) :
    ∃ n : Nat, pt = (n : Int) ∧ 0 < n ∧ n ≤ 65535 ∧ (0 ≤ ad ∧ ad ≤ 4294967295) ∧ k ≠ 0 ∧ rpl st en zs (txt k ad n) = zs ∧ 0 ≤ st ∧ st < en ∧ en ≤ (zs.length : Int) ∧ zs.length ≤ 128 ∧ rpl st en zs ((zs.drop st.toNat).take (en - st).toNat) = zs := by
  obtain ⟨l, rfl, hc, hl, pre, suf, m, rfl, hS, rfl, rfl, rfl, hm, hm2, had⟩ := fndB_was hB h
  have e1 : (pre.length : Int).toNat = pre.length := by omega
  have e2 : ((pre.length + (txt k ad m).length : Nat) : Int).toNat = pre.length + (txt k ad m).length := by omega
  have hr : rpl (pre.length : Int) ((pre.length + (txt k ad m).length : Nat) : Int) (pre ++ (txt k ad m ++ suf) ++ [13, 10]) (txt k ad m) = (pre ++ (txt k ad m ++ suf)) ++ [13, 10] := by
    unfold rpl
    rw [if_neg (by simp; omega), e1, e2, List.append_assoc, List.take_left, ← List.drop_drop, List.drop_left, List.append_assoc, List.drop_left]
  refine ⟨m, rfl, hm, hm2, had, by rcases hS.kind with rfl | rfl | rfl | rfl <;> omega, hr, by omega, by have := txt_pos k ad m; omega, by simp; omega, hl, ?_⟩
  have e3 : (((pre.length + (txt k ad m).length : Nat) : Int) - (pre.length : Int)).toNat = (txt k ad m).length := by omega
  have e4 : ((pre ++ (txt k ad m ++ suf) ++ [13, 10]).drop (pre.length : Int).toNat).take (((pre.length + (txt k ad m).length : Nat) : Int) - (pre.length : Int)).toNat = txt k ad m := by
    rw [e1, e3, List.append_assoc, List.drop_left, List.append_assoc, List.take_left]
  rw [e4]
  exact hr
end Go.Proofs.YtfnlakpjepjhbaaDoor
