/- Package sip's base: numbers, rows and addresses as text. -/
import Derived.Shelf.Strings.OnBuilder
import Derived.Lib.ConvBytes
import Derived.Lib.AppendIntMem
import Derived.Laws.AppendOwn
import Derived.Test.YtibjgaelaijgpaaGreatDoorShSip
import Derived.Test.YtibjgaelaijgpaaGreatDoorFC
import Derived.Test.YtibjgaelaijgpaaGreatDoorV4
import Derived.Test.YtibjgaelaijgpaaGreatDoorRk
import Derived.Test.YtibjgaelaijgpaaGreatDoorRt
import Derived.Test.YtibjgaelaijgpaaGreatDoorRx
namespace Go.Proofs.YtibjgaelaijgpaaGreatDoor
open Go.RowKit Go.Shelf
set_option maxRecDepth 100000
set_option linter.unusedVariables false
set_option linter.unusedSimpArgs false

def tDot : ByteArray := ⟨#[46]⟩
theorem later_allocR (w : World) (o : Obj) : Later w (w.alloc o) := (Below.refl _ _).alloc (Nat.le_refl _) _
/-- A string's bytes as numbers. -/
def nmsB (s : ByteArray) : List Int := s.data.toList.map fun b => (b.toNat : Int)
theorem nmsB_len (s : ByteArray) : (nmsB s).length = s.size := by unfold nmsB; rw [List.length_map, Array.length_toList]; rfl
theorem nmsB_by (s : ByteArray) : Mt.By (nmsB s) := fun z hz => by
  simp only [nmsB, List.mem_map] at hz
  obtain ⟨b, _, rfl⟩ := hz
  have := b.toNat_lt
  omega
theorem conv_later (w : World) (e : TypeId) (s : ByteArray) : Later w (Lib.bytesWorld w e s) :=
  ⟨rfl, rfl, rfl, by rw [Lib.bytesWorld_size]; omega, fun i hi => Lib.bytesWorld_at_old w e s i hi⟩
/-- The library's table of powers of ten. -/
def TabI (w : World) : Prop := Lib.TabIs Tryz.prog w "internal/strconv.uint64pow10" .u64 Lib.pow10Tab
theorem TabI.later {A B : World} (h : TabI A) (b : Later A B) : TabI B := by
  unfold TabI Lib.TabIs World.var? at *
  cases hg : Tryz.prog.globalNamed "internal/strconv.uint64pow10" with
  | none => simp [hg] at h
  | some g =>
    simp only [hg, Option.bind_some] at h ⊢
    have hlt : g < A.heap.size := by
      rcases Nat.lt_or_ge g A.heap.size with h' | h'
      · exact h'
      · simp [Array.getElem?_eq_none h'] at h
    rw [b.block g hlt]
    exact h
/-- A number's digits. -/
def decB (n : Nat) : ByteArray := ⟨(Lib.decDigits n).toArray⟩
theorem itoa_any (n : Nat) (w : World) (hT : TabI w) (hn : n ≤ 1000000) :
    Calls Tryz.prog 51 #[.int .i64 (n : Int)] w fun e w' => e = .returned (.string (decB n)) ∧ Below w.heap.size w w' := by
  refine (Any.strconv_Itoa itoaL (n : Int) (by omega) (by omega) w hT).mono ?_
  rintro e w' ⟨rfl, k, os, rfl⟩
  refine ⟨?_, Lib.below_grow _ _ (Nat.le_refl _) _ _⟩
  unfold Lib.itoa decB
  rw [if_neg (by omega)]
  rfl
theorem nDig_le : ∀ (k n : Nat), n < 10 ^ k → 1 ≤ k → (Lib.decDigits n).length ≤ k
  | 0, n, _, h => by omega
  | k + 1, n, h, _ => by
    rw [Lib.decDigits]
    split
    · simp
    · rw [List.length_append, List.length_singleton]
      have hk : 1 ≤ k := by
        rcases Nat.eq_zero_or_pos k with rfl | h'
        · simp at h; omega
        · exact h'
      have := nDig_le k (n / 10) (by rw [Nat.pow_succ] at h; omega) hk
      omega
theorem decB_size (n : Nat) (h : n ≤ 65535) : (decB n).size ≤ 5 := by
  have := nDig_le 5 n (by omega) (by omega)
  simpa [decB, ByteArray.size] using this
theorem rd_mark (l : List Int) (e : TypeId) (m : Nat × Nat) (w : World) (hne : l ≠ []) (hm : l.length ≤ 1000) : Rd (w.alloc (.cells (l.map (Value.int .u8)).toArray e m)).heap.size (w.alloc (.cells (l.map (Value.int .u8)).toArray e m)) (.slice (some ⟨w.heap.size, 0, none⟩) l.length l.length) l := by
  refine .inr ⟨w.heap.size, 0, l.length, rfl, hne, Nat.le_refl _, by omega, by simp, fun j hj => ?_⟩
  rw [Nat.zero_add, World.cell?_alloc_mark w _ _ _ j, List.getElem?_toArray, List.getElem?_map, List.getElem?_eq_getElem hj]
  rfl

theorem joinX : Builder.Extra Tryz.prog joinL_ren := { sizeBuilder := by kernel_rfl, liesBuilder := by kernel_rfl, t5 := Tryz.underlying5, a5 := Tryz.isAgg5, z5 := Tryz.sizeOf5, v5 := Tryz.zeroValue5, infoByte := by kernel_rfl, cellsByte := by kernel_rfl, sizeByte := by kernel_rfl, neB5 := by decide }
theorem info_str : (Tryz.prog.info? 9).map (fun i => (i.zero, i.size, i.bytes)) = some (some (.string ⟨#[]⟩), 1, 16) := by kernel_rfl
theorem info_partsS {P : Program} {t : TypeId} {z : Value} {a b : Nat} (h : (P.info? t).map (fun i => (i.zero, i.size, i.bytes)) = some (some z, a, b)) : ∃ i, P.info? t = some i ∧ i.zero = some z ∧ i.size = a ∧ i.bytes = b := by
  cases hi : P.info? t with
  | none => rw [hi] at h; cases h
  | some i => rw [hi] at h; simp at h; exact ⟨i, rfl, h.1, h.2.1, h.2.2⟩
theorem new_str (W : World) (xs : List Value) : ∀ j u, xs[j]? = some u → (W.alloc (.cells xs.toArray 9)).cell? ((⟨W.heap.size, 0, none⟩ : Addr).add j) = some u := fun j u hj => by
  rw [show (⟨W.heap.size, 0, none⟩ : Addr).add j = ⟨W.heap.size, j, none⟩ from by unfold Addr.add; split <;> simp_all, block_cell (heap_alloc_new W _) j]
  simpa using hj
theorem ownsS_later {base : Nat} {e : TypeId} {size : Nat} {A B : World} {v : Value} {n : Nat} {xs : List Value} (h : A.ownsRow base e size v n xs) (c : Later A B) : B.ownsRow base e size v n xs := by
  obtain ⟨h1, h2 | ⟨g, cap, cur, hv, hg, hh, r⟩⟩ := h
  · exact ⟨h1, .inl h2⟩
  · exact ⟨h1, .inr ⟨g, cap, cur, hv, hg, later_keep c hh, r⟩⟩
theorem ownsS_succ {w : World} {base : Nat} {e : TypeId} {size : Nat} {v : Value} {n : Nat} {xs : List Value} (h : w.ownsRow base e size v (n + 1) xs) : ∃ g cp, v = .slice (some ⟨g, 0, none⟩) (n + 1) cp := by
  obtain ⟨_, ⟨_, h⟩ | ⟨g, cap, cur, hv, _⟩⟩ := h
  · omega
  · exact ⟨g, cap, hv⟩
/-- Strings as cells. -/
def strs (l : List ByteArray) : List Value := l.map Value.string
theorem strs_snoc (l : List ByteArray) (x : ByteArray) : strs (l ++ [x]) = strs l ++ [.string x] := by unfold strs; simp

theorem wpList_appS {ops : Array Oper} {rest : List Oper} {o : Oper} {a : Act} {Q : Exit → Act → World → Prop} {W : World} (hgd : o.guard = none) (s y : Operand)
    (ho : o.op = .call { callee := .builtin .append, args := #[s, y], argTypes := #[67, 67] }) (base : Nat) (v : Value) (M : List ByteArray) (x : ByteArray)
    (hs : a.eval s = v) (hy : a.eval y = .slice (some ⟨W.heap.size, 0, none⟩) 1 1) (hown : W.ownsRow base 9 1 v M.length (strs M)) (hb : base ≤ W.heap.size) (hM : M.length ≤ 100000)
    (h : ∀ g cp W2, W2.ownsRow base 9 1 (.slice (some ⟨g, 0, none⟩) (M.length + 1) cp) (M ++ [x]).length (strs (M ++ [x])) → Below base W W2 → wpList Tryz.prog ops Q rest (a.put o.dst (.slice (some ⟨g, 0, none⟩) (M.length + 1) cp)) W2) :
    wpList Tryz.prog ops Q (o :: rest) a (W.alloc (.cells #[.string x] 9)) := by
  obtain ⟨i0, hi0, hz0, hz1, hz2⟩ := info_partsS info_str
  have la : Later W (W.alloc (.cells #[.string x] 9)) := (Below.refl _ _).alloc (Nat.le_refl _) _
  have hownA := ownsS_later hown la
  refine wpList_append_own _ hgd s y 67 ho base 9 i0 (.string ⟨#[]⟩) 1 16 Tryz.underlying67 hi0 hz0 hz1 hz2 rfl (by decide) v M.length (strs M) hs hownA ⟨W.heap.size, 0, none⟩ 1 1 [.string x] hy rfl (new_str W [.string x]) (by intro u hu; simp at hu; subst hu; rfl) (by unfold maxLen; omega) (by omega) (by have := la.size; omega) ?_
  intro v2 W2 hrow hg _
  obtain ⟨g2, cp2, rfl⟩ := ownsS_succ hrow
  refine h g2 cp2 W2 ?_ ?_
  · rw [strs_snoc, List.length_append, List.length_singleton]
    exact hrow
  · refine (la.mono hb).trans ⟨hg.os, hg.tape, hg.output, hg.size, fun i hi => hg.block i (by have := la.size; omega) (fun e => ?_)⟩
    have := (hown.lt i e.symm).1
    omega

/-- Numbers written with a mark between them. -/
def rowB (mk : ByteArray) (zs : List Int) : ByteArray := ⟨(Lib.join ((zs.map fun z => decB z.toNat).map (·.data.toList)) mk.data.toList).toArray⟩

theorem join_any (bk c : Nat) (xs : List ByteArray) (sep : ByteArray) (w : World) (hc : w.ownsRow 0 9 1 (.slice (some ⟨bk, 0, none⟩) xs.length c) xs.length (strs xs)) (hlen : (Lib.join (xs.map (·.data.toList)) sep.data.toList).length ≤ 140737488355328) (hN : xs.length ≤ 100000) :
    Calls Tryz.prog 52 #[.slice (some ⟨bk, 0, none⟩) xs.length c, .string sep] w fun e w' => e = .returned (.string ⟨(Lib.join (xs.map (·.data.toList)) sep.data.toList).toArray⟩) ∧ Later w w' := by
  obtain ⟨_, ⟨e, _⟩ | ⟨g, cap, cur, e, _, hh, h1, h2, h3, h4⟩⟩ := hc
  · cases e
  cases e
  refine Any.strings_Join joinL joinX bk 0 c xs sep w (fun j x hj => ?_) (Array.getElem?_eq_some_iff.1 hh).1 (by omega) h1 hlen
  have hj' : j < xs.length := (List.getElem?_eq_some_iff.1 hj).1
  rw [Nat.zero_add, block_cell hh, ← Array.getElem?_toList]
  have h5 := congrArg (·[j]?) h4
  simp only [Nat.mul_one] at h5
  rw [List.getElem?_take, if_pos hj'] at h5
  rw [h5]
  unfold strs
  rw [List.getElem?_map, hj]
  rfl

set_option maxHeartbeats 4000000 in
theorem wrow_any (mk : ByteArray) (sv : Value) (zs : List Int) (w : World) (hT : TabI w) (hB : Mt.By zs) (hI : Rd w.heap.size w sv zs) (hn : zs.length ≤ 100) (hne : zs ≠ []) (hlen : (rowB mk zs).size ≤ 1000000) :
    Calls Tryz.prog 40 #[.string mk, sv] w fun e w' => e = .returned (.string (rowB mk zs)) ∧ Below w.heap.size w w' := by
  obtain ⟨av, cv, rfl, hlv, hmv⟩ := hI.slice
  have HT := hide hT
  have HI := hide hI
  have HB := hide hB
  have HNE := hide hne
  have HLE := hide hlen
  clear hT hI hB hne hlen
  have hzl : (zs.length : Int) ≤ 100 := by omega
  go_enter Tryz.func40, Tryz.ntmps40
  go_wp2_with fail
  go_loopw [5, 10] (fun v5 v10 wr => ∃ k : Nat, k ≤ zs.length ∧ v10 = .int .i64 (k : Int) ∧ wr.ownsRow w.heap.size 9 1 v5 ((zs.take k).map fun z => decB z.toNat).length (strs ((zs.take k).map fun z => decB z.toNat)) ∧ Later w wr) (fun _ v10 _ => zs.length - (intOf v10).toNat)
  case atStart => exact ⟨0, by omega, rfl, ⟨rfl, .inl ⟨rfl, rfl⟩⟩, Later.refl _⟩
  case round =>
    obtain ⟨k, hk, rfl, hown, l1⟩ := hrel
    have HO := hide hown
    clear hown
    by_cases hlt : k < zs.length
    · have hlt' : (k : Int) < zs.length := by omega
      obtain ⟨bb, off, cp, he, hl5, hl6, hl7, hcell⟩ := (HI.out.later l1).cells (by omega)
      obtain ⟨rfl, rfl⟩ : av = some ⟨bb, off, none⟩ ∧ cv = cp := by injection he with h1 h2 h3; exact ⟨h1, h3⟩
      clear he
      have hck := hcell k hlt
      have hzb := Mt.By.at HB.out k
      have HS : Hid ((zs.take (k + 1)).map (fun z => decB z.toNat) = (zs.take k).map (fun z => decB z.toNat) ++ [decB (zs[k]?.getD 0).toNat]) := by
        show _ = _
        rw [List.take_succ_eq_append_getElem hlt, List.map_append, List.getElem?_eq_getElem hlt]
        rfl
      clear hcell
      generalize hM : (zs.take k).map (fun z => decB z.toNat) = M at HO HS
      have HML : Hid (M.length = k) := by show _ = _; rw [← hM, List.length_map, List.length_take]; omega
      clear hM
      obtain ⟨n, hn'⟩ : ∃ n : Nat, zs[k]?.getD 0 = (n : Int) := ⟨(zs[k]?.getD 0).toNat, by omega⟩
      rw [hn'] at hck hzb HS
      rw [Int.toNat_natCast] at HS
      have HIT := hide (itoa_any n wr (HT.out.later l1) (by omega))
      generalize decB n = x at *
      clear hn'
      go_wp2_with fail
      refine HIT.out.mono ?_
      rintro e w2 ⟨rfl, b2⟩
      have HO2 := hide (ownsS_later HO.out b2)
      have l2 : Later w w2 := l1.trans b2
      have hws : w.heap.size ≤ w2.heap.size := l2.size
      have hM1 : M.length ≤ 100000 := by rw [HML.out]; omega
      go_wp2_with (at_builtin; refine wpList_appS rfl (.tmp 14) (.tmp 18) rfl w.heap.size _ M x rfl rfl HO2.out hws hM1 ?_; intro g cp w3 hown3 b3; refine Hid.out ?_)
      have HO3 := hide hown3
      clear hown3
      have l3 : Later w w3 := Below.trans l2 b3
      show wpList _ _ _ _ _ _
      go_wp2_with fail
      go_roundw
      case rel => exact ⟨k + 1, hlt, by go_num, by rw [HS.out]; exact HO3.out, l3⟩
      case measure => simp [intOf]; omega
    · obtain rfl : k = zs.length := by omega
      rw [List.take_length] at HO
      have hgb : ∃ g cp, u5 = .slice (some ⟨g, 0, none⟩) (zs.map fun z => decB z.toNat).length cp := by
        have hl : (zs.map fun z => decB z.toNat).length = zs.length - 1 + 1 := by
          rw [List.length_map]
          have : zs.length ≠ 0 := fun h => HNE.out (List.length_eq_zero_iff.1 h)
          omega
        have := HO.out
        rw [hl] at this ⊢
        exact ownsS_succ this
      obtain ⟨g, cp, rfl⟩ := hgb
      have h0 : wr.ownsRow 0 9 1 (.slice (some ⟨g, 0, none⟩) (zs.map fun z => decB z.toNat).length cp) (zs.map fun z => decB z.toNat).length (strs (zs.map fun z => decB z.toNat)) := by
        obtain ⟨h1, h2 | ⟨g, cap, cur, hv, hg, hh, r⟩⟩ := HO.out
        · exact ⟨h1, .inl h2⟩
        · exact ⟨h1, .inr ⟨g, cap, cur, hv, Nat.zero_le _, hh, r⟩⟩
      have HJ := hide (join_any g cp (zs.map fun z => decB z.toNat) mk wr h0 (by have := HLE.out; unfold rowB at this; have e : ∀ l : List UInt8, (⟨l.toArray⟩ : ByteArray).size = l.length := fun _ => rfl; rw [e] at this; omega) (by rw [List.length_map]; omega))
      have HRW : Hid ((⟨(Lib.join ((zs.map fun z => decB z.toNat).map (·.data.toList)) mk.data.toList).toArray⟩ : ByteArray) = rowB mk zs) := rfl
      rw [HRW.out] at HJ
      generalize hrb : rowB mk zs = rb at *
      have ERB := hide hrb
      clear hrb
      generalize (zs.map fun z => decB z.toNat) = xs at *
      clear h0 HO HRW
      go_wp2_with fail
      refine HJ.out.mono ?_
      rintro e w4 ⟨rfl, b4⟩
      go_wp2_with fail
      go_ret
      exact ⟨by rw [ERB.out]; rfl, l1.trans b4⟩

theorem join_two (l m : List UInt8) (r : List (List UInt8)) (sep : List UInt8) : Lib.join (l :: m :: r) sep = l ++ (sep ++ Lib.join (m :: r) sep) := by simp [Lib.join, List.intercalate, List.intersperse]
theorem join_le (sep : List UInt8) (k : Nat) : ∀ ls : List (List UInt8), (∀ l ∈ ls, l.length ≤ k) → (Lib.join ls sep).length ≤ ls.length * (k + sep.length)
  | [], _ => by simp [Lib.join]
  | [l], h => by have := h l (by simp); simp [Lib.join]; omega
  | l :: m :: r, h => by
    have h1 := h l (by simp)
    have h2 := join_le sep k (m :: r) (fun x hx => h x (by simp [hx]))
    rw [join_two, List.length_append, List.length_append, List.length_cons, Nat.succ_mul]
    omega
theorem rowB_size (mk : ByteArray) (zs : List Int) (h : Mt.By zs) : (rowB mk zs).size ≤ zs.length * (5 + mk.size) := by
  have := join_le mk.data.toList 5 ((zs.map fun z => decB z.toNat).map (·.data.toList)) (fun l hl => by
    simp only [List.mem_map] at hl
    obtain ⟨x, ⟨z, hz, rfl⟩, rfl⟩ := hl
    have h2 := h z hz
    have h3 := decB_size z.toNat (by omega)
    rw [Array.length_toList]
    exact h3)
  rw [List.length_map, List.length_map, Array.length_toList] at this
  exact this
/-- An address's four numbers; a port's two. -/
def ad4 (a : Int) : List Int := [a / 16777216, a / 65536 % 256, a / 256 % 256, a % 256]
theorem ad4_by (a : Int) (h : 0 ≤ a ∧ a ≤ 4294967295) : Mt.By (ad4 a) := fun z hz => by
  simp [ad4] at hz
  omega
set_option maxHeartbeats 4000000 in
theorem address_any (a : Int) (h : 0 ≤ a ∧ a ≤ 4294967295) (w : World) (hT : TabI w) :
    Calls Tryz.prog 23 #[.int .u32 a] w fun e w' => e = .returned (.string (rowB tDot (ad4 a))) ∧ Below w.heap.size w w' := by
  have la : Later w (w.alloc (.cells ((ad4 a).map (Value.int .u8)).toArray 5)) := later_allocR _ _
  have HR := hide (wrow_any tDot _ (ad4 a) _ (hT.later la) (ad4_by a h) (rd_mark (ad4 a) 5 (0, 0) w (by simp [ad4]) (by simp [ad4])) (by simp [ad4]) (by simp [ad4]) (Nat.le_trans (rowB_size tDot (ad4 a) (ad4_by a h)) (by simp [ad4, tDot, ByteArray.size])))
  generalize hrb : rowB tDot (ad4 a) = rb at HR
  have ERB := hide hrb
  clear hT hrb
  unfold tDot at HR
  go_enter Tryz.func23, Tryz.ntmps23
  go_wp2_with fail
  refine HR.out.mono ?_
  rintro e w1 ⟨rfl, b1⟩
  have l1 : Later w w1 := la.trans b1
  go_wp2_with fail
  go_ret
  exact ⟨rfl, l1⟩

end Go.Proofs.YtibjgaelaijgpaaGreatDoor
