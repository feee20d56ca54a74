/- Several texts in one. -/
import Derived.Deep.DeepCutAuto
import Derived.Deep.CutBlock
import Derived.Test.YtohflohdbkamnaaGreatDoorX9
import Derived.Deep.AppendLies
import Derived.Deep.MidRow
import Derived.Test.YtohflohdbkamnaaGreatDoorX10
/- Package table: find, Get, turn, mayBe, Len. -/
namespace Go.Proofs.YtohflohdbkamnaaGreatDoor
open Go.RowKit Go.Shelf
set_option maxRecDepth 100000
set_option linter.unusedVariables false
set_option linter.unusedSimpArgs false

/-- A tuple's list. -/
def bki (p s d a b : Int) : Nat := (hsh (tb p s d (kyp p a) b) % 256).toNat
theorem hstep_bd (h x : Int) : 0 ≤ hstep h x ∧ hstep h x ≤ 4294967295 := by unfold hstep; omega
theorem hsh_bd (x : Int) (zs : List Int) : 0 ≤ hsh (zs ++ [x]) ∧ hsh (zs ++ [x]) ≤ 4294967295 := by
  unfold hsh
  rw [List.foldl_append]
  exact hstep_bd _ _
theorem hsh_tb (p s d a b : Int) : 0 ≤ hsh (tb p s d a b) ∧ hsh (tb p s d a b) ≤ 4294967295 := hsh_bd (b % 256) [p, s / 16777216, s / 65536 % 256, s / 256 % 256, s % 256, d / 16777216, d / 65536 % 256, d / 256 % 256, d % 256, a / 256, a % 256, b / 256]
theorem bki_lt (p s d a b : Int) : bki p s d a b < 256 := by have := hsh_tb p s d (kyp p a) b; unfold bki; omega
/-- Where a tuple's row stands in its list. -/
def kx (p s d a b : Int) (ls : Nat → List Rw) : Option Nat := kix p s d (kyp p a) b (ls (bki p s d a b))

set_option maxHeartbeats 4000000 in
theorem tfind_any (base bt : Nat) (lim cnt trn : Int) (vs : List Value) (ls : Nat → List Rw) (p s d a b : Int) (w : World) (hT : TBv base w bt lim cnt trn vs ls) (hs : 0 ≤ s ∧ s ≤ 4294967295) (hd : 0 ≤ d ∧ d ≤ 4294967295) (ha : 0 ≤ a ∧ a ≤ 65535) (hb : 0 ≤ b ∧ b ≤ 65535) :
    Calls Tryz.prog 92 #[.pointer (some ⟨bt, 0, none⟩), .agg #[.int .u8 p, .int .u32 s, .int .u32 d, .int .u16 a, .int .u16 b]] w fun e w' => Below w.heap.size w w' ∧
      ((kx p s d a b ls = none ∧ e = .returned (.pointer none)) ∨ ∃ k g2 cap, kx p s d a b ls = some k ∧ k < (ls (bki p s d a b)).length ∧ vs[bki p s d a b]?.getD undef = .slice (some ⟨g2, 0, none⟩) (ls (bki p s d a b)).length cap ∧ e = .returned (.pointer (some ⟨g2, k * 8, none⟩))) := by
  have hb0 : Below w.heap.size w (w.alloc (.cells #[.int .u8 p, .int .u32 s, .int .u32 d, .int .u16 a, .int .u16 b] 69)) := (Below.refl _ _).alloc (Nat.le_refl _) _
  have t0 := heap_alloc_new w (.cells #[.int .u8 p, .int .u32 s, .int .u32 d, .int .u16 a, .int .u16 b] 69)
  have hhb := hsh_tb p s d (kyp p a) b
  go_enter Tryz.func92, Tryz.ntmps92
  go_upto_region 1 with fail
  generalize w.alloc (.cells #[.int .u8 p, .int .u32 s, .int .u32 d, .int .u16 a, .int .u16 b] 69) = w0 at *
  go_cut [4] (fun v wx => Later w0 wx ∧ ((kx p s d a b ls = none ∧ v = .pointer none) ∨ ∃ k g2 cap, kx p s d a b ls = some k ∧ k < (ls (bki p s d a b)).length ∧ vs[bki p s d a b]?.getD undef = .slice (some ⟨g2, 0, none⟩) (ls (bki p s d a b)).length cap ∧ v = .pointer (some ⟨g2, k * 8, none⟩)))
  case first =>
    refine anyR_begin (R := Later) Later.pre Later.drew 9 rfl (by kernel_rfl) (fun V1 hV1 => ?_)
    have q0 : ∀ v1, Later V1 v1 → ∀ i, v1.cell? ⟨w.heap.size, i, none⟩ = #[Value.int .u8 p, .int .u32 s, .int .u32 d, .int .u16 a, .int .u16 b][i]? := fun v1 h => block_cell (later_keep (hV1.trans h) t0)
    refine anyR_val Later.pre 0 rfl (by kernel_rfl) (by kernel_rfl) (by kernel_rfl) (fun _ _ _ _ h => h) rfl ?_; apply Exists.intro; refine ⟨fun w1 hw1 => ?_, ?_⟩; (· (go_simp; rfl)); simp only [Act.put, List.setIfInBounds_toArray, List.set_cons_zero, List.set_cons_succ]
    refine anyR_val Later.pre 1 rfl (by kernel_rfl) (by kernel_rfl) (by kernel_rfl) (fun _ _ _ _ h => h) rfl ?_; apply Exists.intro; refine ⟨fun w1 hw1 => ?_, ?_⟩; (· (go_simp; rfl)); simp only [Act.put, List.setIfInBounds_toArray, List.set_cons_zero, List.set_cons_succ]
    refine anyR_val Later.pre 2 rfl (by kernel_rfl) (by kernel_rfl) (by kernel_rfl) (fun _ _ _ _ h => h) rfl ?_; apply Exists.intro; refine ⟨fun w1 hw1 => ?_, ?_⟩; (· (go_simp; rfl)); simp only [Act.put, List.setIfInBounds_toArray, List.set_cons_zero, List.set_cons_succ]
    refine anyR_val Later.pre 3 rfl (by kernel_rfl) (by kernel_rfl) (by kernel_rfl) (fun _ _ _ _ h => h) rfl ?_; apply Exists.intro; refine ⟨fun w1 hw1 => ?_, ?_⟩; (· (go_simp; rfl)); simp only [Act.put, List.setIfInBounds_toArray, List.set_cons_zero, List.set_cons_succ]
    refine anyR_val Later.pre 5 rfl (by kernel_rfl) (by kernel_rfl) (by kernel_rfl) (fun _ _ _ _ h => h) rfl ?_; apply Exists.intro; refine ⟨fun w1 hw1 => ?_, ?_⟩; (· (go_simp; rfl)); simp only [Act.put, List.setIfInBounds_toArray, List.set_cons_zero, List.set_cons_succ]
    clear q0
    refine anyR_take Later.pre 4 (.int .u32 (hsh (tb p s d (kyp p a) b))) rfl (by kernel_rfl) (by kernel_rfl) (by kernel_rfl) (fun _ _ _ h => h) rfl (fun w1 hw1 => goes_call 94 #[.agg #[.int .u8 p, .int .u32 s, .int .u32 d, .int .u16 a, .int .u16 b]] (by go_simp) ((hash_any p s d a b w1 hs hd ha hb).mono fun e w2 h => h)) ?_
    simp only [Act.put, List.setIfInBounds_toArray, List.set_cons_zero, List.set_cons_succ]
    refine anyR_one 6 rfl (by kernel_rfl) rfl (fun V2 hV2 => ?_)
    refine wp_enter 95 #[.agg #[.int .u8 p, .int .u32 s, .int .u32 d, .int .u16 a, .int .u16 b]] (by go_simp) ?_
    refine (of_key p s d a b V2).mono ?_
    rintro e V3 ⟨g, rfl, hb3, hgz, hg3⟩
    have l3 : Later V2 V3 := hb3
    refine ⟨l3, ?_⟩
    simp only [Act.put, List.setIfInBounds_toArray, List.set_cons_zero, List.set_cons_succ]
    refine anyR_one 7 rfl (by kernel_rfl) rfl (fun V4 hV4 => ?_)
    refine wp_enter 151 #[.pointer (some ⟨bt, 3, none⟩), .int .u32 (hsh (tb p s d (kyp p a) b)), .func (.func 155) #[] #[.pointer (some ⟨g, 0, none⟩)]] (by go_simp) ?_
    have lw : Later w w0 := hb0
    have l4 := (hV1.trans hV2).trans (l3.trans hV4)
    refine (bfind_any base bt g lim cnt trn vs ls (hsh (tb p s d (kyp p a) b)) p s d (kyp p a) b V4 (hT.later (lw.trans l4)) hhb (later_keep hV4 hg3)).mono ?_
    rw [show (hsh (tb p s d (kyp p a) b) % 256).toNat = bki p s d a b from rfl]
    rintro e V5 ⟨hb5, hres⟩
    have l5 : Later V4 V5 := hb5
    rcases hres with ⟨hk, rfl⟩ | ⟨k, g2, cap, hk, hkl, hv, rfl⟩
    · refine ⟨l5, ?_⟩
      simp only [Act.put, List.setIfInBounds_toArray, List.set_cons_zero, List.set_cons_succ]
      refine anyR_val Later.pre 8 rfl (by kernel_rfl) (by kernel_rfl) (by kernel_rfl) (fun _ _ _ _ h => h) rfl ?_; apply Exists.intro; refine ⟨fun w1 hw1 => ?_, ?_⟩; (· (go_simp; rfl)); simp only [Act.put, List.setIfInBounds_toArray, List.set_cons_zero, List.set_cons_succ]
      refine anyR_done (by kernel_rfl) (fun V6 hV6 => ?_)
      have hl6 := l4.trans (l5.trans hV6)
      have HK : Hid (kx p s d a b ls = none) := hk
      clear hk
      go_wp2_with fail
      go_meet
      exact ⟨hl6, .inl ⟨HK.out, rfl⟩⟩
    · refine ⟨l5, ?_⟩
      simp only [Act.put, List.setIfInBounds_toArray, List.set_cons_zero, List.set_cons_succ]
      refine anyR_val Later.pre 8 rfl (by kernel_rfl) (by kernel_rfl) (by kernel_rfl) (fun _ _ _ _ h => h) rfl ?_; apply Exists.intro; refine ⟨fun w1 hw1 => ?_, ?_⟩; (· (go_simp; rfl)); simp only [Act.put, List.setIfInBounds_toArray, List.set_cons_zero, List.set_cons_succ]
      refine anyR_done (by kernel_rfl) (fun V6 hV6 => ?_)
      have hl6 := l4.trans (l5.trans hV6)
      have HK : Hid (kx p s d a b ls = some k) := hk
      have HV := hide hv
      clear hk hv
      go_wp2_with fail
      go_meet
      exact ⟨hl6, .inr ⟨k, g2, cap, HK.out, hkl, HV.out, rfl⟩⟩
  case rest =>
    obtain ⟨lc, hres⟩ := hcut
    have hwc := hb0.trans (lc.mono hb0.size)
    rcases hres with ⟨hk, rfl⟩ | ⟨k, g2, cap, hk, hkl, hv, rfl⟩
    · have HK := hide hk
      clear hk
      go_wp2_with fail
      go_ret
      exact ⟨hwc, .inl ⟨HK.out, rfl⟩⟩
    · have HK := hide hk
      have HV := hide hv
      clear hk hv
      go_wp2_with fail
      go_ret
      exact ⟨hwc, .inr ⟨k, g2, cap, HK.out, hkl, HV.out, rfl⟩⟩

/-- A row's cells where they lie. -/
theorem TBv.row {base : Nat} {W : World} {b : Nat} {lim cnt trn : Int} {vs : List Value} {ls : Nat → List Rw} (h : TBv base W b lim cnt trn vs ls) (i : Nat) (hi : i < 256) {g cap k : Nat} (hv : vs[i]?.getD undef = .slice (some ⟨g, 0, none⟩) (ls i).length cap) (hk : k < (ls i).length) : ∀ j, j < 8 → W.cell? ⟨g, k * 8 + j, none⟩ = (rwc (ls i)[k])[j]? := by
  have hO := ownR_rd (h.2.2.2.1 i hi)
  rw [hv] at hO
  obtain ⟨b', off, cp, e, _, _, _, hc⟩ := hO.cells (by omega)
  simp at e
  obtain ⟨⟨rfl, rfl⟩, rfl⟩ := e
  intro j hj
  have := hc k hk j hj
  rwa [Nat.zero_add] at this

def gtv (p s d a b : Int) (ls : Nat → List Rw) : Value := match kx p s d a b ls with | none => .tuple #[.int .i64 0, .int .i64 0, .bool false] | some k => match (ls (bki p s d a b))[k]? with | some r => .tuple #[.int .i64 r.id, .int .i64 r.till, .bool true] | none => undef

set_option maxHeartbeats 4000000 in
theorem get_any (base bt : Nat) (lim cnt trn : Int) (ls : Nat → List Rw) (p s d a b : Int) (w : World) (hT : TB base w bt lim cnt trn ls) (hs : 0 ≤ s ∧ s ≤ 4294967295) (hd : 0 ≤ d ∧ d ≤ 4294967295) (ha : 0 ≤ a ∧ a ≤ 65535) (hb : 0 ≤ b ∧ b ≤ 65535) :
    Calls Tryz.prog 51 #[.pointer (some ⟨bt, 0, none⟩), .agg #[.int .u8 p, .int .u32 s, .int .u32 d, .int .u16 a, .int .u16 b]] w fun e w' => Below w.heap.size w w' ∧ e = .returned (gtv p s d a b ls) := by
  obtain ⟨vs, hT⟩ := hT
  have hb0 : Below w.heap.size w (w.alloc (.cells #[.int .u8 p, .int .u32 s, .int .u32 d, .int .u16 a, .int .u16 b] 69)) := (Below.refl _ _).alloc (Nat.le_refl _) _
  go_enter Tryz.func51, Tryz.ntmps51
  go_wp2_with fail
  generalize w.alloc (.cells #[.int .u8 p, .int .u32 s, .int .u32 d, .int .u16 a, .int .u16 b] 69) = w0 at *
  have lw : Later w w0 := hb0
  refine (tfind_any base bt lim cnt trn vs ls p s d a b w0 (hT.later lw) hs hd ha hb).mono ?_
  rintro e w1 ⟨hb1, ⟨hk, rfl⟩ | ⟨k, g2, cap, hk, hkl, hv, rfl⟩⟩
  · have l1 : Later w0 w1 := hb1
    have hw1 := hb0.trans (hb1.mono hb0.size)
    have HG : Hid (gtv p s d a b ls = .tuple #[.int .i64 0, .int .i64 0, .bool false]) := by show _ = _; unfold gtv; rw [hk]
    clear hk
    go_wp2_with fail
    exact bodyPost_ret (v := .tuple #[.int .i64 0, .int .i64 0, .bool false]) (by simp [results, Tryz.results51, go_sem]) rfl ⟨hw1, by rw [HG.out]⟩
  · have l1 : Later w0 w1 := hb1
    have hw1 := hb0.trans (hb1.mono hb0.size)
    have hT1 := hT.later (lw.trans l1)
    have hrow := hT1.row _ (bki_lt p s d a b) hv hkl
    have c5 := hrow 5 (by omega)
    have c6 := hrow 6 (by omega)
    have HG : Hid (gtv p s d a b ls = .tuple #[.int .i64 (ls (bki p s d a b))[k].id, .int .i64 (ls (bki p s d a b))[k].till, .bool true]) := by show _ = _; unfold gtv; rw [hk]; simp [hkl]
    clear hk hrow hv
    generalize (ls (bki p s d a b))[k] = r at *
    simp only [rwc, List.getElem?_cons_zero, List.getElem?_cons_succ] at c5 c6
    go_upto_region 6 with fail
    refine anyR_begin (R := Later) Later.pre Later.drew 11 rfl (by kernel_rfl) (fun V1 hV1 => ?_)
    have q5 : ∀ v1, Later V1 v1 → v1.cell? ⟨g2, k * 8 + 5, none⟩ = some (.int .i64 r.id) := fun v1 h => (hV1.trans h).cell c5
    have q6 : ∀ v1, Later V1 v1 → v1.cell? ⟨g2, k * 8 + 6, none⟩ = some (.int .i64 r.till) := fun v1 h => (hV1.trans h).cell c6
    clear c5 c6
    refine anyR_val Later.pre 0 rfl (by kernel_rfl) (by kernel_rfl) (by kernel_rfl) (fun _ _ _ _ h => h) rfl ?_; apply Exists.intro; refine ⟨fun w1 hw1 => ?_, ?_⟩; (· (go_simp; rfl)); simp only [Act.put, List.setIfInBounds_toArray, List.set_cons_zero, List.set_cons_succ]
    refine anyR_val Later.pre 1 rfl (by kernel_rfl) (by kernel_rfl) (by kernel_rfl) (fun _ _ _ _ h => h) rfl ?_; apply Exists.intro; refine ⟨fun w1 hw1 => ?_, ?_⟩; (· (go_simp; rfl)); simp only [Act.put, List.setIfInBounds_toArray, List.set_cons_zero, List.set_cons_succ]
    refine anyR_val Later.pre 2 rfl (by kernel_rfl) (by kernel_rfl) (by kernel_rfl) (fun _ _ _ _ h => h) rfl ?_; apply Exists.intro; refine ⟨fun w1 hw1 => ?_, ?_⟩; (· (go_simp; rfl)); simp only [Act.put, List.setIfInBounds_toArray, List.set_cons_zero, List.set_cons_succ]
    refine anyR_val Later.pre 3 rfl (by kernel_rfl) (by kernel_rfl) (by kernel_rfl) (fun _ _ _ _ h => h) rfl ?_; apply Exists.intro; refine ⟨fun w1 hw1 => ?_, ?_⟩; (· (go_simp; rfl)); simp only [Act.put, List.setIfInBounds_toArray, List.set_cons_zero, List.set_cons_succ]
    refine anyR_val Later.pre 4 rfl (by kernel_rfl) (by kernel_rfl) (by kernel_rfl) (fun _ _ _ _ h => h) rfl ?_; apply Exists.intro; refine ⟨fun w1 hw1 => ?_, ?_⟩; (· (go_simp; rfl)); simp only [Act.put, List.setIfInBounds_toArray, List.set_cons_zero, List.set_cons_succ]
    refine anyR_val Later.pre 5 rfl (by kernel_rfl) (by kernel_rfl) (by kernel_rfl) (fun _ _ _ _ h => h) rfl ?_; apply Exists.intro; refine ⟨fun w1 hw1 => ?_, ?_⟩; (· (go_simp; rfl)); simp only [Act.put, List.setIfInBounds_toArray, List.set_cons_zero, List.set_cons_succ]
    refine anyR_val Later.pre 6 rfl (by kernel_rfl) (by kernel_rfl) (by kernel_rfl) (fun _ _ _ _ h => h) rfl ?_; apply Exists.intro; refine ⟨fun w1 hw1 => ?_, ?_⟩; (· (go_simp; rfl)); simp only [Act.put, List.setIfInBounds_toArray, List.set_cons_zero, List.set_cons_succ]
    refine anyR_val Later.pre 7 rfl (by kernel_rfl) (by kernel_rfl) (by kernel_rfl) (fun _ _ _ _ h => h) rfl ?_; apply Exists.intro; refine ⟨fun w1 hw1 => ?_, ?_⟩; (· (go_simp; rfl)); simp only [Act.put, List.setIfInBounds_toArray, List.set_cons_zero, List.set_cons_succ]
    refine anyR_val Later.pre 8 rfl (by kernel_rfl) (by kernel_rfl) (by kernel_rfl) (fun _ _ _ _ h => h) rfl ?_; apply Exists.intro; refine ⟨fun w1 hw1 => ?_, ?_⟩; (· (go_simp; rfl)); simp only [Act.put, List.setIfInBounds_toArray, List.set_cons_zero, List.set_cons_succ]
    refine anyR_val Later.pre 9 rfl (by kernel_rfl) (by kernel_rfl) (by kernel_rfl) (fun _ _ _ _ h => h) rfl ?_; apply Exists.intro; refine ⟨fun w1 hw1 => ?_, ?_⟩; (· (go_simp; rfl)); simp only [Act.put, List.setIfInBounds_toArray, List.set_cons_zero, List.set_cons_succ]
    refine anyR_val Later.pre 10 rfl (by kernel_rfl) (by kernel_rfl) (by kernel_rfl) (fun _ _ _ _ h => h) rfl ?_; apply Exists.intro; refine ⟨fun w1 hw1 => ?_, ?_⟩; (· (go_simp; rfl)); simp only [Act.put, List.setIfInBounds_toArray, List.set_cons_zero, List.set_cons_succ]
    refine anyR_done (by kernel_rfl) (fun V2 hV2 => ?_)
    have hw2 := hw1.trans ((hV1.trans hV2).mono hw1.size)
    clear q5 q6
    go_wp2_with fail
    exact bodyPost_ret (v := .tuple #[.int .i64 r.id, .int .i64 r.till, .bool true]) (by simp [results, Tryz.results51, go_sem]) rfl ⟨hw2, by rw [HG.out]⟩

end Go.Proofs.YtohflohdbkamnaaGreatDoor

/- Package table: New; a row added. -/
namespace Go.Proofs.YtohflohdbkamnaaGreatDoor
open Go.RowKit Go.Shelf
set_option maxRecDepth 100000
set_option linter.unusedVariables false
set_option linter.unusedSimpArgs false

theorem zero_table : Tryz.zeroCells123 = (Value.int .i64 0 :: .int .i64 0 :: .int .i64 0 :: List.replicate 256 (.slice none 0 0)).toArray := by kernel_rfl

theorem info_row : (Tryz.prog.info? 126).map (fun i => (i.zero, i.size, i.bytes)) = some (some (.agg #[.int .u8 0, .int .u32 0, .int .u32 0, .int .u16 0, .int .u16 0, .int .i64 0, .int .i64 0, .int .i64 0]), 8, 40) := by kernel_rfl

set_option maxHeartbeats 4000000 in
theorem new_yes (n : Int) (w : World) (h1 : 1 ≤ n) (h2 : n ≤ 4096) : Calls Tryz.prog 40 #[.int .i64 n] w fun e w' => e = .returned (.pointer (some ⟨w.heap.size, 0, none⟩)) ∧ Below w.heap.size w w' ∧ TB w.heap.size w' w.heap.size n 0 0 (fun _ => []) := by
  have hb : Below w.heap.size w (w.alloc (.cells (Tryz.zeroCells123.setIfInBounds 0 (.int .i64 n)) 123)) := (Below.refl _ _).alloc (Nat.le_refl _) _
  have hT : TB w.heap.size (w.alloc (.cells (Tryz.zeroCells123.setIfInBounds 0 (.int .i64 n)) 123)) w.heap.size n 0 0 (fun _ => []) := by
    refine ⟨List.replicate 256 (.slice none 0 0), by simp, Nat.le_refl _, ?_, fun i hi => ?_, fun i j hi hj _ g hg => ?_⟩
    · rw [heap_alloc_new, zero_table]
      simp
    · have : (List.replicate 256 (Value.slice none 0 0))[i]?.getD undef = .slice none 0 0 := by rw [List.getElem?_replicate, if_pos hi]; rfl
      rw [this]
      exact World.ownsRow_nil _ _ _ _
    · have : (List.replicate 256 (Value.slice none 0 0))[i]?.getD undef = .slice none 0 0 := by rw [List.getElem?_replicate, if_pos hi]; rfl
      rw [this] at hg
      cases hg
  have HT := hide hT
  clear hT
  go_enter Tryz.func40, Tryz.ntmps40
  go_wp2_with fail
  go_ret
  exact ⟨rfl, hb, HT.out⟩

/-- One more row in list i. -/
def addL (ls : Nat → List Rw) (i : Nat) (r : Rw) : Nat → List Rw := fun j => if j = i then ls i ++ [r] else ls j
theorem TBv.added {base bt : Nat} {W W6 V : World} {lim cnt trn : Int} {vs : List Value} {ls : Nat → List Rw} (hT : TBv base W bt lim cnt trn vs ls) (i : Nat) (hi : i < 256) (r : Rw) {g' cap' : Nat}
    (hrow : W6.ownsRow base 126 8 (.slice (some ⟨g', 0, none⟩) ((ls i).length + 1) cap') ((ls i).length + 1) (rws (ls i) ++ rwc r)) (hg : W.grownBy W6 (vs[i]?.getD undef).ownBlock) (hpl : (vs[i]?.getD undef).ownBlock = some g' ∨ W.heap.size ≤ g')
    (hbV : But (fun g => g = bt) W6 V) (hV : V.heap[bt]? = some (.cells (.int .i64 lim :: .int .i64 cnt :: .int .i64 trn :: vs.set i (.slice (some ⟨g', 0, none⟩) ((ls i).length + 1) cap')).toArray 123 (0, 0))) :
    TBv base V bt lim cnt trn (vs.set i (.slice (some ⟨g', 0, none⟩) ((ls i).length + 1) cap')) (addL ls i r) := by
  obtain ⟨h1, h2, h3, h4, h5⟩ := hT
  have hb6 : W6.heap[bt]? = some (.cells (.int .i64 lim :: .int .i64 cnt :: .int .i64 trn :: vs).toArray 123 (0, 0)) := by
    refine (hg.block bt (Array.getElem?_eq_some_iff.1 h3).1 (fun e => ?_)).trans h3
    obtain ⟨_, ⟨hn, _⟩ | ⟨g, cap, cur, hv, _, hh, _⟩⟩ := h4 i hi
    · rw [hn] at e; cases e
    · rw [hv] at e
      cases e
      rw [h3] at hh
      simp at hh
  have keep : ∀ (g : Nat) (cur : Array Value), W6.heap[g]? = some (.cells cur 126 (0, 0)) → V.heap[g]? = some (.cells cur 126 (0, 0)) := fun g cur h =>
    (hbV.block g (Array.getElem?_eq_some_iff.1 h).1 (fun e => by subst e; rw [hb6] at h; simp at h)).trans h
  refine ⟨by simpa using h1, h2, hV, fun j hj => ?_, fun j k hj hk hjk g hg1 => ?_⟩
  · by_cases hji : j = i
    · subst hji
      rw [List.getElem?_set_self (by omega)]
      unfold addL
      rw [if_pos rfl, List.length_append, List.length_singleton, show rws (ls j ++ [r]) = rws (ls j) ++ rwc r from by simp [rws]]
      obtain ⟨q1, ⟨q2, q3⟩ | ⟨g, cap, cur, hv, hgb, hh, q⟩⟩ := hrow
      · simp at q2
      · exact ⟨q1, .inr ⟨g, cap, cur, hv, hgb, keep g cur hh, q⟩⟩
    · rw [List.getElem?_set_ne (fun e => hji e.symm)]
      unfold addL
      rw [if_neg hji]
      obtain ⟨q1, q2 | ⟨g, cap, cur, hv, hgb, hh, q⟩⟩ := h4 j hj
      · exact ⟨q1, .inl q2⟩
      · refine ⟨q1, .inr ⟨g, cap, cur, hv, hgb, keep g cur ((hg.block g (Array.getElem?_eq_some_iff.1 hh).1 (fun e => ?_)).trans hh), q⟩⟩
        have := h5 j i hj hi hji g (by rw [hv]; rfl)
        exact this e.symm
  · have old : ∀ j, j < 256 → ∀ g, (vs[j]?.getD undef).ownBlock = some g → g < W.heap.size := fun j hj g h => by
      obtain ⟨_, ⟨hn, _⟩ | ⟨g2, cap, cur, hv, _, hh, _⟩⟩ := h4 j hj
      · rw [hn] at h; cases h
      · rw [hv] at h
        cases h
        exact (Array.getElem?_eq_some_iff.1 hh).1
    by_cases hji : j = i
    · subst hji
      rw [List.getElem?_set_self (by omega)] at hg1
      cases hg1
      rw [List.getElem?_set_ne hjk]
      intro e
      rcases hpl with h | h
      · exact h5 j k hj hk hjk g' h e
      · have := old k hk g' e; omega
    · rw [List.getElem?_set_ne (fun e => hji e.symm)] at hg1
      by_cases hki : k = i
      · subst hki
        rw [List.getElem?_set_self (by omega)]
        intro e
        cases e
        rcases hpl with h | h
        · exact h5 j k hj hk hjk g' hg1 h
        · have := old j hj g' hg1; omega
      · rw [List.getElem?_set_ne (fun e => hki e.symm)]
        exact h5 j k hj hk hjk g hg1
end Go.Proofs.YtohflohdbkamnaaGreatDoor

/- Package table: a row added to its list. -/
namespace Go.Proofs.YtohflohdbkamnaaGreatDoor
open Go.RowKit Go.Shelf
set_option maxRecDepth 100000
set_option linter.unusedVariables false
set_option linter.unusedSimpArgs false

theorem new_row (W : World) (xs : List Value) : ∀ j u, xs[j]? = some u → (W.alloc (.cells xs.toArray 126)).cell? ((⟨W.heap.size, 0, none⟩ : Addr).add j) = some u := fun j u hj => by
  rw [show (⟨W.heap.size, 0, none⟩ : Addr).add j = ⟨W.heap.size, j, none⟩ from by unfold Addr.add; split <;> simp_all, block_cell (heap_alloc_new W _) j]
  simpa using hj

end Go.Proofs.YtohflohdbkamnaaGreatDoor

/- Package table: Put. -/
namespace Go.Proofs.YtohflohdbkamnaaGreatDoor
open Go.RowKit Go.Shelf
set_option maxRecDepth 100000
set_option linter.unusedVariables false
set_option linter.unusedSimpArgs false

theorem TBv.but {base bt : Nat} {W V : World} {lim cnt trn c2 : Int} {vs : List Value} {ls : Nat → List Rw} (hT : TBv base W bt lim cnt trn vs ls) (hb : But (fun g => g = bt) W V) (hV : V.heap[bt]? = some (.cells (.int .i64 lim :: .int .i64 c2 :: .int .i64 trn :: vs).toArray 123 (0, 0))) : TBv base V bt lim c2 trn vs ls := by
  refine ⟨hT.1, hT.2.1, hV, fun i hi => ?_, hT.2.2.2.2⟩
  obtain ⟨h1, h2 | ⟨g, cap, cur, hv, hg, hh2, r⟩⟩ := hT.2.2.2.1 i hi
  · exact ⟨h1, .inl h2⟩
  · have hne : g ≠ bt := fun e => by subst e; have := hT.2.2.1; rw [hh2] at this; simp at this
    exact ⟨h1, .inr ⟨g, cap, cur, hv, hg, (hb.block g (Array.getElem?_eq_some_iff.1 hh2).1 hne).trans hh2, r⟩⟩

end Go.Proofs.YtohflohdbkamnaaGreatDoor

/- Package table: inOrder, and what sorting asks for beside it: cmp.Compare, cmp.Or, bits.Len. -/
namespace Go.Proofs.YtohflohdbkamnaaGreatDoor
open Go.RowKit Go.Shelf
set_option maxRecDepth 100000
set_option linter.unusedVariables false
set_option linter.unusedSimpArgs false

end Go.Proofs.YtohflohdbkamnaaGreatDoor

/- Package table: inOrder; bits.Len of few. -/
namespace Go.Proofs.YtohflohdbkamnaaGreatDoor
open Go.RowKit Go.Shelf
set_option maxRecDepth 100000
set_option linter.unusedVariables false
set_option linter.unusedSimpArgs false

set_option maxHeartbeats 8000000 in
theorem len64_few (n : Nat) (w : World) (hn : n ≤ 12) : Calls Tryz.prog 149 #[.int .u64 (n : Int)] w fun e w' => (∃ v, e = .returned (.int .i64 v)) ∧ w' = w := by
  have hc : n = 0 ∨ n = 1 ∨ n = 2 ∨ n = 3 ∨ n = 4 ∨ n = 5 ∨ n = 6 ∨ n = 7 ∨ n = 8 ∨ n = 9 ∨ n = 10 ∨ n = 11 ∨ n = 12 := by omega
  clear hn
  rcases hc with rfl | rfl | rfl | rfl | rfl | rfl | rfl | rfl | rfl | rfl | rfl | rfl | rfl
  all_goals
    go_enter Tryz.func149, Tryz.ntmps149
    go_wp2_with fail
    go_ret
    exact ⟨⟨_, rfl⟩, rfl⟩

set_option maxHeartbeats 2000000 in
theorem len_few (n : Nat) (w : World) (hn : n ≤ 12) : Calls Tryz.prog 89 #[.int .u64 (n : Int)] w fun e w' => (∃ v, e = .returned (.int .i64 v)) ∧ w' = w := by
  go_enter Tryz.func89, Tryz.ntmps89
  go_wp2_with fail
  refine (len64_few n w hn).mono ?_
  rintro e w1 ⟨⟨v, rfl⟩, rfl⟩
  go_wp2_with fail
  go_ret
  exact ⟨⟨_, rfl⟩, rfl⟩

end Go.Proofs.YtohflohdbkamnaaGreatDoor

/- Package table: all the rows, one after the other. -/
namespace Go.Proofs.YtohflohdbkamnaaGreatDoor
open Go.RowKit Go.Shelf
set_option maxRecDepth 100000
attribute [local go_sem] Oper.semAt_some
set_option linter.unusedVariables false
set_option linter.unusedSimpArgs false

/-- All rows, list after list. -/
def allR (ls : Nat → List Rw) : List Rw := (List.range 256).flatMap ls
def partR (ls : Nat → List Rw) (i : Nat) : List Rw := (List.range i).flatMap ls
theorem partR_succ (ls : Nat → List Rw) (i : Nat) : partR ls (i + 1) = partR ls i ++ ls i := by
  unfold partR
  rw [List.range_succ, List.flatMap_append]
  simp
theorem allR_at (ls : Nat → List Rw) (i k : Nat) (hi : i < 256) (hk : k < (ls i).length) : ∃ rest, (partR ls i ++ (ls i).take k) ++ (ls i)[k] :: rest = allR ls := by
  obtain ⟨m, hm⟩ : ∃ m, 256 = i + 1 + m := ⟨255 - i, by omega⟩
  have e : allR ls = partR ls (i + 1) ++ ((List.range m).map (i + 1 + ·)).flatMap ls := by
    unfold allR partR
    rw [hm, List.range_add, List.flatMap_append]
  refine ⟨(ls i).drop (k + 1) ++ ((List.range m).map (i + 1 + ·)).flatMap ls, ?_⟩
  rw [e, partR_succ]
  have h2 : ls i = (ls i).take k ++ (ls i)[k] :: (ls i).drop (k + 1) := by
    rw [← List.drop_eq_getElem_cons hk, List.take_append_drop]
  rw [List.append_assoc, List.append_assoc]
  congr 1
  rw [← List.cons_append, ← List.append_assoc, ← h2]

def encR (r : Rw) : Array Value := #[.agg (rwc r).toArray]
def XR (ls : Nat → List Rw) (pre : List Rw) (x : Rw) (_V : World) : Prop := ∃ rest, pre ++ x :: rest = allR ls

theorem wpListIn_valD {F : Fence} {n : Nat} {P : Program} {ops : Array Oper} {rest : List Oper} {o : Oper} {a : Act} {Q : Exit → Act → World → Prop} {w : World} (k : Nat) (hd : o.dst = some k) (hg : o.guard = none) (v : Value) (ha : o.about P w a.eval = none) (h : (o.semAt F.round a.eval).run P w = .ok (.value v) w)
    (hk : wpListIn F n P ops Q rest (a.put o.dst v) w) : wpListIn F n P ops Q (o :: rest) a w := wpListIn_plain hg fun K hK => by unfold Oper.wpIn; rw [h]; exact ⟨fun f hf => (by rw [ha] at hf; cases hf), hK _ _ hk⟩

theorem idx_arr (vs : List Value) (i : Nat) (w : World) (hv : vs.length = 256) (hi : i < 256) : (Instr.index 119 (.agg vs.toArray) (.int .i64 (i : Int))).run Tryz.prog w = .ok (vs[i]?.getD undef) w := by
  have h1 : (i : Int) < 256 := by omega
  have h2 : i < vs.length := by omega
  simp [Instr.index, go_sem, h1, h2, hv, hi]

set_option maxRecDepth 100000 in
set_option maxHeartbeats 4000000 in
theorem all1_in (n : Nat) (hn : 1 ≤ n) (l B bt n₀ : Nat) (vs : List Value) (ls : Nat → List Rw) (hv : vs.length = 256) (J Jx : List Rw → World → Prop)
    (hJ : ∀ s A B, J s A → Later A B → J s B)
    (hY : ∀ pre x V, J pre V → XR ls pre x V → YieldAt Fence.wide (n - 1) Tryz.prog l (encR x) V fun e V' => (e = .returned (.bool true) ∧ J (pre ++ [x]) V' ∧ Below n₀ V V') ∨ (e = .returned (.bool false) ∧ Jx (pre ++ [x]) V'))
    (W : World) (hB : W.cell? ⟨B, 0, none⟩ = some (.pointer (some ⟨bt, 3, none⟩))) (hn0 : n₀ ≤ W.heap.size) (hc : ∀ i, i < 256 → W.cell? ⟨bt, 3 + i, none⟩ = some (vs[i]?.getD undef)) (hR : ∀ i, i < 256 → RdR n₀ W (vs[i]?.getD undef) (ls i)) (h0 : J [] W) :
    CallsIn Fence.wide n Tryz.prog 87 #[.func (.yield l) #[] #[], .pointer (some ⟨B, 0, none⟩)] W fun e W' => (∃ v, e = .returned v) ∧ ((∃ xs, xs = allR ls ∧ J xs W') ∨ (∃ pre, True ∧ Jx pre W')) := by
  have hra : W.rangeAt bt 3 vs := fun j v hj => by
    have hlt : j < 256 := by have := (List.getElem?_eq_some_iff.1 hj).1; omega
    rw [hc j hlt, hj]; rfl
  have hL : (Instr.loadAt 119 (.pointer (some ⟨bt, 3, none⟩))).run Tryz.prog W = .ok (.agg vs.toArray) W := run_loadAt_mid W bt 3 _ vs _ hra Tryz.underlying119 rfl (by rw [hv]; kernel_rfl)
  have HC := hide hc
  have HR := hide hR
  have HL := hide hL
  clear hc hR hra hL
  refine callsIn_of_wp Tryz.func87 rfl trivial ?_ rfl
  simp only [Tryz.ntmps87, List.size_toArray, List.length_cons, List.length_nil, Nat.reduceAdd, Nat.reduceSub, Array.replicate_succ, Array.replicate_zero, List.push_toArray, List.append_toArray, List.nil_append, List.cons_append]
  gi_wp2_with (refine wpListIn_valD 10 rfl rfl (.agg vs.toArray) rfl (by go_loud (show Sem.run _ (Instr.loadAt 119 (.pointer (some ⟨bt, 3, none⟩)) >>= fun v => pure (Next.value v)) _ = _; rw [Sem.run_bind, HL.out]; rfl)) ?_)
  gi_loopw [11] (fun i wr => ∃ p : Nat, p ≤ 256 ∧ i = .int .i64 (p : Int) ∧ J (partR ls p) wr ∧ Below n₀ W wr) (fun i _ => 256 - (intOf i).toNat)
  case atStart => exact ⟨0, by omega, rfl, h0, Below.refl _ _⟩
  case round =>
    obtain ⟨p, hp, rfl, hJp, hbp⟩ := hrel
    by_cases hlt : p < 256
    · have hlt' : (p : Int) < 256 := by omega
      have hRp := (HR.out p hlt).below hbp
      have hix := idx_arr vs p wr hv hlt
      generalize hvp : vs[p]?.getD undef = v at *
      obtain ⟨sa, cap, rfl, hc1, hc2⟩ := hRp.slice
      have HIX := hide hix
      have HRP := hide hRp
      have HVP := hide hvp
      clear hvp hix hRp
      gi_wp2_with (refine wpListIn_valD 13 rfl rfl (.slice sa (ls p).length cap) rfl (by go_loud (show Sem.run _ (Instr.index 119 (.agg vs.toArray) (.int .i64 (p : Int)) >>= fun v => pure (Next.value v)) _ = _; rw [Sem.run_bind, HIX.out]; rfl)) ?_)
      rename World => w1
      gi_loopw [16] (fun i wx => ∃ k : Nat, k ≤ (ls p).length ∧ i = .int .i64 (k : Int) ∧ J (partR ls p ++ (ls p).take k) wx ∧ Below n₀ W wx) (fun i _ => (ls p).length - (intOf i).toNat)
      case atStart => exact ⟨0, by omega, rfl, by rw [List.take_zero, List.append_nil]; exact hJp, hbp⟩
      case round =>
        obtain ⟨k, hk, rfl, hJk, hbk⟩ := hrel
        by_cases hkl : k < (ls p).length
        · obtain ⟨g, off, cp, e, _, _, hgn, hcs⟩ := ((HR.out p hlt).below hbk |> fun h => show RdR n₀ wr (.slice sa (ls p).length cap) (ls p) from HVP.out ▸ h).cells (by omega)
          simp at e
          obtain ⟨rfl, rfl⟩ := e
          have c0 := hcs k hkl 0 (by omega)
          have c1 := hcs k hkl 1 (by omega)
          have c2 := hcs k hkl 2 (by omega)
          have c3 := hcs k hkl 3 (by omega)
          have c4 := hcs k hkl 4 (by omega)
          have c5 := hcs k hkl 5 (by omega)
          have c6 := hcs k hkl 6 (by omega)
          have c7 := hcs k hkl 7 (by omega)
          have hkl' : (k : Int) < (ls p).length := by omega
          have hat := allR_at ls p k hlt hkl
          have htk : partR ls p ++ (ls p).take (k + 1) = partR ls p ++ (ls p).take k ++ [(ls p)[k]] := by rw [List.append_assoc, List.take_append_getElem hkl]
          clear hcs
          generalize hgo : (ls p)[k] = r at *
          have HAT := hide hat
          have HTK := hide htk
          clear hgo hat htk
          simp only [rwc, List.getElem?_cons_zero, List.getElem?_cons_succ, Nat.add_zero] at c0 c1 c2 c3 c4 c5 c6 c7
          have la : Later wr (wr.alloc (.cells #[.int .u8 r.p, .int .u32 r.s, .int .u32 r.d, .int .u16 r.a, .int .u16 r.b, .int .i64 r.id, .int .i64 r.till, .int .i64 r.turn] 126)) := (Below.refl _ _).alloc (Nat.le_refl _) _
          obtain ⟨fn, tmps, assign, body, hy, hR⟩ := hY _ r _ (hJ _ _ _ hJk la) HAT.out
          dsimp only [encR, rwc] at hy
          have hwr := Nat.le_trans hn0 hbk.size
          gi_wp2
          refine hR.mono ?_
          rintro e W3 (⟨rfl, hJ3, hk3⟩ | ⟨rfl, hJx3⟩)
          · gi_wp2
            go_roundw
            case rel => exact ⟨k + 1, by omega, by go_num, by rw [HTK.out]; exact hJ3, hbk.trans ((la.mono hwr).trans hk3)⟩
            case measure => simp [intOf]; omega
          · gi_wp2
            refine bodyPost_ret (results_none rfl _ _ _) rfl ?_
            exact ⟨⟨_, rfl⟩, .inr ⟨_, trivial, hJx3⟩⟩
        · obtain rfl : k = (ls p).length := by omega
          gi_wp2
          go_roundw
          case rel => exact ⟨p + 1, by omega, by go_num, by rw [partR_succ]; rw [List.take_length] at hJk; exact hJk, hbk⟩
          case measure => simp [intOf]; omega
    · obtain rfl : p = 256 := by omega
      gi_wp2
      go_end0
      exact ⟨⟨_, rfl⟩, .inl ⟨_, rfl, hJp⟩⟩

theorem all_gen (n : Nat) (hn : 1 ≤ n) (B bt n₀ base : Nat) (lim cnt trn : Int) (vs : List Value) (ls : Nat → List Rw) (w0 w : World) (hT : TBv base w0 bt lim cnt trn vs ls) (hn0 : n₀ = w0.heap.size) (hw : Later w0 w) (hBl : B < w.heap.size) (hB : w.cell? ⟨B, 0, none⟩ = some (.pointer (some ⟨bt, 3, none⟩))) :
    GenX Fence.wide n Tryz.prog 87 #[.pointer (some ⟨B, 0, none⟩)] encR (Below n₀) (XR ls) (fun xs => xs = allR ls) (fun _ => True) w := fun l J Jx W hW hJ hY h0 => by
  subst hn0
  have hwW : Later w0 W := hw.trans hW
  have hTW := hT.later hwW
  exact all1_in n hn l B bt w0.heap.size vs ls hT.1 J Jx hJ hY W ((hW.cell (p := ⟨B, 0, none⟩) hBl).trans hB) hwW.size (fun i hi => hTW.cell i hi) (fun i hi => (ownR_rd (hT.2.2.2.1 i hi)).below hwW) h0

set_option maxHeartbeats 2000000 in
theorem insert_one (sv : Value) (n : Nat) (f : Value) (w : World) (hn : n ≤ 1) : Calls Tryz.prog 140 #[sv, .int .i64 0, .int .i64 (n : Int), f] w fun e w' => (∃ v, e = .returned v) ∧ w' = w := by
  go_enter Tryz.func140, Tryz.ntmps140
  go_wp2_with fail
  go_loopw [8] (fun i wr => i = .int .i64 1 ∧ wr = w) (fun _ _ => 0)
  case atStart => exact ⟨rfl, rfl⟩
  case round =>
    obtain ⟨rfl, rfl⟩ := hrel
    have h1 : ¬ (1 : Int) < (n : Int) := by omega
    go_wp2_with fail
    go_end0
    exact ⟨⟨_, rfl⟩, rfl⟩

set_option maxHeartbeats 2000000 in
theorem pdq_one (sv : Value) (n : Nat) (lm : Int) (f : Value) (w : World) (hn : n ≤ 1) : Calls Tryz.prog 88 #[sv, .int .i64 0, .int .i64 (n : Int), .int .i64 lm, f] w fun e w' => (∃ v, e = .returned v) ∧ w' = w := by
  have h1 : (n : Int) ≤ 12 := by omega
  go_enter Tryz.func88, Tryz.ntmps88
  go_wp2_with fail
  go_loopw [1, 2] (fun a b wr => a = .int .i64 0 ∧ b = .int .i64 (n : Int) ∧ wr = w) (fun _ _ _ => 0)
  case atStart => exact ⟨rfl, rfl, rfl⟩
  case round =>
    obtain ⟨rfl, rfl, rfl⟩ := hrel
    go_wp2_with fail
    refine (insert_one sv n f wr hn).mono ?_
    rintro e w1 ⟨⟨v, rfl⟩, rfl⟩
    go_wp2_with fail
    refine bodyPost_ret (results_none rfl _ _ _) rfl ?_
    exact ⟨⟨_, rfl⟩, rfl⟩

set_option maxHeartbeats 2000000 in
theorem sort_one (a : Option Addr) (n cap : Nat) (f : Value) (w : World) (hn : n ≤ 1) : Calls Tryz.prog 49 #[.slice a n cap, f] w fun e w' => (∃ v, e = .returned v) ∧ w' = w := by
  have h1 : (n : Int) ≤ 12 := by omega
  go_enter Tryz.func49, Tryz.ntmps49
  go_wp2_with fail
  refine (len_few n w (by omega)).mono ?_
  rintro e w1 ⟨⟨v, rfl⟩, rfl⟩
  go_wp2_with fail
  refine (pdq_one (.slice a n cap) n v f w1 hn).mono ?_
  rintro e w2 ⟨⟨v2, rfl⟩, rfl⟩
  go_wp2_with fail
  go_end0
  exact ⟨⟨_, rfl⟩, rfl⟩
end Go.Proofs.YtohflohdbkamnaaGreatDoor

/- Package table: Due. -/
namespace Go.Proofs.YtohflohdbkamnaaGreatDoor
open Go.RowKit Go.Shelf
set_option maxRecDepth 100000
attribute [local go_sem] Oper.semAt_some
set_option linter.unusedVariables false
set_option linter.unusedSimpArgs false

theorem all_in (n bt : Nat) (w : World) :
    CallsIn Fence.wide n Tryz.prog 48 #[.pointer (some ⟨bt, 3, none⟩)] w fun e w' => e = .returned (.func (.func 87) #[] #[.pointer (some ⟨w.heap.size, 0, none⟩)]) ∧ w' = w.alloc (.cells #[.pointer (some ⟨bt, 3, none⟩)] 181) := by
  refine callsIn_of_wp Tryz.func48 rfl trivial ?_ rfl
  simp only [Tryz.ntmps48, List.size_toArray, List.length_cons, List.length_nil, Nat.reduceAdd, Nat.reduceSub, Array.replicate_succ, Array.replicate_zero, List.push_toArray, List.append_toArray, List.nil_append, List.cons_append]
  gi_wp2
  go_ret
  exact ⟨rfl, rfl⟩

/-- Whose time has come. -/
def duR (now : Int) (l : List Rw) : List Rw := l.filter fun r => decide (r.till ≤ now)
theorem duR_yes {now : Int} {l : List Rw} {r : Rw} (h : r.till ≤ now) : duR now (l ++ [r]) = duR now l ++ [r] := by unfold duR; rw [List.filter_append]; simp [h]
theorem duR_no {now : Int} {l : List Rw} {r : Rw} (h : ¬ r.till ≤ now) : duR now (l ++ [r]) = duR now l := by unfold duR; rw [List.filter_append]; simp [h]
theorem duR_length (now : Int) (l : List Rw) : (duR now l).length ≤ l.length := List.length_filter_le _ _
theorem rws_snoc (l : List Rw) (r : Rw) : rws (l ++ [r]) = rws l ++ rwc r := by unfold rws; simp

def CTy (A B : World) : Prop := A.heap.size ≤ B.heap.size ∧ ∀ (k : Nat) (o : Obj), A.heap[k]? = some o → o.isCells = true → B.heap[k]? = some o
theorem CTy.of {A B : World} (h : Later A B) : CTy A B := ⟨h.size, fun k o ho _ => later_keep h ho⟩
theorem CTy.row {A B : World} {row : Option Nat} (hg : A.grownBy B row) (hr : ∀ r, row = some r → ∃ o : Obj, A.heap[r]? = some o ∧ o.isCells = false) : CTy A B :=
  ⟨hg.size, fun k o ho hc => (hg.block k (Array.getElem?_eq_some_iff.1 ho).1 (fun e => by obtain ⟨o', h1, h2⟩ := hr k e.symm; rw [ho] at h1; cases h1; rw [hc] at h2; cases h2)).trans ho⟩
theorem CTy.put {A : World} {l : Nat} {o o' : Obj} (h : A.heap[l]? = some o) (hc : o.isCells = false) : CTy A (A.putObj l o') :=
  CTy.row (grownBy_putObj' A l o') (fun r e => by cases e; exact ⟨o, h, hc⟩)
theorem ownsR_ct {base : Nat} {e : TypeId} {size : Nat} {A B : World} {v : Value} {n : Nat} {xs : List Value} (h : A.ownsRow base e size v n xs) (c : CTy A B) : B.ownsRow base e size v n xs := by
  obtain ⟨h1, h2 | ⟨g, cap, cur, hv, hg, hh, r⟩⟩ := h
  · exact ⟨h1, .inl h2⟩
  · exact ⟨h1, .inr ⟨g, cap, cur, hv, hg, c.2 _ _ hh rfl, r⟩⟩

/-- What Due keeps while it gathers. -/
def PD (rb base : Nat) (now : Int) (pre : List Rw) (W : World) : Prop :=
  (∃ v, W.heap[rb + 1]? = some (.cells #[v] 116 (0, 0)) ∧ W.ownsRow base 126 8 v (duR now pre).length (rws (duR now pre))) ∧ W.heap[rb]? = some (.cells #[.int .i64 now] 3 (0, 0))
theorem PD.ct {rb base : Nat} {now : Int} {pre : List Rw} {A B : World} (h : PD rb base now pre A) (c : CTy A B) : PD rb base now pre B := by
  obtain ⟨⟨v, h1, h2⟩, h3⟩ := h
  exact ⟨⟨v, c.2 _ _ h1 rfl, ownsR_ct h2 c⟩, c.2 _ _ h3 rfl⟩
/-- What sorting makes of a list. -/
def SortsTo (l l' : List Rw) : Prop := l'.length = l.length ∧ ∀ (base : Nat) (v : Value) (W : World), W.ownsRow base 126 8 v l.length (rws l) →
  Calls Tryz.prog 49 #[v, .func (.func 50) #[] #[]] W fun e W' => (∃ u, e = .returned u) ∧ W'.ownsRow base 126 8 v l.length (rws l') ∧ But (fun g => v.ownBlock = some g) W W'
theorem sorts_one (l : List Rw) (h : l.length ≤ 1) : SortsTo l l := ⟨rfl, fun base v W hv => by
  obtain ⟨a, cap, rfl, _, _⟩ := (ownR_rd hv).slice
  refine (sort_one a l.length cap _ W h).mono ?_
  rintro e W' ⟨hu, rfl⟩
  exact ⟨hu, hv, But.refl _ _⟩⟩

end Go.Proofs.YtohflohdbkamnaaGreatDoor

/- Package table: Due, the walk itself. -/
namespace Go.Proofs.YtohflohdbkamnaaGreatDoor
open Go.RowKit Go.Shelf
set_option maxRecDepth 100000
attribute [local go_sem] Oper.semAt_some
set_option linter.unusedVariables false
set_option linter.unusedSimpArgs false

theorem hset_ne {W : World} {n m j : Nat} {v : Value} {o : Obj} (h : W.heap[n]? = some o) (hne : n ≠ m) : (W.setCell ⟨m, j, none⟩ v).heap[n]? = some o := (Below.heap_setCell W ⟨m, j, none⟩ v n hne).trans h
/-- The keys of rows. -/
def rks (l : List Rw) : List Value := l.flatMap rwk
theorem rks_length (l : List Rw) : (rks l).length = l.length * 5 := by
  induction l with
  | nil => rfl
  | cons r l ih => unfold rks at ih ⊢; simp [rwk] at ih ⊢; omega
theorem rks_snoc (l : List Rw) (r : Rw) : rks (l ++ [r]) = rks l ++ rwk r := by unfold rks; simp
theorem putRow_mid {n : Nat} {t : TypeId} : ∀ (vs pre mid post : List Value) (W : World), W.heap[n]? = some (.cells (pre ++ (mid ++ post)).toArray t (0, 0)) → mid.length = vs.length → (putRow W n pre.length vs).heap[n]? = some (.cells (pre ++ (vs ++ post)).toArray t (0, 0))
  | [], pre, mid, post, W, h, hl => by
    have : mid = [] := List.length_eq_zero_iff.1 hl
    subst this
    exact h
  | v :: r, pre, [], post, W, h, hl => by simp at hl
  | v :: r, pre, p :: mid, post, W, h, hl => by
    have h1 := heap_set1 h pre.length v
    have e : ((pre ++ (p :: mid ++ post)).toArray.setIfInBounds pre.length v) = ((pre ++ [v]) ++ (mid ++ post)).toArray := by
      simp
    rw [e] at h1
    have := putRow_mid r (pre ++ [v]) mid post _ h1 (by simpa using hl)
    simpa [putRow] using this

theorem info_tupl : (Tryz.prog.info? 69).map (fun i => (i.zero, i.size, i.bytes)) = some (some (.agg #[.int .u8 0, .int .u32 0, .int .u32 0, .int .u16 0, .int .u16 0]), 5, 16) := by kernel_rfl

set_option maxRecDepth 100000 in
set_option maxHeartbeats 4000000 in
theorem due_any (base bt : Nat) (lim cnt trn now : Int) (ls : Nat → List Rw) (l' : List Rw) (w : World) (hT : TB base w bt lim cnt trn ls) (hS : SortsTo (duR now (allR ls)) l') (hal : (allR ls).length ≤ 5000) :
    Calls Tryz.prog 20 #[.pointer (some ⟨bt, 0, none⟩), .int .i64 now] w fun e w' => Below w.heap.size w w' ∧ ∃ g, e = .returned (.slice (some ⟨g, 0, none⟩) l'.length l'.length) ∧ w.heap.size ≤ g ∧ w'.heap[g]? = some (.cells (rks l').toArray 69 (0, 0)) := by
  obtain ⟨vs, hT⟩ := hT
  refine (callsIn_wide (n := 5)).1 ?_
  refine callsIn_of_wp_marks Tryz.func20 rfl trivial ?_ rfl
  simp only [Tryz.ntmps20, List.size_toArray, List.length_cons, List.length_nil, Nat.reduceAdd, Nat.reduceSub, Array.replicate_succ, Array.replicate_zero, List.push_toArray, List.append_toArray, List.nil_append, List.cons_append]
  have hb4 : Later w (((w.alloc (.cells #[.int .i64 now] 3)).alloc (.cells #[.slice none 0 0] 116)).alloc (.cells #[.pointer (some ⟨bt, 3, none⟩)] 181)) := (((Below.refl _ _).alloc (Nat.le_refl _) _).alloc (by simp) _).alloc (by simp <;> omega) _
  have c0 : (((w.alloc (.cells #[.int .i64 now] 3)).alloc (.cells #[.slice none 0 0] 116)).alloc (.cells #[.pointer (some ⟨bt, 3, none⟩)] 181)).heap[w.heap.size]? = some (.cells #[.int .i64 now] 3) := (Below.heap_alloc _ _ _ (by simp <;> omega)).trans ((Below.heap_alloc _ _ _ (by simp)).trans (heap_alloc_new w _))
  have c1 : (((w.alloc (.cells #[.int .i64 now] 3)).alloc (.cells #[.slice none 0 0] 116)).alloc (.cells #[.pointer (some ⟨bt, 3, none⟩)] 181)).heap[w.heap.size + 1]? = some (.cells #[.slice none 0 0] 116) := by
    have := heap_alloc_new (w.alloc (.cells #[.int .i64 now] 3)) (.cells #[.slice none 0 0] 116)
    rw [World.size_alloc] at this
    exact (Below.heap_alloc _ _ _ (by simp)).trans this
  have c2 : (((w.alloc (.cells #[.int .i64 now] 3)).alloc (.cells #[.slice none 0 0] 116)).alloc (.cells #[.pointer (some ⟨bt, 3, none⟩)] 181)).heap[w.heap.size + 1 + 1]? = some (.cells #[.pointer (some ⟨bt, 3, none⟩)] 181) := by
    have := heap_alloc_new ((w.alloc (.cells #[.int .i64 now] 3)).alloc (.cells #[.slice none 0 0] 116)) (.cells #[.pointer (some ⟨bt, 3, none⟩)] 181)
    simpa only [World.size_alloc] using this
  have hs4 : (((w.alloc (.cells #[.int .i64 now] 3)).alloc (.cells #[.slice none 0 0] 116)).alloc (.cells #[.pointer (some ⟨bt, 3, none⟩)] 181)).heap.size = w.heap.size + 1 + 1 + 1 := by simp
  have C0 := hide c0
  have C1 := hide c1
  have C2 := hide c2
  have HS4 := hide hs4
  clear c0 c1 c2 hs4
  gi_wp2_with (refine ⟨trivial, ?_⟩; gi_at_call 48; refine (all_in _ _ _).mono ?_; rintro e w' ⟨rfl, rfl⟩)
  generalize ((w.alloc (.cells #[.int .i64 now] 3)).alloc (.cells #[.slice none 0 0] 116)).alloc (.cells #[.pointer (some ⟨bt, 3, none⟩)] 181) = w4 at *
  have hs4 : w4.heap.size = w.heap.size + 1 + 1 + 1 := HS4.out
  refine wpIn_rangeX (w := w4) rfl (by omega) (gf := 87) (lb := #[.pointer (some ⟨w.heap.size + 1 + 1, 0, none⟩)]) rfl trivial (enters_of Tryz.func87 (by kernel_rfl) rfl)
    (all_gen 4 (by omega) (w.heap.size + 1 + 1) bt w.heap.size base lim cnt trn vs ls w w4 hT rfl hb4 (by omega) (block_cell C2.out 0))
    (fun h k => h.trans k) (fun W l o o' hl ho hc hw => belowK_b (w := w4) (by omega) W l o o' hl ho hc hw) (fun hA hL => hL.mono (by omega)) (fun _ _ _ _ h _ => h) (fun _ _ _ _ _ _ _ _ _ h => h) (fun _ => rfl)
    (fun pre W => PD w.heap.size (w.heap.size + 1 + 1 + 1) now pre W ∧ Below w.heap.size w W) (fun pre W => False)
    (OwnFrom.and (fun s A B row hs hg hr => hs.ct (CTy.row hg (fun r e => (hr r e).2))) (ownFrom_below (Nat.le_refl _) (by omega)))
    (fun s A B h l => ⟨h.1.ct (CTy.of l), h.2.trans (l.mono h.2.size)⟩)
    (fun s A B row hs hg hr => hs)
    ⟨⟨⟨.slice none 0 0, C1.out, rfl, .inl ⟨rfl, rfl⟩⟩, C0.out⟩, hb4⟩
    (fun x a' W => ∃ bx : Nat, w.heap.size + 1 + 1 + 1 ≤ bx ∧ W.heap[bx]? = some (.cells #[.int .u8 x.p, .int .u32 x.s, .int .u32 x.d, .int .u16 x.a, .int .u16 x.b, .int .i64 x.id, .int .i64 x.till, .int .i64 x.turn] 126 (0, 0)) ∧ a' = { tmps := #[.pointer (some ⟨bt, 0, none⟩), .int .i64 now, undef, .pointer (some ⟨w.heap.size, 0, none⟩), .slice none 0 0, .pointer (some ⟨w.heap.size + 1, 0, none⟩), .pointer (some ⟨bx, 0, none⟩), undef, undef, undef, .pointer (some ⟨bt, 0, none⟩), .bool false, .pointer (some ⟨bt, 0, none⟩), .pointer (some ⟨bt, 0, none⟩), .pointer (some ⟨bt, 3, none⟩), .func (.func 87) #[] #[.pointer (some ⟨w.heap.size + 1 + 1, 0, none⟩)], .agg #[.int .u8 x.p, .int .u32 x.s, .int .u32 x.d, .int .u16 x.a, .int .u16 x.b, .int .i64 x.id, .int .i64 x.till, .int .i64 x.turn], undef, undef, undef, undef, undef, undef, undef, undef, undef, undef, undef, undef, undef, undef, undef, undef, undef, undef, undef, undef, undef, undef, undef, undef, undef, undef, undef], defers := [] })
    (fun x a' W l o o' hl ho hc h => by obtain ⟨bx, h1, h2, h3⟩ := h; exact ⟨bx, h1, (CTy.put ho hc).2 _ _ h2 rfl, h3⟩) ?assign ?body ?done ?stop
  case assign =>
    rintro l pre x W K hsz _ hX hK
    dsimp only [encR, rwc]
    gi_wp2
    refine hK _ _ ?_ ⟨W.heap.size, by omega, heap_alloc_new _ _, rfl⟩
    exact (Below.refl _ W).alloc (Nat.le_refl _) _
  case body =>
    rintro l pre x a' W ⟨⟨⟨v, hob, hOw⟩, hr0⟩, hbW⟩ hX ⟨bx, hbx, hbo, rfl⟩
    have hbsz := hbW.size
    have Kb := block_cell hbo
    have Kn := block_cell hr0
    have hobl := (Array.getElem?_eq_some_iff.1 hob).1
    have hbl := (Array.getElem?_eq_some_iff.1 hbo).1
    have hal2 : pre.length ≤ 5000 := by obtain ⟨rest, e⟩ := hX; have := congrArg List.length e; simp at this; omega
    by_cases htl : x.till ≤ now
    · have hdu := duR_yes (l := pre) htl
      have hdl : (duR now pre).length ≤ 5000 := Nat.le_trans (duR_length now pre) hal2
      have Kv := block_cell hob
      have Fv := block_frozen hob
      obtain ⟨sa, cap, rfl, _, _⟩ := (ownR_rd hOw).slice
      obtain ⟨i0, hi, hz0, hz1, hz2⟩ := info_parts info_row
      have la : Later W (W.alloc (.cells #[.int .u8 x.p, .int .u32 x.s, .int .u32 x.d, .int .u16 x.a, .int .u16 x.b, .int .i64 x.id, .int .i64 x.till, .int .i64 x.turn] 126)) := (Below.refl _ W).alloc (Nat.le_refl _) _
      have hrowA := ownR_later hOw la
      have hnews : ∀ j u, [Value.int .u8 x.p, .int .u32 x.s, .int .u32 x.d, .int .u16 x.a, .int .u16 x.b, .int .i64 x.id, .int .i64 x.till, .int .i64 x.turn][j]? = some u → (W.alloc (.cells #[.int .u8 x.p, .int .u32 x.s, .int .u32 x.d, .int .u16 x.a, .int .u16 x.b, .int .i64 x.id, .int .i64 x.till, .int .i64 x.turn] 126)).cell? ((⟨W.heap.size, 0, none⟩ : Addr).add j) = some u := new_row W [Value.int .u8 x.p, .int .u32 x.s, .int .u32 x.d, .int .u16 x.a, .int .u16 x.b, .int .i64 x.id, .int .i64 x.till, .int .i64 x.turn]
      have hbl2 : ∀ r, (Value.slice sa (duR now pre).length cap).ownBlock = some r → ∃ cur, (W.alloc (.cells #[.int .u8 x.p, .int .u32 x.s, .int .u32 x.d, .int .u16 x.a, .int .u16 x.b, .int .i64 x.id, .int .i64 x.till, .int .i64 x.turn] 126)).heap[r]? = some (.cells cur 126 (0, 0)) ∧ w.heap.size + 1 + 1 + 1 ≤ r := fun r hr => by
        rcases hrowA.2 with ⟨e, _⟩ | ⟨g, cp, cur, e, hg, hh, _⟩
        · rw [e] at hr; cases hr
        · rw [e] at hr; cases hr
          exact ⟨cur, hh, hg⟩
      have HNW := hide hnews
      have HRA := hide hrowA
      have HB2 := hide hbl2
      have HDU := hide hdu
      clear hnews hrowA hbl2 hOw hdu
      gi_wp2_with (gi_at_builtin; refine wpListIn_append_own _ rfl (.tmp 21) (.tmp 23) 116 rfl (w.heap.size + 1 + 1 + 1) 126 i0 (.agg #[.int .u8 0, .int .u32 0, .int .u32 0, .int .u16 0, .int .u16 0, .int .i64 0, .int .i64 0, .int .i64 0]) 8 40 Tryz.underlying116 hi hz0 hz1 hz2 rfl (by decide) _ (duR now pre).length (rws (duR now pre)) rfl HRA.out ⟨W.heap.size, 0, none⟩ 1 1 [Value.int .u8 x.p, .int .u32 x.s, .int .u32 x.d, .int .u16 x.a, .int .u16 x.b, .int .i64 x.id, .int .i64 x.till, .int .i64 x.turn] rfl rfl HNW.out (by intro u hu; simp at hu; rcases hu with rfl | rfl | rfl | rfl | rfl | rfl | rfl | rfl <;> rfl) (by simp only [maxLen]; omega) (by omega) (by simp; omega) ?_; intro v2 W2 hrow2 hg2 hnn; obtain ⟨g2, cp2, rfl⟩ := ownsRow_succ hrow2; have hob2 := (hg2.block (w.heap.size + 1) (by simp; omega) (fun e => by obtain ⟨_, _, h⟩ := HB2.out _ e.symm; omega)).trans ((Below.heap_alloc W _ (w.heap.size + 1) hobl).trans hob); have Kv2 := block_cell hob2; have Fv2 := block_frozen hob2)
      have hkeep : ∀ i o, W.heap[i]? = some o → some i ≠ (Value.slice sa (duR now pre).length cap).ownBlock → i ≠ w.heap.size + 1 → (W2.setCell ⟨w.heap.size + 1, 0, none⟩ (.slice (some ⟨g2, 0, none⟩) ((duR now pre).length + 1) cp2)).heap[i]? = some o := fun i o hi h1 h2 =>
        hset_ne ((hg2.block i (by have := (Array.getElem?_eq_some_iff.1 hi).1; simp; omega) h1).trans ((Below.heap_alloc W _ i (Array.getElem?_eq_some_iff.1 hi).1).trans hi)) h2
      have hsz2 : W.heap.size + 1 ≤ W2.heap.size := by have := hg2.size; simpa using this
      have hown2 : (W2.setCell ⟨w.heap.size + 1, 0, none⟩ (.slice (some ⟨g2, 0, none⟩) ((duR now pre).length + 1) cp2)).ownsRow (w.heap.size + 1 + 1 + 1) 126 8 (.slice (some ⟨g2, 0, none⟩) ((duR now pre).length + 1) cp2) ((duR now pre).length + 1) (rws (duR now pre) ++ rwc x) := by
        refine ⟨hrow2.1, hrow2.2.imp id ?_⟩
        rintro ⟨g, cp, cur, e1, e2, e3, r⟩
        exact ⟨g, cp, cur, e1, e2, hset_ne e3 (by omega), r⟩
      have hbn : Below w.heap.size W (W2.setCell ⟨w.heap.size + 1, 0, none⟩ (.slice (some ⟨g2, 0, none⟩) ((duR now pre).length + 1) cp2)) := ⟨hg2.os, hg2.tape, hg2.output, by simp; omega, fun i hi => by
        cases hh : W.heap[i]? with
        | none => have := Array.getElem?_eq_none_iff.1 hh; omega
        | some o => exact hkeep i o hh (fun e => by obtain ⟨_, _, h⟩ := HB2.out _ e.symm; omega) (by omega)⟩
      refine ⟨⟨by simp; omega, fun i o hi ho hc => hkeep i o ho (fun e => ?_) (by omega)⟩, hbn, ⟨⟨.slice (some ⟨g2, 0, none⟩) ((duR now pre).length + 1) cp2, heap_set1 hob2 0 _, ?_⟩, ?_⟩, hbW.trans hbn⟩
      · obtain ⟨c2, h2, _⟩ := HB2.out i e.symm
        rw [Below.heap_alloc W _ i (Array.getElem?_eq_some_iff.1 ho).1, ho] at h2
        cases h2
        cases hc
      · rw [HDU.out, List.length_append, List.length_singleton, rws_snoc]
        exact hown2
      · exact hkeep _ _ hr0 (fun e => by obtain ⟨_, _, h⟩ := HB2.out _ e.symm; omega) (by omega)
    · have hdu := duR_no (l := pre) htl
      have HDU := hide hdu
      clear hdu
      gi_wp2
      exact ⟨KeepsFrom.refl _ _, Below.refl _ _, ⟨⟨v, hob, by rw [HDU.out]; exact hOw⟩, hr0⟩, hbW⟩
  case done =>
    rintro D xs W hD rfl ⟨⟨⟨v, h1, h2⟩, h3⟩, hbW⟩ hK
    obtain ⟨hl', hS⟩ := hS
    have hbsz := hbW.size
    have K1 := block_cell h1
    have hdl : (duR now (allR ls)).length ≤ 5000 := Nat.le_trans (duR_length now _) hal
    obtain ⟨sa, cap, rfl, hcp, hcm⟩ := (ownR_rd h2).slice
    have HSO := hide (hS _ _ W h2)
    have hnb : ∀ i o, W.heap[i]? = some o → (o.isCells = false ∨ i < w.heap.size + 1 + 1 + 1) → (Value.slice sa (duR now (allR ls)).length cap).ownBlock ≠ some i := fun i o ho hh e => by
      rcases h2.2 with ⟨e2, _⟩ | ⟨g, cp, cur, e2, hg, hgh, _⟩
      · rw [e2] at e; cases e
      · rw [e2] at e
        have e3 : g = i := by simpa [Value.ownBlock] using e
        subst e3
        rcases hh with hh | hh
        · rw [hgh] at ho; cases ho; cases hh
        · omega
    generalize (duR now (allR ls)).length = N at *
    subst hl'
    gi_wp2
    refine ⟨trivial, ?_⟩
    refine (callsIn_wide.2 HSO.out).mono ?_
    rintro e W1 ⟨⟨u, rfl⟩, hr1, hbt1⟩
    have h11 := (hbt1.block _ (Array.getElem?_eq_some_iff.1 h1).1 (hnb _ _ h1 (.inr (by omega)))).trans h1
    have hD1 := (hbt1.block _ (Array.getElem?_eq_some_iff.1 hK).1 (hnb _ _ hK (.inl rfl))).trans hK
    have hb1 : Below w.heap.size w W1 := hbW.trans (hbt1.below hbsz (fun k h e => by
      rcases h2.2 with ⟨e2, _⟩ | ⟨g, cp, cur, e2, hg, hgh, _⟩
      · rw [e2] at e; cases e
      · rw [e2] at e
        have e3 : g = k := by simpa [Value.ownBlock] using e
        omega))
    clear HSO h1 h2 hK hnb h3 K1 hbt1 hS
    have K1 := block_cell h11
    gi_wp2
    obtain ⟨i0, hi, hz0, hz1, hz2⟩ := info_parts info_tupl
    have hmk : (Instr.makeSlice 66 (.int .i64 (l'.length : Int)) (.int .i64 (l'.length : Int))).run Tryz.prog W1 = .ok (.slice (some ⟨W1.heap.size, 0, none⟩) l'.length l'.length) (W1.alloc (.cells (madeCells (Value.agg #[.int .u8 0, .int .u32 0, .int .u32 0, .int .u16 0, .int .u16 0]).cells (l'.length * 5)) 69)) := by
      have := run_make (P := Tryz.prog) W1 66 69 i0 _ Tryz.underlying66 hi hz0 .i64 .i64 (l'.length : Int) (l'.length : Int) (by omega) (by omega) (by rw [hz2]; omega) (by omega)
      rw [hz1] at this
      simpa using this
    have hsz : (madeCells (Value.agg #[.int .u8 0, .int .u32 0, .int .u32 0, .int .u16 0, .int .u16 0]).cells (l'.length * 5)).size = l'.length * 5 := size_madeCells _ _
    rw [hmk]
    clear hmk
    generalize madeCells (Value.agg #[.int .u8 0, .int .u32 0, .int .u32 0, .int .u16 0, .int .u16 0]).cells (l'.length * 5) = mk at *
    have la : Later W1 (W1.alloc (.cells mk 69)) := (Below.refl _ _).alloc (Nat.le_refl _) _
    have hgk := heap_alloc_new W1 (.cells mk 69)
    have hV1 := later_keep la h11
    have hVD := later_keep la hD1
    have hVr := ownR_later hr1 la
    have hbV : Below w.heap.size w (W1.alloc (.cells mk 69)) := hb1.trans (la.mono hb1.size)
    have hgsz := hb1.size
    clear h11 hD1 hr1 hb1 K1
    generalize hgke : W1.heap.size = gk at *
    generalize W1.alloc (.cells mk 69) = V at *
    clear hgke la
    have K1 := block_cell hV1
    gi_wp2
    clear K1
    gi_loopw [32] (fun i wx => ∃ k : Nat, k ≤ l'.length ∧ i = .int .i64 (k : Int) ∧ But (fun g => g = gk) V wx ∧ ∃ rest : List Value, rest.length = (l'.length - k) * 5 ∧ wx.heap[gk]? = some (.cells (rks (l'.take k) ++ rest).toArray 69 (0, 0))) (fun i _ => l'.length - (intOf i).toNat)
    case atStart => exact ⟨0, by omega, rfl, But.refl _ _, mk.toList, by simpa using hsz, by simpa [rks] using hgk⟩
    case round =>
      obtain ⟨k, hk, rfl, hbk, rest, hrl, hgw⟩ := hrel
      by_cases hkl : k < l'.length
      · have hRw : RdR wr.heap.size wr (.slice sa l'.length cap) l' := by
          refine ownR_rd (base := w.heap.size + 1 + 1 + 1) ⟨hVr.1, hVr.2.imp id ?_⟩
          rintro ⟨g, cp, cur, e1, e2, e3, r⟩
          exact ⟨g, cp, cur, e1, e2, (hbk.block g (Array.getElem?_eq_some_iff.1 e3).1 (fun e => by rw [e, hgk] at e3; cases e3)).trans e3, r⟩
        obtain ⟨g, off, cp, e, _, _, hgn, hcs⟩ := hRw.cells (by omega)
        simp at e
        obtain ⟨rfl, rfl⟩ := e
        have c0 := hcs k hkl 0 (by omega)
        have c1 := hcs k hkl 1 (by omega)
        have c2 := hcs k hkl 2 (by omega)
        have c3 := hcs k hkl 3 (by omega)
        have c4 := hcs k hkl 4 (by omega)
        have c5 := hcs k hkl 5 (by omega)
        have c6 := hcs k hkl 6 (by omega)
        have c7 := hcs k hkl 7 (by omega)
        have hkl' : (k : Int) < l'.length := by omega
        have htk : rks (l'.take (k + 1)) = rks (l'.take k) ++ rwk l'[k] := by rw [← List.take_append_getElem hkl, rks_snoc]
        have hrk : (rks (l'.take k)).length = k * 5 := by rw [rks_length, List.length_take, Nat.min_eq_left hk]
        obtain ⟨r0, r1, r2, r3, r4, rest', rfl⟩ : ∃ r0 r1 r2 r3 r4 rest', rest = r0 :: r1 :: r2 :: r3 :: r4 :: rest' := by
          have h5 : 5 ≤ rest.length := by rw [hrl]; omega
          match rest, h5 with
          | r0 :: r1 :: r2 :: r3 :: r4 :: rest', _ => exact ⟨_, _, _, _, _, _, rfl⟩
        have hk5 : ∀ j, wr.cell? ⟨gk, k * 5 + j, none⟩ = (r0 :: r1 :: r2 :: r3 :: r4 :: rest')[j]? := fun j => by
          rw [block_cell hgw, List.getElem?_toArray, List.getElem?_append_right (by omega), hrk, Nat.add_sub_cancel_left]
        have d0 := hk5 0
        have d1 := hk5 1
        have d2 := hk5 2
        have d3 := hk5 3
        have d4 := hk5 4
        have Fg := block_frozen hgw
        have hgl : gk < wr.heap.size := (Array.getElem?_eq_some_iff.1 hgw).1
        clear hcs hk5
        generalize hgo : l'[k] = r at *
        have hpt : (putRow wr gk (k * 5) (rwk r)).heap[gk]? = some (.cells (rks (l'.take k) ++ (rwk r ++ rest')).toArray 69 (0, 0)) := by
          have := putRow_mid (rwk r) (rks (l'.take k)) [r0, r1, r2, r3, r4] rest' wr hgw rfl
          rw [hrk] at this
          exact this
        have hpb : But (fun g => g = gk) V (putRow wr gk (k * 5) (rwk r)) := putRow_but (E := fun g => g = gk) rfl _ _ _ _ hbk
        have HPT := hide hpt
        have HPB := hide hpb
        clear hpt hpb
        have HTK := hide htk
        have HRK := hide hrk
        have HRL := hide hrl
        clear hgo htk hrk hrl
        simp only [rwc, List.getElem?_cons_zero, List.getElem?_cons_succ, Nat.add_zero] at c0 c1 c2 c3 c4 c5 c6 c7 d0 d1 d2 d3 d4
        gi_wp2
        go_roundw
        case rel =>
          refine ⟨k + 1, by omega, by go_num, (show But _ V (putRow wr gk (k * 5) (rwk r)) from HPB.out).trans (But.of ((Below.refl _ _).alloc (Nat.le_refl _) _)), rest', ?_, ?_⟩
          · have := HRL.out
            simp at this
            omega
          · rw [HTK.out, List.append_assoc]
            exact (Below.heap_alloc (putRow wr gk (k * 5) (rwk r)) _ gk (Array.getElem?_eq_some_iff.1 HPT.out).1).trans HPT.out
        case measure => simp [intOf]; omega
      · obtain rfl : k = l'.length := by omega
        have hrD : wr.heap[D]? = some (.deferred (some [])) := (hbk.block D (Array.getElem?_eq_some_iff.1 hVD).1 (fun e => by rw [e, hgk] at hVD; cases hVD)).trans hVD
        obtain rfl : rest = [] := List.length_eq_zero_iff.1 (by rw [hrl]; simp)
        rw [List.take_length, List.append_nil] at hgw
        have hbw : Below w.heap.size w wr := hbV.trans (hbk.below hbV.size (fun k h e => by omega))
        gi_wp2
        refine ⟨by simp, .inl ⟨_, _, rfl, run_takeDeferred hrD, ?_⟩⟩
        exact ⟨.slice (some ⟨gk, 0, none⟩) l'.length l'.length, by simp [results, Tryz.results20, go_sem], hbw.trans (belowK_b (w := w) (Nat.le_refl _) wr D _ _ (by omega) hrD rfl rfl), gk, rfl, by omega, (CTy.put (o' := .deferred none) hrD rfl).2 _ _ hgw rfl⟩
  case stop =>
    rintro D pre W hD hSp hF hK
    exact hF.elim
end Go.Proofs.YtohflohdbkamnaaGreatDoor
