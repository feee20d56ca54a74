/- Package table: find, Get, turn, mayBe, Len. -/
import Derived.Deep.DeepCutAuto
import Derived.Deep.CutBlock
import Derived.Test.YtahphjindjlcpaaBB
namespace Go.Proofs.Ytahphjindjlcpaa
open Go.RowKit Go.Shelf
set_option maxRecDepth 100000
set_option linter.unusedVariables false
set_option linter.unusedSimpArgs false

/-- A tuple's list. -/
def bki (p s d a b : Int) : Nat := (hsh (tb p s d (kyp p a) b) % 256).toNat
theorem hstep_bd (h x : Int) : 0 ≤ hstep h x ∧ hstep h x ≤ 4294967295 := by unfold hstep; omega
theorem hsh_bd (x : Int) (zs : List Int) : 0 ≤ hsh (zs ++ [x]) ∧ hsh (zs ++ [x]) ≤ 4294967295 := by
  unfold hsh
  rw [List.foldl_append]
  exact hstep_bd _ _
theorem hsh_tb (p s d a b : Int) : 0 ≤ hsh (tb p s d a b) ∧ hsh (tb p s d a b) ≤ 4294967295 := hsh_bd (b % 256) [p, s / 16777216, s / 65536 % 256, s / 256 % 256, s % 256, d / 16777216, d / 65536 % 256, d / 256 % 256, d % 256, a / 256, a % 256, b / 256]
theorem bki_lt (p s d a b : Int) : bki p s d a b < 256 := by have := hsh_tb p s d (kyp p a) b; unfold bki; omega
/-- Where a tuple's row stands in its list. -/
def kx (p s d a b : Int) (ls : Nat → List Rw) : Option Nat := kix p s d (kyp p a) b (ls (bki p s d a b))

set_option maxHeartbeats 4000000 in
theorem tfind_any (base bt : Nat) (lim cnt trn : Int) (vs : List Value) (ls : Nat → List Rw) (p s d a b : Int) (w : World) (hT : TBv base w bt lim cnt trn vs ls) (hs : 0 ≤ s ∧ s ≤ 4294967295) (hd : 0 ≤ d ∧ d ≤ 4294967295) (ha : 0 ≤ a ∧ a ≤ 65535) (hb : 0 ≤ b ∧ b ≤ 65535) :
    Calls Try.prog 31 #[.pointer (some ⟨bt, 0, none⟩), .agg #[.int .u8 p, .int .u32 s, .int .u32 d, .int .u16 a, .int .u16 b]] w fun e w' => Below w.heap.size w w' ∧
      ((kx p s d a b ls = none ∧ e = .returned (.pointer none)) ∨ ∃ k g2 cap, kx p s d a b ls = some k ∧ k < (ls (bki p s d a b)).length ∧ vs[bki p s d a b]?.getD undef = .slice (some ⟨g2, 0, none⟩) (ls (bki p s d a b)).length cap ∧ e = .returned (.pointer (some ⟨g2, k * 8, none⟩))) := by
  have hb0 : Below w.heap.size w (w.alloc (.cells #[.int .u8 p, .int .u32 s, .int .u32 d, .int .u16 a, .int .u16 b] 26)) := (Below.refl _ _).alloc (Nat.le_refl _) _
  have t0 := heap_alloc_new w (.cells #[.int .u8 p, .int .u32 s, .int .u32 d, .int .u16 a, .int .u16 b] 26)
  have hhb := hsh_tb p s d (kyp p a) b
  go_enter Try.func31, Try.ntmps31
  go_upto_region 1 with fail
  generalize w.alloc (.cells #[.int .u8 p, .int .u32 s, .int .u32 d, .int .u16 a, .int .u16 b] 26) = w0 at *
  go_cut [4] (fun v wx => Later w0 wx ∧ ((kx p s d a b ls = none ∧ v = .pointer none) ∨ ∃ k g2 cap, kx p s d a b ls = some k ∧ k < (ls (bki p s d a b)).length ∧ vs[bki p s d a b]?.getD undef = .slice (some ⟨g2, 0, none⟩) (ls (bki p s d a b)).length cap ∧ v = .pointer (some ⟨g2, k * 8, none⟩)))
  case first =>
    refine anyR_begin (R := Later) Later.pre Later.drew 9 rfl (by kernel_rfl) (fun V1 hV1 => ?_)
    have q0 : ∀ v1, Later V1 v1 → ∀ i, v1.cell? ⟨w.heap.size, i, none⟩ = #[Value.int .u8 p, .int .u32 s, .int .u32 d, .int .u16 a, .int .u16 b][i]? := fun v1 h => block_cell (later_keep (hV1.trans h) t0)
    refine anyR_val Later.pre 0 rfl (by kernel_rfl) (by kernel_rfl) (by kernel_rfl) (fun _ _ _ _ h => h) rfl ?_; apply Exists.intro; refine ⟨fun w1 hw1 => ?_, ?_⟩; (· (go_simp; rfl)); simp only [Act.put, List.setIfInBounds_toArray, List.set_cons_zero, List.set_cons_succ]
    refine anyR_val Later.pre 1 rfl (by kernel_rfl) (by kernel_rfl) (by kernel_rfl) (fun _ _ _ _ h => h) rfl ?_; apply Exists.intro; refine ⟨fun w1 hw1 => ?_, ?_⟩; (· (go_simp; rfl)); simp only [Act.put, List.setIfInBounds_toArray, List.set_cons_zero, List.set_cons_succ]
    refine anyR_val Later.pre 2 rfl (by kernel_rfl) (by kernel_rfl) (by kernel_rfl) (fun _ _ _ _ h => h) rfl ?_; apply Exists.intro; refine ⟨fun w1 hw1 => ?_, ?_⟩; (· (go_simp; rfl)); simp only [Act.put, List.setIfInBounds_toArray, List.set_cons_zero, List.set_cons_succ]
    refine anyR_val Later.pre 3 rfl (by kernel_rfl) (by kernel_rfl) (by kernel_rfl) (fun _ _ _ _ h => h) rfl ?_; apply Exists.intro; refine ⟨fun w1 hw1 => ?_, ?_⟩; (· (go_simp; rfl)); simp only [Act.put, List.setIfInBounds_toArray, List.set_cons_zero, List.set_cons_succ]
    refine anyR_val Later.pre 5 rfl (by kernel_rfl) (by kernel_rfl) (by kernel_rfl) (fun _ _ _ _ h => h) rfl ?_; apply Exists.intro; refine ⟨fun w1 hw1 => ?_, ?_⟩; (· (go_simp; rfl)); simp only [Act.put, List.setIfInBounds_toArray, List.set_cons_zero, List.set_cons_succ]
    clear q0
    refine anyR_take Later.pre 4 (.int .u32 (hsh (tb p s d (kyp p a) b))) rfl (by kernel_rfl) (by kernel_rfl) (by kernel_rfl) (fun _ _ _ h => h) rfl (fun w1 hw1 => goes_call 34 #[.agg #[.int .u8 p, .int .u32 s, .int .u32 d, .int .u16 a, .int .u16 b]] (by go_simp) ((hash_any p s d a b w1 hs hd ha hb).mono fun e w2 h => h)) ?_
    simp only [Act.put, List.setIfInBounds_toArray, List.set_cons_zero, List.set_cons_succ]
    refine anyR_one 6 rfl (by kernel_rfl) rfl (fun V2 hV2 => ?_)
    refine wp_enter 38 #[.agg #[.int .u8 p, .int .u32 s, .int .u32 d, .int .u16 a, .int .u16 b]] (by go_simp) ?_
    refine (of_key p s d a b V2).mono ?_
    rintro e V3 ⟨g, rfl, hb3, hgz, hg3⟩
    have l3 : Later V2 V3 := hb3
    refine ⟨l3, ?_⟩
    simp only [Act.put, List.setIfInBounds_toArray, List.set_cons_zero, List.set_cons_succ]
    refine anyR_one 7 rfl (by kernel_rfl) rfl (fun V4 hV4 => ?_)
    refine wp_enter 46 #[.pointer (some ⟨bt, 3, none⟩), .int .u32 (hsh (tb p s d (kyp p a) b)), .func (.func 50) #[] #[.pointer (some ⟨g, 0, none⟩)]] (by go_simp) ?_
    have lw : Later w w0 := hb0
    have l4 := (hV1.trans hV2).trans (l3.trans hV4)
    refine (bfind_any base bt g lim cnt trn vs ls (hsh (tb p s d (kyp p a) b)) p s d (kyp p a) b V4 (hT.later (lw.trans l4)) hhb (later_keep hV4 hg3)).mono ?_
    rw [show (hsh (tb p s d (kyp p a) b) % 256).toNat = bki p s d a b from rfl]
    rintro e V5 ⟨hb5, hres⟩
    have l5 : Later V4 V5 := hb5
    rcases hres with ⟨hk, rfl⟩ | ⟨k, g2, cap, hk, hkl, hv, rfl⟩
    · refine ⟨l5, ?_⟩
      simp only [Act.put, List.setIfInBounds_toArray, List.set_cons_zero, List.set_cons_succ]
      refine anyR_val Later.pre 8 rfl (by kernel_rfl) (by kernel_rfl) (by kernel_rfl) (fun _ _ _ _ h => h) rfl ?_; apply Exists.intro; refine ⟨fun w1 hw1 => ?_, ?_⟩; (· (go_simp; rfl)); simp only [Act.put, List.setIfInBounds_toArray, List.set_cons_zero, List.set_cons_succ]
      refine anyR_done (by kernel_rfl) (fun V6 hV6 => ?_)
      have hl6 := l4.trans (l5.trans hV6)
      have HK : Hid (kx p s d a b ls = none) := hk
      clear hk
      go_wp2_with fail
      go_meet
      exact ⟨hl6, .inl ⟨HK.out, rfl⟩⟩
    · refine ⟨l5, ?_⟩
      simp only [Act.put, List.setIfInBounds_toArray, List.set_cons_zero, List.set_cons_succ]
      refine anyR_val Later.pre 8 rfl (by kernel_rfl) (by kernel_rfl) (by kernel_rfl) (fun _ _ _ _ h => h) rfl ?_; apply Exists.intro; refine ⟨fun w1 hw1 => ?_, ?_⟩; (· (go_simp; rfl)); simp only [Act.put, List.setIfInBounds_toArray, List.set_cons_zero, List.set_cons_succ]
      refine anyR_done (by kernel_rfl) (fun V6 hV6 => ?_)
      have hl6 := l4.trans (l5.trans hV6)
      have HK : Hid (kx p s d a b ls = some k) := hk
      have HV := hide hv
      clear hk hv
      go_wp2_with fail
      go_meet
      exact ⟨hl6, .inr ⟨k, g2, cap, HK.out, hkl, HV.out, rfl⟩⟩
  case rest =>
    obtain ⟨lc, hres⟩ := hcut
    have hwc := hb0.trans (lc.mono hb0.size)
    rcases hres with ⟨hk, rfl⟩ | ⟨k, g2, cap, hk, hkl, hv, rfl⟩
    · have HK := hide hk
      clear hk
      go_wp2_with fail
      go_ret
      exact ⟨hwc, .inl ⟨HK.out, rfl⟩⟩
    · have HK := hide hk
      have HV := hide hv
      clear hk hv
      go_wp2_with fail
      go_ret
      exact ⟨hwc, .inr ⟨k, g2, cap, HK.out, hkl, HV.out, rfl⟩⟩

/-- A row's cells where they lie. -/
theorem TBv.row {base : Nat} {W : World} {b : Nat} {lim cnt trn : Int} {vs : List Value} {ls : Nat → List Rw} (h : TBv base W b lim cnt trn vs ls) (i : Nat) (hi : i < 256) {g cap k : Nat} (hv : vs[i]?.getD undef = .slice (some ⟨g, 0, none⟩) (ls i).length cap) (hk : k < (ls i).length) : ∀ j, j < 8 → W.cell? ⟨g, k * 8 + j, none⟩ = (rwc (ls i)[k])[j]? := by
  have hO := ownR_rd (h.2.2.2.1 i hi)
  rw [hv] at hO
  obtain ⟨b', off, cp, e, _, _, _, hc⟩ := hO.cells (by omega)
  simp at e
  obtain ⟨⟨rfl, rfl⟩, rfl⟩ := e
  intro j hj
  have := hc k hk j hj
  rwa [Nat.zero_add] at this

def gtv (p s d a b : Int) (ls : Nat → List Rw) : Value := match kx p s d a b ls with | none => .tuple #[.int .i64 0, .int .i64 0, .bool false] | some k => match (ls (bki p s d a b))[k]? with | some r => .tuple #[.int .i64 r.id, .int .i64 r.till, .bool true] | none => undef

set_option maxHeartbeats 4000000 in
theorem get_any (base bt : Nat) (lim cnt trn : Int) (ls : Nat → List Rw) (p s d a b : Int) (w : World) (hT : TB base w bt lim cnt trn ls) (hs : 0 ≤ s ∧ s ≤ 4294967295) (hd : 0 ≤ d ∧ d ≤ 4294967295) (ha : 0 ≤ a ∧ a ≤ 65535) (hb : 0 ≤ b ∧ b ≤ 65535) :
    Calls Try.prog 13 #[.pointer (some ⟨bt, 0, none⟩), .agg #[.int .u8 p, .int .u32 s, .int .u32 d, .int .u16 a, .int .u16 b]] w fun e w' => Below w.heap.size w w' ∧ e = .returned (gtv p s d a b ls) := by
  obtain ⟨vs, hT⟩ := hT
  have hb0 : Below w.heap.size w (w.alloc (.cells #[.int .u8 p, .int .u32 s, .int .u32 d, .int .u16 a, .int .u16 b] 26)) := (Below.refl _ _).alloc (Nat.le_refl _) _
  go_enter Try.func13, Try.ntmps13
  go_wp2_with fail
  generalize w.alloc (.cells #[.int .u8 p, .int .u32 s, .int .u32 d, .int .u16 a, .int .u16 b] 26) = w0 at *
  have lw : Later w w0 := hb0
  refine (tfind_any base bt lim cnt trn vs ls p s d a b w0 (hT.later lw) hs hd ha hb).mono ?_
  rintro e w1 ⟨hb1, ⟨hk, rfl⟩ | ⟨k, g2, cap, hk, hkl, hv, rfl⟩⟩
  · have l1 : Later w0 w1 := hb1
    have hw1 := hb0.trans (hb1.mono hb0.size)
    have HG : Hid (gtv p s d a b ls = .tuple #[.int .i64 0, .int .i64 0, .bool false]) := by show _ = _; unfold gtv; rw [hk]
    clear hk
    go_wp2_with fail
    exact bodyPost_ret (v := .tuple #[.int .i64 0, .int .i64 0, .bool false]) (by simp [results, Try.results13, go_sem]) rfl ⟨hw1, by rw [HG.out]⟩
  · have l1 : Later w0 w1 := hb1
    have hw1 := hb0.trans (hb1.mono hb0.size)
    have hT1 := hT.later (lw.trans l1)
    have hrow := hT1.row _ (bki_lt p s d a b) hv hkl
    have c5 := hrow 5 (by omega)
    have c6 := hrow 6 (by omega)
    have HG : Hid (gtv p s d a b ls = .tuple #[.int .i64 (ls (bki p s d a b))[k].id, .int .i64 (ls (bki p s d a b))[k].till, .bool true]) := by show _ = _; unfold gtv; rw [hk]; simp [hkl]
    clear hk hrow hv
    generalize (ls (bki p s d a b))[k] = r at *
    simp only [rwc, List.getElem?_cons_zero, List.getElem?_cons_succ] at c5 c6
    go_upto_region 6 with fail
    refine anyR_begin (R := Later) Later.pre Later.drew 11 rfl (by kernel_rfl) (fun V1 hV1 => ?_)
    have q5 : ∀ v1, Later V1 v1 → v1.cell? ⟨g2, k * 8 + 5, none⟩ = some (.int .i64 r.id) := fun v1 h => (hV1.trans h).cell c5
    have q6 : ∀ v1, Later V1 v1 → v1.cell? ⟨g2, k * 8 + 6, none⟩ = some (.int .i64 r.till) := fun v1 h => (hV1.trans h).cell c6
    clear c5 c6
    refine anyR_val Later.pre 0 rfl (by kernel_rfl) (by kernel_rfl) (by kernel_rfl) (fun _ _ _ _ h => h) rfl ?_; apply Exists.intro; refine ⟨fun w1 hw1 => ?_, ?_⟩; (· (go_simp; rfl)); simp only [Act.put, List.setIfInBounds_toArray, List.set_cons_zero, List.set_cons_succ]
    refine anyR_val Later.pre 1 rfl (by kernel_rfl) (by kernel_rfl) (by kernel_rfl) (fun _ _ _ _ h => h) rfl ?_; apply Exists.intro; refine ⟨fun w1 hw1 => ?_, ?_⟩; (· (go_simp; rfl)); simp only [Act.put, List.setIfInBounds_toArray, List.set_cons_zero, List.set_cons_succ]
    refine anyR_val Later.pre 2 rfl (by kernel_rfl) (by kernel_rfl) (by kernel_rfl) (fun _ _ _ _ h => h) rfl ?_; apply Exists.intro; refine ⟨fun w1 hw1 => ?_, ?_⟩; (· (go_simp; rfl)); simp only [Act.put, List.setIfInBounds_toArray, List.set_cons_zero, List.set_cons_succ]
    refine anyR_val Later.pre 3 rfl (by kernel_rfl) (by kernel_rfl) (by kernel_rfl) (fun _ _ _ _ h => h) rfl ?_; apply Exists.intro; refine ⟨fun w1 hw1 => ?_, ?_⟩; (· (go_simp; rfl)); simp only [Act.put, List.setIfInBounds_toArray, List.set_cons_zero, List.set_cons_succ]
    refine anyR_val Later.pre 4 rfl (by kernel_rfl) (by kernel_rfl) (by kernel_rfl) (fun _ _ _ _ h => h) rfl ?_; apply Exists.intro; refine ⟨fun w1 hw1 => ?_, ?_⟩; (· (go_simp; rfl)); simp only [Act.put, List.setIfInBounds_toArray, List.set_cons_zero, List.set_cons_succ]
    refine anyR_val Later.pre 5 rfl (by kernel_rfl) (by kernel_rfl) (by kernel_rfl) (fun _ _ _ _ h => h) rfl ?_; apply Exists.intro; refine ⟨fun w1 hw1 => ?_, ?_⟩; (· (go_simp; rfl)); simp only [Act.put, List.setIfInBounds_toArray, List.set_cons_zero, List.set_cons_succ]
    refine anyR_val Later.pre 6 rfl (by kernel_rfl) (by kernel_rfl) (by kernel_rfl) (fun _ _ _ _ h => h) rfl ?_; apply Exists.intro; refine ⟨fun w1 hw1 => ?_, ?_⟩; (· (go_simp; rfl)); simp only [Act.put, List.setIfInBounds_toArray, List.set_cons_zero, List.set_cons_succ]
    refine anyR_val Later.pre 7 rfl (by kernel_rfl) (by kernel_rfl) (by kernel_rfl) (fun _ _ _ _ h => h) rfl ?_; apply Exists.intro; refine ⟨fun w1 hw1 => ?_, ?_⟩; (· (go_simp; rfl)); simp only [Act.put, List.setIfInBounds_toArray, List.set_cons_zero, List.set_cons_succ]
    refine anyR_val Later.pre 8 rfl (by kernel_rfl) (by kernel_rfl) (by kernel_rfl) (fun _ _ _ _ h => h) rfl ?_; apply Exists.intro; refine ⟨fun w1 hw1 => ?_, ?_⟩; (· (go_simp; rfl)); simp only [Act.put, List.setIfInBounds_toArray, List.set_cons_zero, List.set_cons_succ]
    refine anyR_val Later.pre 9 rfl (by kernel_rfl) (by kernel_rfl) (by kernel_rfl) (fun _ _ _ _ h => h) rfl ?_; apply Exists.intro; refine ⟨fun w1 hw1 => ?_, ?_⟩; (· (go_simp; rfl)); simp only [Act.put, List.setIfInBounds_toArray, List.set_cons_zero, List.set_cons_succ]
    refine anyR_val Later.pre 10 rfl (by kernel_rfl) (by kernel_rfl) (by kernel_rfl) (fun _ _ _ _ h => h) rfl ?_; apply Exists.intro; refine ⟨fun w1 hw1 => ?_, ?_⟩; (· (go_simp; rfl)); simp only [Act.put, List.setIfInBounds_toArray, List.set_cons_zero, List.set_cons_succ]
    refine anyR_done (by kernel_rfl) (fun V2 hV2 => ?_)
    have hw2 := hw1.trans ((hV1.trans hV2).mono hw1.size)
    clear q5 q6
    go_wp2_with fail
    exact bodyPost_ret (v := .tuple #[.int .i64 r.id, .int .i64 r.till, .bool true]) (by simp [results, Try.results13, go_sem]) rfl ⟨hw2, by rw [HG.out]⟩

set_option maxHeartbeats 2000000 in
theorem turn_any (base bt : Nat) (lim cnt trn : Int) (vs : List Value) (ls : Nat → List Rw) (w : World) (hT : TBv base w bt lim cnt trn vs ls) (htr : 0 ≤ trn ∧ trn ≤ 1000000) :
    Calls Try.prog 36 #[.pointer (some ⟨bt, 0, none⟩)] w fun e w' => e = .returned (.int .i64 (trn + 1)) ∧ But (fun g => g = bt) w w' ∧ TBv base w' bt lim cnt (trn + 1) vs ls := by
  have hh := hT.2.2.1
  have k2 : w.cell? ⟨bt, 2, none⟩ = some (.int .i64 trn) := by rw [block_cell hh]; rfl
  have f2 := block_frozen hh 2
  have hst := heap_set1 hh 2 (.int .i64 (trn + 1))
  have hbs : But (fun g => g = bt) w (w.setCell ⟨bt, 2, none⟩ (.int .i64 (trn + 1))) := (But.refl (fun g => g = bt) _).setCell (p := ⟨bt, 2, none⟩) rfl _
  have hT2 : TBv base (w.setCell ⟨bt, 2, none⟩ (.int .i64 (trn + 1))) bt lim cnt (trn + 1) vs ls := by
    refine ⟨hT.1, hT.2.1, by simpa using hst, fun i hi => ?_, hT.2.2.2.2⟩
    obtain ⟨h1, h2 | ⟨g, cap, cur, hv, hg, hh2, r⟩⟩ := hT.2.2.2.1 i hi
    · exact ⟨h1, .inl h2⟩
    · have hne : g ≠ bt := fun e => by subst e; rw [hh2] at hh; simp at hh
      exact ⟨h1, .inr ⟨g, cap, cur, hv, hg, (hbs.block g (Array.getElem?_eq_some_iff.1 hh2).1 hne).trans hh2, r⟩⟩
  have k3 : (w.setCell ⟨bt, 2, none⟩ (.int .i64 (trn + 1))).cell? ⟨bt, 2, none⟩ = some (.int .i64 (trn + 1)) := by rw [block_cell hT2.2.2.1]; rfl
  have HT2 := hide hT2
  have HB := hide hbs
  clear hT2 hbs hst hT hh
  go_enter Try.func36, Try.ntmps36
  go_wp2_with fail
  go_ret
  exact ⟨rfl, HB.out, HT2.out⟩

def mayb (till : Int) : Bool := decide (0 ≤ till ∧ till ≤ 1099511627776)
set_option maxHeartbeats 1000000 in
theorem mayBe_any (till : Int) (w : World) : Calls Try.prog 32 #[.int .i64 till] w fun e w' => e = .returned (.bool (mayb till)) ∧ w' = w := by
  by_cases h1 : 0 ≤ till
  · by_cases h2 : till ≤ 1099511627776
    · have HM : Hid (mayb till = true) := by show _ = _; unfold mayb; exact decide_eq_true ⟨h1, h2⟩
      go_enter Try.func32, Try.ntmps32
      go_wp2_with fail
      go_ret
      exact ⟨by rw [HM.out]; simp [h1, h2], rfl⟩
    · have HM : Hid (mayb till = false) := by show _ = _; unfold mayb; exact decide_eq_false (fun h => h2 h.2)
      go_enter Try.func32, Try.ntmps32
      go_wp2_with fail
      go_ret
      exact ⟨by rw [HM.out]; simp [h1, h2], rfl⟩
  · have HM : Hid (mayb till = false) := by show _ = _; unfold mayb; exact decide_eq_false (fun h => h1 h.1)
    have h1' : ¬ 0 ≤ till := h1
    go_enter Try.func32, Try.ntmps32
    go_wp2_with fail
    go_ret
    exact ⟨by rw [HM.out]; simp [h1'], rfl⟩

set_option maxHeartbeats 1000000 in
theorem len_any (base bt : Nat) (lim cnt trn : Int) (ls : Nat → List Rw) (w : World) (hT : TB base w bt lim cnt trn ls) : Calls Try.prog 15 #[.pointer (some ⟨bt, 0, none⟩)] w fun e w' => e = .returned (.int .i64 cnt) ∧ Below w.heap.size w w' := by
  obtain ⟨vs, hT⟩ := hT
  have k1 : w.cell? ⟨bt, 1, none⟩ = some (.int .i64 cnt) := by rw [block_cell hT.2.2.1]; rfl
  go_enter Try.func15, Try.ntmps15
  go_wp2_with fail
  go_ret
  exact ⟨rfl, Below.refl _ _⟩
end Go.Proofs.Ytahphjindjlcpaa
