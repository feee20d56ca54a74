import Derived.OwnWalk
import Derived.Laws.OwnMore
import Derived.Laws.AppendOwnNone
import Derived.Test.YtofknbfbmaefoaaGreatDoorW5
namespace Go.Proofs.YtofknbfbmaefoaaGreatDoor
set_option maxHeartbeats 1000000
open Go.RowKit Go.Shelf
set_option maxRecDepth 100000
def Ow (base : Nat) (W : World) (sv : Value) (zs : List Int) : Prop :=
 (sv = .slice none 0 0 ∧ zs = []) ∨
 ∃ g cap cur, sv = .slice (some ⟨g, 0, none⟩) zs.length cap ∧ base ≤ g ∧ zs.length ≤ cap ∧ cap ≤ cur.size ∧ cap ≤ 9223372036854775807 ∧ W.heap[g]? = some (.cells cur 5 (0, 0)) ∧ cur.toList.take zs.length = zs.map (Value.int .u8)
theorem cur_at {cur : Array Value} {zs : List Int} (h : cur.toList.take zs.length = zs.map (Value.int .u8)) (j : Nat) (hj : j < zs.length) : cur[j]? = some (.int .u8 (zs[j]?.getD 0)) := by
 have h1 : (cur.toList.take zs.length)[j]? = some (.int .u8 (zs[j]?.getD 0)) := by rw [h]; simp [hj]
 rw [List.getElem?_take, if_pos hj] at h1
 simpa using h1
theorem block_cell {W : World} {g : Nat} {cur : Array Value} {e : TypeId} (h : W.heap[g]? = some (.cells cur e (0, 0))) (j : Nat) : W.cell? ⟨g, j, none⟩ = cur[j]? := by
 simp only [World.cell?, h]
 rfl
theorem block_frozen {W : World} {g : Nat} {cur : Array Value} {e : TypeId} (h : W.heap[g]? = some (.cells cur e (0, 0))) (j : Nat) : W.frozen? ⟨g, j, none⟩ = false := by
 simp [World.frozen?, h]
theorem Ow.rd {base : Nat} {W : World} {sv : Value} {zs : List Int} : Ow base W sv zs → Rd W.heap.size W sv zs
 | .inl ⟨e, hz⟩ => .inl ⟨none, 0, e, hz, by omega, fun _ => rfl⟩
 | .inr ⟨g, cap, cur, e, hb, hl, hs, hm, hh, hc⟩ => by
  have hg := (bl9 hh)
  by_cases h0 : zs = []
  ·subst h0
   exact .inl ⟨_, cap, e, rfl, hm, fun h => by cases h⟩
  ·refine .inr ⟨g, 0, cap, e, h0, hl, hm, hg, fun j hj => ?_⟩
   rw [Nat.zero_add, block_cell hh]
   exact cur_at hc j hj
theorem Ow.below {base n : Nat} {W W' : World} {sv : Value} {zs : List Int} (h : Ow base W sv zs) (hb : Below n W W') (hn : W.heap.size ≤ n) : Ow base W' sv zs := by
 rcases h with e | ⟨g, cap, cur, e, hg, hl, hs, hm, hh, hc⟩
 ·exact .inl e
 ·exact .inr ⟨g, cap, cur, e, hg, hl, hs, hm, (hb.block g (Nat.lt_of_lt_of_le (bl9 hh) hn)).trans hh, hc⟩
theorem Ow.mono {base base' : Nat} {W : World} {sv : Value} {zs : List Int} (h : Ow base W sv zs) (hb : base' ≤ base) : Ow base' W sv zs := by
 rcases h with e | ⟨g, cap, cur, e, hg, r⟩
 ·exact .inl e
 ·exact .inr ⟨g, cap, cur, e, Nat.le_trans hb hg, r⟩
theorem Ow.of_row {base n : Nat} {W : World} {v : Value} {zs : List Int} (h : W.ownsRow base 5 1 v n (zs.map (Value.int .u8))) : Ow base W v zs := by
 obtain ⟨hlen, h2⟩ := h
 obtain rfl : zs.length = n := by simpa using hlen
 rcases h2 with ⟨e, h0⟩ | ⟨g, cap, cur, e, hg, hh, hl, hm, hs, hc⟩
 ·exact .inl ⟨e, by simpa using h0⟩
 ·exact .inr ⟨g, cap, cur, e, hg, hl, by omega, by simpa [maxLen] using hm, hh, by simpa using hc⟩
theorem Ow.slice {base : Nat} {W : World} {sv : Value} {zs : List Int} (h : Ow base W sv zs) : ∃ a cap, sv = .slice a zs.length cap ∧ zs.length ≤ cap ∧ cap ≤ 9223372036854775807 := h.rd.slice
theorem Ow.at {base : Nat} {W : World} {a : Option Addr} {len cap : Nat} {zs : List Int} (h : Ow base W (.slice a len cap) zs) (hne : 0 < zs.length) : ∃ g, a = some ⟨g, 0, none⟩ ∧ len = zs.length ∧ base ≤ g ∧ (∀ j, j < zs.length → W.cell? ⟨g, j, none⟩ = some (.int .u8 (zs[j]?.getD 0)) ∧ W.frozen? ⟨g, j, none⟩ = false) ∧
  ∀ j v, j < zs.length → Ow base (W.setCell ⟨g, j, none⟩ (.int .u8 v)) (.slice a len cap) (zs.set j v) := by
 rcases h with ⟨e, hz⟩ | ⟨g, cap', cur, e, hg, hl, hs, hm, hh, hc⟩
 ·subst hz; simp at hne
 ·cases e
  refine ⟨g, rfl, rfl, hg, fun j hj => ⟨by rw [block_cell hh]; exact cur_at hc j hj, block_frozen hh j⟩, fun j v hj => .inr ⟨g, cap, cur.set! j (.int .u8 v), by simp, hg, by simpa using hl, by simpa using hs, hm, ?_, ?_⟩⟩
  ·obtain ⟨hlt, hk⟩ := Array.getElem?_eq_some_iff.1 hh
   show (W.heap.modify g _)[g]? = _
   rw [Array.getElem?_eq_getElem (by rw [Array.size_modify]; exact hlt), Array.getElem_modify_self, hk]
   simp
  ·simp only [Array.set!_eq_setIfInBounds, Array.toList_setIfInBounds, List.length_set, List.take_set, hc, List.map_set]
theorem Ow.cut {base : Nat} {W : World} {a : Option Addr} {len cap : Nat} {zs : List Int} (h : Ow base W (.slice a len cap) zs) : Ow base W (.slice a len len) zs := by
 rcases h with ⟨e, hz⟩ | ⟨g, cap', cur, e, hg, hl, hs, hm, hh, hc⟩
 ·cases e
  exact .inl ⟨rfl, hz⟩
 ·cases e
  exact .inr ⟨g, zs.length, cur, rfl, hg, Nat.le_refl _, Nat.le_trans hl hs, Nat.le_trans hl hm, hh, hc⟩
section
variable {P : Program}
theorem wpList_app {ops : Array Oper} {rest : List Oper} {o : Oper} {a : Act} {Q : Exit → Act → World → Prop} (w : World) (hgd : o.guard = none) (s x : Operand) (t : TypeId)
  (ho : o.op = .call { callee := .builtin .append, args := #[s, x], argTypes := #[t, t] })
  (base : Nat) (e : TypeId) (i : TypeInfo) (ht : P.underlying t = some (.slice e)) (hi : P.info? e = some i) (hz : i.zero = some (.int .u8 0)) (hsize : i.size = 1) (hby : i.bytes = 1)
  (v : Value) (ys : List Int) (hs : a.eval s = v) (hown : w.ownsRow base e 1 v ys.length (ys.map (Value.int .u8)))
  (n₀ : Nat) (sx : Value) (zs : List Int) (hx : a.eval x = sx) (hI : Rd n₀ w sx zs) (hbd : ys.length + zs.length ≤ 140737488355328) (hbase : base ≤ w.heap.size)
  (h : ∀ v' w', w'.ownsRow base e 1 v' (ys ++ zs).length ((ys ++ zs).map (Value.int .u8)) → w.grownBy w' v.ownBlock → wpList P ops Q rest (a.put o.dst v') w') : wpList P ops Q (o :: rest) a w := by
 rcases hI with ⟨ao, cap, rfl, rfl, hm, hn⟩ | ⟨b, off, cap, rfl, hne, hl, hm, hb, hc⟩
 ·cases ao with
  | none =>
   obtain rfl := hn rfl
   refine wpList_append_own_none hgd s x t ho base e i 1 ht hi v _ _ hs hown hx (h v w (by simpa using hown) ⟨rfl, rfl, rfl, Nat.le_refl _, fun _ _ _ => rfl⟩)
  | some ad =>
   refine wpList_append_own w hgd s x t ho base e i (.int .u8 0) 1 1 ht hi hz hsize hby rfl (by decide) v _ _ hs hown ad 0 cap [] hx rfl (fun j u hj => by simp at hj) (fun u hu => by simp at hu) (by unfold maxLen; omega) (by omega) hbase ?_
   intro v' w' hown' hg _
   exact h v' w' (by simpa using hown') hg
 ·refine wpList_append_own w hgd s x t ho base e i (.int .u8 0) 1 1 ht hi hz hsize hby rfl (by decide) v _ _ hs hown ⟨b, off, none⟩ zs.length cap (zs.map (Value.int .u8)) hx (by simp) ?_ ?_ (by unfold maxLen; omega) (by omega) hbase ?_
  ·intro j u hj
   have hj' : j < zs.length := by have := (List.getElem?_eq_some_iff.1 hj).1; simpa using this
   rw [show (⟨b, off, none⟩ : Addr).add j = ⟨b, off + j, none⟩ from by unfold Addr.add; split <;> simp_all, hc j hj', ← hj]
   simp [hj']
  ·intro u hu
   obtain ⟨z, _, rfl⟩ := List.mem_map.1 hu
   rfl
  ·intro v' w' hown' hg _
   exact h v' w' (by simpa using hown') hg
end
theorem below_app {B base n size : Nat} {e : TypeId} {a W W' : World} {v : Value} {xs : List Value} (hb : Below B a W) (ho : W.ownsRow base e size v n xs) (hg : W.grownBy W' v.ownBlock) (h1 : B ≤ base) (h2 : B ≤ W.heap.size) : Below B a W' :=
 hb.grown hg h2 (fun k e => Nat.le_trans h1 (ho.lt k e).1)
theorem Ow.grown {base : Nat} {row : Option Nat} {W W' : World} {sv : Value} {zs : List Int} (h : Ow base W sv zs) (hg : W.grownBy W' row) (hr : ∀ k, row = some k → k < base) : Ow base W' sv zs := by
 rcases h with e | ⟨g, cap, cur, e, hb, hl, hs, hm, hh, hc⟩
 ·exact .inl e
 ·exact .inr ⟨g, cap, cur, e, hb, hl, hs, hm, (hg.block g (bl9 hh) (fun e => by have := hr g e.symm; omega)).trans hh, hc⟩
theorem own_made {W : World} {base n : Nat} {e : TypeId} {v : Value} (h : W.ownsRow base e 1 v n (madeCells (Value.int .u8 0).cells (n * 1)).toList) : W.ownsRow base e 1 v (List.replicate n (0 : Int)).length ((List.replicate n (0 : Int)).map (Value.int .u8)) := by
 rw [show (Value.int .u8 0).cells = #[Value.int .u8 0] from rfl, toList_madeCells_one, Nat.mul_one] at h
 rw [List.length_replicate, List.map_replicate]
 exact h
theorem own_empty (w : World) (e : TypeId) : (w.alloc (.cells #[] e)).ownsRow w.heap.size e 1 (.slice (some ⟨w.heap.size, 0, none⟩) 0 0) ([] : List Int).length (([] : List Int).map (Value.int .u8)) :=
 World.ownsRow_made w #[] 0 (Nat.le_refl _) (by simp) rfl
theorem clone_any (sv : Value) (zs : List Int) (w : World) (hl : zs.length ≤ 140737488355328) (hI : Rd w.heap.size w sv zs) :
  Calls Tryz.prog 85 #[sv] w fun e w' => ∃ a, e = .returned (.slice a zs.length zs.length) ∧ Ow w.heap.size w' (.slice a zs.length zs.length) zs ∧ Below w.heap.size w w' := by
 obtain ⟨i0, hi, hz0, hz1, hz2⟩ := info_parts info_u8
 obtain ⟨a, cap, rfl, hl1, hm⟩ := hI.slice
 go_enter Tryz.func85, Tryz.ntmps85
 go_wp2_with (at_builtin; refine wpList_app _ rfl _ _ 31 rfl w.heap.size 5 i0 Tryz.underlying31 hi hz0 hz1 hz2 _ [] rfl (World.ownsRow_nil _ _ _ _) w.heap.size _ zs rfl hI ?c1 ?c2 ?_)
 case c1 => simp; omega
 case c2 => exact Nat.le_refl _
 intro v' w1 hown hgrow
 have hOw := Ow.of_row hown
 have hB1 : Below w.heap.size w w1 := (Below.refl _ w).grown hgrow (Nat.le_refl _) (fun j e => by cases e)
 obtain ⟨a1, cap1, rfl, hl2, hm2⟩ := hOw.slice
 have hcut := hOw.cut
 clear hown hgrow hOw hI
 go_wp2
 go_ret
 exact ⟨_, rfl, hcut, hB1⟩
theorem set16_any (g off len cap : Nat) (p : Nat) (v : Int) (x y : Value) (w : World) (hl : len ≤ 9223372036854775807) (h1 : p + 1 < len) (hv : 0 ≤ v ∧ v ≤ 65535)
  (hc0 : w.cell? ⟨g, off + p, none⟩ = some x) (hc1 : w.cell? ⟨g, off + (p + 1), none⟩ = some y) (hf0 : w.frozen? ⟨g, off + p, none⟩ = false) (hf1 : w.frozen? ⟨g, off + (p + 1), none⟩ = false) :
  Calls Tryz.prog 87 #[.slice (some ⟨g, off, none⟩) len cap, .int .i64 p, .int .u16 v] w fun e w' => e = .returned (.tuple #[]) ∧ w' = (w.setCell ⟨g, off + p, none⟩ (.int .u8 (v / 256))).setCell ⟨g, off + (p + 1), none⟩ (.int .u8 (v % 256)) := by
 have hi1 : (p : Int) < len := by omega
 have hi2 : (p : Int) + 1 < len := by omega
 go_enter Tryz.func87, Tryz.ntmps87
 go_wp2
 go_end0
 exact ⟨rfl, rfl⟩
theorem set16_ow (base : Nat) (a : Option Addr) (len cap : Nat) (zs : List Int) (p : Nat) (v : Int) (w : World) (hO : Ow base w (.slice a len cap) zs) (h1 : p + 1 < zs.length) (hv : 0 ≤ v ∧ v ≤ 65535) :
  Calls Tryz.prog 87 #[.slice a len cap, .int .i64 p, .int .u16 v] w fun e w' => e = .returned (.tuple #[]) ∧ Ow base w' (.slice a len cap) (Mt.put2 zs p v) ∧ Below base w w' := by
 obtain ⟨a', cap', e', hl1, hm⟩ := hO.slice
 obtain ⟨g, rfl, rfl, hg, hcf, hset⟩ := hO.at (by omega)
 obtain ⟨c0, f0⟩ := hcf p (by omega)
 obtain ⟨c1, f1⟩ := hcf (p + 1) (by omega)
 have hs1 := hset p (v / 256) (by omega)
 cases e'
 refine (set16_any g 0 zs.length cap p v _ _ w (by omega) h1 hv (by rw [Nat.zero_add]; exact c0) (by rw [Nat.zero_add]; exact c1) (by rw [Nat.zero_add]; exact f0) (by rw [Nat.zero_add]; exact f1)).mono ?_
 rintro e w' ⟨rfl, rfl⟩
 rw [Nat.zero_add, Nat.zero_add]
 obtain ⟨g', hg1, _, _, _, hset2⟩ := hs1.at (by simp; omega)
 cases hg1
 refine ⟨rfl, ?_, ((Below.refl _ _).setCell (p := ⟨g, p, none⟩) hg _).setCell (p := ⟨g, p + 1, none⟩) hg _⟩
 have := hset2 (p + 1) (v % 256) (by simpa using h1)
 simpa [Mt.put2] using this
def put4 (zs : List Int) (k : Nat) (v : Int) : List Int := Mt.put2 (Mt.put2 zs k (v / 65536)) (k + 2) (v % 65536)
theorem put4_length (zs : List Int) (k : Nat) (v : Int) : (put4 zs k v).length = zs.length := by simp [put4, Mt.put2_length]
theorem By_put4 {zs : List Int} (h : Mt.By zs) (k : Nat) {v : Int} (hv : 0 ≤ v ∧ v ≤ 4294967295) : Mt.By (put4 zs k v) := (h.put2 k (by omega)).put2 (k + 2) (by omega)
theorem set32_ow (base : Nat) (a : Option Addr) (len cap : Nat) (zs : List Int) (p : Nat) (v : Int) (w : World) (hO : Ow base w (.slice a len cap) zs) (h1 : p + 3 < zs.length) (hv : 0 ≤ v ∧ v ≤ 4294967295) :
  Calls Tryz.prog 144 #[.slice a len cap, .int .i64 p, .int .u32 v] w fun e w' => e = .returned (.tuple #[]) ∧ Ow base w' (.slice a len cap) (put4 zs p v) ∧ Below base w w' := by
 obtain ⟨a', cap', e', hl1, hm⟩ := hO.slice
 cases e'
 have hp : p ≤ 9223372036854775803 := by omega
 go_enter Tryz.func144, Tryz.ntmps144
 go_wp2_with fail
 refine (set16_ow base a zs.length cap zs p (v / 65536) w hO (by omega) (by omega)).mono ?_
 rintro e w1 ⟨rfl, hO1, hb1⟩
 go_wp2_with fail
 rw [IntKind.wrap_u16, show ((p : Int) + 2) = ((p + 2 : Nat) : Int) from by omega]
 refine (set16_ow base a zs.length cap _ (p + 2) (v % 65536) w1 hO1 (by rw [Mt.put2_length]; omega) (by omega)).mono ?_
 rintro e w2 ⟨rfl, hO2, hb2⟩
 go_wp2
 go_end0
 exact ⟨rfl, hO2, hb1.trans hb2⟩
def putAt2 (zs : List Int) (p : Int) (v : Int) : List Int := if 0 ≤ p ∧ p + 2 ≤ zs.length then Mt.put2 zs p.toNat v else zs
def putAt4 (zs : List Int) (p : Int) (v : Int) : List Int := if 0 ≤ p ∧ p + 4 ≤ zs.length then put4 zs p.toNat v else zs
theorem putAt2_length (zs : List Int) (p v : Int) : (putAt2 zs p v).length = zs.length := by unfold putAt2; split <;> simp [Mt.put2_length]
theorem putAt4_length (zs : List Int) (p v : Int) : (putAt4 zs p v).length = zs.length := by unfold putAt4; split <;> simp [put4_length]
theorem By_putAt2 {zs : List Int} (h : Mt.By zs) (p : Int) {v : Int} (hv : 0 ≤ v ∧ v ≤ 65535) : Mt.By (putAt2 zs p v) := by unfold putAt2; split; exact h.put2 _ hv; exact h
theorem By_putAt4 {zs : List Int} (h : Mt.By zs) (p : Int) {v : Int} (hv : 0 ≤ v ∧ v ≤ 4294967295) : Mt.By (putAt4 zs p v) := by unfold putAt4; split; exact By_put4 h _ hv; exact h
theorem put16_any (sv : Value) (zs : List Int) (p v : Int) (w : World) (hl : zs.length ≤ 140737488355328) (hI : Rd w.heap.size w sv zs) (hv : 0 ≤ v ∧ v ≤ 65535) :
  Calls Tryz.prog 40 #[sv, .int .i64 p, .int .u16 v] w fun e w' => ∃ a, e = .returned (.slice a zs.length zs.length) ∧ Ow w.heap.size w' (.slice a zs.length zs.length) (putAt2 zs p v) ∧ Below w.heap.size w w' := by
 obtain ⟨a, cap, rfl, hl1, hm⟩ := hI.slice
 by_cases hp : 0 ≤ p ∧ p + 2 ≤ zs.length
 ·have HP : Hid (putAt2 zs p v = Mt.put2 zs p.toNat v) := by show _ = _; unfold putAt2; rw [if_pos hp]
  obtain ⟨n, rfl⟩ := Int.eq_ofNat_of_zero_le hp.1
  rw [Int.toNat_natCast] at HP
  have hp2 := hp.2
  clear hp
  go_enter Tryz.func40, Tryz.ntmps40
  go_wp2_with fail
  refine (clone_any _ zs w hl hI).mono ?_
  rintro e w1 ⟨a1, rfl, hO1, hb1⟩
  go_wp2_with fail
  refine (holds_yes _ _ _ _ _ _ (by omega) (by omega) (by omega) hp2).mono ?_
  rintro e w2 ⟨rfl, rfl⟩
  go_wp2_with fail
  refine (set16_ow w.heap.size a1 zs.length zs.length zs n v _ hO1 (by omega) hv).mono ?_
  rintro e w3 ⟨rfl, hO2, hb2⟩
  go_wp2
  go_ret
  exact ⟨_, rfl, by rw [HP.out]; exact hO2, hb1.trans hb2⟩
 ·have HP : Hid (putAt2 zs p v = zs) := by show _ = _; unfold putAt2; rw [if_neg hp]
  have hp' : p < 0 ∨ (zs.length : Int) < p + 2 := by omega
  clear hp
  go_enter Tryz.func40, Tryz.ntmps40
  go_wp2_with fail
  refine (clone_any _ zs w hl hI).mono ?_
  rintro e w1 ⟨a1, rfl, hO1, hb1⟩
  go_wp2_with fail
  refine (holds_no _ _ _ _ _ _ (by omega) (by omega) (by omega) hp').mono ?_
  rintro e w2 ⟨rfl, rfl⟩
  clear hp'
  go_wp2
  go_ret
  exact ⟨_, rfl, by rw [HP.out]; exact hO1, hb1⟩
theorem put32_any (sv : Value) (zs : List Int) (p v : Int) (w : World) (hl : zs.length ≤ 140737488355328) (hI : Rd w.heap.size w sv zs) (hv : 0 ≤ v ∧ v ≤ 4294967295) :
  Calls Tryz.prog 90 #[sv, .int .i64 p, .int .u32 v] w fun e w' => ∃ a, e = .returned (.slice a zs.length zs.length) ∧ Ow w.heap.size w' (.slice a zs.length zs.length) (putAt4 zs p v) ∧ Below w.heap.size w w' := by
 obtain ⟨a, cap, rfl, hl1, hm⟩ := hI.slice
 by_cases hp : 0 ≤ p ∧ p + 4 ≤ zs.length
 ·have HP : Hid (putAt4 zs p v = put4 zs p.toNat v) := by show _ = _; unfold putAt4; rw [if_pos hp]
  obtain ⟨n, rfl⟩ := Int.eq_ofNat_of_zero_le hp.1
  rw [Int.toNat_natCast] at HP
  have hp2 := hp.2
  clear hp
  go_enter Tryz.func90, Tryz.ntmps90
  go_wp2_with fail
  refine (clone_any _ zs w hl hI).mono ?_
  rintro e w1 ⟨a1, rfl, hO1, hb1⟩
  go_wp2_with fail
  refine (holds_yes _ _ _ _ _ _ (by omega) (by omega) (by omega) hp2).mono ?_
  rintro e w2 ⟨rfl, rfl⟩
  go_wp2_with fail
  refine (set32_ow w.heap.size a1 zs.length zs.length zs n v _ hO1 (by omega) hv).mono ?_
  rintro e w3 ⟨rfl, hO2, hb2⟩
  go_wp2
  go_ret
  exact ⟨_, rfl, by rw [HP.out]; exact hO2, hb1.trans hb2⟩
 ·have HP : Hid (putAt4 zs p v = zs) := by show _ = _; unfold putAt4; rw [if_neg hp]
  have hp' : p < 0 ∨ (zs.length : Int) < p + 4 := by omega
  clear hp
  go_enter Tryz.func90, Tryz.ntmps90
  go_wp2_with fail
  refine (clone_any _ zs w hl hI).mono ?_
  rintro e w1 ⟨a1, rfl, hO1, hb1⟩
  go_wp2_with fail
  refine (holds_no _ _ _ _ _ _ (by omega) (by omega) (by omega) hp').mono ?_
  rintro e w2 ⟨rfl, rfl⟩
  clear hp'
  go_wp2
  go_ret
  exact ⟨_, rfl, by rw [HP.out]; exact hO1, hb1⟩
end Go.Proofs.YtofknbfbmaefoaaGreatDoor
