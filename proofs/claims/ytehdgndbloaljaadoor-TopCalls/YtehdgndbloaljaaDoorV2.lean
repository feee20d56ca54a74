/- Package ipv4: a packet's header. -/
import Derived.RegionTactic
import Derived.BigRegion
import Derived.Deep.RegionLaw
import Derived.Test.YtehdgndbloaljaaDoorV1
namespace Go.Proofs.YtehdgndbloaljaaDoor
open Go.RowKit Go.Shelf
set_option maxRecDepth 100000

/-- append(v, x...), v of the call's own, x bytes wherever they lie: what it yields. -/
theorem run_app {P : Program} (w : World) (t ty e : TypeId) (base : Nat) (i : TypeInfo) (ht : P.underlying t = some (.slice e)) (hi : P.info? e = some i) (hz : i.zero = some (.int .u8 0)) (hsize : i.size = 1) (hby : i.bytes = 1)
    (v : Value) (ys : List Int) (hown : w.ownsRow base e 1 v ys.length (ys.map (Value.int .u8)))
    (n₀ : Nat) (sx : Value) (zs : List Int) (hI : Rd n₀ w sx zs) (hbd : ys.length + zs.length ≤ 140737488355328) (hbase : base ≤ w.heap.size) :
    ∃ v' w', (Builtin.append_ #[t, t] ty #[v, sx]).run P w = .ok v' w' ∧ w'.ownsRow base e 1 v' (ys ++ zs).length ((ys ++ zs).map (Value.int .u8)) ∧ w.grownBy w' v.ownBlock := by
  rcases hI with ⟨ao, cap, rfl, rfl, hm, hn⟩ | ⟨b, off, cap, rfl, hne, hl, hm, hb, hc⟩
  · cases ao with
    | none =>
      obtain rfl := hn rfl
      exact ⟨v, w, run_append_owned_none w base t ty e i 1 ht hi v _ _ hown, by simpa using hown, ⟨rfl, rfl, rfl, Nat.le_refl _, fun _ _ _ => rfl⟩⟩
    | some ad =>
      obtain ⟨v', w', hr, h2, h3, _⟩ := run_append_own (P := P) w base t ty e i (.int .u8 0) 1 1 ht hi hz hsize hby rfl (by decide) v _ _ hown ad 0 cap [] rfl (fun j u hj => by simp at hj) (fun u hu => by simp at hu) (by unfold maxLen; omega) (by omega) hbase
      exact ⟨v', w', hr, by simpa using h2, h3⟩
  · obtain ⟨v', w', hr, h2, h3, _⟩ := run_append_own (P := P) w base t ty e i (.int .u8 0) 1 1 ht hi hz hsize hby rfl (by decide) v _ _ hown ⟨b, off, none⟩ zs.length cap (zs.map (Value.int .u8)) (by simp)
      (fun j u hj => by
        have hj' : j < zs.length := by have := (List.getElem?_eq_some_iff.1 hj).1; simpa using this
        rw [show (⟨b, off, none⟩ : Addr).add j = ⟨b, off + j, none⟩ from by unfold Addr.add; split <;> simp_all, hc j hj', ← hj]
        simp [hj'])
      (fun u hu => by obtain ⟨z, _, rfl⟩ := List.mem_map.1 hu; rfl) (by unfold maxLen; omega) (by omega) hbase
    exact ⟨v', w', hr, by simpa using h2, h3⟩

/-- append as one step of a region that draws, by what it yields. -/
theorem step_run {P : Program} {ops : Array Oper} {o : Oper} {a : Act} {w : World} {K : Act → World → Prop} {Q : Exit → Act → World → Prop} {E : Prop}
    (hg : o.guard = none) (s x : Operand) (t : TypeId) (hop : o.op = Op.call { callee := Callee.builtin Builtin.append, args := #[s, x], argTypes := #[t, t] })
    (v sx : Value) (hs : a.eval s = v) (hx : a.eval x = sx) (v' : Value) (w' : World) (hrun : (Builtin.append_ #[t, t] o.type #[v, sx]).run P w = .ok v' w') (hK : K (a.put o.dst v') w') :
    if Region.wanted o (yielded ops a.tmps) = true then Oper.wp P o a w K Q else E := by
  have hw : Region.wanted o (yielded ops a.tmps) = true := by simp [Region.wanted, hg]
  rw [if_pos hw]
  unfold Oper.wp
  simp [execOp, hop, resolve, invoke, builtin, hs, hx, hrun, Result.andThen]
  exact hK

theorem or64 (x : Int) (h0 : 0 ≤ x) (h1 : x ≤ 15) : bits .or .i64 64 x = 64 + x := by
  have : x = 0 ∨ x = 1 ∨ x = 2 ∨ x = 3 ∨ x = 4 ∨ x = 5 ∨ x = 6 ∨ x = 7 ∨ x = 8 ∨ x = 9 ∨ x = 10 ∨ x = 11 ∨ x = 12 ∨ x = 13 ∨ x = 14 ∨ x = 15 := by omega
  rcases this with rfl | rfl | rfl | rfl | rfl | rfl | rfl | rfl | rfl | rfl | rfl | rfl | rfl | rfl | rfl | rfl <;> decide +kernel

/-- Four bytes stored, one behind the other. -/
theorem sets4 {base : Nat} {w4 : World} {g n cap : Nat} {l0 : List Int} (hO : Ow base w4 (.slice (some ⟨g, 0, none⟩) n cap) l0) (hl : 9 < l0.length) (x0 x1 x8 x9 : Int) :
    Ow base ((((w4.setCell ⟨g, 0, none⟩ (.int .u8 x0)).setCell ⟨g, 1, none⟩ (.int .u8 x1)).setCell ⟨g, 8, none⟩ (.int .u8 x8)).setCell ⟨g, 9, none⟩ (.int .u8 x9)).drew (.slice (some ⟨g, 0, none⟩) n cap) ((((l0.set 0 x0).set 1 x1).set 8 x8).set 9 x9) ∧
    Below base w4 ((((w4.setCell ⟨g, 0, none⟩ (.int .u8 x0)).setCell ⟨g, 1, none⟩ (.int .u8 x1)).setCell ⟨g, 8, none⟩ (.int .u8 x8)).setCell ⟨g, 9, none⟩ (.int .u8 x9)).drew := by
  obtain ⟨g0, e0, _, hb, _, h0⟩ := hO.at (by omega)
  cases e0
  obtain ⟨g1, e1, _, _, _, h1⟩ := (h0 0 x0 (by omega)).at (by simp; omega)
  cases e1
  obtain ⟨g2, e2, _, _, _, h2⟩ := (h1 1 x1 (by simp; omega)).at (by simp; omega)
  cases e2
  obtain ⟨g3, e3, _, _, _, h3⟩ := (h2 8 x8 (by simp; omega)).at (by simp; omega)
  cases e3
  have h4 := h3 9 x9 (by simp; omega)
  exact ⟨h4.drew 1, below_draw (((((Below.refl base w4).setCell (p := ⟨g, 0, none⟩) hb _).setCell (p := ⟨g, 1, none⟩) hb _).setCell (p := ⟨g, 8, none⟩) hb _).setCell (p := ⟨g, 9, none⟩) hb _) 1⟩

/-- A packet's header ahead of its check sum, and whole. -/
def hd1 (tos id : Int) (keep : Bool) (ttl proto src dst : Int) (l0 : List Int) (x0 all : Int) : List Int :=
  putAt4 (putAt4 (if keep then putAt2 (putAt2 (putAt2 ((((l0.set 0 x0).set 1 tos).set 8 ttl).set 9 proto) 2 all) 4 id) 6 16384 else putAt2 (putAt2 ((((l0.set 0 x0).set 1 tos).set 8 ttl).set 9 proto) 2 all) 4 id) 12 src) 16 dst
def hd0 (tos id : Int) (keep : Bool) (ttl proto src dst : Int) (zo : List Int) (all : Int) : List Int :=
  hd1 tos id keep ttl proto src dst (List.replicate 20 (0 : Int) ++ zo) (64 + (20 + (zo.length : Int)) / 4) all
def hdr (tos id : Int) (keep : Bool) (ttl proto src dst : Int) (zo : List Int) (all : Int) : List Int :=
  putAt2 (hd0 tos id keep ttl proto src dst zo all) 10 (Mt.cks (hd0 tos id keep ttl proto src dst zo all))
theorem hd0_length (tos id : Int) (keep : Bool) (ttl proto src dst : Int) (zo : List Int) (all : Int) : (hd0 tos id keep ttl proto src dst zo all).length = 20 + zo.length := by
  unfold hd0 hd1
  simp only [putAt4_length]
  split <;> simp only [putAt2_length, List.length_set, List.length_append, List.length_replicate]
theorem By_hd0 (tos id : Int) (keep : Bool) (ttl proto src dst : Int) (zo : List Int) (all : Int) (hO : Mt.By zo) (hl : zo.length ≤ 40) (ht : 0 ≤ tos ∧ tos ≤ 255) (hid : 0 ≤ id ∧ id ≤ 65535) (htt : 0 ≤ ttl ∧ ttl ≤ 255) (hpr : 0 ≤ proto ∧ proto ≤ 255) (hsr : 0 ≤ src ∧ src ≤ 4294967295) (hds : 0 ≤ dst ∧ dst ≤ 4294967295) (hal : 0 ≤ all ∧ all ≤ 65535) :
    Mt.By (hd0 tos id keep ttl proto src dst zo all) := by
  have hz : Mt.By (List.replicate 20 (0 : Int)) := fun z hz => by rw [(List.mem_replicate.1 hz).2]; omega
  have h1 := (((((hz.append hO).set 0 (v := 64 + (20 + (zo.length : Int)) / 4) (by omega)).set 1 ht).set 8 htt).set 9 hpr)
  have h2 := By_putAt2 (By_putAt2 h1 2 hal) 4 hid
  unfold hd0 hd1
  refine By_putAt4 (By_putAt4 ?_ 12 hsr) 16 hds
  cases keep
  · exact h2
  · exact By_putAt2 h2 6 (by omega)

theorem make20 (w : World) : (Instr.makeSlice 22 (.int .i64 20) (.int .i64 20)).run Tryd.prog w = .ok (.slice (some ⟨w.heap.size, 0, none⟩) 20 20) (w.alloc (.cells #[.int .u8 0, .int .u8 0, .int .u8 0, .int .u8 0, .int .u8 0, .int .u8 0, .int .u8 0, .int .u8 0, .int .u8 0, .int .u8 0, .int .u8 0, .int .u8 0, .int .u8 0, .int .u8 0, .int .u8 0, .int .u8 0, .int .u8 0, .int .u8 0, .int .u8 0, .int .u8 0] 5)) := by kernel_rfl
theorem own20 (w : World) : (w.alloc (.cells #[.int .u8 0, .int .u8 0, .int .u8 0, .int .u8 0, .int .u8 0, .int .u8 0, .int .u8 0, .int .u8 0, .int .u8 0, .int .u8 0, .int .u8 0, .int .u8 0, .int .u8 0, .int .u8 0, .int .u8 0, .int .u8 0, .int .u8 0, .int .u8 0, .int .u8 0, .int .u8 0] 5)).ownsRow w.heap.size 5 1 (.slice (some ⟨w.heap.size, 0, none⟩) 20 20) (List.replicate 20 (0 : Int)).length ((List.replicate 20 (0 : Int)).map (Value.int .u8)) :=
  ⟨by simp, .inr ⟨w.heap.size, 20, _, rfl, Nat.le_refl _, heap_alloc_new w _, Nat.le_refl _, by unfold maxLen; omega, rfl, rfl⟩⟩

end Go.Proofs.YtehdgndbloaljaaDoor